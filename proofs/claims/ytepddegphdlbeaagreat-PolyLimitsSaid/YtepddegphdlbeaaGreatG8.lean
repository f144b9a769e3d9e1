/- What the theorem leans on, part G8. -/
import Derived.Test.YtepddegphdlbeaaGreatG7
import Derived.Test.YtepddegphdlbeaaGreatG6
import Derived.Test.YtepddegphdlbeaaGreatG4
import Derived.Test.YtepddegphdlbeaaGreatG3
import Derived.Test.YtepddegphdlbeaaGreatG2
import Derived.Test.YtepddegphdlbeaaGreatG1
import Derived.Test.YtepddegphdlbeaaGreatG0
import Derived.Test.YtepddegphdlbeaaGreatProg
import Derived.WalkKit
import Derived.WalkSpells
import Derived.WalkLawsBesides
import Derived.Lib.Hide
import Derived.Deep.QuietTactic
import Derived.BigQuiet
import Derived.Shelf.Small.Bits
import Derived.Shelf.Small.Wraps
import Derived.Shelf.Strconv.Itoa0
import Derived.Shelf.Bits.Mul64
import Derived.Ground.Names2Prog
import Derived.Shelf.Slices.SearchI
import Derived.Shelf.Spec.BitsCarry
import Derived.Deep.LoopGhost
import Derived.Deep.RegionHeld3
import Derived.Deep.DeepCutAuto
import Derived.Test.YtepddegphdlbeaaGreatG5
import Derived.Laws.AppendOwnNone
import Derived.Below
set_option maxRecDepth 100000
set_option maxHeartbeats 16000000
set_option linter.all false
namespace Go.Proofs.YtepddegphdlbeaaGreat
open Go.RowKit
theorem zvt {z : Int} (h : z.natAbs < Top) : vld (zb z) (zs z) = true := k'5s h
theorem sgzz (z : Int) : sg (zb z) (bv (zs z)) = z := by rw [bv_zs]; exact sg_z z
theorem k'bw (x y : Int) (w : World) (hx : x.natAbs < Top) (hy : y.natAbs < Top) (h : (x + y).natAbs < Top) :
 Calls Tryz.prog 120 #[Z x, Z y] w (Ret (.tuple #[Z (x + y), .int .i64 0]) w) := by
 have h1 := k'4b (zb x) (zb y) (zs x) (zs y) w (zvt hx) (zvt hy)
 have e : (pls (zb x) (bv (zs x)) (zb y) (bv (zs y))).2 = (x + y).natAbs := by
  rw [← k'9w (pls (zb x) (bv (zs x)) (zb y) (bv (zs y))).1 (pls (zb x) (bv (zs x)) (zb y) (bv (zs y))).2, k'9s, sgzz, sgzz]
 have ht : (pls (zb x) (bv (zs x)) (zb y) (bv (zs y))).2 < Top := by rw [e]; exact h
 unfold WPost at h1
 rw [k'3n _ ht, k'3o ht, wd_sg, k'9s, sgzz, sgzz] at h1
 exact h1
theorem k'bx (x y : Int) (w : World) (hx : x.natAbs < Top) (hy : y.natAbs < Top) (h : (x - y).natAbs < Top) :
 Calls Tryz.prog 121 #[Z x, Z y] w (Ret (.tuple #[Z (x - y), .int .i64 0]) w) := by
 have h1 := k'9p (zb x) (zb y) (zs x) (zs y) w (zvt hx) (zvt hy)
 have e : (pls (zb x) (bv (zs x)) (!(zb y)) (bv (zs y))).2 = (x - y).natAbs := by
  rw [← k'9w (pls (zb x) (bv (zs x)) (!(zb y)) (bv (zs y))).1 (pls (zb x) (bv (zs x)) (!(zb y)) (bv (zs y))).2, k'9s, k'9u, sgzz, sgzz, Int.sub_eq_add_neg]
 have ht : (pls (zb x) (bv (zs x)) (!(zb y)) (bv (zs y))).2 < Top := by rw [e]; exact h
 unfold WPost at h1
 rw [k'3n _ ht, k'3o ht, wd_sg, k'9s, k'9u, sgzz, sgzz, ← Int.sub_eq_add_neg] at h1
 exact h1
theorem k'by (x y : Int) (w : World) (hx : x.natAbs < Top) (hy : y.natAbs < Top) (h : (x * y).natAbs < Top) :
 Calls Tryz.prog 126 #[Z x, Z y] w (Ret (.tuple #[Z (x * y), .int .i64 0]) w) := by
 have h1 := k'4i (zb x) (zb y) (zs x) (zs y) w (zvt hx) (zvt hy)
 have ht : bv (zs x) * bv (zs y) < Top := by rw [bv_zs, bv_zs, ← Int.natAbs_mul]; exact h
 unfold WPost at h1
 rw [k'3n _ ht, k'3o ht, wd_sg, k'bp, sgzz, sgzz] at h1
 exact h1
theorem k'bz (x y : Int) (w : World) (hx : x.natAbs < Top) (hy : y.natAbs < Top) (h0 : y ≠ 0) :
 Calls Tryz.prog 144 #[Z x, Z y] w (Ret (.tuple #[Z (x / y), Z (x % y), .int .i64 0]) w) := by
 have h := quo_z (zvt hx) (zvt hy) (by rw [sgzz]; exact h0) w
 rw [sgzz, sgzz] at h
 exact h
theorem k'c0 (x : Int) (w : World) (hx : x.natAbs < Top) : Calls Tryz.prog 70 #[Z x] w (Ret (.int .i64 x.sign) w) := by
 have h := k'4k (zb x) (zs x) w (Nat.le_trans (k'41 (zvt hx)) (by decide))
 rw [k'9c (zvt hx), sgzz] at h
 exact h
end Go.Proofs.YtepddegphdlbeaaGreat
namespace Go.Proofs.YtepddegphdlbeaaGreat
namespace Pl
def cf (p : List Int) (k : Nat) : Int := p[k]?.getD 0
def ev : List Int → Int → Int
 | [], _ => 0
 | a :: p, x => a + x * ev p x
def trim : List Int → List Int
 | [] => []
 | a :: p => match trim p with
  | [] => if a = 0 then [] else [a]
  | b :: l => a :: b :: l
def Nrm (p : List Int) : Prop := ∀ h : 0 < p.length, p[p.length - 1] ≠ 0
def scl (c : Int) (p : List Int) : List Int := p.map (c * ·)
def add : List Int → List Int → List Int
 | [], q => q
 | a :: p, [] => a :: p
 | a :: p, b :: q => (a + b) :: add p q
def mul : List Int → List Int → List Int
 | [], _ => []
 | a :: p, q => add (scl a q) (0 :: mul p q)
theorem cf_nil (k : Nat) : cf [] k = 0 := by simp [cf]
theorem cf_cons_zero (a : Int) (p : List Int) : cf (a :: p) 0 = a := by simp [cf]
theorem cf_cons_succ (a : Int) (p : List Int) (k : Nat) : cf (a :: p) (k + 1) = cf p k := by simp [cf]
theorem cf_lt {p : List Int} {k : Nat} (h : k < p.length) : cf p k = p[k] := by simp [cf, List.getElem?_eq_getElem h]
theorem cf_ge {p : List Int} {k : Nat} (h : p.length ≤ k) : cf p k = 0 := by simp [cf, List.getElem?_eq_none h]
theorem ext_cf {p q : List Int} (hl : p.length = q.length) (h : ∀ k, k < p.length → cf p k = cf q k) : p = q := by
 apply List.ext_getElem hl
 intro k h1 h2
 have := h k h1
 rwa [cf_lt h1, cf_lt h2] at this
theorem cf_map_range (f : Nat → Int) (n k : Nat) : cf ((List.range n).map f) k = if k < n then f k else 0 := by
 by_cases h : k < n
 ·rw [cf_lt (by simpa using h), if_pos h]; simp
 ·rw [cf_ge (by simpa using h), if_neg h]
theorem trim_length (p : List Int) : (trim p).length ≤ p.length := by
 induction p with
 | nil => simp [trim]
 | cons a p ih =>
  simp only [trim]
  split
  ·split <;> simp
  ·next h => rw [h] at ih; simpa using ih
theorem cf_trim (p : List Int) (k : Nat) : cf (trim p) k = cf p k := by
 induction p generalizing k with
 | nil => rfl
 | cons a p ih =>
  simp only [trim]
  split
  ·next h =>
   have h0 : ∀ j, cf p j = 0 := fun j => by rw [← ih, h]; exact cf_nil j
   split
   ·next h1 => cases k with
    | zero => rw [cf_nil, cf_cons_zero, h1]
    | succ k => rw [cf_nil, cf_cons_succ, h0]
   ·cases k with
    | zero => rw [cf_cons_zero, cf_cons_zero]
    | succ k => rw [cf_cons_succ, cf_cons_succ, h0, cf_nil]
  ·next b l h =>
   cases k with
   | zero => rw [cf_cons_zero, cf_cons_zero]
   | succ k => rw [cf_cons_succ, cf_cons_succ, ← ih, h]
theorem nrm_nil : Nrm [] := fun h => absurd h (by simp)
theorem k'c1 {a b : Int} {l : List Int} (h : Nrm (b :: l)) : Nrm (a :: b :: l) := by
 intro _
 have := h (by simp)
 simpa using this
theorem nrm_trim (p : List Int) : Nrm (trim p) := by
 induction p with
 | nil => exact nrm_nil
 | cons a p ih =>
  simp only [trim]
  split
  ·split
   ·exact nrm_nil
   ·next h => intro _; simpa using h
  ·next b l h => rw [h] at ih; exact k'c1 ih
theorem nrm_cf {p : List Int} (h : Nrm p) (h0 : 0 < p.length) : cf p (p.length - 1) ≠ 0 := by
 rw [cf_lt (by omega)]; exact h h0
theorem nrm_ext {p q : List Int} (hp : Nrm p) (hq : Nrm q) (h : ∀ k, cf p k = cf q k) : p = q := by
 have hl : p.length = q.length := by
  rcases Nat.lt_trichotomy p.length q.length with g | g | g
  ·exact absurd ((h _).symm.trans (cf_ge (by omega))) (nrm_cf hq (by omega))
  ·exact g
  ·exact absurd ((h _).trans (cf_ge (by omega))) (nrm_cf hp (by omega))
 exact ext_cf hl fun k _ => h k
theorem trim_nrm {p : List Int} (h : Nrm p) : trim p = p := nrm_ext (nrm_trim p) h (cf_trim p)
theorem trim_ext {p q : List Int} (h : ∀ k, cf p k = cf q k) : trim p = trim q :=
 nrm_ext (nrm_trim p) (nrm_trim q) fun k => by rw [cf_trim, cf_trim, h]
theorem trim_take {p : List Int} {k : Nat} (hk : k ≤ p.length) (hz : ∀ i (h : i < p.length), k ≤ i → p[i] = 0) (hn : Nrm (p.take k)) : trim p = p.take k := by
 apply nrm_ext (nrm_trim p) hn
 intro j
 rw [cf_trim]
 by_cases h : j < k
 ·rw [cf_lt (by omega), cf_lt (by simp; omega)]; simp
 ·rw [cf_ge (p := p.take k) (by simp; omega)]
  by_cases h2 : j < p.length
  ·rw [cf_lt h2]; exact hz j h2 (by omega)
  ·exact cf_ge (by omega)
theorem nrm_take_last {p : List Int} {j : Nat} (hj : j < p.length) (hx : p[j] ≠ 0) : Nrm (p.take (j + 1)) := by
 intro h
 have : (p.take (j + 1)).length - 1 = j := by simp; omega
 simp only [this]
 simpa using hx
theorem cf_scl (c : Int) (p : List Int) (k : Nat) : cf (scl c p) k = c * cf p k := by
 unfold cf scl
 rw [List.getElem?_map]
 cases p[k]? <;> simp
theorem scl_length (c : Int) (p : List Int) : (scl c p).length = p.length := by simp [scl]
theorem cf_add (p q : List Int) (k : Nat) : cf (add p q) k = cf p k + cf q k := by
 induction p generalizing q k with
 | nil => simp [add, cf_nil]
 | cons a p ih =>
  cases q with
  | nil => simp [add, cf_nil]
  | cons b q =>
   cases k with
   | zero => simp [add, cf_cons_zero]
   | succ k => simp only [add, cf_cons_succ]; exact ih q k
theorem add_length (p q : List Int) : (add p q).length = max p.length q.length := by
 induction p generalizing q with
 | nil => simp [add]
 | cons a p ih =>
  cases q with
  | nil => simp [add]
  | cons b q => simp [add, ih]
theorem mul_length (p q : List Int) (hp : p ≠ []) (hq : q ≠ []) : (mul p q).length = p.length + q.length - 1 := by
 induction p with
 | nil => exact absurd rfl hp
 | cons a p ih =>
  have hq1 : 0 < q.length := List.length_pos_iff.2 hq
  simp only [mul, add_length, scl_length, List.length_cons]
  cases p with
  | nil => simp [mul]; omega
  | cons b p => rw [ih (by simp)]; simp; omega
theorem ev_scl (c : Int) (p : List Int) (x : Int) : ev (scl c p) x = c * ev p x := by
 induction p with
 | nil => simp [scl, ev]
 | cons a p ih =>
  have : scl c (a :: p) = c * a :: scl c p := rfl
  rw [this, ev, ev, ih]; grind
def conv (p q : List Int) : Nat → Nat → Int
 | 0, _ => 0
 | i + 1, k => conv p q i k + (if i ≤ k then cf p i * cf q (k - i) else 0)
theorem k'c6 (a : Int) (p q : List Int) (i k : Nat) : conv (a :: p) q (i + 1) k = a * cf q k + (if k = 0 then 0 else conv p q i (k - 1)) := by
 induction i with
 | zero => simp [conv, cf_cons_zero]
 | succ i ih =>
  rw [conv, ih, cf_cons_succ]
  by_cases hk : k = 0
  ·subst hk; simp
  ·rw [if_neg hk, if_neg hk, conv]
   by_cases h : i + 1 ≤ k
   ·rw [if_pos h, if_pos (by omega), show k - 1 - i = k - (i + 1) by omega]; omega
   ·rw [if_neg h, if_neg (by omega)]; omega
theorem cf_mul (p q : List Int) (k : Nat) : cf (mul p q) k = conv p q p.length k := by
 induction p generalizing k with
 | nil => simp [mul, cf_nil, conv]
 | cons a p ih =>
  rw [List.length_cons, k'c6, mul, cf_add, cf_scl]
  cases k with
  | zero => simp [cf_cons_zero]
  | succ k => rw [cf_cons_succ, ih]; simp
end Pl
namespace Pl
def shift (m : Nat) (p : List Int) : List Int := List.replicate m 0 ++ p
theorem cf_shift (m : Nat) (p : List Int) (k : Nat) : cf (shift m p) k = if m ≤ k then cf p (k - m) else 0 := by
 unfold cf shift
 by_cases h : m ≤ k
 ·rw [if_pos h, List.getElem?_append_right (by simpa using h)]; simp
 ·rw [if_neg h, List.getElem?_append_left (by simp; omega), List.getElem?_replicate, if_pos (by omega)]; rfl
def lead (q : List Int) : Int := cf q (q.length - 1)
theorem lead_ne {q : List Int} (h : Nrm q) (h0 : q ≠ []) : lead q ≠ 0 := nrm_cf h (List.length_pos_iff.2 h0)
def step (a c : Int) (q r : List Int) : List Int :=
 (List.range (r.length - 1)).map fun i => a * cf r i - (if r.length - q.length ≤ i then c * cf q (i - (r.length - q.length)) else 0)
theorem step_length (a c : Int) (q r : List Int) : (step a c q r).length = r.length - 1 := by simp [step]
theorem cf_step (a c : Int) (q r : List Int) (k : Nat) : cf (step a c q r) k = if k < r.length - 1 then a * cf r k - (if r.length - q.length ≤ k then c * cf q (k - (r.length - q.length)) else 0) else 0 := cf_map_range _ _ _
theorem step_sum {a c : Int} {q r : List Int} (hq : 0 < q.length) (hl : q.length ≤ r.length) (ht : a * lead r = c * lead q) (k : Nat) :
 a * cf r k = cf (step a c q r) k + c * cf (shift (r.length - q.length) q) k := by
 rw [cf_step, cf_shift]
 by_cases h : k < r.length - 1
 ·rw [if_pos h]
  split
  ·omega
  ·simp
 ·rw [if_neg h]
  by_cases h2 : k = r.length - 1
  ·subst h2
   rw [if_pos (by omega), show r.length - 1 - (r.length - q.length) = q.length - 1 by omega, Int.zero_add]
   exact ht
  ·rw [cf_ge (p := r) (by omega)]
   split
   ·rw [cf_ge (p := q) (by omega)]; simp
   ·simp
def prem (q : List Int) : Nat → List Int → List Int
 | 0, r => r
 | n + 1, r => prem q n (step (lead q) (lead r) q r)
def rest (p q : List Int) : List Int := trim (prem q (p.length + 1 - q.length) p)
theorem prem_length (q : List Int) (n : Nat) (r : List Int) (h : n ≤ r.length) : (prem q n r).length = r.length - n := by
 induction n generalizing r with
 | zero => rfl
 | succ n ih => rw [prem, ih _ (by rw [step_length]; omega), step_length]; omega
theorem rest_short {p q : List Int} (hp : Nrm p) (h : p.length < q.length) : rest p q = p := by
 unfold rest
 rw [show p.length + 1 - q.length = 0 by omega]
 exact trim_nrm hp
theorem rest_nrm (p q : List Int) : Nrm (rest p q) := nrm_trim _
theorem rest_length {p q : List Int} (hq : 0 < q.length) : (rest p q).length < q.length := by
 unfold rest
 have h1 := trim_length (prem q (p.length + 1 - q.length) p)
 have h2 := prem_length q (p.length + 1 - q.length) p (by omega)
 omega
def Dv (g p : List Int) : Prop := ∃ c : Int, c ≠ 0 ∧ ∃ t : List Int, ∀ x, c * ev p x = ev t x * ev g x
theorem Dv.refl (g : List Int) : Dv g g := ⟨1, by decide, [1], fun x => by simp [ev]⟩
theorem Dv.nil (g : List Int) : Dv g [] := ⟨1, by decide, [], fun x => by simp [ev]⟩
theorem Dv.scl {g p : List Int} (c : Int) (h : Dv g p) : Dv g (scl c p) := by
 obtain ⟨d, hd, t, ht⟩ := h
 exact ⟨d, hd, Pl.scl c t, fun x => by rw [ev_scl, ev_scl]; have := ht x; grind⟩
def dvs (q : List Int) : Nat → List Int → Option (List Int)
 | 0, r => if trim r = [] then some [] else none
 | n + 1, r => if lead r % lead q = 0 then (dvs q n (step 1 (lead r / lead q) q r)).map (· ++ [lead r / lead q]) else none
end Pl
namespace Pl
def cont (p : List Int) : Nat := p.foldl (fun g a => Nat.gcd g a.natAbs) 0
theorem foldl_gcd_dvd (p : List Int) (g : Nat) : p.foldl (fun g a => Nat.gcd g a.natAbs) g ∣ g ∧ ∀ a ∈ p, p.foldl (fun g a => Nat.gcd g a.natAbs) g ∣ a.natAbs := by
 induction p generalizing g with
 | nil => exact ⟨Nat.dvd_refl g, fun a h => by cases h⟩
 | cons b p ih =>
  obtain ⟨h1, h2⟩ := ih (Nat.gcd g b.natAbs)
  refine ⟨Nat.dvd_trans h1 (Nat.gcd_dvd_left _ _), fun a ha => ?_⟩
  rcases List.mem_cons.1 ha with rfl | ha
  ·exact Nat.dvd_trans h1 (Nat.gcd_dvd_right _ _)
  ·exact h2 a ha
theorem foldl_gcd_mul (c : Nat) (p : List Int) (g : Nat) (s : Int) (hs : s.natAbs = c) : (scl s p).foldl (fun g a => Nat.gcd g a.natAbs) (c * g) = c * p.foldl (fun g a => Nat.gcd g a.natAbs) g := by
 induction p generalizing g with
 | nil => rfl
 | cons b p ih =>
  show (scl s p).foldl _ (Nat.gcd (c * g) (s * b).natAbs) = _
  rw [Int.natAbs_mul, hs, Nat.gcd_mul_left, ih]
  rfl
theorem cont_scl (s : Int) (p : List Int) : cont (scl s p) = s.natAbs * cont p := by
 have := foldl_gcd_mul s.natAbs p 0 s rfl
 rwa [Nat.mul_zero] at this
theorem cont_dvd {p : List Int} {a : Int} (h : a ∈ p) : (cont p : Int) ∣ a := Int.ofNat_dvd_left.2 ((foldl_gcd_dvd p 0).2 a h)
theorem cont_dvd_cf (p : List Int) (k : Nat) : (cont p : Int) ∣ cf p k := by
 by_cases h : k < p.length
 ·rw [cf_lt h]; exact cont_dvd (List.getElem_mem h)
 ·rw [cf_ge (by omega)]; exact Int.dvd_zero _
theorem cont_pos {p : List Int} (hp : Nrm p) (h0 : p ≠ []) : 0 < cont p := by
 rcases Nat.eq_zero_or_pos (cont p) with h | h
 ·have := cont_dvd_cf p (p.length - 1)
  rw [h] at this
  exact absurd (Int.zero_dvd.1 this) (nrm_cf hp (List.length_pos_iff.2 h0))
 ·exact h
def prim (p : List Int) : List Int := p.map (· / (cont p : Int))
theorem prim_length (p : List Int) : (prim p).length = p.length := by simp [prim]
theorem cf_prim (p : List Int) (k : Nat) : cf (prim p) k = cf p k / (cont p : Int) := by
 unfold cf prim
 rw [List.getElem?_map]
 cases p[k]? <;> simp
theorem scl_prim (p : List Int) : scl (cont p) (prim p) = p := by
 apply ext_cf (by simp [scl, prim])
 intro k _
 rw [cf_scl, cf_prim]
 exact Int.mul_ediv_cancel' (cont_dvd_cf p k)
theorem prim_nrm {p : List Int} (hp : Nrm p) : Nrm (prim p) := by
 intro h
 rw [prim_length] at h
 have h1 : cf (prim p) (p.length - 1) ≠ 0 := by
  intro e
  have h2 := congrArg (fun l => cf l (p.length - 1)) (scl_prim p)
  simp only [cf_scl] at h2
  rw [e, Int.mul_zero] at h2
  exact nrm_cf hp h h2.symm
 rw [cf_lt (by rw [prim_length]; omega)] at h1
 simpa [prim_length] using h1
theorem prim_scl {p : List Int} {c : Int} (hc : c ≠ 0) : prim (scl c p) = scl c.sign (prim p) := by
 apply ext_cf (by simp [scl, prim])
 intro k _
 rw [cf_prim, cf_scl, cf_scl, cf_prim, cont_scl]
 have e : c = c.sign * (c.natAbs : Int) := (Int.sign_mul_natAbs c).symm
 have hn : (c.natAbs : Int) ≠ 0 := by omega
 obtain ⟨d, hd⟩ := cont_dvd_cf p k
 have hcn : ((c.natAbs * cont p : Nat) : Int) = (c.natAbs : Int) * (cont p : Int) := by simp
 rw [hcn]
 have e5 : c * cf p k = c.sign * (c.natAbs : Int) * cf p k := by rw [← e]
 rw [e5]
 by_cases h0 : (cont p : Int) = 0
 ·rw [h0]; simp
 ·rw [hd, show c.sign * (c.natAbs : Int) * ((cont p : Int) * d) = (c.natAbs : Int) * (cont p : Int) * (c.sign * d) by grind,
   Int.mul_ediv_cancel_left _ (Int.mul_ne_zero hn h0), Int.mul_ediv_cancel_left _ h0]
theorem lead_scl (c : Int) (p : List Int) : lead (scl c p) = c * lead p := by unfold lead; rw [scl_length, cf_scl]
theorem scl_scl (c d : Int) (p : List Int) : scl c (scl d p) = scl (c * d) p := ext_cf (by simp [scl]) fun k _ => by rw [cf_scl, cf_scl, cf_scl, Int.mul_assoc]
theorem scl_one (p : List Int) : scl 1 p = p := ext_cf (by simp [scl]) fun k _ => by rw [cf_scl, Int.one_mul]
theorem scl_nrm {p : List Int} {c : Int} (hc : c ≠ 0) (hp : Nrm p) : Nrm (scl c p) := by
 intro h
 rw [scl_length] at h
 have h1 : cf (scl c p) (p.length - 1) ≠ 0 := by rw [cf_scl]; exact Int.mul_ne_zero hc (nrm_cf hp h)
 rw [cf_lt (by rw [scl_length]; omega)] at h1
 simpa [scl_length] using h1
theorem scl_nil (c : Int) : scl c [] = [] := rfl
theorem trim_scl {c : Int} (hc : c ≠ 0) (p : List Int) : trim (scl c p) = scl c (trim p) :=
 nrm_ext (nrm_trim _) (scl_nrm hc (nrm_trim p)) fun k => by rw [cf_trim, cf_scl, cf_scl, cf_trim]
def npr (p : List Int) : List Int := scl (lead p).sign (prim p)
theorem npr_length (p : List Int) : (npr p).length = p.length := by rw [npr, scl_length, prim_length]
theorem sign_ne {c : Int} (h : c ≠ 0) : c.sign ≠ 0 := by rwa [Ne, Int.sign_eq_zero_iff_zero]
theorem npr_scl {p : List Int} {c : Int} (hc : c ≠ 0) : npr (scl c p) = npr p := by
 unfold npr
 rw [lead_scl, prim_scl hc, scl_scl, Int.sign_mul]
 congr 1
 rcases Int.lt_trichotomy c 0 with h | h | h
 ·rw [Int.sign_eq_neg_one_of_neg h]; omega
 ·exact absurd h hc
 ·rw [Int.sign_eq_one_of_pos h]; omega
theorem npr_prim {p : List Int} (hp : Nrm p) : npr (prim p) = npr p := by
 by_cases h : p = []
 ·subst h; rfl
 ·have hc : (cont p : Int) ≠ 0 := by have := cont_pos hp h; omega
  conv => rhs; rw [← scl_prim p, npr_scl hc]
theorem npr_sclE (p : List Int) (hp : Nrm p) (h : p ≠ []) : ∃ c : Int, c ≠ 0 ∧ p = scl c (npr p) := by
 have hl := lead_ne hp h
 refine ⟨(lead p).sign * cont p, Int.mul_ne_zero (sign_ne hl) (by have := cont_pos hp h; omega), ?_⟩
 rw [npr, scl_scl]
 have e : (lead p).sign * (cont p : Int) * (lead p).sign = cont p := by
  rcases Int.lt_trichotomy (lead p) 0 with g | g | g
  ·rw [Int.sign_eq_neg_one_of_neg g]; omega
  ·exact absurd g hl
  ·rw [Int.sign_eq_one_of_pos g]; omega
 rw [e, scl_prim]
theorem npr_of_lead {p : List Int} (hp : Nrm p) (h0 : p ≠ []) : npr p = if lead p < 0 then scl (-1) (prim p) else prim p := by
 unfold npr
 split
 ·next h => rw [Int.sign_eq_neg_one_of_neg h]
 ·next h => rw [Int.sign_eq_one_of_pos (by have := lead_ne hp h0; omega), scl_one]
theorem step_scl (a c s : Int) (q r : List Int) : step a (s * c) q (scl s r) = scl s (step a c q r) := by
 apply ext_cf (by simp [scl, step])
 intro k _
 rw [cf_scl, cf_step, cf_step, scl_length, cf_scl]
 split
 ·split <;> grind
 ·simp
theorem prem_scl (q : List Int) (n : Nat) (s : Int) (r : List Int) : prem q n (scl s r) = scl s (prem q n r) := by
 induction n generalizing r with
 | zero => rfl
 | succ n ih => rw [prem, prem, lead_scl, step_scl, ih]
theorem step_scl_q (c a s : Int) (q r : List Int) : step (s * a) c (scl s q) r = scl s (step a c q r) := by
 apply ext_cf (by simp [scl, step])
 intro k _
 rw [cf_scl, cf_step, cf_step, scl_length]
 split
 ·rw [cf_scl]; split <;> grind
 ·simp
theorem prem_scl_q (q : List Int) (n : Nat) (s : Int) (r : List Int) : prem (scl s q) n r = scl (s ^ n) (prem q n r) := by
 induction n generalizing r with
 | zero => rw [prem, prem, Int.pow_zero, scl_one]
 | succ n ih => rw [prem, lead_scl, step_scl_q, ih, prem_scl, scl_scl, ← Int.pow_succ, prem]
theorem rest_scl {c d : Int} (hc : c ≠ 0) (hd : d ≠ 0) (p q : List Int) : ∃ e : Int, e ≠ 0 ∧ rest (scl c p) (scl d q) = scl e (rest p q) := by
 refine ⟨d ^ (p.length + 1 - q.length) * c, Int.mul_ne_zero (Int.pow_ne_zero hd) hc, ?_⟩
 unfold rest
 rw [scl_length, scl_length, prem_scl_q, prem_scl, scl_scl, trim_scl (Int.mul_ne_zero (Int.pow_ne_zero hd) hc)]
theorem npr_rest {p q : List Int} (hp : Nrm p) (hq : Nrm q) : npr (rest (npr p) (npr q)) = npr (rest p q) := by
 by_cases h1 : p = []
 ·subst h1
  by_cases h2 : q = []
  ·subst h2; rfl
  ·obtain ⟨d, hd, e⟩ := npr_sclE q hq h2
   obtain ⟨f, hf, e2⟩ := rest_scl (c := 1) (d := d) (by decide) hd [] (npr q)
   rw [scl_nil, ← e] at e2
   rw [e2, npr_scl hf]; rfl
 ·obtain ⟨c, hc, e1⟩ := npr_sclE p hp h1
  by_cases h2 : q = []
  ·subst h2
   obtain ⟨f, hf, e2⟩ := rest_scl (c := c) (d := 1) hc (by decide) (npr p) []
   rw [scl_nil, ← e1] at e2
   rw [e2, npr_scl hf]; rfl
  ·obtain ⟨d, hd, e2⟩ := npr_sclE q hq h2
   obtain ⟨f, hf, e3⟩ := rest_scl (c := c) (d := d) hc hd (npr p) (npr q)
   rw [← e1, ← e2] at e3
   rw [e3, npr_scl hf]
def euc : Nat → List Int → List Int → List Int
 | 0, p, _ => p
 | n + 1, p, q => if q = [] then p else euc n q (npr (rest p q))
theorem euc_fuel (n m : Nat) (p q : List Int) (h1 : q.length ≤ n) (h2 : q.length ≤ m) : euc n p q = euc m p q := by
 induction n generalizing m p q with
 | zero =>
  obtain rfl := List.eq_nil_of_length_eq_zero (show q.length = 0 by omega)
  cases m <;> simp [euc]
 | succ n ih =>
  by_cases e : q = []
  ·subst e; cases m <;> simp [euc]
  ·have h0 := List.length_pos_iff.2 e
   obtain ⟨k, rfl⟩ : ∃ k, m = k + 1 := ⟨m - 1, by omega⟩
   have h3 := rest_length (p := p) h0
   rw [euc, euc, if_neg e, if_neg e]
   exact ih k _ _ (by rw [npr_length]; omega) (by rw [npr_length]; omega)
def gcdP (p q : List Int) : List Int := euc q.length (npr p) (npr q)
theorem gcdP_nil (p : List Int) : gcdP p [] = npr p := rfl
theorem gcdP_step {p q : List Int} (hp : Nrm p) (hq : Nrm q) (h : q ≠ []) : gcdP p q = gcdP q (rest p q) := by
 have h0 := List.length_pos_iff.2 h
 obtain ⟨n, hn⟩ : ∃ n, q.length = n + 1 := ⟨q.length - 1, by omega⟩
 have hne : npr q ≠ [] := by intro e; have := npr_length q; rw [e] at this; simp at this; omega
 unfold gcdP
 rw [hn, euc, if_neg hne, npr_rest hp hq]
 have h1 := rest_length (p := p) h0
 exact euc_fuel _ _ _ _ (by rw [npr_length]; omega) (by rw [npr_length]; omega)
theorem gcdP_npr {p q p' q' : List Int} (h1 : npr p = npr p') (h2 : npr q = npr q') : gcdP p q = gcdP p' q' := by
 have hl : q.length = q'.length := by rw [← npr_length q, h2, npr_length]
 unfold gcdP
 rw [h1, h2, hl]
theorem cont_unit {p : List Int} (hp : Nrm p) (h : p.length = 1) : npr p = [1] := by
 obtain ⟨a, rfl⟩ : ∃ a, p = [a] := List.length_eq_one_iff.1 h
 have ha : a ≠ 0 := by have := hp (by simp); simpa using this
 have e1 : cont [a] = a.natAbs := by simp [cont]
 unfold npr prim lead
 rw [e1]
 simp only [scl, List.map, List.length_singleton, Nat.sub_self, cf_cons_zero, List.cons.injEq, and_true]
 rcases Int.lt_trichotomy a 0 with g | g | g
 ·rw [Int.sign_eq_neg_one_of_neg g]
  have : (a.natAbs : Int) = -a := by omega
  rw [this, Int.ediv_neg, Int.ediv_self ha]; rfl
 ·exact absurd g ha
 ·rw [Int.sign_eq_one_of_pos g]
  have : (a.natAbs : Int) = a := by omega
  rw [this, Int.ediv_self ha]; rfl
theorem gcdP_swap {p q : List Int} (hp : Nrm p) (hq : Nrm q) (h : p.length < q.length) : gcdP p q = gcdP q p := by
 rw [gcdP_step hp hq (by intro e; subst e; simp at h), rest_short hp h]
theorem gcdP_const {p q : List Int} (hp : Nrm p) (hq : Nrm q) (h : q.length = 1) : gcdP p q = [1] := by
 have h1 : q ≠ [] := by intro e; subst e; simp at h
 rw [gcdP_step hp hq h1]
 have h2 := rest_length (p := p) (q := q) (by omega)
 rw [List.eq_nil_of_length_eq_zero (show (rest p q).length = 0 by omega), gcdP_nil, cont_unit hq h]
end Pl
namespace Pl
def lev : List Int → Int → List Int
 | [], _ => []
 | a :: p, d => a * d ^ p.length :: lev p d
theorem lev_length (p : List Int) (d : Int) : (lev p d).length = p.length := by induction p <;> simp [lev, *]
theorem cf_lev (p : List Int) (d : Int) (k : Nat) : cf (lev p d) k = cf p k * d ^ (p.length - 1 - k) := by
 induction p generalizing k with
 | nil => simp [lev, cf_nil]
 | cons a p ih =>
  cases k with
  | zero => rw [lev, cf_cons_zero, cf_cons_zero]; simp
  | succ k => rw [lev, cf_cons_succ, cf_cons_succ, ih]; congr 2; simp; omega
def hv (n d : Int) : List Int → Nat → Int
 | [], _ => 0
 | _ :: _, 0 => 0
 | a :: p, M + 1 => a * d ^ M + n * hv n d p M
def vlu (p : List Int) (n d : Int) : Int := ev (lev p d) n
def pmul (p q : List Int) : List Int := if p = [] ∨ q = [] then [] else mul p q
def comp (a b : Int) : List Int → List Int
 | [] => []
 | x :: l => add (pmul (comp a b l) [a, b]) [x]
def mx (p : List Int) : Nat := p.foldr (fun a m => max a.natAbs m) 0
def sm (p : List Int) : Nat := p.foldr (fun a m => a.natAbs + m) 0
theorem mx_mem {p : List Int} {a : Int} (h : a ∈ p) : a.natAbs ≤ mx p := by
 induction p with
 | nil => cases h
 | cons b p ih =>
  have : mx (b :: p) = max b.natAbs (mx p) := rfl
  rw [this]
  rcases List.mem_cons.1 h with rfl | h
  ·omega
  ·have := ih h; omega
theorem mx_cf (p : List Int) (k : Nat) : (cf p k).natAbs ≤ mx p := by
 by_cases h : k < p.length
 ·rw [cf_lt h]; exact mx_mem (List.getElem_mem h)
 ·rw [cf_ge (by omega)]; simp
theorem mx_le {p : List Int} {B : Nat} (h : ∀ k, k < p.length → (cf p k).natAbs ≤ B) : mx p ≤ B := by
 induction p with
 | nil => exact Nat.zero_le _
 | cons b p ih =>
  have e : mx (b :: p) = max b.natAbs (mx p) := rfl
  have h0 := h 0 (by simp)
  rw [cf_cons_zero] at h0
  have := ih (fun k hk => by rw [← cf_cons_succ b p]; exact h (k + 1) (by simpa using hk))
  omega
theorem sm_le (p : List Int) : sm p ≤ p.length * mx p := by
 induction p with
 | nil => simp [sm]
 | cons b p ih =>
  have e : sm (b :: p) = b.natAbs + sm p := rfl
  have e2 : mx (b :: p) = max b.natAbs (mx p) := rfl
  rw [e, e2, List.length_cons, Nat.add_mul, Nat.one_mul]
  have : p.length * mx p ≤ p.length * max b.natAbs (mx p) := Nat.mul_le_mul_left _ (by omega)
  omega
theorem mx_le_sm (p : List Int) : mx p ≤ sm p := by
 induction p with
 | nil => simp [mx]
 | cons b p ih =>
  have e : sm (b :: p) = b.natAbs + sm p := rfl
  have e2 : mx (b :: p) = max b.natAbs (mx p) := rfl
  omega
theorem sm_take (p : List Int) (i : Nat) (h : i < p.length) : sm (p.take (i + 1)) = sm (p.take i) + (cf p i).natAbs := by
 induction p generalizing i with
 | nil => simp at h
 | cons b p ih =>
  cases i with
  | zero => simp [sm, cf_cons_zero]
  | succ i =>
   have e : ∀ l, sm (b :: l) = b.natAbs + sm l := fun _ => rfl
   rw [List.take_succ_cons, List.take_succ_cons, e, e, cf_cons_succ, ih i (by simpa using h)]; omega
theorem sm_take_le (p : List Int) (i : Nat) : sm (p.take i) ≤ sm p := by
 induction p generalizing i with
 | nil => simp
 | cons b p ih =>
  cases i with
  | zero => simp [sm]
  | succ i =>
   have e : ∀ l, sm (b :: l) = b.natAbs + sm l := fun _ => rfl
   rw [List.take_succ_cons, e, e]; have := ih i; omega
theorem conv_le (p q : List Int) (i k : Nat) (h : i ≤ p.length) : (conv p q i k).natAbs ≤ sm (p.take i) * mx q := by
 induction i with
 | zero => simp [conv]
 | succ i ih =>
  rw [conv, sm_take p i (by omega), Nat.add_mul]
  have h1 := ih (by omega)
  split
  ·have h2 : (cf p i * cf q (k - i)).natAbs ≤ (cf p i).natAbs * mx q := by rw [Int.natAbs_mul]; exact Nat.mul_le_mul_left _ (mx_cf q _)
   omega
  ·omega
theorem mx_scl (c : Int) (p : List Int) : mx (scl c p) ≤ c.natAbs * mx p := mx_le fun k _ => by
 rw [cf_scl, Int.natAbs_mul]; exact Nat.mul_le_mul_left _ (mx_cf p k)
theorem mx_step (a c : Int) (q r : List Int) : mx (step a c q r) ≤ a.natAbs * mx r + c.natAbs * mx q := mx_le fun k _ => by
 rw [cf_step]
 have h1 : (a * cf r k).natAbs ≤ a.natAbs * mx r := by rw [Int.natAbs_mul]; exact Nat.mul_le_mul_left _ (mx_cf r k)
 split
 ·split
  ·have h2 : (c * cf q (k - (r.length - q.length))).natAbs ≤ c.natAbs * mx q := by rw [Int.natAbs_mul]; exact Nat.mul_le_mul_left _ (mx_cf q _)
   omega
  ·omega
 ·simp
theorem mx_trim (p : List Int) : mx (trim p) ≤ mx p := mx_le fun k _ => by rw [cf_trim]; exact mx_cf p k
theorem mx_prem (q : List Int) (n : Nat) (r : List Int) : mx (prem q n r) ≤ (2 * mx q) ^ n * mx r := by
 induction n generalizing r with
 | zero => simp [prem]
 | succ n ih =>
  rw [prem]
  refine Nat.le_trans (ih _) ?_
  rw [Nat.pow_succ, Nat.mul_assoc]
  apply Nat.mul_le_mul_left
  refine Nat.le_trans (mx_step _ _ _ _) ?_
  have h1 : (lead q).natAbs * mx r ≤ mx q * mx r := Nat.mul_le_mul_right _ (mx_cf q _)
  have h2 : (lead r).natAbs * mx q ≤ mx r * mx q := Nat.mul_le_mul_right _ (mx_cf r _)
  rw [Nat.mul_comm (mx r)] at h2
  rw [Nat.mul_assoc]; omega
theorem cont_le {p : List Int} (h : p ≠ []) : cont p ≤ mx p := by
 cases p with
 | nil => exact absurd rfl h
 | cons a p =>
  by_cases ha : ∀ k, cf (a :: p) k = 0
  ·have : cont (a :: p) = 0 := by
    have h2 : ∀ (l : List Int), (∀ k, cf l k = 0) → l.foldl (fun g a => Nat.gcd g a.natAbs) 0 = 0 := by
     intro l
     induction l with
     | nil => intro _; rfl
     | cons b l ih =>
      intro hl
      have h0 := hl 0
      rw [cf_cons_zero] at h0
      subst h0
      exact ih fun k => by rw [← cf_cons_succ 0 l, hl]
    exact h2 _ ha
   omega
  ·obtain ⟨k, hk⟩ := Classical.not_forall.1 ha
   have h1 := cont_dvd_cf (a :: p) k
   have h2 := Int.natAbs_dvd_natAbs.2 h1
   rw [Int.natAbs_natCast] at h2
   exact Nat.le_trans (Nat.le_of_dvd (by omega) h2) (mx_cf _ k)
end Pl
end Go.Proofs.YtepddegphdlbeaaGreat
namespace Go.Proofs.YtepddegphdlbeaaGreat
open Go.RowKit
def Rw (w : World) (v : Value) (L : List (Bool × ByteArray)) : Prop :=
 ∃ (p : Option Addr) (b off cap : Nat), v = .slice p L.length cap ∧ L.length ≤ cap ∧ cap ≤ maxLen ∧ (L ≠ [] → p = some ⟨b, off, none⟩) ∧
  ∀ k (h : k < L.length), w.cell? ⟨b, off + k * 2, none⟩ = some (.bool L[k].1) ∧ w.cell? ⟨b, off + k * 2 + 1, none⟩ = some (.string L[k].2)
theorem Rw.below {w w' : World} {v : Value} {L : List (Bool × ByteArray)} (h : Rw w v L) (hb : Below w.heap.size w w') : Rw w' v L := by
 obtain ⟨p, b, off, cap, h1, h2, h3, h4, h5⟩ := h
 exact ⟨p, b, off, cap, h1, h2, h3, h4, fun k hk => ⟨k'd hb (h5 k hk).1, k'd hb (h5 k hk).2⟩⟩
theorem Rw.drewN {w : World} {v : Value} {L : List (Bool × ByteArray)} (h : Rw w v L) (n : Nat) : Rw (w.drewN n) v L := h
theorem Rw.nil (w : World) : Rw w (.slice none 0 0) [] := ⟨none, 0, 0, 0, rfl, by simp, by simp, fun h => absurd rfl h, fun k h => absurd h (by simp)⟩
theorem Rw.len {w : World} {v : Value} {L : List (Bool × ByteArray)} (h : Rw w v L) : L.length ≤ 9223372036854775807 := by
 obtain ⟨p, b, off, cap, h1, h2, h3, h4, h5⟩ := h
 unfold maxLen at h3
 omega
def zl (p : List Int) : List (Bool × ByteArray) := p.map fun z => (zb z, zs z)
theorem k'cc (p : List Int) : (zl p).length = p.length := by simp [zl]
theorem k'cd (p : List Int) (k : Nat) (h : k < p.length) (h2 : k < (zl p).length) : (zl p)[k] = (zb p[k], zs p[k]) := by simp [zl]
theorem zl_ne {p : List Int} (h : p ≠ []) : zl p ≠ [] := by simpa [zl] using h
abbrev Rp (w : World) (v : Value) (p : List Int) : Prop := Rw w v (zl p)
theorem Rp.open_ {w : World} {v : Value} {p : List Int} (h : Rp w v p) : ∃ (a : Option Addr) (b off cap : Nat), v = .slice a p.length cap ∧ p.length ≤ cap ∧ cap ≤ maxLen ∧ (p ≠ [] → a = some ⟨b, off, none⟩) ∧
 ∀ k (h : k < p.length), w.cell? ⟨b, off + k * 2, none⟩ = some (.bool (zb p[k])) ∧ w.cell? ⟨b, off + k * 2 + 1, none⟩ = some (.string (zs p[k])) := by
 obtain ⟨a, b, off, cap, h1, h2, h3, h4, h5⟩ := h
 rw [k'cc] at h1 h2
 refine ⟨a, b, off, cap, h1, h2, h3, fun e => h4 (zl_ne e), fun k hk => ?_⟩
 have := h5 k (by rw [k'cc]; exact hk)
 rwa [k'cd p k hk] at this
theorem Rp.mk {w : World} {v : Value} {p : List Int} {a : Option Addr} {b off cap : Nat} (h1 : v = .slice a p.length cap) (h2 : p.length ≤ cap) (h3 : cap ≤ maxLen) (h4 : p ≠ [] → a = some ⟨b, off, none⟩)
 (h5 : ∀ k (h : k < p.length), w.cell? ⟨b, off + k * 2, none⟩ = some (.bool (zb p[k])) ∧ w.cell? ⟨b, off + k * 2 + 1, none⟩ = some (.string (zs p[k]))) : Rp w v p := by
 refine ⟨a, b, off, cap, by rw [k'cc]; exact h1, by rw [k'cc]; exact h2, h3, fun e => h4 fun e2 => e (by rw [e2]; rfl), fun k hk => ?_⟩
 have hk2 : k < p.length := by rwa [k'cc] at hk
 rw [k'cd p k hk2]
 exact h5 k hk2
def wv (p : List Int) : List Value := p.flatMap fun z => [.bool (zb z), .string (zs z)]
theorem k'ce (p : List Int) : (wv p).length = p.length * 2 := by
 induction p with
 | nil => rfl
 | cons a p ih => simp only [wv, List.flatMap_cons, List.length_append, List.length_cons] at ih ⊢; simp at ih ⊢; omega
theorem k'cf (a : Int) (p : List Int) : wv (a :: p) = .bool (zb a) :: .string (zs a) :: wv p := rfl
theorem k'cg (p : List Int) (k : Nat) (h : k < p.length) : (wv p)[k * 2]? = some (.bool (zb p[k])) ∧ (wv p)[k * 2 + 1]? = some (.string (zs p[k])) := by
 induction p generalizing k with
 | nil => simp at h
 | cons a p ih =>
  rw [k'cf]
  cases k with
  | zero => simp
  | succ k =>
   have h' : k < p.length := by simpa using h
   obtain ⟨h1, h2⟩ := ih k h'
   rw [show (k + 1) * 2 = k * 2 + 1 + 1 by omega]
   simp only [List.getElem?_cons_succ, List.getElem_cons_succ]
   exact ⟨h1, h2⟩
theorem k'ch (p : List Int) (k : Nat) (z : Int) : ((wv p).set (k * 2) (.bool (zb z))).set (k * 2 + 1) (.string (zs z)) = wv (p.set k z) := by
 induction p generalizing k with
 | nil => rfl
 | cons a p ih =>
  rw [k'cf]
  cases k with
  | zero => rfl
  | succ k =>
   rw [show (k + 1) * 2 = k * 2 + 1 + 1 by omega]
   simp only [List.set_cons_succ]
   rw [ih, k'cf]
def Aw (w : World) (g : Nat) (p : List Int) : Prop := ∃ r : List Value, w.heap[g]? = some (.cells (wv p ++ r).toArray 44 (0, 0))
theorem Aw.lt {w : World} {g : Nat} {p : List Int} (h : Aw w g p) : g < w.heap.size := by obtain ⟨r, h⟩ := h; exact lt_of_block h
theorem Aw.cell {w : World} {g : Nat} {p : List Int} (h : Aw w g p) (k : Nat) (hk : k < p.length) : w.cell? ⟨g, k * 2, none⟩ = some (.bool (zb p[k])) ∧ w.cell? ⟨g, k * 2 + 1, none⟩ = some (.string (zs p[k])) := by
 obtain ⟨r, h⟩ := h
 obtain ⟨h1, h2⟩ := k'cg p k hk
 rw [cell_of_row w g _ _ _ _ h, cell_of_row w g _ _ _ _ h, List.getElem?_toArray, List.getElem?_toArray, List.getElem?_append_left (by rw [k'ce]; omega), List.getElem?_append_left (by rw [k'ce]; omega)]
 exact ⟨h1, h2⟩
theorem Aw.free {w : World} {g : Nat} {p : List Int} (h : Aw w g p) (k : Nat) : w.frozen? ⟨g, k, none⟩ = false := by obtain ⟨r, h⟩ := h; exact frozen_of_row w g k _ _ h
theorem Aw.set {w : World} {g : Nat} {p : List Int} (h : Aw w g p) (k : Nat) (hk : k < p.length) (z : Int) : Aw ((w.setCell ⟨g, k * 2, none⟩ (.bool (zb z))).setCell ⟨g, k * 2 + 1, none⟩ (.string (zs z))) g (p.set k z) := by
 obtain ⟨r, h⟩ := h
 have h1 := heap_setCell_same w g (k * 2) _ _ (.bool (zb z)) h
 have h2 := heap_setCell_same _ g (k * 2 + 1) _ _ (.string (zs z)) h1
 refine ⟨r, h2.trans ?_⟩
 rw [← k'ch]
 have e1 : k * 2 < (wv p).length := by rw [k'ce]; omega
 have e2 : k * 2 + 1 < (wv p).length := by rw [k'ce]; omega
 simp [List.set_append_left, e1, e2]
theorem Aw.keep {w w' : World} {g : Nat} {p : List Int} (h : Aw w g p) (he : w'.heap[g]? = w.heap[g]?) : Aw w' g p := by obtain ⟨r, h⟩ := h; exact ⟨r, he.trans h⟩
theorem Aw.below {w w' : World} {g : Nat} {p : List Int} (h : Aw w g p) (hb : Below w.heap.size w w') : Aw w' g p := h.keep (hb.block g h.lt)
theorem Aw.alloc {w : World} {g : Nat} {p : List Int} (h : Aw w g p) (o : Obj) : Aw (w.alloc o) g p := h.keep (Below.heap_alloc w o g h.lt)
theorem Aw.other {w : World} {g : Nat} {p : List Int} (h : Aw w g p) (a : Addr) (v : Value) (hn : g ≠ a.block) : Aw (w.setCell a v) g p := h.keep (heap_setCell_other w a g v hn)
theorem Aw.drewN {w : World} {g : Nat} {p : List Int} (h : Aw w g p) (n : Nat) : Aw (w.drewN n) g p := h
theorem Aw.made (w : World) (p : List Int) : Aw (w.alloc (.cells (wv p).toArray 44)) w.heap.size p := ⟨[], by rw [List.append_nil]; exact heap_alloc_new w _⟩
theorem k'ci (p q : List Int) : wv (p ++ q) = wv p ++ wv q := by simp [wv]
theorem Aw.take {w : World} {g : Nat} {p : List Int} (h : Aw w g p) (k : Nat) : Aw w g (p.take k) := by
 obtain ⟨r, h⟩ := h
 refine ⟨wv (p.drop k) ++ r, ?_⟩
 rw [← List.append_assoc, ← k'ci, List.take_append_drop]
 exact h
theorem Rp.of_aw {w : World} {g : Nat} {p : List Int} (h : Aw w g p) (off n cap : Nat) (h1 : off + n ≤ p.length) (h2 : n ≤ cap) (h3 : cap ≤ maxLen) : Rp w (.slice (some ⟨g, off * 2, none⟩) n cap) ((p.drop off).take n) := by
 have hl : ((p.drop off).take n).length = n := by simp; omega
 refine Rp.mk (b := g) (off := off * 2) (by rw [hl]) (by omega) h3 (fun _ => rfl) fun k hk => ?_
 rw [hl] at hk
 have := h.cell (off + k) (by omega)
 rw [Nat.add_mul] at this
 simpa using this
theorem Rp.of_whole {w : World} {g : Nat} {p : List Int} (h : Aw w g p) (n cap : Nat) (h1 : p.length = n) (h2 : n ≤ cap) (h3 : cap ≤ maxLen) : Rp w (.slice (some ⟨g, 0, none⟩) n cap) p := by
 subst h1
 have := Rp.of_aw h 0 p.length cap (by omega) h2 h3
 rwa [Nat.zero_mul, List.drop_zero, List.take_length] at this
theorem Rw.take {w : World} {a : Option Addr} {n cap : Nat} {L : List (Bool × ByteArray)} (h : Rw w (.slice a n cap) L) (m : Nat) (hm : m ≤ n) : Rw w (.slice a m cap) (L.take m) := by
 obtain ⟨a', b, off, cap', h1, h2, h3, h4, h5⟩ := h
 injection h1 with e1 e2 e3
 subst e1 e2 e3
 have e : (L.take m).length = m := by simp; omega
 refine ⟨a, b, off, cap, by rw [e], by omega, h3, fun hne => h4 (fun e0 => hne (by rw [e0]; simp)), fun k hk => ?_⟩
 rw [e] at hk
 simpa using h5 k (by omega)
theorem k'cj (p : List Int) (m : Nat) : (zl p).take m = zl (p.take m) := by simp [zl, List.map_take]
def Ck (w : World) (c : Nat) (e : Int) : Prop := w.heap[c]? = some (.cells #[.int .i64 e] 96 (0, 0))
theorem Ck.lt {w : World} {c : Nat} {e : Int} (h : Ck w c e) : c < w.heap.size := lt_of_block h
theorem Ck.cell {w : World} {c : Nat} {e : Int} (h : Ck w c e) : w.cell? ⟨c, 0, none⟩ = some (.int .i64 e) := by rw [cell_of_row w c 0 _ _ _ h]; rfl
theorem Ck.free {w : World} {c : Nat} {e : Int} (h : Ck w c e) : w.frozen? ⟨c, 0, none⟩ = false := frozen_of_row w c 0 _ _ h
theorem Ck.below {w w' : World} {c : Nat} {e : Int} (h : Ck w c e) (hb : Below w.heap.size w w') : Ck w' c e := (hb.block c h.lt).trans h
theorem Ck.set {w : World} {c : Nat} {e : Int} (h : Ck w c e) (e' : Int) : Ck (w.setCell ⟨c, 0, none⟩ (.int .i64 e')) c e' := heap_setCell_same w c 0 _ _ (.int .i64 e') h
theorem Ck.alloc {w : World} {c : Nat} {e : Int} (h : Ck w c e) (o : Obj) : Ck (w.alloc o) c e := (Below.heap_alloc w o c h.lt).trans h
theorem Ck.other {w : World} {c : Nat} {e : Int} (h : Ck w c e) (a : Addr) (v : Value) (hn : c ≠ a.block) : Ck (w.setCell a v) c e := (heap_setCell_other w a c v hn).trans h
structure But (c : Nat) (w w' : World) : Prop where
 os : w'.os = w.os
 tape : w'.tape = w.tape
 output : w'.output = w.output
 size : w.heap.size ≤ w'.heap.size
 block : ∀ k, k < w.heap.size → k ≠ c → w'.heap[k]? = w.heap[k]?
theorem But.refl (c : Nat) (w : World) : But c w w := ⟨rfl, rfl, rfl, Nat.le_refl _, fun _ _ _ => rfl⟩
theorem But.of_below {c : Nat} {w w' : World} (h : Below w.heap.size w w') : But c w w' := ⟨h.os, h.tape, h.output, h.size, fun k hk _ => h.block k hk⟩
theorem But.trans {c : Nat} {u v w : World} (h : But c u v) (k : But c v w) : But c u w :=
 ⟨k.os.trans h.os, k.tape.trans h.tape, k.output.trans h.output, Nat.le_trans h.size k.size, fun i hi hn => (k.block i (Nat.lt_of_lt_of_le hi h.size) hn).trans (h.block i hi hn)⟩
theorem But.below {c : Nat} {w w' : World} {e : Int} (h : But c w w') (h1 : Ck w c e) (h2 : Ck w' c e) : Below w.heap.size w w' :=
 ⟨h.os, h.tape, h.output, h.size, fun k hk => by
  by_cases e : k = c
  ·subst e; exact h2.trans h1.symm
  ·exact h.block k hk e⟩
theorem But.low {c : Nat} {w w' : World} (h : But c w w') (hc : c ≤ w.heap.size) : Below c w w' := ⟨h.os, h.tape, h.output, h.size, fun k hk => h.block k (by omega) (by omega)⟩
theorem But.aw {c : Nat} {w w' : World} {g : Nat} {p : List Int} (h : But c w w') (ha : Aw w g p) (hn : g ≠ c) : Aw w' g p := ha.keep (h.block g ha.lt hn)
theorem But.set (c : Nat) (w : World) (v : Value) : But c w (w.setCell ⟨c, 0, none⟩ v) := ⟨rfl, rfl, rfl, by simp [World.setCell], fun k _ hn => Below.heap_setCell _ _ _ _ hn⟩
theorem But.alloc {c : Nat} {a b : World} (h : But c a b) (o : Obj) : But c a (b.alloc o) := h.trans (But.of_below ((Below.refl _ _).alloc (Nat.le_refl _) o))
theorem But.drewN {c : Nat} {a b : World} (h : But c a b) (n : Nat) : But c a (b.drewN n) := ⟨h.os, h.tape, h.output, h.size, h.block⟩
theorem But.new {c : Nat} {a b : World} (h : But c a b) {p : Addr} (hp : a.heap.size ≤ p.block) (v : Value) : But c a (b.setCell p v) :=
 ⟨h.os, h.tape, h.output, by simpa [World.setCell] using h.size, fun k hk hn => (Below.heap_setCell _ _ _ _ (by omega)).trans (h.block k hk hn)⟩
theorem Ck.drewN {w : World} {c : Nat} {e : Int} (h : Ck w c e) (n : Nat) : Ck (w.drewN n) c e := h
theorem But.cell {c : Nat} {w w' : World} (h : But c w w') {a : Addr} {v : Value} (hc : w.cell? a = some v) (hn : a.block ≠ c) : w'.cell? a = some v :=
 (World.cell?_of_block (h.block a.block (World.block_lt_of_cell? w a hc) hn)).trans hc
theorem But.frozen {c : Nat} {w w' : World} (h : But c w w') {a : Addr} {v : Value} (hc : w.cell? a = some v) (hf : w.frozen? a = false) (hn : a.block ≠ c) : w'.frozen? a = false := by
 have e := h.block a.block (World.block_lt_of_cell? w a hc) hn
 unfold World.frozen? at hf ⊢
 rw [e]; exact hf
theorem k'ck {B : Nat} {a b : World} (h : Below B a b) (n : Nat) : Below B a (b.drewN n) := ⟨h.os, h.tape, h.output, h.size, h.block⟩
theorem Ck.ne {w : World} {c b o : Nat} {e : Int} {x : Bool} (h : Ck w c e) (hc : w.cell? ⟨b, o, none⟩ = some (.bool x)) : b ≠ c := by
 rintro rfl
 rw [cell_of_row w b o _ _ _ h] at hc
 cases o with
 | zero => simp at hc
 | succ o => simp at hc
theorem k'cl (n : Nat) : madeCells #[.bool false, .string ⟨#[]⟩] (n * 2) = (wv (List.replicate n 0)).toArray := by
 apply Array.ext
 ·simp [madeCells, k'ce]
 ·intro i h1 h2
  have h3 : i < n * 2 := by simpa [madeCells] using h1
  have hk : i / 2 < (List.replicate n (0 : Int)).length := by simp; omega
  obtain ⟨g1, g2⟩ := k'cg (List.replicate n 0) (i / 2) hk
  have hz : (List.replicate n (0 : Int))[i / 2] = 0 := by simp
  rw [hz] at g1 g2
  have h4 : (wv (List.replicate n 0)).toArray[i] = (wv (List.replicate n 0))[i]'(by simpa using h2) := by simp
  rw [h4]
  rcases Nat.mod_two_eq_zero_or_one i with e | e
  ·have e2 : i / 2 * 2 = i := by omega
   rw [e2, List.getElem?_eq_getElem (by simpa using h2)] at g1
   rw [Option.some.inj g1]
   simp [madeCells, e]
   rfl
  ·have e2 : i / 2 * 2 + 1 = i := by omega
   rw [e2, List.getElem?_eq_getElem (by simpa using h2)] at g2
   rw [Option.some.inj g2]
   simp [madeCells, e]
   rfl
theorem k'cm (n : Nat) (w : World) (hn : n ≤ 1000) :
 (Instr.makeSlice 23 (.int .i64 (n : Int)) (.int .i64 (n : Int))).run Tryz.prog w = .ok (.slice (some ⟨w.heap.size, 0, none⟩) n n) (w.alloc (.cells (wv (List.replicate n 0)).toArray 44)) := by
 have hi : (Tryz.prog.info? 44).map (fun i => (i.zero, i.size, i.bytes)) = some (some (.agg #[.bool false, .string ⟨#[]⟩]), 2, 24) := by kernel_rfl
 obtain ⟨i, hi, hz, hs, hb⟩ := info_parts hi
 rw [run_make w 23 44 i (.agg #[.bool false, .string ⟨#[]⟩]) Tryz.underlying23 hi hz .i64 .i64 n n (by omega) (by omega) (by rw [hb]; omega) (by omega)]
 simp only [Int.toNat_natCast, hs]
 have hm : madeCells (Value.cells (.agg #[.bool false, .string ⟨#[]⟩])) (n * 2) = (wv (List.replicate n 0)).toArray := k'cl n
 rw [hm]
theorem Aw.ne_ck {w : World} {g c : Nat} {p : List Int} {e : Int} (h : Aw w g p) (k : Ck w c e) : g ≠ c := by
 rintro rfl
 obtain ⟨r, h⟩ := h
 rw [Ck, h] at k
 injection k with k
 injection k with _ k
 exact absurd k (by decide)
def KPost (r : Value) (c : Nat) (e : Int) (w : World) (en : Ending) (w' : World) : Prop := en = .returned r ∧ But c w w' ∧ Ck w' c e
theorem k'cn (c : Nat) (a : Bool) (s : ByteArray) (x : Int) (w : World) (hc : Ck w c 0) :
 Calls Tryz.prog 119 #[.pointer (some ⟨c, 0, none⟩), .agg #[.bool a, .string s], .int .i64 x] w (KPost (.agg #[.bool a, .string s]) c x w) := by
 have hl := hc.lt
 have c0 := hc.cell
 have f0 := hc.free
 have n1 : ¬ w.heap.size = c := by omega
 have n2 : ¬ c = w.heap.size := by omega
 have n3 : ¬ w.heap.size + 1 = c := by omega
 have n4 : ¬ c = w.heap.size + 1 := by omega
 have HC := i' hc
 clear hc
 go_enter Tryz.func119, Tryz.ntmps119
 go_wp2
 exact bodyPost_ret (v := .agg #[.bool a, .string s]) (by simp [results, Tryz.results119, go_sem]) rfl ⟨rfl, ((But.set c w _).alloc _).alloc _, ((HC.out.set x).alloc _).alloc _⟩
theorem k'co (c : Nat) (a : Bool) (s : ByteArray) (x e : Int) (w : World) (hc : Ck w c e) (he : e ≠ 0) :
 Calls Tryz.prog 119 #[.pointer (some ⟨c, 0, none⟩), .agg #[.bool a, .string s], .int .i64 x] w (KPost (.agg #[.bool a, .string s]) c e w) := by
 have hl := hc.lt
 have c0 := hc.cell
 have n1 : ¬ w.heap.size = c := by omega
 have n2 : ¬ c = w.heap.size := by omega
 have n3 : ¬ w.heap.size + 1 = c := by omega
 have n4 : ¬ c = w.heap.size + 1 := by omega
 have h0 : (e == 0) = false := by simpa using he
 have HC := i' hc
 clear hc he
 go_enter Tryz.func119, Tryz.ntmps119
 go_wp2
 exact bodyPost_ret (v := .agg #[.bool a, .string s]) (by simp [results, Tryz.results119, go_sem]) rfl ⟨rfl, ((But.refl c w).alloc _).alloc _, (HC.out.alloc _).alloc _⟩
theorem k'cp (c : Nat) (a : Bool) (s : ByteArray) (x e : Int) (w : World) (hc : Ck w c e) :
 Calls Tryz.prog 119 #[.pointer (some ⟨c, 0, none⟩), .agg #[.bool a, .string s], .int .i64 x] w (KPost (.agg #[.bool a, .string s]) c (if e = 0 then x else e) w) := by
 by_cases h : e = 0
 ·subst h; rw [if_pos rfl]; exact k'cn c a s x w hc
 ·rw [if_neg h]; exact k'co c a s x e w hc h
theorem k'cq (c : Nat) (a b rb : Bool) (s t rs : ByteArray) (rc e e' : Int) (w : World) (hc : Ck w c e) (he : e' = if e = 0 then rc else e)
 (hA : ∀ w, Calls Tryz.prog 120 #[.agg #[.bool a, .string s], .agg #[.bool b, .string t]] w (WPost (.agg #[.bool rb, .string rs]) rc w)) :
 Calls Tryz.prog 78 #[.pointer (some ⟨c, 0, none⟩), .agg #[.bool a, .string s], .agg #[.bool b, .string t]] w (KPost (.agg #[.bool rb, .string rs]) c e' w) := by
 have hl := hc.lt
 have HC := i' hc
 have HA := i' hA
 have HE := i' he
 have n1 : ¬ (w.heap.size + 1 + 1 = c) := by omega
 clear hc hA he
 go_enter Tryz.func78, Tryz.ntmps78
 go_wp2_with fail
 obtain ⟨w0, hw0⟩ : ∃ w0 : World, w0 = ((w.alloc (.cells #[.bool a, .string s] 44)).alloc (.cells #[.bool b, .string t] 44)).alloc (.cells #[.bool false, .string ⟨#[]⟩] 44) := ⟨_, rfl⟩
 have hb0 : Hid (Below w.heap.size w w0) := by rw [hw0]; exact (((Below.refl _ _).alloc (Nat.le_refl _) _).alloc (by simp) _).alloc (by simp; omega) _
 have HC0 : Hid (Ck w0 c e) := by rw [hw0]; exact ((HC.out.alloc _).alloc _).alloc _
 have k4 : w0.cell? ⟨w.heap.size + 1 + 1, 0, none⟩ = some (.bool false) := by rw [hw0]; simp [go_sem]
 have k5 : w0.cell? ⟨w.heap.size + 1 + 1, 1, none⟩ = some (.string ⟨#[]⟩) := by rw [hw0]; simp [go_sem]
 have k6 : w0.frozen? ⟨w.heap.size + 1 + 1, 0, none⟩ = false := by rw [hw0]; simp [go_sem]
 have k7 : w0.frozen? ⟨w.heap.size + 1 + 1, 1, none⟩ = false := by rw [hw0]; simp [go_sem]
 rw [← hw0]
 have KK := i' (And.intro k4 (And.intro k5 (And.intro k6 k7)))
 clear k4 k5 k6 k7 hw0
 refine (HA.out _).mono ?_
 rintro en wa ⟨rfl, hba⟩
 have HB1 := i' (chain hb0.out hba)
 have HC1 := i' (HC0.out.below hba)
 have HB2 := i' hba
 clear hba
 go_wp2_with fail
 refine (k'cp c rb rs rc e _ HC1.out).mono ?_
 rintro en wb ⟨rfl, hk1, hk2⟩
 rw [← HE.out] at hk2
 have k4 := hk1.cell (keep1 HB2.out KK.out.1) n1
 have k5 := hk1.cell (keep1 HB2.out KK.out.2.1) n1
 have k6 := hk1.frozen (keep1 HB2.out KK.out.1) (keepf HB2.out KK.out.1 KK.out.2.2.1) n1
 have k7 := hk1.frozen (keep1 HB2.out KK.out.2.1) (keepf HB2.out KK.out.2.1 KK.out.2.2.2) n1
 have n2 : c ≠ w.heap.size + 1 + 1 := by omega
 have HZ := i' (((((But.of_below HB1.out).trans hk1).new (p := ⟨w.heap.size + 1 + 1, 0, none⟩) (by simp; omega) (.bool rb)).new (p := ⟨w.heap.size + 1 + 1, 1, none⟩) (by simp; omega) (.string rs)))
 have HY := i' ((hk2.other ⟨w.heap.size + 1 + 1, 0, none⟩ (.bool rb) n2).other ⟨w.heap.size + 1 + 1, 1, none⟩ (.string rs) n2)
 clear hk1 hk2 n2
 go_wp2
 exact bodyPost_ret (v := .agg #[.bool rb, .string rs]) (by simp [results, Tryz.results78, go_sem, k4, k5]) rfl ⟨rfl, HZ.out, HY.out⟩
theorem k'cr (c : Nat) (a b rb : Bool) (s t rs : ByteArray) (rc e e' : Int) (w : World) (hc : Ck w c e) (he : e' = if e = 0 then rc else e)
 (hA : ∀ w, Calls Tryz.prog 121 #[.agg #[.bool a, .string s], .agg #[.bool b, .string t]] w (WPost (.agg #[.bool rb, .string rs]) rc w)) :
 Calls Tryz.prog 79 #[.pointer (some ⟨c, 0, none⟩), .agg #[.bool a, .string s], .agg #[.bool b, .string t]] w (KPost (.agg #[.bool rb, .string rs]) c e' w) := by
 have hl := hc.lt
 have HC := i' hc
 have HA := i' hA
 have HE := i' he
 have n1 : ¬ (w.heap.size + 1 + 1 = c) := by omega
 clear hc hA he
 go_enter Tryz.func79, Tryz.ntmps79
 go_wp2_with fail
 obtain ⟨w0, hw0⟩ : ∃ w0 : World, w0 = ((w.alloc (.cells #[.bool a, .string s] 44)).alloc (.cells #[.bool b, .string t] 44)).alloc (.cells #[.bool false, .string ⟨#[]⟩] 44) := ⟨_, rfl⟩
 have hb0 : Hid (Below w.heap.size w w0) := by rw [hw0]; exact (((Below.refl _ _).alloc (Nat.le_refl _) _).alloc (by simp) _).alloc (by simp; omega) _
 have HC0 : Hid (Ck w0 c e) := by rw [hw0]; exact ((HC.out.alloc _).alloc _).alloc _
 have k4 : w0.cell? ⟨w.heap.size + 1 + 1, 0, none⟩ = some (.bool false) := by rw [hw0]; simp [go_sem]
 have k5 : w0.cell? ⟨w.heap.size + 1 + 1, 1, none⟩ = some (.string ⟨#[]⟩) := by rw [hw0]; simp [go_sem]
 have k6 : w0.frozen? ⟨w.heap.size + 1 + 1, 0, none⟩ = false := by rw [hw0]; simp [go_sem]
 have k7 : w0.frozen? ⟨w.heap.size + 1 + 1, 1, none⟩ = false := by rw [hw0]; simp [go_sem]
 rw [← hw0]
 have KK := i' (And.intro k4 (And.intro k5 (And.intro k6 k7)))
 clear k4 k5 k6 k7 hw0
 refine (HA.out _).mono ?_
 rintro en wa ⟨rfl, hba⟩
 have HB1 := i' (chain hb0.out hba)
 have HC1 := i' (HC0.out.below hba)
 have HB2 := i' hba
 clear hba
 go_wp2_with fail
 refine (k'cp c rb rs rc e _ HC1.out).mono ?_
 rintro en wb ⟨rfl, hk1, hk2⟩
 rw [← HE.out] at hk2
 have k4 := hk1.cell (keep1 HB2.out KK.out.1) n1
 have k5 := hk1.cell (keep1 HB2.out KK.out.2.1) n1
 have k6 := hk1.frozen (keep1 HB2.out KK.out.1) (keepf HB2.out KK.out.1 KK.out.2.2.1) n1
 have k7 := hk1.frozen (keep1 HB2.out KK.out.2.1) (keepf HB2.out KK.out.2.1 KK.out.2.2.2) n1
 have n2 : c ≠ w.heap.size + 1 + 1 := by omega
 have HZ := i' (((((But.of_below HB1.out).trans hk1).new (p := ⟨w.heap.size + 1 + 1, 0, none⟩) (by simp; omega) (.bool rb)).new (p := ⟨w.heap.size + 1 + 1, 1, none⟩) (by simp; omega) (.string rs)))
 have HY := i' ((hk2.other ⟨w.heap.size + 1 + 1, 0, none⟩ (.bool rb) n2).other ⟨w.heap.size + 1 + 1, 1, none⟩ (.string rs) n2)
 clear hk1 hk2 n2
 go_wp2
 exact bodyPost_ret (v := .agg #[.bool rb, .string rs]) (by simp [results, Tryz.results79, go_sem, k4, k5]) rfl ⟨rfl, HZ.out, HY.out⟩
theorem k'cs (c : Nat) (a b rb : Bool) (s t rs : ByteArray) (rc e e' : Int) (w : World) (hc : Ck w c e) (he : e' = if e = 0 then rc else e)
 (hA : ∀ w, Calls Tryz.prog 126 #[.agg #[.bool a, .string s], .agg #[.bool b, .string t]] w (WPost (.agg #[.bool rb, .string rs]) rc w)) :
 Calls Tryz.prog 89 #[.pointer (some ⟨c, 0, none⟩), .agg #[.bool a, .string s], .agg #[.bool b, .string t]] w (KPost (.agg #[.bool rb, .string rs]) c e' w) := by
 have hl := hc.lt
 have HC := i' hc
 have HA := i' hA
 have HE := i' he
 have n1 : ¬ (w.heap.size + 1 + 1 = c) := by omega
 clear hc hA he
 go_enter Tryz.func89, Tryz.ntmps89
 go_wp2_with fail
 obtain ⟨w0, hw0⟩ : ∃ w0 : World, w0 = ((w.alloc (.cells #[.bool a, .string s] 44)).alloc (.cells #[.bool b, .string t] 44)).alloc (.cells #[.bool false, .string ⟨#[]⟩] 44) := ⟨_, rfl⟩
 have hb0 : Hid (Below w.heap.size w w0) := by rw [hw0]; exact (((Below.refl _ _).alloc (Nat.le_refl _) _).alloc (by simp) _).alloc (by simp; omega) _
 have HC0 : Hid (Ck w0 c e) := by rw [hw0]; exact ((HC.out.alloc _).alloc _).alloc _
 have k4 : w0.cell? ⟨w.heap.size + 1 + 1, 0, none⟩ = some (.bool false) := by rw [hw0]; simp [go_sem]
 have k5 : w0.cell? ⟨w.heap.size + 1 + 1, 1, none⟩ = some (.string ⟨#[]⟩) := by rw [hw0]; simp [go_sem]
 have k6 : w0.frozen? ⟨w.heap.size + 1 + 1, 0, none⟩ = false := by rw [hw0]; simp [go_sem]
 have k7 : w0.frozen? ⟨w.heap.size + 1 + 1, 1, none⟩ = false := by rw [hw0]; simp [go_sem]
 rw [← hw0]
 have KK := i' (And.intro k4 (And.intro k5 (And.intro k6 k7)))
 clear k4 k5 k6 k7 hw0
 refine (HA.out _).mono ?_
 rintro en wa ⟨rfl, hba⟩
 have HB1 := i' (chain hb0.out hba)
 have HC1 := i' (HC0.out.below hba)
 have HB2 := i' hba
 clear hba
 go_wp2_with fail
 refine (k'cp c rb rs rc e _ HC1.out).mono ?_
 rintro en wb ⟨rfl, hk1, hk2⟩
 rw [← HE.out] at hk2
 have k4 := hk1.cell (keep1 HB2.out KK.out.1) n1
 have k5 := hk1.cell (keep1 HB2.out KK.out.2.1) n1
 have k6 := hk1.frozen (keep1 HB2.out KK.out.1) (keepf HB2.out KK.out.1 KK.out.2.2.1) n1
 have k7 := hk1.frozen (keep1 HB2.out KK.out.2.1) (keepf HB2.out KK.out.2.1 KK.out.2.2.2) n1
 have n2 : c ≠ w.heap.size + 1 + 1 := by omega
 have HZ := i' (((((But.of_below HB1.out).trans hk1).new (p := ⟨w.heap.size + 1 + 1, 0, none⟩) (by simp; omega) (.bool rb)).new (p := ⟨w.heap.size + 1 + 1, 1, none⟩) (by simp; omega) (.string rs)))
 have HY := i' ((hk2.other ⟨w.heap.size + 1 + 1, 0, none⟩ (.bool rb) n2).other ⟨w.heap.size + 1 + 1, 1, none⟩ (.string rs) n2)
 clear hk1 hk2 n2
 go_wp2
 exact bodyPost_ret (v := .agg #[.bool rb, .string rs]) (by simp [results, Tryz.results89, go_sem, k4, k5]) rfl ⟨rfl, HZ.out, HY.out⟩
def clip (z : Int) : Int := if z.natAbs < Top then z else 0
def er (e z : Int) : Int := if e = 0 then (if z.natAbs < Top then 0 else 7) else e
theorem er_ok (e : Int) {z : Int} (h : z.natAbs < Top) : er e z = e := by unfold er; rw [if_pos h]; split <;> omega
theorem k'ct {z : Int} (h : z.natAbs < Top) : clip z = z := if_pos h
theorem k'cu (a : Bool) (m : Nat) : wres a m = Z (clip (sg a m)) := by
 unfold wres clip
 rw [k'9w]
 split
 ·exact wd_sg a m
 ·exact wd_sg false 0
theorem er_z (e : Int) (a : Bool) (m : Nat) : er e (sg a m) = if e = 0 then werr m else e := by unfold er werr; rw [k'9w]
theorem k'cv (c : Nat) (x y e : Int) (w : World) (hc : Ck w c e) (hx : x.natAbs < Top) (hy : y.natAbs < Top) :
 Calls Tryz.prog 78 #[.pointer (some ⟨c, 0, none⟩), Z x, Z y] w (KPost (Z (clip (x + y))) c (er e (x + y)) w) := by
 refine k'cq c _ _ _ _ _ _ (werr (pls (zb x) (bv (zs x)) (zb y) (bv (zs y))).2) e _ w hc ?_ fun w => ?_
 ·rw [← er_z e (pls (zb x) (bv (zs x)) (zb y) (bv (zs y))).1, k'9s, sgzz, sgzz]
 ·have h1 := k'4b (zb x) (zb y) (zs x) (zs y) w (zvt hx) (zvt hy)
  rw [k'cu, k'9s, sgzz, sgzz] at h1
  exact h1
theorem k'cw (c : Nat) (x y e : Int) (w : World) (hc : Ck w c e) (hx : x.natAbs < Top) (hy : y.natAbs < Top) :
 Calls Tryz.prog 79 #[.pointer (some ⟨c, 0, none⟩), Z x, Z y] w (KPost (Z (clip (x - y))) c (er e (x - y)) w) := by
 refine k'cr c _ _ _ _ _ _ (werr (pls (zb x) (bv (zs x)) (!(zb y)) (bv (zs y))).2) e _ w hc ?_ fun w => ?_
 ·rw [← er_z e (pls (zb x) (bv (zs x)) (!(zb y)) (bv (zs y))).1, k'9s, k'9u, sgzz, sgzz, Int.sub_eq_add_neg]
 ·have h1 := k'9p (zb x) (zb y) (zs x) (zs y) w (zvt hx) (zvt hy)
  rw [k'cu, k'9s, k'9u, sgzz, sgzz, ← Int.sub_eq_add_neg] at h1
  exact h1
theorem k'cx {r : Value} {c : Nat} {e : Int} {w : World} (hc : Ck w c e) : ∀ en w', KPost r c e w en w' → Ret r w en w' := fun _ _ ⟨h1, h2, h3⟩ => ⟨h1, h2.below hc h3⟩
theorem k'cy (e : Int) : e = if e = 0 then 0 else e := by split <;> omega
theorem k'cz (c : Nat) (x y e : Int) (w : World) (hc : Ck w c e) (hx : x.natAbs < Top) (hy : y.natAbs < Top) (h : (x + y).natAbs < Top) :
 Calls Tryz.prog 78 #[.pointer (some ⟨c, 0, none⟩), Z x, Z y] w (Ret (Z (x + y)) w) :=
 (k'cq c _ _ _ _ _ _ 0 e e w hc (k'cy e) fun w => k'bw x y w hx hy h).mono (k'cx hc)
theorem k'd0 (c : Nat) (x y e : Int) (w : World) (hc : Ck w c e) (hx : x.natAbs < Top) (hy : y.natAbs < Top) (h : (x - y).natAbs < Top) :
 Calls Tryz.prog 79 #[.pointer (some ⟨c, 0, none⟩), Z x, Z y] w (Ret (Z (x - y)) w) :=
 (k'cr c _ _ _ _ _ _ 0 e e w hc (k'cy e) fun w => k'bx x y w hx hy h).mono (k'cx hc)
theorem k'd1 (c : Nat) (x y e : Int) (w : World) (hc : Ck w c e) (hx : x.natAbs < Top) (hy : y.natAbs < Top) (h : (x * y).natAbs < Top) :
 Calls Tryz.prog 89 #[.pointer (some ⟨c, 0, none⟩), Z x, Z y] w (Ret (Z (x * y)) w) :=
 (k'cs c _ _ _ _ _ _ 0 e e w hc (k'cy e) fun w => k'by x y w hx hy h).mono (k'cx hc)
def lastOK (L : List (Bool × ByteArray)) : Bool := match L.getLast? with
 | none => true
 | some x => sgV x.1 x.2 != 0
def vldP (L : List (Bool × ByteArray)) : Bool := decide (L.length ≤ 25) && (L.all (fun x => vld x.1 x.2) && lastOK L)
theorem k'd2 {L : List (Bool × ByteArray)} {p : Bool × ByteArray → Bool} {k : Nat} (hk : k < L.length) (h : p L[k] = false) : L.all p = false := by
 rw [List.all_eq_false]
 exact ⟨_, List.getElem_mem hk, by simp [h]⟩
theorem k'd3 {L : List (Bool × ByteArray)} {p : Bool × ByteArray → Bool} (h : ∀ k (hk : k < L.length), p L[k] = true) : L.all p = true := by
 rw [List.all_eq_true]
 intro x hx
 obtain ⟨k, hk, rfl⟩ := List.mem_iff_getElem.1 hx
 exact h k hk
theorem k'd4 (L : List (Bool × ByteArray)) (v : Value) (w : World) (h : Rw w v L) (hz : ∀ x ∈ L, x.2.size ≤ 140737488351232) (h25 : L.length ≤ 25) :
 Calls Tryz.prog 15 #[v] w (BPost (vldP L) w) := by
 obtain ⟨p, b, off, cap, rfl, h2, h3, h4, h5⟩ := h
 have HV := i' (fun k (hk : k < L.length) w => k'3z L[k].1 L[k].2 w (hz _ (List.getElem_mem hk)))
 have HS := i' (fun k (hk : k < L.length) w => k'4k L[k].1 L[k].2 w (hz _ (List.getElem_mem hk)))
 have H4 := i' h4
 have H5 := i' h5
 have HE : Hid (vldP L = (L.all (fun x => vld x.1 x.2) && lastOK L)) := by show _ = _; unfold vldP; rw [decide_eq_true h25]; rfl
 have HLast : Hid (∀ h0 : 0 < L.length, lastOK L = (sgV (L[L.length - 1]).1 (L[L.length - 1]).2 != 0)) := fun h0 => by
  unfold lastOK; rw [List.getLast?_eq_getElem?, List.getElem?_eq_getElem (by omega)]
 have HNil : Hid (L.length = 0 → lastOK L = true) := fun h0 => by rw [List.eq_nil_of_length_eq_zero h0]; rfl
 generalize vldP L = res at *
 clear h4 h5 hz h2 h3
 obtain ⟨n, hn⟩ : ∃ n, n = L.length := ⟨_, rfl⟩
 rw [← hn]
 have hb25 : n ≤ 25 := by omega
 have HN := i' hn
 clear hn
 go_enter Tryz.func15, Tryz.ntmps15
 go_wp2
 go_loopw [4, 10] (fun _ iv wr => ∃ (wz : World) (k : Nat), wz = wr ∧ k ≤ n ∧ iv = .int .i64 (k : Int) ∧ Hid (∀ j (hj : j < L.length), j < k → vld L[j].1 L[j].2 = true) ∧ Hid (Below w.heap.size w wz))
  (fun _ iv _ => n - (intOf iv).toNat)
 case atStart => exact ⟨w, 0, rfl, Nat.zero_le _, rfl, fun j _ hj => absurd hj (Nat.not_lt_zero _), Below.refl _ _⟩
 case round =>
  obtain ⟨wz, k, rfl, hk, rfl, hall, hbl⟩ := hrel
  by_cases hlt : k < n
  ·have hkl : k < L.length := by have h5 : n = L.length := HN.out; omega
   obtain ⟨a, s, hL⟩ : ∃ a s, L[k] = (a, s) := ⟨_, _, rfl⟩
   obtain rfl := H4.out (by intro e; rw [e] at hkl; exact absurd hkl (Nat.not_lt_zero _))
   have c0 : wz.cell? ⟨b, off + k * 2, none⟩ = some (.bool a) := by
    have := keep1 hbl.out (H5.out k hkl).1
    simpa [hL] using this
   have c1 : wz.cell? ⟨b, off + k * 2 + 1, none⟩ = some (.string s) := by
    have := keep1 hbl.out (H5.out k hkl).2
    simpa [hL] using this
   have HVk : Hid (∀ w, Calls Tryz.prog 69 #[.agg #[.bool a, .string s]] w (BPost (vld a s) w)) := by
    have := HV.out k hkl
    rw [hL] at this
    exact this
   have hR : Hid (vld a s = true → ∀ j (hj : j < L.length), j < k + 1 → vld L[j].1 L[j].2 = true) := by
    intro hs j hj hjk
    rcases Nat.lt_or_ge j k with g | g
    ·exact hall.out j hj g
    ·obtain rfl : j = k := by omega
     rw [hL]; exact hs
   have hF : Hid (vld a s = false → res = false) := fun hs => by
    rw [HE.out, k'd2 (p := fun x => vld x.1 x.2) hkl (by rw [hL]; exact hs)]; rfl
   have HB2 := i' (hbl.out.alloc hbl.out.size (.cells #[.bool a, .string s] 44))
   clear hkl hL hall
   by_cases hsz : vld a s = true
   ·have HR := i' (hR.out hsz)
    rw [hsz] at HVk
    clear hR hF hsz
    go_wp2_with fail
    refine (HVk.out _).mono ?_
    rintro e w5 ⟨rfl, b5⟩
    have HB2 := i' (chain HB2.out b5)
    clear b5
    go_wp2
    go_roundw
    case rel => exact ⟨_, k + 1, rfl, by omega, by go_num, HR.out, HB2⟩
    case measure => simp [intOf]; omega
   ·rw [Bool.not_eq_true] at hsz
    have HF := i' (hF.out hsz)
    rw [hsz] at HVk
    clear hR hF hsz
    go_wp2_with fail
    refine (HVk.out _).mono ?_
    rintro e w5 ⟨rfl, b5⟩
    have HB2 := i' (chain HB2.out b5)
    clear b5
    go_wp2
    go_ret
    exact ⟨by rw [HF.out]; rfl, HB2.out⟩
  ·have HA : Hid (res = lastOK L) := by
    show _ = _
    rw [HE.out, k'd3 (fun j hj => hall.out j hj (by have h5 : n = L.length := HN.out; omega))]; rfl
   clear hall
   rcases Nat.eq_zero_or_pos n with h0 | h0
   ·subst h0
    have HT : Hid (res = true) := by show _ = _; rw [HA.out]; exact HNil.out HN.out.symm
    go_wp2
    go_ret
    exact ⟨by rw [HT.out]; rfl, hbl.out⟩
   ·obtain ⟨m, rfl⟩ : ∃ m, n = m + 1 := ⟨n - 1, by omega⟩
    have hml : m < L.length := by have h5 : m + 1 = L.length := HN.out; omega
    obtain ⟨a, s, hL⟩ : ∃ a s, L[m] = (a, s) := ⟨_, _, rfl⟩
    obtain rfl := H4.out (by intro e; rw [e] at hml; exact absurd hml (Nat.not_lt_zero _))
    have c0 : wz.cell? ⟨b, off + m * 2, none⟩ = some (.bool a) := by
     have := keep1 hbl.out (H5.out m hml).1
     simpa [hL] using this
    have c1 : wz.cell? ⟨b, off + m * 2 + 1, none⟩ = some (.string s) := by
     have := keep1 hbl.out (H5.out m hml).2
     simpa [hL] using this
    have HSk : Hid (∀ w, Calls Tryz.prog 70 #[.agg #[.bool a, .string s]] w (IPost (sgV a s) w)) := by
     have := HS.out m hml
     rw [hL] at this
     exact this
    have HT : Hid (res = (sgV a s != 0)) := by
     show _ = _
     rw [HA.out, HLast.out (by omega)]
     have e : L.length - 1 = m := by have h5 : m + 1 = L.length := HN.out; omega
     simp only [e, hL]
    have hne : ¬ (m + 1 = 0) := by omega
    clear hml hL h0 HA
    generalize sgV a s = sv at *
    by_cases hs0 : sv = 0
    ·subst hs0
     go_wp2_with fail
     refine (HSk.out _).mono ?_
     rintro e w5 ⟨rfl, b5⟩
     have HB2 := i' (chain hbl.out b5)
     clear b5
     go_wp2
     go_ret
     exact ⟨by rw [HT.out]; rfl, HB2.out⟩
    ·have hs1 : (sv == 0) = false := by simpa using hs0
     have hs2 : (sv != 0) = true := by simpa using hs0
     rw [hs2] at HT
     clear hs0
     go_wp2_with fail
     refine (HSk.out _).mono ?_
     rintro e w5 ⟨rfl, b5⟩
     have HB2 := i' (chain hbl.out b5)
     clear b5
     go_wp2
     go_ret
     exact ⟨by rw [HT.out]; rfl, HB2.out⟩
theorem k'd5 (L : List (Bool × ByteArray)) (v : Value) (w : World) (h : Rw w v L) (h25 : 25 < L.length) :
 Calls Tryz.prog 15 #[v] w (BPost (vldP L) w) := by
 obtain ⟨p, b, off, cap, rfl, h2, h3, h4, h5⟩ := h
 have HE : Hid (vldP L = false) := by show _ = _; unfold vldP; rw [decide_eq_false (by omega)]; rfl
 generalize vldP L = res at *
 unfold maxLen at h3
 have hl : L.length ≤ 9223372036854775807 := by omega
 clear h4 h5 h2 h3
 generalize L.length = n at *
 go_enter Tryz.func15, Tryz.ntmps15
 go_wp2
 go_ret
 exact ⟨by rw [HE.out]; rfl, Below.refl _ _⟩
def Small (L : List (Bool × ByteArray)) : Prop := ∀ x ∈ L, x.2.size ≤ 140737488351232
theorem k'd6 (L : List (Bool × ByteArray)) (v : Value) (w : World) (h : Rw w v L) (hz : Small L) : Calls Tryz.prog 15 #[v] w (BPost (vldP L) w) := by
 rcases Nat.lt_or_ge 25 L.length with g | g
 ·exact k'd5 L v w h g
 ·exact k'd4 L v w h hz g
structure VP (p : List Int) : Prop where
 nrm : Pl.Nrm p
 len : p.length ≤ 25
 top : ∀ a ∈ p, a.natAbs < Top
theorem k'd7 {p : List Int} (h : ∀ a ∈ p, a.natAbs < Top) : Small (zl p) := by
 intro x hx
 obtain ⟨z, hz, rfl⟩ := List.mem_map.1 hx
 exact Nat.le_trans (k'5t (h z hz)) (by decide)
theorem k'd8 {p : List Int} (h : ∀ a ∈ p, a.natAbs < Top) : lastOK (zl p) = true ↔ Pl.Nrm p := by
 unfold lastOK
 rw [List.getLast?_eq_getElem?]
 by_cases h0 : p = []
 ·subst h0; simp [zl, Pl.nrm_nil]
 ·have h1 := List.length_pos_iff.2 h0
  have h2 : p.length - 1 < p.length := by omega
  have e : (zl p).length - 1 = p.length - 1 := by rw [k'cc]
  rw [e, List.getElem?_eq_getElem (by rw [k'cc]; exact h2), k'cd _ _ h2]
  simp only [sgV_z (h _ (List.getElem_mem h2))]
  constructor
  ·intro hs _ h3
   rw [h3] at hs
   simp at hs
  ·intro hn
   have := hn h1
   simpa [Int.sign_eq_zero_iff_zero] using this
theorem VP.ok {p : List Int} (h : VP p) : vldP (zl p) = true := by
 unfold vldP
 have h1 : (zl p).length ≤ 25 := by rw [k'cc]; exact h.len
 have h2 : ((zl p).all fun x => vld x.1 x.2) = true := by
  rw [List.all_eq_true]
  intro x hx
  obtain ⟨z, hz, rfl⟩ := List.mem_map.1 hx
  exact k'5s (h.top z hz)
 rw [decide_eq_true h1, h2, (k'd8 h.top).2 h.nrm]; rfl
theorem VP.of {L : List (Bool × ByteArray)} (h : vldP L = true) : ∃ p, VP p ∧ L = zl p := by
 unfold vldP at h
 simp only [Bool.and_eq_true, decide_eq_true_eq] at h
 obtain ⟨h1, h2, h3⟩ := h
 have h4 : ∀ x ∈ L, vld x.1 x.2 = true := List.all_eq_true.1 h2
 have e : L = zl (L.map fun x => sg x.1 (bv x.2)) := by
  unfold zl
  rw [List.map_map]
  conv => lhs; rw [← List.map_id L]
  apply List.map_congr_left
  intro x hx
  have := zb_sg (h4 x hx)
  simp only [Function.comp, id]
  rw [this.1, this.2]
 have ht : ∀ a ∈ L.map (fun x => sg x.1 (bv x.2)), a.natAbs < Top := by
  intro a ha
  obtain ⟨x, hx, rfl⟩ := List.mem_map.1 ha
  rw [k'9w]
  exact bv_lt (h4 x hx)
 refine ⟨_, ⟨?_, by simpa using h1, ht⟩, e⟩
 rw [e] at h3
 exact (k'd8 ht).1 h3
theorem k'd9 (p : List Int) (v : Value) (w : World) (h : Rp w v p) (hp : VP p) : Calls Tryz.prog 15 #[v] w (BPost true w) := by
 have := k'd6 (zl p) v w h (k'd7 hp.top)
 rwa [hp.ok] at this
theorem k'da (L : List (Bool × ByteArray)) (v : Value) (w : World) (h : Rw w v L) : Calls Tryz.prog 67 #[v] w (IPost ((L.length : Int) - 1) w) := by
 obtain ⟨p, b, off, cap, rfl, h2, h3, h4, h5⟩ := h
 unfold maxLen at h3
 have hl : L.length ≤ 9223372036854775807 := by omega
 clear h4 h5 h2 h3
 generalize L.length = n at *
 go_enter Tryz.func67, Tryz.ntmps67
 go_wp2
 go_ret
 exact ⟨rfl, Below.refl _ _⟩
def glb (L : List (Bool × ByteArray)) : Int := L.foldl (fun m x => max m (lenV x.1 x.2)) 0
theorem k'db (L : List (Bool × ByteArray)) (x : Bool × ByteArray) : glb (L ++ [x]) = max (glb L) (lenV x.1 x.2) := by simp [glb]
theorem k'dc (L : List (Bool × ByteArray)) (v : Value) (w : World) (h : Rw w v L) (hz : Small L) : Calls Tryz.prog 68 #[v] w (IPost (glb L) w) := by
 have hl := h.len
 obtain ⟨p, b, off, cap, rfl, h2, h3, h4, h5⟩ := h
 have HV := i' (fun k (hk : k < L.length) w => k'44 L[k].1 L[k].2 w (hz _ (List.getElem_mem hk)))
 have H4 := i' h4
 have H5 := i' h5
 have HE : Hid (glb (L.take L.length) = glb L) := by show _ = _; rw [List.take_length]
 have H0 : Hid (glb (L.take 0) = 0) := by show _ = _; simp [glb]
 clear h4 h5 hz h2 h3
 obtain ⟨n, hn⟩ : ∃ n, n = L.length := ⟨_, rfl⟩
 rw [← hn] at hl ⊢ HE
 have HN := i' hn
 clear hn
 go_enter Tryz.func68, Tryz.ntmps68
 go_wp2
 go_loopw [3, 5, 8] (fun mv _ iv wr => ∃ (wz : World) (k : Nat), wz = wr ∧ k ≤ n ∧ iv = .int .i64 (k : Int) ∧ mv = .int .i64 (glb (L.take k)) ∧ Hid (Below w.heap.size w wz))
  (fun _ _ iv _ => n - (intOf iv).toNat)
 case atStart => exact ⟨w, 0, rfl, Nat.zero_le _, rfl, by rw [H0.out], Below.refl _ _⟩
 case round =>
  obtain ⟨wz, k, rfl, hk, rfl, rfl, hbl⟩ := hrel
  by_cases hlt : k < n
  ·have hkl : k < L.length := by have h5 : n = L.length := HN.out; omega
   obtain ⟨a, s, hL⟩ : ∃ a s, L[k] = (a, s) := ⟨_, _, rfl⟩
   obtain rfl := H4.out (by intro e; rw [e] at hkl; exact absurd hkl (Nat.not_lt_zero _))
   have c0 : wz.cell? ⟨b, off + k * 2, none⟩ = some (.bool a) := by
    have := keep1 hbl.out (H5.out k hkl).1
    simpa [hL] using this
   have c1 : wz.cell? ⟨b, off + k * 2 + 1, none⟩ = some (.string s) := by
    have := keep1 hbl.out (H5.out k hkl).2
    simpa [hL] using this
   have HVk : Hid (∀ w, Calls Tryz.prog 115 #[.agg #[.bool a, .string s]] w (IPost (lenV a s) w)) := by
    have := HV.out k hkl
    rw [hL] at this
    exact this
   have HS : Hid (glb (L.take (k + 1)) = max (glb (L.take k)) (lenV a s)) := by
    show _ = _
    rw [List.take_succ_eq_append_getElem hkl, k'db, hL]
   have HB2 := i' (hbl.out.alloc hbl.out.size (.cells #[.bool a, .string s] 44))
   clear hkl hL
   generalize lenV a s = lv at *
   generalize glb (L.take k) = gk at *
   go_wp2_with fail
   refine (HVk.out _).mono ?_
   rintro e w5 ⟨rfl, b5⟩
   have HB3 := i' (chain HB2.out b5)
   clear b5
   go_wp2
   all_goals
    go_roundw
    case rel => exact ⟨_, k + 1, rfl, by omega, by go_num, by rw [HS.out], HB3⟩
    case measure => simp [intOf]; omega
  ·obtain rfl : k = n := by omega
   go_wp2
   go_ret
   exact ⟨by rw [HE.out]; rfl, hbl.out⟩
def RP (w : World) (v : Value) (p : List Int) : Prop :=
 ∃ (a : Option Addr) (b off cap : Nat), v = .slice a p.length cap ∧ p.length ≤ cap ∧ cap ≤ maxLen ∧ (p ≠ [] → a = some ⟨b, off, none⟩) ∧
  ∀ k (h : k < p.length), ∃ u, w.cell? ⟨b, off + k * 2, none⟩ = some (.bool (decide (p[k] < 0))) ∧ w.cell? ⟨b, off + k * 2 + 1, none⟩ = some u ∧ Rz w u p[k]
theorem Rz.below {w w' : World} {v : Value} {z : Int} (h : Rz w v z) (hb : Below w.heap.size w w') : Rz w' v z := Ri.below h hb (Nat.le_refl _)
theorem RP.below {w w' : World} {v : Value} {p : List Int} (h : RP w v p) (hb : Below w.heap.size w w') : RP w' v p := by
 obtain ⟨a, b, off, cap, h1, h2, h3, h4, h5⟩ := h
 refine ⟨a, b, off, cap, h1, h2, h3, h4, fun k hk => ?_⟩
 obtain ⟨u, g1, g2, g3⟩ := h5 k hk
 exact ⟨u, k'd hb g1, k'd hb g2, g3.below hb⟩
theorem RP.nil (w : World) : RP w (.slice none 0 0) [] := ⟨none, 0, 0, 0, rfl, by simp, by simp, fun h => absurd rfl h, fun k h => absurd h (by simp)⟩
theorem RP.len {w : World} {v : Value} {p : List Int} (h : RP w v p) : p.length ≤ 9223372036854775807 := by
 obtain ⟨a, b, off, cap, h1, h2, h3, h4, h5⟩ := h
 unfold maxLen at h3
 omega
theorem RP.take {w : World} {a : Option Addr} {n cap : Nat} {p : List Int} (h : RP w (.slice a n cap) p) (m : Nat) (hm : m ≤ n) : RP w (.slice a m cap) (p.take m) := by
 obtain ⟨a', b, off, cap', h1, h2, h3, h4, h5⟩ := h
 injection h1 with e1 e2 e3
 subst e1 e2 e3
 have e : (p.take m).length = m := by simp; omega
 refine ⟨a, b, off, cap, by rw [e], by omega, h3, fun hne => h4 (fun e0 => hne (by rw [e0]; simp)), fun k hk => ?_⟩
 rw [e] at hk
 obtain ⟨u, g1, g2, g3⟩ := h5 k (by omega)
 exact ⟨u, by simpa using g1, g2, by simpa using g3⟩
def rv : List Int → List Value → List Value
 | z :: p, u :: us => .bool (decide (z < 0)) :: u :: rv p us
 | _, _ => []
theorem k'de {p : List Int} {us : List Value} (h : us.length = p.length) (z : Int) (u : Value) : rv (p ++ [z]) (us ++ [u]) = rv p us ++ [.bool (decide (z < 0)), u] := by
 induction p generalizing us with
 | nil => cases us with
  | nil => rfl
  | cons u us => simp at h
 | cons y p ih =>
  cases us with
  | nil => simp at h
  | cons x us => simp only [List.cons_append, rv]; rw [ih (by simpa using h)]
theorem k'df {p : List Int} {us : List Value} (h : us.length = p.length) (k : Nat) (hk : k < p.length) : (rv p us)[k * 2]? = some (.bool (decide (p[k] < 0))) ∧ (rv p us)[k * 2 + 1]? = some us[k] := by
 induction p generalizing us k with
 | nil => simp at hk
 | cons y p ih =>
  cases us with
  | nil => simp at h
  | cons x us =>
   cases k with
   | zero => simp [rv]
   | succ k =>
    have h2 : us.length = p.length := by simpa using h
    obtain ⟨g1, g2⟩ := ih h2 k (by simpa using hk)
    rw [show (k + 1) * 2 = k * 2 + 1 + 1 by omega]
    simp only [rv, List.getElem?_cons_succ, List.getElem_cons_succ]
    exact ⟨g1, g2⟩
def RowP (w : World) (B : Nat) (v : Value) (p : List Int) : Prop :=
 ∃ us : List Value, us.length = p.length ∧ w.ownsRow B 52 2 v p.length (rv p us) ∧ ∀ k (h : k < us.length) (h2 : k < p.length), Rz w us[k] p[k]
theorem RowP.nil (w : World) (B : Nat) : RowP w B (.slice none 0 0) [] := ⟨[], rfl, ⟨by simp [rv], .inl ⟨rfl, rfl⟩⟩, fun k h => absurd h (by simp)⟩
theorem RowP.rp {w : World} {B : Nat} {v : Value} {p : List Int} (h : RowP w B v p) : RP w v p := by
 obtain ⟨us, hl, ho, hz⟩ := h
 rcases ho.2 with ⟨rfl, h0⟩ | ⟨g, cap, cur, rfl, hB, hg, hn, hm, hs, ht⟩
 ·obtain rfl := List.eq_nil_of_length_eq_zero h0; exact RP.nil w
 ·refine ⟨some ⟨g, 0, none⟩, g, 0, cap, rfl, hn, hm, fun _ => rfl, fun k hk => ⟨us[k], ?_, ?_, hz k (by omega) hk⟩⟩
  ·have := ho.cells (g := g) rfl (k * 2) _ (k'df hl k hk).1
   have hadd : ((⟨g, 0, none⟩ : Addr).add (k * 2)) = ⟨g, 0 + k * 2, none⟩ := by unfold Addr.add; split <;> simp_all
   rwa [hadd] at this
  ·have := ho.cells (g := g) rfl (k * 2 + 1) _ (k'df hl k hk).2
   have hadd : ((⟨g, 0, none⟩ : Addr).add (k * 2 + 1)) = ⟨g, 0 + (k * 2 + 1), none⟩ := by unfold Addr.add; split <;> simp_all
   rw [hadd] at this
   simpa [Nat.add_assoc] using this
theorem Rz.grown {w w1 : World} {u : Value} {z : Int} {row : Option Nat} (h : Rz w u z) (hg : w.grownBy w1 row) (hr : ∀ r, row = some r → ¬ IntB w r) : Rz w1 u z := by
 obtain ⟨p, b, off, cap, h1, h2, h3, h4, h5, h6⟩ := h
 rcases h5 with ⟨rfl, h5⟩ | ⟨rfl, h5⟩
 ·refine ⟨none, b, off, cap, h1, h2, h3, h4, Or.inl ⟨rfl, h5⟩, fun k hk => ?_⟩
  omega
 ·have hb : w1.heap[b]? = w.heap[b]? := hg.block b h5.1 (fun e => hr b e.symm h5)
  refine ⟨_, b, off, cap, h1, h2, h3, h4, Or.inr ⟨rfl, h5.keep hg.size hb⟩, fun k hk => ?_⟩
  rw [World.cell?_of_block (a := ⟨b, off + k, none⟩) hb]
  exact h6 k hk
theorem k'dg {w : World} {B n : Nat} {v : Value} {xs : List Value} (h : w.ownsRow B 52 2 v n xs) : ∀ r, v.ownBlock = some r → ¬ IntB w r := by
 rintro r hr ⟨_, cur', fz, hi⟩
 rcases h.2 with ⟨rfl, _⟩ | ⟨g, cap, cur, rfl, hB, hg, _⟩
 ·exact absurd hr (by simp [Value.ownBlock])
 ·have e : g = r := by simpa [Value.ownBlock] using hr
  subst e
  rw [hg] at hi
  injection hi with hi
  injection hi with _ h2 _
  exact absurd h2 (by decide)
theorem RowP.snoc {w w1 : World} {B : Nat} {v v' u : Value} {p : List Int} {us : List Value} {z : Int} (hl : us.length = p.length) (ho : w.ownsRow B 52 2 v p.length (rv p us)) (hz : ∀ k (h : k < us.length) (h2 : k < p.length), Rz w us[k] p[k])
 (hg : w.grownBy w1 v.ownBlock) (ho' : w1.ownsRow B 52 2 v' (p.length + 1) (rv p us ++ [.bool (decide (z < 0)), u])) (hu : Rz w u z) : RowP w1 B v' (p ++ [z]) := by
 have hn := k'dg ho
 refine ⟨us ++ [u], by simp [hl], by rw [k'de hl]; simpa using ho', fun k hk hk2 => ?_⟩
 by_cases e : k < us.length
 ·rw [List.getElem_append_left e, List.getElem_append_left (by omega)]
  exact (hz k e (by omega)).grown hg hn
 ·have e2 : k = us.length := by simp at hk; omega
  subst e2
  have e3 : (us ++ [u])[us.length]'hk = u := by simp
  have e4 : (p ++ [z])[us.length]'hk2 = z := by simp [hl]
  rw [e3, e4]
  exact hu.grown hg hn
theorem RowP.below {w w' : World} {B : Nat} {v : Value} {p : List Int} (h : RowP w B v p) (hb : Below w.heap.size w w') : RowP w' B v p := by
 obtain ⟨us, hl, ho, hz⟩ := h
 refine ⟨us, hl, ⟨ho.1, ?_⟩, fun k h1 h2 => (hz k h1 h2).below hb⟩
 rcases ho.2 with h0 | ⟨g, cap, cur, e, hB, hg, hn, hm, hs, ht⟩
 ·exact Or.inl h0
 ·exact Or.inr ⟨g, cap, cur, e, hB, (hb.block g (lt_of_block hg)).trans hg, hn, hm, hs, ht⟩
def RPPost (p : List Int) (w : World) (e : Ending) (w' : World) : Prop := ∃ v, e = .returned v ∧ RP w' v p ∧ Below w.heap.size w w'
theorem k'dh (v : Value) (xs : List Int) (w : World) (h : RP w v xs) : Calls Tryz.prog 75 #[v] w (RPPost (Pl.trim xs) w) := by
 have HRP := i' h
 obtain ⟨p, b, off, cap, rfl, h2, h3, h4, h6⟩ := h
 have hc := h3
 unfold maxLen at hc
 have hl : xs.length ≤ 9223372036854775807 := by omega
 have H4 := i' h4
 have H6 := i' h6
 have H23 := i' (And.intro h2 h3)
 clear h2 h3 h4 h6 hc
 go_enter Tryz.func75, Tryz.ntmps75
 go_wp2
 go_loopw [0] (fun v wr => ∃ (wz : World) (k : Nat), wz = wr ∧ k ≤ xs.length ∧ v = .slice p k cap ∧ Hid (∀ i (h : i < xs.length), k ≤ i → xs[i] = 0) ∧ Hid (Below w.heap.size w wz)) (fun v _ => lenOf v)
 case atStart => exact ⟨w, xs.length, rfl, Nat.le_refl _, rfl, fun i h hi => absurd h (by omega), Below.refl _ _⟩
 case round =>
  obtain ⟨wz, k, rfl, hk, rfl, hz, hbl⟩ := hrel
  have hgive : ∀ n, n ≤ xs.length → Pl.trim xs = xs.take n → RP wz (.slice p n cap) (Pl.trim xs) := by
   intro n hn e
   rw [e]
   exact RP.take (HRP.out.below hbl.out) n hn
  have HG := i' hgive
  clear hgive
  rcases Nat.eq_zero_or_pos k with h0 | h0
  ·subst h0
   have e0 : Hid (Pl.trim xs = xs.take 0) := Pl.trim_take (Nat.zero_le _) (fun i h _ => hz.out i h (Nat.zero_le _)) (by rw [List.take_zero]; exact Pl.nrm_nil)
   go_wp2
   go_ret
   exact ⟨_, rfl, HG.out 0 (Nat.zero_le _) e0.out, hbl.out⟩
  ·obtain ⟨j, rfl⟩ : ∃ j, k = j + 1 := ⟨k - 1, by omega⟩
   have hj : j < xs.length := by omega
   obtain rfl := H4.out (by intro e; rw [e] at hj; exact absurd hj (Nat.not_lt_zero _))
   obtain ⟨u, g0, g1, g2⟩ := H6.out j hj
   have c0 := keep1 hbl.out g0
   have c1 := keep1 hbl.out g1
   have HS := i' (k'7a xs[j] u wz (g2.below hbl.out))
   unfold iV at HS
   have hjc : j ≤ cap := by have := H23.out.1; omega
   clear g0 g1 g2
   by_cases hv : xs[j] = 0
   ·have HV := i' hv
    rw [hv] at HS c0
    have e0 : Hid ((0 : Int).sign = 0) := rfl
    rw [e0.out] at HS
    clear hv e0
    go_wp2_with fail
    refine HS.out.mono ?_
    rintro e w5 ⟨rfl, b5⟩
    have HB2 := i' (chain hbl.out b5)
    clear b5 c0 c1
    go_wp2
    go_roundw
    case rel =>
     refine ⟨_, j, rfl, by omega, rfl, fun i h hi => ?_, HB2⟩
     rcases Nat.lt_or_ge j i with g | g
     ·exact hz.out i h g
     ·obtain rfl : i = j := by omega
      exact HV.out
    case measure => simp [lenOf]
   ·have e0 : Hid (Pl.trim xs = xs.take (j + 1)) := Pl.trim_take hk hz.out (Pl.nrm_take_last hj hv)
    have hsg : (xs[j].sign == 0) = false := by simpa [Int.sign_eq_zero_iff_zero] using hv
    have HGV := i' (HG.out (j + 1) hk e0.out)
    clear hv
    generalize xs[j].sign = sv at *
    generalize decide (xs[j] < 0) = db at *
    go_wp2_with fail
    refine HS.out.mono ?_
    rintro e w5 ⟨rfl, b5⟩
    have HB2 := i' (chain hbl.out b5)
    have HB3 := i' b5
    clear b5 c0 c1
    go_wp2
    go_ret
    exact ⟨_, rfl, HGV.out.below HB3.out, HB2.out⟩
end Go.Proofs.YtepddegphdlbeaaGreat
