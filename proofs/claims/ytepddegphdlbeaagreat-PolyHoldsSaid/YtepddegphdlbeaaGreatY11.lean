/- What the theorem leans on, part Y11. -/
import Derived.Test.YtepddegphdlbeaaGreatY10
import Derived.Test.YtepddegphdlbeaaGreatY7
import Derived.Test.YtepddegphdlbeaaGreatY4
import Derived.Test.YtepddegphdlbeaaGreatY3
import Derived.Test.YtepddegphdlbeaaGreatY2
import Derived.Test.YtepddegphdlbeaaGreatY1
import Derived.Test.YtepddegphdlbeaaGreatY0
import Derived.Test.YtepddegphdlbeaaGreatProg
import Derived.WalkKit
import Derived.WalkSpells
import Derived.WalkLawsBesides
import Derived.Lib.Hide
import Derived.Deep.QuietTactic
import Derived.BigQuiet
import Derived.Shelf.Small.Bits
import Derived.Shelf.Small.Wraps
import Derived.Shelf.Strconv.Itoa0
import Derived.Shelf.Bits.Mul64
import Derived.Ground.Names2Prog
import Derived.Shelf.Slices.SearchI
import Derived.Shelf.Spec.BitsCarry
import Derived.Deep.LoopGhost
import Derived.Deep.RegionHeld3
import Derived.Deep.DeepCutAuto
import Derived.Test.YtepddegphdlbeaaGreatY6
import Derived.Test.YtepddegphdlbeaaGreatY5
import Derived.Laws.AppendOwnNone
import Derived.Test.YtepddegphdlbeaaGreatY8
import Derived.Test.YtepddegphdlbeaaGreatY9
import Derived.Below
set_option maxRecDepth 100000
set_option maxHeartbeats 16000000
set_option linter.all false
namespace Go.Proofs.YtepddegphdlbeaaGreat
namespace Pl
def shift (m : Nat) (p : List Int) : List Int := List.replicate m 0 ++ p
theorem cf_shift (m : Nat) (p : List Int) (k : Nat) : cf (shift m p) k = if m ≤ k then cf p (k - m) else 0 := by
 unfold cf shift;by_cases h : m ≤ k
 ·rw [if_pos h,List.getElem?_append_right (by simpa using h)]; simp
 ·rw [if_neg h,List.getElem?_append_left (by simp; omega),List.getElem?_replicate,if_pos (by omega)]; rfl
theorem ev_shift (m : Nat) (p : List Int) (x : Int) : ev (shift m p) x = x ^ m * ev p x := by
 induction m with
 | zero => simp [shift]
 | succ m ih =>
  have : shift (m + 1) p = 0 :: shift m p := by simp [shift,List.replicate_succ]
  rw [this,ev,ih,Int.pow_succ]; grind
def lead (q : List Int) : Int := cf q (q.length - 1)
theorem lead_ne {q : List Int} (h : Nrm q) (h0 : q ≠ []) : lead q ≠ 0 := nrm_cf h (List.length_pos_iff.2 h0)
def step (a c : Int) (q r : List Int) : List Int :=
 (List.range (r.length - 1)).map fun i => a * cf r i - (if r.length - q.length ≤ i then c * cf q (i - (r.length - q.length)) else 0)
theorem step_length (a c : Int) (q r : List Int) : (step a c q r).length = r.length - 1 := by simp [step]
theorem cf_step (a c : Int) (q r : List Int) (k : Nat) : cf (step a c q r) k = if k < r.length - 1 then a * cf r k - (if r.length - q.length ≤ k then c * cf q (k - (r.length - q.length)) else 0) else 0 := cf_map_range _ _ _
theorem step_sum {a c : Int} {q r : List Int} (hq : 0 < q.length) (hl : q.length ≤ r.length) (ht : a * lead r = c * lead q) (k : Nat) :
 a * cf r k = cf (step a c q r) k + c * cf (shift (r.length - q.length) q) k := by
 rw [cf_step,cf_shift];by_cases h : k < r.length - 1
 ·rw [if_pos h]
  split
  ·omega
  ·simp
 ·rw [if_neg h]
  by_cases h2 : k = r.length - 1
  ·subst h2
   rw [if_pos (by omega),show r.length - 1 - (r.length - q.length) = q.length - 1 by omega,Int.zero_add]
   exact ht
  ·rw [cf_ge (p := r) (by omega)]
   split
   ·rw [cf_ge (p := q) (by omega)]; simp
   ·simp
theorem step_ev {a c : Int} {q r : List Int} (hq : 0 < q.length) (hl : q.length ≤ r.length) (ht : a * lead r = c * lead q) (x : Int) :
 a * ev r x = ev (step a c q r) x + c * x ^ (r.length - q.length) * ev q x := by
 have h1 := k'dt (p := scl a r) (q := add (step a c q r) (scl c (shift (r.length - q.length) q))) (fun k => by rw [cf_scl,cf_add,cf_scl]; exact step_sum hq hl ht k) x
 rw [ev_scl,ev_add,ev_scl,ev_shift] at h1;rw [h1,Int.mul_assoc]
def prem (q : List Int) : Nat → List Int → List Int
 | 0,r => r
 | n + 1,r => prem q n (step (lead q) (lead r) q r)
def rest (p q : List Int) : List Int := trim (prem q (p.length + 1 - q.length) p)
theorem prem_length (q : List Int) (n : Nat) (r : List Int) (h : n ≤ r.length) : (prem q n r).length = r.length - n := by
 induction n generalizing r with
 | zero => rfl
 | succ n ih => rw [prem,ih _ (by rw [step_length]; omega),step_length]; omega
theorem rest_short {p q : List Int} (hp : Nrm p) (h : p.length < q.length) : rest p q = p := by
 unfold rest;rw [show p.length + 1 - q.length = 0 by omega]
 exact trim_nrm hp
theorem rest_nrm (p q : List Int) : Nrm (rest p q) := nrm_trim _
theorem rest_length {p q : List Int} (hq : 0 < q.length) : (rest p q).length < q.length := by
 unfold rest;have h1 := trim_length (prem q (p.length + 1 - q.length) p);have h2 := prem_length q (p.length + 1 - q.length) p (by omega)
 omega
theorem prem_ev (q : List Int) (hq : 0 < q.length) (n : Nat) (r : List Int) (h : r.length = n + (q.length - 1)) : ∃ t : List Int,∀ x,lead q ^ n * ev r x = ev (prem q n r) x + ev t x * ev q x := by
 induction n generalizing r with
 | zero => exact ⟨[],fun x => by simp [prem,ev]⟩
 | succ n ih =>
  obtain ⟨t,ht⟩ := ih (step (lead q) (lead r) q r) (by rw [step_length]; omega)
  refine ⟨add t (scl (lead q ^ n * lead r) (shift (r.length - q.length) [1])),fun x => ?_⟩;have h1 := step_ev (a := lead q) (c := lead r) hq (by omega : q.length ≤ r.length) (Int.mul_comm _ _) x
  have h2 := ht x;rw [prem,ev_add,ev_scl,ev_shift,Int.pow_succ];simp only [ev];generalize x ^ (r.length - q.length) = X at *;generalize lead q ^ n = L at *
  grind
theorem rest_ev {p q : List Int} (hq : 0 < q.length) (n : Nat) (hn : n = p.length + 1 - q.length) : ∃ t : List Int,∀ x,lead q ^ n * ev p x = ev (rest p q) x + ev t x * ev q x := by
 subst hn;unfold rest;rcases Nat.lt_or_ge p.length q.length with h | h
 ·rw [show p.length + 1 - q.length = 0 by omega]
  exact ⟨[],fun x => by simp [prem,ev,ev_trim]⟩
 ·obtain ⟨t,ht⟩ := prem_ev q hq (p.length + 1 - q.length) p (by omega)
  exact ⟨t,fun x => by rw [ev_trim]; exact ht x⟩
def Dv (g p : List Int) : Prop := ∃ c : Int,c ≠ 0 ∧ ∃ t : List Int,∀ x,c * ev p x = ev t x * ev g x
theorem Dv.refl (g : List Int) : Dv g g := ⟨1,by decide,[1],fun x => by simp [ev]⟩
theorem Dv.nil (g : List Int) : Dv g [] := ⟨1,by decide,[],fun x => by simp [ev]⟩
theorem Dv.scl {g p : List Int} (c : Int) (h : Dv g p) : Dv g (scl c p) := by
 obtain ⟨d,hd,t,ht⟩ := h;exact ⟨d,hd,Pl.scl c t,fun x => by rw [ev_scl,ev_scl]; have := ht x; grind⟩
theorem Dv.of_rest {g p q : List Int} (hq : Nrm q) (h0 : q ≠ []) (h1 : Dv g q) (h2 : Dv g (rest p q)) : Dv g p := by
 obtain ⟨c,hc,s,hs⟩ := h1;obtain ⟨d,hd,u,hu⟩ := h2;obtain ⟨t,ht⟩ := rest_ev (p := p) (q := q) (List.length_pos_iff.2 h0) _ rfl;refine ⟨c * d * lead q ^ (p.length + 1 - q.length),Int.mul_ne_zero (Int.mul_ne_zero hc hd) (Int.pow_ne_zero (lead_ne hq h0)),add (Pl.scl c u) (Pl.scl d (mul t s)),fun x => ?_⟩;have a1 := hs x;have a2 := hu x;have a3 := ht x;rw [ev_add,ev_scl,ev_scl,ev_mul];generalize lead q ^ (p.length + 1 - q.length) = L at *
 grind
theorem lead_mul {t g : List Int} (ht : t ≠ []) (hg : g ≠ []) : cf (mul t g) (t.length + g.length - 2) = lead t * lead g := by
 have h1 := List.length_pos_iff.2 ht;have h2 := List.length_pos_iff.2 hg;have key : ∀ i,i + 1 ≤ t.length → conv t g i (t.length + g.length - 2) = 0 := by
  intro i hi
  induction i with
  | zero => rfl
  | succ i ih =>
   rw [conv,ih (by omega)]
   split
   ·rw [cf_ge (p := g) (by omega)]; simp
   ·rfl
 rw [cf_mul];obtain ⟨n,hn⟩ : ∃ n,t.length = n + 1 := ⟨t.length - 1,by omega⟩
 rw [hn,conv];have := key n (by omega)
 rw [hn] at this;rw [this,if_pos (by omega),show n + 1 + g.length - 2 - n = g.length - 1 by omega,Int.zero_add]
 simp [lead,hn]
theorem short_multiple {t q r : List Int} {c : Int} (hq : Nrm q) (h0 : q ≠ []) (hr : r.length < q.length) (hc : c ≠ 0) (h : ∀ x,c * ev r x = ev t x * ev q x) : ∀ k,cf r k = 0 := by
 have hq1 := List.length_pos_iff.2 h0;have h1 : ∀ k,c * cf r k = cf (mul (trim t) q) k := fun k => by
  rw [← cf_scl];exact ev_inj (fun x _ => by rw [ev_scl,ev_mul,ev_trim]; exact h x) k
 by_cases e : trim t = []
 ·intro k
  have := h1 k;rw [e] at this;simp only [mul,cf_nil] at this;exact (Int.mul_eq_zero.1 this).resolve_left hc
 ·have e1 := List.length_pos_iff.2 e
  have h2 := h1 ((trim t).length + q.length - 2);rw [lead_mul e h0,cf_ge (p := r) (by omega)] at h2
  exact absurd h2.symm (by rw [Int.mul_zero]; exact Int.mul_ne_zero (lead_ne (nrm_trim t) e) (lead_ne hq h0))
theorem Dv.rest_nil {g p : List Int} (hg : Nrm g) (h0 : g ≠ []) (h : Dv g p) : rest p g = [] := by
 obtain ⟨c,hc,t,ht⟩ := h;obtain ⟨s,hs⟩ := rest_ev (p := p) (q := g) (List.length_pos_iff.2 h0) _ rfl;have h1 := short_multiple (t := add (Pl.scl (lead g ^ (p.length + 1 - g.length)) t) (Pl.scl (-c) s)) (r := rest p g) (c := c) hg h0 (rest_length (List.length_pos_iff.2 h0)) hc (fun x => by
  have a1 := ht x;have a2 := hs x;rw [ev_add,ev_scl,ev_scl];generalize lead g ^ (p.length + 1 - g.length) = L at *
  grind)
 exact nrm_ext (rest_nrm _ _) nrm_nil fun k => by rw [h1,cf_nil]
def dvs (q : List Int) : Nat → List Int → Option (List Int)
 | 0,r => if trim r = [] then some [] else none
 | n + 1,r => if lead r % lead q = 0 then (dvs q n (step 1 (lead r / lead q) q r)).map (· ++ [lead r / lead q]) else none
theorem conv_snoc (a : List Int) (c : Int) (q : List Int) (i k : Nat) (hi : i ≤ a.length) : conv (a ++ [c]) q i k = conv a q i k := by
 induction i with
 | zero => rfl
 | succ i ih =>
  have e : cf (a ++ [c]) i = cf a i := by rw [cf_lt (p := a ++ [c]) (by simp; omega),cf_lt (p := a) (by omega),List.getElem_append_left (by omega)]
  rw [conv,conv,ih (by omega),e]
theorem cf_mul_snoc (a : List Int) (c : Int) (q : List Int) (k : Nat) : cf (mul (a ++ [c]) q) k = cf (mul a q) k + c * cf (shift a.length q) k := by
 rw [cf_mul,cf_mul,cf_shift,List.length_append];show conv (a ++ [c]) q (a.length + 1) k = _;rw [conv,conv_snoc _ _ _ _ _ (Nat.le_refl _)];rw [cf_lt (p := a ++ [c]) (by simp),List.getElem_append_right (Nat.le_refl _)]
 split <;> simp
theorem dvs_mul (q : List Int) (hq : Nrm q) (h0 : q ≠ []) (a r : List Int) (hl : r.length = a.length + (q.length - 1)) (h : ∀ k,cf r k = cf (mul a q) k) : dvs q a.length r = some a := by
 have hq1 := List.length_pos_iff.2 h0;have hln := lead_ne hq h0;generalize hn : a.length = n at *
 induction n generalizing a r with
 | zero =>
  obtain rfl := List.eq_nil_of_length_eq_zero hn;rw [dvs,if_pos (k'dr.2 fun k => by rw [h]; simp [mul,cf_nil])]
 | succ n ih =>
  obtain ⟨b,c,rfl⟩ : ∃ b c,a = b ++ [c] := ⟨a.take n,a[n],by
   have := List.take_succ_eq_append_getElem (l := a) (i := n) (by omega)
   rw [← this,List.take_of_length_le (by omega)]⟩
  have hb : b.length = n := by simpa using hn
  have ht : lead r = c * lead q := by
   have := lead_mul (t := b ++ [c]) (g := q) (by simp) h0
   have e2 : lead (b ++ [c]) = c := by unfold lead; rw [cf_lt (by simp)]; simp
   rw [e2] at this;unfold lead at this ⊢;rw [← this,h,hl]
   congr 1
   simp; omega
  have hd : lead r / lead q = c := by rw [ht]; exact Int.mul_ediv_cancel _ hln
  rw [dvs,if_pos (by rw [ht]; exact Int.mul_emod_left _ _),hd,ih b _ (fun k => ?_) hb (by rw [step_length]; omega)]
  ·rfl
  ·have e1 := step_sum (a := 1) (c := c) (q := q) (r := r) hq1 (by omega) (by rw [ht]; omega) k
   have e2 := h k;rw [cf_mul_snoc,hb] at e2;have e3 : r.length - q.length = n := by omega
   rw [e3] at e1;omega
end Pl
namespace Pl
def cont (p : List Int) : Nat := p.foldl (fun g a => Nat.gcd g a.natAbs) 0
theorem foldl_gcd_dvd (p : List Int) (g : Nat) : p.foldl (fun g a => Nat.gcd g a.natAbs) g ∣ g ∧ ∀ a ∈ p,p.foldl (fun g a => Nat.gcd g a.natAbs) g ∣ a.natAbs := by
 induction p generalizing g with
 | nil => exact ⟨Nat.dvd_refl g,fun a h => by cases h⟩
 | cons b p ih =>
  obtain ⟨h1,h2⟩ := ih (Nat.gcd g b.natAbs);refine ⟨Nat.dvd_trans h1 (Nat.gcd_dvd_left _ _),fun a ha => ?_⟩;rcases List.mem_cons.1 ha with rfl | ha
  ·exact Nat.dvd_trans h1 (Nat.gcd_dvd_right _ _)
  ·exact h2 a ha
theorem foldl_gcd_mul (c : Nat) (p : List Int) (g : Nat) (s : Int) (hs : s.natAbs = c) : (scl s p).foldl (fun g a => Nat.gcd g a.natAbs) (c * g) = c * p.foldl (fun g a => Nat.gcd g a.natAbs) g := by
 induction p generalizing g with
 | nil => rfl
 | cons b p ih =>
  show (scl s p).foldl _ (Nat.gcd (c * g) (s * b).natAbs) = _;rw [Int.natAbs_mul,hs,Nat.gcd_mul_left,ih];rfl
theorem cont_scl (s : Int) (p : List Int) : cont (scl s p) = s.natAbs * cont p := by
 have := foldl_gcd_mul s.natAbs p 0 s rfl;rwa [Nat.mul_zero] at this
theorem cont_dvd {p : List Int} {a : Int} (h : a ∈ p) : (cont p : Int) ∣ a := Int.ofNat_dvd_left.2 ((foldl_gcd_dvd p 0).2 a h)
theorem cont_dvd_cf (p : List Int) (k : Nat) : (cont p : Int) ∣ cf p k := by
 by_cases h : k < p.length
 ·rw [cf_lt h]; exact cont_dvd (List.getElem_mem h)
 ·rw [cf_ge (by omega)]; exact Int.dvd_zero _
theorem cont_pos {p : List Int} (hp : Nrm p) (h0 : p ≠ []) : 0 < cont p := by
 rcases Nat.eq_zero_or_pos (cont p) with h | h
 ·have := cont_dvd_cf p (p.length - 1)
  rw [h] at this;exact absurd (Int.zero_dvd.1 this) (nrm_cf hp (List.length_pos_iff.2 h0))
 ·exact h
def prim (p : List Int) : List Int := p.map (· / (cont p : Int))
theorem prim_length (p : List Int) : (prim p).length = p.length := by simp [prim]
theorem cf_prim (p : List Int) (k : Nat) : cf (prim p) k = cf p k / (cont p : Int) := by
 unfold cf prim;rw [List.getElem?_map]
 cases p[k]? <;> simp
theorem scl_prim (p : List Int) : scl (cont p) (prim p) = p := by
 apply ext_cf (by simp [scl,prim])
 intro k _;rw [cf_scl,cf_prim];exact Int.mul_ediv_cancel' (cont_dvd_cf p k)
theorem prim_nrm {p : List Int} (hp : Nrm p) : Nrm (prim p) := by
 intro h;rw [prim_length] at h;have h1 : cf (prim p) (p.length - 1) ≠ 0 := by
  intro e;have h2 := congrArg (fun l => cf l (p.length - 1)) (scl_prim p);simp only [cf_scl] at h2;rw [e,Int.mul_zero] at h2;exact nrm_cf hp h h2.symm
 rw [cf_lt (by rw [prim_length]; omega)] at h1
 simpa [prim_length] using h1
theorem prim_scl {p : List Int} {c : Int} (hc : c ≠ 0) : prim (scl c p) = scl c.sign (prim p) := by
 apply ext_cf (by simp [scl,prim])
 intro k _;rw [cf_prim,cf_scl,cf_scl,cf_prim,cont_scl];have e : c = c.sign * (c.natAbs : Int) := (Int.sign_mul_natAbs c).symm;have hn : (c.natAbs : Int) ≠ 0 := by omega
 obtain ⟨d,hd⟩ := cont_dvd_cf p k;have hcn : ((c.natAbs * cont p : Nat) : Int) = (c.natAbs : Int) * (cont p : Int) := by simp
 rw [hcn];have e5 : c * cf p k = c.sign * (c.natAbs : Int) * cf p k := by rw [← e]
 rw [e5];by_cases h0 : (cont p : Int) = 0
 ·rw [h0]; simp
 ·rw [hd,show c.sign * (c.natAbs : Int) * ((cont p : Int) * d) = (c.natAbs : Int) * (cont p : Int) * (c.sign * d) by grind,
   Int.mul_ediv_cancel_left _ (Int.mul_ne_zero hn h0),Int.mul_ediv_cancel_left _ h0]
theorem lead_scl (c : Int) (p : List Int) : lead (scl c p) = c * lead p := by unfold lead; rw [scl_length,cf_scl]
theorem scl_scl (c d : Int) (p : List Int) : scl c (scl d p) = scl (c * d) p := ext_cf (by simp [scl]) fun k _ => by rw [cf_scl,cf_scl,cf_scl,Int.mul_assoc]
theorem scl_one (p : List Int) : scl 1 p = p := ext_cf (by simp [scl]) fun k _ => by rw [cf_scl,Int.one_mul]
theorem scl_nrm {p : List Int} {c : Int} (hc : c ≠ 0) (hp : Nrm p) : Nrm (scl c p) := by
 intro h;rw [scl_length] at h;have h1 : cf (scl c p) (p.length - 1) ≠ 0 := by rw [cf_scl]; exact Int.mul_ne_zero hc (nrm_cf hp h)
 rw [cf_lt (by rw [scl_length]; omega)] at h1
 simpa [scl_length] using h1
theorem scl_nil (c : Int) : scl c [] = [] := rfl
theorem trim_scl {c : Int} (hc : c ≠ 0) (p : List Int) : trim (scl c p) = scl c (trim p) :=
 nrm_ext (nrm_trim _) (scl_nrm hc (nrm_trim p)) fun k => by rw [cf_trim,cf_scl,cf_scl,cf_trim]
def npr (p : List Int) : List Int := scl (lead p).sign (prim p)
theorem npr_length (p : List Int) : (npr p).length = p.length := by rw [npr,scl_length,prim_length]
theorem sign_ne {c : Int} (h : c ≠ 0) : c.sign ≠ 0 := by rwa [Ne,Int.sign_eq_zero_iff_zero]
theorem npr_nrm {p : List Int} (hp : Nrm p) : Nrm (npr p) := by
 by_cases h : p = []
 ·subst h; exact nrm_nil
 ·exact scl_nrm (sign_ne (lead_ne hp h)) (prim_nrm hp)
theorem npr_scl {p : List Int} {c : Int} (hc : c ≠ 0) : npr (scl c p) = npr p := by
 unfold npr;rw [lead_scl,prim_scl hc,scl_scl,Int.sign_mul]
 congr 1
 rcases Int.lt_trichotomy c 0 with h | h | h
 ·rw [Int.sign_eq_neg_one_of_neg h]; omega
 ·exact absurd h hc
 ·rw [Int.sign_eq_one_of_pos h]; omega
theorem npr_prim {p : List Int} (hp : Nrm p) : npr (prim p) = npr p := by
 by_cases h : p = []
 ·subst h; rfl
 ·have hc : (cont p : Int) ≠ 0 := by have := cont_pos hp h; omega
  conv => rhs; rw [← scl_prim p,npr_scl hc]
theorem npr_sclE (p : List Int) (hp : Nrm p) (h : p ≠ []) : ∃ c : Int,c ≠ 0 ∧ p = scl c (npr p) := by
 have hl := lead_ne hp h;refine ⟨(lead p).sign * cont p,Int.mul_ne_zero (sign_ne hl) (by have := cont_pos hp h; omega),?_⟩
 rw [npr,scl_scl];have e : (lead p).sign * (cont p : Int) * (lead p).sign = cont p := by
  rcases Int.lt_trichotomy (lead p) 0 with g | g | g
  ·rw [Int.sign_eq_neg_one_of_neg g]; omega
  ·exact absurd g hl
  ·rw [Int.sign_eq_one_of_pos g]; omega
 rw [e,scl_prim]
theorem npr_of_lead {p : List Int} (hp : Nrm p) (h0 : p ≠ []) : npr p = if lead p < 0 then scl (-1) (prim p) else prim p := by
 unfold npr
 split
 ·next h => rw [Int.sign_eq_neg_one_of_neg h]
 ·next h => rw [Int.sign_eq_one_of_pos (by have := lead_ne hp h0; omega),scl_one]
theorem step_scl (a c s : Int) (q r : List Int) : step a (s * c) q (scl s r) = scl s (step a c q r) := by
 apply ext_cf (by simp [scl,step])
 intro k _;rw [cf_scl,cf_step,cf_step,scl_length,cf_scl]
 split
 ·split <;> grind
 ·simp
theorem prem_scl (q : List Int) (n : Nat) (s : Int) (r : List Int) : prem q n (scl s r) = scl s (prem q n r) := by
 induction n generalizing r with
 | zero => rfl
 | succ n ih => rw [prem,prem,lead_scl,step_scl,ih]
theorem step_scl_q (c a s : Int) (q r : List Int) : step (s * a) c (scl s q) r = scl s (step a c q r) := by
 apply ext_cf (by simp [scl,step])
 intro k _;rw [cf_scl,cf_step,cf_step,scl_length]
 split
 ·rw [cf_scl]; split <;> grind
 ·simp
theorem prem_scl_q (q : List Int) (n : Nat) (s : Int) (r : List Int) : prem (scl s q) n r = scl (s ^ n) (prem q n r) := by
 induction n generalizing r with
 | zero => rw [prem,prem,Int.pow_zero,scl_one]
 | succ n ih => rw [prem,lead_scl,step_scl_q,ih,prem_scl,scl_scl,← Int.pow_succ,prem]
theorem rest_scl {c d : Int} (hc : c ≠ 0) (hd : d ≠ 0) (p q : List Int) : ∃ e : Int,e ≠ 0 ∧ rest (scl c p) (scl d q) = scl e (rest p q) := by
 refine ⟨d ^ (p.length + 1 - q.length) * c,Int.mul_ne_zero (Int.pow_ne_zero hd) hc,?_⟩;unfold rest;rw [scl_length,scl_length,prem_scl_q,prem_scl,scl_scl,trim_scl (Int.mul_ne_zero (Int.pow_ne_zero hd) hc)]
theorem npr_rest {p q : List Int} (hp : Nrm p) (hq : Nrm q) : npr (rest (npr p) (npr q)) = npr (rest p q) := by
 by_cases h1 : p = []
 ·subst h1
  by_cases h2 : q = []
  ·subst h2; rfl
  ·obtain ⟨d,hd,e⟩ := npr_sclE q hq h2
   obtain ⟨f,hf,e2⟩ := rest_scl (c := 1) (d := d) (by decide) hd [] (npr q)
   rw [scl_nil,← e] at e2;rw [e2,npr_scl hf]; rfl
 ·obtain ⟨c,hc,e1⟩ := npr_sclE p hp h1
  by_cases h2 : q = []
  ·subst h2
   obtain ⟨f,hf,e2⟩ := rest_scl (c := c) (d := 1) hc (by decide) (npr p) []
   rw [scl_nil,← e1] at e2;rw [e2,npr_scl hf]; rfl
  ·obtain ⟨d,hd,e2⟩ := npr_sclE q hq h2
   obtain ⟨f,hf,e3⟩ := rest_scl (c := c) (d := d) hc hd (npr p) (npr q);rw [← e1,← e2] at e3;rw [e3,npr_scl hf]
def euc : Nat → List Int → List Int → List Int
 | 0,p,_ => p
 | n + 1,p,q => if q = [] then p else euc n q (npr (rest p q))
theorem euc_fuel (n m : Nat) (p q : List Int) (h1 : q.length ≤ n) (h2 : q.length ≤ m) : euc n p q = euc m p q := by
 induction n generalizing m p q with
 | zero =>
  obtain rfl := List.eq_nil_of_length_eq_zero (show q.length = 0 by omega)
  cases m <;> simp [euc]
 | succ n ih =>
  by_cases e : q = []
  ·subst e; cases m <;> simp [euc]
  ·have h0 := List.length_pos_iff.2 e
   obtain ⟨k,rfl⟩ : ∃ k,m = k + 1 := ⟨m - 1,by omega⟩
   have h3 := rest_length (p := p) h0;rw [euc,euc,if_neg e,if_neg e];exact ih k _ _ (by rw [npr_length]; omega) (by rw [npr_length]; omega)
def gcdP (p q : List Int) : List Int := euc q.length (npr p) (npr q)
theorem gcdP_nil (p : List Int) : gcdP p [] = npr p := rfl
theorem gcdP_step {p q : List Int} (hp : Nrm p) (hq : Nrm q) (h : q ≠ []) : gcdP p q = gcdP q (rest p q) := by
 have h0 := List.length_pos_iff.2 h;obtain ⟨n,hn⟩ : ∃ n,q.length = n + 1 := ⟨q.length - 1,by omega⟩
 have hne : npr q ≠ [] := by intro e; have := npr_length q; rw [e] at this; simp at this; omega
 unfold gcdP;rw [hn,euc,if_neg hne,npr_rest hp hq];have h1 := rest_length (p := p) h0;exact euc_fuel _ _ _ _ (by rw [npr_length]; omega) (by rw [npr_length]; omega)
theorem gcdP_npr {p q p' q' : List Int} (h1 : npr p = npr p') (h2 : npr q = npr q') : gcdP p q = gcdP p' q' := by
 have hl : q.length = q'.length := by rw [← npr_length q,h2,npr_length]
 unfold gcdP;rw [h1,h2,hl]
theorem cont_unit {p : List Int} (hp : Nrm p) (h : p.length = 1) : npr p = [1] := by
 obtain ⟨a,rfl⟩ : ∃ a,p = [a] := List.length_eq_one_iff.1 h;have ha : a ≠ 0 := by have := hp (by simp); simpa using this
 have e1 : cont [a] = a.natAbs := by simp [cont]
 unfold npr prim lead;rw [e1];simp only [scl,List.map,List.length_singleton,Nat.sub_self,cf_cons_zero,List.cons.injEq,and_true];rcases Int.lt_trichotomy a 0 with g | g | g
 ·rw [Int.sign_eq_neg_one_of_neg g]
  have : (a.natAbs : Int) = -a := by omega
  rw [this,Int.ediv_neg,Int.ediv_self ha]; rfl
 ·exact absurd g ha
 ·rw [Int.sign_eq_one_of_pos g]
  have : (a.natAbs : Int) = a := by omega
  rw [this,Int.ediv_self ha]; rfl
theorem gcdP_swap {p q : List Int} (hp : Nrm p) (hq : Nrm q) (h : p.length < q.length) : gcdP p q = gcdP q p := by
 rw [gcdP_step hp hq (by intro e; subst e; simp at h),rest_short hp h]
theorem gcdP_const {p q : List Int} (hp : Nrm p) (hq : Nrm q) (h : q.length = 1) : gcdP p q = [1] := by
 have h1 : q ≠ [] := by intro e; subst e; simp at h
 rw [gcdP_step hp hq h1];have h2 := rest_length (p := p) (q := q) (by omega)
 rw [List.eq_nil_of_length_eq_zero (show (rest p q).length = 0 by omega),gcdP_nil,cont_unit hq h]
theorem gcdP_nrm {p q : List Int} (hp : Nrm p) (hq : Nrm q) : Nrm (gcdP p q) := by
 generalize hn : q.length = n
 induction n using Nat.strongRecOn generalizing p q with
 | _ n ih =>
  by_cases e : q = []
  ·subst e; exact npr_nrm hp
  ·rw [gcdP_step hp hq e]
   have := rest_length (p := p) (List.length_pos_iff.2 e);exact ih _ (by omega) hq (rest_nrm _ _) rfl
theorem dv_npr {p : List Int} (hp : Nrm p) : Dv (npr p) p := by
 by_cases h : p = []
 ·subst h; exact Dv.nil _
 ·obtain ⟨c,hc,e⟩ := npr_sclE p hp h
  have : Dv (Pl.npr p) (Pl.scl c (Pl.npr p)) := (Dv.refl _).scl c;rwa [← e] at this
theorem gcdP_dv {p q : List Int} (hp : Nrm p) (hq : Nrm q) : Dv (gcdP p q) p ∧ Dv (gcdP p q) q := by
 generalize hn : q.length = n
 induction n using Nat.strongRecOn generalizing p q with
 | _ n ih =>
  by_cases e : q = []
  ·subst e; exact ⟨dv_npr hp,Dv.nil _⟩
  ·rw [gcdP_step hp hq e]
   have := rest_length (p := p) (List.length_pos_iff.2 e);obtain ⟨h1,h2⟩ := ih (rest p q).length (by omega) hq (rest_nrm _ _) rfl
   exact ⟨Dv.of_rest hq e h1 h2,h1⟩
theorem gcdP_ne {p q : List Int} (h : gcdP p q = []) (hp : Nrm p) (hq : Nrm q) : p = [] ∧ q = [] := by
 generalize hn : q.length = n at *
 induction n using Nat.strongRecOn generalizing p q with
 | _ n ih =>
  by_cases e : q = []
  ·subst e
   rw [gcdP_nil] at h;have := npr_length p;rw [h] at this;exact ⟨List.eq_nil_of_length_eq_zero this.symm,rfl⟩
  ·rw [gcdP_step hp hq e] at h
   have := rest_length (p := p) (List.length_pos_iff.2 e);exact absurd (ih (rest p q).length (by omega) h hq (rest_nrm _ _) rfl).1 e
theorem gcdP_rest {p q : List Int} (hp : Nrm p) (hq : Nrm q) (h : gcdP p q ≠ []) : rest p (gcdP p q) = [] ∧ rest q (gcdP p q) = [] :=
 ⟨(gcdP_dv hp hq).1.rest_nil (gcdP_nrm hp hq) h,(gcdP_dv hp hq).2.rest_nil (gcdP_nrm hp hq) h⟩
end Pl
namespace Pl
def lev : List Int → Int → List Int
 | [],_ => []
 | a :: p,d => a * d ^ p.length :: lev p d
theorem lev_length (p : List Int) (d : Int) : (lev p d).length = p.length := by induction p <;> simp [lev, *]
theorem cf_lev (p : List Int) (d : Int) (k : Nat) : cf (lev p d) k = cf p k * d ^ (p.length - 1 - k) := by
 induction p generalizing k with
 | nil => simp [lev,cf_nil]
 | cons a p ih =>
  cases k with
  | zero => rw [lev,cf_cons_zero,cf_cons_zero]; simp
  | succ k => rw [lev,cf_cons_succ,cf_cons_succ,ih]; congr 2; simp; omega
def hv (n d : Int) : List Int → Nat → Int
 | [],_ => 0
 | _ :: _,0 => 0
 | a :: p,M + 1 => a * d ^ M + n * hv n d p M
theorem ev_lev (p : List Int) (n d : Int) : ev (lev p d) n = hv n d p p.length := by
 induction p with
 | nil => rfl
 | cons a p ih => rw [lev,ev,ih,List.length_cons,hv]
theorem hv_zero {p : List Int} (h : ∀ k,cf p k = 0) (n d : Int) (M : Nat) : hv n d p M = 0 := by
 induction p generalizing M with
 | nil => rfl
 | cons a p ih =>
  have h0 := h 0;rw [cf_cons_zero] at h0
  cases M with
  | zero => rfl
  | succ M => rw [hv,h0,ih (fun k => by rw [← cf_cons_succ a p,h]) M]; simp
theorem hv_cf {p q : List Int} (h : ∀ k,cf p k = cf q k) (n d : Int) (M : Nat) : hv n d p M = hv n d q M := by
 induction p generalizing q M with
 | nil =>
  rw [hv_zero (p := q) (fun k => by rw [← h,cf_nil]) n d M]; rfl
 | cons a p ih =>
  cases q with
  | nil => rw [hv_zero (fun k => by rw [h,cf_nil]) n d M]; rfl
  | cons b q =>
   have h0 := h 0;rw [cf_cons_zero,cf_cons_zero] at h0
   cases M with
   | zero => rfl
   | succ M => rw [hv,hv,h0,ih (q := q) (fun k => by have := h (k + 1); rwa [cf_cons_succ,cf_cons_succ] at this) M]
theorem hv_up (p : List Int) (n d : Int) (M : Nat) (h : p.length ≤ M) : hv n d p (M + 1) = d * hv n d p M := by
 induction p generalizing M with
 | nil => simp [hv]
 | cons a p ih =>
  cases M with
  | zero => simp at h
  | succ M =>
   rw [hv,ih M (by simpa using h),hv,Int.pow_succ]; grind
theorem hv_ups (p : List Int) (n d : Int) (M k : Nat) (h : p.length ≤ M) : hv n d p (M + k) = d ^ k * hv n d p M := by
 induction k with
 | zero => simp
 | succ k ih => rw [← Nat.add_assoc,hv_up _ _ _ _ (by omega),ih,Int.pow_succ]; grind
theorem hv_add (p q : List Int) (n d : Int) (M : Nat) : hv n d (add p q) M = hv n d p M + hv n d q M := by
 induction p generalizing q M with
 | nil => simp [add,hv]
 | cons a p ih =>
  cases q with
  | nil => simp [add,hv]
  | cons b q =>
   cases M with
   | zero => simp [add,hv]
   | succ M => simp only [add,hv,ih]; grind
theorem hv_scl (c : Int) (p : List Int) (n d : Int) (M : Nat) : hv n d (scl c p) M = c * hv n d p M := by
 induction p generalizing M with
 | nil => simp [scl,hv]
 | cons a p ih =>
  have : scl c (a :: p) = c * a :: scl c p := rfl;rw [this]
  cases M with
  | zero => simp [hv]
  | succ M => rw [hv,hv,ih]; grind
theorem hv_mul (p q : List Int) (n d : Int) (M N : Nat) (hp : p.length ≤ M + 1) (hq : q.length ≤ N + 1) : hv n d (mul p q) (M + N + 1) = hv n d p (M + 1) * hv n d q (N + 1) := by
 induction p generalizing M with
 | nil => simp [mul,hv]
 | cons a p ih =>
  rw [mul,hv_add,hv_scl,hv];have e1 : hv n d q (M + N + 1) = d ^ M * hv n d q (N + 1) := by
   rw [show M + N + 1 = (N + 1) + M by omega,hv_ups _ _ _ _ _ hq]
  rw [e1,hv]
  cases M with
  | zero =>
   have : p = [] := List.eq_nil_of_length_eq_zero (by simpa using hp)
   subst this;simp [mul,hv]
  | succ M =>
   rw [show M + 1 + N = M + N + 1 by omega,ih M (by simpa using hp)]
   grind
def vlu (p : List Int) (n d : Int) : Int := ev (lev p d) n
theorem vlu_hv (p : List Int) (n d : Int) (M : Nat) (h : p.length ≤ M) : hv n d p M = d ^ (M - p.length) * vlu p n d := by
 rw [vlu,ev_lev];obtain ⟨k,rfl⟩ : ∃ k,M = p.length + k := ⟨M - p.length,by omega⟩
 rw [hv_ups _ _ _ _ _ (Nat.le_refl _)]
 congr 2; omega
theorem vlu_over (p : List Int) (n d : Int) (M : Nat) (h : p.length ≤ M + 1) : vlu p n d * d ^ M = hv n d p (M + 1) * d ^ (p.length - 1) := by
 rw [vlu_hv p n d (M + 1) h]
 cases p with
 | nil => simp [vlu,lev,ev]
 | cons a p =>
  simp only [List.length_cons] at h ⊢;have : d ^ M = d ^ (M - p.length) * d ^ p.length := by rw [← Int.pow_add]; congr 1; omega
  rw [show M + 1 - (p.length + 1) = M - p.length by omega,show p.length + 1 - 1 = p.length by omega,this]
  grind
def pmul (p q : List Int) : List Int := if p = [] ∨ q = [] then [] else mul p q
def comp (a b : Int) : List Int → List Int
 | [] => []
 | x :: l => add (pmul (comp a b l) [a,b]) [x]
def mx (p : List Int) : Nat := p.foldr (fun a m => max a.natAbs m) 0
def sm (p : List Int) : Nat := p.foldr (fun a m => a.natAbs + m) 0
theorem mx_mem {p : List Int} {a : Int} (h : a ∈ p) : a.natAbs ≤ mx p := by
 induction p with
 | nil => cases h
 | cons b p ih =>
  have : mx (b :: p) = max b.natAbs (mx p) := rfl;rw [this];rcases List.mem_cons.1 h with rfl | h
  ·omega
  ·have := ih h; omega
theorem mx_cf (p : List Int) (k : Nat) : (cf p k).natAbs ≤ mx p := by
 by_cases h : k < p.length
 ·rw [cf_lt h]; exact mx_mem (List.getElem_mem h)
 ·rw [cf_ge (by omega)]; simp
theorem mx_le {p : List Int} {B : Nat} (h : ∀ k,k < p.length → (cf p k).natAbs ≤ B) : mx p ≤ B := by
 induction p with
 | nil => exact Nat.zero_le _
 | cons b p ih =>
  have e : mx (b :: p) = max b.natAbs (mx p) := rfl;have h0 := h 0 (by simp)
  rw [cf_cons_zero] at h0;have := ih (fun k hk => by rw [← cf_cons_succ b p]; exact h (k + 1) (by simpa using hk))
  omega
theorem sm_le (p : List Int) : sm p ≤ p.length * mx p := by
 induction p with
 | nil => simp [sm]
 | cons b p ih =>
  have e : sm (b :: p) = b.natAbs + sm p := rfl;have e2 : mx (b :: p) = max b.natAbs (mx p) := rfl;rw [e,e2,List.length_cons,Nat.add_mul,Nat.one_mul];have : p.length * mx p ≤ p.length * max b.natAbs (mx p) := Nat.mul_le_mul_left _ (by omega)
  omega
theorem mx_le_sm (p : List Int) : mx p ≤ sm p := by
 induction p with
 | nil => simp [mx]
 | cons b p ih =>
  have e : sm (b :: p) = b.natAbs + sm p := rfl;have e2 : mx (b :: p) = max b.natAbs (mx p) := rfl;omega
theorem sm_take (p : List Int) (i : Nat) (h : i < p.length) : sm (p.take (i + 1)) = sm (p.take i) + (cf p i).natAbs := by
 induction p generalizing i with
 | nil => simp at h
 | cons b p ih =>
  cases i with
  | zero => simp [sm,cf_cons_zero]
  | succ i =>
   have e : ∀ l,sm (b :: l) = b.natAbs + sm l := fun _ => rfl;rw [List.take_succ_cons,List.take_succ_cons,e,e,cf_cons_succ,ih i (by simpa using h)]; omega
theorem sm_take_le (p : List Int) (i : Nat) : sm (p.take i) ≤ sm p := by
 induction p generalizing i with
 | nil => simp
 | cons b p ih =>
  cases i with
  | zero => simp [sm]
  | succ i =>
   have e : ∀ l,sm (b :: l) = b.natAbs + sm l := fun _ => rfl;rw [List.take_succ_cons,e,e]; have := ih i; omega
theorem conv_le (p q : List Int) (i k : Nat) (h : i ≤ p.length) : (conv p q i k).natAbs ≤ sm (p.take i) * mx q := by
 induction i with
 | zero => simp [conv]
 | succ i ih =>
  rw [conv,sm_take p i (by omega),Nat.add_mul]
  have h1 := ih (by omega)
  split
  ·have h2 : (cf p i * cf q (k - i)).natAbs ≤ (cf p i).natAbs * mx q := by rw [Int.natAbs_mul]; exact Nat.mul_le_mul_left _ (mx_cf q _)
   omega
  ·omega
theorem mul_le (p q : List Int) (k : Nat) : (cf (mul p q) k).natAbs ≤ sm p * mx q := by
 rw [cf_mul];exact Nat.le_trans (conv_le p q _ k (Nat.le_refl _)) (Nat.mul_le_mul_right _ (sm_take_le p _))
theorem mx_scl (c : Int) (p : List Int) : mx (scl c p) ≤ c.natAbs * mx p := mx_le fun k _ => by
 rw [cf_scl,Int.natAbs_mul]; exact Nat.mul_le_mul_left _ (mx_cf p k)
theorem mx_step (a c : Int) (q r : List Int) : mx (step a c q r) ≤ a.natAbs * mx r + c.natAbs * mx q := mx_le fun k _ => by
 rw [cf_step];have h1 : (a * cf r k).natAbs ≤ a.natAbs * mx r := by rw [Int.natAbs_mul]; exact Nat.mul_le_mul_left _ (mx_cf r k)
 split
 ·split
  ·have h2 : (c * cf q (k - (r.length - q.length))).natAbs ≤ c.natAbs * mx q := by rw [Int.natAbs_mul]; exact Nat.mul_le_mul_left _ (mx_cf q _)
   omega
  ·omega
 ·simp
theorem mx_trim (p : List Int) : mx (trim p) ≤ mx p := mx_le fun k _ => by rw [cf_trim]; exact mx_cf p k
theorem mx_prim (p : List Int) : mx (prim p) ≤ mx p := mx_le fun k _ => by
 rw [cf_prim]; exact Nat.le_trans (Int.natAbs_ediv_le_natAbs _ _) (mx_cf p k)
theorem mx_prem (q : List Int) (n : Nat) (r : List Int) : mx (prem q n r) ≤ (2 * mx q) ^ n * mx r := by
 induction n generalizing r with
 | zero => simp [prem]
 | succ n ih =>
  rw [prem];refine Nat.le_trans (ih _) ?_;rw [Nat.pow_succ,Nat.mul_assoc];apply Nat.mul_le_mul_left;refine Nat.le_trans (mx_step _ _ _ _) ?_;have h1 : (lead q).natAbs * mx r ≤ mx q * mx r := Nat.mul_le_mul_right _ (mx_cf q _);have h2 : (lead r).natAbs * mx q ≤ mx r * mx q := Nat.mul_le_mul_right _ (mx_cf r _);rw [Nat.mul_comm (mx r)] at h2;rw [Nat.mul_assoc]; omega
theorem cont_le {p : List Int} (h : p ≠ []) : cont p ≤ mx p := by
 cases p with
 | nil => exact absurd rfl h
 | cons a p =>
  by_cases ha : ∀ k,cf (a :: p) k = 0
  ·have : cont (a :: p) = 0 := by
    have h2 : ∀ (l : List Int),(∀ k,cf l k = 0) → l.foldl (fun g a => Nat.gcd g a.natAbs) 0 = 0 := by
     intro l
     induction l with
     | nil => intro _; rfl
     | cons b l ih =>
      intro hl;have h0 := hl 0;rw [cf_cons_zero] at h0;subst h0;exact ih fun k => by rw [← cf_cons_succ 0 l,hl]
    exact h2 _ ha
   omega
  ·obtain ⟨k,hk⟩ := Classical.not_forall.1 ha
   have h1 := cont_dvd_cf (a :: p) k;have h2 := Int.natAbs_dvd_natAbs.2 h1;rw [Int.natAbs_natCast] at h2;exact Nat.le_trans (Nat.le_of_dvd (by omega) h2) (mx_cf _ k)
end Pl
end Go.Proofs.YtepddegphdlbeaaGreat
namespace Go.Proofs.YtepddegphdlbeaaGreat
open Go.RowKit
def Rw (w : World) (v : Value) (L : List (Bool × ByteArray)) : Prop :=
 ∃ (p : Option Addr) (b off cap : Nat),v = .slice p L.length cap ∧ L.length ≤ cap ∧ cap ≤ maxLen ∧ (L ≠ [] → p = some ⟨b,off,none⟩) ∧
  ∀ k (h : k < L.length),w.cell? ⟨b,off + k * 2,none⟩ = some (.bool L[k].1) ∧ w.cell? ⟨b,off + k * 2 + 1,none⟩ = some (.string L[k].2)
theorem Rw.below {w w' : World} {v : Value} {L : List (Bool × ByteArray)} (h : Rw w v L) (hb : Below w.heap.size w w') : Rw w' v L := by
 obtain ⟨p,b,off,cap,h1,h2,h3,h4,h5⟩ := h;exact ⟨p,b,off,cap,h1,h2,h3,h4,fun k hk => ⟨k'e hb (h5 k hk).1,k'e hb (h5 k hk).2⟩⟩
theorem Rw.drewN {w : World} {v : Value} {L : List (Bool × ByteArray)} (h : Rw w v L) (n : Nat) : Rw (w.drewN n) v L := h
theorem Rw.nil (w : World) : Rw w (.slice none 0 0) [] := ⟨none,0,0,0,rfl,by simp,by simp,fun h => absurd rfl h,fun k h => absurd h (by simp)⟩
theorem Rw.len {w : World} {v : Value} {L : List (Bool × ByteArray)} (h : Rw w v L) : L.length ≤ 9223372036854775807 := by
 obtain ⟨p,b,off,cap,h1,h2,h3,h4,h5⟩ := h;unfold maxLen at h3;omega
def zl (p : List Int) : List (Bool × ByteArray) := p.map fun z => (zb z,zs z)
theorem k'e0 (p : List Int) : (zl p).length = p.length := by simp [zl]
theorem k'e1 (p : List Int) (k : Nat) (h : k < p.length) (h2 : k < (zl p).length) : (zl p)[k] = (zb p[k],zs p[k]) := by simp [zl]
theorem k'e2 {p : List Int} (h : p ≠ []) : zl p ≠ [] := by simpa [zl] using h
abbrev Rp (w : World) (v : Value) (p : List Int) : Prop := Rw w v (zl p)
theorem Rp.open_ {w : World} {v : Value} {p : List Int} (h : Rp w v p) : ∃ (a : Option Addr) (b off cap : Nat),v = .slice a p.length cap ∧ p.length ≤ cap ∧ cap ≤ maxLen ∧ (p ≠ [] → a = some ⟨b,off,none⟩) ∧
 ∀ k (h : k < p.length),w.cell? ⟨b,off + k * 2,none⟩ = some (.bool (zb p[k])) ∧ w.cell? ⟨b,off + k * 2 + 1,none⟩ = some (.string (zs p[k])) := by
 obtain ⟨a,b,off,cap,h1,h2,h3,h4,h5⟩ := h;rw [k'e0] at h1 h2;refine ⟨a,b,off,cap,h1,h2,h3,fun e => h4 (k'e2 e),fun k hk => ?_⟩;have := h5 k (by rw [k'e0]; exact hk)
 rwa [k'e1 p k hk] at this
theorem Rp.mk {w : World} {v : Value} {p : List Int} {a : Option Addr} {b off cap : Nat} (h1 : v = .slice a p.length cap) (h2 : p.length ≤ cap) (h3 : cap ≤ maxLen) (h4 : p ≠ [] → a = some ⟨b,off,none⟩)
 (h5 : ∀ k (h : k < p.length),w.cell? ⟨b,off + k * 2,none⟩ = some (.bool (zb p[k])) ∧ w.cell? ⟨b,off + k * 2 + 1,none⟩ = some (.string (zs p[k]))) : Rp w v p := by
 refine ⟨a,b,off,cap,by rw [k'e0]; exact h1,by rw [k'e0]; exact h2,h3,fun e => h4 fun e2 => e (by rw [e2]; rfl),fun k hk => ?_⟩
 have hk2 : k < p.length := by rwa [k'e0] at hk
 rw [k'e1 p k hk2];exact h5 k hk2
def wv (p : List Int) : List Value := p.flatMap fun z => [.bool (zb z),.string (zs z)]
theorem k'e3 (p : List Int) : (wv p).length = p.length * 2 := by
 induction p with
 | nil => rfl
 | cons a p ih => simp only [wv,List.flatMap_cons,List.length_append,List.length_cons] at ih ⊢; simp at ih ⊢; omega
theorem k'e4 (a : Int) (p : List Int) : wv (a :: p) = .bool (zb a) :: .string (zs a) :: wv p := rfl
theorem k'e5 (p : List Int) (k : Nat) (h : k < p.length) : (wv p)[k * 2]? = some (.bool (zb p[k])) ∧ (wv p)[k * 2 + 1]? = some (.string (zs p[k])) := by
 induction p generalizing k with
 | nil => simp at h
 | cons a p ih =>
  rw [k'e4]
  cases k with
  | zero => simp
  | succ k =>
   have h' : k < p.length := by simpa using h
   obtain ⟨h1,h2⟩ := ih k h';rw [show (k + 1) * 2 = k * 2 + 1 + 1 by omega]
   simp only [List.getElem?_cons_succ,List.getElem_cons_succ];exact ⟨h1,h2⟩
theorem k'e6 (p : List Int) (k : Nat) (z : Int) : ((wv p).set (k * 2) (.bool (zb z))).set (k * 2 + 1) (.string (zs z)) = wv (p.set k z) := by
 induction p generalizing k with
 | nil => rfl
 | cons a p ih =>
  rw [k'e4]
  cases k with
  | zero => rfl
  | succ k =>
   rw [show (k + 1) * 2 = k * 2 + 1 + 1 by omega]
   simp only [List.set_cons_succ];rw [ih,k'e4]
def Aw (w : World) (g : Nat) (p : List Int) : Prop := ∃ r : List Value,w.heap[g]? = some (.cells (wv p ++ r).toArray 44 (0,0))
theorem Aw.lt {w : World} {g : Nat} {p : List Int} (h : Aw w g p) : g < w.heap.size := by obtain ⟨r,h⟩ := h; exact lt_of_block h
theorem Aw.cell {w : World} {g : Nat} {p : List Int} (h : Aw w g p) (k : Nat) (hk : k < p.length) : w.cell? ⟨g,k * 2,none⟩ = some (.bool (zb p[k])) ∧ w.cell? ⟨g,k * 2 + 1,none⟩ = some (.string (zs p[k])) := by
 obtain ⟨r,h⟩ := h;obtain ⟨h1,h2⟩ := k'e5 p k hk;rw [cell_of_row w g _ _ _ _ h,cell_of_row w g _ _ _ _ h,List.getElem?_toArray,List.getElem?_toArray,List.getElem?_append_left (by rw [k'e3]; omega),List.getElem?_append_left (by rw [k'e3]; omega)]
 exact ⟨h1,h2⟩
theorem Aw.free {w : World} {g : Nat} {p : List Int} (h : Aw w g p) (k : Nat) : w.frozen? ⟨g,k,none⟩ = false := by obtain ⟨r,h⟩ := h; exact frozen_of_row w g k _ _ h
theorem Aw.set {w : World} {g : Nat} {p : List Int} (h : Aw w g p) (k : Nat) (hk : k < p.length) (z : Int) : Aw ((w.setCell ⟨g,k * 2,none⟩ (.bool (zb z))).setCell ⟨g,k * 2 + 1,none⟩ (.string (zs z))) g (p.set k z) := by
 obtain ⟨r,h⟩ := h;have h1 := heap_setCell_same w g (k * 2) _ _ (.bool (zb z)) h;have h2 := heap_setCell_same _ g (k * 2 + 1) _ _ (.string (zs z)) h1;refine ⟨r,h2.trans ?_⟩;rw [← k'e6];have e1 : k * 2 < (wv p).length := by rw [k'e3]; omega
 have e2 : k * 2 + 1 < (wv p).length := by rw [k'e3]; omega
 simp [List.set_append_left,e1,e2]
theorem Aw.keep {w w' : World} {g : Nat} {p : List Int} (h : Aw w g p) (he : w'.heap[g]? = w.heap[g]?) : Aw w' g p := by obtain ⟨r,h⟩ := h; exact ⟨r,he.trans h⟩
theorem Aw.below {w w' : World} {g : Nat} {p : List Int} (h : Aw w g p) (hb : Below w.heap.size w w') : Aw w' g p := h.keep (hb.block g h.lt)
theorem Aw.alloc {w : World} {g : Nat} {p : List Int} (h : Aw w g p) (o : Obj) : Aw (w.alloc o) g p := h.keep (Below.heap_alloc w o g h.lt)
theorem Aw.other {w : World} {g : Nat} {p : List Int} (h : Aw w g p) (a : Addr) (v : Value) (hn : g ≠ a.block) : Aw (w.setCell a v) g p := h.keep (heap_setCell_other w a g v hn)
theorem Aw.drewN {w : World} {g : Nat} {p : List Int} (h : Aw w g p) (n : Nat) : Aw (w.drewN n) g p := h
theorem Aw.made (w : World) (p : List Int) : Aw (w.alloc (.cells (wv p).toArray 44)) w.heap.size p := ⟨[],by rw [List.append_nil]; exact heap_alloc_new w _⟩
theorem k'e7 (p q : List Int) : wv (p ++ q) = wv p ++ wv q := by simp [wv]
theorem Aw.take {w : World} {g : Nat} {p : List Int} (h : Aw w g p) (k : Nat) : Aw w g (p.take k) := by
 obtain ⟨r,h⟩ := h;refine ⟨wv (p.drop k) ++ r,?_⟩;rw [← List.append_assoc,← k'e7,List.take_append_drop];exact h
theorem Rp.of_aw {w : World} {g : Nat} {p : List Int} (h : Aw w g p) (off n cap : Nat) (h1 : off + n ≤ p.length) (h2 : n ≤ cap) (h3 : cap ≤ maxLen) : Rp w (.slice (some ⟨g,off * 2,none⟩) n cap) ((p.drop off).take n) := by
 have hl : ((p.drop off).take n).length = n := by simp; omega
 refine Rp.mk (b := g) (off := off * 2) (by rw [hl]) (by omega) h3 (fun _ => rfl) fun k hk => ?_
 rw [hl] at hk;have := h.cell (off + k) (by omega)
 rw [Nat.add_mul] at this;simpa using this
theorem Rp.of_whole {w : World} {g : Nat} {p : List Int} (h : Aw w g p) (n cap : Nat) (h1 : p.length = n) (h2 : n ≤ cap) (h3 : cap ≤ maxLen) : Rp w (.slice (some ⟨g,0,none⟩) n cap) p := by
 subst h1;have := Rp.of_aw h 0 p.length cap (by omega) h2 h3
 rwa [Nat.zero_mul,List.drop_zero,List.take_length] at this
theorem Rw.take {w : World} {a : Option Addr} {n cap : Nat} {L : List (Bool × ByteArray)} (h : Rw w (.slice a n cap) L) (m : Nat) (hm : m ≤ n) : Rw w (.slice a m cap) (L.take m) := by
 obtain ⟨a',b,off,cap',h1,h2,h3,h4,h5⟩ := h;injection h1 with e1 e2 e3;subst e1 e2 e3;have e : (L.take m).length = m := by simp; omega
 refine ⟨a,b,off,cap,by rw [e],by omega,h3,fun hne => h4 (fun e0 => hne (by rw [e0]; simp)),fun k hk => ?_⟩
 rw [e] at hk;simpa using h5 k (by omega)
theorem k'e8 (p : List Int) (m : Nat) : (zl p).take m = zl (p.take m) := by simp [zl,List.map_take]
def Ck (w : World) (c : Nat) (e : Int) : Prop := w.heap[c]? = some (.cells #[.int .i64 e] 96 (0,0))
theorem Ck.lt {w : World} {c : Nat} {e : Int} (h : Ck w c e) : c < w.heap.size := lt_of_block h
theorem Ck.cell {w : World} {c : Nat} {e : Int} (h : Ck w c e) : w.cell? ⟨c,0,none⟩ = some (.int .i64 e) := by rw [cell_of_row w c 0 _ _ _ h]; rfl
theorem Ck.free {w : World} {c : Nat} {e : Int} (h : Ck w c e) : w.frozen? ⟨c,0,none⟩ = false := frozen_of_row w c 0 _ _ h
theorem Ck.below {w w' : World} {c : Nat} {e : Int} (h : Ck w c e) (hb : Below w.heap.size w w') : Ck w' c e := (hb.block c h.lt).trans h
theorem Ck.set {w : World} {c : Nat} {e : Int} (h : Ck w c e) (e' : Int) : Ck (w.setCell ⟨c,0,none⟩ (.int .i64 e')) c e' := heap_setCell_same w c 0 _ _ (.int .i64 e') h
theorem Ck.alloc {w : World} {c : Nat} {e : Int} (h : Ck w c e) (o : Obj) : Ck (w.alloc o) c e := (Below.heap_alloc w o c h.lt).trans h
theorem Ck.other {w : World} {c : Nat} {e : Int} (h : Ck w c e) (a : Addr) (v : Value) (hn : c ≠ a.block) : Ck (w.setCell a v) c e := (heap_setCell_other w a c v hn).trans h
structure But (c : Nat) (w w' : World) : Prop where
 os : w'.os = w.os
 tape : w'.tape = w.tape
 output : w'.output = w.output
 size : w.heap.size ≤ w'.heap.size
 block : ∀ k,k < w.heap.size → k ≠ c → w'.heap[k]? = w.heap[k]?
theorem But.refl (c : Nat) (w : World) : But c w w := ⟨rfl,rfl,rfl,Nat.le_refl _,fun _ _ _ => rfl⟩
theorem But.of_below {c : Nat} {w w' : World} (h : Below w.heap.size w w') : But c w w' := ⟨h.os,h.tape,h.output,h.size,fun k hk _ => h.block k hk⟩
theorem But.trans {c : Nat} {u v w : World} (h : But c u v) (k : But c v w) : But c u w :=
 ⟨k.os.trans h.os,k.tape.trans h.tape,k.output.trans h.output,Nat.le_trans h.size k.size,fun i hi hn => (k.block i (Nat.lt_of_lt_of_le hi h.size) hn).trans (h.block i hi hn)⟩
theorem But.below {c : Nat} {w w' : World} {e : Int} (h : But c w w') (h1 : Ck w c e) (h2 : Ck w' c e) : Below w.heap.size w w' :=
 ⟨h.os,h.tape,h.output,h.size,fun k hk => by
  by_cases e : k = c
  ·subst e; exact h2.trans h1.symm
  ·exact h.block k hk e⟩
theorem But.low {c : Nat} {w w' : World} (h : But c w w') (hc : c ≤ w.heap.size) : Below c w w' := ⟨h.os,h.tape,h.output,h.size,fun k hk => h.block k (by omega) (by omega)⟩
theorem But.aw {c : Nat} {w w' : World} {g : Nat} {p : List Int} (h : But c w w') (ha : Aw w g p) (hn : g ≠ c) : Aw w' g p := ha.keep (h.block g ha.lt hn)
theorem But.set (c : Nat) (w : World) (v : Value) : But c w (w.setCell ⟨c,0,none⟩ v) := ⟨rfl,rfl,rfl,by simp [World.setCell],fun k _ hn => Below.heap_setCell _ _ _ _ hn⟩
theorem But.alloc {c : Nat} {a b : World} (h : But c a b) (o : Obj) : But c a (b.alloc o) := h.trans (But.of_below ((Below.refl _ _).alloc (Nat.le_refl _) o))
theorem But.drewN {c : Nat} {a b : World} (h : But c a b) (n : Nat) : But c a (b.drewN n) := ⟨h.os,h.tape,h.output,h.size,h.block⟩
theorem But.new {c : Nat} {a b : World} (h : But c a b) {p : Addr} (hp : a.heap.size ≤ p.block) (v : Value) : But c a (b.setCell p v) :=
 ⟨h.os,h.tape,h.output,by simpa [World.setCell] using h.size,fun k hk hn => (Below.heap_setCell _ _ _ _ (by omega)).trans (h.block k hk hn)⟩
theorem Ck.drewN {w : World} {c : Nat} {e : Int} (h : Ck w c e) (n : Nat) : Ck (w.drewN n) c e := h
theorem But.cell {c : Nat} {w w' : World} (h : But c w w') {a : Addr} {v : Value} (hc : w.cell? a = some v) (hn : a.block ≠ c) : w'.cell? a = some v :=
 (World.cell?_of_block (h.block a.block (World.block_lt_of_cell? w a hc) hn)).trans hc
theorem But.frozen {c : Nat} {w w' : World} (h : But c w w') {a : Addr} {v : Value} (hc : w.cell? a = some v) (hf : w.frozen? a = false) (hn : a.block ≠ c) : w'.frozen? a = false := by
 have e := h.block a.block (World.block_lt_of_cell? w a hc) hn;unfold World.frozen? at hf ⊢;rw [e]; exact hf
theorem k'e9 {B : Nat} {a b : World} (h : Below B a b) (n : Nat) : Below B a (b.drewN n) := ⟨h.os,h.tape,h.output,h.size,h.block⟩
theorem Ck.ne {w : World} {c b o : Nat} {e : Int} {x : Bool} (h : Ck w c e) (hc : w.cell? ⟨b,o,none⟩ = some (.bool x)) : b ≠ c := by
 rintro rfl;rw [cell_of_row w b o _ _ _ h] at hc
 cases o with
 | zero => simp at hc
 | succ o => simp at hc
theorem k'ea (n : Nat) : madeCells #[.bool false,.string ⟨#[]⟩] (n * 2) = (wv (List.replicate n 0)).toArray := by
 apply Array.ext
 ·simp [madeCells,k'e3]
 ·intro i h1 h2
  have h3 : i < n * 2 := by simpa [madeCells] using h1
  have hk : i / 2 < (List.replicate n (0 : Int)).length := by simp; omega
  obtain ⟨g1,g2⟩ := k'e5 (List.replicate n 0) (i / 2) hk;have hz : (List.replicate n (0 : Int))[i / 2] = 0 := by simp
  rw [hz] at g1 g2;have h4 : (wv (List.replicate n 0)).toArray[i] = (wv (List.replicate n 0))[i]'(by simpa using h2) := by simp
  rw [h4];rcases Nat.mod_two_eq_zero_or_one i with e | e
  ·have e2 : i / 2 * 2 = i := by omega
   rw [e2,List.getElem?_eq_getElem (by simpa using h2)] at g1
   rw [Option.some.inj g1];simp [madeCells,e];rfl
  ·have e2 : i / 2 * 2 + 1 = i := by omega
   rw [e2,List.getElem?_eq_getElem (by simpa using h2)] at g2
   rw [Option.some.inj g2];simp [madeCells,e];rfl
theorem k'eb (n : Nat) (w : World) (hn : n ≤ 1000) :
 (Instr.makeSlice 23 (.int .i64 (n : Int)) (.int .i64 (n : Int))).run Tryz.prog w = .ok (.slice (some ⟨w.heap.size,0,none⟩) n n) (w.alloc (.cells (wv (List.replicate n 0)).toArray 44)) := by
 have hi : (Tryz.prog.info? 44).map (fun i => (i.zero,i.size,i.bytes)) = some (some (.agg #[.bool false,.string ⟨#[]⟩]),2,24) := by kernel_rfl
 obtain ⟨i,hi,hz,hs,hb⟩ := info_parts hi;rw [run_make w 23 44 i (.agg #[.bool false,.string ⟨#[]⟩]) Tryz.underlying23 hi hz .i64 .i64 n n (by omega) (by omega) (by rw [hb]; omega) (by omega)]
 simp only [Int.toNat_natCast,hs];have hm : madeCells (Value.cells (.agg #[.bool false,.string ⟨#[]⟩])) (n * 2) = (wv (List.replicate n 0)).toArray := k'ea n;rw [hm]
theorem Aw.ne_ck {w : World} {g c : Nat} {p : List Int} {e : Int} (h : Aw w g p) (k : Ck w c e) : g ≠ c := by
 rintro rfl;obtain ⟨r,h⟩ := h;rw [Ck,h] at k;injection k with k;injection k with _ k;exact absurd k (by decide)
def KPost (r : Value) (c : Nat) (e : Int) (w : World) (en : Ending) (w' : World) : Prop := en = .returned r ∧ But c w w' ∧ Ck w' c e
theorem k'ec (c : Nat) (a : Bool) (s : ByteArray) (x : Int) (w : World) (hc : Ck w c 0) :
 Calls Tryz.prog 119 #[.pointer (some ⟨c,0,none⟩),.agg #[.bool a,.string s],.int .i64 x] w (KPost (.agg #[.bool a,.string s]) c x w) := by
 have hl := hc.lt;have c0 := hc.cell;have f0 := hc.free;have n1 : ¬ w.heap.size = c := by omega
 have n2 : ¬ c = w.heap.size := by omega
 have n3 : ¬ w.heap.size + 1 = c := by omega
 have n4 : ¬ c = w.heap.size + 1 := by omega
 have HC := i' hc;clear hc;go_enter Tryz.func119,Tryz.ntmps119;go_wp2;exact bodyPost_ret (v := .agg #[.bool a,.string s]) (by simp [results,Tryz.results119,go_sem]) rfl ⟨rfl,((But.set c w _).alloc _).alloc _,((HC.out.set x).alloc _).alloc _⟩
theorem k'ed (c : Nat) (a : Bool) (s : ByteArray) (x e : Int) (w : World) (hc : Ck w c e) (he : e ≠ 0) :
 Calls Tryz.prog 119 #[.pointer (some ⟨c,0,none⟩),.agg #[.bool a,.string s],.int .i64 x] w (KPost (.agg #[.bool a,.string s]) c e w) := by
 have hl := hc.lt;have c0 := hc.cell;have n1 : ¬ w.heap.size = c := by omega
 have n2 : ¬ c = w.heap.size := by omega
 have n3 : ¬ w.heap.size + 1 = c := by omega
 have n4 : ¬ c = w.heap.size + 1 := by omega
 have h0 : (e == 0) = false := by simpa using he
 have HC := i' hc;clear hc he;go_enter Tryz.func119,Tryz.ntmps119;go_wp2;exact bodyPost_ret (v := .agg #[.bool a,.string s]) (by simp [results,Tryz.results119,go_sem]) rfl ⟨rfl,((But.refl c w).alloc _).alloc _,(HC.out.alloc _).alloc _⟩
theorem k'ee (c : Nat) (a : Bool) (s : ByteArray) (x e : Int) (w : World) (hc : Ck w c e) :
 Calls Tryz.prog 119 #[.pointer (some ⟨c,0,none⟩),.agg #[.bool a,.string s],.int .i64 x] w (KPost (.agg #[.bool a,.string s]) c (if e = 0 then x else e) w) := by
 by_cases h : e = 0
 ·subst h; rw [if_pos rfl]; exact k'ec c a s x w hc
 ·rw [if_neg h]; exact k'ed c a s x e w hc h
theorem k'ef (c : Nat) (a b rb : Bool) (s t rs : ByteArray) (rc e e' : Int) (w : World) (hc : Ck w c e) (he : e' = if e = 0 then rc else e)
 (hA : ∀ w,Calls Tryz.prog 120 #[.agg #[.bool a,.string s],.agg #[.bool b,.string t]] w (WPost (.agg #[.bool rb,.string rs]) rc w)) :
 Calls Tryz.prog 78 #[.pointer (some ⟨c,0,none⟩),.agg #[.bool a,.string s],.agg #[.bool b,.string t]] w (KPost (.agg #[.bool rb,.string rs]) c e' w) := by
 have hl := hc.lt;have HC := i' hc;have HA := i' hA;have HE := i' he;have n1 : ¬ (w.heap.size + 1 + 1 = c) := by omega
 clear hc hA he;go_enter Tryz.func78,Tryz.ntmps78;go_wp2_with fail;obtain ⟨w0,hw0⟩ : ∃ w0 : World,w0 = ((w.alloc (.cells #[.bool a,.string s] 44)).alloc (.cells #[.bool b,.string t] 44)).alloc (.cells #[.bool false,.string ⟨#[]⟩] 44) := ⟨_,rfl⟩;have hb0 : Hid (Below w.heap.size w w0) := by rw [hw0]; exact (((Below.refl _ _).alloc (Nat.le_refl _) _).alloc (by simp) _).alloc (by simp; omega) _
 have HC0 : Hid (Ck w0 c e) := by rw [hw0]; exact ((HC.out.alloc _).alloc _).alloc _
 have k4 : w0.cell? ⟨w.heap.size + 1 + 1,0,none⟩ = some (.bool false) := by rw [hw0]; simp [go_sem]
 have k5 : w0.cell? ⟨w.heap.size + 1 + 1,1,none⟩ = some (.string ⟨#[]⟩) := by rw [hw0]; simp [go_sem]
 have k6 : w0.frozen? ⟨w.heap.size + 1 + 1,0,none⟩ = false := by rw [hw0]; simp [go_sem]
 have k7 : w0.frozen? ⟨w.heap.size + 1 + 1,1,none⟩ = false := by rw [hw0]; simp [go_sem]
 rw [← hw0];have KK := i' (And.intro k4 (And.intro k5 (And.intro k6 k7)));clear k4 k5 k6 k7 hw0;refine (HA.out _).mono ?_;rintro en wa ⟨rfl,hba⟩;have HB1 := i' (k'4h hb0.out hba);have HC1 := i' (HC0.out.below hba);have HB2 := i' hba;clear hba;go_wp2_with fail;refine (k'ee c rb rs rc e _ HC1.out).mono ?_;rintro en wb ⟨rfl,hk1,hk2⟩;rw [← HE.out] at hk2;have k4 := hk1.cell (k'4i HB2.out KK.out.1) n1;have k5 := hk1.cell (k'4i HB2.out KK.out.2.1) n1;have k6 := hk1.frozen (k'4i HB2.out KK.out.1) (k'4j HB2.out KK.out.1 KK.out.2.2.1) n1;have k7 := hk1.frozen (k'4i HB2.out KK.out.2.1) (k'4j HB2.out KK.out.2.1 KK.out.2.2.2) n1;have n2 : c ≠ w.heap.size + 1 + 1 := by omega
 have HZ := i' (((((But.of_below HB1.out).trans hk1).new (p := ⟨w.heap.size + 1 + 1,0,none⟩) (by simp; omega) (.bool rb)).new (p := ⟨w.heap.size + 1 + 1,1,none⟩) (by simp; omega) (.string rs)))
 have HY := i' ((hk2.other ⟨w.heap.size + 1 + 1,0,none⟩ (.bool rb) n2).other ⟨w.heap.size + 1 + 1,1,none⟩ (.string rs) n2);clear hk1 hk2 n2;go_wp2;exact bodyPost_ret (v := .agg #[.bool rb,.string rs]) (by simp [results,Tryz.results78,go_sem,k4,k5]) rfl ⟨rfl,HZ.out,HY.out⟩
theorem k'eg (c : Nat) (a b rb : Bool) (s t rs : ByteArray) (rc e e' : Int) (w : World) (hc : Ck w c e) (he : e' = if e = 0 then rc else e)
 (hA : ∀ w,Calls Tryz.prog 121 #[.agg #[.bool a,.string s],.agg #[.bool b,.string t]] w (WPost (.agg #[.bool rb,.string rs]) rc w)) :
 Calls Tryz.prog 79 #[.pointer (some ⟨c,0,none⟩),.agg #[.bool a,.string s],.agg #[.bool b,.string t]] w (KPost (.agg #[.bool rb,.string rs]) c e' w) := by
 have hl := hc.lt;have HC := i' hc;have HA := i' hA;have HE := i' he;have n1 : ¬ (w.heap.size + 1 + 1 = c) := by omega
 clear hc hA he;go_enter Tryz.func79,Tryz.ntmps79;go_wp2_with fail;obtain ⟨w0,hw0⟩ : ∃ w0 : World,w0 = ((w.alloc (.cells #[.bool a,.string s] 44)).alloc (.cells #[.bool b,.string t] 44)).alloc (.cells #[.bool false,.string ⟨#[]⟩] 44) := ⟨_,rfl⟩;have hb0 : Hid (Below w.heap.size w w0) := by rw [hw0]; exact (((Below.refl _ _).alloc (Nat.le_refl _) _).alloc (by simp) _).alloc (by simp; omega) _
 have HC0 : Hid (Ck w0 c e) := by rw [hw0]; exact ((HC.out.alloc _).alloc _).alloc _
 have k4 : w0.cell? ⟨w.heap.size + 1 + 1,0,none⟩ = some (.bool false) := by rw [hw0]; simp [go_sem]
 have k5 : w0.cell? ⟨w.heap.size + 1 + 1,1,none⟩ = some (.string ⟨#[]⟩) := by rw [hw0]; simp [go_sem]
 have k6 : w0.frozen? ⟨w.heap.size + 1 + 1,0,none⟩ = false := by rw [hw0]; simp [go_sem]
 have k7 : w0.frozen? ⟨w.heap.size + 1 + 1,1,none⟩ = false := by rw [hw0]; simp [go_sem]
 rw [← hw0];have KK := i' (And.intro k4 (And.intro k5 (And.intro k6 k7)));clear k4 k5 k6 k7 hw0;refine (HA.out _).mono ?_;rintro en wa ⟨rfl,hba⟩;have HB1 := i' (k'4h hb0.out hba);have HC1 := i' (HC0.out.below hba);have HB2 := i' hba;clear hba;go_wp2_with fail;refine (k'ee c rb rs rc e _ HC1.out).mono ?_;rintro en wb ⟨rfl,hk1,hk2⟩;rw [← HE.out] at hk2;have k4 := hk1.cell (k'4i HB2.out KK.out.1) n1;have k5 := hk1.cell (k'4i HB2.out KK.out.2.1) n1;have k6 := hk1.frozen (k'4i HB2.out KK.out.1) (k'4j HB2.out KK.out.1 KK.out.2.2.1) n1;have k7 := hk1.frozen (k'4i HB2.out KK.out.2.1) (k'4j HB2.out KK.out.2.1 KK.out.2.2.2) n1;have n2 : c ≠ w.heap.size + 1 + 1 := by omega
 have HZ := i' (((((But.of_below HB1.out).trans hk1).new (p := ⟨w.heap.size + 1 + 1,0,none⟩) (by simp; omega) (.bool rb)).new (p := ⟨w.heap.size + 1 + 1,1,none⟩) (by simp; omega) (.string rs)))
 have HY := i' ((hk2.other ⟨w.heap.size + 1 + 1,0,none⟩ (.bool rb) n2).other ⟨w.heap.size + 1 + 1,1,none⟩ (.string rs) n2);clear hk1 hk2 n2;go_wp2;exact bodyPost_ret (v := .agg #[.bool rb,.string rs]) (by simp [results,Tryz.results79,go_sem,k4,k5]) rfl ⟨rfl,HZ.out,HY.out⟩
theorem k'eh (c : Nat) (a b rb : Bool) (s t rs : ByteArray) (rc e e' : Int) (w : World) (hc : Ck w c e) (he : e' = if e = 0 then rc else e)
 (hA : ∀ w,Calls Tryz.prog 126 #[.agg #[.bool a,.string s],.agg #[.bool b,.string t]] w (WPost (.agg #[.bool rb,.string rs]) rc w)) :
 Calls Tryz.prog 89 #[.pointer (some ⟨c,0,none⟩),.agg #[.bool a,.string s],.agg #[.bool b,.string t]] w (KPost (.agg #[.bool rb,.string rs]) c e' w) := by
 have hl := hc.lt;have HC := i' hc;have HA := i' hA;have HE := i' he;have n1 : ¬ (w.heap.size + 1 + 1 = c) := by omega
 clear hc hA he;go_enter Tryz.func89,Tryz.ntmps89;go_wp2_with fail;obtain ⟨w0,hw0⟩ : ∃ w0 : World,w0 = ((w.alloc (.cells #[.bool a,.string s] 44)).alloc (.cells #[.bool b,.string t] 44)).alloc (.cells #[.bool false,.string ⟨#[]⟩] 44) := ⟨_,rfl⟩;have hb0 : Hid (Below w.heap.size w w0) := by rw [hw0]; exact (((Below.refl _ _).alloc (Nat.le_refl _) _).alloc (by simp) _).alloc (by simp; omega) _
 have HC0 : Hid (Ck w0 c e) := by rw [hw0]; exact ((HC.out.alloc _).alloc _).alloc _
 have k4 : w0.cell? ⟨w.heap.size + 1 + 1,0,none⟩ = some (.bool false) := by rw [hw0]; simp [go_sem]
 have k5 : w0.cell? ⟨w.heap.size + 1 + 1,1,none⟩ = some (.string ⟨#[]⟩) := by rw [hw0]; simp [go_sem]
 have k6 : w0.frozen? ⟨w.heap.size + 1 + 1,0,none⟩ = false := by rw [hw0]; simp [go_sem]
 have k7 : w0.frozen? ⟨w.heap.size + 1 + 1,1,none⟩ = false := by rw [hw0]; simp [go_sem]
 rw [← hw0];have KK := i' (And.intro k4 (And.intro k5 (And.intro k6 k7)));clear k4 k5 k6 k7 hw0;refine (HA.out _).mono ?_;rintro en wa ⟨rfl,hba⟩;have HB1 := i' (k'4h hb0.out hba);have HC1 := i' (HC0.out.below hba);have HB2 := i' hba;clear hba;go_wp2_with fail;refine (k'ee c rb rs rc e _ HC1.out).mono ?_;rintro en wb ⟨rfl,hk1,hk2⟩;rw [← HE.out] at hk2;have k4 := hk1.cell (k'4i HB2.out KK.out.1) n1;have k5 := hk1.cell (k'4i HB2.out KK.out.2.1) n1;have k6 := hk1.frozen (k'4i HB2.out KK.out.1) (k'4j HB2.out KK.out.1 KK.out.2.2.1) n1;have k7 := hk1.frozen (k'4i HB2.out KK.out.2.1) (k'4j HB2.out KK.out.2.1 KK.out.2.2.2) n1;have n2 : c ≠ w.heap.size + 1 + 1 := by omega
 have HZ := i' (((((But.of_below HB1.out).trans hk1).new (p := ⟨w.heap.size + 1 + 1,0,none⟩) (by simp; omega) (.bool rb)).new (p := ⟨w.heap.size + 1 + 1,1,none⟩) (by simp; omega) (.string rs)))
 have HY := i' ((hk2.other ⟨w.heap.size + 1 + 1,0,none⟩ (.bool rb) n2).other ⟨w.heap.size + 1 + 1,1,none⟩ (.string rs) n2);clear hk1 hk2 n2;go_wp2;exact bodyPost_ret (v := .agg #[.bool rb,.string rs]) (by simp [results,Tryz.results89,go_sem,k4,k5]) rfl ⟨rfl,HZ.out,HY.out⟩
def clip (z : Int) : Int := if z.natAbs < Top then z else 0
def er (e z : Int) : Int := if e = 0 then (if z.natAbs < Top then 0 else 7) else e
theorem k'ei (e : Int) {z : Int} (h : z.natAbs < Top) : er e z = e := by unfold er; rw [if_pos h]; split <;> omega
theorem k'ej {z : Int} (h : z.natAbs < Top) : clip z = z := if_pos h
theorem k'ek (a : Bool) (m : Nat) : wres a m = Z (clip (sg a m)) := by
 unfold wres clip;rw [k'bb]
 split
 ·exact k'b2 a m
 ·exact k'b2 false 0
theorem k'el (e : Int) (a : Bool) (m : Nat) : er e (sg a m) = if e = 0 then werr m else e := by unfold er werr; rw [k'bb]
theorem k'em (c : Nat) (x y e : Int) (w : World) (hc : Ck w c e) (hx : x.natAbs < Top) (hy : y.natAbs < Top) :
 Calls Tryz.prog 78 #[.pointer (some ⟨c,0,none⟩),Z x,Z y] w (KPost (Z (clip (x + y))) c (er e (x + y)) w) := by
 refine k'ef c _ _ _ _ _ _ (werr (pls (zb x) (bv (zs x)) (zb y) (bv (zs y))).2) e _ w hc ?_ fun w => ?_
 ·rw [← k'el e (pls (zb x) (bv (zs x)) (zb y) (bv (zs y))).1,k'b3,k'dk,k'dk]
 ·have h1 := k'4x (zb x) (zb y) (zs x) (zs y) w (zvt hx) (zvt hy)
  rw [k'ek,k'b3,k'dk,k'dk] at h1;exact h1
theorem k'en (c : Nat) (x y e : Int) (w : World) (hc : Ck w c e) (hx : x.natAbs < Top) (hy : y.natAbs < Top) :
 Calls Tryz.prog 79 #[.pointer (some ⟨c,0,none⟩),Z x,Z y] w (KPost (Z (clip (x - y))) c (er e (x - y)) w) := by
 refine k'eg c _ _ _ _ _ _ (werr (pls (zb x) (bv (zs x)) (!(zb y)) (bv (zs y))).2) e _ w hc ?_ fun w => ?_
 ·rw [← k'el e (pls (zb x) (bv (zs x)) (!(zb y)) (bv (zs y))).1,k'b3,k'b5,k'dk,k'dk,Int.sub_eq_add_neg]
 ·have h1 := k'ay (zb x) (zb y) (zs x) (zs y) w (zvt hx) (zvt hy)
  rw [k'ek,k'b3,k'b5,k'dk,k'dk,← Int.sub_eq_add_neg] at h1;exact h1
theorem k'eo {r : Value} {c : Nat} {e : Int} {w : World} (hc : Ck w c e) : ∀ en w',KPost r c e w en w' → Ret r w en w' := fun _ _ ⟨h1,h2,h3⟩ => ⟨h1,h2.below hc h3⟩
theorem k'ep (e : Int) : e = if e = 0 then 0 else e := by split <;> omega
theorem k'eq (c : Nat) (x y e : Int) (w : World) (hc : Ck w c e) (hx : x.natAbs < Top) (hy : y.natAbs < Top) (h : (x + y).natAbs < Top) :
 Calls Tryz.prog 78 #[.pointer (some ⟨c,0,none⟩),Z x,Z y] w (Ret (Z (x + y)) w) :=
 (k'ef c _ _ _ _ _ _ 0 e e w hc (k'ep e) fun w => k'dl x y w hx hy h).mono (k'eo hc)
theorem k'er (c : Nat) (x y e : Int) (w : World) (hc : Ck w c e) (hx : x.natAbs < Top) (hy : y.natAbs < Top) (h : (x - y).natAbs < Top) :
 Calls Tryz.prog 79 #[.pointer (some ⟨c,0,none⟩),Z x,Z y] w (Ret (Z (x - y)) w) :=
 (k'eg c _ _ _ _ _ _ 0 e e w hc (k'ep e) fun w => k'dm x y w hx hy h).mono (k'eo hc)
theorem k'es (c : Nat) (x y e : Int) (w : World) (hc : Ck w c e) (hx : x.natAbs < Top) (hy : y.natAbs < Top) (h : (x * y).natAbs < Top) :
 Calls Tryz.prog 89 #[.pointer (some ⟨c,0,none⟩),Z x,Z y] w (Ret (Z (x * y)) w) :=
 (k'eh c _ _ _ _ _ _ 0 e e w hc (k'ep e) fun w => k'dn x y w hx hy h).mono (k'eo hc)
end Go.Proofs.YtepddegphdlbeaaGreat
