/- What the theorem leans on, part Y0. -/
import Derived.Test.YtepddegphdlbeaaGreatProg
import Derived.WalkKit
import Derived.WalkSpells
import Derived.WalkLawsBesides
import Derived.Lib.Hide
import Derived.Deep.QuietTactic
import Derived.BigQuiet
import Derived.Shelf.Small.Bits
import Derived.Shelf.Small.Wraps
import Derived.Shelf.Strconv.Itoa0
import Derived.Shelf.Bits.Mul64
import Derived.Ground.Names2Prog
import Derived.Shelf.Slices.SearchI
import Derived.Shelf.Spec.BitsCarry
set_option maxRecDepth 100000
set_option maxHeartbeats 16000000
set_option linter.all false
namespace Go.Proofs.YtepddegphdlbeaaGreat
theorem i' {p : Prop} (h : p) : RowKit.Hid p := h
end Go.Proofs.YtepddegphdlbeaaGreat
namespace Go.Proofs.YtepddegphdlbeaaGreat
namespace Nm
def val (B : Nat) : List Nat → Nat
 | [] => 0
 | x :: xs => x + B * val B xs
def Dig (B : Nat) (l : List Nat) : Prop := ∀ x ∈ l,x < B
def Nrm : List Nat → Prop
 | [] => True
 | [x] => x ≠ 0
 | _ :: y :: l => Nrm (y :: l)
def trimL : List Nat → List Nat
 | [] => []
 | x :: xs => match trimL xs with
  | [] => if x = 0 then [] else [x]
  | y :: ys => x :: y :: ys
theorem val_nil (B : Nat) : val B [] = 0 := rfl
theorem val_cons (B x : Nat) (l : List Nat) : val B (x :: l) = x + B * val B l := rfl
theorem val_append (B : Nat) (a b : List Nat) : val B (a ++ b) = val B a + B ^ a.length * val B b := by
 induction a with
 | nil => simp [val]
 | cons x a ih => simp only [List.cons_append,val,ih,List.length_cons,Nat.pow_succ]; grind
theorem val_snoc (B : Nat) (a : List Nat) (x : Nat) : val B (a ++ [x]) = val B a + B ^ a.length * x := by
 rw [val_append]; simp [val]
theorem dig_nil (B : Nat) : Dig B [] := by intro x h; cases h
theorem dig_cons {B x : Nat} {l : List Nat} : Dig B (x :: l) ↔ x < B ∧ Dig B l := by simp [Dig]
theorem dig_append {B : Nat} {a b : List Nat} : Dig B (a ++ b) ↔ Dig B a ∧ Dig B b := by
 simp only [Dig,List.mem_append]; grind
theorem dig_get {B : Nat} {l : List Nat} (h : Dig B l) (i : Nat) (hi : i < l.length) : l[i] < B := h _ (List.getElem_mem hi)
theorem dig_take {B : Nat} {l : List Nat} (h : Dig B l) (n : Nat) : Dig B (l.take n) := fun x hx => h x (List.mem_of_mem_take hx)
theorem dig_drop {B : Nat} {l : List Nat} (h : Dig B l) (n : Nat) : Dig B (l.drop n) := fun x hx => h x (List.mem_of_mem_drop hx)
theorem val_lt {B : Nat} {l : List Nat} (h : Dig B l) : val B l < B ^ l.length := by
 induction l with
 | nil => simp [val]
 | cons x l ih =>
  rw [dig_cons] at h;have := ih h.2;simp only [val,List.length_cons,Nat.pow_succ];have h2 : B * (val B l + 1) ≤ B * B ^ l.length := Nat.mul_le_mul_left _ this
  grind
theorem k'0 {x : Nat} {l : List Nat} (h : Nrm (x :: l)) : Nrm l := by
 cases l with
 | nil => trivial
 | cons y l => exact h
theorem nrm_snoc (l : List Nat) (x : Nat) (h : x ≠ 0) : Nrm (l ++ [x]) := by
 induction l with
 | nil => exact h
 | cons y l ih =>
  cases l with
  | nil => exact h
  | cons z l => exact ih
theorem k'1 {l : List Nat} (h : 0 < l.length) (hx : l[l.length - 1] ≠ 0) : Nrm l := by
 have : l = l.take (l.length - 1) ++ [l[l.length - 1]] := by
  conv => lhs; rw [← List.take_length (l := l)]
  have h1 : l.length = (l.length - 1) + 1 := by omega
  conv => lhs; rw [h1]
  rw [List.take_succ_eq_append_getElem (by omega)]
 rw [this]; exact nrm_snoc _ _ hx
theorem nrm_take_last {l : List Nat} {j : Nat} (hj : j < l.length) (hx : l[j] ≠ 0) : Nrm (l.take (j + 1)) := by
 rw [List.take_succ_eq_append_getElem hj]; exact nrm_snoc _ _ hx
theorem nrm_last {l : List Nat} (hn : Nrm l) (h : 0 < l.length) : l[l.length - 1] ≠ 0 := by
 induction l with
 | nil => simp at h
 | cons x l ih =>
  cases l with
  | nil => simpa [Nrm] using hn
  | cons y l => simpa using ih hn (by simp)
theorem val_pos {B : Nat} {l : List Nat} (hn : Nrm l) (h : l ≠ []) : B ^ (l.length - 1) ≤ val B l := by
 induction l with
 | nil => exact absurd rfl h
 | cons x l ih =>
  cases l with
  | nil => simp only [Nrm] at hn; simp [val]; omega
  | cons y l =>
   have := ih hn (by simp)
   simp only [List.length_cons,Nat.add_sub_cancel] at this ⊢;rw [val_cons,Nat.pow_succ];have h2 : B * B ^ l.length ≤ B * val B (y :: l) := Nat.mul_le_mul_left _ this
   grind
theorem val_zero {B : Nat} (hB : 0 < B) {l : List Nat} (hn : Nrm l) (h : val B l = 0) : l = [] := by
 by_cases e : l = []
 ·exact e
 ·have := val_pos (B := B) hn e
  have := Nat.pow_pos (n := l.length - 1) hB;omega
theorem k'2 {B : Nat} {a b : List Nat} (ha : Dig B a) (hb : Dig B b) (na : Nrm a) (nb : Nrm b) (h : val B a = val B b) : a = b := by
 induction a generalizing b with
 | nil =>
  by_cases hB : 0 < B
  ·exact (val_zero hB nb (by rw [← h]; rfl)).symm
  ·cases b with
   | nil => rfl
   | cons y b => have := (dig_cons.1 hb).1; omega
 | cons x a ih =>
  have hx := (dig_cons.1 ha).1;have hB : 0 < B := by omega
  cases b with
  | nil => exact val_zero hB na (by rw [h]; rfl)
  | cons y b =>
   have hy := (dig_cons.1 hb).1;simp only [val] at h;have e1 : x = y := by
    have h1 := congrArg (· % B) h;simpa [Nat.add_mul_mod_self_left,Nat.mod_eq_of_lt hx,Nat.mod_eq_of_lt hy] using h1
   subst e1;have e2 : val B a = val B b := by
    have : B * val B a = B * val B b := by omega
    exact Nat.eq_of_mul_eq_mul_left hB this
   rw [ih (dig_cons.1 ha).2 (dig_cons.1 hb).2 (k'0 na) (k'0 nb) e2]
theorem k'3 (B : Nat) (l : List Nat) : val B (trimL l) = val B l := by
 induction l with
 | nil => rfl
 | cons x l ih =>
  simp only [trimL]
  split
  ·next h =>
   rw [h] at ih;have ih0 : val B l = 0 := ih.symm
   split
   ·next h0 => rw [val_cons,ih0,h0]; simp [val]
   ·rw [val_cons,val_cons,ih0]; rfl
  ·next y ys h => rw [h] at ih; rw [val_cons,val_cons B x l,ih]
theorem k'4 {B : Nat} {l : List Nat} (h : Dig B l) : Dig B (trimL l) := by
 induction l with
 | nil => exact h
 | cons x l ih =>
  rw [dig_cons] at h;have := ih h.2;simp only [trimL]
  split
  ·split
   ·exact dig_nil B
   ·exact dig_cons.2 ⟨h.1,dig_nil B⟩
  ·next y ys e => rw [e] at this; exact dig_cons.2 ⟨h.1,this⟩
theorem k'5 (l : List Nat) : Nrm (trimL l) := by
 induction l with
 | nil => trivial
 | cons x l ih =>
  simp only [trimL]
  split
  ·split
   ·trivial
   ·assumption
  ·next y ys e => rw [e] at ih; exact ih
theorem trimL_take {l : List Nat} {n : Nat} (hn : n ≤ l.length) (hz : ∀ i (h : i < l.length),n ≤ i → l[i] = 0) (hl : Nrm (l.take n)) : trimL l = l.take n := by
 induction l generalizing n with
 | nil => simp [trimL]
 | cons x l ih =>
  cases n with
  | zero =>
   have h0 : x = 0 := hz 0 (by simp) (by simp)
   have : trimL l = l.take 0 := ih (Nat.zero_le _) (fun i h _ => hz (i + 1) (by simpa using h) (by omega)) (by simp [Nrm])
   simp [trimL,this,h0]
  | succ n =>
   have h1 : trimL l = l.take n := ih (by simpa using hn) (fun i h hi => hz (i + 1) (by simpa using h) (by omega)) (by simp only [List.take_succ_cons] at hl; exact k'0 hl)
   simp only [trimL,h1,List.take_succ_cons]
   cases hm : l.take n with
   | nil =>
    rw [List.take_succ_cons,hm] at hl;simp only [Nrm] at hl;simp [hl]
   | cons y ys => rfl
theorem trimL_le (l : List Nat) : (trimL l).length ≤ l.length := by
 induction l with
 | nil => simp [trimL]
 | cons x l ih =>
  simp only [trimL]
  split
  ·split <;> simp
  ·next y ys h => rw [h] at ih; simpa using ih
theorem trimL_is_take (l : List Nat) : trimL l = l.take (trimL l).length := by
 induction l with
 | nil => rfl
 | cons x l ih =>
  simp only [trimL]
  split
  ·next h => split <;> simp
  ·next y ys h =>
   rw [h] at ih;simp only [List.length_cons,List.take_succ_cons];rw [List.length_cons] at ih;rw [← ih]
theorem seg_get (l s : List Nat) (off k : Nat) (hs : s.length = k) (h : off + k < l.length) :
 (l.take off ++ (s ++ l.drop (off + k)))[off + k]'(by simp; omega) = l[off + k] := by
 rw [List.getElem_append_right (by simp; omega)]
 rw [List.getElem_append_right (by simp; omega)]
 simp only [List.getElem_drop,List.length_take]
 congr 1
 omega
theorem seg_set (l s : List Nat) (off k z : Nat) (hs : s.length = k) (h : off + k < l.length) :
 (l.take off ++ (s ++ l.drop (off + k))).set (off + k) z = l.take off ++ ((s ++ [z]) ++ l.drop (off + (k + 1))) := by
 rw [List.set_append_right _ _ (by simp; omega),List.set_append_right _ _ (by simp; omega)]
 have e : off + k - (l.take off).length - s.length = 0 := by simp; omega
 rw [e,List.drop_eq_getElem_cons h,List.set_cons_zero,← Nat.add_assoc];simp
theorem seg_all (l : List Nat) (off : Nat) : l.take off ++ ([] ++ l.drop (off + 0)) = l := by simp
theorem seg_length (l s : List Nat) (off k : Nat) (hs : s.length = k) (h : off + k ≤ l.length) : (l.take off ++ (s ++ l.drop (off + k))).length = l.length := by
 simp; omega
theorem val_zeros (B n : Nat) : val B (List.replicate n 0) = 0 := by
 induction n with
 | zero => rfl
 | succ n ih => rw [List.replicate_succ,val_cons,ih]; simp
def dgF (B : Nat) : Nat → Nat → List Nat
 | 0,_ => []
 | f + 1,n => if n = 0 then [] else n % B :: dgF B f (n / B)
def dg (B n : Nat) : List Nat := dgF B n n
theorem k'7 {B : Nat} (hB : 2 ≤ B) : ∀ (f n : Nat),n ≤ f → Dig B (dgF B f n) ∧ Nrm (dgF B f n) ∧ val B (dgF B f n) = n := by
 intro f
 induction f with
 | zero => intro n h; simp [dgF,Dig,Nrm,val]; omega
 | succ f ih =>
  intro n h;simp only [dgF]
  split
  ·next h0 => simp [Dig,Nrm,val,h0]
  ·next h0 =>
   have hd : n / B < n := Nat.div_lt_self (by omega) (by omega)
   obtain ⟨h1,h2,h3⟩ := ih (n / B) (by omega)
   have hm : n % B < B := Nat.mod_lt _ (by omega)
   refine ⟨dig_cons.2 ⟨hm,h1⟩,?_,?_⟩
   ·cases e : dgF B f (n / B) with
    | nil =>
     rw [e] at h3;simp only [val] at h3;have := Nat.div_add_mod n B;rw [← h3] at this;simp only [Nrm]; omega
    | cons y l => rw [e] at h2; exact h2
   ·rw [val_cons,h3]; exact Nat.mod_add_div n B
theorem dig_dg {B : Nat} (hB : 2 ≤ B) (n : Nat) : Dig B (dg B n) := (k'7 hB n n (Nat.le_refl _)).1
theorem nrm_dg {B : Nat} (hB : 2 ≤ B) (n : Nat) : Nrm (dg B n) := (k'7 hB n n (Nat.le_refl _)).2.1
theorem val_dg {B : Nat} (hB : 2 ≤ B) (n : Nat) : val B (dg B n) = n := (k'7 hB n n (Nat.le_refl _)).2.2
theorem eq_dg {B : Nat} (hB : 2 ≤ B) {l : List Nat} (hd : Dig B l) (hn : Nrm l) : l = dg B (val B l) :=
 k'2 hd (dig_dg hB _) hn (nrm_dg hB _) (val_dg hB _).symm
theorem trimL_dg {B : Nat} (hB : 2 ≤ B) {l : List Nat} (hd : Dig B l) : trimL l = dg B (val B l) := by
 rw [eq_dg hB (k'4 hd) (k'5 l),k'3]
theorem dg_zero (B : Nat) : dg B 0 = [] := rfl
theorem val_take_succ (B : Nat) (l : List Nat) (i : Nat) (h : i < l.length) : val B (l.take (i + 1)) = val B (l.take i) + B ^ i * l[i] := by
 rw [List.take_succ_eq_append_getElem h,val_snoc,List.length_take,Nat.min_eq_left (by omega)]
theorem val_split (B : Nat) (l : List Nat) (i : Nat) (h : i ≤ l.length) : val B l = val B (l.take i) + B ^ i * val B (l.drop i) := by
 conv => lhs; rw [← List.take_append_drop i l]
 rw [val_append,List.length_take,Nat.min_eq_left h]
theorem val_lt_of_len {B : Nat} (hB : 0 < B) {a b : List Nat} (ha : Dig B a) (nb : Nrm b) (h : a.length < b.length) : val B a < val B b := by
 have h1 := val_lt ha;have h2 := val_pos (B := B) nb (by intro e; rw [e] at h; simp at h)
 have h3 : B ^ a.length ≤ B ^ (b.length - 1) := Nat.pow_le_pow_right hB (by omega)
 omega
theorem val_lt_of_at {B : Nat} {a b : List Nat} (ha : Dig B a) (hl : a.length = b.length) (i : Nat) (hi : i < a.length) (he : a.drop (i + 1) = b.drop (i + 1)) (h : a[i] < b[i]'(hl ▸ hi)) : val B a < val B b := by
 rw [val_split B a (i + 1) (by omega),val_split B b (i + 1) (by omega),he,val_take_succ B a i hi,val_take_succ B b i (hl ▸ hi)]
 have h1 : val B (a.take i) < B ^ i := by
  have := val_lt (dig_take ha i);rwa [List.length_take,Nat.min_eq_left (by omega)] at this
 have h2 : B ^ i * (a[i] + 1) ≤ B ^ i * b[i]'(hl ▸ hi) := Nat.mul_le_mul_left _ h
 grind
theorem len_le_of_val {B : Nat} (hB : 2 ≤ B) {l : List Nat} (hn : Nrm l) {k : Nat} (h : val B l < B ^ k) : l.length ≤ k := by
 by_cases e : l = []
 ·simp [e]
 ·have h1 := val_pos (B := B) hn e
  have h2 : B ^ (l.length - 1) < B ^ k := Nat.lt_of_le_of_lt h1 h;have := (Nat.pow_lt_pow_iff_right (by omega : 1 < B)).1 h2
  omega
theorem nrm_of_val {B : Nat} {l : List Nat} (hd : Dig B l) (h : B ^ (l.length - 1) ≤ val B l) : Nrm l := by
 rcases Nat.eq_zero_or_pos l.length with h0 | h0
 ·rw [List.eq_nil_of_length_eq_zero h0]; trivial
 ·refine k'1 h0 (fun e => ?_)
  have h1 := val_take_succ B l (l.length - 1) (by omega)
  rw [show l.length - 1 + 1 = l.length by omega,List.take_length,e] at h1
  have h2 := val_lt (dig_take hd (l.length - 1));rw [List.length_take,Nat.min_eq_left (by omega)] at h2
  omega
end Nm
end Go.Proofs.YtepddegphdlbeaaGreat
namespace Go.Proofs.YtepddegphdlbeaaGreat
open Go.RowKit
theorem k'8 {P : Program} {f : FuncId} {args : Array Value} {w : World} {a n : Nat} {v : Value}
 (h : Calls P f args (w.drewN (a + n)) fun e w' => e = .returned v ∧ w.drewN (a + n) = w') : Calls P f args (w.drewN (a + n)) fun e w'' => e = .returned v ∧ ∃ m,w'' = w.drewN (a + m) :=
 h.mono fun _ _ ⟨he,hm⟩ => ⟨he,n,hm.symm⟩
theorem k'9 {P : Program} {f : FuncId} {args : Array Value} {w : World} {n : Nat} {v : Value}
 (h : Calls P f args (w.drewN n) fun e w' => e = .returned v ∧ w.drewN n = w') : Calls P f args (w.drewN n) fun e w'' => e = .returned v ∧ ∃ m,w'' = w.drewN m :=
 h.mono fun _ _ ⟨he,hm⟩ => ⟨he,n,hm.symm⟩
def W : Nat := 18446744073709551616
theorem k'a : W = 18446744073709551616 := rfl
theorem W2 : 2 ≤ W := by decide
theorem W0 : 0 < W := by decide
def uv (l : List Nat) : List Value := l.map fun (n : Nat) => Value.int .u64 (n : Int)
theorem k'b (l : List Nat) : (uv l).length = l.length := by simp [uv]
theorem k'c (l : List Nat) (k : Nat) (h : k < l.length) : (uv l)[k]? = some (.int .u64 (l[k] : Int)) := by simp [uv,List.getElem?_eq_getElem h]
theorem k'd (l : List Nat) (k n : Nat) : (uv l).set k (.int .u64 (n : Int)) = uv (l.set k n) := by simp [uv,List.map_set]
def Rd (w : World) (v : Value) (xs : List Nat) : Prop :=
 ∃ (p : Option Addr) (b off cap : Nat),v = .slice p xs.length cap ∧ xs.length ≤ cap ∧ cap ≤ maxLen ∧ (xs ≠ [] → p = some ⟨b,off,none⟩) ∧ ((p = none ∧ cap = 0) ∨ (p = some ⟨b,off,none⟩ ∧ b < w.heap.size)) ∧
  ∀ k (h : k < xs.length),w.cell? ⟨b,off + k,none⟩ = some (.int .u64 (xs[k] : Int))
def Arr (w : World) (g : Nat) (l : List Nat) : Prop := w.heap[g]? = some (.cells (uv l).toArray 129 (0,0))
theorem Arr.lt {w : World} {g : Nat} {l : List Nat} (h : Arr w g l) : g < w.heap.size := lt_of_block h
theorem Arr.cell {w : World} {g : Nat} {l : List Nat} (h : Arr w g l) (k : Nat) (hk : k < l.length) : w.cell? ⟨g,k,none⟩ = some (.int .u64 (l[k] : Int)) := by
 rw [cell_of_row w g k _ _ _ h]; simpa using k'c l k hk
theorem Arr.has {w : World} {g : Nat} {l : List Nat} (h : Arr w g l) (k : Nat) (hk : k < l.length) : ∃ v,w.cell? ⟨g,k,none⟩ = some v := ⟨_,h.cell k hk⟩
theorem Arr.free {w : World} {g : Nat} {l : List Nat} (h : Arr w g l) (k : Nat) : w.frozen? ⟨g,k,none⟩ = false := frozen_of_row w g k _ _ h
theorem Arr.set {w : World} {g : Nat} {l : List Nat} (h : Arr w g l) (k n : Nat) : Arr (w.setCell ⟨g,k,none⟩ (.int .u64 (n : Int))) g (l.set k n) := by
 have := heap_setCell_same w g k _ _ (.int .u64 (n : Int)) h;rw [Arr,this];simp [← k'd]
theorem Arr.keep {w w' : World} {g : Nat} {l : List Nat} (h : Arr w g l) (he : w'.heap[g]? = w.heap[g]?) : Arr w' g l := he.trans h
theorem Arr.below {w w' : World} {B g : Nat} {l : List Nat} (h : Arr w g l) (hb : Below B w w') (hg : g < B) : Arr w' g l := h.keep (hb.block g hg)
theorem Arr.alloc {w : World} {g : Nat} {l : List Nat} (h : Arr w g l) (o : Obj) : Arr (w.alloc o) g l := h.keep (Below.heap_alloc w o g h.lt)
theorem Arr.other {w : World} {g : Nat} {l : List Nat} (h : Arr w g l) (a : Addr) (v : Value) (hn : g ≠ a.block) : Arr (w.setCell a v) g l := h.keep (heap_setCell_other w a g v hn)
theorem Arr.drew {w : World} {g : Nat} {l : List Nat} (h : Arr w g l) : Arr w.drew g l := h
theorem Arr.made (w : World) (l : List Nat) : Arr (w.alloc (.cells (uv l).toArray 129)) w.heap.size l := heap_alloc_new w _
theorem Rd.below {w w' : World} {B : Nat} {v : Value} {xs : List Nat} (h : Rd w v xs) (hb : Below B w w') (hB : w.heap.size ≤ B) : Rd w' v xs := by
 obtain ⟨p,b,off,cap,h1,h2,h3,h4,h5,h6⟩ := h;refine ⟨p,b,off,cap,h1,h2,h3,h4,?_,fun k hk => ?_⟩
 ·rcases h5 with h5 | ⟨h5,h7⟩
  ·exact Or.inl h5
  ·exact Or.inr ⟨h5,Nat.lt_of_lt_of_le h7 hb.size⟩
 ·have hl : b < w.heap.size := World.block_lt_of_cell? w _ (h6 k hk)
  rw [hb.cell (p := ⟨b,off + k,none⟩) (Nat.lt_of_lt_of_le hl hB)];exact h6 k hk
theorem Rd.of_arr {w : World} {g : Nat} {l : List Nat} (h : Arr w g l) (off n cap : Nat) (h1 : off + n ≤ l.length) (h2 : n ≤ cap) (h3 : cap ≤ maxLen) : Rd w (.slice (some ⟨g,off,none⟩) n cap) ((l.drop off).take n) := by
 have hl : ((l.drop off).take n).length = n := by simp; omega
 refine ⟨some ⟨g,off,none⟩,g,off,cap,by rw [hl],by omega,h3,fun _ => rfl,Or.inr ⟨rfl,h.lt⟩,fun k hk => ?_⟩
 rw [hl] at hk;rw [h.cell (off + k) (by omega)]
 simp
theorem Rd.of_whole {w : World} {g : Nat} {l : List Nat} (h : Arr w g l) (n : Nat) (h1 : l.length = n) (h3 : n ≤ maxLen) : Rd w (.slice (some ⟨g,0,none⟩) n n) l := by
 subst h1;have := Rd.of_arr h 0 l.length l.length (by omega) (Nat.le_refl _) h3
 rwa [List.drop_zero,List.take_length] at this
theorem Rd.nil (w : World) : Rd w (.slice none 0 0) [] := ⟨none,0,0,0,rfl,by simp,by simp,fun h => absurd rfl h,Or.inl ⟨rfl,rfl⟩,fun k h => absurd h (by simp)⟩
theorem k'e {w wr : World} (hb : Below w.heap.size w wr) {a : Addr} {v : Value} (h : w.cell? a = some v) : wr.cell? a = some v :=
 (hb.cell (World.block_lt_of_cell? w a h)).trans h
structure Only (g : Nat) (w w' : World) : Prop where
 os : w'.os = w.os
 tape : w'.tape = w.tape
 output : w'.output = w.output
 size : w'.heap.size = w.heap.size
 block : ∀ k,k ≠ g → w'.heap[k]? = w.heap[k]?
theorem Only.refl (g : Nat) (w : World) : Only g w w := ⟨rfl,rfl,rfl,rfl,fun _ _ => rfl⟩
theorem Only.trans {g : Nat} {a b c : World} (h : Only g a b) (k : Only g b c) : Only g a c :=
 ⟨k.os.trans h.os,k.tape.trans h.tape,k.output.trans h.output,k.size.trans h.size,fun i hi => (k.block i hi).trans (h.block i hi)⟩
theorem Only.setCell {g : Nat} {a b : World} (h : Only g a b) (o : Nat) (v : Value) : Only g a (b.setCell ⟨g,o,none⟩ v) :=
 h.trans ⟨rfl,rfl,rfl,by simp [World.setCell],fun k hk => Below.heap_setCell _ _ _ _ hk⟩
theorem Only.drewN {g : Nat} {a b : World} (h : Only g a b) (n : Nat) : Only g a (b.drewN n) := h.trans ⟨rfl,rfl,rfl,rfl,fun _ _ => rfl⟩
theorem Only.below {g B : Nat} {a b c : World} (h : Only g b c) (hb : Below B a b) (hg : B ≤ g) : Below B a c :=
 hb.trans ⟨h.os,h.tape,h.output,Nat.le_of_eq h.size.symm,fun k hk => h.block k (by omega)⟩
theorem Only.cell {g : Nat} {a b : World} (h : Only g a b) {p : Addr} (hp : p.block ≠ g) : b.cell? p = a.cell? p := World.cell?_of_block (h.block _ hp)
theorem Only.arr {g k : Nat} {a b : World} {l : List Nat} (h : Only g a b) (ha : Arr a k l) (hk : k ≠ g) : Arr b k l := ha.keep (h.block k hk)
theorem k'f (n : Nat) (w : World) (hn : n ≤ 1099511627776) :
 (Instr.makeSlice 141 (.int .i64 (n : Int)) (.int .i64 (n : Int))).run Tryz.prog w = .ok (.slice (some ⟨w.heap.size,0,none⟩) n n) (w.alloc (.cells (uv (List.replicate n 0)).toArray 129)) := by
 have hi : (Tryz.prog.info? 129).map (fun i => (i.zero,i.size,i.bytes)) = some (some (.int .u64 0),1,8) := by kernel_rfl
 obtain ⟨i,hi,hz,hs,hb⟩ := info_parts hi;rw [run_make w 141 129 i (.int .u64 0) Tryz.underlying141 hi hz .i64 .i64 n n (by omega) (by omega) (by rw [hb]; omega) (by omega)]
 simp only [Int.toNat_natCast,hs,Nat.mul_one];have hm : madeCells (Value.cells (.int .u64 0)) n = (uv (List.replicate n 0)).toArray := by
  apply Array.ext';simp [madeCells,Value.cells,uv,Nat.mod_one,List.map_const']
 rw [hm]
theorem k'g (n : Nat) (hn : n ≤ 1000000000) (w : World) :
 (Instr.makeSlice 141 (.int .i64 ((n : Int) + 1)) (.int .i64 ((n : Int) + 1))).run Tryz.prog w = .ok (.slice (some ⟨w.heap.size,0,none⟩) (n + 1) (n + 1)) (w.alloc (.cells (uv (List.replicate (n + 1) 0)).toArray 129)) :=
 k'f (n + 1) w (by omega)
theorem k'h (b off cap : Nat) (xs : List Nat) (w : World) (hl : xs.length ≤ cap) (hc : cap ≤ maxLen)
 (hx : ∀ k (h : k < xs.length),w.cell? ⟨b,off + k,none⟩ = some (.int .u64 (xs[k] : Int))) :
 Calls Tryz.prog 159 #[.slice (some ⟨b,off,none⟩) xs.length cap] w fun e w' =>
  e = .returned (.slice (some ⟨b,off,none⟩) (Nm.trimL xs).length cap) ∧ w = w' := by
 unfold maxLen at hc;go_enter Tryz.func159,Tryz.ntmps159;go_wp2;go_loop [3] (fun n => ∃ k : Nat,k ≤ xs.length ∧ n = .int .i64 k ∧ ∀ i (h : i < xs.length),k ≤ i → xs[i] = 0) (fun n => (intOf n).toNat)
 case atStart => exact ⟨xs.length,Nat.le_refl _,rfl,fun i h hi => absurd h (by omega)⟩
 case round =>
  obtain ⟨k,hk,rfl,hz⟩ := hrel;have Hz := i' hz;clear hz;rcases Nat.eq_zero_or_pos k with h0 | h0
  ·subst h0
   have e0 : Nm.trimL xs = xs.take 0 := Nm.trimL_take (Nat.zero_le _) (fun i h _ => Hz.out i h (Nat.zero_le _)) trivial;have E0 := i' e0;clear e0;go_wp2;go_ret;exact ⟨by rw [E0.out]; rfl,rfl⟩
  ·obtain ⟨j,rfl⟩ : ∃ j,k = j + 1 := ⟨k - 1,by omega⟩
   have hj : j < xs.length := by omega
   have hcell := hx j hj;clear hx;by_cases hv : xs[j] = 0
   ·go_wp2
    go_round
    case rel =>
     refine ⟨j,by omega,by go_num,fun i h hi => ?_⟩
     rcases Nat.lt_or_ge j i with g | g
     ·exact Hz.out i h g
     ·obtain rfl : i = j := by omega
      exact hv
    case measure => simp [intOf]
   ·have e0 : Nm.trimL xs = xs.take (j + 1) := Nm.trimL_take hk Hz.out (Nm.nrm_take_last hj hv)
    have E0 := i' e0;clear e0;go_wp2;go_ret;exact ⟨by rw [E0.out,List.length_take,Nat.min_eq_left hk]; rfl,rfl⟩
theorem k'i (p : Option Addr) (cap : Nat) (w : World) (hc : cap ≤ maxLen) (hp : p = none → cap = 0) :
 Calls Tryz.prog 159 #[.slice p 0 cap] w fun e w' => e = .returned (.slice p 0 cap) ∧ w = w' := by
 unfold maxLen at hc
 cases p with
 | none =>
  obtain rfl := hp rfl;go_enter Tryz.func159,Tryz.ntmps159;go_wp2;go_loop [3] (fun n => n = .int .i64 0) (fun _ => 0)
  case atStart => rfl
  case round =>
   subst hrel;go_wp2;go_ret;exact ⟨rfl,rfl⟩
 | some a =>
  clear hp;go_enter Tryz.func159,Tryz.ntmps159;go_wp2;go_loop [3] (fun n => n = .int .i64 0) (fun _ => 0)
  case atStart => rfl
  case round =>
   subst hrel;go_wp2;go_ret;exact ⟨rfl,rfl⟩
def TrimPost (xs : List Nat) (w : World) (e : Ending) (w' : World) : Prop := ∃ v,e = .returned v ∧ Rd w v (Nm.trimL xs) ∧ w = w'
theorem Rd.take {w : World} {b off cap : Nat} {xs : List Nat} (n : Nat) (hn : n ≤ xs.length) (hl : xs.length ≤ cap) (hc : cap ≤ maxLen) (hb : b < w.heap.size)
 (hx : ∀ k (h : k < xs.length),w.cell? ⟨b,off + k,none⟩ = some (.int .u64 (xs[k] : Int))) : Rd w (.slice (some ⟨b,off,none⟩) n cap) (xs.take n) := by
 have e : (xs.take n).length = n := by simp; omega
 refine ⟨some ⟨b,off,none⟩,b,off,cap,by rw [e],by omega,hc,fun _ => rfl,Or.inr ⟨rfl,hb⟩,fun k hk => ?_⟩
 rw [e] at hk;rw [hx k (by omega)]; simp
theorem k'j (v : Value) (xs : List Nat) (w : World) (h : Rd w v xs) : Calls Tryz.prog 159 #[v] w (TrimPost xs w) := by
 obtain ⟨p,b,off,cap,rfl,h2,h3,h4,h5,h6⟩ := h;by_cases e : xs = []
 ·subst e
  refine (k'i p cap w h3 (fun hp => ?_)).mono fun e w' ⟨he,hw⟩ => ⟨_,he,⟨p,b,off,cap,rfl,Nat.zero_le _,h3,fun h => absurd rfl h,h5,fun k hk => absurd hk (Nat.not_lt_zero _)⟩,hw⟩;rcases h5 with ⟨_,h5⟩ | ⟨h5,_⟩
  ·exact h5
  ·rw [h5] at hp; cases hp
 ·obtain rfl := h4 e
  rcases h5 with ⟨h5,_⟩ | ⟨_,h5⟩
  ·cases h5
  ·refine (k'h b off cap xs w h2 h3 h6).mono fun e w' ⟨he,hw⟩ => ⟨_,he,?_,hw⟩
   have hle := Nm.trimL_le xs;have := Rd.take (Nm.trimL xs).length hle h2 h3 h5 h6;rwa [← Nm.trimL_is_take] at this
end Go.Proofs.YtepddegphdlbeaaGreat
namespace Go.Proofs
open Go.Shelf
def Tryz.lays126_ren : Go.Shelf.Ren := ⟨fun | 126 => 148 | n => n,fun | 5 => 5 | 3 => 3 | 9 => 9 | n => n,fun | n => n⟩
theorem Tryz.lays126 : Go.Proofs.Lays.n126 Tryz.prog Tryz.lays126_ren := {
 mixed := by kernel_rfl
 f126 := Tryz.func148.trans (congrArg some (by kernel_rfl))
 t3 := Tryz.underlying3
 a3 := Tryz.isAgg3
 z3 := Tryz.sizeOf3
 v3 := Tryz.zeroValue3
 t5 := Tryz.underlying5
 a5 := Tryz.isAgg5
 z5 := Tryz.sizeOf5
 v5 := Tryz.zeroValue5
 t9 := Tryz.underlying9
 a9 := Tryz.isAgg9
 z9 := Tryz.sizeOf9
 v9 := Tryz.zeroValue9 }
theorem Tryz.bits_Len8 (x : Int) (w : World) (h0 : 0 ≤ x) (h1 : x ≤ 255) :
 Calls Tryz.prog 148 #[.int .u8 x] w fun e w' => e = .returned (.int .i64 (Lib.bitLen x.toNat)) ∧ w' = w := Any.bits_Len8 Tryz.lays126 x w h0 h1
def Tryz.lays134_ren : Go.Shelf.Ren := ⟨fun | 134 => 160 | 129 => 149 | n => n,fun | 53 => 129 | 3 => 3 | 4 => 4 | 46 => 149 | 5 => 5 | 9 => 9 | n => n,fun | n => n⟩
theorem Tryz.lays134 : Go.Proofs.Lays.n134 Tryz.prog Tryz.lays134_ren := {
 mixed := by kernel_rfl
 f129 := Tryz.func149.trans (congrArg some (by kernel_rfl))
 f134 := Tryz.func160.trans (congrArg some (by kernel_rfl))
 t3 := Tryz.underlying3
 a3 := Tryz.isAgg3
 z3 := Tryz.sizeOf3
 v3 := Tryz.zeroValue3
 t4 := Tryz.underlying4
 a4 := Tryz.isAgg4
 z4 := Tryz.sizeOf4
 v4 := Tryz.zeroValue4
 t5 := Tryz.underlying5
 a5 := Tryz.isAgg5
 z5 := Tryz.sizeOf5
 v5 := Tryz.zeroValue5
 t9 := Tryz.underlying9
 a9 := Tryz.isAgg9
 z9 := Tryz.sizeOf9
 v9 := Tryz.zeroValue9
 t46 := Tryz.underlying149
 a46 := Tryz.isAgg149
 z46 := Tryz.sizeOf149
 v46 := Tryz.zeroValue149
 t53 := Tryz.underlying129
 a53 := Tryz.isAgg129
 z53 := Tryz.sizeOf129
 v53 := Tryz.zeroValue129 }
theorem Tryz.bits_LeadingZeros64 (x : Int) (w : World) (h0 : 0 ≤ x) (h1 : x ≤ 18446744073709551615) :
 Calls Tryz.prog 160 #[.int .u64 x] w fun e w' => e = .returned (.int .i64 (64 - (Lib.bitLen x.toNat : Int))) ∧ w' = w := Any.bits_LeadingZeros64 Tryz.lays134 x w h0 h1
def Tryz.lays122_ren : Go.Shelf.Ren := ⟨fun | 122 => 165 | 215 => 174 | n => n,fun | 3 => 3 | 4 => 4 | n => n,fun | n => n⟩
theorem Tryz.lays122 : Go.Proofs.Lays.n122 Tryz.prog Tryz.lays122_ren := {
 mixed := by kernel_rfl
 f122 := Tryz.func165.trans (congrArg some (by kernel_rfl))
 f215 := Tryz.func174.trans (congrArg some (by kernel_rfl))
 t3 := Tryz.underlying3
 a3 := Tryz.isAgg3
 z3 := Tryz.sizeOf3
 v3 := Tryz.zeroValue3
 t4 := Tryz.underlying4
 a4 := Tryz.isAgg4
 z4 := Tryz.sizeOf4
 v4 := Tryz.zeroValue4 }
open Go.RowKit in
theorem Tryz.cmp_Compare_int (x y : Int) (w : World) :
 Calls Tryz.prog 165 #[.int .i64 x,.int .i64 y] w fun e w' => e = .returned (.int .i64 (Lib.compareInt x y)) ∧ w' = w := Any.cmp_Compare_int Tryz.lays122 x y w
def Tryz.lays129_ren : Go.Shelf.Ren := ⟨fun | 129 => 149 | n => n,fun | 53 => 129 | 3 => 3 | 4 => 4 | 46 => 149 | 5 => 5 | 9 => 9 | n => n,fun | n => n⟩
theorem Tryz.lays129 : Go.Proofs.Lays.n129 Tryz.prog Tryz.lays129_ren := {
 mixed := by kernel_rfl
 f129 := Tryz.func149.trans (congrArg some (by kernel_rfl))
 t3 := Tryz.underlying3
 a3 := Tryz.isAgg3
 z3 := Tryz.sizeOf3
 v3 := Tryz.zeroValue3
 t4 := Tryz.underlying4
 a4 := Tryz.isAgg4
 z4 := Tryz.sizeOf4
 v4 := Tryz.zeroValue4
 t5 := Tryz.underlying5
 a5 := Tryz.isAgg5
 z5 := Tryz.sizeOf5
 v5 := Tryz.zeroValue5
 t9 := Tryz.underlying9
 a9 := Tryz.isAgg9
 z9 := Tryz.sizeOf9
 v9 := Tryz.zeroValue9
 t46 := Tryz.underlying149
 a46 := Tryz.isAgg149
 z46 := Tryz.sizeOf149
 v46 := Tryz.zeroValue149
 t53 := Tryz.underlying129
 a53 := Tryz.isAgg129
 z53 := Tryz.sizeOf129
 v53 := Tryz.zeroValue129 }
theorem Tryz.bits_Len64 (x : Int) (w : World) (h0 : 0 ≤ x) (h1 : x ≤ 18446744073709551615) :
 Calls Tryz.prog 149 #[.int .u64 x] w fun e w' => e = .returned (.int .i64 (Lib.bitLen x.toNat)) ∧ w' = w := Any.bits_Len64 Tryz.lays129 x w h0 h1
def Tryz.lays264_ren : Go.Shelf.Ren := ⟨fun | 264 => 179 | n => n,fun | 53 => 129 | 46 => 149 | n => n,fun | n => n⟩
theorem Tryz.lays264 : Go.Proofs.Lays.n264 Tryz.prog Tryz.lays264_ren := {
 mixed := by kernel_rfl
 f264 := Tryz.func179.trans (congrArg some (by kernel_rfl))
 t46 := Tryz.underlying149
 a46 := Tryz.isAgg149
 z46 := Tryz.sizeOf149
 v46 := Tryz.zeroValue149
 t53 := Tryz.underlying129
 a53 := Tryz.isAgg129
 z53 := Tryz.sizeOf129
 v53 := Tryz.zeroValue129 }
open Go.RowKit Go.Lib in
theorem Tryz.bits_Mul64 (x y : Nat) (hx : x < 18446744073709551616) (hy : y < 18446744073709551616) (w : World) :
 Calls Tryz.prog 179 #[.int .u64 x,.int .u64 y] w fun e w' => e = .returned (.tuple #[.int .u64 ((x * y / 18446744073709551616 : Nat) : Int),.int .u64 ((x * y % 18446744073709551616 : Nat) : Int)]) ∧ w' = w := Any.bits_Mul64 Tryz.lays264 x y hx hy w
end Go.Proofs
namespace Go.Proofs.YtepddegphdlbeaaGreat
open Go.RowKit
def sm (x y c : Nat) : Nat := (x + y + c) % W
def cy (x y c : Nat) : Nat := (x + y + c) / W
def df (x y b : Nat) : Nat := (x + W - y - b) % W
def bw (x y b : Nat) : Nat := if x < y + b then 1 else 0
theorem k'k (x y c : Nat) : sm x y c + W * cy x y c = x + y + c := Nat.mod_add_div _ _
theorem k'l (x y c : Nat) : sm x y c < W := Nat.mod_lt _ W0
theorem k'm (x y c : Nat) (hx : x < W) (hy : y < W) (hc : c ≤ 1) : cy x y c ≤ 1 := by
 unfold cy; have : (x + y + c) / W < 2 := by rw [Nat.div_lt_iff_lt_mul W0]; omega
 omega
theorem k'n (x y b : Nat) : df x y b < W := Nat.mod_lt _ W0
theorem k'o (x y b : Nat) : bw x y b ≤ 1 := by unfold bw; split <;> omega
theorem k'p (x y b : Nat) (hx : x < W) (hy : y < W) (hb : b ≤ 1) : df x y b + y + b = x + W * bw x y b := by
 unfold df bw
 split
 ·rw [Nat.mod_eq_of_lt (by omega)]; omega
 ·have : x + W - y - b = (x - y - b) + W := by omega
  rw [this,Nat.add_mod_right,Nat.mod_eq_of_lt (by omega)]; omega
theorem k'q (x y c : Nat) (hc : c ≤ 1) (w : World) :
 (callFunc 164 #[.int .u64 (x : Int),.int .u64 (y : Int),.int .u64 (c : Int)]).run Tryz.prog w =
  .ok (.value (.tuple #[.int .u64 (sm x y c : Int),.int .u64 (cy x y c : Int)])) w := by
 rw [run_callFunc_extern Tryz.func164 (by kernel_rfl) (by kernel_rfl) (by kernel_rfl) (e := add64Entry) (by kernel_rfl),run_add64 x y c (by omega) (by omega) (by omega) (by omega)]
 simp only [Result.andThen,sm,cy,k'a]
 congr 5 <;> omega
theorem k'r (x y b : Nat) (hb : b ≤ 1) (w : World) :
 (callFunc 167 #[.int .u64 (x : Int),.int .u64 (y : Int),.int .u64 (b : Int)]).run Tryz.prog w =
  .ok (.value (.tuple #[.int .u64 (df x y b : Int),.int .u64 (bw x y b : Int)])) w := by
 rw [run_callFunc_extern Tryz.func167 (by kernel_rfl) (by kernel_rfl) (by kernel_rfl) (e := sub64Entry) (by kernel_rfl),run_sub64 x y b hb]
 rfl
theorem k's (x c : Nat) (hc : c ≤ 1) (w : World) :
 (callFunc 164 #[.int .u64 (x : Int),.int .u64 0,.int .u64 (c : Int)]).run Tryz.prog w =
  .ok (.value (.tuple #[.int .u64 (sm x 0 c : Int),.int .u64 (cy x 0 c : Int)])) w := k'q x 0 c hc w
theorem k't (x b : Nat) (hb : b ≤ 1) (w : World) :
 (callFunc 167 #[.int .u64 (x : Int),.int .u64 0,.int .u64 (b : Int)]).run Tryz.prog w =
  .ok (.value (.tuple #[.int .u64 (df x 0 b : Int),.int .u64 (bw x 0 b : Int)])) w := k'r x 0 b hb w
theorem k'u (x y : Nat) (w : World) :
 (callFunc 164 #[.int .u64 (x : Int),.int .u64 (y : Int),.int .u64 0]).run Tryz.prog w =
  .ok (.value (.tuple #[.int .u64 (sm x y 0 : Int),.int .u64 (cy x y 0 : Int)])) w := k'q x y 0 (Nat.zero_le _) w
theorem k'v (x y : Nat) (w : World) :
 (callFunc 167 #[.int .u64 (x : Int),.int .u64 (y : Int),.int .u64 0]).run Tryz.prog w =
  .ok (.value (.tuple #[.int .u64 (df x y 0 : Int),.int .u64 (bw x y 0 : Int)])) w := k'r x y 0 (Nat.zero_le _) w
def AddInv (X Y : List Nat) (k c : Nat) (l : List Nat) : Prop :=
 l.length = X.length + 1 ∧ Nm.Dig W (l.take k) ∧ Nm.val W (l.take k) + W ^ k * c = Nm.val W (X.take k) + Nm.val W (Y.take k)
theorem AddInv.step {X Y l : List Nat} {k c : Nat} (h : AddInv X Y k c l) (hX : k < X.length) (hY : k < Y.length) : AddInv X Y (k + 1) (cy X[k] Y[k] c) (l.set k (sm X[k] Y[k] c)) := by
 obtain ⟨h1,h2,h3⟩ := h;have hk : k < l.length := by omega
 have e : (l.set k (sm X[k] Y[k] c)).take (k + 1) = l.take k ++ [sm X[k] Y[k] c] := by
  rw [List.take_succ_eq_append_getElem (by simpa using hk)]
  simp [List.take_set_of_le]
 refine ⟨by simpa using h1,?_,?_⟩
 ·rw [e,Nm.dig_append]; exact ⟨h2,Nm.dig_cons.2 ⟨k'l _ _ _,Nm.dig_nil W⟩⟩
 ·rw [e,Nm.val_snoc,Nm.val_take_succ W X k hX,Nm.val_take_succ W Y k hY,List.length_take,Nat.min_eq_left (by omega),Nat.pow_succ]
  have := k'k X[k] Y[k] c;generalize sm X[k] Y[k] c = s at *;generalize cy X[k] Y[k] c = t at *
  grind
theorem AddInv.step0 {X Y l : List Nat} {k c : Nat} (h : AddInv X Y k c l) (hX : k < X.length) (hY : Y.length ≤ k) : AddInv X Y (k + 1) (cy X[k] 0 c) (l.set k (sm X[k] 0 c)) := by
 obtain ⟨h1,h2,h3⟩ := h;have hk : k < l.length := by omega
 have e : (l.set k (sm X[k] 0 c)).take (k + 1) = l.take k ++ [sm X[k] 0 c] := by
  rw [List.take_succ_eq_append_getElem (by simpa using hk)]
  simp [List.take_set_of_le]
 refine ⟨by simpa using h1,?_,?_⟩
 ·rw [e,Nm.dig_append]; exact ⟨h2,Nm.dig_cons.2 ⟨k'l _ _ _,Nm.dig_nil W⟩⟩
 ·rw [e,Nm.val_snoc,Nm.val_take_succ W X k hX,List.length_take,Nat.min_eq_left (by omega),Nat.pow_succ,List.take_of_length_le (show Y.length ≤ k + 1 by omega)]
  rw [List.take_of_length_le hY] at h3;have := k'k X[k] 0 c;generalize sm X[k] 0 c = s at *;generalize cy X[k] 0 c = t at *
  grind
theorem AddInv.finish {X Y l : List Nat} {c : Nat} (h : AddInv X Y X.length c l) (hY : Y.length ≤ X.length) (hc : c ≤ 1) : Nm.trimL (l.set X.length c) = Nm.dg W (Nm.val W X + Nm.val W Y) := by
 obtain ⟨h1,h2,h3⟩ := h;have e : l.set X.length c = l.take X.length ++ [c] := by
  rw [List.set_eq_take_append_cons_drop,if_pos (by omega),List.drop_of_length_le (by omega)]
 have hd : Nm.Dig W (l.take X.length ++ [c]) := Nm.dig_append.2 ⟨h2,Nm.dig_cons.2 ⟨Nat.lt_of_le_of_lt hc (by decide),Nm.dig_nil W⟩⟩
 rw [e,Nm.trimL_dg W2 hd,Nm.val_snoc,List.length_take,Nat.min_eq_left (by omega),h3,List.take_length,List.take_of_length_le hY]
def Gives (n : Nat) (w : World) (e : Ending) (w' : World) : Prop := ∃ v,e = .returned v ∧ Rd w' v (Nm.dg W n) ∧ Below w.heap.size w w'
theorem k'w (X Y : List Nat) (p1 p2 : Option Addr) (b1 o1 c1 b2 o2 c2 : Nat) (args : Array Value) (w : World)
 (hargs : args = #[.slice p1 X.length c1,.slice p2 Y.length c2] ∧ Y.length ≤ X.length ∨ args = #[.slice p2 Y.length c2,.slice p1 X.length c1] ∧ Y.length < X.length)
 (hp1 : X ≠ [] → p1 = some ⟨b1,o1,none⟩) (hp2 : Y ≠ [] → p2 = some ⟨b2,o2,none⟩) (hn : X.length ≤ 1000000000)
 (h1 : ∀ k (h : k < X.length),w.cell? ⟨b1,o1 + k,none⟩ = some (.int .u64 (X[k] : Int))) (h2 : ∀ k (h : k < Y.length),w.cell? ⟨b2,o2 + k,none⟩ = some (.int .u64 (Y[k] : Int)))
 (d1 : Nm.Dig W X) (d2 : Nm.Dig W Y) :
 Calls Tryz.prog 150 args w (Gives (Nm.val W X + Nm.val W Y) w) := by
 have hYX : Y.length ≤ X.length := by rcases hargs with ⟨_,h⟩ | ⟨_,h⟩ <;> omega
 have hmk := k'g X.length hn;rcases hargs with ⟨rfl,hle⟩ | ⟨rfl,hlt⟩
 all_goals
  go_enter Tryz.func150,Tryz.ntmps150;go_wp2;have Hp1 := i' hp1;have Hp2 := i' hp2;have H1 := i' h1;have H2 := i' h2;clear hmk hp1 hp2 h1 h2;go_loopw [6,23] (fun c i wr => ∃ k cn l,k ≤ Y.length ∧ i = .int .i64 (k : Nat) ∧ c = .int .u64 (cn : Nat) ∧ cn ≤ 1 ∧ Arr wr w.heap.size l ∧ AddInv X Y k cn l ∧ Below w.heap.size w wr)
   (fun _ i _ => Y.length - (intOf i).toNat)
  case atStart =>
   exact ⟨0,0,_,Nat.zero_le _,rfl,rfl,Nat.zero_le _,Arr.made w _,⟨by simp,by simp [Nm.dig_nil],by simp [Nm.val]⟩,(Below.refl _ _).alloc (Nat.le_refl _) _⟩
  case round =>
   obtain ⟨k,cn,l,hk,rfl,rfl,hcn,harr,hinv,hbl⟩ := hrel;by_cases hlt : k < Y.length
   ·have hX : k < X.length := by omega
    obtain rfl := Hp1.out (by intro e; rw [e] at hX; exact absurd hX (Nat.not_lt_zero _))
    obtain rfl := Hp2.out (by intro e; rw [e] at hlt; exact absurd hlt (Nat.not_lt_zero _))
    have e1 := k'e hbl (H1.out k hX);have e2 := k'e hbl (H2.out k hlt);have hl : k < l.length := by have := hinv.1; omega
    have e3 := harr.cell k hl;have e4 := harr.free k;have ea := k'q X[k] Y[k] cn hcn;have Hinv := i' (hinv.step hX hlt);have Harr := i' (harr.set k (sm X[k] Y[k] cn));have Hb := i' (hbl.setCell (p := ⟨w.heap.size,k,none⟩) (Nat.le_refl _) (.int .u64 (sm X[k] Y[k] cn)));have hc2 := k'm X[k] Y[k] cn (Nm.dig_get d1 k hX) (Nm.dig_get d2 k hlt) hcn;clear hinv harr hbl;go_wp2;go_roundw
    case rel => exact ⟨k + 1,_,_,hlt,by go_num,rfl,hc2,Harr.out,Hinv.out,Hb.out⟩
    case measure => simp [intOf]; omega
   ·obtain rfl : k = Y.length := by omega
    go_wp2;obtain ⟨wo,hwo⟩ : ∃ wo : World,wo = wr := ⟨_,rfl⟩;subst hwo;go_loopw [6,9] (fun c i wr => ∃ k cn l,Y.length ≤ k ∧ k ≤ X.length ∧ i = .int .i64 (k : Nat) ∧ c = .int .u64 (cn : Nat) ∧ cn ≤ 1 ∧ Arr wr w.heap.size l ∧ AddInv X Y k cn l ∧ Below w.heap.size w wr)
     (fun _ i _ => X.length - (intOf i).toNat)
    case atStart => exact ⟨Y.length,cn,l,Nat.le_refl _,hYX,rfl,rfl,hcn,harr,hinv,hbl⟩
    case round =>
     clear hinv harr hbl hcn;obtain ⟨k,cm,l2,hYk,hk,rfl,rfl,hcn,harr,hinv,hbl⟩ := hrel;by_cases hX : k < X.length
     ·obtain rfl := Hp1.out (by intro e; rw [e] at hX; exact absurd hX (Nat.not_lt_zero _))
      have e1 := k'e hbl (H1.out k hX);have hl : k < l2.length := by have := hinv.1; omega
      have e3 := harr.cell k hl;have e4 := harr.free k;have ea := k's X[k] cm hcn;have Hinv := i' (hinv.step0 hX hYk);have Harr := i' (harr.set k (sm X[k] 0 cm));have Hb := i' (hbl.setCell (p := ⟨w.heap.size,k,none⟩) (Nat.le_refl _) (.int .u64 (sm X[k] 0 cm)));have hc2 := k'm X[k] 0 cm (Nm.dig_get d1 k hX) W0 hcn;clear hinv harr hbl;go_wp2;go_roundw
      case rel => exact ⟨k + 1,_,_,by omega,hX,by go_num,rfl,hc2,Harr.out,Hinv.out,Hb.out⟩
      case measure => simp [intOf]; omega
     ·obtain rfl : k = X.length := by omega
      have hl : X.length < l2.length := by have := hinv.1; omega
      have e3 := harr.cell X.length hl;have e4 := harr.free X.length;have hll := hinv.1;have Hfin := i' (hinv.finish hYX hcn);have Harr := i' (harr.set X.length cm);have Hb := i' (hbl.setCell (p := ⟨w.heap.size,X.length,none⟩) (Nat.le_refl _) (.int .u64 (cm : Int)));have Hrd := i' (Rd.of_whole Harr.out (X.length + 1) (by simpa using hll) (by unfold maxLen; omega))
      have Hl := i' hll;clear hinv harr hbl hll;go_wp2_with fail;refine (k'j _ _ _ Hrd.out).mono ?_;rintro e w' ⟨v,rfl,hrd,rfl⟩;rw [Hfin.out] at hrd;have Hr2 := i' hrd;clear hrd;go_wp2;go_ret;exact ⟨v,rfl,Hr2.out,Hb.out⟩
theorem k'x (v1 v2 : Value) (X Y : List Nat) (w : World) (h1 : Rd w v1 X) (h2 : Rd w v2 Y) (hX : X.length ≤ 1000000000) (hY : Y.length ≤ 1000000000) (d1 : Nm.Dig W X) (d2 : Nm.Dig W Y) :
 Calls Tryz.prog 150 #[v1,v2] w (Gives (Nm.val W X + Nm.val W Y) w) := by
 obtain ⟨p1,b1,o1,c1,rfl,_,_,hp1,_,h1⟩ := h1;obtain ⟨p2,b2,o2,c2,rfl,_,_,hp2,_,h2⟩ := h2;rcases Nat.lt_or_ge X.length Y.length with h | h
 ·rw [Nat.add_comm]
  exact k'w Y X p2 p1 b2 o2 c2 b1 o1 c1 _ w (Or.inr ⟨rfl,h⟩) hp2 hp1 hY h2 h1 d2 d1
 ·exact k'w X Y p1 p2 b1 o1 c1 b2 o2 c2 _ w (Or.inl ⟨rfl,h⟩) hp1 hp2 hX h1 h2 d1 d2
def m1 (a b : Nat) : Nat := a * b / W
def m0 (a b : Nat) : Nat := a * b % W
theorem m01 (a b : Nat) : m0 a b + W * m1 a b = a * b := Nat.mod_add_div _ _
theorem k'10 (x y : Nat) (hx : x < W) (hy : y < W) (w : World) :
 Calls Tryz.prog 179 #[.int .u64 (x : Int),.int .u64 (y : Int)] w fun e w' => e = .returned (.tuple #[.int .u64 (m1 x y : Int),.int .u64 (m0 x y : Int)]) ∧ w = w' :=
 (Tryz.bits_Mul64 x y hx hy w).mono fun _ _ ⟨h1,h2⟩ => ⟨h1,h2.symm⟩
def mh (a b c : Nat) : Nat := (a * b + c) / W
def ml (a b c : Nat) : Nat := (a * b + c) % W
theorem mlh (a b c : Nat) : ml a b c + W * mh a b c = a * b + c := Nat.mod_add_div _ _
theorem k'11 (a b c : Nat) : ml a b c < W := Nat.mod_lt _ W0
theorem k'12 (a b c : Nat) (ha : a < W) (hb : b < W) (hc : c < W) : mh a b c < W := by
 unfold mh;rw [Nat.div_lt_iff_lt_mul W0];have h2 : a * b ≤ (W - 1) * (W - 1) := Nat.mul_le_mul (by omega) (by omega)
 unfold W at *;omega
theorem k'13 (a b c o : Nat) (ha : a < W) (hb : b < W) (hc : c < W) (ho : o < W) : mh a b c + cy (ml a b c) o 0 < W := by
 have h1 := mlh a b c;have h2 := k'k (ml a b c) o 0;have h3 : a * b ≤ (W - 1) * (W - 1) := Nat.mul_le_mul (by omega) (by omega)
 generalize mh a b c = p at *;generalize ml a b c = q at *;generalize cy q o 0 = r at *;generalize sm q o 0 = s at *;unfold W at *;omega
theorem k'14 (a b c : Nat) : m1 a b + cy (m0 a b) c 0 = mh a b c := by
 unfold mh;rw [← m01 a b];have h := k'k (m0 a b) c 0;have hs := k'l (m0 a b) c 0;rw [show m0 a b + W * m1 a b + c = sm (m0 a b) c 0 + W * (m1 a b + cy (m0 a b) c 0) by rw [Nat.mul_add]; omega]
 rw [Nat.add_mul_div_left _ _ W0,Nat.div_eq_of_lt hs]; omega
theorem k'15 (a b c : Nat) : sm (m0 a b) c 0 = ml a b c := by
 unfold ml sm;rw [← m01 a b,Nat.add_zero,Nat.add_right_comm,Nat.add_mul_mod_self_left]
theorem k'16 (a b c : Nat) (ha : a < W) (hb : b < W) (hc : c < W) (w : World) :
 Calls Tryz.prog 176 #[.int .u64 (a : Int),.int .u64 (b : Int),.int .u64 (c : Int)] w fun e w' => e = .returned (.tuple #[.int .u64 (mh a b c : Int),.int .u64 (ml a b c : Int)]) ∧ w = w' := by
 have ea := k'u (m0 a b) c;have hlt : m1 a b + cy (m0 a b) c 0 < 18446744073709551616 := by rw [k'14]; exact k'12 a b c ha hb hc
 have E := i' (And.intro (k'14 a b c) (k'15 a b c));go_enter Tryz.func176,Tryz.ntmps176;go_wp2_with fail;refine (k'10 a b ha hb _).mono ?_;rintro e w' ⟨rfl,rfl⟩;go_wp2;go_ret2;exact ⟨by rw [← E.out.1,← E.out.2]; rfl,rfl⟩
def ProdInv (l X : List Nat) (off by_ k c : Nat) (s : List Nat) : Prop :=
 s.length = k ∧ Nm.Dig W s ∧ c < W ∧ Nm.val W s + W ^ k * c = Nm.val W ((l.drop off).take k) + Nm.val W (X.take k) * by_
theorem ProdInv.step {l X s : List Nat} {off y k c : Nat} (h : ProdInv l X off y k c s) (hk : off + k < l.length) (hX : k < X.length) (dx : X[k] < W) (dy : y < W) (dl : l[off + k] < W) :
 ProdInv l X off y (k + 1) (mh X[k] y c + cy (ml X[k] y c) l[off + k] 0) (s ++ [sm (ml X[k] y c) l[off + k] 0]) := by
 obtain ⟨h1,h2,h3,h4⟩ := h;refine ⟨by simp [h1],Nm.dig_append.2 ⟨h2,Nm.dig_cons.2 ⟨k'l _ _ _,Nm.dig_nil W⟩⟩,k'13 _ _ _ _ dx dy h3 dl,?_⟩
 have hd : k < (l.drop off).length := by simp; omega
 rw [Nm.val_snoc,h1,Nm.val_take_succ W _ k hd,Nm.val_take_succ W X k hX,List.getElem_drop,Nat.pow_succ];have e1 := mlh X[k] y c;have e2 := k'k (ml X[k] y c) l[off + k] 0;generalize mh X[k] y c = p at *;generalize ml X[k] y c = q at *;generalize cy q l[off + k] 0 = r at *;generalize sm q l[off + k] 0 = t at *;generalize W ^ k = P at *;have e3 : P * (t + W * r) = P * (q + l[off + k]) := by rw [e2]; rfl
 have e4 : P * (q + W * p) = P * (X[k] * y + c) := by rw [e1]
 grind
def ProdPost (g : Nat) (l X : List Nat) (off y : Nat) (w : World) (e : Ending) (w' : World) : Prop :=
 ∃ s c,e = .returned (.int .u64 (c : Nat)) ∧ ProdInv l X off y X.length c s ∧ Arr w' g (l.take off ++ (s ++ l.drop (off + X.length))) ∧ Only g w w'
theorem k'17 (l X : List Nat) (g off n cap : Nat) (p : Option Addr) (b o c y : Nat) (w : World) (hn : X.length ≤ n) (hnc : n ≤ cap) (hcap : cap ≤ 2000000000) (hoff : off ≤ 2000000000)
 (hl : off + X.length ≤ l.length) (hp : X ≠ [] → p = some ⟨b,o,none⟩) (hb : b ≠ g) (harr : Arr w g l)
 (hx : ∀ k (h : k < X.length),w.cell? ⟨b,o + k,none⟩ = some (.int .u64 (X[k] : Int))) (d1 : Nm.Dig W X) (d2 : Nm.Dig W l) (dy : y < W) :
 Calls Tryz.prog 168 #[.slice (some ⟨g,off,none⟩) n cap,.slice p X.length c,.int .u64 (y : Int)] w (ProdPost g l X off y w) := by
 go_enter Tryz.func168,Tryz.ntmps168;have Hp := i' hp;have Hx := i' hx;clear hp hx;go_wp2;go_loopw [7,19] (fun cv i wr => ∃ k cn s,k ≤ X.length ∧ i = .int .i64 (k : Nat) ∧ cv = .int .u64 (cn : Nat) ∧ ProdInv l X off y k cn s ∧ Arr wr g (l.take off ++ (s ++ l.drop (off + k))) ∧ Only g w wr)
  (fun _ i _ => X.length - (intOf i).toNat)
 case atStart =>
  exact ⟨0,0,[],Nat.zero_le _,rfl,rfl,⟨rfl,Nm.dig_nil W,W0,by simp [Nm.val]⟩,by rw [Nm.seg_all]; exact harr,Only.refl g w⟩
 case round =>
  clear harr;obtain ⟨k,cn,s,hk,rfl,rfl,hinv,harr,honly⟩ := hrel;by_cases hX : k < X.length
  ·obtain rfl := Hp.out (by intro e; rw [e] at hX; exact absurd hX (Nat.not_lt_zero _))
   have hol : off + k < l.length := by omega
   have hlen := Nm.seg_length l s off k hinv.1 (by omega)
   have e1 := (honly.cell (p := ⟨b,o + k,none⟩) hb).trans (Hx.out k hX);have e3 := harr.cell (off + k) (by omega)
   rw [Nm.seg_get l s off k hinv.1 hol] at e3;have e4 := harr.free (off + k);have ea := k'u (ml X[k] y cn) l[off + k];have dx := Nm.dig_get d1 k hX;have dl := Nm.dig_get d2 (off + k) hol;have hcn := hinv.2.2.1;have hlt : mh X[k] y cn + cy (ml X[k] y cn) l[off + k] 0 < 18446744073709551616 := k'13 _ _ _ _ dx dy hcn dl;have Hinv := i' (hinv.step hol hX dx dy dl);have Harr := harr.set (off + k) (sm (ml X[k] y cn) l[off + k] 0);rw [Nm.seg_set l s off k _ hinv.1 hol] at Harr;have HA := i' Harr;have Ho := i' (honly.setCell (off + k) (.int .u64 (sm (ml X[k] y cn) l[off + k] 0)));have hm := k'16 X[k] y cn dx dy hcn;have HM := i' hm;clear hinv harr honly hlen Harr hm;go_wp2_with fail;refine (HM.out _).mono ?_;rintro e w' ⟨rfl,rfl⟩;go_wp2;go_roundw
   case rel => exact ⟨k + 1,_,_,hX,by go_num,by go_num,Hinv.out,HA.out,Ho.out⟩
   case measure => simp [intOf]; omega
  ·obtain rfl : k = X.length := by omega
   have Hinv := i' hinv;have HA := i' harr;have Ho := i' honly;clear hinv harr honly;go_wp2;go_ret;exact ⟨s,cn,rfl,Hinv.out,HA.out,Ho.out⟩
def MulInv (X Y : List Nat) (k : Nat) (l : List Nat) : Prop :=
 ∃ s,l = s ++ List.replicate (Y.length - k) 0 ∧ s.length = X.length + k ∧ Nm.Dig W s ∧ Nm.val W s = Nm.val W X * Nm.val W (Y.take k)
theorem MulInv.len {X Y l : List Nat} {k : Nat} (h : MulInv X Y k l) (hk : k ≤ Y.length) : l.length = X.length + Y.length := by
 obtain ⟨s,rfl,h1,_,_⟩ := h;simp [h1]; omega
theorem MulInv.dig {X Y l : List Nat} {k : Nat} (h : MulInv X Y k l) : Nm.Dig W l := by
 obtain ⟨s,rfl,_,h2,_⟩ := h;exact Nm.dig_append.2 ⟨h2,fun x hx => by rw [List.eq_of_mem_replicate hx]; exact W0⟩
theorem MulInv.step {X Y l s' : List Nat} {k c : Nat} (h : MulInv X Y k l) (hk : k < Y.length) (hp : ProdInv l X k Y[k] X.length c s') :
 MulInv X Y (k + 1) ((l.take k ++ (s' ++ l.drop (k + X.length))).set (k + X.length) c) := by
 have hlen := h.len (Nat.le_of_lt hk);obtain ⟨s,rfl,h1,h2,h3⟩ := h;obtain ⟨p1,p2,p3,p4⟩ := hp;rw [Nm.seg_set _ s' k X.length c p1 (by omega)]
 have e1 : (s ++ List.replicate (Y.length - k) 0).take k = s.take k := by rw [List.take_append_of_le_length (by omega)]
 have e2 : (s ++ List.replicate (Y.length - k) 0).drop (k + (X.length + 1)) = List.replicate (Y.length - (k + 1)) 0 := by
  rw [List.drop_append,List.drop_of_length_le (by omega),List.drop_replicate]
  simp; omega
 have e3 : ((s ++ List.replicate (Y.length - k) 0).drop k).take X.length = s.drop k := by
  rw [List.drop_append_of_le_length (by omega),List.take_append_of_le_length (by simp; omega),List.take_of_length_le (by simp; omega)]
 rw [e3,List.take_length] at p4;rw [e1,e2];refine ⟨s.take k ++ (s' ++ [c]),by simp,by simp [p1]; omega,Nm.dig_append.2 ⟨Nm.dig_take h2 k,Nm.dig_append.2 ⟨p2,Nm.dig_cons.2 ⟨p3,Nm.dig_nil W⟩⟩⟩,?_⟩
 have hs := Nm.val_split W s k (by omega)
 have el : (s.take k).length = k := by simp; omega
 rw [Nm.val_append,Nm.val_snoc,Nm.val_take_succ W Y k hk,p1,p4,el,Nat.mul_add,← Nat.add_assoc,← hs,h3]
 grind
def MulPost (X Y : List Nat) (w : World) (e : Ending) (w' : World) : Prop := Gives (Nm.val W X * Nm.val W Y) w e w'
theorem k'18 (n m : Nat) (hn : n ≤ 1000000000) (hm : m ≤ 1000000000) (w : World) :
 (Instr.makeSlice 141 (.int .i64 ((n : Int) + (m : Int))) (.int .i64 ((n : Int) + (m : Int)))).run Tryz.prog w = .ok (.slice (some ⟨w.heap.size,0,none⟩) (n + m) (n + m)) (w.alloc (.cells (uv (List.replicate (n + m) 0)).toArray 129)) :=
 k'f (n + m) w (by omega)
theorem k'19 (X Y : List Nat) (p1 p2 : Option Addr) (b1 o1 c1 b2 o2 c2 : Nat) (args : Array Value) (w : World)
 (hargs : args = #[.slice p1 X.length c1,.slice p2 Y.length c2] ∧ Y.length ≤ X.length ∨ args = #[.slice p2 Y.length c2,.slice p1 X.length c1] ∧ Y.length < X.length)
 (hp1 : X ≠ [] → p1 = some ⟨b1,o1,none⟩) (hp2 : Y ≠ [] → p2 = some ⟨b2,o2,none⟩) (hn : X.length ≤ 1000000000)
 (h1 : ∀ k (h : k < X.length),w.cell? ⟨b1,o1 + k,none⟩ = some (.int .u64 (X[k] : Int))) (h2 : ∀ k (h : k < Y.length),w.cell? ⟨b2,o2 + k,none⟩ = some (.int .u64 (Y[k] : Int)))
 (d1 : Nm.Dig W X) (d2 : Nm.Dig W Y) :
 Calls Tryz.prog 153 args w (MulPost X Y w) := by
 have hYX : Y.length ≤ X.length := by rcases hargs with ⟨_,h⟩ | ⟨_,h⟩ <;> omega
 have hmk := k'18 X.length Y.length hn (by omega)
 have hdec := decide_eq_false (Nat.not_lt.2 hYX);rcases hargs with ⟨rfl,hle⟩ | ⟨rfl,hlt⟩
 all_goals
  go_enter Tryz.func153,Tryz.ntmps153;go_wp2;have Hp1 := i' hp1;have Hp2 := i' hp2;have H1 := i' h1;have H2 := i' h2;clear hmk hp1 hp2 h1 h2 hdec;go_loopw [23] (fun i wr => ∃ k l,k ≤ Y.length ∧ i = .int .i64 (k : Nat) ∧ Arr wr w.heap.size l ∧ MulInv X Y k l ∧ Below w.heap.size w wr)
   (fun i _ => Y.length - (intOf i).toNat)
  case atStart =>
   exact ⟨0,_,Nat.zero_le _,rfl,Arr.made w _,⟨List.replicate X.length 0,by simp [List.replicate_append_replicate],by simp,fun x hx => by rw [List.eq_of_mem_replicate hx]; exact W0,by simp [Nm.val,Nm.val_zeros]⟩,(Below.refl _ _).alloc (Nat.le_refl _) _⟩
  case round =>
   obtain ⟨k,l,hk,rfl,harr,hinv,hbl⟩ := hrel;by_cases hlt : k < Y.length
   ·have hX : 0 < X.length := by omega
    have hbne : b1 ≠ w.heap.size := by
     have := World.block_lt_of_cell? w _ (H1.out 0 hX);exact Nat.ne_of_lt this
    have hp1 := Hp1.out (by intro e; rw [e] at hX; exact absurd hX (Nat.lt_irrefl _))
    obtain rfl := Hp2.out (by intro e; rw [e] at hlt; exact absurd hlt (Nat.not_lt_zero _))
    have e2 := k'e hbl (H2.out k hlt);have hlen := hinv.len hk;have HC := i' (fun n cap (h1 : X.length ≤ n) (h2 : n ≤ cap) (h3 : cap ≤ 2000000000) => k'17 l X w.heap.size k n cap p1 b1 o1 c1 Y[k] wr h1 h2 h3 (by omega) (by omega) (fun _ => hp1) hbne harr (fun j hj => k'e hbl (H1.out j hj)) d1 hinv.dig (Nm.dig_get d2 k hlt))
    have Hinv := i' hinv;have Hb := i' hbl;have Hl := i' hlen;clear hinv hbl harr hp1 hlen;go_wp2_with fail;refine (HC.out _ _ (by omega) (by omega) (by omega)).mono ?_
    rintro e w' ⟨s,c,rfl,hp,ha,ho⟩;have e3 := Nm.seg_length l s k X.length hp.1 (by rw [Hl.out]; omega)
    obtain ⟨u4,e4⟩ := ha.has (k + X.length) (by rw [e3,Hl.out]; omega)
    have e5 := ha.free (k + X.length);have Hinv2 := i' (Hinv.out.step hlt hp);have Ha2 := i' (ha.set (k + X.length) c);have Hb2 := i' ((ho.below Hb.out (Nat.le_refl _)).setCell (p := ⟨w.heap.size,k + X.length,none⟩) (Nat.le_refl _) (.int .u64 (c : Int)));clear hp ha ho e3;go_wp2;go_roundw
    case rel => exact ⟨k + 1,_,hlt,by go_num,Ha2.out,Hinv2.out,Hb2.out⟩
    case measure => simp [intOf]; omega
   ·obtain rfl : k = Y.length := by omega
    have hlen := hinv.len hk;have Hrd := i' (Rd.of_whole harr (X.length + Y.length) hlen (by unfold maxLen; omega))
    have Hinv := i' hinv;have Hb := i' hbl;clear hinv hbl harr hlen;go_wp2_with fail;refine (k'j _ _ _ Hrd.out).mono ?_;rintro e w' ⟨v,rfl,hrd,rfl⟩;have Hr2 := i' hrd;clear hrd;go_wp2;go_ret;refine ⟨v,rfl,?_,Hb.out⟩;have hd := Hinv.out.dig;obtain ⟨s,hs,h1,h2,h3⟩ := Hinv.out;have h4 := Hr2.out;rw [Nm.trimL_dg W2 hd,hs,Nat.sub_self,List.replicate_zero,List.append_nil,h3,List.take_length] at h4;exact h4
theorem k'1a (v1 v2 : Value) (X Y : List Nat) (w : World) (h1 : Rd w v1 X) (h2 : Rd w v2 Y) (hX : X.length ≤ 1000000000) (hY : Y.length ≤ 1000000000) (d1 : Nm.Dig W X) (d2 : Nm.Dig W Y) :
 Calls Tryz.prog 153 #[v1,v2] w (Gives (Nm.val W X * Nm.val W Y) w) := by
 obtain ⟨p1,b1,o1,c1,rfl,_,_,hp1,_,h1⟩ := h1;obtain ⟨p2,b2,o2,c2,rfl,_,_,hp2,_,h2⟩ := h2;rcases Nat.lt_or_ge X.length Y.length with h | h
 ·rw [Nat.mul_comm]
  exact k'19 Y X p2 p1 b2 o2 c2 b1 o1 c1 _ w (Or.inr ⟨rfl,h⟩) hp2 hp1 hY h2 h1 d2 d1
 ·exact k'19 X Y p1 p2 b1 o1 c1 b2 o2 c2 _ w (Or.inl ⟨rfl,h⟩) hp1 hp2 hX h1 h2 d1 d2
theorem k'1b : W = 2 ^ 64 := rfl
theorem k'1c {y : Nat} (hy : y ≤ 64) : 2 ^ y * 2 ^ (64 - y) = W := by rw [← Nat.pow_add,show y + (64 - y) = 64 by omega]; rfl
def shlo (x y c : Nat) : Nat := x * 2 ^ y % W + c
def shhi (x y : Nat) : Nat := x / 2 ^ (64 - y)
theorem k'1d (x y : Nat) (hy : y ≤ 64) : x * 2 ^ y / W = shhi x y := by
 have hp : 0 < 2 ^ y := Nat.pow_pos (by decide)
 rw [← k'1c hy,shhi,Nat.mul_comm x,Nat.mul_div_mul_left _ _ hp]
theorem k'1e (x y c : Nat) (hy : y ≤ 64) : shlo x y c + W * shhi x y = x * 2 ^ y + c := by
 rw [← k'1d x y hy,shlo];have := Nat.mod_add_div (x * 2 ^ y) W;omega
theorem k'1f (x y : Nat) (hx : x < W) (hy : y ≤ 64) : shhi x y < 2 ^ y := by
 rw [shhi,Nat.div_lt_iff_lt_mul (Nat.pow_pos (by decide)),k'1c hy]; exact hx
theorem k'1g (x y : Nat) (hy : y ≤ 64) : x * 2 ^ y % W = 2 ^ y * (x % 2 ^ (64 - y)) := by
 rw [← k'1c hy,Nat.mul_comm x,Nat.mul_mod_mul_left]
theorem k'1h (x y c : Nat) (hy : y ≤ 64) (hc : c < 2 ^ y) : shlo x y c < W := by
 rw [shlo,k'1g x y hy];have h1 : x % 2 ^ (64 - y) < 2 ^ (64 - y) := Nat.mod_lt _ (Nat.pow_pos (by decide))
 have h2 : 2 ^ y * (x % 2 ^ (64 - y) + 1) ≤ 2 ^ y * 2 ^ (64 - y) := Nat.mul_le_mul_left _ h1;rw [k'1c hy,Nat.mul_add] at h2;omega
theorem k'1i (x y c : Nat) (hc : c < 2 ^ y) (hy : y ≤ 64) : bits BinOp.or IntKind.u64 (IntKind.u64.wrap ((x : Int) * 2 ^ y)) (c : Int) = ((shlo x y c : Nat) : Int) := by
 have e1 : IntKind.u64.wrap ((x : Int) * 2 ^ y) = ((x * 2 ^ y % W : Nat) : Int) := by
  simp [IntKind.wrap,IntKind.bits,IntKind.signed,W]
 have hcW : c < W := by
  have : 2 ^ y ≤ 2 ^ 64 := Nat.pow_le_pow_right (by decide) hy
  rw [k'1b]; omega
 have e2 := u64_or_nat (x * 2 ^ y % W) c (Nat.mod_lt _ (by decide)) hcW
 rw [e1,e2,shlo,k'1g x y hy,Nat.two_pow_add_eq_or_of_lt hc]
theorem k'1j (x y : Nat) : (x : Int) / 2 ^ (64 - y) = ((shhi x y : Nat) : Int) := by simp [shhi]
def ShInv (X : List Nat) (y k c : Nat) (s : List Nat) : Prop :=
 s.length = k ∧ Nm.Dig W s ∧ c < 2 ^ y ∧ Nm.val W s + W ^ k * c = Nm.val W (X.take k) * 2 ^ y
theorem ShInv.step {X s : List Nat} {y k c : Nat} (h : ShInv X y k c s) (hX : k < X.length) (dx : X[k] < W) (hy : y ≤ 64) : ShInv X y (k + 1) (shhi X[k] y) (s ++ [shlo X[k] y c]) := by
 obtain ⟨h1,h2,h3,h4⟩ := h;refine ⟨by simp [h1],Nm.dig_append.2 ⟨h2,Nm.dig_cons.2 ⟨k'1h _ _ _ hy h3,Nm.dig_nil W⟩⟩,k'1f _ _ dx hy,?_⟩
 rw [Nm.val_snoc,h1,Nm.val_take_succ W X k hX,Nat.pow_succ];have e1 := k'1e X[k] y c hy;generalize shlo X[k] y c = p at *;generalize shhi X[k] y = q at *;generalize W ^ k = P at *;generalize 2 ^ y = T at *;have e2 : P * (p + W * q) = P * (X[k] * T + c) := by rw [e1]
 grind
def ShPost (g : Nat) (l X : List Nat) (off y : Nat) (w : World) (e : Ending) (w' : World) : Prop :=
 e = .returned (.tuple #[]) ∧ ∃ s,s.length = X.length + 1 ∧ Nm.Dig W s ∧ Nm.val W s = Nm.val W X * 2 ^ y ∧ Arr w' g (l.take off ++ (s ++ l.drop (off + (X.length + 1)))) ∧ Only g w w'
theorem k'1k (l X : List Nat) (g off n cap : Nat) (p : Option Addr) (b o c y : Nat) (w : World) (hn : X.length + 1 ≤ n) (hnc : n ≤ cap) (hcap : cap ≤ 2000000000) (hoff : off ≤ 2000000000)
 (hl : off + X.length + 1 ≤ l.length) (hp : X ≠ [] → p = some ⟨b,o,none⟩) (hb : X ≠ [] → b ≠ g) (harr : Arr w g l)
 (hx : ∀ k (h : k < X.length),w.cell? ⟨b,o + k,none⟩ = some (.int .u64 (X[k] : Int))) (d1 : Nm.Dig W X) (dy : y ≤ 63) :
 Calls Tryz.prog 161 #[.slice (some ⟨g,off,none⟩) n cap,.slice p X.length c,.int .u64 (y : Int)] w (ShPost g l X off y w) := by
 have dy2 : y ≤ 64 := by omega
 go_enter Tryz.func161,Tryz.ntmps161;have Hp := i' hp;have Hx := i' hx;clear hp hx;go_wp2;go_loopw [6,11] (fun cv i wr => ∃ k cn s,k ≤ X.length ∧ i = .int .i64 (k : Nat) ∧ cv = .int .u64 (cn : Nat) ∧ ShInv X y k cn s ∧ Arr wr g (l.take off ++ (s ++ l.drop (off + k))) ∧ Only g w wr)
  (fun _ i _ => X.length - (intOf i).toNat)
 case atStart =>
  exact ⟨0,0,[],Nat.zero_le _,rfl,rfl,⟨rfl,Nm.dig_nil W,Nat.pow_pos (by decide),by simp [Nm.val]⟩,by rw [Nm.seg_all]; exact harr,Only.refl g w⟩
 case round =>
  clear harr;obtain ⟨k,cn,s,hk,rfl,rfl,hinv,harr,honly⟩ := hrel;have hlen := Nm.seg_length l s off k hinv.1 (by omega)
  by_cases hX : k < X.length
  ·have hne : X ≠ [] := by intro e; rw [e] at hX; exact absurd hX (Nat.not_lt_zero _)
   obtain rfl := Hp.out hne;have e1 := (honly.cell (p := ⟨b,o + k,none⟩) (hb hne)).trans (Hx.out k hX);obtain ⟨u3,e3⟩ := harr.has (off + k) (by omega)
   have e4 := harr.free (off + k);have Ho := i' (k'1i X[k] y cn hinv.2.2.1 dy2);have Hinv := i' (hinv.step hX (Nm.dig_get d1 k hX) dy2);have HA := harr.set (off + k) (shlo X[k] y cn);rw [Nm.seg_set l s off k _ hinv.1 (by omega),← Ho.out] at HA
   have HA2 := i' HA;have Hon := i' (honly.setCell (off + k) (.int .u64 (bits BinOp.or IntKind.u64 (IntKind.u64.wrap ((X[k] : Int) * 2 ^ y)) (cn : Int))));clear hinv harr honly hlen HA hne;go_wp2;go_roundw
   case rel => exact ⟨k + 1,_,_,hX,by go_num,by rw [k'1j],Hinv.out,HA2.out,Hon.out⟩
   case measure => simp [intOf]; omega
  ·obtain rfl : k = X.length := by omega
   obtain ⟨u3,e3⟩ := harr.has (off + X.length) (by omega)
   have e4 := harr.free (off + X.length);have Hinv := i' hinv;have HA := harr.set (off + X.length) cn;rw [Nm.seg_set l s off X.length _ hinv.1 (by omega)] at HA
   have HA2 := i' HA;have Hon := i' (honly.setCell (off + X.length) (.int .u64 (cn : Int)));clear hinv harr honly HA hlen;go_wp2;go_end0;obtain ⟨h1,h2,h3,h4⟩ := Hinv.out;refine ⟨rfl,s ++ [cn],by simp [h1],Nm.dig_append.2 ⟨h2,Nm.dig_cons.2 ⟨?_,Nm.dig_nil W⟩⟩,?_,HA2.out,Hon.out⟩
   ·have : 2 ^ y ≤ 2 ^ 64 := Nat.pow_le_pow_right (by decide) dy2
    rw [k'1b]; omega
   ·rw [Nm.val_snoc,h1,h4,List.take_length]
theorem k'1m (x c r q : Nat) (hx : x < W) (hr : r ≤ 64) (hc : c = 2 ^ (64 - r) * q) (hc2 : c < W) : bits BinOp.or IntKind.u64 ((x : Int) / 2 ^ r) (c : Int) = ((x / 2 ^ r + c : Nat) : Int) := by
 have e1 : (x : Int) / 2 ^ r = ((x / 2 ^ r : Nat) : Int) := by simp
 have hlt : x / 2 ^ r < 2 ^ (64 - r) := by
  rw [Nat.div_lt_iff_lt_mul (Nat.pow_pos (by decide)),Nat.mul_comm,k'1c hr]; exact hx
 have hlt2 : x / 2 ^ r < W := Nat.lt_of_le_of_lt (Nat.div_le_self _ _) hx;have e2 := u64_or_nat (x / 2 ^ r) c hlt2 hc2;rw [e1,e2,hc,Nat.or_comm,Nat.add_comm,Nat.two_pow_add_eq_or_of_lt hlt]
def ShrInv (D : List Nat) (r c : Nat) (t : List Nat) : Prop :=
 t.length = D.length ∧ Nm.Dig W t ∧ Nm.val W t = Nm.val W D / 2 ^ r ∧ c = 2 ^ (64 - r) * (Nm.val W D % 2 ^ r)
theorem k'1n (x r : Nat) (hr : r ≤ 63) : IntKind.u64.wrap ((x : Int) * 2 ^ (64 - r)) = ((2 ^ (64 - r) * (x % 2 ^ r) : Nat) : Int) := by
 have e1 : IntKind.u64.wrap ((x : Int) * 2 ^ (64 - r)) = ((x * 2 ^ (64 - r) % W : Nat) : Int) := by
  simp [IntKind.wrap,IntKind.bits,IntKind.signed,W]
 rw [e1,k'1g x (64 - r) (by omega),show 64 - (64 - r) = r by omega]
theorem ShrInv.step {D t : List Nat} {r c x : Nat} (h : ShrInv D r c t) (hx : x < W) (hr : r ≤ 63) : ShrInv (x :: D) r (2 ^ (64 - r) * (x % 2 ^ r)) ((x / 2 ^ r + c) :: t) := by
 obtain ⟨h1,h2,h3,h4⟩ := h;have hW := k'1c (show r ≤ 64 by omega)
 have hp : 0 < 2 ^ r := Nat.pow_pos (by decide)
 have hm := Nat.mod_lt (Nm.val W D) hp;have hlt : x / 2 ^ r < 2 ^ (64 - r) := by
  rw [Nat.div_lt_iff_lt_mul hp,Nat.mul_comm,hW]; exact hx
 have hdm := Nat.div_add_mod (Nm.val W D) (2 ^ r);have hxm := Nat.div_add_mod x (2 ^ r);refine ⟨by simp [h1],Nm.dig_cons.2 ⟨?_,h2⟩,?_,?_⟩
 ·have : 2 ^ (64 - r) * (Nm.val W D % 2 ^ r + 1) ≤ 2 ^ (64 - r) * 2 ^ r := Nat.mul_le_mul_left _ hm
  rw [Nat.mul_comm (2 ^ (64 - r)) (2 ^ r),hW,Nat.mul_add] at this;omega
 ·rw [Nm.val_cons,Nm.val_cons,h3,h4]
  have : x + W * Nm.val W D = x + 2 ^ r * (W * (Nm.val W D / 2 ^ r) + 2 ^ (64 - r) * (Nm.val W D % 2 ^ r)) := by
   rw [Nat.mul_add,← Nat.mul_assoc (2 ^ r) (2 ^ (64 - r)),hW,← Nat.mul_assoc,Nat.mul_comm (2 ^ r) W,Nat.mul_assoc,← Nat.mul_add,hdm]
  rw [this,Nat.add_mul_div_left _ _ hp]; omega
 ·rw [Nm.val_cons,← hW,Nat.mul_assoc,Nat.add_mul_mod_self_left]
theorem ShrInv.carry {D t : List Nat} {r c : Nat} (h : ShrInv D r c t) (hr : r ≤ 63) : c < W := by
 rw [h.2.2.2,← k'1c (show 64 - r ≤ 64 by omega),show 64 - (64 - r) = r by omega]
 exact Nat.mul_lt_mul_of_pos_left (Nat.mod_lt _ (Nat.pow_pos (by decide))) (Nat.pow_pos (by decide))
theorem k'1o (n m : Nat) (hm : m ≤ n) (hn : n ≤ 1000000000) (w : World) :
 (Instr.makeSlice 141 (.int .i64 ((n : Int) - (m : Int))) (.int .i64 ((n : Int) - (m : Int)))).run Tryz.prog w = .ok (.slice (some ⟨w.heap.size,0,none⟩) (n - m) (n - m)) (w.alloc (.cells (uv (List.replicate (n - m) 0)).toArray 129)) := by
 rw [show (n : Int) - (m : Int) = ((n - m : Nat) : Int) by omega]
 exact k'f (n - m) w (by omega)
theorem k'1p (X : List Nat) (p : Option Addr) (b o c q r : Nat) (w : World) (hn : X.length ≤ 1000000000) (hy : 64 * q + r ≤ 1000000) (hr : r ≤ 63)
 (hp : X ≠ [] → p = some ⟨b,o,none⟩) (hx : ∀ k (h : k < X.length),w.cell? ⟨b,o + k,none⟩ = some (.int .u64 (X[k] : Int))) (d1 : Nm.Dig W X) :
 Calls Tryz.prog 163 #[.slice p X.length c,.int .i64 ((64 * q + r : Nat) : Int)] w (Gives (Nm.val W X / 2 ^ (64 * q + r)) w) := by
 obtain ⟨y,hyy⟩ : ∃ y : Int,((64 * q + r : Nat) : Int) = y := ⟨_,rfl⟩;have hq : y / 64 = (q : Int) := by omega
 have hrr : y % 64 = (r : Int) := by omega
 have h0 : 0 ≤ y := by omega
 have h1 : y ≤ 1000000 := by omega
 rw [hyy];have Hy := i' hyy;have Hx := i' hx;have Hp := i' hp;clear hyy hx hp;by_cases he : X.length ≤ q
 ·go_enter Tryz.func163,Tryz.ntmps163
  go_wp2;go_ret;refine ⟨_,rfl,?_,Below.refl _ _⟩;have hlt := Nm.val_lt d1;have hle : W ^ X.length ≤ 2 ^ (64 * q + r) := by
   rw [k'1b,← Nat.pow_mul]; exact Nat.pow_le_pow_right (by decide) (by omega)
  rw [Nat.div_eq_of_lt (by omega)]
  exact Rd.nil _
 ·have he2 : q < X.length := by omega
  have hmk := k'1o X.length q (by omega) hn
  obtain rfl := Hp.out (by intro e; rw [e] at he2; exact absurd he2 (Nat.not_lt_zero _))
  clear he;go_enter Tryz.func163,Tryz.ntmps163;have hqn : (y : Int) ≤ 1000000 := h1;go_wp2;clear hmk hq hrr hqn;go_loopw [8,9] (fun cv i wr => ∃ k cn t,k ≤ X.length - q ∧ i = .int .i64 ((k : Nat) - 1 : Int) ∧ cv = .int .u64 (cn : Nat) ∧ ShrInv (X.drop (q + k)) r cn t ∧ Arr wr w.heap.size (List.replicate k 0 ++ t) ∧ Below w.heap.size w wr)
   (fun _ i _ => (intOf i + 1).toNat)
  case atStart =>
   refine ⟨X.length - q,0,[],Nat.le_refl _,rfl,rfl,⟨?_,Nm.dig_nil W,?_,?_⟩,by rw [List.append_nil]; exact Arr.made w _,(Below.refl _ _).alloc (Nat.le_refl _) _⟩
   ·simp; omega
   ·rw [List.drop_of_length_le (by omega)]; simp [Nm.val]
   ·rw [List.drop_of_length_le (by omega)]; simp [Nm.val]
  case round =>
   obtain ⟨k,cn,t,hk,rfl,rfl,hinv,harr,hbl⟩ := hrel;have hlen : (List.replicate k 0 ++ t).length = X.length - q := by
    have := hinv.1;simp at this;simp [this]; omega
   rcases Nat.eq_zero_or_pos k with h0k | h0k
   ·subst h0k
    have Hr := i' (Rd.of_whole harr (X.length - q) hlen (by unfold maxLen; omega))
    have Hinv := i' hinv;have Hb := i' hbl;clear harr hinv hbl hlen;go_wp2_with fail;refine (k'j _ _ _ Hr.out).mono ?_;rintro e w' ⟨v,rfl,hrd,rfl⟩;have Hr2 := i' hrd;clear hrd;go_wp2;go_ret;refine ⟨v,rfl,?_,Hb.out⟩;have h5 := Hr2.out;obtain ⟨i1,i2,i3,_⟩ := Hinv.out;rw [List.replicate_zero,List.nil_append,Nm.trimL_dg W2 i2,i3] at h5;have h6 := Nm.val_split W X q (by omega)
    have h7 : Nm.val W X / 2 ^ (64 * q + r) = Nm.val W (X.drop (q + 0)) / 2 ^ r := by
     have h8 := Nm.val_lt (Nm.dig_take d1 q);rw [List.length_take,Nat.min_eq_left (by omega)] at h8
     rw [Nat.pow_add,← Nat.div_div_eq_div_mul,Nat.pow_mul,← k'1b,h6,Nat.add_zero,Nat.add_mul_div_left _ _ (Nat.pow_pos W0),Nat.div_eq_of_lt h8,Nat.zero_add]
    rw [h7];exact h5
   ·obtain ⟨j,rfl⟩ : ∃ j,k = j + 1 := ⟨k - 1,by omega⟩
    have hjq : j + q < X.length := by omega
    have e1 := k'e hbl (Hx.out (j + q) hjq);obtain ⟨u3,e3⟩ := harr.has j (by rw [hlen]; omega)
    have e4 := harr.free j;have dx := Nm.dig_get d1 (j + q) hjq;have hcl := hinv.carry hr;have Ho := i' (k'1m X[j + q] cn r _ dx (by omega) hinv.2.2.2 hcl)
    have Hc := i' (k'1n X[j + q] r hr);have hdrop : X.drop (q + j) = X[j + q] :: X.drop (q + (j + 1)) := by
     rw [show q + (j + 1) = (j + q) + 1 by omega,Nat.add_comm q j]
     exact List.drop_eq_getElem_cons hjq
    have Hinv := hinv.step dx hr;rw [← hdrop] at Hinv;have HI := i' Hinv;have HA := harr.set j (X[j + q] / 2 ^ r + cn);rw [List.set_append_left _ _ (by simp),List.replicate_succ',List.set_append_right _ _ (by simp),List.length_replicate,Nat.sub_self,List.set_cons_zero,List.append_assoc,← Ho.out] at HA
    have HA2 := i' HA;have Hb := i' (hbl.setCell (p := ⟨w.heap.size,j,none⟩) (Nat.le_refl _) (.int .u64 (bits BinOp.or IntKind.u64 ((X[j + q] : Int) / 2 ^ r) (cn : Int))));clear harr hinv hbl hlen hdrop Hinv HA;rw [show ((j + 1 : Nat) : Int) - 1 = (j : Int) by omega]
    go_wp2;go_roundw
    case rel => exact ⟨j,_,_,by omega,by go_num,by rw [Hc.out],HI.out,HA2.out,Hb.out⟩
    case measure => simp [intOf]
theorem k'1q (v : Value) (X : List Nat) (y : Nat) (w : World) (h : Rd w v X) (hX : X.length ≤ 1000000000) (hy : y ≤ 1000000) (d1 : Nm.Dig W X) :
 Calls Tryz.prog 163 #[v,.int .i64 (y : Int)] w (Gives (Nm.val W X / 2 ^ y) w) := by
 obtain ⟨p,b,o,c,rfl,_,_,hp,_,hx⟩ := h;have := k'1p X p b o c (y / 64) (y % 64) w hX (by omega) (by omega) hp hx d1
 rwa [Nat.div_add_mod] at this
end Go.Proofs.YtepddegphdlbeaaGreat
