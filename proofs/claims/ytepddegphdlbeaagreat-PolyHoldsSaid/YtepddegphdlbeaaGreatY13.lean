/- What the theorem leans on, part Y13. -/
import Derived.Test.YtepddegphdlbeaaGreatY12
import Derived.Test.YtepddegphdlbeaaGreatY11
import Derived.Test.YtepddegphdlbeaaGreatY10
import Derived.Test.YtepddegphdlbeaaGreatY7
import Derived.Test.YtepddegphdlbeaaGreatY4
import Derived.Test.YtepddegphdlbeaaGreatY3
import Derived.Test.YtepddegphdlbeaaGreatY2
import Derived.Test.YtepddegphdlbeaaGreatY1
import Derived.Test.YtepddegphdlbeaaGreatY0
import Derived.Test.YtepddegphdlbeaaGreatProg
import Derived.WalkKit
import Derived.WalkSpells
import Derived.WalkLawsBesides
import Derived.Lib.Hide
import Derived.Deep.QuietTactic
import Derived.BigQuiet
import Derived.Shelf.Small.Bits
import Derived.Shelf.Small.Wraps
import Derived.Shelf.Strconv.Itoa0
import Derived.Shelf.Bits.Mul64
import Derived.Ground.Names2Prog
import Derived.Shelf.Slices.SearchI
import Derived.Shelf.Spec.BitsCarry
import Derived.Deep.LoopGhost
import Derived.Deep.RegionHeld3
import Derived.Deep.DeepCutAuto
import Derived.Test.YtepddegphdlbeaaGreatY6
import Derived.Test.YtepddegphdlbeaaGreatY5
import Derived.Laws.AppendOwnNone
import Derived.Test.YtepddegphdlbeaaGreatY8
import Derived.Test.YtepddegphdlbeaaGreatY9
import Derived.Below
import Derived.Maps.AppendAt
import Derived.Lib.SliceRun
import Derived.IntWalk
import Derived.RangeFuncNested
import Derived.RangeFuncBound
import Derived.RangeFuncCalls
import Derived.RangeFuncLeaves
import Derived.Shelf.Abstract
import Derived.Shelf.RegionOpen
import Derived.OwnWalkIn
import Derived.TacticsInMore
import Derived.LoopNIn
import Derived.LoopIn
import Derived.OrdersIn
import Derived.Deep.RegionHeld
set_option maxRecDepth 100000
set_option maxHeartbeats 16000000
set_option linter.all false
namespace Go.Proofs.YtepddegphdlbeaaGreat
open Go.RowKit
def upd (l : List Int) (s : Nat) (p : List Int) (t : Int) (k : Nat) : List Int := (List.range l.length).map fun j => if s ≤ j ∧ j < s + k then Pl.cf l j - Pl.cf p (j - s) * t else Pl.cf l j
theorem k'ge (l : List Int) (s : Nat) (p : List Int) (t : Int) (k : Nat) : (upd l s p t k).length = l.length := by simp [upd]
theorem k'gf (l : List Int) (s : Nat) (p : List Int) (t : Int) (k j : Nat) (h : j < (upd l s p t k).length) : (upd l s p t k)[j] = if s ≤ j ∧ j < s + k then Pl.cf l j - Pl.cf p (j - s) * t else Pl.cf l j := by simp [upd]
theorem k'gg (l : List Int) (s : Nat) (p : List Int) (t : Int) : upd l s p t 0 = l := by
 apply List.ext_getElem (k'ge _ _ _ _ _);intro j h1 h2;rw [k'gf,if_neg (by omega),Pl.cf_lt h2]
theorem k'gh (l : List Int) (s : Nat) (p : List Int) (t : Int) (k : Nat) (h : s + k < l.length) : (upd l s p t k).set (s + k) (Pl.cf l (s + k) - Pl.cf p k * t) = upd l s p t (k + 1) := by
 apply List.ext_getElem (by simp [k'ge])
 intro j h1 h2;rw [List.getElem_set,k'gf,k'gf];by_cases e : s + k = j
 ·subst e
  rw [if_pos rfl,if_pos (by omega),show s + k - s = k by omega]
 ·rw [if_neg e]
  by_cases g : s ≤ j ∧ j < s + k
  ·rw [if_pos g,if_pos (by omega)]
  ·rw [if_neg g,if_neg (by omega)]
theorem Ck.drew {w : World} {c : Nat} {e : Int} (h : Ck w c e) : Ck w.drew c e := h
theorem Aw.drew {w : World} {g : Nat} {p : List Int} (h : Aw w g p) : Aw w.drew g p := h
theorem But.drew {c : Nat} {a b : World} (h : But c a b) : But c a b.drew := ⟨h.os,h.tape,h.output,h.size,h.block⟩
theorem But.setAt (c o : Nat) (w : World) (v : Value) : But c w (w.setCell ⟨c,o,none⟩ v) := ⟨rfl,rfl,rfl,by simp [World.setCell],fun k _ hn => Below.heap_setCell _ _ _ _ hn⟩
theorem But.ck {g c : Nat} {w w' : World} {e : Int} (h : But g w w') (hc : Ck w c e) (hn : c ≠ g) : Ck w' c e := (h.block c hc.lt hn).trans hc
def SubPost (g : Nat) (l : List Int) (w : World) (e : Ending) (w' : World) : Prop := (∃ v,e = .returned v) ∧ But g w w' ∧ Aw w' g l
theorem k'gi (c g s n cf1 cf2 b o : Nat) (fa pa : Option Addr) (l p : List Int) (t e : Int) (w : World) (hc : Ck w c e) (hg : Aw w g l) (hn : n = p.length) (hn1 : n ≤ 100) (hs : s + n ≤ l.length) (hs1 : s ≤ 100)
 (hfa : 0 < n → fa = some ⟨g,s * 2,none⟩) (hpa : 0 < n → pa = some ⟨b,o,none⟩) (hcf : n ≤ cf1)
 (hp : ∀ k (hk : k < p.length),w.cell? ⟨b,o + k * 2,none⟩ = some (.bool (zb p[k])) ∧ w.cell? ⟨b,o + k * 2 + 1,none⟩ = some (.string (zs p[k]))) (hbg : b ≠ g)
 (ht : t.natAbs < Top) (hl : ∀ k,k < n → (Pl.cf l (s + k)).natAbs < Top) (hpt : ∀ k,k < n → (Pl.cf p k).natAbs < Top) (hm : ∀ k,k < n → (Pl.cf p k * t).natAbs < Top) (hd : ∀ k,k < n → (Pl.cf l (s + k) - Pl.cf p k * t).natAbs < Top) :
 Calls Tryz.prog 137 #[.pointer (some ⟨c,0,none⟩),.slice fa n cf1,.slice pa n cf2,Z t] w (SubPost g (upd l s p t n) w) := by
 have HM := i' (fun k (h : k < n) w hc => k'es c (Pl.cf p k) t e w hc (hpt k h) ht (hm k h));have HS := i' (fun k (h : k < n) w hc => k'er c (Pl.cf l (s + k)) (Pl.cf p k * t) e w hc (hl k h) (hm k h) (hd k h));have hcg : c ≠ g := by rintro rfl; exact hg.ne_ck hc rfl
 have hgl := hg.lt;obtain ⟨w0,hw0⟩ : ∃ w0 : World,w0 = w.alloc (.cells #[.bool (zb t),.string (zs t)] 44) := ⟨_,rfl⟩;have HC0 : Hid (Ck w0 c e) := by rw [hw0]; exact hc.alloc _
 have HG0 : Hid (Aw w0 g l) := by rw [hw0]; exact hg.alloc _
 have HB0 : Hid (But g w w0) := by rw [hw0]; exact (But.refl g w).alloc _
 have HP0 : Hid (∀ k (hk : k < p.length),w0.cell? ⟨b,o + k * 2,none⟩ = some (.bool (zb p[k])) ∧ w0.cell? ⟨b,o + k * 2 + 1,none⟩ = some (.string (zs p[k]))) := by
  intro k hk;rw [hw0];exact ⟨k'e ((Below.refl _ _).alloc (Nat.le_refl _) _) (hp k hk).1,k'e ((Below.refl _ _).alloc (Nat.le_refl _) _) (hp k hk).2⟩
 have HT0 : Hid (w0.cell? ⟨w.heap.size,0,none⟩ = some (.bool (zb t)) ∧ w0.cell? ⟨w.heap.size,1,none⟩ = some (.string (zs t))) := by rw [hw0]; exact ⟨by simp [go_sem],by simp [go_sem]⟩
 have HSz : Hid (w0.heap.size = w.heap.size + 1) := by show _ = _; rw [hw0]; simp
 have HN := i' hn;have HSl := i' hs;clear hc hg hp ht hl hpt hm hd hn hs;unfold Z at HM HS ⊢;generalize zb t = tb at *;generalize zs t = ts at *;go_enter Tryz.func137,Tryz.ntmps137;go_wp2;rw [← hw0];clear hw0;go_loopw [8,9,12] (fun _ _ iv wr => ∃ (wz : World) (k : Nat),wz = wr ∧ k ≤ n ∧ iv = .int .i64 (k : Int) ∧ Hid (Aw wz g (upd l s p t k)) ∧ Hid (But g w0 wz))
  (fun _ _ iv _ => n - (intOf iv).toNat)
 case atStart => exact ⟨w0,0,rfl,Nat.zero_le _,rfl,by rw [k'gg]; exact HG0.out,But.refl _ _⟩
 case round =>
  obtain ⟨wz,k,rfl,hk,rfl,haw,hbut⟩ := hrel;by_cases hlt : k < n
  ·have hkp : k < p.length := by have h5 : n = p.length := HN.out; omega
   have hsl := HSl.out;have hskl : s + k < (upd l s p t k).length := by rw [k'ge]; omega
   obtain rfl := hfa (by omega)
   obtain rfl := hpa (by omega)
   have hx : (upd l s p t k)[s + k] = Pl.cf l (s + k) := by rw [k'gf,if_neg (by omega)]
   have hy : p[k] = Pl.cf p k := (Pl.cf_lt hkp).symm;have hb0 := (HP0.out k hkp).1;rw [hy] at hb0;have p0 := hbut.out.cell hb0 hbg;have hb1 := (HP0.out k hkp).2;rw [hy] at hb1;have p1 := hbut.out.cell hb1 hbg;have hblt := World.block_lt_of_cell? wz _ p0;simp only at hblt;have hglt := haw.out.lt;have hne : w.heap.size ≠ g := by omega
   have t0 := hbut.out.cell HT0.out.1 hne;have t1 := hbut.out.cell HT0.out.2 hne;have htl : w.heap.size < wz.heap.size := by have h5 := hbut.out.size; have h6 : w0.heap.size = w.heap.size + 1 := HSz.out; omega
   obtain ⟨l0,l1⟩ := haw.out.cell (s + k) hskl;rw [hx,Nat.add_mul] at l0;rw [hx,Nat.add_mul] at l1;have f0 := haw.out.free (s * 2 + k * 2);have f1 := haw.out.free (s * 2 + k * 2 + 1);have HMk := i' (HM.out k hlt);have HSk := i' (HS.out k hlt);have hset : Hid ((upd l s p t k).set (s + k) (Pl.cf l (s + k) - Pl.cf p k * t) = upd l s p t (k + 1)) := k'gh l s p t k (by omega)
   obtain ⟨wi,hwi⟩ : ∃ wi : World,wi = wz.alloc (.cells #[.bool (zb (Pl.cf p k)),.string (zs (Pl.cf p k))] 44) := ⟨_,rfl⟩;have hAi : Hid (Aw wi g (upd l s p t k)) := by rw [hwi]; exact haw.out.alloc _
   have hBi : Hid (But g w0 wi) := by rw [hwi]; exact hbut.out.alloc _
   have hCi : Hid (Ck wi c e) := (hBi.out.ck HC0.out hcg);have a0 : wi.cell? ⟨wz.heap.size,0,none⟩ = some (.bool (zb (Pl.cf p k))) := by rw [hwi]; simp [go_sem]
   have a1 : wi.cell? ⟨wz.heap.size,1,none⟩ = some (.string (zs (Pl.cf p k))) := by rw [hwi]; simp [go_sem]
   have i0 : wi.cell? ⟨g,s * 2 + k * 2,none⟩ = some (.bool (zb (Pl.cf l (s + k)))) := by rw [hwi]; exact k'e ((Below.refl _ _).alloc (Nat.le_refl _) _) l0
   have i1 : wi.cell? ⟨g,s * 2 + k * 2 + 1,none⟩ = some (.string (zs (Pl.cf l (s + k)))) := by rw [hwi]; exact k'e ((Below.refl _ _).alloc (Nat.le_refl _) _) l1
   have j0 : wi.cell? ⟨w.heap.size,0,none⟩ = some (.bool tb) := by rw [hwi]; exact k'e ((Below.refl _ _).alloc (Nat.le_refl _) _) t0
   have j1 : wi.cell? ⟨w.heap.size,1,none⟩ = some (.string ts) := by rw [hwi]; exact k'e ((Below.refl _ _).alloc (Nat.le_refl _) _) t1
   have g0 := hAi.out.free (s * 2 + k * 2);have g1 := hAi.out.free (s * 2 + k * 2 + 1);have u1 : ¬ b = wz.heap.size := by omega
   have u2 : ¬ wz.heap.size = b := by omega
   have x0 : (0 : Int) ≤ (k : Int) := by omega
   have x1 : (k : Int) < (n : Int) := by omega
   have HL2 := i' hskl;have HII := i' (And.intro i0 (And.intro i1 (And.intro a0 (And.intro a1 (And.intro j0 (And.intro j1 (And.intro g0 g1)))))));clear hx hy hb0 hb1 hskl hkp hsl l0 l1 t0 t1 f0 f1 i0 i1 a0 a1 j0 j1 g0 g1 haw hbut;generalize Pl.cf l (s + k) - Pl.cf p k * t = d at *;generalize Pl.cf p k * t = m at *;generalize Pl.cf l (s + k) = x at *;generalize Pl.cf p k = y at *;generalize zb y = yb at *;generalize zs y = ys at *;generalize zb x = xb at *;generalize zs x = xs at *;generalize zb m = mb at *;generalize zs m = ms at *;go_upto_region 4 with (fail);rw [← hwi];clear hwi;have k0 := HII.out.1;have k1 := HII.out.2.1;have k2 := HII.out.2.2.1;have k3 := HII.out.2.2.2.1;have k4 := HII.out.2.2.2.2.1;have k5 := HII.out.2.2.2.2.2.1;have k6 := HII.out.2.2.2.2.2.2.1;have k7 := HII.out.2.2.2.2.2.2.2;have y0 : (0 : Int) ≤ (s : Int) := by omega
   go_region_with
    (first
     | (go_at_call 89; (with_reducible refine (HMk.out _ (by exact hCi.out.drew)).mono ?_); rintro e w5 ⟨rfl,b5⟩; have c5 := k'4h ((Below.refl _ _).drew) b5; have p0 := k'4i c5 k0; have p1 := k'4i c5 k1; have p2 := k'4i c5 k2; have p3 := k'4i c5 k3; have p4 := k'4i c5 k4; have p5 := k'4i c5 k5; have p6 := k'4j c5 k0 k6; have p7 := k'4j c5 k1 k7; have G1 := i' c5; clear b5 c5)
     | (go_at_call 79; (with_reducible refine (HSk.out _ (by exact hCi.out.below G1.out)).mono ?_); rintro e w6 ⟨rfl,b6⟩; have c6 := k'4h G1.out b6; have p0 := k'4i c6 k0; have p1 := k'4i c6 k1; have p2 := k'4i c6 k2; have p3 := k'4i c6 k3; have p4 := k'4i c6 k4; have p5 := k'4i c6 k5; have p6 := k'4j c6 k0 k6; have p7 := k'4j c6 k1 k7; have G2 := i' c6; clear b6 c6))
   all_goals
    have HA5 := i' (hAi.out.below G2.out);have HA6 := HA5.out.set (s + k) HL2.out d;rw [hset.out,Nat.add_mul] at HA6;have HA7 := i' HA6;have HB7 := i' (((hBi.out.trans (But.of_below G2.out)).trans (But.setAt g (s * 2 + k * 2) w6 (.bool (zb d)))).trans (But.setAt g (s * 2 + k * 2 + 1) _ (.string (zs d))));clear HA6 HA5 HII;go_wp2;go_roundw
    case rel => exact ⟨_,k + 1,rfl,by omega,by go_num,HA7.out,HB7.out⟩
    case measure => simp [intOf]; omega
  ·obtain rfl : k = n := by omega
   go_wp2;go_end0;exact ⟨⟨_,rfl⟩,HB0.out.trans hbut.out,haw.out⟩
theorem But.lowC {c B : Nat} {w w' : World} (h : But c w w') (hB : B ≤ c) (hc : c < w.heap.size) : Below B w w' := ⟨h.os,h.tape,h.output,h.size,fun k hk => h.block k (by omega) (by omega)⟩
def mulL (r : List Int) (j : Nat) (a : Int) (i : Nat) : List Int := (List.range j).map fun k => if k < i then Pl.cf r k * a else Pl.cf r k
theorem k'gj (r : List Int) (j : Nat) (a : Int) (i : Nat) : (mulL r j a i).length = j := by simp [mulL]
theorem k'gk (r : List Int) (j : Nat) (a : Int) (i k : Nat) (h : k < (mulL r j a i).length) : (mulL r j a i)[k] = if k < i then Pl.cf r k * a else Pl.cf r k := by simp [mulL]
theorem k'gl (r : List Int) (j : Nat) (a : Int) (i k : Nat) (h : k < j) : Pl.cf (mulL r j a i) k = if k < i then Pl.cf r k * a else Pl.cf r k := by
 rw [Pl.cf_lt (by rw [k'gj]; exact h),k'gk]
theorem k'gm (r : List Int) (j : Nat) (a : Int) (h : j ≤ r.length) : mulL r j a 0 = r.take j := by
 apply List.ext_getElem (by rw [k'gj]; simp; omega)
 intro k h1 h2;rw [k'gk,if_neg (by omega),Pl.cf_lt (by rw [k'gj] at h1; omega)]; simp
theorem k'gn (r : List Int) (j : Nat) (a : Int) (i : Nat) : (mulL r j a i).set i (Pl.cf r i * a) = mulL r j a (i + 1) := by
 apply List.ext_getElem (by simp [mulL])
 intro k h1 h2;rw [List.getElem_set,k'gk,k'gk];by_cases e : i = k
 ·subst e; rw [if_pos rfl,if_pos (by omega)]
 ·rw [if_neg e]
  by_cases g : k < i
  ·rw [if_pos g,if_pos (by omega)]
  ·rw [if_neg g,if_neg (by omega)]
theorem k'go (r q : List Int) (last : Nat) (hq : q.length = last + 1) (hr : q.length ≤ r.length) :
 upd (mulL r (r.length - 1) (Pl.lead q) (r.length - 1)) (r.length - 1 - last) (q.take last) (Pl.lead r) last = Pl.step (Pl.lead q) (Pl.lead r) q r := by
 apply List.ext_getElem (by rw [k'ge,k'gj,Pl.step_length])
 intro k h1 h2;have hk : k < r.length - 1 := by rw [k'ge,k'gj] at h1; exact h1
 rw [k'gf,k'gl _ _ _ _ _ hk,if_pos hk,← Pl.cf_lt h2,Pl.cf_step,if_pos hk];have e : r.length - q.length = r.length - 1 - last := by omega
 rw [e];by_cases g : r.length - 1 - last ≤ k
 ·rw [if_pos ⟨g,by omega⟩,if_pos g]
  have e2 : Pl.cf (q.take last) (k - (r.length - 1 - last)) = Pl.cf q (k - (r.length - 1 - last)) := by
   rw [Pl.cf_lt (by simp; omega),Pl.cf_lt (by omega)]; simp
  rw [e2,Int.mul_comm (Pl.cf r k),Int.mul_comm (Pl.lead r)]
 ·rw [if_neg (by omega),if_neg g,Int.mul_comm]; omega
structure RInv (p q r : List Int) : Prop where
 prem : Pl.prem q (r.length + 1 - q.length) r = Pl.prem q (p.length + 1 - q.length) p
 size : (2 * Pl.mx q) ^ (r.length + 1 - q.length) * Pl.mx r ≤ (2 * Pl.mx q) ^ (p.length + 1 - q.length) * Pl.mx p
theorem k'gp (q r : List Int) : Pl.mx (Pl.step (Pl.lead q) (Pl.lead r) q r) ≤ 2 * Pl.mx q * Pl.mx r := by
 refine Nat.le_trans (Pl.mx_step _ _ _ _) ?_;have h1 : (Pl.lead q).natAbs * Pl.mx r ≤ Pl.mx q * Pl.mx r := Nat.mul_le_mul_right _ (Pl.mx_cf q _);have h2 : (Pl.lead r).natAbs * Pl.mx q ≤ Pl.mx r * Pl.mx q := Nat.mul_le_mul_right _ (Pl.mx_cf r _);rw [Nat.mul_comm (Pl.mx r)] at h2;rw [Nat.mul_assoc]; omega
theorem RInv.step {p q r : List Int} (h : RInv p q r) (hq : 0 < q.length) (hl : q.length ≤ r.length) : RInv p q (Pl.step (Pl.lead q) (Pl.lead r) q r) := by
 have e : r.length + 1 - q.length = (r.length - 1 + 1 - q.length) + 1 := by omega
 refine ⟨?_,?_⟩
 ·rw [← h.prem,e,Pl.prem,Pl.step_length]
 ·refine Nat.le_trans ?_ h.size
  rw [e,Nat.pow_succ,Nat.mul_assoc,Pl.step_length];exact Nat.mul_le_mul_left _ (k'gp q r)
theorem RInv.top {p q r : List Int} (h : RInv p q r) (hq : 1 ≤ Pl.mx q) (hl : q.length ≤ r.length) (hB : (2 * Pl.mx q) ^ (p.length + 1 - q.length) * Pl.mx p < Top) : 2 * Pl.mx q * Pl.mx r < Top := by
 refine Nat.lt_of_le_of_lt ?_ (Nat.lt_of_le_of_lt h.size hB);apply Nat.mul_le_mul_right;have e : r.length + 1 - q.length = (r.length - q.length) + 1 := by omega
 rw [e,Nat.pow_succ];have := Nat.pow_pos (n := r.length - q.length) (show 0 < 2 * Pl.mx q by omega)
 exact Nat.le_mul_of_pos_left _ this
theorem k'gq {q r : List Int} (hq : 1 ≤ Pl.mx q) (h : 2 * Pl.mx q * Pl.mx r < Top) (i j : Nat) : (Pl.cf r i).natAbs < Top ∧ (Pl.cf r i * Pl.cf q j).natAbs < Top := by
 have h1 := Pl.mx_cf r i;have h2 := Pl.mx_cf q j;have h3 : Pl.mx r ≤ Pl.mx q * Pl.mx r := Nat.le_mul_of_pos_left _ hq;have h4 : (Pl.cf r i * Pl.cf q j).natAbs ≤ Pl.mx q * Pl.mx r := by rw [Int.natAbs_mul,Nat.mul_comm]; exact Nat.mul_le_mul h2 h1
 rw [Nat.mul_assoc] at h;omega
theorem k'gr (c : Nat) (p q : List Int) (v1 v2 : Value) (e : Int) (w : World) (h1 : Rp w v1 p) (h2 : Rp w v2 q) (hc : Ck w c e) (hl1 : p.length ≤ 50) (hl2 : q.length ≤ 50)
 (ht1 : ∀ a ∈ p,a.natAbs < Top) (hlt : p.length < q.length) :
 Calls Tryz.prog 110 #[.pointer (some ⟨c,0,none⟩),v1,v2] w (RpPost (Pl.rest p q) w) := by
 have HCl := i' (k'gd p v1 w h1 (by omega))
 have HDg := i' (fun w' (hb : Below w.heap.size w w') => k'f1 (zl q) v2 w' (h2.below hb));have HTr := i' (fun v w' hr => k'fo v p w' hr ht1);have HE : Hid (Pl.trim p = Pl.rest p q) := by
  show _ = _;unfold Pl.rest;rw [show p.length + 1 - q.length = 0 by omega]; rfl
 obtain ⟨a1,b1,o1,c1,rfl,_⟩ := h1.open_;obtain ⟨a2,b2,o2,c2,rfl,_⟩ := h2.open_;rw [k'e0] at HDg;obtain ⟨n1,hn1⟩ : ∃ n,n = p.length := ⟨_,rfl⟩;obtain ⟨n2,hn2⟩ : ∃ n,n = q.length := ⟨_,rfl⟩;rw [← hn1] at hl1 hlt HCl ⊢;rw [← hn2] at hl2 hlt HDg ⊢;have HN1 := i' hn1;clear h1 h2 hc ht1 hn1 hn2;go_enter Tryz.func110,Tryz.ntmps110;go_wp2_with fail;refine HCl.out.mono ?_;rintro en w1 ⟨a3,n3,c3,rfl,hr1,-,hb1⟩;obtain rfl : n3 = n1 := by
  obtain ⟨_,_,_,_,e1,_⟩ := hr1.open_;injection e1 with _ e2 _;exact e2.trans HN1.out.symm
 have HR1 := i' hr1;have HB1 := i' hb1;clear hr1 hb1;go_wp2_with fail;refine (HDg.out _ HB1.out).mono ?_;rintro en w2 ⟨rfl,hb2⟩;have HR2 := i' (HR1.out.below hb2);have HB2 := i' (k'4h HB1.out hb2);clear hb2;go_wp2;go_loop [7] (fun v => v = .slice a3 n3 c3) (fun _ => 0)
 case atStart => rfl
 case round =>
  obtain rfl := hrel;have hle : ¬ ((n2 : Int) - 1 < (n3 : Int)) := by omega
  go_wp2_with fail;refine (HTr.out _ _ HR2.out).mono ?_;rintro en w3 ⟨v3,rfl,hr3,hb3⟩;have HR3 := i' hr3;have HB3 := i' (k'4h HB2.out hb3);clear hr3 hb3;go_wp2;go_ret;exact ⟨v3,rfl,by rw [← HE.out]; exact HR3.out,HB3.out⟩
theorem k'gs (w : World) (a : Addr) : w.drew.cell? a = w.cell? a := rfl
theorem k'gt (c : Nat) (p q : List Int) (v1 v2 : Value) (e : Int) (w : World) (h1 : Rp w v1 p) (h2 : Rp w v2 q) (hc : Ck w c e) (hl1 : p.length ≤ 50) (hl2 : q.length ≤ 50)
 (hq0 : q ≠ []) (hq1 : 1 ≤ Pl.mx q) (hlt : q.length ≤ p.length) (ht2 : ∀ a ∈ q,a.natAbs < Top) (hB : (2 * Pl.mx q) ^ (p.length + 1 - q.length) * Pl.mx p < Top) :
 Calls Tryz.prog 110 #[.pointer (some ⟨c,0,none⟩),v1,v2] w (RpPost (Pl.rest p q) w) := by
 have HCl := i' (k'gd p v1 w h1 (by omega))
 have HDg := i' (fun w' (hb : Below w.heap.size w w') => k'f1 (zl q) v2 w' (h2.below hb));have hql := List.length_pos_iff.2 hq0;obtain ⟨a1,b1,o1,c1,rfl,_⟩ := h1.open_;obtain ⟨a2,b2,o2,c2,rfl,h22,h23,h24,h25⟩ := h2.open_;obtain rfl := h24 hq0;have H25 := i' h25;have HC := i' hc;have hcl := hc.lt;have HT2 := i' ht2;have HQ1 := i' hq1;have HB := i' hB;have hp0 : p ≠ [] := by intro e0; rw [e0] at hlt; simp at hlt; exact hq0 hlt
 have HP0 := i' hp0;rw [k'e0] at HDg;obtain ⟨n1,hn1⟩ : ∃ n,n = p.length := ⟨_,rfl⟩;obtain ⟨m,hm⟩ : ∃ m,q.length = m + 1 := ⟨q.length - 1,by omega⟩
 have hmc : m ≤ c2 := by omega
 rw [← hn1] at hl1 hlt HCl ⊢;obtain ⟨n2,hn2⟩ : ∃ n,n = q.length := ⟨_,rfl⟩;have hmn : m < n2 := by omega
 have hmn2 : (n2 : Int) - 1 = (m : Int) := by omega
 have HMN := i' hmn2;rw [← hn2] at hl2 hlt HDg ⊢;have HN1 := i' hn1;have HM := i' hm;have hmk0 : m ≤ n1 := by omega
 clear h1 h2 h22 h23 h24 h25 hc ht2 hq1 hB hn1 hn2 hm hp0 hq0 hql hmn2;go_enter Tryz.func110,Tryz.ntmps110;go_wp2_with fail;refine HCl.out.mono ?_;rintro en w1 ⟨a3,n3,c3,rfl,hr1,ho1,hb1⟩;obtain rfl : n3 = n1 := by
  obtain ⟨_,_,_,_,e1,_⟩ := hr1.open_;injection e1 with _ e2 _;exact e2.trans HN1.out.symm
 obtain ⟨g,rfl,hg,haw⟩ := ho1 HP0.out;have hcap : n3 ≤ c3 ∧ c3 ≤ maxLen := by
  obtain ⟨_,_,_,_,e1,e2,e3,_⟩ := hr1.open_;injection e1 with _ e4 e5;subst e4 e5;exact ⟨e2,e3⟩
 obtain ⟨hc1,hc2⟩ := hcap;unfold maxLen at hc2;have HB1 := i' hb1;have HA1 := i' haw;have hgs := hg;clear hr1 ho1 hb1 haw;go_wp2_with fail;refine (HDg.out _ HB1.out).mono ?_;rintro en w2 ⟨rfl,hb2⟩;have HA2 := i' (HA1.out.below hb2);have HB2 := i' (k'4h HB1.out hb2);clear hb2;rw [HMN.out];go_wp2;go_loopw [7] (fun rv wr => ∃ (wz : World) (k : Nat) (r : List Int),wz = wr ∧ k ≤ n3 ∧ m ≤ k ∧ rv = .slice (some ⟨g,0,none⟩) k c3 ∧ Hid (r.length = k) ∧ Hid (RInv p q r) ∧ Hid (Aw wz g r) ∧ Hid (Below w.heap.size w wz))
  (fun rv _ => lenOf rv)
 case atStart => exact ⟨w2,n3,p,rfl,Nat.le_refl _,by omega,rfl,HN1.out.symm,⟨rfl,Nat.le_refl _⟩,HA2.out,HB2.out⟩
 case round =>
  clear HA1 HA2 HB1 HB2;obtain ⟨wz,k,r,rfl,hk,hmk,rfl,hrl,hinv,haw,hbl⟩ := hrel;by_cases hlt2 : m < k
  ·obtain ⟨j,rfl⟩ : ∃ j,k = j + 1 := ⟨k - 1,by omega⟩
   have hjr : j < r.length := by have h5 : r.length = j + 1 := hrl.out; omega
   have hmq : m < q.length := by have h5 : q.length = m + 1 := HM.out; omega
   have hqr : q.length ≤ r.length := by have h5 : q.length = m + 1 := HM.out; have h6 : r.length = j + 1 := hrl.out; omega
   have HTop := i' (hinv.out.top HQ1.out hqr HB.out);have hlead : Hid (Pl.cf r j = Pl.lead r) := by show _ = _; unfold Pl.lead; rw [hrl.out]; rfl
   have hleadq : Hid (Pl.cf q m = Pl.lead q) := by show _ = _; unfold Pl.lead; rw [HM.out]; rfl
   obtain ⟨t0,t1⟩ := haw.out.cell j hjr;rw [← Pl.cf_lt hjr,hlead.out] at t0 t1;have hgl := haw.out.lt;have u1 : ¬ g = wz.heap.size := by omega
   have u2 : ¬ wz.heap.size = g := by omega
   have HM2 := i' (fun i (hi : i < j) w hc => k'es c (Pl.cf r i) (Pl.lead q) e w hc (k'gq (q := q) HQ1.out HTop.out i 0).1 (by rw [← hleadq.out,Pl.cf_lt hmq]; exact HT2.out _ (List.getElem_mem hmq)) (by rw [← hleadq.out]; exact (k'gq HQ1.out HTop.out i m).2))
   obtain ⟨w3,hw3⟩ : ∃ w3 : World,w3 = wz.alloc (.cells #[.bool (zb (Pl.lead r)),.string (zs (Pl.lead r))] 44) := ⟨_,rfl⟩;have HA3 : Hid (Aw w3 g (mulL r j (Pl.lead q) 0)) := by rw [hw3,k'gm _ _ _ (by omega)]; exact (haw.out.alloc _).take j
   have HB3 : Hid (Below w.heap.size w w3) := by rw [hw3]; exact hbl.out.alloc hbl.out.size _
   have HX3 : Hid (w3.cell? ⟨wz.heap.size,0,none⟩ = some (.bool (zb (Pl.lead r))) ∧ w3.cell? ⟨wz.heap.size,1,none⟩ = some (.string (zs (Pl.lead r)))) := by rw [hw3]; exact ⟨by simp [go_sem],by simp [go_sem]⟩
   have HS3 : Hid (w3.heap.size = wz.heap.size + 1) := by show _ = _; rw [hw3]; simp
   have hq0c := (H25.out m hmq).1;have hq1c := (H25.out m hmq).2;rw [← Pl.cf_lt hmq,hleadq.out] at hq0c hq1c;have hb2 := World.block_lt_of_cell? w _ hq0c;simp only at hb2;have HQC := i' (And.intro hq0c hq1c);have hjc : j ≤ c3 := by omega
   have HL1 := i' hjr;have HL2 := i' hmq;have HL3 := i' hqr;clear haw hbl hq0c hq1c hjr hmq hqr;have hd0 : decide ((m : Int) < (j : Int) + 1) = true := by rw [decide_eq_true_eq]; omega
   go_wp2;rw [← hw3];clear hw3 t0 t1;go_loopw [33] (fun iv wq => ∃ (wy : World) (i : Nat),wy = wq ∧ i ≤ j ∧ iv = .int .i64 (i : Int) ∧ Hid (Aw wy g (mulL r j (Pl.lead q) i)) ∧ Hid (But g w3 wy))
    (fun iv _ => j - (intOf iv).toNat)
   case atStart => exact ⟨w3,0,rfl,Nat.zero_le _,rfl,HA3.out,But.refl _ _⟩
   case round =>
    obtain ⟨wy,i,rfl,hi,rfl,haw,hbut⟩ := hrel;have hgl3 := HA3.out.lt;have hbl2 := HB3.out.trans (hbut.out.lowC hg hgl3);have hzy : wz.heap.size < wy.heap.size := by have h5 := hbut.out.size; have h6 : w3.heap.size = wz.heap.size + 1 := HS3.out; omega
    by_cases hlt3 : i < j
    ·have hij : i < (mulL r j (Pl.lead q) i).length := by rw [k'gj]; exact hlt3
     have hx : (mulL r j (Pl.lead q) i)[i] = Pl.cf r i := by rw [k'gk,if_neg (by omega)]
     obtain ⟨l0,l1⟩ := haw.out.cell i hij;rw [hx] at l0 l1;have hgy := haw.out.lt;have u3 : ¬ g = wy.heap.size := by omega
     have u4 : ¬ wy.heap.size = g := by omega
     have u5 : ¬ b2 = wy.heap.size := by omega
     have u6 : ¬ wy.heap.size = b2 := by omega
     have u7 : ¬ b2 = g := by omega
     have u8 : ¬ g = b2 := by omega
     have HMk := i' (HM2.out i hlt3);have hset : Hid ((mulL r j (Pl.lead q) i).set i (Pl.cf r i * Pl.lead q) = mulL r j (Pl.lead q) (i + 1)) := k'gn r j _ i;obtain ⟨wi,hwi⟩ : ∃ wi : World,wi = wy.alloc (.cells #[.bool (zb (Pl.cf r i)),.string (zs (Pl.cf r i))] 44) := ⟨_,rfl⟩;have hAi : Hid (Aw wi g (mulL r j (Pl.lead q) i)) := by rw [hwi]; exact haw.out.alloc _
     have hBi : Hid (But g w3 wi) := by rw [hwi]; exact hbut.out.alloc _
     have hBl : Hid (Below w.heap.size w wi) := by rw [hwi]; exact hbl2.alloc hbl2.size _
     have hCi : Hid (Ck wi c e) := HC.out.below hBl.out;have a0 : wi.cell? ⟨wy.heap.size,0,none⟩ = some (.bool (zb (Pl.cf r i))) := by rw [hwi]; simp [go_sem]
     have a1 : wi.cell? ⟨wy.heap.size,1,none⟩ = some (.string (zs (Pl.cf r i))) := by rw [hwi]; simp [go_sem]
     have k2 := k'4i hBl.out HQC.out.1;have k3 := k'4i hBl.out HQC.out.2;obtain ⟨i0,i1⟩ := hAi.out.cell i hij;have g0 := hAi.out.free (i * 2);have g1 := hAi.out.free (i * 2 + 1);have x0 : (0 : Int) ≤ (i : Int) := by omega
     have x1 : (i : Int) < (j : Int) := by omega
     have x2 : (0 : Int) ≤ (m : Int) := by omega
     have x3 : (m : Int) < (n2 : Int) := by omega
     rw [hx] at i0 i1;have HL4 := i' hij;have HII := i' (And.intro i0 (And.intro i1 (And.intro a0 (And.intro a1 (And.intro k2 (And.intro k3 (And.intro g0 g1)))))));clear hx hij i0 i1 a0 a1 k2 k3 g0 g1 haw hbut hbl2;generalize Pl.cf r i * Pl.lead q = d at *;generalize Pl.cf r i = x at *;unfold Z at HMk;generalize zb x = xb at *;generalize zs x = xs at *;go_upto_region 8 with (fail);rw [← hwi];clear hwi;have k0 := HII.out.1;have k1 := HII.out.2.1;have k2 := HII.out.2.2.1;have k3 := HII.out.2.2.2.1;have k4 := HII.out.2.2.2.2.1;have k5 := HII.out.2.2.2.2.2.1;have k6 := HII.out.2.2.2.2.2.2.1;have k7 := HII.out.2.2.2.2.2.2.2;go_region_held3 (fun W' => W'.cell? ⟨wy.heap.size,0,none⟩ = some (.bool xb) ∧ W'.cell? ⟨wy.heap.size,1,none⟩ = some (.string xs) ∧ W'.cell? ⟨b2,o2 + m * 2,none⟩ = some (.bool (zb (Pl.lead q))) ∧ W'.cell? ⟨b2,o2 + m * 2 + 1,none⟩ = some (.string (zs (Pl.lead q)))) (go_keep)
      (first
       | (go_at_call 89; (with_reducible refine (HMk.out _ (by exact hCi.out.drew)).mono ?_); rintro e w5 ⟨rfl,b5⟩; have c5 := k'4h ((Below.refl _ _).drew) b5; have p0 := k'4i c5 k0; have p1 := k'4i c5 k1; have p2 := k'4i c5 k2; have p3 := k'4i c5 k3; have p4 := k'4i c5 k4; have p5 := k'4i c5 k5; have p6 := k'4j c5 k0 k6; have p7 := k'4j c5 k1 k7; have G1 := i' c5; clear b5 c5))
     have HA5 := i' (hAi.out.below G1.out);have HA6 := HA5.out.set i HL4.out d;rw [hset.out] at HA6;have HA7 := i' HA6;have HB7 := i' (((hBi.out.trans (But.of_below G1.out)).trans (But.setAt g (i * 2) w5 (.bool (zb d)))).trans (But.setAt g (i * 2 + 1) _ (.string (zs d))));clear HA6 HA5 HII;go_wp2;go_roundw
     case rel => exact ⟨_,i + 1,rfl,by omega,by go_num,HA7.out,HB7.out⟩
     case measure => simp [intOf]; omega
    ·obtain rfl : i = j := by omega
     obtain ⟨s,hs⟩ : ∃ s,s = i - m := ⟨_,rfl⟩;have hgw := haw.out.lt;have HA4 := i' haw.out;have HBt := i' hbut.out;have HBl := i' hbl2;have hqr := HL3.out;have hrl2 : r.length = i + 1 := hrl.out;have hmq2 : q.length = m + 1 := HM.out;have HS2 := i' (fun k => k'gq (q := q) HQ1.out HTop.out k m);have hmxs : ∀ k,(Pl.cf (mulL r i (Pl.lead q) i) k).natAbs ≤ Pl.mx q * Pl.mx r := by
      intro k;by_cases hk2 : k < i
      ·rw [k'gl _ _ _ _ _ hk2,if_pos hk2,Int.natAbs_mul,Nat.mul_comm]
       exact Nat.mul_le_mul (Pl.mx_cf q _) (Pl.mx_cf r _)
      ·rw [Pl.cf_ge (by rw [k'gj]; omega)]; simp
     have hmxm : ∀ k,(Pl.cf (q.take m) k * Pl.lead r).natAbs ≤ Pl.mx q * Pl.mx r := by
      intro k;rw [Int.natAbs_mul];refine Nat.mul_le_mul ?_ (Pl.mx_cf r _);by_cases hk2 : k < m
      ·rw [Pl.cf_lt (by simp; omega),List.getElem_take,← Pl.cf_lt (by omega)]
       exact Pl.mx_cf q k
      ·rw [Pl.cf_ge (by simp; omega)]; simp
     have htop := HTop.out;rw [Nat.mul_assoc] at htop;have HSub := i' (fun wv hcv hgv (hp : ∀ k (hk : k < (q.take m).length),wv.cell? ⟨b2,o2 + k * 2,none⟩ = some (.bool (zb (q.take m)[k])) ∧ wv.cell? ⟨b2,o2 + k * 2 + 1,none⟩ = some (.string (zs (q.take m)[k]))) =>
      k'gi c g s m (c3 - s) c2 b2 o2 (some ⟨g,s * 2,none⟩) (some ⟨b2,o2,none⟩) (mulL r i (Pl.lead q) i) (q.take m) (Pl.lead r) e wv hcv hgv (by simp; omega) (by omega) (by rw [k'gj]; omega) (by omega) (fun _ => rfl) (fun _ => rfl) (by omega)
      hp (by omega) (HS2.out _).1 (fun k _ => Nat.lt_of_le_of_lt (hmxs _) (by omega)) (fun k hk2 => by rw [Pl.cf_lt (by simp; omega),List.getElem_take]; exact HT2.out _ (List.getElem_mem _)) (fun k _ => Nat.lt_of_le_of_lt (hmxm _) (by omega)) (fun k _ => by have h5 := hmxs (s + k); have h6 := hmxm k; omega))
     have hups := k'go r q m HM.out hqr;rw [hrl2,Nat.add_sub_cancel,← hs] at hups;rw [hups] at HSub;have HCy : Hid (Ck wy c e) := HC.out.below hbl2;have HQy : Hid (∀ k (hk : k < (q.take m).length),wy.cell? ⟨b2,o2 + k * 2,none⟩ = some (.bool (zb (q.take m)[k])) ∧ wy.cell? ⟨b2,o2 + k * 2 + 1,none⟩ = some (.string (zs (q.take m)[k]))) := by
      intro k hk2;have hk3 : k < q.length := by simp at hk2; omega
      have h5 := H25.out k hk3;rw [List.getElem_take];exact ⟨k'4i hbl2 h5.1,k'4i hbl2 h5.2⟩
     have HLs : Hid ((Pl.step (Pl.lead q) (Pl.lead r) q r).length = i) := by show _ = _; rw [Pl.step_length,hrl2]; omega
     have HRI := i' (hinv.out.step (by omega) hqr)
     have k0 := hbut.out.cell HX3.out.1 (by simp only; omega)
     have k1 := hbut.out.cell HX3.out.2 (by simp only; omega)
     have vm : i - s = m := by omega
     have vq : (i : Int) - (m : Int) = (s : Int) := by omega
     have v0 : (0 : Int) ≤ (s : Int) := by omega
     have v1 : (s : Int) ≤ (i : Int) := by omega
     have v2 : (i : Int) ≤ (c3 : Int) := by omega
     have v3 : (m : Int) ≤ (c2 : Int) := by omega
     have v5 : (0 : Int) ≤ (m : Int) := by omega
     have v4 : ¬ c3 = s := by omega
     have vw1 : IntKind.i64.wrap (s : Int) = (s : Int) := IntWalk.i64_in _ (by omega)
     have VV := i' (And.intro vm (And.intro vq vw1));clear hups htop hmxs hmxm HS2 hrl2 hmq2 hqr hs haw hbut hbl2 vm vq vw1 HL3;go_upto_region 10 with (fail);have vm := VV.out.1;have vq := VV.out.2.1;have vw1 := VV.out.2.2;go_region_held3 (fun W' => W'.cell? ⟨wz.heap.size,0,none⟩ = some (.bool (zb (Pl.lead r))) ∧ W'.cell? ⟨wz.heap.size,1,none⟩ = some (.string (zs (Pl.lead r)))) (go_keep)
      (first
       | (go_at_call 137; (with_reducible refine (HSub.out _ (by exact HCy.out.drew) (by exact HA4.out.drew) (by intro k hk; rw [k'gs,k'gs]; exact HQy.out k hk)).mono ?_); rintro e w5 ⟨⟨v5,rfl⟩,b5,a5⟩; have p0 := b5.cell k0 (by simp only; omega); have p1 := b5.cell k1 (by simp only; omega); have G1 := i' (And.intro b5 a5); clear b5 a5))
     all_goals
      have HB9 : Hid (Below w.heap.size w w5) := HBl.out.trans (But.lowC (w := wy) ⟨G1.out.1.os,G1.out.1.tape,G1.out.1.output,G1.out.1.size,G1.out.1.block⟩ hg hgw);clear vm vq vw1;go_wp2;go_roundw
      case rel => exact ⟨_,i,_,rfl,by omega,by omega,rfl,HLs.out,HRI.out,G1.out.2,HB9.out⟩
      case measure => simp [lenOf]
  ·obtain rfl : k = m := by omega
   have HTr := i' (k'fo (.slice (some ⟨g,0,none⟩) k c3) r wz (Rp.of_whole haw.out k c3 hrl.out (by omega) (by unfold maxLen; omega)) (fun a ha => by
    obtain ⟨i,hi,rfl⟩ := List.mem_iff_getElem.1 ha;rw [← Pl.cf_lt hi];have h5 := hinv.out.size;have e5 : r.length + 1 - q.length = 0 := by have h6 : q.length = k + 1 := HM.out; have h7 : r.length = k := hrl.out; omega
    rw [e5,Nat.pow_zero,Nat.one_mul] at h5;exact Nat.lt_of_le_of_lt (Nat.le_trans (Pl.mx_cf r i) h5) HB.out))
   have HE : Hid (Pl.trim r = Pl.rest p q) := by
    show _ = _;unfold Pl.rest;rw [← hinv.out.prem,show r.length + 1 - q.length = 0 by have h6 : q.length = k + 1 := HM.out; have h7 : r.length = k := hrl.out; omega]
    rfl
   have hd0 : decide ((k : Int) < (k : Int)) = false := by simp
   go_wp2_with fail;refine HTr.out.mono ?_;rintro en w3 ⟨v3,rfl,hr3,hb3⟩;have HR3 := i' hr3;have HB3 := i' (k'4h hbl.out hb3);clear hr3 hb3;go_wp2;go_ret;exact ⟨v3,rfl,by rw [← HE.out]; exact HR3.out,HB3.out⟩
end Go.Proofs.YtepddegphdlbeaaGreat
namespace Go.Proofs.YtepddegphdlbeaaGreat
open Go.RowKit Go.Shelf
attribute [local go_sem] Oper.semAt_some
theorem k'gu (c : Nat) (x y e : Int) (w : World) (hc : Ck w c e) (hx : x.natAbs < Top) (hy : y.natAbs < Top) :
 Calls Tryz.prog 89 #[.pointer (some ⟨c,0,none⟩),Z x,Z y] w (KPost (Z (clip (x * y))) c (er e (x * y)) w) := by
 refine k'eh c _ _ _ _ _ _ (werr (bv (zs x) * bv (zs y))) e _ w hc ?_ fun w => ?_
 ·rw [← k'el e (zb x != zb y),k'da,k'dk,k'dk]
 ·have h1 := k'54 (zb x) (zb y) (zs x) (zs y) w (zvt hx) (zvt hy)
  rw [k'ek,k'da,k'dk,k'dk] at h1;exact h1
theorem k'gv (z : Int) : (clip z).natAbs < Top := by
 unfold clip
 split
 ·assumption
 ·exact Nat.lt_of_lt_of_le W0 k'48
theorem k'gw (n : Int) (w : World) (h1 : -9223372036854775808 ≤ n) (h2 : n ≤ 9223372036854775807) : Calls Tryz.prog 73 #[.int .i64 n] w (Ret (Z n) w) := k'5c n w h1 h2
theorem k'gx {W W' : World} {row : Option Nat} {g : Nat} {L : List Int} (h : Aw W g L) (hg : W.grownBy W' row) (hr : ∀ r,row = some r → ∃ o : Obj,W.heap[r]? = some o ∧ o.isCells = false) : Aw W' g L :=
 h.keep (hg.block g h.lt fun e => by
  obtain ⟨o,ho,hc⟩ := hr g e.symm;obtain ⟨r,h⟩ := h;rw [h] at ho; cases ho; cases hc)
theorem k'gy {W W' : World} {row : Option Nat} {c : Nat} {e : Int} (h : Ck W c e) (hg : W.grownBy W' row) (hr : ∀ r,row = some r → ∃ o : Obj,W.heap[r]? = some o ∧ o.isCells = false) : Ck W' c e :=
 (hg.block c h.lt fun e' => by
  obtain ⟨o,ho,hc⟩ := hr c e'.symm;rw [show W.heap[c]? = _ from h] at ho; cases ho; cases hc).trans h
theorem k'h0 {B c : Nat} {W W' : World} {e : Int} (h : But c W W') (hc : Ck W c e) : KeepsFrom B W W' := ⟨h.size,fun k o _ hk ho => by
 refine (h.block k (Array.getElem?_eq_some_iff.1 hk).1 fun e' => ?_).trans hk;subst e';rw [show W.heap[k]? = _ from hc] at hk; cases hk; cases ho⟩
theorem k'h1 {w : World} {g o1 o2 : Nat} {u1 u2 : Value} {a : Addr} {v : Value} (hn : g ≠ a.block) (h : w.cell? a = some v) : ((w.setCell ⟨g,o1,none⟩ u1).setCell ⟨g,o2,none⟩ u2).cell? a = some v := by
 rw [World.cell?_setCell_far _ _ _ _ (by exact hn),World.cell?_setCell_far _ _ _ _ (by exact hn)]; exact h
theorem k'h2 {n k : Nat} {h : k ≤ n} {pre : List (Fin n)} {x : Fin n} (e : pre ++ [x] = dn n k h) : ∃ k' h',k = k' + 1 ∧ pre = dn n k' h' ∧ x.val = n - 1 - k' := by
 cases k with
 | zero => simp [dn] at e
 | succ k =>
  rw [dn] at e;obtain ⟨e1,e2⟩ := List.append_inj' e rfl;refine ⟨k,by omega,rfl,e1,?_⟩
  have := congrArg (List.map Fin.val) e2;simpa using this
def lvL (p : List Int) (den : Int) (n k : Nat) : List Int := (List.range n).map fun i => if n - k ≤ i then Pl.cf p i * den ^ (n - 1 - i) else 0
theorem k'h3 (p : List Int) (den : Int) (n k : Nat) (hk : k < n) : (lvL p den n k).set (n - 1 - k) (Pl.cf p (n - 1 - k) * den ^ k) = lvL p den n (k + 1) := by
 apply List.ext_getElem (by simp [lvL])
 intro i h1 h2;rw [List.getElem_set];simp only [lvL,List.getElem_map,List.getElem_range];by_cases e : n - 1 - k = i
 ·subst e
  rw [if_pos rfl,if_pos (by omega),show n - 1 - (n - 1 - k) = k by omega]
 ·rw [if_neg e]
  have hi : i < n := by simpa [lvL] using h2
  by_cases g : n - k ≤ i
  ·rw [if_pos g,if_pos (by omega)]
  ·rw [if_neg g,if_neg (by omega)]
theorem k'h4 (p : List Int) (den : Int) : lvL p den p.length p.length = Pl.lev p den := by
 apply Pl.ext_cf (by simp [lvL,Pl.lev_length])
 intro i hi;have hi2 : i < p.length := by simpa [lvL] using hi
 rw [Pl.cf_lev,lvL,Pl.cf_map_range,if_pos hi2,if_pos (by omega)]
theorem k'h5 {px : Int} (p : List Int) (n : Nat) (pre : List (Fin p.length)) (x : Fin p.length) (L : List Int) (den f en e d e1 f2 e2 : Int) (hxn : x.val < n) (hn : n = p.length) (hL : L.length = n)
 (hgood : ∀ k h,pre = dn p.length k h → en = e ∧ L = lvL p den n k ∧ f = den ^ (min k (n - 1)))
 (hd : d = clip (px * f)) (he1 : e1 = er en (px * f)) (hf2 : f2 = clip (f * den)) (he2 : e2 = er e1 (f * den)) (hpow : ∀ j,j ≤ p.length - 1 → (den ^ j).natAbs < Top) (hfit : ∀ i j,j ≤ p.length - 1 → (Pl.cf p i * den ^ j).natAbs < Top) (hpx : px = Pl.cf p x.val) :
 (x.val = 0 → ∀ k h,pre ++ [x] = dn p.length k h → e1 = e ∧ L.set x.val d = lvL p den n k ∧ f = den ^ (min k (n - 1))) ∧
 (0 < x.val → ∀ k h,pre ++ [x] = dn p.length k h → e2 = e ∧ L.set x.val d = lvL p den n k ∧ f2 = den ^ (min k (n - 1))) := by
 have key : ∀ k h,pre ++ [x] = dn p.length k h → ∃ k',k = k' + 1 ∧ x.val = n - 1 - k' ∧ k' < n ∧ e1 = e ∧ L.set x.val d = lvL p den n k ∧ f = den ^ k' := by
  intro k h hk;obtain ⟨k',h',rfl,h1,h2⟩ := k'h2 hk;obtain ⟨g1,g2,g3⟩ := hgood k' h' h1;have hk' : k' < n := by omega
  rw [show min k' (n - 1) = k' by omega] at g3
  have hfi : (px * f).natAbs < Top := by rw [hpx,g3]; exact hfit _ _ (by omega)
  refine ⟨k',rfl,by omega,hk',?_,?_,g3⟩
  ·rw [he1,k'ei _ hfi,g1]
  ·rw [hd,k'ej hfi,hpx,g3,g2,show x.val = n - 1 - k' by omega]
   exact k'h3 p den n k' hk'
 constructor
 ·intro h0 k h hk
  obtain ⟨k',rfl,h1,h2,h3,h4,h5⟩ := key k h hk;refine ⟨h3,h4,?_⟩;rw [h5]; congr 1; omega
 ·intro h0 k h hk
  obtain ⟨k',rfl,h1,h2,h3,h4,h5⟩ := key k h hk;have hfi : (f * den).natAbs < Top := by rw [h5,← Int.pow_succ]; exact hpow _ (by omega)
  refine ⟨by rw [he2,k'ei _ hfi,h3],h4,?_⟩
  rw [hf2,k'ej hfi,h5,← Int.pow_succ]; congr 1; omega
def LvI (p : List Int) (n c G M0 M3 Fb n₀ Bs : Nat) (sv : Value) (den e : Int) (w : World) (pre : List (Fin p.length)) (W : World) : Prop :=
 (∃ (L : List Int) (f en : Int),L.length = n ∧ f.natAbs < Top ∧ Aw W G L ∧ Aw W Fb [f] ∧ Ck W c en ∧
  ∀ k h,pre = dn p.length k h → en = e ∧ L = lvL p den n k ∧ f = den ^ (min k (n - 1))) ∧
 (W.cell? ⟨M0,0,none⟩ = some (.pointer (some ⟨c,0,none⟩)) ∧ W.cell? ⟨M3,0,none⟩ = some (.slice (some ⟨G,0,none⟩) n n) ∧ W.cell? ⟨Bs,0,none⟩ = some sv) ∧ Aw W (M0 + 1) [den] ∧ Bn c n₀ w W
theorem k'h6 (p : List Int) (n c G M0 M3 Fb n₀ Bs B : Nat) (sv : Value) (den e : Int) (w : World) (hn : n₀ ≤ w.heap.size) (hB : n₀ ≤ B) : OwnFrom B (LvI p n c G M0 M3 Fb n₀ Bs sv den e w) := by
 rintro pre W W' row ⟨⟨L,f,en,h1,h2,h3,h4,h5,h6⟩,⟨h7,h8,h11⟩,h9,h10⟩ hg hr;have hr' : ∀ r,row = some r → ∃ o : Obj,W.heap[r]? = some o ∧ o.isCells = false := fun r e => (hr r e).2;exact ⟨⟨L,f,en,h1,h2,k'gx h3 hg hr',k'gx h4 hg hr',k'gy h5 hg hr',h6⟩,⟨cell_kept h7 hg hr',cell_kept h8 hg hr',cell_kept h11 hg hr'⟩,k'gx h9 hg hr',k'fv (β := Unit) hn hB () W W' row h10 hg hr⟩
theorem k'h7 (c : Nat) (p : List Int) (v : Value) (den e : Int) (w : World) (h : Rp w v p) (hc : Ck w c e) (hl : p.length ≤ 50) (ht : ∀ a ∈ p,a.natAbs < Top) (hd : den.natAbs < Top)
 (hpow : ∀ j,j ≤ p.length - 1 → (den ^ j).natAbs < Top) (hfit : ∀ i j,j ≤ p.length - 1 → (Pl.cf p i * den ^ j).natAbs < Top) :
 Calls Tryz.prog 133 #[.pointer (some ⟨c,0,none⟩),v,Z den] w (OwnPoly (Pl.lev p den) w) := by
 obtain ⟨a,b,off,cap,rfl,h2,h3,h4,h5⟩ := h.open_;obtain ⟨n,hn⟩ : ∃ n,n = p.length := ⟨_,rfl⟩;have HK := i' (fun w => k'eb n w (by omega))
 have HN := i' hn;have HC := i' hc;have HT := i' ht;have HPow := i' hpow;have HPA := i' h4;have HPC := i' h5;have HFit := i' hfit;have HD := i' hd;rw [← hn];refine (callsIn_wide (n := 5)).1 ?_;refine callsIn_of_wp_marks Tryz.func133 rfl trivial ?_ rfl;simp only [Tryz.ntmps133,List.size_toArray,List.length_cons,List.length_nil,Nat.reduceAdd,Nat.reduceSub,Array.replicate_succ,Array.replicate_zero,List.push_toArray,List.append_toArray,List.nil_append,List.cons_append];clear h h2 h3 h4 h5 hc ht hd hn hpow hfit;have hk := HK.out
 gi_wp2_with (refine ⟨trivial,?_⟩; gi_at_call 73; refine (callsIn_wide.2 (k'gw 1 _ (by decide) (by decide))).mono ?_; rintro e w1 ⟨rfl,b1⟩)
 clear hk;refine ⟨trivial,?_⟩;refine (k'g0 Fence.wide _ trivial rfl a n cap _).mono ?_;rintro e2 w2 ⟨rfl,hw2⟩;have hsz : w1.heap.size ≥ w.heap.size + 4 := by have := b1.size; simp at this; omega
 have HPP : Hid ((0 < n → a = some ⟨b,off,none⟩) ∧ (∀ j (hj : j < p.length),w2.cell? ⟨b,off + j * 2,none⟩ = some (.bool (zb p[j])) ∧ w2.cell? ⟨b,off + j * 2 + 1,none⟩ = some (.string (zs p[j]))) ∧
  ∀ W W',Bk c w.heap.size (w1.heap.size + 1) W W' → ∀ a' : Addr,(a'.block = w1.heap.size + 1 ∨ (0 < n ∧ a'.block = b)) → W'.cell? a' = W.cell? a') := by
  have hb2 : Below w.heap.size w w2 := by
   have h0 : Below w.heap.size w ((((w.alloc (.cells #[.pointer (some ⟨c,0,none⟩)] 94)).alloc (.cells #[.bool (zb den),.string (zs den)] 44)).alloc (.cells (wv (List.replicate n 0)).toArray 44)).alloc (.cells #[.slice (some ⟨w.heap.size + 1 + 1,0,none⟩) n n] 23)) :=
    ((((Below.refl _ _).alloc (Nat.le_refl _) _).alloc (by simp) _).alloc (by simp; omega) _).alloc (by simp; omega) _
   rw [hw2];exact ((h0.trans (b1.mono h0.size)).alloc (by omega) _).alloc (by simp; omega) _
  have hp0 : 0 < n → 0 < p.length := fun h0 => by have h5 : n = p.length := HN.out; omega
  refine ⟨fun h0 => HPA.out (List.length_pos_iff.1 (hp0 h0)),fun j hj => ⟨k'4i hb2 (HPC.out j hj).1,k'4i hb2 (HPC.out j hj).2⟩,fun W W' hk a' ha' => ?_⟩;rcases ha' with ha' | ⟨h0,ha'⟩
  ·exact World.cell?_of_block (by rw [ha']; exact hk.box)
  ·have hc0 := (HPC.out 0 (hp0 h0)).1
   have hlt := World.block_lt_of_cell? w _ hc0;exact hk.bn.cell (by rw [ha']; exact hlt) (by rw [ha']; exact HC.out.ne hc0)
 have HA2 : Hid (LvI p n c (w.heap.size + 1 + 1) w.heap.size (w.heap.size + 1 + 1 + 1) w1.heap.size w.heap.size (w1.heap.size + 1) (.slice a n cap) den e w [] w2) := by
  obtain ⟨W4,hW4⟩ : ∃ W4 : World,W4 = (((w.alloc (.cells #[.pointer (some ⟨c,0,none⟩)] 94)).alloc (.cells #[.bool (zb den),.string (zs den)] 44)).alloc (.cells (wv (List.replicate n 0)).toArray 44)).alloc (.cells #[.slice (some ⟨w.heap.size + 1 + 1,0,none⟩) n n] 23) := ⟨_,rfl⟩;rw [← hW4] at b1;have hs4 : W4.heap.size = w.heap.size + 4 := by rw [hW4]; simp
  have t0 : W4.cell? ⟨w.heap.size,0,none⟩ = some (.pointer (some ⟨c,0,none⟩)) := by rw [hW4]; simp [go_sem]
  have t1 : W4.cell? ⟨w.heap.size + 1 + 1 + 1,0,none⟩ = some (.slice (some ⟨w.heap.size + 1 + 1,0,none⟩) n n) := by rw [hW4]; simp [go_sem]
  have t2 : Aw W4 (w.heap.size + 1) [den] := by
   rw [hW4];have h5 := ((Aw.made (w.alloc (.cells #[.pointer (some ⟨c,0,none⟩)] 94)) [den]).alloc (.cells (wv (List.replicate n 0)).toArray 44)).alloc (.cells #[.slice (some ⟨w.heap.size + 1 + 1,0,none⟩) n n] 23);rw [World.size_alloc] at h5;exact h5
  have t3 : Aw W4 (w.heap.size + 1 + 1) (List.replicate n 0) := by
   rw [hW4];have h5 := (Aw.made ((w.alloc (.cells #[.pointer (some ⟨c,0,none⟩)] 94)).alloc (.cells #[.bool (zb den),.string (zs den)] 44)) (List.replicate n 0)).alloc (.cells #[.slice (some ⟨w.heap.size + 1 + 1,0,none⟩) n n] 23);rw [World.size_alloc,World.size_alloc] at h5;exact h5
  have t4 : Below w.heap.size w W4 := by rw [hW4]; exact ((((Below.refl _ _).alloc (Nat.le_refl _) _).alloc (by simp) _).alloc (by simp; omega) _).alloc (by simp; omega) _
  have hb2 : Below w.heap.size w w2 := by rw [hw2]; exact ((t4.trans (b1.mono t4.size)).alloc (by omega) _).alloc (by simp; omega) _
  have hb3 : Below w1.heap.size w1 w2 := by rw [hw2]; exact ((Below.refl _ _).alloc (Nat.le_refl _) _).alloc (by simp) _
  refine ⟨⟨List.replicate n 0,1,e,List.length_replicate,Nat.lt_of_lt_of_le (by decide) k'48,(t3.below b1).below hb3,?_,HC.out.below hb2,?_⟩,⟨k'4i hb3 (k'4i b1 t0),k'4i hb3 (k'4i b1 t1),?_⟩,(t2.below b1).below hb3,Bn.of_below hb2⟩
  ·rw [hw2]; exact (Aw.made w1 [1]).alloc _
  ·intro k h5 h6
   have hk0 : k = 0 := by have h7 := congrArg List.length h6; rw [k'fy] at h7; simpa using h7.symm
   subst hk0;refine ⟨rfl,?_,by simp⟩
   apply List.ext_getElem (by simp [lvL])
   intro i h8 h9;have hi : i < n := by simpa using h8
   simp only [lvL,List.getElem_map,List.getElem_range,List.getElem_replicate];rw [if_neg (by omega)]
  ·rw [hw2]; simp [go_sem]
 have HS2 : Hid (w2.cell? ⟨w1.heap.size + 1,0,none⟩ = some (.slice a n cap)) := by show _ = _; rw [hw2]; simp [go_sem]
 have HZ2 : Hid (w2.heap.size = w1.heap.size + 2) := by show _ = _; rw [hw2]; simp
 clear hw2
 gi_wp2
 refine wpIn_rangeFunc_ownH rfl (show 1 ≤ 5 by decide) (gf := 145) (lb := #[.pointer (some ⟨w1.heap.size + 1,0,none⟩)]) rfl trivial (enters_of Tryz.func145 (by kernel_rfl) rfl)
  (k'g1 (Bk c w.heap.size (w1.heap.size + 1)) (Bk.refl _ _ _) k'fw Fence.wide 4 trivial rfl (by decide) (w1.heap.size + 1) b off n cap a p (by omega) w2 HN.out (by have h5 := HZ2.out; omega) HS2.out HPP.out.1 HPP.out.2.1 HPP.out.2.2) k'fw (k'fx (by have h5 := HZ2.out; omega) (by have h5 := HZ2.out; omega)) (Below.refl _ _) (fun _ => rfl)
  (LvI p n c (w.heap.size + 1 + 1) w.heap.size (w.heap.size + 1 + 1 + 1) w1.heap.size w.heap.size (w1.heap.size + 1) (.slice a n cap) den e w)
  (fun _ _ _ => False)
  (k'h6 _ _ _ _ _ _ _ _ _ _ _ _ _ _ (Nat.le_refl _) (by have h5 := HZ2.out; omega))
  (fun _ _ _ _ _ hs _ _ => hs)
  HA2.out
  (fun x a' W => ∃ Bx,(w.heap.size + 1 + 1 + 1 < Bx ∧ w1.heap.size < Bx) ∧ Aw W Bx [p[x.val]] ∧ a' = { tmps := #[.pointer (some ⟨c,0,none⟩),.slice a n cap,Z den,.pointer (some ⟨w.heap.size,0,none⟩),undef,.pointer (some ⟨w.heap.size + 1,0,none⟩),.slice none 0 0,.pointer (some ⟨w.heap.size + 1 + 1 + 1,0,none⟩),.pointer (some ⟨w1.heap.size,0,none⟩),.int .i64 (x.val : Int),.pointer (some ⟨Bx,0,none⟩),.slice a n cap,.int .i64 (n : Int),.slice (some ⟨w.heap.size + 1 + 1,0,none⟩) n n,Z 1,.slice a n cap,.func (.func 145) #[] #[.pointer (some ⟨w1.heap.size + 1,0,none⟩)],.int .i64 (x.val : Int),Z p[x.val],undef,undef,undef,undef,undef,undef,undef,undef,undef,undef,undef,undef,undef,undef],defers := [] })
  (fun x a' _ X Y row hs hg hr => by obtain ⟨Bx,h1,h2,h3⟩ := hs; exact ⟨Bx,h1,k'gx h2 hg (fun r e => (hr r e).2),h3⟩)
  ?assign ?body ?done ?stop
 case assign =>
  rintro l pre x W K hI hK;unfold encw;have hI2 := (k'h6 p n c (w.heap.size + 1 + 1) w.heap.size (w.heap.size + 1 + 1 + 1) w1.heap.size w.heap.size (w1.heap.size + 1) w.heap.size (.slice a n cap) den e w (Nat.le_refl _) (Nat.le_refl _)).alloc (.cells #[.bool (zb p[x.val]),.string (zs p[x.val])] 44) hI;obtain ⟨⟨L,f,en,_,_,_,hF,_⟩,⟨_,hM3,hBs⟩,_,hB⟩ := hI;have hl3 := World.block_lt_of_cell? W _ hBs;have hl1 := hF.lt;have hl2 := World.block_lt_of_cell? W _ hM3
  gi_wp2
  exact hK _ _ ((KeepsOthers.alloc _ _).from _) ((Bk.refl _ _ _ _).alloc hB.size hl3 _) hI2 ⟨W.heap.size,⟨hl2,hl1⟩,Aw.made W [p[x.val]],rfl⟩
 case body =>
  rintro l pre x a' W hl ⟨r,hr⟩ hI ⟨Bx,⟨hBx1,hBx2⟩,bX,rfl⟩ hlt;obtain ⟨⟨L,f,en,hL,hf,hG,hF,hCk,hgood⟩,⟨hM0,hM3,hBsc⟩,hDen,hBn⟩ := hI;have hbs := World.block_lt_of_cell? W _ hBsc;simp only at hbs;have HBS := i' hBsc;clear hBsc;have hcw := HC.out.lt;have hpx : (p[x.val]).natAbs < Top := HT.out _ (List.getElem_mem x.isLt);have HM1 := i' (fun w' hc => k'gu c p[x.val] f en w' hc hpx hf);obtain ⟨d,hd⟩ : ∃ d,d = clip (p[x.val] * f) := ⟨_,rfl⟩;obtain ⟨e1,he1⟩ : ∃ e1,e1 = er en (p[x.val] * f) := ⟨_,rfl⟩;rw [← hd,← he1] at HM1;have HM2 := i' (fun w' hc => k'gu c f den e1 w' hc hf HD.out);obtain ⟨f2,hf2⟩ : ∃ f2,f2 = clip (f * den) := ⟨_,rfl⟩;obtain ⟨e2,he2⟩ : ∃ e2,e2 = er e1 (f * den) := ⟨_,rfl⟩;rw [← hf2,← he2] at HM2;have HSP := i' (And.intro hd (And.intro he1 (And.intro hf2 he2)));have HGO := i' hgood;have HHF := i' hf;have HLn := i' hL;have HGA := i' hG;have HFA := i' hF;have HCK := i' hCk;have HBN := i' hBn;have HDE := i' hDen;have HBX := i' bX;clear hd he1 hf2 he2 hgood hf hL hG hF hCk hBn hDen bX hpx;have hxn : x.val < n := by have := x.isLt; have h5 : n = p.length := HN.out; omega
  obtain ⟨xv,hxv⟩ : ∃ xv,xv = x.val := ⟨_,rfl⟩;obtain ⟨x0,x1⟩ := HBX.out.cell 0 (by simp)
  obtain ⟨f0,f1⟩ := HFA.out.cell 0 (by simp)
  obtain ⟨n0,n1⟩ := HDE.out.cell 0 (by simp)
  simp only [Nat.zero_mul,Nat.zero_add,List.getElem_cons_zero] at x0 x1 f0 f1 n0 n1;have HPX := i' (show p[x.val] = Pl.cf p x.val from (Pl.cf_lt x.isLt).symm);unfold Z at HM1 HM2;generalize p[x.val] = px at *;rw [← hxv] at hxn ⊢;have HXV := i' hxv;clear hxv;have hmx : Tryz.prog.follows .mixedOrders = true := by kernel_rfl
  have m1 : w.heap.size + 1 + 1 + 1 ≠ c := by omega
  have m2 : w1.heap.size ≠ c := by omega
  have m3 : w.heap.size + 1 + 1 ≠ c := by omega
  have m4 : w.heap.size ≠ c := by omega
  have m5 : Bx ≠ c := by omega
  have m6 : w.heap.size + 1 ≠ c := by omega
  have m7 : w1.heap.size + 1 ≠ c := by omega
  have y0 : (0 : Int) ≤ (xv : Int) := by omega
  have y1 : (xv : Int) < (n : Int) := by omega
  have HXL := i' (show xv < L.length by rw [HLn.out]; exact hxn)
  gi_wp2
  refine k'g7 (S := (fun W' => W'.cell? ⟨w.heap.size + 1 + 1 + 1,0,none⟩ = some (.slice (some ⟨w.heap.size + 1 + 1,0,none⟩) n n) ∧ W'.cell? ⟨w.heap.size,0,none⟩ = some (.pointer (some ⟨c,0,none⟩)) ∧ W'.cell? ⟨Bx,0,none⟩ = some (.bool (zb px)) ∧ W'.cell? ⟨Bx,1,none⟩ = some (.string (zs px)) ∧ W'.cell? ⟨w1.heap.size,0,none⟩ = some (.bool (zb f)) ∧ W'.cell? ⟨w1.heap.size,1,none⟩ = some (.string (zs f)))) hmx (by intro i o ho c; match i,ho with | 0,h | 1,h | 2,h | 3,h | 4,h | 5,h | 6,h | 7,h => (injection h with h; subst h; exact fun e => by cases e) | k + 8,h => exact absurd h (by simp)) ?_ (fun hHeld => ?_)
  ·exact ⟨hM3,hM0,x0,x1,f0,f1⟩
  refine wpAnyH_take (i := 0) (oi := ?oi1) (v := ?v1) ?hi1 (by kernel_rfl) (by kernel_rfl) (by kernel_rfl) k'g8 (Or.inl ⟨?hw1,?hy1⟩) (by assumption) ?rest1
  case hi1 => simp only [List.getElem?_toArray,List.getElem?_cons_succ,List.getElem?_cons_zero]; rfl
  case hw1 => rfl
  case hy1 =>
   intro w hSw
   (try dsimp only at hSw)
   go_simp
   (try with_reducible rfl)
  (try simp only [Act.put,List.setIfInBounds_toArray,List.set_cons_zero,List.set_cons_succ])
  refine wpAnyH_take (i := 1) (oi := ?oi2) (v := ?v2) ?hi2 (by kernel_rfl) (by kernel_rfl) (by kernel_rfl) k'g8 (Or.inl ⟨?hw2,?hy2⟩) (by assumption) ?rest2
  case hi2 => simp only [List.getElem?_toArray,List.getElem?_cons_succ,List.getElem?_cons_zero]; rfl
  case hw2 => rfl
  case hy2 =>
   intro w hSw
   (try dsimp only at hSw)
   go_simp
   (try with_reducible rfl)
  (try simp only [Act.put,List.setIfInBounds_toArray,List.set_cons_zero,List.set_cons_succ])
  refine wpAnyH_take (i := 2) (oi := ?oi3) (v := ?v3) ?hi3 (by kernel_rfl) (by kernel_rfl) (by kernel_rfl) k'g8 (Or.inl ⟨?hw3,?hy3⟩) (by assumption) ?rest3
  case hi3 => simp only [List.getElem?_toArray,List.getElem?_cons_succ,List.getElem?_cons_zero]; rfl
  case hw3 => rfl
  case hy3 =>
   intro w hSw
   (try dsimp only at hSw)
   go_simp
   (try with_reducible rfl)
  (try simp only [Act.put,List.setIfInBounds_toArray,List.set_cons_zero,List.set_cons_succ])
  refine wpAnyH_take (i := 3) (oi := ?oi4) (v := ?v4) ?hi4 (by kernel_rfl) (by kernel_rfl) (by kernel_rfl) k'g8 (Or.inl ⟨?hw4,?hy4⟩) (by assumption) ?rest4
  case hi4 => simp only [List.getElem?_toArray,List.getElem?_cons_succ,List.getElem?_cons_zero]; rfl
  case hw4 => rfl
  case hy4 =>
   intro w hSw
   (try dsimp only at hSw)
   go_simp
   (try with_reducible rfl)
  (try simp only [Act.put,List.setIfInBounds_toArray,List.set_cons_zero,List.set_cons_succ])
  refine wpAnyH_take (i := 4) (oi := ?oi5) (v := ?v5) ?hi5 (by kernel_rfl) (by kernel_rfl) (by kernel_rfl) k'g8 (Or.inl ⟨?hw5,?hy5⟩) (by assumption) ?rest5
  case hi5 => simp only [List.getElem?_toArray,List.getElem?_cons_succ,List.getElem?_cons_zero]; rfl
  case hw5 => rfl
  case hy5 =>
   intro w hSw
   (try dsimp only at hSw)
   go_simp
   (try with_reducible rfl)
  (try simp only [Act.put,List.setIfInBounds_toArray,List.set_cons_zero,List.set_cons_succ])
  refine wpAnyH_ready (rs := [5]) (by kernel_rfl) (by simp) ?_
  refine AllReadyH.cons (o := ?oi6) ?hi6 ?rest6 AllReadyH.nil
  case hi6 => simp only [List.getElem?_toArray,List.getElem?_cons_succ,List.getElem?_cons_zero]; rfl
  intro K hK;go_simp
  (with_reducible refine (HM1.out _ (by exact HCK.out.drew)).mono ?_)
  rintro e w5 ⟨rfl,b5,d5⟩;have c5 := ((But.refl c W).drew).trans b5;have p0 := c5.cell hM3 m1;have p1 := c5.cell hM0 m4;have p2 := c5.cell x0 m5;have p3 := c5.cell x1 m5;have HA5 := i' (c5.aw HGA.out m3);have HF5 := i' (c5.aw HFA.out m2);have HD5 := i' (c5.aw HDE.out m6);obtain ⟨p8,p9⟩ := HF5.out.cell 0 (by simp)
  simp only [Nat.zero_mul,Nat.zero_add,List.getElem_cons_zero] at p8 p9;have p4 := (HA5.out.cell xv HXL.out).1;have p5 := (HA5.out.cell xv HXL.out).2;have p6 := HA5.out.free (xv * 2);have p7 := HA5.out.free (xv * 2 + 1);have G5 := i' (And.intro c5 d5);clear b5 d5 c5
  (try go_wp2_with fail)
  refine hK.out _ _ ?_ (fun hHeld => ?_)
  ·(try dsimp only)
   exact ⟨p0,p1,p2,p3,p8,p9⟩
  clear hK K
  (try simp only [Act.put,List.setIfInBounds_toArray,List.set_cons_zero,List.set_cons_succ])
  refine wpAnyH_take (i := 6) (oi := ?oi7) (v := ?v7) ?hi7 (by kernel_rfl) (by kernel_rfl) (by kernel_rfl) k'g8 (Or.inl ⟨?hw7,?hy7⟩) (by assumption) ?rest7
  case hi7 => simp only [List.getElem?_toArray,List.getElem?_cons_succ,List.getElem?_cons_zero]; rfl
  case hw7 => rfl
  case hy7 =>
   intro w hSw
   (try dsimp only at hSw)
   go_simp
   (try with_reducible rfl)
  (try simp only [Act.put,List.setIfInBounds_toArray,List.set_cons_zero,List.set_cons_succ])
  refine wpAnyH_ready (rs := [7]) (by kernel_rfl) (by simp) ?_
  refine AllReadyH.cons (o := ?oi8) ?hi8 ?rest8 AllReadyH.nil
  case hi8 => simp only [List.getElem?_toArray,List.getElem?_cons_succ,List.getElem?_cons_zero]; rfl
  intro K hK;go_simp;refine hK.out _ _ ?_ (fun hHeld => ?_)
  ·(try dsimp only)
   exact ⟨k'h1 (by simp only; omega) p0,k'h1 (by simp only; omega) p1,k'h1 (by simp only; omega) p2,k'h1 (by simp only; omega) p3,k'h1 (by simp only; omega) p8,k'h1 (by simp only; omega) p9⟩
  clear hK K
  (try simp only [Act.put,List.setIfInBounds_toArray,List.set_cons_zero,List.set_cons_succ])
  refine wpAnyH_done (by kernel_rfl) ?_ _
  refine k'g9 ?_
  (try dsimp only [Exit.then])
  have HA6 := i' (HA5.out.set xv HXL.out d);have HF6 := i' ((HF5.out.other ⟨w.heap.size + 1 + 1,xv * 2,none⟩ (.bool (zb d)) (by simp only; omega)).other ⟨w.heap.size + 1 + 1,xv * 2 + 1,none⟩ (.string (zs d)) (by simp only; omega))
  have HD6 := i' ((HD5.out.other ⟨w.heap.size + 1 + 1,xv * 2,none⟩ (.bool (zb d)) (by simp only; omega)).other ⟨w.heap.size + 1 + 1,xv * 2 + 1,none⟩ (.string (zs d)) (by simp only; omega))
  have HC6 := i' ((G5.out.2.other ⟨w.heap.size + 1 + 1,xv * 2,none⟩ (.bool (zb d)) (by simp only; omega)).other ⟨w.heap.size + 1 + 1,xv * 2 + 1,none⟩ (.string (zs d)) (by simp only; omega))
  have HB6 := i' (((HBN.out.trans (Bn.of_but G5.out.1 HBN.out.size)).new (p := ⟨w.heap.size + 1 + 1,xv * 2,none⟩) (by simp only; omega) (.bool (zb d))).new (p := ⟨w.heap.size + 1 + 1,xv * 2 + 1,none⟩) (by simp only; omega) (.string (zs d)))
  have HW6 := i' (((Bk.of_but (n₀ := w.heap.size) (Bs := w1.heap.size + 1) G5.out.1 HBN.out.size hbs m7).new (p := ⟨w.heap.size + 1 + 1,xv * 2,none⟩) (by simp only; omega) (by simp only; omega) (.bool (zb d))).new (p := ⟨w.heap.size + 1 + 1,xv * 2 + 1,none⟩) (by simp only; omega) (by simp only; omega) (.string (zs d)))
  have HK6 := i' (((k'h0 (B := w2.heap.size) G5.out.1 HCK.out).trans ((KeepsOthers.setCell _ ⟨w.heap.size + 1 + 1,xv * 2,none⟩ (.bool (zb d))).from _)).trans ((KeepsOthers.setCell _ ⟨w.heap.size + 1 + 1,xv * 2 + 1,none⟩ (.string (zs d))).from _));have s0 := k'h1 (g := w.heap.size + 1 + 1) (o1 := xv * 2) (o2 := xv * 2 + 1) (u1 := .bool (zb d)) (u2 := .string (zs d)) (by simp only; omega) p0
  have s1 := k'h1 (g := w.heap.size + 1 + 1) (o1 := xv * 2) (o2 := xv * 2 + 1) (u1 := .bool (zb d)) (u2 := .string (zs d)) (by simp only; omega) p1
  have s2 := k'h1 (g := w.heap.size + 1 + 1) (o1 := xv * 2) (o2 := xv * 2 + 1) (u1 := .bool (zb d)) (u2 := .string (zs d)) (by simp only; omega) (G5.out.1.cell HBS.out m7)
  have hbs6 := World.block_lt_of_cell? _ _ s2;simp only at hbs6;obtain ⟨W6,hW6⟩ : ∃ W6 : World,W6 = (w5.setCell ⟨w.heap.size + 1 + 1,xv * 2,none⟩ (.bool (zb d))).setCell ⟨w.heap.size + 1 + 1,xv * 2 + 1,none⟩ (.string (zs d)) := ⟨_,rfl⟩;rw [← hW6] at HA6 HF6 HD6 HC6 HB6 HW6 HK6 s0 s1 s2 hbs6 ⊢;have HFin := i' (k'h5 p n pre x L den f en e d e1 f2 e2 (by rw [← HXV.out]; exact hxn) HN.out HLn.out HGO.out HSP.out.1 HSP.out.2.1 HSP.out.2.2.1 HSP.out.2.2.2 HPow.out HFit.out HPX.out)
  rw [← HXV.out] at HFin;have HL6 : Hid ((L.set xv d).length = n) := by show _ = _; rw [List.length_set]; exact HLn.out
  have HTF : Hid (f2.natAbs < Top) := by rw [HSP.out.2.2.1]; exact k'gv _
  clear hW6 p0 p1 p2 p3 p4 p5 p6 p7 p8 p9 x0 x1 f0 f1 n0 n1 hM0 hM3 hHeld;obtain ⟨f0,f1⟩ := HF6.out.cell 0 (by simp)
  obtain ⟨n0,n1⟩ := HD6.out.cell 0 (by simp)
  simp only [Nat.zero_mul,Nat.zero_add,List.getElem_cons_zero] at f0 f1 n0 n1;rcases Nat.eq_zero_or_pos xv with hx0 | hx0
  ·have HG1 := i' (HFin.out.1 hx0)
   subst hx0
   gi_wp2
   exact ⟨HK6.out,HW6.out,⟨_,_,_,HL6.out,HHF.out,HA6.out,HF6.out,HC6.out,HG1.out⟩,⟨s1,s0,s2⟩,HD6.out,HB6.out⟩
  ·have hp : (0 : Int) < (xv : Int) := by omega
   gi_wp2_with (refine ⟨trivial,?_⟩; gi_at_call 89; refine (CallsIn.inRound l (callsIn_wide.2 (HM2.out _ HC6.out))).mono ?_; rintro e w7 ⟨rfl,b7,d7⟩; have q0 := b7.cell f0 m2; have q1 := b7.cell f1 m2; have q2 := b7.frozen f0 (HF6.out.free 0) m2; have q3 := b7.frozen f1 (HF6.out.free 1) m2; have G7 := i' (And.intro b7 d7); clear b7 d7)
   have HG2 := HFin.out.2 hx0;have HF7 := (G7.out.1.aw HF6.out m2).set 0 (by simp) f2
   simp only [Nat.zero_mul,Nat.zero_add,List.set_cons_zero] at HF7;have hs7 := G7.out.1.size;have hb6 := HB6.out.size;exact ⟨((HK6.out.trans (k'h0 G7.out.1 HC6.out)).trans ((KeepsOthers.setCell _ _ _).from _)).trans ((KeepsOthers.setCell _ _ _).from _),
    ((HW6.out.trans (Bk.of_but G7.out.1 hb6 hbs6 m7)).new (p := ⟨w1.heap.size,0,none⟩) (by simp only; omega) (by simp only; omega) _).new (p := ⟨w1.heap.size,1,none⟩) (by simp only; omega) (by simp only; omega) _,
    ⟨_,_,_,HL6.out,HTF.out,((G7.out.1.aw HA6.out m3).other ⟨w1.heap.size,0,none⟩ _ (by simp only; omega)).other ⟨w1.heap.size,1,none⟩ _ (by simp only; omega),HF7,(G7.out.2.other ⟨w1.heap.size,0,none⟩ _ (by simp only; omega)).other ⟨w1.heap.size,1,none⟩ _ (by simp only; omega),HG2⟩,
    ⟨k'h1 (by simp only; omega) (G7.out.1.cell s1 m4),k'h1 (by simp only; omega) (G7.out.1.cell s0 m1),k'h1 (by simp only; omega) (G7.out.1.cell s2 m7)⟩,
    ((G7.out.1.aw HD6.out m6).other ⟨w1.heap.size,0,none⟩ _ (by simp only; omega)).other ⟨w1.heap.size,1,none⟩ _ (by simp only; omega),
    ((HB6.out.trans (Bn.of_but G7.out.1 hb6)).new (p := ⟨w1.heap.size,0,none⟩) (by simp only; omega) _).new (p := ⟨w1.heap.size,1,none⟩) (by simp only; omega) _⟩
 case done =>
  rintro D xs W hD rfl ⟨⟨L,f,en,hL,hf,hG,hF,hCk,hgood⟩,⟨hM0,hM3,-⟩,hDen,hBn⟩ hK;obtain ⟨g1,g2,-⟩ := hgood _ _ rfl;subst g1;have hLe : L = Pl.lev p den := by
   have h5 : n = p.length := HN.out;rw [g2,h5]; exact k'h4 p den
  have HLe := i' hLe;have HG := i' hG;have HCK := i' hCk;have HBN := i' hBn;have HKD := i' hK;clear hgood hL hf hG hF hCk hDen hBn g2 hLe hM0
  gi_wp2
  refine ⟨by simp,.inl ⟨_,_,rfl,run_takeDeferred HKD.out,?_⟩⟩
  have hgr := grownBy_putObj' W D (.deferred none);have hcl : ∀ r,some D = some r → ∃ o : Obj,W.heap[r]? = some o ∧ o.isCells = false := fun r e => by cases e; exact ⟨_,HKD.out,rfl⟩
  have hA9 := k'gx HG.out hgr hcl;rw [HLe.out] at hA9;have h5 : n = p.length := HN.out;have h6 := HZ2.out;refine ⟨.slice (some ⟨w.heap.size + 1 + 1,0,none⟩) n n,(by simp [results,Tryz.results133,go_sem]),some ⟨w.heap.size + 1 + 1,0,none⟩,n,n,rfl,Rp.of_whole hA9 n n (by rw [Pl.lev_length]; exact h5.symm) (Nat.le_refl _) (by unfold maxLen; omega),fun _ => ⟨w.heap.size + 1 + 1,rfl,by omega,hA9⟩,?_⟩
  exact (HBN.out.below HC.out HCK.out).trans (belowK_b (w := w) (Nat.le_refl _) W D _ _ (by omega) HKD.out rfl rfl)
 case stop =>
  rintro D c2 pre W _ _ h _;exact h.elim
end Go.Proofs.YtepddegphdlbeaaGreat
namespace Go.Proofs.YtepddegphdlbeaaGreat
open Go.RowKit
theorem k'h8 (a : Bool) (s : ByteArray) : 0 ≤ lenV a s ∧ lenV a s ≤ 65536 := by
 unfold lenV
 split
 ·rename_i h
  exact ⟨(k'50 s (k'4m h)).1,k'51 (k'4m h)⟩
 ·omega
theorem k'h9 (L : List (Bool × ByteArray)) : 0 ≤ glb L ∧ glb L ≤ 65536 := by
 have : ∀ (L : List (Bool × ByteArray)) (m : Int),0 ≤ m ∧ m ≤ 65536 → 0 ≤ L.foldl (fun m x => max m (lenV x.1 x.2)) m ∧ L.foldl (fun m x => max m (lenV x.1 x.2)) m ≤ 65536 := by
  intro L
  induction L with
  | nil => intro m h; exact h
  | cons x L ih => intro m h; have := k'h8 x.1 x.2; rw [List.foldl_cons]; exact ih _ ⟨by omega,by omega⟩
 exact this L 0 (by omega)
def ckd (L1 L2 : List (Bool × ByteArray)) : Int :=
 if (vldP L1 && vldP L2) = true then (if L2.length = 0 then 3 else if (L1.length : Int) - L2.length + 1 > 0 ∧ glb L1 + ((L1.length : Int) - L2.length + 1) * (glb L2 + 1) > 65536 then 7 else 0) else 2
theorem k'ha {L : List (Bool × ByteArray)} (h : vldP L = true) : L.length ≤ 25 := by
 unfold vldP at h;simp only [Bool.and_eq_true,decide_eq_true_eq] at h;exact h.1
theorem k'hb (L1 L2 : List (Bool × ByteArray)) (v1 v2 : Value) (w : World) (h1 : Rw w v1 L1) (h2 : Rw w v2 L2) (z1 : Small L1) (z2 : Small L2) :
 Calls Tryz.prog 109 #[v1,v2] w (IPost (ckd L1 L2) w) := by
 have HV1 := i' (fun w' (hb : Below w.heap.size w w') => k'ex L1 v1 w' (h1.below hb) z1);have HV2 := i' (fun w' (hb : Below w.heap.size w w') => k'ex L2 v2 w' (h2.below hb) z2);have HD1 := i' (fun w' (hb : Below w.heap.size w w') => k'f1 L1 v1 w' (h1.below hb));have HD2 := i' (fun w' (hb : Below w.heap.size w w') => k'f1 L2 v2 w' (h2.below hb));have HG1 := i' (fun w' (hb : Below w.heap.size w w') => k'f3 L1 v1 w' (h1.below hb) z1);have HG2 := i' (fun w' (hb : Below w.heap.size w w') => k'f3 L2 v2 w' (h2.below hb) z2);have G1 := k'h9 L1;have G2 := k'h9 L2;obtain ⟨r,hr⟩ : ∃ r,r = ckd L1 L2 := ⟨_,rfl⟩;rw [← hr];unfold ckd at hr;have L1b := k'ha (L := L1);have L2b := k'ha (L := L2);obtain ⟨p1,b1,o1,c1,rfl,-,-,-,-⟩ := h1;obtain ⟨p2,b2,o2,c2,rfl,-,-,-,-⟩ := h2;clear z1 z2;generalize vldP L1 = x1 at *;generalize vldP L2 = x2 at *;generalize glb L1 = g1 at *;generalize glb L2 = g2 at *;generalize L1.length = n1 at *;generalize L2.length = n2 at *
 cases x1
 ·have HR : Hid (r = 2) := hr
  clear hr L1b L2b;go_enter Tryz.func109,Tryz.ntmps109;go_wp2_with fail;refine (HV1.out _ (Below.refl _ _)).mono ?_;rintro e w1 ⟨rfl,b1'⟩;have B1 := i' b1';clear b1';go_wp2;go_ret;exact ⟨by rw [HR.out]; rfl,B1.out⟩
 have hn1 := L1b rfl;clear L1b
 cases x2
 ·have HR : Hid (r = 2) := hr
  clear hr L2b;go_enter Tryz.func109,Tryz.ntmps109;go_wp2_with fail;refine (HV1.out _ (Below.refl _ _)).mono ?_;rintro e w1 ⟨rfl,b1'⟩;have B1 := i' b1';clear b1';go_wp2_with fail;refine (HV2.out _ B1.out).mono ?_;rintro e w2 ⟨rfl,b2'⟩;have B2 := i' (k'4h B1.out b2');clear b2';go_wp2;go_ret;exact ⟨by rw [HR.out]; rfl,B2.out⟩
 have hn2 := L2b rfl;clear L2b;rw [show (true && true) = true from rfl,if_pos rfl] at hr;rcases Nat.eq_zero_or_pos n2 with h0 | h0
 ·subst h0
  have HR : Hid (r = 3) := hr;clear hr;go_enter Tryz.func109,Tryz.ntmps109;go_wp2_with fail;refine (HV1.out _ (Below.refl _ _)).mono ?_;rintro e w1 ⟨rfl,b1'⟩;have B1 := i' b1';clear b1';go_wp2_with fail;refine (HV2.out _ B1.out).mono ?_;rintro e w2 ⟨rfl,b2'⟩;have B2 := i' (k'4h B1.out b2');clear b2';go_wp2;go_ret;exact ⟨by rw [HR.out]; rfl,B2.out⟩
 rw [if_neg (by omega)] at hr
 obtain ⟨st,hst⟩ : ∃ st : Int,st = (n1 : Int) - n2 + 1 := ⟨_,rfl⟩;have hs1 : (IntKind.i64.wrap ((n1 : Int) - 1 - ((n2 : Int) - 1))) = st - 1 := by
  rw [show (n1 : Int) - 1 - ((n2 : Int) - 1) = st - 1 by omega]; exact IntWalk.i64_in _ (by omega)
 have hs2 : (IntKind.i64.wrap st) = st := IntWalk.i64_in _ (by omega)
 have hs3 : -30 ≤ st ∧ st ≤ 30 := by omega
 rw [← hst] at hr;by_cases hp : 0 < st
 ·obtain ⟨m,hm⟩ : ∃ m : Int,m = st * (g2 + 1) := ⟨_,rfl⟩
  have hm1 : 0 ≤ m ∧ m ≤ 26 * 65537 := by
   have := Int.mul_le_mul (show st ≤ 26 by omega) (show g2 + 1 ≤ 65537 by omega) (by omega) (by omega)
   have := Int.mul_nonneg (show 0 ≤ st by omega) (show 0 ≤ g2 + 1 by omega)
   omega
  have hw1 : IntKind.i64.wrap (st * (g2 + 1)) = m := by rw [← hm]; exact IntWalk.i64_in _ (by omega)
  rw [← hm] at hr;have HR : Hid (r = if g1 + m > 65536 then 7 else 0) := by
   show _ = _;rw [hr];by_cases g : g1 + m > 65536
   ·rw [if_pos ⟨hp,g⟩,if_pos g]
   ·rw [if_neg (fun h => g h.2),if_neg g]
  clear hr hm hst;go_enter Tryz.func109,Tryz.ntmps109;go_wp2_with fail;refine (HV1.out _ (Below.refl _ _)).mono ?_;rintro e w1 ⟨rfl,b1'⟩;have B1 := i' b1';clear b1';go_wp2_with fail;refine (HV2.out _ B1.out).mono ?_;rintro e w2 ⟨rfl,b2'⟩;have B2 := i' (k'4h B1.out b2');clear b2';go_wp2_with fail;refine (HD1.out _ B2.out).mono ?_;rintro e w3 ⟨rfl,b3⟩;have B3 := i' (k'4h B2.out b3);clear b3;go_wp2_with fail;refine (HD2.out _ B3.out).mono ?_;rintro e w4 ⟨rfl,b4⟩;have B4 := i' (k'4h B3.out b4);clear b4;go_wp2_with fail;refine (HG1.out _ B4.out).mono ?_;rintro e w5 ⟨rfl,b5⟩;have B5 := i' (k'4h B4.out b5);clear b5;go_wp2_with fail;refine (HG2.out _ B5.out).mono ?_;rintro e w6 ⟨rfl,b6⟩;have B6 := i' (k'4h B5.out b6);clear b6;by_cases g : g1 + m > 65536
  ·rw [if_pos g] at HR
   go_wp2;go_ret;exact ⟨by rw [HR.out]; rfl,B6.out⟩
  ·rw [if_neg g] at HR
   go_wp2;go_ret;exact ⟨by rw [HR.out]; rfl,B6.out⟩
 ·rw [if_neg (fun h => hp h.1)] at hr
  have HR := i' hr;clear hr hst;go_enter Tryz.func109,Tryz.ntmps109;go_wp2_with fail;refine (HV1.out _ (Below.refl _ _)).mono ?_;rintro e w1 ⟨rfl,b1'⟩;have B1 := i' b1';clear b1';go_wp2_with fail;refine (HV2.out _ B1.out).mono ?_;rintro e w2 ⟨rfl,b2'⟩;have B2 := i' (k'4h B1.out b2');clear b2';go_wp2_with fail;refine (HD1.out _ B2.out).mono ?_;rintro e w3 ⟨rfl,b3⟩;have B3 := i' (k'4h B2.out b3);clear b3;go_wp2_with fail;refine (HD2.out _ B3.out).mono ?_;rintro e w4 ⟨rfl,b4⟩;have B4 := i' (k'4h B3.out b4);clear b4;go_wp2;go_ret;exact ⟨by rw [HR.out]; rfl,B4.out⟩
def tlg (L : List (Bool × ByteArray)) (n : Int) : Bool := decide (0 < L.length ∧ glb L + ((L.length : Int) - 1) * n + 8 > 65536)
theorem k'hc (L : List (Bool × ByteArray)) (v : Value) (n : Int) (w : World) (h : Rw w v L) (z : Small L) (hl : L.length ≤ 25) (hn : 0 ≤ n ∧ n ≤ 100000) :
 Calls Tryz.prog 107 #[v,.int .i64 n] w (BPost (tlg L n) w) := by
 have HD := i' (fun w' (hb : Below w.heap.size w w') => k'f1 L v w' (h.below hb));have HG := i' (fun w' (hb : Below w.heap.size w w') => k'f3 L v w' (h.below hb) z);have G := k'h9 L;obtain ⟨r,hr⟩ : ∃ r,r = tlg L n := ⟨_,rfl⟩;rw [← hr];unfold tlg at hr;obtain ⟨p,b,o,c,rfl,-,-,-,-⟩ := h;clear z;generalize glb L = g at *;generalize L.length = k at *;rcases Nat.eq_zero_or_pos k with h0 | h0
 ·subst h0
  have HR : Hid (r = false) := by show _ = _; rw [hr]; simp
  clear hr;go_enter Tryz.func107,Tryz.ntmps107;go_wp2;go_ret;exact ⟨by rw [HR.out]; rfl,Below.refl _ _⟩
 ·obtain ⟨m,hm⟩ : ∃ m : Int,m = ((k : Int) - 1) * n := ⟨_,rfl⟩
  have hm1 : 0 ≤ m ∧ m ≤ 24 * 100000 := by
   have := Int.mul_le_mul (show (k : Int) - 1 ≤ 24 by omega) hn.2 hn.1 (by omega)
   have := Int.mul_nonneg (show 0 ≤ (k : Int) - 1 by omega) hn.1
   omega
  have hw1 : IntKind.i64.wrap (((k : Int) - 1) * n) = m := by rw [← hm]; exact IntWalk.i64_in _ (by omega)
  rw [← hm] at hr;clear hm;by_cases g0 : g + m + 8 > 65536
  ·have HR : Hid (r = true) := by show _ = _; rw [hr]; exact decide_eq_true ⟨h0,g0⟩
   clear hr;go_enter Tryz.func107,Tryz.ntmps107;go_wp2_with fail;refine (HG.out _ (Below.refl _ _)).mono ?_;rintro e w5 ⟨rfl,b5⟩;have B5 := i' b5;clear b5;go_wp2_with fail;refine (HD.out _ B5.out).mono ?_;rintro e w6 ⟨rfl,b6⟩;have B6 := i' (k'4h B5.out b6);clear b6;go_wp2;go_ret;exact ⟨by rw [HR.out]; rfl,B6.out⟩
  ·have HR : Hid (r = false) := by show _ = _; rw [hr]; exact decide_eq_false (fun h => g0 h.2)
   have hd0 : Hid (decide (65536 < g + m + 8) = false) := by show _ = _; rw [decide_eq_false_iff_not]; omega
   clear hr;go_enter Tryz.func107,Tryz.ntmps107;go_wp2_with fail;refine (HG.out _ (Below.refl _ _)).mono ?_;rintro e w5 ⟨rfl,b5⟩;have B5 := i' b5;clear b5;go_wp2_with fail;refine (HD.out _ B5.out).mono ?_;rintro e w6 ⟨rfl,b6⟩;have B6 := i' (k'4h B5.out b6);clear b6;go_wp2;go_ret;exact ⟨by rw [HR.out,← hd0.out]; rfl,B6.out⟩
end Go.Proofs.YtepddegphdlbeaaGreat
