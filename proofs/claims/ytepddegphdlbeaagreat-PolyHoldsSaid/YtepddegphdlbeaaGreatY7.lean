/- What the theorem leans on, part Y7. -/
import Derived.Test.YtepddegphdlbeaaGreatY4
import Derived.Test.YtepddegphdlbeaaGreatY2
import Derived.Test.YtepddegphdlbeaaGreatY1
import Derived.Test.YtepddegphdlbeaaGreatY0
import Derived.Test.YtepddegphdlbeaaGreatProg
import Derived.WalkKit
import Derived.WalkSpells
import Derived.WalkLawsBesides
import Derived.Lib.Hide
import Derived.Deep.QuietTactic
import Derived.BigQuiet
import Derived.Shelf.Small.Bits
import Derived.Shelf.Small.Wraps
import Derived.Shelf.Strconv.Itoa0
import Derived.Shelf.Bits.Mul64
import Derived.Ground.Names2Prog
import Derived.Shelf.Slices.SearchI
import Derived.Shelf.Spec.BitsCarry
import Derived.Deep.LoopGhost
import Derived.Deep.RegionHeld3
import Derived.Test.YtepddegphdlbeaaGreatY6
import Derived.Test.YtepddegphdlbeaaGreatY5
import Derived.Laws.AppendOwnNone
import Derived.Test.YtepddegphdlbeaaGreatY3
import Derived.Deep.DeepCutAuto
set_option maxRecDepth 100000
set_option maxHeartbeats 16000000
set_option linter.all false
namespace Go.Proofs.YtepddegphdlbeaaGreat
open Go.RowKit
def ToInv (X : List Nat) (k r : Nat) (t : List Nat) : Prop :=
 t.length + k = X.length ∧ Nm.Dig D9 t ∧ r < 256 ∧ Nm.val D9 (X.drop k) = Nm.val D9 t * 256 + r
theorem ToInv.start (X : List Nat) : ToInv X X.length 0 [] :=
 ⟨by simp,Nm.dig_nil _,by omega,by rw [List.drop_of_length_le (Nat.le_refl _)]; simp [Nm.val]⟩
theorem ToInv.step {X t : List Nat} {j r : Nat} (h : ToInv X (j + 1) r t) (hj : j < X.length) (dx : X[j] < D9) : ToInv X j ((r * 1000000000 + X[j]) % 256) ((r * 1000000000 + X[j]) / 256 :: t) := by
 obtain ⟨h1,h2,h3,h4⟩ := h;refine ⟨by simp; omega,Nm.dig_cons.2 ⟨by unfold D9 at *; omega,h2⟩,Nat.mod_lt _ (by decide),?_⟩
 rw [List.drop_eq_getElem_cons hj,Nm.val_cons,Nm.val_cons,h4];have := Nat.div_add_mod (r * 1000000000 + X[j]) 256;have e : D9 = 1000000000 := rfl;rw [e];generalize (r * 1000000000 + X[j]) / 256 = a at *;generalize (r * 1000000000 + X[j]) % 256 = b at *;generalize Nm.val 1000000000 t = v at *;generalize X[j] = x at *;omega
theorem ToInv.finish {X t : List Nat} {r : Nat} (h : ToInv X 0 r t) : r = Nm.val D9 X % 256 ∧ Nm.trimL t = Nm.dg D9 (Nm.val D9 X / 256) ∧ t.length = X.length := by
 obtain ⟨h1,h2,h3,h4⟩ := h;rw [List.drop_zero] at h4;refine ⟨by omega,?_,by omega⟩
 rw [Nm.trimL_dg D92 h2]
 congr 1
 omega
def Wr (w : World) (g : Nat) (l : List Nat) : Prop := ∀ k (h : k < l.length),w.cell? ⟨g,k,none⟩ = some (.int .i64 (l[k] : Int)) ∧ w.frozen? ⟨g,k,none⟩ = false
theorem Wr.of_own {w : World} {B n : Nat} {g cap : Nat} {l : List Nat} (h : w.ownsRow B 3 1 (.slice (some ⟨g,0,none⟩) n cap) n (iv l)) : Wr w g l := by
 intro k hk;have h1 := h.cells (g := g) rfl k (.int .i64 (l[k] : Int)) (k'6q l k hk);have hadd : ((⟨g,0,none⟩ : Addr).add k) = ⟨g,k,none⟩ := by unfold Addr.add; split <;> simp_all
 rw [hadd] at h1;refine ⟨h1,?_⟩;rcases h.2 with ⟨h2,_⟩ | ⟨g2,cap2,cur,h2,hB,hg,_⟩
 ·simp at h2
 ·have : g2 = g := by injection h2 with h3; injection h3 with h4; injection h4 with h5; exact h5.symm
  subst this;exact frozen_of_row w g2 k _ _ hg
theorem Wr.keep {w w' : World} {g : Nat} {l : List Nat} (h : Wr w g l) (he : w'.heap[g]? = w.heap[g]?) : Wr w' g l := fun k hk =>
 ⟨(World.cell?_of_block (a := ⟨g,k,none⟩) he).trans (h k hk).1,(World.frozen?_of_block (a := ⟨g,k,none⟩) he).trans (h k hk).2⟩
theorem Wr.lt {w : World} {g : Nat} {l : List Nat} (h : Wr w g l) (h0 : 0 < l.length) : g < w.heap.size := World.block_lt_of_cell? w _ (h 0 h0).1
theorem Wr.set {w : World} {g : Nat} {l : List Nat} (h : Wr w g l) (k n : Nat) : Wr (w.setCell ⟨g,k,none⟩ (.int .i64 (n : Int))) g (l.set k n) := by
 intro j hj;have hj2 : j < l.length := by simpa using hj
 obtain ⟨h1,h2⟩ := h j hj2;have hc := h1;by_cases hjk : j = k
 ·subst hjk
  refine ⟨?_,by simpa [go_sem] using h2⟩
  simp only [List.getElem_set_self];simp [go_sem,h1]
 ·refine ⟨?_,by simpa [go_sem] using h2⟩
  rw [List.getElem_set_ne (fun e => hjk e.symm)];have hkj : ¬ k = j := fun e => hjk e.symm;simp [go_sem,h1,hjk,hkj]
theorem Wr.take {w : World} {g : Nat} {l : List Nat} (h : Wr w g l) (n : Nat) : Wr w g (l.take n) := by
 intro k hk;have hk2 : k < l.length := by simp at hk; omega
 rw [List.getElem_take];exact h k hk2
theorem Wr.trim {w : World} {g : Nat} {l : List Nat} (h : Wr w g l) : Wr w g (Nm.trimL l) := by
 rw [Nm.trimL_is_take l];exact h.take _
theorem Wr.ri {w : World} {g cap : Nat} {l : List Nat} (h : Wr w g l) (hg : IntB w g) (h1 : l.length ≤ cap) (h2 : cap ≤ maxLen) : Ri w (.slice (some ⟨g,0,none⟩) l.length cap) l :=
 ⟨some ⟨g,0,none⟩,g,0,cap,rfl,h1,h2,fun _ => rfl,Or.inr ⟨rfl,hg⟩,fun k hk => by rw [Nat.zero_add]; exact (h k hk).1⟩
theorem k'8f {w w' : World} {g B n : Nat} {t : TypeId} {v : Value} {xs : List Value} (h : w.ownsRow B t 1 v n xs) (ho : Only g w w') (hg : g < B) : w'.ownsRow B t 1 v n xs := by
 refine ⟨h.1,?_⟩;rcases h.2 with h2 | ⟨g2,cap2,cur,h2,hB,hg2,hr⟩
 ·exact Or.inl h2
 ·exact Or.inr ⟨g2,cap2,cur,h2,hB,(ho.block g2 (by omega)).trans hg2,hr⟩
theorem k'8g (g cap : Nat) (xs : List Nat) (w : World) (h : Wr w g xs) (h2 : xs.length ≤ cap) (h3 : cap ≤ maxLen) : Calls Tryz.prog 95 #[.slice (some ⟨g,0,none⟩) xs.length cap] w fun e w' => e = .returned (.slice (some ⟨g,0,none⟩) (Nm.trimL xs).length cap) ∧ w = w' := by
 have hc := h3;unfold maxLen at hc;have hl : xs.length ≤ 9223372036854775807 := by omega
 have H6 := i' h;have H23 := i' (And.intro h2 h3);clear h h2 h3 hc;go_enter Tryz.func95,Tryz.ntmps95;go_wp2;go_loop [0] (fun v => ∃ k : Nat,k ≤ xs.length ∧ v = .slice (some ⟨g,0,none⟩) k cap ∧ Hid (∀ i (h : i < xs.length),k ≤ i → xs[i] = 0)) (fun v => lenOf v)
 case atStart => exact ⟨xs.length,Nat.le_refl _,rfl,fun i h hi => absurd h (by omega)⟩
 case round =>
  obtain ⟨k,hk,rfl,hz⟩ := hrel;rcases Nat.eq_zero_or_pos k with h0 | h0
  ·subst h0
   have e0 : Nm.trimL xs = xs.take 0 := Nm.trimL_take (Nat.zero_le _) (fun i h _ => hz.out i h (Nat.zero_le _)) trivial;have e1 : Hid ((Nm.trimL xs).length = 0) := by rw [e0]; rfl
   clear e0;go_wp2;go_ret;exact ⟨by rw [e1.out]; rfl,rfl⟩
  ·obtain ⟨j,rfl⟩ : ∃ j,k = j + 1 := ⟨k - 1,by omega⟩
   have hj : j < xs.length := by omega
   have hcell := (H6.out j hj).1;have hjc : j ≤ cap := by have := H23.out.1; omega
   by_cases hv : xs[j] = 0
   ·have HV := i' hv
    have hvi : ((xs[j] : Int) == 0) = true := by simp [hv]
    clear hv;go_wp2;go_round
    case rel =>
     refine ⟨j,by omega,rfl,fun i h hi => ?_⟩
     rcases Nat.lt_or_ge j i with g | g
     ·exact hz.out i h g
     ·obtain rfl : i = j := by omega
      exact HV.out
    case measure => simp [lenOf]
   ·have e0 : Nm.trimL xs = xs.take (j + 1) := Nm.trimL_take hk hz.out (Nm.nrm_take_last hj hv)
    have e1 : Hid ((Nm.trimL xs).length = j + 1) := by rw [e0]; show _ = _; simp; omega
    have hvi : ((xs[j] : Int) == 0) = false := by simp [hv]
    clear hv e0;go_wp2;go_ret;exact ⟨by rw [e1.out]; rfl,rfl⟩
def ToOut (m k : Nat) : Prop := k = 0 ∨ m / 256 ^ (k - 1) ≠ 0
theorem k'8i (m k : Nat) : m / 256 ^ k / 256 = m / 256 ^ (k + 1) := by rw [Nat.div_div_eq_div_mul,Nat.pow_succ]
theorem ToOut.step {m k : Nat} (h : m / 256 ^ k ≠ 0) : ToOut m (k + 1) := Or.inr (by rwa [Nat.add_sub_cancel])
def CopyI (w : World) (B : Nat) (v : Value) (X : List Nat) : Prop :=
 ∃ pd cap,v = .slice pd X.length cap ∧ (X = [] ∨ ∃ g,pd = some ⟨g,0,none⟩ ∧ B ≤ g ∧ g < w.heap.size ∧ Wr w g X) ∧ X.length ≤ cap ∧ cap ≤ maxLen
theorem k'8j {w : World} {ops : Array Oper} {rest : List Oper} {o : Oper} {a : Act} {Q : Exit → Act → World → Prop} (hgd : o.guard = none) (s x : Operand)
 (ho : o.op = .call { callee := .builtin .append,args := #[s,x],argTypes := #[24,24] }) (v : Value) (X : List Nat) (hs : a.eval s = .slice none 0 0) (hx : a.eval x = v) (hr : Ri w v X) (hl : X.length ≤ 1000000)
 (h : ∀ v' w',CopyI w' w.heap.size v' X → Below w.heap.size w w' → wpList Tryz.prog ops Q rest (a.put o.dst v') w') : wpList Tryz.prog ops Q (o :: rest) a w := by
 have hi3 : (Tryz.prog.info? 3).map (fun i => (i.zero,i.size,i.bytes)) = some (some (.int .i64 0),1,8) := by kernel_rfl
 obtain ⟨i0,hi0,hz0,hz1,hz2⟩ := info_parts hi3;obtain ⟨p,b,off,cap,rfl,h2,h3,h4,h5,h6⟩ := hr;rcases h5 with ⟨rfl,rfl⟩ | ⟨rfl,hb⟩
 ·have hX : X = [] := List.eq_nil_of_length_eq_zero (by omega)
  subst hX;exact wpList_append_own_none hgd s x 24 ho w.heap.size 3 i0 1 Tryz.underlying24 hi0 (.slice none 0 0) 0 [] hs (World.ownsRow_nil _ _ _ _) hx (h _ _ ⟨none,0,rfl,Or.inl rfl,Nat.le_refl _,by unfold maxLen; omega⟩ (Below.refl _ _))
 ·refine wpList_append_own w hgd s x 24 ho w.heap.size 3 i0 (.int .i64 0) 1 8 Tryz.underlying24 hi0 hz0 hz1 hz2 rfl (by decide) (.slice none 0 0) 0 [] hs (World.ownsRow_nil _ _ _ _) ⟨b,off,none⟩ X.length cap (iv X) hx (by rw [k'6p,Nat.mul_one]) ?_ ?_ (by unfold maxLen; omega) (by omega) (Nat.le_refl _) ?_
  ·intro j u hj
   have hjl : j < X.length := by have h7 := (List.getElem?_eq_some_iff.1 hj).1; rwa [k'6p] at h7
   rw [k'6q X j hjl] at hj;have hadd : ((⟨b,off,none⟩ : Addr).add j) = ⟨b,off + j,none⟩ := by unfold Addr.add; split <;> simp_all
   rw [hadd,h6 j hjl]; exact hj
  ·intro u hu
   simp only [iv,List.mem_map] at hu;obtain ⟨y,_,rfl⟩ := hu;rfl
  ·intro v' w' hown hgrow _
   have hb9 : Below w.heap.size w w' := (Below.refl _ _).grown hgrow (Nat.le_refl _) (fun q hq => by simp [Value.ownBlock] at hq)
   refine h _ _ ?_ hb9;rw [Nat.zero_add,List.nil_append] at hown;have hown2 := hown;rcases hown.2 with ⟨rfl,h0⟩ | ⟨g,cap2,cur,rfl,hB,hg,hn,hm,_⟩
   ·exact ⟨none,0,by rw [h0],Or.inl (List.eq_nil_of_length_eq_zero h0),by omega,by unfold maxLen; omega⟩
   ·exact ⟨_,_,rfl,Or.inr ⟨g,rfl,hB,lt_of_block hg,Wr.of_own hown2⟩,hn,hm⟩
theorem k'8k (l : List Nat) (x : Nat) : bvl (l ++ [x]) = bvl l ++ [Value.int .u8 (x : Int)] := by simp [bvl]
theorem k'8m (l : List Nat) (k : Nat) (h : k < l.length) : (bvl l)[k]? = some (.int .u8 (l[k] : Int)) := by simp [bvl,List.getElem?_eq_getElem h]
theorem k'8n {w : World} {B : Nat} {v : Value} {l : List Nat} {x : Nat} (h : w.ownsRow B 5 1 v l.length (bvl l)) (hx : l = (Nm.dg 256 x).reverse) :
 (convert 112 9 v).run Tryz.prog w = .ok (.string (bs x)) w := by
 rcases h.2 with ⟨rfl,h0⟩ | ⟨g,cap,cur,rfl,hB,hg,hn,hm,_⟩
 ·have hl : l = [] := List.eq_nil_of_length_eq_zero h0
  have hd : Nm.dg 256 x = [] := by rw [hl] at hx; simpa using hx.symm
  have hb : bs x = ⟨#[]⟩ := by unfold bs; rw [hd]; rfl
  rw [hb];have := run_convert_bytes_string (P := Tryz.prog) w 112 9 5 none 0 0 Tryz.underlying112 Tryz.underlying5 Tryz.underlying9;rw [this];simp [Conv.bytesToString,loadCells,loadCellsFrom,go_sem];rfl
 ·have hlen : (l.map UInt8.ofNat).length = l.length := by simp
  have := run_convert_bytes_back (P := Tryz.prog) w 112 9 5 ⟨g,0,none⟩ cap (l.map UInt8.ofNat) Tryz.underlying112 Tryz.underlying5 Tryz.underlying9 (fun j hj => by
   have hjn : j < l.length := by rw [hlen] at hj; exact hj
   rw [h.cells (g := g) rfl j (.int .u8 (l[j] : Int)) (k'8m l j hjn)];have e2 : l[j] < 256 := by
    have : l[j] ∈ (Nm.dg 256 x).reverse := by rw [← hx]; exact List.getElem_mem _
    exact Nm.dig_dg (by decide) x _ (List.mem_reverse.1 this)
   rw [List.getElem_map]
   congr 2
   simp [UInt8.toNat_ofNat',Nat.mod_eq_of_lt e2])
  rw [hlen] at this;rw [this,bs,← hx]
theorem k'8o {m L c : Nat} (hm : m < D9 ^ L) (h : m / 256 ^ c ≠ 0) : c < 4 * L := by
 rcases Nat.lt_or_ge c (4 * L) with g | g
 ·exact g
 ·have h1 : D9 ^ L ≤ 256 ^ (4 * L) := by
   rw [Nat.pow_mul];exact Nat.pow_le_pow_left (by decide) _
  have h2 : 256 ^ (4 * L) ≤ 256 ^ c := Nat.pow_le_pow_right (by decide) g
  exact absurd (Nat.div_eq_of_lt (by omega)) h
theorem k'8p {B n : Nat} (hB : 2 ≤ B) (h : (Nm.dg B n).length = 0) : n = 0 := by
 have h1 := Nm.val_dg hB n;rw [List.eq_nil_of_length_eq_zero h] at h1;simpa [Nm.val] using h1.symm
theorem k'8q {w : World} {B n : Nat} {t : TypeId} {v : Value} {xs : List Value} (h : w.ownsRow B t 1 v n xs) : lenOf v = n := by
 rcases h.2 with ⟨rfl,h0⟩ | ⟨g,cap,cur,rfl,_⟩
 ·rw [h0]; rfl
 ·rfl
theorem k'8r {w : World} {B n : Nat} {t : TypeId} {v : Value} {xs : List Value} (h : w.ownsRow B t 1 v n xs) : ∃ p g cap,v = .slice p n cap ∧ n ≤ cap ∧ (0 < n → p = some ⟨g,0,none⟩ ∧ g < w.heap.size ∧ ∀ k u,xs[k]? = some u → w.cell? ⟨g,k,none⟩ = some u) := by
 have h9 := h;rcases h.2 with ⟨rfl,h0⟩ | ⟨g,cap,cur,rfl,hB,hg,hn,hm,_⟩
 ·exact ⟨none,0,0,by rw [h0],by omega,fun h1 => absurd h1 (by omega)⟩
 ·refine ⟨_,g,cap,rfl,hn,fun _ => ⟨rfl,lt_of_block hg,fun k u hk => ?_⟩⟩
  have := h9.cells (g := g) rfl k u hk;have hadd : ((⟨g,0,none⟩ : Addr).add k) = ⟨g,k,none⟩ := by unfold Addr.add; split <;> simp_all
  rwa [hadd] at this
theorem k'8s (l : List Nat) (j : Nat) (h : j < l.length) : (l.drop j).reverse = (l.drop (j + 1)).reverse ++ [l[j]] := by
 rw [List.drop_eq_getElem_cons h]; simp
def wz (z : Int) : Value := wd (decide (z < 0)) z.natAbs
def ToPost (z : Int) (w : World) (e : Ending) (w' : World) : Prop := e = .returned (wz z) ∧ Below w.heap.size w w'
theorem k'8t (z : Int) (v : Value) (w : World) (h : Rz w v z) (hl : (Nm.dg D9 z.natAbs).length ≤ 1000000) :
 Calls Tryz.prog 39 #[iV z v] w (ToPost z w) := by
 have HZ : Hid (wz z = .agg #[.bool (decide (z < 0)),.string (bs z.natAbs)]) := by
  show _ = _;rw [wz,wd];by_cases hz : z < 0
  ·have h1 : z.natAbs ≠ 0 := by omega
   simp [hz,h1]
  ·simp [hz]
 have H0 : Hid (Ri w v (Nm.dg D9 z.natAbs)) := h;obtain ⟨pa,ba,oa,ca,rfl,hr1⟩ := h;clear hr1;unfold iV at *;generalize decide (z < 0) = ng at *;generalize z.natAbs = m at *;obtain ⟨w0,hw0⟩ : ∃ w0 : World,w0 = (w.alloc (.cells #[.bool ng,.slice pa (Nm.dg D9 m).length ca] 52)).alloc (.cells #[.bool false,.string ⟨#[]⟩] 44) := ⟨_,rfl⟩;have hb0 : Hid (Below w.heap.size w w0) := by rw [hw0]; exact ((Below.refl _ _).alloc (Nat.le_refl _) _).alloc (by simp) _
 have hsz : Hid (w.heap.size + 1 + 1 = w0.heap.size) := by rw [hw0]; show _ = _; simp
 have k0 : w0.cell? ⟨w.heap.size,0,none⟩ = some (.bool ng) := by rw [hw0]; simp [go_sem]
 have k1 : w0.cell? ⟨w.heap.size,1,none⟩ = some (.slice pa (Nm.dg D9 m).length ca) := by rw [hw0]; simp [go_sem]
 have k4 : w0.cell? ⟨w.heap.size + 1,0,none⟩ = some (.bool false) := by rw [hw0]; simp [go_sem]
 have k5 : w0.cell? ⟨w.heap.size + 1,1,none⟩ = some (.string ⟨#[]⟩) := by rw [hw0]; simp [go_sem]
 have k6 : w0.frozen? ⟨w.heap.size + 1,0,none⟩ = false := by rw [hw0]; simp [go_sem]
 have k7 : w0.frozen? ⟨w.heap.size + 1,1,none⟩ = false := by rw [hw0]; simp [go_sem]
 have KK := i' (And.intro k0 (And.intro k4 (And.intro k5 (And.intro k6 k7))));have H1 : Hid (Ri w0 (.slice pa (Nm.dg D9 m).length ca) (Nm.dg D9 m)) := H0.out.below hb0.out (Nat.le_refl _);have Hw0 := i' hw0;clear hw0 k0 k4 k5 k6 k7 H0;generalize hX : Nm.dg D9 m = X at *;have HX := i' hX;clear hX;go_enter Tryz.func39,Tryz.ntmps39;go_wp2_with (at_builtin; rw [← Hw0.out]; refine k'8j rfl _ _ rfl _ X rfl rfl H1.out hl ?_);intro v4 w1 hcopy hb1;obtain ⟨pd,cap,rfl,hcs,hcap1,hcap2⟩ := hcopy;have HB1 : Hid (Below w0.heap.size w0 w1) := hb1;have HC := i' (And.intro hcs (And.intro hcap1 hcap2));have HXL : Hid (m < D9 ^ X.length) := by
  have h5 := Nm.val_lt (Nm.dig_dg D92 m);rw [Nm.val_dg D92,HX.out] at h5;exact h5
 have hi3 : (Tryz.prog.info? 5).map (fun i => (i.zero,i.size,i.bytes)) = some (some (.int .u8 0),1,1) := by kernel_rfl
 obtain ⟨i0,hi0,hz0,hz1,hz2⟩ := info_parts hi3;have HI := i' (And.intro hi0 (And.intro hz0 (And.intro hz1 hz2)));clear hcs hcap1 hcap2 hb1 hi3 hi0 hz0 hz1 hz2 k1 H1;go_wp2;go_loopw [3,4,5,6] (fun bk dv _ _ wr => ∃ (wz : World) (c n : Nat) (l : List Nat),wz = wr ∧ n = l.length ∧ n ≤ 1000000 ∧ dv = .slice pd n cap ∧ Hid (l = Nm.dg D9 (m / 256 ^ c)) ∧ Hid (n ≤ X.length) ∧ Hid (c ≤ 4 * X.length) ∧
  Hid (n = 0 ∨ ∃ g,pd = some ⟨g,0,none⟩ ∧ w0.heap.size ≤ g ∧ g < w1.heap.size ∧ Wr wz g l) ∧ Hid (wz.ownsRow w1.heap.size 5 1 bk c (bvl (lowd m c))) ∧ Hid (ToOut m c) ∧ Hid (Below w0.heap.size w0 wz) ∧ Hid (w1.heap.size ≤ wz.heap.size))
  (fun bk _ _ _ _ => 4 * X.length + 1 - lenOf bk)
 case atStart =>
  exact ⟨w1,0,X.length,X,rfl,rfl,hl,rfl,by show X = _; rw [Nat.pow_zero,Nat.div_one]; exact HX.out.symm,Nat.le_refl _,Nat.zero_le _,by
   rcases HC.out.1 with h | ⟨g,h1,h2,h3,h4⟩
   ·exact Or.inl (by rw [h]; rfl)
   ·exact Or.inr ⟨g,h1,h2,h3,h4⟩,World.ownsRow_nil _ _ _ _,Or.inl rfl,HB1.out,Nat.le_refl _⟩
 case round =>
  obtain ⟨wz,c,n,l,rfl,hn,hn6,rfl,hl9,hnX,hc4,hwr,hown,hto,hbl,hsz1⟩ := hrel;have Hn := i' hn;clear hn;rcases Nat.eq_zero_or_pos n with h0 | h0
  ·subst h0
   have hdone : m / 256 ^ c = 0 := by
    have h5 : l = Nm.dg D9 (m / 256 ^ c) := hl9.out;have h6 : 0 = l.length := Hn.out;exact k'8p D92 (by rw [← h5,← h6])
   have HL : Hid (lowd m c = Nm.dg 256 m) := k'3y m c hdone hto.out;have hcl : Hid (c ≤ 4000000) := by have h5 := hc4.out; show _ ≤ _; omega
   obtain ⟨pb,gb,cb,rfl,hcb,hgb⟩ := k'8r hown.out;have HGB := i' hgb;have hcb2 : Hid (c ≤ cb) := hcb;clear hdone hl9 hnX hc4 hwr hto Hn hgb hcb hown;have hc0 : c ≤ 4000000 := hcl.out;go_wp2;go_loopw [7,8] (fun ov iv wq => ∃ (wy : World) (k nl : Nat),wy = wq ∧ nl + k = c ∧ iv = .int .i64 ((k : Int) - 1) ∧ Hid (wy.ownsRow wz.heap.size 5 1 ov nl (bvl ((lowd m c).drop k).reverse)) ∧ Hid (Below wz.heap.size wz wy))
    (fun _ iv _ => (intOf iv + 1).toNat)
   case atStart => exact ⟨wz,c,0,rfl,Nat.zero_add _,rfl,by
    have h5 : (lowd m c).drop c = [] := List.drop_of_length_le (by rw [k'3v]; omega)
    rw [h5]; exact World.ownsRow_nil _ _ _ _,Below.refl _ _⟩
   case round =>
    rename_i ov _ _ _;obtain ⟨wy,k,nl,rfl,hk,rfl,hown,hbl2⟩ := hrel;rcases Nat.eq_zero_or_pos k with h0 | h0
    ·subst h0
     have hnl : nl = ((lowd m c).drop 0).reverse.length := by simp [k'3v]; omega
     have hcv := k'8n (x := m) (hnl ▸ hown.out) (by rw [List.drop_zero,HL.out])
     have hba := k'7g hbl.out hbl2.out;have q0 := k'4i hba KK.out.1;have q4 := k'4i hba KK.out.2.1;have q5 := k'4i hba KK.out.2.2.1;have q6 := k'4j hba KK.out.2.1 KK.out.2.2.2.1;have q7 := k'4j hba KK.out.2.2.1 KK.out.2.2.2.2;have HB := i' (k'7g hb0.out hba);have n1 : ¬ (w.heap.size = w.heap.size + 1) := by omega
     clear hown hbl2 hba;go_wp2;exact bodyPost_ret (v := .agg #[.bool ng,.string (bs m)]) (by simp [results,Tryz.results39,go_sem,q4,q5]) rfl ⟨by rw [HZ.out],(HB.out.setCell (p := ⟨w.heap.size + 1,0,none⟩) (by simp) _).setCell (p := ⟨w.heap.size + 1,1,none⟩) (by simp) _⟩
    ·obtain ⟨j,rfl⟩ : ∃ j,k = j + 1 := ⟨k - 1,by omega⟩
     have hjl : j < (lowd m c).length := by rw [k'3v]; omega
     obtain ⟨rfl,hgl,hgc⟩ := HGB.out (by omega)
     have e1 := k'e hbl2.out (hgc j _ (k'8m _ j hjl));obtain ⟨x,hx⟩ : ∃ x,(lowd m c)[j] = x := ⟨_,rfl⟩;rw [hx] at e1;have hrd := k'8s (lowd m c) j hjl;rw [hx] at hrd;have HRD := i' hrd;have HLL : Hid (nl ≤ 4000000) := by show _ ≤ _; omega
     obtain ⟨y,hy⟩ : ∃ y : Int,(x : Int) = y := ⟨_,rfl⟩;rw [hy] at e1;have HY := i' hy;have hjc : j < c := by omega
     have hjb : j ≤ cb := by have := hcb2.out; omega
     have e5 : ((j + 1 : Nat) : Int) - 1 = (j : Int) := by omega
     rw [e5];have hbase : Hid (wz.heap.size ≤ wy.heap.size) := hbl2.out.size;clear hjl hgc hx hrd hy hgl;go_wp2_with (at_builtin; refine wpList_append_own _ rfl _ _ 112 rfl wz.heap.size 5 i0 (.int .u8 0) 1 1 Tryz.underlying112 HI.out.1 HI.out.2.1 HI.out.2.2.1 HI.out.2.2.2 rfl (by decide) _ _ _ rfl (hown.out.alloc _) ⟨wy.heap.size,0,none⟩ 1 1 [.int .u8 y] rfl rfl ?dc1 ?dc2 ?dc3 ?dc4 ?dc5 ?_)
     case dc2 => rfl
     case dc3 => have h5 := HLL.out; unfold maxLen; omega
     case dc4 => have h5 := HLL.out; omega
     case dc5 => have h5 := hbase.out; omega
     intro v' w2 hown1 hgrow1 _;have hbl1 : Hid (Below wz.heap.size wz w2) := (hbl2.out.alloc hbase.out _).grown hgrow1 (by have h5 := hbase.out; simp; omega) (fun q hq => (hown.out.lt q hq).1)
     have hown2 : Hid (w2.ownsRow wz.heap.size 5 1 v' (nl + 1) (bvl ((lowd m c).drop j).reverse)) := by
      show World.ownsRow _ _ _ _ _ _ _;rw [HRD.out,k'8k,HY.out];exact hown1
     clear hown1 hgrow1 hbl2 hown;go_wp2;go_roundw
     case rel => exact ⟨_,j,nl + 1,rfl,by omega,by go_num,hown2,hbl1⟩
     case measure => simp [intOf]
  ·have hne : l ≠ [] := fun e => by have h5 := Hn.out; rw [e] at h5; simp at h5; omega
   rcases hwr.out with h1 | ⟨g,rfl,hg1,hg2,hg3⟩
   ·omega
   have hmz : m / 256 ^ c ≠ 0 := fun e => hne (by have h5 : l = Nm.dg D9 (m / 256 ^ c) := hl9.out; rw [h5,e]; rfl)
   have hc5 : c < 4 * X.length := k'8o HXL.out hmz;have HT := i' (ToOut.step hmz);have DL : Hid (Nm.Dig D9 l) := by have h5 : l = Nm.dg D9 (m / 256 ^ c) := hl9.out; rw [h5]; exact Nm.dig_dg D92 _
   have VL : Hid (Nm.val D9 l = m / 256 ^ c) := by have h5 : l = Nm.dg D9 (m / 256 ^ c) := hl9.out; rw [h5]; exact Nm.val_dg D92 _
   have HG12 := i' (And.intro hg1 hg2);have HG3 := i' hg3;have HC5 := i' hc5;obtain ⟨pb,gb,cb,hbk,_,_⟩ := k'8r hown.out;subst hbk;have hcc : Hid (n ≤ cap) := by have h5 := HC.out.2.1; have h6 := hnX.out; show _ ≤ _; omega
   clear hne hmz hc5 hg1 hg2 hg3 hwr hto hl9;go_wp2;go_loopw [5,6] (fun rv iv wq => ∃ (wy : World) (k r : Nat) (ri : Int) (t : List Nat),wy = wq ∧ k ≤ n ∧ iv = .int .i64 ((k : Int) - 1) ∧ rv = .int .i64 ri ∧ 0 ≤ ri ∧ ri < 256 ∧ Hid ((r : Int) = ri) ∧ Hid (ToInv l k r t) ∧ Hid (Wr wy g (l.take k ++ t)) ∧ Hid (Only g wz wy))
    (fun _ iv _ => (intOf iv + 1).toNat)
   case atStart => exact ⟨wz,n,0,0,[],rfl,Nat.le_refl _,rfl,rfl,by omega,by omega,rfl,by have h5 : n = l.length := Hn.out; rw [h5]; exact ToInv.start l,by have h5 : n = l.length := Hn.out; rw [h5,List.take_length,List.append_nil]; exact HG3.out,Only.refl _ _⟩
   case round =>
    obtain ⟨wy,k,r,ri,t,rfl,hk,rfl,rfl,hr0,hr1,hri,hinv,hwr,ho⟩ := hrel;rcases Nat.eq_zero_or_pos k with h0 | h0
    ·subst h0
     obtain ⟨f1,f2,f3⟩ := hinv.out.finish;obtain ⟨f5,f6,f7,_⟩ := hinv.out;have hrb : r = m / 256 ^ c % 256 := by rw [f1,VL.out]
     have HL2 : Hid (bvl (lowd m c) ++ [Value.int .u8 ri] = bvl (lowd m (c + 1))) := by
      show _ = _;rw [lowd,k'8k,← hrb,hri.out]
     have HTR : Hid (Nm.trimL t = Nm.dg D9 (m / 256 ^ (c + 1))) := by
      show _ = _;rw [f2,VL.out,k'8i]
     have ew : IntKind.u8.wrap ri = ri := by
      have h5 := k'40 r;rw [hri.out] at h5;rw [h5,Nat.mod_eq_of_lt f7]; exact hri.out
     have HF3 : Hid (t.length = n) := by have h5 : n = l.length := Hn.out; rw [h5]; exact f3
     have HTL : Hid ((Nm.trimL t).length ≤ n) := by rw [← HF3.out]; exact Nm.trimL_le t
     have HWR : Hid (Wr wy g t) := by have h5 := hwr.out; rwa [List.take_zero,List.nil_append] at h5
     have HOW : Hid (wy.ownsRow w1.heap.size 5 1 (.slice pb c cb) c (bvl (lowd m c))) := k'8f hown.out ho.out HG12.out.2;have HBW : Hid (Below w0.heap.size w0 wy) := ho.out.below hbl.out HG12.out.1;have HSZ : Hid (w1.heap.size ≤ wy.heap.size) := by rw [ho.out.size]; exact hsz1.out
     have HC4 : Hid (c ≤ 4000000) := by have h5 := HC5.out; show _ ≤ _; omega
     clear f1 f2 f3 f5 f6 f7 hrb hinv hwr ho hown hbl hsz1 hri hk;go_wp2_with (at_builtin; refine wpList_append_own _ rfl _ _ 112 rfl w1.heap.size 5 i0 (.int .u8 0) 1 1 Tryz.underlying112 HI.out.1 HI.out.2.1 HI.out.2.2.1 HI.out.2.2.2 rfl (by decide) _ _ _ rfl (HOW.out.alloc _) ⟨wy.heap.size,0,none⟩ 1 1 [.int .u8 ri] rfl rfl ?ec1 ?ec2 ?ec3 ?ec4 ?ec5 ?_)
     case ec1 => exact k'6u (by simp [go_sem])
     case ec2 => intro u hu; simp at hu; subst hu; rfl
     case ec3 => have h5 := HC4.out; unfold maxLen; omega
     case ec4 => have h5 := HC4.out; omega
     case ec5 => have h5 := HSZ.out; simp; omega
     intro v' w2 hown1 hgrow1 _;rw [HL2.out] at hown1;have hgb : ∀ q,some q = Value.ownBlock (.slice pb c cb) → w1.heap.size ≤ q := fun q hq => (HOW.out.lt q hq.symm).1;have hbl1 : Hid (Below w1.heap.size wy w2) := ((Below.refl w1.heap.size wy).alloc HSZ.out _).grown hgrow1 (by have h5 := HSZ.out; simp; omega) (fun q hq => (HOW.out.lt q hq).1)
     have hown2 : Hid (w2.ownsRow w1.heap.size 5 1 v' (c + 1) (bvl (lowd m (c + 1)))) := hown1;have HWR2 : Hid (Wr w2 g t) := HWR.out.keep (hbl1.out.block g HG12.out.2);have HB2 : Hid (Below w0.heap.size w0 w2) := HBW.out.trans (hbl1.out.mono HB1.out.size);have HSZ2 : Hid (w1.heap.size ≤ w2.heap.size) := Nat.le_trans HSZ.out hbl1.out.size;have HTx := k'8g g cap t w2 HWR2.out (by rw [HF3.out]; exact hcc.out) HC.out.2.2
     rw [HF3.out] at HTx;have HTX := i' HTx;clear hown1 hgrow1 HWR HOW HBW HSZ hgb hbl1 HTx;go_wp2_with (go_at_call 95; (with_reducible refine HTX.out.mono ?_); rintro e w9 ⟨rfl,rfl⟩);go_roundw
     case rel => exact ⟨_,c + 1,(Nm.trimL t).length,Nm.trimL t,rfl,rfl,by have h5 := HTL.out; omega,rfl,HTR.out,by have h5 := HTL.out; have h6 := hnX.out; show _ ≤ _; omega,by have h5 := HC5.out; show _ ≤ _; omega,Or.inr ⟨g,rfl,HG12.out.1,HG12.out.2,HWR2.out.trim⟩,hown2,HT,HB2,HSZ2⟩
     case measure => have h5 := k'8q hown2.out; have h6 := HC5.out; have h7 : lenOf (.slice pb c cb) = c := rfl; simp [h5,h7]; omega
    ·obtain ⟨j,rfl⟩ : ∃ j,k = j + 1 := ⟨k - 1,by omega⟩
     have hjl : j < l.length := by have h5 : n = l.length := Hn.out; omega
     have hxd : l[j] < D9 := Nm.dig_get DL.out j hjl;have hst := hinv.out.step hjl hxd;have hlt2 : j < (l.take (j + 1) ++ t).length := by simp; omega
     obtain ⟨e1,e2⟩ := hwr.out j hlt2;have hge : (l.take (j + 1) ++ t)[j] = l[j] := by rw [List.getElem_append_left (by simp; omega),List.getElem_take]
     rw [hge] at e1;obtain ⟨q,hq⟩ : ∃ q,(r * 1000000000 + l[j]) / 256 = q := ⟨_,rfl⟩;obtain ⟨r2,hr2⟩ : ∃ r2,(r * 1000000000 + l[j]) % 256 = r2 := ⟨_,rfl⟩;rw [hq,hr2] at hst;have hset := hwr.out.set j q;rw [List.set_append_left _ _ (by simp; omega),List.take_succ_eq_append_getElem hjl,List.set_append_right _ _ (by simp; omega)] at hset
     have e5 : j - (l.take j).length = 0 := by simp; omega
     rw [e5,List.set_cons_zero,List.append_assoc] at hset;have HW2 : Hid (Wr (wy.setCell ⟨g,j,none⟩ (.int .i64 (q : Int))) g (l.take j ++ q :: t)) := hset;obtain ⟨x,hx⟩ : ∃ x : Int,(l[j] : Int) = x := ⟨_,rfl⟩;obtain ⟨qi,hqi⟩ : ∃ qi : Int,(q : Int) = qi := ⟨_,rfl⟩;obtain ⟨r2i,hr2i⟩ : ∃ r2i : Int,(r2 : Int) = r2i := ⟨_,rfl⟩;have hx0 : 0 ≤ x := by omega
     have hx1 : x < 1000000000 := by unfold D9 at hxd; omega
     have hdiv : (ri * 1000000000 + x) / 256 = qi := by rw [← hri.out,← hx,← hqi,← hq]; omega
     have hmod : (ri * 1000000000 + x) % 256 = r2i := by rw [← hri.out,← hx,← hr2i,← hr2]; omega
     have hr20 : 0 ≤ r2i := by omega
     have hr21 : r2i < 256 := by omega
     rw [hx] at e1;rw [hqi] at HW2;have HO2 : Hid (Only g wz (wy.setCell ⟨g,j,none⟩ (.int .i64 qi))) := ho.out.setCell j _;have HST := i' hst;have HR2 : Hid ((r2 : Int) = r2i) := hr2i;have e6 : ((j + 1 : Nat) : Int) - 1 = (j : Int) := by omega
     rw [e6];have hjn : j < n := by omega
     clear hjl hxd hst hlt2 hge hset hq hr2 hx hqi hr2i hinv hwr ho hri e5;go_wp2;go_roundw
     case rel => exact ⟨_,j,r2,r2i,q :: t,rfl,by omega,by go_num,by first | rfl | rw [hmod],hr20,hr21,HR2,HST.out,HW2.out,HO2.out⟩
     case measure => simp [intOf]
def dv : List UInt8 → Nat → Nat
 | [],a => a
 | x :: l,a => dv l (10 * a + (x.toNat - 48))
theorem k'8y {w : World} {B n g cap k : Nat} {l : List Nat} (h : w.ownsRow B 129 1 (.slice (some ⟨g,0,none⟩) n cap) n (uv l)) (hk : k < l.length) :
 w.cell? ⟨g,k,none⟩ = some (.int .u64 (l[k] : Int)) ∧ w.frozen? ⟨g,k,none⟩ = false := by
 have h1 := h.cells (g := g) rfl k (.int .u64 (l[k] : Int)) (k'c l k hk);have hadd : ((⟨g,0,none⟩ : Addr).add k) = ⟨g,k,none⟩ := by unfold Addr.add; split <;> simp_all
 rw [hadd] at h1;refine ⟨h1,?_⟩;rcases h.2 with ⟨h2,_⟩ | ⟨g2,cap2,cur,h2,hB,hg,_⟩
 ·simp at h2
 ·have : g2 = g := by injection h2 with h3; injection h3 with h4; injection h4 with h5; exact h5.symm
  subst this;exact frozen_of_row w g2 k _ _ hg
theorem Rd.of_own {w : World} {B : Nat} {v : Value} {l : List Nat} (h : w.ownsRow B 129 1 v l.length (uv l)) : Rd w v l := by
 rcases h.2 with ⟨rfl,h0⟩ | ⟨g,cap,cur,rfl,hB,hg,hn,hm,hs,ht⟩
 ·rw [List.eq_nil_of_length_eq_zero h0]; exact Rd.nil w
 ·refine ⟨some ⟨g,0,none⟩,g,0,cap,rfl,hn,hm,fun _ => rfl,Or.inr ⟨rfl,lt_of_block hg⟩,fun k hk => ?_⟩
  rw [Nat.zero_add];exact (k'8y h hk).1
def FdInv (X : List Nat) (y c0 k cn : Nat) (s : List Nat) : Prop :=
 s.length = k ∧ Nm.Dig W s ∧ cn < W ∧ Nm.val W s + W ^ k * cn = y * Nm.val W (X.take k) + c0
theorem FdInv.start {X : List Nat} {y c0 : Nat} (h : c0 < W) : FdInv X y c0 0 c0 [] := ⟨rfl,Nm.dig_nil W,h,by simp [Nm.val]⟩
theorem FdInv.step {X s : List Nat} {y c0 k cn : Nat} (h : FdInv X y c0 k cn s) (hk : k < X.length) (dx : X[k] < W) (dy : y < W) : FdInv X y c0 (k + 1) (mh X[k] y cn) (s ++ [ml X[k] y cn]) := by
 obtain ⟨h1,h2,h3,h4⟩ := h;refine ⟨by simp [h1],Nm.dig_append.2 ⟨h2,Nm.dig_cons.2 ⟨k'11 _ _ _,Nm.dig_nil W⟩⟩,k'12 _ _ _ dx dy h3,?_⟩
 rw [Nm.val_snoc,h1,Nm.val_take_succ W X k hk,Nat.pow_succ];have e1 := mlh X[k] y cn;generalize mh X[k] y cn = p at *;generalize ml X[k] y cn = q at *;generalize W ^ k = P at *;have e4 : P * (q + W * p) = P * (X[k] * y + cn) := by rw [e1]
 grind
theorem FdInv.finish {V y c0 cn : Nat} {s : List Nat} (h : FdInv (Nm.dg W V) y c0 (Nm.dg W V).length cn s) (hy : 0 < y) :
 (cn = 0 → s = Nm.dg W (y * V + c0)) ∧ (0 < cn → s ++ [cn] = Nm.dg W (y * V + c0)) := by
 obtain ⟨h1,h2,h3,h4⟩ := h;rw [List.take_length,Nm.val_dg W2] at h4;constructor
 ·intro h0
  subst h0;rw [Nat.mul_zero,Nat.add_zero] at h4;rw [← h4];refine Nm.eq_dg W2 h2 ?_
  cases hs : s with
  | nil => trivial
  | cons z zs =>
   rw [← hs];refine Nm.nrm_of_val h2 ?_;rw [h4,h1];have hne : Nm.dg W V ≠ [] := by intro e; rw [e,hs] at h1; simp at h1
   have h6 := Nm.val_pos (B := W) (Nm.nrm_dg W2 V) hne;rw [Nm.val_dg W2] at h6;have h7 : 1 * V ≤ y * V := Nat.mul_le_mul_right _ hy;omega
 ·intro h0
  have e : Nm.val W (s ++ [cn]) = y * V + c0 := by rw [Nm.val_snoc,h1,h4]
  rw [← e];exact Nm.eq_dg W2 (Nm.dig_append.2 ⟨h2,Nm.dig_cons.2 ⟨h3,Nm.dig_nil W⟩⟩) (Nm.nrm_snoc _ _ (by omega))
theorem AllD.drop {d : ByteArray} (h : AllD d) (k : Nat) (hk : k ≤ d.size) : AllD (d.extract k d.size) := by
 intro j hj;have h1 : k + j < d.size := by simp at hj; omega
 have e : (d.extract k d.size)[j] = d[k + j] := by
  simp only [ByteArray.getElem_eq_getElem_data,ByteArray.data_extract,Array.getElem_extract]
 rw [e];exact h _ h1
theorem AllD.list {d : ByteArray} (h : AllD d) : ∀ x ∈ d.data.toList,x.toNat ≤ 57 := by
 intro x hx;obtain ⟨k,hk,rfl⟩ := List.mem_iff_getElem.1 hx;exact (h k hk).2
theorem k'9b (m : Nat) (w : World) (h0 : 0 < m) (hm : m ≤ 9223372036854775808) :
 Calls Tryz.prog 74 #[.int .i64 (-(m : Int))] w (IntPost (-(m : Int)) w) := by
 obtain ⟨x0,h0'⟩ : ∃ x0,m % 1000000000 = x0 := ⟨_,rfl⟩;obtain ⟨x1,h1⟩ : ∃ x1,m / 1000000000 % 1000000000 = x1 := ⟨_,rfl⟩;obtain ⟨x2,h2⟩ : ∃ x2,m / 1000000000 / 1000000000 = x2 := ⟨_,rfl⟩;have HD : Hid (Nm.trimL [x0,x1,x2] = Nm.dg D9 m) := by
  show _ = _;subst h0' h1 h2;have h1 : Nm.Dig D9 [m % 1000000000,m / 1000000000 % 1000000000,m / 1000000000 / 1000000000] :=
   Nm.dig_cons.2 ⟨Nat.mod_lt _ (by decide),Nm.dig_cons.2 ⟨Nat.mod_lt _ (by decide),Nm.dig_cons.2 ⟨by unfold D9; omega,Nm.dig_nil _⟩⟩⟩
  rw [Nm.trimL_dg D92 h1]
  congr 1
  simp only [Nm.val_cons,Nm.val_nil];unfold D9;omega
 have f0 : x0 < 1000000000 := by rw [← h0']; exact Nat.mod_lt _ (by decide)
 have f1 : x1 < 1000000000 := by rw [← h1]; exact Nat.mod_lt _ (by decide)
 have f2 : x2 < 1000000000 := by omega
 obtain ⟨q,hq⟩ : ∃ q,m / 1000000000 = q := ⟨_,rfl⟩;rw [hq] at h1 h2;have hml : (Nm.dg D9 m).length ≤ 1000000 := by
  have h6 : (9223372036854775808 : Nat) < D9 ^ 3 := by decide
  have h5 := Nm.len_le_of_val D92 (Nm.nrm_dg D92 m) (k := 3) (by rw [Nm.val_dg D92]; omega)
  omega
 have hM0 := fun v w (h : Ri w v (Nm.dg D9 m)) => (k'7k true v m w h).mono (k'83 (z := -(m : Int)) (by simp))
 have HM := i' hM0;have HT := i' (fun v xs w h => k'6s v xs w h);have HSb0 := fun v1 v2 w' (h1 : Rz w' v1 (-(m : Int))) (h2 : Rz w' v2 0) => k'88 (-(m : Int)) 0 v1 v2 w' h1 h2 (by rw [Int.natAbs_neg]; exact hml) (by simp [Nm.dg_zero])
 have HSb := i' HSb0;have HZ0 : Hid (-(m : Int) - 0 = -(m : Int)) := Int.sub_zero _;obtain ⟨nn,hnn⟩ : ∃ nn : Int,-(m : Int) = nn := ⟨_,rfl⟩;have e0 : Int.tmod nn 1000000000 = -(x0 : Int) := by rw [← hnn,Int.neg_tmod,Int.tmod_eq_emod_of_nonneg (by omega)]; omega
 have e1 : Int.tdiv nn 1000000000 = -(q : Int) := by rw [← hnn,Int.neg_tdiv,Int.tdiv_eq_ediv_of_nonneg (by omega)]; omega
 have e2 : Int.tmod (-(q : Int)) 1000000000 = -(x1 : Int) := by rw [Int.neg_tmod,Int.tmod_eq_emod_of_nonneg (by omega)]; omega
 have e3 : Int.tdiv (-(q : Int)) 1000000000 = -(x2 : Int) := by rw [Int.neg_tdiv,Int.tdiv_eq_ediv_of_nonneg (by omega)]; omega
 obtain ⟨w0,hw0⟩ : ∃ w0 : World,w0 = w.alloc (.cells #[.bool false,.slice none 0 0] 52) := ⟨_,rfl⟩;have hb0 : Hid (Below w.heap.size w w0) := by rw [hw0]; exact k'7h _ _
 have k4 : w0.cell? ⟨w.heap.size,0,none⟩ = some (.bool false) := by rw [hw0]; simp [go_sem]
 have k5 : w0.cell? ⟨w.heap.size,1,none⟩ = some (.slice none 0 0) := by rw [hw0]; simp [go_sem]
 have k6 : w0.frozen? ⟨w.heap.size,0,none⟩ = false := by rw [hw0]; simp [go_sem]
 have k7 : w0.frozen? ⟨w.heap.size,1,none⟩ = false := by rw [hw0]; simp [go_sem]
 have h3 := Ri.three w0 x0 x1 x2;have b3 := k'7h w0 (.cells #[.int .i64 (x0 : Int),.int .i64 (x1 : Int),.int .i64 (x2 : Int)] 3);have hsz : w0.heap.size = w.heap.size + 1 := by rw [hw0]; simp
 rw [hsz] at h3;have G3 := i' (And.intro h3 b3);have Hw0 := i' hw0;have KK := i' (And.intro k4 (And.intro k5 (And.intro k6 k7)));have hn0 : nn < 0 := by omega
 have hn1 : -9223372036854775808 ≤ nn := by omega
 have hq1 : (q : Int) ≤ 9223372037 := by omega
 rw [hnn] at HM HSb HZ0 ⊢;clear h0' h1 h2 h3 b3 hsz hw0 k4 k5 k6 k7 hm hnn hM0 HSb0 hml h0 hq;go_enter Tryz.func74,Tryz.ntmps74;go_wp2_with fail;rw [← Hw0.out];refine (HT.out _ _ _ G3.out.1).mono ?_;rintro e w5 ⟨v5,rfl,h5,rfl⟩;rw [HD.out] at h5;have H5 := i' h5;clear h5;go_wp2_with fail;refine (HM.out _ _ H5.out).mono ?_;rintro e w6 ⟨v6,he,h6,b6⟩;unfold iV at he;obtain ⟨zb,hzb⟩ : ∃ zb,decide (nn < 0) = zb := ⟨_,rfl⟩;rw [hzb] at he;have HZB := i' hzb;clear hzb;subst he;have HS6 := HSb.out v6 (.slice none 0 0) w6 h6 (Ri.nil _);unfold iV at HS6;rw [HZB.out] at HS6;have HS7 := i' HS6;have C6 := i' (k'7g G3.out.2 b6);have H6 := i' h6;clear h6 b6 HS6;go_wp2_with fail;refine HS7.out.mono ?_;rintro e w7 ⟨v7,he,h7,b7⟩;rw [HZ0.out] at he h7;unfold iV at he;rw [HZB.out] at he;subst he;have c7 := k'7g C6.out b7;have q4 := k'4i c7 KK.out.1;have q5 := k'4i c7 KK.out.2.1;have q6 := k'4j c7 KK.out.1 KK.out.2.2.1;have q7 := k'4j c7 KK.out.2.1 KK.out.2.2.2;have H7 := i' h7;have HZ := i' (k'7g hb0.out c7);obtain ⟨pm,bm,om,cm,rfl,hrm⟩ := h7;clear hrm b7 c7;go_wp2;exact bodyPost_ret (v := .agg #[.bool zb,.slice pm (Nm.dg D9 nn.natAbs).length cm]) (by simp [results,Tryz.results74,go_sem,q4,q5]) rfl ⟨_,by rw [iV,HZB.out],H7.out.set2 q4 q5 (fun _ => by simp),(HZ.out.setCell (p := ⟨w.heap.size,0,none⟩) (Nat.le_refl _) _).setCell (p := ⟨w.heap.size,1,none⟩) (Nat.le_refl _) _⟩
theorem k'9c (n : Int) (w : World) (h1 : -9223372036854775808 ≤ n) (h2 : n ≤ 9223372036854775807) :
 Calls Tryz.prog 74 #[.int .i64 n] w (IntPost n w) := by
 by_cases h : n < 0
 ·obtain ⟨m,rfl⟩ : ∃ m : Nat,n = -(m : Int) := ⟨n.natAbs,by omega⟩
  exact k'9b m w (by omega) (by omega)
 ·obtain ⟨m,rfl⟩ : ∃ m : Nat,n = (m : Int) := ⟨n.natAbs,by omega⟩
  exact k'8b m w (by omega)
def ZPost (z : Int) (w : World) (e : Ending) (w' : World) : Prop := e = .returned (.agg #[.bool (zb z),.string (zs z)]) ∧ Below w.heap.size w w'
theorem k'9e (z : Int) : wz z = .agg #[.bool (zb z),.string (zs z)] := by
 rw [wz,wd,zb,zs];by_cases hz : z < 0
 ·have h1 : z.natAbs ≠ 0 := by omega
  simp [hz,h1]
 ·simp [hz]
def QZPost (x y : Int) (w : World) (e : Ending) (w' : World) : Prop := e = .returned (.agg #[.bool (zb x),.string (zs x),.bool (zb y),.string (zs y)]) ∧ Below w.heap.size w w'
abbrev Z (z : Int) : Value := .agg #[.bool (zb z),.string (zs z)]
abbrev Q (x y : Int) : Value := .agg #[.bool (zb x),.string (zs x),.bool (zb y),.string (zs y)]
def Ret (v : Value) (w : World) (e : Ending) (w' : World) : Prop := e = .returned v ∧ Below w.heap.size w w'
def WL (w : World) (g : Nat) (L : List (Bool × ByteArray)) : Prop := ∀ k (h : k < L.length),w.cell? ⟨g,2 * k,none⟩ = some (.bool L[k].1) ∧ w.cell? ⟨g,2 * k + 1,none⟩ = some (.string L[k].2)
theorem WL.below {w w' : World} {g : Nat} {L : List (Bool × ByteArray)} (h : WL w g L) (b : Below w.heap.size w w') : WL w' g L := fun k hk => ⟨k'4i b (h k hk).1,k'4i b (h k hk).2⟩
theorem WL.one (w : World) (a : Bool) (s : ByteArray) (t : TypeId) : WL (w.alloc (.cells #[.bool a,.string s] t)) w.heap.size [(a,s)] := by
 intro k hk
 match k,hk with
 | 0,_ => exact ⟨by simp [go_sem],by simp [go_sem]⟩
theorem WL.two (w : World) (a b : Bool) (s t : ByteArray) (ty : TypeId) : WL (w.alloc (.cells #[.bool a,.string s,.bool b,.string t] ty)) w.heap.size [(a,s),(b,t)] := by
 intro k hk
 match k,hk with
 | 0,_ => exact ⟨by simp [go_sem],by simp [go_sem]⟩
 | 1,_ => exact ⟨by simp [go_sem],by simp [go_sem]⟩
theorem Ri.drew {w : World} {v : Value} {xs : List Nat} (h : Ri w v xs) : Ri w.drew v xs := h
theorem Ri.allocd {w : World} {v : Value} {xs : List Nat} (h : Ri w v xs) (o : Obj) : Ri (w.alloc o) v xs := h.below (k'5u w o) (Nat.le_refl _)
theorem k'a4 {x : Nat} (h : x < 256) : Nm.trimL [x] = Nm.dg D9 x := by
 have h1 : Nm.Dig D9 [x] := Nm.dig_cons.2 ⟨by unfold D9; omega,Nm.dig_nil _⟩
 rw [Nm.trimL_dg D92 h1];simp [Nm.val]
theorem k'a5 {m k : Nat} (h : m < 256 ^ k) : (Nm.dg D9 m).length ≤ k := by
 refine Nm.len_le_of_val D92 (Nm.nrm_dg D92 m) ?_;rw [Nm.val_dg D92];exact Nat.lt_of_lt_of_le h (Nat.pow_le_pow_left (by decide) k)
theorem k'a6 {x : Nat} (h : x < 256) : IntKind.i64.wrap (x : Int) = (x : Int) := by
 unfold IntKind.wrap;simp [IntKind.bits,IntKind.signed];omega
theorem k'a7 {s : ByteArray} {k : Nat} (hk : k < s.size) : hval (s.data.toList.take (k + 1)) 0 = hval (s.data.toList.take k) 0 * 256 + s[k].toNat := by
 have h2 : k < s.data.toList.length := hk;rw [List.take_succ_eq_append_getElem h2,k'33];rfl
theorem k'a8 {s : ByteArray} {k : Nat} (hk : k ≤ s.size) : hval (s.data.toList.take k) 0 < 256 ^ k := by
 have h := k'36 (s.data.toList.take k);have h2 : (s.data.toList.take k).length = k := by
  have : s.data.toList.length = s.size := rfl;simp; omega
 rwa [h2] at h
theorem k'a9 (s : ByteArray) : hval (s.data.toList.take s.size) 0 = bv s := by
 have h2 : s.data.toList.length = s.size := rfl;rw [List.take_of_length_le (by omega),k'32,Nat.zero_mul,Nat.zero_add]; rfl
theorem k'aa (a : Bool) (s : ByteArray) (w : World) (hs : s.size ≤ 100000) : Calls Tryz.prog 37 #[.agg #[.bool a,.string s]] w (IntPost (sg a (bv s)) w) := by
 have HM := i' (fun v m w h => (k'7k a v m w h).mono (k'83 (z := sg a m) rfl));have HT := i' (fun v xs w h => k'6s v xs w h);obtain ⟨w0,hw0⟩ : ∃ w0 : World,w0 = (w.alloc (.cells #[.bool a,.string s] 44)).alloc (.cells #[.bool false,.slice none 0 0] 52) := ⟨_,rfl⟩;have hb0 : Hid (Below w.heap.size w w0) := by rw [hw0]; exact ((Below.refl _ _).alloc (Nat.le_refl _) _).alloc (by simp) _
 have i1 : ZC (.bool a) (.string s) w0 w.heap.size := by rw [hw0]; exact (ZC.new rfl).alloc _
 have i2 : ZC (.bool false) (.slice none 0 0) w0 (w.heap.size + 1) := by rw [hw0]; exact ZC.new (by simp)
 have I1 := i' i1;have I2 := i' i2;have Hw0 := i' hw0;clear i1 i2 hw0;go_enter Tryz.func37,Tryz.ntmps37;go_wp2_with fail;rw [← Hw0.out];clear Hw0;go_loopw [3,4] (fun dv iv wr => ∃ (wz : World) (k : Nat),wz = wr ∧ k ≤ s.size ∧ iv = .int .i64 (k : Int) ∧ Hid (Ri wz dv (Nm.dg D9 (hval (s.data.toList.take k) 0))) ∧ Hid (Below w0.heap.size w0 wz))
  (fun _ iv _ => s.size - (intOf iv).toNat)
 case atStart => exact ⟨w0,0,rfl,Nat.zero_le _,rfl,by rw [List.take_zero]; exact Ri.nil w0,Below.refl _ _⟩
 case round =>
  obtain ⟨wz,k,rfl,hk,rfl,hri,hbl⟩ := hrel;by_cases hlt : k < s.size
  ·have hmx := k'a8 (s := s) (k := k) hk
   have HS := i' (k'a7 hlt);have hlm := Nat.le_trans (k'a5 hmx) (by omega : k ≤ 1000000)
   obtain ⟨m,hm⟩ : ∃ m,hval (s.data.toList.take k) 0 = m := ⟨_,rfl⟩;rw [hm] at hri HS hlm hmx;obtain ⟨x,hx⟩ : ∃ x : Nat,s[k].toNat = x := ⟨_,rfl⟩;have hx2 : x < 256 := by rw [← hx]; exact UInt8.toNat_lt _
   rw [hx] at HS;have hlm2 : (Nm.dg D9 (m * 256)).length ≤ 1000000 := by
    refine Nat.le_trans (k'a5 (k := k + 1) ?_) (by omega)
    rw [Nat.pow_succ];exact Nat.mul_lt_mul_of_pos_right hmx (by decide)
   have HSM : Hid (∀ v w',Ri w' v (Nm.dg D9 m) → Calls Tryz.prog 94 #[v,.int .i64 256] w' (GivesI (m * 256) w')) := fun v w' h => k'7i v m 256 w' (by decide) h hlm
   have HP : Hid (∀ v1 v2 w',Ri w' v1 (Nm.dg D9 (m * 256)) → Ri w' v2 (Nm.dg D9 x) → Calls Tryz.prog 93 #[v1,v2] w' (GivesI (m * 256 + x) w')) := fun v1 v2 w' h1 h2 => k'6x v1 v2 (m * 256) x w' h1 h2 hlm2 (Nat.le_trans (k'a5 (k := 1) hx2) (by decide))
   have HX := i' (k'a4 hx2);have hRi := hri.out;have hwr := k'a6 hx2;obtain ⟨k0,k1,_⟩ := I1.out.next hbl.out;have k1b := k1;have hxi : (s[k].toNat : Int) = (x : Int) := by rw [hx]
   have hsz : Hid (w.heap.size < wz.heap.size) := World.block_lt_of_cell? wz _ k0;have hsz2 := hsz.out;have hsz3 : ¬ wz.heap.size = w.heap.size := by omega
   have hsz4 : ¬ w.heap.size = wz.heap.size := by omega
   clear hm hmx hlm hlm2 k0;go_wp2_with fail;go_region_held3 (fun W' => W'.cell? ⟨w.heap.size,1,none⟩ = some (.string s)) (go_keep)
    (first
     | (go_at_call 94; (with_reducible refine (HSM.out _ _ (by first | exact hRi | exact hRi.drew | exact hRi.allocd _ | exact (hRi.allocd _).drew | exact hRi.drew.allocd _)).mono ?_); rintro e w1 ⟨v1,rfl,r1,b1⟩; (try (have b1 := k'60 b1)); have d1 : Below wz.heap.size wz w1 := k'4h (by first | exact Below.refl _ _ | exact (Below.refl _ _).drew | exact k'5u _ _ | exact ((Below.refl _ _).drew).alloc (Nat.le_refl _) _) b1; have p1 := k'4i d1 k1b; (try (have X1 := i' ((Ri.one wz x).below b1 (Nat.le_refl _)))); have f1 : w.heap.size < w1.heap.size := Nat.lt_of_lt_of_le hsz.out d1.size; have f2 : ¬ w1.heap.size = w.heap.size := Nat.ne_of_gt f1; have f3 : ¬ w.heap.size = w1.heap.size := Nat.ne_of_lt f1; have G1 := i' r1)
     | (go_at_call 95; (with_reducible refine (HT.out _ [x] _ (by first | exact X1.out | exact Ri.one w1 x)).mono ?_); rintro e w2 ⟨v2,rfl,r2,rfl⟩; rw [HX.out] at r2; have G2 := i' r2)
     | (go_at_call 93; (with_reducible refine (HP.out _ _ _ (by first | exact G1.out | exact G1.out.allocd _) G2.out).mono ?_); rintro e w3 ⟨v3,rfl,r3,b3⟩; have d3 : Below wz.heap.size wz w3 := k'4h d1 (k'4h (by first | exact Below.refl _ _ | exact k'5u _ _) b3); have p1 := k'4i d3 k1b; have G3 := i' r3; have D3 := i' d3)
     | fail)
   all_goals
    have C3 := i' (k'4h hbl.out D3.out);rw [← HS.out] at G3;go_wp2;go_roundw
    case rel => exact ⟨_,k + 1,rfl,by omega,by go_num,G3,C3⟩
    case measure => simp [intOf]; omega
  ·obtain rfl : k = s.size := by omega
   have hRI := hri;rw [k'a9] at hRI;obtain ⟨k0,_⟩ := I1.out.next hbl.out;clear hri;go_wp2_with fail;refine (HM.out _ _ _ hRI.out).mono ?_;rintro e w4 ⟨v4,rfl,r4,b4⟩;have c := k'4h hbl.out b4;obtain ⟨m0,m1,m2,m3⟩ := I2.out.next c;have HR := i' r4;obtain ⟨p9,q9,o9,c9,rfl,hr9⟩ := r4;unfold iV;obtain ⟨zz,hzz⟩ : ∃ zz,decide (sg a (bv s) < 0) = zz := ⟨_,rfl⟩;rw [hzz];have HZZ := i' hzz;clear hzz;have HZ := i' (k'61 (k'4h hb0.out c) (g := w.heap.size + 1) (by omega) (.bool zz) (.slice p9 (Nm.dg D9 (sg a (bv s)).natAbs).length c9))
   have HR2 := i' (HR.out.set2 (u1 := .bool zz) (u2 := .slice p9 (Nm.dg D9 (sg a (bv s)).natAbs).length c9) m0 m1 (fun _ => by simp))
   clear b4 c hr9;go_wp2;exact bodyPost_ret (v := .agg #[.bool zz,.slice p9 (Nm.dg D9 (sg a (bv s)).natAbs).length c9]) (by simp [results,Tryz.results37,go_sem,m0,m1]) rfl ⟨_,by rw [iV,HZZ.out],HR2.out,HZ.out⟩
theorem k'ab (z : Int) : sg (zb z) z.natAbs = z := by
 unfold sg zb;by_cases h : z < 0
 ·rw [decide_eq_true h,if_pos rfl]; omega
 ·rw [decide_eq_false h,if_neg (by simp)]; omega
theorem k'ac {a : Bool} {s : ByteArray} (h : vld a s = true) : zb (sg a (bv s)) = a ∧ zs (sg a (bv s)) = s := by
 have hc := k'4l h;have e1 : (sg a (bv s)).natAbs = bv s := by unfold sg; split <;> omega
 refine ⟨?_,by rw [zs,e1,k'57 hc]⟩
 unfold sg zb
 cases a with
 | false => rw [if_neg (by simp)]; exact decide_eq_false (by omega)
 | true =>
  rw [if_pos rfl];have h0 : 0 < s.size := by
   rcases Nat.eq_zero_or_pos s.size with h0 | h0
   ·unfold vld at h; rw [dif_neg (by omega)] at h; simp at h
   ·exact h0
  have : bv s ≠ 0 := fun h1 => by have := (k'58 hc).1 h1; omega
  exact decide_eq_true (by omega)
theorem bitLen_half : ∀ x < 256,x ≠ 0 → Lib.bitLen x = Lib.bitLen (x / 2) + 1 := by decide +kernel
theorem bitLen_le (x : Nat) (h : x < 256) : Lib.bitLen x ≤ 8 := by
 revert x
 decide +kernel
theorem k'ak {a : Bool} {s : ByteArray} (h : vld a s = true) : sgV a s = (sg a (bv s)).sign := by
 have h1 := k'ac h;have h2 : (sg a (bv s)).natAbs < Top := by
  have e1 : (sg a (bv s)).natAbs = bv s := by unfold sg; split <;> omega
  rw [e1];exact k'4r h
 have h3 := k'6l h2;rwa [h1.1,h1.2] at h3
theorem k'an {a : Bool} {s : ByteArray} (h : vld a s = true) : lenV a s = lenB s := by unfold lenV; rw [h]; simp
theorem k'ay (a b : Bool) (s t : ByteArray) (w : World) (hv1 : vld a s = true) (hv2 : vld b t = true) :
 Calls Tryz.prog 121 #[.agg #[.bool a,.string s],.agg #[.bool b,.string t]] w (WPost (wres (pls a (bv s) (!b) (bv t)).1 (pls a (bv s) (!b) (bv t)).2) (werr (pls a (bv s) (!b) (bv t)).2) w) := by
 have z1 := k'4m hv1;have z2 := k'4m hv2;have HV1 := k'4k a s;have HV2 := k'4k b t;rw [hv1] at HV1;rw [hv2] at HV2;have HA := i' (fun w => HV1 w (by omega))
 have HB := i' (fun w => HV2 w (by omega))
 have HR1 := i' (fun w => k'3u a s w (by omega) (k'4l hv1))
 have HR2 := i' (fun w => k'3u b t w (by omega) (k'4l hv2))
 have t1 := k'4r hv1;have t2 := k'4r hv2;have HP := i' (fun v1 v2 w h1 h2 => k'4q a (!b) v1 v2 (bv s) (bv t) w h1 h2 (Nat.le_trans (k'4t t1) (by decide)) (Nat.le_trans (k'4t t2) (by decide)))
 have HW := i' (fun v w h => k'4g (pls a (bv s) (!b) (bv t)).1 v (pls a (bv s) (!b) (bv t)).2 w h (Nat.le_trans (k'4u (k'4v t1 t2)) (by decide)))
 obtain ⟨rb,rs,hr⟩ := k'4w (pls a (bv s) (!b) (bv t)).1 (pls a (bv s) (!b) (bv t)).2;rw [hr] at HW ⊢;clear hr HV1 HV2 hv1 hv2 t1 t2;generalize (pls a (bv s) (!b) (bv t)).1 = ra at *;generalize (pls a (bv s) (!b) (bv t)).2 = rm at *;generalize bv s = m at *;generalize bv t = n at *;generalize werr rm = rc at *;go_enter Tryz.func121,Tryz.ntmps121;go_wp2_with fail;obtain ⟨w0,hw0⟩ : ∃ w0 : World,w0 = ((w.alloc (.cells #[.bool a,.string s] 44)).alloc (.cells #[.bool b,.string t] 44)).alloc (.cells #[.bool false,.string ⟨#[]⟩] 44) := ⟨_,rfl⟩;have hb0 : Hid (Below w.heap.size w w0) := by rw [hw0]; exact (((Below.refl _ _).alloc (Nat.le_refl _) _).alloc (by simp) _).alloc (by simp; omega) _
 have k0 : w0.cell? ⟨w.heap.size,0,none⟩ = some (.bool a) := by rw [hw0]; simp [go_sem]
 have k1 : w0.cell? ⟨w.heap.size,1,none⟩ = some (.string s) := by rw [hw0]; simp [go_sem]
 have k2 : w0.cell? ⟨w.heap.size + 1,0,none⟩ = some (.bool b) := by rw [hw0]; simp [go_sem]
 have k3 : w0.cell? ⟨w.heap.size + 1,1,none⟩ = some (.string t) := by rw [hw0]; simp [go_sem]
 have k4 : w0.cell? ⟨w.heap.size + 1 + 1,0,none⟩ = some (.bool false) := by rw [hw0]; simp [go_sem]
 have k5 : w0.cell? ⟨w.heap.size + 1 + 1,1,none⟩ = some (.string ⟨#[]⟩) := by rw [hw0]; simp [go_sem]
 have k6 : w0.frozen? ⟨w.heap.size + 1 + 1,0,none⟩ = false := by rw [hw0]; simp [go_sem]
 have k7 : w0.frozen? ⟨w.heap.size + 1 + 1,1,none⟩ = false := by rw [hw0]; simp [go_sem]
 have hsz : w0.heap.size = w.heap.size + 3 := by rw [hw0]; simp
 rw [← hw0];have KK := i' (And.intro k0 (And.intro k1 (And.intro k2 (And.intro k3 (And.intro k4 (And.intro k5 (And.intro k6 k7)))))));have Hsz := i' hsz;clear k0 k1 k2 k3 k4 k5 k6 k7 hw0 hsz;refine (HA.out _).mono ?_;rintro e wa ⟨rfl,hba⟩;have q2 := k'4i hba KK.out.2.2.1;have q3 := k'4i hba KK.out.2.2.2.1;have HBa := i' hba;clear hba;go_wp2_with fail;refine (HB.out _).mono ?_;rintro e wb ⟨rfl,hbb⟩;have hbc := k'4h HBa.out hbb;have k0 := k'4i hbc KK.out.1;have k1 := k'4i hbc KK.out.2.1;have k2 := k'4i hbc KK.out.2.2.1;have k3 := k'4i hbc KK.out.2.2.2.1;have k4 := k'4i hbc KK.out.2.2.2.2.1;have k5 := k'4i hbc KK.out.2.2.2.2.2.1;have k6 := k'4j hbc KK.out.2.2.2.2.1 KK.out.2.2.2.2.2.2.1;have k7 := k'4j hbc KK.out.2.2.2.2.2.1 KK.out.2.2.2.2.2.2.2;have HBc := i' hbc;have n1 : ¬ (w.heap.size = w.heap.size + 1 + 1) := by omega
 have n2 : ¬ (w.heap.size + 1 + 1 = w.heap.size) := by omega
 clear q2 q3 hbb hbc;go_wp2_with fail;go_region_held3 (fun W' => W'.cell? ⟨w.heap.size,0,none⟩ = some (.bool a) ∧ W'.cell? ⟨w.heap.size,1,none⟩ = some (.string s) ∧ W'.cell? ⟨w.heap.size + 1,0,none⟩ = some (.bool b) ∧ W'.cell? ⟨w.heap.size + 1,1,none⟩ = some (.string t)) (go_keep)
  (first
   | (go_at_call 135; (with_reducible refine (HR1.out _).mono ?_); rintro e w1 ⟨v1,rfl,r1,b1⟩; have c1 := k'4h ((Below.refl _ _).drew) b1; have p0 := k'4i c1 k0; have p1 := k'4i c1 k1; have p2 := k'4i c1 k2; have p3 := k'4i c1 k3; have G1 := i' (And.intro r1 c1); clear r1 b1 c1)
   | (go_at_call 135; (with_reducible refine (HR2.out _).mono ?_); rintro e w2 ⟨v2,rfl,r2,b2⟩; have c2 := k'4h G1.out.2 b2; have p0 := k'4i c2 k0; have p1 := k'4i c2 k1; have p2 := k'4i c2 k2; have p3 := k'4i c2 k3; have G2 := i' (And.intro (G1.out.1.below b2 (Nat.le_refl _)) (And.intro r2 c2)); clear r2 b2 c2)
   | (go_at_call 141; (with_reducible refine (k'3m _ _ _ _ G2.out.2.1).mono ?_); rintro e w5 ⟨v5,rfl,r5,b5⟩; have c5 := k'4h G2.out.2.2 b5; have p0 := k'4i c5 k0; have p1 := k'4i c5 k1; have p2 := k'4i c5 k2; have p3 := k'4i c5 k3; have G5 := i' (And.intro (G2.out.1.below b5 (Nat.le_refl _)) (And.intro r5 c5)); clear r5 b5 c5)
   | (go_at_call 140; (with_reducible refine (HP.out _ _ _ G5.out.1 G5.out.2.1).mono ?_); rintro e w3 ⟨v3,rfl,r3,b3⟩; have c3 := k'4h G5.out.2.2 b3; have p0 := k'4i c3 k0; have p1 := k'4i c3 k1; have p2 := k'4i c3 k2; have p3 := k'4i c3 k3; have G3 := i' (And.intro r3 c3); clear r3 b3 c3)
   | (go_at_call 139; (with_reducible refine (HW.out _ _ G3.out.1).mono ?_); rintro e w4 ⟨rfl,b4⟩; have c4 := k'4h G3.out.2 b4; have p0 := k'4i c4 k0; have p1 := k'4i c4 k1; have p2 := k'4i c4 k2; have p3 := k'4i c4 k3; have p4 := k'4i c4 k4; have p5 := k'4i c4 k5; have p6 := k'4j c4 k4 k6; have p7 := k'4j c4 k5 k7; have G4 := i' c4; clear b4 c4))
 have HZ := i' (((k'4h (k'4h hb0.out HBc.out) G4.out).setCell (p := ⟨w.heap.size + 1 + 1,0,none⟩) (by simp; omega) (.bool rb)).setCell (p := ⟨w.heap.size + 1 + 1,1,none⟩) (by simp; omega) (.string rs))
 go_wp2;exact bodyPost_ret (v := .tuple #[.agg #[.bool rb,.string rs],.int .i64 rc]) (by simp [results,Tryz.results121,go_sem,p4,p5]) rfl ⟨rfl,HZ.out⟩
theorem k'b0 {n k : Nat} (hk : 8 * k ≤ 65536) (h : n < 256 ^ k) : n < Top := by
 rw [k'6f] at h;exact Nat.lt_of_lt_of_le h (Nat.pow_le_pow_right (by decide) (by rw [k'43]; exact hk))
theorem k'b2 (a : Bool) (m : Nat) : wd a m = .agg #[.bool (zb (sg a m)),.string (zs (sg a m))] := by
 have e1 : (sg a m).natAbs = m := by unfold sg; split <;> omega
 have e2 : zb (sg a m) = (a && decide (m ≠ 0)) := by
  unfold zb sg
  cases a with
  | false => rw [if_neg (by simp),Bool.false_and]; exact decide_eq_false (by omega)
  | true =>
   rw [if_pos rfl,Bool.true_and];by_cases h : m = 0
   ·subst h; rfl
   ·rw [decide_eq_true (by omega : -(m : Int) < 0),decide_eq_true h]
 rw [wd,zs,e1,e2]
theorem k'b3 (a b : Bool) (m n : Nat) : sg (pls a m b n).1 (pls a m b n).2 = sg a m + sg b n := by
 unfold pls
 split
 ·next h => subst h; cases a <;> simp [sg]; omega
 ·next h =>
  split
  ·cases a <;> cases b <;> simp_all [sg] <;> omega
  ·cases a <;> cases b <;> simp_all [sg] <;> omega
theorem k'b5 (a : Bool) (m : Nat) : sg (!a) m = -(sg a m) := by cases a <;> simp [sg]
theorem k'bb (a : Bool) (m : Nat) : (sg a m).natAbs = m := by unfold sg; split <;> omega
theorem WL.drew {w : World} {g : Nat} {L : List (Bool × ByteArray)} (h : WL w g L) : WL w.drew g L := h
def CutI (x1 x2 s1 s2 : Value) (X1 X2 : List Nat) (B : Nat) (wb wx : World) (g7 g8 : Nat) : Prop := (B ≤ g7 ∧ B ≤ g8) ∧ ZC x1 s1 wx g7 ∧ ZC x2 s2 wx g8 ∧ Ri wx s1 X1 ∧ Ri wx s2 X2 ∧ Below B wb wx
theorem Ri.setz {w : World} {v : Value} {xs : List Nat} {b0 : Bool} {p : Option Addr} {n c : Nat} {g : Nat} (h : Ri w v xs) (z : ZC (.bool b0) (.slice p n c) w g) (u u' : Value) : Ri ((w.setCell ⟨g,0,none⟩ u).setCell ⟨g,1,none⟩ u') v xs := h.set2 z.1 z.2.1 (fun _ => by simp)
section
variable {x1 x2 e1 e2 u1 u2 : Value} {X1 X2 : List Nat} {B : Nat} {wb w3 : World} {t : TypeId} {b0 b1 : Bool} {p p' : Option Addr} {n c n' c' g g' : Nat}
theorem CutI.s1 (r1 : Ri w3 e1 X1) (r2 : Ri w3 e2 X2) (b : Below B wb w3) (hB : B ≤ w3.heap.size) : CutI x1 x2 e1 e2 X1 X2 B wb ((w3.alloc (.cells #[x1,e1] t)).alloc (.cells #[x2,e2] t)) w3.heap.size (w3.heap.size + 1) :=
 ⟨⟨hB,by omega⟩,(ZC.new rfl).alloc _,ZC.new (by simp),(r1.allocd _).allocd _,(r2.allocd _).allocd _,(b.alloc hB _).alloc (by simp; omega) _⟩
theorem CutI.s2 (r1 : Ri w3 e1 X1) (r2 : Ri w3 e2 X2) (b : Below B wb w3) (hB : B ≤ w3.heap.size) : CutI x1 x2 e1 e2 X1 X2 B wb ((w3.alloc (.cells #[x2,e2] t)).alloc (.cells #[x1,e1] t)) (w3.heap.size + 1) w3.heap.size :=
 ⟨⟨by omega,hB⟩,ZC.new (by simp),(ZC.new rfl).alloc _,(r1.allocd _).allocd _,(r2.allocd _).allocd _,(b.alloc hB _).alloc (by simp; omega) _⟩
theorem CutI.s3 (z : ZC (.bool b0) (.slice p n c) w3 g) (hg : B ≤ g) (r1 : Ri w3 e1 X1) (r2 : Ri w3 e2 X2) (b : Below B wb w3) (hB : B ≤ w3.heap.size) :
 CutI x1 x2 e1 e2 X1 X2 B wb (((w3.setCell ⟨g,0,none⟩ x1).setCell ⟨g,1,none⟩ e1).alloc (.cells #[x2,e2] t)) g w3.heap.size :=
 ⟨⟨hg,hB⟩,z.set.alloc _,ZC.new (by simp),(r1.setz z _ _).allocd _,(r2.setz z _ _).allocd _,(k'61 b hg _ _).alloc (by simpa using hB) _⟩
theorem CutI.s4 (z : ZC (.bool b0) (.slice p n c) w3 g) (hg : B ≤ g) (r1 : Ri w3 e1 X1) (r2 : Ri w3 e2 X2) (b : Below B wb w3) (hB : B ≤ w3.heap.size) :
 CutI x1 x2 e1 e2 X1 X2 B wb (((w3.setCell ⟨g,0,none⟩ x2).setCell ⟨g,1,none⟩ e2).alloc (.cells #[x1,e1] t)) w3.heap.size g :=
 ⟨⟨hB,hg⟩,ZC.new (by simp),z.set.alloc _,(r1.setz z _ _).allocd _,(r2.setz z _ _).allocd _,(k'61 b hg _ _).alloc (by simpa using hB) _⟩
theorem CutI.s5 (z : ZC (.bool b0) (.slice p n c) w3 g) (hg : B ≤ g) (z' : ZC (.bool b1) (.slice p' n' c') w3 g') (hg' : B ≤ g') (hn : ¬ g = g') (r1 : Ri w3 e1 X1) (r2 : Ri w3 e2 X2) (b : Below B wb w3) :
 CutI x1 x2 e1 e2 X1 X2 B wb ((((w3.setCell ⟨g,0,none⟩ x1).setCell ⟨g,1,none⟩ e1).setCell ⟨g',0,none⟩ x2).setCell ⟨g',1,none⟩ e2) g g' :=
 have zz := z'.other (u := x1) (v := e1) (fun e => hn e.symm)
 ⟨⟨hg,hg'⟩,z.set.other hn,zz.set,(r1.setz z _ _).setz zz _ _,(r2.setz z _ _).setz zz _ _,k'61 (k'61 b hg _ _) hg' _ _⟩
end
theorem ZC.lt {x y : Value} {w : World} {g : Nat} (h : ZC x y w g) : g < w.heap.size := World.block_lt_of_cell? w _ h.1
def QIPost (q r : Int) (w : World) (e : Ending) (w' : World) : Prop := ∃ v1 v2,e = .returned (.tuple #[iV q v1,iV r v2]) ∧ Rz w' v1 q ∧ Rz w' v2 r ∧ Below w.heap.size w w'
def q0 (x y : Int) : Int := if (decide (x < 0) != decide (y < 0)) = true then -((x.natAbs / y.natAbs : Nat) : Int) else ((x.natAbs / y.natAbs : Nat) : Int)
theorem k'bj (x y : Int) : (q0 x y).natAbs = x.natAbs / y.natAbs := by
 unfold q0;generalize x.natAbs / y.natAbs = d
 split <;> omega
theorem k'bk (x y : Int) (hy : y ≠ 0) : x - q0 x y * y = if x < 0 then -((x.natAbs % y.natAbs : Nat) : Int) else ((x.natAbs % y.natAbs : Nat) : Int) := by
 have hd := Nat.div_add_mod x.natAbs y.natAbs;have h : ((y.natAbs : Nat) : Int) * ((x.natAbs / y.natAbs : Nat) : Int) + ((x.natAbs % y.natAbs : Nat) : Int) = ((x.natAbs : Nat) : Int) := by exact_mod_cast hd
 unfold q0;generalize ((x.natAbs / y.natAbs : Nat) : Int) = d at *;generalize ((x.natAbs % y.natAbs : Nat) : Int) = r at *;by_cases hx : x < 0
 ·have ex : ((x.natAbs : Nat) : Int) = -x := by omega
  rw [ex] at h;by_cases hy0 : y < 0
  ·have ey : ((y.natAbs : Nat) : Int) = -y := by omega
   rw [ey] at h;simp only [hx,hy0,decide_true,bne_self_eq_false,if_true];simp only [Bool.false_eq_true,if_false]
   grind
  ·have ey : ((y.natAbs : Nat) : Int) = y := by omega
   rw [ey] at h;simp only [hx,hy0,decide_true,decide_false,if_true];simp
   grind
 ·have ex : ((x.natAbs : Nat) : Int) = x := by omega
  rw [ex] at h;by_cases hy0 : y < 0
  ·have ey : ((y.natAbs : Nat) : Int) = -y := by omega
   rw [ey] at h;simp only [hx,hy0,decide_true,decide_false,if_false];simp
   grind
  ·have ey : ((y.natAbs : Nat) : Int) = y := by omega
   rw [ey] at h;simp only [hx,hy0,decide_false,if_false];simp
   grind
theorem k'bl {x y q r : Int} (h : x - q * y = r) (h0 : 0 ≤ r) (h1 : r < y.natAbs) (hy : y ≠ 0) : q = x / y ∧ r = x % y := by
 have e1 : x = r + q * y := by omega
 have e2 : x % y = r := by
  rw [e1,Int.add_mul_emod_self_right];rcases Int.lt_or_lt_of_ne hy with g | g
  ·rw [← Int.emod_neg]
   exact Int.emod_eq_of_lt h0 (by omega)
  ·exact Int.emod_eq_of_lt h0 (by omega)
 have e3 := Int.emod_add_mul_ediv x y;have e4 : y * (x / y) = y * q := by rw [Int.mul_comm y q]; omega
 exact ⟨(Int.eq_of_mul_eq_mul_left hy e4).symm,e2.symm⟩
theorem k'bm (x y : Int) (hy : y ≠ 0) : ((x.natAbs % y.natAbs : Nat) : Int) < ((y.natAbs : Nat) : Int) := by
 have := Nat.mod_lt x.natAbs (by omega : 0 < y.natAbs)
 omega
theorem k'bn {x y : Int} (hy : y ≠ 0) (h : 0 ≤ x - q0 x y * y) : q0 x y = x / y ∧ x - q0 x y * y = x % y := by
 refine k'bl rfl h ?_ hy;have h1 := k'bk x y hy;have h2 := k'bm x y hy;rw [h1]
 split <;> omega
theorem k'bo {x y : Int} (hy : 0 < y) (h : x - q0 x y * y < 0) : q0 x y - 1 = x / y ∧ x - (q0 x y - 1) * y = x % y := by
 have h1 := k'bk x y (by omega)
 have h2 := k'bm x y (by omega)
 have e : x - (q0 x y - 1) * y = x - q0 x y * y + y := by rw [Int.sub_mul,Int.one_mul]; omega
 refine k'bl rfl ?_ ?_ (by omega)
 ·rw [e]; split at h1 <;> omega
 ·rw [e]; omega
theorem k'bp {x y : Int} (hy : y < 0) (h : x - q0 x y * y < 0) : q0 x y + 1 = x / y ∧ x - (q0 x y + 1) * y = x % y := by
 have h1 := k'bk x y (by omega)
 have h2 := k'bm x y (by omega)
 have e : x - (q0 x y + 1) * y = x - q0 x y * y - y := by rw [Int.add_mul,Int.one_mul]; omega
 refine k'bl rfl ?_ ?_ (by omega)
 ·rw [e]; split at h1 <;> omega
 ·rw [e]; omega
theorem k'bq {m k : Nat} (h : m < D9 ^ k) : (Nm.dg D9 m).length ≤ k := by
 refine Nm.len_le_of_val D92 (Nm.nrm_dg D92 _) ?_;rw [Nm.val_dg D92];exact h
theorem k'br (x y : Int) : (q0 x y).natAbs ≤ x.natAbs := by rw [k'bj]; exact Nat.div_le_self _ _
theorem k'bs (x y : Int) : (q0 x y * y).natAbs ≤ x.natAbs := by rw [Int.natAbs_mul,k'bj]; exact Nat.div_mul_le_self _ _
theorem k'bt {m k : Nat} (h : m < 2 * D9 ^ k) : m < D9 ^ (k + 1) := by
 rw [Nat.pow_succ];have e : D9 = 1000000000 := rfl;generalize D9 ^ k = p at *;rw [e];omega
end Go.Proofs.YtepddegphdlbeaaGreat
