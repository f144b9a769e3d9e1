/- What the theorem leans on, part Y9. -/
import Derived.Test.YtepddegphdlbeaaGreatY8
import Derived.Test.YtepddegphdlbeaaGreatY1
import Derived.Test.YtepddegphdlbeaaGreatY0
import Derived.Test.YtepddegphdlbeaaGreatProg
import Derived.WalkKit
import Derived.WalkSpells
import Derived.WalkLawsBesides
import Derived.Lib.Hide
import Derived.Deep.QuietTactic
import Derived.BigQuiet
import Derived.Shelf.Small.Bits
import Derived.Shelf.Small.Wraps
import Derived.Shelf.Strconv.Itoa0
import Derived.Shelf.Bits.Mul64
import Derived.Ground.Names2Prog
import Derived.Shelf.Slices.SearchI
import Derived.Shelf.Spec.BitsCarry
import Derived.Deep.LoopGhost
import Derived.Deep.DeepCutAuto
import Derived.Test.YtepddegphdlbeaaGreatY3
import Derived.Test.YtepddegphdlbeaaGreatY2
import Derived.Deep.RegionHeld3
set_option maxRecDepth 100000
set_option maxHeartbeats 16000000
set_option linter.all false
namespace Go.Proofs.YtepddegphdlbeaaGreat
open Go.RowKit
def DStep (g : Nat) (l : List Nat) (off n U V : Nat) (w : World) (e : Ending) (w' : World) : Prop :=
 ∃ t,e = .returned (.int .u64 ((U / V : Nat) : Int)) ∧ t.length = n + 1 ∧ Nm.Dig W t ∧ Nm.val W t = U % V ∧ Arr w' g (l.take off ++ (t ++ l.drop (off + (n + 1)))) ∧ Only g w w'
theorem k'c8 {U V d r : Nat} (h : U = V * d + r) (h2 : U / V ≤ d) (hV : 0 < V) : d = U / V ∧ r = U % V := by
 have h3 : d ≤ U / V := (Nat.le_div_iff_mul_le hV).2 (by rw [Nat.mul_comm]; omega)
 have h4 : d = U / V := by omega
 refine ⟨h4,?_⟩;have h5 := Nat.div_add_mod U V;rw [← h4] at h5;omega
theorem k'c9 {P U V low hi sv d c : Nat} (hU : U = low + P * hi) (hs : sv + V * d = low + P * c) (hc : c ≤ hi) (hq : U / V ≤ d) (hV : 0 < V) : d = U / V ∧ sv + P * (hi - c) = U % V := by
 refine k'c8 ?_ hq hV;obtain ⟨x,rfl⟩ : ∃ x,hi = c + x := ⟨hi - c,by omega⟩
 rw [Nat.add_sub_cancel_left,hU,Nat.mul_add];omega
theorem k'ca {P U V low hi sv d c tv cy : Nat} (hU : U = low + P * hi) (hs : sv + V * d = low + P * c) (hc : hi < c) (hq : d ≤ U / V + 1) (hV : 0 < V) (hsv : sv < P) (htv : tv < P) (hVP : V < P) (ht : tv + P * cy = sv + V) : 1 ≤ d ∧ d - 1 = U / V ∧ tv = U % V := by
 have hdm := Nat.div_add_mod U V;have hm := Nat.mod_lt U hV;obtain ⟨x,rfl⟩ : ∃ x,c = hi + (x + 1) := ⟨c - hi - 1,by omega⟩
 have e1 : P * (hi + (x + 1)) = P * hi + P * x + P := by rw [Nat.mul_add,Nat.mul_add,Nat.mul_one]; omega
 have hgt : U < V * d := by omega
 have hd : U / V < d := by rw [Nat.div_lt_iff_lt_mul hV,Nat.mul_comm]; exact hgt
 generalize U / V = q at *;generalize U % V = r at *;obtain rfl : d = q + 1 := by omega
 refine ⟨by omega,by omega,?_⟩
 rw [Nat.mul_add,Nat.mul_one] at hs;have e2 : tv + P * cy = r + P * (x + 1) := by rw [Nat.mul_add P x 1,Nat.mul_one]; omega
 have e3 := congrArg (· % P) e2;simp only [Nat.add_mul_mod_self_left] at e3;rwa [Nat.mod_eq_of_lt htv,Nat.mod_eq_of_lt (by omega)] at e3
def BackInv (l Y : List Nat) (off k c : Nat) (t : List Nat) : Prop :=
 t.length = k ∧ Nm.Dig W t ∧ c ≤ 1 ∧ Nm.val W t + W ^ k * c = Nm.val W ((l.drop off).take k) + Nm.val W (Y.take k)
theorem BackInv.step {l Y t : List Nat} {off k c : Nat} (h : BackInv l Y off k c t) (hk : off + k < l.length) (hY : k < Y.length) (dy : Y[k] < W) (dl : l[off + k] < W) :
 BackInv l Y off (k + 1) (cy l[off + k] Y[k] c) (t ++ [sm l[off + k] Y[k] c]) := by
 obtain ⟨h1,h2,h3,h4⟩ := h;refine ⟨by simp [h1],Nm.dig_append.2 ⟨h2,Nm.dig_cons.2 ⟨k'l _ _ _,Nm.dig_nil W⟩⟩,k'm _ _ _ dl dy h3,?_⟩
 have hd : k < (l.drop off).length := by simp; omega
 rw [Nm.val_snoc,h1,Nm.val_take_succ W _ k hd,Nm.val_take_succ W Y k hY,List.getElem_drop,Nat.pow_succ];have e1 := k'k l[off + k] Y[k] c;generalize cy l[off + k] Y[k] c = r at *;generalize sm l[off + k] Y[k] c = s at *;generalize W ^ k = P at *;have e3 : P * (s + W * r) = P * (l[off + k] + Y[k] + c) := by rw [e1]
 grind
theorem k'cb (l s : List Nat) (off n : Nat) (h : off + n ≤ l.length) : (l.take off ++ (s ++ l.drop (off + n))).take off = l.take off := by
 rw [List.take_append_of_le_length (by simp; omega),List.take_take,Nat.min_self]
theorem k'cc (l s : List Nat) (off n j : Nat) (hs : s.length = n) (h : off + n ≤ l.length) (hj : n ≤ j) : (l.take off ++ (s ++ l.drop (off + n))).drop (off + j) = l.drop (off + j) := by
 rw [List.drop_append,List.drop_of_length_le (by simp; omega),List.nil_append,List.drop_append,List.drop_of_length_le (by simp; omega),List.nil_append,List.drop_drop]
 congr 1
 simp;omega
theorem k'cd (l s : List Nat) (off n : Nat) (hs : s.length = n) (h : off + n ≤ l.length) : ((l.take off ++ (s ++ l.drop (off + n))).drop off).take n = s := by
 rw [List.drop_append,List.drop_of_length_le (by simp; omega),List.nil_append]
 have e : off - (l.take off).length = 0 := by simp; omega
 rw [e,List.drop_zero,List.take_append_of_le_length (by omega),List.take_of_length_le (by omega)]
theorem k'ce (l Y : List Nat) (g off n n1 n2 nr cap b o cb : Nat) (w : World) (hn : Y.length = n) (hn1 : n1 + 1 = n) (hn2 : n2 + 2 = n) (hnr : n + 1 ≤ nr) (hnc : nr ≤ cap) (hcap : cap ≤ 2000000000) (hoff : off ≤ 2000000000)
 (hl : off + n + 1 ≤ l.length) (hb : b ≠ g) (harr : Arr w g l) (hx : ∀ k (h : k < Y.length),w.cell? ⟨b,o + k,none⟩ = some (.int .u64 (Y[k] : Int))) (dY : Nm.Dig W Y) (dl : Nm.Dig W l)
 (htop : W ≤ 2 * Y[n1]) (hU : Nm.val W ((l.drop off).take (n + 1)) < Nm.val W Y * W) :
 Calls Tryz.prog 162 #[.slice (some ⟨g,off,none⟩) nr cap,.slice (some ⟨b,o,none⟩) n cb] w (DStep g l off n (Nm.val W ((l.drop off).take (n + 1))) (Nm.val W Y) w) := by
 have z1 : off + n < l.length := by omega
 have z2 : off + n1 < l.length := by omega
 have z3 : n1 < Y.length := by omega
 have z4 : n2 < Y.length := by omega
 have c1 := harr.cell (off + n) z1;have c2 := harr.cell (off + n1) z2;have c3 := hx n1 z3;have c4 := hx n2 z4;have t1 : (n : Int) - 1 = (n1 : Int) := by omega
 have t2 : (n : Int) - 2 = (n2 : Int) := by omega
 have dz1 := Nm.dig_get dl _ z1;have dz2 := Nm.dig_get dl _ z2;have dy1 := Nm.dig_get dY _ z3;have dy2 := Nm.dig_get dY _ z4;have hf0 : 0 < Y[n1] := by unfold W at htop; omega
 have HG := i' (fun w => k'c5 l[off + n] l[off + n1] Y[n1] Y[n2] dz2 dy1 dy2 hf0 w);have hVe : Nm.val W Y = (Y[n1] * W + Y[n2]) * W ^ n2 + Nm.val W (Y.take n2) := by
  have h1 := Nm.val_take_succ W Y n1 z3;have h2 := Nm.val_take_succ W Y n2 z4;rw [show n1 + 1 = Y.length by omega,List.take_length] at h1
  obtain rfl : n1 = n2 + 1 := by omega
  rw [h2,Nat.pow_succ] at h1;rw [h1]
  grind
 have hdl1 : n2 < (l.drop off).length := by simp; omega
 have hdl2 : n1 < (l.drop off).length := by simp; omega
 have hdl3 : n < (l.drop off).length := by simp; omega
 have hlow : Nm.val W ((l.drop off).take (n + 1)) = Nm.val W ((l.drop off).take n) + W ^ n * l[off + n] := by
  rw [Nm.val_take_succ W _ n hdl3,List.getElem_drop]
 have hUe : Nm.val W ((l.drop off).take (n + 1)) = ((l[off + n] * W + l[off + n1]) * W + l[off + n2]) * W ^ n2 + Nm.val W ((l.drop off).take n2) := by
  have h1 := Nm.val_take_succ W (l.drop off) n1 hdl2;have h2 := Nm.val_take_succ W (l.drop off) n2 hdl1;rw [hlow];simp only [List.getElem_drop] at h1 h2;obtain rfl : n = n1 + 1 := by omega
  obtain rfl : n1 = n2 + 1 := by omega
  rw [h1,h2,Nat.pow_succ,Nat.pow_succ]
  grind
 have hP : Nm.val W (Y.take n2) < W ^ n2 := by
  have := Nm.val_lt (Nm.dig_take dY n2);rwa [List.length_take,Nat.min_eq_left (by omega)] at this
 have hP2 : Nm.val W ((l.drop off).take n2) < W ^ n2 := by
  have := Nm.val_lt (Nm.dig_take (Nm.dig_drop dl off) n2);rwa [List.length_take,Nat.min_eq_left (by omega)] at this
 have hVP : Nm.val W Y < W ^ n := by
  have := Nm.val_lt dY;rwa [hn] at this
 have hVpos : 0 < Nm.val W Y := by
  rw [hVe];have : 0 < (Y[n1] * W + Y[n2]) * W ^ n2 := Nat.mul_pos (Nat.add_pos_left (Nat.mul_pos hf0 W0) _) (Nat.pow_pos W0);omega
 have hg := k'c3 (g := gs l[off + n] l[off + n1] Y[n1] Y[n2]) hUe hVe hP2 hP (Nm.dig_get dl _ (by omega)) dz2 dy2 htop (by decide) hU rfl
 clear hUe hVe hP hP2 hdl1 hdl2 hdl3 dy1 dy2 htop hU hf0 dz2;generalize gs l[off + n] l[off + n1] Y[n1] Y[n2] = d at *;generalize Nm.val W ((l.drop off).take (n + 1)) = U at *;have HD := i' hg;have HS : Hid (∀ n' cap' w',n ≤ n' → n' ≤ cap' → cap' ≤ 2000000000 → Arr w' g l → (∀ k (h : k < Y.length),w'.cell? ⟨b,o + k,none⟩ = some (.int .u64 (Y[k] : Int))) →
  Calls Tryz.prog 173 #[.slice (some ⟨g,off,none⟩) n' cap',.slice (some ⟨b,o,none⟩) n cb,.int .u64 (d : Int)] w' (SubPPost g l Y off d w')) := by
  intro n' cap' w' h1 h2 h3 ha hh;have := k'c7 l Y g off n' cap' (some ⟨b,o,none⟩) b o cb d w' (by omega) h2 h3 hoff (by omega) (fun _ => rfl) hb ha hh dY dl hg.2.2
  rwa [hn] at this
 have HX := i' hx;have HA := i' harr;have HL := i' hlow;have HV := i' (And.intro hVP hVpos);clear hg hx harr hlow hVP hVpos;unfold RwPost at HG;go_enter Tryz.func162,Tryz.ntmps162;go_wp2_with fail;go_quiet ((go_at_call 172; with_reducible exact Calls.quiet_of (HG.out _)));go_wp2_with fail;refine (HS.out _ _ _ (by omega) (by omega) (by omega) (HA.out.drewN _) HX.out).mono ?_
 rintro e w' ⟨s,c,rfl,hp,ha,ho⟩;rw [hn] at hp ha;have hlen := Nm.seg_length l s off n hp.1 (by omega)
 have e3 := ha.cell (off + n) (by omega)
 rw [Nm.seg_get l s off n hp.1 z1] at e3;have e4 := ha.free (off + n);have hcW := hp.2.2.1;have hz2 : off + n ≤ l.length := Nat.le_of_lt z1;have Hs := i' hp;have hon : Only g w w' := ((Only.refl g w).drewN _).trans ho;clear ho c1 c2 c3 c4 HG HS t1 t2;generalize l[off + n] = hi at *;by_cases hc : c ≤ hi
 ·have q1 : (c : Int) ≤ (hi : Int) := by omega
  have q2 : IntKind.u64.wrap ((hi : Int) - (c : Int)) = ((hi - c : Nat) : Int) := by
   rw [← k'1x (hi - c) (by omega)]
   congr 1
   omega
  have HA2 := ha.set (off + n) (hi - c);rw [Nm.seg_set l s off n _ hp.1 z1] at HA2;have HA3 := i' HA2;have Ho := i' (hon.setCell (off + n) (.int .u64 ((hi - c : Nat) : Int)));have Hc := i' hc;clear hp ha hon HA2 hlen hc;go_wp2;go_ret;obtain ⟨p1,p2,p3,p4⟩ := Hs.out;rw [← hn,List.take_length,hn] at p4;obtain ⟨h1,h2⟩ := k'c9 HL.out p4 Hc.out HD.out.1 HV.out.2;refine ⟨s ++ [hi - c],by rw [← h1]; rfl,by simp [p1],Nm.dig_append.2 ⟨p2,Nm.dig_cons.2 ⟨by omega,Nm.dig_nil W⟩⟩,?_,HA3.out,Ho.out⟩
  rw [Nm.val_snoc,p1];exact h2
 ·have q1 : (hi : Int) < (c : Int) := by omega
  have hlt : hi < c := by omega
  have HC := i' hlt;obtain ⟨l1,hl1⟩ : ∃ l1,l1 = l.take off ++ (s ++ l.drop (off + n)) := ⟨_,rfl⟩;rw [← hl1] at ha hlen;have HE : Hid (l1.take off = l.take off ∧ l1.drop (off + (n + 1)) = l.drop (off + (n + 1)) ∧ (l1.drop off).take n = s ∧ Nm.Dig W l1) := by
   show _ ∧ _;rw [hl1];exact ⟨k'cb l s off n hz2,k'cc l s off n (n + 1) hp.1 hz2 (by omega),k'cd l s off n hp.1 hz2,Nm.dig_append.2 ⟨Nm.dig_take dl _,Nm.dig_append.2 ⟨hp.2.1,Nm.dig_drop dl _⟩⟩⟩
  have dl1 := HE.out.2.2.2;have hon2 := i' hon;have HB := i' (fun k (hk : k < Y.length) => (hon.cell (p := ⟨b,o + k,none⟩) hb).trans (HX.out k hk));clear hl1 hc hp e4 hon;rw [← hlen] at z1 hl hz2;go_wp2;clear e3 q1;have hn0 : n ≤ Y.length := by omega
  go_loopw [8,55] (fun cv i wr => ∃ k cn t,k ≤ n ∧ i = .int .i64 (k : Nat) ∧ cv = .int .u64 (cn : Nat) ∧ BackInv l1 Y off k cn t ∧ Arr wr g (l1.take off ++ (t ++ l1.drop (off + k))) ∧ Only g w wr)
   (fun _ i _ => n - (intOf i).toNat)
  case atStart =>
   exact ⟨0,0,[],Nat.zero_le _,rfl,rfl,⟨rfl,Nm.dig_nil W,Nat.zero_le _,by simp [Nm.val]⟩,by rw [Nm.seg_all]; exact ha,hon2.out⟩
  case round =>
   clear ha;obtain ⟨k,cn,t,hk,rfl,rfl,hinv,harr,honly⟩ := hrel;have hlen2 := Nm.seg_length l1 t off k hinv.1 (by omega)
   by_cases hX : k < n
   ·have hY : k < Y.length := by omega
    have e1 := (honly.cell (p := ⟨b,o + k,none⟩) hb).trans (HX.out k hY);have hol : off + k < l1.length := by omega
    have e3 := harr.cell (off + k) (by omega)
    rw [Nm.seg_get l1 t off k hinv.1 hol] at e3;have e4 := harr.free (off + k);have ea := k'q l1[off + k] Y[k] cn hinv.2.2.1;have Hinv := i' (hinv.step hol hY (Nm.dig_get dY k hY) (Nm.dig_get dl1 _ hol));have Harr := harr.set (off + k) (sm l1[off + k] Y[k] cn);rw [Nm.seg_set l1 t off k _ hinv.1 hol] at Harr;have HA := i' Harr;have Ho := i' (honly.setCell (off + k) (.int .u64 (sm l1[off + k] Y[k] cn)));clear hinv harr honly Harr hlen2;go_wp2;go_roundw
    case rel => exact ⟨k + 1,_,_,hX,by go_num,rfl,Hinv.out,HA.out,Ho.out⟩
    case measure => simp [intOf]; omega
   ·obtain rfl : k = n := by omega
    obtain ⟨u3,e3⟩ := harr.has (off + k) (by omega)
    have e4 := harr.free (off + k);have HA2 := harr.set (off + k) 0;rw [Nm.seg_set l1 t off k _ hinv.1 z1,HE.out.1,HE.out.2.1] at HA2;have HA3 := i' HA2;have Ho := i' (honly.setCell (off + k) (.int .u64 ((0 : Nat) : Int)));have Hinv := i' hinv;clear hinv harr honly HA2 hlen2;go_wp2;go_ret;obtain ⟨p1,p2,p3,p4⟩ := Hs.out;rw [← hn,List.take_length,hn] at p4;obtain ⟨b1,b2,b3,b4⟩ := Hinv.out;rw [HE.out.2.2.1] at b4;have b5 := Nm.val_lt b2;rw [b1] at b5;have p5 := Nm.val_lt p2;rw [p1] at p5;rw [← hn,List.take_length,hn] at b4;obtain ⟨h1,h2,h3⟩ := k'ca HL.out p4 HC.out HD.out.2.1 HV.out.2 p5 b5 HV.out.1 b4;refine ⟨t ++ [0],by rw [← h2,← k'c4 d h1 HD.out.2.2]; rfl,by simp [b1],Nm.dig_append.2 ⟨b2,Nm.dig_cons.2 ⟨W0,Nm.dig_nil W⟩⟩,?_,HA3.out,Ho.out⟩
    rw [Nm.val_snoc,Nat.mul_zero,Nat.add_zero];exact h3
theorem k'cf (n m : Nat) (hm : m ≤ n) (hn : n ≤ 1000000000) (w : World) :
 (Instr.makeSlice 141 (.int .i64 ((n : Int) - (m : Int) + 1)) (.int .i64 ((n : Int) - (m : Int) + 1))).run Tryz.prog w = .ok (.slice (some ⟨w.heap.size,0,none⟩) (n - m + 1) (n - m + 1)) (w.alloc (.cells (uv (List.replicate (n - m + 1) 0)).toArray 129)) := by
 rw [show (n : Int) - (m : Int) + 1 = ((n - m + 1 : Nat) : Int) by omega]
 exact k'f (n - m + 1) w (by omega)
theorem k'cg (w0 w : World) (h : Below w0.heap.size w0 w) (a b : List Nat) :
 Arr ((w.alloc (.cells (uv a).toArray 129)).alloc (.cells (uv b).toArray 129)) w.heap.size a ∧ Arr ((w.alloc (.cells (uv a).toArray 129)).alloc (.cells (uv b).toArray 129)) (w.heap.size + 1) b ∧
  Below w0.heap.size w0 ((w.alloc (.cells (uv a).toArray 129)).alloc (.cells (uv b).toArray 129)) := by
 have hs : (w.alloc (.cells (uv a).toArray 129)).heap.size = w.heap.size + 1 := by simp
 have h2 := Arr.made (w.alloc (.cells (uv a).toArray 129)) b;rw [hs] at h2;exact ⟨(Arr.made w a).alloc _,h2,(h.alloc h.size _).alloc (Nat.le_trans h.size (by rw [hs]; omega)) _⟩
def LInv (S V k : Nat) (t R : List Nat) : Prop := Nm.Dig W t ∧ Nm.Dig W R ∧ S = V * W ^ k * Nm.val W t + Nm.val W R ∧ Nm.val W R < V * W ^ k
theorem LInv.seg {S V j m : Nat} {t R : List Nat} (h : LInv S V (j + 1) t R) (hV : V < W ^ m) (hl : j + (m + 1) ≤ R.length) :
 Nm.val W ((R.drop j).take (m + 1)) < V * W ∧ Nm.val W (R.drop (j + (m + 1))) = 0 ∧ Nm.val W R = Nm.val W (R.take j) + W ^ j * Nm.val W ((R.drop j).take (m + 1)) := by
 obtain ⟨_,h2,_,h4⟩ := h;have e1 := Nm.val_split W R j (by omega)
 have e2 := Nm.val_split W (R.drop j) (m + 1) (by simp; omega)
 rw [List.drop_drop] at e2;have hp : 0 < W ^ j := Nat.pow_pos W0;have h5 : Nm.val W (R.drop j) < V * W := by
  have h6 : W ^ j * Nm.val W (R.drop j) < W ^ j * (V * W) := by
   have : V * W ^ (j + 1) = W ^ j * (V * W) := by rw [Nat.pow_succ]; grind
   omega
  exact Nat.lt_of_mul_lt_mul_left h6
 have h7 : V * W < W ^ (m + 1) := by rw [Nat.pow_succ]; exact Nat.mul_lt_mul_of_pos_right hV W0
 have h8 : Nm.val W (R.drop (j + (m + 1))) = 0 := by
  rcases Nat.eq_zero_or_pos (Nm.val W (R.drop (j + (m + 1)))) with g | g
  ·exact g
  ·have : W ^ (m + 1) * 1 ≤ W ^ (m + 1) * Nm.val W (R.drop (j + (m + 1))) := Nat.mul_le_mul_left _ g
   omega
 rw [h8,Nat.mul_zero,Nat.add_zero] at e2;rw [e2] at e1 h5;exact ⟨h5,h8,e1⟩
theorem LInv.step {S V j m : Nat} {t R r : List Nat} (h : LInv S V (j + 1) t R) (hV : V < W ^ m) (h0 : 0 < V) (hl : j + (m + 1) ≤ R.length) (hr : r.length = m + 1) (dr : Nm.Dig W r) (hv : Nm.val W r = Nm.val W ((R.drop j).take (m + 1)) % V)
 (hq : Nm.val W ((R.drop j).take (m + 1)) / V < W) :
 LInv S V j (Nm.val W ((R.drop j).take (m + 1)) / V :: t) (R.take j ++ (r ++ R.drop (j + (m + 1)))) := by
 obtain ⟨s1,s2,s3⟩ := h.seg hV hl;obtain ⟨g1,g2,g3,g4⟩ := h;have hdm := Nat.div_add_mod (Nm.val W ((R.drop j).take (m + 1))) V;have hm := Nat.mod_lt (Nm.val W ((R.drop j).take (m + 1))) h0;have ht := Nm.val_lt (Nm.dig_take g2 j);rw [List.length_take,Nat.min_eq_left (by omega)] at ht
 have e : Nm.val W (R.take j ++ (r ++ R.drop (j + (m + 1)))) = Nm.val W (R.take j) + W ^ j * Nm.val W r := by
  rw [Nm.val_append,Nm.val_append,s2,List.length_take,Nat.min_eq_left (by omega),Nat.mul_zero,Nat.add_zero]
 refine ⟨Nm.dig_cons.2 ⟨hq,g1⟩,Nm.dig_append.2 ⟨Nm.dig_take g2 _,Nm.dig_append.2 ⟨dr,Nm.dig_drop g2 _⟩⟩,?_,?_⟩
 ·rw [e,hv,Nm.val_cons,g3,s3]
  generalize Nm.val W ((R.drop j).take (m + 1)) / V = q at *;generalize Nm.val W ((R.drop j).take (m + 1)) % V = x at *;generalize Nm.val W ((R.drop j).take (m + 1)) = U at *;rw [← hdm,Nat.pow_succ]
  grind
 ·rw [e,hv]
  generalize Nm.val W ((R.drop j).take (m + 1)) % V = x at *;have : W ^ j * (x + 1) ≤ W ^ j * V := Nat.mul_le_mul_left _ hm;rw [Nat.mul_add,Nat.mul_one,Nat.mul_comm _ V] at this;omega
theorem k'ch {Y Sb : List Nat} {m m1 sh : Nat} (hm : Y.length = m) (hm1 : m1 + 1 = m) (hz : m1 < Y.length) (d2 : Nm.Dig W Y) (s1 : sh ≤ 63) (s2 : 2 ^ 63 ≤ Y[m1] * 2 ^ sh) (s3 : Y[m1] * 2 ^ sh < W)
 (hl : Sb.length = m + 1) (dS : Nm.Dig W Sb) (hv : Nm.val W Sb = Nm.val W Y * 2 ^ sh) :
 Nm.val W (Sb.take m) = Nm.val W Y * 2 ^ sh ∧ Nm.val W Y * 2 ^ sh < W ^ m ∧ 2 ^ 63 * W ^ m1 ≤ Nm.val W Y * 2 ^ sh ∧ W ≤ 2 * Sb[m1] := by
 have hp : 0 < 2 ^ sh := Nat.pow_pos (by decide)
 have hW := k'1c (show sh ≤ 64 by omega)
 have hy : Y[m1] < 2 ^ (64 - sh) := by
  rw [← hW,Nat.mul_comm] at s3;exact Nat.lt_of_mul_lt_mul_left s3
 have e1 := Nm.val_take_succ W Y m1 hz;rw [show m1 + 1 = Y.length by omega,List.take_length] at e1
 have h1 := Nm.val_lt (Nm.dig_take d2 m1);rw [List.length_take,Nat.min_eq_left (by omega)] at h1
 have hpm : 0 < W ^ m1 := Nat.pow_pos W0;have a1 : Nm.val W Y * 2 ^ sh < W ^ m := by
  have h2 : Nm.val W Y < W ^ m1 * 2 ^ (64 - sh) := by
   have : W ^ m1 * (Y[m1] + 1) ≤ W ^ m1 * 2 ^ (64 - sh) := Nat.mul_le_mul_left _ hy;rw [Nat.mul_add,Nat.mul_one] at this;omega
  have h3 := Nat.mul_lt_mul_of_pos_right h2 hp;rw [Nat.mul_assoc,Nat.mul_comm (2 ^ (64 - sh)),hW,← Nat.pow_succ,show m1.succ = m from hm1] at h3;exact h3
 have a2 : 2 ^ 63 * W ^ m1 ≤ Nm.val W Y * 2 ^ sh := by
  have h2 : 2 ^ 63 * W ^ m1 ≤ (Y[m1] * 2 ^ sh) * W ^ m1 := Nat.mul_le_mul_right _ s2;have h3 : Y[m1] * 2 ^ sh * W ^ m1 = W ^ m1 * Y[m1] * 2 ^ sh := by grind
  have h4 : W ^ m1 * Y[m1] * 2 ^ sh ≤ Nm.val W Y * 2 ^ sh := Nat.mul_le_mul_right _ (by omega)
  omega
 have hS := Nm.val_take_succ W Sb m (by omega)
 rw [show m + 1 = Sb.length by omega,List.take_length,hv] at hS
 have a0 : Nm.val W (Sb.take m) = Nm.val W Y * 2 ^ sh := by
  rcases Nat.eq_zero_or_pos (Sb[m]) with g | g
  ·rw [g,Nat.mul_zero,Nat.add_zero] at hS
   exact hS.symm
  ·have : W ^ m * 1 ≤ W ^ m * Sb[m] := Nat.mul_le_mul_left _ g
   omega
 refine ⟨a0,a1,a2,?_⟩;have hT := Nm.val_take_succ W Sb m1 (by omega)
 rw [show m1 + 1 = m by omega,a0] at hT
 have h5 := Nm.val_lt (Nm.dig_take dS m1);rw [List.length_take,Nat.min_eq_left (by omega)] at h5
 have h6 : W ^ m1 * 2 ^ 63 < W ^ m1 * (Sb[m1] + 1) := by
  rw [Nat.mul_add,Nat.mul_one];have : W ^ m1 * 2 ^ 63 = 2 ^ 63 * W ^ m1 := Nat.mul_comm _ _;omega
 have h7 := Nat.lt_of_mul_lt_mul_left h6;have : W = 2 * 2 ^ 63 := by decide
 omega
theorem k'ci {A B q r P : Nat} (hP : 0 < P) (hB : 0 < B) (h : A * P = B * P * W ^ 0 * q + r) (hr : r < B * P * W ^ 0) : q = A / B ∧ r / P = A % B := by
 rw [Nat.pow_zero,Nat.mul_one] at h hr;have hBP : 0 < B * P := Nat.mul_pos hB hP;have e1 : q = A * P / (B * P) := by
  rw [h,Nat.mul_add_div hBP,Nat.div_eq_of_lt hr,Nat.add_zero]
 have e2 : r = A * P % (B * P) := by
  rw [h,Nat.mul_add_mod,Nat.mod_eq_of_lt hr]
 constructor
 ·rw [e1,Nat.mul_div_mul_right _ _ hP]
 ·rw [e2,Nat.mul_mod_mul_right,Nat.mul_div_cancel _ hP]
theorem k'cj (v1 v2 : Value) (X Y : List Nat) (w : World) (h1 : Rd w v1 X) (h2 : Rd w v2 Y) (hX : X.length ≤ 900000000) (hY : Y.length ≤ 900000000)
 (d1 : Nm.Dig W X) (d2 : Nm.Dig W Y) (n1 : Nm.Nrm X) (n2 : Nm.Nrm Y) (hY2 : 2 ≤ Y.length) (hge : Nm.val W Y ≤ Nm.val W X) :
 Calls Tryz.prog 146 #[v1,v2] w (DivPost (Nm.val W X) (Nm.val W Y) w) := by
 have HC := i' (k'2v v1 v2 X Y w h1 h2 (by omega) (by omega) d1 d2 n1 n2)
 have hc0 : 0 ≤ cmpN (Nm.val W X) (Nm.val W Y) := k'2y hge;have hlen : Y.length ≤ X.length := by
  rcases Nat.lt_or_ge X.length Y.length with h | h
  ·have := Nm.val_lt_of_len W0 d1 n2 h
   omega
  ·exact h
 generalize cmpN (Nm.val W X) (Nm.val W Y) = cc at *;obtain ⟨p1,b1,o1,c1,rfl,_,_,hp1,_,hx1⟩ := h1;obtain ⟨p2,b2,o2,c2,rfl,_,_,hp2,_,hx2⟩ := h2;obtain rfl := hp1 (by intro e; rw [e] at hlen; simp at hlen; rw [hlen] at hY2; simp at hY2)
 obtain rfl := hp2 (by intro e; rw [e] at hY2; simp at hY2)
 obtain ⟨m,hm⟩ : ∃ m,Y.length = m := ⟨_,rfl⟩;obtain ⟨n,hn⟩ : ∃ n,X.length = n := ⟨_,rfl⟩;obtain ⟨m1,hm1⟩ : ∃ m1,m1 + 1 = m := ⟨m - 1,by omega⟩
 have z1 : m1 < Y.length := by omega
 have e1 := hx2 m1 z1;have hyW := Nm.dig_get d2 m1 z1;have hy0 : Y[m1] ≠ 0 := by
  have := Nm.nrm_last n2 (by omega)
  simpa [hm,← hm1] using this
 have HL := i' (k'1u Y[m1] hyW);obtain ⟨s1,s2,s3⟩ := k'1t Y[m1] hy0 hyW;have t1 : (m : Int) - 1 = (m1 : Int) := by omega
 have t2 : ((m : Int) == 1) = false := by simp; omega
 have t3 : ¬ (m : Int) = 1 := by omega
 rw [hm,hn] at HC;rw [hm,hn];generalize lz Y[m1] = sh at *;have k1 := k'g n (by omega)
 have k2 := k'g m (by omega)
 go_enter Tryz.func146,Tryz.ntmps146;go_wp2_with fail;refine HC.out.mono ?_;rintro e w' ⟨rfl,nq,rfl⟩;go_wp2_with fail;refine (HL.out _).mono ?_;rintro e w' ⟨rfl,rfl⟩;go_wp2;clear e1 HL HC hc0 t3;go_cut [8,9] (fun rv bv wx => ∃ gr gb : Nat,rv = .slice (some ⟨gr,0,none⟩) (n + 1) (n + 1) ∧ bv = .slice (some ⟨gb,0,none⟩) (m + 1) (m + 1) ∧ Hid (Arr wx gr (List.replicate (n + 1) 0) ∧ Arr wx gb (List.replicate (m + 1) 0) ∧ gr ≠ gb ∧ w.heap.size ≤ gr ∧ w.heap.size ≤ gb ∧ Below w.heap.size w wx))
 case first =>
  rename_i J0 K0 hRJ hMK;go_region
  all_goals
   refine hMK _ _ (Met.intro (hRJ _ _ ?_))
   (repeat apply Exists.intro)
   refine ⟨?_,rfl⟩
   first
    | exact ⟨_,_,rfl,rfl,(k'cg w _ (k'2w (Below.refl _ _) _) (List.replicate (n + 1) 0) (List.replicate (m + 1) 0)).1,(k'cg w _ (k'2w (Below.refl _ _) _) (List.replicate (n + 1) 0) (List.replicate (m + 1) 0)).2.1,Nat.ne_of_lt (Nat.lt_succ_self _),Nat.le_refl _,Nat.le_succ _,(k'cg w _ (k'2w (Below.refl _ _) _) (List.replicate (n + 1) 0) (List.replicate (m + 1) 0)).2.2⟩
    | exact ⟨_,_,rfl,rfl,(k'cg w _ (k'2w (Below.refl _ _) _) (List.replicate (m + 1) 0) (List.replicate (n + 1) 0)).2.1,(k'cg w _ (k'2w (Below.refl _ _) _) (List.replicate (m + 1) 0) (List.replicate (n + 1) 0)).1,Nat.ne_of_gt (Nat.lt_succ_self _),Nat.le_succ _,Nat.le_refl _,(k'cg w _ (k'2w (Below.refl _ _) _) (List.replicate (m + 1) 0) (List.replicate (n + 1) 0)).2.2⟩
 obtain ⟨gr,gb,rfl,rfl,hcut⟩ := hcut;obtain ⟨y0,hy0w⟩ : ∃ y : World,y = wc := ⟨_,rfl⟩;subst hy0w;obtain ⟨ha,hb,hne,hgr,hgb,hbel⟩ := hcut.out;have hbr1 : b1 ≠ gr := by have := World.block_lt_of_cell? w _ (hx1 0 (by omega)); omega
 have hbb2 : b2 ≠ gb := by have := World.block_lt_of_cell? w _ (hx2 0 (by omega)); omega
 have hbr2 : b2 ≠ gr := by have := World.block_lt_of_cell? w _ (hx2 0 (by omega)); omega
 have HS1 := k'1k (List.replicate (n + 1) 0) X gr 0 (n + 1) (n + 1) (some ⟨b1,o1,none⟩) b1 o1 c1 sh y0 (by omega) (by omega) (by omega) (by omega) (by simp; omega) (fun _ => rfl) (fun _ => hbr1) ha (fun k hk => k'e hbel (hx1 k hk)) d1 s1
 rw [hn] at HS1;have HS1 := i' HS1;have HB := i' hbel;have HAb := i' hb;have H2 := i' hx2;have HN := i' (And.intro hgr (And.intro hgb hne));clear ha hb hbel hcut hx1 hx2 hgr hgb;go_wp2_with fail;refine HS1.out.mono ?_;rintro e y1 ⟨rfl,sr,hsr1,hsr2,hsr3,har,hor⟩;rw [hn,List.take_zero,List.nil_append,Nat.zero_add,List.drop_of_length_le (by simp),List.append_nil] at har
 rw [hn] at hsr1;have HBy1 := i' (hor.below HB.out HN.out.1);have HS2 := k'1k (List.replicate (m + 1) 0) Y gb 0 (m + 1) (m + 1) (some ⟨b2,o2,none⟩) b2 o2 c2 sh y1 (by omega) (by omega) (by omega) (by omega) (by simp; omega) (fun _ => rfl) (fun _ => hbb2) (hor.arr HAb.out (fun e => hne e.symm)) (fun k hk => k'e HBy1.out (H2.out k hk)) d2 s1
 rw [hm] at HS2;have HS2 := i' HS2;have HAr := i' har;clear HS1 HAb HB har hor hbr1 hbb2 hbr2;go_wp2_with fail;refine HS2.out.mono ?_;rintro e y2 ⟨rfl,sb,hsb1,hsb2,hsb3,hab,hob⟩;rw [hm,List.take_zero,List.nil_append,Nat.zero_add,List.drop_of_length_le (by simp),List.append_nil] at hab
 rw [hm] at hsb1;have HB2 := i' (hob.below HBy1.out HN.out.2.1);have HAr := i' (hob.arr HAr.out hne);have HAb := i' hab;have k5 := k'cf n m (by omega) (by omega)
 obtain ⟨f1,f2,f3,f4⟩ := k'ch hm hm1 z1 d2 s1 s2 s3 hsb1 hsb2 hsb3;obtain ⟨Yb,hYb⟩ : ∃ Yb,Yb = sb.take m := ⟨_,rfl⟩;have hYl : Yb.length = m := by rw [hYb,List.length_take]; omega
 have hYd : Nm.Dig W Yb := by rw [hYb]; exact Nm.dig_take hsb2 m
 have hYt : W ≤ 2 * Yb[m1] := by simpa [hYb] using f4
 have hYc : ∀ (wx : World),Arr wx gb sb → ∀ k (h : k < Yb.length),wx.cell? ⟨gb,0 + k,none⟩ = some (.int .u64 (Yb[k] : Int)) := by
  intro wx hA k hk;have := hA.cell k (by omega)
  rw [Nat.zero_add,this];simp [hYb]
 rw [← hYb] at f1;have HYc := i' hYc;clear HS2 HBy1 hab hob f4 hYb k1 k2 hsb3 hYc;obtain ⟨m2,hm2⟩ : ∃ m2,m2 + 2 = m := ⟨m - 2,by omega⟩
 have hV0 : 0 < Nm.val W Yb := by
  rw [f1];have : 0 < 2 ^ 63 * W ^ m1 := Nat.mul_pos (by decide) (Nat.pow_pos W0)
  omega
 have hstart : Nm.val W sr < Nm.val W Yb * W ^ (n - m + 1) := by
  have h5 := Nm.val_lt d1;rw [hn] at h5;have h6 : 2 ^ 63 * W ^ m1 * W ^ (n - m + 1) ≤ Nm.val W Yb * W ^ (n - m + 1) := Nat.mul_le_mul_right _ (by rw [f1]; exact f3)
  rw [Nat.mul_assoc,← Nat.pow_add,show m1 + (n - m + 1) = n by omega] at h6
  have h7 : Nm.val W X * 2 ^ sh < W ^ n * 2 ^ sh := Nat.mul_lt_mul_of_pos_right h5 (Nat.pow_pos (by decide))
  have h8 : W ^ n * 2 ^ sh ≤ W ^ n * 2 ^ 63 := Nat.mul_le_mul_left _ (Nat.pow_le_pow_right (by decide) s1)
  rw [hsr3];have h9 : W ^ n * 2 ^ 63 = 2 ^ 63 * W ^ n := Nat.mul_comm _ _;omega
 have hYW : Nm.val W Yb < W ^ m := by rw [f1]; exact f2
 have HE := i' f1;have HSr := i' hsr3;clear f1 f2 f3 s2 s3 hyW hy0 t1 t2 d2 n1 n2 hge;go_wp2;clear k5;go_loopw [10] (fun iv wr => ∃ k t R,k ≤ n - m + 1 ∧ iv = .int .i64 ((k : Nat) - 1 : Int) ∧ R.length = n + 1 ∧ t.length + k = n - m + 1 ∧ Hid (LInv (Nm.val W sr) (Nm.val W Yb) k t R) ∧
  Arr wr y2.heap.size (List.replicate k 0 ++ t) ∧ Arr wr gr R ∧ Arr wr gb sb ∧ Below w.heap.size w wr)
  (fun i _ => (intOf i + 1).toNat)
 case atStart =>
  refine ⟨n - m + 1,[],sr,Nat.le_refl _,by congr 1; omega,hsr1,by simp,⟨Nm.dig_nil W,hsr2,by simp [Nm.val],hstart⟩,by rw [List.append_nil]; exact Arr.made y2 _,HAr.out.alloc _,HAb.out.alloc _,HB2.out.alloc HB2.out.size _⟩
 case round =>
  have hgq1 : gr < y2.heap.size := HAr.out.lt;have hgq2 : gb < y2.heap.size := HAb.out.lt;obtain ⟨k,t,R,hk,rfl,hR,ht,hinv,haq,har,hab,hbl⟩ := hrel;rcases Nat.eq_zero_or_pos k with h0 | h0
  ·subst h0
   have HQ := i' (Rd.of_whole haq (n - m + 1) (by simp; omega) (by unfold maxLen; omega))
   have HR := i' (Rd.of_whole har (n + 1) hR (by unfold maxLen; omega))
   have Hbl := i' hbl;have hpd := i' (And.intro hinv.out.1 hinv.out.2.1);have hfin := i' (k'ci (A := Nm.val W X) (B := Nm.val W Y) (q := Nm.val W t) (r := Nm.val W R) (Nat.pow_pos (n := sh) (by decide : 0 < 2)) (by rcases Nat.eq_zero_or_pos (Nm.val W Y) with g | g; (rw [HE.out,g,Nat.zero_mul] at hV0; exact absurd hV0 (Nat.lt_irrefl _)); exact g)
    (by rw [← HSr.out,← HE.out]; exact hinv.out.2.2.1) (by rw [← HE.out]; exact hinv.out.2.2.2))
   have HSR := i' (fun w' (h : Rd w' (.slice (some ⟨gr,0,none⟩) (n + 1) (n + 1)) R) => k'1q _ R sh w' h (by omega) (by omega) hpd.out.2)
   clear haq har hbl hinv hab;go_wp2_with fail;refine (k'j _ _ _ HQ.out).mono ?_;rintro e w' ⟨v,rfl,hrd,rfl⟩;have HQ2 := i' hrd;clear hrd;go_wp2_with fail;refine (HSR.out _ HR.out).mono ?_;rintro e w' ⟨v2,rfl,hrd2,hb2⟩;have HR2 := i' hrd2;have HB3 := i' (Hbl.out.trans (hb2.mono Hbl.out.size));have HQ3 := i' (HQ2.out.below hb2 (Nat.le_refl _));clear hrd2 hb2;go_wp2;go_ret2;refine ⟨v,v2,rfl,?_,?_,HB3.out⟩
   ·have h5 := HQ3.out
    rw [List.replicate_zero,List.nil_append,Nm.trimL_dg W2 hpd.out.1,hfin.out.1] at h5;exact h5
   ·have h5 := HR2.out
    rw [hfin.out.2] at h5;exact h5
  ·obtain ⟨j,rfl⟩ : ∃ j,k = j + 1 := ⟨k - 1,by omega⟩
   have hseg := hinv.out.seg hYW (by omega)
   have hqW : Nm.val W ((R.drop j).take (m + 1)) / Nm.val W Yb < W := by rw [Nat.div_lt_iff_lt_mul hV0,Nat.mul_comm]; exact hseg.1
   have HST := i' (fun nr cap (h1 : m + 1 ≤ nr) (h2 : nr ≤ cap) (h3 : cap ≤ 2000000000) => k'ce R Yb gr j m m1 m2 nr cap gb 0 (m + 1) wr hYl hm1 hm2 h1 h2 h3 (by omega) (by omega) (fun e => hne e.symm) har (HYc.out wr hab) hYd hinv.out.2.1 hYt hseg.1)
   have HI := i' (fun r (h1 : r.length = m + 1) (h2 : Nm.Dig W r) (h3 : Nm.val W r = Nm.val W ((R.drop j).take (m + 1)) % Nm.val W Yb) => hinv.out.step hYW hV0 (by omega) h1 h2 h3 hqW)
   have hlq : (List.replicate (j + 1) 0 ++ t).length = n - m + 1 := by simp; omega
   obtain ⟨u3,e3⟩ := haq.has j (by omega)
   have e4 := haq.free j;have Haq := i' haq;have Hab := i' hab;have Hbl := i' hbl;have HN2 := i' (And.intro hgq1 hgq2);rw [show ((j + 1 : Nat) : Int) - 1 = (j : Int) by omega]
   clear hseg hinv haq har hab hbl hqW hgq1 hgq2;unfold DStep at HST;generalize Nm.val W ((R.drop j).take (m + 1)) / Nm.val W Yb = qd at *;generalize Nm.val W ((R.drop j).take (m + 1)) % Nm.val W Yb = rd at *;go_wp2_with fail;refine (HST.out _ _ (by omega) (by omega) (by omega)).mono ?_
   rintro e w' ⟨r,rfl,hr1,hr2,hr3,hr4,ho⟩;have ha1 := ho.arr Haq.out (Nat.ne_of_gt HN2.out.1);obtain ⟨u3,e3⟩ := ha1.has j (by omega)
   have e4 := ha1.free j;have HA := ha1.set j qd;rw [List.set_append_left _ _ (by simp),List.replicate_succ',List.set_append_right _ _ (by simp),List.length_replicate,Nat.sub_self,List.set_cons_zero,List.append_assoc,List.singleton_append] at HA
   have HA1 := i' HA;have HA2 := i' (hr4.other ⟨y2.heap.size,j,none⟩ (.int .u64 (qd : Int)) (Nat.ne_of_lt HN2.out.1));have HA3 := i' ((ho.arr Hab.out (fun e => hne e.symm)).other ⟨y2.heap.size,j,none⟩ (.int .u64 (qd : Int)) (Nat.ne_of_lt HN2.out.2));have HA4 := i' ((ho.below Hbl.out HN.out.1).setCell (p := ⟨y2.heap.size,j,none⟩) HB2.out.size (.int .u64 (qd : Int)));have HI2 := i' (HI.out r hr1 hr2 hr3);have hRl : (R.take j ++ (r ++ R.drop (j + (m + 1)))).length = n + 1 := by simp; omega
   clear ha1 HA hr4 ho;go_wp2;go_roundw
   case rel => exact ⟨j,qd :: t,_,by omega,by go_num,hRl,by simp; omega,HI2.out,HA1.out,HA2.out,HA3.out,HA4.out⟩
   case measure => simp [intOf]
theorem k'ck (m n : Nat) (h0 : 0 < n) (l1 : (Nm.dg W m).length ≤ 900000000) (l2 : (Nm.dg W n).length ≤ 900000000) : DivOK m n := by
 by_cases h : m < n ∨ n < W
 ·exact k'5q m n h0 h (by omega) (by omega)
 ·intro v1 v2 w h1 h2
  have hl : 2 ≤ (Nm.dg W n).length := by
   rcases Nat.lt_or_ge (Nm.dg W n).length 2 with g | g
   ·have h3 := Nm.val_lt (Nm.dig_dg W2 n)
    rw [Nm.val_dg W2] at h3;have h4 : W ^ (Nm.dg W n).length ≤ W ^ 1 := Nat.pow_le_pow_right W0 (by omega)
    rw [Nat.pow_one] at h4;omega
   ·exact g
  have := k'cj v1 v2 _ _ w h1 h2 l1 l2 (Nm.dig_dg W2 m) (Nm.dig_dg W2 n) (Nm.nrm_dg W2 m) (Nm.nrm_dg W2 n) hl (by rw [Nm.val_dg W2,Nm.val_dg W2]; omega)
  rwa [Nm.val_dg W2,Nm.val_dg W2] at this
def LPost (x y : Nat) (ev : Bool) (u0 v0 u1 v1 : Nat) : Prop :=
 ∃ p q,(if ev then p + v0 * y = u0 * x ∧ q + u1 * x = v1 * y else p + u0 * x = v0 * y ∧ q + v1 * y = u1 * x) ∧ q ≤ p ∧ x = p * v1 + q * v0 ∧ y = p * u1 + q * u0 ∧ 1 ≤ v1
def LInvS (x y A B hi lo : Nat) (ev : Bool) (u0 v0 u1 v1 u2 v2 : Nat) : Prop :=
 (v0 = 0 ∨ LPost x y ev u0 v0 u1 v1) ∧ A = hi * v2 + lo * v1 ∧ B = hi * u2 + lo * u1 ∧ (if ev then v1 * u2 = u1 * v2 + 1 else u1 * v2 = v1 * u2 + 1) ∧ u2 ≤ v2 ∧ u1 + u2 ≤ v1 + v2 ∧ 1 ≤ v2 ∧ lo ≤ hi
theorem LInvS.start {x y A B : Nat} (h : B ≤ A) : LInvS x y A B A B false 0 0 1 0 0 1 :=
 ⟨Or.inl rfl,by omega,by omega,by decide,by decide,by decide,by decide,h⟩
theorem k'cl {x y A B H al be hi lo u1 v1 u2 v2 : Nat} (hx : x = A * H + al) (hy : y = B * H + be) (ha : al < H) (hb : be < H)
 (h1 : A = hi * v2 + lo * v1) (h2 : B = hi * u2 + lo * u1) (hd : u1 * v2 = v1 * u2 + 1) (hu : u2 ≤ v2) (c1 : v2 ≤ lo) (c2 : v1 + v2 ≤ hi - lo) (hlh : lo ≤ hi) :
 ∃ p q,p + v1 * y = u1 * x ∧ q + u2 * x = v2 * y ∧ q ≤ p ∧ x = p * v2 + q * v1 ∧ y = p * u2 + q * u1 := by
 have e1 : hi + v1 * B = u1 * A := by
  rw [h1,h2];have : hi * (u1 * v2) = hi * (v1 * u2 + 1) := by rw [hd]
  grind
 have e2 : lo + u2 * A = v2 * B := by
  rw [h1,h2];have : lo * (u1 * v2) = lo * (v1 * u2 + 1) := by rw [hd]
  grind
 obtain ⟨d,hd2⟩ : ∃ d,hi = lo + d := ⟨hi - lo,by omega⟩
 have c3 : v1 + v2 ≤ d := by omega
 have f1 : u2 * al ≤ lo * H := Nat.mul_le_mul (by omega) (by omega)
 have f2 : (v1 + v2) * be ≤ d * H := Nat.mul_le_mul c3 (by omega)
 have e3 : lo * H + u2 * (A * H) = v2 * (B * H) := by
  have : (lo + u2 * A) * H = v2 * B * H := by rw [e2]
  grind
 have e4 : hi * H + v1 * (B * H) = u1 * (A * H) := by
  have : (hi + v1 * B) * H = u1 * A * H := by rw [e1]
  grind
 obtain ⟨q,hq⟩ : ∃ q,q + u2 * x = v2 * y := by
  refine ⟨v2 * y - u2 * x,?_⟩;have : u2 * x ≤ v2 * y := by rw [hx,hy,Nat.mul_add,Nat.mul_add]; omega
  omega
 obtain ⟨p,hp⟩ : ∃ p,p + v1 * y = u1 * x := by
  refine ⟨u1 * x - v1 * y,?_⟩;have : v1 * y ≤ u1 * x := by
   rw [hx,hy,Nat.mul_add,Nat.mul_add];have : v1 * be ≤ (v1 + v2) * be := Nat.mul_le_mul_right _ (Nat.le_add_right _ _);have : d * H ≤ hi * H := Nat.mul_le_mul_right _ (by omega)
   omega
  omega
 refine ⟨p,q,hp,hq,?_,?_,?_⟩
 ·have g1 : hi * H = lo * H + d * H := by rw [hd2,Nat.add_mul]
  have g2 : (v1 + v2) * be = v1 * be + v2 * be := Nat.add_mul _ _ _;rw [hx,hy,Nat.mul_add,Nat.mul_add] at hp hq;omega
 ·have : x * (u1 * v2) = x * (v1 * u2 + 1) := by rw [hd]
  have : (p + v1 * y) * v2 = u1 * x * v2 := by rw [hp]
  have : (q + u2 * x) * v1 = v2 * y * v1 := by rw [hq]
  grind
 ·have : y * (u1 * v2) = y * (v1 * u2 + 1) := by rw [hd]
  have : (p + v1 * y) * u2 = u1 * x * u2 := by rw [hp]
  have : (q + u2 * x) * u1 = v2 * y * u1 := by rw [hq]
  grind
theorem leh_exact' {x y A B H al be hi lo u1 v1 u2 v2 : Nat} (hx : x = A * H + al) (hy : y = B * H + be) (ha : al < H) (hb : be < H)
 (h1 : A = hi * v2 + lo * v1) (h2 : B = hi * u2 + lo * u1) (hd : v1 * u2 = u1 * v2 + 1) (hs : u1 + u2 ≤ v1 + v2) (c1 : v2 ≤ lo) (c2 : v1 + v2 ≤ hi - lo) (hlh : lo ≤ hi) :
 ∃ p q,p + u1 * x = v1 * y ∧ q + v2 * y = u2 * x ∧ q ≤ p ∧ x = p * v2 + q * v1 ∧ y = p * u2 + q * u1 := by
 have e1 : hi + u1 * A = v1 * B := by
  rw [h1,h2];have : hi * (v1 * u2) = hi * (u1 * v2 + 1) := by rw [hd]
  grind
 have e2 : lo + v2 * B = u2 * A := by
  rw [h1,h2];have : lo * (v1 * u2) = lo * (u1 * v2 + 1) := by rw [hd]
  grind
 obtain ⟨d,hd2⟩ : ∃ d,hi = lo + d := ⟨hi - lo,by omega⟩
 have c3 : v1 + v2 ≤ d := by omega
 have f1 : v2 * be ≤ lo * H := Nat.mul_le_mul c1 (by omega)
 have f2 : (u1 + u2) * al ≤ d * H := Nat.mul_le_mul (by omega) (by omega)
 have e3 : lo * H + v2 * (B * H) = u2 * (A * H) := by
  have : (lo + v2 * B) * H = u2 * A * H := by rw [e2]
  grind
 have e4 : hi * H + u1 * (A * H) = v1 * (B * H) := by
  have : (hi + u1 * A) * H = v1 * B * H := by rw [e1]
  grind
 obtain ⟨q,hq⟩ : ∃ q,q + v2 * y = u2 * x := by
  refine ⟨u2 * x - v2 * y,?_⟩;have : v2 * y ≤ u2 * x := by rw [hx,hy,Nat.mul_add,Nat.mul_add]; omega
  omega
 obtain ⟨p,hp⟩ : ∃ p,p + u1 * x = v1 * y := by
  refine ⟨v1 * y - u1 * x,?_⟩;have : u1 * x ≤ v1 * y := by
   rw [hx,hy,Nat.mul_add,Nat.mul_add];have : u1 * al ≤ (u1 + u2) * al := Nat.mul_le_mul_right _ (Nat.le_add_right _ _);have : d * H ≤ hi * H := Nat.mul_le_mul_right _ (by omega)
   omega
  omega
 refine ⟨p,q,hp,hq,?_,?_,?_⟩
 ·have g1 : hi * H = lo * H + d * H := by rw [hd2,Nat.add_mul]
  have g2 : (u1 + u2) * al = u1 * al + u2 * al := Nat.add_mul _ _ _;rw [hx,hy,Nat.mul_add,Nat.mul_add] at hp hq;omega
 ·have : x * (v1 * u2) = x * (u1 * v2 + 1) := by rw [hd]
  have : (p + u1 * x) * v2 = v1 * y * v2 := by rw [hp]
  have : (q + v2 * y) * v1 = u2 * x * v1 := by rw [hq]
  grind
 ·have : y * (v1 * u2) = y * (u1 * v2 + 1) := by rw [hd]
  have : (p + u1 * x) * u2 = v1 * y * u2 := by rw [hp]
  have : (q + v2 * y) * u1 = u2 * x * u1 := by rw [hq]
  grind
theorem LInvS.step {x y A B H al be hi lo u0 v0 u1 v1 u2 v2 : Nat} {ev : Bool} (hx : x = A * H + al) (hy : y = B * H + be) (ha : al < H) (hb : be < H)
 (h : LInvS x y A B hi lo ev u0 v0 u1 v1 u2 v2) (c1 : v2 ≤ lo) (c2 : v1 + v2 ≤ hi - lo) :
 LInvS x y A B lo (hi % lo) (!ev) u1 v1 u2 v2 (u1 + hi / lo * u2) (v1 + hi / lo * v2) := by
 obtain ⟨_,h1,h2,hd,hu,hs,hv,hlh⟩ := h;have hlo : 0 < lo := by omega
 have hq1 : 1 ≤ hi / lo := (Nat.one_le_div_iff hlo).2 hlh;have hdm := Nat.div_add_mod hi lo;have hml := Nat.mod_lt hi hlo;generalize hi % lo = r at *;obtain ⟨q,hq⟩ : ∃ q,hi / lo = q + 1 := ⟨hi / lo - 1,by omega⟩
 rw [hq] at hdm ⊢;refine ⟨Or.inr ?_,?_,?_,?_,?_,?_,?_,by omega⟩
 ·cases ev with
  | false =>
   simp only [Bool.false_eq_true,if_false] at hd;obtain ⟨p,q',a1,a2,a3,a4,a5⟩ := k'cl hx hy ha hb h1 h2 hd hu c1 c2 hlh;exact ⟨p,q',by simp only [Bool.not_false,if_true]; exact ⟨a1,a2⟩,a3,a4,a5,hv⟩
  | true =>
   simp only [if_true] at hd;obtain ⟨p,q',a1,a2,a3,a4,a5⟩ := leh_exact' hx hy ha hb h1 h2 hd hs c1 c2 hlh;exact ⟨p,q',by simp only [Bool.not_true,Bool.false_eq_true,if_false]; exact ⟨a1,a2⟩,a3,a4,a5,hv⟩
 ·rw [h1,← hdm]; grind
 ·rw [h2,← hdm]; grind
 ·cases ev with
  | false =>
   simp only [Bool.false_eq_true,if_false] at hd;simp only [Bool.not_false,if_true]
   grind
  | true =>
   simp only [if_true] at hd;simp only [Bool.not_true,Bool.false_eq_true,if_false]
   grind
 ·have : q * u2 ≤ q * v2 := Nat.mul_le_mul_left _ hu
  rw [Nat.add_mul,Nat.add_mul]; omega
 ·have : q * u2 ≤ q * v2 := Nat.mul_le_mul_left _ hu
  rw [Nat.add_mul,Nat.add_mul]; omega
 ·rw [Nat.add_mul]; omega
theorem LInvS.small {x y A B hi lo u0 v0 u1 v1 u2 v2 : Nat} {ev : Bool} (h : LInvS x y A B hi lo ev u0 v0 u1 v1 u2 v2) (c1 : v2 ≤ lo) (hBA : B ≤ A) :
 u1 + u2 ≤ A ∧ v1 + v2 ≤ A ∧ u1 + hi / lo * u2 ≤ A ∧ v1 + hi / lo * v2 ≤ A := by
 obtain ⟨_,h1,h2,hd,hu,hs,hv,hlh⟩ := h;have hlo : 0 < lo := by omega
 have hdm := Nat.div_add_mod hi lo;generalize hi % lo = r at *;generalize hi / lo = q at *;have a1 : 1 * v2 ≤ hi * v2 := Nat.mul_le_mul_right _ (by omega)
 have a2 : 1 * v1 ≤ lo * v1 := Nat.mul_le_mul_right _ (by omega)
 have a3 : 1 * u1 ≤ lo * u1 := Nat.mul_le_mul_right _ (by omega)
 have a4 : 1 * (q * u2) ≤ lo * (q * u2) := Nat.mul_le_mul_right _ (by omega)
 have a5 : 1 * (q * v2) ≤ lo * (q * v2) := Nat.mul_le_mul_right _ (by omega)
 have a6 : hi * u2 = lo * (q * u2) + r * u2 := by rw [← hdm]; grind
 have a7 : hi * v2 = lo * (q * v2) + r * v2 := by rw [← hdm]; grind
 refine ⟨by omega,by omega,by omega,by omega⟩
theorem LPost.gcd {x y u0 v0 u1 v1 : Nat} {ev : Bool} (h : LPost x y ev u0 v0 u1 v1) (hv : v0 ≠ 0) :
 ∃ p q,(if ev then p + v0 * y = u0 * x ∧ q + u1 * x = v1 * y else p + u0 * x = v0 * y ∧ q + v1 * y = u1 * x) ∧ q ≤ p ∧ p + q ≤ x ∧ Nat.gcd p q = Nat.gcd x y := by
 obtain ⟨p,q,hs,hqp,e1,e2,hv1⟩ := h;refine ⟨p,q,hs,hqp,?_,?_⟩
 ·have a1 : p * 1 ≤ p * v1 := Nat.mul_le_mul_left _ hv1
  have a2 : q * 1 ≤ q * v0 := Nat.mul_le_mul_left _ (by omega)
  omega
 ·refine Nat.dvd_antisymm (Nat.dvd_gcd ?_ ?_) (Nat.dvd_gcd ?_ ?_)
  ·rw [e1]; exact Nat.dvd_add (Nat.dvd_trans (Nat.gcd_dvd_left _ _) (Nat.dvd_mul_right _ _)) (Nat.dvd_trans (Nat.gcd_dvd_right _ _) (Nat.dvd_mul_right _ _))
  ·rw [e2]; exact Nat.dvd_add (Nat.dvd_trans (Nat.gcd_dvd_left _ _) (Nat.dvd_mul_right _ _)) (Nat.dvd_trans (Nat.gcd_dvd_right _ _) (Nat.dvd_mul_right _ _))
  ·have dx := Nat.gcd_dvd_left x y
   have dy := Nat.gcd_dvd_right x y;generalize Nat.gcd x y = d at *
   cases ev with
   | false =>
    simp only [Bool.false_eq_true,if_false] at hs;exact (Nat.dvd_add_iff_left (Nat.dvd_trans dx (Nat.dvd_mul_left _ _))).2 (hs.1 ▸ Nat.dvd_trans dy (Nat.dvd_mul_left _ _))
   | true =>
    simp only [if_true] at hs;exact (Nat.dvd_add_iff_left (Nat.dvd_trans dy (Nat.dvd_mul_left _ _))).2 (hs.1 ▸ Nat.dvd_trans dx (Nat.dvd_mul_left _ _))
  ·have dx := Nat.gcd_dvd_left x y
   have dy := Nat.gcd_dvd_right x y;generalize Nat.gcd x y = d at *
   cases ev with
   | false =>
    simp only [Bool.false_eq_true,if_false] at hs;exact (Nat.dvd_add_iff_left (Nat.dvd_trans dy (Nat.dvd_mul_left _ _))).2 (hs.2 ▸ Nat.dvd_trans dx (Nat.dvd_mul_left _ _))
   | true =>
    simp only [if_true] at hs;exact (Nat.dvd_add_iff_left (Nat.dvd_trans dx (Nat.dvd_mul_left _ _))).2 (hs.2 ▸ Nat.dvd_trans dy (Nat.dvd_mul_left _ _))
theorem k'cm {t s m l sh : Nat} (hl : l < W ^ m) (hsh : sh ≤ 64) : ∃ al,(t * W + s) * W ^ m + l = (t * 2 ^ sh + s / 2 ^ (64 - sh)) * (2 ^ (64 - sh) * W ^ m) + al ∧ al < 2 ^ (64 - sh) * W ^ m := by
 have hp : 0 < 2 ^ (64 - sh) := Nat.pow_pos (by decide)
 have hW := k'1c hsh;have h1 := Nat.div_add_mod s (2 ^ (64 - sh));have h2 := Nat.mod_lt s hp;generalize s / 2 ^ (64 - sh) = q at *;generalize s % 2 ^ (64 - sh) = r at *;generalize 2 ^ (64 - sh) = P at *;generalize 2 ^ sh = S at *;refine ⟨r * W ^ m + l,?_,?_⟩
 ·rw [← hW,← h1]
  generalize W ^ m = M at *
  grind
 ·have : (r + 1) * W ^ m ≤ P * W ^ m := Nat.mul_le_mul_right _ h2
  rw [Nat.add_mul,Nat.one_mul] at this;omega
theorem k'cn {X : List Nat} {m : Nat} (hX : X.length = m + 2) : Nm.val W X = (X[m + 1] * W + X[m]) * W ^ m + Nm.val W (X.take m) := by
 have e1 := Nm.val_take_succ W X (m + 1) (by omega)
 have e2 := Nm.val_take_succ W X m (by omega)
 rw [show m + 1 + 1 = X.length by omega,List.take_length] at e1
 rw [e1,e2,Nat.pow_succ]
 grind
theorem k'co {X : List Nat} {m : Nat} (hX : X.length = m + 1) : Nm.val W X = (0 * W + X[m]) * W ^ m + Nm.val W (X.take m) := by
 have e2 := Nm.val_take_succ W X m (by omega)
 rw [show m + 1 = X.length by omega,List.take_length] at e2
 rw [e2]
 grind
theorem k'cp {X : List Nat} {m : Nat} (hX : m ≤ X.length) (d : Nm.Dig W X) : Nm.val W (X.take m) < W ^ m := by
 have := Nm.val_lt (Nm.dig_take d m);rwa [List.length_take,Nat.min_eq_left hX] at this
theorem k'cq {x y A B H al be : Nat} (hx : x = A * H + al) (hy : y = B * H + be) (ha : al < H) (h : y ≤ x) : B ≤ A := by
 rcases Nat.lt_or_ge A B with g | g
 ·have : (A + 1) * H ≤ B * H := Nat.mul_le_mul_right _ g
  rw [Nat.add_mul] at this;omega
 ·exact g
def at0 (X : List Nat) (k : Nat) : Nat := X.getD k 0
theorem k'cr {X : List Nat} (d : Nm.Dig W X) (k : Nat) : at0 X k < W := by
 unfold at0;rcases Nat.lt_or_ge k X.length with h | h
 ·simp [List.getElem?_eq_getElem h]; exact Nm.dig_get d k h
 ·simp [List.getElem?_eq_none h]; decide
theorem k'cs (X : List Nat) (k : Nat) : Nm.val W (X.take (k + 1)) = Nm.val W (X.take k) + W ^ k * at0 X k := by
 unfold at0;rcases Nat.lt_or_ge k X.length with h | h
 ·rw [Nm.val_take_succ W X k h]; simp [List.getElem?_eq_getElem h]
 ·rw [List.take_of_length_le (by omega),List.take_of_length_le h]; simp [List.getElem?_eq_none h]
def DifInv (X Y : List Nat) (u v k pc mc br : Nat) (s : List Nat) : Prop :=
 s.length = k ∧ Nm.Dig W s ∧ pc < W ∧ mc < W ∧ br ≤ 1 ∧ Nm.val W s + Nm.val W (Y.take k) * v + W ^ k * pc = Nm.val W (X.take k) * u + W ^ k * (mc + br)
theorem DifInv.start (X Y : List Nat) (u v : Nat) : DifInv X Y u v 0 0 0 0 [] := ⟨rfl,Nm.dig_nil W,W0,W0,by decide,by simp [Nm.val]⟩
theorem DifInv.step {X Y s : List Nat} {u v k pc mc br : Nat} (h : DifInv X Y u v k pc mc br s) (dX : Nm.Dig W X) (dY : Nm.Dig W Y) (du : u < W) (dv : v < W) :
 DifInv X Y u v (k + 1) (mh (at0 X k) u pc) (mh (at0 Y k) v mc) (bw (ml (at0 X k) u pc) (ml (at0 Y k) v mc) br) (s ++ [df (ml (at0 X k) u pc) (ml (at0 Y k) v mc) br]) := by
 obtain ⟨h1,h2,h3,h4,h5,h6⟩ := h;refine ⟨by simp [h1],Nm.dig_append.2 ⟨h2,Nm.dig_cons.2 ⟨k'n _ _ _,Nm.dig_nil W⟩⟩,k'12 _ _ _ (k'cr dX k) du h3,k'12 _ _ _ (k'cr dY k) dv h4,k'o _ _ _,?_⟩
 have e1 := mlh (at0 X k) u pc;have e2 := mlh (at0 Y k) v mc;have e3 := k'p _ _ br (k'11 (at0 X k) u pc) (k'11 (at0 Y k) v mc) h5;rw [Nm.val_snoc,h1,k'cs,k'cs,Nat.pow_succ];generalize df (ml (at0 X k) u pc) (ml (at0 Y k) v mc) br = d at *;generalize bw (ml (at0 X k) u pc) (ml (at0 Y k) v mc) br = b' at *;generalize ml (at0 X k) u pc = x at *;generalize ml (at0 Y k) v mc = y at *;generalize mh (at0 X k) u pc = p at *;generalize mh (at0 Y k) v mc = q at *;generalize at0 X k = a at *;generalize at0 Y k = b at *;generalize W ^ k = P at *;have f1 : P * (x + W * p) = P * (a * u + pc) := by rw [e1]
 have f2 : P * (y + W * q) = P * (b * v + mc) := by rw [e2]
 have f3 : P * (d + y + br) = P * (x + W * b') := by rw [e3]
 grind
theorem DifInv.finish {X Y s : List Nat} {u v k pc mc br D : Nat} (h : DifInv X Y u v k pc mc br s) (hX : X.length ≤ k) (hY : Y.length ≤ k) (hD : D + Nm.val W Y * v = Nm.val W X * u) (hlt : D < W ^ k) : Nm.val W s = D := by
 obtain ⟨h1,h2,h3,h4,h5,h6⟩ := h;rw [List.take_of_length_le hX,List.take_of_length_le hY] at h6;have hs := Nm.val_lt h2;rw [h1] at hs;have e : Nm.val W s + W ^ k * pc = D + W ^ k * (mc + br) := by omega
 have e2 := congrArg (· % W ^ k) e;simp only [Nat.add_mul_mod_self_left] at e2;rwa [Nat.mod_eq_of_lt hs,Nat.mod_eq_of_lt hlt] at e2
theorem k'ct (X : List Nat) (p : Option Addr) (b o c k : Nat) (w : World) (hk2 : k ≤ 2000000000) (hp : X ≠ [] → p = some ⟨b,o,none⟩)
 (hx : ∀ k (h : k < X.length),w.cell? ⟨b,o + k,none⟩ = some (.int .u64 (X[k] : Int))) :
 Calls Tryz.prog 178 #[.slice p X.length c,.int .i64 (k : Int)] w fun e w' => e = .returned (.int .u64 (at0 X k : Nat)) ∧ w = w' := by
 unfold at0;by_cases hk : k < X.length
 ·obtain rfl := hp (by intro e; rw [e] at hk; exact absurd hk (Nat.not_lt_zero _))
  have e1 := hx k hk;have e2 : X.getD k 0 = X[k] := by simp [List.getElem?_eq_getElem hk]
  rw [e2];clear hx hp e2;go_enter Tryz.func178,Tryz.ntmps178;go_wp2;go_ret;exact ⟨rfl,rfl⟩
 ·have e2 : X.getD k 0 = 0 := by simp [List.getElem?_eq_none (Nat.le_of_not_lt hk)]
  rw [e2];clear hx hp e2;go_enter Tryz.func178,Tryz.ntmps178;go_wp2;go_ret;exact ⟨rfl,rfl⟩
def DifPost (l : List Nat) (g n D : Nat) (w : World) (e : Ending) (w' : World) : Prop :=
 e = .returned (.tuple #[]) ∧ ∃ s,s.length = n ∧ Nm.Dig W s ∧ Nm.val W s = D ∧ Arr w' g (s ++ l.drop n) ∧ Only g w w'
theorem k'cu (l X Y : List Nat) (g n cap : Nat) (p1 : Option Addr) (b1 o1 c1 : Nat) (p2 : Option Addr) (b2 o2 c2 u v D : Nat) (w : World) (hnc : n ≤ cap) (hcap : cap ≤ 2000000000) (hl : n ≤ l.length)
 (lX : X.length ≤ n) (lY : Y.length ≤ n) (hp1 : X ≠ [] → p1 = some ⟨b1,o1,none⟩) (hp2 : Y ≠ [] → p2 = some ⟨b2,o2,none⟩) (hb1 : b1 ≠ g) (hb2 : b2 ≠ g) (harr : Arr w g l)
 (hx : ∀ k (h : k < X.length),w.cell? ⟨b1,o1 + k,none⟩ = some (.int .u64 (X[k] : Int))) (hy : ∀ k (h : k < Y.length),w.cell? ⟨b2,o2 + k,none⟩ = some (.int .u64 (Y[k] : Int)))
 (dX : Nm.Dig W X) (dY : Nm.Dig W Y) (du : u < W) (dv : v < W) (hD : D + Nm.val W Y * v = Nm.val W X * u) (hlt : D < W ^ n) :
 Calls Tryz.prog 170 #[.slice (some ⟨g,0,none⟩) n cap,.slice p1 X.length c1,.slice p2 Y.length c2,.int .u64 (u : Int),.int .u64 (v : Int)] w (DifPost l g n D w) := by
 go_enter Tryz.func170,Tryz.ntmps170;have Hp1 := i' hp1;have Hp2 := i' hp2;have Hx := i' hx;have Hy := i' hy;have HD := i' (And.intro hD hlt);clear hp1 hp2 hx hy hD hlt;go_wp2;go_loopw [10,11,12,18] (fun pv mv bv i wr => ∃ k pc mc br s,k ≤ n ∧ i = .int .i64 (k : Nat) ∧ pv = .int .u64 (pc : Nat) ∧ mv = .int .u64 (mc : Nat) ∧ bv = .int .u64 (br : Nat) ∧ DifInv X Y u v k pc mc br s ∧ Arr wr g (s ++ l.drop k) ∧ Only g w wr)
  (fun _ _ _ i _ => n - (intOf i).toNat)
 case atStart =>
  exact ⟨0,0,0,0,[],Nat.zero_le _,rfl,rfl,rfl,rfl,DifInv.start X Y u v,harr,Only.refl g w⟩
 case round =>
  clear harr;obtain ⟨k,pc,mc,br,s,hk,rfl,rfl,rfl,rfl,hinv,harr,honly⟩ := hrel;by_cases hkn : k < n
  ·have hs1 := hinv.1
   have hlen : k < (s ++ l.drop k).length := by simp [hinv.1]; omega
   obtain ⟨u3,e3⟩ := harr.has k hlen;have e4 := harr.free k;have HL1 := i' (k'ct X p1 b1 o1 c1 k wr (by omega) Hp1.out fun j hj => (honly.cell (p := ⟨b1,o1 + j,none⟩) hb1).trans (Hx.out j hj))
   have HL2 := i' (k'ct Y p2 b2 o2 c2 k wr (by omega) Hp2.out fun j hj => (honly.cell (p := ⟨b2,o2 + j,none⟩) hb2).trans (Hy.out j hj))
   have HM1 := i' (k'16 (at0 X k) u pc (k'cr dX k) du hinv.2.2.1);have HM2 := i' (k'16 (at0 Y k) v mc (k'cr dY k) dv hinv.2.2.2.1);have ea := k'r (ml (at0 X k) u pc) (ml (at0 Y k) v mc) br hinv.2.2.2.2.1;have Hinv := i' (hinv.step dX dY du dv);have Harr := harr.set k (df (ml (at0 X k) u pc) (ml (at0 Y k) v mc) br);rw [List.set_append_right _ _ (by omega),hinv.1,Nat.sub_self,List.drop_eq_getElem_cons (show k < l.length by omega),List.set_cons_zero,show s ++ df (ml (at0 X k) u pc) (ml (at0 Y k) v mc) br :: l.drop (k + 1) = (s ++ [df (ml (at0 X k) u pc) (ml (at0 Y k) v mc) br]) ++ l.drop (k + 1) by simp] at Harr
   have HA := i' Harr;have Ho := i' (honly.setCell k (.int .u64 (df (ml (at0 X k) u pc) (ml (at0 Y k) v mc) br : Nat)));clear hinv harr honly hlen Harr hs1;generalize at0 X k = x at *;generalize at0 Y k = y at *;go_wp2_with fail;refine HL1.out.mono ?_;rintro e w' ⟨rfl,rfl⟩;go_wp2_with fail;refine (HM1.out _).mono ?_;rintro e w' ⟨rfl,rfl⟩;go_wp2_with fail;refine HL2.out.mono ?_;rintro e w' ⟨rfl,rfl⟩;go_wp2_with fail;refine (HM2.out _).mono ?_;rintro e w' ⟨rfl,rfl⟩;go_wp2;go_roundw
   case rel => exact ⟨k + 1,_,_,_,_,hkn,by go_num,rfl,rfl,rfl,Hinv.out,HA.out,Ho.out⟩
   case measure => simp [intOf]; omega
  ·obtain rfl : k = n := by omega
   have Hinv := i' hinv;have HA := i' harr;have Ho := i' honly;clear hinv harr honly;go_wp2;go_end0;exact ⟨rfl,s,Hinv.out.1,Hinv.out.2.1,Hinv.out.finish lX lY HD.out.1 HD.out.2,HA.out,Ho.out⟩
def HiPost (x y : Nat) (w : World) (e : Ending) (w' : World) : Prop :=
 (∃ n,w' = w.drewN n) ∧ ∃ A B H al be : Nat,e = .returned (.tuple #[.int .u64 (A : Nat),.int .u64 (B : Nat)]) ∧ x = A * H + al ∧ y = B * H + be ∧ al < H ∧ be < H ∧ A < W
theorem k'cv {x y c : Nat} (h : x * 2 ^ y < W) : shlo x y c = x * 2 ^ y + c := by
 unfold shlo;rw [Nat.mod_eq_of_lt h]
theorem k'cw (X Y : List Nat) (p1 : Option Addr) (b1 o1 c1 : Nat) (p2 : Option Addr) (b2 o2 c2 m : Nat) (w : World) (hX : X.length = m + 2) (lX : X.length ≤ 1000000000)
 (hp1 : X ≠ [] → p1 = some ⟨b1,o1,none⟩) (hp2 : Y ≠ [] → p2 = some ⟨b2,o2,none⟩)
 (hx : ∀ k (h : k < X.length),w.cell? ⟨b1,o1 + k,none⟩ = some (.int .u64 (X[k] : Int))) (hy : ∀ k (h : k < Y.length),w.cell? ⟨b2,o2 + k,none⟩ = some (.int .u64 (Y[k] : Int)))
 (dX : Nm.Dig W X) (dY : Nm.Dig W Y) (nX : Nm.Nrm X) (nY : Nm.Nrm Y) (hle : Nm.val W Y ≤ Nm.val W X) :
 Calls Tryz.prog 177 #[.slice p1 X.length c1,.slice p2 Y.length c2] w (HiPost (Nm.val W X) (Nm.val W Y) w) := by
 have hlen : Y.length ≤ X.length := by
  rcases Nat.lt_or_ge X.length Y.length with h | h
  ·have := Nm.val_lt_of_len W0 dX nY h
   omega
  ·exact h
 obtain ⟨n,hn⟩ : ∃ n,X.length = n := ⟨_,rfl⟩;obtain ⟨m1,hm1⟩ : ∃ m1,m1 = m + 1 := ⟨_,rfl⟩;obtain rfl := hp1 (by intro e; rw [e] at hX; simp at hX)
 have z1 : m + 1 < X.length := by omega
 have z2 : m < X.length := by omega
 have e1 := hx (m + 1) z1;have e2 := hx m z2;have hyW := Nm.dig_get dX (m + 1) z1;have hsW := Nm.dig_get dX m z2;have hy0 : X[m + 1] ≠ 0 := by
  have := Nm.nrm_last nX (by omega)
  simpa [hX] using this
 have HL := i' (k'1u X[m + 1] hyW);obtain ⟨s1,s2,s3⟩ := k'1t X[m + 1] hy0 hyW;have s0 : lz X[m + 1] ≤ 64 := by omega
 have hv := k'cn (X := X) hX;have hlow := k'cp (show m ≤ X.length by omega) dX
 generalize lz X[m + 1] = sh at *;obtain ⟨al,ha1,ha2⟩ := k'cm (t := X[m + 1]) (s := X[m]) hlow s0;rw [← hv] at ha1;have ho1 := k'1i X[m + 1] sh (shhi X[m] sh) (k'1f _ _ hsW s0) s0;rw [k'cv s3] at ho1;have hA : X[m + 1] * 2 ^ sh + shhi X[m] sh < W := by
  have := k'1h X[m + 1] sh _ s0 (k'1f X[m] sh hsW s0);rwa [k'cv s3] at this
 have hs1 := k'1j X[m] sh;have t1 : (n : Int) - 1 = (m1 : Int) := by omega
 have t2 : (n : Int) - 2 = (m : Int) := by omega
 have HA := i' (And.intro ha1 (And.intro ha2 hA));have hTX : X[m + 1] * 2 ^ sh + shhi X[m] sh < 18446744073709551616 := hA;obtain ⟨ny,hny⟩ : ∃ ny,Y.length = ny := ⟨_,rfl⟩;rw [hn] at hlen;rw [hny] at hlen;have HP : ∀ B be : Nat,Nm.val W Y = B * (2 ^ (64 - sh) * W ^ m) + be → be < 2 ^ (64 - sh) * W ^ m →
  ∀ w',(∃ n,w' = w.drewN n) → HiPost (Nm.val W X) (Nm.val W Y) w (.returned (.tuple #[.int .u64 ((X[m + 1] * 2 ^ sh + shhi X[m] sh : Nat) : Int),.int .u64 (B : Int)])) w' :=
  fun B be h1 h2 w' hw => ⟨hw,_,_,_,_,_,rfl,HA.out.1,h1,HA.out.2.1,h2,HA.out.2.2⟩
 have HPP := i' HP;rcases Nat.lt_trichotomy ny (m + 1) with g | g | g
 ·
  have e5 : Hid (∀ w',(∃ n,w' = w.drewN n) → HiPost (Nm.val W X) (Nm.val W Y) w (.returned (.tuple #[.int .u64 ((X[m + 1] * 2 ^ sh + shhi X[m] sh : Nat) : Int),.int .u64 ((0 : Nat) : Int)])) w') := by
   refine HPP.out 0 (Nm.val W Y) (by omega) ?_
   have h1 := Nm.val_lt dY;have h2 : W ^ Y.length ≤ W ^ m := Nat.pow_le_pow_right W0 (by omega)
   have h3 : 1 * W ^ m ≤ 2 ^ (64 - sh) * W ^ m := Nat.mul_le_mul_right _ (Nat.pow_pos (by decide))
   omega
  have c1 : ((ny : Int) == (n : Int)) = false := by simp; omega
  have c2 : ((ny : Int) == (m1 : Int)) = false := by simp; omega
  have c3 : ¬ (ny : Int) = (n : Int) := by omega
  have c4 : ¬ (ny : Int) = (m1 : Int) := by omega
  rw [hn,hny];generalize X[m + 1] = xt at *;generalize X[m] = xs at *;subst hm1;clear hx hy hp2 HP HPP HA ha1 ha2 hv hlow;go_enter Tryz.func177,Tryz.ntmps177;go_wp2_with fail;refine (HL.out _).mono ?_;rintro e w' ⟨rfl,rfl⟩;go_wp2;go_quiet (fail);go_wp2;go_ret2;exact e5.out _ ⟨_,rfl⟩
 ·
  have zY : m < Y.length := by omega
  obtain rfl := hp2 (by intro e; rw [e] at zY; simp at zY)
  have e3 := hy m zY;have hqW := Nm.dig_get dY m zY;have hs2 := k'1j Y[m] sh;have e5 : Hid (∀ w',(∃ n,w' = w.drewN n) → HiPost (Nm.val W X) (Nm.val W Y) w (.returned (.tuple #[.int .u64 ((X[m + 1] * 2 ^ sh + shhi X[m] sh : Nat) : Int),.int .u64 (shhi Y[m] sh : Nat)])) w') := by
   have hl := k'cp (show m ≤ Y.length by omega) dY
   obtain ⟨be,b1,b2⟩ := k'cm (t := 0) (s := Y[m]) hl s0;rw [← k'co (X := Y) (by omega)] at b1
   refine HPP.out _ be ?_ b2;rw [b1]; simp [shhi]
  have c1 : ((ny : Int) == (n : Int)) = false := by simp; omega
  have c3 : ¬ (ny : Int) = (n : Int) := by omega
  have g2 : ny = m1 := by omega
  rw [hn,hny];generalize X[m + 1] = xt at *;generalize X[m] = xs at *;generalize Y[m] = ys at *;clear g hlen hny;subst g2;subst hm1;clear hx hy HP HPP HA ha1 ha2 hv hlow;go_enter Tryz.func177,Tryz.ntmps177;go_wp2_with fail;refine (HL.out _).mono ?_;rintro e w' ⟨rfl,rfl⟩;go_wp2;go_quiet (fail);go_wp2;go_ret2;exact e5.out _ ⟨_,rfl⟩
 ·
  have zY : m + 1 < Y.length := by omega
  have zY2 : m < Y.length := by omega
  obtain rfl := hp2 (by intro e; rw [e] at zY; simp at zY)
  have e3 := hy (m + 1) zY;have e4 := hy m zY2;have hqW := Nm.dig_get dY (m + 1) zY;have hrW := Nm.dig_get dY m zY2;have hs2 := k'1j Y[m] sh;have hvY := k'cn (X := Y) (m := m) (by omega)
  have hl := k'cp (show m ≤ Y.length by omega) dY
  have htop : Y[m + 1] ≤ X[m + 1] := by
   rcases Nat.lt_or_ge X[m + 1] Y[m + 1] with k | k
   ·exfalso
    have hl1 := k'cp (show m + 1 ≤ X.length by omega) dX
    have a1 := Nm.val_take_succ W X (m + 1) z1;have a2 := Nm.val_take_succ W Y (m + 1) zY;rw [show m + 1 + 1 = X.length by omega,List.take_length] at a1
    rw [show m + 1 + 1 = Y.length by omega,List.take_length] at a2
    have a3 : W ^ (m + 1) * (X[m + 1] + 1) ≤ W ^ (m + 1) * Y[m + 1] := Nat.mul_le_mul_left _ k;rw [Nat.mul_add,Nat.mul_one] at a3;omega
   ·exact k
  have q3 : Y[m + 1] * 2 ^ sh < W := Nat.lt_of_le_of_lt (Nat.mul_le_mul_right _ htop) s3;have ho2 := k'1i Y[m + 1] sh (shhi Y[m] sh) (k'1f _ _ hrW s0) s0;rw [k'cv q3] at ho2;have e5 : Hid (∀ w',(∃ n,w' = w.drewN n) → HiPost (Nm.val W X) (Nm.val W Y) w (.returned (.tuple #[.int .u64 ((X[m + 1] * 2 ^ sh + shhi X[m] sh : Nat) : Int),.int .u64 ((Y[m + 1] * 2 ^ sh + shhi Y[m] sh : Nat) : Int)])) w') := by
   obtain ⟨be,b1,b2⟩ := k'cm (t := Y[m + 1]) (s := Y[m]) hl s0;rw [← hvY] at b1;exact HPP.out _ be b1 b2
  have hB : Y[m + 1] * 2 ^ sh + shhi Y[m] sh < 18446744073709551616 := by
   have := k'1h Y[m + 1] sh _ s0 (k'1f Y[m] sh hrW s0);rwa [k'cv q3] at this
  have g2 : ny = n := by omega
  rw [hn,hny];generalize X[m + 1] = xt at *;generalize X[m] = xs at *;generalize Y[m + 1] = yt at *;generalize Y[m] = ys at *;clear g hlen hny;subst g2;subst hm1;clear hx hy HP HPP HA ha1 ha2 hv hlow hvY hl htop;go_enter Tryz.func177,Tryz.ntmps177;go_wp2_with fail;refine (HL.out _).mono ?_;rintro e w' ⟨rfl,rfl⟩;go_wp2;go_quiet (fail);go_wp2_with fail;go_quiet (fail);go_wp2;go_ret2;exact e5.out _ ⟨_,World.drewN_drewN _ _ _⟩
end Go.Proofs.YtepddegphdlbeaaGreat
