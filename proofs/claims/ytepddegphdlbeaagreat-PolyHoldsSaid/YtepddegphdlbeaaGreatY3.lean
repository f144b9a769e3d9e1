/- What the theorem leans on, part Y3. -/
import Derived.Test.YtepddegphdlbeaaGreatY2
import Derived.Test.YtepddegphdlbeaaGreatY1
import Derived.Test.YtepddegphdlbeaaGreatY0
import Derived.Test.YtepddegphdlbeaaGreatProg
import Derived.WalkKit
import Derived.WalkSpells
import Derived.WalkLawsBesides
import Derived.Lib.Hide
import Derived.Deep.QuietTactic
import Derived.BigQuiet
import Derived.Shelf.Small.Bits
import Derived.Shelf.Small.Wraps
import Derived.Shelf.Strconv.Itoa0
import Derived.Shelf.Bits.Mul64
import Derived.Ground.Names2Prog
import Derived.Shelf.Slices.SearchI
import Derived.Shelf.Spec.BitsCarry
import Derived.Deep.LoopGhost
import Derived.Deep.RegionHeld3
set_option maxRecDepth 100000
set_option maxHeartbeats 16000000
set_option linter.all false
namespace Go.Proofs.YtepddegphdlbeaaGreat
open Go.RowKit
theorem k'4z {s : ByteArray} (hc : Can s) (h0 : 0 < s.size) : ∃ l : Nat,lenB s = l ∧ 1 ≤ l ∧ 2 ^ (l - 1) ≤ bv s ∧ bv s < 2 ^ l := by
 have hne := hc h0;have h1 : s[0].toNat ≠ 0 := fun h3 => hne (UInt8.toNat_inj.1 h3);have h2 : s[0].toNat < 256 := s[0].toNat_lt;obtain ⟨b1,b2,b3⟩ := k'1r _ _ (Nat.le_refl _) h1 (by omega)
 have e : s.data.toList = s[0] :: s.data.toList.tail := by
  cases hd : s.data.toList with
  | nil => have : s.data.toList.length = s.size := rfl; rw [hd] at this; simp at this; omega
  | cons x l =>
   have : s[0] = x := by
    have h2 : s[0] = s.data.toList[0]'(by simpa using h0) := rfl
    rw [h2]; simp [hd]
   rw [this]; rfl
 have hl : s.data.toList.tail.length = s.size - 1 := by rw [List.length_tail]; rfl
 have hv : bv s = Nm.val 256 (s.data.toList.tail.map UInt8.toNat).reverse + 256 ^ (s.size - 1) * s[0].toNat := by
  unfold bv rev;rw [e,List.map_cons,List.reverse_cons,Nm.val_snoc,List.length_reverse,List.length_map,List.tail_cons,hl]
 have hlt := Nm.val_lt (k'35 s.data.toList.tail);rw [List.length_reverse,List.length_map,hl] at hlt;refine ⟨8 * (s.size - 1) + Lib.bitLen s[0].toNat,?_,by omega,?_,?_⟩
 ·rw [lenB,dif_pos h0]; omega
 ·rw [hv,show 8 * (s.size - 1) + Lib.bitLen s[0].toNat - 1 = 8 * (s.size - 1) + (Lib.bitLen s[0].toNat - 1) by omega,Nat.pow_add,show (2 : Nat) ^ (8 * (s.size - 1)) = 256 ^ (s.size - 1) by rw [Nat.pow_mul]]
  exact Nat.le_trans (Nat.mul_le_mul_left _ b2) (Nat.le_add_left _ _)
 ·rw [hv,Nat.pow_add,show (2 : Nat) ^ (8 * (s.size - 1)) = 256 ^ (s.size - 1) by rw [Nat.pow_mul]]
  have : 256 ^ (s.size - 1) * (s[0].toNat + 1) ≤ 256 ^ (s.size - 1) * 2 ^ Lib.bitLen s[0].toNat := Nat.mul_le_mul_left _ b3;rw [Nat.mul_add,Nat.mul_one] at this;omega
theorem k'50 (s : ByteArray) (hs : s.size ≤ 8192) : 0 ≤ lenB s ∧ lenB s ≤ 70000 := by
 unfold lenB
 split
 ·next h => have := k'1s s[0].toNat (by have h3 : s[0].toNat < 256 := s[0].toNat_lt; omega); omega
 ·omega
theorem k'51 {s : ByteArray} (hs : s.size ≤ 8192) : lenB s ≤ 65536 := by
 unfold lenB
 split
 ·next h =>
  have h3 : s[0].toNat < 2 ^ 8 := s[0].toNat_lt;have := Lib.bitLen_le s[0].toNat 8 (by decide) h3
  omega
 ·omega
theorem k'52 {s t : ByteArray} (h1 : Can s) (h2 : Can t) (z1 : s.size ≤ 8192) (z2 : t.size ≤ 8192) (h : 65536 < lenB s + lenB t - 1) : Top ≤ bv s * bv t := by
 have b : ∀ s : ByteArray,s.size = 0 → lenB s = 0 := fun s h => by unfold lenB; rw [dif_neg (by omega)]
 have y1 := k'51 z1;have y2 := k'51 z2;rcases Nat.eq_zero_or_pos s.size with g1 | g1
 ·rw [b s g1] at h; omega
 ·rcases Nat.eq_zero_or_pos t.size with g2 | g2
  ·rw [b t g2] at h; omega
  ·obtain ⟨l1,e1,a1,c1,_⟩ := k'4z h1 g1
   obtain ⟨l2,e2,a2,c2,_⟩ := k'4z h2 g2;rw [e1,e2] at h;have h5 := Nat.mul_le_mul c1 c2;rw [← Nat.pow_add] at h5;refine Nat.le_trans ?_ h5;rw [Top];exact Nat.pow_le_pow_right (by decide) (by rw [k'43]; omega)
theorem k'53 {m n : Nat} (h1 : m < Top) (h2 : n < Top) : (Nm.dg W (m * n)).length ≤ 2048 := by
 refine k'4s 2048 TopBits (m * n) ?_ (by rw [k'43]; decide)
 exact Nat.mul_lt_mul'' h1 h2
theorem k'54 (a b : Bool) (s t : ByteArray) (w : World) (hv1 : vld a s = true) (hv2 : vld b t = true) :
 Calls Tryz.prog 126 #[.agg #[.bool a,.string s],.agg #[.bool b,.string t]] w (WPost (wres (a != b) (bv s * bv t)) (werr (bv s * bv t)) w) := by
 have z1 := k'4m hv1;have z2 := k'4m hv2;have HV1 := k'4k a s;have HV2 := k'4k b t;rw [hv1] at HV1;rw [hv2] at HV2;have HA := i' (fun w => HV1 w (by omega))
 have HB := i' (fun w => HV2 w (by omega))
 have HR1 := i' (fun w => k'3u a s w (by omega) (k'4l hv1))
 have HR2 := i' (fun w => k'3u b t w (by omega) (k'4l hv2))
 have t1 := k'4r hv1;have t2 := k'4r hv2;have HP := i' (fun v1 v2 w h1 h2 => k'3n a b v1 v2 (bv s) (bv t) w h1 h2 (Nat.le_trans (k'4t t1) (by decide)) (Nat.le_trans (k'4t t2) (by decide)))
 have HW := i' (fun v w h => k'4g (a != b) v (bv s * bv t) w h (Nat.le_trans (k'53 t1 t2) (by decide)))
 obtain ⟨rb,rs,hr⟩ := k'4w (a != b) (bv s * bv t);rw [hr] at HW ⊢;clear HV1 HV2 t1 t2;generalize hra : (a != b) = ra at *;have HM : Hid (Top ≤ bv s * bv t → rb = false ∧ rs = ⟨#[]⟩ ∧ werr (bv s * bv t) = 7) := by
  intro h9;rw [k'46 ra h9,wd,k'49] at hr;simp at hr;exact ⟨hr.1,hr.2.symm,k'47 h9⟩
 have HT := i' (fun h9 => HM.out (k'52 (k'4l hv1) (k'4l hv2) z1 z2 h9));have HQ1 := i' (fun w => k'4o s w (by omega))
 have HQ2 := i' (fun w => k'4o t w (by omega))
 have L1 := k'50 s z1;have L2 := k'50 t z2;clear hr hv1 hv2 HM hra;generalize bv s * bv t = rm at *;generalize lenB s = y1 at *;generalize lenB t = y2 at *;generalize bv s = m at *;generalize bv t = n at *;generalize hrc : werr rm = rc at *;clear hrc;go_enter Tryz.func126,Tryz.ntmps126;go_wp2_with fail;obtain ⟨w0,hw0⟩ : ∃ w0 : World,w0 = ((w.alloc (.cells #[.bool a,.string s] 44)).alloc (.cells #[.bool b,.string t] 44)).alloc (.cells #[.bool false,.string ⟨#[]⟩] 44) := ⟨_,rfl⟩;have hb0 : Hid (Below w.heap.size w w0) := by rw [hw0]; exact (((Below.refl _ _).alloc (Nat.le_refl _) _).alloc (by simp) _).alloc (by simp; omega) _
 have k0 : w0.cell? ⟨w.heap.size,0,none⟩ = some (.bool a) := by rw [hw0]; simp [go_sem]
 have k1 : w0.cell? ⟨w.heap.size,1,none⟩ = some (.string s) := by rw [hw0]; simp [go_sem]
 have k2 : w0.cell? ⟨w.heap.size + 1,0,none⟩ = some (.bool b) := by rw [hw0]; simp [go_sem]
 have k3 : w0.cell? ⟨w.heap.size + 1,1,none⟩ = some (.string t) := by rw [hw0]; simp [go_sem]
 have k4 : w0.cell? ⟨w.heap.size + 1 + 1,0,none⟩ = some (.bool false) := by rw [hw0]; simp [go_sem]
 have k5 : w0.cell? ⟨w.heap.size + 1 + 1,1,none⟩ = some (.string ⟨#[]⟩) := by rw [hw0]; simp [go_sem]
 have k6 : w0.frozen? ⟨w.heap.size + 1 + 1,0,none⟩ = false := by rw [hw0]; simp [go_sem]
 have k7 : w0.frozen? ⟨w.heap.size + 1 + 1,1,none⟩ = false := by rw [hw0]; simp [go_sem]
 have hsz : w0.heap.size = w.heap.size + 3 := by rw [hw0]; simp
 rw [← hw0];have KK := i' (And.intro k0 (And.intro k1 (And.intro k2 (And.intro k3 (And.intro k4 (And.intro k5 (And.intro k6 k7)))))));have Hsz := i' hsz;clear k0 k1 k2 k3 k4 k5 k6 k7 hw0 hsz;refine (HA.out _).mono ?_;rintro e wa ⟨rfl,hba⟩;have q2 := k'4i hba KK.out.2.2.1;have q3 := k'4i hba KK.out.2.2.2.1;have HBa := i' hba;clear hba;go_wp2_with fail;refine (HB.out _).mono ?_;rintro e wb ⟨rfl,hbb⟩;have hbc := k'4h HBa.out hbb;have k0 := k'4i hbc KK.out.1;have k1 := k'4i hbc KK.out.2.1;have k2 := k'4i hbc KK.out.2.2.1;have k3 := k'4i hbc KK.out.2.2.2.1;have k4 := k'4i hbc KK.out.2.2.2.2.1;have k5 := k'4i hbc KK.out.2.2.2.2.2.1;have k6 := k'4j hbc KK.out.2.2.2.2.1 KK.out.2.2.2.2.2.2.1;have k7 := k'4j hbc KK.out.2.2.2.2.2.1 KK.out.2.2.2.2.2.2.2;have HBc := i' hbc;have n1 : ¬ (w.heap.size = w.heap.size + 1 + 1) := by omega
 have n2 : ¬ (w.heap.size + 1 + 1 = w.heap.size) := by omega
 clear q2 q3 hbb hbc;go_wp2_with fail;by_cases hbig : 65536 < y1 + y2 - 1
 ·obtain ⟨e1,e2,e3⟩ := HT.out hbig
  subst e1 e2;have E3 := i' e3;clear e3 HT;go_quiet ((first | (go_at_call 138; with_reducible exact k'9 (HQ1.out _)) | (go_at_call 138; with_reducible exact k'9 (HQ2.out _))))
  have HZ := i' (((k'2w (k'4h hb0.out HBc.out) nq).setCell (p := ⟨w.heap.size + 1 + 1,0,none⟩) (by simp; omega) (.bool false)).setCell (p := ⟨w.heap.size + 1 + 1,1,none⟩) (by simp; omega) (.string ⟨#[]⟩))
  go_wp2;exact bodyPost_ret (v := .tuple #[.agg #[.bool false,.string ⟨#[]⟩],.int .i64 7]) (by simp [results,Tryz.results126,go_sem,k4,k5]) rfl ⟨by rw [E3.out],HZ.out⟩
 clear HT;go_quiet ((first | (go_at_call 138; with_reducible exact k'9 (HQ1.out _)) | (go_at_call 138; with_reducible exact k'9 (HQ2.out _))))
 go_wp2_with fail;go_region_held3 (fun W' => W'.cell? ⟨w.heap.size,0,none⟩ = some (.bool a) ∧ W'.cell? ⟨w.heap.size,1,none⟩ = some (.string s) ∧ W'.cell? ⟨w.heap.size + 1,0,none⟩ = some (.bool b) ∧ W'.cell? ⟨w.heap.size + 1,1,none⟩ = some (.string t)) (go_keep)
  (first
   | (go_at_call 135; (with_reducible refine (HR1.out _).mono ?_); rintro e w1 ⟨v1,rfl,r1,b1⟩; have c1 := k'4h (k'2w (Below.refl _ _) _) b1; have p0 := k'4i c1 k0; have p1 := k'4i c1 k1; have p2 := k'4i c1 k2; have p3 := k'4i c1 k3; have G1 := i' (And.intro r1 c1); clear r1 b1 c1)
   | (go_at_call 135; (with_reducible refine (HR2.out _).mono ?_); rintro e w2 ⟨v2,rfl,r2,b2⟩; have c2 := k'4h G1.out.2 b2; have p0 := k'4i c2 k0; have p1 := k'4i c2 k1; have p2 := k'4i c2 k2; have p3 := k'4i c2 k3; have G2 := i' (And.intro (G1.out.1.below b2 (Nat.le_refl _)) (And.intro r2 c2)); clear r2 b2 c2)
   | (go_at_call 142; (with_reducible refine (HP.out _ _ _ G2.out.1 G2.out.2.1).mono ?_); rintro e w3 ⟨v3,rfl,r3,b3⟩; have c3 := k'4h G2.out.2.2 b3; have p0 := k'4i c3 k0; have p1 := k'4i c3 k1; have p2 := k'4i c3 k2; have p3 := k'4i c3 k3; have G3 := i' (And.intro r3 c3); clear r3 b3 c3)
   | (go_at_call 139; (with_reducible refine (HW.out _ _ G3.out.1).mono ?_); rintro e w4 ⟨rfl,b4⟩; have c4 := k'4h G3.out.2 b4; have p0 := k'4i c4 k0; have p1 := k'4i c4 k1; have p2 := k'4i c4 k2; have p3 := k'4i c4 k3; have p4 := k'4i c4 k4; have p5 := k'4i c4 k5; have p6 := k'4j c4 k4 k6; have p7 := k'4j c4 k5 k7; have G4 := i' c4; clear b4 c4))
 have HZ := i' (((k'4h (k'4h hb0.out HBc.out) G4.out).setCell (p := ⟨w.heap.size + 1 + 1,0,none⟩) (by simp; omega) (.bool rb)).setCell (p := ⟨w.heap.size + 1 + 1,1,none⟩) (by simp; omega) (.string rs))
 go_wp2;exact bodyPost_ret (v := .tuple #[.agg #[.bool rb,.string rs],.int .i64 rc]) (by simp [results,Tryz.results126,go_sem,p4,p5]) rfl ⟨rfl,HZ.out⟩
def sgV (a : Bool) (s : ByteArray) : Int := if vld a s = true ∧ 0 < s.size then (if a = true then -1 else 1) else 0
theorem k'56 (a : Bool) (s : ByteArray) (w : World) (z1 : s.size ≤ 140737488351232) :
 Calls Tryz.prog 70 #[.agg #[.bool a,.string s]] w (IPost (sgV a s) w) := by
 have HA := i' (fun w => k'4k a s w z1);have hb0 : Hid (Below w.heap.size w (w.alloc (.cells #[.bool a,.string s] 44))) := (Below.refl _ _).alloc (Nat.le_refl _) _;rcases Nat.eq_zero_or_pos s.size with h0 | h0
 ·have E : Hid (sgV a s = 0) := by show _ = _; rw [sgV,if_neg (by omega)]
  rw [E.out];have := k'4n h0;subst this;clear h0 E HA;go_enter Tryz.func70,Tryz.ntmps70;go_wp2;go_ret;exact ⟨rfl,hb0.out⟩
 ·have he := k'31 s h0
  have he2 : (s.toList == []) = false := by
   cases hd : s.toList with
   | nil => rw [hd] at he; simp at he
   | cons x l => rfl
  have k0 : (w.alloc (.cells #[.bool a,.string s] 44)).cell? ⟨w.heap.size,0,none⟩ = some (.bool a) := by simp [go_sem]
  have K0 := i' k0;clear k0
  cases h1 : vld a s with
  | false =>
   have E : Hid (sgV a s = 0) := by show _ = _; rw [sgV,h1]; simp
   rw [E.out];rw [h1] at HA;clear h1 E;go_enter Tryz.func70,Tryz.ntmps70;go_wp2_with fail;refine (HA.out _).mono ?_;rintro e wa ⟨rfl,hba⟩;have HZ := i' (k'4h hb0.out hba);clear hba;go_wp2;go_ret;exact ⟨rfl,HZ.out⟩
  | true =>
   have E : Hid (sgV a s = if a = true then -1 else 1) := by show _ = _; rw [sgV,if_pos ⟨h1,h0⟩]
   rw [E.out];rw [h1] at HA;clear h1 E
   cases a
   all_goals
    go_enter Tryz.func70,Tryz.ntmps70;go_wp2_with fail;refine (HA.out _).mono ?_;rintro e wa ⟨rfl,hba⟩;have q0 := k'4i hba K0.out;have HZ := i' (k'4h hb0.out hba);clear hba;go_wp2;go_ret;exact ⟨rfl,HZ.out⟩
theorem k'57 {s : ByteArray} (h : Can s) : bs (bv s) = s := by
 have e : Nm.dg 256 (bv s) = rev s := (Nm.eq_dg (by decide : 2 ≤ 256) (k'3h s) (k'3g s h)).symm
 have hd : (Nm.dg 256 (bv s)).reverse.map UInt8.ofNat = s.data.toList := by
  rw [e,rev,List.reverse_reverse,List.map_map];have : (UInt8.ofNat ∘ UInt8.toNat) = id := by funext x; simp
  rw [this,List.map_id]
 unfold bs;rw [hd]
theorem k'58 {s : ByteArray} (h : Can s) : bv s = 0 ↔ s.size = 0 := by
 constructor
 ·intro h0
  have := Nm.val_zero (B := 256) (by decide) (k'3g s h) h0
  have h2 := k'3i s;rw [this] at h2; simpa using h2.symm
 ·intro h0; rw [k'4n h0]; rfl
theorem k'5a (n : Int) (h1 : -9223372036854775808 ≤ n) (h2 : n < 0) : IntKind.u64.wrap (-IntKind.u64.wrap n) = ((n.natAbs : Nat) : Int) := by
 simp only [IntKind.wrap_u64]; omega
theorem k'5b (n : Int) (h1 : 0 ≤ n) (h2 : n ≤ 9223372036854775807) : IntKind.u64.wrap n = ((n.natAbs : Nat) : Int) := by
 simp only [IntKind.wrap_u64]; omega
def OfPost (n : Int) (w : World) (e : Ending) (w' : World) : Prop := e = .returned (.agg #[.bool (decide (n < 0)),.string (bs n.natAbs)]) ∧ Below w.heap.size w w'
theorem k'5c (n : Int) (w : World) (h1 : -9223372036854775808 ≤ n) (h2 : n ≤ 9223372036854775807) : Calls Tryz.prog 73 #[.int .i64 n] w (OfPost n w) := by
 have hW : n.natAbs < W := by unfold W; omega
 have HF := i' (fun a => k'42 a n.natAbs hW);by_cases hn : n < 0
 ·have en := k'5a n h1 hn
  have HD : Hid (decide (n < 0) = true) := decide_eq_true hn;obtain ⟨sx,hsx⟩ : ∃ sx,bs n.natAbs = sx := ⟨_,rfl⟩;rw [hsx] at HF;have HS := i' hsx;clear hsx;obtain ⟨x,hx⟩ : ∃ x,n.natAbs = x := ⟨_,rfl⟩;rw [hx] at HF en;clear h1 h2 hW hx;go_enter Tryz.func73,Tryz.ntmps73;go_wp2_with fail;refine (HF.out true _).mono ?_;rintro e w' ⟨rfl,hb⟩;have q4 := k'4i hb (p := ⟨w.heap.size,0,none⟩) (v := .bool false) (by simp [go_sem])
  have q5 := k'4i hb (p := ⟨w.heap.size,1,none⟩) (v := .string ⟨#[]⟩) (by simp [go_sem])
  have q6 := k'4j hb (p := ⟨w.heap.size,0,none⟩) (v := .bool false) (by simp [go_sem]) (by simp [go_sem])
  have q7 := k'4j hb (p := ⟨w.heap.size,1,none⟩) (v := .string ⟨#[]⟩) (by simp [go_sem]) (by simp [go_sem])
  have HZ := i' (((k'4h ((Below.refl w.heap.size w).alloc (Nat.le_refl _) _) hb).setCell (p := ⟨w.heap.size,0,none⟩) (Nat.le_refl _) (.bool true)).setCell (p := ⟨w.heap.size,1,none⟩) (Nat.le_refl _) (.string sx));clear hb;go_wp2;exact bodyPost_ret (v := .agg #[.bool true,.string sx]) (by simp [results,Tryz.results73,go_sem,q4,q5]) rfl ⟨by rw [HD.out,HS.out],HZ.out⟩
 ·have en := k'5b n (by omega) h2
  have HD : Hid (decide (n < 0) = false) := decide_eq_false hn;obtain ⟨sx,hsx⟩ : ∃ sx,bs n.natAbs = sx := ⟨_,rfl⟩;rw [hsx] at HF;have HS := i' hsx;clear hsx;obtain ⟨x,hx⟩ : ∃ x,n.natAbs = x := ⟨_,rfl⟩;rw [hx] at HF en;clear h1 h2 hW hx;go_enter Tryz.func73,Tryz.ntmps73;go_wp2_with fail;refine (HF.out false _).mono ?_;rintro e w' ⟨rfl,hb⟩;have q4 := k'4i hb (p := ⟨w.heap.size,0,none⟩) (v := .bool false) (by simp [go_sem])
  have q5 := k'4i hb (p := ⟨w.heap.size,1,none⟩) (v := .string ⟨#[]⟩) (by simp [go_sem])
  have q6 := k'4j hb (p := ⟨w.heap.size,0,none⟩) (v := .bool false) (by simp [go_sem]) (by simp [go_sem])
  have q7 := k'4j hb (p := ⟨w.heap.size,1,none⟩) (v := .string ⟨#[]⟩) (by simp [go_sem]) (by simp [go_sem])
  have HZ := i' (((k'4h ((Below.refl w.heap.size w).alloc (Nat.le_refl _) _) hb).setCell (p := ⟨w.heap.size,0,none⟩) (Nat.le_refl _) (.bool false)).setCell (p := ⟨w.heap.size,1,none⟩) (Nat.le_refl _) (.string sx));clear hb;go_wp2;exact bodyPost_ret (v := .agg #[.bool false,.string sx]) (by simp [results,Tryz.results73,go_sem,q4,q5]) rfl ⟨by rw [HD.out,HS.out],HZ.out⟩
def sg (a : Bool) (m : Nat) : Int := if a = true then -(m : Int) else m
theorem k'5g : Nm.dg W 1 = [1] := by
 have := Nm.eq_dg W2 (l := [1]) (Nm.dig_cons.2 ⟨by decide,Nm.dig_nil W⟩) (show (1 : Nat) ≠ 0 by decide)
 rw [show Nm.val W [1] = 1 by simp [Nm.val]] at this
 exact this.symm
theorem k'5h {m n : Nat} (h : m ≤ n) : (Nm.dg W m).length ≤ (Nm.dg W n).length := by
 refine Nm.len_le_of_val W2 (Nm.nrm_dg W2 m) ?_;have h1 := Nm.val_lt (Nm.dig_dg W2 n);rw [Nm.val_dg W2] at h1 ⊢;omega
def GcdOK (m n : Nat) : Prop := ∀ v1 v2 w,Rd w v1 (Nm.dg W m) → Rd w v2 (Nm.dg W n) → Calls Tryz.prog 143 #[v1,v2] w (Gives (Nat.gcd m n) w)
theorem k'5i (x : Bool) (p : Option Addr) (n c : Nat) (w : World) : (Instr.field 143 (.agg #[.bool x,.slice p n c]) 1).run Tryz.prog w = .ok (.slice p n c) w := by kernel_rfl
theorem k'5j {m n : Nat} (h1 : m < Top) (h2 : n < Top) : Nat.gcd m n < Top := by
 rcases Nat.eq_zero_or_pos m with h | h
 ·subst h; rwa [Nat.gcd_zero_left]
 ·exact Nat.lt_of_le_of_lt (Nat.gcd_le_left n h) h1
theorem k'5k (a b : Bool) (s t : ByteArray) (w : World) (hg : GcdOK (bv s) (bv t)) (hv1 : vld a s = true) (hv2 : vld b t = true) :
 Calls Tryz.prog 127 #[.agg #[.bool a,.string s],.agg #[.bool b,.string t]] w (WPost (wres false (Nat.gcd (bv s) (bv t))) (werr (Nat.gcd (bv s) (bv t))) w) := by
 have z1 := k'4m hv1;have z2 := k'4m hv2;have HV1 := k'4k a s;have HV2 := k'4k b t;rw [hv1] at HV1;rw [hv2] at HV2;have HA := i' (fun w => HV1 w (by omega))
 have HB := i' (fun w => HV2 w (by omega))
 have HR1 := i' (fun w => k'3u a s w (by omega) (k'4l hv1))
 have HR2 := i' (fun w => k'3u b t w (by omega) (k'4l hv2))
 have t1 := k'4r hv1;have t2 := k'4r hv2;have HP := i' hg;have HW := i' (fun v w h => k'4g false v (Nat.gcd (bv s) (bv t)) w h (Nat.le_trans (k'4t (k'5j t1 t2)) (by decide)))
 obtain ⟨rb,rs,hr⟩ := k'4w false (Nat.gcd (bv s) (bv t));rw [hr] at HW ⊢;clear hr HV1 HV2 hv1 hv2 t1 t2 hg;generalize hrm : Nat.gcd (bv s) (bv t) = rm at *;have HP2 : Hid (∀ v1 v2 w,Rd w v1 (Nm.dg W (bv s)) → Rd w v2 (Nm.dg W (bv t)) → Calls Tryz.prog 143 #[v1,v2] w (Gives rm w)) := by rw [← hrm]; exact HP.out
 clear hrm HP;generalize bv s = m at *;generalize bv t = n at *;generalize werr rm = rc at *;go_enter Tryz.func127,Tryz.ntmps127;go_wp2_with fail;obtain ⟨w0,hw0⟩ : ∃ w0 : World,w0 = ((w.alloc (.cells #[.bool a,.string s] 44)).alloc (.cells #[.bool b,.string t] 44)).alloc (.cells #[.bool false,.string ⟨#[]⟩] 44) := ⟨_,rfl⟩;have hb0 : Hid (Below w.heap.size w w0) := by rw [hw0]; exact (((Below.refl _ _).alloc (Nat.le_refl _) _).alloc (by simp) _).alloc (by simp; omega) _
 have k0 : w0.cell? ⟨w.heap.size,0,none⟩ = some (.bool a) := by rw [hw0]; simp [go_sem]
 have k1 : w0.cell? ⟨w.heap.size,1,none⟩ = some (.string s) := by rw [hw0]; simp [go_sem]
 have k2 : w0.cell? ⟨w.heap.size + 1,0,none⟩ = some (.bool b) := by rw [hw0]; simp [go_sem]
 have k3 : w0.cell? ⟨w.heap.size + 1,1,none⟩ = some (.string t) := by rw [hw0]; simp [go_sem]
 have k4 : w0.cell? ⟨w.heap.size + 1 + 1,0,none⟩ = some (.bool false) := by rw [hw0]; simp [go_sem]
 have k5 : w0.cell? ⟨w.heap.size + 1 + 1,1,none⟩ = some (.string ⟨#[]⟩) := by rw [hw0]; simp [go_sem]
 have k6 : w0.frozen? ⟨w.heap.size + 1 + 1,0,none⟩ = false := by rw [hw0]; simp [go_sem]
 have k7 : w0.frozen? ⟨w.heap.size + 1 + 1,1,none⟩ = false := by rw [hw0]; simp [go_sem]
 have hsz : w0.heap.size = w.heap.size + 3 := by rw [hw0]; simp
 rw [← hw0];have KK := i' (And.intro k0 (And.intro k1 (And.intro k2 (And.intro k3 (And.intro k4 (And.intro k5 (And.intro k6 k7)))))));have Hsz := i' hsz;clear k0 k1 k2 k3 k4 k5 k6 k7 hw0 hsz;refine (HA.out _).mono ?_;rintro e wa ⟨rfl,hba⟩;have q2 := k'4i hba KK.out.2.2.1;have q3 := k'4i hba KK.out.2.2.2.1;have HBa := i' hba;clear hba;go_wp2_with fail;refine (HB.out _).mono ?_;rintro e wb ⟨rfl,hbb⟩;have hbc := k'4h HBa.out hbb;have k0 := k'4i hbc KK.out.1;have k1 := k'4i hbc KK.out.2.1;have k2 := k'4i hbc KK.out.2.2.1;have k3 := k'4i hbc KK.out.2.2.2.1;have k4 := k'4i hbc KK.out.2.2.2.2.1;have k5 := k'4i hbc KK.out.2.2.2.2.2.1;have k6 := k'4j hbc KK.out.2.2.2.2.1 KK.out.2.2.2.2.2.2.1;have k7 := k'4j hbc KK.out.2.2.2.2.2.1 KK.out.2.2.2.2.2.2.2;have HBc := i' hbc;have n1 : ¬ (w.heap.size = w.heap.size + 1 + 1) := by omega
 have n2 : ¬ (w.heap.size + 1 + 1 = w.heap.size) := by omega
 clear q2 q3 hbb hbc;go_wp2_with fail;have hfl := k'5i;go_region_held3 (fun W' => W'.cell? ⟨w.heap.size,0,none⟩ = some (.bool a) ∧ W'.cell? ⟨w.heap.size,1,none⟩ = some (.string s) ∧ W'.cell? ⟨w.heap.size + 1,0,none⟩ = some (.bool b) ∧ W'.cell? ⟨w.heap.size + 1,1,none⟩ = some (.string t)) (go_keep)
  (first
   | (go_at_call 135; (with_reducible refine (HR1.out _).mono ?_); rintro e w1 ⟨v1,rfl,r1,b1⟩; have c1 := k'4h ((Below.refl _ _).drew) b1; have p0 := k'4i c1 k0; have p1 := k'4i c1 k1; have p2 := k'4i c1 k2; have p3 := k'4i c1 k3; have G1 := i' (And.intro r1 c1); obtain ⟨x1,x2,x3,x4,rfl,x5⟩ := r1; clear x5 b1 c1)
   | (go_at_call 135; (with_reducible refine (HR2.out _).mono ?_); rintro e w2 ⟨v2,rfl,r2,b2⟩; have c2 := k'4h G1.out.2 b2; have p0 := k'4i c2 k0; have p1 := k'4i c2 k1; have p2 := k'4i c2 k2; have p3 := k'4i c2 k3; have G2 := i' (And.intro (G1.out.1.below b2 (Nat.le_refl _)) (And.intro r2 c2)); obtain ⟨x6,x7,x8,x9,rfl,x10⟩ := r2; clear x10 b2 c2)
   | (go_at_call 143; (with_reducible refine (HP2.out _ _ _ G2.out.1 G2.out.2.1).mono ?_); rintro e w3 ⟨v3,rfl,r3,b3⟩; have c3 := k'4h G2.out.2.2 b3; have p0 := k'4i c3 k0; have p1 := k'4i c3 k1; have p2 := k'4i c3 k2; have p3 := k'4i c3 k3; have G3 := i' (And.intro r3 c3); obtain ⟨p9,b9,o9,c9,rfl,hr9⟩ := r3; clear hr9 b3 c3)
   | (go_at_call 139; (with_reducible refine (HW.out _ _ G3.out.1).mono ?_); rintro e w4 ⟨rfl,b4⟩; have c4 := k'4h G3.out.2 b4; have p0 := k'4i c4 k0; have p1 := k'4i c4 k1; have p2 := k'4i c4 k2; have p3 := k'4i c4 k3; have p4 := k'4i c4 k4; have p5 := k'4i c4 k5; have p6 := k'4j c4 k4 k6; have p7 := k'4j c4 k5 k7; have G4 := i' c4; clear b4 c4))
 have HZ := i' (((k'4h (k'4h hb0.out HBc.out) G4.out).setCell (p := ⟨w.heap.size + 1 + 1,0,none⟩) (by simp; omega) (.bool rb)).setCell (p := ⟨w.heap.size + 1 + 1,1,none⟩) (by simp; omega) (.string rs))
 go_wp2;exact bodyPost_ret (v := .tuple #[.agg #[.bool rb,.string rs],.int .i64 rc]) (by simp [results,Tryz.results127,go_sem,p4,p5]) rfl ⟨rfl,HZ.out⟩
theorem k'5m {g : Nat} (h0 : g ≠ 0) (h : g < W) : Nm.dg W g = [g] := by
 have := Nm.eq_dg W2 (l := [g]) (Nm.dig_cons.2 ⟨h,Nm.dig_nil W⟩) h0;rw [show Nm.val W [g] = g by simp [Nm.val]] at this
 exact this.symm
theorem k'5n (v1 v2 : Value) (m : Nat) (w : World) (sw : Bool) (h1 : Rd w v1 (Nm.dg W m)) (h2 : Rd w v2 []) (l1 : (Nm.dg W m).length ≤ 1000000000) (hm : sw = true → 0 < m) :
 Calls Tryz.prog 143 (if sw = true then #[v2,v1] else #[v1,v2]) w (Gives m w) := by
 have HR := i' h1;have d2 : Nm.Dig W [] := Nm.dig_nil W
 cases sw with
 | false =>
  have HC := i' (k'2v v1 v2 _ _ w h1 h2 l1 (by simp) (Nm.dig_dg W2 m) d2 (Nm.nrm_dg W2 m) trivial)
  have hc0 : 0 ≤ cmpN (Nm.val W (Nm.dg W m)) (Nm.val W []) := k'2y (Nat.zero_le _);generalize cmpN (Nm.val W (Nm.dg W m)) (Nm.val W []) = cc at *;obtain ⟨p2,b2,o2,c2,rfl,hr2⟩ := h2;clear hr2 h1;simp only [Bool.false_eq_true,if_false];go_enter Tryz.func143,Tryz.ntmps143;go_wp2_with fail;refine HC.out.mono ?_;rintro e w' ⟨rfl,n,rfl⟩;go_wp2;go_ret;exact ⟨_,rfl,HR.out.drewN n,k'2w (Below.refl _ _) n⟩
 | true =>
  have HC := i' (k'2v v2 v1 _ _ w h2 h1 (by simp) l1 d2 (Nm.dig_dg W2 m) trivial (Nm.nrm_dg W2 m))
  rw [Nm.val_dg W2,k'2p (show Nm.val W [] < m from hm rfl)] at HC;obtain ⟨p2,b2,o2,c2,rfl,hr2⟩ := h2;clear hr2 h1;simp only [if_true];go_enter Tryz.func143,Tryz.ntmps143;go_wp2_with fail;refine HC.out.mono ?_;rintro e w' ⟨rfl,n,rfl⟩;go_wp2;go_ret;exact ⟨_,rfl,HR.out.drewN n,k'2w (Below.refl _ _) n⟩
theorem k'5o (v1 v2 : Value) (m x : Nat) (w : World) (sw : Bool) (h1 : Rd w v1 (Nm.dg W m)) (h2 : Rd w v2 [x]) (l1 : (Nm.dg W m).length ≤ 1000000000) (hx : x < W) (hx0 : 0 < x) (hm : x ≤ m) (hsw : sw = true → x < m) :
 Calls Tryz.prog 143 (if sw = true then #[v2,v1] else #[v1,v2]) w (Gives (Nat.gcd m x) w) := by
 have d2 : Nm.Dig W [x] := Nm.dig_cons.2 ⟨hx,Nm.dig_nil W⟩;have hvx : Nm.val W [x] = x := by simp [Nm.val]
 have HRm := i' (fun W' (hb : Below w.heap.size w W') => k'2n v1 _ x W' (h1.below hb (Nat.le_refl _)) l1 (Nm.dig_dg W2 m) hx hx0);rw [Nm.val_dg W2] at HRm;have hmod := Nat.mod_lt m hx0;have HCw := i' (fun W' => k'2o x (m % x) W' hx (Nat.lt_trans hmod hx));have hgcd : Nat.gcd x (m % x) = Nat.gcd m x := by rw [Nat.gcd_comm x,← Nat.gcd_rec,Nat.gcd_comm]
 rw [hgcd] at HCw;have hg0 : Nat.gcd m x ≠ 0 := fun h => by have := Nat.eq_zero_of_gcd_eq_zero_right h; omega
 have hgW : Nat.gcd m x < W := Nat.lt_of_le_of_lt (Nat.gcd_le_right m hx0) hx;have HD := i' (k'5m hg0 hgW);have HC1 := k'2v v1 v2 _ _ w h1 h2 l1 (by simp) (Nm.dig_dg W2 m) d2 (Nm.nrm_dg W2 m) (show x ≠ 0 by omega)
 have HC2 := k'2v v2 v1 _ _ w h2 h1 (by simp) l1 d2 (Nm.dig_dg W2 m) (show x ≠ 0 by omega) (Nm.nrm_dg W2 m)
 rw [Nm.val_dg W2,hvx] at HC1 HC2;have H1 := i' h1;clear h1;obtain ⟨p2,b2,o2,c2,rfl,_,_,hp2,_,hx2⟩ := h2;obtain rfl := hp2 (by simp)
 have e2 := hx2 0 (by simp)
 simp only [List.getElem_cons_zero,Nat.add_zero,List.length_singleton] at e2;simp only [List.length_singleton] at HC1 HC2 ⊢;generalize Nat.gcd m x = g at *;generalize m % x = rm at *;clear hp2 hx2 hgcd hg0 hgW hmod hvx d2;have Hcc0 : Hid (∃ cc : Int,((sw = true ∧ cc < 0) ∨ (sw = false ∧ 0 ≤ cc)) ∧ Calls Tryz.prog 151 (if sw = true then #[.slice (some ⟨b2,o2,none⟩) 1 c2,v1] else #[v1,.slice (some ⟨b2,o2,none⟩) 1 c2]) w (CmpPost cc w)) := by
  cases sw with
  | false => exact ⟨_,Or.inr ⟨rfl,k'2y hm⟩,HC1⟩
  | true => exact ⟨_,Or.inl ⟨rfl,by rw [k'2p (hsw rfl)]; decide⟩,HC2⟩
 clear HC1 HC2 hm hsw;obtain ⟨cc,hcc,hcall⟩ := Hcc0.out;clear Hcc0;have HC := i' hcall;clear hcall;obtain ⟨p1,b1,o1,c1,hv1,hr1⟩ := H1.out;clear hr1;generalize (Nm.dg W m).length = len1 at *;subst hv1;rcases hcc with ⟨rfl,hcc⟩ | ⟨rfl,hcc⟩
 ·simp only [if_true] at HC ⊢
  go_enter Tryz.func143,Tryz.ntmps143;go_wp2_with fail;refine HC.out.mono ?_;rintro e w' ⟨rfl,n,rfl⟩;have e3 : (w.drewN n).cell? ⟨b2,o2,none⟩ = some (.int .u64 (x : Int)) := e2;go_wp2_with fail;go_region_held3 (fun W' => W'.cell? ⟨b2,o2,none⟩ = some (.int .u64 (x : Int))) (go_keep)
   (first
    | (go_at_call 156; (with_reducible refine (HRm.out _ ?_).mono ?_); (exact k'2w (Below.refl _ _) _); rintro e w1 ⟨rfl,n1,rfl⟩)
    | (go_at_call 155; (with_reducible refine (HCw.out _).mono ?_); rintro e w1 ⟨rfl,n1,rfl⟩))
  go_wp2;go_ret;exact ⟨_,rfl,by rw [HD.out]; exact Rd.one (w.drewN _) g,(k'2w (Below.refl w.heap.size w) _).alloc (Nat.le_refl _) _⟩
 ·simp only [Bool.false_eq_true,if_false] at HC ⊢
  go_enter Tryz.func143,Tryz.ntmps143;go_wp2_with fail;refine HC.out.mono ?_;rintro e w' ⟨rfl,n,rfl⟩;have e3 : (w.drewN n).cell? ⟨b2,o2,none⟩ = some (.int .u64 (x : Int)) := e2;go_wp2_with fail;go_region_held3 (fun W' => W'.cell? ⟨b2,o2,none⟩ = some (.int .u64 (x : Int))) (go_keep)
   (first
    | (go_at_call 156; (with_reducible refine (HRm.out _ ?_).mono ?_); (exact k'2w (Below.refl _ _) _); rintro e w1 ⟨rfl,n1,rfl⟩)
    | (go_at_call 155; (with_reducible refine (HCw.out _).mono ?_); rintro e w1 ⟨rfl,n1,rfl⟩))
  go_wp2;go_ret;exact ⟨_,rfl,by rw [HD.out]; exact Rd.one (w.drewN _) g,(k'2w (Below.refl w.heap.size w) _).alloc (Nat.le_refl _) _⟩
theorem k'5p (m n : Nat) (h : m < W ∨ n < W) (l1 : (Nm.dg W m).length ≤ 1000000000) (l2 : (Nm.dg W n).length ≤ 1000000000) : GcdOK m n := by
 intro v1 v2 w h1 h2;rcases Nat.lt_or_ge m n with g | g
 ·rcases Nat.eq_zero_or_pos m with h0 | h0
  ·subst h0
   rw [Nat.gcd_zero_left];exact k'5n v2 v1 n w true h2 h1 l2 (fun _ => g)
  ·have hm : m < W := by omega
   rw [k'5m (by omega) hm] at h1
   rw [Nat.gcd_comm];exact k'5o v2 v1 n m w true h2 h1 l2 hm h0 (Nat.le_of_lt g) (fun _ => g)
 ·rcases Nat.eq_zero_or_pos n with h0 | h0
  ·subst h0
   rw [Nat.gcd_zero_right];exact k'5n v1 v2 m w false h1 h2 l1 (fun h => by cases h)
  ·have hn : n < W := by omega
   rw [k'5m (by omega) hn] at h2
   exact k'5o v1 v2 m n w false h1 h2 l1 hn h0 g (fun h => by cases h)
def DivOK (m n : Nat) : Prop := ∀ v1 v2 w,Rd w v1 (Nm.dg W m) → Rd w v2 (Nm.dg W n) → Calls Tryz.prog 146 #[v1,v2] w (DivPost m n w)
theorem k'5q (m n : Nat) (h0 : 0 < n) (h : m < n ∨ n < W) (l1 : (Nm.dg W m).length ≤ 1000000000) (l2 : (Nm.dg W n).length ≤ 1000000000) : DivOK m n := by
 intro v1 v2 w h1 h2;rcases Nat.lt_or_ge m n with g | g
 ·have := k'2x v1 v2 _ _ w h1 h2 l1 l2 (Nm.dig_dg W2 m) (Nm.dig_dg W2 n) (Nm.nrm_dg W2 m) (Nm.nrm_dg W2 n) (by rw [Nm.val_dg W2,Nm.val_dg W2]; exact g)
  rwa [Nm.val_dg W2,Nm.val_dg W2] at this
 ·have hn : n < W := by rcases h with h | h; omega; exact h
  rw [k'5m (by omega) hn] at h2
  have := k'2z v1 v2 _ n w h1 h2 l1 (Nm.dig_dg W2 m) hn h0 (Nm.nrm_dg W2 m) (by rw [Nm.val_dg W2]; exact g)
  rwa [Nm.val_dg W2] at this
def eq1 (a : Bool) (m n : Nat) : Nat := if a = true ∧ m % n ≠ 0 then m / n + 1 else m / n
def er1 (a : Bool) (m n : Nat) : Nat := if a = true ∧ m % n ≠ 0 then n - m % n else m % n
def QPost (s : Bool) (q r : Nat) (w : World) (e : Ending) (w' : World) : Prop :=
 ∃ p1 n1 c1 p2 n2 c2,e = .returned (.tuple #[.agg #[.bool s,.slice p1 n1 c1],.agg #[.bool false,.slice p2 n2 c2]]) ∧ Rd w' (.slice p1 n1 c1) (Nm.dg W q) ∧ Rd w' (.slice p2 n2 c2) (Nm.dg W r) ∧ Below w.heap.size w w'
theorem Rd.form {w : World} {v : Value} {xs : List Nat} (h : Rd w v xs) : ∃ p n c,v = .slice p n c := by
 obtain ⟨p,_,_,c,h,_⟩ := h;exact ⟨p,_,c,h⟩
theorem k'5r (a b : Bool) (v1 v2 : Value) (m n : Nat) (w : World) (hd : DivOK m n) (h0 : 0 < n) (h1 : Rd w v1 (Nm.dg W m)) (h2 : Rd w v2 (Nm.dg W n)) (l1 : (Nm.dg W m).length ≤ 1000000000) (l2 : (Nm.dg W n).length ≤ 1000000000) :
 Calls Tryz.prog 157 #[.agg #[.bool a,v1],.agg #[.bool b,v2]] w (QPost (a != b) (eq1 a m n) (er1 a m n) w) := by
 have HD := i' (fun W' (hb : Below w.heap.size w W') => hd v1 v2 W' (h1.below hb (Nat.le_refl _)) (h2.below hb (Nat.le_refl _)));have HV2 := i' (fun W' (hb : Below w.heap.size w W') => h2.below hb (Nat.le_refl _));have hlt := Nat.mod_lt m h0;have d1 : Nm.Dig W [1] := by rw [← k'5g]; exact Nm.dig_dg W2 1
 have e1 : Nm.val W [1] = 1 := by simp [Nm.val]
 have HA := i' (fun W' u1 u2 (g1 : Rd W' u1 (Nm.dg W (m / n))) (g2 : Rd W' u2 [1]) => k'x u1 u2 _ [1] W' g1 g2 (Nat.le_trans (k'5h (Nat.div_le_self _ _)) l1) (by simp) (Nm.dig_dg W2 _) d1)
 have HS := i' (fun W' u1 u2 (g1 : Rd W' u1 (Nm.dg W n)) (g2 : Rd W' u2 (Nm.dg W (m % n))) => k'3k u1 u2 _ _ W' g1 g2 l2 (Nm.dig_dg W2 _) (Nm.dig_dg W2 _) (Nm.nrm_dg W2 _) (by rw [Nm.val_dg W2,Nm.val_dg W2]; omega))
 rw [Nm.val_dg W2,e1] at HA;rw [Nm.val_dg W2,Nm.val_dg W2] at HS;have HZero : Hid (m % n = 0 ∨ 0 < (Nm.dg W (m % n)).length) := by
  rcases Nat.eq_zero_or_pos (m % n) with h | h
  ·exact Or.inl h
  ·refine Or.inr ?_
   rcases Nat.eq_zero_or_pos (Nm.dg W (m % n)).length with g | g
   ·have := Nm.val_dg W2 (m % n)
    rw [List.eq_nil_of_length_eq_zero g] at this;simp only [Nm.val] at this; omega
   ·exact g
 obtain ⟨p1,n1,c1,rfl⟩ := h1.form;obtain ⟨p2,n2,c2,rfl⟩ := h2.form;obtain ⟨w0,hw0⟩ : ∃ w0 : World,w0 = (((w.alloc (.cells #[.bool a,.slice p1 n1 c1] 143)).alloc (.cells #[.bool b,.slice p2 n2 c2] 143)).alloc (.cells #[.bool false,.slice none 0 0] 143)).alloc (.cells #[.bool false,.slice none 0 0] 143) := ⟨_,rfl⟩;have hb0 : Hid (Below w.heap.size w w0) := by rw [hw0]; exact ((((Below.refl _ _).alloc (Nat.le_refl _) _).alloc (by simp) _).alloc (by simp; omega) _).alloc (by simp; omega) _
 have k0 : w0.cell? ⟨w.heap.size,0,none⟩ = some (.bool a) := by rw [hw0]; simp [go_sem]
 have k2 : w0.cell? ⟨w.heap.size + 1,0,none⟩ = some (.bool b) := by rw [hw0]; simp [go_sem]
 have k3 : w0.cell? ⟨w.heap.size + 1,1,none⟩ = some (.slice p2 n2 c2) := by rw [hw0]; simp [go_sem]
 have k4 : w0.cell? ⟨w.heap.size + 1 + 1,0,none⟩ = some (.bool false) := by rw [hw0]; simp [go_sem]
 have k5 : w0.cell? ⟨w.heap.size + 1 + 1,1,none⟩ = some (.slice none 0 0) := by rw [hw0]; simp [go_sem]
 have k6 : w0.frozen? ⟨w.heap.size + 1 + 1,0,none⟩ = false := by rw [hw0]; simp [go_sem]
 have k7 : w0.frozen? ⟨w.heap.size + 1 + 1,1,none⟩ = false := by rw [hw0]; simp [go_sem]
 have k8 : w0.cell? ⟨w.heap.size + 1 + 1 + 1,0,none⟩ = some (.bool false) := by rw [hw0]; simp [go_sem]
 have k9 : w0.cell? ⟨w.heap.size + 1 + 1 + 1,1,none⟩ = some (.slice none 0 0) := by rw [hw0]; simp [go_sem]
 have k10 : w0.frozen? ⟨w.heap.size + 1 + 1 + 1,0,none⟩ = false := by rw [hw0]; simp [go_sem]
 have k11 : w0.frozen? ⟨w.heap.size + 1 + 1 + 1,1,none⟩ = false := by rw [hw0]; simp [go_sem]
 have KK := i' (And.intro k0 (And.intro k2 (And.intro k3 (And.intro k4 (And.intro k5 (And.intro k6 (And.intro k7 (And.intro k8 (And.intro k9 (And.intro k10 k11))))))))));have Hw0 := i' hw0;clear k0 k2 k3 k4 k5 k6 k7 k8 k9 k10 k11 hw0 h1 h2 hd e1 d1 hlt;have HE1 : Hid (a = true → m % n ≠ 0 → eq1 a m n = m / n + 1 ∧ er1 a m n = n - m % n) := fun ha hm => ⟨if_pos ⟨ha,hm⟩,if_pos ⟨ha,hm⟩⟩;have HE2 : Hid ((a = false ∨ m % n = 0) → eq1 a m n = m / n ∧ er1 a m n = m % n) := fun h => by
  have : ¬ (a = true ∧ m % n ≠ 0) := fun ⟨h1,h2⟩ => by
   rcases h with h | h
   ·rw [h] at h1; cases h1
   ·exact h2 h
  exact ⟨if_neg this,if_neg this⟩
 generalize eq1 a m n = Q at *;generalize er1 a m n = R at *;go_enter Tryz.func157,Tryz.ntmps157;go_wp2_with fail;rw [← Hw0.out];refine (HD.out _ hb0.out).mono ?_;rintro e wa ⟨u1,u2,rfl,r1,r2,b1⟩;generalize m / n = dq at *;generalize m % n = dr at *;have q0 := k'4i b1 KK.out.1;have q2 := k'4i b1 KK.out.2.1;have q3 := k'4i b1 KK.out.2.2.1;have R1 := i' r1;have R2 := i' r2;have B1 := i' b1;obtain ⟨y1,y2,y3,hy⟩ := r1.form;obtain ⟨y4,y5,y6,hy2,hy3⟩ : ∃ p c,∃ n : Nat,u2 = .slice p n c ∧ n = (Nm.dg W dr).length := by
  obtain ⟨p,_,_,c,h,_⟩ := r2;exact ⟨p,c,_,h,rfl⟩
 subst hy hy2;clear r1 r2 b1;by_cases hc : a = true ∧ 0 < y6
 ·obtain ⟨ha,hp⟩ := hc
  subst ha;have hne : dr ≠ 0 := fun h => by rw [h] at hy3; simp [Nm.dg_zero] at hy3; omega
  obtain ⟨E1,E2⟩ := HE1.out rfl hne;have HE := i' (And.intro E1 E2);have hp2 : (0 : Int) < (y6 : Int) := by omega
  clear E1 E2 hne hy3;have n1' : True := trivial;go_wp2_with fail;refine (HA.out _ _ _ (R1.out.below ((Below.refl _ _).alloc (Nat.le_refl _) _) (Nat.le_refl _)) (Rd.one wa 1)).mono ?_;rintro e w3 ⟨v3,rfl,r3,b3⟩;have b4 := k'4h ((Below.refl wa.heap.size wa).alloc (Nat.le_refl _) (.cells #[.int .u64 1] 129)) b3;have b5 := k'4h B1.out b4;have p3 := k'4i b5 KK.out.2.2.1;have R3 := i' r3;have R4 := i' (R2.out.below b4 (Nat.le_refl _));have B5 := i' b5;obtain ⟨z1,z2,z3,hz⟩ := r3.form;subst hz;clear r3 b3 b4 b5 q3;go_wp2_with fail;refine (HS.out _ _ _ (HV2.out _ (k'4h hb0.out B5.out)) R4.out).mono ?_;rintro e w5 ⟨v5,rfl,r5,b6⟩;have b9 := k'4h B5.out b6;have R5 := i' r5;have R6 := i' (R3.out.below b6 (Nat.le_refl _));obtain ⟨z4,z5,z6,hz⟩ := r5.form;subst hz;clear r5 b6 p3 q0 q2
  cases b with
  | false =>
   have q0 := k'4i b9 KK.out.1;have q2 := k'4i b9 KK.out.2.1;have q4 := k'4i b9 KK.out.2.2.2.1;have q5 := k'4i b9 KK.out.2.2.2.2.1;have q6 := k'4j b9 KK.out.2.2.2.1 KK.out.2.2.2.2.2.1;have q7 := k'4j b9 KK.out.2.2.2.2.1 KK.out.2.2.2.2.2.2.1;have q8 := k'4i b9 KK.out.2.2.2.2.2.2.2.1;have q9 := k'4i b9 KK.out.2.2.2.2.2.2.2.2.1;have q10 := k'4j b9 KK.out.2.2.2.2.2.2.2.1 KK.out.2.2.2.2.2.2.2.2.2.1;have q11 := k'4j b9 KK.out.2.2.2.2.2.2.2.2.1 KK.out.2.2.2.2.2.2.2.2.2.2;have HF := i' (fun (x : Value) (xs : List Nat) (h : Rd w5 x xs) => ((((h.setCell q4 (fun n => by simp) (.bool true)).setCell (a := ⟨w.heap.size + 1 + 1,1,none⟩) (u0 := .slice none 0 0) (by simp [go_sem,q5]) (fun n => by simp) (.slice z1 z2 z3)).setCell (a := ⟨w.heap.size + 1 + 1 + 1,0,none⟩) (u0 := .bool false) (by simp [go_sem,q8]) (fun n => by simp) (.bool false)).setCell (a := ⟨w.heap.size + 1 + 1 + 1,1,none⟩) (u0 := .slice none 0 0) (by simp [go_sem,q9]) (fun n => by simp) (.slice z4 z5 z6)))
   have HZ := i' (((((k'4h hb0.out b9).setCell (p := ⟨w.heap.size + 1 + 1,0,none⟩) (by simp; omega) (.bool true)).setCell (p := ⟨w.heap.size + 1 + 1,1,none⟩) (by simp; omega) (.slice z1 z2 z3)).setCell (p := ⟨w.heap.size + 1 + 1 + 1,0,none⟩) (by simp; omega) (.bool false)).setCell (p := ⟨w.heap.size + 1 + 1 + 1,1,none⟩) (by simp; omega) (.slice z4 z5 z6))
   clear b9;go_wp2;exact bodyPost_ret (v := .tuple #[.agg #[.bool true,(.slice z1 z2 z3)],.agg #[.bool false,(.slice z4 z5 z6)]]) (by simp [results,Tryz.results157,go_sem,q4,q5,q8,q9]) rfl ⟨_,_,_,_,_,_,rfl,HF.out _ _ (by rw [HE.out.1]; exact R6.out),HF.out _ _ (by rw [HE.out.2]; exact R5.out),HZ.out⟩
  | true =>
   have q0 := k'4i b9 KK.out.1;have q2 := k'4i b9 KK.out.2.1;have q4 := k'4i b9 KK.out.2.2.2.1;have q5 := k'4i b9 KK.out.2.2.2.2.1;have q6 := k'4j b9 KK.out.2.2.2.1 KK.out.2.2.2.2.2.1;have q7 := k'4j b9 KK.out.2.2.2.2.1 KK.out.2.2.2.2.2.2.1;have q8 := k'4i b9 KK.out.2.2.2.2.2.2.2.1;have q9 := k'4i b9 KK.out.2.2.2.2.2.2.2.2.1;have q10 := k'4j b9 KK.out.2.2.2.2.2.2.2.1 KK.out.2.2.2.2.2.2.2.2.2.1;have q11 := k'4j b9 KK.out.2.2.2.2.2.2.2.2.1 KK.out.2.2.2.2.2.2.2.2.2.2;have HF := i' (fun (x : Value) (xs : List Nat) (h : Rd w5 x xs) => ((((h.setCell q4 (fun n => by simp) (.bool false)).setCell (a := ⟨w.heap.size + 1 + 1,1,none⟩) (u0 := .slice none 0 0) (by simp [go_sem,q5]) (fun n => by simp) (.slice z1 z2 z3)).setCell (a := ⟨w.heap.size + 1 + 1 + 1,0,none⟩) (u0 := .bool false) (by simp [go_sem,q8]) (fun n => by simp) (.bool false)).setCell (a := ⟨w.heap.size + 1 + 1 + 1,1,none⟩) (u0 := .slice none 0 0) (by simp [go_sem,q9]) (fun n => by simp) (.slice z4 z5 z6)))
   have HZ := i' (((((k'4h hb0.out b9).setCell (p := ⟨w.heap.size + 1 + 1,0,none⟩) (by simp; omega) (.bool false)).setCell (p := ⟨w.heap.size + 1 + 1,1,none⟩) (by simp; omega) (.slice z1 z2 z3)).setCell (p := ⟨w.heap.size + 1 + 1 + 1,0,none⟩) (by simp; omega) (.bool false)).setCell (p := ⟨w.heap.size + 1 + 1 + 1,1,none⟩) (by simp; omega) (.slice z4 z5 z6))
   clear b9;go_wp2;exact bodyPost_ret (v := .tuple #[.agg #[.bool false,(.slice z1 z2 z3)],.agg #[.bool false,(.slice z4 z5 z6)]]) (by simp [results,Tryz.results157,go_sem,q4,q5,q8,q9]) rfl ⟨_,_,_,_,_,_,rfl,HF.out _ _ (by rw [HE.out.1]; exact R6.out),HF.out _ _ (by rw [HE.out.2]; exact R5.out),HZ.out⟩
 ·have hE2 : a = false ∨ dr = 0 := by
   cases a with
   | false => exact Or.inl rfl
   | true =>
    refine Or.inr ?_;rcases HZero.out with h | h
    ·exact h
    ·exact absurd ⟨rfl,by omega⟩ hc
  obtain ⟨E1,E2⟩ := HE2.out hE2;have HE := i' (And.intro E1 E2);have b9 := B1.out;have HY : Hid (a = true → y6 = 0) := fun h => by
   rcases Nat.eq_zero_or_pos y6 with g | g
   ·exact g
   ·exact absurd ⟨h,g⟩ hc
  clear E1 E2 hE2 hc hy3 q3 q0 q2
  cases a with
  | false =>
   cases b with
   | false =>
    have q0 := k'4i b9 KK.out.1;have q2 := k'4i b9 KK.out.2.1;have q4 := k'4i b9 KK.out.2.2.2.1;have q5 := k'4i b9 KK.out.2.2.2.2.1;have q6 := k'4j b9 KK.out.2.2.2.1 KK.out.2.2.2.2.2.1;have q7 := k'4j b9 KK.out.2.2.2.2.1 KK.out.2.2.2.2.2.2.1;have q8 := k'4i b9 KK.out.2.2.2.2.2.2.2.1;have q9 := k'4i b9 KK.out.2.2.2.2.2.2.2.2.1;have q10 := k'4j b9 KK.out.2.2.2.2.2.2.2.1 KK.out.2.2.2.2.2.2.2.2.2.1;have q11 := k'4j b9 KK.out.2.2.2.2.2.2.2.2.1 KK.out.2.2.2.2.2.2.2.2.2.2;have HF := i' (fun (x : Value) (xs : List Nat) (h : Rd wa x xs) => ((((h.setCell q4 (fun n => by simp) (.bool false)).setCell (a := ⟨w.heap.size + 1 + 1,1,none⟩) (u0 := .slice none 0 0) (by simp [go_sem,q5]) (fun n => by simp) (.slice y1 y2 y3)).setCell (a := ⟨w.heap.size + 1 + 1 + 1,0,none⟩) (u0 := .bool false) (by simp [go_sem,q8]) (fun n => by simp) (.bool false)).setCell (a := ⟨w.heap.size + 1 + 1 + 1,1,none⟩) (u0 := .slice none 0 0) (by simp [go_sem,q9]) (fun n => by simp) (.slice y4 y6 y5)))
    have HZ := i' (((((k'4h hb0.out b9).setCell (p := ⟨w.heap.size + 1 + 1,0,none⟩) (by simp; omega) (.bool false)).setCell (p := ⟨w.heap.size + 1 + 1,1,none⟩) (by simp; omega) (.slice y1 y2 y3)).setCell (p := ⟨w.heap.size + 1 + 1 + 1,0,none⟩) (by simp; omega) (.bool false)).setCell (p := ⟨w.heap.size + 1 + 1 + 1,1,none⟩) (by simp; omega) (.slice y4 y6 y5))
    clear b9;go_wp2;exact bodyPost_ret (v := .tuple #[.agg #[.bool false,(.slice y1 y2 y3)],.agg #[.bool false,(.slice y4 y6 y5)]]) (by simp [results,Tryz.results157,go_sem,q4,q5,q8,q9]) rfl ⟨_,_,_,_,_,_,rfl,HF.out _ _ (by rw [HE.out.1]; exact R1.out),HF.out _ _ (by rw [HE.out.2]; exact R2.out),HZ.out⟩
   | true =>
    have q0 := k'4i b9 KK.out.1;have q2 := k'4i b9 KK.out.2.1;have q4 := k'4i b9 KK.out.2.2.2.1;have q5 := k'4i b9 KK.out.2.2.2.2.1;have q6 := k'4j b9 KK.out.2.2.2.1 KK.out.2.2.2.2.2.1;have q7 := k'4j b9 KK.out.2.2.2.2.1 KK.out.2.2.2.2.2.2.1;have q8 := k'4i b9 KK.out.2.2.2.2.2.2.2.1;have q9 := k'4i b9 KK.out.2.2.2.2.2.2.2.2.1;have q10 := k'4j b9 KK.out.2.2.2.2.2.2.2.1 KK.out.2.2.2.2.2.2.2.2.2.1;have q11 := k'4j b9 KK.out.2.2.2.2.2.2.2.2.1 KK.out.2.2.2.2.2.2.2.2.2.2;have HF := i' (fun (x : Value) (xs : List Nat) (h : Rd wa x xs) => ((((h.setCell q4 (fun n => by simp) (.bool true)).setCell (a := ⟨w.heap.size + 1 + 1,1,none⟩) (u0 := .slice none 0 0) (by simp [go_sem,q5]) (fun n => by simp) (.slice y1 y2 y3)).setCell (a := ⟨w.heap.size + 1 + 1 + 1,0,none⟩) (u0 := .bool false) (by simp [go_sem,q8]) (fun n => by simp) (.bool false)).setCell (a := ⟨w.heap.size + 1 + 1 + 1,1,none⟩) (u0 := .slice none 0 0) (by simp [go_sem,q9]) (fun n => by simp) (.slice y4 y6 y5)))
    have HZ := i' (((((k'4h hb0.out b9).setCell (p := ⟨w.heap.size + 1 + 1,0,none⟩) (by simp; omega) (.bool true)).setCell (p := ⟨w.heap.size + 1 + 1,1,none⟩) (by simp; omega) (.slice y1 y2 y3)).setCell (p := ⟨w.heap.size + 1 + 1 + 1,0,none⟩) (by simp; omega) (.bool false)).setCell (p := ⟨w.heap.size + 1 + 1 + 1,1,none⟩) (by simp; omega) (.slice y4 y6 y5))
    clear b9;go_wp2;exact bodyPost_ret (v := .tuple #[.agg #[.bool true,(.slice y1 y2 y3)],.agg #[.bool false,(.slice y4 y6 y5)]]) (by simp [results,Tryz.results157,go_sem,q4,q5,q8,q9]) rfl ⟨_,_,_,_,_,_,rfl,HF.out _ _ (by rw [HE.out.1]; exact R1.out),HF.out _ _ (by rw [HE.out.2]; exact R2.out),HZ.out⟩
  | true =>
   have hy6 := HY.out rfl;subst hy6
   cases b with
   | false =>
    have q0 := k'4i b9 KK.out.1;have q2 := k'4i b9 KK.out.2.1;have q4 := k'4i b9 KK.out.2.2.2.1;have q5 := k'4i b9 KK.out.2.2.2.2.1;have q6 := k'4j b9 KK.out.2.2.2.1 KK.out.2.2.2.2.2.1;have q7 := k'4j b9 KK.out.2.2.2.2.1 KK.out.2.2.2.2.2.2.1;have q8 := k'4i b9 KK.out.2.2.2.2.2.2.2.1;have q9 := k'4i b9 KK.out.2.2.2.2.2.2.2.2.1;have q10 := k'4j b9 KK.out.2.2.2.2.2.2.2.1 KK.out.2.2.2.2.2.2.2.2.2.1;have q11 := k'4j b9 KK.out.2.2.2.2.2.2.2.2.1 KK.out.2.2.2.2.2.2.2.2.2.2;have HF := i' (fun (x : Value) (xs : List Nat) (h : Rd wa x xs) => ((((h.setCell q4 (fun n => by simp) (.bool true)).setCell (a := ⟨w.heap.size + 1 + 1,1,none⟩) (u0 := .slice none 0 0) (by simp [go_sem,q5]) (fun n => by simp) (.slice y1 y2 y3)).setCell (a := ⟨w.heap.size + 1 + 1 + 1,0,none⟩) (u0 := .bool false) (by simp [go_sem,q8]) (fun n => by simp) (.bool false)).setCell (a := ⟨w.heap.size + 1 + 1 + 1,1,none⟩) (u0 := .slice none 0 0) (by simp [go_sem,q9]) (fun n => by simp) (.slice y4 0 y5)))
    have HZ := i' (((((k'4h hb0.out b9).setCell (p := ⟨w.heap.size + 1 + 1,0,none⟩) (by simp; omega) (.bool true)).setCell (p := ⟨w.heap.size + 1 + 1,1,none⟩) (by simp; omega) (.slice y1 y2 y3)).setCell (p := ⟨w.heap.size + 1 + 1 + 1,0,none⟩) (by simp; omega) (.bool false)).setCell (p := ⟨w.heap.size + 1 + 1 + 1,1,none⟩) (by simp; omega) (.slice y4 0 y5))
    clear b9;go_wp2;exact bodyPost_ret (v := .tuple #[.agg #[.bool true,(.slice y1 y2 y3)],.agg #[.bool false,(.slice y4 0 y5)]]) (by simp [results,Tryz.results157,go_sem,q4,q5,q8,q9]) rfl ⟨_,_,_,_,_,_,rfl,HF.out _ _ (by rw [HE.out.1]; exact R1.out),HF.out _ _ (by rw [HE.out.2]; exact R2.out),HZ.out⟩
   | true =>
    have q0 := k'4i b9 KK.out.1;have q2 := k'4i b9 KK.out.2.1;have q4 := k'4i b9 KK.out.2.2.2.1;have q5 := k'4i b9 KK.out.2.2.2.2.1;have q6 := k'4j b9 KK.out.2.2.2.1 KK.out.2.2.2.2.2.1;have q7 := k'4j b9 KK.out.2.2.2.2.1 KK.out.2.2.2.2.2.2.1;have q8 := k'4i b9 KK.out.2.2.2.2.2.2.2.1;have q9 := k'4i b9 KK.out.2.2.2.2.2.2.2.2.1;have q10 := k'4j b9 KK.out.2.2.2.2.2.2.2.1 KK.out.2.2.2.2.2.2.2.2.2.1;have q11 := k'4j b9 KK.out.2.2.2.2.2.2.2.2.1 KK.out.2.2.2.2.2.2.2.2.2.2;have HF := i' (fun (x : Value) (xs : List Nat) (h : Rd wa x xs) => ((((h.setCell q4 (fun n => by simp) (.bool false)).setCell (a := ⟨w.heap.size + 1 + 1,1,none⟩) (u0 := .slice none 0 0) (by simp [go_sem,q5]) (fun n => by simp) (.slice y1 y2 y3)).setCell (a := ⟨w.heap.size + 1 + 1 + 1,0,none⟩) (u0 := .bool false) (by simp [go_sem,q8]) (fun n => by simp) (.bool false)).setCell (a := ⟨w.heap.size + 1 + 1 + 1,1,none⟩) (u0 := .slice none 0 0) (by simp [go_sem,q9]) (fun n => by simp) (.slice y4 0 y5)))
    have HZ := i' (((((k'4h hb0.out b9).setCell (p := ⟨w.heap.size + 1 + 1,0,none⟩) (by simp; omega) (.bool false)).setCell (p := ⟨w.heap.size + 1 + 1,1,none⟩) (by simp; omega) (.slice y1 y2 y3)).setCell (p := ⟨w.heap.size + 1 + 1 + 1,0,none⟩) (by simp; omega) (.bool false)).setCell (p := ⟨w.heap.size + 1 + 1 + 1,1,none⟩) (by simp; omega) (.slice y4 0 y5))
    clear b9;go_wp2;exact bodyPost_ret (v := .tuple #[.agg #[.bool false,(.slice y1 y2 y3)],.agg #[.bool false,(.slice y4 0 y5)]]) (by simp [results,Tryz.results157,go_sem,q4,q5,q8,q9]) rfl ⟨_,_,_,_,_,_,rfl,HF.out _ _ (by rw [HE.out.1]; exact R1.out),HF.out _ _ (by rw [HE.out.2]; exact R2.out),HZ.out⟩
end Go.Proofs.YtepddegphdlbeaaGreat
