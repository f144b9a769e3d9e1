/- What the theorem leans on, part Y2. -/
import Derived.Test.YtepddegphdlbeaaGreatY1
import Derived.Test.YtepddegphdlbeaaGreatY0
import Derived.Test.YtepddegphdlbeaaGreatProg
import Derived.WalkKit
import Derived.WalkSpells
import Derived.WalkLawsBesides
import Derived.Lib.Hide
import Derived.Deep.QuietTactic
import Derived.BigQuiet
import Derived.Shelf.Small.Bits
import Derived.Shelf.Small.Wraps
import Derived.Shelf.Strconv.Itoa0
import Derived.Shelf.Bits.Mul64
import Derived.Ground.Names2Prog
import Derived.Shelf.Slices.SearchI
import Derived.Shelf.Spec.BitsCarry
import Derived.Deep.LoopGhost
import Derived.Deep.RegionHeld3
set_option maxRecDepth 100000
set_option maxHeartbeats 16000000
set_option linter.all false
namespace Go.Proofs.YtepddegphdlbeaaGreat
open Go.RowKit
def NumPost (s : Bool) (k : Nat) (w : World) (e : Ending) (w' : World) : Prop := ∃ v,e = .returned (.agg #[.bool s,v]) ∧ Rd w' v (Nm.dg W k) ∧ Below w.heap.size w w'
theorem k'3l {w : World} {a : Addr} {u : Value} (h : w.cell? a = some u) (v : Value) : (w.setCell a v).cell? a = some v := by
 unfold World.cell? at h ⊢;simp only [World.setCell,Array.getElem?_modify,if_true]
 split at h
 ·next c t f heq =>
  rw [heq]
  split at h
  ·cases h
  ·next hsp =>
   simp only [Option.map_some,hsp];have := (Array.getElem?_eq_some_iff.1 h).1;simp [this]
 ·cases h
theorem Rd.setCell {w : World} {v : Value} {xs : List Nat} (h : Rd w v xs) {a : Addr} {u0 : Value} (ha : w.cell? a = some u0) (hn : ∀ n,u0 ≠ .int .u64 n) (u : Value) : Rd (w.setCell a u) v xs := by
 obtain ⟨p,b,o,c,h1,h2,h3,h4,h5,h6⟩ := h;refine ⟨p,b,o,c,h1,h2,h3,h4,by simpa using h5,fun k hk => ?_⟩
 rw [← h6 k hk];refine World.cell?_setCell_other _ _ _ _ (fun e => ?_);rw [e] at ha;exact hn _ (Option.some.inj (ha.symm.trans (h6 k hk)))
theorem k'3m (a : Bool) (v : Value) (m : Nat) (w : World) (h : Rd w v (Nm.dg W m)) :
 Calls Tryz.prog 141 #[.agg #[.bool a,v]] w (NumPost (!a) m w) := by
 have H := i' h;obtain ⟨p,b,o,c,rfl,hrest⟩ := h;clear hrest;generalize (Nm.dg W m).length = len at *;go_enter Tryz.func141,Tryz.ntmps141;go_wp2;refine bodyPost_ret (v := .agg #[.bool (!a),.slice p len c]) (by simp [results,Tryz.results141,go_sem]) rfl ?_
 have hb : Below w.heap.size w ((w.alloc (.cells #[.bool a,.slice p len c] 143)).alloc (.cells #[.bool (!a),.slice p len c] 143)) := ((Below.refl _ _).alloc (Nat.le_refl _) _).alloc (by simp) _
 exact ⟨_,rfl,H.out.below hb (Nat.le_refl _),hb⟩
theorem k'3n (a b : Bool) (v1 v2 : Value) (m n : Nat) (w : World) (h1 : Rd w v1 (Nm.dg W m)) (h2 : Rd w v2 (Nm.dg W n)) (l1 : (Nm.dg W m).length ≤ 1000000000) (l2 : (Nm.dg W n).length ≤ 1000000000) :
 Calls Tryz.prog 142 #[.agg #[.bool a,v1],.agg #[.bool b,v2]] w (NumPost (a != b) (m * n) w) := by
 have HC := fun W' (hb : Below w.heap.size w W') => k'1a v1 v2 _ _ W' (h1.below hb (Nat.le_refl _)) (h2.below hb (Nat.le_refl _)) l1 l2 (Nm.dig_dg W2 m) (Nm.dig_dg W2 n);simp only [Nm.val_dg W2] at HC;have HM := i' HC;clear HC;obtain ⟨p1,b1,o1,c1,rfl,hrest1⟩ := h1;obtain ⟨p2,b2,o2,c2,rfl,hrest2⟩ := h2;clear hrest1 hrest2;generalize (Nm.dg W m).length = len1 at *;generalize (Nm.dg W n).length = len2 at *;go_enter Tryz.func142,Tryz.ntmps142;go_wp2_with fail;obtain ⟨w0,hw0⟩ : ∃ w0 : World,w0 = ((w.alloc (.cells #[.bool a,.slice p1 len1 c1] 143)).alloc (.cells #[.bool b,.slice p2 len2 c2] 143)).alloc (.cells #[.bool false,.slice none 0 0] 143) := ⟨_,rfl⟩;rw [← hw0];have hb0 : Below w.heap.size w w0 := by rw [hw0]; exact (((Below.refl _ _).alloc (Nat.le_refl _) _).alloc (by simp) _).alloc (by simp; omega) _
 have k0 : w0.cell? ⟨w.heap.size,0,none⟩ = some (.bool a) := by rw [hw0]; simp [go_sem]
 have k1 : w0.cell? ⟨w.heap.size,1,none⟩ = some (.slice p1 len1 c1) := by rw [hw0]; simp [go_sem]
 have k2 : w0.cell? ⟨w.heap.size + 1,0,none⟩ = some (.bool b) := by rw [hw0]; simp [go_sem]
 have k3 : w0.cell? ⟨w.heap.size + 1,1,none⟩ = some (.slice p2 len2 c2) := by rw [hw0]; simp [go_sem]
 have k4 : w0.cell? ⟨w.heap.size + 1 + 1,0,none⟩ = some (.bool false) := by rw [hw0]; simp [go_sem]
 have k5 : w0.cell? ⟨w.heap.size + 1 + 1,1,none⟩ = some (.slice none 0 0) := by rw [hw0]; simp [go_sem]
 have k6 : ∀ k,w0.frozen? ⟨w.heap.size + 1 + 1,k,none⟩ = false := fun k => by rw [hw0]; simp [go_sem]
 have n1 : ¬ (w.heap.size = w.heap.size + 1 + 1) := by omega
 have n2 : ¬ (w.heap.size + 1 + 1 = w.heap.size) := by omega
 have hsz : w0.heap.size = w.heap.size + 3 := by rw [hw0]; simp
 clear hw0;go_region_held3 (fun W' => W'.cell? ⟨w.heap.size,0,none⟩ = some (.bool a) ∧ W'.cell? ⟨w.heap.size,1,none⟩ = some (.slice p1 len1 c1) ∧ W'.cell? ⟨w.heap.size + 1,0,none⟩ = some (.bool b) ∧ W'.cell? ⟨w.heap.size + 1,1,none⟩ = some (.slice p2 len2 c2)) (go_keep)
  (first | (go_at_call 153; refine (HM.out _ ?_).mono ?_; (exact hb0.drew); rintro e w' ⟨v,rfl,hrd,hbl⟩; have HR := i' hrd; obtain ⟨p3,b3,o3,c3,rfl,hr3⟩ := hrd; clear hr3; have q0 := (hbl.cell (p := ⟨w.heap.size,0,none⟩) (by simp; omega)).trans k0; have q1 := (hbl.cell (p := ⟨w.heap.size,1,none⟩) (by simp; omega)).trans k1; have q2 := (hbl.cell (p := ⟨w.heap.size + 1,0,none⟩) (by simp; omega)).trans k2; have q3 := (hbl.cell (p := ⟨w.heap.size + 1,1,none⟩) (by simp; omega)).trans k3; have q4 := (hbl.cell (p := ⟨w.heap.size + 1 + 1,0,none⟩) (by simp; omega)).trans k4; have q5 := (hbl.cell (p := ⟨w.heap.size + 1 + 1,1,none⟩) (by simp; omega)).trans k5; have q6 := (hbl.frozen (p := ⟨w.heap.size + 1 + 1,0,none⟩) (by simp; omega)).trans (k6 0); have q7 := (hbl.frozen (p := ⟨w.heap.size + 1 + 1,1,none⟩) (by simp; omega)).trans (k6 1)))
 have hb1 := ((hb0.drew.trans (hbl.mono (by simp; omega))).setCell (p := ⟨w.heap.size + 1 + 1,0,none⟩) (by simp; omega) (.bool (!a == b))).setCell (p := ⟨w.heap.size + 1 + 1,1,none⟩) (by simp; omega) (.slice p3 (Nm.dg W (m * n)).length c3)
 have HB := i' hb1;have HR2 := i' ((HR.out.setCell q4 (fun n => by simp) (.bool (!a == b))).setCell (a := ⟨w.heap.size + 1 + 1,1,none⟩) (u0 := .slice none 0 0) (by simp [go_sem,q5]) (fun n => by simp) (.slice p3 (Nm.dg W (m * n)).length c3))
 clear hb1;go_wp2;exact bodyPost_ret (v := .agg #[.bool (!a == b),.slice p3 (Nm.dg W (m * n)).length c3]) (by simp [results,Tryz.results142,go_sem,q4,q5]) rfl ⟨_,rfl,HR2.out,HB.out⟩
def pls (a : Bool) (m : Nat) (b : Bool) (n : Nat) : Bool × Nat := if a = b then (a,m + n) else if m < n then (b,n - m) else (a,m - n)
theorem k'3o (a : Bool) (v1 v2 : Value) (m n : Nat) (w : World) (h1 : Rd w v1 (Nm.dg W m)) (h2 : Rd w v2 (Nm.dg W n)) (l1 : (Nm.dg W m).length ≤ 1000000000) (l2 : (Nm.dg W n).length ≤ 1000000000) :
 Calls Tryz.prog 140 #[.agg #[.bool a,v1],.agg #[.bool a,v2]] w (NumPost a (m + n) w) := by
 have HC := fun W' (hb : Below w.heap.size w W') => k'x v1 v2 _ _ W' (h1.below hb (Nat.le_refl _)) (h2.below hb (Nat.le_refl _)) l1 l2 (Nm.dig_dg W2 m) (Nm.dig_dg W2 n);simp only [Nm.val_dg W2] at HC;have HM := i' HC;clear HC;obtain ⟨p1,b1,o1,c1,rfl,hrest1⟩ := h1;obtain ⟨p2,b2,o2,c2,rfl,hrest2⟩ := h2;clear hrest1 hrest2;generalize (Nm.dg W m).length = len1 at *;generalize (Nm.dg W n).length = len2 at *;go_enter Tryz.func140,Tryz.ntmps140;go_wp2_with fail;obtain ⟨w0,hw0⟩ : ∃ w0 : World,w0 = ((w.alloc (.cells #[.bool a,.slice p1 len1 c1] 143)).alloc (.cells #[.bool a,.slice p2 len2 c2] 143)).alloc (.cells #[.bool false,.slice none 0 0] 143) := ⟨_,rfl⟩;rw [← hw0];have hb0 : Below w.heap.size w w0 := by rw [hw0]; exact (((Below.refl _ _).alloc (Nat.le_refl _) _).alloc (by simp) _).alloc (by simp; omega) _
 have k0 : w0.cell? ⟨w.heap.size,0,none⟩ = some (.bool a) := by rw [hw0]; simp [go_sem]
 have k1 : w0.cell? ⟨w.heap.size,1,none⟩ = some (.slice p1 len1 c1) := by rw [hw0]; simp [go_sem]
 have k2 : w0.cell? ⟨w.heap.size + 1,0,none⟩ = some (.bool a) := by rw [hw0]; simp [go_sem]
 have k3 : w0.cell? ⟨w.heap.size + 1,1,none⟩ = some (.slice p2 len2 c2) := by rw [hw0]; simp [go_sem]
 have k4 : w0.cell? ⟨w.heap.size + 1 + 1,0,none⟩ = some (.bool false) := by rw [hw0]; simp [go_sem]
 have k5 : w0.cell? ⟨w.heap.size + 1 + 1,1,none⟩ = some (.slice none 0 0) := by rw [hw0]; simp [go_sem]
 have k6 : ∀ k,w0.frozen? ⟨w.heap.size + 1 + 1,k,none⟩ = false := fun k => by rw [hw0]; simp [go_sem]
 have n1 : ¬ (w.heap.size = w.heap.size + 1 + 1) := by omega
 have n2 : ¬ (w.heap.size + 1 + 1 = w.heap.size) := by omega
 have hsz : w0.heap.size = w.heap.size + 3 := by rw [hw0]; simp
 clear hw0;go_region_held3 (fun W' => W'.cell? ⟨w.heap.size,0,none⟩ = some (.bool a) ∧ W'.cell? ⟨w.heap.size,1,none⟩ = some (.slice p1 len1 c1) ∧ W'.cell? ⟨w.heap.size + 1,1,none⟩ = some (.slice p2 len2 c2)) (go_keep)
  (first | (go_at_call 150; refine (HM.out _ ?_).mono ?_; (exact hb0.drew); rintro e w' ⟨v,rfl,hrd,hbl⟩; have HR := i' hrd; obtain ⟨p3,b3,o3,c3,rfl,hr3⟩ := hrd; clear hr3; have q0 := (hbl.cell (p := ⟨w.heap.size,0,none⟩) (by simp; omega)).trans k0; have q1 := (hbl.cell (p := ⟨w.heap.size,1,none⟩) (by simp; omega)).trans k1; have q3 := (hbl.cell (p := ⟨w.heap.size + 1,1,none⟩) (by simp; omega)).trans k3; have q4 := (hbl.cell (p := ⟨w.heap.size + 1 + 1,0,none⟩) (by simp; omega)).trans k4; have q5 := (hbl.cell (p := ⟨w.heap.size + 1 + 1,1,none⟩) (by simp; omega)).trans k5; have q6 := (hbl.frozen (p := ⟨w.heap.size + 1 + 1,0,none⟩) (by simp; omega)).trans (k6 0); have q7 := (hbl.frozen (p := ⟨w.heap.size + 1 + 1,1,none⟩) (by simp; omega)).trans (k6 1)))
 have hb1 := ((hb0.drew.trans (hbl.mono (by simp; omega))).setCell (p := ⟨w.heap.size + 1 + 1,0,none⟩) (by simp; omega) (.bool a)).setCell (p := ⟨w.heap.size + 1 + 1,1,none⟩) (by simp; omega) (.slice p3 (Nm.dg W (m + n)).length c3)
 have HB := i' hb1;have HR2 := i' ((HR.out.setCell q4 (fun n => by simp) (.bool a)).setCell (a := ⟨w.heap.size + 1 + 1,1,none⟩) (u0 := .slice none 0 0) (by simp [go_sem,q5]) (fun n => by simp) (.slice p3 (Nm.dg W (m + n)).length c3))
 clear hb1;go_wp2;exact bodyPost_ret (v := .agg #[.bool a,.slice p3 (Nm.dg W (m + n)).length c3]) (by simp [results,Tryz.results140,go_sem,q4,q5]) rfl ⟨_,rfl,HR2.out,HB.out⟩
theorem k'3p (a b : Bool) (hab : (a == b) = false) (v1 v2 : Value) (m n : Nat) (hmn : n ≤ m) (w : World) (h1 : Rd w v1 (Nm.dg W m)) (h2 : Rd w v2 (Nm.dg W n)) (l1 : (Nm.dg W m).length ≤ 1000000000) (l2 : (Nm.dg W n).length ≤ 1000000000) :
 Calls Tryz.prog 140 #[.agg #[.bool a,v1],.agg #[.bool b,v2]] w (NumPost a (m - n) w) := by
 have HK := i' (fun W' (hb : Below w.heap.size w W') => k'2v v1 v2 _ _ W' (h1.below hb (Nat.le_refl _)) (h2.below hb (Nat.le_refl _)) l1 l2 (Nm.dig_dg W2 m) (Nm.dig_dg W2 n) (Nm.nrm_dg W2 m) (Nm.nrm_dg W2 n));have HC := fun W' (hb : Below w.heap.size w W') => k'3k v1 v2 _ _ W' (h1.below hb (Nat.le_refl _)) (h2.below hb (Nat.le_refl _)) l1 (Nm.dig_dg W2 m) (Nm.dig_dg W2 n) (Nm.nrm_dg W2 n) (by rw [Nm.val_dg W2,Nm.val_dg W2]; exact hmn)
 simp only [Nm.val_dg W2] at HC HK;have hcc := k'2y hmn;generalize cmpN m n = cc at *;have HM := i' HC;clear HC hmn;obtain ⟨p1,b1,o1,c1,rfl,hrest1⟩ := h1;obtain ⟨p2,b2,o2,c2,rfl,hrest2⟩ := h2;clear hrest1 hrest2;generalize (Nm.dg W m).length = len1 at *;generalize (Nm.dg W n).length = len2 at *;go_enter Tryz.func140,Tryz.ntmps140;go_wp2_with fail;obtain ⟨w9,hw9⟩ : ∃ w9 : World,w9 = ((w.alloc (.cells #[.bool a,.slice p1 len1 c1] 143)).alloc (.cells #[.bool b,.slice p2 len2 c2] 143)).alloc (.cells #[.bool false,.slice none 0 0] 143) := ⟨_,rfl⟩;have hb9 : Below w.heap.size w w9 := by rw [hw9]; exact (((Below.refl _ _).alloc (Nat.le_refl _) _).alloc (by simp) _).alloc (by simp; omega) _
 rw [← hw9];refine (HK.out w9 hb9).mono ?_;rintro e w' ⟨rfl,nn,rfl⟩;rw [hw9];rw [hw9] at hb9;clear hw9 w9;go_wp2_with fail;obtain ⟨w0,hw0⟩ : ∃ w0 : World,w0 = (((w.alloc (.cells #[.bool a,.slice p1 len1 c1] 143)).alloc (.cells #[.bool b,.slice p2 len2 c2] 143)).alloc (.cells #[.bool false,.slice none 0 0] 143)).drewN nn := ⟨_,rfl⟩;rw [← hw0];have hb0 : Below w.heap.size w w0 := by rw [hw0]; exact k'2w hb9 nn
 have k0 : w0.cell? ⟨w.heap.size,0,none⟩ = some (.bool a) := by rw [hw0]; simp [go_sem]
 have k1 : w0.cell? ⟨w.heap.size,1,none⟩ = some (.slice p1 len1 c1) := by rw [hw0]; simp [go_sem]
 have k2 : w0.cell? ⟨w.heap.size + 1,0,none⟩ = some (.bool b) := by rw [hw0]; simp [go_sem]
 have k3 : w0.cell? ⟨w.heap.size + 1,1,none⟩ = some (.slice p2 len2 c2) := by rw [hw0]; simp [go_sem]
 have k4 : w0.cell? ⟨w.heap.size + 1 + 1,0,none⟩ = some (.bool false) := by rw [hw0]; simp [go_sem]
 have k5 : w0.cell? ⟨w.heap.size + 1 + 1,1,none⟩ = some (.slice none 0 0) := by rw [hw0]; simp [go_sem]
 have k6 : ∀ k,w0.frozen? ⟨w.heap.size + 1 + 1,k,none⟩ = false := fun k => by rw [hw0]; simp [go_sem]
 have n1 : ¬ (w.heap.size = w.heap.size + 1 + 1) := by omega
 have n2 : ¬ (w.heap.size + 1 + 1 = w.heap.size) := by omega
 have hsz : w0.heap.size = w.heap.size + 3 := by rw [hw0]; simp
 clear hw0 hb9;go_region_held3 (fun W' => W'.cell? ⟨w.heap.size,0,none⟩ = some (.bool a) ∧ W'.cell? ⟨w.heap.size,1,none⟩ = some (.slice p1 len1 c1) ∧ W'.cell? ⟨w.heap.size + 1,1,none⟩ = some (.slice p2 len2 c2)) (go_keep)
  (first | (go_at_call 152; refine (HM.out _ ?_).mono ?_; (exact hb0.drew); rintro e w' ⟨v,rfl,hrd,hbl⟩; have HR := i' hrd; obtain ⟨p3,b3,o3,c3,rfl,hr3⟩ := hrd; clear hr3; have q0 := (hbl.cell (p := ⟨w.heap.size,0,none⟩) (by simp; omega)).trans k0; have q1 := (hbl.cell (p := ⟨w.heap.size,1,none⟩) (by simp; omega)).trans k1; have q3 := (hbl.cell (p := ⟨w.heap.size + 1,1,none⟩) (by simp; omega)).trans k3; have q4 := (hbl.cell (p := ⟨w.heap.size + 1 + 1,0,none⟩) (by simp; omega)).trans k4; have q5 := (hbl.cell (p := ⟨w.heap.size + 1 + 1,1,none⟩) (by simp; omega)).trans k5; have q6 := (hbl.frozen (p := ⟨w.heap.size + 1 + 1,0,none⟩) (by simp; omega)).trans (k6 0); have q7 := (hbl.frozen (p := ⟨w.heap.size + 1 + 1,1,none⟩) (by simp; omega)).trans (k6 1)))
 have hb1 := ((hb0.drew.trans (hbl.mono (by simp; omega))).setCell (p := ⟨w.heap.size + 1 + 1,0,none⟩) (by simp; omega) (.bool a)).setCell (p := ⟨w.heap.size + 1 + 1,1,none⟩) (by simp; omega) (.slice p3 (Nm.dg W (m - n)).length c3)
 have HB := i' hb1;have HR2 := i' ((HR.out.setCell q4 (fun n => by simp) (.bool a)).setCell (a := ⟨w.heap.size + 1 + 1,1,none⟩) (u0 := .slice none 0 0) (by simp [go_sem,q5]) (fun n => by simp) (.slice p3 (Nm.dg W (m - n)).length c3))
 clear hb1;go_wp2;exact bodyPost_ret (v := .agg #[.bool a,.slice p3 (Nm.dg W (m - n)).length c3]) (by simp [results,Tryz.results140,go_sem,q4,q5]) rfl ⟨_,rfl,HR2.out,HB.out⟩
theorem k'3q (a b : Bool) (hab : (a == b) = false) (v1 v2 : Value) (m n : Nat) (hmn : m < n) (w : World) (h1 : Rd w v1 (Nm.dg W m)) (h2 : Rd w v2 (Nm.dg W n)) (l1 : (Nm.dg W m).length ≤ 1000000000) (l2 : (Nm.dg W n).length ≤ 1000000000) :
 Calls Tryz.prog 140 #[.agg #[.bool a,v1],.agg #[.bool b,v2]] w (NumPost b (n - m) w) := by
 have HK := i' (fun W' (hb : Below w.heap.size w W') => k'2v v1 v2 _ _ W' (h1.below hb (Nat.le_refl _)) (h2.below hb (Nat.le_refl _)) l1 l2 (Nm.dig_dg W2 m) (Nm.dig_dg W2 n) (Nm.nrm_dg W2 m) (Nm.nrm_dg W2 n));have HC := fun W' (hb : Below w.heap.size w W') => k'3k v2 v1 _ _ W' (h2.below hb (Nat.le_refl _)) (h1.below hb (Nat.le_refl _)) l2 (Nm.dig_dg W2 n) (Nm.dig_dg W2 m) (Nm.nrm_dg W2 m) (by rw [Nm.val_dg W2,Nm.val_dg W2]; exact Nat.le_of_lt hmn)
 simp only [Nm.val_dg W2] at HC HK;have hcc : cmpN m n < 0 := by rw [k'2p hmn]; decide
 generalize cmpN m n = cc at *;have HM := i' HC;clear HC hmn;obtain ⟨p1,b1,o1,c1,rfl,hrest1⟩ := h1;obtain ⟨p2,b2,o2,c2,rfl,hrest2⟩ := h2;clear hrest1 hrest2;generalize (Nm.dg W m).length = len1 at *;generalize (Nm.dg W n).length = len2 at *;go_enter Tryz.func140,Tryz.ntmps140;go_wp2_with fail;obtain ⟨w9,hw9⟩ : ∃ w9 : World,w9 = ((w.alloc (.cells #[.bool a,.slice p1 len1 c1] 143)).alloc (.cells #[.bool b,.slice p2 len2 c2] 143)).alloc (.cells #[.bool false,.slice none 0 0] 143) := ⟨_,rfl⟩;have hb9 : Below w.heap.size w w9 := by rw [hw9]; exact (((Below.refl _ _).alloc (Nat.le_refl _) _).alloc (by simp) _).alloc (by simp; omega) _
 rw [← hw9];refine (HK.out w9 hb9).mono ?_;rintro e w' ⟨rfl,nn,rfl⟩;rw [hw9];rw [hw9] at hb9;clear hw9 w9;go_wp2_with fail;obtain ⟨w0,hw0⟩ : ∃ w0 : World,w0 = (((((((w.alloc (.cells #[.bool a,.slice p1 len1 c1] 143)).alloc (.cells #[.bool b,.slice p2 len2 c2] 143)).alloc (.cells #[.bool false,.slice none 0 0] 143)).drewN nn).setCell ⟨w.heap.size,0,none⟩ (.bool b)).setCell ⟨w.heap.size,1,none⟩ (.slice p2 len2 c2)).setCell ⟨w.heap.size + 1,0,none⟩ (.bool a)).setCell ⟨w.heap.size + 1,1,none⟩ (.slice p1 len1 c1) := ⟨_,rfl⟩;rw [← hw0];have hb0 : Below w.heap.size w w0 := by rw [hw0]; exact ((((k'2w hb9 nn).setCell (p := ⟨w.heap.size,0,none⟩) (Nat.le_refl _) _).setCell (p := ⟨w.heap.size,1,none⟩) (Nat.le_refl _) _).setCell (p := ⟨w.heap.size + 1,0,none⟩) (by simp) _).setCell (p := ⟨w.heap.size + 1,1,none⟩) (by simp) _
 have k0 : w0.cell? ⟨w.heap.size,0,none⟩ = some (.bool b) := by
  rw [hw0,World.cell?_setCell_other _ _ _ _ (by simp),World.cell?_setCell_other _ _ _ _ (by simp),World.cell?_setCell_other _ _ _ _ (by simp)]
  exact k'3l (u := .bool a) (by simp [go_sem]) _
 have k1 : w0.cell? ⟨w.heap.size,1,none⟩ = some (.slice p2 len2 c2) := by
  rw [hw0,World.cell?_setCell_other _ _ _ _ (by simp),World.cell?_setCell_other _ _ _ _ (by simp)]
  exact k'3l (u := .slice p1 len1 c1) (by simp [go_sem]) _
 have k2 : w0.cell? ⟨w.heap.size + 1,0,none⟩ = some (.bool a) := by
  rw [hw0,World.cell?_setCell_other _ _ _ _ (by simp)]
  exact k'3l (u := .bool b) (by simp [go_sem]) _
 have k3 : w0.cell? ⟨w.heap.size + 1,1,none⟩ = some (.slice p1 len1 c1) := by
  rw [hw0];exact k'3l (u := .slice p2 len2 c2) (by simp [go_sem]) _
 have k4 : w0.cell? ⟨w.heap.size + 1 + 1,0,none⟩ = some (.bool false) := by rw [hw0]; simp [go_sem]
 have k5 : w0.cell? ⟨w.heap.size + 1 + 1,1,none⟩ = some (.slice none 0 0) := by rw [hw0]; simp [go_sem]
 have k6 : ∀ k,w0.frozen? ⟨w.heap.size + 1 + 1,k,none⟩ = false := fun k => by rw [hw0]; simp [go_sem]
 have n1 : ¬ (w.heap.size = w.heap.size + 1 + 1) := by omega
 have n2 : ¬ (w.heap.size + 1 + 1 = w.heap.size) := by omega
 have hsz : w0.heap.size = w.heap.size + 3 := by rw [hw0]; simp
 clear hw0 hb9;go_region_held3 (fun W' => W'.cell? ⟨w.heap.size,0,none⟩ = some (.bool b) ∧ W'.cell? ⟨w.heap.size,1,none⟩ = some (.slice p2 len2 c2) ∧ W'.cell? ⟨w.heap.size + 1,1,none⟩ = some (.slice p1 len1 c1)) (go_keep)
  (first | (go_at_call 152; refine (HM.out _ ?_).mono ?_; (exact hb0.drew); rintro e w' ⟨v,rfl,hrd,hbl⟩; have HR := i' hrd; obtain ⟨p3,b3,o3,c3,rfl,hr3⟩ := hrd; clear hr3; have q0 := (hbl.cell (p := ⟨w.heap.size,0,none⟩) (by simp; omega)).trans k0; have q1 := (hbl.cell (p := ⟨w.heap.size,1,none⟩) (by simp; omega)).trans k1; have q3 := (hbl.cell (p := ⟨w.heap.size + 1,1,none⟩) (by simp; omega)).trans k3; have q4 := (hbl.cell (p := ⟨w.heap.size + 1 + 1,0,none⟩) (by simp; omega)).trans k4; have q5 := (hbl.cell (p := ⟨w.heap.size + 1 + 1,1,none⟩) (by simp; omega)).trans k5; have q6 := (hbl.frozen (p := ⟨w.heap.size + 1 + 1,0,none⟩) (by simp; omega)).trans (k6 0); have q7 := (hbl.frozen (p := ⟨w.heap.size + 1 + 1,1,none⟩) (by simp; omega)).trans (k6 1)))
 have hb1 := ((hb0.drew.trans (hbl.mono (by simp; omega))).setCell (p := ⟨w.heap.size + 1 + 1,0,none⟩) (by simp; omega) (.bool b)).setCell (p := ⟨w.heap.size + 1 + 1,1,none⟩) (by simp; omega) (.slice p3 (Nm.dg W (n - m)).length c3)
 have HB := i' hb1;have HR2 := i' ((HR.out.setCell q4 (fun n => by simp) (.bool b)).setCell (a := ⟨w.heap.size + 1 + 1,1,none⟩) (u0 := .slice none 0 0) (by simp [go_sem,q5]) (fun n => by simp) (.slice p3 (Nm.dg W (n - m)).length c3))
 clear hb1;go_wp2;exact bodyPost_ret (v := .agg #[.bool b,.slice p3 (Nm.dg W (n - m)).length c3]) (by simp [results,Tryz.results140,go_sem,q4,q5]) rfl ⟨_,rfl,HR2.out,HB.out⟩
theorem k'3r (c : Nat) (hc : c ≤ 1000000000) (w : World) :
 (Instr.makeSlice 141 (.int .i64 0) (.int .i64 (c : Int))).run Tryz.prog w = .ok (.slice (some ⟨w.heap.size,0,none⟩) 0 c) (w.alloc (.cells (uv (List.replicate c 0)).toArray 129)) := by
 have hi : (Tryz.prog.info? 129).map (fun i => (i.zero,i.size,i.bytes)) = some (some (.int .u64 0),1,8) := by kernel_rfl
 obtain ⟨i,hi,hz,hs,hb⟩ := info_parts hi;rw [run_make w 141 129 i (.int .u64 0) Tryz.underlying141 hi hz .i64 .i64 0 c (by omega) (by omega) (by rw [hb]; omega) (by omega)]
 simp only [Int.toNat_natCast,hs,Nat.mul_one];have hm : madeCells (Value.cells (.int .u64 0)) c = (uv (List.replicate c 0)).toArray := by
  apply Array.ext';simp [madeCells,Value.cells,uv,Nat.mod_one,List.map_const']
 rw [hm];rfl
theorem k'3s (s : ByteArray) (lo hi : Nat) (h1 : lo ≤ hi) (h2 : hi ≤ s.size) : rev (s.extract lo hi) = ((rev s).drop (s.size - hi)).take (hi - lo) := by
 have hd : (s.extract lo hi).data.toList = (s.data.toList.take hi).drop lo := by
  rw [ByteArray.data_extract,Array.toList_extract,List.extract_eq_take_drop,List.drop_take]
 have hsz : s.data.toList.length = s.size := rfl;unfold rev;rw [hd];apply List.ext_getElem
 ·simp; omega
 ·intro j h3 h4
  simp only [List.length_reverse,List.length_map,List.length_drop,List.length_take] at h3;simp only [List.getElem_reverse,List.getElem_map,List.getElem_take,List.getElem_drop,List.length_map,List.length_drop,List.length_take,List.length_reverse]
  congr 2
  omega
theorem k'3t (k : Nat) : W ^ k = 256 ^ (8 * k) := by rw [show W = 256 ^ 8 from rfl,← Nat.pow_mul]
def RdInv (s : ByteArray) (k : Nat) (xs : List Nat) : Prop := xs.length = k ∧ Nm.Dig W xs ∧ Nm.val W xs = Nm.val 256 ((rev s).take (8 * k))
theorem RdInv.step {s : ByteArray} {k lo hi : Nat} {xs : List Nat} (h : RdInv s k xs) (h1 : lo ≤ hi) (h2 : hi + 8 * k = s.size) (h3 : hi - lo ≤ 8) (h4 : hi - lo = 8 ∨ lo = 0) : RdInv s (k + 1) (xs ++ [bv (s.extract lo hi)]) := by
 obtain ⟨i1,i2,i3⟩ := h;have e1 := k'3s s lo hi h1 (by omega)
 rw [show s.size - hi = 8 * k by omega] at e1
 have e2 : ((rev s).drop (8 * k)).take (hi - lo) = ((rev s).drop (8 * k)).take 8 := by
  rcases h4 with h4 | h4
  ·rw [h4]
  ·rw [List.take_of_length_le (by simp [k'3i]; omega),List.take_of_length_le (by simp [k'3i]; omega)]
 rw [e2] at e1;have hlt : bv (s.extract lo hi) < W := by
  have h5 := Nm.val_lt (k'3h (s.extract lo hi));rw [k'3i] at h5;have h6 : (s.extract lo hi).size ≤ 8 := by simp; omega
  have h7 : 256 ^ (s.extract lo hi).size ≤ 256 ^ 8 := Nat.pow_le_pow_right (by decide) h6
  exact Nat.lt_of_lt_of_le h5 h7
 refine ⟨by simp [i1],Nm.dig_append.2 ⟨i2,Nm.dig_cons.2 ⟨hlt,Nm.dig_nil W⟩⟩,?_⟩
 rw [Nm.val_snoc,i3,i1,k'3t,bv,e1,show 8 * (k + 1) = 8 * k + 8 by omega,List.take_add,Nm.val_append,List.length_take,Nat.min_eq_left (by rw [k'3i]; omega)]
theorem k'3u (a : Bool) (s : ByteArray) (w : World) (hs : s.size ≤ 1000000) (hcan : Can s) :
 Calls Tryz.prog 135 #[.agg #[.bool a,.string s]] w (NumPost a (bv s) w) := by
 obtain ⟨cp,hcp⟩ : ∃ cp : Nat,(s.size + 7) / 8 = cp := ⟨_,rfl⟩;have hdiv : ((s.size : Int) + 8 - 1) / 8 = (cp : Int) := by omega
 have hmk := k'3r cp (by omega)
 have Hcp := i' hcp;have Hcan := i' hcan;clear hcp hcan;go_enter Tryz.func135,Tryz.ntmps135;go_wp2;clear hmk hdiv;have hi81 : (Tryz.prog.info? 129).map (fun i => (i.zero,i.size,i.bytes)) = some (some (.int .u64 0),1,8) := by kernel_rfl
 obtain ⟨i0,hi0,hz0,hz1,hz2⟩ := info_parts hi81;have HI := i' (And.intro hi0 hz1);clear hi81 hi0 hz0 hz1 hz2;go_loopw [3,4] (fun v e wr => ∃ k xs,8 * k ≤ s.size + 7 ∧ k ≤ cp ∧ e = .int .i64 ((s.size : Int) - 8 * (k : Nat)) ∧ v = .slice (some ⟨w.heap.size + 1 + 1,0,none⟩) k cp ∧ Hid (RdInv s k xs) ∧
  Hid (wr.ownsRow (w.heap.size + 1 + 1) 129 1 (.slice (some ⟨w.heap.size + 1 + 1,0,none⟩) k cp) k (uv xs)) ∧ Hid (Below (w.heap.size + 1 + 1) ((w.alloc (.cells #[.bool a,.string s] 44)).alloc (.cells #[.bool false,.slice none 0 0] 143)) wr))
  (fun _ e _ => (intOf e).toNat)
 case atStart =>
  refine ⟨0,[],by omega,Nat.zero_le _,by simp,rfl,⟨rfl,Nm.dig_nil W,by simp [Nm.val]⟩,?_,(Below.refl _ _).alloc (Nat.le_of_eq (by simp)) _⟩
  have h6 := World.ownsRow_made (base := w.heap.size + 1 + 1) (e := 129) (size := 1) ((w.alloc (.cells #[.bool a,.string s] 44)).alloc (.cells #[.bool false,.slice none 0 0] 143)) (uv (List.replicate cp 0)).toArray cp (by simp) (by have h5 : (s.size + 7) / 8 = cp := Hcp.out; unfold maxLen; omega) (by simp [uv])
  have e0 : ((w.alloc (.cells #[.bool a,.string s] 44)).alloc (.cells #[.bool false,.slice none 0 0] 143)).heap.size = w.heap.size + 1 + 1 := by simp
  rw [e0] at h6;exact h6
 case round =>
  obtain ⟨k,xs,hk,hkc,rfl,rfl,hinv,hown,hbl⟩ := hrel;have f0 : wr.cell? ⟨w.heap.size,0,none⟩ = some (.bool a) := (hbl.out.cell (p := ⟨w.heap.size,0,none⟩) (by simp; omega)).trans (by simp [go_sem])
  have f1 : wr.cell? ⟨w.heap.size,1,none⟩ = some (.string s) := (hbl.out.cell (p := ⟨w.heap.size,1,none⟩) (by simp; omega)).trans (by simp [go_sem])
  by_cases hpos : 8 * k < s.size
  ·obtain ⟨e,he⟩ : ∃ e : Nat,e + 8 * k = s.size := ⟨s.size - 8 * k,by omega⟩
   rw [show (s.size : Int) - 8 * (k : Nat) = (e : Int) by omega]
   have he1 : 0 < e := by omega
   have he2 : e ≤ s.size := by omega
   have HE := i' he;clear he;go_wp2_with fail;rw [show (max ((e : Int) - 8) 0).toNat = e - 8 by omega]
   refine (k'39 (s.extract (e - 8) e) _ (by simp; omega)).mono ?_
   rintro e2 w' ⟨rfl,rfl⟩;have hk2 : k + 1 ≤ cp := by have h5 : (s.size + 7) / 8 = cp := Hcp.out; omega
   have hst : Hid (RdInv s (k + 1) (xs ++ [bv (s.extract (e - 8) e)])) := hinv.out.step (by omega) HE.out (by omega) (by omega)
   generalize bv (s.extract (e - 8) e) = x at *;have hsz : w.heap.size + 1 + 1 ≤ wr.heap.size := by have h5 := hbl.out.size; simpa using h5
   go_wp2_with (at_builtin; refine wpList_append_fits _ rfl _ _ 141 rfl (w.heap.size + 1 + 1) 129 i0 1 Tryz.underlying141 HI.out.1 HI.out.2 (w.heap.size + 1 + 1) k cp (uv xs) rfl (hown.out.alloc _) ⟨wr.heap.size,0,none⟩ 1 1 [.int .u64 (x : Int)] rfl rfl ?c1 ?c2 ?c3 ?_)
   case c1 =>
    intro j u hj
    match j,hj with
    | 0,hj => simp at hj; subst hj; simp [Addr.add]
   case c2 => intro u hu; simp at hu; subst hu; rfl
   case c3 => exact hk2
   intro w1 hown1 hgrow1;have hbl1 : Hid (Below (w.heap.size + 1 + 1) ((w.alloc (.cells #[.bool a,.string s] 44)).alloc (.cells #[.bool false,.slice none 0 0] 143)) w1) :=
    (hbl.out.alloc hsz _).grown hgrow1 (by simp; omega) (fun q hq => by have := Option.some.inj hq; omega)
   have hown2 : Hid (w1.ownsRow (w.heap.size + 1 + 1) 129 1 (.slice (some ⟨w.heap.size + 1 + 1,0,none⟩) (k + 1) cp) (k + 1) (uv (xs ++ [x]))) := by
    show World.ownsRow _ _ _ _ _ _ _;rw [show uv (xs ++ [x]) = uv xs ++ [Value.int .u64 (x : Int)] by simp [uv]]
    exact hown1
   clear hown1 hgrow1 hbl hown hinv f0 f1;have HE2 : Hid ((e : Int) - 8 = (s.size : Int) - 8 * ((k + 1 : Nat) : Int)) := by
    show _ = _;have h5 : e + 8 * k = s.size := HE.out;omega
   go_wp2;go_roundw
   case rel => exact ⟨k + 1,xs ++ [x],by have h5 : e + 8 * k = s.size := HE.out; omega,hk2,by rw [HE2.out],rfl,hst,hown2,hbl1⟩
   case measure => simp [intOf]; omega
  ·have g0 : wr.cell? ⟨w.heap.size + 1,0,none⟩ = some (.bool false) := (hbl.out.cell (p := ⟨w.heap.size + 1,0,none⟩) (by simp)).trans (by simp [go_sem])
   have g1 : wr.cell? ⟨w.heap.size + 1,1,none⟩ = some (.slice none 0 0) := (hbl.out.cell (p := ⟨w.heap.size + 1,1,none⟩) (by simp)).trans (by simp [go_sem])
   have g2 : wr.frozen? ⟨w.heap.size + 1,0,none⟩ = false := (hbl.out.frozen (p := ⟨w.heap.size + 1,0,none⟩) (by simp)).trans (by simp [go_sem])
   have g3 : wr.frozen? ⟨w.heap.size + 1,1,none⟩ = false := (hbl.out.frozen (p := ⟨w.heap.size + 1,1,none⟩) (by simp)).trans (by simp [go_sem])
   have hneg : ¬ (0 : Int) < (s.size : Int) - 8 * (k : Nat) := by omega
   have HX : Hid (xs = Nm.dg W (bv s)) := by
    obtain ⟨i1,i2,i3⟩ := hinv.out;have i4 : Nm.val W xs = bv s := by rw [i3,List.take_of_length_le (by rw [k'3i]; omega)]; rfl
    show xs = _;rw [← i4];refine Nm.eq_dg W2 i2 ?_;rcases Nat.eq_zero_or_pos s.size with h0 | h0
    ·have hk0 : k = 0 := by omega
     have hx0 : xs = [] := List.eq_nil_of_length_eq_zero (by omega)
     rw [hx0]; trivial
    ·refine Nm.nrm_of_val i2 ?_
     rw [i4,i1,k'3t];have h6 := Nm.val_pos (B := 256) (k'3g s Hcan.out) (by intro e0; have := k'3i s; rw [e0] at this; simp at this; omega)
     rw [k'3i] at h6;exact Nat.le_trans (Nat.pow_le_pow_right (by decide) (by omega)) h6
   have HRd : Hid (Rd wr (.slice (some ⟨w.heap.size + 1 + 1,0,none⟩) k cp) (Nm.dg W (bv s))) := by
    show Rd _ _ _;rw [← HX.out];have i1 := hinv.out.1;have ho := hown.out;refine ⟨some ⟨w.heap.size + 1 + 1,0,none⟩,w.heap.size + 1 + 1,0,cp,by rw [i1],by omega,by have h5 : (s.size + 7) / 8 = cp := Hcp.out; unfold maxLen; omega,fun _ => rfl,Or.inr ⟨rfl,(ho.lt _ rfl).2⟩,fun j hj => ?_⟩
    have := ho.cells (g := w.heap.size + 1 + 1) rfl j (.int .u64 (xs[j] : Int)) (k'c xs j hj);have hadd : ((⟨w.heap.size + 1 + 1,0,none⟩ : Addr).add j) = ⟨w.heap.size + 1 + 1,0 + j,none⟩ := by unfold Addr.add; split <;> simp_all
    rwa [hadd] at this
   have HB : Hid (Below w.heap.size w wr) := (((Below.refl _ _).alloc (Nat.le_refl _) _).alloc (by simp) _).trans (hbl.out.mono (by omega))
   clear hbl hown hinv;go_wp2;exact bodyPost_ret (v := .agg #[.bool a,.slice (some ⟨w.heap.size + 1 + 1,0,none⟩) k cp]) (by simp [results,Tryz.results135,go_sem,g0,g1]) rfl
    ⟨_,rfl,(HRd.out.setCell g0 (fun n => by simp) (.bool a)).setCell (a := ⟨w.heap.size + 1,1,none⟩) (u0 := .slice none 0 0) (by simp [go_sem,g1]) (fun n => by simp) _,(HB.out.setCell (p := ⟨w.heap.size + 1,0,none⟩) (by simp) _).setCell (p := ⟨w.heap.size + 1,1,none⟩) (by simp) _⟩
def bs (n : Nat) : ByteArray := ⟨((Nm.dg 256 n).reverse.map UInt8.ofNat).toArray⟩
theorem List.drop_set_of_lt_aux (l : List Nat) (f z : Nat) (h : f < l.length) : (l.set f z).drop f = z :: l.drop (f + 1) := by
 rw [List.drop_eq_getElem_cons (by simpa using h),List.drop_set_of_lt (by omega)]
 simp
def lowd (x : Nat) : Nat → List Nat
 | 0 => []
 | k + 1 => lowd x k ++ [x / 256 ^ k % 256]
theorem k'3v (x k : Nat) : (lowd x k).length = k := by
 induction k with
 | zero => rfl
 | succ k ih => simp [lowd,ih]
theorem k'3w (x k : Nat) : Nm.Dig 256 (lowd x k) := by
 induction k with
 | zero => exact Nm.dig_nil _
 | succ k ih => exact Nm.dig_append.2 ⟨ih,Nm.dig_cons.2 ⟨Nat.mod_lt _ (by decide),Nm.dig_nil _⟩⟩
theorem k'3x (x k : Nat) : Nm.val 256 (lowd x k) = x % 256 ^ k := by
 induction k with
 | zero => simp [lowd,Nm.val,Nat.mod_one]
 | succ k ih =>
  rw [lowd,Nm.val_snoc,k'3v,ih,Nat.pow_succ,Nat.mod_mul]
theorem k'3y (x k : Nat) (h1 : x / 256 ^ k = 0) (h2 : k = 0 ∨ x / 256 ^ (k - 1) ≠ 0) : lowd x k = Nm.dg 256 x := by
 have hlt : x < 256 ^ k := by
  rcases Nat.lt_or_ge x (256 ^ k) with h | h
  ·exact h
  ·have := Nat.div_pos h (Nat.pow_pos (by decide)); omega
 have hv : Nm.val 256 (lowd x k) = x := by rw [k'3x,Nat.mod_eq_of_lt hlt]
 have hn : Nm.Nrm (lowd x k) := by
  rcases h2 with rfl | h2
  ·trivial
  ·cases k with
   | zero => trivial
   | succ k =>
    refine Nm.nrm_snoc _ _ ?_;rw [Nat.add_sub_cancel] at h2;rw [Nat.pow_succ] at hlt;rw [Nat.mod_eq_of_lt]
    ·exact h2
    ·rwa [Nat.div_lt_iff_lt_mul (Nat.pow_pos (by decide)),Nat.mul_comm]
 have := Nm.eq_dg (by decide : 2 ≤ 256) (k'3w x k) hn
 rwa [hv] at this
def bvl (l : List Nat) : List Value := l.map fun (n : Nat) => Value.int .u8 (n : Int)
def ArrB (w : World) (g t : Nat) (l : List Nat) : Prop := w.heap[g]? = some (.cells (bvl l).toArray t (0,0))
theorem ArrB.cell {w : World} {g t : Nat} {l : List Nat} (h : ArrB w g t l) (k : Nat) (hk : k < l.length) : w.cell? ⟨g,k,none⟩ = some (.int .u8 (l[k] : Int)) := by
 rw [cell_of_row w g k _ _ _ h]; simp [bvl,hk]
theorem ArrB.has {w : World} {g t : Nat} {l : List Nat} (h : ArrB w g t l) (k : Nat) (hk : k < l.length) : ∃ v,w.cell? ⟨g,k,none⟩ = some v := ⟨_,h.cell k hk⟩
theorem ArrB.free {w : World} {g t : Nat} {l : List Nat} (h : ArrB w g t l) (k : Nat) : w.frozen? ⟨g,k,none⟩ = false := frozen_of_row w g k _ _ h
theorem ArrB.set {w : World} {g t : Nat} {l : List Nat} (h : ArrB w g t l) (k n : Nat) : ArrB (w.setCell ⟨g,k,none⟩ (.int .u8 (n : Int))) g t (l.set k n) := by
 have := heap_setCell_same w g k _ _ (.int .u8 (n : Int)) h;rw [ArrB,this];simp [bvl,List.map_set]
theorem k'3z {w : World} {g t : Nat} {l : List Nat} (h : ArrB w g t l) (f n cap x : Nat) (hl : f + n ≤ l.length) (hx : (l.drop f).take n = (Nm.dg 256 x).reverse) :
 (convert 112 9 (.slice (some ⟨g,f,none⟩) n cap)).run Tryz.prog w = .ok (.string (bs x)) w := by
 have hlen : ((Nm.dg 256 x).reverse.map UInt8.ofNat).length = n := by rw [List.length_map,← hx]; simp; omega
 have := run_convert_bytes_back (P := Tryz.prog) w 112 9 5 ⟨g,f,none⟩ cap ((Nm.dg 256 x).reverse.map UInt8.ofNat) Tryz.underlying112 Tryz.underlying5 Tryz.underlying9 (fun j hj => by
  have hadd : ((⟨g,f,none⟩ : Addr).add j) = ⟨g,f + j,none⟩ := by unfold Addr.add; split <;> simp_all
  have hjn : j < n := by rw [hlen] at hj; exact hj
  rw [hadd,h.cell (f + j) (by omega)]
  have e1 : (Nm.dg 256 x).reverse[j]'(by simpa using hj) = l[f + j] := by
   have : (Nm.dg 256 x).reverse[j]'(by simpa using hj) = ((l.drop f).take n)[j]'(by simp; omega) := by simp only [hx]
   rw [this]; simp
  have e2 : l[f + j] < 256 := by rw [← e1]; exact Nm.dig_dg (by decide) x _ (List.mem_reverse.1 (List.getElem_mem _))
  rw [List.getElem_map,e1]
  congr 2
  simp [UInt8.toNat_ofNat',Nat.mod_eq_of_lt e2])
 rw [hlen] at this;exact this
theorem k'40 (y : Nat) : IntKind.u8.wrap (y : Int) = ((y % 256 : Nat) : Int) := by simp [IntKind.wrap,IntKind.bits,IntKind.signed]
theorem k'41 (g f : Nat) (hf : f ≤ 8) (w : World) :
 (Instr.sliceAt 148 (.pointer (some ⟨g,0,none⟩)) (some (.int .i64 (f : Int))) none none).run Tryz.prog w = .ok (.slice (some ⟨g,if f = 8 then 0 else f,none⟩) (8 - f) (8 - f)) w := by
 have ha : Tryz.prog.arrayLen 148 = 8 := by kernel_rfl
 have hs : ∀ w,(sizeOf (Tryz.prog.elem 148)).run Tryz.prog w = .ok 1 w := fun w => by kernel_rfl
 rw [run_sliceAt_array_l w 148 _ (by kernel_rfl) .i64 f (by omega) (by rw [ha]; omega)]
 by_cases h8 : f = 8
 ·subst h8
  simp [hs,ha,slicedAt,Result.andThen]
 ·have h9 : ¬ 8 = f := fun e => h8 e.symm
  rcases Nat.eq_zero_or_pos f with h0 | h0
  ·subst h0; simp [hs,ha,slicedAt,Result.andThen,Addr.add]
  ·have h1 : ¬ f = 0 := by omega
   simp [hs,ha,slicedAt,Result.andThen,Addr.add,h8,h9,h1]
theorem k'42 (a : Bool) (x : Nat) (hx : x < W) (w : World) :
 Calls Tryz.prog 116 #[.bool a,.int .u64 (x : Int)] w fun e w' => e = .returned (.agg #[.bool a,.string (bs x)]) ∧ Below w.heap.size w w' := by
 have HW := i' hx;clear hx;go_enter Tryz.func116,Tryz.ntmps116;go_wp2;go_loopw [1,6] (fun v i wr => ∃ k f y l,f + k = 8 ∧ i = .int .i64 (f : Nat) ∧ v = .int .u64 (y : Nat) ∧ Hid (y = x / 256 ^ k ∧ (k = 0 ∨ x / 256 ^ (k - 1) ≠ 0) ∧ l.length = 8 ∧ l.drop f = (lowd x k).reverse) ∧
  Hid (ArrB wr (w.heap.size + 1) 148 l) ∧ Hid (Below (w.heap.size + 1) (w.alloc (.cells #[.bool false,.string ⟨#[]⟩] 44)) wr))
  (fun v _ _ => (intOf v).toNat)
 case atStart =>
  refine ⟨0,8,x,[0,0,0,0,0,0,0,0],rfl,rfl,rfl,⟨by simp,Or.inl rfl,rfl,rfl⟩,?_,(Below.refl _ _).alloc (Nat.le_of_eq (by simp)) _⟩
  have h6 := heap_alloc_new (w.alloc (.cells #[.bool false,.string ⟨#[]⟩] 44)) (.cells (bvl [0,0,0,0,0,0,0,0]).toArray 148);rw [World.size_alloc] at h6;exact h6
 case round =>
  obtain ⟨k,f,y,l,hfk,rfl,rfl,hinv,harr,hbl⟩ := hrel;have hf8 : f ≤ 8 := by omega
  have Hfk := i' hfk;clear hfk;rcases Nat.eq_zero_or_pos y with h0 | h0
  ·subst h0
   have g0 : wr.cell? ⟨w.heap.size,0,none⟩ = some (.bool false) := (hbl.out.cell (p := ⟨w.heap.size,0,none⟩) (by simp)).trans (by simp [go_sem])
   have g1 : wr.cell? ⟨w.heap.size,1,none⟩ = some (.string ⟨#[]⟩) := (hbl.out.cell (p := ⟨w.heap.size,1,none⟩) (by simp)).trans (by simp [go_sem])
   have g2 : wr.frozen? ⟨w.heap.size,0,none⟩ = false := (hbl.out.frozen (p := ⟨w.heap.size,0,none⟩) (by simp)).trans (by simp [go_sem])
   have g3 : wr.frozen? ⟨w.heap.size,1,none⟩ = false := (hbl.out.frozen (p := ⟨w.heap.size,1,none⟩) (by simp)).trans (by simp [go_sem])
   obtain ⟨i1,i2,i3,i4⟩ := hinv.out;have hfk : f + k = 8 := Hfk.out;have hsl := k'41 (w.heap.size + 1) f hf8 wr;have kc := k'3z harr.out (if f = 8 then 0 else f) (8 - f) (8 - f) x (by split <;> omega) (by
    rw [← k'3y x k i1.symm i2,← i4]
    split
    ·next h8 => subst h8; simp; omega
    ·rw [List.take_of_length_le (by simp; omega)])
   generalize (if f = 8 then 0 else f) = f0 at *
   have HB : Hid (Below w.heap.size w wr) := ((Below.refl _ _).alloc (Nat.le_refl _) _).trans (hbl.out.mono (by omega))
   clear i1 i2 i3 i4 hfk hinv harr hbl;go_wp2;exact bodyPost_ret (v := .agg #[.bool a,.string (bs x)]) (by simp [results,Tryz.results116,go_sem,g0,g1]) rfl ⟨rfl,(HB.out.setCell (p := ⟨w.heap.size,0,none⟩) (Nat.le_refl _) _).setCell (p := ⟨w.heap.size,1,none⟩) (Nat.le_refl _) _⟩
  ·obtain ⟨i1,i2,i3,i4⟩ := hinv.out
   have hfk : f + k = 8 := Hfk.out;have hk8 : k < 8 := by
    rcases Nat.lt_or_ge k 8 with h | h
    ·exact h
    ·have h5 : x / 256 ^ k = 0 := Nat.div_eq_of_lt (Nat.lt_of_lt_of_le HW.out (show W ≤ 256 ^ k from Nat.pow_le_pow_right (n := 256) (by decide) h))
     omega
   obtain ⟨f',rfl⟩ : ∃ f',f = f' + 1 := ⟨f - 1,by omega⟩
   rw [show ((f' + 1 : Nat) : Int) = (f' : Int) + 1 by omega]
   obtain ⟨u3,e3⟩ := harr.out.has f' (by omega)
   have e4 := harr.out.free f';have ew := k'40 y;have hset := harr.out.set f' (y % 256);have HS := i' hset;have HB : Hid (Below (w.heap.size + 1) (w.alloc (.cells #[.bool false,.string ⟨#[]⟩] 44)) (wr.setCell ⟨w.heap.size + 1,f',none⟩ (.int .u8 ((y % 256 : Nat) : Int)))) := hbl.out.setCell (p := ⟨w.heap.size + 1,f',none⟩) (Nat.le_refl _) _;have HI : Hid (y / 256 = x / 256 ^ (k + 1) ∧ (k + 1 = 0 ∨ x / 256 ^ (k + 1 - 1) ≠ 0) ∧ (l.set f' (y % 256)).length = 8 ∧ (l.set f' (y % 256)).drop f' = (lowd x (k + 1)).reverse) := by
    refine ⟨by rw [i1,Nat.div_div_eq_div_mul,Nat.pow_succ],Or.inr (by rw [Nat.add_sub_cancel,← i1]; omega),by simpa using i3,?_⟩
    rw [lowd,List.reverse_append,List.reverse_singleton,← i4,← i1,List.drop_set_of_lt_aux l f' (y % 256) (by omega)]
    rfl
   have HF : Hid (f' + (k + 1) = 8) := by show _ = _; omega
   have hbig : (y : Int) < 18446744073709551616 → True := fun _ => trivial;clear i1 i2 i3 i4 hfk hinv harr hbl hset hbig;have hy : ((y : Int) / 256) = ((y / 256 : Nat) : Int) := by simp
   have hmod : ((y : Int) % 256) = ((y % 256 : Nat) : Int) := by simp
   have Hym := i' (And.intro hy hmod);have Hyp : Hid (y / 256 < y) := Nat.div_lt_self h0 (by decide)
   clear hy hmod;go_wp2;go_roundw
   case rel => exact ⟨k + 1,f',y / 256,_,HF.out,by go_num,by rw [Hym.out.1],HI.out,by rw [Hym.out.2]; exact HS.out,by rw [Hym.out.2]; exact HB.out⟩
   case measure => simp [intOf]; have := Hyp.out; omega
def WPost (r : Value) (c : Int) (w : World) (e : Ending) (w' : World) : Prop := e = .returned (.tuple #[r,.int .i64 c]) ∧ Below w.heap.size w w'
def wd (a : Bool) (m : Nat) : Value := .agg #[.bool (a && decide (m ≠ 0)),.string (bs m)]
@[irreducible] def TopBits : Nat := 65536
theorem k'43 : TopBits = 65536 := by unfold TopBits; rfl
def Top : Nat := 2 ^ TopBits
def wres (a : Bool) (m : Nat) : Value := if m < Top then wd a m else wd false 0
def werr (m : Nat) : Int := if m < Top then 0 else 7
theorem k'44 (a : Bool) {m : Nat} (h : m < Top) : wres a m = wd a m := if_pos h
theorem k'45 {m : Nat} (h : m < Top) : werr m = 0 := if_pos h
theorem k'46 (a : Bool) {m : Nat} (h : Top ≤ m) : wres a m = wd false 0 := if_neg (by omega)
theorem k'47 {m : Nat} (h : Top ≤ m) : werr m = 7 := if_neg (by omega)
theorem k'48 : W ≤ Top := by
 rw [k'1b,Top];exact Nat.pow_le_pow_right (by decide) (by rw [k'43]; decide)
theorem k'49 : bs 0 = ⟨#[]⟩ := rfl
theorem k'4a {X : List Nat} (hd : Nm.Dig W X) (hn : Nm.Nrm X) (hl : 0 < X.length) :
 1 ≤ Lib.bitLen X[X.length - 1] ∧ Lib.bitLen X[X.length - 1] ≤ 64 ∧ 2 ^ (64 * (X.length - 1) + Lib.bitLen X[X.length - 1] - 1) ≤ Nm.val W X ∧ Nm.val W X < 2 ^ (64 * (X.length - 1) + Lib.bitLen X[X.length - 1]) := by
 have h0 := Nm.nrm_last hn hl;have hx := Nm.dig_get hd (X.length - 1) (by omega)
 obtain ⟨h1,h2,h3⟩ := k'1r _ _ (Nat.le_refl _) h0 hx;have h4 := k'1s _ hx;have h5 := Nm.val_take_succ W X (X.length - 1) (by omega)
 rw [show X.length - 1 + 1 = X.length by omega,List.take_length] at h5
 have h6 := Nm.val_lt (Nm.dig_take hd (X.length - 1));rw [List.length_take,Nat.min_eq_left (by omega)] at h6
 have hP : W ^ (X.length - 1) = 2 ^ (64 * (X.length - 1)) := by rw [k'1b,← Nat.pow_mul]
 rw [hP] at h5 h6;generalize X[X.length - 1] = x at *;generalize Lib.bitLen x = b at *;refine ⟨h1,h4,?_,?_⟩
 ·rw [h5,show 64 * (X.length - 1) + b - 1 = 64 * (X.length - 1) + (b - 1) by omega,Nat.pow_add]
  exact Nat.le_trans (Nat.mul_le_mul_left _ h2) (Nat.le_add_left _ _)
 ·rw [h5,Nat.pow_add]
  have : 2 ^ (64 * (X.length - 1)) * (x + 1) ≤ 2 ^ (64 * (X.length - 1)) * 2 ^ b := Nat.mul_le_mul_left _ h3;rw [Nat.mul_add,Nat.mul_one] at this;omega
theorem k'4b {X : List Nat} (hd : Nm.Dig W X) (i : Nat) (h : i / 8 < X.length) : X[i / 8] / 2 ^ (8 * (i % 8)) % 256 = Nm.val W X / 256 ^ i % 256 := by
 have hs := Nm.val_split W X (i / 8) (by omega)
 have hlt := Nm.val_lt (Nm.dig_take hd (i / 8));rw [List.length_take,Nat.min_eq_left (by omega)] at hlt
 rw [List.drop_eq_getElem_cons h,Nm.val_cons] at hs;have e1 : 256 ^ i = W ^ (i / 8) * 2 ^ (8 * (i % 8)) := by
  rw [k'3t,show (2 : Nat) ^ (8 * (i % 8)) = 256 ^ (i % 8) by rw [Nat.pow_mul],← Nat.pow_add,Nat.div_add_mod]
 rw [e1,← Nat.div_div_eq_div_mul,hs,Nat.add_mul_div_left _ _ (Nat.pow_pos W0),Nat.div_eq_of_lt hlt,Nat.zero_add];generalize X[i / 8] = x;generalize Nm.val W (X.drop (i / 8 + 1)) = r;have hr : i % 8 ≤ 7 := by omega
 have e2 : W = 2 ^ (8 * (i % 8)) * (2 ^ (64 - 8 * (i % 8) - 8) * 256) := by
  rw [show (256 : Nat) = 2 ^ 8 from rfl,← Nat.pow_add,← Nat.pow_add,k'1b]
  congr 1; omega
 rw [e2,Nat.mul_assoc,Nat.add_mul_div_left _ _ (Nat.pow_pos (by decide)),Nat.mul_right_comm,Nat.add_mul_mod_self_right]
theorem k'4c (a : Bool) (v : Value) (w : World) (h : Rd w v []) :
 Calls Tryz.prog 139 #[.agg #[.bool a,v]] w (WPost (wd a 0) 0 w) := by
 obtain ⟨p,b,o,c,rfl,hrest⟩ := h;clear hrest;go_enter Tryz.func139,Tryz.ntmps139;go_wp2;refine bodyPost_ret (v := .tuple #[.agg #[.bool false,.string ⟨#[]⟩],.int .i64 0]) (by simp [results,Tryz.results139,go_sem]) rfl ⟨?_,?_⟩
 ·rw [wd,k'49]; simp
 ·exact ((Below.refl _ _).alloc (Nat.le_refl _) _).alloc (by simp) _
theorem k'4d (a : Bool) (v : Value) (x : Nat) (hx0 : x ≠ 0) (hx : x < W) (w : World) (h : Rd w v [x]) :
 Calls Tryz.prog 139 #[.agg #[.bool a,v]] w (WPost (wd a x) 0 w) := by
 obtain ⟨p,b,o,c,rfl,_,_,hp,_,hcell⟩ := h;obtain rfl := hp (by simp)
 have e1 := hcell 0 (by simp)
 simp only [List.getElem_cons_zero,Nat.add_zero] at e1;have hb := World.block_lt_of_cell? w _ e1;have HF := i' (k'42 a x hx);have Hx := i' hx0;clear hp hcell hx0;simp only [List.length_singleton];go_enter Tryz.func139,Tryz.ntmps139;go_wp2_with fail;obtain ⟨w0,hw0⟩ : ∃ w0 : World,w0 = (w.alloc (.cells #[.bool a,.slice (some ⟨b,o,none⟩) 1 c] 143)).alloc (.cells #[.bool false,.string ⟨#[]⟩] 44) := ⟨_,rfl⟩;rw [← hw0];have hb0 : Below w.heap.size w w0 := by rw [hw0]; exact ((Below.refl _ _).alloc (Nat.le_refl _) _).alloc (by simp) _
 have k0 : w0.cell? ⟨w.heap.size,0,none⟩ = some (.bool a) := by rw [hw0]; simp [go_sem]
 have k1 : w0.cell? ⟨w.heap.size,1,none⟩ = some (.slice (some ⟨b,o,none⟩) 1 c) := by rw [hw0]; simp [go_sem]
 have k2 : w0.cell? ⟨b,o,none⟩ = some (.int .u64 (x : Int)) := k'e hb0 e1;have k4 : w0.cell? ⟨w.heap.size + 1,0,none⟩ = some (.bool false) := by rw [hw0]; simp [go_sem]
 have k5 : w0.cell? ⟨w.heap.size + 1,1,none⟩ = some (.string ⟨#[]⟩) := by rw [hw0]; simp [go_sem]
 have k6 : ∀ k,w0.frozen? ⟨w.heap.size + 1,k,none⟩ = false := fun k => by rw [hw0]; simp [go_sem]
 have n1 : ¬ (w.heap.size = w.heap.size + 1) := by omega
 have n2 : ¬ (w.heap.size + 1 = w.heap.size) := by omega
 have n3 : ¬ (w.heap.size + 1 = b) := by omega
 have n4 : ¬ (b = w.heap.size + 1) := by omega
 have hsz : w0.heap.size = w.heap.size + 2 := by rw [hw0]; simp
 clear hw0;go_region_held3 (fun W' => W'.cell? ⟨w.heap.size,0,none⟩ = some (.bool a) ∧ W'.cell? ⟨w.heap.size,1,none⟩ = some (.slice (some ⟨b,o,none⟩) 1 c) ∧ W'.cell? ⟨b,o,none⟩ = some (.int .u64 (x : Int))) (go_keep)
  (first | (go_at_call 116; refine (HF.out _).mono ?_; rintro e w' ⟨rfl,hbl⟩; have q0 := (hbl.cell (p := ⟨w.heap.size,0,none⟩) (by simp; omega)).trans k0; have q1 := (hbl.cell (p := ⟨w.heap.size,1,none⟩) (by simp; omega)).trans k1; have q2 := (hbl.cell (p := ⟨b,o,none⟩) (by simp; omega)).trans k2; have q4 := (hbl.cell (p := ⟨w.heap.size + 1,0,none⟩) (by simp; omega)).trans k4; have q5 := (hbl.cell (p := ⟨w.heap.size + 1,1,none⟩) (by simp; omega)).trans k5; have q6 := (hbl.frozen (p := ⟨w.heap.size + 1,0,none⟩) (by simp; omega)).trans (k6 0); have q7 := (hbl.frozen (p := ⟨w.heap.size + 1,1,none⟩) (by simp; omega)).trans (k6 1)))
 have HB := i' (((hb0.drew.trans (hbl.mono (by simp; omega))).setCell (p := ⟨w.heap.size + 1,0,none⟩) (by simp) (.bool a)).setCell (p := ⟨w.heap.size + 1,1,none⟩) (by simp) (.string (bs x)))
 go_wp2;exact bodyPost_ret (v := .tuple #[.agg #[.bool a,.string (bs x)],.int .i64 0]) (by simp [results,Tryz.results139,go_sem,q4,q5]) rfl ⟨by rw [wd,decide_eq_true Hx.out,Bool.and_true],HB.out⟩
theorem k'4e (n : Nat) (w : World) (hn : n ≤ 1000000000) :
 (Instr.makeSlice 112 (.int .i64 (n : Int)) (.int .i64 (n : Int))).run Tryz.prog w = .ok (.slice (some ⟨w.heap.size,0,none⟩) n n) (w.alloc (.cells (bvl (List.replicate n 0)).toArray 5)) := by
 have hi : (Tryz.prog.info? 5).map (fun i => (i.zero,i.size,i.bytes)) = some (some (.int .u8 0),1,1) := by kernel_rfl
 obtain ⟨i,hi,hz,hs,hb⟩ := info_parts hi;rw [run_make w 112 5 i (.int .u8 0) Tryz.underlying112 hi hz .i64 .i64 n n (by omega) (by omega) (by rw [hb]; omega) (by omega)]
 simp only [Int.toNat_natCast,hs,Nat.mul_one];have hm : madeCells (Value.cells (.int .u8 0)) n = (bvl (List.replicate n 0)).toArray := by
  apply Array.ext';simp [madeCells,Value.cells,bvl,Nat.mod_one,List.map_const']
 rw [hm]
theorem k'4f (a : Bool) (v : Value) (X : List Nat) (hd : Nm.Dig W X) (hn : Nm.Nrm X) (hl : 2 ≤ X.length) (hl2 : X.length ≤ 1000000) (w : World) (h : Rd w v X) :
 Calls Tryz.prog 139 #[.agg #[.bool a,v]] w (WPost (wres a (Nm.val W X)) (werr (Nm.val W X)) w) := by
 obtain ⟨p,b,o,c,rfl,_,_,hp,_,hcell⟩ := h;obtain rfl := hp (by intro e; rw [e] at hl; simp at hl)
 obtain ⟨b1,b2,b3,b4⟩ := k'4a hd hn (by omega)
 have e1 := hcell (X.length - 1) (by omega)
 have hb := World.block_lt_of_cell? w _ e1;have hlast := Nm.dig_get hd (X.length - 1) (by omega)
 obtain ⟨x,hx⟩ : ∃ x,X[X.length - 1] = x := ⟨_,rfl⟩;rw [hx] at b1 b2 b3 b4 e1 hlast;have HL := i' (k'1v x hlast);obtain ⟨bl,hbl⟩ : ∃ bl,Lib.bitLen x = bl := ⟨_,rfl⟩;rw [hbl] at b1 b2 b3 b4 HL;obtain ⟨L,hL⟩ : ∃ L,X.length = L + 1 := ⟨X.length - 1,by omega⟩
 rw [hL] at b3 b4 e1 hl hl2 ⊢;simp only [Nat.add_sub_cancel] at b3 b4 e1;have HX := i' hcell;have HB4 := i' (And.intro b3 b4);have HLn := i' hL;have hne0 : ((L : Int) + 1 == 0) = false := by simp; omega
 have hne1 : ((L : Int) + 1 == 1) = false := by simp; omega
 clear hx hbl hp hcell b3 b4 hL;have e9 : ∀ o2 o3,((w.alloc o2).alloc o3).cell? ⟨b,o + L,none⟩ = some (.int .u64 (x : Int)) := fun o2 o3 => k'e (((Below.refl _ _).alloc (Nat.le_refl _) o2).alloc (by simp) o3) e1
 go_enter Tryz.func139,Tryz.ntmps139;go_wp2_with fail;refine (HL.out _).mono ?_;rintro e w' ⟨rfl,rfl⟩;clear HL e9 e1;by_cases hfull : 65536 < 64 * L + bl
 ·have hb0 : Hid (Below w.heap.size w ((w.alloc (.cells #[.bool a,.slice (some ⟨b,o,none⟩) (L + 1) c] 143)).alloc (.cells #[.bool false,.string ⟨#[]⟩] 44))) := ((Below.refl _ _).alloc (Nat.le_refl _) _).alloc (by simp) _
  have hge : Hid (Top ≤ Nm.val W X) := Nat.le_trans (Nat.pow_le_pow_right (by decide) (by rw [k'43]; omega)) HB4.out.1
  have hfi : (65536 : Int) < 64 * (L : Int) + (bl : Int) := by omega
  clear hfull;go_wp2;exact bodyPost_ret (v := .tuple #[.agg #[.bool false,.string ⟨#[]⟩],.int .i64 7]) (by simp [results,Tryz.results139,go_sem]) rfl ⟨by rw [k'46 a hge.out,k'47 hge.out,wd,k'49]; simp,hb0.out⟩
 ·have hlt : Hid (Nm.val W X < Top) := Nat.lt_of_lt_of_le HB4.out.2 (Nat.pow_le_pow_right (by decide) (by rw [k'43]; omega))
  obtain ⟨nb,hnb⟩ : ∃ nb,(64 * L + bl + 7) / 8 = nb := ⟨_,rfl⟩;have hdiv : (64 * (L : Int) + (bl : Int) + 7) / 8 = (nb : Int) := by omega
  have hmk := fun w => k'4e nb w (by omega)
  have hfi : ¬ (65536 : Int) < 64 * (L : Int) + (bl : Int) := by omega
  have hnb1 : 1 ≤ nb := by omega
  have hnb2 : nb ≤ 8192 := by omega
  have Hnb := i' hnb;clear hnb hfull;go_wp2;clear hdiv hmk;obtain ⟨w00,hw00⟩ : ∃ w00 : World,w00 = (w.alloc (.cells #[.bool a,.slice (some ⟨b,o,none⟩) (L + 1) c] 143)).alloc (.cells #[.bool false,.string ⟨#[]⟩] 44) := ⟨_,rfl⟩;have hsz : w00.heap.size = w.heap.size + 1 + 1 := by rw [hw00]; simp
  have K0 : Hid (w00.cell? ⟨w.heap.size,0,none⟩ = some (.bool a)) := by show _ = _; rw [hw00]; simp [go_sem]
  have K1 : Hid (w00.cell? ⟨w.heap.size,1,none⟩ = some (.slice (some ⟨b,o,none⟩) (L + 1) c)) := by show _ = _; rw [hw00]; simp [go_sem]
  have K4 : Hid (w00.cell? ⟨w.heap.size + 1,0,none⟩ = some (.bool false)) := by show _ = _; rw [hw00]; simp [go_sem]
  have K5 : Hid (w00.cell? ⟨w.heap.size + 1,1,none⟩ = some (.string ⟨#[]⟩)) := by show _ = _; rw [hw00]; simp [go_sem]
  have K6 : Hid (∀ k,w00.frozen? ⟨w.heap.size + 1,k,none⟩ = false) := fun k => by rw [hw00]; simp [go_sem]
  have hbw : Hid (Below w.heap.size w w00) := by rw [hw00]; exact ((Below.refl _ _).alloc (Nat.le_refl _) _).alloc (by simp) _
  have harr0 : Hid (ArrB (w00.alloc (.cells (bvl (List.replicate nb 0)).toArray 5)) (w.heap.size + 1 + 1) 5 (List.replicate nb 0)) := by
   show ArrB _ _ _ _;rw [← hsz]; exact heap_alloc_new w00 _
  rw [← hw00];have Hsz := i' hsz;clear hw00 hsz;go_loopw [44] (fun iv wr => ∃ i l,i ≤ nb ∧ iv = .int .i64 (i : Nat) ∧ Hid (l.length = nb ∧ l.drop (nb - i) = (lowd (Nm.val W X) i).reverse) ∧ Hid (ArrB wr (w.heap.size + 1 + 1) 5 l) ∧ Hid (Below (w.heap.size + 1 + 1) w00 wr))
   (fun iv _ => nb - (intOf iv).toNat)
  case atStart =>
   exact ⟨0,List.replicate nb 0,Nat.zero_le _,rfl,⟨by simp,by simp [lowd]⟩,harr0,(Below.refl _ _).alloc (Nat.le_of_eq Hsz.out.symm) _⟩
  case round =>
   clear harr0;obtain ⟨i,l,hi,rfl,hinv,harr,hbl2⟩ := hrel;have hs2 : w.heap.size + 1 + 1 ≤ wr.heap.size := by have h5 := hbl2.out.size; have h6 : w00.heap.size = w.heap.size + 1 + 1 := Hsz.out; omega
   have f0 := (hbl2.out.cell (p := ⟨w.heap.size,0,none⟩) (by simp; omega)).trans K0.out
   have f1 := (hbl2.out.cell (p := ⟨w.heap.size,1,none⟩) (by simp; omega)).trans K1.out
   by_cases hlt2 : i < nb
   ·obtain ⟨j,hj⟩ : ∃ j,j + i + 1 = nb := ⟨nb - 1 - i,by omega⟩
    have hjr : (nb : Int) - 1 - (i : Int) = (j : Int) := by omega
    have hqL : i / 8 < L + 1 := by have h5 : (64 * L + bl + 7) / 8 = nb := Hnb.out; omega
    have hqX : i / 8 < X.length := by have h5 : X.length = L + 1 := HLn.out; omega
    have f2 : wr.cell? ⟨b,o + i / 8,none⟩ = some (.int .u64 (X[i / 8] : Int)) := (hbl2.out.cell (p := ⟨b,o + i / 8,none⟩) (by simp; omega)).trans (k'e hbw.out (HX.out (i / 8) hqX))
    obtain ⟨u3,e3⟩ := harr.out.has j (by have h5 := hinv.out.1; omega)
    have e4 := harr.out.free j;have hbyte := k'4b hd i hqX;obtain ⟨bt,hbt⟩ : ∃ bt,Nm.val W X / 256 ^ i % 256 = bt := ⟨_,rfl⟩;rw [hbt] at hbyte;have hq : (i : Int) / 8 = ((i / 8 : Nat) : Int) := by omega
    have hr : (i : Int) % 8 = ((i % 8 : Nat) : Int) := by omega
    obtain ⟨q,hqd⟩ : ∃ q,i / 8 = q := ⟨_,rfl⟩;obtain ⟨r,hrd⟩ : ∃ r,i % 8 = r := ⟨_,rfl⟩;have hr7 : r ≤ 7 := by omega
    simp only [hqd,hrd] at hq hr f2 hbyte hqL;have HC : Hid (((X[q] : Int) / 2 ^ (8 * r) % 256) = (bt : Int)) := by show _ = _; rw [← hbyte]; simp
    have HI : Hid ((l.set j bt).length = nb ∧ (l.set j bt).drop (nb - (i + 1)) = (lowd (Nm.val W X) (i + 1)).reverse) := by
     obtain ⟨i1,i2⟩ := hinv.out;refine ⟨by simpa using i1,?_⟩
     rw [show nb - (i + 1) = j by omega,List.drop_set_of_lt_aux l j bt (by omega),show j + 1 = nb - i by omega,i2,lowd,List.reverse_append,List.reverse_singleton,hbt]
     rfl
    have HA := i' (harr.out.set j bt);have HB2 : Hid (Below (w.heap.size + 1 + 1) w00 (wr.setCell ⟨w.heap.size + 1 + 1,j,none⟩ (.int .u8 (bt : Int)))) := hbl2.out.setCell (p := ⟨w.heap.size + 1 + 1,j,none⟩) (Nat.le_refl _) _;clear hinv harr hbl2;go_wp2;go_roundw
    case rel => exact ⟨i + 1,_,hlt2,by go_num,HI.out,by rw [HC.out]; exact HA.out,by rw [HC.out]; exact HB2.out⟩
    case measure => simp [intOf]; omega
   ·obtain rfl : i = nb := by omega
    have g0 := (hbl2.out.cell (p := ⟨w.heap.size + 1,0,none⟩) (by simp)).trans K4.out
    have g1 := (hbl2.out.cell (p := ⟨w.heap.size + 1,1,none⟩) (by simp)).trans K5.out
    have g2 := (hbl2.out.frozen (p := ⟨w.heap.size + 1,0,none⟩) (by simp)).trans (K6.out 0)
    have g3 := (hbl2.out.frozen (p := ⟨w.heap.size + 1,1,none⟩) (by simp)).trans (K6.out 1)
    have n5 : ¬ (w.heap.size + 1 = w.heap.size) := by omega
    have h5 : (64 * L + bl + 7) / 8 = i := Hnb.out;have hup : Nm.val W X / 256 ^ i = 0 := Nat.div_eq_of_lt (Nat.lt_of_lt_of_le HB4.out.2 (by
     rw [show (256 : Nat) ^ i = 2 ^ (8 * i) by rw [Nat.pow_mul]]
     exact Nat.pow_le_pow_right (by decide) (by omega)))
    have hlow : Nm.val W X / 256 ^ (i - 1) ≠ 0 := by
     have h6 : 256 ^ (i - 1) ≤ Nm.val W X := by
      refine Nat.le_trans ?_ HB4.out.1;rw [show (256 : Nat) ^ (i - 1) = 2 ^ (8 * (i - 1)) by rw [Nat.pow_mul]]
      exact Nat.pow_le_pow_right (by decide) (by omega)
     have h7 := Nat.div_pos h6 (Nat.pow_pos (n := i - 1) (by decide : 0 < 256))
     omega
    have hV0 : Hid (Nm.val W X ≠ 0) := by
     intro h8;rw [h8] at hlow;simp at hlow
    have kc := k'3z harr.out 0 i i (Nm.val W X) (by have := hinv.out.1; omega) (by
     obtain ⟨i1,i2⟩ := hinv.out;rw [Nat.sub_self] at i2;rw [i2,k'3y _ i hup (Or.inr hlow),List.take_of_length_le];rw [← k'3y _ i hup (Or.inr hlow),List.length_reverse,k'3v];exact Nat.le_refl _)
    have HB3 : Hid (Below w.heap.size w wr) := hbw.out.trans (hbl2.out.mono (by omega))
    clear hup hlow h5 hinv harr hbl2;generalize Nm.val W X = V at *;go_wp2;exact bodyPost_ret (v := .tuple #[.agg #[.bool a,.string (bs V)],.int .i64 0]) (by simp [results,Tryz.results139,go_sem,g0,g1]) rfl
     ⟨by rw [k'44 a hlt.out,k'45 hlt.out,wd,decide_eq_true hV0.out,Bool.and_true],(HB3.out.setCell (p := ⟨w.heap.size + 1,0,none⟩) (by simp) _).setCell (p := ⟨w.heap.size + 1,1,none⟩) (by simp) _⟩
theorem k'4g (a : Bool) (v : Value) (m : Nat) (w : World) (h : Rd w v (Nm.dg W m)) (hl : (Nm.dg W m).length ≤ 1000000) :
 Calls Tryz.prog 139 #[.agg #[.bool a,v]] w (WPost (wres a m) (werr m) w) := by
 have hv := Nm.val_dg W2 m;have hd := Nm.dig_dg W2 m;have hn := Nm.nrm_dg W2 m;generalize Nm.dg W m = X at *
 match X,hl,hv,hd,hn,h with
 | [],_,hv,_,_,h =>
  have : m = 0 := hv.symm;subst this;have ht : 0 < Top := Nat.lt_of_lt_of_le W0 k'48;rw [k'44 a ht,k'45 ht];exact k'4c a v w h
 | [x],_,hv,hd,hn,h =>
  have hx : x = m := by simpa [Nm.val] using hv
  subst hx;have hxW := (Nm.dig_cons.1 hd).1;have ht : x < Top := Nat.lt_of_lt_of_le hxW k'48;rw [k'44 a ht,k'45 ht];exact k'4d a v x hn hxW w h
 | x :: y :: l,hl,hv,hd,hn,h =>
  rw [← hv];exact k'4f a v (x :: y :: l) hd hn (by simp) hl w h
def vld (a : Bool) (s : ByteArray) : Bool := if h : 0 < s.size then decide (s.size ≤ 8192) && (s[0] != 0) else !a
def BPost (b : Bool) (w : World) (e : Ending) (w' : World) : Prop := e = .returned (.bool b) ∧ Below w.heap.size w w'
def IPost (n : Int) (w : World) (e : Ending) (w' : World) : Prop := e = .returned (.int .i64 n) ∧ Below w.heap.size w w'
theorem k'4h {w0 W W' : World} (h : Below w0.heap.size w0 W) (k : Below W.heap.size W W') : Below w0.heap.size w0 W' := h.trans (k.mono h.size)
theorem k'4i {w0 W' : World} (hb : Below w0.heap.size w0 W') {p : Addr} {v : Value} (h : w0.cell? p = some v) : W'.cell? p = some v := k'e hb h
theorem k'4j {w0 W' : World} (hb : Below w0.heap.size w0 W') {p : Addr} {v : Value} (h : w0.cell? p = some v) (hf : w0.frozen? p = false) : W'.frozen? p = false :=
 (hb.frozen (World.block_lt_of_cell? w0 p h)).trans hf
theorem k'4k (a : Bool) (s : ByteArray) (w : World) (hs : s.size ≤ 140737488351232) : Calls Tryz.prog 69 #[.agg #[.bool a,.string s]] w (BPost (vld a s) w) := by
 rcases Nat.eq_zero_or_pos s.size with h0 | h0
 ·have E : Hid (vld a s = !a) := by show _ = _; unfold vld; rw [dif_neg (by omega)]
  have h1 : ((s.size : Int) == 0) = true := beq_iff_eq.2 (by omega)
  have hb : Hid (Below w.heap.size w (w.alloc (.cells #[.bool a,.string s] 44))) := (Below.refl _ _).alloc (Nat.le_refl _) _;clear h0;go_enter Tryz.func69,Tryz.ntmps69;go_wp2;go_ret;exact ⟨by rw [E.out]; rfl,hb.out⟩
 ·have E : Hid (vld a s = (decide (s.size ≤ 8192) && (s[0] != 0))) := by show _ = _; unfold vld; rw [dif_pos h0]
  have h1 : ((s.size : Int) == 0) = false := beq_eq_false_iff_ne.2 (by omega)
  have hb : Hid (Below w.heap.size w (w.alloc (.cells #[.bool a,.string s] 44))) := (Below.refl _ _).alloc (Nat.le_refl _) _;by_cases h2 : s.size ≤ 8192
  ·have e2 : Hid (((s[0].toNat : Int) != 0) = (s[0] != 0)) := by
    show _ = _;by_cases hz : s[0] = 0
    ·simp [hz]
    ·have : s[0].toNat ≠ 0 := fun h => hz (UInt8.toNat_inj.1 h)
     have h3 : ((s[0].toNat : Int) != 0) = true := by simp; omega
     rw [h3]; symm; simpa using hz
   have hd : Hid (decide (s.size ≤ 8192) = true) := decide_eq_true h2;go_enter Tryz.func69,Tryz.ntmps69;go_wp2;go_ret;exact ⟨by rw [E.out,hd.out,Bool.true_and,← e2.out]; rfl,hb.out⟩
  ·have hd : Hid (decide (s.size ≤ 8192) = false) := decide_eq_false h2
   go_enter Tryz.func69,Tryz.ntmps69;go_wp2;go_ret;exact ⟨by rw [E.out,hd.out,Bool.false_and]; rfl,hb.out⟩
theorem k'4l {a : Bool} {s : ByteArray} (h : vld a s = true) : Can s := by
 intro h0;unfold vld at h;rw [dif_pos h0] at h;simp at h;exact h.2
theorem k'4m {a : Bool} {s : ByteArray} (h : vld a s = true) : s.size ≤ 8192 := by
 unfold vld at h
 split at h
 ·simp at h; exact h.1
 ·omega
def lenB (s : ByteArray) : Int := if h : 0 < s.size then 8 * ((s.size : Int) - 1) + (Lib.bitLen s[0].toNat : Nat) else 0
def lenV (a : Bool) (s : ByteArray) : Int := if vld a s = true then lenB s else 0
theorem k'4n {s : ByteArray} (h0 : s.size = 0) : s = ⟨#[]⟩ := by
 have : s.data = #[] := Array.eq_empty_of_size_eq_zero h0
 cases s; simp_all
theorem k'4o (s : ByteArray) (w : World) (hm : s.size ≤ 1000000000) : Calls Tryz.prog 138 #[.string s] w fun e w' => e = .returned (.int .i64 (lenB s)) ∧ w = w' := by
 rcases Nat.eq_zero_or_pos s.size with h0 | h0
 ·rw [k'4n h0]; exact k'3a w
 ·rw [lenB,dif_pos h0]; exact k'3b s w h0 hm
theorem k'4p (a : Bool) (s : ByteArray) (w : World) (hs : s.size ≤ 140737488351232) :
 Calls Tryz.prog 115 #[.agg #[.bool a,.string s]] w (IPost (lenV a s) w) := by
 have HV := i' (k'4k a s)
 cases hv : vld a s with
 | false =>
  have E : Hid (lenV a s = 0) := by show _ = _; rw [lenV,hv]; rfl
  rw [hv] at HV;clear hv;go_enter Tryz.func115,Tryz.ntmps115;go_wp2_with fail;refine (HV.out _ hs).mono ?_;rintro e w' ⟨rfl,hb⟩;have HB := i' (k'4h ((Below.refl w.heap.size w).alloc (Nat.le_refl _) _) hb);clear hb;go_wp2;go_ret;exact ⟨by rw [E.out]; rfl,HB.out⟩
 | true =>
  have E : Hid (lenV a s = lenB s) := by show _ = _; rw [lenV,hv]; rfl
  rw [hv] at HV;have hz := k'4m hv;have k1 : (w.alloc (.cells #[.bool a,.string s] 44)).cell? ⟨w.heap.size,1,none⟩ = some (.string s) := by simp [go_sem]
  have K1 := i' k1;clear hv k1;go_enter Tryz.func115,Tryz.ntmps115;go_wp2_with fail;refine (HV.out _ hs).mono ?_;rintro e w' ⟨rfl,hb⟩;have q1 := k'4i hb K1.out;have HB := i' (k'4h ((Below.refl w.heap.size w).alloc (Nat.le_refl _) _) hb);clear hb;go_wp2_with fail;refine (k'4o s _ (by omega)).mono ?_
  rintro e w2 ⟨rfl,rfl⟩;go_wp2;go_ret;exact ⟨by rw [E.out]; rfl,HB.out⟩
theorem k'4q (a b : Bool) (v1 v2 : Value) (m n : Nat) (w : World) (h1 : Rd w v1 (Nm.dg W m)) (h2 : Rd w v2 (Nm.dg W n)) (l1 : (Nm.dg W m).length ≤ 1000000000) (l2 : (Nm.dg W n).length ≤ 1000000000) :
 Calls Tryz.prog 140 #[.agg #[.bool a,v1],.agg #[.bool b,v2]] w (NumPost (pls a m b n).1 (pls a m b n).2 w) := by
 by_cases h : a = b
 ·subst h
  rw [pls,if_pos rfl];exact k'3o a v1 v2 m n w h1 h2 l1 l2
 ·have hab : (a == b) = false := by simpa using h
  rw [pls,if_neg h];rcases Nat.lt_or_ge m n with g | g
  ·rw [if_pos g]; exact k'3q a b hab v1 v2 m n g w h1 h2 l1 l2
  ·rw [if_neg (by omega)]; exact k'3p a b hab v1 v2 m n g w h1 h2 l1 l2
theorem k'4r {a : Bool} {s : ByteArray} (h : vld a s = true) : bv s < Top := by
 have h1 := Nm.val_lt (k'3h s);rw [k'3i] at h1;have h2 : (256 : Nat) ^ s.size ≤ Top := by
  rw [show (256 : Nat) ^ s.size = 2 ^ (8 * s.size) by rw [Nat.pow_mul],Top]
  exact Nat.pow_le_pow_right (by decide) (by have := k'4m h; rw [k'43]; omega)
 exact Nat.lt_of_lt_of_le h1 h2
theorem k'4s (k j m : Nat) (h : m < 2 ^ j * Top) (hk : TopBits + j ≤ 64 * k) : (Nm.dg W m).length ≤ k := by
 refine Nm.len_le_of_val W2 (Nm.nrm_dg W2 m) ?_;rw [Nm.val_dg W2,k'1b,← Nat.pow_mul];refine Nat.lt_of_lt_of_le h ?_;rw [Top,← Nat.pow_add];exact Nat.pow_le_pow_right (by decide) (by omega)
theorem k'4t {m : Nat} (h : m < Top) : (Nm.dg W m).length ≤ 1024 := k'4s 1024 0 m (by simpa using h) (by rw [k'43]; decide)
theorem k'4u {m : Nat} (h : m < 2 * Top) : (Nm.dg W m).length ≤ 1025 := k'4s 1025 1 m h (by rw [k'43]; decide)
theorem k'4v {a b : Bool} {m n : Nat} (h1 : m < Top) (h2 : n < Top) : (pls a m b n).2 < 2 * Top := by
 unfold pls
 split
 ·show m + n < 2 * Top; omega
 ·split
  ·show n - m < 2 * Top; omega
  ·show m - n < 2 * Top; omega
theorem k'4w (a : Bool) (m : Nat) : ∃ b s,wres a m = .agg #[.bool b,.string s] := by
 unfold wres
 split
 ·exact ⟨_,_,rfl⟩
 ·exact ⟨_,_,rfl⟩
theorem k'4x (a b : Bool) (s t : ByteArray) (w : World) (hv1 : vld a s = true) (hv2 : vld b t = true) :
 Calls Tryz.prog 120 #[.agg #[.bool a,.string s],.agg #[.bool b,.string t]] w (WPost (wres (pls a (bv s) b (bv t)).1 (pls a (bv s) b (bv t)).2) (werr (pls a (bv s) b (bv t)).2) w) := by
 have z1 := k'4m hv1;have z2 := k'4m hv2;have HV1 := k'4k a s;have HV2 := k'4k b t;rw [hv1] at HV1;rw [hv2] at HV2;have HA := i' (fun w => HV1 w (by omega))
 have HB := i' (fun w => HV2 w (by omega))
 have HR1 := i' (fun w => k'3u a s w (by omega) (k'4l hv1))
 have HR2 := i' (fun w => k'3u b t w (by omega) (k'4l hv2))
 have t1 := k'4r hv1;have t2 := k'4r hv2;have HP := i' (fun v1 v2 w h1 h2 => k'4q a b v1 v2 (bv s) (bv t) w h1 h2 (Nat.le_trans (k'4t t1) (by decide)) (Nat.le_trans (k'4t t2) (by decide)))
 have HW := i' (fun v w h => k'4g (pls a (bv s) b (bv t)).1 v (pls a (bv s) b (bv t)).2 w h (Nat.le_trans (k'4u (k'4v t1 t2)) (by decide)))
 obtain ⟨rb,rs,hr⟩ := k'4w (pls a (bv s) b (bv t)).1 (pls a (bv s) b (bv t)).2;rw [hr] at HW ⊢;clear hr HV1 HV2 hv1 hv2 t1 t2;generalize (pls a (bv s) b (bv t)).1 = ra at *;generalize (pls a (bv s) b (bv t)).2 = rm at *;generalize bv s = m at *;generalize bv t = n at *;generalize werr rm = rc at *;go_enter Tryz.func120,Tryz.ntmps120;go_wp2_with fail;obtain ⟨w0,hw0⟩ : ∃ w0 : World,w0 = ((w.alloc (.cells #[.bool a,.string s] 44)).alloc (.cells #[.bool b,.string t] 44)).alloc (.cells #[.bool false,.string ⟨#[]⟩] 44) := ⟨_,rfl⟩;have hb0 : Hid (Below w.heap.size w w0) := by rw [hw0]; exact (((Below.refl _ _).alloc (Nat.le_refl _) _).alloc (by simp) _).alloc (by simp; omega) _
 have k0 : w0.cell? ⟨w.heap.size,0,none⟩ = some (.bool a) := by rw [hw0]; simp [go_sem]
 have k1 : w0.cell? ⟨w.heap.size,1,none⟩ = some (.string s) := by rw [hw0]; simp [go_sem]
 have k2 : w0.cell? ⟨w.heap.size + 1,0,none⟩ = some (.bool b) := by rw [hw0]; simp [go_sem]
 have k3 : w0.cell? ⟨w.heap.size + 1,1,none⟩ = some (.string t) := by rw [hw0]; simp [go_sem]
 have k4 : w0.cell? ⟨w.heap.size + 1 + 1,0,none⟩ = some (.bool false) := by rw [hw0]; simp [go_sem]
 have k5 : w0.cell? ⟨w.heap.size + 1 + 1,1,none⟩ = some (.string ⟨#[]⟩) := by rw [hw0]; simp [go_sem]
 have k6 : w0.frozen? ⟨w.heap.size + 1 + 1,0,none⟩ = false := by rw [hw0]; simp [go_sem]
 have k7 : w0.frozen? ⟨w.heap.size + 1 + 1,1,none⟩ = false := by rw [hw0]; simp [go_sem]
 have hsz : w0.heap.size = w.heap.size + 3 := by rw [hw0]; simp
 rw [← hw0];have KK := i' (And.intro k0 (And.intro k1 (And.intro k2 (And.intro k3 (And.intro k4 (And.intro k5 (And.intro k6 k7)))))));have Hsz := i' hsz;clear k0 k1 k2 k3 k4 k5 k6 k7 hw0 hsz;refine (HA.out _).mono ?_;rintro e wa ⟨rfl,hba⟩;have q2 := k'4i hba KK.out.2.2.1;have q3 := k'4i hba KK.out.2.2.2.1;have HBa := i' hba;clear hba;go_wp2_with fail;refine (HB.out _).mono ?_;rintro e wb ⟨rfl,hbb⟩;have hbc := k'4h HBa.out hbb;have k0 := k'4i hbc KK.out.1;have k1 := k'4i hbc KK.out.2.1;have k2 := k'4i hbc KK.out.2.2.1;have k3 := k'4i hbc KK.out.2.2.2.1;have k4 := k'4i hbc KK.out.2.2.2.2.1;have k5 := k'4i hbc KK.out.2.2.2.2.2.1;have k6 := k'4j hbc KK.out.2.2.2.2.1 KK.out.2.2.2.2.2.2.1;have k7 := k'4j hbc KK.out.2.2.2.2.2.1 KK.out.2.2.2.2.2.2.2;have HBc := i' hbc;have n1 : ¬ (w.heap.size = w.heap.size + 1 + 1) := by omega
 have n2 : ¬ (w.heap.size + 1 + 1 = w.heap.size) := by omega
 clear q2 q3 hbb hbc;go_wp2_with fail;go_region_held3 (fun W' => W'.cell? ⟨w.heap.size,0,none⟩ = some (.bool a) ∧ W'.cell? ⟨w.heap.size,1,none⟩ = some (.string s) ∧ W'.cell? ⟨w.heap.size + 1,0,none⟩ = some (.bool b) ∧ W'.cell? ⟨w.heap.size + 1,1,none⟩ = some (.string t)) (go_keep)
  (first
   | (go_at_call 135; (with_reducible refine (HR1.out _).mono ?_); rintro e w1 ⟨v1,rfl,r1,b1⟩; have c1 := k'4h ((Below.refl _ _).drew) b1; have p0 := k'4i c1 k0; have p1 := k'4i c1 k1; have p2 := k'4i c1 k2; have p3 := k'4i c1 k3; have G1 := i' (And.intro r1 c1); clear r1 b1 c1)
   | (go_at_call 135; (with_reducible refine (HR2.out _).mono ?_); rintro e w2 ⟨v2,rfl,r2,b2⟩; have c2 := k'4h G1.out.2 b2; have p0 := k'4i c2 k0; have p1 := k'4i c2 k1; have p2 := k'4i c2 k2; have p3 := k'4i c2 k3; have G2 := i' (And.intro (G1.out.1.below b2 (Nat.le_refl _)) (And.intro r2 c2)); clear r2 b2 c2)
   | (go_at_call 140; (with_reducible refine (HP.out _ _ _ G2.out.1 G2.out.2.1).mono ?_); rintro e w3 ⟨v3,rfl,r3,b3⟩; have c3 := k'4h G2.out.2.2 b3; have p0 := k'4i c3 k0; have p1 := k'4i c3 k1; have p2 := k'4i c3 k2; have p3 := k'4i c3 k3; have G3 := i' (And.intro r3 c3); clear r3 b3 c3)
   | (go_at_call 139; (with_reducible refine (HW.out _ _ G3.out.1).mono ?_); rintro e w4 ⟨rfl,b4⟩; have c4 := k'4h G3.out.2 b4; have p0 := k'4i c4 k0; have p1 := k'4i c4 k1; have p2 := k'4i c4 k2; have p3 := k'4i c4 k3; have p4 := k'4i c4 k4; have p5 := k'4i c4 k5; have p6 := k'4j c4 k4 k6; have p7 := k'4j c4 k5 k7; have G4 := i' c4; clear b4 c4))
 have HZ := i' (((k'4h (k'4h hb0.out HBc.out) G4.out).setCell (p := ⟨w.heap.size + 1 + 1,0,none⟩) (by simp; omega) (.bool rb)).setCell (p := ⟨w.heap.size + 1 + 1,1,none⟩) (by simp; omega) (.string rs))
 go_wp2;exact bodyPost_ret (v := .tuple #[.agg #[.bool rb,.string rs],.int .i64 rc]) (by simp [results,Tryz.results120,go_sem,p4,p5]) rfl ⟨rfl,HZ.out⟩
end Go.Proofs.YtepddegphdlbeaaGreat
