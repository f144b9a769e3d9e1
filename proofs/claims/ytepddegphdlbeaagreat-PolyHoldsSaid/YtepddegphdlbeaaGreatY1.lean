/- What the theorem leans on, part Y1. -/
import Derived.Test.YtepddegphdlbeaaGreatY0
import Derived.Test.YtepddegphdlbeaaGreatProg
import Derived.WalkKit
import Derived.WalkSpells
import Derived.WalkLawsBesides
import Derived.Lib.Hide
import Derived.Deep.QuietTactic
import Derived.BigQuiet
import Derived.Shelf.Small.Bits
import Derived.Shelf.Small.Wraps
import Derived.Shelf.Strconv.Itoa0
import Derived.Shelf.Bits.Mul64
import Derived.Ground.Names2Prog
import Derived.Shelf.Slices.SearchI
import Derived.Shelf.Spec.BitsCarry
import Derived.Deep.LoopGhost
set_option maxRecDepth 100000
set_option maxHeartbeats 16000000
set_option linter.all false
namespace Go.Proofs.YtepddegphdlbeaaGreat
open Go.RowKit
theorem k'1r : ∀ (n x : Nat),x ≤ n → x ≠ 0 → x < 2 ^ 64 → 1 ≤ Lib.bitLen x ∧ 2 ^ (Lib.bitLen x - 1) ≤ x ∧ x < 2 ^ Lib.bitLen x := by
 intro n
 induction n with
 | zero => intro x h h0; omega
 | succ n ih =>
  intro x h h0 hx;rw [Lib.bitLen_half x h0 hx];by_cases h1 : x / 2 = 0
  ·have e : x = 1 := by omega
   subst e
   decide
  ·obtain ⟨i1,i2,i3⟩ := ih (x / 2) (by omega) h1 (by omega)
   generalize Lib.bitLen (x / 2) = b at *;obtain ⟨c,rfl⟩ : ∃ c,b = c + 1 := ⟨b - 1,by omega⟩
   refine ⟨by omega,?_,?_⟩
   ·rw [show 1 + (c + 1) - 1 = c + 1 by omega,Nat.pow_succ]
    simp only [Nat.add_sub_cancel] at i2;omega
   ·rw [show 1 + (c + 1) = (c + 1) + 1 by omega,Nat.pow_succ]
    omega
theorem k'1s (x : Nat) (hx : x < 2 ^ 64) : Lib.bitLen x ≤ 64 := Lib.bitLen_le x 64 (Nat.le_refl _) hx
def lz (y : Nat) : Nat := 64 - Lib.bitLen y
theorem k'1t (y : Nat) (h0 : y ≠ 0) (hy : y < W) : lz y ≤ 63 ∧ 2 ^ 63 ≤ y * 2 ^ lz y ∧ y * 2 ^ lz y < W := by
 obtain ⟨h1,h2,h3⟩ := k'1r y y (Nat.le_refl _) h0 hy;have h4 := k'1s y hy;unfold lz;generalize Lib.bitLen y = b at *;refine ⟨by omega,?_,?_⟩
 ·have : 2 ^ (b - 1) * 2 ^ (64 - b) ≤ y * 2 ^ (64 - b) := Nat.mul_le_mul_right _ h2
  rwa [← Nat.pow_add,show b - 1 + (64 - b) = 63 by omega] at this
 ·have : (y + 1) * 2 ^ (64 - b) ≤ 2 ^ b * 2 ^ (64 - b) := Nat.mul_le_mul_right _ h3
  rw [← Nat.pow_add,show b + (64 - b) = 64 by omega,← k'1b,Nat.add_mul] at this
  have := Nat.pow_pos (n := 64 - b) (show 0 < 2 by decide)
  omega
theorem k'1u (y : Nat) (hy : y < W) (w : World) : Calls Tryz.prog 160 #[.int .u64 (y : Int)] w fun e w' => e = .returned (.int .i64 (lz y : Nat)) ∧ w = w' := by
 have hy2 : (y : Int) ≤ 18446744073709551615 := by unfold W at hy; omega
 refine (Tryz.bits_LeadingZeros64 (y : Int) w (by omega) hy2).mono fun e w' ⟨h1,h2⟩ => ⟨?_,h2.symm⟩
 rw [h1,Int.toNat_natCast];have := k'1s y hy;unfold lz
 congr 2
 omega
theorem k'1v (y : Nat) (hy : y < W) (w : World) : Calls Tryz.prog 149 #[.int .u64 (y : Int)] w fun e w' => e = .returned (.int .i64 (Lib.bitLen y : Nat)) ∧ w = w' := by
 have hy2 : (y : Int) ≤ 18446744073709551615 := by unfold W at hy; omega
 refine (Tryz.bits_Len64 (y : Int) w (by omega) hy2).mono fun e w' ⟨h1,h2⟩ => ⟨?_,h2.symm⟩
 rw [h1,Int.toNat_natCast]
structure GuessInv (H u v y1 y0 q r : Nat) : Prop where
 eq : q * y1 + r = u
 le : (u * H + v) / (y1 * H + y0) ≤ q
 top : q ≤ H + 1
 low : r < H
theorem GuessInv.start {H u v y1 y0 : Nat} (hu : u < y1 * H + y0) (h0 : y0 < H) (h1 : H ≤ 2 * y1) (h2 : y1 < H) (hv : v < H) : GuessInv H u v y1 y0 (u / y1) (u % y1) := by
 have hp : 0 < y1 := by omega
 have hd := Nat.div_add_mod u y1;have hm := Nat.mod_lt u hp;generalize u / y1 = q at *;generalize u % y1 = r at *;refine ⟨by rw [Nat.mul_comm]; exact hd,?_,?_,Nat.lt_trans hm h2⟩
 ·rw [← Nat.lt_succ_iff,Nat.div_lt_iff_lt_mul (Nat.lt_of_le_of_lt (Nat.zero_le u) hu)]
  have e1 : (q + 1) * (y1 * H + y0) = (y1 * q + y1) * H + (q + 1) * y0 := by grind
  have e2 : (u + 1) * H ≤ (y1 * q + y1) * H := Nat.mul_le_mul_right _ (by omega)
  rw [Nat.add_mul,Nat.one_mul] at e2;show u * H + v < (q + 1) * (y1 * H + y0);omega
 ·have e1 : y1 * q < y1 * (H + 2) := by
   have : y1 * (H + 2) = y1 * H + 2 * y1 := by grind
   omega
  have := Nat.lt_of_mul_lt_mul_left e1;omega
def tooGreat (H v y0 q r : Nat) : Prop := H ≤ q ∨ H * r + v < q * y0
theorem GuessInv.gt {H u v y1 y0 q r : Nat} (h : GuessInv H u v y1 y0 q r) (hu : u < y1 * H + y0) (hv : v < H) (hc : tooGreat H v y0 q r) : (u * H + v) / (y1 * H + y0) < q := by
 rw [Nat.div_lt_iff_lt_mul (Nat.lt_of_le_of_lt (Nat.zero_le u) hu)];rcases hc with hc | hc
 ·have e1 : H * (y1 * H + y0) ≤ q * (y1 * H + y0) := Nat.mul_le_mul_right _ hc
  have e2 : H * (u + 1) ≤ H * (y1 * H + y0) := Nat.mul_le_mul_left _ hu;rw [Nat.mul_add,Nat.mul_one,Nat.mul_comm] at e2;omega
 ·have := h.eq
  have e : q * (y1 * H + y0) = q * y1 * H + q * y0 := by grind
  have e2 : u * H = q * y1 * H + H * r := by rw [← h.eq]; grind
  omega
theorem GuessInv.next {H u v y1 y0 q r : Nat} (h : GuessInv H u v y1 y0 q r) (hu : u < y1 * H + y0) (hv : v < H) (hc : tooGreat H v y0 q r) (hr : r + y1 < H) : GuessInv H u v y1 y0 (q - 1) (r + y1) := by
 have hg := h.gt hu hv hc;have he := h.eq;have ht := h.top;obtain ⟨p,rfl⟩ : ∃ p,q = p + 1 := ⟨q - 1,(Nat.sub_add_cancel (Nat.lt_of_le_of_lt (Nat.zero_le _) hg)).symm⟩;refine ⟨?_,by rw [Nat.add_sub_cancel]; exact Nat.le_of_lt_succ hg,by omega,hr⟩
 rw [Nat.add_mul,Nat.one_mul] at he;rw [Nat.add_sub_cancel];omega
theorem GuessInv.out {H u v y1 y0 q r : Nat} (h : GuessInv H u v y1 y0 q r) (hu : u < y1 * H + y0) (h0 : y0 < H) (hv : v < H) (hc : tooGreat H v y0 q r) (hr : H ≤ r + y1) : q - 1 = (u * H + v) / (y1 * H + y0) := by
 have hg := h.gt hu hv hc;have ht := h.top;have he := h.eq;obtain ⟨p,rfl⟩ : ∃ p,q = p + 1 := ⟨q - 1,(Nat.sub_add_cancel (Nat.lt_of_le_of_lt (Nat.zero_le _) hg)).symm⟩;rw [Nat.add_sub_cancel];apply Nat.le_antisymm
 ·rw [Nat.le_div_iff_mul_le (Nat.lt_of_le_of_lt (Nat.zero_le u) hu)]
  have e1 : p * (y1 * H + y0) = p * y1 * H + p * y0 := by grind
  have e2 : p * y0 ≤ H * H := Nat.mul_le_mul (by omega) (by omega)
  have e3 : H * H ≤ (r + y1) * H := Nat.mul_le_mul_right _ hr;have e4 : u * H = p * y1 * H + (r + y1) * H := by rw [← he]; grind
  omega
 ·exact Nat.le_of_lt_succ hg
theorem GuessInv.done {H u v y1 y0 q r : Nat} (h : GuessInv H u v y1 y0 q r) (hu : u < y1 * H + y0) (hc : ¬ tooGreat H v y0 q r) : q = (u * H + v) / (y1 * H + y0) := by
 have he := h.eq;simp only [tooGreat,not_or,Nat.not_le,Nat.not_lt] at hc;apply Nat.le_antisymm
 ·rw [Nat.le_div_iff_mul_le (Nat.lt_of_le_of_lt (Nat.zero_le u) hu)]
  have e1 : q * (y1 * H + y0) = q * y1 * H + q * y0 := by grind
  have e2 : u * H = q * y1 * H + H * r := by rw [← h.eq]; grind
  omega
 ·exact h.le
theorem k'1w (hi lo s : Nat) (hs : s ≤ 64) (hlo : lo < W) (h : hi * 2 ^ s + shhi lo s < W) :
 bits BinOp.or IntKind.u64 (IntKind.u64.wrap ((hi : Int) * 2 ^ s)) ((lo : Int) / 2 ^ (64 - s)) = ((hi * 2 ^ s + shhi lo s : Nat) : Int) := by
 rw [k'1j,k'1i hi s (shhi lo s) (k'1f lo s hlo hs) hs,shlo,Nat.mod_eq_of_lt (by omega)]
theorem k'1x (n : Nat) (h : n < W) : IntKind.u64.wrap (n : Int) = (n : Int) := by
 rw [IntKind.wrap_u64];unfold W at h;omega
theorem k'1y (x : Nat) (hx : x < W) : bits .and .u64 (x : Int) 4294967295 = ((x % 4294967296 : Nat) : Int) := by
 have h := u64_and_nat x 4294967295 hx (by decide)
 have e : x &&& 4294967295 = x % 4294967296 := Nat.and_two_pow_sub_one_eq_mod x 32;rw [e] at h;exact h
theorem k'1z (x y : Nat) (h : x * 2 ^ y < W) : IntKind.u64.wrap ((x : Int) * 2 ^ y) = ((x * 2 ^ y : Nat) : Int) := by
 rw [← k'1x _ h]; simp
theorem k'20 (x y : Nat) : IntKind.u64.wrap ((x : Int) * 2 ^ y) = ((x * 2 ^ y % W : Nat) : Int) := by
 simp [IntKind.wrap,IntKind.bits,IntKind.signed,W]
theorem k'21 (lo y : Nat) (hy : 0 < y) (hlo : lo < W) (hyW : y < W) (w : World) :
 Calls Tryz.prog 171 #[.int .u64 0,.int .u64 (lo : Int),.int .u64 (y : Int)] w fun e w' => e = .returned (.tuple #[.int .u64 ((lo / y : Nat) : Int),.int .u64 ((lo % y : Nat) : Int)]) ∧ ∃ n,w' = w.drewN n := by
 have h1 : ¬ (y : Int) = 0 := by omega
 have h2 : ((y : Int) == 0) = false := by simp; omega
 have h3 : 1 ≤ (y : Int) := by omega
 go_enter Tryz.func171,Tryz.ntmps171;go_wp2_with fail;go_quiet (fail);go_wp2;go_ret2;refine ⟨?_,_,rfl⟩;have e1 := k'1x (lo / y) (Nat.lt_of_le_of_lt (Nat.div_le_self _ _) hlo);rw [Int.natCast_ediv] at e1;show Ending.returned (.tuple #[.int .u64 (IntKind.u64.wrap ((lo : Int) / (y : Int))),.int .u64 ((lo : Int) % (y : Int))]) = _;rw [e1];simp
theorem k'22 (H u v1 v0 Y M : Nat) (hM : M = (u * H + v1) * H + v0) (hv0 : v0 < H) (hY : 0 < Y) : M / Y = (u * H + v1) / Y * H + ((u * H + v1) % Y * H + v0) / Y ∧ M % Y = ((u * H + v1) % Y * H + v0) % Y := by
 subst hM;have h1 := Nat.div_add_mod (u * H + v1) Y;generalize (u * H + v1) / Y = q at *;generalize (u * H + v1) % Y = r at *;rw [← h1];have e : (Y * q + r) * H + v0 = (r * H + v0) + Y * (q * H) := by grind
 rw [e,Nat.add_mul_div_left _ _ hY,Nat.add_mul_mod_self_left];exact ⟨Nat.add_comm _ _,rfl⟩
theorem k'23 (u v Q Y R : Nat) (h : u * 4294967296 + v = Q * Y + R) (hR : R < W) :
 IntKind.u64.wrap (IntKind.u64.wrap (IntKind.u64.wrap ((u : Int) * 4294967296) + (v : Int)) - IntKind.u64.wrap ((Q : Int) * (Y : Int))) = (R : Int) := by
 rw [← k'1x R hR];simp only [IntKind.wrap_u64];have e : ((Q * Y : Nat) : Int) = (Q : Int) * (Y : Int) := Int.natCast_mul Q Y;generalize Q * Y = P at h e;rw [← e];omega
theorem k'24 (u y : Nat) (hu : u < W) : IntKind.u64.wrap ((u : Int) / (y : Int)) = ((u / y : Nat) : Int) := by
 rw [← k'1x (u / y) (Nat.lt_of_le_of_lt (Nat.div_le_self _ _) hu)]; simp
theorem k'25 (u y : Nat) (hu : u < W) : IntKind.u64.wrap ((u : Int) - IntKind.u64.wrap (((u / y : Nat) : Int) * (y : Int))) = ((u % y : Nat) : Int) := by
 have h := Nat.div_add_mod u y;have hle : u / y * y ≤ u := Nat.div_mul_le_self u y;have e : ((u / y : Nat) : Int) * (y : Int) = ((u / y * y : Nat) : Int) := by simp
 rw [e,k'1x _ (by omega),← k'1x (u % y) (Nat.lt_of_le_of_lt (Nat.mod_le _ _) hu)]
 congr 1
 rw [Nat.mul_comm] at hle ⊢;omega
theorem k'26 {q y : Nat} (h : q ≤ 4294967296 + 1) (hy : y < 4294967296) : q * y < W := by
 have := Nat.mul_le_mul h (show y ≤ 4294967295 by omega)
 unfold W;omega
theorem k'27 (r v : Nat) (hr : r < 4294967296) (hv : v < 4294967296) : IntKind.u64.wrap (IntKind.u64.wrap (4294967296 * (r : Int)) + (v : Int)) = ((4294967296 * r + v : Nat) : Int) := by
 simp only [IntKind.wrap_u64];omega
theorem k'28 (r v : Nat) (hr : r < 4294967296) (hv : v < 4294967296) : IntKind.u64.wrap ((r : Int) + (v : Int)) = ((r + v : Nat) : Int) := by
 simp only [IntKind.wrap_u64];omega
theorem k'29 (q : Nat) (h : 1 ≤ q) (hq : q ≤ 4294967296 + 1) : IntKind.u64.wrap ((q : Int) - 1) = ((q - 1 : Nat) : Int) := by
 simp only [IntKind.wrap_u64];omega
theorem k'2c (a b : Nat) (h : a * b < W) : IntKind.u64.wrap ((a : Int) * (b : Int)) = ((a * b : Nat) : Int) := by
 rw [← k'1x _ h]; simp
theorem k'2d {u v Y y1 y0 : Nat} {q r P S r2 q2 : Int} (hY : Y = y1 * 4294967296 + y0) (hu : u < Y) (h0 : y0 < 4294967296) (hv : v < 4294967296) (h1 : y1 < 4294967296) (q0 : 0 ≤ q) (r0 : 0 ≤ r)
 (hg : GuessInv 4294967296 u v y1 y0 q.toNat r.toNat) (hP : IntKind.u64.wrap (q * (y0 : Int)) = P) (hS : IntKind.u64.wrap (IntKind.u64.wrap (4294967296 * r) + (v : Int)) = S)
 (hr2 : IntKind.u64.wrap (r + (y1 : Int)) = r2) (hq2 : IntKind.u64.wrap (q - 1) = q2) :
 (4294967296 ≤ q ∨ S < P → 4294967296 ≤ r2 → q2 = (((u * 4294967296 + v) / Y : Nat) : Int)) ∧
 (4294967296 ≤ q ∨ S < P → ¬ 4294967296 ≤ r2 → Hid (0 ≤ q2 ∧ 0 ≤ r2 ∧ GuessInv 4294967296 u v y1 y0 q2.toNat r2.toNat) ∧ q2.toNat < q.toNat) ∧
 (¬ 4294967296 ≤ q → ¬ S < P → q = (((u * 4294967296 + v) / Y : Nat) : Int)) := by
 subst hY;obtain ⟨a,rfl⟩ := Int.eq_ofNat_of_zero_le q0;obtain ⟨b,rfl⟩ := Int.eq_ofNat_of_zero_le r0;simp only [Int.toNat_natCast] at hg ⊢;have ht := hg.top;have hr := hg.low;rw [k'2c a y0 (k'26 ht h0)] at hP;rw [k'27 b v hr hv] at hS;rw [k'28 b y1 hr h1] at hr2;subst hP hS hr2;have hc : (4294967296 ≤ (a : Int) ∨ ((4294967296 * b + v : Nat) : Int) < ((a * y0 : Nat) : Int)) ↔ tooGreat 4294967296 v y0 a b := by
  unfold tooGreat;generalize a * y0 = m;omega
 have hdec : tooGreat 4294967296 v y0 a b → q2 = ((a - 1 : Nat) : Int) ∧ 1 ≤ a := fun h => by
  have h3 : 1 ≤ a := Nat.lt_of_le_of_lt (Nat.zero_le _) (hg.gt hu hv h);rw [k'29 a h3 ht] at hq2;exact ⟨hq2.symm,h3⟩
 refine ⟨fun h h2 => ?_,fun h h2 => ?_,fun h h2 => ?_⟩
 ·rw [(hdec (hc.1 h)).1,hg.out hu h0 hv (hc.1 h) (by omega)]
 ·obtain ⟨e1,e2⟩ := hdec (hc.1 h)
  have := hg.next hu hv (hc.1 h) (by omega)
  rw [e1];exact ⟨⟨Int.natCast_nonneg _,Int.natCast_nonneg _,by rw [Int.toNat_natCast,Int.toNat_natCast]; exact this⟩,by rw [Int.toNat_natCast]; omega⟩
 ·rw [hg.done hu (fun h3 => ?_)]
  rcases hc.2 h3 with h3 | h3
  ·exact h h3
  ·exact h2 h3
theorem k'2e {u v Y : Nat} {q T : Int} (hp : 0 < Y ∧ Y < W) (hq : q = (((u * 4294967296 + v) / Y : Nat) : Int))
 (hT : IntKind.u64.wrap (IntKind.u64.wrap (IntKind.u64.wrap ((u : Int) * 4294967296) + (v : Int)) - IntKind.u64.wrap (q * (Y : Int))) = T) : T = (((u * 4294967296 + v) % Y : Nat) : Int) := by
 subst hq;have h := Nat.div_add_mod (u * 4294967296 + v) Y;rw [Nat.mul_comm] at h;rw [← hT];exact k'23 u v _ Y _ h.symm (Nat.lt_trans (Nat.mod_lt _ hp.1) hp.2)
theorem k'2f {N v0 Y y1 y0 : Nat} {T z t : Int} (hY : Y = y1 * 4294967296 + y0) (hp : 0 < Y ∧ Y < W) (h0 : y0 < 4294967296) (hg : 4294967296 ≤ 2 * y1) (h1 : y1 < 4294967296) (hv : v0 < 4294967296)
 (hT : T = ((N % Y : Nat) : Int)) (hz : IntKind.u64.wrap (T.tdiv (y1 : Int)) = z) (ht : IntKind.u64.wrap (T - IntKind.u64.wrap (z * (y1 : Int))) = t) :
 0 ≤ z ∧ 0 ≤ t ∧ GuessInv 4294967296 (N % Y) v0 y1 y0 z.toNat t.toNat := by
 have hlt := Nat.mod_lt N hp.1;have hW := Nat.lt_trans hlt hp.2;generalize N % Y = m at *;subst hT;rw [Int.tdiv_eq_ediv_of_nonneg (Int.natCast_nonneg _),k'24 m y1 hW] at hz;subst hz;rw [k'25 m y1 hW] at ht;subst ht;exact ⟨Int.natCast_nonneg _,Int.natCast_nonneg _,by rw [Int.toNat_natCast,Int.toNat_natCast]; exact GuessInv.start (u := m) (v := v0) (hY ▸ hlt) h0 hg h1 hv⟩
theorem k'2g {a b c d : Int} (h1 : a = c) (h2 : b = d) : Ending.returned (.tuple #[.int .u64 a,.int .u64 b]) = Ending.returned (.tuple #[.int .u64 c,.int .u64 d]) := by rw [h1,h2]
theorem k'2h {v0 Y N y s a b c d : Nat} {q T z : Int} (hq : q = (a : Int)) (hz : z = (c : Int)) (hT : T = (b : Int)) (h1 : N / y = a * 4294967296 + c) (h2 : N % y * 2 ^ s = d)
 (h3 : b * 4294967296 + v0 = c * Y + d) (hd : d < W) (hN : N / y < W) :
 IntKind.u64.wrap (IntKind.u64.wrap (q * 4294967296) + z) = ((N / y : Nat) : Int) ∧
 IntKind.u64.wrap (IntKind.u64.wrap (IntKind.u64.wrap (T * 4294967296) + (v0 : Int)) - IntKind.u64.wrap (z * (Y : Int))) / 2 ^ s = ((N % y : Nat) : Int) := by
 subst hq hz hT;constructor
 ·rw [h1] at hN ⊢
  rw [← k'1x _ hN];simp only [IntKind.wrap_u64];omega
 ·rw [k'23 b v0 c Y d h3 hd,← h2]
  rw [Int.natCast_mul,Int.natCast_pow];exact Int.mul_ediv_cancel _ (Int.pow_ne_zero (by decide))
theorem k'2i {u v1 v0 Y N y s : Nat} {q T z : Int} (hq : q = (((u * 4294967296 + v1) / Y : Nat) : Int)) (hz : z = ((((u * 4294967296 + v1) % Y * 4294967296 + v0) / Y : Nat) : Int))
 (hT : T = (((u * 4294967296 + v1) % Y : Nat) : Int)) (hF : (u * 4294967296 + v1) * 4294967296 + v0 = N * 2 ^ s) (hY : y * 2 ^ s = Y) (hd : 0 < y ∧ Y < W ∧ v0 < 4294967296 ∧ N / y < W) :
 IntKind.u64.wrap (IntKind.u64.wrap (q * 4294967296) + z) = ((N / y : Nat) : Int) ∧
 IntKind.u64.wrap (IntKind.u64.wrap (IntKind.u64.wrap (T * 4294967296) + (v0 : Int)) - IntKind.u64.wrap (z * (Y : Int))) / 2 ^ s = ((N % y : Nat) : Int) := by
 obtain ⟨hy,hYW,hv0,hN⟩ := hd;have hp : 0 < 2 ^ s := Nat.pow_pos (by decide)
 have hYp : 0 < Y := by rw [← hY]; exact Nat.mul_pos hy hp
 have h2 := k'22 4294967296 u v1 v0 Y (N * 2 ^ s) hF.symm hv0 hYp;have g1 : N * 2 ^ s / Y = N / y := by rw [← hY]; exact Nat.mul_div_mul_right _ _ hp
 have g2 : N * 2 ^ s % Y = N % y * 2 ^ s := by rw [← hY]; exact Nat.mul_mod_mul_right _ _ _
 rw [g1,g2] at h2;have h3 := Nat.div_add_mod ((u * 4294967296 + v1) % Y * 4294967296 + v0) Y;rw [Nat.mul_comm] at h3;exact k'2h hq hz hT h2.1 h2.2 h3.symm (Nat.lt_trans (Nat.mod_lt _ hYp) hYW) hN
theorem k'2j (hi lo y : Nat) (hh : 0 < hi) (hy : hi < y) (hlo : lo < W) (hyW : y < W) (w : World) :
 Calls Tryz.prog 171 #[.int .u64 (hi : Int),.int .u64 (lo : Int),.int .u64 (y : Int)] w fun e w' => e = .returned (.tuple #[.int .u64 (((hi * W + lo) / y : Nat) : Int),.int .u64 (((hi * W + lo) % y : Nat) : Int)]) ∧ w = w' := by
 have h2 : ((y : Int) == 0) = false := by simp; omega
 have h3 : ((hi : Int) == 0) = false := by simp; omega
 have HL := i' (k'1u y hyW);obtain ⟨s1,s2,s3⟩ := k'1t y (by omega) hyW
 generalize lz y = s at *;have hU : hi * 2 ^ s + shhi lo s < W := by
  have := k'1f lo s hlo (by omega)
  have e : (hi + 1) * 2 ^ s ≤ y * 2 ^ s := Nat.mul_le_mul_right _ hy;rw [Nat.add_mul] at e;omega
 have eA := k'1z y s s3;have eD := k'1w hi lo s (by omega) hlo hU
 have eE := k'20 lo s;have hV : lo * 2 ^ s % W < W := Nat.mod_lt _ W0;have eB : ((y * 2 ^ s : Nat) : Int) / 4294967296 = ((y * 2 ^ s / 4294967296 : Nat) : Int) := by simp
 have eC := k'1y (y * 2 ^ s) s3;have eF : ((lo * 2 ^ s % W : Nat) : Int) / 4294967296 = ((lo * 2 ^ s % W / 4294967296 : Nat) : Int) := by simp
 have eG := k'1y (lo * 2 ^ s % W) hV;have HU := i' (show hi * 2 ^ s + shhi lo s < y * 2 ^ s by
  have := k'1f lo s hlo (by omega)
  have e : (hi + 1) * 2 ^ s ≤ y * 2 ^ s := Nat.mul_le_mul_right _ hy;rw [Nat.add_mul] at e;omega)
 have HF := i' (show (hi * 2 ^ s + shhi lo s) * W + lo * 2 ^ s % W = (hi * W + lo) * 2 ^ s by
  rw [← k'1d lo s (by omega),Nat.add_mul,Nat.add_assoc,Nat.mul_comm (lo * 2 ^ s / W),Nat.div_add_mod]
  grind)
 generalize hY : y * 2 ^ s = Y at *;generalize hi * 2 ^ s + shhi lo s = u at *;generalize lo * 2 ^ s % W = v at *;have y0l : Y % 4294967296 < 4294967296 := Nat.mod_lt _ (by decide)
 have v0l : v % 4294967296 < 4294967296 := Nat.mod_lt _ (by decide)
 have y1l : Y / 4294967296 < 4294967296 := by unfold W at s3; omega
 have v1l : v / 4294967296 < 4294967296 := by unfold W at hV; omega
 have y1g : 4294967296 ≤ 2 * (Y / 4294967296) := by omega
 have HYd := i' (show Y = Y / 4294967296 * 4294967296 + Y % 4294967296 by omega)
 have HVd := i' (show v = v / 4294967296 * 4294967296 + v % 4294967296 by omega)
 have HYe := i' hY;clear hY;generalize Y / 4294967296 = y1 at *;generalize Y % 4294967296 = y0 at *;generalize v / 4294967296 = v1 at *;generalize v % 4294967296 = v0 at *;have Y0l := i' y0l;have V0l := i' v0l;have Y1l := i' y1l;have V1l := i' v1l;have Y1g := i' y1g;have eQ := k'24 u y1 hU;have eR := k'25 u y1 hU;have HG := i' (GuessInv.start (u := u) (v := v1) (by rw [← HYd.out]; exact HU.out) y0l y1g y1l v1l)
 clear y0l v0l y1l v1l y1g;generalize u / y1 = q at *;generalize u % y1 = r at *;go_enter Tryz.func171,Tryz.ntmps171;go_wp2_with fail;refine (HL.out _).mono ?_;rintro e w' ⟨rfl,rfl⟩;go_wp2;clear eA eD eE eB eC eF eG eQ eR;have S1 := i' s1;have S3 := i' s3;have HUW := i' hU;have Hhy := i' hy;have HyW := i' hyW;have HYW := i' (show 0 < Y ∧ Y < W from ⟨Nat.lt_of_le_of_lt (Nat.zero_le _) HU.out,s3⟩);have HFN := i' (show (u * 4294967296 + v1) * 4294967296 + v0 = (hi * W + lo) * 2 ^ s by rw [← HF.out,HVd.out]; unfold W; omega)
 have Hdd := i' (show 0 < y ∧ Y < W ∧ v0 < 4294967296 ∧ (hi * W + lo) / y < W from ⟨Nat.lt_of_le_of_lt (Nat.zero_le _) Hhy.out,s3,V0l.out,by
  rw [Nat.div_lt_iff_lt_mul (Nat.lt_of_le_of_lt (Nat.zero_le _) Hhy.out)];have : (hi + 1) * W ≤ y * W := Nat.mul_le_mul_right _ Hhy.out;rw [Nat.add_mul,Nat.mul_comm y] at this;omega⟩)
 clear s2 s3 hU hV hh hy hlo hyW h2 h3;go_loop [15,16] (fun qv rv => ∃ q r : Int,qv = .int .u64 q ∧ rv = .int .u64 r ∧ Hid (0 ≤ q ∧ 0 ≤ r ∧ GuessInv 4294967296 u v1 y1 y0 q.toNat r.toNat)) (fun qv _ => (intOf qv).toNat)
 case atStart => exact ⟨q,r,rfl,rfl,Int.natCast_nonneg _,Int.natCast_nonneg _,HG.out⟩
 case round =>
  clear HG;obtain ⟨q,r,rfl,rfl,hg⟩ := hrel;obtain ⟨P,hP⟩ : ∃ P : Int,IntKind.u64.wrap (q * (y0 : Int)) = P := ⟨_,rfl⟩;obtain ⟨S,hS⟩ : ∃ S : Int,IntKind.u64.wrap (IntKind.u64.wrap (4294967296 * r) + (v1 : Int)) = S := ⟨_,rfl⟩;obtain ⟨r2,hr2⟩ : ∃ S : Int,IntKind.u64.wrap (r + (y1 : Int)) = S := ⟨_,rfl⟩;obtain ⟨q2,hq2⟩ : ∃ S : Int,IntKind.u64.wrap (q - 1) = S := ⟨_,rfl⟩;have HK := i' (k'2d HYd.out HU.out Y0l.out V1l.out Y1l.out hg.out.1 hg.out.2.1 hg.out.2.2 hP hS hr2 hq2);clear hg;by_cases c1 : 4294967296 ≤ q
  ·by_cases c2 : 4294967296 ≤ r2
   ·have HQ := i' (HK.out.1 (Or.inl c1) c2)
    obtain ⟨T,hT⟩ : ∃ T : Int,IntKind.u64.wrap (IntKind.u64.wrap (IntKind.u64.wrap ((u : Int) * 4294967296) + (v1 : Int)) - IntKind.u64.wrap (q2 * (Y : Int))) = T := ⟨_,rfl⟩;have HT := i' (k'2e HYW.out HQ.out hT);obtain ⟨z,hz⟩ : ∃ z : Int,IntKind.u64.wrap (T.tdiv (y1 : Int)) = z := ⟨_,rfl⟩;obtain ⟨t,ht⟩ : ∃ t : Int,IntKind.u64.wrap (T - IntKind.u64.wrap (z * (y1 : Int))) = t := ⟨_,rfl⟩;have HS := i' (k'2f HYd.out HYW.out Y0l.out Y1g.out Y1l.out V0l.out HT.out hz ht);have hT0 : 0 ≤ T := by rw [HT.out]; exact Int.natCast_nonneg _
    have hy1 : 1 ≤ (y1 : Int) := by have := Y1g.out; omega
    have HU2 : Hid ((u * 4294967296 + v1) % Y < Y) := Nat.mod_lt _ HYW.out.1;go_wp2;clear hP hS hr2 hq2 hT hz ht hT0 hy1;have HQ1 := HQ;clear HQ HK;go_loop [16,18] (fun rv qv => ∃ q r : Int,qv = .int .u64 q ∧ rv = .int .u64 r ∧ Hid (0 ≤ q ∧ 0 ≤ r ∧ GuessInv 4294967296 ((u * 4294967296 + v1) % Y) v0 y1 y0 q.toNat r.toNat)) (fun _ qv => (intOf qv).toNat)
    case atStart => exact ⟨z,t,rfl,rfl,HS.out⟩
    case round =>
     clear HS;obtain ⟨q,r,rfl,rfl,hg⟩ := hrel;obtain ⟨P,hP⟩ : ∃ P : Int,IntKind.u64.wrap (q * (y0 : Int)) = P := ⟨_,rfl⟩;obtain ⟨S,hS⟩ : ∃ S : Int,IntKind.u64.wrap (IntKind.u64.wrap (4294967296 * r) + (v0 : Int)) = S := ⟨_,rfl⟩;obtain ⟨r2,hr2⟩ : ∃ S : Int,IntKind.u64.wrap (r + (y1 : Int)) = S := ⟨_,rfl⟩;obtain ⟨q2,hq2⟩ : ∃ S : Int,IntKind.u64.wrap (q - 1) = S := ⟨_,rfl⟩;have HK := i' (k'2d HYd.out HU2.out Y0l.out V0l.out Y1l.out hg.out.1 hg.out.2.1 hg.out.2.2 hP hS hr2 hq2);clear hg;by_cases c1 : 4294967296 ≤ q
     ·by_cases c2 : 4294967296 ≤ r2
      ·have HQ := i' (HK.out.1 (Or.inl c1) c2)
       skip
       go_wp2;go_ret2;have E := k'2i HQ1.out HQ.out HT.out HFN.out HYe.out Hdd.out;exact ⟨k'2g E.1 E.2,rfl⟩
      ·have HQ := i' (HK.out.2.1 (Or.inl c1) c2)
       go_wp2;go_round
       case rel => exact ⟨q2,r2,rfl,rfl,HQ.out.1⟩
       case measure => exact HQ.out.2
     ·by_cases c3 : S < P
      ·by_cases c2 : 4294967296 ≤ r2
       ·have HQ := i' (HK.out.1 (Or.inr c3) c2)
        skip
        go_wp2;go_ret2;have E := k'2i HQ1.out HQ.out HT.out HFN.out HYe.out Hdd.out;exact ⟨k'2g E.1 E.2,rfl⟩
       ·have HQ := i' (HK.out.2.1 (Or.inr c3) c2)
        go_wp2;go_round
        case rel => exact ⟨q2,r2,rfl,rfl,HQ.out.1⟩
        case measure => exact HQ.out.2
      ·have HQ := i' (HK.out.2.2 c1 c3)
       skip
       go_wp2;go_ret2;have E := k'2i HQ1.out HQ.out HT.out HFN.out HYe.out Hdd.out;exact ⟨k'2g E.1 E.2,rfl⟩
   ·have HQ := i' (HK.out.2.1 (Or.inl c1) c2)
    go_wp2;go_round
    case rel => exact ⟨q2,r2,rfl,rfl,HQ.out.1⟩
    case measure => exact HQ.out.2
  ·by_cases c3 : S < P
   ·by_cases c2 : 4294967296 ≤ r2
    ·have HQ := i' (HK.out.1 (Or.inr c3) c2)
     obtain ⟨T,hT⟩ : ∃ T : Int,IntKind.u64.wrap (IntKind.u64.wrap (IntKind.u64.wrap ((u : Int) * 4294967296) + (v1 : Int)) - IntKind.u64.wrap (q2 * (Y : Int))) = T := ⟨_,rfl⟩;have HT := i' (k'2e HYW.out HQ.out hT);obtain ⟨z,hz⟩ : ∃ z : Int,IntKind.u64.wrap (T.tdiv (y1 : Int)) = z := ⟨_,rfl⟩;obtain ⟨t,ht⟩ : ∃ t : Int,IntKind.u64.wrap (T - IntKind.u64.wrap (z * (y1 : Int))) = t := ⟨_,rfl⟩;have HS := i' (k'2f HYd.out HYW.out Y0l.out Y1g.out Y1l.out V0l.out HT.out hz ht);have hT0 : 0 ≤ T := by rw [HT.out]; exact Int.natCast_nonneg _
     have hy1 : 1 ≤ (y1 : Int) := by have := Y1g.out; omega
     have HU2 : Hid ((u * 4294967296 + v1) % Y < Y) := Nat.mod_lt _ HYW.out.1;go_wp2;clear hP hS hr2 hq2 hT hz ht hT0 hy1;have HQ1 := HQ;clear HQ HK;go_loop [16,18] (fun rv qv => ∃ q r : Int,qv = .int .u64 q ∧ rv = .int .u64 r ∧ Hid (0 ≤ q ∧ 0 ≤ r ∧ GuessInv 4294967296 ((u * 4294967296 + v1) % Y) v0 y1 y0 q.toNat r.toNat)) (fun _ qv => (intOf qv).toNat)
     case atStart => exact ⟨z,t,rfl,rfl,HS.out⟩
     case round =>
      clear HS;obtain ⟨q,r,rfl,rfl,hg⟩ := hrel;obtain ⟨P,hP⟩ : ∃ P : Int,IntKind.u64.wrap (q * (y0 : Int)) = P := ⟨_,rfl⟩;obtain ⟨S,hS⟩ : ∃ S : Int,IntKind.u64.wrap (IntKind.u64.wrap (4294967296 * r) + (v0 : Int)) = S := ⟨_,rfl⟩;obtain ⟨r2,hr2⟩ : ∃ S : Int,IntKind.u64.wrap (r + (y1 : Int)) = S := ⟨_,rfl⟩;obtain ⟨q2,hq2⟩ : ∃ S : Int,IntKind.u64.wrap (q - 1) = S := ⟨_,rfl⟩;have HK := i' (k'2d HYd.out HU2.out Y0l.out V0l.out Y1l.out hg.out.1 hg.out.2.1 hg.out.2.2 hP hS hr2 hq2);clear hg;by_cases c1 : 4294967296 ≤ q
      ·by_cases c2 : 4294967296 ≤ r2
       ·have HQ := i' (HK.out.1 (Or.inl c1) c2)
        skip
        go_wp2;go_ret2;have E := k'2i HQ1.out HQ.out HT.out HFN.out HYe.out Hdd.out;exact ⟨k'2g E.1 E.2,rfl⟩
       ·have HQ := i' (HK.out.2.1 (Or.inl c1) c2)
        go_wp2;go_round
        case rel => exact ⟨q2,r2,rfl,rfl,HQ.out.1⟩
        case measure => exact HQ.out.2
      ·by_cases c3 : S < P
       ·by_cases c2 : 4294967296 ≤ r2
        ·have HQ := i' (HK.out.1 (Or.inr c3) c2)
         skip
         go_wp2;go_ret2;have E := k'2i HQ1.out HQ.out HT.out HFN.out HYe.out Hdd.out;exact ⟨k'2g E.1 E.2,rfl⟩
        ·have HQ := i' (HK.out.2.1 (Or.inr c3) c2)
         go_wp2;go_round
         case rel => exact ⟨q2,r2,rfl,rfl,HQ.out.1⟩
         case measure => exact HQ.out.2
       ·have HQ := i' (HK.out.2.2 c1 c3)
        skip
        go_wp2;go_ret2;have E := k'2i HQ1.out HQ.out HT.out HFN.out HYe.out Hdd.out;exact ⟨k'2g E.1 E.2,rfl⟩
    ·have HQ := i' (HK.out.2.1 (Or.inr c3) c2)
     go_wp2;go_round
     case rel => exact ⟨q2,r2,rfl,rfl,HQ.out.1⟩
     case measure => exact HQ.out.2
   ·have HQ := i' (HK.out.2.2 c1 c3)
    obtain ⟨T,hT⟩ : ∃ T : Int,IntKind.u64.wrap (IntKind.u64.wrap (IntKind.u64.wrap ((u : Int) * 4294967296) + (v1 : Int)) - IntKind.u64.wrap (q * (Y : Int))) = T := ⟨_,rfl⟩;have HT := i' (k'2e HYW.out HQ.out hT);obtain ⟨z,hz⟩ : ∃ z : Int,IntKind.u64.wrap (T.tdiv (y1 : Int)) = z := ⟨_,rfl⟩;obtain ⟨t,ht⟩ : ∃ t : Int,IntKind.u64.wrap (T - IntKind.u64.wrap (z * (y1 : Int))) = t := ⟨_,rfl⟩;have HS := i' (k'2f HYd.out HYW.out Y0l.out Y1g.out Y1l.out V0l.out HT.out hz ht);have hT0 : 0 ≤ T := by rw [HT.out]; exact Int.natCast_nonneg _
    have hy1 : 1 ≤ (y1 : Int) := by have := Y1g.out; omega
    have HU2 : Hid ((u * 4294967296 + v1) % Y < Y) := Nat.mod_lt _ HYW.out.1;go_wp2;clear hP hS hr2 hq2 hT hz ht hT0 hy1;have HQ1 := HQ;clear HQ HK;go_loop [16,18] (fun rv qv => ∃ q r : Int,qv = .int .u64 q ∧ rv = .int .u64 r ∧ Hid (0 ≤ q ∧ 0 ≤ r ∧ GuessInv 4294967296 ((u * 4294967296 + v1) % Y) v0 y1 y0 q.toNat r.toNat)) (fun _ qv => (intOf qv).toNat)
    case atStart => exact ⟨z,t,rfl,rfl,HS.out⟩
    case round =>
     clear HS;obtain ⟨q,r,rfl,rfl,hg⟩ := hrel;obtain ⟨P,hP⟩ : ∃ P : Int,IntKind.u64.wrap (q * (y0 : Int)) = P := ⟨_,rfl⟩;obtain ⟨S,hS⟩ : ∃ S : Int,IntKind.u64.wrap (IntKind.u64.wrap (4294967296 * r) + (v0 : Int)) = S := ⟨_,rfl⟩;obtain ⟨r2,hr2⟩ : ∃ S : Int,IntKind.u64.wrap (r + (y1 : Int)) = S := ⟨_,rfl⟩;obtain ⟨q2,hq2⟩ : ∃ S : Int,IntKind.u64.wrap (q - 1) = S := ⟨_,rfl⟩;have HK := i' (k'2d HYd.out HU2.out Y0l.out V0l.out Y1l.out hg.out.1 hg.out.2.1 hg.out.2.2 hP hS hr2 hq2);clear hg;by_cases c1 : 4294967296 ≤ q
     ·by_cases c2 : 4294967296 ≤ r2
      ·have HQ := i' (HK.out.1 (Or.inl c1) c2)
       skip
       go_wp2;go_ret2;have E := k'2i HQ1.out HQ.out HT.out HFN.out HYe.out Hdd.out;exact ⟨k'2g E.1 E.2,rfl⟩
      ·have HQ := i' (HK.out.2.1 (Or.inl c1) c2)
       go_wp2;go_round
       case rel => exact ⟨q2,r2,rfl,rfl,HQ.out.1⟩
       case measure => exact HQ.out.2
     ·by_cases c3 : S < P
      ·by_cases c2 : 4294967296 ≤ r2
       ·have HQ := i' (HK.out.1 (Or.inr c3) c2)
        skip
        go_wp2;go_ret2;have E := k'2i HQ1.out HQ.out HT.out HFN.out HYe.out Hdd.out;exact ⟨k'2g E.1 E.2,rfl⟩
       ·have HQ := i' (HK.out.2.1 (Or.inr c3) c2)
        go_wp2;go_round
        case rel => exact ⟨q2,r2,rfl,rfl,HQ.out.1⟩
        case measure => exact HQ.out.2
      ·have HQ := i' (HK.out.2.2 c1 c3)
       skip
       go_wp2;go_ret2;have E := k'2i HQ1.out HQ.out HT.out HFN.out HYe.out Hdd.out;exact ⟨k'2g E.1 E.2,rfl⟩
def Two (q r : Nat) (w : World) (e : Ending) (w' : World) : Prop := e = .returned (.tuple #[.int .u64 (q : Nat),.int .u64 (r : Nat)]) ∧ ∃ n,w' = w.drewN n
theorem k'2k (hi lo y : Nat) (hy : hi < y) (hlo : lo < W) (hyW : y < W) (w : World) :
 Calls Tryz.prog 171 #[.int .u64 (hi : Int),.int .u64 (lo : Int),.int .u64 (y : Int)] w (Two ((hi * W + lo) / y) ((hi * W + lo) % y) w) := by
 rcases Nat.eq_zero_or_pos hi with h | h
 ·subst h
  rw [Nat.zero_mul,Nat.zero_add];exact (k'21 lo y hy hlo hyW w).mono fun e w' h => h
 ·exact (k'2j hi lo y h hy hlo hyW w).mono fun e w' ⟨h1,h2⟩ => ⟨h1,0,h2.symm⟩
theorem k'2l {hi lo y : Nat} (hy : hi < y) (hlo : lo < W) : (hi * W + lo) / y < W := by
 rw [Nat.div_lt_iff_lt_mul (Nat.lt_of_le_of_lt (Nat.zero_le _) hy)];have : (hi + 1) * W ≤ y * W := Nat.mul_le_mul_right _ hy;rw [Nat.add_mul,Nat.mul_comm y] at this;omega
theorem Arr.drewN {w : World} {g : Nat} {l : List Nat} (h : Arr w g l) (n : Nat) : Arr (w.drewN n) g l := h
def DwInv (X : List Nat) (y k r : Nat) (t : List Nat) : Prop :=
 t.length + k = X.length ∧ Nm.Dig W t ∧ r < y ∧ Nm.val W (X.drop k) = Nm.val W t * y + r
theorem DwInv.step {X t : List Nat} {y j r : Nat} (h : DwInv X y (j + 1) r t) (hj : j < X.length) (dx : X[j] < W) : DwInv X y j ((r * W + X[j]) % y) ((r * W + X[j]) / y :: t) := by
 obtain ⟨h1,h2,h3,h4⟩ := h;refine ⟨by simp; omega,Nm.dig_cons.2 ⟨k'2l h3 dx,h2⟩,Nat.mod_lt _ (Nat.lt_of_le_of_lt (Nat.zero_le _) h3),?_⟩
 rw [List.drop_eq_getElem_cons hj,Nm.val_cons,Nm.val_cons,h4];have := Nat.div_add_mod (r * W + X[j]) y;generalize (r * W + X[j]) / y = a at *;generalize (r * W + X[j]) % y = b at *
 grind
def DwPost (g : Nat) (l X : List Nat) (y : Nat) (w : World) (e : Ending) (w' : World) : Prop :=
 ∃ t,e = .returned (.int .u64 ((Nm.val W X % y : Nat) : Int)) ∧ t.length = X.length ∧ Nm.Dig W t ∧ Nm.val W t = Nm.val W X / y ∧ Arr w' g (t ++ l.drop X.length) ∧ Only g w w'
theorem DwInv.finish {X t : List Nat} {y r : Nat} (h : DwInv X y 0 r t) : r = Nm.val W X % y ∧ Nm.val W t = Nm.val W X / y := by
 obtain ⟨h1,h2,h3,h4⟩ := h;rw [List.drop_zero] at h4;rw [h4];have hp : 0 < y := Nat.lt_of_le_of_lt (Nat.zero_le _) h3;constructor
 ·rw [Nat.add_comm,Nat.add_mul_mod_self_right,Nat.mod_eq_of_lt h3]
 ·rw [Nat.add_comm,Nat.add_mul_div_right _ _ hp,Nat.div_eq_of_lt h3,Nat.zero_add]
theorem k'2m (l X : List Nat) (g cap : Nat) (p : Option Addr) (b o c y : Nat) (w : World) (hl : X.length ≤ l.length) (hX : X.length ≤ 1000000000) (hp : X ≠ [] → p = some ⟨b,o,none⟩) (harr : Arr w g l)
 (hrd : ∀ wr t k (h : k < X.length),Only g w wr → Arr wr g (l.take (k + 1) ++ t) → wr.cell? ⟨b,o + k,none⟩ = some (.int .u64 (X[k] : Int))) (d1 : Nm.Dig W X) (dy : y < W) (hy0 : 0 < y) :
 Calls Tryz.prog 158 #[.slice (some ⟨g,0,none⟩) X.length cap,.slice p X.length c,.int .u64 (y : Int)] w (DwPost g l X y w) := by
 go_enter Tryz.func158,Tryz.ntmps158;have Hp := i' hp;have Hx := i' hrd;clear hp hrd;go_wp2;go_loopw [7,8] (fun rv i wr => ∃ k r t,k ≤ X.length ∧ i = .int .i64 ((k : Nat) - 1 : Int) ∧ rv = .int .u64 (r : Nat) ∧ DwInv X y k r t ∧ Arr wr g (l.take k ++ (t ++ l.drop X.length)) ∧ Only g w wr)
  (fun _ i _ => (intOf i + 1).toNat)
 case atStart =>
  exact ⟨X.length,0,[],Nat.le_refl _,rfl,rfl,⟨by simp,Nm.dig_nil W,hy0,by rw [List.drop_of_length_le (Nat.le_refl _)]; simp [Nm.val]⟩,by simpa using harr,Only.refl g w⟩
 case round =>
  clear harr;obtain ⟨k,r,t,hk,rfl,rfl,hinv,harr,honly⟩ := hrel;rcases Nat.eq_zero_or_pos k with h0 | h0
  ·subst h0
   have Hinv := i' hinv;have HA := i' harr;have Ho := i' honly;clear hinv harr honly;go_wp2;go_ret;obtain ⟨h1,h2,h3,h4⟩ := Hinv.out;refine ⟨t,by rw [← Hinv.out.finish.1]; rfl,by omega,h2,Hinv.out.finish.2,by simpa using HA.out,Ho.out⟩
  ·obtain ⟨j,rfl⟩ : ∃ j,k = j + 1 := ⟨k - 1,by omega⟩
   have hj : j < X.length := by omega
   obtain rfl := Hp.out (by intro e; rw [e] at hj; exact absurd hj (Nat.not_lt_zero _))
   have e1 := Hx.out wr _ j hj honly harr;have hjl : j < (l.take (j + 1) ++ (t ++ l.drop X.length)).length := by simp; omega
   obtain ⟨u3,e3⟩ := harr.has j hjl;have e4 := harr.free j;have HC := i' (k'2k r X[j] y hinv.2.2.1 (Nm.dig_get d1 j hj) dy);have Hinv := i' (hinv.step hj (Nm.dig_get d1 j hj));have HA := harr.set j ((r * W + X[j]) / y);rw [List.set_append_left _ _ (by simp; omega),List.take_succ_eq_append_getElem (by omega),List.set_append_right _ _ (by simp; omega)] at HA
   have e5 : j - (l.take j).length = 0 := by simp; omega
   rw [e5,List.set_cons_zero,List.append_assoc] at HA;have HA2 := i' HA;have Ho := i' (honly.setCell j (.int .u64 (((r * W + X[j]) / y : Nat) : Int)));clear hinv harr honly hjl HA e5;rw [show ((j + 1 : Nat) : Int) - 1 = (j : Int) by omega]
   generalize (r * W + X[j]) / y = q at *;generalize (r * W + X[j]) % y = r2 at *;go_wp2_with fail;refine (HC.out _).mono ?_;rintro e w' ⟨rfl,n,rfl⟩;go_wp2;go_roundw
   case rel => exact ⟨j,_,_,by omega,by go_num,rfl,Hinv.out,HA2.out,Ho.out.drewN n⟩
   case measure => simp [intOf]
def RwPost (r : Nat) (w : World) (e : Ending) (w' : World) : Prop := e = .returned (.int .u64 (r : Nat)) ∧ ∃ n,w' = w.drewN n
theorem k'2n (v : Value) (X : List Nat) (y : Nat) (w : World) (h : Rd w v X) (hX : X.length ≤ 1000000000) (d1 : Nm.Dig W X) (dy : y < W) (hy0 : 0 < y) :
 Calls Tryz.prog 156 #[v,.int .u64 (y : Int)] w (RwPost (Nm.val W X % y) w) := by
 obtain ⟨p,b,o,c,rfl,_,_,hp,_,hx⟩ := h;go_enter Tryz.func156,Tryz.ntmps156;have Hp := i' hp;have Hx := i' hx;clear hp hx;go_wp2;go_loopw [5,6] (fun rv i wr => ∃ k n : Nat,k ≤ X.length ∧ i = .int .i64 ((k : Nat) - 1 : Int) ∧ rv = .int .u64 ((Nm.val W (X.drop k) % y : Nat) : Int) ∧ wr = w.drewN n)
  (fun _ i _ => (intOf i + 1).toNat)
 case atStart => exact ⟨X.length,0,Nat.le_refl _,rfl,by rw [List.drop_of_length_le (Nat.le_refl _)]; simp [Nm.val],rfl⟩
 case round =>
  obtain ⟨k,n,hk,rfl,rfl,rfl⟩ := hrel;rcases Nat.eq_zero_or_pos k with h0 | h0
  ·subst h0
   go_wp2;go_ret;exact ⟨rfl,n,rfl⟩
  ·obtain ⟨j,rfl⟩ : ∃ j,k = j + 1 := ⟨k - 1,by omega⟩
   have hj : j < X.length := by omega
   obtain rfl := Hp.out (by intro e; rw [e] at hj; exact absurd hj (Nat.not_lt_zero _))
   have e1 := Hx.out j hj;have HE := i' (show (Nm.val W (X.drop (j + 1)) % y * W + X[j]) % y = Nm.val W (X.drop j) % y by
    rw [List.drop_eq_getElem_cons hj,Nm.val_cons,Nat.add_mod,Nat.mod_mul_mod,← Nat.add_mod,Nat.mul_comm W,Nat.add_comm])
   have hm := Nat.mod_lt (Nm.val W (X.drop (j + 1))) hy0;generalize Nm.val W (X.drop (j + 1)) % y = r at *;have HC := i' (k'2k r X[j] y hm (Nm.dig_get d1 j hj) dy);rw [HE.out] at HC;clear hm;rw [show ((j + 1 : Nat) : Int) - 1 = (j : Int) by omega]
   generalize (r * W + X[j]) / y = q at *;go_wp2_with fail;refine (HC.out _).mono ?_;rintro e w' ⟨rfl,m,rfl⟩;go_wp2;go_roundw
   case rel => exact ⟨j,_,by omega,by go_num,rfl,rfl⟩
   case measure => simp [intOf]
theorem k'2o (a b : Nat) (w : World) (ha : a < W) (hb : b < W) : Calls Tryz.prog 155 #[.int .u64 (a : Int),.int .u64 (b : Int)] w (RwPost (Nat.gcd a b) w) := by
 go_enter Tryz.func155,Tryz.ntmps155;go_wp2;go_loopw [0,1] (fun x y wr => ∃ c d n : Nat,x = .int .u64 (c : Nat) ∧ y = .int .u64 (d : Nat) ∧ Hid (Nat.gcd c d = Nat.gcd a b) ∧ wr = w.drewN n) (fun _ y _ => (intOf y).toNat)
 case atStart => exact ⟨a,b,0,rfl,rfl,rfl,rfl⟩
 case round =>
  clear ha hb;obtain ⟨c,d,n,rfl,rfl,hg,rfl⟩ := hrel;rcases Nat.eq_zero_or_pos d with h0 | h0
  ·subst h0
   go_wp2;go_ret;exact ⟨by rw [← hg.out,Nat.gcd_zero_right]; rfl,n,rfl⟩
  ·have h1 : ((d : Int) != 0) = true := by simp; omega
   have h2 : 1 ≤ (d : Int) := by omega
   have h3 : ¬ (d : Int) = 0 := by omega
   have h4 : ((d : Int) == 0) = false := by simp; omega
   go_wp2_with fail;go_quiet (fail);go_wp2;go_roundw
   case rel => exact ⟨d,c % d,_,rfl,by simp,by rw [Hid,Nat.gcd_comm,← Nat.gcd_rec,Nat.gcd_comm]; exact hg,World.drewN_drewN _ _ _⟩
   case measure => simp [intOf]; exact Nat.mod_lt _ h0
def cmpN (a b : Nat) : Int := if a < b then -1 else if b < a then 1 else 0
theorem k'2p {a b : Nat} (h : a < b) : cmpN a b = -1 := by simp [cmpN,h]
theorem k'2q {a b : Nat} (h : b < a) : cmpN a b = 1 := by simp [cmpN,h]; omega
theorem k'2r (a : Nat) : cmpN a a = 0 := by simp [cmpN]
theorem k'2s (x y : Nat) (w : World) : Calls Tryz.prog 166 #[.int .u64 (x : Int),.int .u64 (y : Int)] w fun e w' => e = .returned (.int .i64 (cmpN x y)) ∧ w = w' := by
 rcases Nat.lt_trichotomy x y with h | h | h
 ·have E := i' (k'2p h)
  go_enter Tryz.func166,Tryz.ntmps166;go_wp2;go_ret;exact ⟨by rw [E.out]; rfl,rfl⟩
 ·subst h
  have E := i' (k'2r x);go_enter Tryz.func166,Tryz.ntmps166;go_wp2;go_ret;exact ⟨by rw [E.out]; rfl,rfl⟩
 ·have E := i' (k'2q h)
  have h2 : ¬ x < y := by omega
  go_enter Tryz.func166,Tryz.ntmps166;go_wp2;go_ret;exact ⟨by rw [E.out]; rfl,rfl⟩
def CmpPost (c : Int) (w : World) (e : Ending) (w' : World) : Prop := e = .returned (.int .i64 c) ∧ ∃ n,w' = w.drewN n
theorem k'2t {X Y : List Nat} (d1 : Nm.Dig W X) (d2 : Nm.Dig W Y) (n1 : Nm.Nrm X) (n2 : Nm.Nrm Y) (h : X.length ≠ Y.length) : Lib.compareInt (X.length : Int) (Y.length : Int) = cmpN (Nm.val W X) (Nm.val W Y) := by
 rcases Nat.lt_or_gt_of_ne h with h | h
 ·rw [k'2p (Nm.val_lt_of_len W0 d1 n2 h)]; simp [Lib.compareInt]; omega
 ·rw [k'2q (Nm.val_lt_of_len W0 d2 n1 h)]; simp [Lib.compareInt]; omega
theorem k'2u {X Y : List Nat} (d1 : Nm.Dig W X) (d2 : Nm.Dig W Y) (hl : X.length = Y.length) (i : Nat) (hi : i < X.length) (hj : i < Y.length) (he : X.drop (i + 1) = Y.drop (i + 1)) (h : X[i] ≠ Y[i]) : cmpN X[i] Y[i] = cmpN (Nm.val W X) (Nm.val W Y) := by
 rcases Nat.lt_or_gt_of_ne h with h | h
 ·rw [k'2p h,k'2p (Nm.val_lt_of_at d1 hl i hi he h)]
 ·rw [k'2q h,k'2q (Nm.val_lt_of_at d2 hl.symm i hj he.symm h)]
theorem k'2v (v1 v2 : Value) (X Y : List Nat) (w : World) (h1 : Rd w v1 X) (h2 : Rd w v2 Y) (hX : X.length ≤ 1000000000) (hY : Y.length ≤ 1000000000)
 (d1 : Nm.Dig W X) (d2 : Nm.Dig W Y) (n1 : Nm.Nrm X) (n2 : Nm.Nrm Y) :
 Calls Tryz.prog 151 #[v1,v2] w (CmpPost (cmpN (Nm.val W X) (Nm.val W Y)) w) := by
 obtain ⟨p1,b1,o1,c1,rfl,_,_,hp1,_,h1⟩ := h1;obtain ⟨p2,b2,o2,c2,rfl,_,_,hp2,_,h2⟩ := h2;have Hp1 := i' hp1;have Hp2 := i' hp2;have H1 := i' h1;have H2 := i' h2;clear hp1 hp2 h1 h2;by_cases hl : X.length = Y.length
 ·have Hl := i' hl
  have hb : (((X.length : Int)) != (Y.length : Int)) = false := by simp [hl]
  have hle : Y.length ≤ X.length := by omega
  have hge : X.length ≤ Y.length := by omega
  clear hl;go_enter Tryz.func151,Tryz.ntmps151;go_wp2;clear hb;go_loopw [5] (fun i wr => ∃ k n : Nat,k ≤ X.length ∧ i = .int .i64 ((k : Int) - 1) ∧ X.drop k = Y.drop k ∧ wr = w.drewN n) (fun i _ => (intOf i + 1).toNat)
  case atStart => exact ⟨X.length,0,Nat.le_refl _,rfl,by rw [List.drop_of_length_le (Nat.le_refl _),List.drop_of_length_le hle],rfl⟩
  case round =>
   obtain ⟨k,n,hk,rfl,hd,rfl⟩ := hrel;have Hd := i' hd;clear hd;rcases Nat.eq_zero_or_pos k with h0 | h0
   ·subst h0
    go_wp2;go_ret;refine ⟨?_,n,rfl⟩;have := Hd.out;simp only [List.drop_zero] at this;rw [this,k'2r]; rfl
   ·obtain ⟨j,rfl⟩ : ∃ j,k = j + 1 := ⟨k - 1,by omega⟩
    have hx : j < X.length := by omega
    have hy : j < Y.length := by omega
    obtain rfl := Hp1.out (by intro e; rw [e] at hx; exact absurd hx (Nat.not_lt_zero _))
    obtain rfl := Hp2.out (by intro e; rw [e] at hy; exact absurd hy (Nat.not_lt_zero _))
    have e1 := H1.out j hx;have e2 := H2.out j hy;rw [show ((j + 1 : Nat) : Int) - 1 = (j : Int) by omega]
    by_cases hv : X[j] = Y[j]
    ·have hb : ((X[j] : Int) != (Y[j] : Int)) = false := by simp [hv]
     have Hv := i' hv;clear hv;go_wp2_with fail;go_quiet (fail);go_wp2;go_roundw
     case rel => exact ⟨j,_,by omega,by go_num,by rw [List.drop_eq_getElem_cons hx,List.drop_eq_getElem_cons hy,Hv.out,Hd.out],rfl⟩
     case measure => simp [intOf]
    ·have hb : ((X[j] : Int) != (Y[j] : Int)) = true := by simp; omega
     have E := i' (k'2u d1 d2 Hl.out j hx hy Hd.out hv);clear hv;go_wp2_with fail;go_quiet (fail);go_wp2_with fail;go_quiet ((go_at_call 166; exact k'8 (k'2s _ _ _)));go_wp2;go_ret;exact ⟨by rw [E.out]; rfl,_,by rw [World.drewN_drewN,World.drewN_drewN]⟩
 ·have hb : (((X.length : Int)) != (Y.length : Int)) = true := by simp; omega
  have E := i' (k'2t d1 d2 n1 n2 hl);clear hl;go_enter Tryz.func151,Tryz.ntmps151;go_wp2_with (go_at_call 165; refine (Tryz.cmp_Compare_int _ _ _).mono ?_; rintro e w' ⟨rfl,rfl⟩);go_ret;exact ⟨by rw [E.out]; rfl,0,rfl⟩
def DivPost (a b : Nat) (w : World) (e : Ending) (w' : World) : Prop :=
 ∃ q r,e = .returned (.tuple #[q,r]) ∧ Rd w' q (Nm.dg W (a / b)) ∧ Rd w' r (Nm.dg W (a % b)) ∧ Below w.heap.size w w'
theorem Rd.drewN {w : World} {v : Value} {xs : List Nat} (h : Rd w v xs) (n : Nat) : Rd (w.drewN n) v xs := h
theorem k'2w {B : Nat} {a w : World} (h : Below B a w) (n : Nat) : Below B a (w.drewN n) := ⟨h.os,h.tape,h.output,h.size,h.block⟩
theorem k'2x (v1 v2 : Value) (X Y : List Nat) (w : World) (h1 : Rd w v1 X) (h2 : Rd w v2 Y) (hX : X.length ≤ 1000000000) (hY : Y.length ≤ 1000000000)
 (d1 : Nm.Dig W X) (d2 : Nm.Dig W Y) (n1 : Nm.Nrm X) (n2 : Nm.Nrm Y) (hlt : Nm.val W X < Nm.val W Y) :
 Calls Tryz.prog 146 #[v1,v2] w (DivPost (Nm.val W X) (Nm.val W Y) w) := by
 have HC := i' (k'2v v1 v2 X Y w h1 h2 hX hY d1 d2 n1 n2);rw [k'2p hlt] at HC;have HR : Hid (Rd w v1 (Nm.dg W (Nm.val W X))) := by
  show Rd w v1 _;rw [← Nm.eq_dg W2 d1 n1]; exact h1
 have HL := i' hlt;clear h1 h2 hlt;go_enter Tryz.func146,Tryz.ntmps146;go_wp2_with fail;refine HC.out.mono ?_;rintro e w' ⟨rfl,n,rfl⟩;go_wp2;go_ret2;refine ⟨_,_,rfl,?_,?_,k'2w (Below.refl _ _) n⟩
 ·rw [Nat.div_eq_of_lt HL.out]; exact Rd.nil _
 ·rw [Nat.mod_eq_of_lt HL.out]; exact HR.out.drewN n
theorem k'2y {a b : Nat} (h : b ≤ a) : 0 ≤ cmpN a b := by
 unfold cmpN;rw [if_neg (by omega)]
 split <;> omega
theorem Rd.one (w : World) (x : Nat) : Rd (w.alloc (.cells #[.int .u64 (x : Int)] 129)) (.slice (some ⟨w.heap.size,0,none⟩) 1 1) [x] :=
 Rd.of_whole (l := [x]) (Arr.made w [x]) 1 rfl (by decide)
theorem k'2z (v1 v2 : Value) (X : List Nat) (y : Nat) (w : World) (h1 : Rd w v1 X) (h2 : Rd w v2 [y]) (hX : X.length ≤ 1000000000)
 (d1 : Nm.Dig W X) (dy : y < W) (hy0 : 0 < y) (n1 : Nm.Nrm X) (hge : y ≤ Nm.val W X) :
 Calls Tryz.prog 146 #[v1,v2] w (DivPost (Nm.val W X) y w) := by
 have hyv : Nm.val W [y] = y := by simp [Nm.val]
 have HC := i' (k'2v v1 v2 X [y] w h1 h2 hX (by simp) d1 (Nm.dig_cons.2 ⟨dy,Nm.dig_nil W⟩) n1 (show y ≠ 0 by omega))
 rw [hyv] at HC;have hc0 : 0 ≤ cmpN (Nm.val W X) y := k'2y hge;generalize cmpN (Nm.val W X) y = cc at *;obtain ⟨p,b,o,c,rfl,_,_,hp,_,hx⟩ := h1;obtain ⟨p2,b2,o2,c2,rfl,_,_,hp2,_,hx2⟩ := h2;obtain rfl := hp2 (by simp)
 have hne : X ≠ [] := by intro e; rw [e] at hge; simp [Nm.val] at hge; omega
 obtain rfl := hp hne;have e2 := hx2 0 (by simp)
 simp only [List.getElem_cons_zero,Nat.add_zero,List.length_singleton] at e2;have e3 : b2 < w.heap.size := World.block_lt_of_cell? w _ e2;have hmk := fun w => k'f X.length w (by omega)
 have hlen : 0 < X.length := List.length_pos_iff.2 hne;have hbne : b ≠ w.heap.size := Nat.ne_of_lt (World.block_lt_of_cell? w _ (hx 0 hlen));have HX := i' hx;have HD := i' d1;have HN := i' (And.intro hne hge);clear hp hp2 hx hx2 hyv d1 hne hge;have hl1 : ([y] : List Nat).length = 1 := rfl;go_enter Tryz.func146,Tryz.ntmps146;go_wp2_with fail;refine HC.out.mono ?_;rintro e w' ⟨rfl,n,rfl⟩;have e4 : ∀ o,((w.drewN n).alloc o).cell? ⟨b2,o2,none⟩ = some (.int .u64 (y : Int)) := fun o => (World.cell?_alloc_lt (w := w.drewN n) (o := o) (a := ⟨b2,o2,none⟩) e3).trans e2;go_wp2_with fail;have HB0 := i' (k'2w ((Below.refl w.heap.size w).alloc (Nat.le_refl _) (.cells (uv (List.replicate X.length 0)).toArray 129)) n);refine (k'2m (List.replicate X.length 0) X w.heap.size X.length _ b o c y _ (by simp) hX (fun _ => rfl) ((Arr.made w _).drewN n) (fun wr t k h ho _ => (ho.cell hbne).trans (k'e HB0.out (HX.out k h))) HD.out dy hy0).mono ?_
 rintro e w' ⟨t,rfl,ht1,ht2,ht3,ha,ho⟩;rw [List.drop_of_length_le (by simp),List.append_nil] at ha
 have HB1 := i' (ho.below HB0.out (Nat.le_refl _));have HR := i' (Rd.of_whole ha X.length ht1 (by unfold maxLen; omega))
 have HV := i' (And.intro ht2 ht3);have hmod : Nm.val W X % y < W := Nat.lt_trans (Nat.mod_lt _ hy0) dy;have HM := i' hmod;clear ha ho ht1 ht2 ht3 hmk HB0 e2 e3 e4 hmod;obtain ⟨rm,hrm⟩ : ∃ rm,Nm.val W X % y = rm := ⟨_,rfl⟩;rw [hrm];have Hrm := i' hrm;clear hrm;go_wp2_with fail;refine (k'j _ _ _ HR.out).mono ?_;rintro e w2 ⟨v,rfl,hrd,rfl⟩;have HR1 := i' hrd;clear hrd;go_wp2_with fail;refine (k'j _ _ _ (Rd.one w' rm)).mono ?_;rintro e w2 ⟨v2,rfl,hrd,rfl⟩;have HR2 := i' hrd;clear hrd;have HB2 := i' (HB1.out.alloc HB1.out.size (.cells #[.int .u64 (rm : Int)] 129));go_wp2;go_ret2;refine ⟨v,v2,rfl,?_,?_,HB2.out⟩
 ·have h5 := HR1.out.below ((Below.refl w'.heap.size w').alloc (Nat.le_refl _) (.cells #[.int .u64 (rm : Int)] 129)) (Nat.le_refl _)
  rwa [Nm.trimL_dg W2 HV.out.1,HV.out.2] at h5
 ·have h5 := HR2.out
  have hd : Nm.Dig W [rm] := Nm.dig_cons.2 ⟨by rw [← Hrm.out]; exact HM.out,Nm.dig_nil W⟩
  rw [Nm.trimL_dg W2 hd] at h5;rw [Hrm.out];simpa [Nm.val] using h5
theorem toList_eq (s : ByteArray) : s.toList = s.data.toList := ByteArray.toList_eq s
theorem k'30 (s : ByteArray) : s.toList.length = s.size := by rw [toList_eq]; rfl
theorem k'31 (s : ByteArray) (hs : 0 < s.size) : s.toList.isEmpty = false := by
 have h : s.toList.length = s.size := k'30 s
 cases e : s.toList with
 | nil => rw [e] at h; simp at h; omega
 | cons x l => rfl
def rev (s : ByteArray) : List Nat := (s.data.toList.map UInt8.toNat).reverse
def bv (s : ByteArray) : Nat := Nm.val 256 (rev s)
def hval : List UInt8 → Nat → Nat
 | [],a => a
 | x :: l,a => hval l (a * 256 + x.toNat)
theorem k'32 (l : List UInt8) (a : Nat) : hval l a = a * 256 ^ l.length + Nm.val 256 (l.map UInt8.toNat).reverse := by
 induction l generalizing a with
 | nil => simp [hval,Nm.val]
 | cons x l ih =>
  rw [hval,ih,List.map_cons,List.reverse_cons,Nm.val_snoc,List.length_reverse,List.length_map,List.length_cons,Nat.pow_succ]
  grind
theorem k'33 (l : List UInt8) (x : UInt8) (a : Nat) : hval (l ++ [x]) a = hval l a * 256 + x.toNat := by
 induction l generalizing a with
 | nil => rfl
 | cons y l ih => rw [List.cons_append,hval,ih,hval]
theorem k'34 (a b : Nat) (ha : a * 256 + b < W) (hb : b < 256) : bits BinOp.or IntKind.u64 (IntKind.u64.wrap ((a : Int) * 256)) (b : Int) = ((a * 256 + b : Nat) : Int) := by
 have ha2 : a * 256 < W := Nat.lt_of_le_of_lt (Nat.le_add_right _ _) ha;have e1 := k'2c a 256 ha2;have hbW : b < W := Nat.lt_trans hb (by decide)
 have e2 := u64_or_nat (a * 256) b ha2 hbW;have e3 : a * 256 + b = a * 256 ||| b := by
  have := Nat.two_pow_add_eq_or_of_lt (show b < 2 ^ 8 from hb) a;rwa [Nat.mul_comm] at this
 rw [e3,← e2]
 congr 1
theorem k'35 (l : List UInt8) : Nm.Dig 256 (l.map UInt8.toNat).reverse := by
 intro x hx;rw [List.mem_reverse,List.mem_map] at hx;obtain ⟨y,_,rfl⟩ := hx;exact y.toNat_lt
theorem k'36 (l : List UInt8) : hval l 0 < 256 ^ l.length := by
 rw [k'32,Nat.zero_mul,Nat.zero_add];have := Nm.val_lt (k'35 l);simpa using this
theorem k'37 (s : ByteArray) (k : Nat) (h : k < s.size) : s.data.toList.take (k + 1) = s.data.toList.take k ++ [s[k]] := by
 rw [List.take_succ_eq_append_getElem (by simpa using h)]; rfl
theorem k'38 (s : ByteArray) (k : Nat) (h : k < s.size) (hs : s.size ≤ 8) :
 bits BinOp.or IntKind.u64 (IntKind.u64.wrap ((hval (s.data.toList.take k) 0 : Int) * 256)) (IntKind.u64.wrap (s[k].toNat : Int)) = ((hval (s.data.toList.take (k + 1)) 0 : Nat) : Int) := by
 have hb : s[k].toNat < 256 := s[k].toNat_lt;have h1 := k'36 (s.data.toList.take k);have hlen : (s.data.toList.take k).length ≤ k := List.length_take_le _ _;have h2 : 256 ^ (s.data.toList.take k).length ≤ 256 ^ 7 := Nat.pow_le_pow_right (by decide) (by omega)
 rw [k'37 s k h,k'33,k'1x _ (Nat.lt_trans hb (by decide))]
 refine k'34 _ _ ?_ hb;have h3 : (hval (s.data.toList.take k) 0 + 1) * 256 ≤ 256 ^ 7 * 256 := Nat.mul_le_mul_right _ (by omega)
 have h4 : 256 ^ 7 * 256 = W := by decide
 omega
theorem k'39 (s : ByteArray) (w : World) (hs : s.size ≤ 8) :
 Calls Tryz.prog 147 #[.string s] w fun e w' => e = .returned (.int .u64 (bv s : Nat)) ∧ w = w' := by
 go_enter Tryz.func147,Tryz.ntmps147;go_wp2;go_loop [3,7] (fun x i => ∃ k : Nat,k ≤ s.size ∧ i = .int .i64 k ∧ x = .int .u64 (hval (s.data.toList.take k) 0 : Nat)) (fun _ i => s.size - (intOf i).toNat)
 case atStart => exact ⟨0,Nat.zero_le _,rfl,rfl⟩
 case round =>
  obtain ⟨k,hk,rfl,rfl⟩ := hrel;by_cases hlt : k < s.size
  ·have HS := i' (k'38 s k hlt hs)
   go_wp2;go_round
   case rel => exact ⟨k + 1,by omega,by go_num,by rw [HS.out]⟩
   case measure => simp [intOf]; omega
  ·obtain rfl : k = s.size := by omega
   have HE : Hid (hval (s.data.toList.take s.size) 0 = bv s) := by
    show _ = _;rw [List.take_of_length_le (by simp),k'32,Nat.zero_mul,Nat.zero_add]; rfl
   go_wp2;go_ret;exact ⟨by rw [← HE.out]; rfl,rfl⟩
theorem k'3a (w : World) : Calls Tryz.prog 138 #[.string ⟨#[]⟩] w fun e w' => e = .returned (.int .i64 0) ∧ w = w' := by
 go_enter Tryz.func138,Tryz.ntmps138;go_wp2;go_ret;exact ⟨rfl,rfl⟩
theorem k'3b (s : ByteArray) (w : World) (hs : 0 < s.size) (hm : s.size ≤ 1000000000) :
 Calls Tryz.prog 138 #[.string s] w fun e w' => e = .returned (.int .i64 (8 * ((s.size : Int) - 1) + (Lib.bitLen s[0].toNat : Nat))) ∧ w = w' := by
 have he : s.toList.isEmpty = false := k'31 s hs;have HB := i' (fun w => Tryz.bits_Len8 (s[0].toNat : Int) w (by omega) (by have := s[0].toNat_lt; omega))
 go_enter Tryz.func138,Tryz.ntmps138;go_wp2_with fail;refine (HB.out _).mono ?_;rintro e w' ⟨rfl,rfl⟩;rw [Int.toNat_natCast];have hl := k'1s s[0].toNat (by have := s[0].toNat_lt; omega)
 go_wp2;go_ret;exact ⟨rfl,rfl⟩
def Can (s : ByteArray) : Prop := ∀ h : 0 < s.size,s[0] ≠ 0
theorem k'3g (s : ByteArray) (h : Can s) : Nm.Nrm (rev s) := by
 rcases Nat.eq_zero_or_pos s.size with h0 | h0
 ·have : s.data.toList = [] := List.eq_nil_of_length_eq_zero h0
  unfold rev; rw [this]; trivial
 ·have hne := h h0
  have e : s.data.toList = s[0] :: s.data.toList.tail := by
   cases hd : s.data.toList with
   | nil => have : s.data.toList.length = s.size := rfl; rw [hd] at this; simp at this; omega
   | cons x l =>
    have : s[0] = x := by
     have h2 : s[0] = s.data.toList[0]'(by simpa using h0) := rfl
     rw [h2]; simp [hd]
    rw [this]; rfl
  unfold rev;rw [e,List.map_cons,List.reverse_cons];exact Nm.nrm_snoc _ _ (fun h3 => hne (UInt8.toNat_inj.1 h3))
theorem k'3h (s : ByteArray) : Nm.Dig 256 (rev s) := k'35 _
theorem k'3i (s : ByteArray) : (rev s).length = s.size := by simp [rev]
def SubInv (X Y : List Nat) (k c : Nat) (l : List Nat) : Prop :=
 l.length = X.length ∧ Nm.Dig W (l.take k) ∧ Nm.val W (l.take k) + Nm.val W (Y.take k) = Nm.val W (X.take k) + W ^ k * c
theorem SubInv.step {X Y l : List Nat} {k c : Nat} (h : SubInv X Y k c l) (hX : k < X.length) (hY : k < Y.length) (dx : X[k] < W) (dy : Y[k] < W) (hc : c ≤ 1) :
 SubInv X Y (k + 1) (bw X[k] Y[k] c) (l.set k (df X[k] Y[k] c)) := by
 obtain ⟨h1,h2,h3⟩ := h;have hk : k < l.length := by omega
 have e : (l.set k (df X[k] Y[k] c)).take (k + 1) = l.take k ++ [df X[k] Y[k] c] := by
  rw [List.take_succ_eq_append_getElem (by simpa using hk)]
  simp [List.take_set_of_le]
 refine ⟨by simpa using h1,?_,?_⟩
 ·rw [e,Nm.dig_append]; exact ⟨h2,Nm.dig_cons.2 ⟨k'n _ _ _,Nm.dig_nil W⟩⟩
 ·rw [e,Nm.val_snoc,Nm.val_take_succ W X k hX,Nm.val_take_succ W Y k hY,List.length_take,Nat.min_eq_left (by omega),Nat.pow_succ]
  have := k'p X[k] Y[k] c dx dy hc;generalize df X[k] Y[k] c = s at *;generalize bw X[k] Y[k] c = t at *;generalize W ^ k = P at *;have h5 : P * (s + Y[k] + c) = P * (X[k] + W * t) := by rw [this]
  grind
theorem SubInv.step0 {X Y l : List Nat} {k c : Nat} (h : SubInv X Y k c l) (hX : k < X.length) (hY : Y.length ≤ k) (dx : X[k] < W) (hc : c ≤ 1) :
 SubInv X Y (k + 1) (bw X[k] 0 c) (l.set k (df X[k] 0 c)) := by
 obtain ⟨h1,h2,h3⟩ := h;have hk : k < l.length := by omega
 have e : (l.set k (df X[k] 0 c)).take (k + 1) = l.take k ++ [df X[k] 0 c] := by
  rw [List.take_succ_eq_append_getElem (by simpa using hk)]
  simp [List.take_set_of_le]
 refine ⟨by simpa using h1,?_,?_⟩
 ·rw [e,Nm.dig_append]; exact ⟨h2,Nm.dig_cons.2 ⟨k'n _ _ _,Nm.dig_nil W⟩⟩
 ·rw [e,Nm.val_snoc,Nm.val_take_succ W X k hX,List.length_take,Nat.min_eq_left (by omega),Nat.pow_succ,List.take_of_length_le (show Y.length ≤ k + 1 by omega)]
  rw [List.take_of_length_le hY] at h3;have := k'p X[k] 0 c dx W0 hc;generalize df X[k] 0 c = s at *;generalize bw X[k] 0 c = t at *;generalize W ^ k = P at *;have h5 : P * (s + 0 + c) = P * (X[k] + W * t) := by rw [this]
  grind
theorem SubInv.finish {X Y l : List Nat} {c : Nat} (h : SubInv X Y X.length c l) (hY : Y.length ≤ X.length) (hle : Nm.val W Y ≤ Nm.val W X) : Nm.trimL l = Nm.dg W (Nm.val W X - Nm.val W Y) := by
 obtain ⟨h1,h2,h3⟩ := h;rw [← h1,List.take_length] at h2;rw [List.take_length,List.take_of_length_le hY,← h1,List.take_length] at h3;have hlt := Nm.val_lt h2;rw [Nm.trimL_dg W2 h2];have : c = 0 := by
  rcases Nat.eq_zero_or_pos c with h0 | h0
  ·exact h0
  ·have : W ^ l.length * 1 ≤ W ^ l.length * c := Nat.mul_le_mul_left _ h0
   omega
 subst this
 congr 1
 omega
theorem k'3j (X Y : List Nat) (p1 p2 : Option Addr) (b1 o1 c1 b2 o2 c2 : Nat) (w : World)
 (hp1 : X ≠ [] → p1 = some ⟨b1,o1,none⟩) (hp2 : Y ≠ [] → p2 = some ⟨b2,o2,none⟩) (hn : X.length ≤ 1000000000)
 (h1 : ∀ k (h : k < X.length),w.cell? ⟨b1,o1 + k,none⟩ = some (.int .u64 (X[k] : Int))) (h2 : ∀ k (h : k < Y.length),w.cell? ⟨b2,o2 + k,none⟩ = some (.int .u64 (Y[k] : Int)))
 (d1 : Nm.Dig W X) (d2 : Nm.Dig W Y) (hYX : Y.length ≤ X.length) (hle : Nm.val W Y ≤ Nm.val W X) :
 Calls Tryz.prog 152 #[.slice p1 X.length c1,.slice p2 Y.length c2] w (Gives (Nm.val W X - Nm.val W Y) w) := by
 have hmk := fun w => k'f X.length w (by omega)
 have Hle := i' hle;clear hle;go_enter Tryz.func152,Tryz.ntmps152;go_wp2;have Hp1 := i' hp1;have Hp2 := i' hp2;have H1 := i' h1;have H2 := i' h2;clear hmk hp1 hp2 h1 h2;go_loopw [6,15] (fun c i wr => ∃ k cn l,k ≤ Y.length ∧ i = .int .i64 (k : Nat) ∧ c = .int .u64 (cn : Nat) ∧ cn ≤ 1 ∧ Arr wr w.heap.size l ∧ SubInv X Y k cn l ∧ Below w.heap.size w wr)
  (fun _ i _ => Y.length - (intOf i).toNat)
 case atStart =>
  exact ⟨0,0,_,Nat.zero_le _,rfl,rfl,Nat.zero_le _,Arr.made w _,⟨by simp,by simp [Nm.dig_nil],by simp [Nm.val]⟩,(Below.refl _ _).alloc (Nat.le_refl _) _⟩
 case round =>
  obtain ⟨k,cn,l,hk,rfl,rfl,hcn,harr,hinv,hbl⟩ := hrel;by_cases hlt : k < Y.length
  ·have hX : k < X.length := by omega
   obtain rfl := Hp1.out (by intro e; rw [e] at hX; exact absurd hX (Nat.not_lt_zero _))
   obtain rfl := Hp2.out (by intro e; rw [e] at hlt; exact absurd hlt (Nat.not_lt_zero _))
   have e1 := k'e hbl (H1.out k hX);have e2 := k'e hbl (H2.out k hlt);have hl : k < l.length := by have := hinv.1; omega
   have e3 := harr.cell k hl;have e4 := harr.free k;have ea := k'r X[k] Y[k] cn hcn;have Hinv := i' (hinv.step hX hlt (Nm.dig_get d1 k hX) (Nm.dig_get d2 k hlt) hcn);have Harr := i' (harr.set k (df X[k] Y[k] cn));have Hb := i' (hbl.setCell (p := ⟨w.heap.size,k,none⟩) (Nat.le_refl _) (.int .u64 (df X[k] Y[k] cn)));have hc2 := k'o X[k] Y[k] cn;clear hinv harr hbl;go_wp2;go_roundw
   case rel => exact ⟨k + 1,_,_,hlt,by go_num,rfl,hc2,Harr.out,Hinv.out,Hb.out⟩
   case measure => simp [intOf]; omega
  ·obtain rfl : k = Y.length := by omega
   go_wp2;obtain ⟨wo,hwo⟩ : ∃ wo : World,wo = wr := ⟨_,rfl⟩;subst hwo;go_loopw [6,9] (fun c i wr => ∃ k cn l,Y.length ≤ k ∧ k ≤ X.length ∧ i = .int .i64 (k : Nat) ∧ c = .int .u64 (cn : Nat) ∧ cn ≤ 1 ∧ Arr wr w.heap.size l ∧ SubInv X Y k cn l ∧ Below w.heap.size w wr)
    (fun _ i _ => X.length - (intOf i).toNat)
   case atStart => exact ⟨Y.length,cn,l,Nat.le_refl _,hYX,rfl,rfl,hcn,harr,hinv,hbl⟩
   case round =>
    clear hinv harr hbl hcn;obtain ⟨k,cm,l2,hYk,hk,rfl,rfl,hcn,harr,hinv,hbl⟩ := hrel;by_cases hX : k < X.length
    ·obtain rfl := Hp1.out (by intro e; rw [e] at hX; exact absurd hX (Nat.not_lt_zero _))
     have e1 := k'e hbl (H1.out k hX);have hl : k < l2.length := by have := hinv.1; omega
     have e3 := harr.cell k hl;have e4 := harr.free k;have ea := k't X[k] cm hcn;have Hinv := i' (hinv.step0 hX hYk (Nm.dig_get d1 k hX) hcn);have Harr := i' (harr.set k (df X[k] 0 cm));have Hb := i' (hbl.setCell (p := ⟨w.heap.size,k,none⟩) (Nat.le_refl _) (.int .u64 (df X[k] 0 cm)));have hc2 := k'o X[k] 0 cm;clear hinv harr hbl;go_wp2;go_roundw
     case rel => exact ⟨k + 1,_,_,by omega,hX,by go_num,rfl,hc2,Harr.out,Hinv.out,Hb.out⟩
     case measure => simp [intOf]; omega
    ·obtain rfl : k = X.length := by omega
     have hll := hinv.1;have Hfin := i' (hinv.finish hYX Hle.out);have Hb := i' hbl;have Hrd := i' (Rd.of_whole harr X.length hll (by unfold maxLen; omega))
     clear hinv harr hbl hll;go_wp2_with fail;refine (k'j _ _ _ Hrd.out).mono ?_;rintro e w' ⟨v,rfl,hrd,rfl⟩;rw [Hfin.out] at hrd;have Hr2 := i' hrd;clear hrd;go_wp2;go_ret;exact ⟨v,rfl,Hr2.out,Hb.out⟩
theorem k'3k (v1 v2 : Value) (X Y : List Nat) (w : World) (h1 : Rd w v1 X) (h2 : Rd w v2 Y) (hX : X.length ≤ 1000000000) (d1 : Nm.Dig W X) (d2 : Nm.Dig W Y) (n2 : Nm.Nrm Y) (hle : Nm.val W Y ≤ Nm.val W X) :
 Calls Tryz.prog 152 #[v1,v2] w (Gives (Nm.val W X - Nm.val W Y) w) := by
 obtain ⟨p1,b1,o1,c1,rfl,_,_,hp1,_,h1⟩ := h1;obtain ⟨p2,b2,o2,c2,rfl,_,_,hp2,_,h2⟩ := h2;exact k'3j X Y p1 p2 b1 o1 c1 b2 o2 c2 w hp1 hp2 hX h1 h2 d1 d2 (Nm.len_le_of_val W2 n2 (Nat.lt_of_le_of_lt hle (Nm.val_lt d1))) hle
end Go.Proofs.YtepddegphdlbeaaGreat
