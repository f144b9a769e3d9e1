/- What the theorem leans on, part G6. -/
import Derived.Test.YtepddegphdlbeaaGreatG5
import Derived.Test.YtepddegphdlbeaaGreatG4
import Derived.Test.YtepddegphdlbeaaGreatG2
import Derived.Test.YtepddegphdlbeaaGreatG1
import Derived.Test.YtepddegphdlbeaaGreatG0
import Derived.Test.YtepddegphdlbeaaGreatProg
import Derived.WalkKit
import Derived.WalkSpells
import Derived.WalkLawsBesides
import Derived.Lib.Hide
import Derived.Deep.QuietTactic
import Derived.BigQuiet
import Derived.Shelf.Small.Bits
import Derived.Shelf.Small.Wraps
import Derived.Shelf.Strconv.Itoa0
import Derived.Shelf.Bits.Mul64
import Derived.Ground.Names2Prog
import Derived.Shelf.Slices.SearchI
import Derived.Shelf.Spec.BitsCarry
import Derived.Deep.LoopGhost
import Derived.Deep.RegionHeld3
import Derived.Laws.AppendOwnNone
import Derived.Test.YtepddegphdlbeaaGreatG3
import Derived.Deep.DeepCutAuto
set_option maxRecDepth 100000
set_option maxHeartbeats 16000000
set_option linter.all false
namespace Go.Proofs.YtepddegphdlbeaaGreat
open Go.RowKit
theorem k'8e (m : Nat) (w : World) (h0 : 0 < m) (hm : m ≤ 9223372036854775808) :
 Calls Tryz.prog 74 #[.int .i64 (-(m : Int))] w (IntPost (-(m : Int)) w) := by
 obtain ⟨x0, h0'⟩ : ∃ x0, m % 1000000000 = x0 := ⟨_, rfl⟩
 obtain ⟨x1, h1⟩ : ∃ x1, m / 1000000000 % 1000000000 = x1 := ⟨_, rfl⟩
 obtain ⟨x2, h2⟩ : ∃ x2, m / 1000000000 / 1000000000 = x2 := ⟨_, rfl⟩
 have HD : Hid (Nm.trimL [x0, x1, x2] = Nm.dg D9 m) := by
  show _ = _
  subst h0' h1 h2
  have h1 : Nm.Dig D9 [m % 1000000000, m / 1000000000 % 1000000000, m / 1000000000 / 1000000000] :=
   Nm.dig_cons.2 ⟨Nat.mod_lt _ (by decide), Nm.dig_cons.2 ⟨Nat.mod_lt _ (by decide), Nm.dig_cons.2 ⟨by unfold D9; omega, Nm.dig_nil _⟩⟩⟩
  rw [Nm.trimL_dg D92 h1]
  congr 1
  simp only [Nm.val_cons, Nm.val_nil]
  unfold D9
  omega
 have f0 : x0 < 1000000000 := by rw [← h0']; exact Nat.mod_lt _ (by decide)
 have f1 : x1 < 1000000000 := by rw [← h1]; exact Nat.mod_lt _ (by decide)
 have f2 : x2 < 1000000000 := by omega
 obtain ⟨q, hq⟩ : ∃ q, m / 1000000000 = q := ⟨_, rfl⟩
 rw [hq] at h1 h2
 have hml : (Nm.dg D9 m).length ≤ 1000000 := by
  have h6 : (9223372036854775808 : Nat) < D9 ^ 3 := by decide
  have h5 := Nm.len_le_of_val D92 (Nm.nrm_dg D92 m) (k := 3) (by rw [Nm.val_dg D92]; omega)
  omega
 have hM0 := fun v w (h : Ri w v (Nm.dg D9 m)) => (k'6q true v m w h).mono (k'78 (z := -(m : Int)) (by simp))
 have HM := i' hM0
 have HT := i' (fun v xs w h => k'5z v xs w h)
 have HSb0 := fun v1 v2 w' (h1 : Rz w' v1 (-(m : Int))) (h2 : Rz w' v2 0) => k'7d (-(m : Int)) 0 v1 v2 w' h1 h2 (by rw [Int.natAbs_neg]; exact hml) (by simp [Nm.dg_zero])
 have HSb := i' HSb0
 have HZ0 : Hid (-(m : Int) - 0 = -(m : Int)) := Int.sub_zero _
 obtain ⟨nn, hnn⟩ : ∃ nn : Int, -(m : Int) = nn := ⟨_, rfl⟩
 have e0 : Int.tmod nn 1000000000 = -(x0 : Int) := by rw [← hnn, Int.neg_tmod, Int.tmod_eq_emod_of_nonneg (by omega)]; omega
 have e1 : Int.tdiv nn 1000000000 = -(q : Int) := by rw [← hnn, Int.neg_tdiv, Int.tdiv_eq_ediv_of_nonneg (by omega)]; omega
 have e2 : Int.tmod (-(q : Int)) 1000000000 = -(x1 : Int) := by rw [Int.neg_tmod, Int.tmod_eq_emod_of_nonneg (by omega)]; omega
 have e3 : Int.tdiv (-(q : Int)) 1000000000 = -(x2 : Int) := by rw [Int.neg_tdiv, Int.tdiv_eq_ediv_of_nonneg (by omega)]; omega
 obtain ⟨w0, hw0⟩ : ∃ w0 : World, w0 = w.alloc (.cells #[.bool false, .slice none 0 0] 52) := ⟨_, rfl⟩
 have hb0 : Hid (Below w.heap.size w w0) := by rw [hw0]; exact k'6n _ _
 have k4 : w0.cell? ⟨w.heap.size, 0, none⟩ = some (.bool false) := by rw [hw0]; simp [go_sem]
 have k5 : w0.cell? ⟨w.heap.size, 1, none⟩ = some (.slice none 0 0) := by rw [hw0]; simp [go_sem]
 have k6 : w0.frozen? ⟨w.heap.size, 0, none⟩ = false := by rw [hw0]; simp [go_sem]
 have k7 : w0.frozen? ⟨w.heap.size, 1, none⟩ = false := by rw [hw0]; simp [go_sem]
 have h3 := Ri.three w0 x0 x1 x2
 have b3 := k'6n w0 (.cells #[.int .i64 (x0 : Int), .int .i64 (x1 : Int), .int .i64 (x2 : Int)] 3)
 have hsz : w0.heap.size = w.heap.size + 1 := by rw [hw0]; simp
 rw [hsz] at h3
 have G3 := i' (And.intro h3 b3)
 have Hw0 := i' hw0
 have KK := i' (And.intro k4 (And.intro k5 (And.intro k6 k7)))
 have hn0 : nn < 0 := by omega
 have hn1 : -9223372036854775808 ≤ nn := by omega
 have hq1 : (q : Int) ≤ 9223372037 := by omega
 rw [hnn] at HM HSb HZ0 ⊢
 clear h0' h1 h2 h3 b3 hsz hw0 k4 k5 k6 k7 hm hnn hM0 HSb0 hml h0 hq
 go_enter Tryz.func74, Tryz.ntmps74
 go_wp2_with fail
 rw [← Hw0.out]
 refine (HT.out _ _ _ G3.out.1).mono ?_
 rintro e w5 ⟨v5, rfl, h5, rfl⟩
 rw [HD.out] at h5
 have H5 := i' h5
 clear h5
 go_wp2_with fail
 refine (HM.out _ _ H5.out).mono ?_
 rintro e w6 ⟨v6, he, h6, b6⟩
 unfold iV at he
 obtain ⟨zb, hzb⟩ : ∃ zb, decide (nn < 0) = zb := ⟨_, rfl⟩
 rw [hzb] at he
 have HZB := i' hzb
 clear hzb
 subst he
 have HS6 := HSb.out v6 (.slice none 0 0) w6 h6 (Ri.nil _)
 unfold iV at HS6
 rw [HZB.out] at HS6
 have HS7 := i' HS6
 have C6 := i' (link G3.out.2 b6)
 have H6 := i' h6
 clear h6 b6 HS6
 go_wp2_with fail
 refine HS7.out.mono ?_
 rintro e w7 ⟨v7, he, h7, b7⟩
 rw [HZ0.out] at he h7
 unfold iV at he
 rw [HZB.out] at he
 subst he
 have c7 := link C6.out b7
 have q4 := keep1 c7 KK.out.1
 have q5 := keep1 c7 KK.out.2.1
 have q6 := keepf c7 KK.out.1 KK.out.2.2.1
 have q7 := keepf c7 KK.out.2.1 KK.out.2.2.2
 have H7 := i' h7
 have HZ := i' (link hb0.out c7)
 obtain ⟨pm, bm, om, cm, rfl, hrm⟩ := h7
 clear hrm b7 c7
 go_wp2
 exact bodyPost_ret (v := .agg #[.bool zb, .slice pm (Nm.dg D9 nn.natAbs).length cm]) (by simp [results, Tryz.results74, go_sem, q4, q5]) rfl ⟨_, by rw [iV, HZB.out], H7.out.set2 q4 q5 (fun _ => by simp), (HZ.out.setCell (p := ⟨w.heap.size, 0, none⟩) (Nat.le_refl _) _).setCell (p := ⟨w.heap.size, 1, none⟩) (Nat.le_refl _) _⟩
theorem k'8f (n : Int) (w : World) (h1 : -9223372036854775808 ≤ n) (h2 : n ≤ 9223372036854775807) :
 Calls Tryz.prog 74 #[.int .i64 n] w (IntPost n w) := by
 by_cases h : n < 0
 ·obtain ⟨m, rfl⟩ : ∃ m : Nat, n = -(m : Int) := ⟨n.natAbs, by omega⟩
  exact k'8e m w (by omega) (by omega)
 ·obtain ⟨m, rfl⟩ : ∃ m : Nat, n = (m : Int) := ⟨n.natAbs, by omega⟩
  exact k'7g m w (by omega)
def ZPost (z : Int) (w : World) (e : Ending) (w' : World) : Prop := e = .returned (.agg #[.bool (zb z), .string (zs z)]) ∧ Below w.heap.size w w'
theorem wz_eq (z : Int) : wz z = .agg #[.bool (zb z), .string (zs z)] := by
 rw [wz, wd, zb, zs]
 by_cases hz : z < 0
 ·have h1 : z.natAbs ≠ 0 := by omega
  simp [hz, h1]
 ·simp [hz]
def QZPost (x y : Int) (w : World) (e : Ending) (w' : World) : Prop := e = .returned (.agg #[.bool (zb x), .string (zs x), .bool (zb y), .string (zs y)]) ∧ Below w.heap.size w w'
abbrev Z (z : Int) : Value := .agg #[.bool (zb z), .string (zs z)]
abbrev Q (x y : Int) : Value := .agg #[.bool (zb x), .string (zs x), .bool (zb y), .string (zs y)]
def Ret (v : Value) (w : World) (e : Ending) (w' : World) : Prop := e = .returned v ∧ Below w.heap.size w w'
abbrev S0 : ByteArray := ⟨#[45, 48]⟩
abbrev S7 : ByteArray := ⟨#[48, 48, 55]⟩
abbrev S64 : ByteArray := ⟨#[45, 49, 56, 52, 52, 54, 55, 52, 52, 48, 55, 51, 55, 48, 57, 53, 53, 49, 54, 49, 54]⟩
abbrev R64 : Value := .agg #[.bool true, .string ⟨#[1, 0, 0, 0, 0, 0, 0, 0, 0]⟩]
def WL (w : World) (g : Nat) (L : List (Bool × ByteArray)) : Prop := ∀ k (h : k < L.length), w.cell? ⟨g, 2 * k, none⟩ = some (.bool L[k].1) ∧ w.cell? ⟨g, 2 * k + 1, none⟩ = some (.string L[k].2)
theorem WL.below {w w' : World} {g : Nat} {L : List (Bool × ByteArray)} (h : WL w g L) (b : Below w.heap.size w w') : WL w' g L := fun k hk => ⟨keep1 b (h k hk).1, keep1 b (h k hk).2⟩
theorem WL.one (w : World) (a : Bool) (s : ByteArray) (t : TypeId) : WL (w.alloc (.cells #[.bool a, .string s] t)) w.heap.size [(a, s)] := by
 intro k hk
 match k, hk with
 | 0, _ => exact ⟨by simp [go_sem], by simp [go_sem]⟩
theorem WL.two (w : World) (a b : Bool) (s t : ByteArray) (ty : TypeId) : WL (w.alloc (.cells #[.bool a, .string s, .bool b, .string t] ty)) w.heap.size [(a, s), (b, t)] := by
 intro k hk
 match k, hk with
 | 0, _ => exact ⟨by simp [go_sem], by simp [go_sem]⟩
 | 1, _ => exact ⟨by simp [go_sem], by simp [go_sem]⟩
def shortL (L : List (Bool × ByteArray)) : Bool := L.all fun x => decide (x.2.size ≤ 60)
def validL (L : List (Bool × ByteArray)) : Bool := L.all fun x => vld x.1 x.2
theorem Ri.drew {w : World} {v : Value} {xs : List Nat} (h : Ri w v xs) : Ri w.drew v xs := h
theorem Ri.allocd {w : World} {v : Value} {xs : List Nat} (h : Ri w v xs) (o : Obj) : Ri (w.alloc o) v xs := h.below (k'56 w o) (Nat.le_refl _)
theorem k'8y {x : Nat} (h : x < 256) : Nm.trimL [x] = Nm.dg D9 x := by
 have h1 : Nm.Dig D9 [x] := Nm.dig_cons.2 ⟨by unfold D9; omega, Nm.dig_nil _⟩
 rw [Nm.trimL_dg D92 h1]
 simp [Nm.val]
theorem k'8z {m k : Nat} (h : m < 256 ^ k) : (Nm.dg D9 m).length ≤ k := by
 refine Nm.len_le_of_val D92 (Nm.nrm_dg D92 m) ?_
 rw [Nm.val_dg D92]
 exact Nat.lt_of_lt_of_le h (Nat.pow_le_pow_left (by decide) k)
theorem k'90 {x : Nat} (h : x < 256) : IntKind.i64.wrap (x : Int) = (x : Int) := by
 unfold IntKind.wrap
 simp [IntKind.bits, IntKind.signed]
 omega
theorem k'91 {s : ByteArray} {k : Nat} (hk : k < s.size) : hval (s.data.toList.take (k + 1)) 0 = hval (s.data.toList.take k) 0 * 256 + s[k].toNat := by
 have h2 : k < s.data.toList.length := hk
 rw [List.take_succ_eq_append_getElem h2, k'2m]
 rfl
theorem k'92 {s : ByteArray} {k : Nat} (hk : k ≤ s.size) : hval (s.data.toList.take k) 0 < 256 ^ k := by
 have h := k'2p (s.data.toList.take k)
 have h2 : (s.data.toList.take k).length = k := by
  have : s.data.toList.length = s.size := rfl
  simp; omega
 rwa [h2] at h
theorem k'93 (s : ByteArray) : hval (s.data.toList.take s.size) 0 = bv s := by
 have h2 : s.data.toList.length = s.size := rfl
 rw [List.take_of_length_le (by omega), k'2l, Nat.zero_mul, Nat.zero_add]; rfl
theorem k'94 (a : Bool) (s : ByteArray) (w : World) (hs : s.size ≤ 100000) : Calls Tryz.prog 37 #[.agg #[.bool a, .string s]] w (IntPost (sg a (bv s)) w) := by
 have HM := i' (fun v m w h => (k'6q a v m w h).mono (k'78 (z := sg a m) rfl))
 have HT := i' (fun v xs w h => k'5z v xs w h)
 obtain ⟨w0, hw0⟩ : ∃ w0 : World, w0 = (w.alloc (.cells #[.bool a, .string s] 44)).alloc (.cells #[.bool false, .slice none 0 0] 52) := ⟨_, rfl⟩
 have hb0 : Hid (Below w.heap.size w w0) := by rw [hw0]; exact ((Below.refl _ _).alloc (Nat.le_refl _) _).alloc (by simp) _
 have i1 : ZC (.bool a) (.string s) w0 w.heap.size := by rw [hw0]; exact (ZC.new rfl).alloc _
 have i2 : ZC (.bool false) (.slice none 0 0) w0 (w.heap.size + 1) := by rw [hw0]; exact ZC.new (by simp)
 have I1 := i' i1
 have I2 := i' i2
 have Hw0 := i' hw0
 clear i1 i2 hw0
 go_enter Tryz.func37, Tryz.ntmps37
 go_wp2_with fail
 rw [← Hw0.out]
 clear Hw0
 go_loopw [3, 4] (fun dv iv wr => ∃ (wz : World) (k : Nat), wz = wr ∧ k ≤ s.size ∧ iv = .int .i64 (k : Int) ∧ Hid (Ri wz dv (Nm.dg D9 (hval (s.data.toList.take k) 0))) ∧ Hid (Below w0.heap.size w0 wz))
  (fun _ iv _ => s.size - (intOf iv).toNat)
 case atStart => exact ⟨w0, 0, rfl, Nat.zero_le _, rfl, by rw [List.take_zero]; exact Ri.nil w0, Below.refl _ _⟩
 case round =>
  obtain ⟨wz, k, rfl, hk, rfl, hri, hbl⟩ := hrel
  by_cases hlt : k < s.size
  ·have hmx := k'92 (s := s) (k := k) hk
   have HS := i' (k'91 hlt)
   have hlm := Nat.le_trans (k'8z hmx) (by omega : k ≤ 1000000)
   obtain ⟨m, hm⟩ : ∃ m, hval (s.data.toList.take k) 0 = m := ⟨_, rfl⟩
   rw [hm] at hri HS hlm hmx
   obtain ⟨x, hx⟩ : ∃ x : Nat, s[k].toNat = x := ⟨_, rfl⟩
   have hx2 : x < 256 := by rw [← hx]; exact UInt8.toNat_lt _
   rw [hx] at HS
   have hlm2 : (Nm.dg D9 (m * 256)).length ≤ 1000000 := by
    refine Nat.le_trans (k'8z (k := k + 1) ?_) (by omega)
    rw [Nat.pow_succ]
    exact Nat.mul_lt_mul_of_pos_right hmx (by decide)
   have HSM : Hid (∀ v w', Ri w' v (Nm.dg D9 m) → Calls Tryz.prog 94 #[v, .int .i64 256] w' (GivesI (m * 256) w')) := fun v w' h => k'6o v m 256 w' (by decide) h hlm
   have HP : Hid (∀ v1 v2 w', Ri w' v1 (Nm.dg D9 (m * 256)) → Ri w' v2 (Nm.dg D9 x) → Calls Tryz.prog 93 #[v1, v2] w' (GivesI (m * 256 + x) w')) := fun v1 v2 w' h1 h2 => k'64 v1 v2 (m * 256) x w' h1 h2 hlm2 (Nat.le_trans (k'8z (k := 1) hx2) (by decide))
   have HX := i' (k'8y hx2)
   have hRi := hri.out
   have hwr := k'90 hx2
   obtain ⟨k0, k1, _⟩ := I1.out.next hbl.out
   have k1b := k1
   have hxi : (s[k].toNat : Int) = (x : Int) := by rw [hx]
   have hsz : Hid (w.heap.size < wz.heap.size) := World.block_lt_of_cell? wz _ k0
   have hsz2 := hsz.out
   have hsz3 : ¬ wz.heap.size = w.heap.size := by omega
   have hsz4 : ¬ w.heap.size = wz.heap.size := by omega
   clear hm hmx hlm hlm2 k0
   go_wp2_with fail
   go_region_held3 (fun W' => W'.cell? ⟨w.heap.size, 1, none⟩ = some (.string s)) (go_keep)
    (first
     | (go_at_call 94; (with_reducible refine (HSM.out _ _ (by first | exact hRi | exact hRi.drew | exact hRi.allocd _ | exact (hRi.allocd _).drew | exact hRi.drew.allocd _)).mono ?_); rintro e w1 ⟨v1, rfl, r1, b1⟩; (try (have b1 := k'5b b1)); have d1 : Below wz.heap.size wz w1 := chain (by first | exact Below.refl _ _ | exact (Below.refl _ _).drew | exact k'56 _ _ | exact ((Below.refl _ _).drew).alloc (Nat.le_refl _) _) b1; have p1 := keep1 d1 k1b; (try (have X1 := i' ((Ri.one wz x).below b1 (Nat.le_refl _)))); have f1 : w.heap.size < w1.heap.size := Nat.lt_of_lt_of_le hsz.out d1.size; have f2 : ¬ w1.heap.size = w.heap.size := Nat.ne_of_gt f1; have f3 : ¬ w.heap.size = w1.heap.size := Nat.ne_of_lt f1; have G1 := i' r1)
     | (go_at_call 95; (with_reducible refine (HT.out _ [x] _ (by first | exact X1.out | exact Ri.one w1 x)).mono ?_); rintro e w2 ⟨v2, rfl, r2, rfl⟩; rw [HX.out] at r2; have G2 := i' r2)
     | (go_at_call 93; (with_reducible refine (HP.out _ _ _ (by first | exact G1.out | exact G1.out.allocd _) G2.out).mono ?_); rintro e w3 ⟨v3, rfl, r3, b3⟩; have d3 : Below wz.heap.size wz w3 := chain d1 (chain (by first | exact Below.refl _ _ | exact k'56 _ _) b3); have p1 := keep1 d3 k1b; have G3 := i' r3; have D3 := i' d3)
     | fail)
   all_goals
    have C3 := i' (chain hbl.out D3.out)
    rw [← HS.out] at G3
    go_wp2
    go_roundw
    case rel => exact ⟨_, k + 1, rfl, by omega, by go_num, G3, C3⟩
    case measure => simp [intOf]; omega
  ·obtain rfl : k = s.size := by omega
   have hRI := hri
   rw [k'93] at hRI
   obtain ⟨k0, _⟩ := I1.out.next hbl.out
   clear hri
   go_wp2_with fail
   refine (HM.out _ _ _ hRI.out).mono ?_
   rintro e w4 ⟨v4, rfl, r4, b4⟩
   have c := chain hbl.out b4
   obtain ⟨m0, m1, m2, m3⟩ := I2.out.next c
   have HR := i' r4
   obtain ⟨p9, q9, o9, c9, rfl, hr9⟩ := r4
   unfold iV
   obtain ⟨zz, hzz⟩ : ∃ zz, decide (sg a (bv s) < 0) = zz := ⟨_, rfl⟩
   rw [hzz]
   have HZZ := i' hzz
   clear hzz
   have HZ := i' (k'5c (chain hb0.out c) (g := w.heap.size + 1) (by omega) (.bool zz) (.slice p9 (Nm.dg D9 (sg a (bv s)).natAbs).length c9))
   have HR2 := i' (HR.out.set2 (u1 := .bool zz) (u2 := .slice p9 (Nm.dg D9 (sg a (bv s)).natAbs).length c9) m0 m1 (fun _ => by simp))
   clear b4 c hr9
   go_wp2
   exact bodyPost_ret (v := .agg #[.bool zz, .slice p9 (Nm.dg D9 (sg a (bv s)).natAbs).length c9]) (by simp [results, Tryz.results37, go_sem, m0, m1]) rfl ⟨_, by rw [iV, HZZ.out], HR2.out, HZ.out⟩
theorem sg_z (z : Int) : sg (zb z) z.natAbs = z := by
 unfold sg zb
 by_cases h : z < 0
 ·rw [decide_eq_true h, if_pos rfl]; omega
 ·rw [decide_eq_false h, if_neg (by simp)]; omega
theorem zb_sg {a : Bool} {s : ByteArray} (h : vld a s = true) : zb (sg a (bv s)) = a ∧ zs (sg a (bv s)) = s := by
 have hc := k'40 h
 have e1 : (sg a (bv s)).natAbs = bv s := by unfold sg; split <;> omega
 refine ⟨?_, by rw [zs, e1, bs_bv hc]⟩
 unfold sg zb
 cases a with
 | false => rw [if_neg (by simp)]; exact decide_eq_false (by omega)
 | true =>
  rw [if_pos rfl]
  have h0 : 0 < s.size := by
   rcases Nat.eq_zero_or_pos s.size with h0 | h0
   ·unfold vld at h; rw [dif_neg (by omega)] at h; simp at h
   ·exact h0
  have : bv s ≠ 0 := fun h1 => by have := (k'4l hc).1 h1; omega
  exact decide_eq_true (by omega)
theorem k'97 (x : Bool) (s : ByteArray) (w : World) : (Instr.field 44 (.agg #[.bool x, .string s]) 1).run Tryz.prog w = .ok (.string s) w := by kernel_rfl
theorem bitLen_half : ∀ x < 256, x ≠ 0 → Lib.bitLen x = Lib.bitLen (x / 2) + 1 := by decide +kernel
theorem k'98 : Lib.bitLen 0 = 0 := by decide
theorem k'99 (z : Int) (v : Value) (w : World) (h : Rz w v z) (hl : (Nm.dg D9 z.natAbs).length ≤ 1000000) (hs : (zs z).size ≤ 100000000) :
 Calls Tryz.prog 72 #[iV z v] w (IPost (lenB (zs z)) w) := by
 have HT : Hid (∀ v w, Rz w v z → Calls Tryz.prog 39 #[iV z v] w fun e w' => e = .returned (.agg #[.bool (zb z), .string (zs z)]) ∧ Below w.heap.size w w') := fun v w h => by
  have := k'7y z v w h hl
  unfold ToPost at this
  rwa [wz_eq] at this
 have H0 := i' h
 obtain ⟨p, b1, o1, c1, rfl, hr⟩ := h
 clear hr hl
 unfold iV at HT ⊢
 generalize decide (z < 0) = bz at *
 generalize zb z = bb at *
 generalize zs z = s at *
 generalize (Nm.dg D9 z.natAbs).length = len at *
 obtain ⟨w0, hw0⟩ : ∃ w0 : World, w0 = w.alloc (.cells #[.bool bz, .slice p len c1] 52) := ⟨_, rfl⟩
 have hb0 : Hid (Below w.heap.size w w0) := by rw [hw0]; exact k'56 _ _
 have R0 : Hid (Rz w0 (.slice p len c1) z) := Ri.below H0.out hb0.out (Nat.le_refl _)
 have Hw0 := i' hw0
 clear hw0 H0
 rcases Nat.eq_zero_or_pos s.size with h0 | h0
 ·have E : Hid (lenB s = 0) := by show _ = _; unfold lenB; rw [dif_neg (by omega)]
  rw [E.out]
  have hz : ((s.size : Int) == 0) = true := beq_iff_eq.2 (by omega)
  have hfm := k'97
  clear h0
  go_enter Tryz.func72, Tryz.ntmps72
  go_wp2_with fail
  rw [← Hw0.out]
  refine (HT.out _ _ R0.out).mono ?_
  rintro e wa ⟨rfl, ba⟩
  have HZ := i' (chain hb0.out ba)
  clear ba
  go_wp2
  go_ret
  exact ⟨rfl, HZ.out⟩
 ·have hz : ((s.size : Int) == 0) = false := beq_eq_false_iff_ne.2 (by omega)
  have hfm := k'97
  obtain ⟨x, hx⟩ : ∃ x : Nat, s[0].toNat = x := ⟨_, rfl⟩
  have hx2 : x < 256 := by rw [← hx]; exact UInt8.toNat_lt _
  have hxi : (s[0].toNat : Int) = (x : Int) := by rw [hx]
  have hwr : IntKind.i64.wrap (x : Int) = (x : Int) := by
   unfold IntKind.wrap
   simp [IntKind.bits, IntKind.signed]
   omega
  obtain ⟨T, hT⟩ : ∃ T : Int, lenB s = T := ⟨_, rfl⟩
  rw [hT]
  have hT2 : 8 * ((s.size : Int) - 1) + ((Lib.bitLen x : Nat) : Int) = T := by
   rw [← hT]
   unfold lenB
   rw [dif_pos h0, hx]
   omega
  have HTT := i' hT2
  have hT1 : T ≤ 900000000 := by
   have := k'1b x (Nat.lt_of_lt_of_le hx2 (by decide))
   omega
  clear hT hx hT2
  go_enter Tryz.func72, Tryz.ntmps72
  go_wp2_with fail
  rw [← Hw0.out]
  refine (HT.out _ _ R0.out).mono ?_
  rintro e wa ⟨rfl, ba⟩
  have HZ := i' (chain hb0.out ba)
  clear ba
  go_wp2
  go_loop [4, 5] (fun nv kv => ∃ (n kk : Int) (k : Nat), nv = .int .i64 n ∧ kv = .int .i64 kk ∧ 0 ≤ kk ∧ kk < 256 ∧ 0 ≤ n ∧ n ≤ T ∧ Hid (kk = (k : Int)) ∧ Hid (n + ((Lib.bitLen k : Nat) : Int) = T)) (fun _ kv => (intOf kv).toNat)
  case atStart => exact ⟨_, _, x, rfl, rfl, by omega, by omega, by omega, by have h5 := HTT.out; omega, rfl, HTT.out⟩
  case round =>
   obtain ⟨n, kk, k, rfl, rfl, hk1, hk2, hn0, hnT, hkk, hinv⟩ := hrel
   by_cases hk0 : kk = 0
   ·have E2 : Hid (n = T) := by
     have h5 := hinv.out
     have h6 : kk = (k : Int) := hkk.out
     obtain rfl : k = 0 := by omega
     rw [k'98] at h5
     show _ = _
     omega
    subst hk0
    go_wp2
    go_ret
    exact ⟨by rw [← E2.out]; rfl, HZ.out⟩
   ·have hpos : 0 < kk := by omega
    have h6 : kk = (k : Int) := hkk.out
    have hst : Hid (n + 1 + ((Lib.bitLen (k / 2) : Nat) : Int) = T) := by
     have h5 := hinv.out
     rw [bitLen_half k (by omega) (by omega)] at h5
     show _ = _
     omega
    have hn1 : n + 1 ≤ T := by have h5 := hst.out; omega
    obtain ⟨k2, hk2e⟩ : ∃ k2 : Int, kk / 2 = k2 := ⟨_, rfl⟩
    have hk3 : 0 ≤ k2 := by omega
    have hk4 : k2 < 256 := by omega
    have hk5 : Hid (k2 = ((k / 2 : Nat) : Int)) := by show _ = _; omega
    have hk6 : Hid (k2 < kk) := by show _ < _; omega
    clear h6 hk0
    go_wp2
    go_round
    case rel => exact ⟨n + 1, k2, k / 2, rfl, by first | rfl | rw [hk2e], hk3, hk4, by omega, hn1, hk5, hst⟩
    case measure => have h5 := hk6.out; simp only [intOf]; omega
theorem bitLen_le (x : Nat) (h : x < 256) : Lib.bitLen x ≤ 8 := by
 revert x
 decide +kernel
theorem k'9c {a : Bool} {s : ByteArray} (h : vld a s = true) : sgV a s = (sg a (bv s)).sign := by
 have h1 := zb_sg h
 have h2 : (sg a (bv s)).natAbs < Top := by
  have e1 : (sg a (bv s)).natAbs = bv s := by unfold sg; split <;> omega
  rw [e1]
  exact bv_lt h
 have h3 := sgV_z h2
 rwa [h1.1, h1.2] at h3
theorem k'9p (a b : Bool) (s t : ByteArray) (w : World) (hv1 : vld a s = true) (hv2 : vld b t = true) :
 Calls Tryz.prog 121 #[.agg #[.bool a, .string s], .agg #[.bool b, .string t]] w (WPost (wres (pls a (bv s) (!b) (bv t)).1 (pls a (bv s) (!b) (bv t)).2) (werr (pls a (bv s) (!b) (bv t)).2) w) := by
 have z1 := k'41 hv1
 have z2 := k'41 hv2
 have HV1 := k'3z a s
 have HV2 := k'3z b t
 rw [hv1] at HV1
 rw [hv2] at HV2
 have HA := i' (fun w => HV1 w (by omega))
 have HB := i' (fun w => HV2 w (by omega))
 have HR1 := i' (fun w => k'3d a s w (by omega) (k'40 hv1))
 have HR2 := i' (fun w => k'3d b t w (by omega) (k'40 hv2))
 have t1 := bv_lt hv1
 have t2 := bv_lt hv2
 have HP := i' (fun v1 v2 w h1 h2 => k'45 a (!b) v1 v2 (bv s) (bv t) w h1 h2 (Nat.le_trans (k'47 t1) (by decide)) (Nat.le_trans (k'47 t2) (by decide)))
 have HW := i' (fun v w h => k'3y (pls a (bv s) (!b) (bv t)).1 v (pls a (bv s) (!b) (bv t)).2 w h (Nat.le_trans (k'48 (k'49 t1 t2)) (by decide)))
 obtain ⟨rb, rs, hr⟩ := k'4a (pls a (bv s) (!b) (bv t)).1 (pls a (bv s) (!b) (bv t)).2
 rw [hr] at HW ⊢
 clear hr HV1 HV2 hv1 hv2 t1 t2
 generalize (pls a (bv s) (!b) (bv t)).1 = ra at *
 generalize (pls a (bv s) (!b) (bv t)).2 = rm at *
 generalize bv s = m at *
 generalize bv t = n at *
 generalize werr rm = rc at *
 go_enter Tryz.func121, Tryz.ntmps121
 go_wp2_with fail
 obtain ⟨w0, hw0⟩ : ∃ w0 : World, w0 = ((w.alloc (.cells #[.bool a, .string s] 44)).alloc (.cells #[.bool b, .string t] 44)).alloc (.cells #[.bool false, .string ⟨#[]⟩] 44) := ⟨_, rfl⟩
 have hb0 : Hid (Below w.heap.size w w0) := by rw [hw0]; exact (((Below.refl _ _).alloc (Nat.le_refl _) _).alloc (by simp) _).alloc (by simp; omega) _
 have k0 : w0.cell? ⟨w.heap.size, 0, none⟩ = some (.bool a) := by rw [hw0]; simp [go_sem]
 have k1 : w0.cell? ⟨w.heap.size, 1, none⟩ = some (.string s) := by rw [hw0]; simp [go_sem]
 have k2 : w0.cell? ⟨w.heap.size + 1, 0, none⟩ = some (.bool b) := by rw [hw0]; simp [go_sem]
 have k3 : w0.cell? ⟨w.heap.size + 1, 1, none⟩ = some (.string t) := by rw [hw0]; simp [go_sem]
 have k4 : w0.cell? ⟨w.heap.size + 1 + 1, 0, none⟩ = some (.bool false) := by rw [hw0]; simp [go_sem]
 have k5 : w0.cell? ⟨w.heap.size + 1 + 1, 1, none⟩ = some (.string ⟨#[]⟩) := by rw [hw0]; simp [go_sem]
 have k6 : w0.frozen? ⟨w.heap.size + 1 + 1, 0, none⟩ = false := by rw [hw0]; simp [go_sem]
 have k7 : w0.frozen? ⟨w.heap.size + 1 + 1, 1, none⟩ = false := by rw [hw0]; simp [go_sem]
 have hsz : w0.heap.size = w.heap.size + 3 := by rw [hw0]; simp
 rw [← hw0]
 have KK := i' (And.intro k0 (And.intro k1 (And.intro k2 (And.intro k3 (And.intro k4 (And.intro k5 (And.intro k6 k7)))))))
 have Hsz := i' hsz
 clear k0 k1 k2 k3 k4 k5 k6 k7 hw0 hsz
 refine (HA.out _).mono ?_
 rintro e wa ⟨rfl, hba⟩
 have q2 := keep1 hba KK.out.2.2.1
 have q3 := keep1 hba KK.out.2.2.2.1
 have HBa := i' hba
 clear hba
 go_wp2_with fail
 refine (HB.out _).mono ?_
 rintro e wb ⟨rfl, hbb⟩
 have hbc := chain HBa.out hbb
 have k0 := keep1 hbc KK.out.1
 have k1 := keep1 hbc KK.out.2.1
 have k2 := keep1 hbc KK.out.2.2.1
 have k3 := keep1 hbc KK.out.2.2.2.1
 have k4 := keep1 hbc KK.out.2.2.2.2.1
 have k5 := keep1 hbc KK.out.2.2.2.2.2.1
 have k6 := keepf hbc KK.out.2.2.2.2.1 KK.out.2.2.2.2.2.2.1
 have k7 := keepf hbc KK.out.2.2.2.2.2.1 KK.out.2.2.2.2.2.2.2
 have HBc := i' hbc
 have n1 : ¬ (w.heap.size = w.heap.size + 1 + 1) := by omega
 have n2 : ¬ (w.heap.size + 1 + 1 = w.heap.size) := by omega
 clear q2 q3 hbb hbc
 go_wp2_with fail
 go_region_held3 (fun W' => W'.cell? ⟨w.heap.size, 0, none⟩ = some (.bool a) ∧ W'.cell? ⟨w.heap.size, 1, none⟩ = some (.string s) ∧ W'.cell? ⟨w.heap.size + 1, 0, none⟩ = some (.bool b) ∧ W'.cell? ⟨w.heap.size + 1, 1, none⟩ = some (.string t)) (go_keep)
  (first
   | (go_at_call 135; (with_reducible refine (HR1.out _).mono ?_); rintro e w1 ⟨v1, rfl, r1, b1⟩; have c1 := chain ((Below.refl _ _).drew) b1; have p0 := keep1 c1 k0; have p1 := keep1 c1 k1; have p2 := keep1 c1 k2; have p3 := keep1 c1 k3; have G1 := i' (And.intro r1 c1); clear r1 b1 c1)
   | (go_at_call 135; (with_reducible refine (HR2.out _).mono ?_); rintro e w2 ⟨v2, rfl, r2, b2⟩; have c2 := chain G1.out.2 b2; have p0 := keep1 c2 k0; have p1 := keep1 c2 k1; have p2 := keep1 c2 k2; have p3 := keep1 c2 k3; have G2 := i' (And.intro (G1.out.1.below b2 (Nat.le_refl _)) (And.intro r2 c2)); clear r2 b2 c2)
   | (go_at_call 141; (with_reducible refine (k'35 _ _ _ _ G2.out.2.1).mono ?_); rintro e w5 ⟨v5, rfl, r5, b5⟩; have c5 := chain G2.out.2.2 b5; have p0 := keep1 c5 k0; have p1 := keep1 c5 k1; have p2 := keep1 c5 k2; have p3 := keep1 c5 k3; have G5 := i' (And.intro (G2.out.1.below b5 (Nat.le_refl _)) (And.intro r5 c5)); clear r5 b5 c5)
   | (go_at_call 140; (with_reducible refine (HP.out _ _ _ G5.out.1 G5.out.2.1).mono ?_); rintro e w3 ⟨v3, rfl, r3, b3⟩; have c3 := chain G5.out.2.2 b3; have p0 := keep1 c3 k0; have p1 := keep1 c3 k1; have p2 := keep1 c3 k2; have p3 := keep1 c3 k3; have G3 := i' (And.intro r3 c3); clear r3 b3 c3)
   | (go_at_call 139; (with_reducible refine (HW.out _ _ G3.out.1).mono ?_); rintro e w4 ⟨rfl, b4⟩; have c4 := chain G3.out.2 b4; have p0 := keep1 c4 k0; have p1 := keep1 c4 k1; have p2 := keep1 c4 k2; have p3 := keep1 c4 k3; have p4 := keep1 c4 k4; have p5 := keep1 c4 k5; have p6 := keepf c4 k4 k6; have p7 := keepf c4 k5 k7; have G4 := i' c4; clear b4 c4))
 have HZ := i' (((chain (chain hb0.out HBc.out) G4.out).setCell (p := ⟨w.heap.size + 1 + 1, 0, none⟩) (by simp; omega) (.bool rb)).setCell (p := ⟨w.heap.size + 1 + 1, 1, none⟩) (by simp; omega) (.string rs))
 go_wp2
 exact bodyPost_ret (v := .tuple #[.agg #[.bool rb, .string rs], .int .i64 rc]) (by simp [results, Tryz.results121, go_sem, p4, p5]) rfl ⟨rfl, HZ.out⟩
theorem k'9r {n k : Nat} (hk : 8 * k ≤ 65536) (h : n < 256 ^ k) : n < Top := by
 rw [k'5o] at h
 exact Nat.lt_of_lt_of_le h (Nat.pow_le_pow_right (by decide) (by rw [k'3m]; exact hk))
theorem wd_sg (a : Bool) (m : Nat) : wd a m = .agg #[.bool (zb (sg a m)), .string (zs (sg a m))] := by
 have e1 : (sg a m).natAbs = m := by unfold sg; split <;> omega
 have e2 : zb (sg a m) = (a && decide (m ≠ 0)) := by
  unfold zb sg
  cases a with
  | false => rw [if_neg (by simp), Bool.false_and]; exact decide_eq_false (by omega)
  | true =>
   rw [if_pos rfl, Bool.true_and]
   by_cases h : m = 0
   ·subst h; rfl
   ·rw [decide_eq_true (by omega : -(m : Int) < 0), decide_eq_true h]
 rw [wd, zs, e1, e2]
theorem k'9s (a b : Bool) (m n : Nat) : sg (pls a m b n).1 (pls a m b n).2 = sg a m + sg b n := by
 unfold pls
 split
 ·next h => subst h; cases a <;> simp [sg]; omega
 ·next h =>
  split
  ·cases a <;> cases b <;> simp_all [sg] <;> omega
  ·cases a <;> cases b <;> simp_all [sg] <;> omega
theorem k'9u (a : Bool) (m : Nat) : sg (!a) m = -(sg a m) := by cases a <;> simp [sg]
theorem k'9w (a : Bool) (m : Nat) : (sg a m).natAbs = m := by unfold sg; split <;> omega
theorem WL.drew {w : World} {g : Nat} {L : List (Bool × ByteArray)} (h : WL w g L) : WL w.drew g L := h
def CutI (x1 x2 s1 s2 : Value) (X1 X2 : List Nat) (B : Nat) (wb wx : World) (g7 g8 : Nat) : Prop := (B ≤ g7 ∧ B ≤ g8) ∧ ZC x1 s1 wx g7 ∧ ZC x2 s2 wx g8 ∧ Ri wx s1 X1 ∧ Ri wx s2 X2 ∧ Below B wb wx
theorem Ri.setz {w : World} {v : Value} {xs : List Nat} {b0 : Bool} {p : Option Addr} {n c : Nat} {g : Nat} (h : Ri w v xs) (z : ZC (.bool b0) (.slice p n c) w g) (u u' : Value) : Ri ((w.setCell ⟨g, 0, none⟩ u).setCell ⟨g, 1, none⟩ u') v xs := h.set2 z.1 z.2.1 (fun _ => by simp)
section
variable {x1 x2 e1 e2 u1 u2 : Value} {X1 X2 : List Nat} {B : Nat} {wb w3 : World} {t : TypeId} {b0 b1 : Bool} {p p' : Option Addr} {n c n' c' g g' : Nat}
theorem CutI.s1 (r1 : Ri w3 e1 X1) (r2 : Ri w3 e2 X2) (b : Below B wb w3) (hB : B ≤ w3.heap.size) : CutI x1 x2 e1 e2 X1 X2 B wb ((w3.alloc (.cells #[x1, e1] t)).alloc (.cells #[x2, e2] t)) w3.heap.size (w3.heap.size + 1) :=
 ⟨⟨hB, by omega⟩, (ZC.new rfl).alloc _, ZC.new (by simp), (r1.allocd _).allocd _, (r2.allocd _).allocd _, (b.alloc hB _).alloc (by simp; omega) _⟩
theorem CutI.s2 (r1 : Ri w3 e1 X1) (r2 : Ri w3 e2 X2) (b : Below B wb w3) (hB : B ≤ w3.heap.size) : CutI x1 x2 e1 e2 X1 X2 B wb ((w3.alloc (.cells #[x2, e2] t)).alloc (.cells #[x1, e1] t)) (w3.heap.size + 1) w3.heap.size :=
 ⟨⟨by omega, hB⟩, ZC.new (by simp), (ZC.new rfl).alloc _, (r1.allocd _).allocd _, (r2.allocd _).allocd _, (b.alloc hB _).alloc (by simp; omega) _⟩
theorem CutI.s3 (z : ZC (.bool b0) (.slice p n c) w3 g) (hg : B ≤ g) (r1 : Ri w3 e1 X1) (r2 : Ri w3 e2 X2) (b : Below B wb w3) (hB : B ≤ w3.heap.size) :
 CutI x1 x2 e1 e2 X1 X2 B wb (((w3.setCell ⟨g, 0, none⟩ x1).setCell ⟨g, 1, none⟩ e1).alloc (.cells #[x2, e2] t)) g w3.heap.size :=
 ⟨⟨hg, hB⟩, z.set.alloc _, ZC.new (by simp), (r1.setz z _ _).allocd _, (r2.setz z _ _).allocd _, (k'5c b hg _ _).alloc (by simpa using hB) _⟩
theorem CutI.s4 (z : ZC (.bool b0) (.slice p n c) w3 g) (hg : B ≤ g) (r1 : Ri w3 e1 X1) (r2 : Ri w3 e2 X2) (b : Below B wb w3) (hB : B ≤ w3.heap.size) :
 CutI x1 x2 e1 e2 X1 X2 B wb (((w3.setCell ⟨g, 0, none⟩ x2).setCell ⟨g, 1, none⟩ e2).alloc (.cells #[x1, e1] t)) w3.heap.size g :=
 ⟨⟨hB, hg⟩, ZC.new (by simp), z.set.alloc _, (r1.setz z _ _).allocd _, (r2.setz z _ _).allocd _, (k'5c b hg _ _).alloc (by simpa using hB) _⟩
theorem CutI.s5 (z : ZC (.bool b0) (.slice p n c) w3 g) (hg : B ≤ g) (z' : ZC (.bool b1) (.slice p' n' c') w3 g') (hg' : B ≤ g') (hn : ¬ g = g') (r1 : Ri w3 e1 X1) (r2 : Ri w3 e2 X2) (b : Below B wb w3) :
 CutI x1 x2 e1 e2 X1 X2 B wb ((((w3.setCell ⟨g, 0, none⟩ x1).setCell ⟨g, 1, none⟩ e1).setCell ⟨g', 0, none⟩ x2).setCell ⟨g', 1, none⟩ e2) g g' :=
 have zz := z'.other (u := x1) (v := e1) (fun e => hn e.symm)
 ⟨⟨hg, hg'⟩, z.set.other hn, zz.set, (r1.setz z _ _).setz zz _ _, (r2.setz z _ _).setz zz _ _, k'5c (k'5c b hg _ _) hg' _ _⟩
end
def PPost (z : Int) (w : World) (e : Ending) (w' : World) : Prop := ∃ v, e = .returned (.agg #[.bool false, v]) ∧ Rz w' v z ∧ Below w.heap.size w w'
theorem ZC.lt {x y : Value} {w : World} {g : Nat} (h : ZC x y w g) : g < w.heap.size := World.block_lt_of_cell? w _ h.1
def QIPost (q r : Int) (w : World) (e : Ending) (w' : World) : Prop := ∃ v1 v2, e = .returned (.tuple #[iV q v1, iV r v2]) ∧ Rz w' v1 q ∧ Rz w' v2 r ∧ Below w.heap.size w w'
def q0 (x y : Int) : Int := if (decide (x < 0) != decide (y < 0)) = true then -((x.natAbs / y.natAbs : Nat) : Int) else ((x.natAbs / y.natAbs : Nat) : Int)
def CutO (br : Bool) (s : Value) (X : List Nat) (B : Nat) (wb wx : World) (g : Nat) : Prop := B ≤ g ∧ ZC (.bool br) s wx g ∧ Ri wx s X ∧ Below B wb wx
section
variable {br b0 : Bool} {s : Value} {X : List Nat} {B : Nat} {wb w3 : World} {t : TypeId} {p : Option Addr} {n c g : Nat}
theorem CutO.k1 (r1 : Ri w3 s X) (h : Below B wb w3) (hB : B ≤ w3.heap.size) : CutO br s X B wb (w3.alloc (.cells #[.bool br, s] t)) w3.heap.size := ⟨hB, ZC.new rfl, r1.allocd _, h.alloc hB _⟩
theorem Ri.setq {w : World} {v : Value} {xs : List Nat} (h : Ri w v xs) (z : ZC (.bool b0) (.slice p n c) w g) (u u' : Value) : Ri ((w.setCell ⟨g, 0, none⟩ u).setCell ⟨g, 1, none⟩ u') v xs := h.set2 z.1 z.2.1 (fun _ => by simp)
theorem CutO.k2 (q : ZC (.bool b0) (.slice p n c) w3 g) (hg : B ≤ g) (r1 : Ri w3 s X) (h : Below B wb w3) : CutO br s X B wb ((w3.setCell ⟨g, 0, none⟩ (.bool br)).setCell ⟨g, 1, none⟩ s) g := ⟨hg, q.set, r1.setq q _ _, k'5c h hg _ _⟩
end
def QEnd (q r : Int) (w w0 wx : World) (g8 g9 : Nat) (s8 s9 : Value) : Prop := ZC (.bool (decide (q < 0))) s8 wx g8 ∧ ZC (.bool (decide (r < 0))) s9 wx g9 ∧ Rz wx s8 q ∧ Rz wx s9 r ∧ Below w0.heap.size w0 wx
def gs (h m f s : Nat) : Nat := if f ≤ h then W - 1 else if (h * W + m) % f < (h * W + m) / f * s / W then (h * W + m) / f - 1 else (h * W + m) / f
theorem k'ai {B H U V h m l f s u v : Nat} (hU : U = ((h * B + m) * B + l) * H + u) (hV : V = (f * B + s) * H + v) (hu : u < H) (hv : v < H) (hl : l < B) (hm : m < B) (hs : s < B) (hf : B ≤ 2 * f) (hB : 4 ≤ B) (hlt : U < V * B)
 {g : Nat} (hg : g = if f ≤ h then B - 1 else if (h * B + m) % f < (h * B + m) / f * s / B then (h * B + m) / f - 1 else (h * B + m) / f) : U / V ≤ g ∧ g ≤ U / V + 1 ∧ g < B := by
 have hH : 0 < H := by omega
 have hB0 : 0 < B := by omega
 have hfp : 0 < f := by omega
 have hVp : 0 < V := by
  rw [hV]
  have : 0 < (f * B + s) * H := Nat.mul_pos (Nat.add_pos_left (Nat.mul_pos hfp hB0) _) hH
  omega
 have hqB : U / V < B := by rw [Nat.div_lt_iff_lt_mul hVp, Nat.mul_comm]; exact hlt
 have hlo : ∀ t, t * V ≤ U → t ≤ U / V := fun t ht => (Nat.le_div_iff_mul_le hVp).2 ht
 have hup : ∀ t, U < t * V → U / V < t := fun t ht => (Nat.div_lt_iff_lt_mul hVp).2 ht
 generalize U / V = q at *
 have hV2 : V ≤ (f + 1) * (B * H) := by
  have h1 : (f * B + s + 1) * H ≤ (f * B + B) * H := Nat.mul_le_mul_right _ (by omega)
  have h2 : (f * B + B) * H = (f + 1) * (B * H) := by grind
  rw [Nat.add_mul, Nat.one_mul] at h1
  omega
 have hU2 : (h * B + m) * (B * H) ≤ U := by
  have h1 : (h * B + m) * B * H ≤ ((h * B + m) * B + l) * H := Nat.mul_le_mul_right _ (by omega)
  rw [Nat.mul_assoc] at h1
  omega
 by_cases c1 : f ≤ h
 ·rw [if_pos c1] at hg
  subst hg
  refine ⟨by omega, ?_, by omega⟩
  have : B - 2 ≤ q := by
   refine hlo _ ?_
   have h1 : (B - 2) * V ≤ (B - 2) * ((f + 1) * (B * H)) := Nat.mul_le_mul_left _ hV2
   have h2 : (B - 2) * (f + 1) ≤ h * B + m := by
    obtain ⟨C, rfl⟩ : ∃ C, B = C + 2 := ⟨B - 2, by omega⟩
    have h3 : f * (C + 2) ≤ h * (C + 2) := Nat.mul_le_mul_right _ c1
    have h4 : (C + 2 - 2) * (f + 1) = f * C + C := by rw [Nat.add_sub_cancel]; grind
    rw [Nat.mul_add] at h3
    omega
   have h3 : (B - 2) * (f + 1) * (B * H) ≤ (h * B + m) * (B * H) := Nat.mul_le_mul_right _ h2
   rw [Nat.mul_assoc] at h3
   omega
  omega
 ·rw [if_neg c1] at hg
  have hd := Nat.div_add_mod (h * B + m) f
  have hr := Nat.mod_lt (h * B + m) hfp
  have hdB : (h * B + m) / f < B := by
   rw [Nat.div_lt_iff_lt_mul hfp]
   have : (h + 1) * B ≤ f * B := Nat.mul_le_mul_right _ (by omega)
   rw [Nat.add_mul, Nat.one_mul] at this
   rw [Nat.mul_comm B f]
   omega
  generalize (h * B + m) / f = d at *
  generalize (h * B + m) % f = r at *
  have hd2 : d * f + r = h * B + m := by rw [Nat.mul_comm]; exact hd
  clear hd
  have hqd : q ≤ d := by
   refine Nat.lt_succ_iff.1 (hup _ ?_)
   have e1 : U < (h * B + m + 1) * (B * H) := by
    have h1 : ((h * B + m) * B + l + 1) * H ≤ ((h * B + m) * B + B) * H := Nat.mul_le_mul_right _ (by omega)
    have h2 : ((h * B + m) * B + B) * H = (h * B + m + 1) * (B * H) := by grind
    rw [Nat.add_mul, Nat.one_mul] at h1
    omega
   have e2 : (h * B + m + 1) * (B * H) ≤ ((d + 1) * f) * (B * H) := Nat.mul_le_mul_right _ (by rw [Nat.add_mul, Nat.one_mul]; omega)
   have e3 : (d + 1) * f * (B * H) ≤ (d + 1) * V := by
    rw [Nat.mul_assoc]
    refine Nat.mul_le_mul_left _ ?_
    have : f * (B * H) = f * B * H := by rw [Nat.mul_assoc]
    rw [this, hV, Nat.add_mul]
    omega
   show U < (d + 1) * V
   omega
  by_cases c2 : r < d * s / B
  ·rw [if_pos c2] at hg
   have h1 : (r + 1) * B ≤ d * s := (Nat.le_div_iff_mul_le hB0).1 c2
   have hlt2 : U < d * V := by
    have e1 : U < (h * B + m + 1) * (B * H) := by
     have h1 : ((h * B + m) * B + l + 1) * H ≤ ((h * B + m) * B + B) * H := Nat.mul_le_mul_right _ (by omega)
     have h2 : ((h * B + m) * B + B) * H = (h * B + m + 1) * (B * H) := by grind
     rw [Nat.add_mul, Nat.one_mul] at h1
     omega
    have e2 : (h * B + m + 1) * B ≤ d * (f * B + s) := by
     have : d * (f * B + s) = d * f * B + d * s := by grind
     have e4 : (h * B + m + 1) * B = d * f * B + (r + 1) * B := by rw [← hd2]; grind
     omega
    have e3 : (h * B + m + 1) * B * H ≤ d * (f * B + s) * H := Nat.mul_le_mul_right _ e2
    have e4 : d * ((f * B + s) * H) ≤ d * V := Nat.mul_le_mul_left _ (by omega)
    rw [← Nat.mul_assoc] at e1 e4
    omega
   have hq : q < d := hup _ hlt2
   have hq2 : d ≤ q + 2 := by
    rcases Nat.lt_or_ge d 2 with g1 | g1
    ·omega
    ·have : d - 2 ≤ q := by
      refine hlo _ ?_
      have e1 : (d - 2) * V ≤ (d - 2) * ((f + 1) * (B * H)) := Nat.mul_le_mul_left _ hV2
      have e2 : (d - 2) * (f + 1) ≤ h * B + m := by
       obtain ⟨c, rfl⟩ : ∃ c, d = c + 2 := ⟨d - 2, by omega⟩
       rw [Nat.add_sub_cancel]
       have : (c + 2) * f = c * f + 2 * f := Nat.add_mul c 2 f
       have : c * (f + 1) = c * f + c := by rw [Nat.mul_add, Nat.mul_one]
       omega
      have e3 : (d - 2) * (f + 1) * (B * H) ≤ (h * B + m) * (B * H) := Nat.mul_le_mul_right _ e2
      rw [Nat.mul_assoc] at e3
      omega
     omega
   rw [hg]
   exact ⟨by omega, by omega, by omega⟩
  ·rw [if_neg c2] at hg
   rw [hg]
   refine ⟨hqd, ?_, hdB⟩
   rcases Nat.eq_zero_or_pos d with g0 | g0
   ·omega
   ·have : d - 1 ≤ q := by
     refine hlo _ ?_
     have h1 : d * s < (r + 1) * B := by
      have := Nat.not_lt.1 c2
      rw [← Nat.lt_succ_iff, Nat.div_lt_iff_lt_mul hB0] at this
      exact this
     have e1 : (d - 1) * V ≤ (d - 1) * ((f * B + s + 1) * H) := Nat.mul_le_mul_left _ (by rw [hV, Nat.add_mul (f * B + s) 1 H]; omega)
     have e2 : (d - 1) * (f * B + s + 1) ≤ (h * B + m) * B := by
      obtain ⟨c, rfl⟩ : ∃ c, d = c + 1 := ⟨d - 1, by omega⟩
      rw [Nat.add_sub_cancel]
      have t1 : c * (f * B + s + 1) = c * f * B + c * s + c := by grind
      have t2 : (c + 1) * s = c * s + s := by grind
      have t3 : (h * B + m) * B = c * f * B + f * B + r * B := by rw [← hd2]; grind
      have t4 : (r + 1) * B = r * B + B := by grind
      have t5 : 2 * B ≤ f * B := Nat.mul_le_mul_right _ (by omega)
      omega
     have e3 : (d - 1) * (f * B + s + 1) * H ≤ (h * B + m) * B * H := Nat.mul_le_mul_right _ e2
     rw [Nat.mul_assoc, Nat.mul_assoc (h * B + m)] at e3
     omega
    omega
theorem k'aj (q : Nat) (h : 1 ≤ q) (hq : q < W) : IntKind.u64.wrap ((q : Int) - 1) = ((q - 1 : Nat) : Int) := by
 rw [← k'1g (q - 1) (by omega)]
 congr 1
 omega
theorem k'ak (h m f s : Nat) (hm : m < W) (hf : f < W) (hs : s < W) (h0 : 0 < f) (w : World) :
 Calls Tryz.prog 172 #[.int .u64 (h : Int), .int .u64 (m : Int), .int .u64 (f : Int), .int .u64 (s : Int)] w (RwPost (gs h m f s) w) := by
 unfold gs
 by_cases c1 : f ≤ h
 ·rw [if_pos c1]
  have c2 : (f : Int) ≤ (h : Int) := by omega
  go_enter Tryz.func172, Tryz.ntmps172
  go_wp2
  go_ret
  exact ⟨by unfold W; rfl, 0, rfl⟩
 ·rw [if_neg c1]
  have c2 : (h : Int) < (f : Int) := by omega
  have HC := i' (k'23 h m f (by omega) hm hf)
  have hd : (h * W + m) / f < W := k'24 (by omega) hm
  have hr : (h * W + m) % f < f := Nat.mod_lt _ h0
  generalize (h * W + m) / f = d at *
  generalize (h * W + m) % f = r at *
  have HM := i' (mul64 d s hd hs)
  unfold m1 at HM
  have hpos : r < d * s / W → 1 ≤ d := by
   intro c
   rcases Nat.eq_zero_or_pos d with g | g
   ·subst g; simp at c
   ·exact g
  generalize d * s / W = t at *
  generalize m0 d s = t0 at *
  have H2 := i' hd
  by_cases c3 : r < t
  ·rw [if_pos c3]
   have c4 : (r : Int) < (t : Int) := by omega
   have H1 := i' (hpos c3)
   clear hpos hd hm hf hs c1 hr
   go_enter Tryz.func172, Tryz.ntmps172
   go_wp2_with fail
   refine (HC.out _).mono ?_
   rintro e w' ⟨rfl, n, rfl⟩
   go_wp2_with fail
   refine (HM.out _).mono ?_
   rintro e w' ⟨rfl, rfl⟩
   go_wp2
   go_ret
   exact ⟨by rw [k'aj d H1.out H2.out]; rfl, n, rfl⟩
  ·rw [if_neg c3]
   have c4 : (t : Int) ≤ (r : Int) := by omega
   clear hpos hd hm hf hs c1 hr
   go_enter Tryz.func172, Tryz.ntmps172
   go_wp2_with fail
   refine (HC.out _).mono ?_
   rintro e w' ⟨rfl, n, rfl⟩
   go_wp2_with fail
   refine (HM.out _).mono ?_
   rintro e w' ⟨rfl, rfl⟩
   go_wp2
   go_ret
   exact ⟨rfl, n, rfl⟩
def SubPInv (l X : List Nat) (off y k c : Nat) (s : List Nat) : Prop :=
 s.length = k ∧ Nm.Dig W s ∧ c < W ∧ Nm.val W s + Nm.val W (X.take k) * y = Nm.val W ((l.drop off).take k) + W ^ k * c
theorem k'al (a b c o : Nat) (ha : a < W) (hb : b < W) (hc : c < W) (ho : o < W) : mh a b c + bw o (ml a b c) 0 < W := by
 have h1 := mlh a b c
 have h2 := df_bw o (ml a b c) 0 ho (ml_lt a b c) (by decide)
 have h3 : a * b ≤ (W - 1) * (W - 1) := Nat.mul_le_mul (by omega) (by omega)
 have h4 := df_lt o (ml a b c) 0
 generalize mh a b c = p at *
 generalize ml a b c = q at *
 generalize bw o q 0 = r at *
 generalize df o q 0 = s at *
 unfold W at *
 omega
theorem SubPInv.step {l X s : List Nat} {off y k c : Nat} (h : SubPInv l X off y k c s) (hk : off + k < l.length) (hX : k < X.length) (dx : X[k] < W) (dy : y < W) (dl : l[off + k] < W) :
 SubPInv l X off y (k + 1) (mh X[k] y c + bw l[off + k] (ml X[k] y c) 0) (s ++ [df l[off + k] (ml X[k] y c) 0]) := by
 obtain ⟨h1, h2, h3, h4⟩ := h
 refine ⟨by simp [h1], Nm.dig_append.2 ⟨h2, Nm.dig_cons.2 ⟨df_lt _ _ _, Nm.dig_nil W⟩⟩, k'al _ _ _ _ dx dy h3 dl, ?_⟩
 have hd : k < (l.drop off).length := by simp; omega
 rw [Nm.val_snoc, h1, Nm.val_take_succ W _ k hd, Nm.val_take_succ W X k hX, List.getElem_drop, Nat.pow_succ]
 have e1 := mlh X[k] y c
 have e2 := df_bw l[off + k] (ml X[k] y c) 0 dl (ml_lt _ _ _) (by decide)
 generalize mh X[k] y c = p at *
 generalize ml X[k] y c = q at *
 generalize bw l[off + k] q 0 = r at *
 generalize df l[off + k] q 0 = t at *
 generalize W ^ k = P at *
 have e3 : P * (t + q) = P * (l[off + k] + W * r) := by rw [← e2]; rfl
 have e4 : P * (q + W * p) = P * (X[k] * y + c) := by rw [e1]
 grind
def SubPPost (g : Nat) (l X : List Nat) (off y : Nat) (w : World) (e : Ending) (w' : World) : Prop :=
 ∃ s c, e = .returned (.int .u64 (c : Nat)) ∧ SubPInv l X off y X.length c s ∧ Arr w' g (l.take off ++ (s ++ l.drop (off + X.length))) ∧ Only g w w'
theorem k'am (l X : List Nat) (g off n cap : Nat) (p : Option Addr) (b o c y : Nat) (w : World) (hn : X.length ≤ n) (hnc : n ≤ cap) (hcap : cap ≤ 2000000000) (hoff : off ≤ 2000000000)
 (hl : off + X.length ≤ l.length) (hp : X ≠ [] → p = some ⟨b, o, none⟩) (hb : b ≠ g) (harr : Arr w g l)
 (hx : ∀ k (h : k < X.length), w.cell? ⟨b, o + k, none⟩ = some (.int .u64 (X[k] : Int))) (d1 : Nm.Dig W X) (d2 : Nm.Dig W l) (dy : y < W) :
 Calls Tryz.prog 173 #[.slice (some ⟨g, off, none⟩) n cap, .slice p X.length c, .int .u64 (y : Int)] w (SubPPost g l X off y w) := by
 go_enter Tryz.func173, Tryz.ntmps173
 have Hp := i' hp
 have Hx := i' hx
 clear hp hx
 go_wp2
 go_loopw [7, 20] (fun cv i wr => ∃ k cn s, k ≤ X.length ∧ i = .int .i64 (k : Nat) ∧ cv = .int .u64 (cn : Nat) ∧ SubPInv l X off y k cn s ∧ Arr wr g (l.take off ++ (s ++ l.drop (off + k))) ∧ Only g w wr)
  (fun _ i _ => X.length - (intOf i).toNat)
 case atStart =>
  exact ⟨0, 0, [], Nat.zero_le _, rfl, rfl, ⟨rfl, Nm.dig_nil W, W0, by simp [Nm.val]⟩, by rw [Nm.seg_all]; exact harr, Only.refl g w⟩
 case round =>
  clear harr
  obtain ⟨k, cn, s, hk, rfl, rfl, hinv, harr, honly⟩ := hrel
  by_cases hX : k < X.length
  ·obtain rfl := Hp.out (by intro e; rw [e] at hX; exact absurd hX (Nat.not_lt_zero _))
   have hol : off + k < l.length := by omega
   have hlen := Nm.seg_length l s off k hinv.1 (by omega)
   have e1 := (honly.cell (p := ⟨b, o + k, none⟩) hb).trans (Hx.out k hX)
   have e3 := harr.cell (off + k) (by omega)
   rw [Nm.seg_get l s off k hinv.1 hol] at e3
   have e4 := harr.free (off + k)
   have ea := k'o l[off + k] (ml X[k] y cn)
   have dx := Nm.dig_get d1 k hX
   have dl := Nm.dig_get d2 (off + k) hol
   have hcn := hinv.2.2.1
   have hlt : mh X[k] y cn + bw l[off + k] (ml X[k] y cn) 0 < 18446744073709551616 := k'al _ _ _ _ dx dy hcn dl
   have Hinv := i' (hinv.step hol hX dx dy dl)
   have Harr := harr.set (off + k) (df l[off + k] (ml X[k] y cn) 0)
   rw [Nm.seg_set l s off k _ hinv.1 hol] at Harr
   have HA := i' Harr
   have Ho := i' (honly.setCell (off + k) (.int .u64 (df l[off + k] (ml X[k] y cn) 0)))
   have hm := k'r X[k] y cn dx dy hcn
   have HM := i' hm
   clear hinv harr honly hlen Harr hm
   go_wp2_with fail
   refine (HM.out _).mono ?_
   rintro e w' ⟨rfl, rfl⟩
   go_wp2
   go_roundw
   case rel => exact ⟨k + 1, _, _, hX, by go_num, by go_num, Hinv.out, HA.out, Ho.out⟩
   case measure => simp [intOf]; omega
  ·obtain rfl : k = X.length := by omega
   have Hinv := i' hinv
   have HA := i' harr
   have Ho := i' honly
   clear hinv harr honly
   go_wp2
   go_ret
   exact ⟨s, cn, rfl, Hinv.out, HA.out, Ho.out⟩
def DStep (g : Nat) (l : List Nat) (off n U V : Nat) (w : World) (e : Ending) (w' : World) : Prop :=
 ∃ t, e = .returned (.int .u64 ((U / V : Nat) : Int)) ∧ t.length = n + 1 ∧ Nm.Dig W t ∧ Nm.val W t = U % V ∧ Arr w' g (l.take off ++ (t ++ l.drop (off + (n + 1)))) ∧ Only g w w'
theorem k'an {U V d r : Nat} (h : U = V * d + r) (h2 : U / V ≤ d) (hV : 0 < V) : d = U / V ∧ r = U % V := by
 have h3 : d ≤ U / V := (Nat.le_div_iff_mul_le hV).2 (by rw [Nat.mul_comm]; omega)
 have h4 : d = U / V := by omega
 refine ⟨h4, ?_⟩
 have h5 := Nat.div_add_mod U V
 rw [← h4] at h5
 omega
theorem k'ao {P U V low hi sv d c : Nat} (hU : U = low + P * hi) (hs : sv + V * d = low + P * c) (hc : c ≤ hi) (hq : U / V ≤ d) (hV : 0 < V) : d = U / V ∧ sv + P * (hi - c) = U % V := by
 refine k'an ?_ hq hV
 obtain ⟨x, rfl⟩ : ∃ x, hi = c + x := ⟨hi - c, by omega⟩
 rw [Nat.add_sub_cancel_left, hU, Nat.mul_add]
 omega
theorem k'ap {P U V low hi sv d c tv cy : Nat} (hU : U = low + P * hi) (hs : sv + V * d = low + P * c) (hc : hi < c) (hq : d ≤ U / V + 1) (hV : 0 < V) (hsv : sv < P) (htv : tv < P) (hVP : V < P) (ht : tv + P * cy = sv + V) : 1 ≤ d ∧ d - 1 = U / V ∧ tv = U % V := by
 have hdm := Nat.div_add_mod U V
 have hm := Nat.mod_lt U hV
 obtain ⟨x, rfl⟩ : ∃ x, c = hi + (x + 1) := ⟨c - hi - 1, by omega⟩
 have e1 : P * (hi + (x + 1)) = P * hi + P * x + P := by rw [Nat.mul_add, Nat.mul_add, Nat.mul_one]; omega
 have hgt : U < V * d := by omega
 have hd : U / V < d := by rw [Nat.div_lt_iff_lt_mul hV, Nat.mul_comm]; exact hgt
 generalize U / V = q at *
 generalize U % V = r at *
 obtain rfl : d = q + 1 := by omega
 refine ⟨by omega, by omega, ?_⟩
 rw [Nat.mul_add, Nat.mul_one] at hs
 have e2 : tv + P * cy = r + P * (x + 1) := by rw [Nat.mul_add P x 1, Nat.mul_one]; omega
 have e3 := congrArg (· % P) e2
 simp only [Nat.add_mul_mod_self_left] at e3
 rwa [Nat.mod_eq_of_lt htv, Nat.mod_eq_of_lt (by omega)] at e3
def BackInv (l Y : List Nat) (off k c : Nat) (t : List Nat) : Prop :=
 t.length = k ∧ Nm.Dig W t ∧ c ≤ 1 ∧ Nm.val W t + W ^ k * c = Nm.val W ((l.drop off).take k) + Nm.val W (Y.take k)
theorem BackInv.step {l Y t : List Nat} {off k c : Nat} (h : BackInv l Y off k c t) (hk : off + k < l.length) (hY : k < Y.length) (dy : Y[k] < W) (dl : l[off + k] < W) :
 BackInv l Y off (k + 1) (cy l[off + k] Y[k] c) (t ++ [sm l[off + k] Y[k] c]) := by
 obtain ⟨h1, h2, h3, h4⟩ := h
 refine ⟨by simp [h1], Nm.dig_append.2 ⟨h2, Nm.dig_cons.2 ⟨sm_lt _ _ _, Nm.dig_nil W⟩⟩, cy_le _ _ _ dl dy h3, ?_⟩
 have hd : k < (l.drop off).length := by simp; omega
 rw [Nm.val_snoc, h1, Nm.val_take_succ W _ k hd, Nm.val_take_succ W Y k hY, List.getElem_drop, Nat.pow_succ]
 have e1 := sm_cy l[off + k] Y[k] c
 generalize cy l[off + k] Y[k] c = r at *
 generalize sm l[off + k] Y[k] c = s at *
 generalize W ^ k = P at *
 have e3 : P * (s + W * r) = P * (l[off + k] + Y[k] + c) := by rw [e1]
 grind
theorem k'aq (l s : List Nat) (off n : Nat) (h : off + n ≤ l.length) : (l.take off ++ (s ++ l.drop (off + n))).take off = l.take off := by
 rw [List.take_append_of_le_length (by simp; omega), List.take_take, Nat.min_self]
theorem k'ar (l s : List Nat) (off n j : Nat) (hs : s.length = n) (h : off + n ≤ l.length) (hj : n ≤ j) : (l.take off ++ (s ++ l.drop (off + n))).drop (off + j) = l.drop (off + j) := by
 rw [List.drop_append, List.drop_of_length_le (by simp; omega), List.nil_append, List.drop_append, List.drop_of_length_le (by simp; omega), List.nil_append, List.drop_drop]
 congr 1
 simp
 omega
theorem k'as (l s : List Nat) (off n : Nat) (hs : s.length = n) (h : off + n ≤ l.length) : ((l.take off ++ (s ++ l.drop (off + n))).drop off).take n = s := by
 rw [List.drop_append, List.drop_of_length_le (by simp; omega), List.nil_append]
 have e : off - (l.take off).length = 0 := by simp; omega
 rw [e, List.drop_zero, List.take_append_of_le_length (by omega), List.take_of_length_le (by omega)]
theorem k'at (l Y : List Nat) (g off n n1 n2 nr cap b o cb : Nat) (w : World) (hn : Y.length = n) (hn1 : n1 + 1 = n) (hn2 : n2 + 2 = n) (hnr : n + 1 ≤ nr) (hnc : nr ≤ cap) (hcap : cap ≤ 2000000000) (hoff : off ≤ 2000000000)
 (hl : off + n + 1 ≤ l.length) (hb : b ≠ g) (harr : Arr w g l) (hx : ∀ k (h : k < Y.length), w.cell? ⟨b, o + k, none⟩ = some (.int .u64 (Y[k] : Int))) (dY : Nm.Dig W Y) (dl : Nm.Dig W l)
 (htop : W ≤ 2 * Y[n1]) (hU : Nm.val W ((l.drop off).take (n + 1)) < Nm.val W Y * W) :
 Calls Tryz.prog 162 #[.slice (some ⟨g, off, none⟩) nr cap, .slice (some ⟨b, o, none⟩) n cb] w (DStep g l off n (Nm.val W ((l.drop off).take (n + 1))) (Nm.val W Y) w) := by
 have z1 : off + n < l.length := by omega
 have z2 : off + n1 < l.length := by omega
 have z3 : n1 < Y.length := by omega
 have z4 : n2 < Y.length := by omega
 have c1 := harr.cell (off + n) z1
 have c2 := harr.cell (off + n1) z2
 have c3 := hx n1 z3
 have c4 := hx n2 z4
 have t1 : (n : Int) - 1 = (n1 : Int) := by omega
 have t2 : (n : Int) - 2 = (n2 : Int) := by omega
 have dz1 := Nm.dig_get dl _ z1
 have dz2 := Nm.dig_get dl _ z2
 have dy1 := Nm.dig_get dY _ z3
 have dy2 := Nm.dig_get dY _ z4
 have hf0 : 0 < Y[n1] := by unfold W at htop; omega
 have HG := i' (fun w => k'ak l[off + n] l[off + n1] Y[n1] Y[n2] dz2 dy1 dy2 hf0 w)
 have hVe : Nm.val W Y = (Y[n1] * W + Y[n2]) * W ^ n2 + Nm.val W (Y.take n2) := by
  have h1 := Nm.val_take_succ W Y n1 z3
  have h2 := Nm.val_take_succ W Y n2 z4
  rw [show n1 + 1 = Y.length by omega, List.take_length] at h1
  obtain rfl : n1 = n2 + 1 := by omega
  rw [h2, Nat.pow_succ] at h1
  rw [h1]
  grind
 have hdl1 : n2 < (l.drop off).length := by simp; omega
 have hdl2 : n1 < (l.drop off).length := by simp; omega
 have hdl3 : n < (l.drop off).length := by simp; omega
 have hlow : Nm.val W ((l.drop off).take (n + 1)) = Nm.val W ((l.drop off).take n) + W ^ n * l[off + n] := by
  rw [Nm.val_take_succ W _ n hdl3, List.getElem_drop]
 have hUe : Nm.val W ((l.drop off).take (n + 1)) = ((l[off + n] * W + l[off + n1]) * W + l[off + n2]) * W ^ n2 + Nm.val W ((l.drop off).take n2) := by
  have h1 := Nm.val_take_succ W (l.drop off) n1 hdl2
  have h2 := Nm.val_take_succ W (l.drop off) n2 hdl1
  rw [hlow]
  simp only [List.getElem_drop] at h1 h2
  obtain rfl : n = n1 + 1 := by omega
  obtain rfl : n1 = n2 + 1 := by omega
  rw [h1, h2, Nat.pow_succ, Nat.pow_succ]
  grind
 have hP : Nm.val W (Y.take n2) < W ^ n2 := by
  have := Nm.val_lt (Nm.dig_take dY n2)
  rwa [List.length_take, Nat.min_eq_left (by omega)] at this
 have hP2 : Nm.val W ((l.drop off).take n2) < W ^ n2 := by
  have := Nm.val_lt (Nm.dig_take (Nm.dig_drop dl off) n2)
  rwa [List.length_take, Nat.min_eq_left (by omega)] at this
 have hVP : Nm.val W Y < W ^ n := by
  have := Nm.val_lt dY
  rwa [hn] at this
 have hVpos : 0 < Nm.val W Y := by
  rw [hVe]
  have : 0 < (Y[n1] * W + Y[n2]) * W ^ n2 := Nat.mul_pos (Nat.add_pos_left (Nat.mul_pos hf0 W0) _) (Nat.pow_pos W0)
  omega
 have hg := k'ai (g := gs l[off + n] l[off + n1] Y[n1] Y[n2]) hUe hVe hP2 hP (Nm.dig_get dl _ (by omega)) dz2 dy2 htop (by decide) hU rfl
 clear hUe hVe hP hP2 hdl1 hdl2 hdl3 dy1 dy2 htop hU hf0 dz2
 generalize gs l[off + n] l[off + n1] Y[n1] Y[n2] = d at *
 generalize Nm.val W ((l.drop off).take (n + 1)) = U at *
 have HD := i' hg
 have HS : Hid (∀ n' cap' w', n ≤ n' → n' ≤ cap' → cap' ≤ 2000000000 → Arr w' g l → (∀ k (h : k < Y.length), w'.cell? ⟨b, o + k, none⟩ = some (.int .u64 (Y[k] : Int))) →
  Calls Tryz.prog 173 #[.slice (some ⟨g, off, none⟩) n' cap', .slice (some ⟨b, o, none⟩) n cb, .int .u64 (d : Int)] w' (SubPPost g l Y off d w')) := by
  intro n' cap' w' h1 h2 h3 ha hh
  have := k'am l Y g off n' cap' (some ⟨b, o, none⟩) b o cb d w' (by omega) h2 h3 hoff (by omega) (fun _ => rfl) hb ha hh dY dl hg.2.2
  rwa [hn] at this
 have HX := i' hx
 have HA := i' harr
 have HL := i' hlow
 have HV := i' (And.intro hVP hVpos)
 clear hg hx harr hlow hVP hVpos
 unfold RwPost at HG
 go_enter Tryz.func162, Tryz.ntmps162
 go_wp2_with fail
 go_quiet ((go_at_call 172; with_reducible exact Calls.quiet_of (HG.out _)))
 go_wp2_with fail
 refine (HS.out _ _ _ (by omega) (by omega) (by omega) (HA.out.drewN _) HX.out).mono ?_
 rintro e w' ⟨s, c, rfl, hp, ha, ho⟩
 rw [hn] at hp ha
 have hlen := Nm.seg_length l s off n hp.1 (by omega)
 have e3 := ha.cell (off + n) (by omega)
 rw [Nm.seg_get l s off n hp.1 z1] at e3
 have e4 := ha.free (off + n)
 have hcW := hp.2.2.1
 have hz2 : off + n ≤ l.length := Nat.le_of_lt z1
 have Hs := i' hp
 have hon : Only g w w' := ((Only.refl g w).drewN _).trans ho
 clear ho c1 c2 c3 c4 HG HS t1 t2
 generalize l[off + n] = hi at *
 by_cases hc : c ≤ hi
 ·have q1 : (c : Int) ≤ (hi : Int) := by omega
  have q2 : IntKind.u64.wrap ((hi : Int) - (c : Int)) = ((hi - c : Nat) : Int) := by
   rw [← k'1g (hi - c) (by omega)]
   congr 1
   omega
  have HA2 := ha.set (off + n) (hi - c)
  rw [Nm.seg_set l s off n _ hp.1 z1] at HA2
  have HA3 := i' HA2
  have Ho := i' (hon.setCell (off + n) (.int .u64 ((hi - c : Nat) : Int)))
  have Hc := i' hc
  clear hp ha hon HA2 hlen hc
  go_wp2
  go_ret
  obtain ⟨p1, p2, p3, p4⟩ := Hs.out
  rw [← hn, List.take_length, hn] at p4
  obtain ⟨h1, h2⟩ := k'ao HL.out p4 Hc.out HD.out.1 HV.out.2
  refine ⟨s ++ [hi - c], by rw [← h1]; rfl, by simp [p1], Nm.dig_append.2 ⟨p2, Nm.dig_cons.2 ⟨by omega, Nm.dig_nil W⟩⟩, ?_, HA3.out, Ho.out⟩
  rw [Nm.val_snoc, p1]
  exact h2
 ·have q1 : (hi : Int) < (c : Int) := by omega
  have hlt : hi < c := by omega
  have HC := i' hlt
  obtain ⟨l1, hl1⟩ : ∃ l1, l1 = l.take off ++ (s ++ l.drop (off + n)) := ⟨_, rfl⟩
  rw [← hl1] at ha hlen
  have HE : Hid (l1.take off = l.take off ∧ l1.drop (off + (n + 1)) = l.drop (off + (n + 1)) ∧ (l1.drop off).take n = s ∧ Nm.Dig W l1) := by
   show _ ∧ _
   rw [hl1]
   exact ⟨k'aq l s off n hz2, k'ar l s off n (n + 1) hp.1 hz2 (by omega), k'as l s off n hp.1 hz2, Nm.dig_append.2 ⟨Nm.dig_take dl _, Nm.dig_append.2 ⟨hp.2.1, Nm.dig_drop dl _⟩⟩⟩
  have dl1 := HE.out.2.2.2
  have hon2 := i' hon
  have HB := i' (fun k (hk : k < Y.length) => (hon.cell (p := ⟨b, o + k, none⟩) hb).trans (HX.out k hk))
  clear hl1 hc hp e4 hon
  rw [← hlen] at z1 hl hz2
  go_wp2
  clear e3 q1
  have hn0 : n ≤ Y.length := by omega
  go_loopw [8, 55] (fun cv i wr => ∃ k cn t, k ≤ n ∧ i = .int .i64 (k : Nat) ∧ cv = .int .u64 (cn : Nat) ∧ BackInv l1 Y off k cn t ∧ Arr wr g (l1.take off ++ (t ++ l1.drop (off + k))) ∧ Only g w wr)
   (fun _ i _ => n - (intOf i).toNat)
  case atStart =>
   exact ⟨0, 0, [], Nat.zero_le _, rfl, rfl, ⟨rfl, Nm.dig_nil W, Nat.zero_le _, by simp [Nm.val]⟩, by rw [Nm.seg_all]; exact ha, hon2.out⟩
  case round =>
   clear ha
   obtain ⟨k, cn, t, hk, rfl, rfl, hinv, harr, honly⟩ := hrel
   have hlen2 := Nm.seg_length l1 t off k hinv.1 (by omega)
   by_cases hX : k < n
   ·have hY : k < Y.length := by omega
    have e1 := (honly.cell (p := ⟨b, o + k, none⟩) hb).trans (HX.out k hY)
    have hol : off + k < l1.length := by omega
    have e3 := harr.cell (off + k) (by omega)
    rw [Nm.seg_get l1 t off k hinv.1 hol] at e3
    have e4 := harr.free (off + k)
    have ea := k'j l1[off + k] Y[k] cn hinv.2.2.1
    have Hinv := i' (hinv.step hol hY (Nm.dig_get dY k hY) (Nm.dig_get dl1 _ hol))
    have Harr := harr.set (off + k) (sm l1[off + k] Y[k] cn)
    rw [Nm.seg_set l1 t off k _ hinv.1 hol] at Harr
    have HA := i' Harr
    have Ho := i' (honly.setCell (off + k) (.int .u64 (sm l1[off + k] Y[k] cn)))
    clear hinv harr honly Harr hlen2
    go_wp2
    go_roundw
    case rel => exact ⟨k + 1, _, _, hX, by go_num, rfl, Hinv.out, HA.out, Ho.out⟩
    case measure => simp [intOf]; omega
   ·obtain rfl : k = n := by omega
    obtain ⟨u3, e3⟩ := harr.has (off + k) (by omega)
    have e4 := harr.free (off + k)
    have HA2 := harr.set (off + k) 0
    rw [Nm.seg_set l1 t off k _ hinv.1 z1, HE.out.1, HE.out.2.1] at HA2
    have HA3 := i' HA2
    have Ho := i' (honly.setCell (off + k) (.int .u64 ((0 : Nat) : Int)))
    have Hinv := i' hinv
    clear hinv harr honly HA2 hlen2
    go_wp2
    go_ret
    obtain ⟨p1, p2, p3, p4⟩ := Hs.out
    rw [← hn, List.take_length, hn] at p4
    obtain ⟨b1, b2, b3, b4⟩ := Hinv.out
    rw [HE.out.2.2.1] at b4
    have b5 := Nm.val_lt b2
    rw [b1] at b5
    have p5 := Nm.val_lt p2
    rw [p1] at p5
    rw [← hn, List.take_length, hn] at b4
    obtain ⟨h1, h2, h3⟩ := k'ap HL.out p4 HC.out HD.out.2.1 HV.out.2 p5 b5 HV.out.1 b4
    refine ⟨t ++ [0], by rw [← h2, ← k'aj d h1 HD.out.2.2]; rfl, by simp [b1], Nm.dig_append.2 ⟨b2, Nm.dig_cons.2 ⟨W0, Nm.dig_nil W⟩⟩, ?_, HA3.out, Ho.out⟩
    rw [Nm.val_snoc, Nat.mul_zero, Nat.add_zero]
    exact h3
theorem k'au (n m : Nat) (hm : m ≤ n) (hn : n ≤ 1000000000) (w : World) :
 (Instr.makeSlice 141 (.int .i64 ((n : Int) - (m : Int) + 1)) (.int .i64 ((n : Int) - (m : Int) + 1))).run Tryz.prog w = .ok (.slice (some ⟨w.heap.size, 0, none⟩) (n - m + 1) (n - m + 1)) (w.alloc (.cells (uv (List.replicate (n - m + 1) 0)).toArray 129)) := by
 rw [show (n : Int) - (m : Int) + 1 = ((n - m + 1 : Nat) : Int) by omega]
 exact k'e (n - m + 1) w (by omega)
theorem k'av (w0 w : World) (h : Below w0.heap.size w0 w) (a b : List Nat) :
 Arr ((w.alloc (.cells (uv a).toArray 129)).alloc (.cells (uv b).toArray 129)) w.heap.size a ∧ Arr ((w.alloc (.cells (uv a).toArray 129)).alloc (.cells (uv b).toArray 129)) (w.heap.size + 1) b ∧
  Below w0.heap.size w0 ((w.alloc (.cells (uv a).toArray 129)).alloc (.cells (uv b).toArray 129)) := by
 have hs : (w.alloc (.cells (uv a).toArray 129)).heap.size = w.heap.size + 1 := by simp
 have h2 := Arr.made (w.alloc (.cells (uv a).toArray 129)) b
 rw [hs] at h2
 exact ⟨(Arr.made w a).alloc _, h2, (h.alloc h.size _).alloc (Nat.le_trans h.size (by rw [hs]; omega)) _⟩
def LInv (S V k : Nat) (t R : List Nat) : Prop := Nm.Dig W t ∧ Nm.Dig W R ∧ S = V * W ^ k * Nm.val W t + Nm.val W R ∧ Nm.val W R < V * W ^ k
theorem LInv.seg {S V j m : Nat} {t R : List Nat} (h : LInv S V (j + 1) t R) (hV : V < W ^ m) (hl : j + (m + 1) ≤ R.length) :
 Nm.val W ((R.drop j).take (m + 1)) < V * W ∧ Nm.val W (R.drop (j + (m + 1))) = 0 ∧ Nm.val W R = Nm.val W (R.take j) + W ^ j * Nm.val W ((R.drop j).take (m + 1)) := by
 obtain ⟨_, h2, _, h4⟩ := h
 have e1 := Nm.val_split W R j (by omega)
 have e2 := Nm.val_split W (R.drop j) (m + 1) (by simp; omega)
 rw [List.drop_drop] at e2
 have hp : 0 < W ^ j := Nat.pow_pos W0
 have h5 : Nm.val W (R.drop j) < V * W := by
  have h6 : W ^ j * Nm.val W (R.drop j) < W ^ j * (V * W) := by
   have : V * W ^ (j + 1) = W ^ j * (V * W) := by rw [Nat.pow_succ]; grind
   omega
  exact Nat.lt_of_mul_lt_mul_left h6
 have h7 : V * W < W ^ (m + 1) := by rw [Nat.pow_succ]; exact Nat.mul_lt_mul_of_pos_right hV W0
 have h8 : Nm.val W (R.drop (j + (m + 1))) = 0 := by
  rcases Nat.eq_zero_or_pos (Nm.val W (R.drop (j + (m + 1)))) with g | g
  ·exact g
  ·have : W ^ (m + 1) * 1 ≤ W ^ (m + 1) * Nm.val W (R.drop (j + (m + 1))) := Nat.mul_le_mul_left _ g
   omega
 rw [h8, Nat.mul_zero, Nat.add_zero] at e2
 rw [e2] at e1 h5
 exact ⟨h5, h8, e1⟩
theorem LInv.step {S V j m : Nat} {t R r : List Nat} (h : LInv S V (j + 1) t R) (hV : V < W ^ m) (h0 : 0 < V) (hl : j + (m + 1) ≤ R.length) (hr : r.length = m + 1) (dr : Nm.Dig W r) (hv : Nm.val W r = Nm.val W ((R.drop j).take (m + 1)) % V)
 (hq : Nm.val W ((R.drop j).take (m + 1)) / V < W) :
 LInv S V j (Nm.val W ((R.drop j).take (m + 1)) / V :: t) (R.take j ++ (r ++ R.drop (j + (m + 1)))) := by
 obtain ⟨s1, s2, s3⟩ := h.seg hV hl
 obtain ⟨g1, g2, g3, g4⟩ := h
 have hdm := Nat.div_add_mod (Nm.val W ((R.drop j).take (m + 1))) V
 have hm := Nat.mod_lt (Nm.val W ((R.drop j).take (m + 1))) h0
 have ht := Nm.val_lt (Nm.dig_take g2 j)
 rw [List.length_take, Nat.min_eq_left (by omega)] at ht
 have e : Nm.val W (R.take j ++ (r ++ R.drop (j + (m + 1)))) = Nm.val W (R.take j) + W ^ j * Nm.val W r := by
  rw [Nm.val_append, Nm.val_append, s2, List.length_take, Nat.min_eq_left (by omega), Nat.mul_zero, Nat.add_zero]
 refine ⟨Nm.dig_cons.2 ⟨hq, g1⟩, Nm.dig_append.2 ⟨Nm.dig_take g2 _, Nm.dig_append.2 ⟨dr, Nm.dig_drop g2 _⟩⟩, ?_, ?_⟩
 ·rw [e, hv, Nm.val_cons, g3, s3]
  generalize Nm.val W ((R.drop j).take (m + 1)) / V = q at *
  generalize Nm.val W ((R.drop j).take (m + 1)) % V = x at *
  generalize Nm.val W ((R.drop j).take (m + 1)) = U at *
  rw [← hdm, Nat.pow_succ]
  grind
 ·rw [e, hv]
  generalize Nm.val W ((R.drop j).take (m + 1)) % V = x at *
  have : W ^ j * (x + 1) ≤ W ^ j * V := Nat.mul_le_mul_left _ hm
  rw [Nat.mul_add, Nat.mul_one, Nat.mul_comm _ V] at this
  omega
theorem k'aw {Y Sb : List Nat} {m m1 sh : Nat} (hm : Y.length = m) (hm1 : m1 + 1 = m) (hz : m1 < Y.length) (d2 : Nm.Dig W Y) (s1 : sh ≤ 63) (s2 : 2 ^ 63 ≤ Y[m1] * 2 ^ sh) (s3 : Y[m1] * 2 ^ sh < W)
 (hl : Sb.length = m + 1) (dS : Nm.Dig W Sb) (hv : Nm.val W Sb = Nm.val W Y * 2 ^ sh) :
 Nm.val W (Sb.take m) = Nm.val W Y * 2 ^ sh ∧ Nm.val W Y * 2 ^ sh < W ^ m ∧ 2 ^ 63 * W ^ m1 ≤ Nm.val W Y * 2 ^ sh ∧ W ≤ 2 * Sb[m1] := by
 have hp : 0 < 2 ^ sh := Nat.pow_pos (by decide)
 have hW := pow64 (show sh ≤ 64 by omega)
 have hy : Y[m1] < 2 ^ (64 - sh) := by
  rw [← hW, Nat.mul_comm] at s3
  exact Nat.lt_of_mul_lt_mul_left s3
 have e1 := Nm.val_take_succ W Y m1 hz
 rw [show m1 + 1 = Y.length by omega, List.take_length] at e1
 have h1 := Nm.val_lt (Nm.dig_take d2 m1)
 rw [List.length_take, Nat.min_eq_left (by omega)] at h1
 have hpm : 0 < W ^ m1 := Nat.pow_pos W0
 have a1 : Nm.val W Y * 2 ^ sh < W ^ m := by
  have h2 : Nm.val W Y < W ^ m1 * 2 ^ (64 - sh) := by
   have : W ^ m1 * (Y[m1] + 1) ≤ W ^ m1 * 2 ^ (64 - sh) := Nat.mul_le_mul_left _ hy
   rw [Nat.mul_add, Nat.mul_one] at this
   omega
  have h3 := Nat.mul_lt_mul_of_pos_right h2 hp
  rw [Nat.mul_assoc, Nat.mul_comm (2 ^ (64 - sh)), hW, ← Nat.pow_succ, show m1.succ = m from hm1] at h3
  exact h3
 have a2 : 2 ^ 63 * W ^ m1 ≤ Nm.val W Y * 2 ^ sh := by
  have h2 : 2 ^ 63 * W ^ m1 ≤ (Y[m1] * 2 ^ sh) * W ^ m1 := Nat.mul_le_mul_right _ s2
  have h3 : Y[m1] * 2 ^ sh * W ^ m1 = W ^ m1 * Y[m1] * 2 ^ sh := by grind
  have h4 : W ^ m1 * Y[m1] * 2 ^ sh ≤ Nm.val W Y * 2 ^ sh := Nat.mul_le_mul_right _ (by omega)
  omega
 have hS := Nm.val_take_succ W Sb m (by omega)
 rw [show m + 1 = Sb.length by omega, List.take_length, hv] at hS
 have a0 : Nm.val W (Sb.take m) = Nm.val W Y * 2 ^ sh := by
  rcases Nat.eq_zero_or_pos (Sb[m]) with g | g
  ·rw [g, Nat.mul_zero, Nat.add_zero] at hS
   exact hS.symm
  ·have : W ^ m * 1 ≤ W ^ m * Sb[m] := Nat.mul_le_mul_left _ g
   omega
 refine ⟨a0, a1, a2, ?_⟩
 have hT := Nm.val_take_succ W Sb m1 (by omega)
 rw [show m1 + 1 = m by omega, a0] at hT
 have h5 := Nm.val_lt (Nm.dig_take dS m1)
 rw [List.length_take, Nat.min_eq_left (by omega)] at h5
 have h6 : W ^ m1 * 2 ^ 63 < W ^ m1 * (Sb[m1] + 1) := by
  rw [Nat.mul_add, Nat.mul_one]
  have : W ^ m1 * 2 ^ 63 = 2 ^ 63 * W ^ m1 := Nat.mul_comm _ _
  omega
 have h7 := Nat.lt_of_mul_lt_mul_left h6
 have : W = 2 * 2 ^ 63 := by decide
 omega
theorem k'ax {A B q r P : Nat} (hP : 0 < P) (hB : 0 < B) (h : A * P = B * P * W ^ 0 * q + r) (hr : r < B * P * W ^ 0) : q = A / B ∧ r / P = A % B := by
 rw [Nat.pow_zero, Nat.mul_one] at h hr
 have hBP : 0 < B * P := Nat.mul_pos hB hP
 have e1 : q = A * P / (B * P) := by
  rw [h, Nat.mul_add_div hBP, Nat.div_eq_of_lt hr, Nat.add_zero]
 have e2 : r = A * P % (B * P) := by
  rw [h, Nat.mul_add_mod, Nat.mod_eq_of_lt hr]
 constructor
 ·rw [e1, Nat.mul_div_mul_right _ _ hP]
 ·rw [e2, Nat.mul_mod_mul_right, Nat.mul_div_cancel _ hP]
theorem k'ay (v1 v2 : Value) (X Y : List Nat) (w : World) (h1 : Rd w v1 X) (h2 : Rd w v2 Y) (hX : X.length ≤ 900000000) (hY : Y.length ≤ 900000000)
 (d1 : Nm.Dig W X) (d2 : Nm.Dig W Y) (n1 : Nm.Nrm X) (n2 : Nm.Nrm Y) (hY2 : 2 ≤ Y.length) (hge : Nm.val W Y ≤ Nm.val W X) :
 Calls Tryz.prog 146 #[v1, v2] w (DivPost (Nm.val W X) (Nm.val W Y) w) := by
 have HC := i' (k'2e v1 v2 X Y w h1 h2 (by omega) (by omega) d1 d2 n1 n2)
 have hc0 : 0 ≤ cmpN (Nm.val W X) (Nm.val W Y) := k'2h hge
 have hlen : Y.length ≤ X.length := by
  rcases Nat.lt_or_ge X.length Y.length with h | h
  ·have := Nm.val_lt_of_len W0 d1 n2 h
   omega
  ·exact h
 generalize cmpN (Nm.val W X) (Nm.val W Y) = cc at *
 obtain ⟨p1, b1, o1, c1, rfl, _, _, hp1, _, hx1⟩ := h1
 obtain ⟨p2, b2, o2, c2, rfl, _, _, hp2, _, hx2⟩ := h2
 obtain rfl := hp1 (by intro e; rw [e] at hlen; simp at hlen; rw [hlen] at hY2; simp at hY2)
 obtain rfl := hp2 (by intro e; rw [e] at hY2; simp at hY2)
 obtain ⟨m, hm⟩ : ∃ m, Y.length = m := ⟨_, rfl⟩
 obtain ⟨n, hn⟩ : ∃ n, X.length = n := ⟨_, rfl⟩
 obtain ⟨m1, hm1⟩ : ∃ m1, m1 + 1 = m := ⟨m - 1, by omega⟩
 have z1 : m1 < Y.length := by omega
 have e1 := hx2 m1 z1
 have hyW := Nm.dig_get d2 m1 z1
 have hy0 : Y[m1] ≠ 0 := by
  have := Nm.nrm_last n2 (by omega)
  simpa [hm, ← hm1] using this
 have HL := i' (k'1d Y[m1] hyW)
 obtain ⟨s1, s2, s3⟩ := k'1c Y[m1] hy0 hyW
 have t1 : (m : Int) - 1 = (m1 : Int) := by omega
 have t2 : ((m : Int) == 1) = false := by simp; omega
 have t3 : ¬ (m : Int) = 1 := by omega
 rw [hm, hn] at HC
 rw [hm, hn]
 generalize lz Y[m1] = sh at *
 have k1 := k'f n (by omega)
 have k2 := k'f m (by omega)
 go_enter Tryz.func146, Tryz.ntmps146
 go_wp2_with fail
 refine HC.out.mono ?_
 rintro e w' ⟨rfl, nq, rfl⟩
 go_wp2_with fail
 refine (HL.out _).mono ?_
 rintro e w' ⟨rfl, rfl⟩
 go_wp2
 clear e1 HL HC hc0 t3
 go_cut [8, 9] (fun rv bv wx => ∃ gr gb : Nat, rv = .slice (some ⟨gr, 0, none⟩) (n + 1) (n + 1) ∧ bv = .slice (some ⟨gb, 0, none⟩) (m + 1) (m + 1) ∧ Hid (Arr wx gr (List.replicate (n + 1) 0) ∧ Arr wx gb (List.replicate (m + 1) 0) ∧ gr ≠ gb ∧ w.heap.size ≤ gr ∧ w.heap.size ≤ gb ∧ Below w.heap.size w wx))
 case first =>
  rename_i J0 K0 hRJ hMK
  go_region
  all_goals
   refine hMK _ _ (Met.intro (hRJ _ _ ?_))
   (repeat apply Exists.intro)
   refine ⟨?_, rfl⟩
   first
    | exact ⟨_, _, rfl, rfl, (k'av w _ (k'2f (Below.refl _ _) _) (List.replicate (n + 1) 0) (List.replicate (m + 1) 0)).1, (k'av w _ (k'2f (Below.refl _ _) _) (List.replicate (n + 1) 0) (List.replicate (m + 1) 0)).2.1, Nat.ne_of_lt (Nat.lt_succ_self _), Nat.le_refl _, Nat.le_succ _, (k'av w _ (k'2f (Below.refl _ _) _) (List.replicate (n + 1) 0) (List.replicate (m + 1) 0)).2.2⟩
    | exact ⟨_, _, rfl, rfl, (k'av w _ (k'2f (Below.refl _ _) _) (List.replicate (m + 1) 0) (List.replicate (n + 1) 0)).2.1, (k'av w _ (k'2f (Below.refl _ _) _) (List.replicate (m + 1) 0) (List.replicate (n + 1) 0)).1, Nat.ne_of_gt (Nat.lt_succ_self _), Nat.le_succ _, Nat.le_refl _, (k'av w _ (k'2f (Below.refl _ _) _) (List.replicate (m + 1) 0) (List.replicate (n + 1) 0)).2.2⟩
 obtain ⟨gr, gb, rfl, rfl, hcut⟩ := hcut
 obtain ⟨y0, hy0w⟩ : ∃ y : World, y = wc := ⟨_, rfl⟩
 subst hy0w
 obtain ⟨ha, hb, hne, hgr, hgb, hbel⟩ := hcut.out
 have hbr1 : b1 ≠ gr := by have := World.block_lt_of_cell? w _ (hx1 0 (by omega)); omega
 have hbb2 : b2 ≠ gb := by have := World.block_lt_of_cell? w _ (hx2 0 (by omega)); omega
 have hbr2 : b2 ≠ gr := by have := World.block_lt_of_cell? w _ (hx2 0 (by omega)); omega
 have HS1 := k'13 (List.replicate (n + 1) 0) X gr 0 (n + 1) (n + 1) (some ⟨b1, o1, none⟩) b1 o1 c1 sh y0 (by omega) (by omega) (by omega) (by omega) (by simp; omega) (fun _ => rfl) (fun _ => hbr1) ha (fun k hk => k'd hbel (hx1 k hk)) d1 s1
 rw [hn] at HS1
 have HS1 := i' HS1
 have HB := i' hbel
 have HAb := i' hb
 have H2 := i' hx2
 have HN := i' (And.intro hgr (And.intro hgb hne))
 clear ha hb hbel hcut hx1 hx2 hgr hgb
 go_wp2_with fail
 refine HS1.out.mono ?_
 rintro e y1 ⟨rfl, sr, hsr1, hsr2, hsr3, har, hor⟩
 rw [hn, List.take_zero, List.nil_append, Nat.zero_add, List.drop_of_length_le (by simp), List.append_nil] at har
 rw [hn] at hsr1
 have HBy1 := i' (hor.below HB.out HN.out.1)
 have HS2 := k'13 (List.replicate (m + 1) 0) Y gb 0 (m + 1) (m + 1) (some ⟨b2, o2, none⟩) b2 o2 c2 sh y1 (by omega) (by omega) (by omega) (by omega) (by simp; omega) (fun _ => rfl) (fun _ => hbb2) (hor.arr HAb.out (fun e => hne e.symm)) (fun k hk => k'd HBy1.out (H2.out k hk)) d2 s1
 rw [hm] at HS2
 have HS2 := i' HS2
 have HAr := i' har
 clear HS1 HAb HB har hor hbr1 hbb2 hbr2
 go_wp2_with fail
 refine HS2.out.mono ?_
 rintro e y2 ⟨rfl, sb, hsb1, hsb2, hsb3, hab, hob⟩
 rw [hm, List.take_zero, List.nil_append, Nat.zero_add, List.drop_of_length_le (by simp), List.append_nil] at hab
 rw [hm] at hsb1
 have HB2 := i' (hob.below HBy1.out HN.out.2.1)
 have HAr := i' (hob.arr HAr.out hne)
 have HAb := i' hab
 have k5 := k'au n m (by omega) (by omega)
 obtain ⟨f1, f2, f3, f4⟩ := k'aw hm hm1 z1 d2 s1 s2 s3 hsb1 hsb2 hsb3
 obtain ⟨Yb, hYb⟩ : ∃ Yb, Yb = sb.take m := ⟨_, rfl⟩
 have hYl : Yb.length = m := by rw [hYb, List.length_take]; omega
 have hYd : Nm.Dig W Yb := by rw [hYb]; exact Nm.dig_take hsb2 m
 have hYt : W ≤ 2 * Yb[m1] := by simpa [hYb] using f4
 have hYc : ∀ (wx : World), Arr wx gb sb → ∀ k (h : k < Yb.length), wx.cell? ⟨gb, 0 + k, none⟩ = some (.int .u64 (Yb[k] : Int)) := by
  intro wx hA k hk
  have := hA.cell k (by omega)
  rw [Nat.zero_add, this]
  simp [hYb]
 rw [← hYb] at f1
 have HYc := i' hYc
 clear HS2 HBy1 hab hob f4 hYb k1 k2 hsb3 hYc
 obtain ⟨m2, hm2⟩ : ∃ m2, m2 + 2 = m := ⟨m - 2, by omega⟩
 have hV0 : 0 < Nm.val W Yb := by
  rw [f1]
  have : 0 < 2 ^ 63 * W ^ m1 := Nat.mul_pos (by decide) (Nat.pow_pos W0)
  omega
 have hstart : Nm.val W sr < Nm.val W Yb * W ^ (n - m + 1) := by
  have h5 := Nm.val_lt d1
  rw [hn] at h5
  have h6 : 2 ^ 63 * W ^ m1 * W ^ (n - m + 1) ≤ Nm.val W Yb * W ^ (n - m + 1) := Nat.mul_le_mul_right _ (by rw [f1]; exact f3)
  rw [Nat.mul_assoc, ← Nat.pow_add, show m1 + (n - m + 1) = n by omega] at h6
  have h7 : Nm.val W X * 2 ^ sh < W ^ n * 2 ^ sh := Nat.mul_lt_mul_of_pos_right h5 (Nat.pow_pos (by decide))
  have h8 : W ^ n * 2 ^ sh ≤ W ^ n * 2 ^ 63 := Nat.mul_le_mul_left _ (Nat.pow_le_pow_right (by decide) s1)
  rw [hsr3]
  have h9 : W ^ n * 2 ^ 63 = 2 ^ 63 * W ^ n := Nat.mul_comm _ _
  omega
 have hYW : Nm.val W Yb < W ^ m := by rw [f1]; exact f2
 have HE := i' f1
 have HSr := i' hsr3
 clear f1 f2 f3 s2 s3 hyW hy0 t1 t2 d2 n1 n2 hge
 go_wp2
 clear k5
 go_loopw [10] (fun iv wr => ∃ k t R, k ≤ n - m + 1 ∧ iv = .int .i64 ((k : Nat) - 1 : Int) ∧ R.length = n + 1 ∧ t.length + k = n - m + 1 ∧ Hid (LInv (Nm.val W sr) (Nm.val W Yb) k t R) ∧
  Arr wr y2.heap.size (List.replicate k 0 ++ t) ∧ Arr wr gr R ∧ Arr wr gb sb ∧ Below w.heap.size w wr)
  (fun i _ => (intOf i + 1).toNat)
 case atStart =>
  refine ⟨n - m + 1, [], sr, Nat.le_refl _, by congr 1; omega, hsr1, by simp, ⟨Nm.dig_nil W, hsr2, by simp [Nm.val], hstart⟩, by rw [List.append_nil]; exact Arr.made y2 _, HAr.out.alloc _, HAb.out.alloc _, HB2.out.alloc HB2.out.size _⟩
 case round =>
  have hgq1 : gr < y2.heap.size := HAr.out.lt
  have hgq2 : gb < y2.heap.size := HAb.out.lt
  obtain ⟨k, t, R, hk, rfl, hR, ht, hinv, haq, har, hab, hbl⟩ := hrel
  rcases Nat.eq_zero_or_pos k with h0 | h0
  ·subst h0
   have HQ := i' (Rd.of_whole haq (n - m + 1) (by simp; omega) (by unfold maxLen; omega))
   have HR := i' (Rd.of_whole har (n + 1) hR (by unfold maxLen; omega))
   have Hbl := i' hbl
   have hpd := i' (And.intro hinv.out.1 hinv.out.2.1)
   have hfin := i' (k'ax (A := Nm.val W X) (B := Nm.val W Y) (q := Nm.val W t) (r := Nm.val W R) (Nat.pow_pos (n := sh) (by decide : 0 < 2)) (by rcases Nat.eq_zero_or_pos (Nm.val W Y) with g | g; (rw [HE.out, g, Nat.zero_mul] at hV0; exact absurd hV0 (Nat.lt_irrefl _)); exact g)
    (by rw [← HSr.out, ← HE.out]; exact hinv.out.2.2.1) (by rw [← HE.out]; exact hinv.out.2.2.2))
   have HSR := i' (fun w' (h : Rd w' (.slice (some ⟨gr, 0, none⟩) (n + 1) (n + 1)) R) => k'19 _ R sh w' h (by omega) (by omega) hpd.out.2)
   clear haq har hbl hinv hab
   go_wp2_with fail
   refine (k'i _ _ _ HQ.out).mono ?_
   rintro e w' ⟨v, rfl, hrd, rfl⟩
   have HQ2 := i' hrd
   clear hrd
   go_wp2_with fail
   refine (HSR.out _ HR.out).mono ?_
   rintro e w' ⟨v2, rfl, hrd2, hb2⟩
   have HR2 := i' hrd2
   have HB3 := i' (Hbl.out.trans (hb2.mono Hbl.out.size))
   have HQ3 := i' (HQ2.out.below hb2 (Nat.le_refl _))
   clear hrd2 hb2
   go_wp2
   go_ret2
   refine ⟨v, v2, rfl, ?_, ?_, HB3.out⟩
   ·have h5 := HQ3.out
    rw [List.replicate_zero, List.nil_append, Nm.trimL_dg W2 hpd.out.1, hfin.out.1] at h5
    exact h5
   ·have h5 := HR2.out
    rw [hfin.out.2] at h5
    exact h5
  ·obtain ⟨j, rfl⟩ : ∃ j, k = j + 1 := ⟨k - 1, by omega⟩
   have hseg := hinv.out.seg hYW (by omega)
   have hqW : Nm.val W ((R.drop j).take (m + 1)) / Nm.val W Yb < W := by rw [Nat.div_lt_iff_lt_mul hV0, Nat.mul_comm]; exact hseg.1
   have HST := i' (fun nr cap (h1 : m + 1 ≤ nr) (h2 : nr ≤ cap) (h3 : cap ≤ 2000000000) => k'at R Yb gr j m m1 m2 nr cap gb 0 (m + 1) wr hYl hm1 hm2 h1 h2 h3 (by omega) (by omega) (fun e => hne e.symm) har (HYc.out wr hab) hYd hinv.out.2.1 hYt hseg.1)
   have HI := i' (fun r (h1 : r.length = m + 1) (h2 : Nm.Dig W r) (h3 : Nm.val W r = Nm.val W ((R.drop j).take (m + 1)) % Nm.val W Yb) => hinv.out.step hYW hV0 (by omega) h1 h2 h3 hqW)
   have hlq : (List.replicate (j + 1) 0 ++ t).length = n - m + 1 := by simp; omega
   obtain ⟨u3, e3⟩ := haq.has j (by omega)
   have e4 := haq.free j
   have Haq := i' haq
   have Hab := i' hab
   have Hbl := i' hbl
   have HN2 := i' (And.intro hgq1 hgq2)
   rw [show ((j + 1 : Nat) : Int) - 1 = (j : Int) by omega]
   clear hseg hinv haq har hab hbl hqW hgq1 hgq2
   unfold DStep at HST
   generalize Nm.val W ((R.drop j).take (m + 1)) / Nm.val W Yb = qd at *
   generalize Nm.val W ((R.drop j).take (m + 1)) % Nm.val W Yb = rd at *
   go_wp2_with fail
   refine (HST.out _ _ (by omega) (by omega) (by omega)).mono ?_
   rintro e w' ⟨r, rfl, hr1, hr2, hr3, hr4, ho⟩
   have ha1 := ho.arr Haq.out (Nat.ne_of_gt HN2.out.1)
   obtain ⟨u3, e3⟩ := ha1.has j (by omega)
   have e4 := ha1.free j
   have HA := ha1.set j qd
   rw [List.set_append_left _ _ (by simp), List.replicate_succ', List.set_append_right _ _ (by simp), List.length_replicate, Nat.sub_self, List.set_cons_zero, List.append_assoc, List.singleton_append] at HA
   have HA1 := i' HA
   have HA2 := i' (hr4.other ⟨y2.heap.size, j, none⟩ (.int .u64 (qd : Int)) (Nat.ne_of_lt HN2.out.1))
   have HA3 := i' ((ho.arr Hab.out (fun e => hne e.symm)).other ⟨y2.heap.size, j, none⟩ (.int .u64 (qd : Int)) (Nat.ne_of_lt HN2.out.2))
   have HA4 := i' ((ho.below Hbl.out HN.out.1).setCell (p := ⟨y2.heap.size, j, none⟩) HB2.out.size (.int .u64 (qd : Int)))
   have HI2 := i' (HI.out r hr1 hr2 hr3)
   have hRl : (R.take j ++ (r ++ R.drop (j + (m + 1)))).length = n + 1 := by simp; omega
   clear ha1 HA hr4 ho
   go_wp2
   go_roundw
   case rel => exact ⟨j, qd :: t, _, by omega, by go_num, hRl, by simp; omega, HI2.out, HA1.out, HA2.out, HA3.out, HA4.out⟩
   case measure => simp [intOf]
theorem k'az (m n : Nat) (h0 : 0 < n) (l1 : (Nm.dg W m).length ≤ 900000000) (l2 : (Nm.dg W n).length ≤ 900000000) : DivOK m n := by
 by_cases h : m < n ∨ n < W
 ·exact k'52 m n h0 h (by omega) (by omega)
 ·intro v1 v2 w h1 h2
  have hl : 2 ≤ (Nm.dg W n).length := by
   rcases Nat.lt_or_ge (Nm.dg W n).length 2 with g | g
   ·have h3 := Nm.val_lt (Nm.dig_dg W2 n)
    rw [Nm.val_dg W2] at h3
    have h4 : W ^ (Nm.dg W n).length ≤ W ^ 1 := Nat.pow_le_pow_right W0 (by omega)
    rw [Nat.pow_one] at h4
    omega
   ·exact g
  have := k'ay v1 v2 _ _ w h1 h2 l1 l2 (Nm.dig_dg W2 m) (Nm.dig_dg W2 n) (Nm.nrm_dg W2 m) (Nm.nrm_dg W2 n) hl (by rw [Nm.val_dg W2, Nm.val_dg W2]; omega)
  rwa [Nm.val_dg W2, Nm.val_dg W2] at this
end Go.Proofs.YtepddegphdlbeaaGreat
