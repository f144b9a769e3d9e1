/- What the theorem leans on, part G9. -/
import Derived.Test.YtepddegphdlbeaaGreatG8
import Derived.Test.YtepddegphdlbeaaGreatG7
import Derived.Test.YtepddegphdlbeaaGreatG6
import Derived.Test.YtepddegphdlbeaaGreatG4
import Derived.Test.YtepddegphdlbeaaGreatG3
import Derived.Test.YtepddegphdlbeaaGreatG2
import Derived.Test.YtepddegphdlbeaaGreatG1
import Derived.Test.YtepddegphdlbeaaGreatG0
import Derived.Test.YtepddegphdlbeaaGreatProg
import Derived.WalkKit
import Derived.WalkSpells
import Derived.WalkLawsBesides
import Derived.Lib.Hide
import Derived.Deep.QuietTactic
import Derived.BigQuiet
import Derived.Shelf.Small.Bits
import Derived.Shelf.Small.Wraps
import Derived.Shelf.Strconv.Itoa0
import Derived.Shelf.Bits.Mul64
import Derived.Ground.Names2Prog
import Derived.Shelf.Slices.SearchI
import Derived.Shelf.Spec.BitsCarry
import Derived.Deep.LoopGhost
import Derived.Deep.RegionHeld3
import Derived.Deep.DeepCutAuto
import Derived.Test.YtepddegphdlbeaaGreatG5
import Derived.Laws.AppendOwnNone
import Derived.Below
import Derived.RangeFuncNested
import Derived.RangeFuncBound
import Derived.RangeFuncCalls
import Derived.RangeFuncLeaves
import Derived.Shelf.Abstract
import Derived.Shelf.RegionOpen
import Derived.OwnWalkIn
import Derived.TacticsInMore
import Derived.LoopNIn
import Derived.LoopIn
import Derived.OrdersIn
import Derived.Deep.RegionHeld
import Derived.Maps.AppendAt
import Derived.Lib.SliceRun
import Derived.IntWalk
set_option maxRecDepth 100000
set_option maxHeartbeats 16000000
set_option linter.all false
namespace Go.Proofs.YtepddegphdlbeaaGreat
open Go.RowKit
theorem k'di (w : World) (x y : Value) (t : TypeId) : ∀ j u, [x, y][j]? = some u → (w.alloc (.cells #[x, y] t)).cell? ((⟨w.heap.size, 0, none⟩ : Addr).add j) = some u := by
 intro j u hj
 match j, hj with
 | 0, hj => simp at hj; subst hj; simp [Addr.add, go_sem]
 | 1, hj => simp at hj; subst hj; simp [Addr.add, go_sem]
 | k + 2, hj => exact absurd hj (by simp)
theorem k'dj (p : List Int) (v : Value) (w : World) (h : Rp w v p) (hl : p.length ≤ 1000) (ht : ∀ a ∈ p, a.natAbs < Top) : Calls Tryz.prog 21 #[v] w (fun e w' => ∃ v, e = .returned v ∧ RowP w' w.heap.size v p ∧ Below w.heap.size w w') := by
 obtain ⟨a, b, off, cap, rfl, h2, h3, h4, h5⟩ := h.open_
 have hi : (Tryz.prog.info? 52).map (fun i => (i.zero, i.size, i.bytes)) = some (some (.agg #[.bool false, .slice none 0 0]), 2, 32) := by kernel_rfl
 obtain ⟨i0, hi0, hz0, hz1, hz2⟩ := info_parts hi
 have HI := i' (And.intro hi0 (And.intro hz0 (And.intro hz1 hz2)))
 have HF := i' (fun k (hk : k < p.length) w => k'94 (zb p[k]) (zs p[k]) w (Nat.le_trans (k'5t (ht _ (List.getElem_mem hk))) (by decide)))
 obtain ⟨n, hn⟩ : ∃ n, n = p.length := ⟨_, rfl⟩
 rw [← hn] at hl ⊢
 have HN := i' hn
 have H4 := i' h4
 have H5 := i' h5
 clear h h2 h3 h4 h5 hi hi0 hz0 hz1 hz2 hn ht
 go_enter Tryz.func21, Tryz.ntmps21
 go_wp2
 go_loopw [3, 4] (fun v iv wr => ∃ (wz : World) (k : Nat), wz = wr ∧ k ≤ n ∧ iv = .int .i64 (k : Int) ∧ Hid (RowP wz w.heap.size v (p.take k)) ∧ Hid (Below w.heap.size w wz))
  (fun _ iv _ => n - (intOf iv).toNat)
 case atStart => exact ⟨w, 0, rfl, Nat.zero_le _, rfl, RowP.nil _ _, Below.refl _ _⟩
 case round =>
  obtain ⟨wz, k, rfl, hk, rfl, hrow, hbl⟩ := hrel
  by_cases hlt : k < n
  ·have hkp : k < p.length := by have h5 : n = p.length := HN.out; omega
   obtain rfl := H4.out (by intro e; rw [e] at hkp; exact absurd hkp (Nat.not_lt_zero _))
   have c0 := keep1 hbl.out (H5.out k hkp).1
   have c1 := keep1 hbl.out (H5.out k hkp).2
   have HFk := i' (HF.out k hkp)
   rw [sgzz] at HFk
   have HTk : Hid (p.take k ++ [p[k]] = p.take (k + 1)) := (List.take_succ_eq_append_getElem hkp).symm
   have hkk : (k : Int) < (n : Int) := by omega
   have hk0 : (0 : Int) ≤ (k : Int) := by omega
   generalize p[k] = z at *
   clear hkp
   go_wp2_with fail
   refine (HFk.out _).mono ?_
   rintro e w5 ⟨u, rfl, r5, b5⟩
   have HR5 := i' r5
   have HW5 := i' (hrow.out.below b5)
   have HB5 := i' (chain hbl.out b5)
   obtain ⟨us, hul, hown, hzs⟩ := HW5.out
   have HUL := i' hul
   have HOW := i' hown
   have HZS := i' hzs
   have HUo : Hid (u.oneCell' = true) := by obtain ⟨pu, bu, ou, cu, rfl, -⟩ := r5; rfl
   clear b5 r5 hrow hbl c0 c1 hul hown hzs
   unfold iV
   go_wp2_with (at_builtin; refine wpList_append_own _ rfl _ _ 34 rfl w.heap.size 52 i0 (.agg #[.bool false, .slice none 0 0]) 2 32 Tryz.underlying34 HI.out.1 HI.out.2.1 HI.out.2.2.1 HI.out.2.2.2 rfl (by decide) _ _ _ rfl (HOW.out.alloc _) ⟨w5.heap.size, 0, none⟩ 1 1 [.bool (decide (z < 0)), u] rfl rfl ?dc1 ?dc2 ?dc3 ?dc4 ?dc5 ?_)
   case dc1 => exact k'di _ _ _ _
   case dc2 =>
    intro x hx
    simp at hx
    rcases hx with rfl | rfl
    ·rfl
    ·exact HUo.out
   case dc3 => unfold maxLen; simp; omega
   case dc4 => simp; omega
   case dc5 => have h5 := HB5.out.size; simp; omega
   intro v' w1 hown1 hgrow1 _
   have hal := k'56 w5 (.cells #[.bool (decide (z < 0)), u] 52)
   have HN1 : Hid (RowP w1 w.heap.size v' (p.take (k + 1))) := by
    show RowP _ _ _ _
    rw [← HTk.out]
    refine RowP.snoc (v := u3) HUL.out (HOW.out.alloc _) (fun j h1 h2 => (HZS.out j h1 h2).below hal) hgrow1 (by rw [List.length_take]; exact hown1) (HR5.out.below hal)
   have HB1 : Hid (Below w.heap.size w w1) := (HB5.out.alloc HB5.out.size _).grown hgrow1 (by have h5 := HB5.out.size; simp; omega) (fun q hq => (HOW.out.lt q hq).1)
   clear hown1 hgrow1 hal
   go_wp2
   go_roundw
   case rel => exact ⟨_, k + 1, rfl, by omega, by go_num, HN1.out, HB1.out⟩
   case measure => simp [intOf]; omega
  ·obtain rfl : k = n := by omega
   have HRo : Hid (RowP wz w.heap.size u3 p) := by
    have h5 := hrow.out
    rw [show k = p.length from HN.out, List.take_length] at h5
    exact h5
   go_wp2
   go_ret
   exact ⟨_, rfl, HRo.out, hbl.out⟩
theorem k'dl {L : List (Bool × ByteArray)} {m : Nat} (h : m + 1 = L.length) {a : Bool} {s : ByteArray} (hm : L[m]'(by omega) = (a, s)) (hv : vld a s = true) : lastOK L = decide (0 < s.size) := by
 have e : m = L.length - 1 := by omega
 unfold lastOK
 rw [List.getLast?_eq_getElem?, List.getElem?_eq_getElem (by omega)]
 subst e
 rw [hm]
 show (sgV a s != 0) = _
 unfold sgV
 by_cases h0 : 0 < s.size
 ·rw [if_pos ⟨hv, h0⟩, decide_eq_true h0]; cases a <;> rfl
 ·rw [if_neg (fun h => h0 h.2), decide_eq_false h0]; rfl
theorem k'dm (L : List (Bool × ByteArray)) (v : Value) (w : World) (h : Rw w v L) (hz : Small L) :
 Calls Tryz.prog 16 #[v] w (BPost (vldP L) w) := by
 have hlen := h.len
 obtain ⟨p, b, off, cap, rfl, h2, h3, h4, h5⟩ := h
 have HV := i' (fun k (hk : k < L.length) w => k'5v L[k].1 L[k].2 w (hz _ (List.getElem_mem hk)))
 have H4 := i' h4
 have H5 := i' h5
 have HE : Hid (vldP L = (decide (L.length ≤ 25) && (L.all (fun x => vld x.1 x.2) && lastOK L))) := rfl
 have HNil : Hid (L.length = 0 → lastOK L = true) := fun h0 => by rw [List.eq_nil_of_length_eq_zero h0]; rfl
 have HZ := i' (fun k (hk : k < L.length) => hz _ (List.getElem_mem hk))
 generalize vldP L = res at *
 clear h4 h5 hz h2 h3
 obtain ⟨n, hn⟩ : ∃ n, n = L.length := ⟨_, rfl⟩
 rw [← hn] at hlen HE ⊢
 have HN := i' hn
 clear hn
 go_enter Tryz.func16, Tryz.ntmps16
 go_wp2
 go_loopw [3] (fun iv wr => ∃ (wz : World) (k : Nat), wz = wr ∧ k ≤ n ∧ iv = .int .i64 (k : Int) ∧ Hid (∀ j (hj : j < L.length), j < k → vld L[j].1 L[j].2 = true) ∧ Hid (Below w.heap.size w wz))
  (fun iv _ => n - (intOf iv).toNat)
 case atStart => exact ⟨w, 0, rfl, Nat.zero_le _, rfl, fun j _ hj => absurd hj (Nat.not_lt_zero _), Below.refl _ _⟩
 case round =>
  obtain ⟨wz, k, rfl, hk, rfl, hall, hbl⟩ := hrel
  have hk0 : (0 : Int) ≤ (k : Int) := by omega
  by_cases hlt : k < n
  ·have hkl : k < L.length := by have h5 : n = L.length := HN.out; omega
   have hkk : (k : Int) < (n : Int) := by omega
   obtain ⟨a, s, hL⟩ : ∃ a s, L[k] = (a, s) := ⟨_, _, rfl⟩
   obtain rfl := H4.out (by intro e; rw [e] at hkl; exact absurd hkl (Nat.not_lt_zero _))
   have c0 : wz.cell? ⟨b, off + k * 2, none⟩ = some (.bool a) := by
    have := keep1 hbl.out (H5.out k hkl).1
    simpa [hL] using this
   have c1 : wz.cell? ⟨b, off + k * 2 + 1, none⟩ = some (.string s) := by
    have := keep1 hbl.out (H5.out k hkl).2
    simpa [hL] using this
   have HVk : Hid (∀ w, Calls Tryz.prog 35 #[.agg #[.bool a, .string s]] w (BPost (vld a s) w)) := by
    have := HV.out k hkl
    rw [hL] at this
    exact this
   have hR : Hid (vld a s = true → ∀ j (hj : j < L.length), j < k + 1 → vld L[j].1 L[j].2 = true) := by
    intro hs j hj hjk
    rcases Nat.lt_or_ge j k with g | g
    ·exact hall.out j hj g
    ·obtain rfl : j = k := by omega
     rw [hL]; exact hs
   have hF : Hid (vld a s = false → res = false) := fun hs => by
    rw [HE.out, k'd2 (p := fun x => vld x.1 x.2) hkl (by rw [hL]; exact hs), Bool.false_and, Bool.and_false]
   clear hkl hL hall
   by_cases hsz : vld a s = true
   ·have HR := i' (hR.out hsz)
    rw [hsz] at HVk
    clear hR hF hsz
    go_wp2_with fail
    refine (HVk.out _).mono ?_
    rintro e w5 ⟨rfl, b5⟩
    have HB2 := i' (chain hbl.out b5)
    clear b5 c0 c1
    go_wp2
    go_roundw
    case rel => exact ⟨_, k + 1, rfl, by omega, by go_num, HR.out, HB2.out⟩
    case measure => simp [intOf]; omega
   ·rw [Bool.not_eq_true] at hsz
    have HF := i' (hF.out hsz)
    rw [hsz] at HVk
    clear hR hF hsz
    go_wp2_with fail
    refine (HVk.out _).mono ?_
    rintro e w5 ⟨rfl, b5⟩
    have HB2 := i' (chain hbl.out b5)
    clear b5 c0 c1
    go_wp2
    go_ret
    exact ⟨by rw [HF.out]; rfl, HB2.out⟩
  ·have HA : Hid (res = (decide (n ≤ 25) && lastOK L)) := by
    show _ = _
    rw [HE.out, k'd3 (fun j hj => hall.out j hj (by have h5 : n = L.length := HN.out; omega)), Bool.true_and]
   by_cases h25 : n ≤ 25
   ·have h25i : (n : Int) ≤ 25 := by omega
    have HA2 : Hid (res = lastOK L) := by show _ = _; rw [HA.out, decide_eq_true h25, Bool.true_and]
    rcases Nat.eq_zero_or_pos n with h0 | h0
    ·subst h0
     have HT : Hid (res = true) := by show _ = _; rw [HA2.out]; exact HNil.out HN.out.symm
     obtain rfl : k = 0 := by omega
     clear hall h25
     go_wp2
     go_ret
     exact ⟨by rw [HT.out]; rfl, hbl.out⟩
    ·obtain ⟨m, rfl⟩ : ∃ m, n = m + 1 := ⟨n - 1, by omega⟩
     have hml : m < L.length := by have h5 : m + 1 = L.length := HN.out; omega
     obtain ⟨a, s, hL⟩ : ∃ a s, L[m] = (a, s) := ⟨_, _, rfl⟩
     obtain rfl := H4.out (by intro e; rw [e] at hml; exact absurd hml (Nat.not_lt_zero _))
     have c1 : wz.cell? ⟨b, off + m * 2 + 1, none⟩ = some (.string s) := by
      have := keep1 hbl.out (H5.out m hml).2
      simpa [hL] using this
     have hss : s.size ≤ 140737488351232 := by have := HZ.out m hml; rw [hL] at this; exact this
     have HT : Hid (res = decide (0 < s.size)) := by
      show _ = _
      rw [HA2.out]
      refine k'dl HN.out hL ?_
      have := hall.out m hml (by omega)
      rw [hL] at this
      exact this
     have hm0 : ¬ ((m + 1 : Nat) : Int) = 0 := by omega
     have hm1 : (((m : Int) + 1 == 0) : Bool) = false := by simp; omega
     clear hall h25 hL hml hm0
     go_wp2
     go_ret
     exact ⟨by rw [HT.out]; rfl, hbl.out⟩
   ·have h25i : ¬ (n : Int) ≤ 25 := by omega
    have HT : Hid (res = false) := by show _ = _; rw [HA.out, decide_eq_false h25, Bool.false_and]
    clear hall h25
    go_wp2
    go_ret
    exact ⟨by rw [HT.out]; rfl, hbl.out⟩
def Rl (w : World) (v : Value) (Ls : List (List (Bool × ByteArray))) : Prop :=
 ∃ (b off cap : Nat), v = .slice (some ⟨b, off, none⟩) Ls.length cap ∧ ∀ k (h : k < Ls.length), ∃ u, w.cell? ⟨b, off + k, none⟩ = some u ∧ Rw w u Ls[k]
theorem k'dp {Ls : List (List (Bool × ByteArray))} {p : List (Bool × ByteArray) → Bool} {k : Nat} (hk : k < Ls.length) (h : p Ls[k] = false) : Ls.all p = false := by
 rw [List.all_eq_false]
 exact ⟨_, List.getElem_mem hk, by simp [h]⟩
theorem k'dq {Ls : List (List (Bool × ByteArray))} {p : List (Bool × ByteArray) → Bool} (h : ∀ k (hk : k < Ls.length), p Ls[k] = true) : Ls.all p = true := by
 rw [List.all_eq_true]
 intro x hx
 obtain ⟨k, hk, rfl⟩ := List.mem_iff_getElem.1 hx
 exact h k hk
theorem k'dr (Ls : List (List (Bool × ByteArray))) (v : Value) (w : World) (h : Rl w v Ls) (hz : ∀ L ∈ Ls, Small L) (hn : Ls.length ≤ 10) :
 Calls Tryz.prog 19 #[v] w (BPost (Ls.all vldP) w) := by
 obtain ⟨b, off, cap, rfl, h5⟩ := h
 have HV := i' (fun k (hk : k < Ls.length) u w' (hu : Rw w' u Ls[k]) => k'dm Ls[k] u w' hu (hz _ (List.getElem_mem hk)))
 have HT : Hid ((∀ k (hk : k < Ls.length), vldP Ls[k] = true) → Ls.all vldP = true) := fun h => k'dq h
 have HF : Hid (∀ k (hk : k < Ls.length), vldP Ls[k] = false → Ls.all vldP = false) := fun k hk h => k'dp hk h
 generalize Ls.all vldP = res at *
 obtain ⟨n, hnn⟩ : ∃ n, n = Ls.length := ⟨_, rfl⟩
 rw [← hnn] at hn ⊢
 have HN := i' hnn
 have H5 := i' h5
 clear hnn h5 hz
 go_enter Tryz.func19, Tryz.ntmps19
 go_wp2
 go_loopw [4, 7] (fun _ iv wr => ∃ (wz : World) (k : Nat), wz = wr ∧ k ≤ n ∧ iv = .int .i64 (k : Int) ∧ Hid (∀ j (hj : j < Ls.length), j < k → vldP Ls[j] = true) ∧ Hid (Below w.heap.size w wz))
  (fun _ iv _ => n - (intOf iv).toNat)
 case atStart => exact ⟨w, 0, rfl, Nat.zero_le _, rfl, fun j _ hj => absurd hj (Nat.not_lt_zero _), Below.refl _ _⟩
 case round =>
  obtain ⟨wz, k, rfl, hk, rfl, hall, hbl⟩ := hrel
  have hk0 : (0 : Int) ≤ (k : Int) := by omega
  by_cases hlt : k < n
  ·have hkl : k < Ls.length := by have h5 : n = Ls.length := HN.out; omega
   have hkk : (k : Int) < (n : Int) := by omega
   obtain ⟨u, g0, g1⟩ := H5.out k hkl
   have c0 := keep1 hbl.out g0
   have HVk := i' (HV.out k hkl u wz (g1.below hbl.out))
   have hR : Hid (vldP Ls[k] = true → ∀ j (hj : j < Ls.length), j < k + 1 → vldP Ls[j] = true) := by
    intro hs j hj hjk
    rcases Nat.lt_or_ge j k with g | g
    ·exact hall.out j hj g
    ·obtain rfl : j = k := by omega
     exact hs
   have hF := i' (HF.out k hkl)
   obtain ⟨pu, bu, ou, cu, rfl, -⟩ := g1
   generalize Ls[k].length = lu at *
   clear hall g0
   by_cases hv : vldP Ls[k] = true
   ·have HR := i' (hR.out hv)
    rw [hv] at HVk
    clear hR hF hv hkl
    go_wp2_with fail
    refine HVk.out.mono ?_
    rintro e w5 ⟨rfl, b5⟩
    have HB2 := i' (chain hbl.out b5)
    clear b5 c0
    go_wp2
    go_roundw
    case rel => exact ⟨_, k + 1, rfl, by omega, by go_num, HR.out, HB2.out⟩
    case measure => simp [intOf]; omega
   ·rw [Bool.not_eq_true] at hv
    have HFk := i' (hF.out hv)
    rw [hv] at HVk
    clear hR hF hv hkl
    go_wp2_with fail
    refine HVk.out.mono ?_
    rintro e w5 ⟨rfl, b5⟩
    have HB2 := i' (chain hbl.out b5)
    clear b5 c0
    go_wp2
    go_ret
    exact ⟨by rw [HFk.out]; rfl, HB2.out⟩
  ·have HA : Hid (res = true) := HT.out (fun j hj => hall.out j hj (by have h5 : n = Ls.length := HN.out; omega))
   obtain rfl : k = n := by omega
   clear hall
   go_wp2
   go_ret
   exact ⟨by rw [HA.out]; rfl, hbl.out⟩
def lenOK (L : List (Bool × ByteArray)) : Bool := decide (L.length ≤ 14 ∨ L.length = 26)
def shP (L : List (Bool × ByteArray)) : Bool := lenOK L && L.all (fun x => decide (x.2.size ≤ 16))
def Lim (L : List (Bool × ByteArray)) : Prop := ∀ x ∈ L, x.2.size ≤ 9223372036854775807
theorem k'ds (Ls : List (List (Bool × ByteArray))) (v : Value) (w : World) (h : Rl w v Ls) (hz : ∀ L ∈ Ls, Lim L) (hn : Ls.length ≤ 10) :
 Calls Tryz.prog 11 #[v] w (BPost (Ls.all shP) w) := by
 obtain ⟨b, off, cap, rfl, h5⟩ := h
 have HT : Hid ((∀ k (hk : k < Ls.length), shP Ls[k] = true) → Ls.all shP = true) := fun h => k'dq h
 have HF : Hid (∀ k (hk : k < Ls.length), shP Ls[k] = false → Ls.all shP = false) := fun k hk h => k'dp hk h
 have HZ := i' (fun k (hk : k < Ls.length) j (hj : j < Ls[k].length) => hz _ (List.getElem_mem hk) _ (List.getElem_mem hj))
 generalize Ls.all shP = res at *
 obtain ⟨n, hnn⟩ : ∃ n, n = Ls.length := ⟨_, rfl⟩
 rw [← hnn] at hn ⊢
 have HN := i' hnn
 have H5 := i' h5
 clear hnn h5 hz
 go_enter Tryz.func11, Tryz.ntmps11
 go_wp2
 go_loopw [4, 9] (fun _ iv wr => ∃ (wz : World) (k : Nat), wz = wr ∧ k ≤ n ∧ iv = .int .i64 (k : Int) ∧ Hid (∀ j (hj : j < Ls.length), j < k → shP Ls[j] = true) ∧ Hid (Below w.heap.size w wz))
  (fun _ iv _ => n - (intOf iv).toNat)
 case atStart => exact ⟨w, 0, rfl, Nat.zero_le _, rfl, fun j _ hj => absurd hj (Nat.not_lt_zero _), Below.refl _ _⟩
 case round =>
  obtain ⟨wz, k, rfl, hk, rfl, hall, hbl⟩ := hrel
  have hk0 : (0 : Int) ≤ (k : Int) := by omega
  by_cases hlt : k < n
  ·have hkl : k < Ls.length := by have h5 : n = Ls.length := HN.out; omega
   have hkk : (k : Int) < (n : Int) := by omega
   obtain ⟨u, g0, g1⟩ := H5.out k hkl
   have c0 := keep1 hbl.out g0
   have HZk := i' (HZ.out k hkl)
   obtain ⟨L, hL⟩ : ∃ L, L = Ls[k] := ⟨_, rfl⟩
   have hR : Hid (shP L = true → ∀ j (hj : j < Ls.length), j < k + 1 → shP Ls[j] = true) := by
    intro hs j hj hjk
    rcases Nat.lt_or_ge j k with g | g
    ·exact hall.out j hj g
    ·obtain rfl : j = k := by omega
     rw [← hL]; exact hs
   have hF := i' (HF.out k hkl)
   rw [← hL] at g1 hF HZk
   have hlen := g1.len
   obtain ⟨pu, bu, ou, cu, rfl, -, -, g4, g5⟩ := g1
   have G4 := i' g4
   have G5 := i' g5
   have HLO : Hid (shP L = true → lenOK L = true) := fun h => by unfold shP at h; rw [Bool.and_eq_true] at h; exact h.1
   have HSZ : Hid (∀ j (hj : j < L.length), ¬ L[j].2.size ≤ 16 → shP L = false) := fun j hj h => by
    unfold shP
    rw [k'd2 (p := fun x => decide (x.2.size ≤ 16)) hj (decide_eq_false h), Bool.and_false]
   have HOK : Hid (lenOK L = true → (∀ j (hj : j < L.length), L[j].2.size ≤ 16) → shP L = true) := fun h h2 => by
    unfold shP
    rw [h, k'd3 (p := fun x => decide (x.2.size ≤ 16)) fun j hj => decide_eq_true (h2 j hj)]; rfl
   obtain ⟨ll, hll⟩ : ∃ ll, ll = L.length := ⟨_, rfl⟩
   have HLL := i' hll
   rw [← hll] at hlen c0
   clear hall g0 hL g4 g5 hkl
   by_cases hlo : ll ≤ 14 ∨ ll = 26
   ·have HLo : Hid (lenOK L = true) := by show _ = _; unfold lenOK; rw [← hll]; exact decide_eq_true hlo
    have hl26 : ll ≤ 26 := by omega
    have q1 : (ll : Int) ≤ 14 ∨ (14 < (ll : Int) ∧ ((ll : Int) != 26) = false) := by
     rcases Nat.lt_or_ge 14 ll with g | g
     ·right; exact ⟨by omega, by simp; omega⟩
     ·left; omega
    clear hll hlo
    rcases q1 with q1 | ⟨q1, q2⟩
    all_goals
     go_wp2
     go_loopw [6, 23] (fun _ iv wq => ∃ (wy : World) (i : Nat), wy = wq ∧ i ≤ ll ∧ iv = .int .i64 (i : Int) ∧ Hid (∀ j (hj : j < L.length), j < i → L[j].2.size ≤ 16) ∧ Hid (Below w.heap.size w wy))
      (fun _ iv _ => ll - (intOf iv).toNat)
     case atStart => exact ⟨wz, 0, rfl, Nat.zero_le _, rfl, fun j _ hj => absurd hj (Nat.not_lt_zero _), hbl.out⟩
     case round =>
      clear hbl c0
      obtain ⟨wy, i, rfl, hi, rfl, hsm, hbw⟩ := hrel
      have hi0 : (0 : Int) ≤ (i : Int) := by omega
      by_cases hil : i < ll
      ·have hiL : i < L.length := by have h5 : ll = L.length := HLL.out; omega
       have hii : (i : Int) < (ll : Int) := by omega
       obtain rfl := G4.out (by intro e; rw [e] at hiL; exact absurd hiL (Nat.not_lt_zero _))
       have d0 := keep1 hbw.out (G5.out i hiL).1
       have d1 := keep1 hbw.out (G5.out i hiL).2
       have hsz := HZk.out i hiL
       have HSi := i' (HSZ.out i hiL)
       have HSn : Hid (L[i].2.size ≤ 16 → ∀ j (hj : j < L.length), j < i + 1 → L[j].2.size ≤ 16) := by
        intro hs j hj hjk
        rcases Nat.lt_or_ge j i with g | g
        ·exact hsm.out j hj g
        ·obtain rfl : j = i := by omega
         exact hs
       generalize L[i].1 = bb at *
       generalize L[i].2 = ss at *
       have HB2 := i' (hbw.out.alloc hbw.out.size (.cells #[.bool bb, .string ss] 44))
       clear hsm hiL
       by_cases h16 : ss.size ≤ 16
       ·have HSn := i' (HSn.out h16)
        have h16i : (ss.size : Int) ≤ 16 := by omega
        clear h16 HSi
        go_wp2
        go_roundw
        case rel => exact ⟨_, i + 1, rfl, by omega, by go_num, HSn.out, HB2.out⟩
        case measure => simp [intOf]; omega
       ·have HFi := i' (hF.out (HSi.out h16))
        have h16i : (16 : Int) < (ss.size : Int) := by omega
        clear h16 HSi HSn
        go_wp2
        go_ret
        exact ⟨by rw [HFi.out]; rfl, HB2.out⟩
      ·obtain rfl : i = ll := by omega
       have HR := i' (hR.out (HOK.out HLo.out (fun j hj => hsm.out j hj (by have h5 : i = L.length := HLL.out; omega))))
       clear hsm
       go_wp2
       go_roundw
       case rel => exact ⟨_, k + 1, rfl, by omega, by go_num, HR.out, hbw.out⟩
       case measure => simp [intOf]; omega
   ·have HFk : Hid (res = false) := hF.out (by
     cases hs : shP L with
     | false => rfl
     | true =>
      have h5 := HLO.out hs
      unfold lenOK at h5
      rw [← hll] at h5
      exact absurd (of_decide_eq_true h5) hlo)
    have q1 : (14 : Int) < (ll : Int) := by omega
    have q2 : ((ll : Int) != 26) = true := by simp; omega
    clear hll hlo
    go_wp2
    go_ret
    exact ⟨by rw [HFk.out]; rfl, hbl.out⟩
  ·have HA : Hid (res = true) := HT.out (fun j hj => hall.out j hj (by have h5 : n = Ls.length := HN.out; omega))
   obtain rfl : k = n := by omega
   clear hall
   go_wp2
   go_ret
   exact ⟨by rw [HA.out]; rfl, hbl.out⟩
theorem k'dt {L : List (Bool × ByteArray)} (h : shP L = true) : Small L := by
 intro x hx
 unfold shP at h
 rw [Bool.and_eq_true, List.all_eq_true] at h
 have := h.2 x hx
 simp only [decide_eq_true_eq] at this
 omega
theorem k'du {L : List (Bool × ByteArray)} (h : shP L = true) : ∀ x ∈ L, x.2.size ≤ 16 := by
 intro x hx
 unfold shP at h
 rw [Bool.and_eq_true, List.all_eq_true] at h
 have := h.2 x hx
 simpa only [decide_eq_true_eq] using this
def RpPost (p : List Int) (w : World) (e : Ending) (w' : World) : Prop := ∃ v, e = .returned v ∧ Rp w' v p ∧ Below w.heap.size w w'
theorem k'dx (v : Value) (xs : List Int) (w : World) (h : Rp w v xs) (ht : ∀ a ∈ xs, a.natAbs < Top) : Calls Tryz.prog 86 #[v] w (RpPost (Pl.trim xs) w) := by
 have HRP := i' h
 obtain ⟨p, b, off, cap, rfl, h2, h3, h4, h6⟩ := h.open_
 have hc := h3
 unfold maxLen at hc
 have hl : xs.length ≤ 9223372036854775807 := by omega
 have HT := i' ht
 have H4 := i' h4
 have H6 := i' h6
 have H23 := i' (And.intro h2 h3)
 clear h h2 h3 h4 h6 hc ht
 go_enter Tryz.func86, Tryz.ntmps86
 go_wp2
 go_loopw [0] (fun v wr => ∃ (wz : World) (k : Nat), wz = wr ∧ k ≤ xs.length ∧ v = .slice p k cap ∧ Hid (∀ i (h : i < xs.length), k ≤ i → xs[i] = 0) ∧ Hid (Below w.heap.size w wz)) (fun v _ => lenOf v)
 case atStart => exact ⟨w, xs.length, rfl, Nat.le_refl _, rfl, fun i h hi => absurd h (by omega), Below.refl _ _⟩
 case round =>
  obtain ⟨wz, k, rfl, hk, rfl, hz, hbl⟩ := hrel
  have hgive : ∀ n, n ≤ xs.length → Pl.trim xs = xs.take n → Rp wz (.slice p n cap) (Pl.trim xs) := by
   intro n hn e
   rw [e]
   have h1 := (Rw.take (HRP.out.below hbl.out) n hn)
   rwa [k'cj] at h1
  have HG := i' hgive
  clear hgive
  rcases Nat.eq_zero_or_pos k with h0 | h0
  ·subst h0
   have e0 : Hid (Pl.trim xs = xs.take 0) := Pl.trim_take (Nat.zero_le _) (fun i h _ => hz.out i h (Nat.zero_le _)) (by rw [List.take_zero]; exact Pl.nrm_nil)
   go_wp2
   go_ret
   exact ⟨_, rfl, HG.out 0 (Nat.zero_le _) e0.out, hbl.out⟩
  ·obtain ⟨j, rfl⟩ : ∃ j, k = j + 1 := ⟨k - 1, by omega⟩
   have hj : j < xs.length := by omega
   obtain rfl := H4.out (by intro e; rw [e] at hj; exact absurd hj (Nat.not_lt_zero _))
   have c0 := keep1 hbl.out (H6.out j hj).1
   have c1 := keep1 hbl.out (H6.out j hj).2
   have HS := i' (fun w => k'c0 xs[j] w (HT.out _ (List.getElem_mem hj)))
   have hjc : j ≤ cap := by have := H23.out.1; omega
   by_cases hv : xs[j] = 0
   ·have HV := i' hv
    rw [hv] at HS c0 c1
    have e0 : Hid ((0 : Int).sign = 0) := rfl
    rw [e0.out] at HS
    clear hv e0
    go_wp2_with fail
    refine (HS.out _).mono ?_
    rintro e w5 ⟨rfl, b5⟩
    have HB2 := i' (chain hbl.out b5)
    clear b5 c0 c1
    go_wp2
    go_roundw
    case rel =>
     refine ⟨_, j, rfl, by omega, rfl, fun i h hi => ?_, HB2⟩
     rcases Nat.lt_or_ge j i with g | g
     ·exact hz.out i h g
     ·obtain rfl : i = j := by omega
      exact HV.out
    case measure => simp [lenOf]
   ·have e0 : Hid (Pl.trim xs = xs.take (j + 1)) := Pl.trim_take hk hz.out (Pl.nrm_take_last hj hv)
    have hsg : (xs[j].sign == 0) = false := by simpa [Int.sign_eq_zero_iff_zero] using hv
    have HGV := i' (HG.out (j + 1) hk e0.out)
    clear hv
    generalize xs[j].sign = sv at *
    go_wp2_with fail
    refine (HS.out _).mono ?_
    rintro e w5 ⟨rfl, b5⟩
    have HB2 := i' (chain hbl.out b5)
    have HB3 := i' b5
    clear b5 c0 c1
    go_wp2
    go_ret
    exact ⟨_, rfl, HGV.out.below HB3.out, HB2.out⟩
theorem k'dy (c : Nat) (p : Option Addr) (n cap : Nat) (w : World) (hc : Ck w c 0) :
 Calls Tryz.prog 80 #[.pointer (some ⟨c, 0, none⟩), .slice p n cap] w (Ret (.tuple #[.slice p n cap, .int .i64 0]) w) := by
 have c0 := hc.cell
 clear hc
 go_enter Tryz.func80, Tryz.ntmps80
 go_wp2
 go_ret2
 exact ⟨rfl, Below.refl _ _⟩
theorem k'dz (c : Nat) (v : Value) (e : Int) (he : e ≠ 0) (w : World) (hc : Ck w c e) :
 Calls Tryz.prog 80 #[.pointer (some ⟨c, 0, none⟩), v] w (Ret (.tuple #[.slice none 0 0, .int .i64 e]) w) := by
 have c0 := hc.cell
 have h0 : (e == 0) = false := by simpa using he
 have h1 : (e != 0) = true := by simpa using he
 clear hc he
 go_enter Tryz.func80, Tryz.ntmps80
 go_wp2
 go_quiet (fail)
 go_wp2
 go_ret2
 exact ⟨rfl, k'ck (Below.refl _ _) _⟩
theorem k'e0 (c : Nat) (a : Bool) (s : ByteArray) (w : World) (hc : Ck w c 0) :
 Calls Tryz.prog 90 #[.pointer (some ⟨c, 0, none⟩), .agg #[.bool a, .string s]] w (Ret (.tuple #[.agg #[.bool a, .string s], .int .i64 0]) w) := by
 have hl := hc.lt
 have c0 := hc.cell
 have n1 : ¬ w.heap.size = c := by omega
 have n2 : ¬ c = w.heap.size := by omega
 have n3 : ¬ w.heap.size + 1 = c := by omega
 have n4 : ¬ c = w.heap.size + 1 := by omega
 clear hc
 go_enter Tryz.func90, Tryz.ntmps90
 go_wp2
 exact bodyPost_ret (v := .tuple #[.agg #[.bool a, .string s], .int .i64 0]) (by simp [results, Tryz.results90, go_sem]) rfl ⟨rfl, ((Below.refl _ _).alloc (Nat.le_refl _) _).alloc (by simp) _⟩
theorem k'e1 (c : Nat) (x : Int) (w : World) (hc : Ck w c 0) :
 Calls Tryz.prog 103 #[.pointer (some ⟨c, 0, none⟩), .int .i64 x] w (Ret (.tuple #[.int .i64 x, .int .i64 0]) w) := by
 have c0 := hc.cell
 clear hc
 go_enter Tryz.func103, Tryz.ntmps103
 go_wp2
 go_ret2
 exact ⟨rfl, Below.refl _ _⟩
end Go.Proofs.YtepddegphdlbeaaGreat
namespace Go.Proofs.YtepddegphdlbeaaGreat
open Go.RowKit Go.Shelf
attribute [local go_sem] Oper.semAt_some
structure Bn (c n₀ : Nat) (w w' : World) : Prop where
 os : w'.os = w.os
 tape : w'.tape = w.tape
 output : w'.output = w.output
 size : w.heap.size ≤ w'.heap.size
 block : ∀ k, k < n₀ → k ≠ c → w'.heap[k]? = w.heap[k]?
theorem Bn.refl (c n₀ : Nat) (w : World) : Bn c n₀ w w := ⟨rfl, rfl, rfl, Nat.le_refl _, fun _ _ _ => rfl⟩
theorem Bn.trans {c n₀ : Nat} {u v w : World} (h : Bn c n₀ u v) (k : Bn c n₀ v w) : Bn c n₀ u w :=
 ⟨k.os.trans h.os, k.tape.trans h.tape, k.output.trans h.output, Nat.le_trans h.size k.size, fun i hi hn => (k.block i hi hn).trans (h.block i hi hn)⟩
theorem Bn.of_but {c n₀ : Nat} {w w' : World} (h : But c w w') (hn : n₀ ≤ w.heap.size) : Bn c n₀ w w' := ⟨h.os, h.tape, h.output, h.size, fun k hk hc => h.block k (by omega) hc⟩
theorem Bn.of_below {c n₀ : Nat} {w w' : World} (h : Below n₀ w w') : Bn c n₀ w w' := ⟨h.os, h.tape, h.output, h.size, fun k hk _ => h.block k hk⟩
theorem Bn.cell {c n₀ : Nat} {w w' : World} (h : Bn c n₀ w w') {a : Addr} (hb : a.block < n₀) (hn : a.block ≠ c) : w'.cell? a = w.cell? a := World.cell?_of_block (h.block a.block hb hn)
theorem Bn.new {c n₀ : Nat} {a b : World} (h : Bn c n₀ a b) {p : Addr} (hp : n₀ ≤ p.block) (v : Value) : Bn c n₀ a (b.setCell p v) :=
 ⟨h.os, h.tape, h.output, by simpa [World.setCell] using h.size, fun k hk hn => (Below.heap_setCell _ _ _ _ (by omega)).trans (h.block k hk hn)⟩
theorem Bn.alloc {c n₀ : Nat} {a b : World} (h : Bn c n₀ a b) (hn : n₀ ≤ b.heap.size) (o : Obj) : Bn c n₀ a (b.alloc o) := h.trans (Bn.of_below ((Below.refl _ _).alloc hn o))
theorem Bn.below {c n₀ : Nat} {w w' : World} {e : Int} (h : Bn c n₀ w w') (h1 : Ck w c e) (h2 : Ck w' c e) : Below n₀ w w' :=
 ⟨h.os, h.tape, h.output, h.size, fun k hk => by
  by_cases e : k = c
  ·subst e; exact h2.trans h1.symm
  ·exact h.block k hk e⟩
theorem bn_b {c n₀ : Nat} {w : World} (hn : n₀ ≤ w.heap.size) : ∀ (W : World) (l : Nat) (o o' : Obj), w.heap.size ≤ l → W.heap[l]? = some o → o.isCells = false → o.isWalk = false → Bn c n₀ W (W.putObj l o') :=
 fun W l o o' hl h1 h2 h3 => Bn.of_below (belowK_b hn W l o o' hl h1 h2 h3)
theorem k'e2 {β : Type} {c n₀ B : Nat} {w₀ : World} (hn : n₀ ≤ w₀.heap.size) (hB : n₀ ≤ B) : OwnFrom B (fun (_ : β) W => Bn c n₀ w₀ W) :=
 fun _ W W' row hs hg hr => hs.trans ⟨hg.os, hg.tape, hg.output, hg.size, fun k hk hc => hg.block k (by have := hs.size; omega) (fun e => by have := (hr k e.symm).1; omega)⟩
structure Bk (c n₀ Bs : Nat) (w w' : World) : Prop where
 bn : Bn c n₀ w w'
 box : w'.heap[Bs]? = w.heap[Bs]?
theorem Bk.refl (c n₀ Bs : Nat) (w : World) : Bk c n₀ Bs w w := ⟨Bn.refl _ _ _, rfl⟩
theorem Bk.trans {c n₀ Bs : Nat} {u v w : World} (h : Bk c n₀ Bs u v) (k : Bk c n₀ Bs v w) : Bk c n₀ Bs u w := ⟨h.bn.trans k.bn, k.box.trans h.box⟩
theorem Bk.of_but {c n₀ Bs : Nat} {w w' : World} (h : But c w w') (hn : n₀ ≤ w.heap.size) (hB : Bs < w.heap.size) (hc : Bs ≠ c) : Bk c n₀ Bs w w' := ⟨Bn.of_but h hn, h.block Bs hB hc⟩
theorem Bk.new {c n₀ Bs : Nat} {a b : World} (h : Bk c n₀ Bs a b) {p : Addr} (hp : n₀ ≤ p.block) (hB : Bs ≠ p.block) (v : Value) : Bk c n₀ Bs a (b.setCell p v) := ⟨h.bn.new hp v, (Below.heap_setCell _ _ _ _ hB).trans h.box⟩
theorem Bk.alloc {c n₀ Bs : Nat} {a b : World} (h : Bk c n₀ Bs a b) (hn : n₀ ≤ b.heap.size) (hB : Bs < b.heap.size) (o : Obj) : Bk c n₀ Bs a (b.alloc o) := ⟨h.bn.alloc hn o, (Below.heap_alloc _ _ _ hB).trans h.box⟩
theorem bk_t {c n₀ Bs : Nat} : ∀ {A B C : World}, Bk c n₀ Bs A B → Bk c n₀ Bs B C → Bk c n₀ Bs A C := fun h k => h.trans k
theorem bk_b {c n₀ Bs : Nat} {w : World} (hn : n₀ ≤ w.heap.size) (hB : Bs < w.heap.size) : ∀ (W : World) (l : Nat) (o o' : Obj), w.heap.size ≤ l → W.heap[l]? = some o → o.isCells = false → o.isWalk = false → Bk c n₀ Bs W (W.putObj l o') :=
 fun W l o o' hl h1 h2 h3 => ⟨bn_b hn W l o o' hl h1 h2 h3, World.putObj_heap_other (by omega)⟩
def dn (n : Nat) : (k : Nat) → k ≤ n → List (Fin n)
 | 0, _ => []
 | k + 1, h => dn n k (by omega) ++ [⟨n - 1 - k, by omega⟩]
theorem k'e3 (n k : Nat) (h : k ≤ n) : (dn n k h).length = k := by
 induction k with
 | zero => rfl
 | succ k ih => simp [dn, ih]
def encw (p : List Int) (i : Fin p.length) : Array Value := #[.int .i64 (i.val : Int), Z p[i.val]]
theorem k'e4 (Kp : World → World → Prop) (hrefl : ∀ W, Kp W W) (htrans : ∀ {A B C : World}, Kp A B → Kp B C → Kp A C) (F : Fence) (n : Nat) (hf : F.fn 145) (hro : F.round = none) (hn : 1 ≤ n) (l Bs b off cap len : Nat) (a : Option Addr) (p : List Int) (hlp : len = p.length) (hlen : len ≤ 100) (ha : 0 < len → a = some ⟨b, off, none⟩) (hkeep : ∀ W W', Kp W W' → ∀ a : Addr, (a.block = Bs ∨ (0 < len ∧ a.block = b)) → W'.cell? a = W.cell? a) (J Jx : List (Fin p.length) → World → Prop)
 (hY : ∀ pre x W, J pre W → pre.length < len → YieldAt F (n - 1) Tryz.prog l (encw p x) W fun e W' =>
  (e = .returned (.bool true) ∧ J (pre ++ [x]) W' ∧ Kp W W') ∨ (e = .returned (.bool false) ∧ Jx (pre ++ [x]) W'))
 (W : World) (hBs : W.cell? ⟨Bs, 0, none⟩ = some (.slice a len cap)) (hc : ∀ j (hj : j < p.length), W.cell? ⟨b, off + j * 2, none⟩ = some (.bool (zb p[j])) ∧ W.cell? ⟨b, off + j * 2 + 1, none⟩ = some (.string (zs p[j]))) (h0 : J [] W) :
 CallsIn F n Tryz.prog 145 #[.func (.yield l) #[] #[], .pointer (some ⟨Bs, 0, none⟩)] W fun e W' => (∃ v, e = .returned v) ∧
  ((∃ ys, ys = dn p.length p.length (Nat.le_refl _) ∧ J ys W') ∨ (∃ pre, (∃ k h, pre = dn p.length k h) ∧ Jx pre W')) := by
 refine callsIn_of_wp Tryz.func145 rfl hf ?_ hro
 simp only [Tryz.ntmps145, List.size_toArray, List.length_cons, List.length_nil, Nat.reduceAdd, Nat.reduceSub, Array.replicate_succ, Array.replicate_zero, List.push_toArray, List.append_toArray, List.nil_append, List.cons_append]
 have HC := i' hc
 have HBs := i' hBs
 have HLP := i' hlp
 have HAA := i' ha
 clear hc hlp ha
 gi_wp2
 clear hBs
 gi_loopw [3] (fun i wr => ∃ (j k : Nat) (hk : k ≤ p.length), Hid (j + k = p.length) ∧ j ≤ len ∧ i = .int .i64 ((j : Int) - 1) ∧ Hid (J (dn p.length k hk) wr) ∧ Hid (Kp W wr))
  (fun i _ => (intOf i + 1).toNat)
 case atStart => exact ⟨len, 0, Nat.zero_le _, HLP.out, Nat.le_refl _, rfl, h0, hrefl _⟩
 case round =>
  obtain ⟨j, k, hk, hjk, hjl, rfl, hJs, hnx⟩ := hrel
  have hBs := (hkeep _ _ hnx.out ⟨Bs, 0, none⟩ (Or.inl rfl)).trans HBs.out
  rcases Nat.eq_zero_or_pos j with h0 | h0
  ·subst h0
   have e : k = p.length := by have := hjk.out; omega
   subst e
   gi_wp2
   go_end0
   exact ⟨⟨_, rfl⟩, .inl ⟨_, rfl, hJs.out⟩⟩
  ·obtain ⟨i, rfl⟩ : ∃ i, j = i + 1 := ⟨j - 1, by omega⟩
   have hip : i < p.length := by have := hjk.out; omega
   have hlen0 : 0 < len := by omega
   obtain rfl := HAA.out hlen0
   have c0 := (hkeep _ _ hnx.out ⟨b, off + i * 2, none⟩ (Or.inr ⟨hlen0, rfl⟩)).trans (HC.out i hip).1
   have c1 := (hkeep _ _ hnx.out ⟨b, off + i * 2 + 1, none⟩ (Or.inr ⟨hlen0, rfl⟩)).trans (HC.out i hip).2
   obtain ⟨fn, tmps, assign, body, hy, hR⟩ := hY _ ⟨i, hip⟩ wr hJs.out (by rw [k'e3]; have := HLP.out; have := hjk.out; omega)
   unfold encw at hy
   dsimp only at hy
   rw [show ((i + 1 : Nat) : Int) - 1 = (i : Int) by omega]
   have hil : i < len := by omega
   have hdn : Hid (∃ h, dn p.length k hk ++ [⟨i, hip⟩] = dn p.length (k + 1) h) := ⟨by have := hjk.out; omega, by
    have e : (⟨i, hip⟩ : Fin p.length) = ⟨p.length - 1 - k, by have := hjk.out; omega⟩ := Fin.ext (by have := hjk.out; simp only; omega)
    rw [dn, e]⟩
   obtain ⟨hk1, hdn2⟩ := hdn.out
   have HDN := i' hdn2
   clear hdn2
   gi_wp2
   refine hR.mono ?_
   rintro e W3 (⟨rfl, hJ3, hk3⟩ | ⟨rfl, hJx3⟩)
   ·rw [HDN.out] at hJ3
    have HJ3 := i' hJ3
    have HK3 := i' (htrans hnx.out hk3)
    clear hJ3 hk3 hBs
    gi_wp2
    go_roundw
    case rel => exact ⟨i, k + 1, hk1, by show _ = _; have := hjk.out; omega, by omega, rfl, HJ3.out, HK3.out⟩
    case measure => simp [intOf]
   ·rw [HDN.out] at hJx3
    have HJ3 := i' hJx3
    clear hJx3 hBs
    gi_wp2
    refine bodyPost_ret (results_none rfl _ _ _) rfl ?_
    exact ⟨⟨_, rfl⟩, .inr ⟨_, ⟨k + 1, hk1, rfl⟩, HJ3.out⟩⟩
theorem k'e5 (F : Fence) (n : Nat) (h5 : F.fn 132) (hro : F.round = none) (a : Option Addr) (len cap : Nat) (w : World) :
 CallsIn F n Tryz.prog 132 #[.slice a len cap] w fun e w' => e = .returned (.func (.func 145) #[] #[.pointer (some ⟨w.heap.size, 0, none⟩)]) ∧ w' = w.alloc (.cells #[.slice a len cap] 23) := by
 refine callsIn_of_wp Tryz.func132 rfl h5 ?_ hro
 simp only [Tryz.ntmps132, List.size_toArray, List.length_cons, List.length_nil, Nat.reduceAdd, Nat.reduceSub, Array.replicate_succ, Array.replicate_zero, List.push_toArray, List.append_toArray, List.nil_append, List.cons_append]
 gi_wp2
 go_ret
 exact ⟨rfl, rfl⟩
theorem k'e6 (Kp : World → World → Prop) (hrefl : ∀ W, Kp W W) (htrans : ∀ {A B C : World}, Kp A B → Kp B C → Kp A C) (F : Fence) (n : Nat) (hf : F.fn 145) (hro : F.round = none) (hn : 1 ≤ n) (Bs b off len cap : Nat) (a : Option Addr) (p : List Int) (hlen : p.length ≤ 100) (w : World) (hlp : len = p.length) (hBs : Bs < w.heap.size)
 (hc : w.cell? ⟨Bs, 0, none⟩ = some (.slice a len cap)) (ha : 0 < len → a = some ⟨b, off, none⟩) (hp : ∀ j (hj : j < p.length), w.cell? ⟨b, off + j * 2, none⟩ = some (.bool (zb p[j])) ∧ w.cell? ⟨b, off + j * 2 + 1, none⟩ = some (.string (zs p[j])))
 (hkeep : ∀ W W', Kp W W' → ∀ a : Addr, (a.block = Bs ∨ (0 < len ∧ a.block = b)) → W'.cell? a = W.cell? a) :
 SeqStopsK F n Tryz.prog 145 #[.pointer (some ⟨Bs, 0, none⟩)] (encw p) Kp (fun ys => ys = dn p.length p.length (Nat.le_refl _)) (fun pre => ∃ k h, pre = dn p.length k h) p.length w := fun l J Jx W hW _ _ hY h0 => by
 subst hlp
 refine k'e4 Kp hrefl htrans F n hf hro hn l Bs b off cap p.length a p rfl hlen ha hkeep J Jx hY W ((hW.cell (p := ⟨Bs, 0, none⟩) hBs).trans hc) (fun j hj => ?_) h0
 exact ⟨k'd hW (hp j hj).1, k'd hW (hp j hj).2⟩
end Go.Proofs.YtepddegphdlbeaaGreat
namespace Go.Proofs.YtepddegphdlbeaaGreat
open Go.RowKit
def Roomy (Q : Exit → Act → World → Prop) (e : Exit) (a : Act) (w : World) : Prop := e ≠ .outgrown ∧ (∀ c, e ≠ .panic c) ∧ Q e a w
theorem k'e7 {Q : Exit → Act → World → Prop} : ¬ LetsOut (Roomy Q) := fun ⟨_, _, h, _⟩ => h rfl
theorem k'e8 {n : Nat} {P : Program} {row : String} {args : Array Value} {w : World} {R : Value → World → Prop} (h : Rows P row args w R) : RowsIn Fence.wide n P row args w R :=
 fun c cs _ => let ⟨v, w', r, s⟩ := h c cs; ⟨v, w', r, stepsIn_wide.2 s⟩
theorem k'e9 {n l : Nat} {P : Program} {o : Oper} {a : Act} {K : Act → World → Prop} {Q : Exit → Act → World → Prop} {r : Result Next} (h : o.upon P a K (Roomy Q) r) : o.uponIn (Fence.wide.inRound l) n P a K Q r := by
 cases r with
 | ok nx w' =>
  cases nx with
  | value v => exact h
  | skip => exact h
  | defer d => exact h
  | enter f args =>
   refine ⟨(by intro hd; cases hd), CallsIn.inRound l (callsIn_wide.2 (Calls.mono h ?_))⟩
   intro e w'' he
   cases e with
   | returned v => exact he
   | panicked chain => exact absurd rfl (he.2.1 chain)
   | outgrown => exact absurd he k'e7
  | row row args => exact ⟨(by intro hd; cases hd), k'e8 h⟩
  | _ => exact h.elim
 | halt hh w' =>
  cases hh with
  | panic v => exact absurd rfl (h.2.1 _)
  | _ => exact h.elim
theorem k'ea {n l : Nat} {P : Program} {ops : Array Oper} {Q : Exit → Act → World → Prop} (hdef : ∀ (i : Nat) (o : Oper), ops[i]? = some o → ∀ c : Call, o.op ≠ Op.defer c) {i : Nat} {K : Act → World → Prop} {a : Act} {w : World}
 (h : wpOp P ops (Roomy Q) i K a w) : wpOpIn (Fence.wide.inRound l) n P ops Q i K a w := by
 unfold wpOp at h
 unfold wpOpIn
 cases ho : ops[i]? with
 | none => rw [ho] at h; exact h
 | some o =>
  rw [ho] at h
  simp only at h ⊢
  split
  ·next hw =>
   rw [if_pos hw] at h
   rcases h with h | ⟨_, h⟩
   ·refine ⟨fun _ _ => trivial, ?_⟩
    rw [show o.semAt (Fence.wide.inRound l).round a.eval = execOp a.eval o from Oper.semAt_some l _ _ (hdef i o ho)]
    exact k'e9 h
   ·exact absurd h k'e7
  ·next hw =>
   rw [if_neg hw] at h
   exact ⟨fun _ _ => trivial, h⟩
theorem k'eb {n l : Nat} {P : Program} {ops : Array Oper} {Q : Exit → Act → World → Prop} {S : World → Prop} {md : Region.Mode} (hdef : ∀ (i : Nat) (o : Oper), ops[i]? = some o → ∀ c : Call, o.op ≠ Op.defer c) :
 ∀ (fuel : Nat) (listed : Array Bool) (a : Act) (w : World), wpAnyH P md ops (Roomy Q) S fuel listed a w → wpAnyIn (Fence.wide.inRound l) n P md ops Q fuel listed a w
 | 0, _, _, _, h => ⟨h.1, h.2.2.2⟩
 | fuel + 1, _, _, _, h => ⟨fun e => (h.1 e).2.2, fun i hi => k'ea hdef (wpOp_mono (fun a' w' h' => k'eb hdef fuel _ a' w' h'.2) (h.2 i hi))⟩
theorem k'ec {n l id : Nat} {P : Program} {ops : Array Oper} {Q : Exit → Act → World → Prop} {S : World → Prop} {a : Act} {w : World} (hm : P.follows .mixedOrders = true) (hdef : ∀ (i : Nat) (o : Oper), ops[i]? = some o → ∀ c : Call, o.op ≠ Op.defer c) (hS : S w.drew)
 (h : S w.drew → wpAnyH P .any ops (Roomy Q) S ops.size (Array.replicate ops.size false) a w.drew) : (Code.region id ops true).wpIn (Fence.wide.inRound l) n P Q a w :=
 wpIn_region_any hm (k'eb hdef ops.size _ a _ (h hS))
theorem k'ed {Q : Exit → Act → World → Prop} {f : Act → Act} : ∀ c a w, Roomy Q (.panic c) (f a) w → Roomy Q (.panic c) a w := fun c _ _ h => absurd rfl (h.2.1 c)
theorem k'ee {Q : Exit → Act → World → Prop} {a : Act} {w : World} (h : Q .normal a w) : Roomy Q .normal a w := ⟨(by intro h; cases h), (by intro c h; cases h), h⟩
def OwnPoly (p : List Int) (w : World) (e : Ending) (w' : World) : Prop :=
 ∃ (a : Option Addr) (n cap : Nat), e = .returned (.slice a n cap) ∧ Rp w' (.slice a n cap) p ∧ (p ≠ [] → ∃ g, a = some ⟨g, 0, none⟩ ∧ w.heap.size ≤ g ∧ Aw w' g p) ∧ Below w.heap.size w w'
theorem k'ef (p : List Int) : ∀ u ∈ wv p, u.oneCell' = true := by
 intro u hu
 obtain ⟨z, _, hz⟩ := List.mem_flatMap.1 hu
 simp only [List.mem_cons, List.not_mem_nil, or_false] at hz
 rcases hz with rfl | rfl <;> rfl
theorem k'eg {w w' : World} {v : Value} {p : List Int} (h : w'.ownsRow w.heap.size 44 2 v p.length (wv p)) (hb : Below w.heap.size w w') : OwnPoly p w (.returned v) w' := by
 rcases h.2 with ⟨rfl, h0⟩ | ⟨g, cap, cur, rfl, hB, hg, hn, hm, hs, ht⟩
 ·obtain rfl := List.eq_nil_of_length_eq_zero h0
  exact ⟨none, 0, 0, rfl, Rw.nil w', fun h => absurd rfl h, hb⟩
 ·have ha : Aw w' g p := ⟨cur.toList.drop (p.length * 2), by rw [← ht, List.take_append_drop]; simpa using hg⟩
  exact ⟨_, _, _, rfl, Rp.of_whole ha _ _ rfl hn hm, fun _ => ⟨g, rfl, hB, ha⟩, hb⟩
theorem wv_at {w : World} {b off : Nat} {p : List Int} (h : ∀ k (hk : k < p.length), w.cell? ⟨b, off + k * 2, none⟩ = some (.bool (zb p[k])) ∧ w.cell? ⟨b, off + k * 2 + 1, none⟩ = some (.string (zs p[k]))) :
 ∀ j u, (wv p)[j]? = some u → w.cell? ((⟨b, off, none⟩ : Addr).add j) = some u := by
 intro j u hu
 have hadd : ((⟨b, off, none⟩ : Addr).add j) = ⟨b, off + j, none⟩ := by unfold Addr.add; split <;> simp_all
 rw [hadd]
 have hj : j < p.length * 2 := by
  rcases Nat.lt_or_ge j (p.length * 2) with g | g
  ·exact g
  ·rw [List.getElem?_eq_none (by rw [k'ce]; exact g)] at hu; cases hu
 have hk : j / 2 < p.length := by omega
 obtain ⟨g1, g2⟩ := k'cg p (j / 2) hk
 obtain ⟨h1, h2⟩ := h (j / 2) hk
 rcases Nat.mod_two_eq_zero_or_one j with e | e
 ·have e2 : j / 2 * 2 = j := by omega
  rw [e2] at g1 h1
  rw [hu] at g1
  rw [h1]; exact g1.symm
 ·have e2 : j / 2 * 2 + 1 = j := by omega
  rw [e2] at g2
  rw [Nat.add_assoc, e2] at h2
  rw [hu] at g2
  rw [h2]; exact g2.symm
theorem k'eh (p : List Int) (v : Value) (w : World) (h : Rp w v p) (hl : p.length ≤ 100) : Calls Tryz.prog 125 #[v] w (OwnPoly p w) := by
 obtain ⟨a, b, off, cap, rfl, h2, h3, h4, h5⟩ := h.open_
 have hi : (Tryz.prog.info? 44).map (fun i => (i.zero, i.size, i.bytes)) = some (some (.agg #[.bool false, .string ⟨#[]⟩]), 2, 24) := by kernel_rfl
 obtain ⟨i0, hi0, hz0, hs0, hb0⟩ := info_parts hi
 have HI := i' (And.intro hi0 (And.intro hz0 (And.intro hs0 hb0)))
 have qT : ∀ (w : World) (a : Option Addr) (n c n' c' : Nat), (binOp .eql 23 (.slice a n c) (.slice none n' c')).run Tryz.prog w = .ok (.bool a.isNone) w := fun w a n c n' c' => Lib.run_eql_slice_nil w _ _ a n c n' c' Tryz.underlying23
 have HP := i' h
 clear hi hi0 hz0 hs0 hb0 h
 cases a with
 | none =>
  obtain rfl : p = [] := by
   rcases p with _ | ⟨x, p⟩
   ·rfl
   ·exact absurd (h4 (by simp)) (by simp)
  have q2 : (none : Option Addr).isNone = true := rfl
  clear h2 h3 h4 h5
  go_enter Tryz.func125, Tryz.ntmps125
  go_wp2
  go_ret
  exact ⟨none, 0, 0, rfl, Rw.nil w, fun h => absurd rfl h, Below.refl _ _⟩
 | some ad =>
  have hat : Hid (∀ j u, (wv p)[j]? = some u → w.cell? (ad.add j) = some u) := by
   intro j u hu
   by_cases e : p = []
   ·subst e; cases hu
   ·obtain rfl := Option.some.inj (h4 e)
    exact wv_at h5 j u hu
  have q2 : (some ad).isNone = false := rfl
  clear h2 h3 h4 h5 HP
  have hown : Hid ((w.alloc (.cells #[] 44)).ownsRow w.heap.size 44 2 (.slice (some ⟨w.heap.size, 0, none⟩) 0 0) 0 []) := World.ownsRow_made w #[] 0 (Nat.le_refl _) (by simp) (by simp)
  have hat2 : Hid (∀ j u, (wv p)[j]? = some u → (w.alloc (.cells #[] 44)).cell? (ad.add j) = some u) := fun j u hu => by
   have h6 := hat.out j u hu
   exact k'd ((Below.refl _ _).alloc (Nat.le_refl _) _) h6
  go_enter Tryz.func125, Tryz.ntmps125
  go_wp2_with (at_builtin; refine wpList_append_own _ rfl _ _ 23 rfl w.heap.size 44 i0 (.agg #[.bool false, .string ⟨#[]⟩]) 2 24 Tryz.underlying23 HI.out.1 HI.out.2.1 HI.out.2.2.1 HI.out.2.2.2 rfl (by decide) _ 0 [] rfl hown.out ad p.length cap (wv p) rfl (k'ce p) hat2.out (k'ef p) ?dc3 ?dc4 ?dc5 ?_)
  case dc3 => unfold maxLen; omega
  case dc4 => omega
  case dc5 => simp
  intro v' w1 hown1 hgrow1 _
  have hbl1 : Hid (Below w.heap.size w w1) := ((Below.refl _ _).alloc (Nat.le_refl _) _).grown hgrow1 (by simp) (fun q hq => (hown.out.lt q hq).1)
  have hown2 : w1.ownsRow w.heap.size 44 2 v' p.length (wv p) := by simpa only [Nat.zero_add, List.nil_append] using hown1
  have HO := i' (k'eg hown2 hbl1.out)
  clear hown2
  clear hown1 hgrow1
  go_wp2
  go_ret
  exact HO.out
def upd (l : List Int) (s : Nat) (p : List Int) (t : Int) (k : Nat) : List Int := (List.range l.length).map fun j => if s ≤ j ∧ j < s + k then Pl.cf l j - Pl.cf p (j - s) * t else Pl.cf l j
theorem k'ei (l : List Int) (s : Nat) (p : List Int) (t : Int) (k : Nat) : (upd l s p t k).length = l.length := by simp [upd]
theorem k'ej (l : List Int) (s : Nat) (p : List Int) (t : Int) (k j : Nat) (h : j < (upd l s p t k).length) : (upd l s p t k)[j] = if s ≤ j ∧ j < s + k then Pl.cf l j - Pl.cf p (j - s) * t else Pl.cf l j := by simp [upd]
theorem k'ek (l : List Int) (s : Nat) (p : List Int) (t : Int) : upd l s p t 0 = l := by
 apply List.ext_getElem (k'ei _ _ _ _ _)
 intro j h1 h2
 rw [k'ej, if_neg (by omega), Pl.cf_lt h2]
theorem k'el (l : List Int) (s : Nat) (p : List Int) (t : Int) (k : Nat) (h : s + k < l.length) : (upd l s p t k).set (s + k) (Pl.cf l (s + k) - Pl.cf p k * t) = upd l s p t (k + 1) := by
 apply List.ext_getElem (by simp [k'ei])
 intro j h1 h2
 rw [List.getElem_set, k'ej, k'ej]
 by_cases e : s + k = j
 ·subst e
  rw [if_pos rfl, if_pos (by omega), show s + k - s = k by omega]
 ·rw [if_neg e]
  by_cases g : s ≤ j ∧ j < s + k
  ·rw [if_pos g, if_pos (by omega)]
  ·rw [if_neg g, if_neg (by omega)]
theorem Ck.drew {w : World} {c : Nat} {e : Int} (h : Ck w c e) : Ck w.drew c e := h
theorem Aw.drew {w : World} {g : Nat} {p : List Int} (h : Aw w g p) : Aw w.drew g p := h
theorem But.drew {c : Nat} {a b : World} (h : But c a b) : But c a b.drew := ⟨h.os, h.tape, h.output, h.size, h.block⟩
theorem But.setAt (c o : Nat) (w : World) (v : Value) : But c w (w.setCell ⟨c, o, none⟩ v) := ⟨rfl, rfl, rfl, by simp [World.setCell], fun k _ hn => Below.heap_setCell _ _ _ _ hn⟩
theorem But.ck {g c : Nat} {w w' : World} {e : Int} (h : But g w w') (hc : Ck w c e) (hn : c ≠ g) : Ck w' c e := (h.block c hc.lt hn).trans hc
def SubPost (g : Nat) (l : List Int) (w : World) (e : Ending) (w' : World) : Prop := (∃ v, e = .returned v) ∧ But g w w' ∧ Aw w' g l
theorem k'em (c g s n cf1 cf2 b o : Nat) (fa pa : Option Addr) (l p : List Int) (t e : Int) (w : World) (hc : Ck w c e) (hg : Aw w g l) (hn : n = p.length) (hn1 : n ≤ 100) (hs : s + n ≤ l.length) (hs1 : s ≤ 100)
 (hfa : 0 < n → fa = some ⟨g, s * 2, none⟩) (hpa : 0 < n → pa = some ⟨b, o, none⟩) (hcf : n ≤ cf1)
 (hp : ∀ k (hk : k < p.length), w.cell? ⟨b, o + k * 2, none⟩ = some (.bool (zb p[k])) ∧ w.cell? ⟨b, o + k * 2 + 1, none⟩ = some (.string (zs p[k]))) (hbg : b ≠ g)
 (ht : t.natAbs < Top) (hl : ∀ k, k < n → (Pl.cf l (s + k)).natAbs < Top) (hpt : ∀ k, k < n → (Pl.cf p k).natAbs < Top) (hm : ∀ k, k < n → (Pl.cf p k * t).natAbs < Top) (hd : ∀ k, k < n → (Pl.cf l (s + k) - Pl.cf p k * t).natAbs < Top) :
 Calls Tryz.prog 137 #[.pointer (some ⟨c, 0, none⟩), .slice fa n cf1, .slice pa n cf2, Z t] w (SubPost g (upd l s p t n) w) := by
 have HM := i' (fun k (h : k < n) w hc => k'd1 c (Pl.cf p k) t e w hc (hpt k h) ht (hm k h))
 have HS := i' (fun k (h : k < n) w hc => k'd0 c (Pl.cf l (s + k)) (Pl.cf p k * t) e w hc (hl k h) (hm k h) (hd k h))
 have hcg : c ≠ g := by rintro rfl; exact hg.ne_ck hc rfl
 have hgl := hg.lt
 obtain ⟨w0, hw0⟩ : ∃ w0 : World, w0 = w.alloc (.cells #[.bool (zb t), .string (zs t)] 44) := ⟨_, rfl⟩
 have HC0 : Hid (Ck w0 c e) := by rw [hw0]; exact hc.alloc _
 have HG0 : Hid (Aw w0 g l) := by rw [hw0]; exact hg.alloc _
 have HB0 : Hid (But g w w0) := by rw [hw0]; exact (But.refl g w).alloc _
 have HP0 : Hid (∀ k (hk : k < p.length), w0.cell? ⟨b, o + k * 2, none⟩ = some (.bool (zb p[k])) ∧ w0.cell? ⟨b, o + k * 2 + 1, none⟩ = some (.string (zs p[k]))) := by
  intro k hk
  rw [hw0]
  exact ⟨k'd ((Below.refl _ _).alloc (Nat.le_refl _) _) (hp k hk).1, k'd ((Below.refl _ _).alloc (Nat.le_refl _) _) (hp k hk).2⟩
 have HT0 : Hid (w0.cell? ⟨w.heap.size, 0, none⟩ = some (.bool (zb t)) ∧ w0.cell? ⟨w.heap.size, 1, none⟩ = some (.string (zs t))) := by rw [hw0]; exact ⟨by simp [go_sem], by simp [go_sem]⟩
 have HSz : Hid (w0.heap.size = w.heap.size + 1) := by show _ = _; rw [hw0]; simp
 have HN := i' hn
 have HSl := i' hs
 clear hc hg hp ht hl hpt hm hd hn hs
 unfold Z at HM HS ⊢
 generalize zb t = tb at *
 generalize zs t = ts at *
 go_enter Tryz.func137, Tryz.ntmps137
 go_wp2
 rw [← hw0]
 clear hw0
 go_loopw [8, 9, 12] (fun _ _ iv wr => ∃ (wz : World) (k : Nat), wz = wr ∧ k ≤ n ∧ iv = .int .i64 (k : Int) ∧ Hid (Aw wz g (upd l s p t k)) ∧ Hid (But g w0 wz))
  (fun _ _ iv _ => n - (intOf iv).toNat)
 case atStart => exact ⟨w0, 0, rfl, Nat.zero_le _, rfl, by rw [k'ek]; exact HG0.out, But.refl _ _⟩
 case round =>
  obtain ⟨wz, k, rfl, hk, rfl, haw, hbut⟩ := hrel
  by_cases hlt : k < n
  ·have hkp : k < p.length := by have h5 : n = p.length := HN.out; omega
   have hsl := HSl.out
   have hskl : s + k < (upd l s p t k).length := by rw [k'ei]; omega
   obtain rfl := hfa (by omega)
   obtain rfl := hpa (by omega)
   have hx : (upd l s p t k)[s + k] = Pl.cf l (s + k) := by rw [k'ej, if_neg (by omega)]
   have hy : p[k] = Pl.cf p k := (Pl.cf_lt hkp).symm
   have hb0 := (HP0.out k hkp).1
   rw [hy] at hb0
   have p0 := hbut.out.cell hb0 hbg
   have hb1 := (HP0.out k hkp).2
   rw [hy] at hb1
   have p1 := hbut.out.cell hb1 hbg
   have hblt := World.block_lt_of_cell? wz _ p0
   simp only at hblt
   have hglt := haw.out.lt
   have hne : w.heap.size ≠ g := by omega
   have t0 := hbut.out.cell HT0.out.1 hne
   have t1 := hbut.out.cell HT0.out.2 hne
   have htl : w.heap.size < wz.heap.size := by have h5 := hbut.out.size; have h6 : w0.heap.size = w.heap.size + 1 := HSz.out; omega
   obtain ⟨l0, l1⟩ := haw.out.cell (s + k) hskl
   rw [hx, Nat.add_mul] at l0
   rw [hx, Nat.add_mul] at l1
   have f0 := haw.out.free (s * 2 + k * 2)
   have f1 := haw.out.free (s * 2 + k * 2 + 1)
   have HMk := i' (HM.out k hlt)
   have HSk := i' (HS.out k hlt)
   have hset : Hid ((upd l s p t k).set (s + k) (Pl.cf l (s + k) - Pl.cf p k * t) = upd l s p t (k + 1)) := k'el l s p t k (by omega)
   obtain ⟨wi, hwi⟩ : ∃ wi : World, wi = wz.alloc (.cells #[.bool (zb (Pl.cf p k)), .string (zs (Pl.cf p k))] 44) := ⟨_, rfl⟩
   have hAi : Hid (Aw wi g (upd l s p t k)) := by rw [hwi]; exact haw.out.alloc _
   have hBi : Hid (But g w0 wi) := by rw [hwi]; exact hbut.out.alloc _
   have hCi : Hid (Ck wi c e) := (hBi.out.ck HC0.out hcg)
   have a0 : wi.cell? ⟨wz.heap.size, 0, none⟩ = some (.bool (zb (Pl.cf p k))) := by rw [hwi]; simp [go_sem]
   have a1 : wi.cell? ⟨wz.heap.size, 1, none⟩ = some (.string (zs (Pl.cf p k))) := by rw [hwi]; simp [go_sem]
   have i0 : wi.cell? ⟨g, s * 2 + k * 2, none⟩ = some (.bool (zb (Pl.cf l (s + k)))) := by rw [hwi]; exact k'd ((Below.refl _ _).alloc (Nat.le_refl _) _) l0
   have i1 : wi.cell? ⟨g, s * 2 + k * 2 + 1, none⟩ = some (.string (zs (Pl.cf l (s + k)))) := by rw [hwi]; exact k'd ((Below.refl _ _).alloc (Nat.le_refl _) _) l1
   have j0 : wi.cell? ⟨w.heap.size, 0, none⟩ = some (.bool tb) := by rw [hwi]; exact k'd ((Below.refl _ _).alloc (Nat.le_refl _) _) t0
   have j1 : wi.cell? ⟨w.heap.size, 1, none⟩ = some (.string ts) := by rw [hwi]; exact k'd ((Below.refl _ _).alloc (Nat.le_refl _) _) t1
   have g0 := hAi.out.free (s * 2 + k * 2)
   have g1 := hAi.out.free (s * 2 + k * 2 + 1)
   have u1 : ¬ b = wz.heap.size := by omega
   have u2 : ¬ wz.heap.size = b := by omega
   have x0 : (0 : Int) ≤ (k : Int) := by omega
   have x1 : (k : Int) < (n : Int) := by omega
   have HL2 := i' hskl
   have HII := i' (And.intro i0 (And.intro i1 (And.intro a0 (And.intro a1 (And.intro j0 (And.intro j1 (And.intro g0 g1)))))))
   clear hx hy hb0 hb1 hskl hkp hsl l0 l1 t0 t1 f0 f1 i0 i1 a0 a1 j0 j1 g0 g1 haw hbut
   generalize Pl.cf l (s + k) - Pl.cf p k * t = d at *
   generalize Pl.cf p k * t = m at *
   generalize Pl.cf l (s + k) = x at *
   generalize Pl.cf p k = y at *
   generalize zb y = yb at *
   generalize zs y = ys at *
   generalize zb x = xb at *
   generalize zs x = xs at *
   generalize zb m = mb at *
   generalize zs m = ms at *
   go_upto_region 4 with (fail)
   rw [← hwi]
   clear hwi
   have k0 := HII.out.1
   have k1 := HII.out.2.1
   have k2 := HII.out.2.2.1
   have k3 := HII.out.2.2.2.1
   have k4 := HII.out.2.2.2.2.1
   have k5 := HII.out.2.2.2.2.2.1
   have k6 := HII.out.2.2.2.2.2.2.1
   have k7 := HII.out.2.2.2.2.2.2.2
   have y0 : (0 : Int) ≤ (s : Int) := by omega
   go_region_with
    (first
     | (go_at_call 89; (with_reducible refine (HMk.out _ (by exact hCi.out.drew)).mono ?_); rintro e w5 ⟨rfl, b5⟩; have c5 := chain ((Below.refl _ _).drew) b5; have p0 := keep1 c5 k0; have p1 := keep1 c5 k1; have p2 := keep1 c5 k2; have p3 := keep1 c5 k3; have p4 := keep1 c5 k4; have p5 := keep1 c5 k5; have p6 := keepf c5 k0 k6; have p7 := keepf c5 k1 k7; have G1 := i' c5; clear b5 c5)
     | (go_at_call 79; (with_reducible refine (HSk.out _ (by exact hCi.out.below G1.out)).mono ?_); rintro e w6 ⟨rfl, b6⟩; have c6 := chain G1.out b6; have p0 := keep1 c6 k0; have p1 := keep1 c6 k1; have p2 := keep1 c6 k2; have p3 := keep1 c6 k3; have p4 := keep1 c6 k4; have p5 := keep1 c6 k5; have p6 := keepf c6 k0 k6; have p7 := keepf c6 k1 k7; have G2 := i' c6; clear b6 c6))
   all_goals
    have HA5 := i' (hAi.out.below G2.out)
    have HA6 := HA5.out.set (s + k) HL2.out d
    rw [hset.out, Nat.add_mul] at HA6
    have HA7 := i' HA6
    have HB7 := i' (((hBi.out.trans (But.of_below G2.out)).trans (But.setAt g (s * 2 + k * 2) w6 (.bool (zb d)))).trans (But.setAt g (s * 2 + k * 2 + 1) _ (.string (zs d))))
    clear HA6 HA5 HII
    go_wp2
    go_roundw
    case rel => exact ⟨_, k + 1, rfl, by omega, by go_num, HA7.out, HB7.out⟩
    case measure => simp [intOf]; omega
  ·obtain rfl : k = n := by omega
   go_wp2
   go_end0
   exact ⟨⟨_, rfl⟩, HB0.out.trans hbut.out, haw.out⟩
theorem But.lowC {c B : Nat} {w w' : World} (h : But c w w') (hB : B ≤ c) (hc : c < w.heap.size) : Below B w w' := ⟨h.os, h.tape, h.output, h.size, fun k hk => h.block k (by omega) (by omega)⟩
def mulL (r : List Int) (j : Nat) (a : Int) (i : Nat) : List Int := (List.range j).map fun k => if k < i then Pl.cf r k * a else Pl.cf r k
theorem k'en (r : List Int) (j : Nat) (a : Int) (i : Nat) : (mulL r j a i).length = j := by simp [mulL]
theorem k'eo (r : List Int) (j : Nat) (a : Int) (i k : Nat) (h : k < (mulL r j a i).length) : (mulL r j a i)[k] = if k < i then Pl.cf r k * a else Pl.cf r k := by simp [mulL]
theorem k'ep (r : List Int) (j : Nat) (a : Int) (i k : Nat) (h : k < j) : Pl.cf (mulL r j a i) k = if k < i then Pl.cf r k * a else Pl.cf r k := by
 rw [Pl.cf_lt (by rw [k'en]; exact h), k'eo]
theorem k'eq (r : List Int) (j : Nat) (a : Int) (h : j ≤ r.length) : mulL r j a 0 = r.take j := by
 apply List.ext_getElem (by rw [k'en]; simp; omega)
 intro k h1 h2
 rw [k'eo, if_neg (by omega), Pl.cf_lt (by rw [k'en] at h1; omega)]; simp
theorem k'er (r : List Int) (j : Nat) (a : Int) (i : Nat) : (mulL r j a i).set i (Pl.cf r i * a) = mulL r j a (i + 1) := by
 apply List.ext_getElem (by simp [mulL])
 intro k h1 h2
 rw [List.getElem_set, k'eo, k'eo]
 by_cases e : i = k
 ·subst e; rw [if_pos rfl, if_pos (by omega)]
 ·rw [if_neg e]
  by_cases g : k < i
  ·rw [if_pos g, if_pos (by omega)]
  ·rw [if_neg g, if_neg (by omega)]
theorem k'es (r q : List Int) (last : Nat) (hq : q.length = last + 1) (hr : q.length ≤ r.length) :
 upd (mulL r (r.length - 1) (Pl.lead q) (r.length - 1)) (r.length - 1 - last) (q.take last) (Pl.lead r) last = Pl.step (Pl.lead q) (Pl.lead r) q r := by
 apply List.ext_getElem (by rw [k'ei, k'en, Pl.step_length])
 intro k h1 h2
 have hk : k < r.length - 1 := by rw [k'ei, k'en] at h1; exact h1
 rw [k'ej, k'ep _ _ _ _ _ hk, if_pos hk, ← Pl.cf_lt h2, Pl.cf_step, if_pos hk]
 have e : r.length - q.length = r.length - 1 - last := by omega
 rw [e]
 by_cases g : r.length - 1 - last ≤ k
 ·rw [if_pos ⟨g, by omega⟩, if_pos g]
  have e2 : Pl.cf (q.take last) (k - (r.length - 1 - last)) = Pl.cf q (k - (r.length - 1 - last)) := by
   rw [Pl.cf_lt (by simp; omega), Pl.cf_lt (by omega)]; simp
  rw [e2, Int.mul_comm (Pl.cf r k), Int.mul_comm (Pl.lead r)]
 ·rw [if_neg (by omega), if_neg g, Int.mul_comm]; omega
structure RInv (p q r : List Int) : Prop where
 prem : Pl.prem q (r.length + 1 - q.length) r = Pl.prem q (p.length + 1 - q.length) p
 size : (2 * Pl.mx q) ^ (r.length + 1 - q.length) * Pl.mx r ≤ (2 * Pl.mx q) ^ (p.length + 1 - q.length) * Pl.mx p
theorem k'et (q r : List Int) : Pl.mx (Pl.step (Pl.lead q) (Pl.lead r) q r) ≤ 2 * Pl.mx q * Pl.mx r := by
 refine Nat.le_trans (Pl.mx_step _ _ _ _) ?_
 have h1 : (Pl.lead q).natAbs * Pl.mx r ≤ Pl.mx q * Pl.mx r := Nat.mul_le_mul_right _ (Pl.mx_cf q _)
 have h2 : (Pl.lead r).natAbs * Pl.mx q ≤ Pl.mx r * Pl.mx q := Nat.mul_le_mul_right _ (Pl.mx_cf r _)
 rw [Nat.mul_comm (Pl.mx r)] at h2
 rw [Nat.mul_assoc]; omega
theorem RInv.step {p q r : List Int} (h : RInv p q r) (hq : 0 < q.length) (hl : q.length ≤ r.length) : RInv p q (Pl.step (Pl.lead q) (Pl.lead r) q r) := by
 have e : r.length + 1 - q.length = (r.length - 1 + 1 - q.length) + 1 := by omega
 refine ⟨?_, ?_⟩
 ·rw [← h.prem, e, Pl.prem, Pl.step_length]
 ·refine Nat.le_trans ?_ h.size
  rw [e, Nat.pow_succ, Nat.mul_assoc, Pl.step_length]
  exact Nat.mul_le_mul_left _ (k'et q r)
theorem RInv.top {p q r : List Int} (h : RInv p q r) (hq : 1 ≤ Pl.mx q) (hl : q.length ≤ r.length) (hB : (2 * Pl.mx q) ^ (p.length + 1 - q.length) * Pl.mx p < Top) : 2 * Pl.mx q * Pl.mx r < Top := by
 refine Nat.lt_of_le_of_lt ?_ (Nat.lt_of_le_of_lt h.size hB)
 apply Nat.mul_le_mul_right
 have e : r.length + 1 - q.length = (r.length - q.length) + 1 := by omega
 rw [e, Nat.pow_succ]
 have := Nat.pow_pos (n := r.length - q.length) (show 0 < 2 * Pl.mx q by omega)
 exact Nat.le_mul_of_pos_left _ this
theorem k'eu {q r : List Int} (hq : 1 ≤ Pl.mx q) (h : 2 * Pl.mx q * Pl.mx r < Top) (i j : Nat) : (Pl.cf r i).natAbs < Top ∧ (Pl.cf r i * Pl.cf q j).natAbs < Top := by
 have h1 := Pl.mx_cf r i
 have h2 := Pl.mx_cf q j
 have h3 : Pl.mx r ≤ Pl.mx q * Pl.mx r := Nat.le_mul_of_pos_left _ hq
 have h4 : (Pl.cf r i * Pl.cf q j).natAbs ≤ Pl.mx q * Pl.mx r := by rw [Int.natAbs_mul, Nat.mul_comm]; exact Nat.mul_le_mul h2 h1
 rw [Nat.mul_assoc] at h
 omega
theorem k'ev (c : Nat) (p q : List Int) (v1 v2 : Value) (e : Int) (w : World) (h1 : Rp w v1 p) (h2 : Rp w v2 q) (hc : Ck w c e) (hl1 : p.length ≤ 50) (hl2 : q.length ≤ 50)
 (ht1 : ∀ a ∈ p, a.natAbs < Top) (hlt : p.length < q.length) :
 Calls Tryz.prog 110 #[.pointer (some ⟨c, 0, none⟩), v1, v2] w (RpPost (Pl.rest p q) w) := by
 have HCl := i' (k'eh p v1 w h1 (by omega))
 have HDg := i' (fun w' (hb : Below w.heap.size w w') => k'da (zl q) v2 w' (h2.below hb))
 have HTr := i' (fun v w' hr => k'dx v p w' hr ht1)
 have HE : Hid (Pl.trim p = Pl.rest p q) := by
  show _ = _
  unfold Pl.rest
  rw [show p.length + 1 - q.length = 0 by omega]; rfl
 obtain ⟨a1, b1, o1, c1, rfl, _⟩ := h1.open_
 obtain ⟨a2, b2, o2, c2, rfl, _⟩ := h2.open_
 rw [k'cc] at HDg
 obtain ⟨n1, hn1⟩ : ∃ n, n = p.length := ⟨_, rfl⟩
 obtain ⟨n2, hn2⟩ : ∃ n, n = q.length := ⟨_, rfl⟩
 rw [← hn1] at hl1 hlt HCl ⊢
 rw [← hn2] at hl2 hlt HDg ⊢
 have HN1 := i' hn1
 clear h1 h2 hc ht1 hn1 hn2
 go_enter Tryz.func110, Tryz.ntmps110
 go_wp2_with fail
 refine HCl.out.mono ?_
 rintro en w1 ⟨a3, n3, c3, rfl, hr1, -, hb1⟩
 obtain rfl : n3 = n1 := by
  obtain ⟨_, _, _, _, e1, _⟩ := hr1.open_
  injection e1 with _ e2 _
  exact e2.trans HN1.out.symm
 have HR1 := i' hr1
 have HB1 := i' hb1
 clear hr1 hb1
 go_wp2_with fail
 refine (HDg.out _ HB1.out).mono ?_
 rintro en w2 ⟨rfl, hb2⟩
 have HR2 := i' (HR1.out.below hb2)
 have HB2 := i' (chain HB1.out hb2)
 clear hb2
 go_wp2
 go_loop [7] (fun v => v = .slice a3 n3 c3) (fun _ => 0)
 case atStart => rfl
 case round =>
  obtain rfl := hrel
  have hle : ¬ ((n2 : Int) - 1 < (n3 : Int)) := by omega
  go_wp2_with fail
  refine (HTr.out _ _ HR2.out).mono ?_
  rintro en w3 ⟨v3, rfl, hr3, hb3⟩
  have HR3 := i' hr3
  have HB3 := i' (chain HB2.out hb3)
  clear hr3 hb3
  go_wp2
  go_ret
  exact ⟨v3, rfl, by rw [← HE.out]; exact HR3.out, HB3.out⟩
theorem k'ew (w : World) (a : Addr) : w.drew.cell? a = w.cell? a := rfl
theorem k'ex (c : Nat) (p q : List Int) (v1 v2 : Value) (e : Int) (w : World) (h1 : Rp w v1 p) (h2 : Rp w v2 q) (hc : Ck w c e) (hl1 : p.length ≤ 50) (hl2 : q.length ≤ 50)
 (hq0 : q ≠ []) (hq1 : 1 ≤ Pl.mx q) (hlt : q.length ≤ p.length) (ht2 : ∀ a ∈ q, a.natAbs < Top) (hB : (2 * Pl.mx q) ^ (p.length + 1 - q.length) * Pl.mx p < Top) :
 Calls Tryz.prog 110 #[.pointer (some ⟨c, 0, none⟩), v1, v2] w (RpPost (Pl.rest p q) w) := by
 have HCl := i' (k'eh p v1 w h1 (by omega))
 have HDg := i' (fun w' (hb : Below w.heap.size w w') => k'da (zl q) v2 w' (h2.below hb))
 have hql := List.length_pos_iff.2 hq0
 obtain ⟨a1, b1, o1, c1, rfl, _⟩ := h1.open_
 obtain ⟨a2, b2, o2, c2, rfl, h22, h23, h24, h25⟩ := h2.open_
 obtain rfl := h24 hq0
 have H25 := i' h25
 have HC := i' hc
 have hcl := hc.lt
 have HT2 := i' ht2
 have HQ1 := i' hq1
 have HB := i' hB
 have hp0 : p ≠ [] := by intro e0; rw [e0] at hlt; simp at hlt; exact hq0 hlt
 have HP0 := i' hp0
 rw [k'cc] at HDg
 obtain ⟨n1, hn1⟩ : ∃ n, n = p.length := ⟨_, rfl⟩
 obtain ⟨m, hm⟩ : ∃ m, q.length = m + 1 := ⟨q.length - 1, by omega⟩
 have hmc : m ≤ c2 := by omega
 rw [← hn1] at hl1 hlt HCl ⊢
 obtain ⟨n2, hn2⟩ : ∃ n, n = q.length := ⟨_, rfl⟩
 have hmn : m < n2 := by omega
 have hmn2 : (n2 : Int) - 1 = (m : Int) := by omega
 have HMN := i' hmn2
 rw [← hn2] at hl2 hlt HDg ⊢
 have HN1 := i' hn1
 have HM := i' hm
 have hmk0 : m ≤ n1 := by omega
 clear h1 h2 h22 h23 h24 h25 hc ht2 hq1 hB hn1 hn2 hm hp0 hq0 hql hmn2
 go_enter Tryz.func110, Tryz.ntmps110
 go_wp2_with fail
 refine HCl.out.mono ?_
 rintro en w1 ⟨a3, n3, c3, rfl, hr1, ho1, hb1⟩
 obtain rfl : n3 = n1 := by
  obtain ⟨_, _, _, _, e1, _⟩ := hr1.open_
  injection e1 with _ e2 _
  exact e2.trans HN1.out.symm
 obtain ⟨g, rfl, hg, haw⟩ := ho1 HP0.out
 have hcap : n3 ≤ c3 ∧ c3 ≤ maxLen := by
  obtain ⟨_, _, _, _, e1, e2, e3, _⟩ := hr1.open_
  injection e1 with _ e4 e5
  subst e4 e5
  exact ⟨e2, e3⟩
 obtain ⟨hc1, hc2⟩ := hcap
 unfold maxLen at hc2
 have HB1 := i' hb1
 have HA1 := i' haw
 have hgs := hg
 clear hr1 ho1 hb1 haw
 go_wp2_with fail
 refine (HDg.out _ HB1.out).mono ?_
 rintro en w2 ⟨rfl, hb2⟩
 have HA2 := i' (HA1.out.below hb2)
 have HB2 := i' (chain HB1.out hb2)
 clear hb2
 rw [HMN.out]
 go_wp2
 go_loopw [7] (fun rv wr => ∃ (wz : World) (k : Nat) (r : List Int), wz = wr ∧ k ≤ n3 ∧ m ≤ k ∧ rv = .slice (some ⟨g, 0, none⟩) k c3 ∧ Hid (r.length = k) ∧ Hid (RInv p q r) ∧ Hid (Aw wz g r) ∧ Hid (Below w.heap.size w wz))
  (fun rv _ => lenOf rv)
 case atStart => exact ⟨w2, n3, p, rfl, Nat.le_refl _, by omega, rfl, HN1.out.symm, ⟨rfl, Nat.le_refl _⟩, HA2.out, HB2.out⟩
 case round =>
  clear HA1 HA2 HB1 HB2
  obtain ⟨wz, k, r, rfl, hk, hmk, rfl, hrl, hinv, haw, hbl⟩ := hrel
  by_cases hlt2 : m < k
  ·obtain ⟨j, rfl⟩ : ∃ j, k = j + 1 := ⟨k - 1, by omega⟩
   have hjr : j < r.length := by have h5 : r.length = j + 1 := hrl.out; omega
   have hmq : m < q.length := by have h5 : q.length = m + 1 := HM.out; omega
   have hqr : q.length ≤ r.length := by have h5 : q.length = m + 1 := HM.out; have h6 : r.length = j + 1 := hrl.out; omega
   have HTop := i' (hinv.out.top HQ1.out hqr HB.out)
   have hlead : Hid (Pl.cf r j = Pl.lead r) := by show _ = _; unfold Pl.lead; rw [hrl.out]; rfl
   have hleadq : Hid (Pl.cf q m = Pl.lead q) := by show _ = _; unfold Pl.lead; rw [HM.out]; rfl
   obtain ⟨t0, t1⟩ := haw.out.cell j hjr
   rw [← Pl.cf_lt hjr, hlead.out] at t0 t1
   have hgl := haw.out.lt
   have u1 : ¬ g = wz.heap.size := by omega
   have u2 : ¬ wz.heap.size = g := by omega
   have HM2 := i' (fun i (hi : i < j) w hc => k'd1 c (Pl.cf r i) (Pl.lead q) e w hc (k'eu (q := q) HQ1.out HTop.out i 0).1 (by rw [← hleadq.out, Pl.cf_lt hmq]; exact HT2.out _ (List.getElem_mem hmq)) (by rw [← hleadq.out]; exact (k'eu HQ1.out HTop.out i m).2))
   obtain ⟨w3, hw3⟩ : ∃ w3 : World, w3 = wz.alloc (.cells #[.bool (zb (Pl.lead r)), .string (zs (Pl.lead r))] 44) := ⟨_, rfl⟩
   have HA3 : Hid (Aw w3 g (mulL r j (Pl.lead q) 0)) := by rw [hw3, k'eq _ _ _ (by omega)]; exact (haw.out.alloc _).take j
   have HB3 : Hid (Below w.heap.size w w3) := by rw [hw3]; exact hbl.out.alloc hbl.out.size _
   have HX3 : Hid (w3.cell? ⟨wz.heap.size, 0, none⟩ = some (.bool (zb (Pl.lead r))) ∧ w3.cell? ⟨wz.heap.size, 1, none⟩ = some (.string (zs (Pl.lead r)))) := by rw [hw3]; exact ⟨by simp [go_sem], by simp [go_sem]⟩
   have HS3 : Hid (w3.heap.size = wz.heap.size + 1) := by show _ = _; rw [hw3]; simp
   have hq0c := (H25.out m hmq).1
   have hq1c := (H25.out m hmq).2
   rw [← Pl.cf_lt hmq, hleadq.out] at hq0c hq1c
   have hb2 := World.block_lt_of_cell? w _ hq0c
   simp only at hb2
   have HQC := i' (And.intro hq0c hq1c)
   have hjc : j ≤ c3 := by omega
   have HL1 := i' hjr
   have HL2 := i' hmq
   have HL3 := i' hqr
   clear haw hbl hq0c hq1c hjr hmq hqr
   have hd0 : decide ((m : Int) < (j : Int) + 1) = true := by rw [decide_eq_true_eq]; omega
   go_wp2
   rw [← hw3]
   clear hw3 t0 t1
   go_loopw [33] (fun iv wq => ∃ (wy : World) (i : Nat), wy = wq ∧ i ≤ j ∧ iv = .int .i64 (i : Int) ∧ Hid (Aw wy g (mulL r j (Pl.lead q) i)) ∧ Hid (But g w3 wy))
    (fun iv _ => j - (intOf iv).toNat)
   case atStart => exact ⟨w3, 0, rfl, Nat.zero_le _, rfl, HA3.out, But.refl _ _⟩
   case round =>
    obtain ⟨wy, i, rfl, hi, rfl, haw, hbut⟩ := hrel
    have hgl3 := HA3.out.lt
    have hbl2 := HB3.out.trans (hbut.out.lowC hg hgl3)
    have hzy : wz.heap.size < wy.heap.size := by have h5 := hbut.out.size; have h6 : w3.heap.size = wz.heap.size + 1 := HS3.out; omega
    by_cases hlt3 : i < j
    ·have hij : i < (mulL r j (Pl.lead q) i).length := by rw [k'en]; exact hlt3
     have hx : (mulL r j (Pl.lead q) i)[i] = Pl.cf r i := by rw [k'eo, if_neg (by omega)]
     obtain ⟨l0, l1⟩ := haw.out.cell i hij
     rw [hx] at l0 l1
     have hgy := haw.out.lt
     have u3 : ¬ g = wy.heap.size := by omega
     have u4 : ¬ wy.heap.size = g := by omega
     have u5 : ¬ b2 = wy.heap.size := by omega
     have u6 : ¬ wy.heap.size = b2 := by omega
     have u7 : ¬ b2 = g := by omega
     have u8 : ¬ g = b2 := by omega
     have HMk := i' (HM2.out i hlt3)
     have hset : Hid ((mulL r j (Pl.lead q) i).set i (Pl.cf r i * Pl.lead q) = mulL r j (Pl.lead q) (i + 1)) := k'er r j _ i
     obtain ⟨wi, hwi⟩ : ∃ wi : World, wi = wy.alloc (.cells #[.bool (zb (Pl.cf r i)), .string (zs (Pl.cf r i))] 44) := ⟨_, rfl⟩
     have hAi : Hid (Aw wi g (mulL r j (Pl.lead q) i)) := by rw [hwi]; exact haw.out.alloc _
     have hBi : Hid (But g w3 wi) := by rw [hwi]; exact hbut.out.alloc _
     have hBl : Hid (Below w.heap.size w wi) := by rw [hwi]; exact hbl2.alloc hbl2.size _
     have hCi : Hid (Ck wi c e) := HC.out.below hBl.out
     have a0 : wi.cell? ⟨wy.heap.size, 0, none⟩ = some (.bool (zb (Pl.cf r i))) := by rw [hwi]; simp [go_sem]
     have a1 : wi.cell? ⟨wy.heap.size, 1, none⟩ = some (.string (zs (Pl.cf r i))) := by rw [hwi]; simp [go_sem]
     have k2 := keep1 hBl.out HQC.out.1
     have k3 := keep1 hBl.out HQC.out.2
     obtain ⟨i0, i1⟩ := hAi.out.cell i hij
     have g0 := hAi.out.free (i * 2)
     have g1 := hAi.out.free (i * 2 + 1)
     have x0 : (0 : Int) ≤ (i : Int) := by omega
     have x1 : (i : Int) < (j : Int) := by omega
     have x2 : (0 : Int) ≤ (m : Int) := by omega
     have x3 : (m : Int) < (n2 : Int) := by omega
     rw [hx] at i0 i1
     have HL4 := i' hij
     have HII := i' (And.intro i0 (And.intro i1 (And.intro a0 (And.intro a1 (And.intro k2 (And.intro k3 (And.intro g0 g1)))))))
     clear hx hij i0 i1 a0 a1 k2 k3 g0 g1 haw hbut hbl2
     generalize Pl.cf r i * Pl.lead q = d at *
     generalize Pl.cf r i = x at *
     unfold Z at HMk
     generalize zb x = xb at *
     generalize zs x = xs at *
     go_upto_region 8 with (fail)
     rw [← hwi]
     clear hwi
     have k0 := HII.out.1
     have k1 := HII.out.2.1
     have k2 := HII.out.2.2.1
     have k3 := HII.out.2.2.2.1
     have k4 := HII.out.2.2.2.2.1
     have k5 := HII.out.2.2.2.2.2.1
     have k6 := HII.out.2.2.2.2.2.2.1
     have k7 := HII.out.2.2.2.2.2.2.2
     go_region_held3 (fun W' => W'.cell? ⟨wy.heap.size, 0, none⟩ = some (.bool xb) ∧ W'.cell? ⟨wy.heap.size, 1, none⟩ = some (.string xs) ∧ W'.cell? ⟨b2, o2 + m * 2, none⟩ = some (.bool (zb (Pl.lead q))) ∧ W'.cell? ⟨b2, o2 + m * 2 + 1, none⟩ = some (.string (zs (Pl.lead q)))) (go_keep)
      (first
       | (go_at_call 89; (with_reducible refine (HMk.out _ (by exact hCi.out.drew)).mono ?_); rintro e w5 ⟨rfl, b5⟩; have c5 := chain ((Below.refl _ _).drew) b5; have p0 := keep1 c5 k0; have p1 := keep1 c5 k1; have p2 := keep1 c5 k2; have p3 := keep1 c5 k3; have p4 := keep1 c5 k4; have p5 := keep1 c5 k5; have p6 := keepf c5 k0 k6; have p7 := keepf c5 k1 k7; have G1 := i' c5; clear b5 c5))
     have HA5 := i' (hAi.out.below G1.out)
     have HA6 := HA5.out.set i HL4.out d
     rw [hset.out] at HA6
     have HA7 := i' HA6
     have HB7 := i' (((hBi.out.trans (But.of_below G1.out)).trans (But.setAt g (i * 2) w5 (.bool (zb d)))).trans (But.setAt g (i * 2 + 1) _ (.string (zs d))))
     clear HA6 HA5 HII
     go_wp2
     go_roundw
     case rel => exact ⟨_, i + 1, rfl, by omega, by go_num, HA7.out, HB7.out⟩
     case measure => simp [intOf]; omega
    ·obtain rfl : i = j := by omega
     obtain ⟨s, hs⟩ : ∃ s, s = i - m := ⟨_, rfl⟩
     have hgw := haw.out.lt
     have HA4 := i' haw.out
     have HBt := i' hbut.out
     have HBl := i' hbl2
     have hqr := HL3.out
     have hrl2 : r.length = i + 1 := hrl.out
     have hmq2 : q.length = m + 1 := HM.out
     have HS2 := i' (fun k => k'eu (q := q) HQ1.out HTop.out k m)
     have hmxs : ∀ k, (Pl.cf (mulL r i (Pl.lead q) i) k).natAbs ≤ Pl.mx q * Pl.mx r := by
      intro k
      by_cases hk2 : k < i
      ·rw [k'ep _ _ _ _ _ hk2, if_pos hk2, Int.natAbs_mul, Nat.mul_comm]
       exact Nat.mul_le_mul (Pl.mx_cf q _) (Pl.mx_cf r _)
      ·rw [Pl.cf_ge (by rw [k'en]; omega)]; simp
     have hmxm : ∀ k, (Pl.cf (q.take m) k * Pl.lead r).natAbs ≤ Pl.mx q * Pl.mx r := by
      intro k
      rw [Int.natAbs_mul]
      refine Nat.mul_le_mul ?_ (Pl.mx_cf r _)
      by_cases hk2 : k < m
      ·rw [Pl.cf_lt (by simp; omega), List.getElem_take, ← Pl.cf_lt (by omega)]
       exact Pl.mx_cf q k
      ·rw [Pl.cf_ge (by simp; omega)]; simp
     have htop := HTop.out
     rw [Nat.mul_assoc] at htop
     have HSub := i' (fun wv hcv hgv (hp : ∀ k (hk : k < (q.take m).length), wv.cell? ⟨b2, o2 + k * 2, none⟩ = some (.bool (zb (q.take m)[k])) ∧ wv.cell? ⟨b2, o2 + k * 2 + 1, none⟩ = some (.string (zs (q.take m)[k]))) =>
      k'em c g s m (c3 - s) c2 b2 o2 (some ⟨g, s * 2, none⟩) (some ⟨b2, o2, none⟩) (mulL r i (Pl.lead q) i) (q.take m) (Pl.lead r) e wv hcv hgv (by simp; omega) (by omega) (by rw [k'en]; omega) (by omega) (fun _ => rfl) (fun _ => rfl) (by omega)
      hp (by omega) (HS2.out _).1 (fun k _ => Nat.lt_of_le_of_lt (hmxs _) (by omega)) (fun k hk2 => by rw [Pl.cf_lt (by simp; omega), List.getElem_take]; exact HT2.out _ (List.getElem_mem _)) (fun k _ => Nat.lt_of_le_of_lt (hmxm _) (by omega)) (fun k _ => by have h5 := hmxs (s + k); have h6 := hmxm k; omega))
     have hups := k'es r q m HM.out hqr
     rw [hrl2, Nat.add_sub_cancel, ← hs] at hups
     rw [hups] at HSub
     have HCy : Hid (Ck wy c e) := HC.out.below hbl2
     have HQy : Hid (∀ k (hk : k < (q.take m).length), wy.cell? ⟨b2, o2 + k * 2, none⟩ = some (.bool (zb (q.take m)[k])) ∧ wy.cell? ⟨b2, o2 + k * 2 + 1, none⟩ = some (.string (zs (q.take m)[k]))) := by
      intro k hk2
      have hk3 : k < q.length := by simp at hk2; omega
      have h5 := H25.out k hk3
      rw [List.getElem_take]
      exact ⟨keep1 hbl2 h5.1, keep1 hbl2 h5.2⟩
     have HLs : Hid ((Pl.step (Pl.lead q) (Pl.lead r) q r).length = i) := by show _ = _; rw [Pl.step_length, hrl2]; omega
     have HRI := i' (hinv.out.step (by omega) hqr)
     have k0 := hbut.out.cell HX3.out.1 (by simp only; omega)
     have k1 := hbut.out.cell HX3.out.2 (by simp only; omega)
     have vm : i - s = m := by omega
     have vq : (i : Int) - (m : Int) = (s : Int) := by omega
     have v0 : (0 : Int) ≤ (s : Int) := by omega
     have v1 : (s : Int) ≤ (i : Int) := by omega
     have v2 : (i : Int) ≤ (c3 : Int) := by omega
     have v3 : (m : Int) ≤ (c2 : Int) := by omega
     have v5 : (0 : Int) ≤ (m : Int) := by omega
     have v4 : ¬ c3 = s := by omega
     have vw1 : IntKind.i64.wrap (s : Int) = (s : Int) := IntWalk.i64_in _ (by omega)
     have VV := i' (And.intro vm (And.intro vq vw1))
     clear hups htop hmxs hmxm HS2 hrl2 hmq2 hqr hs haw hbut hbl2 vm vq vw1 HL3
     go_upto_region 10 with (fail)
     have vm := VV.out.1
     have vq := VV.out.2.1
     have vw1 := VV.out.2.2
     go_region_held3 (fun W' => W'.cell? ⟨wz.heap.size, 0, none⟩ = some (.bool (zb (Pl.lead r))) ∧ W'.cell? ⟨wz.heap.size, 1, none⟩ = some (.string (zs (Pl.lead r)))) (go_keep)
      (first
       | (go_at_call 137; (with_reducible refine (HSub.out _ (by exact HCy.out.drew) (by exact HA4.out.drew) (by intro k hk; rw [k'ew, k'ew]; exact HQy.out k hk)).mono ?_); rintro e w5 ⟨⟨v5, rfl⟩, b5, a5⟩; have p0 := b5.cell k0 (by simp only; omega); have p1 := b5.cell k1 (by simp only; omega); have G1 := i' (And.intro b5 a5); clear b5 a5))
     all_goals
      have HB9 : Hid (Below w.heap.size w w5) := HBl.out.trans (But.lowC (w := wy) ⟨G1.out.1.os, G1.out.1.tape, G1.out.1.output, G1.out.1.size, G1.out.1.block⟩ hg hgw)
      clear vm vq vw1
      go_wp2
      go_roundw
      case rel => exact ⟨_, i, _, rfl, by omega, by omega, rfl, HLs.out, HRI.out, G1.out.2, HB9.out⟩
      case measure => simp [lenOf]
  ·obtain rfl : k = m := by omega
   have HTr := i' (k'dx (.slice (some ⟨g, 0, none⟩) k c3) r wz (Rp.of_whole haw.out k c3 hrl.out (by omega) (by unfold maxLen; omega)) (fun a ha => by
    obtain ⟨i, hi, rfl⟩ := List.mem_iff_getElem.1 ha
    rw [← Pl.cf_lt hi]
    have h5 := hinv.out.size
    have e5 : r.length + 1 - q.length = 0 := by have h6 : q.length = k + 1 := HM.out; have h7 : r.length = k := hrl.out; omega
    rw [e5, Nat.pow_zero, Nat.one_mul] at h5
    exact Nat.lt_of_le_of_lt (Nat.le_trans (Pl.mx_cf r i) h5) HB.out))
   have HE : Hid (Pl.trim r = Pl.rest p q) := by
    show _ = _
    unfold Pl.rest
    rw [← hinv.out.prem, show r.length + 1 - q.length = 0 by have h6 : q.length = k + 1 := HM.out; have h7 : r.length = k := hrl.out; omega]
    rfl
   have hd0 : decide ((k : Int) < (k : Int)) = false := by simp
   go_wp2_with fail
   refine HTr.out.mono ?_
   rintro en w3 ⟨v3, rfl, hr3, hb3⟩
   have HR3 := i' hr3
   have HB3 := i' (chain hbl.out hb3)
   clear hr3 hb3
   go_wp2
   go_ret
   exact ⟨v3, rfl, by rw [← HE.out]; exact HR3.out, HB3.out⟩
end Go.Proofs.YtepddegphdlbeaaGreat
