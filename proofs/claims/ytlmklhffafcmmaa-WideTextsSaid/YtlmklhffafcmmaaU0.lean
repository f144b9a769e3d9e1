/- WideTexts gives true for every wide integer and every string (P1.6), and leaves its arguments as they were. No condition. -/
import Derived.Test.YtlmklhffafcmmaaT13
import Derived.Test.YtlmklhffafcmmaaT6
import Derived.Test.YtlmklhffafcmmaaT7
import Derived.Test.YtlmklhffafcmmaaT8
import Derived.Test.YtlmklhffafcmmaaT9
import Derived.Test.YtlmklhffafcmmaaT10
import Derived.Test.YtlmklhffafcmmaaRows
import Derived.ProofKit
import Derived.OpenShut
import Derived.ShutString
import Derived.ChangeOld
import Derived.Below
import Derived.Lib.SmallJoins

/- The reference's nine: a digit to the base 10^9 as nine letters; plain facts. -/
namespace Go.Proofs.Ytlmklhffafcmmaa
open Go.RowKit

/-- The last letters of a number, as many as are asked for. -/
def pad : Nat → Nat → List UInt8
  | 0, _ => []
  | i + 1, n => UInt8.ofNat (48 + n / 10 ^ i % 10) :: pad i n
def pb (i n : Nat) : ByteArray := ⟨(pad i n).toArray⟩
theorem pad_length (i n : Nat) : (pad i n).length = i := by
  induction i with
  | zero => rfl
  | succ i ih => simp [pad, ih]
theorem pad_mod (i n : Nat) : pad i n = pad i (n % 10 ^ i) := by
  suffices h : ∀ j, j ≤ i → pad j n = pad j (n % 10 ^ i) from h i (Nat.le_refl _)
  intro j hj
  induction j with
  | zero => rfl
  | succ j ih =>
    simp only [pad]
    rw [ih (by omega)]
    congr 3
    have e : 10 ^ i = 10 ^ j * (10 * 10 ^ (i - (j + 1))) := by
      rw [← Nat.mul_assoc, ← Nat.pow_succ, ← Nat.pow_add]
      congr 1
      omega
    rw [e, Nat.mod_mul_right_div_self, Nat.mod_mul_right_mod]
theorem pad_add (i j n : Nat) : pad (i + j) n = pad i (n / 10 ^ j) ++ pad j n := by
  induction i with
  | zero => simp [pad]
  | succ i ih =>
    rw [show i + 1 + j = (i + j) + 1 by omega]
    simp only [pad, ih, List.cons_append]
    rw [Nat.div_div_eq_div_mul, ← Nat.pow_add, Nat.add_comm j i]
theorem pad_nine (c q d : Nat) (hd : d < 10 ^ 9) : pad (9 * (c + 1)) (q * 10 ^ 9 + d) = pad (9 * c) q ++ pad 9 d := by
  rw [show 9 * (c + 1) = 9 * c + 9 by omega, pad_add, pad_mod 9 (q * 10 ^ 9 + d)]
  have e1 : (q * 10 ^ 9 + d) / 10 ^ 9 = q := by
    rw [Nat.add_comm, Nat.add_mul_div_right _ _ (Nat.pow_pos (by decide)), Nat.div_eq_of_lt hd, Nat.zero_add]
  have e2 : (q * 10 ^ 9 + d) % 10 ^ 9 = d := by
    rw [Nat.add_comm, Nat.add_mul_mod_self_right, Nat.mod_eq_of_lt hd]
  rw [e1, e2]
theorem dig_ext (d : Nat) (h : d < 10) : (⟨#[48, 49, 50, 51, 52, 53, 54, 55, 56, 57]⟩ : ByteArray).extract d (d + 1) = ⟨#[UInt8.ofNat (48 + d)]⟩ := by
  have H : ∀ d : Fin 10, (⟨#[48, 49, 50, 51, 52, 53, 54, 55, 56, 57]⟩ : ByteArray).extract d.val (d.val + 1) = ⟨#[UInt8.ofNat (48 + d.val)]⟩ := by decide
  exact H ⟨d, h⟩
theorem bytes_append (a b : List UInt8) : (⟨a.toArray⟩ : ByteArray) ++ ⟨b.toArray⟩ = ⟨(a ++ b).toArray⟩ := by
  apply ByteArray.ext
  rw [ByteArray.data_append]
  simp
theorem pb_cons (i n d : Nat) (h : n / 10 ^ i % 10 = d) : (⟨#[UInt8.ofNat (48 + d)]⟩ : ByteArray) ++ pb i n = pb (i + 1) n := by
  have := bytes_append [UInt8.ofNat (48 + d)] (pad i n)
  rw [pb, pb, pad, h]
  exact this
theorem pb_append (c q d : Nat) (hd : d < 10 ^ 9) : pb (9 * c) q ++ pb 9 d = pb (9 * (c + 1)) (q * 10 ^ 9 + d) := by
  rw [pb, pb, bytes_append, ← pad_nine c q d hd]
  rfl
theorem pb_size (i n : Nat) : (pb i n).size = i := by
  show (pad i n).toArray.size = i
  rw [List.size_toArray, pad_length]
def NinePost (n : Nat) (w : World) (e : Ending) (w' : World) : Prop := e = .returned (.string (pb 9 n)) ∧ w = w'

set_option maxRecDepth 100000 in
set_option maxHeartbeats 1000000 in
theorem rnine_any (n : Nat) (w : World) (hn : n < 1000000000) : Calls Try.prog 77 #[.int .i64 (n : Int)] w (NinePost n w) := by
  go_enter Try.func77, Try.ntmps77
  go_wp2
  go_loopw [0, 3, 4] (fun nv sv iv wr => ∃ (i q : Nat) (qi : Int), wr = w ∧ i ≤ 9 ∧ nv = .int .i64 qi ∧ iv = .int .i64 (i : Int) ∧ Hid ((q : Int) = qi ∧ q = n / 10 ^ i) ∧ 0 ≤ qi ∧ qi < 1000000000 ∧ sv = .string (pb i n))
    (fun _ _ iv _ => 9 - (intOf iv).toNat)
  case atStart => exact ⟨0, n, _, rfl, by omega, rfl, rfl, ⟨rfl, by simp⟩, by omega, by omega, rfl⟩
  case round =>
    obtain ⟨i, q, qi, rfl, hi, rfl, rfl, hq, h0, h1, rfl⟩ := hrel
    by_cases hlt : i < 9
    · obtain ⟨d, hd⟩ : ∃ d : Nat, q % 10 = d := ⟨_, rfl⟩
      obtain ⟨p, hp⟩ : ∃ p : Nat, q / 10 = p := ⟨_, rfl⟩
      have hd10 : d < 10 := by omega
      have hmod : qi % 10 = (d : Int) := by rw [← hq.out.1]; omega
      obtain ⟨pi, hpi⟩ : ∃ pi : Int, (p : Int) = pi := ⟨_, rfl⟩
      have hdiv : qi / 10 = pi := by rw [← hq.out.1]; omega
      have hex := dig_ext d hd10
      have hsz : (pb i n).size ≤ 9 := by rw [pb_size]; omega
      have hcn := pb_cons i n d (by rw [← hq.out.2]; exact hd)
      have HP : Hid ((p : Int) = pi ∧ p = n / 10 ^ (i + 1)) := ⟨hpi, by rw [← hp, hq.out.2, Nat.div_div_eq_div_mul, Nat.pow_succ]⟩
      have hp0 : 0 ≤ pi := by omega
      have hp1 : pi < 1000000000 := by omega
      obtain ⟨xb, hxb⟩ : ∃ xb, UInt8.ofNat (48 + d) = xb := ⟨_, rfl⟩
      rw [hxb] at hex hcn
      have HCN := Lib.hid hcn
      clear hd hp hpi hq hcn hxb
      go_wp2
      go_roundw
      case rel => exact ⟨i + 1, p, pi, trivial, by omega, by first | rfl | rw [hdiv], by go_num, HP, hp0, hp1, by first | rfl | rw [HCN.out]⟩
      case measure => simp [intOf]; omega
    · obtain rfl : i = 9 := by omega
      clear hq
      go_wp2
      go_ret
      exact ⟨rfl, rfl⟩
end Go.Proofs.Ytlmklhffafcmmaa

/- The reference's Text. -/
namespace Go.Proofs.Ytlmklhffafcmmaa
open Go.RowKit

/-- The lowest digits, the lowest first. -/
def lw : Nat → Nat → List Nat
  | 0, _ => []
  | i + 1, n => lw i n ++ [n / 10 ^ i % 10]
theorem lw_length (i n : Nat) : (lw i n).length = i := by
  induction i with
  | zero => rfl
  | succ i ih => simp [lw, ih]
theorem pad_lw (i n : Nat) : pad i n = (asc (lw i n)).reverse.map UInt8.ofNat := by
  induction i with
  | zero => rfl
  | succ i ih =>
    rw [lw, asc_snoc, pad, ih]
    simp
theorem lw_val (i n : Nat) : Nm.val 10 (lw i n) = n % 10 ^ i := by
  induction i with
  | zero => simp [lw, Nm.val, Nat.mod_one]
  | succ i ih => rw [lw, Nm.val_snoc, ih, lw_length, Nat.mod_pow_succ]
theorem lw_dig (i n : Nat) : Nm.Dig 10 (lw i n) := by
  induction i with
  | zero => exact Nm.dig_nil 10
  | succ i ih => exact Nm.dig_append.2 ⟨ih, Nm.dig_cons.2 ⟨Nat.mod_lt _ (by decide), Nm.dig_nil 10⟩⟩
theorem top_digit {i m : Nat} (h : m < 10 ^ (i + 1)) : m / 10 ^ i % 10 = m / 10 ^ i := by
  refine Nat.mod_eq_of_lt ((Nat.div_lt_iff_lt_mul (Nat.pow_pos (by decide))).2 ?_)
  rw [Nat.pow_succ, Nat.mul_comm] at h
  exact h
theorem pad_tl {i m : Nat} (h1 : m / 10 ^ i ≠ 0) (h2 : m < 10 ^ (i + 1)) : pad (i + 1) m = tl m := by
  rw [pad_lw, tl]
  have h3 : lw (i + 1) m = Nm.dg 10 m := by
    have h4 := Nm.eq_dg (B := 10) (by decide) (lw_dig (i + 1) m) (Nm.nrm_snoc _ _ (by rw [top_digit h2]; exact h1))
    rwa [lw_val, Nat.mod_eq_of_lt h2] at h4
  rw [h3]
/-- The first letter. -/
theorem pb_first {i m : Nat} (h : m < 10 ^ (i + 1)) (hs : 0 < (pb (i + 1) m).size) : (pb (i + 1) m)[0].toNat = 48 + m / 10 ^ i := by
  show (UInt8.ofNat (48 + m / 10 ^ i % 10)).toNat = _
  rw [top_digit h, UInt8.toNat_ofNat', Nat.mod_eq_of_lt]
  have := top_digit h
  omega
theorem pb_tail (i m : Nat) : (pb (i + 1) m).extract 1 (pb (i + 1) m).size = pb i m := by
  apply ByteArray.ext
  rw [pb_size, ByteArray.data_extract]
  show ((pad (i + 1) m).toArray).extract 1 (i + 1) = (pad i m).toArray
  rw [pad, List.extract_toArray, List.extract_eq_take_drop, List.drop_succ_cons, List.drop_zero, List.take_of_length_le (by rw [pad_length]; omega)]
theorem drop_val {X : List Nat} {j : Nat} (h : j < X.length) : Nm.val D9 (X.drop j) = Nm.val D9 (X.drop (j + 1)) * 10 ^ 9 + X[j] := by
  rw [List.drop_eq_getElem_cons h, Nm.val_cons, Nat.add_comm, Nat.mul_comm]
  rfl
def TextR (z : Int) (w : World) (e : Ending) (w' : World) : Prop := e = .returned (.string (tx z)) ∧ Below w.heap.size w w'

set_option maxRecDepth 100000 in
set_option maxHeartbeats 2000000 in
theorem rtext_int (z : Int) (v : Value) (w : World) (h : Rz w v z) (hl : (Nm.dg D9 z.natAbs).length ≤ 1000000) :
    Calls Try.prog 43 #[iV z v] w (TextR z w) := by
  unfold TextR
  unfold iV
  obtain ⟨m, hm⟩ : ∃ m, z.natAbs = m := ⟨_, rfl⟩
  unfold Rz at h
  rw [hm] at h hl
  have HX : Hid (Nm.val D9 (Nm.dg D9 m) = m ∧ Nm.Dig D9 (Nm.dg D9 m) ∧ m < D9 ^ (Nm.dg D9 m).length) := ⟨Nm.val_dg D92 m, Nm.dig_dg D92 m, by
    have h5 := Nm.val_lt (Nm.dig_dg D92 m)
    rwa [Nm.val_dg D92] at h5⟩
  have HM := Lib.hid hm
  generalize Nm.dg D9 m = X at *
  obtain ⟨p, b, off, cap, rfl, h2, h3, h4, h5, h6⟩ := h
  obtain ⟨L, hL⟩ : ∃ L, X.length = L := ⟨_, rfl⟩
  have hp : 0 < L → p = some ⟨b, off, none⟩ := fun h => h4 (fun e => by rw [e] at hL; simp at hL; omega)
  rw [hL] at hl h2 ⊢
  have HCell : Hid (∀ k (h : k < X.length), w.cell? ⟨b, off + k, none⟩ = some (.int .i64 (X[k] : Int))) := h6
  have HL := Lib.hid hL
  have HP := Lib.hid hp
  obtain ⟨w1, hw1⟩ : ∃ w1 : World, w1 = w.alloc (.cells #[.bool (decide (z < 0)), .slice p L cap] 31) := ⟨_, rfl⟩
  have hb0 : Hid (Below w.heap.size w w1) := by rw [hw1]; exact below_new w _
  have k0 : w1.cell? ⟨w.heap.size, 0, none⟩ = some (.bool (decide (z < 0))) := by rw [hw1]; simp [go_sem]
  have k1 : w1.cell? ⟨w.heap.size, 1, none⟩ = some (.slice p L cap) := by rw [hw1]; simp [go_sem]
  have hc2 : cap ≤ maxLen := h3
  unfold maxLen at hc2
  have Hw1 := Lib.hid hw1
  clear hw1 h3 h4 h5 h6 hL hp hm
  go_enter Try.func43, Try.ntmps43
  go_wp2
  rw [← Hw1.out]
  go_loopw [3, 4] (fun sv iv wr => ∃ (k : Nat) (sb : ByteArray), wr = w1 ∧ k ≤ L ∧ iv = .int .i64 ((k : Int) - 1) ∧ sv = .string sb ∧ sb.size ≤ 9000000 ∧ Hid (sb = pb (9 * (L - k)) (Nm.val D9 (X.drop k))))
    (fun _ iv _ => (intOf iv + 1).toNat)
  case atStart => exact ⟨L, ⟨#[]⟩, rfl, Nat.le_refl _, rfl, rfl, by decide, by show _ = _; rw [Nat.sub_self]; rfl⟩
  case round =>
    obtain ⟨k, sb, rfl, hk, rfl, rfl, hsb9, hsb⟩ := hrel
    rcases Nat.eq_zero_or_pos k with h0 | h0
    · subst h0
      have HSB : Hid (sb = pb (9 * L) m) := by
        show _ = _
        rw [hsb.out, List.drop_zero, HX.out.1, Nat.sub_zero]
      have HLT : Hid (m < 10 ^ (9 * L)) := by
        have h5 := HX.out.2.2
        rw [HL.out] at h5
        rw [Nat.pow_mul]
        exact h5
      clear hsb
      go_wp2
      go_loopw [3] (fun sv wr' => ∃ (i : Nat) (sb : ByteArray), wr' = wr ∧ i ≤ 9 * L ∧ sv = .string sb ∧ Hid (sb = pb i m) ∧ Hid (m < 10 ^ i))
        (fun sv _ => szOf sv)
      case atStart => exact ⟨9 * L, sb, rfl, Nat.le_refl _, rfl, HSB.out, HLT.out⟩
      case round =>
        clear HSB HLT
        obtain ⟨i, sb, rfl, hi, rfl, hsb, hlt⟩ := hrel
        rcases Nat.eq_zero_or_pos i with h0 | h0
        · subst h0
          have hm0 : m = 0 := by have h5 := hlt.out; rw [Nat.pow_zero] at h5; omega
          have hz : z = 0 := by have h5 := HM.out; omega
          have HTX : Hid (tx z = ⟨#[48]⟩) := by show _ = _; rw [hz]; rfl
          have he : sb = ⟨#[]⟩ := hsb.out
          subst he
          clear hsb hlt hm0 hz
          go_wp2
          go_ret
          exact ⟨by rw [HTX.out]; rfl, hb0.out⟩
        · obtain ⟨j, rfl⟩ : ∃ j, i = j + 1 := ⟨i - 1, by omega⟩
          have hss : sb.size = j + 1 := by rw [hsb.out, pb_size]
          have hs0 : 0 < sb.size := by omega
          have hfi : sb[0].toNat = 48 + m / 10 ^ j := by
            have h5 := pb_first hlt.out (by rw [pb_size]; omega)
            rw [← h5]
            congr 2
          have htl : sb.extract 1 sb.size = pb j m := by rw [hsb.out]; exact pb_tail j m
          by_cases hd : m / 10 ^ j = 0
          · have e3 : ((sb[0].toNat : Int) == 48) = true := by rw [hfi, hd]; rfl
            have HLT : Hid (m < 10 ^ j) := by
              rcases Nat.div_eq_zero_iff.1 hd with h5 | h5
              · exact absurd h5 (Nat.ne_of_gt (Nat.pow_pos (by decide)))
              · exact h5
            obtain ⟨sb2, hsb2⟩ : ∃ sb2, sb.extract 1 sb.size = sb2 := ⟨_, rfl⟩
            have HSB2 : Hid (sb2 = pb j m) := by show _ = _; rw [← hsb2]; exact htl
            have HSS : Hid (sb2.size < sb.size) := by show _ < _; rw [HSB2.out, pb_size]; omega
            clear hsb hlt hd hfi htl hss
            go_wp2
            go_roundw
            case rel => exact ⟨j, sb2, by first | rfl | trivial, by omega, by rw [← hsb2], HSB2, HLT⟩
            case measure => simp only [szOf]; first | exact HSS.out | (rw [hsb2]; exact HSS.out)
          · have e3 : ((sb[0].toNat : Int) == 48) = false := by
              rw [hfi]
              generalize m / 10 ^ j = f at hd
              simp; omega
            have hm0 : m ≠ 0 := fun e => hd (by rw [e]; exact Nat.zero_div _)
            have hz0 : z ≠ 0 := by have h5 := HM.out; omega
            have hpt : sb = ⟨(tl z.natAbs).toArray⟩ := by rw [HM.out, hsb.out, pb, pad_tl hd hlt.out]
            have hsb9 : sb.size ≤ 9000001 := by omega
            by_cases hz : z < 0
            · have ez : decide (z < 0) = true := decide_eq_true hz
              have HTX : Hid ((⟨#[45]⟩ : ByteArray) ++ sb = tx z) := by
                show _ = _
                rw [hpt]
                have h5 := bytes_append [45] (tl z.natAbs)
                rw [tx, if_neg hz0, if_pos hz]
                exact h5
              rw [ez] at k0
              clear hsb hlt hd hfi htl hm0 hz0 hpt hz ez hss
              go_wp2
              go_ret
              exact ⟨by rw [← HTX.out]; rfl, hb0.out⟩
            · have ez : decide (z < 0) = false := decide_eq_false hz
              have HTX : Hid (sb = tx z) := by
                show _ = _
                rw [hpt, tx, if_neg hz0, if_neg hz]
                rfl
              rw [ez] at k0
              clear hsb hlt hd hfi htl hm0 hz0 hpt hz ez hss
              go_wp2
              go_ret
              exact ⟨by rw [← HTX.out]; rfl, hb0.out⟩
    · obtain ⟨j, rfl⟩ : ∃ j, k = j + 1 := ⟨k - 1, by omega⟩
      have hjX : j < X.length := by rw [HL.out]; omega
      obtain rfl := HP.out (by omega)
      have e1 : wr.cell? ⟨b, off + j, none⟩ = some (.int .i64 (X[j] : Int)) := at_old hb0.out (HCell.out j hjX)
      obtain ⟨d, hd⟩ : ∃ d : Nat, X[j] = d := ⟨_, rfl⟩
      have hd9 : d < 1000000000 := by rw [← hd]; exact Nm.dig_get HX.out.2.1 j hjX
      have HN := Lib.hid (fun w => rnine_any d w hd9)
      rw [hd] at e1
      have HSB : Hid (sb ++ pb 9 d = pb (9 * (L - j)) (Nm.val D9 (X.drop j))) := by
        show _ = _
        rw [hsb.out, drop_val hjX, hd, pb_append _ _ _ hd9]
        congr 2
        omega
      have hs1 : (pb 9 d).size = 9 := pb_size 9 d
      have hs2 : sb.size + 9 ≤ 9000000 := by
        rw [hsb.out, pb_size]; omega
      have hs3 : (sb ++ pb 9 d).size ≤ 9000000 := by rw [ByteArray.size_append]; omega
      have e6 : ((j + 1 : Nat) : Int) - 1 = (j : Int) := by omega
      rw [e6]
      have hjL : j < L := by omega
      unfold NinePost at HN
      have HS3 := Lib.hid hs3
      generalize pb 9 d = nb at *
      clear hsb hd hjX hs3
      go_wp2_with fail
      refine (HN.out _).mono ?_
      rintro e w' ⟨rfl, rfl⟩
      go_wp2
      go_roundw
      case rel => exact ⟨j, _, by first | rfl | trivial, by omega, by go_num, rfl, HS3.out, HSB⟩
      case measure => simp [intOf]
end Go.Proofs.Ytlmklhffafcmmaa

/- The reference's Parse. -/
namespace Go.Proofs.Ytlmklhffafcmmaa
open Go.RowKit

theorem dec_len {V k : Nat} (h : V < 10 ^ k) : (Nm.dg D9 V).length ≤ k := by
  refine Nm.len_le_of_val D92 (Nm.nrm_dg D92 V) ?_
  rw [Nm.val_dg D92]
  exact Nat.lt_of_lt_of_le h (Nat.pow_le_pow_left (by decide) k)
/-- What the reference reads in a text whose letters behind the sign are d. -/
def ParseR (s d : ByteArray) (neg : Bool) (w : World) (e : Ending) (w' : World) : Prop :=
  ((AllD d ∧ ∃ v, e = .returned (.tuple #[iV (sg neg (decv d)) v, .bool ((tx (sg neg (decv d))).toList == s.toList)]) ∧ Rz w' v (sg neg (decv d))) ∨ (¬ AllD d ∧ e = .returned (.tuple #[.agg #[.bool false, .slice none 0 0], .bool false]))) ∧ Below w.heap.size w w'
theorem dv_take_lt {d : ByteArray} {k : Nat} (hk : k ≤ d.size) (h : ∀ j (hj : j < d.size), j < k → 48 ≤ d[j].toNat ∧ d[j].toNat ≤ 57) : dv (d.data.toList.take k) 0 < 10 ^ k := by
  have h2 : d.data.toList.length = d.size := rfl
  have h1 := dv_lt (d.data.toList.take k) (by
    intro x hx
    obtain ⟨j, hj, rfl⟩ := List.mem_iff_getElem.1 hx
    have hj2 : j < k := by simp at hj; omega
    rw [List.getElem_take]
    exact (h j (by simp at hj; omega) hj2).2)
  rw [List.length_take, Nat.min_eq_left (by omega)] at h1
  exact h1

set_option maxRecDepth 100000 in
set_option maxHeartbeats 4000000 in
theorem rparse_empty (s : ByteArray) (w : World) (hs : s.size ≤ 1000) (h0 : s = ⟨#[]⟩) :
    Calls Try.prog 45 #[.string s] w (ParseR s s false w) := by
  have HM := Lib.hid (fun v m w h => (rmade_any false v m w h).mono (made_int (z := sg false m) rfl))
  have HT := Lib.hid (fun v xs w h => rtrim_any v xs w h)
  subst h0
  obtain ⟨w0, hw0⟩ : ∃ w0 : World, w0 = w.alloc (.cells #[.bool false, .slice none 0 0] 31) := ⟨_, rfl⟩
  have hb0 : Hid (Below w.heap.size w w0) := by rw [hw0]; exact below_one _ _
  have I2 : Hid (ZC (.bool false) (.slice none 0 0) w0 w.heap.size) := by rw [hw0]; exact ZC.new rfl
  have Hw0 := Lib.hid hw0
  clear hw0
  go_enter Try.func45, Try.ntmps45
  go_wp2_with fail
  rw [← Hw0.out]
  clear Hw0
  go_loopw [6, 7] (fun dv9 iv wr => ∃ (wz : World) (k : Nat), wz = wr ∧ k ≤ (⟨#[]⟩ : ByteArray).size ∧ iv = .int .i64 (k : Int) ∧ Hid (∀ j (hj : j < (⟨#[]⟩ : ByteArray).size), j < k → 48 ≤ (⟨#[]⟩ : ByteArray)[j].toNat ∧ (⟨#[]⟩ : ByteArray)[j].toNat ≤ 57) ∧ Hid (Ri wz dv9 (Nm.dg D9 (dv ((⟨#[]⟩ : ByteArray).data.toList.take k) 0))) ∧ Hid (Below w0.heap.size w0 wz))
    (fun _ iv _ => (⟨#[]⟩ : ByteArray).size - (intOf iv).toNat)
  case atStart => exact ⟨w0, 0, rfl, Nat.zero_le _, rfl, fun j _ hj => absurd hj (Nat.not_lt_zero _), by rw [List.take_zero]; exact Ri.nil w0, Below.refl _ _⟩
  case round =>
    obtain ⟨wz, k, rfl, hk, rfl, hall, hri, hbl⟩ := hrel
    by_cases hlt : k < (⟨#[]⟩ : ByteArray).size
    · exact absurd hlt (Nat.not_lt_zero k)
    · obtain rfl : k = (⟨#[]⟩ : ByteArray).size := by omega
      have HAL : Hid (AllD (⟨#[]⟩ : ByteArray)) := fun j hj => hall.out j hj hj
      have hV := dv_take_lt hk hall.out
      have hRI := hri
      have e0 : (⟨#[]⟩ : ByteArray).data.toList.take (⟨#[]⟩ : ByteArray).size = (⟨#[]⟩ : ByteArray).data.toList := List.take_of_length_le (Nat.le_refl _)
      rw [e0] at hRI hV
      obtain ⟨z, hz⟩ : ∃ z, sg false (decv (⟨#[]⟩ : ByteArray)) = z := ⟨_, rfl⟩
      have hzl : (Nm.dg D9 z.natAbs).length ≤ 1000000 := by rw [← hz, sg_abs]; exact Nat.le_trans (dec_len hV) (by omega)
      have HTX := Lib.hid (fun v w h => rtext_int z v w h hzl)
      have HM2 : Hid (∀ v w, Ri w v (Nm.dg D9 (dv (⟨#[]⟩ : ByteArray).data.toList 0)) → Calls Try.prog 58 #[.bool false, v] w (IntPost z w)) := fun v w h => by
        have h5 := HM.out v _ w h
        have h6 : sg false (dv (⟨#[]⟩ : ByteArray).data.toList 0) = z := hz
        rwa [h6] at h5
      have HR0 := Lib.hid hRI.out
      obtain ⟨ok, hok⟩ : ∃ ok, ((tx z).toList == (⟨#[]⟩ : ByteArray).toList) = ok := ⟨_, rfl⟩
      have hie : (tx z).toList.isEmpty = ok := by
        rw [← hok]
        have hnil : (⟨#[]⟩ : ByteArray).toList = [] := by rw [ByteArray.toList_eq]
        rw [hnil]
        cases (tx z).toList <;> rfl
      have HF : Hid (∀ e w', (∃ v, e = .returned (.tuple #[iV z v, .bool ok]) ∧ Rz w' v z ∧ Below w.heap.size w w') → ParseR (⟨#[]⟩ : ByteArray) (⟨#[]⟩ : ByteArray) false w e w') := by
        rintro e w' ⟨v, h1, h2, h3⟩
        refine ⟨Or.inl ⟨HAL.out, v, ?_, ?_⟩, h3⟩
        · rw [hz, hok]; exact h1
        · rw [hz]; exact h2
      have H2 := I2.out.next hbl.out
      have D := Lib.hid (chain hb0.out hbl.out)
      unfold IntPost at HM2
      unfold TextR at HTX
      unfold iV at HM2 HTX HF
      obtain ⟨m0, m1, m2, m3⟩ := H2
      have HK := Lib.hid (And.intro m0 (And.intro m1 (And.intro m2 m3)))
      clear hri hall hV hRI e0 hz hzl HM hk hlt m0 m1 m2 m3
      generalize decide (z < 0) = bz at *
      generalize tx z = tb at *
      go_wp2_with fail
      refine (HM2.out _ _ HR0.out).mono ?_
      rintro e w4 ⟨v4, rfl, r4, b4⟩
      obtain ⟨p4, q4, o4, c4, rfl, hr4⟩ := r4
      have R4 : Hid (Rz w4 (.slice p4 (Nm.dg D9 z.natAbs).length c4) z) := ⟨p4, q4, o4, c4, rfl, hr4⟩
      clear hr4
      generalize (Nm.dg D9 z.natAbs).length = len at *
      obtain ⟨u5, hu5⟩ : ∃ u : World, u = w4.alloc (.cells #[.bool bz, .slice p4 len c4] 31) := ⟨_, rfl⟩
      have E : Hid (Below wz.heap.size wz u5) := by rw [hu5]; exact b4.alloc b4.size _
      have D5 := Lib.hid (chain D.out E.out)
      have T5 : Hid (ZC (.bool bz) (.slice p4 len c4) u5 w4.heap.size) := by rw [hu5]; exact ZC.new rfl
      have R5 : Hid (Rz u5 (.slice p4 len c4) z) := by rw [hu5]; exact R4.out.allocd _
      have Hu5 := Lib.hid hu5
      have hlt4 : Hid (w.heap.size < w4.heap.size) := Nat.lt_of_lt_of_le (World.block_lt_of_cell? _ _ HK.out.1) b4.size
      have m0 := keep1 E.out HK.out.1
      have m1 := keep1 E.out HK.out.2.1
      have m2 := keepf E.out HK.out.1 HK.out.2.2.1
      have m3 := keepf E.out HK.out.2.1 HK.out.2.2.2
      clear hu5 b4 R4
      go_upto_region 13 with (fail)
      rw [← Hu5.out]
      clear Hu5
      obtain ⟨k0, k1, _⟩ := T5.out
      have g1 : ¬ w.heap.size = w4.heap.size := Nat.ne_of_lt hlt4.out
      have g2 : ¬ w4.heap.size = w.heap.size := Nat.ne_of_gt hlt4.out
      go_region_held3 (fun W' => W'.cell? ⟨w4.heap.size, 0, none⟩ = some (.bool bz) ∧ W'.cell? ⟨w4.heap.size, 1, none⟩ = some (.slice p4 len c4)) (go_keep)
        (first
          | (go_at_call 43; (with_reducible refine (HTX.out _ _ (by first | exact R5.out | exact Ri.drew R5.out)).mono ?_); rintro e w6 ⟨rfl, b6⟩; (try (have b6 := undrew b6)); have p0 := keep1 b6 k0; have p1 := keep1 b6 k1; have q0 := keep1 b6 m0; have q1 := keep1 b6 m1; have q2 := keepf b6 m0 m2; have q3 := keepf b6 m1 m3; have B6 := Lib.hid b6; clear b6)
          | fail)
      all_goals
        have HZ := Lib.hid (below_set2 (chain D5.out B6.out) (Nat.le_refl w.heap.size) (.bool bz) (.slice p4 len c4))
        have HR := Lib.hid ((Ri.below R5.out B6.out (Nat.le_refl _)).set2 (u1 := .bool bz) (u2 := .slice p4 len c4) q0 q1 (fun _ => by simp))
        go_wp2
        exact bodyPost_ret (v := .tuple #[.agg #[.bool bz, .slice p4 len c4], .bool ok]) (by simp [results, Try.results45, go_sem, q0, q1]) rfl (HF.out _ _ ⟨_, rfl, HR.out, HZ.out⟩)

set_option maxRecDepth 100000 in
set_option maxHeartbeats 4000000 in
theorem rparse_neg (s d : ByteArray) (w : World) (hs : s.size ≤ 1000) (h0 : 0 < s.size) (h1 : s[0].toNat = 45) (hd : s.extract 1 s.size = d) :
    Calls Try.prog 45 #[.string s] w (ParseR s d true w) := by
  have HM := Lib.hid (fun v m w h => (rmade_any true v m w h).mono (made_int (z := sg true m) rfl))
  have HT := Lib.hid (fun v xs w h => rtrim_any v xs w h)
  have e3 : ((s[0].toNat : Int) == 45) = true := by rw [h1]; rfl
  have hd2 : d.size ≤ 1000 := by rw [← hd, ByteArray.size_extract]; omega
  clear h1
  obtain ⟨w0, hw0⟩ : ∃ w0 : World, w0 = w.alloc (.cells #[.bool false, .slice none 0 0] 31) := ⟨_, rfl⟩
  have hb0 : Hid (Below w.heap.size w w0) := by rw [hw0]; exact below_one _ _
  have I2 : Hid (ZC (.bool false) (.slice none 0 0) w0 w.heap.size) := by rw [hw0]; exact ZC.new rfl
  have Hw0 := Lib.hid hw0
  clear hw0
  go_enter Try.func45, Try.ntmps45
  go_wp2_with fail
  rw [← Hw0.out]
  clear Hw0
  go_loopw [6, 7] (fun dv9 iv wr => ∃ (wz : World) (k : Nat), wz = wr ∧ k ≤ d.size ∧ iv = .int .i64 (k : Int) ∧ Hid (∀ j (hj : j < d.size), j < k → 48 ≤ d[j].toNat ∧ d[j].toNat ≤ 57) ∧ Hid (Ri wz dv9 (Nm.dg D9 (dv (d.data.toList.take k) 0))) ∧ Hid (Below w0.heap.size w0 wz))
    (fun _ iv _ => d.size - (intOf iv).toNat)
  case atStart => exact ⟨w0, 0, rfl, Nat.zero_le _, rfl, fun j _ hj => absurd hj (Nat.not_lt_zero _), by rw [List.take_zero]; exact Ri.nil w0, Below.refl _ _⟩
  case round =>
    obtain ⟨wz, k, rfl, hk, rfl, hall, hri, hbl⟩ := hrel
    by_cases hlt : k < d.size
    · obtain ⟨c, hc⟩ : ∃ c : Int, (d[k].toNat : Int) = c := ⟨_, rfl⟩
      by_cases hok : 48 ≤ d[k].toNat ∧ d[k].toNat ≤ 57
      · have hV := dv_take_lt hk hall.out
        have HS := Lib.hid (dv_take d.data.toList k (by exact hlt))
        have hlm := dec_len hV
        obtain ⟨m, hm⟩ : ∃ m, dv (d.data.toList.take k) 0 = m := ⟨_, rfl⟩
        rw [hm] at hri HS hlm hV
        obtain ⟨x, hx⟩ : ∃ x : Nat, d.data.toList[k].toNat - 48 = x := ⟨_, rfl⟩
        have hx9 : x ≤ 9 := by rw [← hx]; have h5 : d.data.toList[k].toNat = d[k].toNat := rfl; omega
        have hx0 : x + 48 = d[k].toNat := by rw [← hx]; have h5 : d.data.toList[k].toNat = d[k].toNat := rfl; omega
        rw [hx] at HS
        have hcx : c - 48 = (x : Int) := by omega
        have hc1 : ¬ c < 48 := by omega
        have hc2 : ¬ 57 < c := by omega
        have hx2 : x < 256 := by omega
        have hwr := wrap_byte hx2
        have hwu : IntKind.u8.wrap (x : Int) = (x : Int) := by rw [byte_wrap, Nat.mod_eq_of_lt hx2]
        have hlm2 : (Nm.dg D9 (m * 10)).length ≤ 1000000 := Nat.le_trans (dec_len (k := k + 1) (by rw [Nat.pow_succ]; exact Nat.mul_lt_mul_of_pos_right hV (by decide))) (by omega)
        have HSM : Hid (∀ v w', Ri w' v (Nm.dg D9 m) → Calls Try.prog 56 #[v, .int .i64 10] w' (GivesI (m * 10) w')) := fun v w' h => rsmall_any v m 10 w' (by decide) h (by omega)
        have HP : Hid (∀ v1 v2 w', Ri w' v1 (Nm.dg D9 (m * 10)) → Ri w' v2 (Nm.dg D9 x) → Calls Try.prog 55 #[v1, v2] w' (GivesI (m * 10 + x) w')) := fun v1 v2 w' h1 h2 => rplus_any v1 v2 (m * 10) x w' h1 h2 hlm2 (Nat.le_trans (dg9_256 (k := 1) hx2) (by decide))
        have HX := Lib.hid (trim_one hx2)
        have hRi := hri.out
        obtain ⟨k0, k1, _⟩ := I2.out.next hbl.out
        have hsz : Hid (w.heap.size < wz.heap.size) := World.block_lt_of_cell? wz _ k0
        have HALL : Hid (∀ j (hj : j < d.size), j < k + 1 → 48 ≤ d[j].toNat ∧ d[j].toNat ≤ 57) := by
          intro j hj hjk
          rcases Nat.lt_or_ge j k with g | g
          · exact hall.out j hj g
          · obtain rfl : j = k := by omega
            exact hok
        clear hm hV hlm hlm2 hx hx0 hok hall
        go_wp2_with fail
        go_region_held3 (fun W' => W'.cell? ⟨w.heap.size, 0, none⟩ = some (.bool false)) (go_keep)
          (first
            | (go_at_call 56; (with_reducible refine (HSM.out _ _ (by first | exact hRi | exact hRi.drew | exact hRi.allocd _ | exact (hRi.allocd _).drew | exact hRi.drew.allocd _)).mono ?_); rintro e w1 ⟨v1, rfl, r1, b1⟩; (try (have b1 := undrew b1)); have d1 : Below wz.heap.size wz w1 := chain (by first | exact Below.refl _ _ | exact (Below.refl _ _).drew | exact below_one _ _ | exact ((Below.refl _ _).drew).alloc (Nat.le_refl _) _) b1; have p1 := keep1 d1 k0; (try (have X1 := Lib.hid ((Ri.one wz x).below b1 (Nat.le_refl _)))); have f1 : w.heap.size < w1.heap.size := Nat.lt_of_lt_of_le hsz.out d1.size; have f2 : ¬ w1.heap.size = w.heap.size := Nat.ne_of_gt f1; have f3 : ¬ w.heap.size = w1.heap.size := Nat.ne_of_lt f1; have G1 := Lib.hid r1)
            | (go_at_call 57; (with_reducible refine (HT.out _ [x] _ (by first | exact X1.out | exact Ri.one w1 x)).mono ?_); rintro e w2 ⟨v2, rfl, r2, rfl⟩; rw [HX.out] at r2; have G2 := Lib.hid r2)
            | (go_at_call 55; (with_reducible refine (HP.out _ _ _ (by first | exact G1.out | exact G1.out.allocd _) G2.out).mono ?_); rintro e w3 ⟨v3, rfl, r3, b3⟩; have d3 : Below wz.heap.size wz w3 := chain d1 (chain (by first | exact Below.refl _ _ | exact below_one _ _) b3); have p1 := keep1 d3 k0; have G3 := Lib.hid r3; have D3 := Lib.hid d3)
            | fail)
        all_goals
          have C3 := Lib.hid (chain hbl.out D3.out)
          rw [Nat.mul_comm m 10, ← HS.out] at G3
          go_wp2
          go_roundw
          case rel => exact ⟨_, k + 1, rfl, by omega, by go_num, HALL.out, G3, C3⟩
          case measure => simp [intOf]; omega
      · have HN : Hid (¬ AllD d) := fun h => hok (h k hlt)
        obtain ⟨m0, m1, m2, m3⟩ := I2.out.next hbl.out
        have HZ := Lib.hid (below_set2 (chain hb0.out hbl.out) (Nat.le_refl w.heap.size) (.bool false) (.slice none 0 0))
        clear hri
        by_cases h48 : c < 48
        · clear hok
          go_wp2
          exact bodyPost_ret (v := .tuple #[.agg #[.bool false, .slice none 0 0], .bool false]) (by simp [results, Try.results45, go_sem, m0, m1]) rfl ⟨Or.inr ⟨HN.out, rfl⟩, HZ.out⟩
        · have h57 : 57 < c := by omega
          clear hok
          go_wp2
          exact bodyPost_ret (v := .tuple #[.agg #[.bool false, .slice none 0 0], .bool false]) (by simp [results, Try.results45, go_sem, m0, m1]) rfl ⟨Or.inr ⟨HN.out, rfl⟩, HZ.out⟩
    · obtain rfl : k = d.size := by omega
      have HAL : Hid (AllD d) := fun j hj => hall.out j hj hj
      have hV := dv_take_lt hk hall.out
      have hRI := hri
      have e0 : d.data.toList.take d.size = d.data.toList := List.take_of_length_le (Nat.le_refl _)
      rw [e0] at hRI hV
      obtain ⟨z, hz⟩ : ∃ z, sg true (decv d) = z := ⟨_, rfl⟩
      have hzl : (Nm.dg D9 z.natAbs).length ≤ 1000000 := by rw [← hz, sg_abs]; exact Nat.le_trans (dec_len hV) (by omega)
      have HTX := Lib.hid (fun v w h => rtext_int z v w h hzl)
      have HM2 : Hid (∀ v w, Ri w v (Nm.dg D9 (dv d.data.toList 0)) → Calls Try.prog 58 #[.bool true, v] w (IntPost z w)) := fun v w h => by
        have h5 := HM.out v _ w h
        have h6 : sg true (dv d.data.toList 0) = z := hz
        rwa [h6] at h5
      have HR0 := Lib.hid hRI.out
      obtain ⟨ok, hok⟩ : ∃ ok, ((tx z).toList == s.toList) = ok := ⟨_, rfl⟩
      have HF : Hid (∀ e w', (∃ v, e = .returned (.tuple #[iV z v, .bool ok]) ∧ Rz w' v z ∧ Below w.heap.size w w') → ParseR s d true w e w') := by
        rintro e w' ⟨v, h1, h2, h3⟩
        refine ⟨Or.inl ⟨HAL.out, v, ?_, ?_⟩, h3⟩
        · rw [hz, hok]; exact h1
        · rw [hz]; exact h2
      have H2 := I2.out.next hbl.out
      have D := Lib.hid (chain hb0.out hbl.out)
      unfold IntPost at HM2
      unfold TextR at HTX
      unfold iV at HM2 HTX HF
      obtain ⟨m0, m1, m2, m3⟩ := H2
      have HK := Lib.hid (And.intro m0 (And.intro m1 (And.intro m2 m3)))
      clear hri hall hV hRI e0 hz hzl HM hk hlt m0 m1 m2 m3
      generalize decide (z < 0) = bz at *
      generalize tx z = tb at *
      go_wp2_with fail
      refine (HM2.out _ _ HR0.out).mono ?_
      rintro e w4 ⟨v4, rfl, r4, b4⟩
      obtain ⟨p4, q4, o4, c4, rfl, hr4⟩ := r4
      have R4 : Hid (Rz w4 (.slice p4 (Nm.dg D9 z.natAbs).length c4) z) := ⟨p4, q4, o4, c4, rfl, hr4⟩
      clear hr4
      generalize (Nm.dg D9 z.natAbs).length = len at *
      obtain ⟨u5, hu5⟩ : ∃ u : World, u = w4.alloc (.cells #[.bool bz, .slice p4 len c4] 31) := ⟨_, rfl⟩
      have E : Hid (Below wz.heap.size wz u5) := by rw [hu5]; exact b4.alloc b4.size _
      have D5 := Lib.hid (chain D.out E.out)
      have T5 : Hid (ZC (.bool bz) (.slice p4 len c4) u5 w4.heap.size) := by rw [hu5]; exact ZC.new rfl
      have R5 : Hid (Rz u5 (.slice p4 len c4) z) := by rw [hu5]; exact R4.out.allocd _
      have Hu5 := Lib.hid hu5
      have hlt4 : Hid (w.heap.size < w4.heap.size) := Nat.lt_of_lt_of_le (World.block_lt_of_cell? _ _ HK.out.1) b4.size
      have m0 := keep1 E.out HK.out.1
      have m1 := keep1 E.out HK.out.2.1
      have m2 := keepf E.out HK.out.1 HK.out.2.2.1
      have m3 := keepf E.out HK.out.2.1 HK.out.2.2.2
      clear hu5 b4 R4
      go_upto_region 13 with (fail)
      rw [← Hu5.out]
      clear Hu5
      obtain ⟨k0, k1, _⟩ := T5.out
      have g1 : ¬ w.heap.size = w4.heap.size := Nat.ne_of_lt hlt4.out
      have g2 : ¬ w4.heap.size = w.heap.size := Nat.ne_of_gt hlt4.out
      go_region_held3 (fun W' => W'.cell? ⟨w4.heap.size, 0, none⟩ = some (.bool bz) ∧ W'.cell? ⟨w4.heap.size, 1, none⟩ = some (.slice p4 len c4)) (go_keep)
        (first
          | (go_at_call 43; (with_reducible refine (HTX.out _ _ (by first | exact R5.out | exact Ri.drew R5.out)).mono ?_); rintro e w6 ⟨rfl, b6⟩; (try (have b6 := undrew b6)); have p0 := keep1 b6 k0; have p1 := keep1 b6 k1; have q0 := keep1 b6 m0; have q1 := keep1 b6 m1; have q2 := keepf b6 m0 m2; have q3 := keepf b6 m1 m3; have B6 := Lib.hid b6; clear b6)
          | fail)
      all_goals
        have HZ := Lib.hid (below_set2 (chain D5.out B6.out) (Nat.le_refl w.heap.size) (.bool bz) (.slice p4 len c4))
        have HR := Lib.hid ((Ri.below R5.out B6.out (Nat.le_refl _)).set2 (u1 := .bool bz) (u2 := .slice p4 len c4) q0 q1 (fun _ => by simp))
        go_wp2
        exact bodyPost_ret (v := .tuple #[.agg #[.bool bz, .slice p4 len c4], .bool ok]) (by simp [results, Try.results45, go_sem, q0, q1]) rfl (HF.out _ _ ⟨_, rfl, HR.out, HZ.out⟩)

set_option maxRecDepth 100000 in
set_option maxHeartbeats 4000000 in
theorem rparse_pos (s : ByteArray) (w : World) (hs : s.size ≤ 1000) (h0 : 0 < s.size) (h1 : s[0].toNat ≠ 45) :
    Calls Try.prog 45 #[.string s] w (ParseR s s false w) := by
  have HM := Lib.hid (fun v m w h => (rmade_any false v m w h).mono (made_int (z := sg false m) rfl))
  have HT := Lib.hid (fun v xs w h => rtrim_any v xs w h)
  have e3 : ((s[0].toNat : Int) == 45) = false := by simp; omega
  clear h1
  obtain ⟨w0, hw0⟩ : ∃ w0 : World, w0 = w.alloc (.cells #[.bool false, .slice none 0 0] 31) := ⟨_, rfl⟩
  have hb0 : Hid (Below w.heap.size w w0) := by rw [hw0]; exact below_one _ _
  have I2 : Hid (ZC (.bool false) (.slice none 0 0) w0 w.heap.size) := by rw [hw0]; exact ZC.new rfl
  have Hw0 := Lib.hid hw0
  clear hw0
  go_enter Try.func45, Try.ntmps45
  go_wp2_with fail
  rw [← Hw0.out]
  clear Hw0
  go_loopw [6, 7] (fun dv9 iv wr => ∃ (wz : World) (k : Nat), wz = wr ∧ k ≤ s.size ∧ iv = .int .i64 (k : Int) ∧ Hid (∀ j (hj : j < s.size), j < k → 48 ≤ s[j].toNat ∧ s[j].toNat ≤ 57) ∧ Hid (Ri wz dv9 (Nm.dg D9 (dv (s.data.toList.take k) 0))) ∧ Hid (Below w0.heap.size w0 wz))
    (fun _ iv _ => s.size - (intOf iv).toNat)
  case atStart => exact ⟨w0, 0, rfl, Nat.zero_le _, rfl, fun j _ hj => absurd hj (Nat.not_lt_zero _), by rw [List.take_zero]; exact Ri.nil w0, Below.refl _ _⟩
  case round =>
    obtain ⟨wz, k, rfl, hk, rfl, hall, hri, hbl⟩ := hrel
    by_cases hlt : k < s.size
    · obtain ⟨c, hc⟩ : ∃ c : Int, (s[k].toNat : Int) = c := ⟨_, rfl⟩
      by_cases hok : 48 ≤ s[k].toNat ∧ s[k].toNat ≤ 57
      · have hV := dv_take_lt hk hall.out
        have HS := Lib.hid (dv_take s.data.toList k (by exact hlt))
        have hlm := dec_len hV
        obtain ⟨m, hm⟩ : ∃ m, dv (s.data.toList.take k) 0 = m := ⟨_, rfl⟩
        rw [hm] at hri HS hlm hV
        obtain ⟨x, hx⟩ : ∃ x : Nat, s.data.toList[k].toNat - 48 = x := ⟨_, rfl⟩
        have hx9 : x ≤ 9 := by rw [← hx]; have h5 : s.data.toList[k].toNat = s[k].toNat := rfl; omega
        have hx0 : x + 48 = s[k].toNat := by rw [← hx]; have h5 : s.data.toList[k].toNat = s[k].toNat := rfl; omega
        rw [hx] at HS
        have hcx : c - 48 = (x : Int) := by omega
        have hc1 : ¬ c < 48 := by omega
        have hc2 : ¬ 57 < c := by omega
        have hx2 : x < 256 := by omega
        have hwr := wrap_byte hx2
        have hwu : IntKind.u8.wrap (x : Int) = (x : Int) := by rw [byte_wrap, Nat.mod_eq_of_lt hx2]
        have hlm2 : (Nm.dg D9 (m * 10)).length ≤ 1000000 := Nat.le_trans (dec_len (k := k + 1) (by rw [Nat.pow_succ]; exact Nat.mul_lt_mul_of_pos_right hV (by decide))) (by omega)
        have HSM : Hid (∀ v w', Ri w' v (Nm.dg D9 m) → Calls Try.prog 56 #[v, .int .i64 10] w' (GivesI (m * 10) w')) := fun v w' h => rsmall_any v m 10 w' (by decide) h (by omega)
        have HP : Hid (∀ v1 v2 w', Ri w' v1 (Nm.dg D9 (m * 10)) → Ri w' v2 (Nm.dg D9 x) → Calls Try.prog 55 #[v1, v2] w' (GivesI (m * 10 + x) w')) := fun v1 v2 w' h1 h2 => rplus_any v1 v2 (m * 10) x w' h1 h2 hlm2 (Nat.le_trans (dg9_256 (k := 1) hx2) (by decide))
        have HX := Lib.hid (trim_one hx2)
        have hRi := hri.out
        obtain ⟨k0, k1, _⟩ := I2.out.next hbl.out
        have hsz : Hid (w.heap.size < wz.heap.size) := World.block_lt_of_cell? wz _ k0
        have HALL : Hid (∀ j (hj : j < s.size), j < k + 1 → 48 ≤ s[j].toNat ∧ s[j].toNat ≤ 57) := by
          intro j hj hjk
          rcases Nat.lt_or_ge j k with g | g
          · exact hall.out j hj g
          · obtain rfl : j = k := by omega
            exact hok
        clear hm hV hlm hlm2 hx hx0 hok hall
        go_wp2_with fail
        go_region_held3 (fun W' => W'.cell? ⟨w.heap.size, 0, none⟩ = some (.bool false)) (go_keep)
          (first
            | (go_at_call 56; (with_reducible refine (HSM.out _ _ (by first | exact hRi | exact hRi.drew | exact hRi.allocd _ | exact (hRi.allocd _).drew | exact hRi.drew.allocd _)).mono ?_); rintro e w1 ⟨v1, rfl, r1, b1⟩; (try (have b1 := undrew b1)); have d1 : Below wz.heap.size wz w1 := chain (by first | exact Below.refl _ _ | exact (Below.refl _ _).drew | exact below_one _ _ | exact ((Below.refl _ _).drew).alloc (Nat.le_refl _) _) b1; have p1 := keep1 d1 k0; (try (have X1 := Lib.hid ((Ri.one wz x).below b1 (Nat.le_refl _)))); have f1 : w.heap.size < w1.heap.size := Nat.lt_of_lt_of_le hsz.out d1.size; have f2 : ¬ w1.heap.size = w.heap.size := Nat.ne_of_gt f1; have f3 : ¬ w.heap.size = w1.heap.size := Nat.ne_of_lt f1; have G1 := Lib.hid r1)
            | (go_at_call 57; (with_reducible refine (HT.out _ [x] _ (by first | exact X1.out | exact Ri.one w1 x)).mono ?_); rintro e w2 ⟨v2, rfl, r2, rfl⟩; rw [HX.out] at r2; have G2 := Lib.hid r2)
            | (go_at_call 55; (with_reducible refine (HP.out _ _ _ (by first | exact G1.out | exact G1.out.allocd _) G2.out).mono ?_); rintro e w3 ⟨v3, rfl, r3, b3⟩; have d3 : Below wz.heap.size wz w3 := chain d1 (chain (by first | exact Below.refl _ _ | exact below_one _ _) b3); have p1 := keep1 d3 k0; have G3 := Lib.hid r3; have D3 := Lib.hid d3)
            | fail)
        all_goals
          have C3 := Lib.hid (chain hbl.out D3.out)
          rw [Nat.mul_comm m 10, ← HS.out] at G3
          go_wp2
          go_roundw
          case rel => exact ⟨_, k + 1, rfl, by omega, by go_num, HALL.out, G3, C3⟩
          case measure => simp [intOf]; omega
      · have HN : Hid (¬ AllD s) := fun h => hok (h k hlt)
        obtain ⟨m0, m1, m2, m3⟩ := I2.out.next hbl.out
        have HZ := Lib.hid (below_set2 (chain hb0.out hbl.out) (Nat.le_refl w.heap.size) (.bool false) (.slice none 0 0))
        clear hri
        by_cases h48 : c < 48
        · clear hok
          go_wp2
          exact bodyPost_ret (v := .tuple #[.agg #[.bool false, .slice none 0 0], .bool false]) (by simp [results, Try.results45, go_sem, m0, m1]) rfl ⟨Or.inr ⟨HN.out, rfl⟩, HZ.out⟩
        · have h57 : 57 < c := by omega
          clear hok
          go_wp2
          exact bodyPost_ret (v := .tuple #[.agg #[.bool false, .slice none 0 0], .bool false]) (by simp [results, Try.results45, go_sem, m0, m1]) rfl ⟨Or.inr ⟨HN.out, rfl⟩, HZ.out⟩
    · obtain rfl : k = s.size := by omega
      have HAL : Hid (AllD s) := fun j hj => hall.out j hj hj
      have hV := dv_take_lt hk hall.out
      have hRI := hri
      have e0 : s.data.toList.take s.size = s.data.toList := List.take_of_length_le (Nat.le_refl _)
      rw [e0] at hRI hV
      obtain ⟨z, hz⟩ : ∃ z, sg false (decv s) = z := ⟨_, rfl⟩
      have hzl : (Nm.dg D9 z.natAbs).length ≤ 1000000 := by rw [← hz, sg_abs]; exact Nat.le_trans (dec_len hV) (by omega)
      have HTX := Lib.hid (fun v w h => rtext_int z v w h hzl)
      have HM2 : Hid (∀ v w, Ri w v (Nm.dg D9 (dv s.data.toList 0)) → Calls Try.prog 58 #[.bool false, v] w (IntPost z w)) := fun v w h => by
        have h5 := HM.out v _ w h
        have h6 : sg false (dv s.data.toList 0) = z := hz
        rwa [h6] at h5
      have HR0 := Lib.hid hRI.out
      obtain ⟨ok, hok⟩ : ∃ ok, ((tx z).toList == s.toList) = ok := ⟨_, rfl⟩
      have HF : Hid (∀ e w', (∃ v, e = .returned (.tuple #[iV z v, .bool ok]) ∧ Rz w' v z ∧ Below w.heap.size w w') → ParseR s s false w e w') := by
        rintro e w' ⟨v, h1, h2, h3⟩
        refine ⟨Or.inl ⟨HAL.out, v, ?_, ?_⟩, h3⟩
        · rw [hz, hok]; exact h1
        · rw [hz]; exact h2
      have H2 := I2.out.next hbl.out
      have D := Lib.hid (chain hb0.out hbl.out)
      unfold IntPost at HM2
      unfold TextR at HTX
      unfold iV at HM2 HTX HF
      obtain ⟨m0, m1, m2, m3⟩ := H2
      have HK := Lib.hid (And.intro m0 (And.intro m1 (And.intro m2 m3)))
      clear hri hall hV hRI e0 hz hzl HM hk hlt m0 m1 m2 m3
      generalize decide (z < 0) = bz at *
      generalize tx z = tb at *
      go_wp2_with fail
      refine (HM2.out _ _ HR0.out).mono ?_
      rintro e w4 ⟨v4, rfl, r4, b4⟩
      obtain ⟨p4, q4, o4, c4, rfl, hr4⟩ := r4
      have R4 : Hid (Rz w4 (.slice p4 (Nm.dg D9 z.natAbs).length c4) z) := ⟨p4, q4, o4, c4, rfl, hr4⟩
      clear hr4
      generalize (Nm.dg D9 z.natAbs).length = len at *
      obtain ⟨u5, hu5⟩ : ∃ u : World, u = w4.alloc (.cells #[.bool bz, .slice p4 len c4] 31) := ⟨_, rfl⟩
      have E : Hid (Below wz.heap.size wz u5) := by rw [hu5]; exact b4.alloc b4.size _
      have D5 := Lib.hid (chain D.out E.out)
      have T5 : Hid (ZC (.bool bz) (.slice p4 len c4) u5 w4.heap.size) := by rw [hu5]; exact ZC.new rfl
      have R5 : Hid (Rz u5 (.slice p4 len c4) z) := by rw [hu5]; exact R4.out.allocd _
      have Hu5 := Lib.hid hu5
      have hlt4 : Hid (w.heap.size < w4.heap.size) := Nat.lt_of_lt_of_le (World.block_lt_of_cell? _ _ HK.out.1) b4.size
      have m0 := keep1 E.out HK.out.1
      have m1 := keep1 E.out HK.out.2.1
      have m2 := keepf E.out HK.out.1 HK.out.2.2.1
      have m3 := keepf E.out HK.out.2.1 HK.out.2.2.2
      clear hu5 b4 R4
      go_upto_region 13 with (fail)
      rw [← Hu5.out]
      clear Hu5
      obtain ⟨k0, k1, _⟩ := T5.out
      have g1 : ¬ w.heap.size = w4.heap.size := Nat.ne_of_lt hlt4.out
      have g2 : ¬ w4.heap.size = w.heap.size := Nat.ne_of_gt hlt4.out
      go_region_held3 (fun W' => W'.cell? ⟨w4.heap.size, 0, none⟩ = some (.bool bz) ∧ W'.cell? ⟨w4.heap.size, 1, none⟩ = some (.slice p4 len c4)) (go_keep)
        (first
          | (go_at_call 43; (with_reducible refine (HTX.out _ _ (by first | exact R5.out | exact Ri.drew R5.out)).mono ?_); rintro e w6 ⟨rfl, b6⟩; (try (have b6 := undrew b6)); have p0 := keep1 b6 k0; have p1 := keep1 b6 k1; have q0 := keep1 b6 m0; have q1 := keep1 b6 m1; have q2 := keepf b6 m0 m2; have q3 := keepf b6 m1 m3; have B6 := Lib.hid b6; clear b6)
          | fail)
      all_goals
        have HZ := Lib.hid (below_set2 (chain D5.out B6.out) (Nat.le_refl w.heap.size) (.bool bz) (.slice p4 len c4))
        have HR := Lib.hid ((Ri.below R5.out B6.out (Nat.le_refl _)).set2 (u1 := .bool bz) (u2 := .slice p4 len c4) q0 q1 (fun _ => by simp))
        go_wp2
        exact bodyPost_ret (v := .tuple #[.agg #[.bool bz, .slice p4 len c4], .bool ok]) (by simp [results, Try.results45, go_sem, q0, q1]) rfl (HF.out _ _ ⟨_, rfl, HR.out, HZ.out⟩)
end Go.Proofs.Ytlmklhffafcmmaa

/- The law WideTexts: the walk over what its calls give. -/
namespace Go.Proofs.Ytlmklhffafcmmaa
open Go.RowKit

set_option maxRecDepth 100000 in
set_option maxHeartbeats 8000000 in
theorem texts_long1 (a : Bool) (s t : ByteArray) (w : World) (hsh : shortL [(a, s)] = false) :
    Calls Try.prog 8 #[.agg #[.bool a, .string s], .string t] w (Ret (.bool true) w) := by
  have H_known := Lib.hid known_true
  obtain ⟨w0, hw0⟩ : ∃ w0 : World, w0 = (w.alloc (.cells #[.bool a, .string s] 23)).alloc (.cells #[.bool a, .string s] 23) := ⟨_, rfl⟩
  have hb0 : Hid (Below w.heap.size w w0) := by rw [hw0]; exact ((Below.refl _ _).alloc (Nat.le_refl _) _).alloc (by simp) _
  have I1 : Hid (ZC (.bool a) (.string s) w0 w.heap.size) := by rw [hw0]; exact (ZC.new rfl).alloc _
  have HSH := short_any [(a, s)] 1 (w.heap.size + 1) w0 rfl (by decide) (by rw [hw0]; have := WL.one (w.alloc (.cells #[.bool a, .string s] 23)) a s 23; simpa using this)
  rw [hsh] at HSH
  have HSh := Lib.hid HSH
  have Hw0 := Lib.hid hw0
  clear HSH hw0 hsh
  unfold Ret at *
  unfold BPost at HSh
  go_enter Try.func8, Try.ntmps8
  go_wp2_with fail
  rw [← Hw0.out]
  refine HSh.out.mono ?_
  rintro e x0 ⟨rfl, b0⟩
  have D := Lib.hid b0
  clear b0
  go_wp2_with fail
  refine (H_known.out _).mono ?_
  rintro e x1 ⟨rfl, b1⟩
  have HZ := Lib.hid (chain hb0.out (chain D.out b1))
  clear b1
  go_wp2
  go_ret
  exact ⟨rfl, HZ.out⟩

set_option maxRecDepth 100000 in
set_option maxHeartbeats 8000000 in
theorem texts_long2 (a : Bool) (s t : ByteArray) (w : World) (hsh : shortL [(a, s)] = true) (ht : 200 < t.size) :
    Calls Try.prog 8 #[.agg #[.bool a, .string s], .string t] w (Ret (.bool true) w) := by
  have H_known := Lib.hid known_true
  obtain ⟨w0, hw0⟩ : ∃ w0 : World, w0 = (w.alloc (.cells #[.bool a, .string s] 23)).alloc (.cells #[.bool a, .string s] 23) := ⟨_, rfl⟩
  have hb0 : Hid (Below w.heap.size w w0) := by rw [hw0]; exact ((Below.refl _ _).alloc (Nat.le_refl _) _).alloc (by simp) _
  have I1 : Hid (ZC (.bool a) (.string s) w0 w.heap.size) := by rw [hw0]; exact (ZC.new rfl).alloc _
  have HSH := short_any [(a, s)] 1 (w.heap.size + 1) w0 rfl (by decide) (by rw [hw0]; have := WL.one (w.alloc (.cells #[.bool a, .string s] 23)) a s 23; simpa using this)
  rw [hsh] at HSH
  have HSh := Lib.hid HSH
  have Hw0 := Lib.hid hw0
  clear HSH hw0 hsh
  unfold Ret at *
  unfold BPost at HSh
  go_enter Try.func8, Try.ntmps8
  go_wp2_with fail
  rw [← Hw0.out]
  refine HSh.out.mono ?_
  rintro e x0 ⟨rfl, b0⟩
  have D := Lib.hid b0
  clear b0
  go_wp2_with fail
  refine (H_known.out _).mono ?_
  rintro e x1 ⟨rfl, b1⟩
  have HZ := Lib.hid (chain hb0.out (chain D.out b1))
  clear b1
  go_wp2
  go_ret
  exact ⟨rfl, HZ.out⟩

set_option maxRecDepth 100000 in
set_option maxHeartbeats 8000000 in
theorem texts_inv_bad (a : Bool) (s t : ByteArray) (w : World) (l1 : s.size ≤ 60) (hsh : shortL [(a, s)] = true) (hvl : validL [(a, s)] = false) (lt : t.size ≤ 200)
    (h_t : ∀ w, Calls Try.prog 42 #[.agg #[.bool a, .string s]] w fun e w' => e = .returned (.tuple #[.string ⟨#[]⟩, .int .i64 2]) ∧ Below w.heap.size w w')
    (h_p : ∀ w, Calls Try.prog 44 #[.string t] w fun e w' => e = .returned (.tuple #[.agg #[.bool false, .string ⟨#[]⟩], .int .i64 6]) ∧ Below w.heap.size w w')
    (h_rp : ∀ w, Calls Try.prog 45 #[.string t] w fun e w' => ∃ b p n c, e = .returned (.tuple #[.agg #[.bool b, .slice p n c], .bool false]) ∧ Below w.heap.size w w') :
    Calls Try.prog 8 #[.agg #[.bool a, .string s], .string t] w (Ret (.bool true) w) := by
  have H_t := Lib.hid h_t
  have H_p := Lib.hid h_p
  have H_rp := Lib.hid h_rp
  clear h_t h_p h_rp
  have H_known := Lib.hid known_true
  obtain ⟨w0, hw0⟩ : ∃ w0 : World, w0 = (w.alloc (.cells #[.bool a, .string s] 23)).alloc (.cells #[.bool a, .string s] 23) := ⟨_, rfl⟩
  have hb0 : Hid (Below w.heap.size w w0) := by rw [hw0]; exact ((Below.refl _ _).alloc (Nat.le_refl _) _).alloc (by simp) _
  have I1 : Hid (ZC (.bool a) (.string s) w0 w.heap.size) := by rw [hw0]; exact (ZC.new rfl).alloc _
  have HSH := short_any [(a, s)] 1 (w.heap.size + 1) w0 rfl (by decide) (by rw [hw0]; have := WL.one (w.alloc (.cells #[.bool a, .string s] 23)) a s 23; simpa using this)
  rw [hsh] at HSH
  have H_val := Lib.hid (fun g w h => valid_any [(a, s)] 1 g w rfl (by decide) h (by intro x hx; simp at hx; subst hx; show _ ≤ _; simp; omega))
  rw [hvl] at H_val
  unfold BPost at H_val
  clear hvl
  have HSh := Lib.hid HSH
  have Hw0 := Lib.hid hw0
  clear HSH hw0 hsh
  unfold Ret at *
  unfold BPost at HSh
  go_enter Try.func8, Try.ntmps8
  go_wp2_with fail
  rw [← Hw0.out]
  refine HSh.out.mono ?_
  rintro e x0 ⟨rfl, b0⟩
  have D := Lib.hid b0
  clear b0
  obtain ⟨k0, k1, _⟩ := I1.out.next D.out
  go_wp2_with fail
  refine (H_t.out _).mono ?_
  rintro e y ⟨rfl, b9⟩
  have D := Lib.hid (chain D.out b9)
  clear b9
  clear k0 k1
  obtain ⟨k0, k1, _⟩ := I1.out.next D.out
  go_wp2_with fail
  refine (H_val.out _ _ (WL.one _ _ _ _)).mono ?_
  rintro e y ⟨rfl, b9⟩
  have E := Lib.hid (chain (below_one _ _) b9)
  have D := Lib.hid (chain D.out E.out)
  clear b9 E
  clear k0 k1
  go_wp2_with fail
  refine (H_p.out _).mono ?_
  rintro e y7 ⟨rfl, b9⟩
  obtain ⟨u7, hu7⟩ : ∃ u : World, u = y7.alloc (.cells #[.bool false, .string ⟨#[]⟩] 23) := ⟨_, rfl⟩
  have D := Lib.hid (chain D.out (show Below _ _ u7 by rw [hu7]; exact b9.alloc b9.size _))
  have T7 : Hid (ZC (.bool false) (.string ⟨#[]⟩) u7 y7.heap.size) := by rw [hu7]; exact ZC.new rfl
  have Hu7 := Lib.hid hu7
  clear hu7 b9
  go_upto_region 10 with (fail)
  rw [← Hu7.out]
  clear Hu7
  go_wp2_with fail
  refine (H_rp.out _).mono ?_
  rintro e y9 ⟨i9, q9, n9, c9, rfl, b9⟩
  obtain ⟨u9, hu9⟩ : ∃ u : World, u = y9.alloc (.cells #[.bool i9, .slice q9 n9 c9] 31) := ⟨_, rfl⟩
  have E : Hid (Below u7.heap.size u7 u9) := by rw [hu9]; exact b9.alloc b9.size _
  have D := Lib.hid (chain D.out E.out)
  have T7 := Lib.hid (T7.out.next E.out)
  have T9 : Hid (ZC (.bool i9) (.slice q9 n9 c9) u9 y9.heap.size) := by rw [hu9]; exact ZC.new rfl
  have Hu9 := Lib.hid hu9
  clear hu9 b9 E
  go_upto_region 11 with (fail)
  rw [← Hu9.out]
  clear Hu9
  obtain ⟨k2, k3, _⟩ := T7.out
  obtain ⟨k4, k5, _⟩ := T9.out
  go_wp2_with fail
  refine (H_known.out _).mono ?_
  rintro e x1 ⟨rfl, b1⟩
  have HZ := Lib.hid (chain hb0.out (chain D.out b1))
  clear b1
  go_wp2
  go_ret
  exact ⟨rfl, HZ.out⟩

set_option maxRecDepth 100000 in
set_option maxHeartbeats 8000000 in
theorem texts_inv_ok (a : Bool) (s t : ByteArray) (w : World) (l1 : s.size ≤ 60) (hsh : shortL [(a, s)] = true) (hvl : validL [(a, s)] = false) (lt : t.size ≤ 200) (pb9 : Bool) (ps : ByteArray) (z : Int)
    (h_t : ∀ w, Calls Try.prog 42 #[.agg #[.bool a, .string s]] w fun e w' => e = .returned (.tuple #[.string ⟨#[]⟩, .int .i64 2]) ∧ Below w.heap.size w w')
    (h_p : ∀ w, Calls Try.prog 44 #[.string t] w fun e w' => e = .returned (.tuple #[.agg #[.bool pb9, .string ps], .int .i64 0]) ∧ Below w.heap.size w w')
    (h_rp : ∀ w, Calls Try.prog 45 #[.string t] w fun e w' => ∃ v, e = .returned (.tuple #[iV z v, .bool true]) ∧ Rz w' v z ∧ Below w.heap.size w w')
    (h_to : ∀ v w, Rz w v z → Calls Try.prog 46 #[iV z v] w fun e w' => e = .returned (.agg #[.bool pb9, .string ps]) ∧ Below w.heap.size w w') :
    Calls Try.prog 8 #[.agg #[.bool a, .string s], .string t] w (Ret (.bool true) w) := by
  have H_t := Lib.hid h_t
  have H_p := Lib.hid h_p
  have H_rp := Lib.hid h_rp
  have H_to := Lib.hid h_to
  clear h_t h_p h_rp h_to
  have H_known := Lib.hid known_true
  obtain ⟨w0, hw0⟩ : ∃ w0 : World, w0 = (w.alloc (.cells #[.bool a, .string s] 23)).alloc (.cells #[.bool a, .string s] 23) := ⟨_, rfl⟩
  have hb0 : Hid (Below w.heap.size w w0) := by rw [hw0]; exact ((Below.refl _ _).alloc (Nat.le_refl _) _).alloc (by simp) _
  have I1 : Hid (ZC (.bool a) (.string s) w0 w.heap.size) := by rw [hw0]; exact (ZC.new rfl).alloc _
  have HSH := short_any [(a, s)] 1 (w.heap.size + 1) w0 rfl (by decide) (by rw [hw0]; have := WL.one (w.alloc (.cells #[.bool a, .string s] 23)) a s 23; simpa using this)
  rw [hsh] at HSH
  have H_val := Lib.hid (fun g w h => valid_any [(a, s)] 1 g w rfl (by decide) h (by intro x hx; simp at hx; subst hx; show _ ≤ _; simp; omega))
  rw [hvl] at H_val
  unfold BPost at H_val
  clear hvl
  have HSh := Lib.hid HSH
  have Hw0 := Lib.hid hw0
  clear HSH hw0 hsh
  unfold Ret at *
  unfold BPost at HSh
  go_enter Try.func8, Try.ntmps8
  go_wp2_with fail
  rw [← Hw0.out]
  refine HSh.out.mono ?_
  rintro e x0 ⟨rfl, b0⟩
  have D := Lib.hid b0
  clear b0
  obtain ⟨k0, k1, _⟩ := I1.out.next D.out
  go_wp2_with fail
  refine (H_t.out _).mono ?_
  rintro e y ⟨rfl, b9⟩
  have D := Lib.hid (chain D.out b9)
  clear b9
  clear k0 k1
  obtain ⟨k0, k1, _⟩ := I1.out.next D.out
  go_wp2_with fail
  refine (H_val.out _ _ (WL.one _ _ _ _)).mono ?_
  rintro e y ⟨rfl, b9⟩
  have E := Lib.hid (chain (below_one _ _) b9)
  have D := Lib.hid (chain D.out E.out)
  clear b9 E
  clear k0 k1
  go_wp2_with fail
  refine (H_p.out _).mono ?_
  rintro e y7 ⟨rfl, b9⟩
  obtain ⟨u7, hu7⟩ : ∃ u : World, u = y7.alloc (.cells #[.bool pb9, .string ps] 23) := ⟨_, rfl⟩
  have D := Lib.hid (chain D.out (show Below _ _ u7 by rw [hu7]; exact b9.alloc b9.size _))
  have T7 : Hid (ZC (.bool pb9) (.string ps) u7 y7.heap.size) := by rw [hu7]; exact ZC.new rfl
  have Hu7 := Lib.hid hu7
  clear hu7 b9
  go_upto_region 10 with (fail)
  rw [← Hu7.out]
  clear Hu7
  go_wp2_with fail
  refine (H_rp.out _).mono ?_
  rintro e y9 ⟨v9, rfl, r9, b9⟩
  obtain ⟨q9, bb9, o9, c9, rfl, rr9⟩ := r9
  have R9 : Hid (Rz y9 (.slice q9 (Nm.dg D9 z.natAbs).length c9) z) := ⟨q9, bb9, o9, c9, rfl, rr9⟩
  clear rr9
  unfold iV at H_to ⊢
  generalize (Nm.dg D9 z.natAbs).length = n9 at *
  generalize decide (z < 0) = i9 at *
  obtain ⟨u9, hu9⟩ : ∃ u : World, u = y9.alloc (.cells #[.bool i9, .slice q9 n9 c9] 31) := ⟨_, rfl⟩
  have E : Hid (Below u7.heap.size u7 u9) := by rw [hu9]; exact b9.alloc b9.size _
  have D := Lib.hid (chain D.out E.out)
  have T7 := Lib.hid (T7.out.next E.out)
  have T9 : Hid (ZC (.bool i9) (.slice q9 n9 c9) u9 y9.heap.size) := by rw [hu9]; exact ZC.new rfl
  have R9 : Hid (Rz u9 (.slice q9 n9 c9) z) := by rw [hu9]; exact R9.out.allocd _
  have Hu9 := Lib.hid hu9
  clear hu9 b9 E
  go_upto_region 11 with (fail)
  rw [← Hu9.out]
  clear Hu9
  obtain ⟨k2, k3, _⟩ := T7.out
  obtain ⟨k4, k5, _⟩ := T9.out
  go_wp2_with fail
  go_region_held3 (fun W' => W'.cell? ⟨y7.heap.size, 0, none⟩ = some (.bool pb9) ∧ W'.cell? ⟨y7.heap.size, 1, none⟩ = some (.string ps) ∧ W'.cell? ⟨y9.heap.size, 0, none⟩ = some (.bool i9) ∧ W'.cell? ⟨y9.heap.size, 1, none⟩ = some (.slice q9 n9 c9)) (go_keep)
    (first
      | (go_at_call 46; (with_reducible refine (H_to.out _ _ (by first | exact R9.out | exact Ri.drew R9.out)).mono ?_); rintro e y ⟨rfl, b9⟩; have E := Lib.hid (show Below u9.heap.size u9 y by first | exact b9 | exact undrew b9 | exact chain ((Below.refl _ _).drew) b9); have p2 := keep1 E.out k2; have p3 := keep1 E.out k3; have p4 := keep1 E.out k4; have p5 := keep1 E.out k5; clear b9)
      | (go_at_call 12; (with_reducible refine (H_known.out _).mono ?_); rintro e y ⟨rfl, b9⟩; have E := Lib.hid (chain E.out b9); have p2 := keep1 E.out k2; have p3 := keep1 E.out k3; have p4 := keep1 E.out k4; have p5 := keep1 E.out k5; clear b9)
      | fail)
  have HZ := Lib.hid (chain hb0.out (chain D.out E.out))
  go_wp2
  go_ret
  exact ⟨rfl, HZ.out⟩

set_option maxRecDepth 100000 in
set_option maxHeartbeats 8000000 in
theorem texts_val_bad (a : Bool) (s t : ByteArray) (w : World) (l1 : s.size ≤ 60) (hsh : shortL [(a, s)] = true) (hvl : validL [(a, s)] = true) (lt : t.size ≤ 200) (x : Int) (tt : ByteArray)
    (h_t : ∀ w, Calls Try.prog 42 #[.agg #[.bool a, .string s]] w fun e w' => e = .returned (.tuple #[.string tt, .int .i64 0]) ∧ Below w.heap.size w w')
    (h_f : ∀ w, Calls Try.prog 18 #[.agg #[.bool a, .string s]] w (IntPost x w))
    (h_rt : ∀ v w, Rz w v x → Calls Try.prog 43 #[iV x v] w fun e w' => e = .returned (.string tt) ∧ Below w.heap.size w w')
    (h_p : ∀ w, Calls Try.prog 44 #[.string t] w fun e w' => e = .returned (.tuple #[.agg #[.bool false, .string ⟨#[]⟩], .int .i64 6]) ∧ Below w.heap.size w w')
    (h_rp : ∀ w, Calls Try.prog 45 #[.string t] w fun e w' => ∃ b p n c, e = .returned (.tuple #[.agg #[.bool b, .slice p n c], .bool false]) ∧ Below w.heap.size w w') :
    Calls Try.prog 8 #[.agg #[.bool a, .string s], .string t] w (Ret (.bool true) w) := by
  have H_t := Lib.hid h_t
  have H_f := Lib.hid h_f
  have H_rt := Lib.hid h_rt
  have H_p := Lib.hid h_p
  have H_rp := Lib.hid h_rp
  clear h_t h_f h_rt h_p h_rp
  unfold IntPost at H_f
  unfold iV at H_f H_rt
  generalize decide (x < 0) = bx at *
  have H_known := Lib.hid known_true
  obtain ⟨w0, hw0⟩ : ∃ w0 : World, w0 = (w.alloc (.cells #[.bool a, .string s] 23)).alloc (.cells #[.bool a, .string s] 23) := ⟨_, rfl⟩
  have hb0 : Hid (Below w.heap.size w w0) := by rw [hw0]; exact ((Below.refl _ _).alloc (Nat.le_refl _) _).alloc (by simp) _
  have I1 : Hid (ZC (.bool a) (.string s) w0 w.heap.size) := by rw [hw0]; exact (ZC.new rfl).alloc _
  have HSH := short_any [(a, s)] 1 (w.heap.size + 1) w0 rfl (by decide) (by rw [hw0]; have := WL.one (w.alloc (.cells #[.bool a, .string s] 23)) a s 23; simpa using this)
  rw [hsh] at HSH
  have H_val := Lib.hid (fun g w h => valid_any [(a, s)] 1 g w rfl (by decide) h (by intro x hx; simp at hx; subst hx; show _ ≤ _; simp; omega))
  rw [hvl] at H_val
  unfold BPost at H_val
  clear hvl
  have HSh := Lib.hid HSH
  have Hw0 := Lib.hid hw0
  clear HSH hw0 hsh
  unfold Ret at *
  unfold BPost at HSh
  go_enter Try.func8, Try.ntmps8
  go_wp2_with fail
  rw [← Hw0.out]
  refine HSh.out.mono ?_
  rintro e x0 ⟨rfl, b0⟩
  have D := Lib.hid b0
  clear b0
  obtain ⟨k0, k1, _⟩ := I1.out.next D.out
  go_wp2_with fail
  refine (H_t.out _).mono ?_
  rintro e y ⟨rfl, b9⟩
  have D := Lib.hid (chain D.out b9)
  clear b9
  clear k0 k1
  obtain ⟨k0, k1, _⟩ := I1.out.next D.out
  go_wp2_with fail
  refine (H_val.out _ _ (WL.one _ _ _ _)).mono ?_
  rintro e y ⟨rfl, b9⟩
  have E := Lib.hid (chain (below_one _ _) b9)
  have D := Lib.hid (chain D.out E.out)
  clear b9 E
  clear k0 k1
  obtain ⟨k0, k1, _⟩ := I1.out.next D.out
  go_wp2_with fail
  refine (H_f.out _).mono ?_
  rintro e y1 ⟨v1, rfl, r1, b9⟩
  have D := Lib.hid (chain D.out b9)
  have R1 := Lib.hid r1
  obtain ⟨q1, bb1, o1, c1, rfl, rr1⟩ := r1
  clear rr1 b9
  clear k0 k1
  go_wp2_with fail
  refine (H_rt.out _ _ R1.out).mono ?_
  rintro e y2 ⟨rfl, b9⟩
  have D := Lib.hid (chain D.out b9)
  clear b9
  go_wp2_with fail
  refine (H_p.out _).mono ?_
  rintro e y7 ⟨rfl, b9⟩
  obtain ⟨u7, hu7⟩ : ∃ u : World, u = y7.alloc (.cells #[.bool false, .string ⟨#[]⟩] 23) := ⟨_, rfl⟩
  have D := Lib.hid (chain D.out (show Below _ _ u7 by rw [hu7]; exact b9.alloc b9.size _))
  have T7 : Hid (ZC (.bool false) (.string ⟨#[]⟩) u7 y7.heap.size) := by rw [hu7]; exact ZC.new rfl
  have Hu7 := Lib.hid hu7
  clear hu7 b9
  go_upto_region 10 with (fail)
  rw [← Hu7.out]
  clear Hu7
  go_wp2_with fail
  refine (H_rp.out _).mono ?_
  rintro e y9 ⟨i9, q9, n9, c9, rfl, b9⟩
  obtain ⟨u9, hu9⟩ : ∃ u : World, u = y9.alloc (.cells #[.bool i9, .slice q9 n9 c9] 31) := ⟨_, rfl⟩
  have E : Hid (Below u7.heap.size u7 u9) := by rw [hu9]; exact b9.alloc b9.size _
  have D := Lib.hid (chain D.out E.out)
  have T7 := Lib.hid (T7.out.next E.out)
  have T9 : Hid (ZC (.bool i9) (.slice q9 n9 c9) u9 y9.heap.size) := by rw [hu9]; exact ZC.new rfl
  have Hu9 := Lib.hid hu9
  clear hu9 b9 E
  go_upto_region 11 with (fail)
  rw [← Hu9.out]
  clear Hu9
  obtain ⟨k2, k3, _⟩ := T7.out
  obtain ⟨k4, k5, _⟩ := T9.out
  go_wp2_with fail
  refine (H_known.out _).mono ?_
  rintro e x1 ⟨rfl, b1⟩
  have HZ := Lib.hid (chain hb0.out (chain D.out b1))
  clear b1
  go_wp2
  go_ret
  exact ⟨rfl, HZ.out⟩

set_option maxRecDepth 100000 in
set_option maxHeartbeats 8000000 in
theorem texts_val_ok (a : Bool) (s t : ByteArray) (w : World) (l1 : s.size ≤ 60) (hsh : shortL [(a, s)] = true) (hvl : validL [(a, s)] = true) (lt : t.size ≤ 200) (x : Int) (tt : ByteArray) (pb9 : Bool) (ps : ByteArray) (z : Int)
    (h_t : ∀ w, Calls Try.prog 42 #[.agg #[.bool a, .string s]] w fun e w' => e = .returned (.tuple #[.string tt, .int .i64 0]) ∧ Below w.heap.size w w')
    (h_f : ∀ w, Calls Try.prog 18 #[.agg #[.bool a, .string s]] w (IntPost x w))
    (h_rt : ∀ v w, Rz w v x → Calls Try.prog 43 #[iV x v] w fun e w' => e = .returned (.string tt) ∧ Below w.heap.size w w')
    (h_p : ∀ w, Calls Try.prog 44 #[.string t] w fun e w' => e = .returned (.tuple #[.agg #[.bool pb9, .string ps], .int .i64 0]) ∧ Below w.heap.size w w')
    (h_rp : ∀ w, Calls Try.prog 45 #[.string t] w fun e w' => ∃ v, e = .returned (.tuple #[iV z v, .bool true]) ∧ Rz w' v z ∧ Below w.heap.size w w')
    (h_to : ∀ v w, Rz w v z → Calls Try.prog 46 #[iV z v] w fun e w' => e = .returned (.agg #[.bool pb9, .string ps]) ∧ Below w.heap.size w w') :
    Calls Try.prog 8 #[.agg #[.bool a, .string s], .string t] w (Ret (.bool true) w) := by
  have H_t := Lib.hid h_t
  have H_f := Lib.hid h_f
  have H_rt := Lib.hid h_rt
  have H_p := Lib.hid h_p
  have H_rp := Lib.hid h_rp
  have H_to := Lib.hid h_to
  clear h_t h_f h_rt h_p h_rp h_to
  unfold IntPost at H_f
  unfold iV at H_f H_rt
  generalize decide (x < 0) = bx at *
  have H_known := Lib.hid known_true
  obtain ⟨w0, hw0⟩ : ∃ w0 : World, w0 = (w.alloc (.cells #[.bool a, .string s] 23)).alloc (.cells #[.bool a, .string s] 23) := ⟨_, rfl⟩
  have hb0 : Hid (Below w.heap.size w w0) := by rw [hw0]; exact ((Below.refl _ _).alloc (Nat.le_refl _) _).alloc (by simp) _
  have I1 : Hid (ZC (.bool a) (.string s) w0 w.heap.size) := by rw [hw0]; exact (ZC.new rfl).alloc _
  have HSH := short_any [(a, s)] 1 (w.heap.size + 1) w0 rfl (by decide) (by rw [hw0]; have := WL.one (w.alloc (.cells #[.bool a, .string s] 23)) a s 23; simpa using this)
  rw [hsh] at HSH
  have H_val := Lib.hid (fun g w h => valid_any [(a, s)] 1 g w rfl (by decide) h (by intro x hx; simp at hx; subst hx; show _ ≤ _; simp; omega))
  rw [hvl] at H_val
  unfold BPost at H_val
  clear hvl
  have HSh := Lib.hid HSH
  have Hw0 := Lib.hid hw0
  clear HSH hw0 hsh
  unfold Ret at *
  unfold BPost at HSh
  go_enter Try.func8, Try.ntmps8
  go_wp2_with fail
  rw [← Hw0.out]
  refine HSh.out.mono ?_
  rintro e x0 ⟨rfl, b0⟩
  have D := Lib.hid b0
  clear b0
  obtain ⟨k0, k1, _⟩ := I1.out.next D.out
  go_wp2_with fail
  refine (H_t.out _).mono ?_
  rintro e y ⟨rfl, b9⟩
  have D := Lib.hid (chain D.out b9)
  clear b9
  clear k0 k1
  obtain ⟨k0, k1, _⟩ := I1.out.next D.out
  go_wp2_with fail
  refine (H_val.out _ _ (WL.one _ _ _ _)).mono ?_
  rintro e y ⟨rfl, b9⟩
  have E := Lib.hid (chain (below_one _ _) b9)
  have D := Lib.hid (chain D.out E.out)
  clear b9 E
  clear k0 k1
  obtain ⟨k0, k1, _⟩ := I1.out.next D.out
  go_wp2_with fail
  refine (H_f.out _).mono ?_
  rintro e y1 ⟨v1, rfl, r1, b9⟩
  have D := Lib.hid (chain D.out b9)
  have R1 := Lib.hid r1
  obtain ⟨q1, bb1, o1, c1, rfl, rr1⟩ := r1
  clear rr1 b9
  clear k0 k1
  go_wp2_with fail
  refine (H_rt.out _ _ R1.out).mono ?_
  rintro e y2 ⟨rfl, b9⟩
  have D := Lib.hid (chain D.out b9)
  clear b9
  go_wp2_with fail
  refine (H_p.out _).mono ?_
  rintro e y7 ⟨rfl, b9⟩
  obtain ⟨u7, hu7⟩ : ∃ u : World, u = y7.alloc (.cells #[.bool pb9, .string ps] 23) := ⟨_, rfl⟩
  have D := Lib.hid (chain D.out (show Below _ _ u7 by rw [hu7]; exact b9.alloc b9.size _))
  have T7 : Hid (ZC (.bool pb9) (.string ps) u7 y7.heap.size) := by rw [hu7]; exact ZC.new rfl
  have Hu7 := Lib.hid hu7
  clear hu7 b9
  go_upto_region 10 with (fail)
  rw [← Hu7.out]
  clear Hu7
  go_wp2_with fail
  refine (H_rp.out _).mono ?_
  rintro e y9 ⟨v9, rfl, r9, b9⟩
  obtain ⟨q9, bb9, o9, c9, rfl, rr9⟩ := r9
  have R9 : Hid (Rz y9 (.slice q9 (Nm.dg D9 z.natAbs).length c9) z) := ⟨q9, bb9, o9, c9, rfl, rr9⟩
  clear rr9
  unfold iV at H_to ⊢
  generalize (Nm.dg D9 z.natAbs).length = n9 at *
  generalize decide (z < 0) = i9 at *
  obtain ⟨u9, hu9⟩ : ∃ u : World, u = y9.alloc (.cells #[.bool i9, .slice q9 n9 c9] 31) := ⟨_, rfl⟩
  have E : Hid (Below u7.heap.size u7 u9) := by rw [hu9]; exact b9.alloc b9.size _
  have D := Lib.hid (chain D.out E.out)
  have T7 := Lib.hid (T7.out.next E.out)
  have T9 : Hid (ZC (.bool i9) (.slice q9 n9 c9) u9 y9.heap.size) := by rw [hu9]; exact ZC.new rfl
  have R9 : Hid (Rz u9 (.slice q9 n9 c9) z) := by rw [hu9]; exact R9.out.allocd _
  have Hu9 := Lib.hid hu9
  clear hu9 b9 E
  go_upto_region 11 with (fail)
  rw [← Hu9.out]
  clear Hu9
  obtain ⟨k2, k3, _⟩ := T7.out
  obtain ⟨k4, k5, _⟩ := T9.out
  go_wp2_with fail
  go_region_held3 (fun W' => W'.cell? ⟨y7.heap.size, 0, none⟩ = some (.bool pb9) ∧ W'.cell? ⟨y7.heap.size, 1, none⟩ = some (.string ps) ∧ W'.cell? ⟨y9.heap.size, 0, none⟩ = some (.bool i9) ∧ W'.cell? ⟨y9.heap.size, 1, none⟩ = some (.slice q9 n9 c9)) (go_keep)
    (first
      | (go_at_call 46; (with_reducible refine (H_to.out _ _ (by first | exact R9.out | exact Ri.drew R9.out)).mono ?_); rintro e y ⟨rfl, b9⟩; have E := Lib.hid (show Below u9.heap.size u9 y by first | exact b9 | exact undrew b9 | exact chain ((Below.refl _ _).drew) b9); have p2 := keep1 E.out k2; have p3 := keep1 E.out k3; have p4 := keep1 E.out k4; have p5 := keep1 E.out k5; clear b9)
      | (go_at_call 12; (with_reducible refine (H_known.out _).mono ?_); rintro e y ⟨rfl, b9⟩; have E := Lib.hid (chain E.out b9); have p2 := keep1 E.out k2; have p3 := keep1 E.out k3; have p4 := keep1 E.out k4; have p5 := keep1 E.out k5; clear b9)
      | fail)
  have HZ := Lib.hid (chain hb0.out (chain D.out E.out))
  go_wp2
  go_ret
  exact ⟨rfl, HZ.out⟩
end Go.Proofs.Ytlmklhffafcmmaa

/- The law WideTexts gives true. -/
namespace Go.Proofs.Ytlmklhffafcmmaa
open Go.RowKit

/-- The letters come back. -/
theorem letters_back (l : List UInt8) (h : ∀ x ∈ l, 48 ≤ x.toNat ∧ x.toNat ≤ 57) : (asc ((l.map fun x => x.toNat - 48).reverse)).reverse.map UInt8.ofNat = l := by
  unfold asc
  rw [← List.map_reverse, List.reverse_reverse, List.map_map, List.map_map]
  conv => rhs; rw [← List.map_id l]
  refine List.map_congr_left fun x hx => ?_
  have h1 := h x hx
  show UInt8.ofNat (48 + (x.toNat - 48)) = x
  rw [show 48 + (x.toNat - 48) = x.toNat by omega]
  simp
theorem tl_inv (x : UInt8) (r : List UInt8) (h : ∀ y ∈ x :: r, 48 ≤ y.toNat ∧ y.toNat ≤ 57) (hx : x.toNat ≠ 48) : tl (dv (x :: r) 0) = x :: r ∧ dv (x :: r) 0 ≠ 0 := by
  obtain ⟨D, hD⟩ : ∃ D, ((x :: r).map fun x => x.toNat - 48).reverse = D := ⟨_, rfl⟩
  have hb := letters_back (x :: r) h
  rw [hD] at hb
  have d1 : Nm.Dig 10 D := by
    intro y hy
    rw [← hD, List.mem_reverse, List.mem_map] at hy
    obtain ⟨u, hu, rfl⟩ := hy
    have := h u hu
    omega
  have n1 : Nm.Nrm D := by
    rw [← hD, List.map_cons, List.reverse_cons]
    have := h x (by simp)
    exact Nm.nrm_snoc _ _ (by omega)
  have v1 := dv_asc D d1
  rw [hb] at v1
  have e1 := Nm.eq_dg (B := 10) (by decide) d1 n1
  refine ⟨?_, fun h0 => ?_⟩
  · rw [v1, tl, ← e1, hb]
  · rw [h0] at v1
    rw [← v1, Nm.dg_zero] at e1
    rw [e1] at hD
    simp at hD
/-- A decimal text is the text of its integer. -/
theorem tx_back {t : ByteArray} (h : DecT t) : tx (sg (dneg t) (decv (ds t))) = t := by
  have hall := decT_all h
  rcases h with h | ⟨⟨h0, h1⟩, _⟩
  · rw [ByteArray.toList_eq] at h
    have e : t = ⟨#[48]⟩ := by
      apply ByteArray.ext
      apply Array.toList_inj.1
      exact h
    subst e
    rfl
  · obtain ⟨x, r, hl⟩ : ∃ x r, (ds t).data.toList = x :: r := by
      cases hl : (ds t).data.toList with
      | nil => have : (ds t).data.toList.length = (ds t).size := rfl; rw [hl] at this; simp at this; omega
      | cons x r => exact ⟨x, r, rfl⟩
    have hx : x.toNat ≠ 48 := by
      have e : (ds t)[0] = x := by
        show (ds t).data.toList[0] = x
        simp [hl]
      rwa [e] at h1
    have hm : ∀ y ∈ x :: r, 48 ≤ y.toNat ∧ y.toNat ≤ 57 := by
      intro y hy
      rw [← hl] at hy
      obtain ⟨k, hk, rfl⟩ := List.mem_iff_getElem.1 hy
      exact hall k hk
    obtain ⟨t1, t2⟩ := tl_inv x r hm hx
    have ev : decv (ds t) = dv (x :: r) 0 := by unfold decv; rw [hl]
    have hz0 : sg (dneg t) (decv (ds t)) ≠ 0 := by rw [ev]; intro e; exact t2 (sg_zero_iff.1 e)
    have hls := tx_list _ hz0
    apply ByteArray.ext
    apply Array.toList_inj.1
    rw [hls, sg_abs, ev, t1]
    have hds : (ds t).data.toList = Lib.trimPrefix t.data.toList [45] := by unfold ds; simp
    rw [hl] at hds
    unfold Lib.trimPrefix at hds
    by_cases hp : Lib.hasPrefix t.data.toList [45] = true
    · rw [if_pos hp] at hds
      have hn : dneg t = true := hp
      have hneg : sg (dneg t) (dv (x :: r) 0) < 0 := by rw [hn]; unfold sg; rw [if_pos rfl]; omega
      rw [if_pos hneg]
      unfold Lib.hasPrefix at hp
      cases hc : t.data.toList with
      | nil => rw [hc] at hp; simp [List.isPrefixOf] at hp
      | cons y ys =>
        rw [hc] at hp hds
        simp [List.isPrefixOf] at hp
        subst hp
        simpa using hds
    · rw [if_neg hp] at hds
      have hn : dneg t = false := by unfold dneg; simpa using hp
      have hpos : ¬ sg (dneg t) (dv (x :: r) 0) < 0 := by rw [hn]; unfold sg; rw [if_neg (by simp)]; omega
      rw [if_neg hpos, List.nil_append, hds]
theorem tx_iff {t : ByteArray} : DecT t ↔ AllD (ds t) ∧ ((tx (sg (dneg t) (decv (ds t)))).toList == t.toList) = true := by
  constructor
  · intro h
    exact ⟨decT_all h, by rw [tx_back h]; simp⟩
  · rintro ⟨_, h⟩
    have h2 : tx (sg (dneg t) (decv (ds t))) = t := by
      have h3 : (tx (sg (dneg t) (decv (ds t)))).toList = t.toList := by simpa using h
      rw [ByteArray.toList_eq, ByteArray.toList_eq] at h3
      apply ByteArray.ext
      exact Array.toList_inj.1 h3
    rw [← h2]
    exact tx_decT _

/-- The reference reads any text. -/
theorem rparse_any (t : ByteArray) (w : World) (hs : t.size ≤ 1000) : Calls Try.prog 45 #[.string t] w (ParseR t (ds t) (dneg t) w) := by
  rcases Nat.eq_zero_or_pos t.size with h0 | h0
  · have e := empty_of h0
    subst e
    exact rparse_empty ⟨#[]⟩ w hs rfl
  · obtain ⟨x, r, hl⟩ : ∃ x r, t.data.toList = x :: r := by
      cases hl : t.data.toList with
      | nil => have : t.data.toList.length = t.size := rfl; rw [hl] at this; simp at this; omega
      | cons x r => exact ⟨x, r, rfl⟩
    have e0 : t[0] = x := by
      show t.data.toList[0] = x
      simp [hl]
    by_cases h45 : t[0].toNat = 45
    · have hx : x = 45 := by
        rw [e0] at h45
        exact UInt8.toNat_inj.1 h45
      subst hx
      have hd : t.extract 1 t.size = ds t := by
        apply ByteArray.ext
        apply Array.toList_inj.1
        rw [ByteArray.data_extract, Array.toList_extract, List.extract_eq_take_drop]
        unfold ds Lib.trimPrefix Lib.hasPrefix
        have hlen : t.data.toList.length = t.size := rfl
        rw [hl] at hlen ⊢
        simp [List.isPrefixOf]
        rw [List.take_of_length_le]
        simp at hlen
        omega
      have hn : dneg t = true := by unfold dneg Lib.hasPrefix; rw [hl]; simp [List.isPrefixOf]
      rw [hn]
      exact rparse_neg t (ds t) w hs h0 h45 hd
    · have hx : (45 : UInt8) ≠ x := fun e => h45 (by rw [e0, ← e]; rfl)
      have hp : Lib.hasPrefix t.data.toList [45] = false := by unfold Lib.hasPrefix; rw [hl]; simp [List.isPrefixOf, hx]
      have hd : ds t = t := by unfold ds Lib.trimPrefix; rw [hp]; simp
      have hn : dneg t = false := hp
      rw [hd, hn]
      exact rparse_pos t w hs h0 h45

theorem pow_tenT {n k : Nat} (h : n < 256 ^ k) : n < 10 ^ (3 * k) := by
  rw [Nat.pow_mul]
  exact Nat.lt_of_lt_of_le h (Nat.pow_le_pow_left (by decide) k)
theorem pow_200 {m k : Nat} (hk : k = 200) (h : m < 10 ^ k) : m < Top ∧ (Nm.dg D9 m).length ≤ 1000000 := by
  have h2 : m < 256 ^ k := Nat.lt_of_lt_of_le h (Nat.pow_le_pow_left (by decide) k)
  exact ⟨(fits_k (k := k) (by omega) h2).1, Nat.le_trans (fits_k (k := k) (by omega) h2).2 (by decide)⟩

theorem texts_any (a : Bool) (s t : ByteArray) (w : World) : Calls Try.prog 8 #[.agg #[.bool a, .string s], .string t] w (Ret (.bool true) w) := by
  cases hsh : shortL [(a, s)] with
  | false => exact texts_long1 a s t w hsh
  | true =>
    have l1 : s.size ≤ 60 := by simpa [shortL] using hsh
    by_cases hlt : 200 < t.size
    · exact texts_long2 a s t w hsh hlt
    · have lt : t.size ≤ 200 := by omega
      obtain ⟨k6, hk6⟩ : ∃ k : Nat, k = 60 := ⟨_, rfl⟩
      obtain ⟨k2, hk2⟩ : ∃ k : Nat, k = 200 := ⟨_, rfl⟩
      have hP := fun w => rparse_any t w (by omega)
      have bad : ¬ DecT t → (∀ w, Calls Try.prog 44 #[.string t] w fun e w' => e = .returned (.tuple #[.agg #[.bool false, .string ⟨#[]⟩], .int .i64 6]) ∧ Below w.heap.size w w') ∧
          (∀ w, Calls Try.prog 45 #[.string t] w fun e w' => ∃ b p n c, e = .returned (.tuple #[.agg #[.bool b, .slice p n c], .bool false]) ∧ Below w.heap.size w w') := by
        intro hn
        refine ⟨fun w => ?_, fun w => (hP w).mono ?_⟩
        · have h := Parse_bad t w (by omega) hn
          unfold WPost at h
          rwa [wd_none] at h
        · rintro e w' ⟨h, hb⟩
          rcases h with ⟨hA, v, rfl, hr⟩ | ⟨_, rfl⟩
          · obtain ⟨p, b, o, c, rfl, _⟩ := hr
            have hf : ((tx (sg (dneg t) (decv (ds t)))).toList == t.toList) = false := by
              cases he : ((tx (sg (dneg t) (decv (ds t)))).toList == t.toList) with
              | false => rfl
              | true => exact absurd (tx_iff.2 ⟨hA, he⟩) hn
            exact ⟨_, p, _, c, by rw [hf]; rfl, hb⟩
          · exact ⟨false, none, 0, 0, rfl, hb⟩
      have good : DecT t → ∃ z : Int, (∀ w, Calls Try.prog 44 #[.string t] w fun e w' => e = .returned (.tuple #[.agg #[.bool (zb z), .string (zs z)], .int .i64 0]) ∧ Below w.heap.size w w') ∧
          (∀ w, Calls Try.prog 45 #[.string t] w fun e w' => ∃ v, e = .returned (.tuple #[iV z v, .bool true]) ∧ Rz w' v z ∧ Below w.heap.size w w') ∧
          (∀ v w, Rz w v z → Calls Try.prog 46 #[iV z v] w fun e w' => e = .returned (.agg #[.bool (zb z), .string (zs z)]) ∧ Below w.heap.size w w') := by
        intro hd
        have hall := decT_all hd
        have hlt2 : decv (ds t) < 10 ^ k2 := Nat.lt_of_lt_of_le (decv_lt hall) (Nat.pow_le_pow_right (by decide) (by have := ds_size t; omega))
        obtain ⟨tp, tl9⟩ := pow_200 hk2 hlt2
        refine ⟨sg (dneg t) (decv (ds t)), fun w => ?_, fun w => (hP w).mono ?_, fun v w h => ?_⟩
        · have h := Parse_ok t w (by omega) hd (by have := ds_size t; omega)
          unfold WPost at h
          rw [wres_ok _ tp, werr_ok tp, wd_sg] at h
          exact h
        · rintro e w' ⟨h, hb⟩
          rcases h with ⟨_, v, rfl, hr⟩ | ⟨hn, _⟩
          · exact ⟨v, by rw [(tx_iff.1 hd).2], hr, hb⟩
          · exact absurd hall hn
        · have h2 := rto_int _ v w h (by rw [sg_abs]; exact tl9)
          unfold ToPost at h2
          rwa [wz_eq] at h2
      cases hv : vld a s with
      | false =>
        have hvl : validL [(a, s)] = false := by simp [validL, hv]
        have h_t := fun w => Text_bad a s w (by omega) hv
        by_cases hd : DecT t
        · obtain ⟨z, g1, g2, g3⟩ := good hd
          exact texts_inv_ok a s t w l1 hsh hvl lt (zb z) (zs z) z h_t g1 g2 g3
        · obtain ⟨g1, g2⟩ := bad hd
          exact texts_inv_bad a s t w l1 hsh hvl lt h_t g1 g2
      | true =>
        have hvl : validL [(a, s)] = true := by simp [validL, hv]
        obtain ⟨e1, e2⟩ := zb_sg hv
        obtain ⟨x, hx⟩ : ∃ x, sg a (bv s) = x := ⟨_, rfl⟩
        have hxa : x.natAbs < 256 ^ k6 := by rw [← hx, sg_abs]; exact bv60 hk6 l1
        have hx10 := pow_tenT hxa
        have hfit := fits_k (k := k6) (by omega) hxa
        have h_f := fun w => rfrom_any a s w (by omega)
        rw [hx] at h_f e1 e2
        have h_t : ∀ w, Calls Try.prog 42 #[.agg #[.bool a, .string s]] w fun e w' => e = .returned (.tuple #[.string (tx x), .int .i64 0]) ∧ Below w.heap.size w w' := fun w => by
          have h := zz_text x w (3 * k6) hfit.1 hx10 (by omega)
          unfold Z at h
          rw [e1, e2] at h
          exact h
        have h_rt : ∀ v w, Rz w v x → Calls Try.prog 43 #[iV x v] w fun e w' => e = .returned (.string (tx x)) ∧ Below w.heap.size w w' := fun v w h => rtext_int x v w h (Nat.le_trans hfit.2 (by decide))
        by_cases hd : DecT t
        · obtain ⟨z, g1, g2, g3⟩ := good hd
          exact texts_val_ok a s t w l1 hsh hvl lt x (tx x) (zb z) (zs z) z h_t h_f h_rt g1 g2 g3
        · obtain ⟨g1, g2⟩ := bad hd
          exact texts_val_bad a s t w l1 hsh hvl lt x (tx x) h_t h_f h_rt g1 g2
end Go.Proofs.Ytlmklhffafcmmaa

/- WideInts gives true for every int and every wide integer (P1.2), and leaves its arguments as they were. No condition. -/
namespace Go.Proofs.Ytlmklhffafcmmaa
open Go.ChangeShapes Go.WideShapes Go.ChangeAt Go.RowKit Go.Joins
open Go.ChangeMaps (open_string shut_string)

theorem Try.own : ownKnob Try.prog.godebug = none := by kernel_rfl
theorem Try.cellsWide : Try.prog.cellsOf 23 = 2 := by kernel_rfl

set_option maxRecDepth 100000 in
/-- A wide integer that came in. -/
theorem open_wide {H : Type} {enc : TypeId × Value → H} {w : World} {base : Nat} {b0 : Nat} {spare : Nat → Bool} {held : Bool} {r : Reach} {v : Value} {d : DataW H} {p : List MemPlace}
    (hv : Value.okWide Try.prog w r b0 23 v) (h : DataW.Trod enc Try.prog w base spare held 23 v d p) :
    ∃ (a : Bool) (s : ByteArray), v = .agg #[.bool a, .string s] ∧ d = .agg [.lit (.bool a), .lit (.string s.data.toList)] ∧ p = [] ∧ s.size ≤ maxLen := by
  obtain ⟨c0, c1, y0, y1, m, rfl, rfl, rfl, hy0, hy1⟩ := open_agg2 Try.underlying23 (by kernel_rfl) Try.cellsWide hv h
  obtain ⟨a, e0, rfl⟩ := DataW.trod_bool Try.underlying4 hy0
  obtain ⟨s, e1, rfl, hs⟩ := DataW.trod_string Try.underlying9 hy1
  simp at e0 e1
  subst e0 e1
  exact ⟨a, s, rfl, rfl, rfl, hs⟩
theorem shut_wide {H : Type} {enc : TypeId × Value → H} {w : World} {base : Nat} {spare : Nat → Bool} {held : Bool} {a : Bool} {s : ByteArray} (hs : s.size ≤ maxLen) :
    DataW.Trod enc Try.prog w base spare held 23 (.agg #[.bool a, .string s]) (.agg [.lit (.bool a), .lit (.string s.data.toList)]) [] :=
  shut_agg2 (y0 := (.lit (.bool a), [])) (y1 := (.lit (.string s.data.toList), [])) Try.underlying23 (by kernel_rfl) Try.cellsWide ⟨1, by simp [DataW.trod, Try.underlying4]⟩ ⟨1, by simp [DataW.trod, Try.underlying9, hs]⟩

theorem ints_any (n : Int) (a : Bool) (s : ByteArray) (w : World) (h1 : -9223372036854775808 ≤ n) (h2 : n ≤ 9223372036854775807) :
    Calls Try.prog 4 #[.int .i64 n, .agg #[.bool a, .string s]] w (Ret (.bool true) w) := by
  by_cases hs : s.size ≤ 60
  · have hz : s.size ≤ 140737488351232 := by omega
    cases hv : vld a s with
    | false => exact ints_invalid n a s w h1 h2 hz hs hv
    | true =>
      by_cases g1 : sg a (bv s) < -9223372036854775808
      · exact ints_low n a s w h1 h2 hz hs hv g1
      · by_cases g2 : 9223372036854775807 < sg a (bv s)
        · exact ints_high n a s w h1 h2 hz hs hv g2
        · exact ints_in n a s w h1 h2 hz hs hv (by omega) (by omega)
  · exact ints_long n a s w h1 h2 hs

set_option maxRecDepth 100000 in
theorem ints_lifted (os : Os) (started : os.Started) (H : Type) (enc : TypeId × Value → H) :
    ReturnsInHanded {} Try.checked os 4 .any (Rows.wideIntsSpec.pre6 enc Try.prog Try.f4 Rows.wideIntsRow.domain false) (Rows.wideIntsSpec.post enc Try.prog Try.f4 false true false false) := by
  refine returnsInHanded_of_change (C := Try.checked) Try.own started (by kernel_rfl) Try.func4
    (ChangeSpec.witness6 (enc := enc) (C := Try.checked) false ⟨#[], #[.int .i64 0, .agg #[.bool false, .string ⟨#[]⟩]], []⟩ 8 (by kernel_rfl) (by kernel_rfl) (by kernel_rfl) (by kernel_rfl)) ?_
  intro W base args ds gs before hval0 hW hcnd _
  have hval : ∀ (j : Nat) t v, Try.f4.params[j]? = some t → args[j]? = some v → Value.okWide Try.prog W .any base t v := hval0
  have hW' := hW
  obtain ⟨p, q, hA0, hV, rfl, hfz, hnd⟩ := hW
  have hA : DataW.TrodAll enc Try.prog W 0 (fun _ => true) true Try.f4.params.toList args.toList ds p := hA0
  rw [Try.params4] at hA hval
  obtain ⟨v0, v1, d0, d1, p0, p1, rfl, rfl, rfl, h0, h1⟩ := trodAll_two hA
  obtain ⟨rfl, rfl⟩ := trodVars_none hV
  obtain ⟨n, rfl, rfl, rfl, wn⟩ := open_int Try.underlying3 (hval 0 3 v0 rfl rfl) h0
  obtain ⟨a, s, rfl, rfl, rfl, hs⟩ := open_wide (hval 1 23 v1 rfl rfl) h1
  clear hA0 hval0
  have bn := bounds_i64 wn
  refine (ints_any n a s W (by omega) (by omega)).mono fun e W' ⟨he, bel⟩ => ?_
  subst he
  exact ⟨_, rfl, _, _, _, [], _, [], hW', trodAll_mk1 (shut_bool Try.underlying4 _), trodAll_mk2 (shut_int Try.underlying3 wn) (shut_wide hs), rfl, bel.frame _, fun h => by cases h⟩

/-- The statement. -/
theorem ints_holds : Rows.WideIntsSaid :=
  OpenClaim.holds_of_wide 4 Try.f4 rfl rfl rfl rfl rfl rfl rfl ⟨rfl, rfl, rfl, rfl, rfl⟩ rfl rfl rfl rfl rfl (by kernel_rfl) Try.func4 (by kernel_rfl)
    (of_decide_eq_true (by kernel_rfl)) (by unfold Func.isWrapper; first | (rw [if_pos (by decide +kernel)]; kernel_rfl) | (rw [if_neg (by decide +kernel)]; exact ⟨rfl, rfl⟩))
    (fun os started H enc _ => ints_lifted os started H enc)
#print axioms ints_holds
end Go.Proofs.Ytlmklhffafcmmaa

/- WideTexts gives true for every wide integer and every string (P1.6), and leaves its arguments as they were. No condition. -/
namespace Go.Proofs.Ytlmklhffafcmmaa
open Go.ChangeShapes Go.WideShapes Go.ChangeAt Go.RowKit Go.Joins
open Go.ChangeMaps (open_string shut_string)

set_option maxRecDepth 100000 in
theorem texts_lifted (os : Os) (started : os.Started) (H : Type) (enc : TypeId × Value → H) :
    ReturnsInHanded {} Try.checked os 8 .any (Rows.wideTextsSpec.pre6 enc Try.prog Try.f8 Rows.wideTextsRow.domain false) (Rows.wideTextsSpec.post enc Try.prog Try.f8 false true false false) := by
  refine returnsInHanded_of_change (C := Try.checked) Try.own started (by kernel_rfl) Try.func8
    (ChangeSpec.witness6 (enc := enc) (C := Try.checked) false ⟨#[], #[.agg #[.bool false, .string ⟨#[]⟩], .string ⟨#[]⟩], []⟩ 8 (by kernel_rfl) (by kernel_rfl) (by kernel_rfl) (by kernel_rfl)) ?_
  intro W base args ds gs before hval0 hW hcnd _
  have hval : ∀ (j : Nat) t v, Try.f8.params[j]? = some t → args[j]? = some v → Value.okWide Try.prog W .any base t v := hval0
  have hW' := hW
  obtain ⟨p, q, hA0, hV, rfl, hfz, hnd⟩ := hW
  have hA : DataW.TrodAll enc Try.prog W 0 (fun _ => true) true Try.f8.params.toList args.toList ds p := hA0
  rw [Try.params8] at hA hval
  obtain ⟨v0, v1, d0, d1, p0, p1, rfl, rfl, rfl, h0, h1⟩ := trodAll_two hA
  obtain ⟨rfl, rfl⟩ := trodVars_none hV
  obtain ⟨a, s, rfl, rfl, rfl, hs⟩ := open_wide (hval 0 23 v0 rfl rfl) h0
  obtain ⟨t, rfl, rfl, rfl, ht⟩ := open_string Try.underlying9 (hval 1 9 v1 rfl rfl) h1
  clear hA0 hval0
  refine (texts_any a s t W).mono fun e W' ⟨he, bel⟩ => ?_
  subst he
  exact ⟨_, rfl, _, _, _, [], _, [], hW', trodAll_mk1 (shut_bool Try.underlying4 _), trodAll_mk2 (shut_wide hs) (shut_string Try.underlying9 ht), rfl, bel.frame _, fun h => by cases h⟩

/-- The statement. -/
theorem texts_holds : Rows.WideTextsSaid :=
  OpenClaim.holds_of_wide 8 Try.f8 rfl rfl rfl rfl rfl rfl rfl ⟨rfl, rfl, rfl, rfl, rfl⟩ rfl rfl rfl rfl rfl (by kernel_rfl) Try.func8 (by kernel_rfl)
    (of_decide_eq_true (by kernel_rfl)) (by unfold Func.isWrapper; first | (rw [if_pos (by decide +kernel)]; kernel_rfl) | (rw [if_neg (by decide +kernel)]; exact ⟨rfl, rfl⟩))
    (fun os started H enc _ => texts_lifted os started H enc)
#print axioms texts_holds
end Go.Proofs.Ytlmklhffafcmmaa
