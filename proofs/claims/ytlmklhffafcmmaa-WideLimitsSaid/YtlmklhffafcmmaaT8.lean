/- What the theorem leans on, part 8: RefTo2, FromD, FromD2, Parse, RefNum2, Law1, Kn1. -/
import Derived.Test.YtlmklhffafcmmaaT7
import Derived.Test.YtlmklhffafcmmaaT5
import Derived.Test.YtlmklhffafcmmaaT4
import Derived.Test.YtlmklhffafcmmaaT3

/- The reference's To: the bytes of an integer. -/
namespace Go.Proofs.Ytlmklhffafcmmaa
open Go.RowKit

/-- A copy of digits: what comes back can be written. -/
def CopyI (w : World) (B : Nat) (v : Value) (X : List Nat) : Prop :=
  ∃ pd cap, v = .slice pd X.length cap ∧ (X = [] ∨ ∃ g, pd = some ⟨g, 0, none⟩ ∧ B ≤ g ∧ g < w.heap.size ∧ Wr w g X) ∧ X.length ≤ cap ∧ cap ≤ maxLen

theorem wpList_append_copy {w : World} {ops : Array Oper} {rest : List Oper} {o : Oper} {a : Act} {Q : Exit → Act → World → Prop} (hgd : o.guard = none) (s x : Operand)
    (ho : o.op = .call { callee := .builtin .append, args := #[s, x], argTypes := #[29, 29] }) (v : Value) (X : List Nat) (hs : a.eval s = .slice none 0 0) (hx : a.eval x = v) (hr : Ri w v X) (hl : X.length ≤ 1000000)
    (h : ∀ v' w', CopyI w' w.heap.size v' X → Below w.heap.size w w' → wpList Try.prog ops Q rest (a.put o.dst v') w') : wpList Try.prog ops Q (o :: rest) a w := by
  have hi3 : (Try.prog.info? 3).map (fun i => (i.zero, i.size, i.bytes)) = some (some (.int .i64 0), 1, 8) := by kernel_rfl
  obtain ⟨i0, hi0, hz0, hz1, hz2⟩ := info_parts hi3
  obtain ⟨p, b, off, cap, rfl, h2, h3, h4, h5, h6⟩ := hr
  rcases h5 with ⟨rfl, rfl⟩ | ⟨rfl, hb⟩
  · have hX : X = [] := List.eq_nil_of_length_eq_zero (by omega)
    subst hX
    exact wpList_append_own_none hgd s x 29 ho w.heap.size 3 i0 1 Try.underlying29 hi0 (.slice none 0 0) 0 [] hs (World.ownsRow_nil _ _ _ _) hx (h _ _ ⟨none, 0, rfl, Or.inl rfl, Nat.le_refl _, by unfold maxLen; omega⟩ (Below.refl _ _))
  · refine wpList_append_own w hgd s x 29 ho w.heap.size 3 i0 (.int .i64 0) 1 8 Try.underlying29 hi0 hz0 hz1 hz2 rfl (by decide) (.slice none 0 0) 0 [] hs (World.ownsRow_nil _ _ _ _) ⟨b, off, none⟩ X.length cap (iv X) hx (by rw [iv_length, Nat.mul_one]) ?_ ?_ (by unfold maxLen; omega) (by omega) (Nat.le_refl _) ?_
    · intro j u hj
      have hjl : j < X.length := by have h7 := (List.getElem?_eq_some_iff.1 hj).1; rwa [iv_length] at h7
      rw [iv_get X j hjl] at hj
      have hadd : ((⟨b, off, none⟩ : Addr).add j) = ⟨b, off + j, none⟩ := by unfold Addr.add; split <;> simp_all
      rw [hadd, h6 j hjl]; exact hj
    · intro u hu
      simp only [iv, List.mem_map] at hu
      obtain ⟨y, _, rfl⟩ := hu
      rfl
    · intro v' w' hown hgrow _
      have hb9 : Below w.heap.size w w' := (Below.refl _ _).grown hgrow (Nat.le_refl _) (fun q hq => by simp [Value.ownBlock] at hq)
      refine h _ _ ?_ hb9
      rw [Nat.zero_add, List.nil_append] at hown
      have hown2 := hown
      rcases hown.2 with ⟨rfl, h0⟩ | ⟨g, cap2, cur, rfl, hB, hg, hn, hm, _⟩
      · exact ⟨none, 0, by rw [h0], Or.inl (List.eq_nil_of_length_eq_zero h0), by omega, by unfold maxLen; omega⟩
      · exact ⟨_, _, rfl, Or.inr ⟨g, rfl, hB, lt_of_block hg, Wr.of_own hown2⟩, hn, hm⟩

theorem bvl_snoc (l : List Nat) (x : Nat) : bvl (l ++ [x]) = bvl l ++ [Value.int .u8 (x : Int)] := by simp [bvl]
theorem bvl_length (l : List Nat) : (bvl l).length = l.length := by simp [bvl]
theorem bvl_get (l : List Nat) (k : Nat) (h : k < l.length) : (bvl l)[k]? = some (.int .u8 (l[k] : Int)) := by simp [bvl, List.getElem?_eq_getElem h]

/-- The bytes that the call gathered, as a string. -/
theorem conv_own {w : World} {B : Nat} {v : Value} {l : List Nat} {x : Nat} (h : w.ownsRow B 5 1 v l.length (bvl l)) (hx : l = (Nm.dg 256 x).reverse) :
    (convert 62 9 v).run Try.prog w = .ok (.string (bs x)) w := by
  rcases h.2 with ⟨rfl, h0⟩ | ⟨g, cap, cur, rfl, hB, hg, hn, hm, _⟩
  · have hl : l = [] := List.eq_nil_of_length_eq_zero h0
    have hd : Nm.dg 256 x = [] := by rw [hl] at hx; simpa using hx.symm
    have hb : bs x = ⟨#[]⟩ := by unfold bs; rw [hd]; rfl
    rw [hb]
    have := run_convert_bytes_string (P := Try.prog) w 62 9 5 none 0 0 Try.underlying62 Try.underlying5 Try.underlying9
    rw [this]
    simp [Conv.bytesToString, loadCells, loadCellsFrom, go_sem]
    rfl
  · have hlen : (l.map UInt8.ofNat).length = l.length := by simp
    have := run_convert_bytes_back (P := Try.prog) w 62 9 5 ⟨g, 0, none⟩ cap (l.map UInt8.ofNat) Try.underlying62 Try.underlying5 Try.underlying9 (fun j hj => by
      have hjn : j < l.length := by rw [hlen] at hj; exact hj
      rw [h.cells (g := g) rfl j (.int .u8 (l[j] : Int)) (bvl_get l j hjn)]
      have e2 : l[j] < 256 := by
        have : l[j] ∈ (Nm.dg 256 x).reverse := by rw [← hx]; exact List.getElem_mem _
        exact Nm.dig_dg (by decide) x _ (List.mem_reverse.1 this)
      rw [List.getElem_map]
      congr 2
      simp [UInt8.toNat_ofNat', Nat.mod_eq_of_lt e2])
    rw [hlen] at this
    rw [this, bs, ← hx]

theorem to_bound {m L c : Nat} (hm : m < D9 ^ L) (h : m / 256 ^ c ≠ 0) : c < 4 * L := by
  rcases Nat.lt_or_ge c (4 * L) with g | g
  · exact g
  · have h1 : D9 ^ L ≤ 256 ^ (4 * L) := by
      rw [Nat.pow_mul]
      exact Nat.pow_le_pow_left (by decide) _
    have h2 : 256 ^ (4 * L) ≤ 256 ^ c := Nat.pow_le_pow_right (by decide) g
    exact absurd (Nat.div_eq_of_lt (by omega)) h
theorem dg_nil_iff {B n : Nat} (hB : 2 ≤ B) (h : (Nm.dg B n).length = 0) : n = 0 := by
  have h1 := Nm.val_dg hB n
  rw [List.eq_nil_of_length_eq_zero h] at h1
  simpa [Nm.val] using h1.symm
theorem own_len {w : World} {B n : Nat} {t : TypeId} {v : Value} {xs : List Value} (h : w.ownsRow B t 1 v n xs) : lenOf v = n := by
  rcases h.2 with ⟨rfl, h0⟩ | ⟨g, cap, cur, rfl, _⟩
  · rw [h0]; rfl
  · rfl

theorem own_form {w : World} {B n : Nat} {t : TypeId} {v : Value} {xs : List Value} (h : w.ownsRow B t 1 v n xs) : ∃ p g cap, v = .slice p n cap ∧ n ≤ cap ∧ (0 < n → p = some ⟨g, 0, none⟩ ∧ g < w.heap.size ∧ ∀ k u, xs[k]? = some u → w.cell? ⟨g, k, none⟩ = some u) := by
  have h9 := h
  rcases h.2 with ⟨rfl, h0⟩ | ⟨g, cap, cur, rfl, hB, hg, hn, hm, _⟩
  · exact ⟨none, 0, 0, by rw [h0], by omega, fun h1 => absurd h1 (by omega)⟩
  · refine ⟨_, g, cap, rfl, hn, fun _ => ⟨rfl, lt_of_block hg, fun k u hk => ?_⟩⟩
    have := h9.cells (g := g) rfl k u hk
    have hadd : ((⟨g, 0, none⟩ : Addr).add k) = ⟨g, k, none⟩ := by unfold Addr.add; split <;> simp_all
    rwa [hadd] at this
theorem rev_drop (l : List Nat) (j : Nat) (h : j < l.length) : (l.drop j).reverse = (l.drop (j + 1)).reverse ++ [l[j]] := by
  rw [List.drop_eq_getElem_cons h]; simp

/-- The wide integer of an integer. -/
def wz (z : Int) : Value := wd (decide (z < 0)) z.natAbs
def ToPost (z : Int) (w : World) (e : Ending) (w' : World) : Prop := e = .returned (wz z) ∧ Below w.heap.size w w'

set_option maxRecDepth 100000 in
set_option maxHeartbeats 4000000 in
theorem rto_int (z : Int) (v : Value) (w : World) (h : Rz w v z) (hl : (Nm.dg D9 z.natAbs).length ≤ 1000000) :
    Calls Try.prog 46 #[iV z v] w (ToPost z w) := by
  have HZ : Hid (wz z = .agg #[.bool (decide (z < 0)), .string (bs z.natAbs)]) := by
    show _ = _
    rw [wz, wd]
    by_cases hz : z < 0
    · have h1 : z.natAbs ≠ 0 := by omega
      simp [hz, h1]
    · simp [hz]
  have H0 : Hid (Ri w v (Nm.dg D9 z.natAbs)) := h
  obtain ⟨pa, ba, oa, ca, rfl, hr1⟩ := h
  clear hr1
  unfold iV at *
  generalize decide (z < 0) = ng at *
  generalize z.natAbs = m at *
  obtain ⟨w0, hw0⟩ : ∃ w0 : World, w0 = (w.alloc (.cells #[.bool ng, .slice pa (Nm.dg D9 m).length ca] 31)).alloc (.cells #[.bool false, .string ⟨#[]⟩] 23) := ⟨_, rfl⟩
  have hb0 : Hid (Below w.heap.size w w0) := by rw [hw0]; exact ((Below.refl _ _).alloc (Nat.le_refl _) _).alloc (by simp) _
  have hsz : Hid (w.heap.size + 1 + 1 = w0.heap.size) := by rw [hw0]; show _ = _; simp
  have k0 : w0.cell? ⟨w.heap.size, 0, none⟩ = some (.bool ng) := by rw [hw0]; simp [go_sem]
  have k1 : w0.cell? ⟨w.heap.size, 1, none⟩ = some (.slice pa (Nm.dg D9 m).length ca) := by rw [hw0]; simp [go_sem]
  have k4 : w0.cell? ⟨w.heap.size + 1, 0, none⟩ = some (.bool false) := by rw [hw0]; simp [go_sem]
  have k5 : w0.cell? ⟨w.heap.size + 1, 1, none⟩ = some (.string ⟨#[]⟩) := by rw [hw0]; simp [go_sem]
  have k6 : w0.frozen? ⟨w.heap.size + 1, 0, none⟩ = false := by rw [hw0]; simp [go_sem]
  have k7 : w0.frozen? ⟨w.heap.size + 1, 1, none⟩ = false := by rw [hw0]; simp [go_sem]
  have KK := Lib.hid (And.intro k0 (And.intro k4 (And.intro k5 (And.intro k6 k7))))
  have H1 : Hid (Ri w0 (.slice pa (Nm.dg D9 m).length ca) (Nm.dg D9 m)) := H0.out.below hb0.out (Nat.le_refl _)
  have Hw0 := Lib.hid hw0
  clear hw0 k0 k4 k5 k6 k7 H0
  generalize hX : Nm.dg D9 m = X at *
  have HX := Lib.hid hX
  clear hX
  go_enter Try.func46, Try.ntmps46
  go_wp2_with (at_builtin; rw [← Hw0.out]; refine wpList_append_copy rfl _ _ rfl _ X rfl rfl H1.out hl ?_)
  intro v4 w1 hcopy hb1
  obtain ⟨pd, cap, rfl, hcs, hcap1, hcap2⟩ := hcopy
  have HB1 : Hid (Below w0.heap.size w0 w1) := hb1
  have HC := Lib.hid (And.intro hcs (And.intro hcap1 hcap2))
  have HXL : Hid (m < D9 ^ X.length) := by
    have h5 := Nm.val_lt (Nm.dig_dg D92 m)
    rw [Nm.val_dg D92, HX.out] at h5
    exact h5
  have hi3 : (Try.prog.info? 5).map (fun i => (i.zero, i.size, i.bytes)) = some (some (.int .u8 0), 1, 1) := by kernel_rfl
  obtain ⟨i0, hi0, hz0, hz1, hz2⟩ := info_parts hi3
  have HI := Lib.hid (And.intro hi0 (And.intro hz0 (And.intro hz1 hz2)))
  clear hcs hcap1 hcap2 hb1 hi3 hi0 hz0 hz1 hz2 k1 H1
  go_wp2
  go_loopw [3, 4, 5, 6] (fun bk dv _ _ wr => ∃ (wz : World) (c n : Nat) (l : List Nat), wz = wr ∧ n = l.length ∧ n ≤ 1000000 ∧ dv = .slice pd n cap ∧ Hid (l = Nm.dg D9 (m / 256 ^ c)) ∧ Hid (n ≤ X.length) ∧ Hid (c ≤ 4 * X.length) ∧
      Hid (n = 0 ∨ ∃ g, pd = some ⟨g, 0, none⟩ ∧ w0.heap.size ≤ g ∧ g < w1.heap.size ∧ Wr wz g l) ∧ Hid (wz.ownsRow w1.heap.size 5 1 bk c (bvl (lowd m c))) ∧ Hid (ToOut m c) ∧ Hid (Below w0.heap.size w0 wz) ∧ Hid (w1.heap.size ≤ wz.heap.size))
    (fun bk _ _ _ _ => 4 * X.length + 1 - lenOf bk)
  case atStart =>
    exact ⟨w1, 0, X.length, X, rfl, rfl, hl, rfl, by show X = _; rw [Nat.pow_zero, Nat.div_one]; exact HX.out.symm, Nat.le_refl _, Nat.zero_le _, by
      rcases HC.out.1 with h | ⟨g, h1, h2, h3, h4⟩
      · exact Or.inl (by rw [h]; rfl)
      · exact Or.inr ⟨g, h1, h2, h3, h4⟩, World.ownsRow_nil _ _ _ _, Or.inl rfl, HB1.out, Nat.le_refl _⟩
  case round =>
    obtain ⟨wz, c, n, l, rfl, hn, hn6, rfl, hl9, hnX, hc4, hwr, hown, hto, hbl, hsz1⟩ := hrel
    have Hn := Lib.hid hn
    clear hn
    rcases Nat.eq_zero_or_pos n with h0 | h0
    · subst h0
      have hdone : m / 256 ^ c = 0 := by
        have h5 : l = Nm.dg D9 (m / 256 ^ c) := hl9.out
        have h6 : 0 = l.length := Hn.out
        exact dg_nil_iff D92 (by rw [← h5, ← h6])
      have HL : Hid (lowd m c = Nm.dg 256 m) := lowd_dg m c hdone hto.out
      have hcl : Hid (c ≤ 4000000) := by have h5 := hc4.out; show _ ≤ _; omega
      obtain ⟨pb, gb, cb, rfl, hcb, hgb⟩ := own_form hown.out
      have HGB := Lib.hid hgb
      have hcb2 : Hid (c ≤ cb) := hcb
      clear hdone hl9 hnX hc4 hwr hto Hn hgb hcb hown
      have hc0 : c ≤ 4000000 := hcl.out
      go_wp2
      go_loopw [7, 8] (fun ov iv wq => ∃ (wy : World) (k nl : Nat), wy = wq ∧ nl + k = c ∧ iv = .int .i64 ((k : Int) - 1) ∧ Hid (wy.ownsRow wz.heap.size 5 1 ov nl (bvl ((lowd m c).drop k).reverse)) ∧ Hid (Below wz.heap.size wz wy))
        (fun _ iv _ => (intOf iv + 1).toNat)
      case atStart => exact ⟨wz, c, 0, rfl, Nat.zero_add _, rfl, by
        have h5 : (lowd m c).drop c = [] := List.drop_of_length_le (by rw [lowd_length]; omega)
        rw [h5]; exact World.ownsRow_nil _ _ _ _, Below.refl _ _⟩
      case round =>
        rename_i ov _ _ _
        obtain ⟨wy, k, nl, rfl, hk, rfl, hown, hbl2⟩ := hrel
        rcases Nat.eq_zero_or_pos k with h0 | h0
        · subst h0
          have hnl : nl = ((lowd m c).drop 0).reverse.length := by simp [lowd_length]; omega
          have hcv := conv_own (x := m) (hnl ▸ hown.out) (by rw [List.drop_zero, HL.out])
          have hba := link hbl.out hbl2.out
          have q0 := keep1 hba KK.out.1
          have q4 := keep1 hba KK.out.2.1
          have q5 := keep1 hba KK.out.2.2.1
          have q6 := keepf hba KK.out.2.1 KK.out.2.2.2.1
          have q7 := keepf hba KK.out.2.2.1 KK.out.2.2.2.2
          have HB := Lib.hid (link hb0.out hba)
          have n1 : ¬ (w.heap.size = w.heap.size + 1) := by omega
          clear hown hbl2 hba
          go_wp2
          exact bodyPost_ret (v := .agg #[.bool ng, .string (bs m)]) (by simp [results, Try.results46, go_sem, q4, q5]) rfl ⟨by rw [HZ.out], (HB.out.setCell (p := ⟨w.heap.size + 1, 0, none⟩) (by simp) _).setCell (p := ⟨w.heap.size + 1, 1, none⟩) (by simp) _⟩
        · obtain ⟨j, rfl⟩ : ∃ j, k = j + 1 := ⟨k - 1, by omega⟩
          have hjl : j < (lowd m c).length := by rw [lowd_length]; omega
          obtain ⟨rfl, hgl, hgc⟩ := HGB.out (by omega)
          have e1 := at_old hbl2.out (hgc j _ (bvl_get _ j hjl))
          obtain ⟨x, hx⟩ : ∃ x, (lowd m c)[j] = x := ⟨_, rfl⟩
          rw [hx] at e1
          have hrd := rev_drop (lowd m c) j hjl
          rw [hx] at hrd
          have HRD := Lib.hid hrd
          have HLL : Hid (nl ≤ 4000000) := by show _ ≤ _; omega
          obtain ⟨y, hy⟩ : ∃ y : Int, (x : Int) = y := ⟨_, rfl⟩
          rw [hy] at e1
          have HY := Lib.hid hy
          have hjc : j < c := by omega
          have hjb : j ≤ cb := by have := hcb2.out; omega
          have e5 : ((j + 1 : Nat) : Int) - 1 = (j : Int) := by omega
          rw [e5]
          have hbase : Hid (wz.heap.size ≤ wy.heap.size) := hbl2.out.size
          clear hjl hgc hx hrd hy hgl
          go_wp2_with (at_builtin; refine wpList_append_own _ rfl _ _ 62 rfl wz.heap.size 5 i0 (.int .u8 0) 1 1 Try.underlying62 HI.out.1 HI.out.2.1 HI.out.2.2.1 HI.out.2.2.2 rfl (by decide) _ _ _ rfl (hown.out.alloc _) ⟨wy.heap.size, 0, none⟩ 1 1 [.int .u8 y] rfl rfl ?dc1 ?dc2 ?dc3 ?dc4 ?dc5 ?_)
          case dc2 => rfl
          case dc3 => have h5 := HLL.out; unfold maxLen; omega
          case dc4 => have h5 := HLL.out; omega
          case dc5 => have h5 := hbase.out; omega
          intro v' w2 hown1 hgrow1 _
          have hbl1 : Hid (Below wz.heap.size wz w2) := (hbl2.out.alloc hbase.out _).grown hgrow1 (by have h5 := hbase.out; simp; omega) (fun q hq => (hown.out.lt q hq).1)
          have hown2 : Hid (w2.ownsRow wz.heap.size 5 1 v' (nl + 1) (bvl ((lowd m c).drop j).reverse)) := by
            show World.ownsRow _ _ _ _ _ _ _
            rw [HRD.out, bvl_snoc, HY.out]
            exact hown1
          clear hown1 hgrow1 hbl2 hown
          go_wp2
          go_roundw
          case rel => exact ⟨_, j, nl + 1, rfl, by omega, by go_num, hown2, hbl1⟩
          case measure => simp [intOf]
    · have hne : l ≠ [] := fun e => by have h5 := Hn.out; rw [e] at h5; simp at h5; omega
      rcases hwr.out with h1 | ⟨g, rfl, hg1, hg2, hg3⟩
      · omega
      have hmz : m / 256 ^ c ≠ 0 := fun e => hne (by have h5 : l = Nm.dg D9 (m / 256 ^ c) := hl9.out; rw [h5, e]; rfl)
      have hc5 : c < 4 * X.length := to_bound HXL.out hmz
      have HT := Lib.hid (ToOut.step hmz)
      have DL : Hid (Nm.Dig D9 l) := by have h5 : l = Nm.dg D9 (m / 256 ^ c) := hl9.out; rw [h5]; exact Nm.dig_dg D92 _
      have VL : Hid (Nm.val D9 l = m / 256 ^ c) := by have h5 : l = Nm.dg D9 (m / 256 ^ c) := hl9.out; rw [h5]; exact Nm.val_dg D92 _
      have HG12 := Lib.hid (And.intro hg1 hg2)
      have HG3 := Lib.hid hg3
      have HC5 := Lib.hid hc5
      obtain ⟨pb, gb, cb, hbk, _, _⟩ := own_form hown.out
      subst hbk
      have hcc : Hid (n ≤ cap) := by have h5 := HC.out.2.1; have h6 := hnX.out; show _ ≤ _; omega
      clear hne hmz hc5 hg1 hg2 hg3 hwr hto hl9
      go_wp2
      go_loopw [5, 6] (fun rv iv wq => ∃ (wy : World) (k r : Nat) (ri : Int) (t : List Nat), wy = wq ∧ k ≤ n ∧ iv = .int .i64 ((k : Int) - 1) ∧ rv = .int .i64 ri ∧ 0 ≤ ri ∧ ri < 256 ∧ Hid ((r : Int) = ri) ∧ Hid (ToInv l k r t) ∧ Hid (Wr wy g (l.take k ++ t)) ∧ Hid (Only g wz wy))
        (fun _ iv _ => (intOf iv + 1).toNat)
      case atStart => exact ⟨wz, n, 0, 0, [], rfl, Nat.le_refl _, rfl, rfl, by omega, by omega, rfl, by have h5 : n = l.length := Hn.out; rw [h5]; exact ToInv.start l, by have h5 : n = l.length := Hn.out; rw [h5, List.take_length, List.append_nil]; exact HG3.out, Only.refl _ _⟩
      case round =>
        obtain ⟨wy, k, r, ri, t, rfl, hk, rfl, rfl, hr0, hr1, hri, hinv, hwr, ho⟩ := hrel
        rcases Nat.eq_zero_or_pos k with h0 | h0
        · subst h0
          obtain ⟨f1, f2, f3⟩ := hinv.out.finish
          obtain ⟨f5, f6, f7, _⟩ := hinv.out
          have hrb : r = m / 256 ^ c % 256 := by rw [f1, VL.out]
          have HL2 : Hid (bvl (lowd m c) ++ [Value.int .u8 ri] = bvl (lowd m (c + 1))) := by
            show _ = _
            rw [lowd, bvl_snoc, ← hrb, hri.out]
          have HTR : Hid (Nm.trimL t = Nm.dg D9 (m / 256 ^ (c + 1))) := by
            show _ = _
            rw [f2, VL.out, to_div]
          have ew : IntKind.u8.wrap ri = ri := by
            have h5 := byte_wrap r
            rw [hri.out] at h5
            rw [h5, Nat.mod_eq_of_lt f7]; exact hri.out
          have HF3 : Hid (t.length = n) := by have h5 : n = l.length := Hn.out; rw [h5]; exact f3
          have HTL : Hid ((Nm.trimL t).length ≤ n) := by rw [← HF3.out]; exact Nm.trimL_le t
          have HWR : Hid (Wr wy g t) := by have h5 := hwr.out; rwa [List.take_zero, List.nil_append] at h5
          have HOW : Hid (wy.ownsRow w1.heap.size 5 1 (.slice pb c cb) c (bvl (lowd m c))) := own_only hown.out ho.out HG12.out.2
          have HBW : Hid (Below w0.heap.size w0 wy) := ho.out.below hbl.out HG12.out.1
          have HSZ : Hid (w1.heap.size ≤ wy.heap.size) := by rw [ho.out.size]; exact hsz1.out
          have HC4 : Hid (c ≤ 4000000) := by have h5 := HC5.out; show _ ≤ _; omega
          clear f1 f2 f3 f5 f6 f7 hrb hinv hwr ho hown hbl hsz1 hri hk
          go_wp2_with (at_builtin; refine wpList_append_own _ rfl _ _ 62 rfl w1.heap.size 5 i0 (.int .u8 0) 1 1 Try.underlying62 HI.out.1 HI.out.2.1 HI.out.2.2.1 HI.out.2.2.2 rfl (by decide) _ _ _ rfl (HOW.out.alloc _) ⟨wy.heap.size, 0, none⟩ 1 1 [.int .u8 ri] rfl rfl ?ec1 ?ec2 ?ec3 ?ec4 ?ec5 ?_)
          case ec1 => exact one_cell (by simp [go_sem])
          case ec2 => intro u hu; simp at hu; subst hu; rfl
          case ec3 => have h5 := HC4.out; unfold maxLen; omega
          case ec4 => have h5 := HC4.out; omega
          case ec5 => have h5 := HSZ.out; simp; omega
          intro v' w2 hown1 hgrow1 _
          rw [HL2.out] at hown1
          have hgb : ∀ q, some q = Value.ownBlock (.slice pb c cb) → w1.heap.size ≤ q := fun q hq => (HOW.out.lt q hq.symm).1
          have hbl1 : Hid (Below w1.heap.size wy w2) := ((Below.refl w1.heap.size wy).alloc HSZ.out _).grown hgrow1 (by have h5 := HSZ.out; simp; omega) (fun q hq => (HOW.out.lt q hq).1)
          have hown2 : Hid (w2.ownsRow w1.heap.size 5 1 v' (c + 1) (bvl (lowd m (c + 1)))) := hown1
          have HWR2 : Hid (Wr w2 g t) := HWR.out.keep (hbl1.out.block g HG12.out.2)
          have HB2 : Hid (Below w0.heap.size w0 w2) := HBW.out.trans (hbl1.out.mono HB1.out.size)
          have HSZ2 : Hid (w1.heap.size ≤ w2.heap.size) := Nat.le_trans HSZ.out hbl1.out.size
          have HTx := rtrim_exact g cap t w2 HWR2.out (by rw [HF3.out]; exact hcc.out) HC.out.2.2
          rw [HF3.out] at HTx
          have HTX := Lib.hid HTx
          clear hown1 hgrow1 HWR HOW HBW HSZ hgb hbl1 HTx
          go_wp2_with (go_at_call 57; (with_reducible refine HTX.out.mono ?_); rintro e w9 ⟨rfl, rfl⟩)
          go_roundw
          case rel => exact ⟨_, c + 1, (Nm.trimL t).length, Nm.trimL t, rfl, rfl, by have h5 := HTL.out; omega, rfl, HTR.out, by have h5 := HTL.out; have h6 := hnX.out; show _ ≤ _; omega, by have h5 := HC5.out; show _ ≤ _; omega, Or.inr ⟨g, rfl, HG12.out.1, HG12.out.2, HWR2.out.trim⟩, hown2, HT, HB2, HSZ2⟩
          case measure => have h5 := own_len hown2.out; have h6 := HC5.out; have h7 : lenOf (.slice pb c cb) = c := rfl; simp [h5, h7]; omega
        · obtain ⟨j, rfl⟩ : ∃ j, k = j + 1 := ⟨k - 1, by omega⟩
          have hjl : j < l.length := by have h5 : n = l.length := Hn.out; omega
          have hxd : l[j] < D9 := Nm.dig_get DL.out j hjl
          have hst := hinv.out.step hjl hxd
          have hlt2 : j < (l.take (j + 1) ++ t).length := by simp; omega
          obtain ⟨e1, e2⟩ := hwr.out j hlt2
          have hge : (l.take (j + 1) ++ t)[j] = l[j] := by rw [List.getElem_append_left (by simp; omega), List.getElem_take]
          rw [hge] at e1
          obtain ⟨q, hq⟩ : ∃ q, (r * 1000000000 + l[j]) / 256 = q := ⟨_, rfl⟩
          obtain ⟨r2, hr2⟩ : ∃ r2, (r * 1000000000 + l[j]) % 256 = r2 := ⟨_, rfl⟩
          rw [hq, hr2] at hst
          have hset := hwr.out.set j q
          rw [List.set_append_left _ _ (by simp; omega), List.take_succ_eq_append_getElem hjl, List.set_append_right _ _ (by simp; omega)] at hset
          have e5 : j - (l.take j).length = 0 := by simp; omega
          rw [e5, List.set_cons_zero, List.append_assoc] at hset
          have HW2 : Hid (Wr (wy.setCell ⟨g, j, none⟩ (.int .i64 (q : Int))) g (l.take j ++ q :: t)) := hset
          obtain ⟨x, hx⟩ : ∃ x : Int, (l[j] : Int) = x := ⟨_, rfl⟩
          obtain ⟨qi, hqi⟩ : ∃ qi : Int, (q : Int) = qi := ⟨_, rfl⟩
          obtain ⟨r2i, hr2i⟩ : ∃ r2i : Int, (r2 : Int) = r2i := ⟨_, rfl⟩
          have hx0 : 0 ≤ x := by omega
          have hx1 : x < 1000000000 := by unfold D9 at hxd; omega
          have hdiv : (ri * 1000000000 + x) / 256 = qi := by rw [← hri.out, ← hx, ← hqi, ← hq]; omega
          have hmod : (ri * 1000000000 + x) % 256 = r2i := by rw [← hri.out, ← hx, ← hr2i, ← hr2]; omega
          have hr20 : 0 ≤ r2i := by omega
          have hr21 : r2i < 256 := by omega
          rw [hx] at e1
          rw [hqi] at HW2
          have HO2 : Hid (Only g wz (wy.setCell ⟨g, j, none⟩ (.int .i64 qi))) := ho.out.setCell j _
          have HST := Lib.hid hst
          have HR2 : Hid ((r2 : Int) = r2i) := hr2i
          have e6 : ((j + 1 : Nat) : Int) - 1 = (j : Int) := by omega
          rw [e6]
          have hjn : j < n := by omega
          clear hjl hxd hst hlt2 hge hset hq hr2 hx hqi hr2i hinv hwr ho hri e5
          go_wp2
          go_roundw
          case rel => exact ⟨_, j, r2, r2i, q :: t, rfl, by omega, by go_num, by first | rfl | rw [hmod], hr20, hr21, HR2, HST.out, HW2.out, HO2.out⟩
          case measure => simp [intOf]
end Go.Proofs.Ytlmklhffafcmmaa

/- Plain facts for wide.fromDigits: decimal digits, and the limbs that are written in place. -/
namespace Go.Proofs.Ytlmklhffafcmmaa
open Go.RowKit

/-- The number that decimal digits say, behind a number so far. -/
def dv : List UInt8 → Nat → Nat
  | [], a => a
  | x :: l, a => dv l (10 * a + (x.toNat - 48))
theorem dv_append (l m : List UInt8) (a : Nat) : dv (l ++ m) a = dv m (dv l a) := by
  induction l generalizing a with
  | nil => rfl
  | cons x l ih => exact ih _
theorem dv_eq (l : List UInt8) (a : Nat) : dv l a = a * 10 ^ l.length + dv l 0 := by
  induction l generalizing a with
  | nil => simp [dv]
  | cons x l ih =>
    simp only [dv, List.length_cons]
    rw [ih (10 * a + _), ih (10 * 0 + _), Nat.pow_succ]
    grind
theorem dv_lt (l : List UInt8) (h : ∀ x ∈ l, x.toNat ≤ 57) : dv l 0 < 10 ^ l.length := by
  induction l with
  | nil => simp [dv]
  | cons x l ih =>
    have h1 := ih (fun y hy => h y (List.mem_cons_of_mem _ hy))
    have h2 := h x (by simp)
    simp only [dv, List.length_cons]
    rw [dv_eq, Nat.pow_succ]
    have h3 : (10 * 0 + (x.toNat - 48)) * 10 ^ l.length ≤ 9 * 10 ^ l.length := Nat.mul_le_mul_right _ (by omega)
    omega
/-- The number of a decimal text. -/
def decv (d : ByteArray) : Nat := dv d.data.toList 0

/-- A limb written in place of another. -/
theorem own_set {w : World} {B n g cap k x : Nat} {l : List Nat} (h : w.ownsRow B 81 1 (.slice (some ⟨g, 0, none⟩) n cap) n (uv l)) :
    (w.setCell ⟨g, k, none⟩ (.int .u64 (x : Int))).ownsRow B 81 1 (.slice (some ⟨g, 0, none⟩) n cap) n (uv (l.set k x)) := by
  obtain ⟨h1, h2⟩ := h
  refine ⟨by rw [← uv_set]; simpa using h1, ?_⟩
  rcases h2 with ⟨h2, _⟩ | ⟨g2, cap2, cur, h2, hB, hg, hn, hm, hs, ht⟩
  · simp at h2
  · obtain rfl : g2 = g := by injection h2 with h3; injection h3 with h4; injection h4 with h5; exact h5.symm
    refine Or.inr ⟨g2, cap2, cur.setIfInBounds k (.int .u64 (x : Int)), h2, hB, heap_setCell_same w g2 k _ _ _ hg, hn, hm, by simpa using hs, ?_⟩
    rw [← uv_set, ← ht, Array.toList_setIfInBounds, List.take_set]
theorem own_cell {w : World} {B n g cap k : Nat} {l : List Nat} (h : w.ownsRow B 81 1 (.slice (some ⟨g, 0, none⟩) n cap) n (uv l)) (hk : k < l.length) :
    w.cell? ⟨g, k, none⟩ = some (.int .u64 (l[k] : Int)) ∧ w.frozen? ⟨g, k, none⟩ = false := by
  have h1 := h.cells (g := g) rfl k (.int .u64 (l[k] : Int)) (uv_get l k hk)
  have hadd : ((⟨g, 0, none⟩ : Addr).add k) = ⟨g, k, none⟩ := by unfold Addr.add; split <;> simp_all
  rw [hadd] at h1
  refine ⟨h1, ?_⟩
  rcases h.2 with ⟨h2, _⟩ | ⟨g2, cap2, cur, h2, hB, hg, _⟩
  · simp at h2
  · have : g2 = g := by injection h2 with h3; injection h3 with h4; injection h4 with h5; exact h5.symm
    subst this
    exact frozen_of_row w g2 k _ _ hg
theorem Rd.of_own {w : World} {B : Nat} {v : Value} {l : List Nat} (h : w.ownsRow B 81 1 v l.length (uv l)) : Rd w v l := by
  rcases h.2 with ⟨rfl, h0⟩ | ⟨g, cap, cur, rfl, hB, hg, hn, hm, hs, ht⟩
  · rw [List.eq_nil_of_length_eq_zero h0]; exact Rd.nil w
  · refine ⟨some ⟨g, 0, none⟩, g, 0, cap, rfl, hn, hm, fun _ => rfl, Or.inr ⟨rfl, lt_of_block hg⟩, fun k hk => ?_⟩
    rw [Nat.zero_add]
    exact (own_cell h hk).1

/-- One pass over the limbs: what stands behind k rounds, and the carry. -/
def FdInv (X : List Nat) (y c0 k cn : Nat) (s : List Nat) : Prop :=
  s.length = k ∧ Nm.Dig W s ∧ cn < W ∧ Nm.val W s + W ^ k * cn = y * Nm.val W (X.take k) + c0
theorem FdInv.start {X : List Nat} {y c0 : Nat} (h : c0 < W) : FdInv X y c0 0 c0 [] := ⟨rfl, Nm.dig_nil W, h, by simp [Nm.val]⟩
theorem FdInv.step {X s : List Nat} {y c0 k cn : Nat} (h : FdInv X y c0 k cn s) (hk : k < X.length) (dx : X[k] < W) (dy : y < W) : FdInv X y c0 (k + 1) (mh X[k] y cn) (s ++ [ml X[k] y cn]) := by
  obtain ⟨h1, h2, h3, h4⟩ := h
  refine ⟨by simp [h1], Nm.dig_append.2 ⟨h2, Nm.dig_cons.2 ⟨ml_lt _ _ _, Nm.dig_nil W⟩⟩, mh_lt _ _ _ dx dy h3, ?_⟩
  rw [Nm.val_snoc, h1, Nm.val_take_succ W X k hk, Nat.pow_succ]
  have e1 := mlh X[k] y cn
  generalize mh X[k] y cn = p at *
  generalize ml X[k] y cn = q at *
  generalize W ^ k = P at *
  have e4 : P * (q + W * p) = P * (X[k] * y + cn) := by rw [e1]
  grind
theorem FdInv.finish {V y c0 cn : Nat} {s : List Nat} (h : FdInv (Nm.dg W V) y c0 (Nm.dg W V).length cn s) (hy : 0 < y) :
    (cn = 0 → s = Nm.dg W (y * V + c0)) ∧ (0 < cn → s ++ [cn] = Nm.dg W (y * V + c0)) := by
  obtain ⟨h1, h2, h3, h4⟩ := h
  rw [List.take_length, Nm.val_dg W2] at h4
  constructor
  · intro h0
    subst h0
    rw [Nat.mul_zero, Nat.add_zero] at h4
    rw [← h4]
    refine Nm.eq_dg W2 h2 ?_
    cases hs : s with
    | nil => trivial
    | cons z zs =>
      rw [← hs]
      refine Nm.nrm_of_val h2 ?_
      rw [h4, h1]
      have hne : Nm.dg W V ≠ [] := by intro e; rw [e, hs] at h1; simp at h1
      have h6 := Nm.val_pos (B := W) (Nm.nrm_dg W2 V) hne
      rw [Nm.val_dg W2] at h6
      have h7 : 1 * V ≤ y * V := Nat.mul_le_mul_right _ hy
      omega
  · intro h0
    have e : Nm.val W (s ++ [cn]) = y * V + c0 := by rw [Nm.val_snoc, h1, h4]
    rw [← e]
    exact Nm.eq_dg W2 (Nm.dig_append.2 ⟨h2, Nm.dig_cons.2 ⟨h3, Nm.dig_nil W⟩⟩) (Nm.nrm_snoc _ _ (by omega))

/-- A round's bytes are digits, and nothing wraps. -/
theorem fd_digit {pi ci x : Int} (h1 : 0 ≤ pi) (h2 : pi ≤ 1000000000000000000) (h3 : 0 ≤ ci) (h4 : ci < pi) (h5 : 48 ≤ x) (h6 : x ≤ 57) :
    IntKind.u64.wrap (10 * pi) = 10 * pi ∧ IntKind.u64.wrap (10 * ci) = 10 * ci ∧ IntKind.u8.wrap (x - 48) = x - 48 ∧ IntKind.u64.wrap (x - 48) = x - 48 ∧ IntKind.u64.wrap (10 * ci + (x - 48)) = 10 * ci + (x - 48) := by
  refine ⟨?_, ?_, ?_, ?_, ?_⟩ <;> (unfold IntKind.wrap; simp [IntKind.bits, IntKind.signed]; try omega)

theorem dv_take (l : List UInt8) (k : Nat) (h : k < l.length) : dv (l.take (k + 1)) 0 = 10 * dv (l.take k) 0 + (l[k].toNat - 48) := by
  rw [List.take_succ_eq_append_getElem h, dv_append]; rfl
theorem AllD.drop {d : ByteArray} (h : AllD d) (k : Nat) (hk : k ≤ d.size) : AllD (d.extract k d.size) := by
  intro j hj
  have h1 : k + j < d.size := by simp at hj; omega
  have e : (d.extract k d.size)[j] = d[k + j] := by
    simp only [ByteArray.getElem_eq_getElem_data, ByteArray.data_extract, Array.getElem_extract]
  rw [e]
  exact h _ h1
theorem extract_list (d : ByteArray) (k : Nat) : (d.extract k d.size).data.toList = d.data.toList.drop k := by
  rw [ByteArray.data_extract, Array.toList_extract, List.extract_eq_take_drop]
  apply List.take_of_length_le
  rw [List.length_drop]
  exact Nat.le_refl _
theorem AllD.list {d : ByteArray} (h : AllD d) : ∀ x ∈ d.data.toList, x.toNat ≤ 57 := by
  intro x hx
  obtain ⟨k, hk, rfl⟩ := List.mem_iff_getElem.1 hx
  exact (h k hk).2
/-- A chunk is taken in: the number so far by a power of 10, and the chunk. -/
theorem fd_val (d : ByteArray) (V k : Nat) (hk : k ≤ d.size) : dv d.data.toList V = dv (d.extract k d.size).data.toList (10 ^ k * V + dv (d.data.toList.take k) 0) := by
  rw [extract_list]
  have e : d.data.toList = d.data.toList.take k ++ d.data.toList.drop k := (List.take_append_drop k _).symm
  have hl : (d.data.toList.take k).length = k := by
    have : d.data.toList.length = d.size := rfl
    simp; omega
  calc dv d.data.toList V = dv (d.data.toList.take k ++ d.data.toList.drop k) V := by rw [← e]
    _ = _ := by rw [dv_append, dv_eq (d.data.toList.take k) V, hl, Nat.mul_comm]
theorem fd_chunk {d : ByteArray} (h : AllD d) (k : Nat) (hk : k ≤ d.size) : dv (d.data.toList.take k) 0 < 10 ^ k := by
  have hl : (d.data.toList.take k).length = k := by
    have : d.data.toList.length = d.size := rfl
    simp; omega
  have := dv_lt (d.data.toList.take k) (fun x hx => h.list x (List.mem_of_mem_take hx))
  rwa [hl] at this
theorem fd_bound {V y c n k : Nat} (h : V < 10 ^ n) (hy : y = 10 ^ k) (hc : c < 10 ^ k) : y * V + c < 10 ^ (n + k) := by
  rw [Nat.pow_add, hy]
  have h2 : (V + 1) * 10 ^ k ≤ 10 ^ n * 10 ^ k := Nat.mul_le_mul_right _ h
  grind
theorem dg_len_pow {V n : Nat} (h : V < 10 ^ n) : (Nm.dg W V).length ≤ n := by
  refine Nm.len_le_of_val W2 (Nm.nrm_dg W2 V) ?_
  rw [Nm.val_dg W2]
  exact Nat.lt_of_lt_of_le h (Nat.pow_le_pow_left (by decide) n)
end Go.Proofs.Ytlmklhffafcmmaa

/- The function wide.fromDigits. -/
namespace Go.Proofs.Ytlmklhffafcmmaa
open Go.RowKit

theorem seg0_get (l s : List Nat) (k : Nat) (hs : s.length = k) (h : k < l.length) (h2 : k < (s ++ l.drop k).length) : (s ++ l.drop k)[k] = l[k] := by
  rw [List.getElem_append_right (by omega), List.getElem_drop]
  congr 1
  omega
theorem seg0_set (l s : List Nat) (k z : Nat) (hs : s.length = k) (h : k < l.length) : (s ++ l.drop k).set k z = (s ++ [z]) ++ l.drop (k + 1) := by
  rw [List.set_append_right _ _ (by omega), List.drop_eq_getElem_cons h, hs, Nat.sub_self, List.set_cons_zero, List.append_assoc]
  rfl
/-- The text behind the first chunk, and the number with it. -/
theorem fd_rest {d sfx : ByteArray} {V Z k y c : Nat} (hk : k ≤ sfx.size) (hsz : sfx.size ≤ d.size) (hval : dv sfx.data.toList V = Z) (hall : AllD sfx) (hV : V < 10 ^ (d.size - sfx.size)) (hy : 10 ^ k = y) (hc : dv (sfx.data.toList.take k) 0 = c) :
    (sfx.extract k sfx.size).size + k = sfx.size ∧ dv (sfx.extract k sfx.size).data.toList (y * V + c) = Z ∧ AllD (sfx.extract k sfx.size) ∧ y * V + c < 10 ^ (d.size - (sfx.extract k sfx.size).size) := by
  have h1 : (sfx.extract k sfx.size).size + k = sfx.size := by simp; omega
  refine ⟨h1, ?_, hall.drop k hk, ?_⟩
  · rw [← hval, fd_val sfx V k hk, hy, hc]
  · have hcc := fd_chunk hall k hk
    rw [hc] at hcc
    have h2 := fd_bound hV hy.symm hcc
    rwa [show d.size - sfx.size + k = d.size - (sfx.extract k sfx.size).size by omega] at h2

def szOf : Value → Nat
  | .string s => s.size
  | _ => 0

set_option maxRecDepth 100000 in
set_option maxHeartbeats 4000000 in
theorem fromDigits_any (d : ByteArray) (w : World) (hd : AllD d) (hs : d.size ≤ 1000000) :
    Calls Try.prog 80 #[.string d] w (Gives (decv d) w) := by
  obtain ⟨Z, hZ⟩ : ∃ Z, decv d = Z := ⟨_, rfl⟩
  rw [hZ]
  have hi81 : (Try.prog.info? 81).map (fun i => (i.zero, i.size, i.bytes)) = some (some (.int .u64 0), 1, 8) := by kernel_rfl
  obtain ⟨i0, hi0, hz0, hz1, hz2⟩ := info_parts hi81
  have HI := Lib.hid (And.intro hi0 (And.intro hz0 (And.intro hz1 hz2)))
  have HD := Lib.hid hd
  have HZ := Lib.hid hZ
  clear hd hZ hi81 hi0 hz0 hz1 hz2
  go_enter Try.func80, Try.ntmps80
  go_wp2
  go_loopw [0, 3, 4, 5, 6, 7] (fun sv lv _ _ _ _ wr => ∃ (wz : World) (sfx : ByteArray) (V n : Nat), wz = wr ∧ sv = .string sfx ∧ sfx.size ≤ d.size ∧ n ≤ 1000000 ∧ Hid (n = (Nm.dg W V).length) ∧ Hid (dv sfx.data.toList V = Z) ∧ Hid (AllD sfx) ∧ Hid (V < 10 ^ (d.size - sfx.size)) ∧ Hid (wz.ownsRow w.heap.size 81 1 lv n (uv (Nm.dg W V))) ∧ Hid (Below w.heap.size w wz))
    (fun sv _ _ _ _ _ _ => szOf sv)
  case atStart =>
    exact ⟨w, d, 0, 0, rfl, rfl, Nat.le_refl _, Nat.zero_le _, rfl, HZ.out, HD.out, by show _ < _; rw [Nat.sub_self]; decide, World.ownsRow_nil _ _ _ _, Below.refl _ _⟩
  case round =>
    obtain ⟨wz, sfx, V, n, rfl, rfl, hsz, hn6, hn, hval, hall, hV, hown, hbl⟩ := hrel
    clear HD HZ
    rcases Nat.eq_zero_or_pos sfx.size with h0 | h0
    · obtain rfl := empty_of h0
      have HV : Hid (V = Z) := hval.out
      have HR : Hid (Rd wz _ (Nm.dg W V)) := Rd.of_own (by have h5 := hown.out; rw [hn.out] at h5; exact h5)
      clear hval hall hV hown hn hn6 hsz h0
      go_wp2
      go_ret
      exact ⟨_, rfl, by rw [← HV.out]; exact HR.out, hbl.out⟩
    · have hne : sfx.toList.isEmpty = false := by
        have h := nonempty_str sfx h0
        cases hd : sfx.toList with
        | nil => rw [hd] at h; simp at h
        | cons x l => rfl
      obtain ⟨pl, gl, cl, rfl, hncl, hgl⟩ := own_form hown.out
      have HGL := Lib.hid hgl
      clear hgl
      obtain ⟨sm, hsm⟩ : ∃ sm : Nat, (sfx.size - 1) % 19 = sm := ⟨_, rfl⟩
      have hmod : ((sfx.size : Int) - 1) % 19 = (sm : Int) := by omega
      have hsm1 : sm < 19 := by omega
      have hsm2 : sm + 1 ≤ sfx.size := by have := Nat.mod_le (sfx.size - 1) 19; omega
      clear hsm
      go_wp2
      go_loopw [5, 6, 18] (fun pv cv iv wr => ∃ (nd k : Nat) (pi ci : Int), wr = wz.drewN nd ∧ k ≤ sm + 1 ∧ iv = .int .i64 (k : Int) ∧ pv = .int .u64 pi ∧ cv = .int .u64 ci ∧ 0 ≤ pi ∧ 0 ≤ ci ∧ ci < pi ∧ Hid (pi = ((10 ^ k : Nat) : Int)) ∧ Hid (ci = ((dv (sfx.data.toList.take k) 0 : Nat) : Int)))
        (fun _ _ iv _ => sm + 1 - (intOf iv).toNat)
      case atStart => exact ⟨0, 0, 1, 0, rfl, Nat.zero_le _, rfl, rfl, rfl, by omega, by omega, by omega, rfl, rfl⟩
      case round =>
        obtain ⟨nd, k, pi, ci, rfl, hk, rfl, rfl, rfl, hp0, hc0, hcp, hpi, hci⟩ := hrel
        by_cases hlt : k < sm + 1
        · have hks : k < sfx.size := by omega
          obtain ⟨x, hx⟩ : ∃ x : Int, (sfx[k].toNat : Int) = x := ⟨_, rfl⟩
          have hx1 := hall.out k hks
          have hp18 : pi ≤ 1000000000000000000 := by
            have h5 : pi = ((10 ^ k : Nat) : Int) := hpi.out
            have h6 : 10 ^ k ≤ 10 ^ 18 := Nat.pow_le_pow_right (by decide) (by omega)
            have h7 : (10 : Nat) ^ 18 = 1000000000000000000 := by decide
            omega
          obtain ⟨e1, e2, e3, e4, e5⟩ := fd_digit hp0 hp18 hc0 hcp (x := x) (by omega) (by omega)
          have HP : Hid (10 * pi = ((10 ^ (k + 1) : Nat) : Int)) := by
            show _ = _
            rw [hpi.out, Nat.pow_succ]; simp; omega
          have HC : Hid (10 * ci + (x - 48) = ((dv (sfx.data.toList.take (k + 1)) 0 : Nat) : Int)) := by
            show _ = _
            have hkl : k < sfx.data.toList.length := hks
            rw [dv_take _ k hkl, hci.out, ← hx]
            have e : sfx.data.toList[k].toNat = sfx[k].toNat := rfl
            rw [e]
            omega
          have HB1 : Hid (0 ≤ 10 * ci + (x - 48) ∧ 10 * ci + (x - 48) < 10 * pi) := by show _ ∧ _; omega
          clear hx1 hp18
          go_wp2
          go_quiet (fail)
          go_wp2
          go_roundw
          case rel => exact ⟨_, k + 1, 10 * pi, 10 * ci + (x - 48), rfl, by omega, by go_num, rfl, rfl, by omega, HB1.out.1, HB1.out.2, HP, HC⟩
          case measure => simp [intOf]; omega
        · have hke : k = sm + 1 := by omega
          obtain ⟨y, hy⟩ : ∃ y : Nat, 10 ^ (sm + 1) = y := ⟨_, rfl⟩
          obtain ⟨c0, hc0e⟩ : ∃ c0 : Nat, dv (sfx.data.toList.take (sm + 1)) 0 = c0 := ⟨_, rfl⟩
          obtain rfl : pi = (y : Int) := by rw [hpi.out, hke, hy]
          obtain rfl : ci = (c0 : Int) := by rw [hci.out, hke, hc0e]
          have hyW : Hid (y < W) := by
            show _ < _
            have h6 : 10 ^ (sm + 1) ≤ 10 ^ 19 := Nat.pow_le_pow_right (by decide) (by omega)
            have h7 : (10 : Nat) ^ 19 = 10000000000000000000 := by decide
            unfold W
            omega
          have hcW : Hid (c0 < W) := by have h5 := hyW.out; show _ < _; omega
          have hy0 : Hid (0 < y) := by show _ < _; omega
          have HRest := Lib.hid (fd_rest hsm2 hsz hval.out hall.out hV.out hy hc0e)
          have HOW0 : Hid ((wz.drewN nd).ownsRow w.heap.size 81 1 (.slice pl n cl) n (uv (Nm.dg W V))) := hown.out
          have HBL0 : Hid (Below w.heap.size w (wz.drewN nd)) := ⟨hbl.out.os, hbl.out.tape, hbl.out.output, hbl.out.size, hbl.out.block⟩
          clear hy hc0e hpi hci hp0 hc0 hcp hk hval hall hV hown hbl hke
          go_wp2
          clear hmod hlt
          go_loopw [6, 8, 9, 37] (fun cv _ _ jv wr => ∃ (wy : World) (k cn : Nat) (s : List Nat), wy = wr ∧ k ≤ n ∧ jv = .int .i64 (k : Int) ∧ cv = .int .u64 (cn : Int) ∧ Hid (FdInv (Nm.dg W V) y c0 k cn s) ∧
              Hid (wy.ownsRow w.heap.size 81 1 (.slice pl n cl) n (uv (s ++ (Nm.dg W V).drop k))) ∧ Hid (Below w.heap.size w wy))
            (fun _ _ _ jv _ => n - (intOf jv).toNat)
          case atStart =>
            exact ⟨_, 0, c0, [], rfl, Nat.zero_le _, rfl, rfl, FdInv.start hcW.out, HOW0.out, HBL0.out⟩
          case round =>
            clear HOW0 HBL0
            obtain ⟨wy, k, cn, s, rfl, hk, rfl, rfl, hinv, hown, hbl⟩ := hrel
            by_cases hlt : k < n
            · obtain ⟨rfl, hgl1, _⟩ := HGL.out (by omega)
              have hX : k < (Nm.dg W V).length := by have h5 : n = (Nm.dg W V).length := hn.out; omega
              have hsl := hinv.out.1
              have hkl : k < (s ++ (Nm.dg W V).drop k).length := by simp; omega
              have hdx := Nm.dig_get (Nm.dig_dg W2 V) k hX
              obtain ⟨e1, e2⟩ := own_cell hown.out hkl
              rw [seg0_get _ s k hsl hX hkl] at e1
              have HST := Lib.hid (hinv.out.step hX hdx hyW.out)
              have HOW := Lib.hid (own_set (k := k) (x := ml (Nm.dg W V)[k] y cn) hown.out)
              have HSS := Lib.hid (seg0_set (Nm.dg W V) s k (ml (Nm.dg W V)[k] y cn) hsl hX)
              rw [HSS.out] at HOW
              have HMM := Lib.hid (fun w => mulAdd_any (Nm.dg W V)[k] y cn hdx hyW.out hinv.out.2.2.1 w)
              have hkc : k < cl := by omega
              have HBL : Hid (Below w.heap.size w (wy.setCell ⟨gl, k, none⟩ (.int .u64 (ml (Nm.dg W V)[k] y cn : Int)))) := hbl.out.setCell (p := ⟨gl, k, none⟩) (hown.out.lt _ rfl).1 _
              clear HSS hinv hown hdx hsl hkl hbl
              generalize ml (Nm.dg W V)[k] y cn = mlo at *
              generalize mh (Nm.dg W V)[k] y cn = mhi at *
              generalize (Nm.dg W V)[k] = xk at *
              go_wp2_with (go_at_call 105; (with_reducible refine (HMM.out _).mono ?_); rintro e w2 ⟨rfl, rfl⟩)
              go_roundw
              case rel => exact ⟨_, k + 1, mhi, _, rfl, by omega, by go_num, rfl, HST, HOW, HBL⟩
              case measure => simp [intOf]; omega
            · obtain rfl : n = k := by omega
              have HF : Hid ((cn = 0 → s = Nm.dg W (y * V + c0)) ∧ (0 < cn → s ++ [cn] = Nm.dg W (y * V + c0))) := by
                have h5 := hinv.out
                rw [hn.out] at h5
                exact h5.finish hy0.out
              have HS : Hid (s.length = n) := hinv.out.1
              have HD : Hid ((Nm.dg W V).drop n = []) := List.drop_of_length_le (by have h5 : n = (Nm.dg W V).length := hn.out; omega)
              have HL := Lib.hid (dg_len_pow HRest.out.2.2.2)
              rw [HD.out, List.append_nil] at hown
              obtain ⟨V2, hV2⟩ : ∃ V2, y * V + c0 = V2 := ⟨_, rfl⟩
              rw [hV2] at HF HRest HL
              clear hV2 hinv hk HD
              rcases Nat.eq_zero_or_pos cn with h0c | h0c
              · subst h0c
                have HL2 : Hid (n = (Nm.dg W V2).length) := by show _ = _; rw [← HF.out.1 rfl]; exact HS.out.symm
                rw [HF.out.1 rfl] at hown
                clear HF HS
                go_wp2
                go_roundw
                case rel => exact ⟨wy, sfx.extract (sm + 1) sfx.size, V2, n, rfl, rfl, by have h5 := HRest.out.1; omega, hn6, HL2, HRest.out.2.1, HRest.out.2.2.1, HRest.out.2.2.2, hown, hbl⟩
                case measure => have h5 := HRest.out.1; simp only [szOf]; omega
              · have HL2 : Hid (n + 1 = (Nm.dg W V2).length) := by
                  show _ = _
                  have h5 : s.length = n := HS.out
                  rw [← HF.out.2 h0c]; simp [h5]
                have HU : Hid (uv s ++ [Value.int .u64 (cn : Int)] = uv (Nm.dg W V2)) := by
                  show _ = _
                  rw [← HF.out.2 h0c]; simp [uv]
                have hn1 : n + 1 ≤ 1000000 := by have h5 : n + 1 = (Nm.dg W V2).length := HL2.out; have h6 := HL.out; omega
                have hcpos : (0 : Int) < (cn : Int) := by omega
                clear HF HS HL hn6
                go_wp2_with (at_builtin; refine wpList_append_own _ rfl _ _ 84 rfl w.heap.size 81 i0 (.int .u64 0) 1 8 Try.underlying84 HI.out.1 HI.out.2.1 HI.out.2.2.1 HI.out.2.2.2 rfl (by decide) _ _ _ rfl (hown.out.alloc _) ⟨wy.heap.size, 0, none⟩ 1 1 [.int .u64 (cn : Int)] rfl rfl ?fc1 ?fc2 ?fc3 ?fc4 ?fc5 ?_)
                case fc1 => exact one_cell (by simp [go_sem])
                case fc2 => intro u hu; simp at hu; subst hu; rfl
                case fc3 => unfold maxLen; omega
                case fc4 => omega
                case fc5 => have h5 := hbl.out.size; simp; omega
                intro v' w2 hown1 hgrow1 _
                rw [HU.out] at hown1
                have hbl1 : Hid (Below w.heap.size w w2) := (hbl.out.alloc hbl.out.size _).grown hgrow1 (by have h5 := hbl.out.size; simp; omega) (fun q hq => (hown.out.lt q hq).1)
                have hown2 : Hid (w2.ownsRow w.heap.size 81 1 v' (n + 1) (uv (Nm.dg W V2))) := hown1
                clear hown1 hgrow1 hbl hown HU
                go_wp2
                go_roundw
                case rel => exact ⟨w2, sfx.extract (sm + 1) sfx.size, V2, n + 1, rfl, rfl, by have h5 := HRest.out.1; omega, hn1, HL2, HRest.out.2.1, HRest.out.2.2.1, HRest.out.2.2.2, hown2, hbl1⟩
                case measure => have h5 := HRest.out.1; simp only [szOf]; omega
end Go.Proofs.Ytlmklhffafcmmaa

/- The function wide.Parse. -/
namespace Go.Proofs.Ytlmklhffafcmmaa
open Go.RowKit

theorem decT_all {s : ByteArray} (h : DecT s) : AllD (ds s) := by
  rcases h with h | h
  · rw [ByteArray.toList_eq] at h
    have e : ds s = ⟨#[48]⟩ := by unfold ds; rw [h]; rfl
    rw [e]
    decide
  · exact h.2
theorem decv_lt {d : ByteArray} (h : AllD d) : decv d < 10 ^ d.size := dv_lt _ h.list

set_option maxRecDepth 100000 in
set_option maxHeartbeats 1000000 in
theorem Parse_bad (s : ByteArray) (w : World) (hs : s.size ≤ 1000000000) (hd : ¬ DecT s) :
    Calls Try.prog 44 #[.string s] w (WPost (wd false 0) 6 w) := by
  have HD := Lib.hid (fun w => isDecimal_any s false w hs (by simp [hd]))
  clear hd
  have HZ := Lib.hid (below_one w (.cells #[.bool false, .string ⟨#[]⟩] 23))
  go_enter Try.func44, Try.ntmps44
  go_wp2_with fail
  refine (HD.out _).mono ?_
  rintro e wa ⟨rfl, rfl⟩
  go_wp2
  exact bodyPost_ret (v := .tuple #[.agg #[.bool false, .string ⟨#[]⟩], .int .i64 6]) (by simp [results, Try.results44, go_sem]) rfl ⟨by rw [wd, bs_zero]; simp, HZ.out⟩

set_option maxRecDepth 100000 in
set_option maxHeartbeats 1000000 in
theorem Parse_long (s : ByteArray) (w : World) (hs : s.size ≤ 1000000000) (hd : DecT s) (hl : 19729 < (ds s).size) :
    Calls Try.prog 44 #[.string s] w (WPost (wd false 0) 7 w) := by
  have HD := Lib.hid (fun w => isDecimal_any s true w hs (by simp [hd]))
  have HC : Hid (∀ w, Calls Try.prog 79 #[.string s, .string ⟨#[45]⟩] w fun e w' => e = .returned (.tuple #[.string (ds s), .bool (dneg s)]) ∧ w' = w) := fun w => Try.strings_CutPrefix s ⟨#[45]⟩ w
  clear hd
  have HZ := Lib.hid (below_one w (.cells #[.bool false, .string ⟨#[]⟩] 23))
  have h2 := ds_size s
  generalize ds s = d at *
  generalize dneg s = ng at *
  go_enter Try.func44, Try.ntmps44
  go_wp2_with fail
  refine (HD.out _).mono ?_
  rintro e wa ⟨rfl, rfl⟩
  go_wp2_with fail
  refine (HC.out _).mono ?_
  rintro e wa ⟨rfl, rfl⟩
  go_wp2
  exact bodyPost_ret (v := .tuple #[.agg #[.bool false, .string ⟨#[]⟩], .int .i64 7]) (by simp [results, Try.results44, go_sem]) rfl ⟨by rw [wd, bs_zero]; simp, HZ.out⟩

set_option maxRecDepth 100000 in
set_option maxHeartbeats 1000000 in
theorem Parse_ok (s : ByteArray) (w : World) (hs : s.size ≤ 1000000000) (hd : DecT s) (hl : (ds s).size ≤ 19729) :
    Calls Try.prog 44 #[.string s] w (WPost (wres (dneg s) (decv (ds s))) (werr (decv (ds s))) w) := by
  have HD := Lib.hid (fun w => isDecimal_any s true w hs (by simp [hd]))
  have HC : Hid (∀ w, Calls Try.prog 79 #[.string s, .string ⟨#[45]⟩] w fun e w' => e = .returned (.tuple #[.string (ds s), .bool (dneg s)]) ∧ w' = w) := fun w => Try.strings_CutPrefix s ⟨#[45]⟩ w
  have hall := decT_all hd
  have HF := Lib.hid (fun w => fromDigits_any (ds s) w hall (by omega))
  have HW := Lib.hid (fun v w h => write_any (dneg s) v (decv (ds s)) w h (Nat.le_trans (dg_len_pow (decv_lt hall)) (by omega)))
  obtain ⟨rb, rs, hr⟩ := wres_form (dneg s) (decv (ds s))
  rw [hr] at HW ⊢
  clear hd hall hr
  generalize werr (decv (ds s)) = rc at *
  generalize decv (ds s) = m at *
  have h2 := ds_size s
  generalize ds s = d at *
  generalize dneg s = ng at *
  obtain ⟨w0, hw0⟩ : ∃ w0 : World, w0 = w.alloc (.cells #[.bool false, .string ⟨#[]⟩] 23) := ⟨_, rfl⟩
  have hb0 : Hid (Below w.heap.size w w0) := by rw [hw0]; exact below_one _ _
  have k4 : w0.cell? ⟨w.heap.size, 0, none⟩ = some (.bool false) := by rw [hw0]; simp [go_sem]
  have k5 : w0.cell? ⟨w.heap.size, 1, none⟩ = some (.string ⟨#[]⟩) := by rw [hw0]; simp [go_sem]
  have k6 : w0.frozen? ⟨w.heap.size, 0, none⟩ = false := by rw [hw0]; simp [go_sem]
  have k7 : w0.frozen? ⟨w.heap.size, 1, none⟩ = false := by rw [hw0]; simp [go_sem]
  have KK := Lib.hid (And.intro k4 (And.intro k5 (And.intro k6 k7)))
  have Hw0 := Lib.hid hw0
  clear hw0 k4 k5 k6 k7
  go_enter Try.func44, Try.ntmps44
  go_wp2_with fail
  rw [← Hw0.out]
  refine (HD.out _).mono ?_
  rintro e wa ⟨rfl, rfl⟩
  go_wp2_with fail
  refine (HC.out _).mono ?_
  rintro e wa ⟨rfl, rfl⟩
  go_wp2_with fail
  refine (HF.out _).mono ?_
  rintro e w1 ⟨v1, rfl, r1, b1⟩
  have HR := Lib.hid r1
  have HB1 := Lib.hid b1
  obtain ⟨p9, b9, o9, c9, rfl, hr9⟩ := r1
  clear b1 hr9
  go_wp2_with fail
  refine (HW.out _ _ HR.out).mono ?_
  rintro e w2 ⟨rfl, b2⟩
  have c2 := chain HB1.out b2
  have q4 := keep1 c2 KK.out.1
  have q5 := keep1 c2 KK.out.2.1
  have q6 := keepf c2 KK.out.1 KK.out.2.2.1
  have q7 := keepf c2 KK.out.2.1 KK.out.2.2.2
  have HZ := Lib.hid (below_set2 (chain hb0.out c2) (Nat.le_refl w.heap.size) (.bool rb) (.string rs))
  clear b2 c2
  go_wp2
  exact bodyPost_ret (v := .tuple #[.agg #[.bool rb, .string rs], .int .i64 rc]) (by simp [results, Try.results44, go_sem, q4, q5]) rfl ⟨rfl, HZ.out⟩
end Go.Proofs.Ytlmklhffafcmmaa

/- The reference's integer out of any int. -/
namespace Go.Proofs.Ytlmklhffafcmmaa
open Go.RowKit

set_option maxRecDepth 100000 in
set_option maxHeartbeats 2000000 in
theorem rnum_neg (m : Nat) (w : World) (h0 : 0 < m) (hm : m ≤ 9223372036854775808) :
    Calls Try.prog 25 #[.int .i64 (-(m : Int))] w (IntPost (-(m : Int)) w) := by
  obtain ⟨x0, h0'⟩ : ∃ x0, m % 1000000000 = x0 := ⟨_, rfl⟩
  obtain ⟨x1, h1⟩ : ∃ x1, m / 1000000000 % 1000000000 = x1 := ⟨_, rfl⟩
  obtain ⟨x2, h2⟩ : ∃ x2, m / 1000000000 / 1000000000 = x2 := ⟨_, rfl⟩
  have HD : Hid (Nm.trimL [x0, x1, x2] = Nm.dg D9 m) := by
    show _ = _
    subst h0' h1 h2
    have h1 : Nm.Dig D9 [m % 1000000000, m / 1000000000 % 1000000000, m / 1000000000 / 1000000000] :=
      Nm.dig_cons.2 ⟨Nat.mod_lt _ (by decide), Nm.dig_cons.2 ⟨Nat.mod_lt _ (by decide), Nm.dig_cons.2 ⟨by unfold D9; omega, Nm.dig_nil _⟩⟩⟩
    rw [Nm.trimL_dg D92 h1]
    congr 1
    simp only [Nm.val_cons, Nm.val_nil]
    unfold D9
    omega
  have f0 : x0 < 1000000000 := by rw [← h0']; exact Nat.mod_lt _ (by decide)
  have f1 : x1 < 1000000000 := by rw [← h1]; exact Nat.mod_lt _ (by decide)
  have f2 : x2 < 1000000000 := by omega
  obtain ⟨q, hq⟩ : ∃ q, m / 1000000000 = q := ⟨_, rfl⟩
  rw [hq] at h1 h2
  have hml : (Nm.dg D9 m).length ≤ 1000000 := by
    have h6 : (9223372036854775808 : Nat) < D9 ^ 3 := by decide
    have h5 := Nm.len_le_of_val D92 (Nm.nrm_dg D92 m) (k := 3) (by rw [Nm.val_dg D92]; omega)
    omega
  have hM0 := fun v w (h : Ri w v (Nm.dg D9 m)) => (rmade_any true v m w h).mono (made_int (z := -(m : Int)) (by simp))
  have HM := Lib.hid hM0
  have HT := Lib.hid (fun v xs w h => rtrim_any v xs w h)
  have HSb0 := fun v1 v2 w' (h1 : Rz w' v1 (-(m : Int))) (h2 : Rz w' v2 0) => rsub_int (-(m : Int)) 0 v1 v2 w' h1 h2 (by rw [Int.natAbs_neg]; exact hml) (by simp [Nm.dg_zero])
  have HSb := Lib.hid HSb0
  have HZ0 : Hid (-(m : Int) - 0 = -(m : Int)) := Int.sub_zero _
  obtain ⟨nn, hnn⟩ : ∃ nn : Int, -(m : Int) = nn := ⟨_, rfl⟩
  have e0 : Int.tmod nn 1000000000 = -(x0 : Int) := by rw [← hnn, Int.neg_tmod, Int.tmod_eq_emod_of_nonneg (by omega)]; omega
  have e1 : Int.tdiv nn 1000000000 = -(q : Int) := by rw [← hnn, Int.neg_tdiv, Int.tdiv_eq_ediv_of_nonneg (by omega)]; omega
  have e2 : Int.tmod (-(q : Int)) 1000000000 = -(x1 : Int) := by rw [Int.neg_tmod, Int.tmod_eq_emod_of_nonneg (by omega)]; omega
  have e3 : Int.tdiv (-(q : Int)) 1000000000 = -(x2 : Int) := by rw [Int.neg_tdiv, Int.tdiv_eq_ediv_of_nonneg (by omega)]; omega
  obtain ⟨w0, hw0⟩ : ∃ w0 : World, w0 = w.alloc (.cells #[.bool false, .slice none 0 0] 31) := ⟨_, rfl⟩
  have hb0 : Hid (Below w.heap.size w w0) := by rw [hw0]; exact below_new _ _
  have k4 : w0.cell? ⟨w.heap.size, 0, none⟩ = some (.bool false) := by rw [hw0]; simp [go_sem]
  have k5 : w0.cell? ⟨w.heap.size, 1, none⟩ = some (.slice none 0 0) := by rw [hw0]; simp [go_sem]
  have k6 : w0.frozen? ⟨w.heap.size, 0, none⟩ = false := by rw [hw0]; simp [go_sem]
  have k7 : w0.frozen? ⟨w.heap.size, 1, none⟩ = false := by rw [hw0]; simp [go_sem]
  have h3 := Ri.three w0 x0 x1 x2
  have b3 := below_new w0 (.cells #[.int .i64 (x0 : Int), .int .i64 (x1 : Int), .int .i64 (x2 : Int)] 3)
  have hsz : w0.heap.size = w.heap.size + 1 := by rw [hw0]; simp
  rw [hsz] at h3
  have G3 := Lib.hid (And.intro h3 b3)
  have Hw0 := Lib.hid hw0
  have KK := Lib.hid (And.intro k4 (And.intro k5 (And.intro k6 k7)))
  have hn0 : nn < 0 := by omega
  have hn1 : -9223372036854775808 ≤ nn := by omega
  have hq1 : (q : Int) ≤ 9223372037 := by omega
  rw [hnn] at HM HSb HZ0 ⊢
  clear h0' h1 h2 h3 b3 hsz hw0 k4 k5 k6 k7 hm hnn hM0 HSb0 hml h0 hq
  go_enter Try.func25, Try.ntmps25
  go_wp2_with fail
  rw [← Hw0.out]
  refine (HT.out _ _ _ G3.out.1).mono ?_
  rintro e w5 ⟨v5, rfl, h5, rfl⟩
  rw [HD.out] at h5
  have H5 := Lib.hid h5
  clear h5
  go_wp2_with fail
  refine (HM.out _ _ H5.out).mono ?_
  rintro e w6 ⟨v6, he, h6, b6⟩
  unfold iV at he
  obtain ⟨zb, hzb⟩ : ∃ zb, decide (nn < 0) = zb := ⟨_, rfl⟩
  rw [hzb] at he
  have HZB := Lib.hid hzb
  clear hzb
  subst he
  have HS6 := HSb.out v6 (.slice none 0 0) w6 h6 (Ri.nil _)
  unfold iV at HS6
  rw [HZB.out] at HS6
  have HS7 := Lib.hid HS6
  have C6 := Lib.hid (link G3.out.2 b6)
  have H6 := Lib.hid h6
  clear h6 b6 HS6
  go_wp2_with fail
  refine HS7.out.mono ?_
  rintro e w7 ⟨v7, he, h7, b7⟩
  rw [HZ0.out] at he h7
  unfold iV at he
  rw [HZB.out] at he
  subst he
  have c7 := link C6.out b7
  have q4 := keep1 c7 KK.out.1
  have q5 := keep1 c7 KK.out.2.1
  have q6 := keepf c7 KK.out.1 KK.out.2.2.1
  have q7 := keepf c7 KK.out.2.1 KK.out.2.2.2
  have H7 := Lib.hid h7
  have HZ := Lib.hid (link hb0.out c7)
  obtain ⟨pm, bm, om, cm, rfl, hrm⟩ := h7
  clear hrm b7 c7
  go_wp2
  exact bodyPost_ret (v := .agg #[.bool zb, .slice pm (Nm.dg D9 nn.natAbs).length cm]) (by simp [results, Try.results25, go_sem, q4, q5]) rfl ⟨_, by rw [iV, HZB.out], H7.out.set2 q4 q5 (fun _ => by simp), (HZ.out.setCell (p := ⟨w.heap.size, 0, none⟩) (Nat.le_refl _) _).setCell (p := ⟨w.heap.size, 1, none⟩) (Nat.le_refl _) _⟩

theorem rnum_any (n : Int) (w : World) (h1 : -9223372036854775808 ≤ n) (h2 : n ≤ 9223372036854775807) :
    Calls Try.prog 25 #[.int .i64 n] w (IntPost n w) := by
  by_cases h : n < 0
  · obtain ⟨m, rfl⟩ : ∃ m : Nat, n = -(m : Int) := ⟨n.natAbs, by omega⟩
    exact rnum_neg m w (by omega) (by omega)
  · obtain ⟨m, rfl⟩ : ∃ m : Nat, n = (m : Int) := ⟨n.natAbs, by omega⟩
    exact rnum_nat m w (by omega)
end Go.Proofs.Ytlmklhffafcmmaa

/- wide.Quo by 0; the law's functions w and q. -/
namespace Go.Proofs.Ytlmklhffafcmmaa
open Go.RowKit

set_option maxRecDepth 100000 in
set_option maxHeartbeats 1000000 in
theorem Quo_zero (a b : Bool) (s : ByteArray) (w : World) (hv1 : vld a s = true) (hv2 : vld b ⟨#[]⟩ = true) :
    Calls Try.prog 35 #[.agg #[.bool a, .string s], .agg #[.bool b, .string ⟨#[]⟩]] w (Q3Post (wd false 0) (wd false 0) 3 w) := by
  have z1 := vld_size hv1
  have HV1 := Valid_any a s
  have HV2 := Valid_any b ⟨#[]⟩
  rw [hv1] at HV1
  rw [hv2] at HV2
  have HA := Lib.hid (fun w => HV1 w (by omega))
  have HB := Lib.hid (fun w => HV2 w (by decide))
  clear HV1 HV2 hv1 hv2
  obtain ⟨w0, hw0⟩ : ∃ w0 : World, w0 = (((w.alloc (.cells #[.bool a, .string s] 23)).alloc (.cells #[.bool b, .string ⟨#[]⟩] 23)).alloc (.cells #[.bool false, .string ⟨#[]⟩] 23)).alloc (.cells #[.bool false, .string ⟨#[]⟩] 23) := ⟨_, rfl⟩
  have hb0 : Hid (Below w.heap.size w w0) := by rw [hw0]; exact ((((Below.refl _ _).alloc (Nat.le_refl _) _).alloc (by simp) _).alloc (by simp; omega) _).alloc (by simp; omega) _
  have i2 : ZC (.bool b) (.string ⟨#[]⟩) w0 (w.heap.size + 1) := by rw [hw0]; refine ⟨?_, ?_, ?_, ?_⟩ <;> simp [go_sem]
  have i3 : ZC (.bool false) (.string ⟨#[]⟩) w0 (w.heap.size + 1 + 1) := by rw [hw0]; refine ⟨?_, ?_, ?_, ?_⟩ <;> simp [go_sem]
  have i4 : ZC (.bool false) (.string ⟨#[]⟩) w0 (w.heap.size + 1 + 1 + 1) := by rw [hw0]; refine ⟨?_, ?_, ?_, ?_⟩ <;> simp [go_sem]
  have I2 := Lib.hid i2
  have I3 := Lib.hid i3
  have I4 := Lib.hid i4
  have Hw0 := Lib.hid hw0
  clear i2 i3 i4 hw0
  go_enter Try.func35, Try.ntmps35
  go_wp2_with fail
  rw [← Hw0.out]
  refine (HA.out _).mono ?_
  rintro e wa ⟨rfl, ba⟩
  obtain ⟨q0, q1, _, _⟩ := I2.out.next ba
  have BA := Lib.hid ba
  clear ba
  go_wp2_with fail
  refine (HB.out _).mono ?_
  rintro e wb ⟨rfl, bb⟩
  have c := chain BA.out bb
  obtain ⟨k0, k1, _, _⟩ := I2.out.next c
  obtain ⟨m0, m1, m2, m3⟩ := I3.out.next c
  obtain ⟨n0, n1, n2, n3⟩ := I4.out.next c
  have HZ := Lib.hid (below_set2 (below_set2 (chain hb0.out c) (g := w.heap.size + 1 + 1) (by omega) (.bool false) (.string ⟨#[]⟩)) (g := w.heap.size + 1 + 1 + 1) (by omega) (.bool false) (.string ⟨#[]⟩))
  clear bb c q0 q1
  go_wp2
  exact bodyPost_ret (v := .tuple #[.agg #[.bool false, .string ⟨#[]⟩], .agg #[.bool false, .string ⟨#[]⟩], .int .i64 3]) (by simp [results, Try.results35, go_sem, m0, m1, n0, n1]) rfl ⟨by rw [wd, bs_zero]; simp, HZ.out⟩

/-- The wide integer of an integer comes back. -/
def ZPost (z : Int) (w : World) (e : Ending) (w' : World) : Prop := e = .returned (.agg #[.bool (zb z), .string (zs z)]) ∧ Below w.heap.size w w'
theorem wz_eq (z : Int) : wz z = .agg #[.bool (zb z), .string (zs z)] := by
  rw [wz, wd, zb, zs]
  by_cases hz : z < 0
  · have h1 : z.natAbs ≠ 0 := by omega
    simp [hz, h1]
  · simp [hz]

set_option maxRecDepth 100000 in
set_option maxHeartbeats 1000000 in
theorem w_any (z : Int) (w : World) (h1 : -9223372036854775808 ≤ z) (h2 : z ≤ 9223372036854775807) : Calls Try.prog 23 #[.int .i64 z] w (ZPost z w) := by
  have HN := Lib.hid (fun w => rnum_any z w h1 h2)
  have hl : (Nm.dg D9 z.natAbs).length ≤ 1000000 := by
    refine Nat.le_trans (Nm.len_le_of_val (k := 3) D92 (Nm.nrm_dg D92 _) ?_) (by decide)
    rw [Nm.val_dg D92]
    unfold D9
    omega
  have HT : Hid (∀ v w, Rz w v z → Calls Try.prog 46 #[iV z v] w fun e w' => e = .returned (.agg #[.bool (zb z), .string (zs z)]) ∧ Below w.heap.size w w') := fun v w h => by
    have := rto_int z v w h hl
    unfold ToPost at this
    rwa [wz_eq] at this
  unfold iV at HT
  obtain ⟨w0, hw0⟩ : ∃ w0 : World, w0 = w.alloc (.cells #[.bool false, .string ⟨#[]⟩] 23) := ⟨_, rfl⟩
  have hb0 : Hid (Below w.heap.size w w0) := by rw [hw0]; exact below_one _ _
  have I3 : Hid (ZC (.bool false) (.string ⟨#[]⟩) w0 w.heap.size) := by rw [hw0]; exact ZC.new rfl
  have Hw0 := Lib.hid hw0
  clear hw0 hl
  go_enter Try.func23, Try.ntmps23
  go_wp2_with fail
  rw [← Hw0.out]
  refine (HN.out _).mono ?_
  rintro e wa ⟨v1, rfl, r1, ba⟩
  have BA := Lib.hid ba
  have R1 := Lib.hid r1
  unfold iV
  clear ba r1
  go_wp2_with fail
  refine (HT.out _ _ R1.out).mono ?_
  rintro e wb ⟨rfl, bb⟩
  have c := chain BA.out bb
  obtain ⟨m0, m1, m2, m3⟩ := I3.out.next c
  have HZ := Lib.hid (below_set2 (chain hb0.out c) (Nat.le_refl w.heap.size) (.bool (zb z)) (.string (zs z)))
  clear bb c
  go_wp2
  exact bodyPost_ret (v := .agg #[.bool (zb z), .string (zs z)]) (by simp [results, Try.results23, go_sem, m0, m1]) rfl ⟨rfl, HZ.out⟩

/-- The ratio of two integers, as it stands. -/
def QZPost (x y : Int) (w : World) (e : Ending) (w' : World) : Prop := e = .returned (.agg #[.bool (zb x), .string (zs x), .bool (zb y), .string (zs y)]) ∧ Below w.heap.size w w'

set_option maxRecDepth 100000 in
set_option maxHeartbeats 1000000 in
theorem q_any (x y : Int) (w : World) (h1 : -9223372036854775808 ≤ x) (h2 : x ≤ 9223372036854775807) (h3 : -9223372036854775808 ≤ y) (h4 : y ≤ 9223372036854775807) : Calls Try.prog 50 #[.int .i64 x, .int .i64 y] w (QZPost x y w) := by
  have HX := Lib.hid (fun w => w_any x w h1 h2)
  have HY := Lib.hid (fun w => w_any y w h3 h4)
  unfold ZPost at HX HY
  unfold QZPost
  generalize zb x = xb at *
  generalize zs x = xs at *
  generalize zb y = yb at *
  generalize zs y = ys at *
  obtain ⟨w0, hw0⟩ : ∃ w0 : World, w0 = w.alloc (.cells #[.bool false, .string ⟨#[]⟩, .bool false, .string ⟨#[]⟩] 64) := ⟨_, rfl⟩
  have hb0 : Hid (Below w.heap.size w w0) := by rw [hw0]; exact below_one _ _
  have I3 : Hid (ZC4 (.bool false) (.string ⟨#[]⟩) (.bool false) (.string ⟨#[]⟩) w0 w.heap.size) := by rw [hw0]; exact ZC4.made0 w
  have Hw0 := Lib.hid hw0
  clear hw0
  go_enter Try.func50, Try.ntmps50
  go_wp2_with fail
  rw [← Hw0.out]
  refine (HX.out _).mono ?_
  rintro e wa ⟨rfl, ba⟩
  have BA := Lib.hid ba
  clear ba
  go_wp2_with fail
  refine (HY.out _).mono ?_
  rintro e wb ⟨rfl, bb⟩
  have c := chain BA.out bb
  obtain ⟨⟨m0, m1, m2, m3⟩, m4, m5, m6, m7⟩ := I3.out.next c
  have HZ := Lib.hid (below_set4 (chain hb0.out c) (Nat.le_refl w.heap.size) (.bool xb) (.string xs) (.bool yb) (.string ys))
  clear bb c
  go_wp2
  exact bodyPost_ret (v := .agg #[.bool xb, .string xs, .bool yb, .string ys]) (by simp [results, Try.results50, go_sem, m0, m1, m2, m3]) rfl ⟨rfl, HZ.out⟩
end Go.Proofs.Ytlmklhffafcmmaa

/- What the calls of the law's function known give, at their inputs. -/
namespace Go.Proofs.Ytlmklhffafcmmaa
open Go.RowKit

theorem len_small {m : Nat} (h : m < W) : (Nm.dg W m).length ≤ 1000000 := Nat.le_trans (len_top (W_Top2 h)) (by decide)
theorem len_small9 {m : Nat} (h : m < W) : (Nm.dg W m).length ≤ 1000000000 := Nat.le_trans (len_top (W_Top2 h)) (by decide)
theorem low_small {m n A B : Nat} (hm : m < W) (hn : n < W) (h0 : 0 < n) (hA : m / Nat.gcd m n = A) (hB : n / Nat.gcd m n = B) : LowOK m n A B := by
  have hg := Nat.gcd_pos_of_pos_right m h0
  have hgn : Nat.gcd m n ≤ n := Nat.gcd_le_right m h0
  have tA : A < W := by rw [← hA]; exact Nat.lt_of_le_of_lt (Nat.div_le_self _ _) hm
  have tB : B < W := by rw [← hB]; exact Nat.lt_of_le_of_lt (Nat.div_le_self _ _) hn
  refine ⟨gcdOK_small m n (Or.inl hm) (len_small9 hm) (len_small9 hn), divOK_small _ _ hg (Or.inr (by omega)) (len_small9 hm) (len_small9 (by omega)), divOK_small _ _ hg (Or.inr (by omega)) (len_small9 hn) (len_small9 (by omega)), hA, hB, len_small tA, len_small tB, W_Top2 tA, W_Top2 tB⟩
theorem zv {z : Int} (h : z.natAbs < W) : vld (zb z) (zs z) = true := zb_zs_valid (W_Top2 h)
theorem div_small {m n : Nat} (hm : m < W) (hn : n < W) (h0 : 0 < n) : DivOK m n := divOK_small m n h0 (Or.inr hn) (len_small9 hm) (len_small9 hn)

abbrev Z (z : Int) : Value := .agg #[.bool (zb z), .string (zs z)]
abbrev Q (x y : Int) : Value := .agg #[.bool (zb x), .string (zs x), .bool (zb y), .string (zs y)]
def Ret (v : Value) (w : World) (e : Ending) (w' : World) : Prop := e = .returned v ∧ Below w.heap.size w w'

theorem k_quo (x y q r : Int) (hx : x.natAbs < W) (hy : y.natAbs < W) (h0 : y ≠ 0) (hq : wd (zb x != zb y) (eq1 (zb x) x.natAbs y.natAbs) = Z q) (hr : wd false (er1 (zb x) x.natAbs y.natAbs) = Z r) (w : World) :
    Calls Try.prog 35 #[Z x, Z y] w (Ret (.tuple #[Z q, Z r, .int .i64 0]) w) := by
  have h := Quo_valid (zb x) (zb y) (zs x) (zs y) w (by rw [bv_zs, bv_zs]; exact div_small hx hy (by omega)) (zv hx) (zv hy) (by rw [bv_zs]; omega)
  rw [bv_zs, bv_zs, hq, hr] at h
  exact h
theorem k_quo1 (w : World) : Calls Try.prog 35 #[Z (-7), Z 2] w (Ret (.tuple #[Z (-4), Z 1, .int .i64 0]) w) := k_quo _ _ _ _ (by decide) (by decide) (by decide) rfl rfl w
theorem k_quo2 (w : World) : Calls Try.prog 35 #[Z 7, Z (-2)] w (Ret (.tuple #[Z (-3), Z 1, .int .i64 0]) w) := k_quo _ _ _ _ (by decide) (by decide) (by decide) rfl rfl w
theorem k_quo3 (w : World) : Calls Try.prog 35 #[Z (-7), Z (-2)] w (Ret (.tuple #[Z 4, Z 1, .int .i64 0]) w) := k_quo _ _ _ _ (by decide) (by decide) (by decide) rfl rfl w
theorem k_quo4 (w : World) : Calls Try.prog 35 #[Z 7, Z 0] w (Ret (.tuple #[Z 0, Z 0, .int .i64 3]) w) := Quo_zero (zb 7) (zb 0) (zs 7) w (zv (by decide)) rfl

theorem k_int (w : World) : Calls Try.prog 24 #[.agg #[.bool true, .string ⟨#[1, 0]⟩]] w (Ret (.tuple #[.int .i64 (-256), .int .i64 0]) w) := by
  have h := Int_valid true ⟨#[1, 0]⟩ w (by decide)
  have e : sg true (bv ⟨#[1, 0]⟩) = -256 := by decide
  unfold IntWPost at h
  rw [e, if_pos (by decide), if_pos (by decide)] at h
  exact h
theorem bs_300 : bs 300 = ⟨#[1, 44]⟩ := by decide
theorem k_of1 (w : World) : Calls Try.prog 22 #[.int .i64 (-300)] w (Ret (.agg #[.bool true, .string ⟨#[1, 44]⟩]) w) := by
  have h := Of_any (-300) w (by decide) (by decide)
  unfold OfPost at h
  rw [show (-300 : Int).natAbs = 300 from rfl, bs_300] at h
  exact h
theorem k_of2 (w : World) : Calls Try.prog 22 #[.int .i64 0] w (Ret (.agg #[.bool false, .string ⟨#[]⟩]) w) := Of_any 0 w (by decide) (by decide)

theorem k_gcd (x y g : Int) (hx : x.natAbs < W) (hy : y.natAbs < W) (hg : wd false (Nat.gcd x.natAbs y.natAbs) = Z g) (w : World) :
    Calls Try.prog 36 #[Z x, Z y] w (Ret (.tuple #[Z g, .int .i64 0]) w) := by
  have h := GCD_valid (zb x) (zb y) (zs x) (zs y) w (by rw [bv_zs, bv_zs]; exact gcdOK_small _ _ (Or.inl hx) (len_small9 hx) (len_small9 hy)) (zv hx) (zv hy)
  have t := gcd_top (W_Top2 hx) (W_Top2 hy)
  rw [bv_zs, bv_zs, wres_ok _ t, werr_ok t, hg] at h
  exact h
theorem k_gcd1 (w : World) : Calls Try.prog 36 #[Z (-12), Z 18] w (Ret (.tuple #[Z 6, .int .i64 0]) w) := k_gcd _ _ _ (by decide) (by decide) rfl w
theorem k_gcd2 (w : World) : Calls Try.prog 36 #[Z 0, Z 0] w (Ret (.tuple #[Z 0, .int .i64 0]) w) := k_gcd _ _ _ (by decide) (by decide) rfl w
theorem k_shift1 (w : World) : Calls Try.prog 40 #[Z (-5), .int .i64 (-1)] w (Ret (.tuple #[Z (-3), .int .i64 0]) w) := by
  have h := Shift_down (zb (-5)) (zs (-5)) 1 (-1) (by decide) (by decide) (by decide) w (zv (by decide))
  have e : shd (zb (-5)) (bv (zs (-5))) 1 = 3 := by rw [bv_zs]; decide
  have t : (3 : Nat) < Top := W_Top2 (by decide)
  rw [e, wres_ok _ t, werr_ok t] at h
  exact h
theorem k_shift2 (w : World) : Calls Try.prog 40 #[Z 5, .int .i64 3] w (Ret (.tuple #[Z 40, .int .i64 0]) w) := by
  have h := Shift_up (zb 5) (zs 5) 3 (by decide) w (zv (by decide))
  have e : bv (zs 5) * 2 ^ 3 = 40 := by rw [bv_zs]; decide
  have t : (40 : Nat) < Top := W_Top2 (by decide)
  rw [e, wres_ok _ t, werr_ok t] at h
  exact h

abbrev S0 : ByteArray := ⟨#[45, 48]⟩
abbrev S7 : ByteArray := ⟨#[48, 48, 55]⟩
abbrev S64 : ByteArray := ⟨#[45, 49, 56, 52, 52, 54, 55, 52, 52, 48, 55, 51, 55, 48, 57, 53, 53, 49, 54, 49, 54]⟩
theorem not_dec {s : ByteArray} (h1 : s.data.toList ≠ [48]) (h2 : (ds s).data.toList.head? = some 48) : ¬ DecT s := by
  rintro (h | ⟨⟨h, g⟩, _⟩)
  · rw [ByteArray.toList_eq] at h; exact h1 h
  · apply g
    have e : (ds s).data.toList.head? = some ((ds s)[0]) := by
      have hl : 0 < (ds s).data.toList.length := h
      rw [List.head?_eq_getElem?, List.getElem?_eq_getElem hl]
      rfl
    rw [e] at h2
    have := Option.some.inj h2
    rw [this]; rfl
theorem k_parse1 (w : World) : Calls Try.prog 44 #[.string S0] w (Ret (.tuple #[.agg #[.bool false, .string ⟨#[]⟩], .int .i64 6]) w) := Parse_bad S0 w (by decide) (not_dec (by decide) (by decide))
theorem k_parse2 (w : World) : Calls Try.prog 44 #[.string S7] w (Ret (.tuple #[.agg #[.bool false, .string ⟨#[]⟩], .int .i64 6]) w) := Parse_bad S7 w (by decide) (not_dec (by decide) (by decide))
theorem bs_W : bs 18446744073709551616 = ⟨#[1, 0, 0, 0, 0, 0, 0, 0, 0]⟩ := by
  have h := Nm.eq_dg (B := 256) (by decide) (l := [0, 0, 0, 0, 0, 0, 0, 0, 1]) (by unfold Nm.Dig; decide) (show (1 : Nat) ≠ 0 by decide)
  have e : Nm.val 256 [0, 0, 0, 0, 0, 0, 0, 0, 1] = 18446744073709551616 := by decide
  rw [e] at h
  unfold bs
  rw [← h]
  rfl
theorem ds64 : ds S64 = ⟨#[49, 56, 52, 52, 54, 55, 52, 52, 48, 55, 51, 55, 48, 57, 53, 53, 49, 54, 49, 54]⟩ := rfl
theorem dec64 : DecT S64 := by
  refine Or.inr ⟨⟨by decide, by decide⟩, ?_⟩
  rw [ds64]
  decide
theorem decv64 : decv (ds S64) = 18446744073709551616 := by decide
abbrev R64 : Value := .agg #[.bool true, .string ⟨#[1, 0, 0, 0, 0, 0, 0, 0, 0]⟩]
theorem W_lt_Top : (18446744073709551616 : Nat) < Top := by
  have h : (2 : Nat) ^ 65 ≤ Top := by
    rw [Top]
    exact Nat.pow_le_pow_right (by decide) (by rw [TopBits_eq]; decide)
  exact Nat.lt_of_lt_of_le (by decide) h
theorem k_parse3 (w : World) : Calls Try.prog 44 #[.string S64] w (Ret (.tuple #[R64, .int .i64 0]) w) := by
  have h := Parse_ok S64 w (by decide) dec64 (by decide)
  rw [decv64, wres_ok _ W_lt_Top, werr_ok W_lt_Top] at h
  rw [wd, bs_W] at h
  exact h
theorem k_len (w : World) : Calls Try.prog 17 #[R64] w (Ret (.int .i64 65) w) := by
  have h := Len_any true ⟨#[1, 0, 0, 0, 0, 0, 0, 0, 0]⟩ w (by decide)
  have e : lenV true ⟨#[1, 0, 0, 0, 0, 0, 0, 0, 0]⟩ = 65 := by decide
  rw [e] at h
  exact h
theorem k_sign (w : World) : Calls Try.prog 16 #[R64] w (Ret (.int .i64 (-1)) w) := by
  have h := Sign_any true ⟨#[1, 0, 0, 0, 0, 0, 0, 0, 0]⟩ w (by decide)
  have e : sgV true ⟨#[1, 0, 0, 0, 0, 0, 0, 0, 0]⟩ = -1 := by decide
  rw [e] at h
  exact h

theorem k_ratof (x y p q : Int) (A B : Nat) (hx : x.natAbs < 9223372036854775808) (hy : y.natAbs < 9223372036854775808) (h0 : y ≠ 0) (hA : x.natAbs / Nat.gcd x.natAbs y.natAbs = A) (hB : y.natAbs / Nat.gcd x.natAbs y.natAbs = B)
    (he : rat ((zb x != zb y) && decide (A ≠ 0)) (bs A) false (bs B) = Q p q) (w : World) : Calls Try.prog 48 #[.int .i64 x, .int .i64 y] w (Ret (.tuple #[Q p q, .int .i64 0]) w) := by
  have h := RatioOf_ok x y A B w (low_small (by unfold W; omega) (by unfold W; omega) (by omega) hA hB) (by omega) (by omega) (by omega) (by omega) h0
  unfold RPost at h
  rw [he] at h
  exact h
theorem k_ratof1 (w : World) : Calls Try.prog 48 #[.int .i64 6, .int .i64 (-4)] w (Ret (.tuple #[Q (-3) 2, .int .i64 0]) w) := k_ratof _ _ _ _ 3 2 (by decide) (by decide) (by decide) (by decide) (by decide) rfl w
theorem k_ratof2 (w : World) : Calls Try.prog 48 #[.int .i64 0, .int .i64 (-5)] w (Ret (.tuple #[Q 0 1, .int .i64 0]) w) := k_ratof _ _ _ _ 0 1 (by decide) (by decide) (by decide) (by decide) (by decide) rfl w
theorem sgz {z : Int} (h : z.natAbs < W) (h0 : 0 < z) : 0 < sgV (zb z) (zs z) := by rw [sgV_z (W_Top2 h), Int.sign_eq_one_of_pos h0]; decide
theorem k_floor (w : World) : Calls Try.prog 49 #[Q (-3) 2] w (Ret (.tuple #[Z (-2), .int .i64 0]) w) := by
  have h := Floor_ok (zb (-3)) (zb 2) (zs (-3)) (zs 2) w (by rw [bv_zs, bv_zs]; exact div_small (by decide) (by decide) (by decide)) (zv (by decide)) (zv (by decide)) (sgz (by decide) (by decide)) (by rw [bv_zs]; decide)
  rw [bv_zs, bv_zs] at h
  exact h
theorem k_add (w : World) : Calls Try.prog 51 #[Q 1 2, Q 1 3] w (Ret (.tuple #[Q 5 6, .int .i64 0]) w) := by
  have hf := addFrac (zb 1) (zb 2) (zb 1) (zb 3) (bv (zs 1)) (bv (zs 2)) (bv (zs 1)) (bv (zs 3))
  have h := AddRatio_ok (zb 1) (zb 2) (zb 1) (zb 3) (zs 1) (zs 2) (zs 1) (zs 3) false 5 5 6 w (by
      have e := hf (by rw [bv_zs]; exact len_small9 (by decide)) (by rw [bv_zs]; exact len_small9 (by decide)) (by rw [bv_zs]; exact len_small9 (by decide)) (by rw [bv_zs]; exact len_small9 (by decide)) (by rw [bv_zs, bv_zs]; exact len_small9 (by decide)) (by rw [bv_zs, bv_zs]; exact len_small9 (by decide))
      rw [bv_zs, bv_zs, bv_zs] at e ⊢
      exact e) (by rw [bv_zs, bv_zs]; exact low_small (by decide) (by decide) (by decide) (by decide) (by decide)) (zv (by decide)) (zv (by decide)) (zv (by decide)) (zv (by decide)) (sgz (by decide) (by decide)) (sgz (by decide) (by decide))
  exact h
theorem k_mul (w : World) : Calls Try.prog 47 #[Q 2 3, Q 3 4] w (Ret (.tuple #[Q 1 2, .int .i64 0]) w) := by
  have hf := mulFrac (zb 2) (zb 3) (zb 3) (zb 4) (bv (zs 2)) (bv (zs 3)) (bv (zs 3)) (bv (zs 4)) (by rw [bv_zs]; exact len_small9 (by decide)) (by rw [bv_zs]; exact len_small9 (by decide))
  have h := MulRatio_ok (zb 2) (zb 3) (zb 3) (zb 4) (zs 2) (zs 3) (zs 3) (zs 4) false 6 1 2 w (by
      rw [bv_zs, bv_zs, bv_zs] at hf ⊢
      exact hf) (by rw [bv_zs, bv_zs]; exact low_small (by decide) (by decide) (by decide) (by decide) (by decide)) (zv (by decide)) (zv (by decide)) (zv (by decide)) (zv (by decide)) (sgz (by decide) (by decide)) (sgz (by decide) (by decide))
  exact h
theorem k_cmp (w : World) : Calls Try.prog 52 #[Q 2 4, Q 1 2] w (Ret (.tuple #[.int .i64 0, .int .i64 0]) w) := by
  have h := CompareRatio_pos (zb 2) (zb 4) (zb 1) (zb 2) (zs 2) (zs 4) (zs 1) (zs 2) w (zv (by decide)) (zv (by decide)) (zv (by decide)) (zv (by decide)) (sgz (by decide) (by decide)) (sgz (by decide) (by decide)) (by rw [sgV_z (W_Top2 (by decide)), sgV_z (W_Top2 (by decide))]; decide) (by decide)
  have e : cmpN (bv (zs 2) * bv (zs 2)) (bv (zs 1) * bv (zs 4)) = 0 := by rw [bv_zs, bv_zs, bv_zs]; decide
  rw [e] at h
  exact h
theorem k_w (z : Int) (h1 : -9223372036854775808 ≤ z) (h2 : z ≤ 9223372036854775807) (w : World) : Calls Try.prog 23 #[.int .i64 z] w (Ret (Z z) w) := w_any z w h1 h2
theorem k_q (x y : Int) (h1 : -9223372036854775808 ≤ x) (h2 : x ≤ 9223372036854775807) (h3 : -9223372036854775808 ≤ y) (h4 : y ≤ 9223372036854775807) (w : World) : Calls Try.prog 50 #[.int .i64 x, .int .i64 y] w (Ret (Q x y) w) := q_any x y w h1 h2 h3 h4
end Go.Proofs.Ytlmklhffafcmmaa
