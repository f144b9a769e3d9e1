/- What the theorem leans on, part 12: Q3, LRatA. -/
import Derived.Test.YtlmklhffafcmmaaGreatV9
import Derived.Test.YtlmklhffafcmmaaGreatV11
import Derived.Test.YtlmklhffafcmmaaGreatV10

/- The reference's ValidRatio and OutRatio; the law's function same; wide.Ratio, RatioOf and Floor where they fail. -/
namespace Go.Proofs.YtlmklhffafcmmaaGreat
open Go.RowKit

set_option maxRecDepth 100000 in
set_option maxHeartbeats 2000000 in
theorem rvalidRatio_any (a b : Bool) (s t : ByteArray) (w : World) (hs : s.size ≤ 140737488351232) (ht : t.size ≤ 140737488351232) :
    Calls Tryz.prog 13 #[rat a s b t] w (BPost (vldR a s b t) w) := by
  rw [vld_rat]
  have HA := Lib.hid (fun w => rvalid_any a s w hs)
  have HB := Lib.hid (fun w => rvalid_any b t w ht)
  unfold BPost at *
  unfold rat
  obtain ⟨w0, hw0⟩ : ∃ w0 : World, w0 = w.alloc (.cells #[.bool a, .string s, .bool b, .string t] 27) := ⟨_, rfl⟩
  have hb0 : Hid (Below w.heap.size w w0) := by rw [hw0]; exact below_one _ _
  have I1 : Hid (ZC4 (.bool a) (.string s) (.bool b) (.string t) w0 w.heap.size) := by rw [hw0]; exact ZC4.made0 w
  have Hw0 := Lib.hid hw0
  clear hw0
  generalize vld a s = va at *
  generalize vld b t = vb at *
  go_enter Tryz.func13, Tryz.ntmps13
  go_wp2_with fail
  rw [← Hw0.out]
  refine (HA.out _).mono ?_
  rintro e wa ⟨rfl, ba⟩
  obtain ⟨⟨k0, k1, k2, k3⟩, _⟩ := I1.out.next ba
  have BA := Lib.hid ba
  have HZ := Lib.hid (chain hb0.out ba)
  clear ba
  cases va with
  | false =>
    go_wp2
    go_ret
    exact ⟨rfl, HZ.out⟩
  | true =>
    go_wp2_with fail
    refine (HB.out _).mono ?_
    rintro e wb ⟨rfl, bb⟩
    have c := chain BA.out bb
    obtain ⟨⟨k0, k1, k2, k3⟩, _⟩ := I1.out.next c
    have HZ := Lib.hid (chain hb0.out c)
    clear bb c
    cases vb with
    | false =>
      go_wp2
      go_ret
      exact ⟨rfl, HZ.out⟩
    | true =>
      cases b with
      | true =>
        go_wp2
        go_ret
        exact ⟨rfl, HZ.out⟩
      | false =>
        by_cases h0 : 0 < t.size
        · have e0 : decide (0 < t.size) = true := decide_eq_true h0
          have E0 := Lib.hid e0
          clear e0
          go_wp2
          go_ret
          exact ⟨by rw [E0.out]; rfl, HZ.out⟩
        · have e0 : decide (0 < t.size) = false := decide_eq_false h0
          have E0 := Lib.hid e0
          clear e0
          go_wp2
          go_ret
          exact ⟨by rw [E0.out]; rfl, HZ.out⟩

set_option maxRecDepth 100000 in
set_option maxHeartbeats 4000000 in
theorem routRatio_int (x y : Int) (v1 v2 : Value) (w : World) (h1 : Rz w v1 x) (h2 : Rz w v2 y) (l1 : (Nm.dg D9 x.natAbs).length ≤ 1000000) (l2 : (Nm.dg D9 y.natAbs).length ≤ 1000000) (z1 : (zs x).size ≤ 8192) (z2 : (zs y).size ≤ 8192) :
    Calls Tryz.prog 65 #[qV x y v1 v2] w fun e w' => e = .returned (.tuple #[.agg #[.bool (zb x), .string (zs x), .bool (zb y), .string (zs y)], .int .i64 0]) ∧ Below w.heap.size w w' := by
  have H_b1 := Lib.hid (fun v w h => rbig_int x v w h l1 z1)
  have H_b2 := Lib.hid (fun v w h => rbig_int y v w h l2 z2)
  have H_t1 : Hid (∀ v w, Rz w v x → Calls Tryz.prog 119 #[iV x v] w fun e w' => e = .returned (.agg #[.bool (zb x), .string (zs x)]) ∧ Below w.heap.size w w') := fun v w h => by
    have := rto_int x v w h l1
    unfold ToPost at this
    rwa [wz_eq] at this
  have H_t2 : Hid (∀ v w, Rz w v y → Calls Tryz.prog 119 #[iV y v] w fun e w' => e = .returned (.agg #[.bool (zb y), .string (zs y)]) ∧ Below w.heap.size w w') := fun v w h => by
    have := rto_int y v w h l2
    unfold ToPost at this
    rwa [wz_eq] at this
  have R1 : Hid (Rz w v1 x) := h1
  have R2 : Hid (Rz w v2 y) := h2
  obtain ⟨p1, b1, o1, c1, rfl, hr1⟩ := h1
  obtain ⟨p2, b2, o2, c2, rfl, hr2⟩ := h2
  clear hr1 hr2 l1 l2 z1 z2
  unfold iV at *
  unfold qV
  unfold BPost at *
  generalize decide (x < 0) = bx at *
  generalize decide (y < 0) = by' at *
  generalize zb x = xb at *
  generalize zs x = xs at *
  generalize zb y = yb at *
  generalize zs y = ys at *
  generalize (Nm.dg D9 x.natAbs).length = l1 at *
  generalize (Nm.dg D9 y.natAbs).length = l2 at *
  obtain ⟨w0, hw0⟩ : ∃ w0 : World, w0 = (w.alloc (.cells #[.bool bx, .slice p1 l1 c1, .bool by', .slice p2 l2 c2] 40)).alloc (.cells #[.bool false, .string ⟨#[]⟩, .bool false, .string ⟨#[]⟩] 27) := ⟨_, rfl⟩
  have hb0 : Hid (Below w.heap.size w w0) := by rw [hw0]; exact ((Below.refl _ _).alloc (Nat.le_refl _) _).alloc (by simp) _
  have I1 : Hid (ZC4 (.bool bx) (.slice p1 l1 c1) (.bool by') (.slice p2 l2 c2) w0 w.heap.size) := by rw [hw0]; exact (ZC4.made0 w).next (below_one _ _)
  have I3 : Hid (ZC4 (.bool false) (.string ⟨#[]⟩) (.bool false) (.string ⟨#[]⟩) w0 (w.heap.size + 1)) := by
    rw [hw0]
    have := ZC4.made0 (x := .bool false) (y := .string ⟨#[]⟩) (z := .bool false) (u := .string ⟨#[]⟩) (t := 27) (w.alloc (.cells #[.bool bx, .slice p1 l1 c1, .bool by', .slice p2 l2 c2] 40))
    show ZC4 _ _ _ _ _ _
    simpa using this
  have R1 : Hid (Rz w0 (.slice p1 l1 c1) x) := Ri.below R1.out hb0.out (Nat.le_refl _)
  have R2 : Hid (Rz w0 (.slice p2 l2 c2) y) := Ri.below R2.out hb0.out (Nat.le_refl _)
  have Hw0 := Lib.hid hw0
  clear hw0
  go_enter Tryz.func65, Tryz.ntmps65
  go_wp2_with fail
  rw [← Hw0.out]
  refine (H_b1.out _ _ R1.out).mono ?_
  rintro e wa ⟨rfl, ba⟩
  obtain ⟨⟨k0, k1, k2, k3⟩, _⟩ := I1.out.next ba
  have D := Lib.hid ba
  clear ba
  go_wp2_with fail
  refine (H_b2.out _ _ (Ri.below R2.out D.out (Nat.le_refl _))).mono ?_
  rintro e wb ⟨rfl, bb⟩
  have D := Lib.hid (chain D.out bb)
  have I1 := Lib.hid (I1.out.next D.out)
  have I3 := Lib.hid (I3.out.next D.out)
  have R1 := Lib.hid (Ri.below R1.out D.out (Nat.le_refl _))
  have R2 := Lib.hid (Ri.below R2.out D.out (Nat.le_refl _))
  have hb0 := Lib.hid (chain hb0.out D.out)
  clear bb k0 k1 k2 k3 D Hw0
  go_upto_region 3 with (fail)
  obtain ⟨⟨k0, k1, k2, k3⟩, _⟩ := I1.out
  go_region_held3 (fun W' => W'.cell? ⟨w.heap.size, 0, none⟩ = some (.bool bx) ∧ W'.cell? ⟨w.heap.size, 1, none⟩ = some (.slice p1 l1 c1) ∧ W'.cell? ⟨w.heap.size, 2, none⟩ = some (.bool by') ∧ W'.cell? ⟨w.heap.size, 3, none⟩ = some (.slice p2 l2 c2)) (go_keep)
    (first
      | (go_at_call 119; (with_reducible refine (H_t1.out _ _ (by first | exact R1.out | exact Ri.drew R1.out | exact Ri.below R1.out E.out (Nat.le_refl _))).mono ?_); rintro e w1 ⟨rfl, b1⟩; (try (have b1 := undrew b1)); have E : Hid (Below wb.heap.size wb w1) := (by first | exact b1 | exact chain ((Below.refl _ _).drew) b1); have pk0 := keep1 E.out k0; have pk1 := keep1 E.out k1; have pk2 := keep1 E.out k2; have pk3 := keep1 E.out k3; have Q3 := I3.out.next E.out; have Q3h := Lib.hid Q3; obtain ⟨⟨n0, n1, n2, n3⟩, n4, n5, n6, n7⟩ := Q3; clear b1)
      | (go_at_call 119; (with_reducible refine (H_t2.out _ _ (by first | exact R2.out | exact Ri.drew R2.out | exact Ri.below R2.out E.out (Nat.le_refl _))).mono ?_); rintro e w2 ⟨rfl, b2⟩; (try (have b2 := undrew b2)); have E := Lib.hid (chain E.out b2); have pk0 := keep1 E.out k0; have pk1 := keep1 E.out k1; have pk2 := keep1 E.out k2; have pk3 := keep1 E.out k3; have Q3 := I3.out.next E.out; have Q3h := Lib.hid Q3; obtain ⟨⟨n0, n1, n2, n3⟩, n4, n5, n6, n7⟩ := Q3; clear b2)
      | fail)
  have HZ := Lib.hid (below_set4 (chain hb0.out E.out) (g := w.heap.size + 1) (by omega) (.bool xb) (.string xs) (.bool yb) (.string ys))
  go_wp2
  exact bodyPost_ret (v := .tuple #[.agg #[.bool xb, .string xs, .bool yb, .string ys], .int .i64 0]) (by simp [results, Tryz.results65, go_sem, n0, n1, n2, n3]) rfl ⟨rfl, HZ.out⟩

set_option maxRecDepth 100000 in
set_option maxHeartbeats 2000000 in
theorem rsame_true (x y : Int) (v1 v2 : Value) (w : World) (h1 : Rz w v1 x) (h2 : Rz w v2 y) (l1 : (Nm.dg D9 x.natAbs).length ≤ 1000000) (l2 : (Nm.dg D9 y.natAbs).length ≤ 1000000) (z1 : (zs x).size ≤ 8192) (z2 : (zs y).size ≤ 8192) :
    Calls Tryz.prog 14 #[.agg #[.bool (zb x), .string (zs x), .bool (zb y), .string (zs y)], .int .i64 0, qV x y v1 v2] w (BPost true w) := by
  have H_o := Lib.hid (fun v1 v2 w h1 h2 => routRatio_int x y v1 v2 w h1 h2 l1 l2 z1 z2)
  have R1 : Hid (Rz w v1 x) := h1
  have R2 : Hid (Rz w v2 y) := h2
  obtain ⟨p1, b1, o1, c1, rfl, hr1⟩ := h1
  obtain ⟨p2, b2, o2, c2, rfl, hr2⟩ := h2
  clear hr1 hr2 l1 l2 z1 z2
  unfold qV at *
  unfold BPost at *
  generalize decide (x < 0) = bx at *
  generalize decide (y < 0) = by' at *
  generalize zb x = xb at *
  generalize zs x = xs at *
  generalize zb y = yb at *
  generalize zs y = ys at *
  generalize (Nm.dg D9 x.natAbs).length = l1 at *
  generalize (Nm.dg D9 y.natAbs).length = l2 at *
  obtain ⟨w0, hw0⟩ : ∃ w0 : World, w0 = (w.alloc (.cells #[.bool xb, .string xs, .bool yb, .string ys] 27)).alloc (.cells #[.bool bx, .slice p1 l1 c1, .bool by', .slice p2 l2 c2] 40) := ⟨_, rfl⟩
  have hb0 : Hid (Below w.heap.size w w0) := by rw [hw0]; exact ((Below.refl _ _).alloc (Nat.le_refl _) _).alloc (by simp) _
  have I1 : Hid (ZC4 (.bool xb) (.string xs) (.bool yb) (.string ys) w0 w.heap.size) := by rw [hw0]; exact (ZC4.made0 w).next (below_one _ _)
  have R1 : Hid (Rz w0 (.slice p1 l1 c1) x) := Ri.below R1.out hb0.out (Nat.le_refl _)
  have R2 : Hid (Rz w0 (.slice p2 l2 c2) y) := Ri.below R2.out hb0.out (Nat.le_refl _)
  have Hw0 := Lib.hid hw0
  clear hw0
  go_enter Tryz.func14, Tryz.ntmps14
  go_wp2_with fail
  rw [← Hw0.out]
  refine (H_o.out _ _ _ R1.out R2.out).mono ?_
  rintro e wa ⟨rfl, ba⟩
  obtain ⟨⟨k0, k1, k2, k3⟩, _⟩ := I1.out.next ba
  have f1 : w.heap.size < wa.heap.size := World.block_lt_of_cell? wa _ k0
  have f2 : ¬ w.heap.size = wa.heap.size := by omega
  have f3 : ¬ wa.heap.size = w.heap.size := by omega
  have HZ := Lib.hid ((chain hb0.out ba).alloc (chain hb0.out ba).size (.cells #[.bool xb, .string xs, .bool yb, .string ys] 27))
  clear ba
  go_wp2
  go_ret
  exact ⟨rfl, HZ.out⟩

set_option maxRecDepth 100000 in
set_option maxHeartbeats 2000000 in
theorem Ratio_bad1 (a b : Bool) (s t : ByteArray) (w : World) (z1 : s.size ≤ 140737488351232) (z2 : t.size ≤ 140737488351232) (hv1 : vld a s = false) :
    Calls Tryz.prog 9 #[.agg #[.bool a, .string s], .agg #[.bool b, .string t]] w (RPost false ⟨#[]⟩ false ⟨#[]⟩ 2 w) := by
  have HA := Lib.hid (fun w => Valid_any a s w z1)
  rw [hv1] at HA
  unfold BPost at HA
  clear hv1
  obtain ⟨w0, hw0⟩ : ∃ w0 : World, w0 = ((w.alloc (.cells #[.bool a, .string s] 23)).alloc (.cells #[.bool b, .string t] 23)).alloc (.cells #[.bool false, .string ⟨#[]⟩, .bool false, .string ⟨#[]⟩] 27) := ⟨_, rfl⟩
  have hb0 : Hid (Below w.heap.size w w0) := by rw [hw0]; exact (((Below.refl _ _).alloc (Nat.le_refl _) _).alloc (by simp) _).alloc (by simp; omega) _
  have I2 : Hid (ZC (.bool b) (.string t) w0 (w.heap.size + 1)) := by rw [hw0]; exact (ZC.new (by simp)).alloc _
  have I3 : Hid (ZC4 (.bool false) (.string ⟨#[]⟩) (.bool false) (.string ⟨#[]⟩) w0 (w.heap.size + 1 + 1)) := by
    rw [hw0]
    have := ZC4.made0 (x := .bool false) (y := .string ⟨#[]⟩) (z := .bool false) (u := .string ⟨#[]⟩) (t := 27) ((w.alloc (.cells #[.bool a, .string s] 23)).alloc (.cells #[.bool b, .string t] 23))
    show ZC4 _ _ _ _ _ _
    simpa using this
  have Hw0 := Lib.hid hw0
  clear hw0
  unfold RPost rat
  go_enter Tryz.func9, Tryz.ntmps9
  go_wp2_with fail
  rw [← Hw0.out]
  refine (HA.out _).mono ?_
  rintro e wa ⟨rfl, ba⟩
  obtain ⟨k0, k1, _⟩ := I2.out.next ba
  have D := Lib.hid ba
  have HZ := Lib.hid (below_set4 (chain hb0.out ba) (g := w.heap.size + 1 + 1) (by omega) (.bool false) (.string ⟨#[]⟩) (.bool false) (.string ⟨#[]⟩))
  clear ba
  obtain ⟨⟨n0, n1, n2, n3⟩, n4, n5, n6, n7⟩ := I3.out.next D.out
  go_wp2
  exact bodyPost_ret (v := .tuple #[.agg #[.bool false, .string ⟨#[]⟩, .bool false, .string ⟨#[]⟩], .int .i64 2]) (by simp [results, Tryz.results9, go_sem, n0, n1, n2, n3]) rfl ⟨rfl, HZ.out⟩

set_option maxRecDepth 100000 in
set_option maxHeartbeats 2000000 in
theorem Ratio_bad2 (a b : Bool) (s t : ByteArray) (w : World) (z1 : s.size ≤ 140737488351232) (z2 : t.size ≤ 140737488351232) (hv1 : vld a s = true) (hv2 : vld b t = false) :
    Calls Tryz.prog 9 #[.agg #[.bool a, .string s], .agg #[.bool b, .string t]] w (RPost false ⟨#[]⟩ false ⟨#[]⟩ 2 w) := by
  have HA := Lib.hid (fun w => Valid_any a s w z1)
  rw [hv1] at HA
  unfold BPost at HA
  clear hv1
  have HB := Lib.hid (fun w => Valid_any b t w z2)
  rw [hv2] at HB
  unfold BPost at HB
  clear hv2
  obtain ⟨w0, hw0⟩ : ∃ w0 : World, w0 = ((w.alloc (.cells #[.bool a, .string s] 23)).alloc (.cells #[.bool b, .string t] 23)).alloc (.cells #[.bool false, .string ⟨#[]⟩, .bool false, .string ⟨#[]⟩] 27) := ⟨_, rfl⟩
  have hb0 : Hid (Below w.heap.size w w0) := by rw [hw0]; exact (((Below.refl _ _).alloc (Nat.le_refl _) _).alloc (by simp) _).alloc (by simp; omega) _
  have I2 : Hid (ZC (.bool b) (.string t) w0 (w.heap.size + 1)) := by rw [hw0]; exact (ZC.new (by simp)).alloc _
  have I3 : Hid (ZC4 (.bool false) (.string ⟨#[]⟩) (.bool false) (.string ⟨#[]⟩) w0 (w.heap.size + 1 + 1)) := by
    rw [hw0]
    have := ZC4.made0 (x := .bool false) (y := .string ⟨#[]⟩) (z := .bool false) (u := .string ⟨#[]⟩) (t := 27) ((w.alloc (.cells #[.bool a, .string s] 23)).alloc (.cells #[.bool b, .string t] 23))
    show ZC4 _ _ _ _ _ _
    simpa using this
  have Hw0 := Lib.hid hw0
  clear hw0
  unfold RPost rat
  go_enter Tryz.func9, Tryz.ntmps9
  go_wp2_with fail
  rw [← Hw0.out]
  refine (HA.out _).mono ?_
  rintro e wa ⟨rfl, ba⟩
  obtain ⟨k0, k1, _⟩ := I2.out.next ba
  have D := Lib.hid ba
  have HZ := Lib.hid (below_set4 (chain hb0.out ba) (g := w.heap.size + 1 + 1) (by omega) (.bool false) (.string ⟨#[]⟩) (.bool false) (.string ⟨#[]⟩))
  clear ba
  go_wp2_with fail
  refine (HB.out _).mono ?_
  rintro e wb ⟨rfl, bb⟩
  have c := chain D.out bb
  have D := Lib.hid c
  obtain ⟨k0, k1, _⟩ := I2.out.next c
  have HZ := Lib.hid (below_set4 (chain hb0.out c) (g := w.heap.size + 1 + 1) (by omega) (.bool false) (.string ⟨#[]⟩) (.bool false) (.string ⟨#[]⟩))
  clear bb c
  obtain ⟨⟨n0, n1, n2, n3⟩, n4, n5, n6, n7⟩ := I3.out.next D.out
  go_wp2
  exact bodyPost_ret (v := .tuple #[.agg #[.bool false, .string ⟨#[]⟩, .bool false, .string ⟨#[]⟩], .int .i64 2]) (by simp [results, Tryz.results9, go_sem, n0, n1, n2, n3]) rfl ⟨rfl, HZ.out⟩

set_option maxRecDepth 100000 in
set_option maxHeartbeats 2000000 in
theorem Ratio_zero0 (a b : Bool) (s t : ByteArray) (w : World) (z1 : s.size ≤ 140737488351232) (z2 : t.size ≤ 140737488351232) (hv1 : vld a s = true) (hv2 : vld b t = true) (h0 : t = ⟨#[]⟩) :
    Calls Tryz.prog 9 #[.agg #[.bool a, .string s], .agg #[.bool b, .string t]] w (RPost false ⟨#[]⟩ false ⟨#[]⟩ 3 w) := by
  have HA := Lib.hid (fun w => Valid_any a s w z1)
  rw [hv1] at HA
  unfold BPost at HA
  clear hv1
  have HB := Lib.hid (fun w => Valid_any b t w z2)
  rw [hv2] at HB
  unfold BPost at HB
  clear hv2
  subst h0
  obtain ⟨w0, hw0⟩ : ∃ w0 : World, w0 = ((w.alloc (.cells #[.bool a, .string s] 23)).alloc (.cells #[.bool b, .string ⟨#[]⟩] 23)).alloc (.cells #[.bool false, .string ⟨#[]⟩, .bool false, .string ⟨#[]⟩] 27) := ⟨_, rfl⟩
  have hb0 : Hid (Below w.heap.size w w0) := by rw [hw0]; exact (((Below.refl _ _).alloc (Nat.le_refl _) _).alloc (by simp) _).alloc (by simp; omega) _
  have I2 : Hid (ZC (.bool b) (.string ⟨#[]⟩) w0 (w.heap.size + 1)) := by rw [hw0]; exact (ZC.new (by simp)).alloc _
  have I3 : Hid (ZC4 (.bool false) (.string ⟨#[]⟩) (.bool false) (.string ⟨#[]⟩) w0 (w.heap.size + 1 + 1)) := by
    rw [hw0]
    have := ZC4.made0 (x := .bool false) (y := .string ⟨#[]⟩) (z := .bool false) (u := .string ⟨#[]⟩) (t := 27) ((w.alloc (.cells #[.bool a, .string s] 23)).alloc (.cells #[.bool b, .string ⟨#[]⟩] 23))
    show ZC4 _ _ _ _ _ _
    simpa using this
  have Hw0 := Lib.hid hw0
  clear hw0
  unfold RPost rat
  go_enter Tryz.func9, Tryz.ntmps9
  go_wp2_with fail
  rw [← Hw0.out]
  refine (HA.out _).mono ?_
  rintro e wa ⟨rfl, ba⟩
  obtain ⟨k0, k1, _⟩ := I2.out.next ba
  have D := Lib.hid ba
  have HZ := Lib.hid (below_set4 (chain hb0.out ba) (g := w.heap.size + 1 + 1) (by omega) (.bool false) (.string ⟨#[]⟩) (.bool false) (.string ⟨#[]⟩))
  clear ba
  go_wp2_with fail
  refine (HB.out _).mono ?_
  rintro e wb ⟨rfl, bb⟩
  have c := chain D.out bb
  have D := Lib.hid c
  obtain ⟨k0, k1, _⟩ := I2.out.next c
  have HZ := Lib.hid (below_set4 (chain hb0.out c) (g := w.heap.size + 1 + 1) (by omega) (.bool false) (.string ⟨#[]⟩) (.bool false) (.string ⟨#[]⟩))
  clear bb c
  obtain ⟨⟨n0, n1, n2, n3⟩, n4, n5, n6, n7⟩ := I3.out.next D.out
  go_wp2
  exact bodyPost_ret (v := .tuple #[.agg #[.bool false, .string ⟨#[]⟩, .bool false, .string ⟨#[]⟩], .int .i64 3]) (by simp [results, Tryz.results9, go_sem, n0, n1, n2, n3]) rfl ⟨rfl, HZ.out⟩

theorem Ratio_bad (a b : Bool) (s t : ByteArray) (w : World) (z1 : s.size ≤ 140737488351232) (z2 : t.size ≤ 140737488351232) (hv : (vld a s && vld b t) = false) :
    Calls Tryz.prog 9 #[.agg #[.bool a, .string s], .agg #[.bool b, .string t]] w (RPost false ⟨#[]⟩ false ⟨#[]⟩ 2 w) := by
  cases h1 : vld a s with
  | false => exact Ratio_bad1 a b s t w z1 z2 h1
  | true => exact Ratio_bad2 a b s t w z1 z2 h1 (by rw [h1] at hv; simpa using hv)

set_option maxRecDepth 100000 in
set_option maxHeartbeats 2000000 in
theorem RatioOf_zero (x : Int) (w : World) (h1 : -9223372036854775808 ≤ x) (h2 : x ≤ 9223372036854775807) :
    Calls Tryz.prog 10 #[.int .i64 x, .int .i64 0] w (RPost false ⟨#[]⟩ false ⟨#[]⟩ 3 w) := by
  have t1 : x.natAbs < Top := W_Top2 (by unfold W; omega)
  have HX := Lib.hid (fun w => Of_any x w h1 h2)
  have HY := Lib.hid (fun w => Of_any 0 w (by decide) (by decide))
  have hv1 : vld (zb x) (zs x) = true := zb_zs_valid t1
  have HR := Lib.hid (fun w => Ratio_zero0 (zb x) (zb 0) (zs x) (zs 0) w (Nat.le_trans (vld_size hv1) (by decide)) (by decide) hv1 (zb_zs_valid (W_Top2 W0)) (by rw [zs]; exact bs_zero))
  unfold OfPost at HX HY
  unfold RPost rat at *
  have eX : (.agg #[.bool (decide (x < 0)), .string (bs x.natAbs)] : Value) = .agg #[.bool (zb x), .string (zs x)] := rfl
  have eY : (.agg #[.bool (decide ((0 : Int) < 0)), .string (bs (0 : Int).natAbs)] : Value) = .agg #[.bool (zb 0), .string (zs 0)] := rfl
  rw [eX] at HX
  rw [eY] at HY
  clear eX eY hv1 t1 h1 h2
  generalize zb x = xb at *
  generalize zs x = xs at *
  generalize zb 0 = yb at *
  generalize zs 0 = ys at *
  obtain ⟨w0, hw0⟩ : ∃ w0 : World, w0 = w.alloc (.cells #[.bool false, .string ⟨#[]⟩, .bool false, .string ⟨#[]⟩] 27) := ⟨_, rfl⟩
  have hb0 : Hid (Below w.heap.size w w0) := by rw [hw0]; exact below_one _ _
  have I3 : Hid (ZC4 (.bool false) (.string ⟨#[]⟩) (.bool false) (.string ⟨#[]⟩) w0 w.heap.size) := by rw [hw0]; exact ZC4.made0 w
  have Hw0 := Lib.hid hw0
  clear hw0
  go_enter Tryz.func10, Tryz.ntmps10
  go_wp2_with fail
  rw [← Hw0.out]
  refine (HX.out _).mono ?_
  rintro e wa ⟨rfl, ba⟩
  have D := Lib.hid ba
  clear ba
  go_wp2_with fail
  refine (HY.out _).mono ?_
  rintro e wb ⟨rfl, bb⟩
  have D := Lib.hid (chain D.out bb)
  clear bb
  go_wp2_with fail
  refine (HR.out _).mono ?_
  rintro e wc ⟨rfl, bc⟩
  have c := chain D.out bc
  obtain ⟨⟨n0, n1, n2, n3⟩, n4, n5, n6, n7⟩ := I3.out.next c
  have HZ := Lib.hid (below_set4 (chain hb0.out c) (Nat.le_refl w.heap.size) (.bool false) (.string ⟨#[]⟩) (.bool false) (.string ⟨#[]⟩))
  clear bc c
  go_wp2
  exact bodyPost_ret (v := .tuple #[.agg #[.bool false, .string ⟨#[]⟩, .bool false, .string ⟨#[]⟩], .int .i64 3]) (by simp [results, Tryz.results10, go_sem, n0, n1, n2, n3]) rfl ⟨rfl, HZ.out⟩

set_option maxRecDepth 100000 in
set_option maxHeartbeats 2000000 in
theorem Floor_bad (a b : Bool) (s t : ByteArray) (w : World) (z1 : s.size ≤ 140737488351232) (z2 : t.size ≤ 140737488351232) (hv : vldR a s b t = false) :
    Calls Tryz.prog 11 #[rat a s b t] w (WPost (wd false 0) 2 w) := by
  have HA := Lib.hid (fun w => ValidRatio_any a b s t w z1 z2)
  rw [hv] at HA
  unfold BPost at HA
  unfold WPost rat
  rw [wd_none]
  obtain ⟨w0, hw0⟩ : ∃ w0 : World, w0 = (w.alloc (.cells #[.bool a, .string s, .bool b, .string t] 27)).alloc (.cells #[.bool false, .string ⟨#[]⟩] 23) := ⟨_, rfl⟩
  have hb0 : Hid (Below w.heap.size w w0) := by rw [hw0]; exact ((Below.refl _ _).alloc (Nat.le_refl _) _).alloc (by simp) _
  have I3 : Hid (ZC (.bool false) (.string ⟨#[]⟩) w0 (w.heap.size + 1)) := by rw [hw0]; exact ZC.new (by simp)
  have Hw0 := Lib.hid hw0
  clear hw0 hv
  go_enter Tryz.func11, Tryz.ntmps11
  go_wp2_with fail
  rw [← Hw0.out]
  refine (HA.out _).mono ?_
  rintro e wa ⟨rfl, ba⟩
  obtain ⟨n0, n1, n2, n3⟩ := I3.out.next ba
  have HZ := Lib.hid (below_set2 (chain hb0.out ba) (g := w.heap.size + 1) (by omega) (.bool false) (.string ⟨#[]⟩))
  clear ba
  go_wp2
  exact bodyPost_ret (v := .tuple #[.agg #[.bool false, .string ⟨#[]⟩], .int .i64 2]) (by simp [results, Tryz.results11, go_sem, n0, n1]) rfl ⟨rfl, HZ.out⟩
end Go.Proofs.YtlmklhffafcmmaaGreat

/- The law WideRatios: the walk over what its calls give: an argument is not valid. -/
namespace Go.Proofs.YtlmklhffafcmmaaGreat
open Go.RowKit

set_option maxRecDepth 100000 in
set_option maxHeartbeats 8000000 in
theorem ratios_long (a b : Bool) (s t : ByteArray) (n d : Int) (w : World) (hsh : shortL [(a, s), (b, t)] = false) :
    Calls Tryz.prog 3 #[.agg #[.bool a, .string s], .agg #[.bool b, .string t], .int .i64 n, .int .i64 d] w (Ret (.bool true) w) := by
  have H_known := Lib.hid known_true
  obtain ⟨w0, hw0⟩ : ∃ w0 : World, w0 = ((w.alloc (.cells #[.bool a, .string s] 23)).alloc (.cells #[.bool b, .string t] 23)).alloc (.cells #[.bool a, .string s, .bool b, .string t] 23) := ⟨_, rfl⟩
  have hb0 : Hid (Below w.heap.size w w0) := by rw [hw0]; exact (((Below.refl _ _).alloc (Nat.le_refl _) _).alloc (by simp) _).alloc (by simp; omega) _
  have I1 : Hid (ZC (.bool a) (.string s) w0 w.heap.size) := by rw [hw0]; exact ((ZC.new rfl).alloc _).alloc _
  have I2 : Hid (ZC (.bool b) (.string t) w0 (w.heap.size + 1)) := by rw [hw0]; exact (ZC.new (by simp)).alloc _
  have Hsz : Hid (w.heap.size + 3 ≤ w0.heap.size) := by rw [hw0]; show _ ≤ _; simp
  have HSH := short_any [(a, s), (b, t)] 2 (w.heap.size + 1 + 1) w0 rfl (by decide) (by rw [hw0]; have := WL.two ((w.alloc (.cells #[.bool a, .string s] 23)).alloc (.cells #[.bool b, .string t] 23)) a b s t 23; simpa using this)
  rw [hsh] at HSH
  have HSh := Lib.hid HSH
  have Hw0 := Lib.hid hw0
  clear HSH hw0 hsh
  unfold Ret at *
  unfold BPost at HSh
  go_enter Tryz.func3, Tryz.ntmps3
  go_wp2_with fail
  rw [← Hw0.out]
  refine HSh.out.mono ?_
  rintro e x0 ⟨rfl, b0⟩
  have D := Lib.hid b0
  clear b0
  go_wp2_with fail
  refine (H_known.out _).mono ?_
  rintro e x1 ⟨rfl, b1⟩
  have HZ := Lib.hid (chain hb0.out (chain D.out b1))
  clear b1
  go_wp2
  go_ret
  exact ⟨rfl, HZ.out⟩

set_option maxRecDepth 100000 in
set_option maxHeartbeats 8000000 in
theorem ratios_bad_d0 (a b : Bool) (s t : ByteArray) (n d : Int) (w : World) (l1 : s.size ≤ 60) (l2 : t.size ≤ 60) (hsh : shortL [(a, s), (b, t)] = true) (hvl : validL [(a, s), (b, t)] = false) (hd : d = 0)
    (h_ra : ∀ w, Calls Tryz.prog 9 #[.agg #[.bool a, .string s], .agg #[.bool b, .string t]] w fun e w' => e = .returned (.tuple #[.agg #[.bool false, .string ⟨#[]⟩, .bool false, .string ⟨#[]⟩], .int .i64 2]) ∧ Below w.heap.size w w')
    (h_ro : ∀ w, Calls Tryz.prog 10 #[.int .i64 n, .int .i64 d] w fun e w' => e = .returned (.tuple #[.agg #[.bool false, .string ⟨#[]⟩, .bool false, .string ⟨#[]⟩], .int .i64 3]) ∧ Below w.heap.size w w')
    (h_fl : ∀ w, Calls Tryz.prog 11 #[.agg #[.bool a, .string s, .bool b, .string t]] w fun e w' => e = .returned (.tuple #[.agg #[.bool false, .string ⟨#[]⟩], .int .i64 2]) ∧ Below w.heap.size w w')
    (h_vr : ∀ w, Calls Tryz.prog 12 #[.agg #[.bool a, .string s, .bool b, .string t]] w fun e w' => e = .returned (.bool false) ∧ Below w.heap.size w w')
    (h_rv : ∀ w, Calls Tryz.prog 13 #[.agg #[.bool a, .string s, .bool b, .string t]] w fun e w' => e = .returned (.bool false) ∧ Below w.heap.size w w') :
    Calls Tryz.prog 3 #[.agg #[.bool a, .string s], .agg #[.bool b, .string t], .int .i64 n, .int .i64 d] w (Ret (.bool true) w) := by
  subst hd
  have H_ra := Lib.hid h_ra
  have H_ro := Lib.hid h_ro
  have H_fl := Lib.hid h_fl
  have H_vr := Lib.hid h_vr
  have H_rv := Lib.hid h_rv
  clear h_ra h_ro h_fl h_vr h_rv
  have H_known := Lib.hid known_true
  obtain ⟨w0, hw0⟩ : ∃ w0 : World, w0 = ((w.alloc (.cells #[.bool a, .string s] 23)).alloc (.cells #[.bool b, .string t] 23)).alloc (.cells #[.bool a, .string s, .bool b, .string t] 23) := ⟨_, rfl⟩
  have hb0 : Hid (Below w.heap.size w w0) := by rw [hw0]; exact (((Below.refl _ _).alloc (Nat.le_refl _) _).alloc (by simp) _).alloc (by simp; omega) _
  have I1 : Hid (ZC (.bool a) (.string s) w0 w.heap.size) := by rw [hw0]; exact ((ZC.new rfl).alloc _).alloc _
  have I2 : Hid (ZC (.bool b) (.string t) w0 (w.heap.size + 1)) := by rw [hw0]; exact (ZC.new (by simp)).alloc _
  have Hsz : Hid (w.heap.size + 3 ≤ w0.heap.size) := by rw [hw0]; show _ ≤ _; simp
  have HSH := short_any [(a, s), (b, t)] 2 (w.heap.size + 1 + 1) w0 rfl (by decide) (by rw [hw0]; have := WL.two ((w.alloc (.cells #[.bool a, .string s] 23)).alloc (.cells #[.bool b, .string t] 23)) a b s t 23; simpa using this)
  rw [hsh] at HSH
  have H_val := Lib.hid (fun g w h => valid_any [(a, s), (b, t)] 2 g w rfl (by decide) h (by intro x hx; simp at hx; rcases hx with rfl | rfl <;> (show _ ≤ _; simp; omega)))
  rw [hvl] at H_val
  unfold BPost at H_val
  clear hvl
  have HSh := Lib.hid HSH
  have Hw0 := Lib.hid hw0
  clear HSH hw0 hsh
  unfold Ret at *
  unfold BPost at HSh
  go_enter Tryz.func3, Tryz.ntmps3
  go_wp2_with fail
  rw [← Hw0.out]
  refine HSh.out.mono ?_
  rintro e x0 ⟨rfl, b0⟩
  have D := Lib.hid b0
  clear b0
  obtain ⟨k0, k1, _⟩ := I1.out.next D.out
  obtain ⟨k2, k3, _⟩ := I2.out.next D.out
  have b9 := Below.refl x0.heap.size x0
  have j1 : ¬ w.heap.size = x0.heap.size := Nat.ne_of_lt (World.block_lt_of_cell? _ _ k0)
  have j2 : ¬ w.heap.size + 1 = x0.heap.size := Nat.ne_of_lt (World.block_lt_of_cell? _ _ k2)
  obtain ⟨u9, hu9⟩ : ∃ u : World, u = x0.alloc (.cells #[.bool a, .string s, .bool b, .string t] 27) := ⟨_, rfl⟩
  have E : Hid (Below x0.heap.size x0 u9) := by rw [hu9]; exact b9.alloc b9.size _
  have D := Lib.hid (chain D.out E.out)
  have T9 : Hid (ZC4 (.bool a) (.string s) (.bool b) (.string t) u9 x0.heap.size) := by rw [hu9]; exact ZC4.made0 _
  have Hu9 := Lib.hid hu9
  clear hu9 b9 E
  go_upto_region 4 with (fail)
  rw [← Hu9.out]
  clear Hu9
  clear j1 j2
  clear k0 k1 k2 k3
  obtain ⟨k0, k1, _⟩ := I1.out.next D.out
  obtain ⟨k2, k3, _⟩ := I2.out.next D.out
  go_wp2_with fail
  refine (H_ra.out _).mono ?_
  rintro e y10 ⟨rfl, b9⟩
  obtain ⟨u10, hu10⟩ : ∃ u : World, u = y10.alloc (.cells #[.bool false, .string ⟨#[]⟩, .bool false, .string ⟨#[]⟩] 27) := ⟨_, rfl⟩
  have E : Hid (Below u9.heap.size u9 u10) := by rw [hu10]; exact b9.alloc b9.size _
  have D := Lib.hid (chain D.out E.out)
  have T9 := Lib.hid (T9.out.next E.out)
  have T10 : Hid (ZC4 (.bool false) (.string ⟨#[]⟩) (.bool false) (.string ⟨#[]⟩) u10 y10.heap.size) := by rw [hu10]; exact ZC4.made0 _
  have Hu10 := Lib.hid hu10
  clear hu10 b9 E
  go_upto_region 5 with (fail)
  rw [← Hu10.out]
  clear Hu10
  clear k0 k1 k2 k3
  go_wp2_with fail
  refine (H_ro.out _).mono ?_
  rintro e y12 ⟨rfl, b9⟩
  obtain ⟨u12, hu12⟩ : ∃ u : World, u = y12.alloc (.cells #[.bool false, .string ⟨#[]⟩, .bool false, .string ⟨#[]⟩] 27) := ⟨_, rfl⟩
  have E : Hid (Below u10.heap.size u10 u12) := by rw [hu12]; exact b9.alloc b9.size _
  have D := Lib.hid (chain D.out E.out)
  have T9 := Lib.hid (T9.out.next E.out)
  have T10 := Lib.hid (T10.out.next E.out)
  have T12 : Hid (ZC4 (.bool false) (.string ⟨#[]⟩) (.bool false) (.string ⟨#[]⟩) u12 y12.heap.size) := by rw [hu12]; exact ZC4.made0 _
  have Hu12 := Lib.hid hu12
  clear hu12 b9 E
  go_upto_region 6 with (fail)
  rw [← Hu12.out]
  clear Hu12
  obtain ⟨⟨k9a, k9b, k9c, k9d⟩, _⟩ := T9.out
  go_wp2_with fail
  refine (H_fl.out _).mono ?_
  rintro e y14 ⟨rfl, b9⟩
  clear k9a k9b k9c k9d
  obtain ⟨u14, hu14⟩ : ∃ u : World, u = y14.alloc (.cells #[.bool false, .string ⟨#[]⟩] 23) := ⟨_, rfl⟩
  have E : Hid (Below u12.heap.size u12 u14) := by rw [hu14]; exact b9.alloc b9.size _
  have D := Lib.hid (chain D.out E.out)
  have T9 := Lib.hid (T9.out.next E.out)
  have T10 := Lib.hid (T10.out.next E.out)
  have T12 := Lib.hid (T12.out.next E.out)
  have T14 : Hid (ZC (.bool false) (.string ⟨#[]⟩) u14 y14.heap.size) := by rw [hu14]; exact ZC.new rfl
  have Hu14 := Lib.hid hu14
  clear hu14 b9 E
  go_upto_region 7 with (fail)
  rw [← Hu14.out]
  clear Hu14
  obtain ⟨⟨k9a, k9b, k9c, k9d⟩, _⟩ := T9.out
  go_region_held3 (fun W' => W'.cell? ⟨x0.heap.size, 0, none⟩ = some (.bool a) ∧ W'.cell? ⟨x0.heap.size, 1, none⟩ = some (.string s) ∧ W'.cell? ⟨x0.heap.size, 2, none⟩ = some (.bool b) ∧ W'.cell? ⟨x0.heap.size, 3, none⟩ = some (.string t)) (go_keep)
    (first
      | (go_at_call 12; (with_reducible refine (H_vr.out _).mono ?_); rintro e y ⟨rfl, b9⟩; have E := Lib.hid (show Below u14.heap.size u14 y by first | exact chain E.out b9 | exact chain ((Below.refl _ _).drew) b9); have p9a := keep1 E.out k9a; have p9b := keep1 E.out k9b; have p9c := keep1 E.out k9c; have p9d := keep1 E.out k9d; clear b9)
      | (go_at_call 13; (with_reducible refine (H_rv.out _).mono ?_); rintro e y ⟨rfl, b9⟩; have E := Lib.hid (show Below u14.heap.size u14 y by first | exact chain E.out b9 | exact chain ((Below.refl _ _).drew) b9); have p9a := keep1 E.out k9a; have p9b := keep1 E.out k9b; have p9c := keep1 E.out k9c; have p9d := keep1 E.out k9d; clear b9)
      | fail)
  have D := Lib.hid (chain D.out E.out)
  have T9 := Lib.hid (T9.out.next E.out)
  have T10 := Lib.hid (T10.out.next E.out)
  have T12 := Lib.hid (T12.out.next E.out)
  have T14 := Lib.hid (T14.out.next E.out)
  obtain ⟨y7, hy7⟩ : ∃ y7 : World, y7 = y := ⟨_, rfl⟩
  subst hy7
  clear E k9a k9b k9c k9d p9a p9b p9c p9d
  obtain ⟨⟨k12a, k12b, k12c, k12d⟩, _⟩ := T12.out
  go_upto_region 9 with (fail)
  refine wp_region_noPanic ?_
  refine wp_region_held_drew (S := (fun W' => W'.cell? ⟨y12.heap.size, 0, none⟩ = some (.bool false) ∧ W'.cell? ⟨y12.heap.size, 1, none⟩ = some (.string ⟨#[]⟩) ∧ W'.cell? ⟨y12.heap.size, 2, none⟩ = some (.bool false) ∧ W'.cell? ⟨y12.heap.size, 3, none⟩ = some (.string ⟨#[]⟩))) (by kernel_rfl) ?_ (fun hHeld => ?_)
  · exact ⟨k12a, k12b, k12c, k12d⟩
  refine wpAnyH_take (i := 0) (oi := ?oi1) (v := ?v1) ?hi1 (by kernel_rfl) (by kernel_rfl) (by kernel_rfl) (fun _ _ _ h => h) (Or.inl ⟨?hw1, ?hy1⟩) (by assumption) ?rest1
  case hi1 => simp only [List.getElem?_toArray, List.getElem?_cons_succ, List.getElem?_cons_zero]; rfl
  case hw1 => rfl
  case hy1 =>
    intro w hSw
    (try dsimp only at hSw)
    go_simp
    (try with_reducible rfl)
  (try simp only [Act.put, List.setIfInBounds_toArray, List.set_cons_zero, List.set_cons_succ])
  refine wpAnyH_take (i := 1) (oi := ?oi2) (v := ?v2) ?hi2 (by kernel_rfl) (by kernel_rfl) (by kernel_rfl) (fun _ _ _ h => h) (Or.inl ⟨?hw2, ?hy2⟩) (by assumption) ?rest2
  case hi2 => simp only [List.getElem?_toArray, List.getElem?_cons_succ, List.getElem?_cons_zero]; rfl
  case hw2 => rfl
  case hy2 =>
    intro w hSw
    (try dsimp only at hSw)
    go_simp
    (try with_reducible rfl)
  (try simp only [Act.put, List.setIfInBounds_toArray, List.set_cons_zero, List.set_cons_succ])
  refine wpAnyH_take (i := 2) (oi := ?oi3) (v := ?v3) ?hi3 (by kernel_rfl) (by kernel_rfl) (by kernel_rfl) (fun _ _ _ h => h) (Or.inl ⟨?hw3, ?hy3⟩) (by assumption) ?rest3
  case hi3 => simp only [List.getElem?_toArray, List.getElem?_cons_succ, List.getElem?_cons_zero]; rfl
  case hw3 => rfl
  case hy3 =>
    intro w hSw
    (try dsimp only at hSw)
    go_simp
    (try with_reducible rfl)
  (try simp only [Act.put, List.setIfInBounds_toArray, List.set_cons_zero, List.set_cons_succ])
  refine wpAnyH_take (i := 3) (oi := ?oi4) (v := ?v4) ?hi4 (by kernel_rfl) (by kernel_rfl) (by kernel_rfl) (fun _ _ _ h => h) (Or.inl ⟨?hw4, ?hy4⟩) (by assumption) ?rest4
  case hi4 => simp only [List.getElem?_toArray, List.getElem?_cons_succ, List.getElem?_cons_zero]; rfl
  case hw4 => rfl
  case hy4 =>
    intro w hSw
    (try dsimp only at hSw)
    go_simp
    (try with_reducible rfl)
  (try simp only [Act.put, List.setIfInBounds_toArray, List.set_cons_zero, List.set_cons_succ])
  refine wpAnyH_take (i := 4) (oi := ?oi5) (v := ?v5) ?hi5 (by kernel_rfl) (by kernel_rfl) (by kernel_rfl) (fun _ _ _ h => h) (Or.inl ⟨?hw5, ?hy5⟩) (by assumption) ?rest5
  case hi5 => simp only [List.getElem?_toArray, List.getElem?_cons_succ, List.getElem?_cons_zero]; rfl
  case hw5 => rfl
  case hy5 =>
    intro w hSw
    (try dsimp only at hSw)
    go_simp
    (try with_reducible rfl)
  (try simp only [Act.put, List.setIfInBounds_toArray, List.set_cons_zero, List.set_cons_succ])
  refine wpAnyH_take (i := 5) (oi := ?oi6) (v := ?v6) ?hi6 (by kernel_rfl) (by kernel_rfl) (by kernel_rfl) (fun _ _ _ h => h) (Or.inl ⟨?hw6, ?hy6⟩) (by assumption) ?rest6
  case hi6 => simp only [List.getElem?_toArray, List.getElem?_cons_succ, List.getElem?_cons_zero]; rfl
  case hw6 => rfl
  case hy6 =>
    intro w hSw
    (try dsimp only at hSw)
    go_simp
    (try with_reducible rfl)
  (try simp only [Act.put, List.setIfInBounds_toArray, List.set_cons_zero, List.set_cons_succ])
  refine wpAnyH_take (i := 6) (oi := ?oi7) (v := ?v7) ?hi7 (by kernel_rfl) (by kernel_rfl) (by kernel_rfl) (fun _ _ _ h => h) (Or.inl ⟨?hw7, ?hy7⟩) (by assumption) ?rest7
  case hi7 => simp only [List.getElem?_toArray, List.getElem?_cons_succ, List.getElem?_cons_zero]; rfl
  case hw7 => rfl
  case hy7 =>
    intro w hSw
    (try dsimp only at hSw)
    go_simp
    (try with_reducible rfl)
  (try simp only [Act.put, List.setIfInBounds_toArray, List.set_cons_zero, List.set_cons_succ])
  refine wpAnyH_take (i := 7) (oi := ?oi8) (v := ?v8) ?hi8 (by kernel_rfl) (by kernel_rfl) (by kernel_rfl) (fun _ _ _ h => h) (Or.inl ⟨?hw8, ?hy8⟩) (by assumption) ?rest8
  case hi8 => simp only [List.getElem?_toArray, List.getElem?_cons_succ, List.getElem?_cons_zero]; rfl
  case hw8 => rfl
  case hy8 =>
    intro w hSw
    (try dsimp only at hSw)
    go_simp
    (try with_reducible rfl)
  (try simp only [Act.put, List.setIfInBounds_toArray, List.set_cons_zero, List.set_cons_succ])
  refine wpAnyH_take (i := 8) (oi := ?oi9) (v := ?v9) ?hi9 (by kernel_rfl) (by kernel_rfl) (by kernel_rfl) (fun _ _ _ h => h) (Or.inl ⟨?hw9, ?hy9⟩) (by assumption) ?rest9
  case hi9 => simp only [List.getElem?_toArray, List.getElem?_cons_succ, List.getElem?_cons_zero]; rfl
  case hw9 => rfl
  case hy9 =>
    intro w hSw
    (try dsimp only at hSw)
    go_simp
    (try with_reducible rfl)
  (try simp only [Act.put, List.setIfInBounds_toArray, List.set_cons_zero, List.set_cons_succ])
  refine wpAnyH_take (i := 9) (oi := ?oi10) (v := ?v10) ?hi10 (by kernel_rfl) (by kernel_rfl) (by kernel_rfl) (fun _ _ _ h => h) (Or.inl ⟨?hw10, ?hy10⟩) (by assumption) ?rest10
  case hi10 => simp only [List.getElem?_toArray, List.getElem?_cons_succ, List.getElem?_cons_zero]; rfl
  case hw10 => rfl
  case hy10 =>
    intro w hSw
    (try dsimp only at hSw)
    go_simp
    (try with_reducible rfl)
  (try simp only [Act.put, List.setIfInBounds_toArray, List.set_cons_zero, List.set_cons_succ])
  refine wpAnyH_take (i := 10) (oi := ?oi11) (v := ?v11) ?hi11 (by kernel_rfl) (by kernel_rfl) (by kernel_rfl) (fun _ _ _ h => h) (Or.inl ⟨?hw11, ?hy11⟩) (by assumption) ?rest11
  case hi11 => simp only [List.getElem?_toArray, List.getElem?_cons_succ, List.getElem?_cons_zero]; rfl
  case hw11 => rfl
  case hy11 =>
    intro w hSw
    (try dsimp only at hSw)
    go_simp
    (try with_reducible rfl)
  (try simp only [Act.put, List.setIfInBounds_toArray, List.set_cons_zero, List.set_cons_succ])
  refine wpAnyH_take (i := 11) (oi := ?oi12) (v := ?v12) ?hi12 (by kernel_rfl) (by kernel_rfl) (by kernel_rfl) (fun _ _ _ h => h) (Or.inl ⟨?hw12, ?hy12⟩) (by assumption) ?rest12
  case hi12 => simp only [List.getElem?_toArray, List.getElem?_cons_succ, List.getElem?_cons_zero]; rfl
  case hw12 => rfl
  case hy12 =>
    intro w hSw
    (try dsimp only at hSw)
    go_simp
    (try with_reducible rfl)
  (try simp only [Act.put, List.setIfInBounds_toArray, List.set_cons_zero, List.set_cons_succ])
  refine wpAnyH_take (i := 12) (oi := ?oi13) (v := ?v13) ?hi13 (by kernel_rfl) (by kernel_rfl) (by kernel_rfl) (fun _ _ _ h => h) (Or.inl ⟨?hw13, ?hy13⟩) (by assumption) ?rest13
  case hi13 => simp only [List.getElem?_toArray, List.getElem?_cons_succ, List.getElem?_cons_zero]; rfl
  case hw13 => rfl
  case hy13 =>
    intro w hSw
    (try dsimp only at hSw)
    go_simp
    (try with_reducible rfl)
  (try simp only [Act.put, List.setIfInBounds_toArray, List.set_cons_zero, List.set_cons_succ])
  refine wpAnyH_take (i := 13) (oi := ?oi14) (v := ?v14) ?hi14 (by kernel_rfl) (by kernel_rfl) (by kernel_rfl) (fun _ _ _ h => h) (Or.inl ⟨?hw14, ?hy14⟩) (by assumption) ?rest14
  case hi14 => simp only [List.getElem?_toArray, List.getElem?_cons_succ, List.getElem?_cons_zero]; rfl
  case hw14 => rfl
  case hy14 =>
    intro w hSw
    (try dsimp only at hSw)
    go_simp
    (try with_reducible rfl)
  (try simp only [Act.put, List.setIfInBounds_toArray, List.set_cons_zero, List.set_cons_succ])
  refine wpAnyH_take (i := 14) (oi := ?oi15) (v := ?v15) ?hi15 (by kernel_rfl) (by kernel_rfl) (by kernel_rfl) (fun _ _ _ h => h) (Or.inl ⟨?hw15, ?hy15⟩) (by assumption) ?rest15
  case hi15 => simp only [List.getElem?_toArray, List.getElem?_cons_succ, List.getElem?_cons_zero]; rfl
  case hw15 => rfl
  case hy15 =>
    intro w hSw
    (try dsimp only at hSw)
    go_simp
    (try with_reducible rfl)
  (try simp only [Act.put, List.setIfInBounds_toArray, List.set_cons_zero, List.set_cons_succ])
  refine wpAnyH_take (i := 15) (oi := ?oi16) (v := undef) ?hi16 (by kernel_rfl) (by kernel_rfl) (by kernel_rfl) (fun _ _ _ h => h) (Or.inr ⟨?hw16, rfl⟩) (by assumption) ?rest16
  case hi16 => simp only [List.getElem?_toArray, List.getElem?_cons_succ, List.getElem?_cons_zero]; rfl
  case hw16 => rfl
  (try simp only [Act.put, List.setIfInBounds_toArray, List.set_cons_zero, List.set_cons_succ])
  refine wpAnyH_take (i := 16) (oi := ?oi17) (v := undef) ?hi17 (by kernel_rfl) (by kernel_rfl) (by kernel_rfl) (fun _ _ _ h => h) (Or.inr ⟨?hw17, rfl⟩) (by assumption) ?rest17
  case hi17 => simp only [List.getElem?_toArray, List.getElem?_cons_succ, List.getElem?_cons_zero]; rfl
  case hw17 => rfl
  (try simp only [Act.put, List.setIfInBounds_toArray, List.set_cons_zero, List.set_cons_succ])
  refine wpAnyH_take (i := 17) (oi := ?oi18) (v := undef) ?hi18 (by kernel_rfl) (by kernel_rfl) (by kernel_rfl) (fun _ _ _ h => h) (Or.inr ⟨?hw18, rfl⟩) (by assumption) ?rest18
  case hi18 => simp only [List.getElem?_toArray, List.getElem?_cons_succ, List.getElem?_cons_zero]; rfl
  case hw18 => rfl
  (try simp only [Act.put, List.setIfInBounds_toArray, List.set_cons_zero, List.set_cons_succ])
  refine wpAnyH_take (i := 18) (oi := ?oi19) (v := undef) ?hi19 (by kernel_rfl) (by kernel_rfl) (by kernel_rfl) (fun _ _ _ h => h) (Or.inr ⟨?hw19, rfl⟩) (by assumption) ?rest19
  case hi19 => simp only [List.getElem?_toArray, List.getElem?_cons_succ, List.getElem?_cons_zero]; rfl
  case hw19 => rfl
  (try simp only [Act.put, List.setIfInBounds_toArray, List.set_cons_zero, List.set_cons_succ])
  refine wpAnyH_take (i := 19) (oi := ?oi20) (v := undef) ?hi20 (by kernel_rfl) (by kernel_rfl) (by kernel_rfl) (fun _ _ _ h => h) (Or.inr ⟨?hw20, rfl⟩) (by assumption) ?rest20
  case hi20 => simp only [List.getElem?_toArray, List.getElem?_cons_succ, List.getElem?_cons_zero]; rfl
  case hw20 => rfl
  (try simp only [Act.put, List.setIfInBounds_toArray, List.set_cons_zero, List.set_cons_succ])
  refine wpAnyH_take (i := 20) (oi := ?oi21) (v := undef) ?hi21 (by kernel_rfl) (by kernel_rfl) (by kernel_rfl) (fun _ _ _ h => h) (Or.inr ⟨?hw21, rfl⟩) (by assumption) ?rest21
  case hi21 => simp only [List.getElem?_toArray, List.getElem?_cons_succ, List.getElem?_cons_zero]; rfl
  case hw21 => rfl
  (try simp only [Act.put, List.setIfInBounds_toArray, List.set_cons_zero, List.set_cons_succ])
  refine wpAnyH_take (i := 21) (oi := ?oi22) (v := undef) ?hi22 (by kernel_rfl) (by kernel_rfl) (by kernel_rfl) (fun _ _ _ h => h) (Or.inr ⟨?hw22, rfl⟩) (by assumption) ?rest22
  case hi22 => simp only [List.getElem?_toArray, List.getElem?_cons_succ, List.getElem?_cons_zero]; rfl
  case hw22 => rfl
  (try simp only [Act.put, List.setIfInBounds_toArray, List.set_cons_zero, List.set_cons_succ])
  refine wpAnyH_take (i := 22) (oi := ?oi23) (v := undef) ?hi23 (by kernel_rfl) (by kernel_rfl) (by kernel_rfl) (fun _ _ _ h => h) (Or.inr ⟨?hw23, rfl⟩) (by assumption) ?rest23
  case hi23 => simp only [List.getElem?_toArray, List.getElem?_cons_succ, List.getElem?_cons_zero]; rfl
  case hw23 => rfl
  (try simp only [Act.put, List.setIfInBounds_toArray, List.set_cons_zero, List.set_cons_succ])
  refine wpAnyH_take (i := 23) (oi := ?oi24) (v := undef) ?hi24 (by kernel_rfl) (by kernel_rfl) (by kernel_rfl) (fun _ _ _ h => h) (Or.inr ⟨?hw24, rfl⟩) (by assumption) ?rest24
  case hi24 => simp only [List.getElem?_toArray, List.getElem?_cons_succ, List.getElem?_cons_zero]; rfl
  case hw24 => rfl
  (try simp only [Act.put, List.setIfInBounds_toArray, List.set_cons_zero, List.set_cons_succ])
  refine wpAnyH_take (i := 24) (oi := ?oi25) (v := ?v25) ?hi25 (by kernel_rfl) (by kernel_rfl) (by kernel_rfl) (fun _ _ _ h => h) (Or.inl ⟨?hw25, ?hy25⟩) (by assumption) ?rest25
  case hi25 => simp only [List.getElem?_toArray, List.getElem?_cons_succ, List.getElem?_cons_zero]; rfl
  case hw25 => rfl
  case hy25 =>
    intro w hSw
    (try dsimp only at hSw)
    go_simp
    (try with_reducible rfl)
  (try simp only [Act.put, List.setIfInBounds_toArray, List.set_cons_zero, List.set_cons_succ])
  refine wpAnyH_take (i := 25) (oi := ?oi26) (v := ?v26) ?hi26 (by kernel_rfl) (by kernel_rfl) (by kernel_rfl) (fun _ _ _ h => h) (Or.inl ⟨?hw26, ?hy26⟩) (by assumption) ?rest26
  case hi26 => simp only [List.getElem?_toArray, List.getElem?_cons_succ, List.getElem?_cons_zero]; rfl
  case hw26 => rfl
  case hy26 =>
    intro w hSw
    (try dsimp only at hSw)
    go_simp
    (try with_reducible rfl)
  (try simp only [Act.put, List.setIfInBounds_toArray, List.set_cons_zero, List.set_cons_succ])
  have E : Hid (Below y7.heap.size y7 y7.drew) := (Below.refl _ _).drew
  refine wpAnyH_done (by kernel_rfl) ?_ _
  refine NoPanic.normal ?_
  (try dsimp only [Exit.then])
  have D := Lib.hid (chain D.out E.out)
  have T9 := Lib.hid (T9.out.next E.out)
  have T10 := Lib.hid (T10.out.next E.out)
  have T12 := Lib.hid (T12.out.next E.out)
  have T14 := Lib.hid (T14.out.next E.out)
  obtain ⟨y9, hy9⟩ : ∃ y9 : World, y9 = y7.drew := ⟨_, rfl⟩
  rw [← hy9] at D T9 T10 T12 T14
  rw [← hy9]
  clear hy9 E k12a k12b k12c k12d hHeld
  obtain ⟨⟨k9a, k9b, k9c, k9d⟩, _⟩ := T9.out
  obtain ⟨k14a, k14b, _⟩ := T14.out
  go_wp2_with fail
  refine (H_rv.out _).mono ?_
  rintro e y11 ⟨rfl, b9⟩
  have E := Lib.hid b9
  have D := Lib.hid (chain D.out E.out)
  have T9 := Lib.hid (T9.out.next E.out)
  have T10 := Lib.hid (T10.out.next E.out)
  have T12 := Lib.hid (T12.out.next E.out)
  have T14 := Lib.hid (T14.out.next E.out)
  clear b9 E k9a k9b k9c k9d k14a k14b
  obtain ⟨k0, k1, _⟩ := I1.out.next D.out
  obtain ⟨k2, k3, _⟩ := I2.out.next D.out
  obtain ⟨k14a, k14b, _⟩ := T14.out
  go_wp2_with fail
  refine (H_val.out _ _ (WL.two _ _ _ _ _ _)).mono ?_
  rintro e yv ⟨rfl, b9⟩
  have E := Lib.hid (chain (below_one _ _) b9)
  have D := Lib.hid (chain D.out E.out)
  have T9 := Lib.hid (T9.out.next E.out)
  have T10 := Lib.hid (T10.out.next E.out)
  have T12 := Lib.hid (T12.out.next E.out)
  have T14 := Lib.hid (T14.out.next E.out)
  clear b9 E k14a k14b
  clear k0 k1 k2 k3
  obtain ⟨k0, k1, _⟩ := I1.out.next D.out
  obtain ⟨k2, k3, _⟩ := I2.out.next D.out
  obtain ⟨⟨k10a, k10b, k10c, k10d⟩, _⟩ := T10.out
  go_wp2_with fail
  refine (H_known.out _).mono ?_
  rintro e x1 ⟨rfl, b1⟩
  have HZ := Lib.hid (chain hb0.out (chain D.out b1))
  clear b1
  go_wp2
  go_ret
  exact ⟨rfl, HZ.out⟩

set_option maxRecDepth 100000 in
set_option maxHeartbeats 8000000 in
theorem ratios_bad_d1 (a b : Bool) (s t : ByteArray) (n d : Int) (w : World) (l1 : s.size ≤ 60) (l2 : t.size ≤ 60) (hsh : shortL [(a, s), (b, t)] = true) (hvl : validL [(a, s), (b, t)] = false) (hd : ¬ d = 0) (ya yb : Bool) (ta tb : ByteArray) (q1 q2 : Int)
    (h_ra : ∀ w, Calls Tryz.prog 9 #[.agg #[.bool a, .string s], .agg #[.bool b, .string t]] w fun e w' => e = .returned (.tuple #[.agg #[.bool false, .string ⟨#[]⟩, .bool false, .string ⟨#[]⟩], .int .i64 2]) ∧ Below w.heap.size w w')
    (h_ro : ∀ w, Calls Tryz.prog 10 #[.int .i64 n, .int .i64 d] w fun e w' => e = .returned (.tuple #[.agg #[.bool ya, .string ta, .bool yb, .string tb], .int .i64 0]) ∧ Below w.heap.size w w')
    (h_fl : ∀ w, Calls Tryz.prog 11 #[.agg #[.bool a, .string s, .bool b, .string t]] w fun e w' => e = .returned (.tuple #[.agg #[.bool false, .string ⟨#[]⟩], .int .i64 2]) ∧ Below w.heap.size w w')
    (h_vr : ∀ w, Calls Tryz.prog 12 #[.agg #[.bool a, .string s, .bool b, .string t]] w fun e w' => e = .returned (.bool false) ∧ Below w.heap.size w w')
    (h_rv : ∀ w, Calls Tryz.prog 13 #[.agg #[.bool a, .string s, .bool b, .string t]] w fun e w' => e = .returned (.bool false) ∧ Below w.heap.size w w')
    (h_n1 : ∀ w, Calls Tryz.prog 16 #[.int .i64 n] w (IntPost n w))
    (h_n2 : ∀ w, Calls Tryz.prog 16 #[.int .i64 d] w (IntPost d w))
    (h_lo1 : ∀ v1 v2 w, Rz w v1 n → Rz w v2 d → Calls Tryz.prog 15 #[iV n v1, iV d v2] w (RQPost q1 q2 w))
    (h_sa1 : ∀ v1 v2 w, Rz w v1 q1 → Rz w v2 q2 → Calls Tryz.prog 14 #[.agg #[.bool ya, .string ta, .bool yb, .string tb], .int .i64 0, qV q1 q2 v1 v2] w fun e w' => e = .returned (.bool true) ∧ Below w.heap.size w w') :
    Calls Tryz.prog 3 #[.agg #[.bool a, .string s], .agg #[.bool b, .string t], .int .i64 n, .int .i64 d] w (Ret (.bool true) w) := by
  have hd2 : (d == 0) = false := by simp [hd]
  have hd3 : (d != 0) = true := by simp [hd]
  have H_ra := Lib.hid h_ra
  have H_ro := Lib.hid h_ro
  have H_fl := Lib.hid h_fl
  have H_vr := Lib.hid h_vr
  have H_rv := Lib.hid h_rv
  have H_n1 := Lib.hid h_n1
  have H_n2 := Lib.hid h_n2
  have H_lo1 := Lib.hid h_lo1
  have H_sa1 := Lib.hid h_sa1
  clear h_ra h_ro h_fl h_vr h_rv h_n1 h_n2 h_lo1 h_sa1
  unfold IntPost at H_n1 H_n2
  unfold RQPost at H_lo1
  unfold qV at H_lo1 H_sa1
  unfold iV at H_n1 H_n2 H_lo1
  generalize decide (n < 0) = bn at *
  generalize decide (d < 0) = bd at *
  generalize decide (q1 < 0) = bq1 at *
  generalize decide (q2 < 0) = bq2 at *
  have H_known := Lib.hid known_true
  obtain ⟨w0, hw0⟩ : ∃ w0 : World, w0 = ((w.alloc (.cells #[.bool a, .string s] 23)).alloc (.cells #[.bool b, .string t] 23)).alloc (.cells #[.bool a, .string s, .bool b, .string t] 23) := ⟨_, rfl⟩
  have hb0 : Hid (Below w.heap.size w w0) := by rw [hw0]; exact (((Below.refl _ _).alloc (Nat.le_refl _) _).alloc (by simp) _).alloc (by simp; omega) _
  have I1 : Hid (ZC (.bool a) (.string s) w0 w.heap.size) := by rw [hw0]; exact ((ZC.new rfl).alloc _).alloc _
  have I2 : Hid (ZC (.bool b) (.string t) w0 (w.heap.size + 1)) := by rw [hw0]; exact (ZC.new (by simp)).alloc _
  have Hsz : Hid (w.heap.size + 3 ≤ w0.heap.size) := by rw [hw0]; show _ ≤ _; simp
  have HSH := short_any [(a, s), (b, t)] 2 (w.heap.size + 1 + 1) w0 rfl (by decide) (by rw [hw0]; have := WL.two ((w.alloc (.cells #[.bool a, .string s] 23)).alloc (.cells #[.bool b, .string t] 23)) a b s t 23; simpa using this)
  rw [hsh] at HSH
  have H_val := Lib.hid (fun g w h => valid_any [(a, s), (b, t)] 2 g w rfl (by decide) h (by intro x hx; simp at hx; rcases hx with rfl | rfl <;> (show _ ≤ _; simp; omega)))
  rw [hvl] at H_val
  unfold BPost at H_val
  clear hvl
  have HSh := Lib.hid HSH
  have Hw0 := Lib.hid hw0
  clear HSH hw0 hsh
  unfold Ret at *
  unfold BPost at HSh
  go_enter Tryz.func3, Tryz.ntmps3
  go_wp2_with fail
  rw [← Hw0.out]
  refine HSh.out.mono ?_
  rintro e x0 ⟨rfl, b0⟩
  have D := Lib.hid b0
  clear b0
  obtain ⟨k0, k1, _⟩ := I1.out.next D.out
  obtain ⟨k2, k3, _⟩ := I2.out.next D.out
  have b9 := Below.refl x0.heap.size x0
  have j1 : ¬ w.heap.size = x0.heap.size := Nat.ne_of_lt (World.block_lt_of_cell? _ _ k0)
  have j2 : ¬ w.heap.size + 1 = x0.heap.size := Nat.ne_of_lt (World.block_lt_of_cell? _ _ k2)
  obtain ⟨u9, hu9⟩ : ∃ u : World, u = x0.alloc (.cells #[.bool a, .string s, .bool b, .string t] 27) := ⟨_, rfl⟩
  have E : Hid (Below x0.heap.size x0 u9) := by rw [hu9]; exact b9.alloc b9.size _
  have D := Lib.hid (chain D.out E.out)
  have T9 : Hid (ZC4 (.bool a) (.string s) (.bool b) (.string t) u9 x0.heap.size) := by rw [hu9]; exact ZC4.made0 _
  have Hu9 := Lib.hid hu9
  clear hu9 b9 E
  go_upto_region 4 with (fail)
  rw [← Hu9.out]
  clear Hu9
  clear j1 j2
  clear k0 k1 k2 k3
  obtain ⟨k0, k1, _⟩ := I1.out.next D.out
  obtain ⟨k2, k3, _⟩ := I2.out.next D.out
  go_wp2_with fail
  refine (H_ra.out _).mono ?_
  rintro e y10 ⟨rfl, b9⟩
  obtain ⟨u10, hu10⟩ : ∃ u : World, u = y10.alloc (.cells #[.bool false, .string ⟨#[]⟩, .bool false, .string ⟨#[]⟩] 27) := ⟨_, rfl⟩
  have E : Hid (Below u9.heap.size u9 u10) := by rw [hu10]; exact b9.alloc b9.size _
  have D := Lib.hid (chain D.out E.out)
  have T9 := Lib.hid (T9.out.next E.out)
  have T10 : Hid (ZC4 (.bool false) (.string ⟨#[]⟩) (.bool false) (.string ⟨#[]⟩) u10 y10.heap.size) := by rw [hu10]; exact ZC4.made0 _
  have Hu10 := Lib.hid hu10
  clear hu10 b9 E
  go_upto_region 5 with (fail)
  rw [← Hu10.out]
  clear Hu10
  clear k0 k1 k2 k3
  go_wp2_with fail
  refine (H_ro.out _).mono ?_
  rintro e y12 ⟨rfl, b9⟩
  obtain ⟨u12, hu12⟩ : ∃ u : World, u = y12.alloc (.cells #[.bool ya, .string ta, .bool yb, .string tb] 27) := ⟨_, rfl⟩
  have E : Hid (Below u10.heap.size u10 u12) := by rw [hu12]; exact b9.alloc b9.size _
  have D := Lib.hid (chain D.out E.out)
  have T9 := Lib.hid (T9.out.next E.out)
  have T10 := Lib.hid (T10.out.next E.out)
  have T12 : Hid (ZC4 (.bool ya) (.string ta) (.bool yb) (.string tb) u12 y12.heap.size) := by rw [hu12]; exact ZC4.made0 _
  have Hu12 := Lib.hid hu12
  clear hu12 b9 E
  go_upto_region 6 with (fail)
  rw [← Hu12.out]
  clear Hu12
  obtain ⟨⟨k9a, k9b, k9c, k9d⟩, _⟩ := T9.out
  go_wp2_with fail
  refine (H_fl.out _).mono ?_
  rintro e y14 ⟨rfl, b9⟩
  clear k9a k9b k9c k9d
  obtain ⟨u14, hu14⟩ : ∃ u : World, u = y14.alloc (.cells #[.bool false, .string ⟨#[]⟩] 23) := ⟨_, rfl⟩
  have E : Hid (Below u12.heap.size u12 u14) := by rw [hu14]; exact b9.alloc b9.size _
  have D := Lib.hid (chain D.out E.out)
  have T9 := Lib.hid (T9.out.next E.out)
  have T10 := Lib.hid (T10.out.next E.out)
  have T12 := Lib.hid (T12.out.next E.out)
  have T14 : Hid (ZC (.bool false) (.string ⟨#[]⟩) u14 y14.heap.size) := by rw [hu14]; exact ZC.new rfl
  have Hu14 := Lib.hid hu14
  clear hu14 b9 E
  go_upto_region 7 with (fail)
  rw [← Hu14.out]
  clear Hu14
  obtain ⟨⟨k9a, k9b, k9c, k9d⟩, _⟩ := T9.out
  go_region_held3 (fun W' => W'.cell? ⟨x0.heap.size, 0, none⟩ = some (.bool a) ∧ W'.cell? ⟨x0.heap.size, 1, none⟩ = some (.string s) ∧ W'.cell? ⟨x0.heap.size, 2, none⟩ = some (.bool b) ∧ W'.cell? ⟨x0.heap.size, 3, none⟩ = some (.string t)) (go_keep)
    (first
      | (go_at_call 12; (with_reducible refine (H_vr.out _).mono ?_); rintro e y ⟨rfl, b9⟩; have E := Lib.hid (show Below u14.heap.size u14 y by first | exact chain E.out b9 | exact chain ((Below.refl _ _).drew) b9); have p9a := keep1 E.out k9a; have p9b := keep1 E.out k9b; have p9c := keep1 E.out k9c; have p9d := keep1 E.out k9d; clear b9)
      | (go_at_call 13; (with_reducible refine (H_rv.out _).mono ?_); rintro e y ⟨rfl, b9⟩; have E := Lib.hid (show Below u14.heap.size u14 y by first | exact chain E.out b9 | exact chain ((Below.refl _ _).drew) b9); have p9a := keep1 E.out k9a; have p9b := keep1 E.out k9b; have p9c := keep1 E.out k9c; have p9d := keep1 E.out k9d; clear b9)
      | fail)
  have D := Lib.hid (chain D.out E.out)
  have T9 := Lib.hid (T9.out.next E.out)
  have T10 := Lib.hid (T10.out.next E.out)
  have T12 := Lib.hid (T12.out.next E.out)
  have T14 := Lib.hid (T14.out.next E.out)
  obtain ⟨y7, hy7⟩ : ∃ y7 : World, y7 = y := ⟨_, rfl⟩
  subst hy7
  clear E k9a k9b k9c k9d p9a p9b p9c p9d
  obtain ⟨⟨k12a, k12b, k12c, k12d⟩, _⟩ := T12.out
  go_upto_region 9 with (fail)
  refine wp_region_noPanic ?_
  refine wp_region_held_drew (S := (fun W' => W'.cell? ⟨y12.heap.size, 0, none⟩ = some (.bool ya) ∧ W'.cell? ⟨y12.heap.size, 1, none⟩ = some (.string ta) ∧ W'.cell? ⟨y12.heap.size, 2, none⟩ = some (.bool yb) ∧ W'.cell? ⟨y12.heap.size, 3, none⟩ = some (.string tb))) (by kernel_rfl) ?_ (fun hHeld => ?_)
  · exact ⟨k12a, k12b, k12c, k12d⟩
  refine wpAnyH_take (i := 0) (oi := ?oi27) (v := ?v27) ?hi27 (by kernel_rfl) (by kernel_rfl) (by kernel_rfl) (fun _ _ _ h => h) (Or.inl ⟨?hw27, ?hy27⟩) (by assumption) ?rest27
  case hi27 => simp only [List.getElem?_toArray, List.getElem?_cons_succ, List.getElem?_cons_zero]; rfl
  case hw27 => rfl
  case hy27 =>
    intro w hSw
    (try dsimp only at hSw)
    go_simp
    (try with_reducible rfl)
  (try simp only [Act.put, List.setIfInBounds_toArray, List.set_cons_zero, List.set_cons_succ])
  refine wpAnyH_take (i := 1) (oi := ?oi28) (v := ?v28) ?hi28 (by kernel_rfl) (by kernel_rfl) (by kernel_rfl) (fun _ _ _ h => h) (Or.inl ⟨?hw28, ?hy28⟩) (by assumption) ?rest28
  case hi28 => simp only [List.getElem?_toArray, List.getElem?_cons_succ, List.getElem?_cons_zero]; rfl
  case hw28 => rfl
  case hy28 =>
    intro w hSw
    (try dsimp only at hSw)
    go_simp
    (try with_reducible rfl)
  (try simp only [Act.put, List.setIfInBounds_toArray, List.set_cons_zero, List.set_cons_succ])
  refine wpAnyH_take (i := 2) (oi := ?oi29) (v := ?v29) ?hi29 (by kernel_rfl) (by kernel_rfl) (by kernel_rfl) (fun _ _ _ h => h) (Or.inl ⟨?hw29, ?hy29⟩) (by assumption) ?rest29
  case hi29 => simp only [List.getElem?_toArray, List.getElem?_cons_succ, List.getElem?_cons_zero]; rfl
  case hw29 => rfl
  case hy29 =>
    intro w hSw
    (try dsimp only at hSw)
    go_simp
    (try with_reducible rfl)
  (try simp only [Act.put, List.setIfInBounds_toArray, List.set_cons_zero, List.set_cons_succ])
  refine wpAnyH_take (i := 3) (oi := ?oi30) (v := undef) ?hi30 (by kernel_rfl) (by kernel_rfl) (by kernel_rfl) (fun _ _ _ h => h) (Or.inr ⟨?hw30, rfl⟩) (by assumption) ?rest30
  case hi30 => simp only [List.getElem?_toArray, List.getElem?_cons_succ, List.getElem?_cons_zero]; rfl
  case hw30 => rfl
  (try simp only [Act.put, List.setIfInBounds_toArray, List.set_cons_zero, List.set_cons_succ])
  refine wpAnyH_take (i := 4) (oi := ?oi31) (v := undef) ?hi31 (by kernel_rfl) (by kernel_rfl) (by kernel_rfl) (fun _ _ _ h => h) (Or.inr ⟨?hw31, rfl⟩) (by assumption) ?rest31
  case hi31 => simp only [List.getElem?_toArray, List.getElem?_cons_succ, List.getElem?_cons_zero]; rfl
  case hw31 => rfl
  (try simp only [Act.put, List.setIfInBounds_toArray, List.set_cons_zero, List.set_cons_succ])
  refine wpAnyH_take (i := 5) (oi := ?oi32) (v := undef) ?hi32 (by kernel_rfl) (by kernel_rfl) (by kernel_rfl) (fun _ _ _ h => h) (Or.inr ⟨?hw32, rfl⟩) (by assumption) ?rest32
  case hi32 => simp only [List.getElem?_toArray, List.getElem?_cons_succ, List.getElem?_cons_zero]; rfl
  case hw32 => rfl
  (try simp only [Act.put, List.setIfInBounds_toArray, List.set_cons_zero, List.set_cons_succ])
  refine wpAnyH_take (i := 6) (oi := ?oi33) (v := undef) ?hi33 (by kernel_rfl) (by kernel_rfl) (by kernel_rfl) (fun _ _ _ h => h) (Or.inr ⟨?hw33, rfl⟩) (by assumption) ?rest33
  case hi33 => simp only [List.getElem?_toArray, List.getElem?_cons_succ, List.getElem?_cons_zero]; rfl
  case hw33 => rfl
  (try simp only [Act.put, List.setIfInBounds_toArray, List.set_cons_zero, List.set_cons_succ])
  refine wpAnyH_take (i := 7) (oi := ?oi34) (v := undef) ?hi34 (by kernel_rfl) (by kernel_rfl) (by kernel_rfl) (fun _ _ _ h => h) (Or.inr ⟨?hw34, rfl⟩) (by assumption) ?rest34
  case hi34 => simp only [List.getElem?_toArray, List.getElem?_cons_succ, List.getElem?_cons_zero]; rfl
  case hw34 => rfl
  (try simp only [Act.put, List.setIfInBounds_toArray, List.set_cons_zero, List.set_cons_succ])
  refine wpAnyH_take (i := 8) (oi := ?oi35) (v := undef) ?hi35 (by kernel_rfl) (by kernel_rfl) (by kernel_rfl) (fun _ _ _ h => h) (Or.inr ⟨?hw35, rfl⟩) (by assumption) ?rest35
  case hi35 => simp only [List.getElem?_toArray, List.getElem?_cons_succ, List.getElem?_cons_zero]; rfl
  case hw35 => rfl
  (try simp only [Act.put, List.setIfInBounds_toArray, List.set_cons_zero, List.set_cons_succ])
  refine wpAnyH_take (i := 9) (oi := ?oi36) (v := undef) ?hi36 (by kernel_rfl) (by kernel_rfl) (by kernel_rfl) (fun _ _ _ h => h) (Or.inr ⟨?hw36, rfl⟩) (by assumption) ?rest36
  case hi36 => simp only [List.getElem?_toArray, List.getElem?_cons_succ, List.getElem?_cons_zero]; rfl
  case hw36 => rfl
  (try simp only [Act.put, List.setIfInBounds_toArray, List.set_cons_zero, List.set_cons_succ])
  refine wpAnyH_take (i := 10) (oi := ?oi37) (v := ?v37) ?hi37 (by kernel_rfl) (by kernel_rfl) (by kernel_rfl) (fun _ _ _ h => h) (Or.inl ⟨?hw37, ?hy37⟩) (by assumption) ?rest37
  case hi37 => simp only [List.getElem?_toArray, List.getElem?_cons_succ, List.getElem?_cons_zero]; rfl
  case hw37 => rfl
  case hy37 =>
    intro w hSw
    (try dsimp only at hSw)
    go_simp
    (try with_reducible rfl)
  (try simp only [Act.put, List.setIfInBounds_toArray, List.set_cons_zero, List.set_cons_succ])
  refine wpAnyH_take (i := 11) (oi := ?oi38) (v := ?v38) ?hi38 (by kernel_rfl) (by kernel_rfl) (by kernel_rfl) (fun _ _ _ h => h) (Or.inl ⟨?hw38, ?hy38⟩) (by assumption) ?rest38
  case hi38 => simp only [List.getElem?_toArray, List.getElem?_cons_succ, List.getElem?_cons_zero]; rfl
  case hw38 => rfl
  case hy38 =>
    intro w hSw
    (try dsimp only at hSw)
    go_simp
    (try with_reducible rfl)
  (try simp only [Act.put, List.setIfInBounds_toArray, List.set_cons_zero, List.set_cons_succ])
  refine wpAnyH_take (i := 12) (oi := ?oi39) (v := ?v39) ?hi39 (by kernel_rfl) (by kernel_rfl) (by kernel_rfl) (fun _ _ _ h => h) (Or.inl ⟨?hw39, ?hy39⟩) (by assumption) ?rest39
  case hi39 => simp only [List.getElem?_toArray, List.getElem?_cons_succ, List.getElem?_cons_zero]; rfl
  case hw39 => rfl
  case hy39 =>
    intro w hSw
    (try dsimp only at hSw)
    go_simp
    (try with_reducible rfl)
  (try simp only [Act.put, List.setIfInBounds_toArray, List.set_cons_zero, List.set_cons_succ])
  refine wpAnyH_take (i := 13) (oi := ?oi40) (v := ?v40) ?hi40 (by kernel_rfl) (by kernel_rfl) (by kernel_rfl) (fun _ _ _ h => h) (Or.inl ⟨?hw40, ?hy40⟩) (by assumption) ?rest40
  case hi40 => simp only [List.getElem?_toArray, List.getElem?_cons_succ, List.getElem?_cons_zero]; rfl
  case hw40 => rfl
  case hy40 =>
    intro w hSw
    (try dsimp only at hSw)
    go_simp
    (try with_reducible rfl)
  (try simp only [Act.put, List.setIfInBounds_toArray, List.set_cons_zero, List.set_cons_succ])
  refine wpAnyH_take (i := 14) (oi := ?oi41) (v := ?v41) ?hi41 (by kernel_rfl) (by kernel_rfl) (by kernel_rfl) (fun _ _ _ h => h) (Or.inl ⟨?hw41, ?hy41⟩) (by assumption) ?rest41
  case hi41 => simp only [List.getElem?_toArray, List.getElem?_cons_succ, List.getElem?_cons_zero]; rfl
  case hw41 => rfl
  case hy41 =>
    intro w hSw
    (try dsimp only at hSw)
    go_simp
    (try with_reducible rfl)
  (try simp only [Act.put, List.setIfInBounds_toArray, List.set_cons_zero, List.set_cons_succ])
  refine wpAnyH_take (i := 15) (oi := ?oi42) (v := ?v42) ?hi42 (by kernel_rfl) (by kernel_rfl) (by kernel_rfl) (fun _ _ _ h => h) (Or.inl ⟨?hw42, ?hy42⟩) (by assumption) ?rest42
  case hi42 => simp only [List.getElem?_toArray, List.getElem?_cons_succ, List.getElem?_cons_zero]; rfl
  case hw42 => rfl
  case hy42 =>
    intro w hSw
    (try dsimp only at hSw)
    go_simp
    (try with_reducible rfl)
  (try simp only [Act.put, List.setIfInBounds_toArray, List.set_cons_zero, List.set_cons_succ])
  refine wpAnyH_take (i := 16) (oi := ?oi43) (v := ?v43) ?hi43 (by kernel_rfl) (by kernel_rfl) (by kernel_rfl) (fun _ _ _ h => h) (Or.inl ⟨?hw43, ?hy43⟩) (by assumption) ?rest43
  case hi43 => simp only [List.getElem?_toArray, List.getElem?_cons_succ, List.getElem?_cons_zero]; rfl
  case hw43 => rfl
  case hy43 =>
    intro w hSw
    (try dsimp only at hSw)
    go_simp
    (try with_reducible rfl)
  (try simp only [Act.put, List.setIfInBounds_toArray, List.set_cons_zero, List.set_cons_succ])
  refine wpAnyH_take (i := 17) (oi := ?oi44) (v := ?v44) ?hi44 (by kernel_rfl) (by kernel_rfl) (by kernel_rfl) (fun _ _ _ h => h) (Or.inl ⟨?hw44, ?hy44⟩) (by assumption) ?rest44
  case hi44 => simp only [List.getElem?_toArray, List.getElem?_cons_succ, List.getElem?_cons_zero]; rfl
  case hw44 => rfl
  case hy44 =>
    intro w hSw
    (try dsimp only at hSw)
    go_simp
    (try with_reducible rfl)
  (try simp only [Act.put, List.setIfInBounds_toArray, List.set_cons_zero, List.set_cons_succ])
  refine wpAnyH_take (i := 19) (oi := ?oi45) (v := ?v45) ?hi45 (by kernel_rfl) (by kernel_rfl) (by kernel_rfl) (fun _ _ _ h => h) (Or.inl ⟨?hw45, ?hy45⟩) (by assumption) ?rest45
  case hi45 => simp only [List.getElem?_toArray, List.getElem?_cons_succ, List.getElem?_cons_zero]; rfl
  case hw45 => rfl
  case hy45 =>
    intro w hSw
    (try dsimp only at hSw)
    go_simp
    (try with_reducible rfl)
  (try simp only [Act.put, List.setIfInBounds_toArray, List.set_cons_zero, List.set_cons_succ])
  refine wpAnyH_ready (rs := [18]) (by kernel_rfl) (by simp) ?_
  refine AllReadyH.cons (o := ?oi46) ?hi46 ?rest46 AllReadyH.nil
  case hi46 => simp only [List.getElem?_toArray, List.getElem?_cons_succ, List.getElem?_cons_zero]; rfl
  intro K hK
  go_simp
  (with_reducible refine (H_n1.out _).mono ?_)
  rintro e y ⟨v1, rfl, r1, b9⟩
  have E := Lib.hid (show Below y7.heap.size y7 y by first | exact chain E.out b9 | exact chain ((Below.refl y7.heap.size y7).drew) b9)
  have p0 := keep1 E.out k12a
  have p1 := keep1 E.out k12b
  have p2 := keep1 E.out k12c
  have p3 := keep1 E.out k12d
  have G1 := Lib.hid r1
  obtain ⟨pp1, bb1, oo1, cc1, rfl, rr1⟩ := r1
  clear rr1 b9
  (try go_wp2_with fail)
  refine hK.out _ _ ?_ (fun hHeld => ?_)
  · (try dsimp only)
    exact ⟨p0, p1, p2, p3⟩
  clear hK K
  (try simp only [Act.put, List.setIfInBounds_toArray, List.set_cons_zero, List.set_cons_succ])
  refine wpAnyH_ready (rs := [20]) (by kernel_rfl) (by simp) ?_
  refine AllReadyH.cons (o := ?oi47) ?hi47 ?rest47 AllReadyH.nil
  case hi47 => simp only [List.getElem?_toArray, List.getElem?_cons_succ, List.getElem?_cons_zero]; rfl
  intro K hK
  go_simp
  (with_reducible refine (H_n2.out _).mono ?_)
  rintro e y ⟨v2, rfl, r2, b9⟩
  have E := Lib.hid (show Below y7.heap.size y7 y by first | exact chain E.out b9 | exact chain ((Below.refl y7.heap.size y7).drew) b9)
  have p0 := keep1 E.out k12a
  have p1 := keep1 E.out k12b
  have p2 := keep1 E.out k12c
  have p3 := keep1 E.out k12d
  have G1 := Lib.hid (Ri.below G1.out b9 (Nat.le_refl _))
  have G2 := Lib.hid r2
  obtain ⟨pp2, bb2, oo2, cc2, rfl, rr2⟩ := r2
  clear rr2 b9
  (try go_wp2_with fail)
  refine hK.out _ _ ?_ (fun hHeld => ?_)
  · (try dsimp only)
    exact ⟨p0, p1, p2, p3⟩
  clear hK K
  (try simp only [Act.put, List.setIfInBounds_toArray, List.set_cons_zero, List.set_cons_succ])
  refine wpAnyH_ready (rs := [21]) (by kernel_rfl) (by simp) ?_
  refine AllReadyH.cons (o := ?oi48) ?hi48 ?rest48 AllReadyH.nil
  case hi48 => simp only [List.getElem?_toArray, List.getElem?_cons_succ, List.getElem?_cons_zero]; rfl
  intro K hK
  go_simp
  (with_reducible refine (H_lo1.out _ _ _ G1.out G2.out).mono ?_)
  rintro e y ⟨v3, v4, rfl, r3, r4, b9⟩
  have E := Lib.hid (show Below y7.heap.size y7 y by first | exact chain E.out b9 | exact chain ((Below.refl y7.heap.size y7).drew) b9)
  have p0 := keep1 E.out k12a
  have p1 := keep1 E.out k12b
  have p2 := keep1 E.out k12c
  have p3 := keep1 E.out k12d
  have G3 := Lib.hid r3
  have G4 := Lib.hid r4
  obtain ⟨pp3, bb3, oo3, cc3, rfl, rr3⟩ := r3
  obtain ⟨pp4, bb4, oo4, cc4, rfl, rr4⟩ := r4
  clear rr3 rr4 b9
  (try go_wp2_with fail)
  refine hK.out _ _ ?_ (fun hHeld => ?_)
  · (try dsimp only)
    exact ⟨p0, p1, p2, p3⟩
  clear hK K
  (try simp only [Act.put, List.setIfInBounds_toArray, List.set_cons_zero, List.set_cons_succ])
  refine wpAnyH_ready (rs := [22]) (by kernel_rfl) (by simp) ?_
  refine AllReadyH.cons (o := ?oi49) ?hi49 ?rest49 AllReadyH.nil
  case hi49 => simp only [List.getElem?_toArray, List.getElem?_cons_succ, List.getElem?_cons_zero]; rfl
  intro K hK
  go_simp
  (with_reducible refine (H_sa1.out _ _ _ G3.out G4.out).mono ?_)
  rintro e y ⟨rfl, b9⟩
  have E := Lib.hid (show Below y7.heap.size y7 y by first | exact chain E.out b9 | exact chain ((Below.refl y7.heap.size y7).drew) b9)
  have p0 := keep1 E.out k12a
  have p1 := keep1 E.out k12b
  have p2 := keep1 E.out k12c
  have p3 := keep1 E.out k12d
  clear b9
  (try go_wp2_with fail)
  refine hK.out _ _ ?_ (fun hHeld => ?_)
  · (try dsimp only)
    exact ⟨p0, p1, p2, p3⟩
  clear hK K
  (try simp only [Act.put, List.setIfInBounds_toArray, List.set_cons_zero, List.set_cons_succ])
  refine wpAnyH_take (i := 23) (oi := ?oi50) (v := ?v50) ?hi50 (by kernel_rfl) (by kernel_rfl) (by kernel_rfl) (fun _ _ _ h => h) (Or.inl ⟨?hw50, ?hy50⟩) (by assumption) ?rest50
  case hi50 => simp only [List.getElem?_toArray, List.getElem?_cons_succ, List.getElem?_cons_zero]; rfl
  case hw50 => rfl
  case hy50 =>
    intro w hSw
    (try dsimp only at hSw)
    go_simp
    (try with_reducible rfl)
  (try simp only [Act.put, List.setIfInBounds_toArray, List.set_cons_zero, List.set_cons_succ])
  refine wpAnyH_take (i := 24) (oi := ?oi51) (v := ?v51) ?hi51 (by kernel_rfl) (by kernel_rfl) (by kernel_rfl) (fun _ _ _ h => h) (Or.inl ⟨?hw51, ?hy51⟩) (by assumption) ?rest51
  case hi51 => simp only [List.getElem?_toArray, List.getElem?_cons_succ, List.getElem?_cons_zero]; rfl
  case hw51 => rfl
  case hy51 =>
    intro w hSw
    (try dsimp only at hSw)
    go_simp
    (try with_reducible rfl)
  (try simp only [Act.put, List.setIfInBounds_toArray, List.set_cons_zero, List.set_cons_succ])
  refine wpAnyH_take (i := 25) (oi := ?oi52) (v := ?v52) ?hi52 (by kernel_rfl) (by kernel_rfl) (by kernel_rfl) (fun _ _ _ h => h) (Or.inl ⟨?hw52, ?hy52⟩) (by assumption) ?rest52
  case hi52 => simp only [List.getElem?_toArray, List.getElem?_cons_succ, List.getElem?_cons_zero]; rfl
  case hw52 => rfl
  case hy52 =>
    intro w hSw
    (try dsimp only at hSw)
    go_simp
    (try with_reducible rfl)
  (try simp only [Act.put, List.setIfInBounds_toArray, List.set_cons_zero, List.set_cons_succ])
  refine wpAnyH_done (by kernel_rfl) ?_ _
  refine NoPanic.normal ?_
  (try dsimp only [Exit.then])
  have D := Lib.hid (chain D.out E.out)
  have T9 := Lib.hid (T9.out.next E.out)
  have T10 := Lib.hid (T10.out.next E.out)
  have T12 := Lib.hid (T12.out.next E.out)
  have T14 := Lib.hid (T14.out.next E.out)
  obtain ⟨y9, hy9⟩ : ∃ y9 : World, y9 = y := ⟨_, rfl⟩
  rw [← hy9] at D T9 T10 T12 T14
  rw [← hy9]
  clear hy9 E k12a k12b k12c k12d hHeld
  obtain ⟨⟨k9a, k9b, k9c, k9d⟩, _⟩ := T9.out
  obtain ⟨k14a, k14b, _⟩ := T14.out
  go_wp2_with fail
  refine (H_rv.out _).mono ?_
  rintro e y11 ⟨rfl, b9⟩
  have E := Lib.hid b9
  have D := Lib.hid (chain D.out E.out)
  have T9 := Lib.hid (T9.out.next E.out)
  have T10 := Lib.hid (T10.out.next E.out)
  have T12 := Lib.hid (T12.out.next E.out)
  have T14 := Lib.hid (T14.out.next E.out)
  clear b9 E k9a k9b k9c k9d k14a k14b
  obtain ⟨k0, k1, _⟩ := I1.out.next D.out
  obtain ⟨k2, k3, _⟩ := I2.out.next D.out
  obtain ⟨k14a, k14b, _⟩ := T14.out
  go_wp2_with fail
  refine (H_val.out _ _ (WL.two _ _ _ _ _ _)).mono ?_
  rintro e yv ⟨rfl, b9⟩
  have E := Lib.hid (chain (below_one _ _) b9)
  have D := Lib.hid (chain D.out E.out)
  have T9 := Lib.hid (T9.out.next E.out)
  have T10 := Lib.hid (T10.out.next E.out)
  have T12 := Lib.hid (T12.out.next E.out)
  have T14 := Lib.hid (T14.out.next E.out)
  clear b9 E k14a k14b
  clear k0 k1 k2 k3
  obtain ⟨k0, k1, _⟩ := I1.out.next D.out
  obtain ⟨k2, k3, _⟩ := I2.out.next D.out
  obtain ⟨⟨k10a, k10b, k10c, k10d⟩, _⟩ := T10.out
  go_wp2_with fail
  refine (H_known.out _).mono ?_
  rintro e x1 ⟨rfl, b1⟩
  have HZ := Lib.hid (chain hb0.out (chain D.out b1))
  clear b1
  go_wp2
  go_ret
  exact ⟨rfl, HZ.out⟩
end Go.Proofs.YtlmklhffafcmmaaGreat
