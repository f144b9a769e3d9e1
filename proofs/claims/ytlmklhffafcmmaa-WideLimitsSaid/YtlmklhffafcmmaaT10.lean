/- What the theorem leans on, part 10: LValid, RefOut, SubW, LSums, RefPow, RefQuo1, RefQuo2. -/
import Derived.Test.YtlmklhffafcmmaaT9
import Derived.Test.YtlmklhffafcmmaaT2

/- The law WideValid gives true. -/
namespace Go.Proofs.Ytlmklhffafcmmaa
open Go.RowKit

theorem sgV_sg {a : Bool} {s : ByteArray} (h : vld a s = true) : sgV a s = (sg a (bv s)).sign := by
  have h1 := zb_sg h
  have h2 : (sg a (bv s)).natAbs < Top := by
    have e1 : (sg a (bv s)).natAbs = bv s := by unfold sg; split <;> omega
    rw [e1]
    exact bv_lt h
  have h3 := sgV_z h2
  rwa [h1.1, h1.2] at h3
theorem sgV_bad {a : Bool} {s : ByteArray} (h : vld a s = false) : sgV a s = 0 := by unfold sgV; rw [h]; simp
theorem lenV_bad {a : Bool} {s : ByteArray} (h : vld a s = false) : lenV a s = 0 := by unfold lenV; rw [h]; simp
theorem lenV_ok {a : Bool} {s : ByteArray} (h : vld a s = true) : lenV a s = lenB s := by unfold lenV; rw [h]; simp
theorem cmpN_sign (m n : Nat) : cmpN m n = ((m : Int) - n).sign := by
  unfold cmpN
  split
  · rw [Int.sign_eq_neg_one_of_neg (by omega)]
  · split
    · rw [Int.sign_eq_one_of_pos (by omega)]
    · rw [show (m : Int) - n = 0 by omega]; rfl
theorem pos_of_neg {s : ByteArray} (h : vld true s = true) : 0 < bv s := by
  have h0 : 0 < s.size := by
    rcases Nat.eq_zero_or_pos s.size with h0 | h0
    · unfold vld at h; rw [dif_neg (by omega)] at h; simp at h
    · exact h0
  have : bv s ≠ 0 := fun h1 => by have := (bv_zero_iff (vld_can h)).1 h1; omega
  omega
theorem cmpV_sg {a b : Bool} {s t : ByteArray} (h1 : vld a s = true) (h2 : vld b t = true) : cmpV a s b t = (sg a (bv s) - sg b (bv t)).sign := by
  cases a with
  | false =>
    cases b with
    | false => simp only [cmpV, sg]; rw [cmpN_sign]; simp
    | true =>
      have := pos_of_neg h2
      simp only [cmpV, sg]
      rw [if_neg (by simp), if_pos trivial, Int.sign_eq_one_of_pos (by omega)]
  | true =>
    have := pos_of_neg h1
    cases b with
    | false =>
      simp only [cmpV, sg]
      rw [if_pos trivial, if_neg (by simp), Int.sign_eq_neg_one_of_neg (by omega)]
    | true =>
      simp only [cmpV, sg]
      rw [cmpN_sign, if_pos trivial, if_pos trivial]
      congr 1
      omega
theorem short2_false {a b : Bool} {s t : ByteArray} (h : ¬ (s.size ≤ 60 ∧ t.size ≤ 60)) : shortL [(a, s), (b, t)] = false := by
  simp only [shortL, List.all_cons, List.all_nil, Bool.and_true]
  by_cases h1 : s.size ≤ 60
  · have h2 : ¬ t.size ≤ 60 := fun h2 => h ⟨h1, h2⟩
    simp [h2]
  · simp [h1]
theorem short2_true {a b : Bool} {s t : ByteArray} (h1 : s.size ≤ 60) (h2 : t.size ≤ 60) : shortL [(a, s), (b, t)] = true := by simp [shortL, h1, h2]
theorem lz60 {a : Bool} {s : ByteArray} (hs : s.size ≤ 60) : (Nm.dg D9 (sg a (bv s)).natAbs).length ≤ 1000000 := by
  have e1 : (sg a (bv s)).natAbs = bv s := by unfold sg; split <;> omega
  rw [e1]
  have h5 := Nm.val_lt (dig_rev s)
  rw [rev_length] at h5
  exact Nat.le_trans (dg9_256 (Nat.lt_of_lt_of_le h5 (Nat.pow_le_pow_right (by decide) hs))) (by decide)
theorem rcompare60 {a b : Bool} {s t : ByteArray} (h1 : vld a s = true) (h2 : vld b t = true) (z1 : s.size ≤ 60) (z2 : t.size ≤ 60) (v1 v2 : Value) (w : World) (g1 : Rz w v1 (sg a (bv s))) (g2 : Rz w v2 (sg b (bv t))) :
    Calls Try.prog 21 #[iV (sg a (bv s)) v1, iV (sg b (bv t)) v2] w (SignPost (cmpV a s b t) w) := by
  have h := rcompare_int _ _ v1 v2 w g1 g2 (lz60 z1) (lz60 z2)
  rwa [← cmpV_sg h1 h2] at h
theorem cmpV_swap {a b : Bool} {s t : ByteArray} (h1 : vld a s = true) (h2 : vld b t = true) : cmpV b t a s = -cmpV a s b t := by
  rw [cmpV_sg h1 h2, cmpV_sg h2 h1, ← Int.sign_neg]
  congr 1
  omega
theorem rbits60 {a : Bool} {s : ByteArray} (h : vld a s = true) (z1 : s.size ≤ 60) (v : Value) (w : World) (g : Rz w v (sg a (bv s))) :
    Calls Try.prog 20 #[iV (sg a (bv s)) v] w (IPost (lenB s) w) := by
  have e := (zb_sg h).2
  have h := rbits_int _ v w g (lz60 z1) (by rw [e]; omega)
  rwa [e] at h
theorem rsignV {a : Bool} {s : ByteArray} (h : vld a s = true) (v : Value) (w : World) (g : Rz w v (sg a (bv s))) :
    Calls Try.prog 19 #[iV (sg a (bv s)) v] w (SignPost (sgV a s) w) := by
  have h2 := rsign_int _ v w g
  rwa [← sgV_sg h] at h2

set_option maxRecDepth 100000 in
set_option maxHeartbeats 4000000 in
theorem valid_long (a b : Bool) (s t : ByteArray) (w : World) (hs : ¬ (s.size ≤ 60 ∧ t.size ≤ 60)) :
    Calls Try.prog 3 #[.agg #[.bool a, .string s], .agg #[.bool b, .string t]] w (Ret (.bool true) w) := by
  have H_known := Lib.hid known_true
  obtain ⟨w0, hw0⟩ : ∃ w0 : World, w0 = ((w.alloc (.cells #[.bool a, .string s] 23)).alloc (.cells #[.bool b, .string t] 23)).alloc (.cells #[.bool a, .string s, .bool b, .string t] 23) := ⟨_, rfl⟩
  have hb0 : Hid (Below w.heap.size w w0) := by rw [hw0]; exact (((Below.refl _ _).alloc (Nat.le_refl _) _).alloc (by simp) _).alloc (by simp; omega) _
  have I1 : Hid (ZC (.bool a) (.string s) w0 w.heap.size) := by rw [hw0]; exact ((ZC.new rfl).alloc _).alloc _
  have I2 : Hid (ZC (.bool b) (.string t) w0 (w.heap.size + 1)) := by rw [hw0]; exact (ZC.new (by simp)).alloc _
  have HSH := short_any [(a, s), (b, t)] 2 (w.heap.size + 1 + 1) w0 rfl (by decide) (by rw [hw0]; have := WL.two ((w.alloc (.cells #[.bool a, .string s] 23)).alloc (.cells #[.bool b, .string t] 23)) a b s t 23; simpa using this)
  rw [short2_false hs] at HSH
  have HSh := Lib.hid HSH
  have Hw0 := Lib.hid hw0
  clear HSH hw0
  unfold Ret at *
  unfold BPost at HSh
  go_enter Try.func3, Try.ntmps3
  go_wp2_with fail
  rw [← Hw0.out]
  refine HSh.out.mono ?_
  rintro e x0 ⟨rfl, b0⟩
  have D := Lib.hid b0
  clear b0
  go_wp2_with fail
  refine (H_known.out _).mono ?_
  rintro e x1 ⟨rfl, b1⟩
  have HZ := Lib.hid (chain hb0.out (chain D.out b1))
  clear b1
  go_wp2
  go_ret
  exact ⟨rfl, HZ.out⟩

set_option maxRecDepth 100000 in
set_option maxHeartbeats 4000000 in
theorem valid_bad1 (a b : Bool) (s t : ByteArray) (w : World) (z1 : s.size ≤ 60) (z2 : t.size ≤ 60) (hv : vld a s = false) :
    Calls Try.prog 3 #[.agg #[.bool a, .string s], .agg #[.bool b, .string t]] w (Ret (.bool true) w) := by
  have H_known := Lib.hid known_true
  obtain ⟨w0, hw0⟩ : ∃ w0 : World, w0 = ((w.alloc (.cells #[.bool a, .string s] 23)).alloc (.cells #[.bool b, .string t] 23)).alloc (.cells #[.bool a, .string s, .bool b, .string t] 23) := ⟨_, rfl⟩
  have hb0 : Hid (Below w.heap.size w w0) := by rw [hw0]; exact (((Below.refl _ _).alloc (Nat.le_refl _) _).alloc (by simp) _).alloc (by simp; omega) _
  have I1 : Hid (ZC (.bool a) (.string s) w0 w.heap.size) := by rw [hw0]; exact ((ZC.new rfl).alloc _).alloc _
  have I2 : Hid (ZC (.bool b) (.string t) w0 (w.heap.size + 1)) := by rw [hw0]; exact (ZC.new (by simp)).alloc _
  have HSH := short_any [(a, s), (b, t)] 2 (w.heap.size + 1 + 1) w0 rfl (by decide) (by rw [hw0]; have := WL.two ((w.alloc (.cells #[.bool a, .string s] 23)).alloc (.cells #[.bool b, .string t] 23)) a b s t 23; simpa using this)
  rw [short2_true z1 z2] at HSH
  have H_va := Lib.hid (fun w => Valid_any a s w (by omega))
  have H_ra := Lib.hid (fun w => rvalid_any a s w (by omega))
  have H_vb := Lib.hid (fun w => Valid_any b t w (by omega))
  have H_rb := Lib.hid (fun w => rvalid_any b t w (by omega))
  rw [hv] at H_va H_ra
  have H_c1 := Lib.hid (fun w => Compare_invalid a b s t w (by omega) (by omega) (by rw [hv]; rfl))
  have H_c2 := Lib.hid (fun w => Compare_invalid b a t s w (by omega) (by omega) (by rw [hv, Bool.and_false]))
  have H_sg := Lib.hid (fun w => Sign_any a s w (by omega))
  have H_ln := Lib.hid (fun w => Len_any a s w (by omega))
  rw [sgV_bad hv] at H_sg
  rw [lenV_bad hv] at H_ln
  unfold BPost at H_va H_ra H_vb H_rb
  unfold IPost at H_c1 H_c2 H_sg H_ln
  generalize vld b t = vb at *
  clear hv
  have HSh := Lib.hid HSH
  have Hw0 := Lib.hid hw0
  clear HSH hw0
  unfold Ret at *
  unfold BPost at HSh
  go_enter Try.func3, Try.ntmps3
  go_wp2_with fail
  rw [← Hw0.out]
  refine HSh.out.mono ?_
  rintro e x0 ⟨rfl, b0⟩
  have D := Lib.hid b0
  clear b0
  obtain ⟨k0, k1, _⟩ := I1.out.next D.out
  obtain ⟨k2, k3, _⟩ := I2.out.next D.out
  go_wp2_with fail
  go_region_held3 (fun W' => W'.cell? ⟨w.heap.size, 0, none⟩ = some (.bool a) ∧ W'.cell? ⟨w.heap.size, 1, none⟩ = some (.string s) ∧ W'.cell? ⟨w.heap.size + 1, 0, none⟩ = some (.bool b) ∧ W'.cell? ⟨w.heap.size + 1, 1, none⟩ = some (.string t)) (go_keep)
    (first
      | (go_at_call 13; (with_reducible refine (H_va.out _).mono ?_); rintro e y ⟨rfl, b9⟩; have E := Lib.hid (show Below x0.heap.size x0 y by first | exact chain E.out b9 | exact chain ((Below.refl _ _).drew) b9); have p0 := keep1 E.out k0; have p1 := keep1 E.out k1; have p2 := keep1 E.out k2; have p3 := keep1 E.out k3;  clear b9)
      | (go_at_call 14; (with_reducible refine (H_ra.out _).mono ?_); rintro e y ⟨rfl, b9⟩; have E := Lib.hid (show Below x0.heap.size x0 y by first | exact chain E.out b9 | exact chain ((Below.refl _ _).drew) b9); have p0 := keep1 E.out k0; have p1 := keep1 E.out k1; have p2 := keep1 E.out k2; have p3 := keep1 E.out k3;  clear b9)
      | (go_at_call 13; (with_reducible refine (H_vb.out _).mono ?_); rintro e y ⟨rfl, b9⟩; have E := Lib.hid (show Below x0.heap.size x0 y by first | exact chain E.out b9 | exact chain ((Below.refl _ _).drew) b9); have p0 := keep1 E.out k0; have p1 := keep1 E.out k1; have p2 := keep1 E.out k2; have p3 := keep1 E.out k3;  clear b9)
      | (go_at_call 14; (with_reducible refine (H_rb.out _).mono ?_); rintro e y ⟨rfl, b9⟩; have E := Lib.hid (show Below x0.heap.size x0 y by first | exact chain E.out b9 | exact chain ((Below.refl _ _).drew) b9); have p0 := keep1 E.out k0; have p1 := keep1 E.out k1; have p2 := keep1 E.out k2; have p3 := keep1 E.out k3;  clear b9)
      | fail)
  have D := Lib.hid (chain D.out E.out)
  clear E k0 k1 k2 k3 p0 p1 p2 p3
  obtain ⟨k0, k1, _⟩ := I1.out.next D.out
  obtain ⟨k2, k3, _⟩ := I2.out.next D.out
  go_wp2_with fail
  refine (H_ra.out _).mono ?_
  rintro e y ⟨rfl, b9⟩
  have D := Lib.hid (chain D.out b9)
  obtain ⟨k0, k1, _⟩ := I1.out.next D.out
  obtain ⟨k2, k3, _⟩ := I2.out.next D.out
  go_wp2_with fail
  refine (H_c1.out _).mono ?_
  rintro e y ⟨rfl, b9⟩
  have D := Lib.hid (chain D.out b9)
  obtain ⟨k0, k1, _⟩ := I1.out.next D.out
  obtain ⟨k2, k3, _⟩ := I2.out.next D.out
  go_wp2_with fail
  refine (H_c2.out _).mono ?_
  rintro e y ⟨rfl, b9⟩
  have D := Lib.hid (chain D.out b9)
  obtain ⟨k0, k1, _⟩ := I1.out.next D.out
  obtain ⟨k2, k3, _⟩ := I2.out.next D.out
  go_wp2_with fail
  refine (H_sg.out _).mono ?_
  rintro e y ⟨rfl, b9⟩
  have D := Lib.hid (chain D.out b9)
  obtain ⟨k0, k1, _⟩ := I1.out.next D.out
  obtain ⟨k2, k3, _⟩ := I2.out.next D.out
  go_wp2_with fail
  refine (H_ln.out _).mono ?_
  rintro e y ⟨rfl, b9⟩
  have D := Lib.hid (chain D.out b9)
  obtain ⟨k0, k1, _⟩ := I1.out.next D.out
  obtain ⟨k2, k3, _⟩ := I2.out.next D.out
  go_wp2_with fail
  refine (H_known.out _).mono ?_
  rintro e x1 ⟨rfl, b1⟩
  have HZ := Lib.hid (chain hb0.out (chain D.out b1))
  clear b1
  go_wp2
  go_ret
  exact ⟨rfl, HZ.out⟩

set_option maxRecDepth 100000 in
set_option maxHeartbeats 4000000 in
theorem valid_bad2 (a b : Bool) (s t : ByteArray) (w : World) (z1 : s.size ≤ 60) (z2 : t.size ≤ 60) (hv : vld a s = true) (hv2 : vld b t = false) :
    Calls Try.prog 3 #[.agg #[.bool a, .string s], .agg #[.bool b, .string t]] w (Ret (.bool true) w) := by
  have H_known := Lib.hid known_true
  obtain ⟨w0, hw0⟩ : ∃ w0 : World, w0 = ((w.alloc (.cells #[.bool a, .string s] 23)).alloc (.cells #[.bool b, .string t] 23)).alloc (.cells #[.bool a, .string s, .bool b, .string t] 23) := ⟨_, rfl⟩
  have hb0 : Hid (Below w.heap.size w w0) := by rw [hw0]; exact (((Below.refl _ _).alloc (Nat.le_refl _) _).alloc (by simp) _).alloc (by simp; omega) _
  have I1 : Hid (ZC (.bool a) (.string s) w0 w.heap.size) := by rw [hw0]; exact ((ZC.new rfl).alloc _).alloc _
  have I2 : Hid (ZC (.bool b) (.string t) w0 (w.heap.size + 1)) := by rw [hw0]; exact (ZC.new (by simp)).alloc _
  have HSH := short_any [(a, s), (b, t)] 2 (w.heap.size + 1 + 1) w0 rfl (by decide) (by rw [hw0]; have := WL.two ((w.alloc (.cells #[.bool a, .string s] 23)).alloc (.cells #[.bool b, .string t] 23)) a b s t 23; simpa using this)
  rw [short2_true z1 z2] at HSH
  have H_va := Lib.hid (fun w => Valid_any a s w (by omega))
  have H_ra := Lib.hid (fun w => rvalid_any a s w (by omega))
  have H_vb := Lib.hid (fun w => Valid_any b t w (by omega))
  have H_rb := Lib.hid (fun w => rvalid_any b t w (by omega))
  rw [hv] at H_va H_ra
  rw [hv2] at H_vb H_rb
  have H_sg := Lib.hid (fun w => Sign_any a s w (by omega))
  have H_ln := Lib.hid (fun w => Len_any a s w (by omega))
  rw [lenV_ok hv] at H_ln
  have H_from := Lib.hid (fun w => rfrom_any a s w (by omega))
  have H_rs := Lib.hid (fun v w g => rsignV hv v w g)
  have H_rb2 := Lib.hid (fun v w g => rbits60 hv z1 v w g)
  have H_c1 := Lib.hid (fun w => Compare_invalid a b s t w (by omega) (by omega) (by rw [hv2, Bool.and_false]))
  unfold BPost at H_va H_ra H_vb H_rb
  unfold IntPost iV at H_from
  unfold iV at H_rs H_rb2
  unfold SignPost at H_rs
  unfold IPost at H_sg H_ln H_rb2
  unfold IPost at H_c1
  clear hv hv2
  generalize sgV a s = sgv at *
  generalize lenB s = lnv at *
  generalize sg a (bv s) = z at *
  generalize decide (z < 0) = bz at *
  have HSh := Lib.hid HSH
  have Hw0 := Lib.hid hw0
  clear HSH hw0
  unfold Ret at *
  unfold BPost at HSh
  go_enter Try.func3, Try.ntmps3
  go_wp2_with fail
  rw [← Hw0.out]
  refine HSh.out.mono ?_
  rintro e x0 ⟨rfl, b0⟩
  have D := Lib.hid b0
  clear b0
  obtain ⟨k0, k1, _⟩ := I1.out.next D.out
  obtain ⟨k2, k3, _⟩ := I2.out.next D.out
  go_wp2_with fail
  go_region_held3 (fun W' => W'.cell? ⟨w.heap.size, 0, none⟩ = some (.bool a) ∧ W'.cell? ⟨w.heap.size, 1, none⟩ = some (.string s) ∧ W'.cell? ⟨w.heap.size + 1, 0, none⟩ = some (.bool b) ∧ W'.cell? ⟨w.heap.size + 1, 1, none⟩ = some (.string t)) (go_keep)
    (first
      | (go_at_call 13; (with_reducible refine (H_va.out _).mono ?_); rintro e y ⟨rfl, b9⟩; have E := Lib.hid (show Below x0.heap.size x0 y by first | exact chain E.out b9 | exact chain ((Below.refl _ _).drew) b9); have p0 := keep1 E.out k0; have p1 := keep1 E.out k1; have p2 := keep1 E.out k2; have p3 := keep1 E.out k3;  clear b9)
      | (go_at_call 14; (with_reducible refine (H_ra.out _).mono ?_); rintro e y ⟨rfl, b9⟩; have E := Lib.hid (show Below x0.heap.size x0 y by first | exact chain E.out b9 | exact chain ((Below.refl _ _).drew) b9); have p0 := keep1 E.out k0; have p1 := keep1 E.out k1; have p2 := keep1 E.out k2; have p3 := keep1 E.out k3;  clear b9)
      | (go_at_call 13; (with_reducible refine (H_vb.out _).mono ?_); rintro e y ⟨rfl, b9⟩; have E := Lib.hid (show Below x0.heap.size x0 y by first | exact chain E.out b9 | exact chain ((Below.refl _ _).drew) b9); have p0 := keep1 E.out k0; have p1 := keep1 E.out k1; have p2 := keep1 E.out k2; have p3 := keep1 E.out k3;  clear b9)
      | (go_at_call 14; (with_reducible refine (H_rb.out _).mono ?_); rintro e y ⟨rfl, b9⟩; have E := Lib.hid (show Below x0.heap.size x0 y by first | exact chain E.out b9 | exact chain ((Below.refl _ _).drew) b9); have p0 := keep1 E.out k0; have p1 := keep1 E.out k1; have p2 := keep1 E.out k2; have p3 := keep1 E.out k3;  clear b9)
      | fail)
  have D := Lib.hid (chain D.out E.out)
  clear E k0 k1 k2 k3 p0 p1 p2 p3
  obtain ⟨k0, k1, _⟩ := I1.out.next D.out
  obtain ⟨k2, k3, _⟩ := I2.out.next D.out
  go_wp2_with fail
  refine (H_ra.out _).mono ?_
  rintro e y ⟨rfl, b9⟩
  have D := Lib.hid (chain D.out b9)
  obtain ⟨k0, k1, _⟩ := I1.out.next D.out
  obtain ⟨k2, k3, _⟩ := I2.out.next D.out
  go_wp2_with fail
  refine (H_from.out _).mono ?_
  rintro e y1 ⟨v1, rfl, r1, b9⟩
  have D := Lib.hid (chain D.out b9)
  have R1 : Hid (Rz (y1.alloc (.cells #[.bool bz, v1] 31)) v1 z) := Ri.allocd r1 _
  obtain ⟨pz1, bb1, o1, c1, rfl, rr1⟩ := r1
  obtain ⟨u1, hu1⟩ : ∃ u1 : World, u1 = y1.alloc (.cells #[.bool bz, .slice pz1 (Nm.dg D9 z.natAbs).length c1] 31) := ⟨_, rfl⟩
  rw [← hu1] at R1
  have T5 : Hid (ZC (.bool bz) (.slice pz1 (Nm.dg D9 z.natAbs).length c1) u1 y1.heap.size) := by rw [hu1]; exact ZC.new rfl
  have D : Hid (Below w0.heap.size w0 u1) := by rw [hu1]; exact D.out.alloc D.out.size _
  have Hu1 := Lib.hid hu1
  clear b9 rr1 hu1
  have R1d : Hid (Rz u1.drew (.slice pz1 (Nm.dg D9 z.natAbs).length c1) z) := Ri.drew R1.out
  obtain ⟨k0, k1, _⟩ := I1.out.next D.out
  obtain ⟨k2, k3, _⟩ := I2.out.next D.out
  obtain ⟨k4, k5, _⟩ := T5.out
  go_wp2_with fail
  rw [← Hu1.out]
  clear Hu1
  go_region_held3 (fun W' => W'.cell? ⟨w.heap.size, 0, none⟩ = some (.bool a) ∧ W'.cell? ⟨w.heap.size, 1, none⟩ = some (.string s) ∧ W'.cell? ⟨w.heap.size + 1, 0, none⟩ = some (.bool b) ∧ W'.cell? ⟨w.heap.size + 1, 1, none⟩ = some (.string t) ∧ W'.cell? ⟨y1.heap.size, 0, none⟩ = some (.bool bz) ∧ W'.cell? ⟨y1.heap.size, 1, none⟩ = some (.slice pz1 (Nm.dg D9 z.natAbs).length c1)) (go_keep)
    (first
      | (go_at_call 16; (with_reducible refine (H_sg.out _).mono ?_); rintro e y ⟨rfl, b9⟩; have E := Lib.hid (show Below u1.heap.size u1 y by first | exact chain E.out b9 | exact chain ((Below.refl _ _).drew) b9); have p0 := keep1 E.out k0; have p1 := keep1 E.out k1; have p2 := keep1 E.out k2; have p3 := keep1 E.out k3; have p4 := keep1 E.out k4; have p5 := keep1 E.out k5;  clear b9)
      | (go_at_call 19; (with_reducible refine (H_rs.out _ _ (Ri.below R1.out E.out (Nat.le_refl _))).mono ?_); rintro e y ⟨rfl, b9⟩; have E := Lib.hid (show Below u1.heap.size u1 y by first | exact chain E.out b9 | exact chain ((Below.refl _ _).drew) b9); have p0 := keep1 E.out k0; have p1 := keep1 E.out k1; have p2 := keep1 E.out k2; have p3 := keep1 E.out k3; have p4 := keep1 E.out k4; have p5 := keep1 E.out k5;  clear b9)
      | (go_at_call 17; (with_reducible refine (H_ln.out _).mono ?_); rintro e y ⟨rfl, b9⟩; have E := Lib.hid (show Below u1.heap.size u1 y by first | exact chain E.out b9 | exact chain ((Below.refl _ _).drew) b9); have p0 := keep1 E.out k0; have p1 := keep1 E.out k1; have p2 := keep1 E.out k2; have p3 := keep1 E.out k3; have p4 := keep1 E.out k4; have p5 := keep1 E.out k5;  clear b9)
      | (go_at_call 20; (with_reducible refine (H_rb2.out _ _ (Ri.below R1.out E.out (Nat.le_refl _))).mono ?_); rintro e y ⟨rfl, b9⟩; have E := Lib.hid (show Below u1.heap.size u1 y by first | exact chain E.out b9 | exact chain ((Below.refl _ _).drew) b9); have p0 := keep1 E.out k0; have p1 := keep1 E.out k1; have p2 := keep1 E.out k2; have p3 := keep1 E.out k3; have p4 := keep1 E.out k4; have p5 := keep1 E.out k5;  clear b9)
      | fail)
  have D := Lib.hid (chain D.out E.out)
  have T5 := Lib.hid (T5.out.next E.out)
  have R1 := Lib.hid (Ri.below R1.out E.out (Nat.le_refl _))
  clear E k0 k1 k2 k3 k4 k5 p0 p1 p2 p3 p4 p5
  obtain ⟨k0, k1, _⟩ := I1.out.next D.out
  obtain ⟨k2, k3, _⟩ := I2.out.next D.out
  obtain ⟨k4, k5, _⟩ := T5.out
  go_wp2_with fail
  refine (H_rb.out _).mono ?_
  rintro e y ⟨rfl, b9⟩
  have D := Lib.hid (chain D.out b9)
  obtain ⟨k0, k1, _⟩ := I1.out.next D.out
  obtain ⟨k2, k3, _⟩ := I2.out.next D.out
  go_wp2_with fail
  refine (H_c1.out _).mono ?_
  rintro e y ⟨rfl, b9⟩
  have D := Lib.hid (chain D.out b9)
  obtain ⟨k0, k1, _⟩ := I1.out.next D.out
  obtain ⟨k2, k3, _⟩ := I2.out.next D.out
  go_wp2_with fail
  refine (H_known.out _).mono ?_
  rintro e x1 ⟨rfl, b1⟩
  have HZ := Lib.hid (chain hb0.out (chain D.out b1))
  clear b1
  go_wp2
  go_ret
  exact ⟨rfl, HZ.out⟩

set_option maxRecDepth 100000 in
set_option maxHeartbeats 4000000 in
theorem valid_good (a b : Bool) (s t : ByteArray) (w : World) (z1 : s.size ≤ 60) (z2 : t.size ≤ 60) (hv : vld a s = true) (hv2 : vld b t = true) :
    Calls Try.prog 3 #[.agg #[.bool a, .string s], .agg #[.bool b, .string t]] w (Ret (.bool true) w) := by
  have H_known := Lib.hid known_true
  obtain ⟨w0, hw0⟩ : ∃ w0 : World, w0 = ((w.alloc (.cells #[.bool a, .string s] 23)).alloc (.cells #[.bool b, .string t] 23)).alloc (.cells #[.bool a, .string s, .bool b, .string t] 23) := ⟨_, rfl⟩
  have hb0 : Hid (Below w.heap.size w w0) := by rw [hw0]; exact (((Below.refl _ _).alloc (Nat.le_refl _) _).alloc (by simp) _).alloc (by simp; omega) _
  have I1 : Hid (ZC (.bool a) (.string s) w0 w.heap.size) := by rw [hw0]; exact ((ZC.new rfl).alloc _).alloc _
  have I2 : Hid (ZC (.bool b) (.string t) w0 (w.heap.size + 1)) := by rw [hw0]; exact (ZC.new (by simp)).alloc _
  have HSH := short_any [(a, s), (b, t)] 2 (w.heap.size + 1 + 1) w0 rfl (by decide) (by rw [hw0]; have := WL.two ((w.alloc (.cells #[.bool a, .string s] 23)).alloc (.cells #[.bool b, .string t] 23)) a b s t 23; simpa using this)
  rw [short2_true z1 z2] at HSH
  have H_va := Lib.hid (fun w => Valid_any a s w (by omega))
  have H_ra := Lib.hid (fun w => rvalid_any a s w (by omega))
  have H_vb := Lib.hid (fun w => Valid_any b t w (by omega))
  have H_rb := Lib.hid (fun w => rvalid_any b t w (by omega))
  rw [hv] at H_va H_ra
  rw [hv2] at H_vb H_rb
  have H_sg := Lib.hid (fun w => Sign_any a s w (by omega))
  have H_ln := Lib.hid (fun w => Len_any a s w (by omega))
  rw [lenV_ok hv] at H_ln
  have H_from := Lib.hid (fun w => rfrom_any a s w (by omega))
  have H_rs := Lib.hid (fun v w g => rsignV hv v w g)
  have H_rb2 := Lib.hid (fun v w g => rbits60 hv z1 v w g)
  have H_from2 := Lib.hid (fun w => rfrom_any b t w (by omega))
  have H_cm := Lib.hid (fun v1 v2 w g1 g2 => rcompare60 hv hv2 z1 z2 v1 v2 w g1 g2)
  have H_c1 := Lib.hid (fun w => Compare_valid a b s t w hv hv2)
  have H_c2 := Lib.hid (fun w => Compare_valid b a t s w hv2 hv)
  rw [cmpV_swap hv hv2] at H_c2
  obtain ⟨cc, hcc⟩ : ∃ cc, cmpV a s b t = cc := ⟨_, rfl⟩
  have hc1 : -1 ≤ cc ∧ cc ≤ 1 := by
    rw [← hcc, cmpV_sg hv hv2]
    rcases Int.lt_trichotomy (sg a (bv s) - sg b (bv t)) 0 with g | g | g
    · rw [Int.sign_eq_neg_one_of_neg g]; decide
    · rw [g]; decide
    · rw [Int.sign_eq_one_of_pos g]; decide
  obtain ⟨hc1, hc2⟩ := hc1
  rw [hcc] at H_cm H_c1 H_c2
  clear hcc
  unfold BPost at H_va H_ra H_vb H_rb
  unfold IntPost iV at H_from
  unfold iV at H_rs H_rb2
  unfold SignPost at H_rs
  unfold IPost at H_sg H_ln H_rb2
  unfold IPost at H_c1 H_c2
  unfold IntPost iV at H_from2
  unfold iV at H_cm
  unfold SignPost at H_cm
  clear hv hv2
  generalize sgV a s = sgv at *
  generalize lenB s = lnv at *
  generalize sg a (bv s) = z at *
  generalize decide (z < 0) = bz at *
  generalize sg b (bv t) = z' at *
  generalize decide (z' < 0) = bz' at *
  have HSh := Lib.hid HSH
  have Hw0 := Lib.hid hw0
  clear HSH hw0
  unfold Ret at *
  unfold BPost at HSh
  go_enter Try.func3, Try.ntmps3
  go_wp2_with fail
  rw [← Hw0.out]
  refine HSh.out.mono ?_
  rintro e x0 ⟨rfl, b0⟩
  have D := Lib.hid b0
  clear b0
  obtain ⟨k0, k1, _⟩ := I1.out.next D.out
  obtain ⟨k2, k3, _⟩ := I2.out.next D.out
  go_wp2_with fail
  go_region_held3 (fun W' => W'.cell? ⟨w.heap.size, 0, none⟩ = some (.bool a) ∧ W'.cell? ⟨w.heap.size, 1, none⟩ = some (.string s) ∧ W'.cell? ⟨w.heap.size + 1, 0, none⟩ = some (.bool b) ∧ W'.cell? ⟨w.heap.size + 1, 1, none⟩ = some (.string t)) (go_keep)
    (first
      | (go_at_call 13; (with_reducible refine (H_va.out _).mono ?_); rintro e y ⟨rfl, b9⟩; have E := Lib.hid (show Below x0.heap.size x0 y by first | exact chain E.out b9 | exact chain ((Below.refl _ _).drew) b9); have p0 := keep1 E.out k0; have p1 := keep1 E.out k1; have p2 := keep1 E.out k2; have p3 := keep1 E.out k3;  clear b9)
      | (go_at_call 14; (with_reducible refine (H_ra.out _).mono ?_); rintro e y ⟨rfl, b9⟩; have E := Lib.hid (show Below x0.heap.size x0 y by first | exact chain E.out b9 | exact chain ((Below.refl _ _).drew) b9); have p0 := keep1 E.out k0; have p1 := keep1 E.out k1; have p2 := keep1 E.out k2; have p3 := keep1 E.out k3;  clear b9)
      | (go_at_call 13; (with_reducible refine (H_vb.out _).mono ?_); rintro e y ⟨rfl, b9⟩; have E := Lib.hid (show Below x0.heap.size x0 y by first | exact chain E.out b9 | exact chain ((Below.refl _ _).drew) b9); have p0 := keep1 E.out k0; have p1 := keep1 E.out k1; have p2 := keep1 E.out k2; have p3 := keep1 E.out k3;  clear b9)
      | (go_at_call 14; (with_reducible refine (H_rb.out _).mono ?_); rintro e y ⟨rfl, b9⟩; have E := Lib.hid (show Below x0.heap.size x0 y by first | exact chain E.out b9 | exact chain ((Below.refl _ _).drew) b9); have p0 := keep1 E.out k0; have p1 := keep1 E.out k1; have p2 := keep1 E.out k2; have p3 := keep1 E.out k3;  clear b9)
      | fail)
  have D := Lib.hid (chain D.out E.out)
  clear E k0 k1 k2 k3 p0 p1 p2 p3
  obtain ⟨k0, k1, _⟩ := I1.out.next D.out
  obtain ⟨k2, k3, _⟩ := I2.out.next D.out
  go_wp2_with fail
  refine (H_ra.out _).mono ?_
  rintro e y ⟨rfl, b9⟩
  have D := Lib.hid (chain D.out b9)
  obtain ⟨k0, k1, _⟩ := I1.out.next D.out
  obtain ⟨k2, k3, _⟩ := I2.out.next D.out
  go_wp2_with fail
  refine (H_from.out _).mono ?_
  rintro e y1 ⟨v1, rfl, r1, b9⟩
  have D := Lib.hid (chain D.out b9)
  have R1 : Hid (Rz (y1.alloc (.cells #[.bool bz, v1] 31)) v1 z) := Ri.allocd r1 _
  obtain ⟨pz1, bb1, o1, c1, rfl, rr1⟩ := r1
  obtain ⟨u1, hu1⟩ : ∃ u1 : World, u1 = y1.alloc (.cells #[.bool bz, .slice pz1 (Nm.dg D9 z.natAbs).length c1] 31) := ⟨_, rfl⟩
  rw [← hu1] at R1
  have T5 : Hid (ZC (.bool bz) (.slice pz1 (Nm.dg D9 z.natAbs).length c1) u1 y1.heap.size) := by rw [hu1]; exact ZC.new rfl
  have D : Hid (Below w0.heap.size w0 u1) := by rw [hu1]; exact D.out.alloc D.out.size _
  have Hu1 := Lib.hid hu1
  clear b9 rr1 hu1
  have R1d : Hid (Rz u1.drew (.slice pz1 (Nm.dg D9 z.natAbs).length c1) z) := Ri.drew R1.out
  obtain ⟨k0, k1, _⟩ := I1.out.next D.out
  obtain ⟨k2, k3, _⟩ := I2.out.next D.out
  obtain ⟨k4, k5, _⟩ := T5.out
  go_wp2_with fail
  rw [← Hu1.out]
  clear Hu1
  go_region_held3 (fun W' => W'.cell? ⟨w.heap.size, 0, none⟩ = some (.bool a) ∧ W'.cell? ⟨w.heap.size, 1, none⟩ = some (.string s) ∧ W'.cell? ⟨w.heap.size + 1, 0, none⟩ = some (.bool b) ∧ W'.cell? ⟨w.heap.size + 1, 1, none⟩ = some (.string t) ∧ W'.cell? ⟨y1.heap.size, 0, none⟩ = some (.bool bz) ∧ W'.cell? ⟨y1.heap.size, 1, none⟩ = some (.slice pz1 (Nm.dg D9 z.natAbs).length c1)) (go_keep)
    (first
      | (go_at_call 16; (with_reducible refine (H_sg.out _).mono ?_); rintro e y ⟨rfl, b9⟩; have E := Lib.hid (show Below u1.heap.size u1 y by first | exact chain E.out b9 | exact chain ((Below.refl _ _).drew) b9); have p0 := keep1 E.out k0; have p1 := keep1 E.out k1; have p2 := keep1 E.out k2; have p3 := keep1 E.out k3; have p4 := keep1 E.out k4; have p5 := keep1 E.out k5;  clear b9)
      | (go_at_call 19; (with_reducible refine (H_rs.out _ _ (Ri.below R1.out E.out (Nat.le_refl _))).mono ?_); rintro e y ⟨rfl, b9⟩; have E := Lib.hid (show Below u1.heap.size u1 y by first | exact chain E.out b9 | exact chain ((Below.refl _ _).drew) b9); have p0 := keep1 E.out k0; have p1 := keep1 E.out k1; have p2 := keep1 E.out k2; have p3 := keep1 E.out k3; have p4 := keep1 E.out k4; have p5 := keep1 E.out k5;  clear b9)
      | (go_at_call 17; (with_reducible refine (H_ln.out _).mono ?_); rintro e y ⟨rfl, b9⟩; have E := Lib.hid (show Below u1.heap.size u1 y by first | exact chain E.out b9 | exact chain ((Below.refl _ _).drew) b9); have p0 := keep1 E.out k0; have p1 := keep1 E.out k1; have p2 := keep1 E.out k2; have p3 := keep1 E.out k3; have p4 := keep1 E.out k4; have p5 := keep1 E.out k5;  clear b9)
      | (go_at_call 20; (with_reducible refine (H_rb2.out _ _ (Ri.below R1.out E.out (Nat.le_refl _))).mono ?_); rintro e y ⟨rfl, b9⟩; have E := Lib.hid (show Below u1.heap.size u1 y by first | exact chain E.out b9 | exact chain ((Below.refl _ _).drew) b9); have p0 := keep1 E.out k0; have p1 := keep1 E.out k1; have p2 := keep1 E.out k2; have p3 := keep1 E.out k3; have p4 := keep1 E.out k4; have p5 := keep1 E.out k5;  clear b9)
      | fail)
  have D := Lib.hid (chain D.out E.out)
  have T5 := Lib.hid (T5.out.next E.out)
  have R1 := Lib.hid (Ri.below R1.out E.out (Nat.le_refl _))
  clear E k0 k1 k2 k3 k4 k5 p0 p1 p2 p3 p4 p5
  obtain ⟨k0, k1, _⟩ := I1.out.next D.out
  obtain ⟨k2, k3, _⟩ := I2.out.next D.out
  obtain ⟨k4, k5, _⟩ := T5.out
  go_wp2_with fail
  refine (H_rb.out _).mono ?_
  rintro e yr ⟨rfl, b9⟩
  have D := Lib.hid (chain D.out b9)
  obtain ⟨k0, k1, _⟩ := I1.out.next D.out
  obtain ⟨k2, k3, _⟩ := I2.out.next D.out
  have T5 := Lib.hid (T5.out.next b9)
  have R1 := Lib.hid (Ri.below R1.out b9 (Nat.le_refl _))
  obtain ⟨k4, k5, _⟩ := T5.out
  clear b9
  go_wp2_with fail
  go_region_held3 (fun W' => W'.cell? ⟨w.heap.size, 0, none⟩ = some (.bool a) ∧ W'.cell? ⟨w.heap.size, 1, none⟩ = some (.string s) ∧ W'.cell? ⟨w.heap.size + 1, 0, none⟩ = some (.bool b) ∧ W'.cell? ⟨w.heap.size + 1, 1, none⟩ = some (.string t) ∧ W'.cell? ⟨y1.heap.size, 0, none⟩ = some (.bool bz) ∧ W'.cell? ⟨y1.heap.size, 1, none⟩ = some (.slice pz1 (Nm.dg D9 z.natAbs).length c1)) (go_keep)
    (first
      | (go_at_call 18; (with_reducible refine (H_from2.out _).mono ?_); rintro e y ⟨v2, rfl, r2, b9⟩; have E := Lib.hid (show Below yr.heap.size yr y by first | exact chain E.out b9 | exact chain ((Below.refl _ _).drew) b9); have p0 := keep1 E.out k0; have p1 := keep1 E.out k1; have p2 := keep1 E.out k2; have p3 := keep1 E.out k3; have p4 := keep1 E.out k4; have p5 := keep1 E.out k5; have R2 := Lib.hid r2; obtain ⟨pz2, bb2, o2, c2, rfl, rr2⟩ := r2; clear rr2; clear b9)
      | (go_at_call 21; (with_reducible refine (H_cm.out _ _ _ (Ri.below R1.out E.out (Nat.le_refl _)) R2.out).mono ?_); rintro e y ⟨rfl, b9⟩; have E := Lib.hid (show Below yr.heap.size yr y by first | exact chain E.out b9 | exact chain ((Below.refl _ _).drew) b9); have p0 := keep1 E.out k0; have p1 := keep1 E.out k1; have p2 := keep1 E.out k2; have p3 := keep1 E.out k3; have p4 := keep1 E.out k4; have p5 := keep1 E.out k5;  clear b9)
      | fail)
  have D := Lib.hid (chain D.out E.out)
  clear E k0 k1 k2 k3 k4 k5 p0 p1 p2 p3 p4 p5
  obtain ⟨k0, k1, _⟩ := I1.out.next D.out
  obtain ⟨k2, k3, _⟩ := I2.out.next D.out
  go_wp2_with fail
  refine (H_c1.out _).mono ?_
  rintro e y ⟨rfl, b9⟩
  have D := Lib.hid (chain D.out b9)
  obtain ⟨k0, k1, _⟩ := I1.out.next D.out
  obtain ⟨k2, k3, _⟩ := I2.out.next D.out
  go_wp2_with fail
  refine (H_c2.out _).mono ?_
  rintro e y ⟨rfl, b9⟩
  have D := Lib.hid (chain D.out b9)
  obtain ⟨k0, k1, _⟩ := I1.out.next D.out
  obtain ⟨k2, k3, _⟩ := I2.out.next D.out
  go_wp2_with fail
  refine (H_known.out _).mono ?_
  rintro e x1 ⟨rfl, b1⟩
  have HZ := Lib.hid (chain hb0.out (chain D.out b1))
  clear b1
  go_wp2
  go_ret
  exact ⟨rfl, HZ.out⟩
end Go.Proofs.Ytlmklhffafcmmaa

/- The reference's Out where the result is a wide integer; the law's function is where it holds. -/
namespace Go.Proofs.Ytlmklhffafcmmaa
open Go.RowKit

set_option maxRecDepth 100000 in
set_option maxHeartbeats 2000000 in
theorem rout_int (z : Int) (v : Value) (w : World) (h : Rz w v z) (hl : (Nm.dg D9 z.natAbs).length ≤ 1000000) (hs : (zs z).size ≤ 8192) :
    Calls Try.prog 65 #[iV z v] w fun e w' => e = .returned (.tuple #[.agg #[.bool (zb z), .string (zs z)], .int .i64 0]) ∧ Below w.heap.size w w' := by
  have HB := Lib.hid (fun v w h => rbig_int z v w h hl hs)
  have HT : Hid (∀ v w, Rz w v z → Calls Try.prog 46 #[iV z v] w fun e w' => e = .returned (.agg #[.bool (zb z), .string (zs z)]) ∧ Below w.heap.size w w') := fun v w h => by
    have := rto_int z v w h hl
    unfold ToPost at this
    rwa [wz_eq] at this
  have H0 := Lib.hid h
  obtain ⟨p, b1, o1, c1, rfl, hr⟩ := h
  clear hr hl hs
  unfold iV at HB HT ⊢
  unfold BPost at HB
  generalize decide (z < 0) = bz at *
  generalize zb z = bb at *
  generalize zs z = s at *
  generalize (Nm.dg D9 z.natAbs).length = len at *
  obtain ⟨w0, hw0⟩ : ∃ w0 : World, w0 = (w.alloc (.cells #[.bool bz, .slice p len c1] 31)).alloc (.cells #[.bool false, .string ⟨#[]⟩] 23) := ⟨_, rfl⟩
  have hb0 : Hid (Below w.heap.size w w0) := by rw [hw0]; exact ((Below.refl _ _).alloc (Nat.le_refl _) _).alloc (by simp) _
  have R0 : Hid (Rz w0 (.slice p len c1) z) := Ri.below H0.out hb0.out (Nat.le_refl _)
  have I1 : Hid (ZC (.bool bz) (.slice p len c1) w0 w.heap.size) := by rw [hw0]; exact (ZC.new rfl).alloc _
  have I2 : Hid (ZC (.bool false) (.string ⟨#[]⟩) w0 (w.heap.size + 1)) := by rw [hw0]; exact ZC.new (by simp)
  have Hw0 := Lib.hid hw0
  clear hw0 H0
  go_enter Try.func65, Try.ntmps65
  go_wp2_with fail
  rw [← Hw0.out]
  refine (HB.out _ _ R0.out).mono ?_
  rintro e wa ⟨rfl, ba⟩
  have D := Lib.hid ba
  have R1 := Lib.hid (Ri.below R0.out ba (Nat.le_refl _))
  obtain ⟨k0, k1, _⟩ := I1.out.next ba
  clear ba
  go_wp2_with fail
  refine (HT.out _ _ R1.out).mono ?_
  rintro e wb ⟨rfl, bb2⟩
  have c := chain D.out bb2
  obtain ⟨m0, m1, m2, m3⟩ := I2.out.next c
  have HZ := Lib.hid (below_set2 (chain hb0.out c) (g := w.heap.size + 1) (by omega) (.bool bb) (.string s))
  clear bb2 c
  go_wp2
  exact bodyPost_ret (v := .tuple #[.agg #[.bool bb, .string s], .int .i64 0]) (by simp [results, Try.results65, go_sem, m0, m1]) rfl ⟨rfl, HZ.out⟩

set_option maxRecDepth 100000 in
set_option maxHeartbeats 2000000 in
theorem is_true (z : Int) (v : Value) (w : World) (h : Rz w v z) (hl : (Nm.dg D9 z.natAbs).length ≤ 1000000) (hs : (zs z).size ≤ 8192) :
    Calls Try.prog 30 #[.agg #[.bool (zb z), .string (zs z)], .int .i64 0, iV z v] w (BPost true w) := by
  have HO := Lib.hid (fun v w h => rout_int z v w h hl hs)
  have H0 := Lib.hid h
  obtain ⟨p, b1, o1, c1, rfl, hr⟩ := h
  clear hr hl hs
  unfold iV at HO ⊢
  generalize decide (z < 0) = bz at *
  generalize zb z = bb at *
  generalize zs z = s at *
  generalize (Nm.dg D9 z.natAbs).length = len at *
  obtain ⟨w0, hw0⟩ : ∃ w0 : World, w0 = (w.alloc (.cells #[.bool bb, .string s] 23)).alloc (.cells #[.bool bz, .slice p len c1] 31) := ⟨_, rfl⟩
  have hb0 : Hid (Below w.heap.size w w0) := by rw [hw0]; exact ((Below.refl _ _).alloc (Nat.le_refl _) _).alloc (by simp) _
  have R0 : Hid (Rz w0 (.slice p len c1) z) := Ri.below H0.out hb0.out (Nat.le_refl _)
  have I1 : Hid (ZC (.bool bb) (.string s) w0 w.heap.size) := by rw [hw0]; exact (ZC.new rfl).alloc _
  have Hw0 := Lib.hid hw0
  clear hw0 H0
  go_enter Try.func30, Try.ntmps30
  go_wp2_with fail
  rw [← Hw0.out]
  refine (HO.out _ _ R0.out).mono ?_
  rintro e wa ⟨rfl, ba⟩
  obtain ⟨k0, k1, _⟩ := I1.out.next ba
  have f1 : w.heap.size < wa.heap.size := World.block_lt_of_cell? wa _ k0
  have f2 : ¬ w.heap.size = wa.heap.size := by omega
  have f3 : ¬ wa.heap.size = w.heap.size := by omega
  have HZ := Lib.hid ((chain hb0.out ba).alloc (chain hb0.out ba).size (.cells #[.bool bb, .string s] 23))
  clear ba
  go_wp2
  go_ret
  exact ⟨rfl, HZ.out⟩
end Go.Proofs.Ytlmklhffafcmmaa

/- The function wide.Sub. -/
namespace Go.Proofs.Ytlmklhffafcmmaa
open Go.RowKit

set_option maxRecDepth 100000 in
set_option maxHeartbeats 1000000 in
theorem Sub_valid (a b : Bool) (s t : ByteArray) (w : World) (hv1 : vld a s = true) (hv2 : vld b t = true) :
    Calls Try.prog 28 #[.agg #[.bool a, .string s], .agg #[.bool b, .string t]] w (WPost (wres (pls a (bv s) (!b) (bv t)).1 (pls a (bv s) (!b) (bv t)).2) (werr (pls a (bv s) (!b) (bv t)).2) w) := by
  have z1 := vld_size hv1
  have z2 := vld_size hv2
  have HV1 := Valid_any a s
  have HV2 := Valid_any b t
  rw [hv1] at HV1
  rw [hv2] at HV2
  have HA := Lib.hid (fun w => HV1 w (by omega))
  have HB := Lib.hid (fun w => HV2 w (by omega))
  have HR1 := Lib.hid (fun w => read_any a s w (by omega) (vld_can hv1))
  have HR2 := Lib.hid (fun w => read_any b t w (by omega) (vld_can hv2))
  have t1 := bv_lt hv1
  have t2 := bv_lt hv2
  have HP := Lib.hid (fun v1 v2 w h1 h2 => plus_any a (!b) v1 v2 (bv s) (bv t) w h1 h2 (Nat.le_trans (len_top t1) (by decide)) (Nat.le_trans (len_top t2) (by decide)))
  have HW := Lib.hid (fun v w h => write_any (pls a (bv s) (!b) (bv t)).1 v (pls a (bv s) (!b) (bv t)).2 w h (Nat.le_trans (len_top2 (pls_lt t1 t2)) (by decide)))
  obtain ⟨rb, rs, hr⟩ := wres_form (pls a (bv s) (!b) (bv t)).1 (pls a (bv s) (!b) (bv t)).2
  rw [hr] at HW ⊢
  clear hr HV1 HV2 hv1 hv2 t1 t2
  generalize (pls a (bv s) (!b) (bv t)).1 = ra at *
  generalize (pls a (bv s) (!b) (bv t)).2 = rm at *
  generalize bv s = m at *
  generalize bv t = n at *
  generalize werr rm = rc at *
  go_enter Try.func28, Try.ntmps28
  go_wp2_with fail
  obtain ⟨w0, hw0⟩ : ∃ w0 : World, w0 = ((w.alloc (.cells #[.bool a, .string s] 23)).alloc (.cells #[.bool b, .string t] 23)).alloc (.cells #[.bool false, .string ⟨#[]⟩] 23) := ⟨_, rfl⟩
  have hb0 : Hid (Below w.heap.size w w0) := by rw [hw0]; exact (((Below.refl _ _).alloc (Nat.le_refl _) _).alloc (by simp) _).alloc (by simp; omega) _
  have k0 : w0.cell? ⟨w.heap.size, 0, none⟩ = some (.bool a) := by rw [hw0]; simp [go_sem]
  have k1 : w0.cell? ⟨w.heap.size, 1, none⟩ = some (.string s) := by rw [hw0]; simp [go_sem]
  have k2 : w0.cell? ⟨w.heap.size + 1, 0, none⟩ = some (.bool b) := by rw [hw0]; simp [go_sem]
  have k3 : w0.cell? ⟨w.heap.size + 1, 1, none⟩ = some (.string t) := by rw [hw0]; simp [go_sem]
  have k4 : w0.cell? ⟨w.heap.size + 1 + 1, 0, none⟩ = some (.bool false) := by rw [hw0]; simp [go_sem]
  have k5 : w0.cell? ⟨w.heap.size + 1 + 1, 1, none⟩ = some (.string ⟨#[]⟩) := by rw [hw0]; simp [go_sem]
  have k6 : w0.frozen? ⟨w.heap.size + 1 + 1, 0, none⟩ = false := by rw [hw0]; simp [go_sem]
  have k7 : w0.frozen? ⟨w.heap.size + 1 + 1, 1, none⟩ = false := by rw [hw0]; simp [go_sem]
  have hsz : w0.heap.size = w.heap.size + 3 := by rw [hw0]; simp
  rw [← hw0]
  have KK := Lib.hid (And.intro k0 (And.intro k1 (And.intro k2 (And.intro k3 (And.intro k4 (And.intro k5 (And.intro k6 k7)))))))
  have Hsz := Lib.hid hsz
  clear k0 k1 k2 k3 k4 k5 k6 k7 hw0 hsz
  refine (HA.out _).mono ?_
  rintro e wa ⟨rfl, hba⟩
  have q2 := keep1 hba KK.out.2.2.1
  have q3 := keep1 hba KK.out.2.2.2.1
  have HBa := Lib.hid hba
  clear hba
  go_wp2_with fail
  refine (HB.out _).mono ?_
  rintro e wb ⟨rfl, hbb⟩
  have hbc := chain HBa.out hbb
  have k0 := keep1 hbc KK.out.1
  have k1 := keep1 hbc KK.out.2.1
  have k2 := keep1 hbc KK.out.2.2.1
  have k3 := keep1 hbc KK.out.2.2.2.1
  have k4 := keep1 hbc KK.out.2.2.2.2.1
  have k5 := keep1 hbc KK.out.2.2.2.2.2.1
  have k6 := keepf hbc KK.out.2.2.2.2.1 KK.out.2.2.2.2.2.2.1
  have k7 := keepf hbc KK.out.2.2.2.2.2.1 KK.out.2.2.2.2.2.2.2
  have HBc := Lib.hid hbc
  have n1 : ¬ (w.heap.size = w.heap.size + 1 + 1) := by omega
  have n2 : ¬ (w.heap.size + 1 + 1 = w.heap.size) := by omega
  clear q2 q3 hbb hbc
  go_wp2_with fail
  go_region_held3 (fun W' => W'.cell? ⟨w.heap.size, 0, none⟩ = some (.bool a) ∧ W'.cell? ⟨w.heap.size, 1, none⟩ = some (.string s) ∧ W'.cell? ⟨w.heap.size + 1, 0, none⟩ = some (.bool b) ∧ W'.cell? ⟨w.heap.size + 1, 1, none⟩ = some (.string t)) (go_keep)
    (first
      | (go_at_call 63; (with_reducible refine (HR1.out _).mono ?_); rintro e w1 ⟨v1, rfl, r1, b1⟩; have c1 := chain ((Below.refl _ _).drew) b1; have p0 := keep1 c1 k0; have p1 := keep1 c1 k1; have p2 := keep1 c1 k2; have p3 := keep1 c1 k3; have G1 := Lib.hid (And.intro r1 c1); clear r1 b1 c1)
      | (go_at_call 63; (with_reducible refine (HR2.out _).mono ?_); rintro e w2 ⟨v2, rfl, r2, b2⟩; have c2 := chain G1.out.2 b2; have p0 := keep1 c2 k0; have p1 := keep1 c2 k1; have p2 := keep1 c2 k2; have p3 := keep1 c2 k3; have G2 := Lib.hid (And.intro (G1.out.1.below b2 (Nat.le_refl _)) (And.intro r2 c2)); clear r2 b2 c2)
      | (go_at_call 64; (with_reducible refine (negative_any _ _ _ _ G2.out.2.1).mono ?_); rintro e w5 ⟨v5, rfl, r5, b5⟩; have c5 := chain G2.out.2.2 b5; have p0 := keep1 c5 k0; have p1 := keep1 c5 k1; have p2 := keep1 c5 k2; have p3 := keep1 c5 k3; have G5 := Lib.hid (And.intro (G2.out.1.below b5 (Nat.le_refl _)) (And.intro r5 c5)); clear r5 b5 c5)
      | (go_at_call 62; (with_reducible refine (HP.out _ _ _ G5.out.1 G5.out.2.1).mono ?_); rintro e w3 ⟨v3, rfl, r3, b3⟩; have c3 := chain G5.out.2.2 b3; have p0 := keep1 c3 k0; have p1 := keep1 c3 k1; have p2 := keep1 c3 k2; have p3 := keep1 c3 k3; have G3 := Lib.hid (And.intro r3 c3); clear r3 b3 c3)
      | (go_at_call 61; (with_reducible refine (HW.out _ _ G3.out.1).mono ?_); rintro e w4 ⟨rfl, b4⟩; have c4 := chain G3.out.2 b4; have p0 := keep1 c4 k0; have p1 := keep1 c4 k1; have p2 := keep1 c4 k2; have p3 := keep1 c4 k3; have p4 := keep1 c4 k4; have p5 := keep1 c4 k5; have p6 := keepf c4 k4 k6; have p7 := keepf c4 k5 k7; have G4 := Lib.hid c4; clear b4 c4))
  have HZ := Lib.hid (((chain (chain hb0.out HBc.out) G4.out).setCell (p := ⟨w.heap.size + 1 + 1, 0, none⟩) (by simp; omega) (.bool rb)).setCell (p := ⟨w.heap.size + 1 + 1, 1, none⟩) (by simp; omega) (.string rs))
  go_wp2
  exact bodyPost_ret (v := .tuple #[.agg #[.bool rb, .string rs], .int .i64 rc]) (by simp [results, Try.results28, go_sem, p4, p5]) rfl ⟨rfl, HZ.out⟩

set_option maxRecDepth 100000 in
set_option maxHeartbeats 1000000 in
theorem Sub_invalid (a b : Bool) (s t : ByteArray) (w : World) (z1 : s.size ≤ 140737488351232) (z2 : t.size ≤ 140737488351232) (hv : (vld a s && vld b t) = false) :
    Calls Try.prog 28 #[.agg #[.bool a, .string s], .agg #[.bool b, .string t]] w (WPost (wd false 0) 2 w) := by
  have HA := Lib.hid (fun w => Valid_any a s w z1)
  have HB := Lib.hid (fun w => Valid_any b t w z2)
  cases h1 : vld a s with
  | false =>
    rw [h1] at HA
    clear h1 hv
    go_enter Try.func28, Try.ntmps28
    go_wp2_with fail
    refine (HA.out _).mono ?_
    rintro e wa ⟨rfl, hba⟩
    have k4 := keep1 hba (p := ⟨w.heap.size + 1 + 1, 0, none⟩) (v := .bool false) (by simp [go_sem])
    have k5 := keep1 hba (p := ⟨w.heap.size + 1 + 1, 1, none⟩) (v := .string ⟨#[]⟩) (by simp [go_sem])
    have k6 := keepf hba (p := ⟨w.heap.size + 1 + 1, 0, none⟩) (v := .bool false) (by simp [go_sem]) (by simp [go_sem])
    have k7 := keepf hba (p := ⟨w.heap.size + 1 + 1, 1, none⟩) (v := .string ⟨#[]⟩) (by simp [go_sem]) (by simp [go_sem])
    have HZ := Lib.hid (((chain ((((Below.refl w.heap.size w).alloc (Nat.le_refl _) _).alloc (by simp) _).alloc (by simp; omega) _) hba).setCell (p := ⟨w.heap.size + 1 + 1, 0, none⟩) (by simp; omega) (.bool false)).setCell (p := ⟨w.heap.size + 1 + 1, 1, none⟩) (by simp; omega) (.string ⟨#[]⟩))
    clear hba
    go_wp2
    exact bodyPost_ret (v := .tuple #[.agg #[.bool false, .string ⟨#[]⟩], .int .i64 2]) (by simp [results, Try.results28, go_sem, k4, k5]) rfl ⟨by rw [wd, bs_zero]; simp, HZ.out⟩
  | true =>
    have h2 : vld b t = false := by rw [h1] at hv; simpa using hv
    rw [h1] at HA
    rw [h2] at HB
    clear h1 hv h2
    go_enter Try.func28, Try.ntmps28
    go_wp2_with fail
    refine (HA.out _).mono ?_
    rintro e wa ⟨rfl, hba⟩
    have k2 := keep1 hba (p := ⟨w.heap.size + 1, 0, none⟩) (v := .bool b) (by simp [go_sem])
    have k3 := keep1 hba (p := ⟨w.heap.size + 1, 1, none⟩) (v := .string t) (by simp [go_sem])
    have j4 := keep1 hba (p := ⟨w.heap.size + 1 + 1, 0, none⟩) (v := .bool false) (by simp [go_sem])
    have j5 := keep1 hba (p := ⟨w.heap.size + 1 + 1, 1, none⟩) (v := .string ⟨#[]⟩) (by simp [go_sem])
    have j6 := keepf hba (p := ⟨w.heap.size + 1 + 1, 0, none⟩) (v := .bool false) (by simp [go_sem]) (by simp [go_sem])
    have j7 := keepf hba (p := ⟨w.heap.size + 1 + 1, 1, none⟩) (v := .string ⟨#[]⟩) (by simp [go_sem]) (by simp [go_sem])
    have HBa := Lib.hid (chain ((((Below.refl w.heap.size w).alloc (Nat.le_refl _) _).alloc (by simp) _).alloc (by simp; omega) _) hba)
    have J := Lib.hid (And.intro j4 (And.intro j5 (And.intro j6 j7)))
    clear hba j4 j5 j6 j7
    go_wp2_with fail
    refine (HB.out _).mono ?_
    rintro e wb ⟨rfl, hbb⟩
    have k4 := keep1 hbb J.out.1
    have k5 := keep1 hbb J.out.2.1
    have k6 := keepf hbb J.out.1 J.out.2.2.1
    have k7 := keepf hbb J.out.2.1 J.out.2.2.2
    have HZ := Lib.hid (((chain HBa.out hbb).setCell (p := ⟨w.heap.size + 1 + 1, 0, none⟩) (by simp; omega) (.bool false)).setCell (p := ⟨w.heap.size + 1 + 1, 1, none⟩) (by simp; omega) (.string ⟨#[]⟩))
    clear hbb k2 k3
    go_wp2
    exact bodyPost_ret (v := .tuple #[.agg #[.bool false, .string ⟨#[]⟩], .int .i64 2]) (by simp [results, Try.results28, go_sem, k4, k5]) rfl ⟨by rw [wd, bs_zero]; simp, HZ.out⟩
end Go.Proofs.Ytlmklhffafcmmaa

/- The law WideSums gives true. -/
namespace Go.Proofs.Ytlmklhffafcmmaa
open Go.RowKit

theorem lt_topk {n k : Nat} (hk : 8 * k ≤ 65536) (h : n < 256 ^ k) : n < Top := by
  rw [pow_256] at h
  exact Nat.lt_of_lt_of_le h (Nat.pow_le_pow_right (by decide) (by rw [TopBits_eq]; exact hk))
theorem lt61 {n : Nat} (h : n < 256 ^ 61) : n < Top := lt_topk (by decide) h
theorem wd_sg (a : Bool) (m : Nat) : wd a m = .agg #[.bool (zb (sg a m)), .string (zs (sg a m))] := by
  have e1 : (sg a m).natAbs = m := by unfold sg; split <;> omega
  have e2 : zb (sg a m) = (a && decide (m ≠ 0)) := by
    unfold zb sg
    cases a with
    | false => rw [if_neg (by simp), Bool.false_and]; exact decide_eq_false (by omega)
    | true =>
      rw [if_pos rfl, Bool.true_and]
      by_cases h : m = 0
      · subst h; rfl
      · rw [decide_eq_true (by omega : -(m : Int) < 0), decide_eq_true h]
  rw [wd, zs, e1, e2]
theorem pls_sg (a b : Bool) (m n : Nat) : sg (pls a m b n).1 (pls a m b n).2 = sg a m + sg b n := by
  unfold pls
  split
  · next h => subst h; cases a <;> simp [sg]; omega
  · next h =>
    split
    · cases a <;> cases b <;> simp_all [sg] <;> omega
    · cases a <;> cases b <;> simp_all [sg] <;> omega
theorem pls_le (a b : Bool) (m n : Nat) : (pls a m b n).2 ≤ m + n := by
  unfold pls
  split
  · exact Nat.le_refl _
  · split
    · show n - m ≤ m + n; omega
    · show m - n ≤ m + n; omega
theorem sg_not (a : Bool) (m : Nat) : sg (!a) m = -(sg a m) := by cases a <;> simp [sg]
theorem bv60 {s : ByteArray} {k : Nat} (hk : k = 60) (hs : s.size ≤ 60) : bv s < 256 ^ k := by
  subst hk
  have h5 := Nm.val_lt (dig_rev s)
  rw [rev_length] at h5
  exact Nat.lt_of_lt_of_le h5 (Nat.pow_le_pow_right (by decide) hs)
theorem sum61 {m n j k : Nat} (hj : j = 60) (hk : k = 61) (h1 : m < 256 ^ j) (h2 : n < 256 ^ j) : m + n < 256 ^ k := by
  subst hk
  subst hj
  have : (256 : Nat) ^ 61 = 256 * 256 ^ 60 := by rw [Nat.pow_succ, Nat.mul_comm]
  rw [this]
  generalize (256 : Nat) ^ 60 = p at *
  omega
/-- The size of a sum of two short integers. -/
theorem sum_small {a b : Bool} {s t : ByteArray} (z1 : s.size ≤ 60) (z2 : t.size ≤ 60) (z : Int) (hz : z.natAbs ≤ bv s + bv t) : z.natAbs < Top ∧ (Nm.dg D9 z.natAbs).length ≤ 1000000 ∧ (zs z).size ≤ 8192 := by
  have h := sum61 rfl rfl (bv60 rfl z1) (bv60 rfl z2)
  have h2 : z.natAbs < 256 ^ 61 := Nat.lt_of_le_of_lt hz h
  exact ⟨lt61 h2, Nat.le_trans (dg9_256 h2) (by decide), zs_size (lt61 h2)⟩
theorem add_z {a b : Bool} {s t : ByteArray} (h1 : vld a s = true) (h2 : vld b t = true) (z1 : s.size ≤ 60) (z2 : t.size ≤ 60) (w : World) :
    Calls Try.prog 27 #[.agg #[.bool a, .string s], .agg #[.bool b, .string t]] w fun e w' => e = .returned (.tuple #[.agg #[.bool (zb (sg a (bv s) + sg b (bv t))), .string (zs (sg a (bv s) + sg b (bv t)))], .int .i64 0]) ∧ Below w.heap.size w w' := by
  have h := Add_valid a b s t w h1 h2
  have ht : (pls a (bv s) b (bv t)).2 < Top := lt61 (Nat.lt_of_le_of_lt (pls_le a b (bv s) (bv t)) (sum61 rfl rfl (bv60 rfl z1) (bv60 rfl z2)))
  unfold WPost at h
  rwa [wres_ok _ ht, werr_ok ht, wd_sg, pls_sg] at h
theorem sub_z {a b : Bool} {s t : ByteArray} (h1 : vld a s = true) (h2 : vld b t = true) (z1 : s.size ≤ 60) (z2 : t.size ≤ 60) (w : World) :
    Calls Try.prog 28 #[.agg #[.bool a, .string s], .agg #[.bool b, .string t]] w fun e w' => e = .returned (.tuple #[.agg #[.bool (zb (sg a (bv s) - sg b (bv t))), .string (zs (sg a (bv s) - sg b (bv t)))], .int .i64 0]) ∧ Below w.heap.size w w' := by
  have h := Sub_valid a b s t w h1 h2
  have ht : (pls a (bv s) (!b) (bv t)).2 < Top := lt61 (Nat.lt_of_le_of_lt (pls_le a (!b) (bv s) (bv t)) (sum61 rfl rfl (bv60 rfl z1) (bv60 rfl z2)))
  unfold WPost at h
  rw [wres_ok _ ht, werr_ok ht, wd_sg, pls_sg, sg_not, ← Int.sub_eq_add_neg] at h
  exact h
theorem neg_z {a : Bool} {s : ByteArray} (h1 : vld a s = true) (z1 : s.size ≤ 60) (w : World) :
    Calls Try.prog 26 #[.agg #[.bool a, .string s]] w fun e w' => e = .returned (.tuple #[.agg #[.bool (zb (-(sg a (bv s)))), .string (zs (-(sg a (bv s))))], .int .i64 0]) ∧ Below w.heap.size w w' := by
  have h := Neg_any a s w (by omega)
  unfold WPost at h
  rw [if_pos h1, if_pos h1, wd_sg, sg_not] at h
  exact h
theorem sg_abs (a : Bool) (m : Nat) : (sg a m).natAbs = m := by unfold sg; split <;> omega
theorem is_z {a b : Bool} {s t : ByteArray} (z1 : s.size ≤ 60) (z2 : t.size ≤ 60) (z : Int) (hz : z.natAbs ≤ bv s + bv t) (v : Value) (w : World) (h : Rz w v z) :
    Calls Try.prog 30 #[.agg #[.bool (zb z), .string (zs z)], .int .i64 0, iV z v] w (BPost true w) := by
  obtain ⟨_, l1, l2⟩ := sum_small (a := a) (b := b) z1 z2 z hz
  exact is_true z v w h l1 l2

theorem WL.drew {w : World} {g : Nat} {L : List (Bool × ByteArray)} (h : WL w g L) : WL w.drew g L := h
theorem far7 {a x : Nat} (h : a + 3 ≤ x) : ¬(x = a) ∧ ¬(x = a+1) ∧ ¬(a = x) ∧ ¬(a+1 = x) ∧ ¬(x+1 = a) ∧ ¬(a = x+1) ∧ a < x ∧ a+1 < x := ⟨by omega, by omega, by omega, by omega, by omega, by omega, by omega, by omega⟩
def CutI (x1 x2 s1 s2 : Value) (X1 X2 : List Nat) (B : Nat) (wb wx : World) (g7 g8 : Nat) : Prop := (B ≤ g7 ∧ B ≤ g8) ∧ ZC x1 s1 wx g7 ∧ ZC x2 s2 wx g8 ∧ Ri wx s1 X1 ∧ Ri wx s2 X2 ∧ Below B wb wx
theorem Ri.setz {w : World} {v : Value} {xs : List Nat} {b0 : Bool} {p : Option Addr} {n c : Nat} {g : Nat} (h : Ri w v xs) (z : ZC (.bool b0) (.slice p n c) w g) (u u' : Value) : Ri ((w.setCell ⟨g, 0, none⟩ u).setCell ⟨g, 1, none⟩ u') v xs := h.set2 z.1 z.2.1 (fun _ => by simp)
section
variable {x1 x2 e1 e2 u1 u2 : Value} {X1 X2 : List Nat} {B : Nat} {wb w3 : World} {t : TypeId} {b0 b1 : Bool} {p p' : Option Addr} {n c n' c' g g' : Nat}
theorem CutI.s1 (r1 : Ri w3 e1 X1) (r2 : Ri w3 e2 X2) (b : Below B wb w3) (hB : B ≤ w3.heap.size) : CutI x1 x2 e1 e2 X1 X2 B wb ((w3.alloc (.cells #[x1, e1] t)).alloc (.cells #[x2, e2] t)) w3.heap.size (w3.heap.size + 1) :=
  ⟨⟨hB, by omega⟩, (ZC.new rfl).alloc _, ZC.new (by simp), (r1.allocd _).allocd _, (r2.allocd _).allocd _, (b.alloc hB _).alloc (by simp; omega) _⟩
theorem CutI.s2 (r1 : Ri w3 e1 X1) (r2 : Ri w3 e2 X2) (b : Below B wb w3) (hB : B ≤ w3.heap.size) : CutI x1 x2 e1 e2 X1 X2 B wb ((w3.alloc (.cells #[x2, e2] t)).alloc (.cells #[x1, e1] t)) (w3.heap.size + 1) w3.heap.size :=
  ⟨⟨by omega, hB⟩, ZC.new (by simp), (ZC.new rfl).alloc _, (r1.allocd _).allocd _, (r2.allocd _).allocd _, (b.alloc hB _).alloc (by simp; omega) _⟩
theorem CutI.s3 (z : ZC (.bool b0) (.slice p n c) w3 g) (hg : B ≤ g) (r1 : Ri w3 e1 X1) (r2 : Ri w3 e2 X2) (b : Below B wb w3) (hB : B ≤ w3.heap.size) :
    CutI x1 x2 e1 e2 X1 X2 B wb (((w3.setCell ⟨g, 0, none⟩ x1).setCell ⟨g, 1, none⟩ e1).alloc (.cells #[x2, e2] t)) g w3.heap.size :=
  ⟨⟨hg, hB⟩, z.set.alloc _, ZC.new (by simp), (r1.setz z _ _).allocd _, (r2.setz z _ _).allocd _, (below_set2 b hg _ _).alloc (by simpa using hB) _⟩
theorem CutI.s4 (z : ZC (.bool b0) (.slice p n c) w3 g) (hg : B ≤ g) (r1 : Ri w3 e1 X1) (r2 : Ri w3 e2 X2) (b : Below B wb w3) (hB : B ≤ w3.heap.size) :
    CutI x1 x2 e1 e2 X1 X2 B wb (((w3.setCell ⟨g, 0, none⟩ x2).setCell ⟨g, 1, none⟩ e2).alloc (.cells #[x1, e1] t)) w3.heap.size g :=
  ⟨⟨hB, hg⟩, ZC.new (by simp), z.set.alloc _, (r1.setz z _ _).allocd _, (r2.setz z _ _).allocd _, (below_set2 b hg _ _).alloc (by simpa using hB) _⟩
theorem CutI.s5 (z : ZC (.bool b0) (.slice p n c) w3 g) (hg : B ≤ g) (z' : ZC (.bool b1) (.slice p' n' c') w3 g') (hg' : B ≤ g') (hn : ¬ g = g') (r1 : Ri w3 e1 X1) (r2 : Ri w3 e2 X2) (b : Below B wb w3) :
    CutI x1 x2 e1 e2 X1 X2 B wb ((((w3.setCell ⟨g, 0, none⟩ x1).setCell ⟨g, 1, none⟩ e1).setCell ⟨g', 0, none⟩ x2).setCell ⟨g', 1, none⟩ e2) g g' :=
  have zz := z'.other (u := x1) (v := e1) (fun e => hn e.symm)
  ⟨⟨hg, hg'⟩, z.set.other hn, zz.set, (r1.setz z _ _).setz zz _ _, (r2.setz z _ _).setz zz _ _, below_set2 (below_set2 b hg _ _) hg' _ _⟩
end

theorem wd_none : wd false 0 = .agg #[.bool false, .string ⟨#[]⟩] := by rw [wd, bs_zero]; simp

set_option maxRecDepth 100000 in
set_option maxHeartbeats 8000000 in
theorem sums_long (a b : Bool) (s t : ByteArray) (w : World) (hs : ¬ (s.size ≤ 60 ∧ t.size ≤ 60)) :
    Calls Try.prog 5 #[.agg #[.bool a, .string s], .agg #[.bool b, .string t]] w (Ret (.bool true) w) := by
  have H_known := Lib.hid known_true
  obtain ⟨w0, hw0⟩ : ∃ w0 : World, w0 = ((w.alloc (.cells #[.bool a, .string s] 23)).alloc (.cells #[.bool b, .string t] 23)).alloc (.cells #[.bool a, .string s, .bool b, .string t] 23) := ⟨_, rfl⟩
  have hb0 : Hid (Below w.heap.size w w0) := by rw [hw0]; exact (((Below.refl _ _).alloc (Nat.le_refl _) _).alloc (by simp) _).alloc (by simp; omega) _
  have I1 : Hid (ZC (.bool a) (.string s) w0 w.heap.size) := by rw [hw0]; exact ((ZC.new rfl).alloc _).alloc _
  have I2 : Hid (ZC (.bool b) (.string t) w0 (w.heap.size + 1)) := by rw [hw0]; exact (ZC.new (by simp)).alloc _
  have HSH := short_any [(a, s), (b, t)] 2 (w.heap.size + 1 + 1) w0 rfl (by decide) (by rw [hw0]; have := WL.two ((w.alloc (.cells #[.bool a, .string s] 23)).alloc (.cells #[.bool b, .string t] 23)) a b s t 23; simpa using this)
  rw [short2_false hs] at HSH
  have HSh := Lib.hid HSH
  have Hw0 := Lib.hid hw0
  clear HSH hw0
  unfold Ret at *
  unfold BPost at HSh
  go_enter Try.func5, Try.ntmps5
  go_wp2_with fail
  rw [← Hw0.out]
  refine HSh.out.mono ?_
  rintro e x0 ⟨rfl, b0⟩
  have D := Lib.hid b0
  clear b0
  go_wp2_with fail
  refine (H_known.out _).mono ?_
  rintro e x1 ⟨rfl, b1⟩
  have HZ := Lib.hid (chain hb0.out (chain D.out b1))
  clear b1
  go_wp2
  go_ret
  exact ⟨rfl, HZ.out⟩
end Go.Proofs.Ytlmklhffafcmmaa

/- The reference's Power. -/
namespace Go.Proofs.Ytlmklhffafcmmaa
open Go.RowKit

/-- An integer that is not negative comes back. -/
def PPost (z : Int) (w : World) (e : Ending) (w' : World) : Prop := ∃ v, e = .returned (.agg #[.bool false, v]) ∧ Rz w' v z ∧ Below w.heap.size w w'
theorem iV_pos {z : Int} (h : 0 ≤ z) (v : Value) : iV z v = .agg #[.bool false, v] := by
  rw [iV, decide_eq_false (by omega)]
theorem rnum_pos (z : Int) (h0 : 0 ≤ z) (h2 : z ≤ 9223372036854775807) (w : World) : Calls Try.prog 25 #[.int .i64 z] w (PPost z w) :=
  (rnum_any z w (by omega) h2).mono fun _ _ ⟨v, h1, h3, h4⟩ => ⟨v, by rw [← iV_pos h0]; exact h1, h3, h4⟩
theorem rmul_pos (x y : Int) (hx : 0 ≤ x) (hy : 0 ≤ y) (v1 v2 : Value) (w : World) (h1 : Rz w v1 x) (h2 : Rz w v2 y) (l1 : (Nm.dg D9 x.natAbs).length ≤ 1000000) (l2 : (Nm.dg D9 y.natAbs).length ≤ 1000000) :
    Calls Try.prog 37 #[.agg #[.bool false, v1], .agg #[.bool false, v2]] w (PPost (x * y) w) := by
  have h := rmul_int x y v1 v2 w h1 h2 l1 l2
  rw [iV_pos hx, iV_pos hy] at h
  exact h.mono fun _ _ ⟨v, g1, g3, g4⟩ => ⟨v, by rw [← iV_pos (Int.mul_nonneg hx hy)]; exact g1, g3, g4⟩
theorem radd_pos (x y : Int) (hx : 0 ≤ x) (hy : 0 ≤ y) (v1 v2 : Value) (w : World) (h1 : Rz w v1 x) (h2 : Rz w v2 y) (l1 : (Nm.dg D9 x.natAbs).length ≤ 1000000) (l2 : (Nm.dg D9 y.natAbs).length ≤ 1000000) :
    Calls Try.prog 32 #[.agg #[.bool false, v1], .agg #[.bool false, v2]] w (PPost (x + y) w) := by
  have h := radd_int x y v1 v2 w h1 h2 l1 l2
  rw [iV_pos hx, iV_pos hy] at h
  exact h.mono fun _ _ ⟨v, g1, g3, g4⟩ => ⟨v, by rw [← iV_pos (Int.add_nonneg hx hy)]; exact g1, g3, g4⟩
theorem pow2_len {z : Int} {n k : Nat} (hz : z * 2 ^ k = 2 ^ n) (h0 : 0 < z) (hn : n ≤ 100000) : (Nm.dg D9 z.natAbs).length ≤ 1000000 := by
  have h1 : z ≤ 2 ^ n := by
    have hp : (1 : Int) ≤ 2 ^ k := by
      have : (0 : Int) < 2 ^ k := Int.pow_pos (by decide)
      omega
    have h2 : z * 1 ≤ z * 2 ^ k := Int.mul_le_mul_of_nonneg_left hp (by omega)
    rw [hz] at h2
    omega
  have h3 : z.natAbs ≤ 2 ^ n := by
    have h4 : ((z.natAbs : Nat) : Int) ≤ ((2 ^ n : Nat) : Int) := by
      rw [Int.natAbs_of_nonneg (by omega)]
      push_cast
      exact h1
    exact Int.ofNat_le.1 h4
  refine Nat.le_trans (Nm.len_le_of_val (k := n + 1) D92 (Nm.nrm_dg D92 _) ?_) (by omega)
  rw [Nm.val_dg D92]
  refine Nat.lt_of_le_of_lt h3 (Nat.lt_of_lt_of_le (Nat.pow_lt_pow_right (by decide : 1 < 2) (Nat.lt_succ_self n)) (Nat.pow_le_pow_left (by decide) _))
theorem ZC.lt {x y : Value} {w : World} {g : Nat} (h : ZC x y w g) : g < w.heap.size := World.block_lt_of_cell? w _ h.1

set_option maxRecDepth 100000 in
set_option maxHeartbeats 4000000 in
theorem rpower_any (n : Nat) (hn : n ≤ 100000) (w : World) : Calls Try.prog 41 #[.int .i64 (n : Int)] w (PPost (2 ^ n) w) := by
  obtain ⟨zi, hzi⟩ : ∃ z : Int, z = 1 := ⟨_, rfl⟩
  obtain ⟨zm, hzm⟩ : ∃ z : Int, z = 1048576 := ⟨_, rfl⟩
  have H_n1 : Hid (∀ w, Calls Try.prog 25 #[.int .i64 1] w (PPost zi w)) := by rw [hzi]; exact rnum_pos 1 (by decide) (by decide)
  have H_nm : Hid (∀ w, Calls Try.prog 25 #[.int .i64 1048576] w (PPost zm w)) := by rw [hzm]; exact rnum_pos 1048576 (by decide) (by decide)
  have hl2 : (Nm.dg D9 zm.natAbs).length ≤ 1000000 := by
    refine Nat.le_trans (Nm.len_le_of_val (k := 3) D92 (Nm.nrm_dg D92 _) ?_) (by decide)
    rw [Nm.val_dg D92, hzm]
    decide
  have hzm0 : 0 ≤ zm := by omega
  have H_mul : Hid (∀ (z : Int) (k : Nat), z * 2 ^ k = 2 ^ n → 0 < z → ∀ v1 v2 w, Rz w v1 z → Rz w v2 zm → Calls Try.prog 37 #[.agg #[.bool false, v1], .agg #[.bool false, v2]] w (PPost (z * zm) w)) := fun z k h1 h2 v1 v2 w g1 g2 => rmul_pos z zm (by omega) hzm0 v1 v2 w g1 g2 (pow2_len h1 h2 hn) hl2
  have H_add : Hid (∀ (z : Int) (k : Nat), z * 2 ^ k = 2 ^ n → 0 < z → ∀ v1 v2 w, Rz w v1 z → Rz w v2 z → Calls Try.prog 32 #[.agg #[.bool false, v1], .agg #[.bool false, v2]] w (PPost (z + z) w)) := fun z k h1 h2 v1 v2 w g1 g2 => radd_pos z z (by omega) (by omega) v1 v2 w g1 g2 (pow2_len h1 h2 hn) (pow2_len h1 h2 hn)
  have HZM := Lib.hid hzm
  have HZI := Lib.hid hzi
  clear hl2 hzm hzi hzm0
  unfold PPost at H_n1 H_nm H_mul H_add
  obtain ⟨w0, hw0⟩ : ∃ w0 : World, w0 = w.alloc (.cells #[.bool false, .slice none 0 0] 31) := ⟨_, rfl⟩
  have hb0 : Hid (Below w.heap.size w w0) := by rw [hw0]; exact below_one _ _
  have I2 : Hid (ZC (.bool false) (.slice none 0 0) w0 w.heap.size) := by rw [hw0]; exact ZC.new rfl
  have Hw0 := Lib.hid hw0
  clear hw0
  go_enter Try.func41, Try.ntmps41
  go_wp2_with fail
  rw [← Hw0.out]
  refine (H_n1.out _).mono ?_
  rintro e y0 ⟨v0, rfl, r0, b0⟩
  obtain ⟨u0, hu0⟩ : ∃ u0 : World, u0 = y0.alloc (.cells #[.bool false, v0] 31) := ⟨_, rfl⟩
  have R0 : Hid (Rz u0 v0 zi) := by rw [hu0]; exact Ri.allocd r0 _
  have T0 : Hid (ZC (.bool false) v0 u0 y0.heap.size) := by rw [hu0]; exact ZC.new rfl
  have D0 : Hid (Below w0.heap.size w0 u0) := by rw [hu0]; exact b0.alloc b0.size _
  have G0 : Hid (w0.heap.size ≤ y0.heap.size) := b0.size
  obtain ⟨p0, bb0, o0, c0, rfl, rr0⟩ := r0
  have Hu0 := Lib.hid hu0
  clear b0 rr0 hu0 Hw0
  go_wp2
  rw [← Hu0.out]
  clear Hu0
  go_loopw [0] (fun nv wr => ∃ (wz : World) (z : Int) (m : Nat) (v : Value), wz = wr ∧ nv = .int .i64 (m : Int) ∧ m ≤ n ∧ Hid (z * 2 ^ m = 2 ^ n) ∧ Hid (0 < z) ∧ Hid (Rz wz v z) ∧ Hid (ZC (.bool false) v wz y0.heap.size) ∧ Hid (Below w0.heap.size w0 wz))
    (fun nv _ => (intOf nv).toNat)
  case atStart => exact ⟨u0, zi, n, _, rfl, rfl, Nat.le_refl _, by rw [HZI.out]; show _ = _; omega, by rw [HZI.out]; show _ < _; decide, R0.out, T0.out, D0.out⟩
  case round =>
    obtain ⟨wz, z, m, v, rfl, rfl, hm, hzz, hz0, hr, ht, hd⟩ := hrel
    clear R0 T0 D0
    obtain ⟨k0, k1, k2, k3⟩ := ht.out
    have R := hr.out
    obtain ⟨p, bb, oo, c, rfl, rr⟩ := hr.out
    clear rr
    by_cases h20 : 20 ≤ m
    · have hgt : (20 : Int) ≤ (m : Int) := by omega
      obtain ⟨m2, rfl⟩ : ∃ m2, m = m2 + 20 := ⟨m - 20, by omega⟩
      have HM := Lib.hid (H_mul.out z _ hzz.out hz0.out)
      have HZ2 : Hid (z * zm * 2 ^ m2 = 2 ^ n) := by
        have h5 : z * 2 ^ (m2 + 20) = 2 ^ n := hzz.out
        show _ = _
        rw [HZM.out, ← h5, Int.pow_add, Int.mul_comm (2 ^ m2 : Int), ← Int.mul_assoc]
        rfl
      have HP2 : Hid (0 < z * zm) := by
        have h5 : 0 < z := hz0.out
        show _ < _
        rw [HZM.out]
        omega
      have RD := Lib.hid (Ri.drew R)
      clear R hr
      go_wp2_with fail
      go_region_with
        (first
          | (go_at_call 25; (with_reducible refine (H_nm.out _).mono ?_); rintro e y1 ⟨v1, rfl, r1, b1⟩; have d1 := chain ((Below.refl wz.heap.size wz).drew) b1; have p0 := keep1 d1 k0; have p1 := keep1 d1 k1; have G1 := Lib.hid (And.intro (Ri.below RD.out b1 (Nat.le_refl _)) r1); have D1 := Lib.hid d1; obtain ⟨pq1, bb1, oo1, cc1, rfl, rr1⟩ := r1; clear rr1 b1)
          | (go_at_call 37; (with_reducible refine (HM.out _ _ _ G1.out.1 G1.out.2).mono ?_); rintro e y2 ⟨v2, rfl, r2, b2⟩; have d2 := chain D1.out b2; have p0 := keep1 d2 k0; have p1 := keep1 d2 k1; have p2 := keepf d2 k0 k2; have p3 := keepf d2 k1 k3; have G2 := Lib.hid r2; have D2 := Lib.hid d2; obtain ⟨pq2, bb2, oo2, cc2, rfl, rr2⟩ := r2; clear rr2 b2)
          | fail)
      all_goals
        have ZZ := Lib.hid (show ZC (.bool false) (.slice p (Nm.dg D9 z.natAbs).length c) y2 y0.heap.size from ht.out.next D2.out)
        have C2 := Lib.hid (below_set2 (chain hd.out D2.out) (g := y0.heap.size) (by have := G0.out; omega) (.bool false) (.slice pq2 (Nm.dg D9 (z * zm).natAbs).length cc2))
        have RR := Lib.hid (G2.out.set2 (u1 := .bool false) (u2 := .slice pq2 (Nm.dg D9 (z * zm).natAbs).length cc2) ZZ.out.1 ZZ.out.2.1 (fun _ => by simp))
        have TT : Hid (ZC (.bool false) (.slice pq2 (Nm.dg D9 (z * zm).natAbs).length cc2) _ y0.heap.size) := ZZ.out.set
        go_wp2
        go_roundw
        case rel => exact ⟨_, z * zm, m2, _, rfl, by go_num, by omega, HZ2, HP2, RR, TT, C2⟩
        case measure => simp [intOf]; omega
    · have hlt : ¬ (20 : Int) ≤ (m : Int) := by omega
      clear R k0 k1 k2 k3
      go_wp2
      go_loopw [0] (fun nv wr => ∃ (wz : World) (z : Int) (m : Nat) (v : Value), wz = wr ∧ nv = .int .i64 (m : Int) ∧ m ≤ n ∧ Hid (z * 2 ^ m = 2 ^ n) ∧ Hid (0 < z) ∧ Hid (Rz wz v z) ∧ Hid (ZC (.bool false) v wz y0.heap.size) ∧ Hid (Below w0.heap.size w0 wz))
        (fun nv _ => (intOf nv).toNat)
      case atStart => exact ⟨wz, z, m, _, rfl, rfl, hm, hzz, hz0, hr, ht, hd⟩
      case round =>
        clear hzz hz0 hr ht hd hlt h20 hm
        obtain ⟨wz, z, m, v, rfl, rfl, hm, hzz, hz0, hr, ht, hd⟩ := hrel
        obtain ⟨k0, k1, k2, k3⟩ := ht.out
        have R := hr.out
        obtain ⟨p, bb, oo, c, rfl, rr⟩ := hr.out
        clear rr
        rcases Nat.eq_zero_or_pos m with h0 | h0
        · subst h0
          have E : Hid (z = 2 ^ n) := by have h5 : z * 2 ^ 0 = 2 ^ n := hzz.out; show _ = _; rw [← h5]; simp
          obtain ⟨m0, m1, m2, m3⟩ := I2.out.next hd.out
          have s1 := I2.out.lt
          have s2 := G0.out
          have f1 : ¬ y0.heap.size = w.heap.size := by omega
          have f2 : ¬ w.heap.size = y0.heap.size := by omega
          have HR := Lib.hid R
          have HZ := Lib.hid (below_set2 (chain hb0.out hd.out) (Nat.le_refl w.heap.size) (.bool false) (.slice p (Nm.dg D9 z.natAbs).length c))
          have HR2 := Lib.hid (HR.out.set2 (u1 := .bool false) (u2 := .slice p (Nm.dg D9 z.natAbs).length c) m0 m1 (fun _ => by simp))
          clear s1 s2 R hr
          go_wp2
          exact bodyPost_ret (v := .agg #[.bool false, .slice p (Nm.dg D9 z.natAbs).length c]) (by simp [results, Try.results41, go_sem, m0, m1]) rfl ⟨_, rfl, by rw [← E.out]; exact HR2.out, HZ.out⟩
        · have hgt : (0 : Int) < (m : Int) := by omega
          obtain ⟨m2, rfl⟩ : ∃ m2, m = m2 + 1 := ⟨m - 1, by omega⟩
          have HA := Lib.hid (H_add.out z _ hzz.out hz0.out)
          have HZ2 : Hid ((z + z) * 2 ^ m2 = 2 ^ n) := by
            have h5 : z * 2 ^ (m2 + 1) = 2 ^ n := hzz.out
            show _ = _
            rw [← h5, Int.pow_succ, ← Int.two_mul, Int.mul_comm (2 ^ m2 : Int), ← Int.mul_assoc, Int.mul_comm z]
          have HP2 : Hid (0 < z + z) := by have h5 : 0 < z := hz0.out; show _ < _; omega
          have HR := Lib.hid R
          clear R hr
          generalize hzs : z + z = zs at *
          clear hzs
          go_wp2_with fail
          refine (HA.out _ _ _ HR.out HR.out).mono ?_
          rintro e y2 ⟨v2, rfl, r2, b2⟩
          have ZZ := Lib.hid (ht.out.next b2)
          obtain ⟨j0, j1, j2, j3⟩ := ZZ.out
          have C2 := Lib.hid (below_set2 (chain hd.out b2) (g := y0.heap.size) (by have := G0.out; omega) (.bool false) v2)
          have RR := Lib.hid (r2.set2 (u1 := .bool false) (u2 := v2) ZZ.out.1 ZZ.out.2.1 (fun _ => by simp))
          have TT : Hid (ZC (.bool false) v2 ((y2.setCell ⟨y0.heap.size, 0, none⟩ (.bool false)).setCell ⟨y0.heap.size, 1, none⟩ v2) y0.heap.size) := ZZ.out.set
          obtain ⟨pq2, bb2, oo2, cc2, rfl, rr2⟩ := r2
          clear b2 rr2
          go_wp2
          go_roundw
          case rel => exact ⟨_, zs, m2, _, rfl, by go_num, by omega, HZ2, HP2, RR, TT, C2⟩
          case measure => simp [intOf]
end Go.Proofs.Ytlmklhffafcmmaa

/- The reference's Quo: the Euclidean division of integers. -/
namespace Go.Proofs.Ytlmklhffafcmmaa
open Go.RowKit

/-- Two integers come back. -/
def QIPost (q r : Int) (w : World) (e : Ending) (w' : World) : Prop := ∃ v1 v2, e = .returned (.tuple #[iV q v1, iV r v2]) ∧ Rz w' v1 q ∧ Rz w' v2 r ∧ Below w.heap.size w w'
/-- The first quotient, before it is made right. -/
def q0 (x y : Int) : Int := if (decide (x < 0) != decide (y < 0)) = true then -((x.natAbs / y.natAbs : Nat) : Int) else ((x.natAbs / y.natAbs : Nat) : Int)
theorem q0_abs (x y : Int) : (q0 x y).natAbs = x.natAbs / y.natAbs := by
  unfold q0
  generalize x.natAbs / y.natAbs = d
  split <;> omega
theorem q0_eq (x y : Int) (hy : y ≠ 0) : x - q0 x y * y = if x < 0 then -((x.natAbs % y.natAbs : Nat) : Int) else ((x.natAbs % y.natAbs : Nat) : Int) := by
  have hd := Nat.div_add_mod x.natAbs y.natAbs
  have h : ((y.natAbs : Nat) : Int) * ((x.natAbs / y.natAbs : Nat) : Int) + ((x.natAbs % y.natAbs : Nat) : Int) = ((x.natAbs : Nat) : Int) := by exact_mod_cast hd
  unfold q0
  generalize ((x.natAbs / y.natAbs : Nat) : Int) = d at *
  generalize ((x.natAbs % y.natAbs : Nat) : Int) = r at *
  by_cases hx : x < 0
  · have ex : ((x.natAbs : Nat) : Int) = -x := by omega
    rw [ex] at h
    by_cases hy0 : y < 0
    · have ey : ((y.natAbs : Nat) : Int) = -y := by omega
      rw [ey] at h
      simp only [hx, hy0, decide_true, bne_self_eq_false, if_true]
      simp only [Bool.false_eq_true, if_false]
      grind
    · have ey : ((y.natAbs : Nat) : Int) = y := by omega
      rw [ey] at h
      simp only [hx, hy0, decide_true, decide_false, if_true]
      simp
      grind
  · have ex : ((x.natAbs : Nat) : Int) = x := by omega
    rw [ex] at h
    by_cases hy0 : y < 0
    · have ey : ((y.natAbs : Nat) : Int) = -y := by omega
      rw [ey] at h
      simp only [hx, hy0, decide_true, decide_false, if_false]
      simp
      grind
    · have ey : ((y.natAbs : Nat) : Int) = y := by omega
      rw [ey] at h
      simp only [hx, hy0, decide_false, if_false]
      simp
      grind
theorem ediv_of {x y q r : Int} (h : x - q * y = r) (h0 : 0 ≤ r) (h1 : r < y.natAbs) (hy : y ≠ 0) : q = x / y ∧ r = x % y := by
  have e1 : x = r + q * y := by omega
  have e2 : x % y = r := by
    rw [e1, Int.add_mul_emod_self_right]
    rcases Int.lt_or_lt_of_ne hy with g | g
    · rw [← Int.emod_neg]
      exact Int.emod_eq_of_lt h0 (by omega)
    · exact Int.emod_eq_of_lt h0 (by omega)
  have e3 := Int.emod_add_mul_ediv x y
  have e4 : y * (x / y) = y * q := by rw [Int.mul_comm y q]; omega
  exact ⟨(Int.eq_of_mul_eq_mul_left hy e4).symm, e2.symm⟩
theorem rem_lt (x y : Int) (hy : y ≠ 0) : ((x.natAbs % y.natAbs : Nat) : Int) < ((y.natAbs : Nat) : Int) := by
  have := Nat.mod_lt x.natAbs (by omega : 0 < y.natAbs)
  omega
theorem quo_pos {x y : Int} (hy : y ≠ 0) (h : 0 ≤ x - q0 x y * y) : q0 x y = x / y ∧ x - q0 x y * y = x % y := by
  refine ediv_of rfl h ?_ hy
  have h1 := q0_eq x y hy
  have h2 := rem_lt x y hy
  rw [h1]
  split <;> omega
theorem quo_neg1 {x y : Int} (hy : 0 < y) (h : x - q0 x y * y < 0) : q0 x y - 1 = x / y ∧ x - (q0 x y - 1) * y = x % y := by
  have h1 := q0_eq x y (by omega)
  have h2 := rem_lt x y (by omega)
  have e : x - (q0 x y - 1) * y = x - q0 x y * y + y := by rw [Int.sub_mul, Int.one_mul]; omega
  refine ediv_of rfl ?_ ?_ (by omega)
  · rw [e]; split at h1 <;> omega
  · rw [e]; omega
theorem quo_neg2 {x y : Int} (hy : y < 0) (h : x - q0 x y * y < 0) : q0 x y + 1 = x / y ∧ x - (q0 x y + 1) * y = x % y := by
  have h1 := q0_eq x y (by omega)
  have h2 := rem_lt x y (by omega)
  have e : x - (q0 x y + 1) * y = x - q0 x y * y - y := by rw [Int.add_mul, Int.one_mul]; omega
  refine ediv_of rfl ?_ ?_ (by omega)
  · rw [e]; split at h1 <;> omega
  · rw [e]; omega
theorem lenD {m k : Nat} (h : m < D9 ^ k) : (Nm.dg D9 m).length ≤ k := by
  refine Nm.len_le_of_val D92 (Nm.nrm_dg D92 _) ?_
  rw [Nm.val_dg D92]
  exact h
theorem q0_le (x y : Int) : (q0 x y).natAbs ≤ x.natAbs := by rw [q0_abs]; exact Nat.div_le_self _ _
theorem q0y_le (x y : Int) : (q0 x y * y).natAbs ≤ x.natAbs := by rw [Int.natAbs_mul, q0_abs]; exact Nat.div_mul_le_self _ _
theorem twice {m k : Nat} (h : m < 2 * D9 ^ k) : m < D9 ^ (k + 1) := by
  rw [Nat.pow_succ]
  have e : D9 = 1000000000 := rfl
  generalize D9 ^ k = p at *
  rw [e]
  omega
end Go.Proofs.Ytlmklhffafcmmaa

/- The reference's Quo: the walk. -/
namespace Go.Proofs.Ytlmklhffafcmmaa
open Go.RowKit

def CutO (br : Bool) (s : Value) (X : List Nat) (B : Nat) (wb wx : World) (g : Nat) : Prop := B ≤ g ∧ ZC (.bool br) s wx g ∧ Ri wx s X ∧ Below B wb wx
section
variable {br b0 : Bool} {s : Value} {X : List Nat} {B : Nat} {wb w3 : World} {t : TypeId} {p : Option Addr} {n c g : Nat}
theorem CutO.k1 (r1 : Ri w3 s X) (h : Below B wb w3) (hB : B ≤ w3.heap.size) : CutO br s X B wb (w3.alloc (.cells #[.bool br, s] t)) w3.heap.size := ⟨hB, ZC.new rfl, r1.allocd _, h.alloc hB _⟩
theorem Ri.setq {w : World} {v : Value} {xs : List Nat} (h : Ri w v xs) (z : ZC (.bool b0) (.slice p n c) w g) (u u' : Value) : Ri ((w.setCell ⟨g, 0, none⟩ u).setCell ⟨g, 1, none⟩ u') v xs := h.set2 z.1 z.2.1 (fun _ => by simp)
theorem CutO.k2 (q : ZC (.bool b0) (.slice p n c) w3 g) (hg : B ≤ g) (r1 : Ri w3 s X) (h : Below B wb w3) : CutO br s X B wb ((w3.setCell ⟨g, 0, none⟩ (.bool br)).setCell ⟨g, 1, none⟩ s) g := ⟨hg, q.set, r1.setq q _ _, below_set2 h hg _ _⟩
end
theorem far8q {a x : Nat} (h : a + 4 ≤ x) : ¬ x = a ∧ ¬ x = a+1 ∧ ¬ x = a+1+1 ∧ ¬ x = a+1+1+1 ∧ ¬ a = x ∧ ¬ a+1 = x ∧ ¬ a+1+1 = x ∧ ¬ a+1+1+1 = x ∧ a < x ∧ a+1 < x ∧ a+1+1 < x ∧ a+1+1+1 < x := ⟨by omega, by omega, by omega, by omega, by omega, by omega, by omega, by omega, by omega, by omega, by omega, by omega⟩
/-- What the end of the call stores. -/
def QEnd (q r : Int) (w w0 wx : World) (g8 g9 : Nat) (s8 s9 : Value) : Prop := ZC (.bool (decide (q < 0))) s8 wx g8 ∧ ZC (.bool (decide (r < 0))) s9 wx g9 ∧ Rz wx s8 q ∧ Rz wx s9 r ∧ Below w0.heap.size w0 wx

set_option maxRecDepth 100000 in
set_option maxHeartbeats 8000000 in
theorem rquo_pos (x y : Int) (v1 v2 : Value) (w : World) (k : Nat) (hk : k ≤ 90000) (hx : x.natAbs < D9 ^ k) (hy : y.natAbs < D9 ^ k) (h1 : Rz w v1 x) (h2 : Rz w v2 y) (hy0 : y ≠ 0) (hr : 0 ≤ x - q0 x y * y) :
    Calls Try.prog 39 #[iV x v1, iV y v2] w (QIPost (q0 x y) (x - q0 x y * y) w) := by
  have lx := lenD hx
  have ly := lenD hy
  have H_over := Lib.hid (fun v1 v2 w g1 g2 => rover_any v1 v2 x.natAbs y.natAbs w (by omega) g1 g2 (by omega) (by omega))
  have H_made := Lib.hid (fun v w g => (rmade_any (decide (x < 0) != decide (y < 0)) v (x.natAbs / y.natAbs) w g).mono (made_int (z := q0 x y) rfl))
  have lq := Nat.le_trans (lenD (Nat.lt_of_le_of_lt (q0_le x y) hx)) (by omega : k ≤ 1000000)
  have lqy := Nat.le_trans (lenD (Nat.lt_of_le_of_lt (q0y_le x y) hx)) (by omega : k ≤ 1000000)
  have H_mul := Lib.hid (fun v1 v2 w g1 g2 => rmul_int (q0 x y) y v1 v2 w g1 g2 lq (by omega))
  have H_sub := Lib.hid (fun v1 v2 w g1 g2 => rsub_int x (q0 x y * y) v1 v2 w g1 g2 (by omega) lqy)
  have H_sgn := Lib.hid (fun v w g => rsign_int (x - q0 x y * y) v w g)
  obtain ⟨sg, hsg⟩ : ∃ sg, (x - q0 x y * y).sign = sg := ⟨_, rfl⟩
  have hsg0 : ¬ sg < 0 := by
    rw [← hsg]
    rcases Int.lt_or_eq_of_le hr with g | g
    · rw [Int.sign_eq_one_of_pos g]; decide
    · rw [← g]; decide
  rw [hsg] at H_sgn
  clear hsg
  obtain ⟨sb, hsb⟩ : ∃ sb, (decide (x < 0) != decide (y < 0)) = sb := ⟨_, rfl⟩
  rw [hsb] at H_made
  have HX := Lib.hid h1
  have HY := Lib.hid h2
  clear lq lqy lx ly hx hy hk hr
  clear hy0
  unfold IntPost iV at H_made H_mul H_sub
  unfold iV at H_sgn
  unfold SignPost at H_sgn
  unfold OverPost at H_over
  unfold QIPost iV
  generalize x.natAbs / y.natAbs = dd at *
  generalize x.natAbs % y.natAbs = de at *
  obtain ⟨bx, hbx⟩ : ∃ b, decide (x < 0) = b := ⟨_, rfl⟩
  obtain ⟨by', hby⟩ : ∃ b, decide (y < 0) = b := ⟨_, rfl⟩
  rw [hbx, hby] at hsb
  have hsb2 : (!(bx == by')) = sb := hsb
  rw [hby] at H_mul
  rw [hbx] at H_sub ⊢
  rw [hby]
  clear hbx hby hsb
  generalize x - q0 x y * y = r at *
  generalize q0 x y * y = qy at *
  generalize q0 x y = q at *
  generalize decide (qy < 0) = bqy at *
  obtain ⟨bq, hbq⟩ : ∃ b, decide (q < 0) = b := ⟨_, rfl⟩
  rw [hbq] at H_made H_mul
  obtain ⟨pa, ba, oa, ca, rfl, hra⟩ := h1
  obtain ⟨pb, bb, ob, cb, rfl, hrb⟩ := h2
  clear hra hrb
  generalize (Nm.dg D9 x.natAbs).length = la at *
  generalize (Nm.dg D9 y.natAbs).length = lb at *
  obtain ⟨w0, hw0⟩ : ∃ w0 : World, w0 = (((w.alloc (.cells #[.bool bx, .slice pa la ca] 31)).alloc (.cells #[.bool by', .slice pb lb cb] 31)).alloc (.cells #[.bool false, .slice none 0 0] 31)).alloc (.cells #[.bool false, .slice none 0 0] 31) := ⟨_, rfl⟩
  have hb0 : Hid (Below w.heap.size w w0) := by rw [hw0]; exact ((((Below.refl _ _).alloc (Nat.le_refl _) _).alloc (by simp) _).alloc (by simp; omega) _).alloc (by simp; omega) _
  have I1 : Hid (ZC (.bool bx) (.slice pa la ca) w0 w.heap.size) := by rw [hw0]; exact (((ZC.new rfl).alloc _).alloc _).alloc _
  have I2 : Hid (ZC (.bool by') (.slice pb lb cb) w0 (w.heap.size + 1)) := by rw [hw0]; exact ((ZC.new (by simp)).alloc _).alloc _
  have I3 : Hid (ZC (.bool false) (.slice none 0 0) w0 (w.heap.size + 1 + 1)) := by rw [hw0]; exact (ZC.new (by simp)).alloc _
  have I4 : Hid (ZC (.bool false) (.slice none 0 0) w0 (w.heap.size + 1 + 1 + 1)) := by rw [hw0]; exact ZC.new (by simp)
  have Hsz : Hid (w.heap.size + 4 ≤ w0.heap.size) := by rw [hw0]; show _ ≤ _; simp
  have RX := Lib.hid (Ri.below HX.out hb0.out (Nat.le_refl _))
  have RY := Lib.hid (Ri.below HY.out hb0.out (Nat.le_refl _))
  have Hw0 := Lib.hid hw0
  clear hw0 HX HY
  go_enter Try.func39, Try.ntmps39
  go_wp2_with fail
  rw [← Hw0.out]
  clear Hw0
  refine (H_over.out _ _ _ RX.out RY.out).mono ?_
  rintro e y1 ⟨vq, vr, rfl, rq, rr, b1⟩
  have D := Lib.hid b1
  obtain ⟨k0, k1, _⟩ := I1.out.next D.out
  obtain ⟨k2, k3, _⟩ := I2.out.next D.out
  have RQ := Lib.hid rq
  obtain ⟨pq, bq', oq, cq, rfl, hrq⟩ := rq
  clear b1 rr hrq
  go_wp2_with fail
  refine (H_made.out _ _ RQ.out).mono ?_
  rintro e y2 ⟨v8, rfl, r8, b2⟩
  have D := Lib.hid (chain D.out b2)
  obtain ⟨u2, hu2⟩ : ∃ u : World, u = y2.alloc (.cells #[.bool bq, v8] 31) := ⟨_, rfl⟩
  have R8 : Hid (Rz u2 v8 q) := by rw [hu2]; exact Ri.allocd r8 _
  have T8 : Hid (ZC (.bool bq) v8 u2 y2.heap.size) := by rw [hu2]; exact ZC.new rfl
  have hy2 : Hid (w.heap.size + 4 ≤ y2.heap.size) := Nat.le_trans Hsz.out D.out.size
  have D : Hid (Below w0.heap.size w0 u2) := by rw [hu2]; exact D.out.alloc D.out.size _
  obtain ⟨p8, bb8, o8, c8, rfl, rr8⟩ := r8
  clear rr8
  generalize (Nm.dg D9 q.natAbs).length = l8 at *
  obtain ⟨k0, k1, _⟩ := I1.out.next D.out
  obtain ⟨k2, k3, _⟩ := I2.out.next D.out
  obtain ⟨k4, k5, _⟩ := T8.out
  have HSB : Hid (w.heap.size + 4 ≤ u2.heap.size) := Nat.le_trans Hsz.out D.out.size
  have hu2g : Hid (y2.heap.size < u2.heap.size) := T8.out.lt
  have Hu2 := Lib.hid hu2
  clear b2 hu2 RQ
  have RXu := Lib.hid (Ri.below RX.out D.out (Nat.le_refl _))
  have RYu := Lib.hid (Ri.below RY.out D.out (Nat.le_refl _))
  go_upto_region 3 with (fail)
  rw [← Hu2.out]
  clear Hu2
  obtain ⟨ja, jb, jc, jd, je, jf, jg, jh, ji, jj, jk, jl⟩ := far8q HSB.out
  have jm := hu2g.out
  have jn : ¬ y2.heap.size = u2.heap.size := Nat.ne_of_lt jm
  have jo : ¬ u2.heap.size = y2.heap.size := Nat.ne_of_gt jm
  go_cut [9] (fun s9 wx => ∃ (g9 : Nat) (p9 : Option Addr) (n9 c9 : Nat), s9 = .pointer (some ⟨g9, 0, none⟩) ∧ Hid (CutO (decide (r < 0)) (.slice p9 n9 c9) (Nm.dg D9 r.natAbs) u2.heap.size u2 wx g9))
  case first =>
    rename_i J0 K0 hRJ hMK
    go_region_held3 (fun W' => W'.cell? ⟨w.heap.size, 0, none⟩ = some (.bool bx) ∧ W'.cell? ⟨w.heap.size, 1, none⟩ = some (.slice pa la ca) ∧ W'.cell? ⟨w.heap.size + 1, 0, none⟩ = some (.bool by') ∧ W'.cell? ⟨w.heap.size + 1, 1, none⟩ = some (.slice pb lb cb) ∧ W'.cell? ⟨y2.heap.size, 0, none⟩ = some (.bool bq) ∧ W'.cell? ⟨y2.heap.size, 1, none⟩ = some (.slice p8 l8 c8)) (go_keep)
      (first
        | (go_at_call 37; (with_reducible refine (H_mul.out _ _ _ (by first | exact Ri.drew R8.out | exact Ri.allocd (Ri.drew R8.out) _ | exact Ri.drew (Ri.allocd R8.out _)) (by first | exact Ri.drew RYu.out | exact Ri.allocd (Ri.drew RYu.out) _ | exact Ri.drew (Ri.allocd RYu.out _))).mono ?_); rintro e w1 ⟨vm, rfl, rz1, bz1⟩; (try (have bz1 := undrew bz1)); have d1 : Below u2.heap.size u2 w1 := chain (by first | exact Below.refl _ _ | exact (Below.refl _ _).drew | exact below_one _ _ | exact ((Below.refl _ _).drew).alloc (Nat.le_refl _) _) bz1; have e1 : Below u2.heap.size u2 w1 := d1; have p0 := keep1 e1 k0; have p1 := keep1 e1 k1; have p2 := keep1 e1 k2; have p3 := keep1 e1 k3; have p4 := keep1 e1 k4; have p5 := keep1 e1 k5; obtain ⟨j1a, j1b, j1c, j1d, j1e, j1f, j1g, j1h, j1i, j1j, j1k, j1l⟩ := far8q (Nat.le_trans HSB.out e1.size); have j1m := Nat.lt_of_lt_of_le hu2g.out e1.size; have j1n : ¬ y2.heap.size = w1.heap.size := Nat.ne_of_lt j1m; have j1o : ¬ w1.heap.size = y2.heap.size := Nat.ne_of_gt j1m; (try (have A0 := Lib.hid (ZC.made (g := u2.heap.size) rfl bz1); obtain ⟨A0a, A0b, A0c, A0d⟩ := A0.out)); (try (have L01 := Lib.hid (apart_b (g := u2.heap.size) rfl bz1); obtain ⟨l01x, l01y, l01z⟩ := L01.out)); have G1 := Lib.hid rz1; obtain ⟨pr1, br1, or1, cr1, rfl, rr1⟩ := rz1; clear rr1)
        | (go_at_call 33; (with_reducible refine (H_sub.out _ _ _ (by first | exact Ri.below RXu.out e1 (Nat.le_refl _) | exact Ri.allocd (Ri.below RXu.out e1 (Nat.le_refl _)) _) (by first | exact G1.out | exact Ri.allocd G1.out _)).mono ?_); rintro e w2 ⟨vs, rfl, rz2, bz2⟩; (try (have bz2 := undrew bz2)); have d2 : Below w1.heap.size w1 w2 := chain (by first | exact Below.refl _ _ | exact (Below.refl _ _).drew | exact below_one _ _ | exact ((Below.refl _ _).drew).alloc (Nat.le_refl _) _) bz2; have e2 : Below u2.heap.size u2 w2 := chain e1 d2; have p0 := keep1 e2 k0; have p1 := keep1 e2 k1; have p2 := keep1 e2 k2; have p3 := keep1 e2 k3; have p4 := keep1 e2 k4; have p5 := keep1 e2 k5; obtain ⟨j2a, j2b, j2c, j2d, j2e, j2f, j2g, j2h, j2i, j2j, j2k, j2l⟩ := far8q (Nat.le_trans HSB.out e2.size); have j2m := Nat.lt_of_lt_of_le hu2g.out e2.size; have j2n : ¬ y2.heap.size = w2.heap.size := Nat.ne_of_lt j2m; have j2o : ¬ w2.heap.size = y2.heap.size := Nat.ne_of_gt j2m; (try (have A1 := Lib.hid (ZC.made (g := w1.heap.size) rfl bz2); obtain ⟨A1a, A1b, A1c, A1d⟩ := A1.out)); (try (have A0 := Lib.hid (A0.out.next d2); obtain ⟨A0a, A0b, A0c, A0d⟩ := A0.out)); (try (have L02 := Lib.hid (apart_t L01.out d2.size); obtain ⟨l02x, l02y, l02z⟩ := L02.out)); (try (have L12 := Lib.hid (apart_b (g := w1.heap.size) rfl bz2); obtain ⟨l12x, l12y, l12z⟩ := L12.out)); have G2 := Lib.hid rz2; obtain ⟨pr2, br2, or2, cr2, rfl, rr2⟩ := rz2; clear rr2)
        | fail)
    all_goals
      refine hMK _ _ (Met.intro (hRJ _ _ ?_))
      (repeat apply Exists.intro)
      refine ⟨?_, rfl⟩
      refine ⟨_, pr2, (Nm.dg D9 r.natAbs).length, cr2, rfl, ?_⟩
      show CutO _ (.slice pr2 _ cr2) _ u2.heap.size u2 _ _
      have sA0 : u2.heap.size ≤ u2.heap.size := Nat.le_refl _
      have sA1 : u2.heap.size ≤ w1.heap.size := e1.size
      have sA2 : u2.heap.size ≤ w2.heap.size := e2.size
      first
        | with_reducible exact CutO.k1 G2.out e2 sA2
        | with_reducible exact CutO.k2 A0.out sA0 G2.out e2
        | with_reducible exact CutO.k2 A1.out sA1 G2.out e2
        | fail
  obtain ⟨g9, p9, n9, c9, rfl, hcut⟩ := hcut
  obtain ⟨hg9, t9, r9, b9⟩ := hcut.out
  have D := Lib.hid (chain D.out b9)
  have T8 := Lib.hid (T8.out.next b9)
  have R8 := Lib.hid (Ri.below R8.out b9 (Nat.le_refl _))
  have T9 := Lib.hid t9
  have R9 := Lib.hid r9
  have hg9' : Hid (w.heap.size + 4 ≤ g9) := Nat.le_trans HSB.out hg9
  have hg89 : Hid (y2.heap.size < g9) := Nat.lt_of_lt_of_le hu2g.out hg9
  obtain ⟨k0, k1, _⟩ := T9.out
  clear hcut hg9 t9 r9 b9 ja jb jc jd je jf jg jh ji jj jk jl jm jn jo k2 k3 k4 k5
  obtain ⟨br, hbr⟩ : ∃ b, decide (r < 0) = b := ⟨_, rfl⟩
  rw [hbr] at T9 k0 H_sgn
  go_wp2_with fail
  refine (H_sgn.out _ _ R9.out).mono ?_
  rintro e y3 ⟨rfl, b3⟩
  have D := Lib.hid (chain D.out b3)
  have T8 := Lib.hid (T8.out.next b3)
  have R8 := Lib.hid (Ri.below R8.out b3 (Nat.le_refl _))
  have T9 := Lib.hid (T9.out.next b3)
  have R9 := Lib.hid (Ri.below R9.out b3 (Nat.le_refl _))
  clear b3 k0 k1
  have HQQ := Lib.hid hbq
  have HRR := Lib.hid hbr
  clear hbq hbr
  obtain ⟨f0, f1, f2, f3⟩ := T8.out
  obtain ⟨f4, f5, f6, f7⟩ := T9.out
  obtain ⟨m0, m1, m2, m3⟩ := I3.out.next D.out
  obtain ⟨n0, n1, n2, n3⟩ := I4.out.next D.out
  obtain ⟨ja, jb, jc, jd, je, jf, jg, jh, _⟩ := far8q hy2.out
  obtain ⟨qa, qb, qc, qd, qe, qf, qg, qh, _⟩ := far8q hg9'.out
  have i5 := (I4.out.next D.out).other (g2 := w.heap.size + 1 + 1) (u := .bool bq) (v := (.slice p8 l8 c8)) (by omega)
  have HZ := Lib.hid ((below_set2 (below_set2 (chain hb0.out D.out) (g := w.heap.size + 1 + 1) (by omega) (.bool bq) (.slice p8 l8 c8)) (g := w.heap.size + 1 + 1 + 1) (by omega) (.bool br) (.slice p9 n9 c9)).drew)
  have RQf := Lib.hid (Ri.drew ((R8.out.setq (I3.out.next D.out) (.bool bq) (.slice p8 l8 c8)).setq i5 (.bool br) (.slice p9 n9 c9)))
  have RRf := Lib.hid (Ri.drew ((R9.out.setq (I3.out.next D.out) (.bool bq) (.slice p8 l8 c8)).setq i5 (.bool br) (.slice p9 n9 c9)))
  clear i5
  go_wp2_with fail
  go_region
  go_wp2
  exact bodyPost_ret (v := .tuple #[.agg #[.bool bq, (.slice p8 l8 c8)], .agg #[.bool br, (.slice p9 n9 c9)]]) (by simp [results, Try.results39, go_sem, m0, m1, n0, n1]) rfl ⟨_, _, by rw [HQQ.out, HRR.out], RQf.out, RRf.out, HZ.out⟩
end Go.Proofs.Ytlmklhffafcmmaa
