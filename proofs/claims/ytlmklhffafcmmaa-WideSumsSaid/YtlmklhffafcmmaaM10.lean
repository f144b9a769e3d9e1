/- What the theorem leans on, part 10: LValid, RefOut, SubW, LSums, LSumsA, LSumsB. -/
import Derived.Test.YtlmklhffafcmmaaM9
import Derived.Test.YtlmklhffafcmmaaM2

/- The law WideValid gives true. -/
namespace Go.Proofs.Ytlmklhffafcmmaa
open Go.RowKit

theorem sgV_sg {a : Bool} {s : ByteArray} (h : vld a s = true) : sgV a s = (sg a (bv s)).sign := by
  have h1 := zb_sg h
  have h2 : (sg a (bv s)).natAbs < Top := by
    have e1 : (sg a (bv s)).natAbs = bv s := by unfold sg; split <;> omega
    rw [e1]
    exact bv_lt h
  have h3 := sgV_z h2
  rwa [h1.1, h1.2] at h3
theorem sgV_bad {a : Bool} {s : ByteArray} (h : vld a s = false) : sgV a s = 0 := by unfold sgV; rw [h]; simp
theorem lenV_bad {a : Bool} {s : ByteArray} (h : vld a s = false) : lenV a s = 0 := by unfold lenV; rw [h]; simp
theorem lenV_ok {a : Bool} {s : ByteArray} (h : vld a s = true) : lenV a s = lenB s := by unfold lenV; rw [h]; simp
theorem cmpN_sign (m n : Nat) : cmpN m n = ((m : Int) - n).sign := by
  unfold cmpN
  split
  · rw [Int.sign_eq_neg_one_of_neg (by omega)]
  · split
    · rw [Int.sign_eq_one_of_pos (by omega)]
    · rw [show (m : Int) - n = 0 by omega]; rfl
theorem pos_of_neg {s : ByteArray} (h : vld true s = true) : 0 < bv s := by
  have h0 : 0 < s.size := by
    rcases Nat.eq_zero_or_pos s.size with h0 | h0
    · unfold vld at h; rw [dif_neg (by omega)] at h; simp at h
    · exact h0
  have : bv s ≠ 0 := fun h1 => by have := (bv_zero_iff (vld_can h)).1 h1; omega
  omega
theorem cmpV_sg {a b : Bool} {s t : ByteArray} (h1 : vld a s = true) (h2 : vld b t = true) : cmpV a s b t = (sg a (bv s) - sg b (bv t)).sign := by
  cases a with
  | false =>
    cases b with
    | false => simp only [cmpV, sg]; rw [cmpN_sign]; simp
    | true =>
      have := pos_of_neg h2
      simp only [cmpV, sg]
      rw [if_neg (by simp), if_pos trivial, Int.sign_eq_one_of_pos (by omega)]
  | true =>
    have := pos_of_neg h1
    cases b with
    | false =>
      simp only [cmpV, sg]
      rw [if_pos trivial, if_neg (by simp), Int.sign_eq_neg_one_of_neg (by omega)]
    | true =>
      simp only [cmpV, sg]
      rw [cmpN_sign, if_pos trivial, if_pos trivial]
      congr 1
      omega
theorem short2_false {a b : Bool} {s t : ByteArray} (h : ¬ (s.size ≤ 60 ∧ t.size ≤ 60)) : shortL [(a, s), (b, t)] = false := by
  simp only [shortL, List.all_cons, List.all_nil, Bool.and_true]
  by_cases h1 : s.size ≤ 60
  · have h2 : ¬ t.size ≤ 60 := fun h2 => h ⟨h1, h2⟩
    simp [h2]
  · simp [h1]
theorem short2_true {a b : Bool} {s t : ByteArray} (h1 : s.size ≤ 60) (h2 : t.size ≤ 60) : shortL [(a, s), (b, t)] = true := by simp [shortL, h1, h2]
theorem lz60 {a : Bool} {s : ByteArray} (hs : s.size ≤ 60) : (Nm.dg D9 (sg a (bv s)).natAbs).length ≤ 1000000 := by
  have e1 : (sg a (bv s)).natAbs = bv s := by unfold sg; split <;> omega
  rw [e1]
  have h5 := Nm.val_lt (dig_rev s)
  rw [rev_length] at h5
  exact Nat.le_trans (dg9_256 (Nat.lt_of_lt_of_le h5 (Nat.pow_le_pow_right (by decide) hs))) (by decide)
theorem rcompare60 {a b : Bool} {s t : ByteArray} (h1 : vld a s = true) (h2 : vld b t = true) (z1 : s.size ≤ 60) (z2 : t.size ≤ 60) (v1 v2 : Value) (w : World) (g1 : Rz w v1 (sg a (bv s))) (g2 : Rz w v2 (sg b (bv t))) :
    Calls Try.prog 21 #[iV (sg a (bv s)) v1, iV (sg b (bv t)) v2] w (SignPost (cmpV a s b t) w) := by
  have h := rcompare_int _ _ v1 v2 w g1 g2 (lz60 z1) (lz60 z2)
  rwa [← cmpV_sg h1 h2] at h
theorem cmpV_swap {a b : Bool} {s t : ByteArray} (h1 : vld a s = true) (h2 : vld b t = true) : cmpV b t a s = -cmpV a s b t := by
  rw [cmpV_sg h1 h2, cmpV_sg h2 h1, ← Int.sign_neg]
  congr 1
  omega
theorem rbits60 {a : Bool} {s : ByteArray} (h : vld a s = true) (z1 : s.size ≤ 60) (v : Value) (w : World) (g : Rz w v (sg a (bv s))) :
    Calls Try.prog 20 #[iV (sg a (bv s)) v] w (IPost (lenB s) w) := by
  have e := (zb_sg h).2
  have h := rbits_int _ v w g (lz60 z1) (by rw [e]; omega)
  rwa [e] at h
theorem rsignV {a : Bool} {s : ByteArray} (h : vld a s = true) (v : Value) (w : World) (g : Rz w v (sg a (bv s))) :
    Calls Try.prog 19 #[iV (sg a (bv s)) v] w (SignPost (sgV a s) w) := by
  have h2 := rsign_int _ v w g
  rwa [← sgV_sg h] at h2

set_option maxRecDepth 100000 in
set_option maxHeartbeats 4000000 in
theorem valid_long (a b : Bool) (s t : ByteArray) (w : World) (hs : ¬ (s.size ≤ 60 ∧ t.size ≤ 60)) :
    Calls Try.prog 3 #[.agg #[.bool a, .string s], .agg #[.bool b, .string t]] w (Ret (.bool true) w) := by
  have H_known := Lib.hid known_true
  obtain ⟨w0, hw0⟩ : ∃ w0 : World, w0 = ((w.alloc (.cells #[.bool a, .string s] 23)).alloc (.cells #[.bool b, .string t] 23)).alloc (.cells #[.bool a, .string s, .bool b, .string t] 23) := ⟨_, rfl⟩
  have hb0 : Hid (Below w.heap.size w w0) := by rw [hw0]; exact (((Below.refl _ _).alloc (Nat.le_refl _) _).alloc (by simp) _).alloc (by simp; omega) _
  have I1 : Hid (ZC (.bool a) (.string s) w0 w.heap.size) := by rw [hw0]; exact ((ZC.new rfl).alloc _).alloc _
  have I2 : Hid (ZC (.bool b) (.string t) w0 (w.heap.size + 1)) := by rw [hw0]; exact (ZC.new (by simp)).alloc _
  have HSH := short_any [(a, s), (b, t)] 2 (w.heap.size + 1 + 1) w0 rfl (by decide) (by rw [hw0]; have := WL.two ((w.alloc (.cells #[.bool a, .string s] 23)).alloc (.cells #[.bool b, .string t] 23)) a b s t 23; simpa using this)
  rw [short2_false hs] at HSH
  have HSh := Lib.hid HSH
  have Hw0 := Lib.hid hw0
  clear HSH hw0
  unfold Ret at *
  unfold BPost at HSh
  go_enter Try.func3, Try.ntmps3
  go_wp2_with fail
  rw [← Hw0.out]
  refine HSh.out.mono ?_
  rintro e x0 ⟨rfl, b0⟩
  have D := Lib.hid b0
  clear b0
  go_wp2_with fail
  refine (H_known.out _).mono ?_
  rintro e x1 ⟨rfl, b1⟩
  have HZ := Lib.hid (chain hb0.out (chain D.out b1))
  clear b1
  go_wp2
  go_ret
  exact ⟨rfl, HZ.out⟩

set_option maxRecDepth 100000 in
set_option maxHeartbeats 4000000 in
theorem valid_bad1 (a b : Bool) (s t : ByteArray) (w : World) (z1 : s.size ≤ 60) (z2 : t.size ≤ 60) (hv : vld a s = false) :
    Calls Try.prog 3 #[.agg #[.bool a, .string s], .agg #[.bool b, .string t]] w (Ret (.bool true) w) := by
  have H_known := Lib.hid known_true
  obtain ⟨w0, hw0⟩ : ∃ w0 : World, w0 = ((w.alloc (.cells #[.bool a, .string s] 23)).alloc (.cells #[.bool b, .string t] 23)).alloc (.cells #[.bool a, .string s, .bool b, .string t] 23) := ⟨_, rfl⟩
  have hb0 : Hid (Below w.heap.size w w0) := by rw [hw0]; exact (((Below.refl _ _).alloc (Nat.le_refl _) _).alloc (by simp) _).alloc (by simp; omega) _
  have I1 : Hid (ZC (.bool a) (.string s) w0 w.heap.size) := by rw [hw0]; exact ((ZC.new rfl).alloc _).alloc _
  have I2 : Hid (ZC (.bool b) (.string t) w0 (w.heap.size + 1)) := by rw [hw0]; exact (ZC.new (by simp)).alloc _
  have HSH := short_any [(a, s), (b, t)] 2 (w.heap.size + 1 + 1) w0 rfl (by decide) (by rw [hw0]; have := WL.two ((w.alloc (.cells #[.bool a, .string s] 23)).alloc (.cells #[.bool b, .string t] 23)) a b s t 23; simpa using this)
  rw [short2_true z1 z2] at HSH
  have H_va := Lib.hid (fun w => Valid_any a s w (by omega))
  have H_ra := Lib.hid (fun w => rvalid_any a s w (by omega))
  have H_vb := Lib.hid (fun w => Valid_any b t w (by omega))
  have H_rb := Lib.hid (fun w => rvalid_any b t w (by omega))
  rw [hv] at H_va H_ra
  have H_c1 := Lib.hid (fun w => Compare_invalid a b s t w (by omega) (by omega) (by rw [hv]; rfl))
  have H_c2 := Lib.hid (fun w => Compare_invalid b a t s w (by omega) (by omega) (by rw [hv, Bool.and_false]))
  have H_sg := Lib.hid (fun w => Sign_any a s w (by omega))
  have H_ln := Lib.hid (fun w => Len_any a s w (by omega))
  rw [sgV_bad hv] at H_sg
  rw [lenV_bad hv] at H_ln
  unfold BPost at H_va H_ra H_vb H_rb
  unfold IPost at H_c1 H_c2 H_sg H_ln
  generalize vld b t = vb at *
  clear hv
  have HSh := Lib.hid HSH
  have Hw0 := Lib.hid hw0
  clear HSH hw0
  unfold Ret at *
  unfold BPost at HSh
  go_enter Try.func3, Try.ntmps3
  go_wp2_with fail
  rw [← Hw0.out]
  refine HSh.out.mono ?_
  rintro e x0 ⟨rfl, b0⟩
  have D := Lib.hid b0
  clear b0
  obtain ⟨k0, k1, _⟩ := I1.out.next D.out
  obtain ⟨k2, k3, _⟩ := I2.out.next D.out
  go_wp2_with fail
  go_region_held3 (fun W' => W'.cell? ⟨w.heap.size, 0, none⟩ = some (.bool a) ∧ W'.cell? ⟨w.heap.size, 1, none⟩ = some (.string s) ∧ W'.cell? ⟨w.heap.size + 1, 0, none⟩ = some (.bool b) ∧ W'.cell? ⟨w.heap.size + 1, 1, none⟩ = some (.string t)) (go_keep)
    (first
      | (go_at_call 13; (with_reducible refine (H_va.out _).mono ?_); rintro e y ⟨rfl, b9⟩; have E := Lib.hid (show Below x0.heap.size x0 y by first | exact chain E.out b9 | exact chain ((Below.refl _ _).drew) b9); have p0 := keep1 E.out k0; have p1 := keep1 E.out k1; have p2 := keep1 E.out k2; have p3 := keep1 E.out k3;  clear b9)
      | (go_at_call 14; (with_reducible refine (H_ra.out _).mono ?_); rintro e y ⟨rfl, b9⟩; have E := Lib.hid (show Below x0.heap.size x0 y by first | exact chain E.out b9 | exact chain ((Below.refl _ _).drew) b9); have p0 := keep1 E.out k0; have p1 := keep1 E.out k1; have p2 := keep1 E.out k2; have p3 := keep1 E.out k3;  clear b9)
      | (go_at_call 13; (with_reducible refine (H_vb.out _).mono ?_); rintro e y ⟨rfl, b9⟩; have E := Lib.hid (show Below x0.heap.size x0 y by first | exact chain E.out b9 | exact chain ((Below.refl _ _).drew) b9); have p0 := keep1 E.out k0; have p1 := keep1 E.out k1; have p2 := keep1 E.out k2; have p3 := keep1 E.out k3;  clear b9)
      | (go_at_call 14; (with_reducible refine (H_rb.out _).mono ?_); rintro e y ⟨rfl, b9⟩; have E := Lib.hid (show Below x0.heap.size x0 y by first | exact chain E.out b9 | exact chain ((Below.refl _ _).drew) b9); have p0 := keep1 E.out k0; have p1 := keep1 E.out k1; have p2 := keep1 E.out k2; have p3 := keep1 E.out k3;  clear b9)
      | fail)
  have D := Lib.hid (chain D.out E.out)
  clear E k0 k1 k2 k3 p0 p1 p2 p3
  obtain ⟨k0, k1, _⟩ := I1.out.next D.out
  obtain ⟨k2, k3, _⟩ := I2.out.next D.out
  go_wp2_with fail
  refine (H_ra.out _).mono ?_
  rintro e y ⟨rfl, b9⟩
  have D := Lib.hid (chain D.out b9)
  obtain ⟨k0, k1, _⟩ := I1.out.next D.out
  obtain ⟨k2, k3, _⟩ := I2.out.next D.out
  go_wp2_with fail
  refine (H_c1.out _).mono ?_
  rintro e y ⟨rfl, b9⟩
  have D := Lib.hid (chain D.out b9)
  obtain ⟨k0, k1, _⟩ := I1.out.next D.out
  obtain ⟨k2, k3, _⟩ := I2.out.next D.out
  go_wp2_with fail
  refine (H_c2.out _).mono ?_
  rintro e y ⟨rfl, b9⟩
  have D := Lib.hid (chain D.out b9)
  obtain ⟨k0, k1, _⟩ := I1.out.next D.out
  obtain ⟨k2, k3, _⟩ := I2.out.next D.out
  go_wp2_with fail
  refine (H_sg.out _).mono ?_
  rintro e y ⟨rfl, b9⟩
  have D := Lib.hid (chain D.out b9)
  obtain ⟨k0, k1, _⟩ := I1.out.next D.out
  obtain ⟨k2, k3, _⟩ := I2.out.next D.out
  go_wp2_with fail
  refine (H_ln.out _).mono ?_
  rintro e y ⟨rfl, b9⟩
  have D := Lib.hid (chain D.out b9)
  obtain ⟨k0, k1, _⟩ := I1.out.next D.out
  obtain ⟨k2, k3, _⟩ := I2.out.next D.out
  go_wp2_with fail
  refine (H_known.out _).mono ?_
  rintro e x1 ⟨rfl, b1⟩
  have HZ := Lib.hid (chain hb0.out (chain D.out b1))
  clear b1
  go_wp2
  go_ret
  exact ⟨rfl, HZ.out⟩

set_option maxRecDepth 100000 in
set_option maxHeartbeats 4000000 in
theorem valid_bad2 (a b : Bool) (s t : ByteArray) (w : World) (z1 : s.size ≤ 60) (z2 : t.size ≤ 60) (hv : vld a s = true) (hv2 : vld b t = false) :
    Calls Try.prog 3 #[.agg #[.bool a, .string s], .agg #[.bool b, .string t]] w (Ret (.bool true) w) := by
  have H_known := Lib.hid known_true
  obtain ⟨w0, hw0⟩ : ∃ w0 : World, w0 = ((w.alloc (.cells #[.bool a, .string s] 23)).alloc (.cells #[.bool b, .string t] 23)).alloc (.cells #[.bool a, .string s, .bool b, .string t] 23) := ⟨_, rfl⟩
  have hb0 : Hid (Below w.heap.size w w0) := by rw [hw0]; exact (((Below.refl _ _).alloc (Nat.le_refl _) _).alloc (by simp) _).alloc (by simp; omega) _
  have I1 : Hid (ZC (.bool a) (.string s) w0 w.heap.size) := by rw [hw0]; exact ((ZC.new rfl).alloc _).alloc _
  have I2 : Hid (ZC (.bool b) (.string t) w0 (w.heap.size + 1)) := by rw [hw0]; exact (ZC.new (by simp)).alloc _
  have HSH := short_any [(a, s), (b, t)] 2 (w.heap.size + 1 + 1) w0 rfl (by decide) (by rw [hw0]; have := WL.two ((w.alloc (.cells #[.bool a, .string s] 23)).alloc (.cells #[.bool b, .string t] 23)) a b s t 23; simpa using this)
  rw [short2_true z1 z2] at HSH
  have H_va := Lib.hid (fun w => Valid_any a s w (by omega))
  have H_ra := Lib.hid (fun w => rvalid_any a s w (by omega))
  have H_vb := Lib.hid (fun w => Valid_any b t w (by omega))
  have H_rb := Lib.hid (fun w => rvalid_any b t w (by omega))
  rw [hv] at H_va H_ra
  rw [hv2] at H_vb H_rb
  have H_sg := Lib.hid (fun w => Sign_any a s w (by omega))
  have H_ln := Lib.hid (fun w => Len_any a s w (by omega))
  rw [lenV_ok hv] at H_ln
  have H_from := Lib.hid (fun w => rfrom_any a s w (by omega))
  have H_rs := Lib.hid (fun v w g => rsignV hv v w g)
  have H_rb2 := Lib.hid (fun v w g => rbits60 hv z1 v w g)
  have H_c1 := Lib.hid (fun w => Compare_invalid a b s t w (by omega) (by omega) (by rw [hv2, Bool.and_false]))
  unfold BPost at H_va H_ra H_vb H_rb
  unfold IntPost iV at H_from
  unfold iV at H_rs H_rb2
  unfold SignPost at H_rs
  unfold IPost at H_sg H_ln H_rb2
  unfold IPost at H_c1
  clear hv hv2
  generalize sgV a s = sgv at *
  generalize lenB s = lnv at *
  generalize sg a (bv s) = z at *
  generalize decide (z < 0) = bz at *
  have HSh := Lib.hid HSH
  have Hw0 := Lib.hid hw0
  clear HSH hw0
  unfold Ret at *
  unfold BPost at HSh
  go_enter Try.func3, Try.ntmps3
  go_wp2_with fail
  rw [← Hw0.out]
  refine HSh.out.mono ?_
  rintro e x0 ⟨rfl, b0⟩
  have D := Lib.hid b0
  clear b0
  obtain ⟨k0, k1, _⟩ := I1.out.next D.out
  obtain ⟨k2, k3, _⟩ := I2.out.next D.out
  go_wp2_with fail
  go_region_held3 (fun W' => W'.cell? ⟨w.heap.size, 0, none⟩ = some (.bool a) ∧ W'.cell? ⟨w.heap.size, 1, none⟩ = some (.string s) ∧ W'.cell? ⟨w.heap.size + 1, 0, none⟩ = some (.bool b) ∧ W'.cell? ⟨w.heap.size + 1, 1, none⟩ = some (.string t)) (go_keep)
    (first
      | (go_at_call 13; (with_reducible refine (H_va.out _).mono ?_); rintro e y ⟨rfl, b9⟩; have E := Lib.hid (show Below x0.heap.size x0 y by first | exact chain E.out b9 | exact chain ((Below.refl _ _).drew) b9); have p0 := keep1 E.out k0; have p1 := keep1 E.out k1; have p2 := keep1 E.out k2; have p3 := keep1 E.out k3;  clear b9)
      | (go_at_call 14; (with_reducible refine (H_ra.out _).mono ?_); rintro e y ⟨rfl, b9⟩; have E := Lib.hid (show Below x0.heap.size x0 y by first | exact chain E.out b9 | exact chain ((Below.refl _ _).drew) b9); have p0 := keep1 E.out k0; have p1 := keep1 E.out k1; have p2 := keep1 E.out k2; have p3 := keep1 E.out k3;  clear b9)
      | (go_at_call 13; (with_reducible refine (H_vb.out _).mono ?_); rintro e y ⟨rfl, b9⟩; have E := Lib.hid (show Below x0.heap.size x0 y by first | exact chain E.out b9 | exact chain ((Below.refl _ _).drew) b9); have p0 := keep1 E.out k0; have p1 := keep1 E.out k1; have p2 := keep1 E.out k2; have p3 := keep1 E.out k3;  clear b9)
      | (go_at_call 14; (with_reducible refine (H_rb.out _).mono ?_); rintro e y ⟨rfl, b9⟩; have E := Lib.hid (show Below x0.heap.size x0 y by first | exact chain E.out b9 | exact chain ((Below.refl _ _).drew) b9); have p0 := keep1 E.out k0; have p1 := keep1 E.out k1; have p2 := keep1 E.out k2; have p3 := keep1 E.out k3;  clear b9)
      | fail)
  have D := Lib.hid (chain D.out E.out)
  clear E k0 k1 k2 k3 p0 p1 p2 p3
  obtain ⟨k0, k1, _⟩ := I1.out.next D.out
  obtain ⟨k2, k3, _⟩ := I2.out.next D.out
  go_wp2_with fail
  refine (H_ra.out _).mono ?_
  rintro e y ⟨rfl, b9⟩
  have D := Lib.hid (chain D.out b9)
  obtain ⟨k0, k1, _⟩ := I1.out.next D.out
  obtain ⟨k2, k3, _⟩ := I2.out.next D.out
  go_wp2_with fail
  refine (H_from.out _).mono ?_
  rintro e y1 ⟨v1, rfl, r1, b9⟩
  have D := Lib.hid (chain D.out b9)
  have R1 : Hid (Rz (y1.alloc (.cells #[.bool bz, v1] 31)) v1 z) := Ri.allocd r1 _
  obtain ⟨pz1, bb1, o1, c1, rfl, rr1⟩ := r1
  obtain ⟨u1, hu1⟩ : ∃ u1 : World, u1 = y1.alloc (.cells #[.bool bz, .slice pz1 (Nm.dg D9 z.natAbs).length c1] 31) := ⟨_, rfl⟩
  rw [← hu1] at R1
  have T5 : Hid (ZC (.bool bz) (.slice pz1 (Nm.dg D9 z.natAbs).length c1) u1 y1.heap.size) := by rw [hu1]; exact ZC.new rfl
  have D : Hid (Below w0.heap.size w0 u1) := by rw [hu1]; exact D.out.alloc D.out.size _
  have Hu1 := Lib.hid hu1
  clear b9 rr1 hu1
  have R1d : Hid (Rz u1.drew (.slice pz1 (Nm.dg D9 z.natAbs).length c1) z) := Ri.drew R1.out
  obtain ⟨k0, k1, _⟩ := I1.out.next D.out
  obtain ⟨k2, k3, _⟩ := I2.out.next D.out
  obtain ⟨k4, k5, _⟩ := T5.out
  go_wp2_with fail
  rw [← Hu1.out]
  clear Hu1
  go_region_held3 (fun W' => W'.cell? ⟨w.heap.size, 0, none⟩ = some (.bool a) ∧ W'.cell? ⟨w.heap.size, 1, none⟩ = some (.string s) ∧ W'.cell? ⟨w.heap.size + 1, 0, none⟩ = some (.bool b) ∧ W'.cell? ⟨w.heap.size + 1, 1, none⟩ = some (.string t) ∧ W'.cell? ⟨y1.heap.size, 0, none⟩ = some (.bool bz) ∧ W'.cell? ⟨y1.heap.size, 1, none⟩ = some (.slice pz1 (Nm.dg D9 z.natAbs).length c1)) (go_keep)
    (first
      | (go_at_call 16; (with_reducible refine (H_sg.out _).mono ?_); rintro e y ⟨rfl, b9⟩; have E := Lib.hid (show Below u1.heap.size u1 y by first | exact chain E.out b9 | exact chain ((Below.refl _ _).drew) b9); have p0 := keep1 E.out k0; have p1 := keep1 E.out k1; have p2 := keep1 E.out k2; have p3 := keep1 E.out k3; have p4 := keep1 E.out k4; have p5 := keep1 E.out k5;  clear b9)
      | (go_at_call 19; (with_reducible refine (H_rs.out _ _ (Ri.below R1.out E.out (Nat.le_refl _))).mono ?_); rintro e y ⟨rfl, b9⟩; have E := Lib.hid (show Below u1.heap.size u1 y by first | exact chain E.out b9 | exact chain ((Below.refl _ _).drew) b9); have p0 := keep1 E.out k0; have p1 := keep1 E.out k1; have p2 := keep1 E.out k2; have p3 := keep1 E.out k3; have p4 := keep1 E.out k4; have p5 := keep1 E.out k5;  clear b9)
      | (go_at_call 17; (with_reducible refine (H_ln.out _).mono ?_); rintro e y ⟨rfl, b9⟩; have E := Lib.hid (show Below u1.heap.size u1 y by first | exact chain E.out b9 | exact chain ((Below.refl _ _).drew) b9); have p0 := keep1 E.out k0; have p1 := keep1 E.out k1; have p2 := keep1 E.out k2; have p3 := keep1 E.out k3; have p4 := keep1 E.out k4; have p5 := keep1 E.out k5;  clear b9)
      | (go_at_call 20; (with_reducible refine (H_rb2.out _ _ (Ri.below R1.out E.out (Nat.le_refl _))).mono ?_); rintro e y ⟨rfl, b9⟩; have E := Lib.hid (show Below u1.heap.size u1 y by first | exact chain E.out b9 | exact chain ((Below.refl _ _).drew) b9); have p0 := keep1 E.out k0; have p1 := keep1 E.out k1; have p2 := keep1 E.out k2; have p3 := keep1 E.out k3; have p4 := keep1 E.out k4; have p5 := keep1 E.out k5;  clear b9)
      | fail)
  have D := Lib.hid (chain D.out E.out)
  have T5 := Lib.hid (T5.out.next E.out)
  have R1 := Lib.hid (Ri.below R1.out E.out (Nat.le_refl _))
  clear E k0 k1 k2 k3 k4 k5 p0 p1 p2 p3 p4 p5
  obtain ⟨k0, k1, _⟩ := I1.out.next D.out
  obtain ⟨k2, k3, _⟩ := I2.out.next D.out
  obtain ⟨k4, k5, _⟩ := T5.out
  go_wp2_with fail
  refine (H_rb.out _).mono ?_
  rintro e y ⟨rfl, b9⟩
  have D := Lib.hid (chain D.out b9)
  obtain ⟨k0, k1, _⟩ := I1.out.next D.out
  obtain ⟨k2, k3, _⟩ := I2.out.next D.out
  go_wp2_with fail
  refine (H_c1.out _).mono ?_
  rintro e y ⟨rfl, b9⟩
  have D := Lib.hid (chain D.out b9)
  obtain ⟨k0, k1, _⟩ := I1.out.next D.out
  obtain ⟨k2, k3, _⟩ := I2.out.next D.out
  go_wp2_with fail
  refine (H_known.out _).mono ?_
  rintro e x1 ⟨rfl, b1⟩
  have HZ := Lib.hid (chain hb0.out (chain D.out b1))
  clear b1
  go_wp2
  go_ret
  exact ⟨rfl, HZ.out⟩

set_option maxRecDepth 100000 in
set_option maxHeartbeats 4000000 in
theorem valid_good (a b : Bool) (s t : ByteArray) (w : World) (z1 : s.size ≤ 60) (z2 : t.size ≤ 60) (hv : vld a s = true) (hv2 : vld b t = true) :
    Calls Try.prog 3 #[.agg #[.bool a, .string s], .agg #[.bool b, .string t]] w (Ret (.bool true) w) := by
  have H_known := Lib.hid known_true
  obtain ⟨w0, hw0⟩ : ∃ w0 : World, w0 = ((w.alloc (.cells #[.bool a, .string s] 23)).alloc (.cells #[.bool b, .string t] 23)).alloc (.cells #[.bool a, .string s, .bool b, .string t] 23) := ⟨_, rfl⟩
  have hb0 : Hid (Below w.heap.size w w0) := by rw [hw0]; exact (((Below.refl _ _).alloc (Nat.le_refl _) _).alloc (by simp) _).alloc (by simp; omega) _
  have I1 : Hid (ZC (.bool a) (.string s) w0 w.heap.size) := by rw [hw0]; exact ((ZC.new rfl).alloc _).alloc _
  have I2 : Hid (ZC (.bool b) (.string t) w0 (w.heap.size + 1)) := by rw [hw0]; exact (ZC.new (by simp)).alloc _
  have HSH := short_any [(a, s), (b, t)] 2 (w.heap.size + 1 + 1) w0 rfl (by decide) (by rw [hw0]; have := WL.two ((w.alloc (.cells #[.bool a, .string s] 23)).alloc (.cells #[.bool b, .string t] 23)) a b s t 23; simpa using this)
  rw [short2_true z1 z2] at HSH
  have H_va := Lib.hid (fun w => Valid_any a s w (by omega))
  have H_ra := Lib.hid (fun w => rvalid_any a s w (by omega))
  have H_vb := Lib.hid (fun w => Valid_any b t w (by omega))
  have H_rb := Lib.hid (fun w => rvalid_any b t w (by omega))
  rw [hv] at H_va H_ra
  rw [hv2] at H_vb H_rb
  have H_sg := Lib.hid (fun w => Sign_any a s w (by omega))
  have H_ln := Lib.hid (fun w => Len_any a s w (by omega))
  rw [lenV_ok hv] at H_ln
  have H_from := Lib.hid (fun w => rfrom_any a s w (by omega))
  have H_rs := Lib.hid (fun v w g => rsignV hv v w g)
  have H_rb2 := Lib.hid (fun v w g => rbits60 hv z1 v w g)
  have H_from2 := Lib.hid (fun w => rfrom_any b t w (by omega))
  have H_cm := Lib.hid (fun v1 v2 w g1 g2 => rcompare60 hv hv2 z1 z2 v1 v2 w g1 g2)
  have H_c1 := Lib.hid (fun w => Compare_valid a b s t w hv hv2)
  have H_c2 := Lib.hid (fun w => Compare_valid b a t s w hv2 hv)
  rw [cmpV_swap hv hv2] at H_c2
  obtain ⟨cc, hcc⟩ : ∃ cc, cmpV a s b t = cc := ⟨_, rfl⟩
  have hc1 : -1 ≤ cc ∧ cc ≤ 1 := by
    rw [← hcc, cmpV_sg hv hv2]
    rcases Int.lt_trichotomy (sg a (bv s) - sg b (bv t)) 0 with g | g | g
    · rw [Int.sign_eq_neg_one_of_neg g]; decide
    · rw [g]; decide
    · rw [Int.sign_eq_one_of_pos g]; decide
  obtain ⟨hc1, hc2⟩ := hc1
  rw [hcc] at H_cm H_c1 H_c2
  clear hcc
  unfold BPost at H_va H_ra H_vb H_rb
  unfold IntPost iV at H_from
  unfold iV at H_rs H_rb2
  unfold SignPost at H_rs
  unfold IPost at H_sg H_ln H_rb2
  unfold IPost at H_c1 H_c2
  unfold IntPost iV at H_from2
  unfold iV at H_cm
  unfold SignPost at H_cm
  clear hv hv2
  generalize sgV a s = sgv at *
  generalize lenB s = lnv at *
  generalize sg a (bv s) = z at *
  generalize decide (z < 0) = bz at *
  generalize sg b (bv t) = z' at *
  generalize decide (z' < 0) = bz' at *
  have HSh := Lib.hid HSH
  have Hw0 := Lib.hid hw0
  clear HSH hw0
  unfold Ret at *
  unfold BPost at HSh
  go_enter Try.func3, Try.ntmps3
  go_wp2_with fail
  rw [← Hw0.out]
  refine HSh.out.mono ?_
  rintro e x0 ⟨rfl, b0⟩
  have D := Lib.hid b0
  clear b0
  obtain ⟨k0, k1, _⟩ := I1.out.next D.out
  obtain ⟨k2, k3, _⟩ := I2.out.next D.out
  go_wp2_with fail
  go_region_held3 (fun W' => W'.cell? ⟨w.heap.size, 0, none⟩ = some (.bool a) ∧ W'.cell? ⟨w.heap.size, 1, none⟩ = some (.string s) ∧ W'.cell? ⟨w.heap.size + 1, 0, none⟩ = some (.bool b) ∧ W'.cell? ⟨w.heap.size + 1, 1, none⟩ = some (.string t)) (go_keep)
    (first
      | (go_at_call 13; (with_reducible refine (H_va.out _).mono ?_); rintro e y ⟨rfl, b9⟩; have E := Lib.hid (show Below x0.heap.size x0 y by first | exact chain E.out b9 | exact chain ((Below.refl _ _).drew) b9); have p0 := keep1 E.out k0; have p1 := keep1 E.out k1; have p2 := keep1 E.out k2; have p3 := keep1 E.out k3;  clear b9)
      | (go_at_call 14; (with_reducible refine (H_ra.out _).mono ?_); rintro e y ⟨rfl, b9⟩; have E := Lib.hid (show Below x0.heap.size x0 y by first | exact chain E.out b9 | exact chain ((Below.refl _ _).drew) b9); have p0 := keep1 E.out k0; have p1 := keep1 E.out k1; have p2 := keep1 E.out k2; have p3 := keep1 E.out k3;  clear b9)
      | (go_at_call 13; (with_reducible refine (H_vb.out _).mono ?_); rintro e y ⟨rfl, b9⟩; have E := Lib.hid (show Below x0.heap.size x0 y by first | exact chain E.out b9 | exact chain ((Below.refl _ _).drew) b9); have p0 := keep1 E.out k0; have p1 := keep1 E.out k1; have p2 := keep1 E.out k2; have p3 := keep1 E.out k3;  clear b9)
      | (go_at_call 14; (with_reducible refine (H_rb.out _).mono ?_); rintro e y ⟨rfl, b9⟩; have E := Lib.hid (show Below x0.heap.size x0 y by first | exact chain E.out b9 | exact chain ((Below.refl _ _).drew) b9); have p0 := keep1 E.out k0; have p1 := keep1 E.out k1; have p2 := keep1 E.out k2; have p3 := keep1 E.out k3;  clear b9)
      | fail)
  have D := Lib.hid (chain D.out E.out)
  clear E k0 k1 k2 k3 p0 p1 p2 p3
  obtain ⟨k0, k1, _⟩ := I1.out.next D.out
  obtain ⟨k2, k3, _⟩ := I2.out.next D.out
  go_wp2_with fail
  refine (H_ra.out _).mono ?_
  rintro e y ⟨rfl, b9⟩
  have D := Lib.hid (chain D.out b9)
  obtain ⟨k0, k1, _⟩ := I1.out.next D.out
  obtain ⟨k2, k3, _⟩ := I2.out.next D.out
  go_wp2_with fail
  refine (H_from.out _).mono ?_
  rintro e y1 ⟨v1, rfl, r1, b9⟩
  have D := Lib.hid (chain D.out b9)
  have R1 : Hid (Rz (y1.alloc (.cells #[.bool bz, v1] 31)) v1 z) := Ri.allocd r1 _
  obtain ⟨pz1, bb1, o1, c1, rfl, rr1⟩ := r1
  obtain ⟨u1, hu1⟩ : ∃ u1 : World, u1 = y1.alloc (.cells #[.bool bz, .slice pz1 (Nm.dg D9 z.natAbs).length c1] 31) := ⟨_, rfl⟩
  rw [← hu1] at R1
  have T5 : Hid (ZC (.bool bz) (.slice pz1 (Nm.dg D9 z.natAbs).length c1) u1 y1.heap.size) := by rw [hu1]; exact ZC.new rfl
  have D : Hid (Below w0.heap.size w0 u1) := by rw [hu1]; exact D.out.alloc D.out.size _
  have Hu1 := Lib.hid hu1
  clear b9 rr1 hu1
  have R1d : Hid (Rz u1.drew (.slice pz1 (Nm.dg D9 z.natAbs).length c1) z) := Ri.drew R1.out
  obtain ⟨k0, k1, _⟩ := I1.out.next D.out
  obtain ⟨k2, k3, _⟩ := I2.out.next D.out
  obtain ⟨k4, k5, _⟩ := T5.out
  go_wp2_with fail
  rw [← Hu1.out]
  clear Hu1
  go_region_held3 (fun W' => W'.cell? ⟨w.heap.size, 0, none⟩ = some (.bool a) ∧ W'.cell? ⟨w.heap.size, 1, none⟩ = some (.string s) ∧ W'.cell? ⟨w.heap.size + 1, 0, none⟩ = some (.bool b) ∧ W'.cell? ⟨w.heap.size + 1, 1, none⟩ = some (.string t) ∧ W'.cell? ⟨y1.heap.size, 0, none⟩ = some (.bool bz) ∧ W'.cell? ⟨y1.heap.size, 1, none⟩ = some (.slice pz1 (Nm.dg D9 z.natAbs).length c1)) (go_keep)
    (first
      | (go_at_call 16; (with_reducible refine (H_sg.out _).mono ?_); rintro e y ⟨rfl, b9⟩; have E := Lib.hid (show Below u1.heap.size u1 y by first | exact chain E.out b9 | exact chain ((Below.refl _ _).drew) b9); have p0 := keep1 E.out k0; have p1 := keep1 E.out k1; have p2 := keep1 E.out k2; have p3 := keep1 E.out k3; have p4 := keep1 E.out k4; have p5 := keep1 E.out k5;  clear b9)
      | (go_at_call 19; (with_reducible refine (H_rs.out _ _ (Ri.below R1.out E.out (Nat.le_refl _))).mono ?_); rintro e y ⟨rfl, b9⟩; have E := Lib.hid (show Below u1.heap.size u1 y by first | exact chain E.out b9 | exact chain ((Below.refl _ _).drew) b9); have p0 := keep1 E.out k0; have p1 := keep1 E.out k1; have p2 := keep1 E.out k2; have p3 := keep1 E.out k3; have p4 := keep1 E.out k4; have p5 := keep1 E.out k5;  clear b9)
      | (go_at_call 17; (with_reducible refine (H_ln.out _).mono ?_); rintro e y ⟨rfl, b9⟩; have E := Lib.hid (show Below u1.heap.size u1 y by first | exact chain E.out b9 | exact chain ((Below.refl _ _).drew) b9); have p0 := keep1 E.out k0; have p1 := keep1 E.out k1; have p2 := keep1 E.out k2; have p3 := keep1 E.out k3; have p4 := keep1 E.out k4; have p5 := keep1 E.out k5;  clear b9)
      | (go_at_call 20; (with_reducible refine (H_rb2.out _ _ (Ri.below R1.out E.out (Nat.le_refl _))).mono ?_); rintro e y ⟨rfl, b9⟩; have E := Lib.hid (show Below u1.heap.size u1 y by first | exact chain E.out b9 | exact chain ((Below.refl _ _).drew) b9); have p0 := keep1 E.out k0; have p1 := keep1 E.out k1; have p2 := keep1 E.out k2; have p3 := keep1 E.out k3; have p4 := keep1 E.out k4; have p5 := keep1 E.out k5;  clear b9)
      | fail)
  have D := Lib.hid (chain D.out E.out)
  have T5 := Lib.hid (T5.out.next E.out)
  have R1 := Lib.hid (Ri.below R1.out E.out (Nat.le_refl _))
  clear E k0 k1 k2 k3 k4 k5 p0 p1 p2 p3 p4 p5
  obtain ⟨k0, k1, _⟩ := I1.out.next D.out
  obtain ⟨k2, k3, _⟩ := I2.out.next D.out
  obtain ⟨k4, k5, _⟩ := T5.out
  go_wp2_with fail
  refine (H_rb.out _).mono ?_
  rintro e yr ⟨rfl, b9⟩
  have D := Lib.hid (chain D.out b9)
  obtain ⟨k0, k1, _⟩ := I1.out.next D.out
  obtain ⟨k2, k3, _⟩ := I2.out.next D.out
  have T5 := Lib.hid (T5.out.next b9)
  have R1 := Lib.hid (Ri.below R1.out b9 (Nat.le_refl _))
  obtain ⟨k4, k5, _⟩ := T5.out
  clear b9
  go_wp2_with fail
  go_region_held3 (fun W' => W'.cell? ⟨w.heap.size, 0, none⟩ = some (.bool a) ∧ W'.cell? ⟨w.heap.size, 1, none⟩ = some (.string s) ∧ W'.cell? ⟨w.heap.size + 1, 0, none⟩ = some (.bool b) ∧ W'.cell? ⟨w.heap.size + 1, 1, none⟩ = some (.string t) ∧ W'.cell? ⟨y1.heap.size, 0, none⟩ = some (.bool bz) ∧ W'.cell? ⟨y1.heap.size, 1, none⟩ = some (.slice pz1 (Nm.dg D9 z.natAbs).length c1)) (go_keep)
    (first
      | (go_at_call 18; (with_reducible refine (H_from2.out _).mono ?_); rintro e y ⟨v2, rfl, r2, b9⟩; have E := Lib.hid (show Below yr.heap.size yr y by first | exact chain E.out b9 | exact chain ((Below.refl _ _).drew) b9); have p0 := keep1 E.out k0; have p1 := keep1 E.out k1; have p2 := keep1 E.out k2; have p3 := keep1 E.out k3; have p4 := keep1 E.out k4; have p5 := keep1 E.out k5; have R2 := Lib.hid r2; obtain ⟨pz2, bb2, o2, c2, rfl, rr2⟩ := r2; clear rr2; clear b9)
      | (go_at_call 21; (with_reducible refine (H_cm.out _ _ _ (Ri.below R1.out E.out (Nat.le_refl _)) R2.out).mono ?_); rintro e y ⟨rfl, b9⟩; have E := Lib.hid (show Below yr.heap.size yr y by first | exact chain E.out b9 | exact chain ((Below.refl _ _).drew) b9); have p0 := keep1 E.out k0; have p1 := keep1 E.out k1; have p2 := keep1 E.out k2; have p3 := keep1 E.out k3; have p4 := keep1 E.out k4; have p5 := keep1 E.out k5;  clear b9)
      | fail)
  have D := Lib.hid (chain D.out E.out)
  clear E k0 k1 k2 k3 k4 k5 p0 p1 p2 p3 p4 p5
  obtain ⟨k0, k1, _⟩ := I1.out.next D.out
  obtain ⟨k2, k3, _⟩ := I2.out.next D.out
  go_wp2_with fail
  refine (H_c1.out _).mono ?_
  rintro e y ⟨rfl, b9⟩
  have D := Lib.hid (chain D.out b9)
  obtain ⟨k0, k1, _⟩ := I1.out.next D.out
  obtain ⟨k2, k3, _⟩ := I2.out.next D.out
  go_wp2_with fail
  refine (H_c2.out _).mono ?_
  rintro e y ⟨rfl, b9⟩
  have D := Lib.hid (chain D.out b9)
  obtain ⟨k0, k1, _⟩ := I1.out.next D.out
  obtain ⟨k2, k3, _⟩ := I2.out.next D.out
  go_wp2_with fail
  refine (H_known.out _).mono ?_
  rintro e x1 ⟨rfl, b1⟩
  have HZ := Lib.hid (chain hb0.out (chain D.out b1))
  clear b1
  go_wp2
  go_ret
  exact ⟨rfl, HZ.out⟩
end Go.Proofs.Ytlmklhffafcmmaa

/- The reference's Out where the result is a wide integer; the law's function is where it holds. -/
namespace Go.Proofs.Ytlmklhffafcmmaa
open Go.RowKit

set_option maxRecDepth 100000 in
set_option maxHeartbeats 2000000 in
theorem rout_int (z : Int) (v : Value) (w : World) (h : Rz w v z) (hl : (Nm.dg D9 z.natAbs).length ≤ 1000000) (hs : (zs z).size ≤ 8192) :
    Calls Try.prog 65 #[iV z v] w fun e w' => e = .returned (.tuple #[.agg #[.bool (zb z), .string (zs z)], .int .i64 0]) ∧ Below w.heap.size w w' := by
  have HB := Lib.hid (fun v w h => rbig_int z v w h hl hs)
  have HT : Hid (∀ v w, Rz w v z → Calls Try.prog 46 #[iV z v] w fun e w' => e = .returned (.agg #[.bool (zb z), .string (zs z)]) ∧ Below w.heap.size w w') := fun v w h => by
    have := rto_int z v w h hl
    unfold ToPost at this
    rwa [wz_eq] at this
  have H0 := Lib.hid h
  obtain ⟨p, b1, o1, c1, rfl, hr⟩ := h
  clear hr hl hs
  unfold iV at HB HT ⊢
  unfold BPost at HB
  generalize decide (z < 0) = bz at *
  generalize zb z = bb at *
  generalize zs z = s at *
  generalize (Nm.dg D9 z.natAbs).length = len at *
  obtain ⟨w0, hw0⟩ : ∃ w0 : World, w0 = (w.alloc (.cells #[.bool bz, .slice p len c1] 31)).alloc (.cells #[.bool false, .string ⟨#[]⟩] 23) := ⟨_, rfl⟩
  have hb0 : Hid (Below w.heap.size w w0) := by rw [hw0]; exact ((Below.refl _ _).alloc (Nat.le_refl _) _).alloc (by simp) _
  have R0 : Hid (Rz w0 (.slice p len c1) z) := Ri.below H0.out hb0.out (Nat.le_refl _)
  have I1 : Hid (ZC (.bool bz) (.slice p len c1) w0 w.heap.size) := by rw [hw0]; exact (ZC.new rfl).alloc _
  have I2 : Hid (ZC (.bool false) (.string ⟨#[]⟩) w0 (w.heap.size + 1)) := by rw [hw0]; exact ZC.new (by simp)
  have Hw0 := Lib.hid hw0
  clear hw0 H0
  go_enter Try.func65, Try.ntmps65
  go_wp2_with fail
  rw [← Hw0.out]
  refine (HB.out _ _ R0.out).mono ?_
  rintro e wa ⟨rfl, ba⟩
  have D := Lib.hid ba
  have R1 := Lib.hid (Ri.below R0.out ba (Nat.le_refl _))
  obtain ⟨k0, k1, _⟩ := I1.out.next ba
  clear ba
  go_wp2_with fail
  refine (HT.out _ _ R1.out).mono ?_
  rintro e wb ⟨rfl, bb2⟩
  have c := chain D.out bb2
  obtain ⟨m0, m1, m2, m3⟩ := I2.out.next c
  have HZ := Lib.hid (below_set2 (chain hb0.out c) (g := w.heap.size + 1) (by omega) (.bool bb) (.string s))
  clear bb2 c
  go_wp2
  exact bodyPost_ret (v := .tuple #[.agg #[.bool bb, .string s], .int .i64 0]) (by simp [results, Try.results65, go_sem, m0, m1]) rfl ⟨rfl, HZ.out⟩

set_option maxRecDepth 100000 in
set_option maxHeartbeats 2000000 in
theorem is_true (z : Int) (v : Value) (w : World) (h : Rz w v z) (hl : (Nm.dg D9 z.natAbs).length ≤ 1000000) (hs : (zs z).size ≤ 8192) :
    Calls Try.prog 30 #[.agg #[.bool (zb z), .string (zs z)], .int .i64 0, iV z v] w (BPost true w) := by
  have HO := Lib.hid (fun v w h => rout_int z v w h hl hs)
  have H0 := Lib.hid h
  obtain ⟨p, b1, o1, c1, rfl, hr⟩ := h
  clear hr hl hs
  unfold iV at HO ⊢
  generalize decide (z < 0) = bz at *
  generalize zb z = bb at *
  generalize zs z = s at *
  generalize (Nm.dg D9 z.natAbs).length = len at *
  obtain ⟨w0, hw0⟩ : ∃ w0 : World, w0 = (w.alloc (.cells #[.bool bb, .string s] 23)).alloc (.cells #[.bool bz, .slice p len c1] 31) := ⟨_, rfl⟩
  have hb0 : Hid (Below w.heap.size w w0) := by rw [hw0]; exact ((Below.refl _ _).alloc (Nat.le_refl _) _).alloc (by simp) _
  have R0 : Hid (Rz w0 (.slice p len c1) z) := Ri.below H0.out hb0.out (Nat.le_refl _)
  have I1 : Hid (ZC (.bool bb) (.string s) w0 w.heap.size) := by rw [hw0]; exact (ZC.new rfl).alloc _
  have Hw0 := Lib.hid hw0
  clear hw0 H0
  go_enter Try.func30, Try.ntmps30
  go_wp2_with fail
  rw [← Hw0.out]
  refine (HO.out _ _ R0.out).mono ?_
  rintro e wa ⟨rfl, ba⟩
  obtain ⟨k0, k1, _⟩ := I1.out.next ba
  have f1 : w.heap.size < wa.heap.size := World.block_lt_of_cell? wa _ k0
  have f2 : ¬ w.heap.size = wa.heap.size := by omega
  have f3 : ¬ wa.heap.size = w.heap.size := by omega
  have HZ := Lib.hid ((chain hb0.out ba).alloc (chain hb0.out ba).size (.cells #[.bool bb, .string s] 23))
  clear ba
  go_wp2
  go_ret
  exact ⟨rfl, HZ.out⟩
end Go.Proofs.Ytlmklhffafcmmaa

/- The function wide.Sub. -/
namespace Go.Proofs.Ytlmklhffafcmmaa
open Go.RowKit

set_option maxRecDepth 100000 in
set_option maxHeartbeats 1000000 in
theorem Sub_valid (a b : Bool) (s t : ByteArray) (w : World) (hv1 : vld a s = true) (hv2 : vld b t = true) :
    Calls Try.prog 28 #[.agg #[.bool a, .string s], .agg #[.bool b, .string t]] w (WPost (wres (pls a (bv s) (!b) (bv t)).1 (pls a (bv s) (!b) (bv t)).2) (werr (pls a (bv s) (!b) (bv t)).2) w) := by
  have z1 := vld_size hv1
  have z2 := vld_size hv2
  have HV1 := Valid_any a s
  have HV2 := Valid_any b t
  rw [hv1] at HV1
  rw [hv2] at HV2
  have HA := Lib.hid (fun w => HV1 w (by omega))
  have HB := Lib.hid (fun w => HV2 w (by omega))
  have HR1 := Lib.hid (fun w => read_any a s w (by omega) (vld_can hv1))
  have HR2 := Lib.hid (fun w => read_any b t w (by omega) (vld_can hv2))
  have t1 := bv_lt hv1
  have t2 := bv_lt hv2
  have HP := Lib.hid (fun v1 v2 w h1 h2 => plus_any a (!b) v1 v2 (bv s) (bv t) w h1 h2 (Nat.le_trans (len_top t1) (by decide)) (Nat.le_trans (len_top t2) (by decide)))
  have HW := Lib.hid (fun v w h => write_any (pls a (bv s) (!b) (bv t)).1 v (pls a (bv s) (!b) (bv t)).2 w h (Nat.le_trans (len_top2 (pls_lt t1 t2)) (by decide)))
  obtain ⟨rb, rs, hr⟩ := wres_form (pls a (bv s) (!b) (bv t)).1 (pls a (bv s) (!b) (bv t)).2
  rw [hr] at HW ⊢
  clear hr HV1 HV2 hv1 hv2 t1 t2
  generalize (pls a (bv s) (!b) (bv t)).1 = ra at *
  generalize (pls a (bv s) (!b) (bv t)).2 = rm at *
  generalize bv s = m at *
  generalize bv t = n at *
  generalize werr rm = rc at *
  go_enter Try.func28, Try.ntmps28
  go_wp2_with fail
  obtain ⟨w0, hw0⟩ : ∃ w0 : World, w0 = ((w.alloc (.cells #[.bool a, .string s] 23)).alloc (.cells #[.bool b, .string t] 23)).alloc (.cells #[.bool false, .string ⟨#[]⟩] 23) := ⟨_, rfl⟩
  have hb0 : Hid (Below w.heap.size w w0) := by rw [hw0]; exact (((Below.refl _ _).alloc (Nat.le_refl _) _).alloc (by simp) _).alloc (by simp; omega) _
  have k0 : w0.cell? ⟨w.heap.size, 0, none⟩ = some (.bool a) := by rw [hw0]; simp [go_sem]
  have k1 : w0.cell? ⟨w.heap.size, 1, none⟩ = some (.string s) := by rw [hw0]; simp [go_sem]
  have k2 : w0.cell? ⟨w.heap.size + 1, 0, none⟩ = some (.bool b) := by rw [hw0]; simp [go_sem]
  have k3 : w0.cell? ⟨w.heap.size + 1, 1, none⟩ = some (.string t) := by rw [hw0]; simp [go_sem]
  have k4 : w0.cell? ⟨w.heap.size + 1 + 1, 0, none⟩ = some (.bool false) := by rw [hw0]; simp [go_sem]
  have k5 : w0.cell? ⟨w.heap.size + 1 + 1, 1, none⟩ = some (.string ⟨#[]⟩) := by rw [hw0]; simp [go_sem]
  have k6 : w0.frozen? ⟨w.heap.size + 1 + 1, 0, none⟩ = false := by rw [hw0]; simp [go_sem]
  have k7 : w0.frozen? ⟨w.heap.size + 1 + 1, 1, none⟩ = false := by rw [hw0]; simp [go_sem]
  have hsz : w0.heap.size = w.heap.size + 3 := by rw [hw0]; simp
  rw [← hw0]
  have KK := Lib.hid (And.intro k0 (And.intro k1 (And.intro k2 (And.intro k3 (And.intro k4 (And.intro k5 (And.intro k6 k7)))))))
  have Hsz := Lib.hid hsz
  clear k0 k1 k2 k3 k4 k5 k6 k7 hw0 hsz
  refine (HA.out _).mono ?_
  rintro e wa ⟨rfl, hba⟩
  have q2 := keep1 hba KK.out.2.2.1
  have q3 := keep1 hba KK.out.2.2.2.1
  have HBa := Lib.hid hba
  clear hba
  go_wp2_with fail
  refine (HB.out _).mono ?_
  rintro e wb ⟨rfl, hbb⟩
  have hbc := chain HBa.out hbb
  have k0 := keep1 hbc KK.out.1
  have k1 := keep1 hbc KK.out.2.1
  have k2 := keep1 hbc KK.out.2.2.1
  have k3 := keep1 hbc KK.out.2.2.2.1
  have k4 := keep1 hbc KK.out.2.2.2.2.1
  have k5 := keep1 hbc KK.out.2.2.2.2.2.1
  have k6 := keepf hbc KK.out.2.2.2.2.1 KK.out.2.2.2.2.2.2.1
  have k7 := keepf hbc KK.out.2.2.2.2.2.1 KK.out.2.2.2.2.2.2.2
  have HBc := Lib.hid hbc
  have n1 : ¬ (w.heap.size = w.heap.size + 1 + 1) := by omega
  have n2 : ¬ (w.heap.size + 1 + 1 = w.heap.size) := by omega
  clear q2 q3 hbb hbc
  go_wp2_with fail
  go_region_held3 (fun W' => W'.cell? ⟨w.heap.size, 0, none⟩ = some (.bool a) ∧ W'.cell? ⟨w.heap.size, 1, none⟩ = some (.string s) ∧ W'.cell? ⟨w.heap.size + 1, 0, none⟩ = some (.bool b) ∧ W'.cell? ⟨w.heap.size + 1, 1, none⟩ = some (.string t)) (go_keep)
    (first
      | (go_at_call 63; (with_reducible refine (HR1.out _).mono ?_); rintro e w1 ⟨v1, rfl, r1, b1⟩; have c1 := chain ((Below.refl _ _).drew) b1; have p0 := keep1 c1 k0; have p1 := keep1 c1 k1; have p2 := keep1 c1 k2; have p3 := keep1 c1 k3; have G1 := Lib.hid (And.intro r1 c1); clear r1 b1 c1)
      | (go_at_call 63; (with_reducible refine (HR2.out _).mono ?_); rintro e w2 ⟨v2, rfl, r2, b2⟩; have c2 := chain G1.out.2 b2; have p0 := keep1 c2 k0; have p1 := keep1 c2 k1; have p2 := keep1 c2 k2; have p3 := keep1 c2 k3; have G2 := Lib.hid (And.intro (G1.out.1.below b2 (Nat.le_refl _)) (And.intro r2 c2)); clear r2 b2 c2)
      | (go_at_call 64; (with_reducible refine (negative_any _ _ _ _ G2.out.2.1).mono ?_); rintro e w5 ⟨v5, rfl, r5, b5⟩; have c5 := chain G2.out.2.2 b5; have p0 := keep1 c5 k0; have p1 := keep1 c5 k1; have p2 := keep1 c5 k2; have p3 := keep1 c5 k3; have G5 := Lib.hid (And.intro (G2.out.1.below b5 (Nat.le_refl _)) (And.intro r5 c5)); clear r5 b5 c5)
      | (go_at_call 62; (with_reducible refine (HP.out _ _ _ G5.out.1 G5.out.2.1).mono ?_); rintro e w3 ⟨v3, rfl, r3, b3⟩; have c3 := chain G5.out.2.2 b3; have p0 := keep1 c3 k0; have p1 := keep1 c3 k1; have p2 := keep1 c3 k2; have p3 := keep1 c3 k3; have G3 := Lib.hid (And.intro r3 c3); clear r3 b3 c3)
      | (go_at_call 61; (with_reducible refine (HW.out _ _ G3.out.1).mono ?_); rintro e w4 ⟨rfl, b4⟩; have c4 := chain G3.out.2 b4; have p0 := keep1 c4 k0; have p1 := keep1 c4 k1; have p2 := keep1 c4 k2; have p3 := keep1 c4 k3; have p4 := keep1 c4 k4; have p5 := keep1 c4 k5; have p6 := keepf c4 k4 k6; have p7 := keepf c4 k5 k7; have G4 := Lib.hid c4; clear b4 c4))
  have HZ := Lib.hid (((chain (chain hb0.out HBc.out) G4.out).setCell (p := ⟨w.heap.size + 1 + 1, 0, none⟩) (by simp; omega) (.bool rb)).setCell (p := ⟨w.heap.size + 1 + 1, 1, none⟩) (by simp; omega) (.string rs))
  go_wp2
  exact bodyPost_ret (v := .tuple #[.agg #[.bool rb, .string rs], .int .i64 rc]) (by simp [results, Try.results28, go_sem, p4, p5]) rfl ⟨rfl, HZ.out⟩

set_option maxRecDepth 100000 in
set_option maxHeartbeats 1000000 in
theorem Sub_invalid (a b : Bool) (s t : ByteArray) (w : World) (z1 : s.size ≤ 140737488351232) (z2 : t.size ≤ 140737488351232) (hv : (vld a s && vld b t) = false) :
    Calls Try.prog 28 #[.agg #[.bool a, .string s], .agg #[.bool b, .string t]] w (WPost (wd false 0) 2 w) := by
  have HA := Lib.hid (fun w => Valid_any a s w z1)
  have HB := Lib.hid (fun w => Valid_any b t w z2)
  cases h1 : vld a s with
  | false =>
    rw [h1] at HA
    clear h1 hv
    go_enter Try.func28, Try.ntmps28
    go_wp2_with fail
    refine (HA.out _).mono ?_
    rintro e wa ⟨rfl, hba⟩
    have k4 := keep1 hba (p := ⟨w.heap.size + 1 + 1, 0, none⟩) (v := .bool false) (by simp [go_sem])
    have k5 := keep1 hba (p := ⟨w.heap.size + 1 + 1, 1, none⟩) (v := .string ⟨#[]⟩) (by simp [go_sem])
    have k6 := keepf hba (p := ⟨w.heap.size + 1 + 1, 0, none⟩) (v := .bool false) (by simp [go_sem]) (by simp [go_sem])
    have k7 := keepf hba (p := ⟨w.heap.size + 1 + 1, 1, none⟩) (v := .string ⟨#[]⟩) (by simp [go_sem]) (by simp [go_sem])
    have HZ := Lib.hid (((chain ((((Below.refl w.heap.size w).alloc (Nat.le_refl _) _).alloc (by simp) _).alloc (by simp; omega) _) hba).setCell (p := ⟨w.heap.size + 1 + 1, 0, none⟩) (by simp; omega) (.bool false)).setCell (p := ⟨w.heap.size + 1 + 1, 1, none⟩) (by simp; omega) (.string ⟨#[]⟩))
    clear hba
    go_wp2
    exact bodyPost_ret (v := .tuple #[.agg #[.bool false, .string ⟨#[]⟩], .int .i64 2]) (by simp [results, Try.results28, go_sem, k4, k5]) rfl ⟨by rw [wd, bs_zero]; simp, HZ.out⟩
  | true =>
    have h2 : vld b t = false := by rw [h1] at hv; simpa using hv
    rw [h1] at HA
    rw [h2] at HB
    clear h1 hv h2
    go_enter Try.func28, Try.ntmps28
    go_wp2_with fail
    refine (HA.out _).mono ?_
    rintro e wa ⟨rfl, hba⟩
    have k2 := keep1 hba (p := ⟨w.heap.size + 1, 0, none⟩) (v := .bool b) (by simp [go_sem])
    have k3 := keep1 hba (p := ⟨w.heap.size + 1, 1, none⟩) (v := .string t) (by simp [go_sem])
    have j4 := keep1 hba (p := ⟨w.heap.size + 1 + 1, 0, none⟩) (v := .bool false) (by simp [go_sem])
    have j5 := keep1 hba (p := ⟨w.heap.size + 1 + 1, 1, none⟩) (v := .string ⟨#[]⟩) (by simp [go_sem])
    have j6 := keepf hba (p := ⟨w.heap.size + 1 + 1, 0, none⟩) (v := .bool false) (by simp [go_sem]) (by simp [go_sem])
    have j7 := keepf hba (p := ⟨w.heap.size + 1 + 1, 1, none⟩) (v := .string ⟨#[]⟩) (by simp [go_sem]) (by simp [go_sem])
    have HBa := Lib.hid (chain ((((Below.refl w.heap.size w).alloc (Nat.le_refl _) _).alloc (by simp) _).alloc (by simp; omega) _) hba)
    have J := Lib.hid (And.intro j4 (And.intro j5 (And.intro j6 j7)))
    clear hba j4 j5 j6 j7
    go_wp2_with fail
    refine (HB.out _).mono ?_
    rintro e wb ⟨rfl, hbb⟩
    have k4 := keep1 hbb J.out.1
    have k5 := keep1 hbb J.out.2.1
    have k6 := keepf hbb J.out.1 J.out.2.2.1
    have k7 := keepf hbb J.out.2.1 J.out.2.2.2
    have HZ := Lib.hid (((chain HBa.out hbb).setCell (p := ⟨w.heap.size + 1 + 1, 0, none⟩) (by simp; omega) (.bool false)).setCell (p := ⟨w.heap.size + 1 + 1, 1, none⟩) (by simp; omega) (.string ⟨#[]⟩))
    clear hbb k2 k3
    go_wp2
    exact bodyPost_ret (v := .tuple #[.agg #[.bool false, .string ⟨#[]⟩], .int .i64 2]) (by simp [results, Try.results28, go_sem, k4, k5]) rfl ⟨by rw [wd, bs_zero]; simp, HZ.out⟩
end Go.Proofs.Ytlmklhffafcmmaa

/- The law WideSums gives true. -/
namespace Go.Proofs.Ytlmklhffafcmmaa
open Go.RowKit

theorem lt_topk {n k : Nat} (hk : 8 * k ≤ 65536) (h : n < 256 ^ k) : n < Top := by
  rw [pow_256] at h
  exact Nat.lt_of_lt_of_le h (Nat.pow_le_pow_right (by decide) (by rw [TopBits_eq]; exact hk))
theorem lt61 {n : Nat} (h : n < 256 ^ 61) : n < Top := lt_topk (by decide) h
theorem wd_sg (a : Bool) (m : Nat) : wd a m = .agg #[.bool (zb (sg a m)), .string (zs (sg a m))] := by
  have e1 : (sg a m).natAbs = m := by unfold sg; split <;> omega
  have e2 : zb (sg a m) = (a && decide (m ≠ 0)) := by
    unfold zb sg
    cases a with
    | false => rw [if_neg (by simp), Bool.false_and]; exact decide_eq_false (by omega)
    | true =>
      rw [if_pos rfl, Bool.true_and]
      by_cases h : m = 0
      · subst h; rfl
      · rw [decide_eq_true (by omega : -(m : Int) < 0), decide_eq_true h]
  rw [wd, zs, e1, e2]
theorem pls_sg (a b : Bool) (m n : Nat) : sg (pls a m b n).1 (pls a m b n).2 = sg a m + sg b n := by
  unfold pls
  split
  · next h => subst h; cases a <;> simp [sg]; omega
  · next h =>
    split
    · cases a <;> cases b <;> simp_all [sg] <;> omega
    · cases a <;> cases b <;> simp_all [sg] <;> omega
theorem pls_le (a b : Bool) (m n : Nat) : (pls a m b n).2 ≤ m + n := by
  unfold pls
  split
  · exact Nat.le_refl _
  · split
    · show n - m ≤ m + n; omega
    · show m - n ≤ m + n; omega
theorem sg_not (a : Bool) (m : Nat) : sg (!a) m = -(sg a m) := by cases a <;> simp [sg]
theorem bv60 {s : ByteArray} {k : Nat} (hk : k = 60) (hs : s.size ≤ 60) : bv s < 256 ^ k := by
  subst hk
  have h5 := Nm.val_lt (dig_rev s)
  rw [rev_length] at h5
  exact Nat.lt_of_lt_of_le h5 (Nat.pow_le_pow_right (by decide) hs)
theorem sum61 {m n j k : Nat} (hj : j = 60) (hk : k = 61) (h1 : m < 256 ^ j) (h2 : n < 256 ^ j) : m + n < 256 ^ k := by
  subst hk
  subst hj
  have : (256 : Nat) ^ 61 = 256 * 256 ^ 60 := by rw [Nat.pow_succ, Nat.mul_comm]
  rw [this]
  generalize (256 : Nat) ^ 60 = p at *
  omega
/-- The size of a sum of two short integers. -/
theorem sum_small {a b : Bool} {s t : ByteArray} (z1 : s.size ≤ 60) (z2 : t.size ≤ 60) (z : Int) (hz : z.natAbs ≤ bv s + bv t) : z.natAbs < Top ∧ (Nm.dg D9 z.natAbs).length ≤ 1000000 ∧ (zs z).size ≤ 8192 := by
  have h := sum61 rfl rfl (bv60 rfl z1) (bv60 rfl z2)
  have h2 : z.natAbs < 256 ^ 61 := Nat.lt_of_le_of_lt hz h
  exact ⟨lt61 h2, Nat.le_trans (dg9_256 h2) (by decide), zs_size (lt61 h2)⟩
theorem add_z {a b : Bool} {s t : ByteArray} (h1 : vld a s = true) (h2 : vld b t = true) (z1 : s.size ≤ 60) (z2 : t.size ≤ 60) (w : World) :
    Calls Try.prog 27 #[.agg #[.bool a, .string s], .agg #[.bool b, .string t]] w fun e w' => e = .returned (.tuple #[.agg #[.bool (zb (sg a (bv s) + sg b (bv t))), .string (zs (sg a (bv s) + sg b (bv t)))], .int .i64 0]) ∧ Below w.heap.size w w' := by
  have h := Add_valid a b s t w h1 h2
  have ht : (pls a (bv s) b (bv t)).2 < Top := lt61 (Nat.lt_of_le_of_lt (pls_le a b (bv s) (bv t)) (sum61 rfl rfl (bv60 rfl z1) (bv60 rfl z2)))
  unfold WPost at h
  rwa [wres_ok _ ht, werr_ok ht, wd_sg, pls_sg] at h
theorem sub_z {a b : Bool} {s t : ByteArray} (h1 : vld a s = true) (h2 : vld b t = true) (z1 : s.size ≤ 60) (z2 : t.size ≤ 60) (w : World) :
    Calls Try.prog 28 #[.agg #[.bool a, .string s], .agg #[.bool b, .string t]] w fun e w' => e = .returned (.tuple #[.agg #[.bool (zb (sg a (bv s) - sg b (bv t))), .string (zs (sg a (bv s) - sg b (bv t)))], .int .i64 0]) ∧ Below w.heap.size w w' := by
  have h := Sub_valid a b s t w h1 h2
  have ht : (pls a (bv s) (!b) (bv t)).2 < Top := lt61 (Nat.lt_of_le_of_lt (pls_le a (!b) (bv s) (bv t)) (sum61 rfl rfl (bv60 rfl z1) (bv60 rfl z2)))
  unfold WPost at h
  rw [wres_ok _ ht, werr_ok ht, wd_sg, pls_sg, sg_not, ← Int.sub_eq_add_neg] at h
  exact h
theorem neg_z {a : Bool} {s : ByteArray} (h1 : vld a s = true) (z1 : s.size ≤ 60) (w : World) :
    Calls Try.prog 26 #[.agg #[.bool a, .string s]] w fun e w' => e = .returned (.tuple #[.agg #[.bool (zb (-(sg a (bv s)))), .string (zs (-(sg a (bv s))))], .int .i64 0]) ∧ Below w.heap.size w w' := by
  have h := Neg_any a s w (by omega)
  unfold WPost at h
  rw [if_pos h1, if_pos h1, wd_sg, sg_not] at h
  exact h
theorem sg_abs (a : Bool) (m : Nat) : (sg a m).natAbs = m := by unfold sg; split <;> omega
theorem is_z {a b : Bool} {s t : ByteArray} (z1 : s.size ≤ 60) (z2 : t.size ≤ 60) (z : Int) (hz : z.natAbs ≤ bv s + bv t) (v : Value) (w : World) (h : Rz w v z) :
    Calls Try.prog 30 #[.agg #[.bool (zb z), .string (zs z)], .int .i64 0, iV z v] w (BPost true w) := by
  obtain ⟨_, l1, l2⟩ := sum_small (a := a) (b := b) z1 z2 z hz
  exact is_true z v w h l1 l2

theorem WL.drew {w : World} {g : Nat} {L : List (Bool × ByteArray)} (h : WL w g L) : WL w.drew g L := h
theorem far7 {a x : Nat} (h : a + 3 ≤ x) : ¬(x = a) ∧ ¬(x = a+1) ∧ ¬(a = x) ∧ ¬(a+1 = x) ∧ ¬(x+1 = a) ∧ ¬(a = x+1) ∧ a < x ∧ a+1 < x := ⟨by omega, by omega, by omega, by omega, by omega, by omega, by omega, by omega⟩
def CutI (x1 x2 s1 s2 : Value) (X1 X2 : List Nat) (B : Nat) (wb wx : World) (g7 g8 : Nat) : Prop := (B ≤ g7 ∧ B ≤ g8) ∧ ZC x1 s1 wx g7 ∧ ZC x2 s2 wx g8 ∧ Ri wx s1 X1 ∧ Ri wx s2 X2 ∧ Below B wb wx
theorem Ri.setz {w : World} {v : Value} {xs : List Nat} {b0 : Bool} {p : Option Addr} {n c : Nat} {g : Nat} (h : Ri w v xs) (z : ZC (.bool b0) (.slice p n c) w g) (u u' : Value) : Ri ((w.setCell ⟨g, 0, none⟩ u).setCell ⟨g, 1, none⟩ u') v xs := h.set2 z.1 z.2.1 (fun _ => by simp)
section
variable {x1 x2 e1 e2 u1 u2 : Value} {X1 X2 : List Nat} {B : Nat} {wb w3 : World} {t : TypeId} {b0 b1 : Bool} {p p' : Option Addr} {n c n' c' g g' : Nat}
theorem CutI.s1 (r1 : Ri w3 e1 X1) (r2 : Ri w3 e2 X2) (b : Below B wb w3) (hB : B ≤ w3.heap.size) : CutI x1 x2 e1 e2 X1 X2 B wb ((w3.alloc (.cells #[x1, e1] t)).alloc (.cells #[x2, e2] t)) w3.heap.size (w3.heap.size + 1) :=
  ⟨⟨hB, by omega⟩, (ZC.new rfl).alloc _, ZC.new (by simp), (r1.allocd _).allocd _, (r2.allocd _).allocd _, (b.alloc hB _).alloc (by simp; omega) _⟩
theorem CutI.s2 (r1 : Ri w3 e1 X1) (r2 : Ri w3 e2 X2) (b : Below B wb w3) (hB : B ≤ w3.heap.size) : CutI x1 x2 e1 e2 X1 X2 B wb ((w3.alloc (.cells #[x2, e2] t)).alloc (.cells #[x1, e1] t)) (w3.heap.size + 1) w3.heap.size :=
  ⟨⟨by omega, hB⟩, ZC.new (by simp), (ZC.new rfl).alloc _, (r1.allocd _).allocd _, (r2.allocd _).allocd _, (b.alloc hB _).alloc (by simp; omega) _⟩
theorem CutI.s3 (z : ZC (.bool b0) (.slice p n c) w3 g) (hg : B ≤ g) (r1 : Ri w3 e1 X1) (r2 : Ri w3 e2 X2) (b : Below B wb w3) (hB : B ≤ w3.heap.size) :
    CutI x1 x2 e1 e2 X1 X2 B wb (((w3.setCell ⟨g, 0, none⟩ x1).setCell ⟨g, 1, none⟩ e1).alloc (.cells #[x2, e2] t)) g w3.heap.size :=
  ⟨⟨hg, hB⟩, z.set.alloc _, ZC.new (by simp), (r1.setz z _ _).allocd _, (r2.setz z _ _).allocd _, (below_set2 b hg _ _).alloc (by simpa using hB) _⟩
theorem CutI.s4 (z : ZC (.bool b0) (.slice p n c) w3 g) (hg : B ≤ g) (r1 : Ri w3 e1 X1) (r2 : Ri w3 e2 X2) (b : Below B wb w3) (hB : B ≤ w3.heap.size) :
    CutI x1 x2 e1 e2 X1 X2 B wb (((w3.setCell ⟨g, 0, none⟩ x2).setCell ⟨g, 1, none⟩ e2).alloc (.cells #[x1, e1] t)) w3.heap.size g :=
  ⟨⟨hB, hg⟩, ZC.new (by simp), z.set.alloc _, (r1.setz z _ _).allocd _, (r2.setz z _ _).allocd _, (below_set2 b hg _ _).alloc (by simpa using hB) _⟩
theorem CutI.s5 (z : ZC (.bool b0) (.slice p n c) w3 g) (hg : B ≤ g) (z' : ZC (.bool b1) (.slice p' n' c') w3 g') (hg' : B ≤ g') (hn : ¬ g = g') (r1 : Ri w3 e1 X1) (r2 : Ri w3 e2 X2) (b : Below B wb w3) :
    CutI x1 x2 e1 e2 X1 X2 B wb ((((w3.setCell ⟨g, 0, none⟩ x1).setCell ⟨g, 1, none⟩ e1).setCell ⟨g', 0, none⟩ x2).setCell ⟨g', 1, none⟩ e2) g g' :=
  have zz := z'.other (u := x1) (v := e1) (fun e => hn e.symm)
  ⟨⟨hg, hg'⟩, z.set.other hn, zz.set, (r1.setz z _ _).setz zz _ _, (r2.setz z _ _).setz zz _ _, below_set2 (below_set2 b hg _ _) hg' _ _⟩
end

theorem wd_none : wd false 0 = .agg #[.bool false, .string ⟨#[]⟩] := by rw [wd, bs_zero]; simp

set_option maxRecDepth 100000 in
set_option maxHeartbeats 8000000 in
theorem sums_long (a b : Bool) (s t : ByteArray) (w : World) (hs : ¬ (s.size ≤ 60 ∧ t.size ≤ 60)) :
    Calls Try.prog 5 #[.agg #[.bool a, .string s], .agg #[.bool b, .string t]] w (Ret (.bool true) w) := by
  have H_known := Lib.hid known_true
  obtain ⟨w0, hw0⟩ : ∃ w0 : World, w0 = ((w.alloc (.cells #[.bool a, .string s] 23)).alloc (.cells #[.bool b, .string t] 23)).alloc (.cells #[.bool a, .string s, .bool b, .string t] 23) := ⟨_, rfl⟩
  have hb0 : Hid (Below w.heap.size w w0) := by rw [hw0]; exact (((Below.refl _ _).alloc (Nat.le_refl _) _).alloc (by simp) _).alloc (by simp; omega) _
  have I1 : Hid (ZC (.bool a) (.string s) w0 w.heap.size) := by rw [hw0]; exact ((ZC.new rfl).alloc _).alloc _
  have I2 : Hid (ZC (.bool b) (.string t) w0 (w.heap.size + 1)) := by rw [hw0]; exact (ZC.new (by simp)).alloc _
  have HSH := short_any [(a, s), (b, t)] 2 (w.heap.size + 1 + 1) w0 rfl (by decide) (by rw [hw0]; have := WL.two ((w.alloc (.cells #[.bool a, .string s] 23)).alloc (.cells #[.bool b, .string t] 23)) a b s t 23; simpa using this)
  rw [short2_false hs] at HSH
  have HSh := Lib.hid HSH
  have Hw0 := Lib.hid hw0
  clear HSH hw0
  unfold Ret at *
  unfold BPost at HSh
  go_enter Try.func5, Try.ntmps5
  go_wp2_with fail
  rw [← Hw0.out]
  refine HSh.out.mono ?_
  rintro e x0 ⟨rfl, b0⟩
  have D := Lib.hid b0
  clear b0
  go_wp2_with fail
  refine (H_known.out _).mono ?_
  rintro e x1 ⟨rfl, b1⟩
  have HZ := Lib.hid (chain hb0.out (chain D.out b1))
  clear b1
  go_wp2
  go_ret
  exact ⟨rfl, HZ.out⟩
end Go.Proofs.Ytlmklhffafcmmaa

/- The law WideSums gives true: the first one is not valid. -/
namespace Go.Proofs.Ytlmklhffafcmmaa
open Go.RowKit

set_option maxRecDepth 100000 in
set_option maxHeartbeats 8000000 in
theorem sums_bad1 (a b : Bool) (s t : ByteArray) (w : World) (z1 : s.size ≤ 60) (z2 : t.size ≤ 60) (hv : vld a s = false) :
    Calls Try.prog 5 #[.agg #[.bool a, .string s], .agg #[.bool b, .string t]] w (Ret (.bool true) w) := by
  have H_known := Lib.hid known_true
  obtain ⟨w0, hw0⟩ : ∃ w0 : World, w0 = ((w.alloc (.cells #[.bool a, .string s] 23)).alloc (.cells #[.bool b, .string t] 23)).alloc (.cells #[.bool a, .string s, .bool b, .string t] 23) := ⟨_, rfl⟩
  have hb0 : Hid (Below w.heap.size w w0) := by rw [hw0]; exact (((Below.refl _ _).alloc (Nat.le_refl _) _).alloc (by simp) _).alloc (by simp; omega) _
  have I1 : Hid (ZC (.bool a) (.string s) w0 w.heap.size) := by rw [hw0]; exact ((ZC.new rfl).alloc _).alloc _
  have I2 : Hid (ZC (.bool b) (.string t) w0 (w.heap.size + 1)) := by rw [hw0]; exact (ZC.new (by simp)).alloc _
  have HSH := short_any [(a, s), (b, t)] 2 (w.heap.size + 1 + 1) w0 rfl (by decide) (by rw [hw0]; have := WL.two ((w.alloc (.cells #[.bool a, .string s] 23)).alloc (.cells #[.bool b, .string t] 23)) a b s t 23; simpa using this)
  rw [short2_true z1 z2] at HSH
  have H_val2 := Lib.hid (fun g w h => valid_any [(a, s), (b, t)] 2 g w rfl (by decide) h (by intro x hx; simp at hx; rcases hx with rfl | rfl <;> (show _ ≤ _; simp; omega)))
  have H_val := Lib.hid (fun g w h => valid_any [(a, s)] 1 g w rfl (by decide) h (by intro x hx; simp at hx; subst hx; show _ ≤ _; simp; omega))
  have v1 : validL [(a, s)] = false := by simp [validL, hv]
  have v2 : validL [(a, s), (b, t)] = false := by simp [validL, hv]
  rw [v1] at H_val
  rw [v2] at H_val2
  have H_neg := Lib.hid (fun w => Neg_any a s w (by omega))
  rw [hv, if_neg (by simp), if_neg (by simp), wd_none] at H_neg
  have H_add := Lib.hid (fun w => Add_invalid a b s t w (by omega) (by omega) (by rw [hv]; rfl))
  have H_sub := Lib.hid (fun w => Sub_invalid a b s t w (by omega) (by omega) (by rw [hv]; rfl))
  rw [wd_none] at H_add H_sub
  unfold WPost at H_neg H_add H_sub
  unfold BPost at H_val H_val2
  clear hv v1 v2
  have HSh := Lib.hid HSH
  have Hw0 := Lib.hid hw0
  clear HSH hw0
  unfold Ret at *
  unfold BPost at HSh
  go_enter Try.func5, Try.ntmps5
  go_wp2_with fail
  rw [← Hw0.out]
  refine HSh.out.mono ?_
  rintro e x0 ⟨rfl, b0⟩
  have D := Lib.hid b0
  clear b0
  obtain ⟨k0, k1, _⟩ := I1.out.next D.out
  obtain ⟨k2, k3, _⟩ := I2.out.next D.out
  go_wp2_with fail
  skip
  refine (H_neg.out _).mono ?_
  rintro e y5 ⟨rfl, b9⟩
  obtain ⟨n0, n1, _⟩ := I1.out.next (chain D.out b9)
  obtain ⟨n2, n3, _⟩ := I2.out.next (chain D.out b9)
  have j1 : w.heap.size < y5.heap.size := World.block_lt_of_cell? _ _ n0
  have j2 : w.heap.size + 1 < y5.heap.size := World.block_lt_of_cell? _ _ n2
  have j3 : ¬ w.heap.size = y5.heap.size := Nat.ne_of_lt j1
  have j4 : ¬ w.heap.size + 1 = y5.heap.size := Nat.ne_of_lt j2
  obtain ⟨u5, hu5⟩ : ∃ u : World, u = y5.alloc (.cells #[.bool false, .string ⟨#[]⟩] 23) := ⟨_, rfl⟩
  have E : Hid (Below x0.heap.size x0 u5) := by rw [hu5]; exact b9.alloc b9.size _
  have D := Lib.hid (chain D.out E.out)
  have T5 : Hid (ZC (.bool false) (.string ⟨#[]⟩) u5 y5.heap.size) := by rw [hu5]; exact ZC.new rfl
  have Hu5 := Lib.hid hu5
  clear hu5 b9 E
  obtain ⟨k0, k1, _⟩ := I1.out.next D.out
  obtain ⟨k2, k3, _⟩ := I2.out.next D.out
  go_wp2_with fail
  rw [← Hu5.out]
  clear Hu5
  refine (H_add.out _).mono ?_
  rintro e y7 ⟨rfl, b9⟩
  obtain ⟨n0, n1, _⟩ := I1.out.next (chain D.out b9)
  obtain ⟨n2, n3, _⟩ := I2.out.next (chain D.out b9)
  have j1 : w.heap.size < y7.heap.size := World.block_lt_of_cell? _ _ n0
  have j2 : w.heap.size + 1 < y7.heap.size := World.block_lt_of_cell? _ _ n2
  have j3 : ¬ w.heap.size = y7.heap.size := Nat.ne_of_lt j1
  have j4 : ¬ w.heap.size + 1 = y7.heap.size := Nat.ne_of_lt j2
  obtain ⟨u7, hu7⟩ : ∃ u : World, u = y7.alloc (.cells #[.bool false, .string ⟨#[]⟩] 23) := ⟨_, rfl⟩
  have E : Hid (Below u5.heap.size u5 u7) := by rw [hu7]; exact b9.alloc b9.size _
  have D := Lib.hid (chain D.out E.out)
  have T5 := Lib.hid (T5.out.next E.out)
  have T7 : Hid (ZC (.bool false) (.string ⟨#[]⟩) u7 y7.heap.size) := by rw [hu7]; exact ZC.new rfl
  have Hu7 := Lib.hid hu7
  clear hu7 b9 E
  obtain ⟨k0, k1, _⟩ := I1.out.next D.out
  obtain ⟨k2, k3, _⟩ := I2.out.next D.out
  go_wp2_with fail
  rw [← Hu7.out]
  clear Hu7
  refine (H_sub.out _).mono ?_
  rintro e y9 ⟨rfl, b9⟩
  obtain ⟨n0, n1, _⟩ := I1.out.next (chain D.out b9)
  obtain ⟨n2, n3, _⟩ := I2.out.next (chain D.out b9)
  have j1 : w.heap.size < y9.heap.size := World.block_lt_of_cell? _ _ n0
  have j2 : w.heap.size + 1 < y9.heap.size := World.block_lt_of_cell? _ _ n2
  have j3 : ¬ w.heap.size = y9.heap.size := Nat.ne_of_lt j1
  have j4 : ¬ w.heap.size + 1 = y9.heap.size := Nat.ne_of_lt j2
  obtain ⟨u9, hu9⟩ : ∃ u : World, u = y9.alloc (.cells #[.bool false, .string ⟨#[]⟩] 23) := ⟨_, rfl⟩
  have E : Hid (Below u7.heap.size u7 u9) := by rw [hu9]; exact b9.alloc b9.size _
  have D := Lib.hid (chain D.out E.out)
  have T5 := Lib.hid (T5.out.next E.out)
  have T7 := Lib.hid (T7.out.next E.out)
  have T9 : Hid (ZC (.bool false) (.string ⟨#[]⟩) u9 y9.heap.size) := by rw [hu9]; exact ZC.new rfl
  have Hu9 := Lib.hid hu9
  clear hu9 b9 E
  obtain ⟨k0, k1, _⟩ := I1.out.next D.out
  obtain ⟨k2, k3, _⟩ := I2.out.next D.out
  obtain ⟨k4, k5, _⟩ := T5.out
  have l1 : Hid (w.heap.size < u9.heap.size) := World.block_lt_of_cell? u9 _ k0
  have l2 : Hid (y5.heap.size < u9.heap.size) := World.block_lt_of_cell? u9 _ k4
  have l1b := l1.out
  have l2b := l2.out
  have g1 : ¬ w.heap.size = u9.heap.size := Nat.ne_of_lt l1b
  have g2 : ¬ u9.heap.size = w.heap.size := Nat.ne_of_gt l1b
  have g3 : ¬ y5.heap.size = u9.heap.size := Nat.ne_of_lt l2b
  have g4 : ¬ u9.heap.size = y5.heap.size := Nat.ne_of_gt l2b
  go_upto_region 6 with (fail)
  rw [← Hu9.out]
  clear Hu9
  go_cut [62] (fun sv wx => sv = .bool false ∧ Hid (Below u9.heap.size u9 wx))
  case first =>
    rename_i J0 K0 hRJ hMK
    have hud : undef = Value.tuple #[] := rfl
    first
    | (go_region_with
        (first
          | (go_at_call 29; (with_reducible refine (H_val.out _ _ (by first | exact WL.one _ _ _ _ | exact WL.drew (WL.one _ _ _ _))).mono ?_); rintro e y ⟨rfl, b9⟩; have E := Lib.hid (show Below u9.heap.size u9 y by first | exact chain (E.out.alloc E.out.size _) b9 | exact chain E.out b9 | exact chain ((below_one u9 _).drew) b9 | exact chain (((Below.refl u9.heap.size u9).drew).alloc (Nat.le_refl _) _) b9 | exact chain ((Below.refl u9.heap.size u9).drew) b9); have p0 := keep1 E.out k0; have p1 := keep1 E.out k1; have p4 := keep1 E.out k4; have p5 := keep1 E.out k5; have f1 : w.heap.size < y.heap.size := Nat.lt_of_lt_of_le l1.out E.out.size; have f2 : ¬ w.heap.size = y.heap.size := Nat.ne_of_lt f1; have f3 : ¬ y.heap.size = w.heap.size := Nat.ne_of_gt f1; have f4 : y5.heap.size < y.heap.size := Nat.lt_of_lt_of_le l2.out E.out.size; have f5 : ¬ y5.heap.size = y.heap.size := Nat.ne_of_lt f4; have f6 : ¬ y.heap.size = y5.heap.size := Nat.ne_of_gt f4;  clear b9)
          | fail))
    | fail
    all_goals
      refine hMK _ _ (Met.intro (hRJ _ _ ?_))
      (repeat apply Exists.intro)
      refine ⟨?_, rfl⟩
      exact ⟨rfl, E⟩
  obtain ⟨rfl, E⟩ := hcut
  obtain ⟨y, hy⟩ : ∃ y : World, y = wc := ⟨_, rfl⟩
  subst hy
  clear k0 k1 k4 k5 l1 l2 l1b l2b g1 g2 g3 g4
  have D := Lib.hid (chain D.out E.out)
  have T7 := Lib.hid (T7.out.next E.out)
  have T9 := Lib.hid (T9.out.next E.out)
  clear T5 E
  obtain ⟨k0, k1, _⟩ := I1.out.next D.out
  obtain ⟨k2, k3, _⟩ := I2.out.next D.out
  go_wp2_with fail
  refine (H_val2.out _ _ (WL.two _ _ _ _ _ _)).mono ?_
  rintro e yv ⟨rfl, b9⟩
  have E := Lib.hid (chain (below_one y _) b9)
  have D := Lib.hid (chain D.out E.out)
  have T7 := Lib.hid (T7.out.next E.out)
  have T9 := Lib.hid (T9.out.next E.out)
  clear b9 E
  obtain ⟨k0, k1, _⟩ := I1.out.next D.out
  obtain ⟨k2, k3, _⟩ := I2.out.next D.out
  obtain ⟨k4, k5, _⟩ := T7.out
  obtain ⟨k6, k7, _⟩ := T9.out
  go_wp2_with fail
  refine (H_known.out _).mono ?_
  rintro e x1 ⟨rfl, b1⟩
  have HZ := Lib.hid (chain hb0.out (chain D.out b1))
  clear b1
  go_wp2
  go_ret
  exact ⟨rfl, HZ.out⟩
end Go.Proofs.Ytlmklhffafcmmaa

/- The law WideSums gives true: the second one is not valid. -/
namespace Go.Proofs.Ytlmklhffafcmmaa
open Go.RowKit

set_option maxRecDepth 100000 in
set_option maxHeartbeats 8000000 in
theorem sums_bad2 (a b : Bool) (s t : ByteArray) (w : World) (z1 : s.size ≤ 60) (z2 : t.size ≤ 60) (hv : vld a s = true) (hv2 : vld b t = false) :
    Calls Try.prog 5 #[.agg #[.bool a, .string s], .agg #[.bool b, .string t]] w (Ret (.bool true) w) := by
  have H_known := Lib.hid known_true
  obtain ⟨w0, hw0⟩ : ∃ w0 : World, w0 = ((w.alloc (.cells #[.bool a, .string s] 23)).alloc (.cells #[.bool b, .string t] 23)).alloc (.cells #[.bool a, .string s, .bool b, .string t] 23) := ⟨_, rfl⟩
  have hb0 : Hid (Below w.heap.size w w0) := by rw [hw0]; exact (((Below.refl _ _).alloc (Nat.le_refl _) _).alloc (by simp) _).alloc (by simp; omega) _
  have I1 : Hid (ZC (.bool a) (.string s) w0 w.heap.size) := by rw [hw0]; exact ((ZC.new rfl).alloc _).alloc _
  have I2 : Hid (ZC (.bool b) (.string t) w0 (w.heap.size + 1)) := by rw [hw0]; exact (ZC.new (by simp)).alloc _
  have HSH := short_any [(a, s), (b, t)] 2 (w.heap.size + 1 + 1) w0 rfl (by decide) (by rw [hw0]; have := WL.two ((w.alloc (.cells #[.bool a, .string s] 23)).alloc (.cells #[.bool b, .string t] 23)) a b s t 23; simpa using this)
  rw [short2_true z1 z2] at HSH
  have H_val2 := Lib.hid (fun g w h => valid_any [(a, s), (b, t)] 2 g w rfl (by decide) h (by intro x hx; simp at hx; rcases hx with rfl | rfl <;> (show _ ≤ _; simp; omega)))
  have H_val := Lib.hid (fun g w h => valid_any [(a, s)] 1 g w rfl (by decide) h (by intro x hx; simp at hx; subst hx; show _ ≤ _; simp; omega))
  have v2 : validL [(a, s), (b, t)] = false := by simp [validL, hv2]
  rw [v2] at H_val2
  have v1 : validL [(a, s)] = true := by simp [validL, hv]
  rw [v1] at H_val
  have H_neg := Lib.hid (fun w => neg_z hv z1 w)
  have H_from := Lib.hid (fun w => rfrom_any a s w (by omega))
  have H_isn := Lib.hid (fun v w h => is_z (a := a) (b := b) z1 z2 (-(sg a (bv s))) (by rw [Int.natAbs_neg, sg_abs]; omega) v w h)
  have H_rneg := Lib.hid (fun v w h => rneg_int (sg a (bv s)) v w h)
  have H_add := Lib.hid (fun w => Add_invalid a b s t w (by omega) (by omega) (by rw [hv2, Bool.and_false]))
  have H_sub := Lib.hid (fun w => Sub_invalid a b s t w (by omega) (by omega) (by rw [hv2, Bool.and_false]))
  rw [wd_none] at H_add H_sub
  unfold WPost at H_add H_sub
  unfold BPost at H_val H_val2 H_isn
  unfold IntPost at H_from H_rneg
  unfold iV at H_from H_rneg H_isn
  clear v1
  clear hv hv2 v2
  generalize sg a (bv s) = x at *
  generalize -x = nx at *
  generalize zb nx = nb at *
  generalize zs nx = ns at *
  generalize decide (x < 0) = bx at *
  generalize decide (nx < 0) = bnx at *
  have HSh := Lib.hid HSH
  have Hw0 := Lib.hid hw0
  clear HSH hw0
  unfold Ret at *
  unfold BPost at HSh
  go_enter Try.func5, Try.ntmps5
  go_wp2_with fail
  rw [← Hw0.out]
  refine HSh.out.mono ?_
  rintro e x0 ⟨rfl, b0⟩
  have D := Lib.hid b0
  clear b0
  obtain ⟨k0, k1, _⟩ := I1.out.next D.out
  obtain ⟨k2, k3, _⟩ := I2.out.next D.out
  go_wp2_with fail
  skip
  refine (H_neg.out _).mono ?_
  rintro e y5 ⟨rfl, b9⟩
  obtain ⟨n0, n1, _⟩ := I1.out.next (chain D.out b9)
  obtain ⟨n2, n3, _⟩ := I2.out.next (chain D.out b9)
  have j1 : w.heap.size < y5.heap.size := World.block_lt_of_cell? _ _ n0
  have j2 : w.heap.size + 1 < y5.heap.size := World.block_lt_of_cell? _ _ n2
  have j3 : ¬ w.heap.size = y5.heap.size := Nat.ne_of_lt j1
  have j4 : ¬ w.heap.size + 1 = y5.heap.size := Nat.ne_of_lt j2
  obtain ⟨u5, hu5⟩ : ∃ u : World, u = y5.alloc (.cells #[.bool nb, .string ns] 23) := ⟨_, rfl⟩
  have E : Hid (Below x0.heap.size x0 u5) := by rw [hu5]; exact b9.alloc b9.size _
  have D := Lib.hid (chain D.out E.out)
  have T5 : Hid (ZC (.bool nb) (.string ns) u5 y5.heap.size) := by rw [hu5]; exact ZC.new rfl
  have Hu5 := Lib.hid hu5
  clear hu5 b9 E
  obtain ⟨k0, k1, _⟩ := I1.out.next D.out
  obtain ⟨k2, k3, _⟩ := I2.out.next D.out
  go_wp2_with fail
  rw [← Hu5.out]
  clear Hu5
  refine (H_add.out _).mono ?_
  rintro e y7 ⟨rfl, b9⟩
  obtain ⟨n0, n1, _⟩ := I1.out.next (chain D.out b9)
  obtain ⟨n2, n3, _⟩ := I2.out.next (chain D.out b9)
  have j1 : w.heap.size < y7.heap.size := World.block_lt_of_cell? _ _ n0
  have j2 : w.heap.size + 1 < y7.heap.size := World.block_lt_of_cell? _ _ n2
  have j3 : ¬ w.heap.size = y7.heap.size := Nat.ne_of_lt j1
  have j4 : ¬ w.heap.size + 1 = y7.heap.size := Nat.ne_of_lt j2
  obtain ⟨u7, hu7⟩ : ∃ u : World, u = y7.alloc (.cells #[.bool false, .string ⟨#[]⟩] 23) := ⟨_, rfl⟩
  have E : Hid (Below u5.heap.size u5 u7) := by rw [hu7]; exact b9.alloc b9.size _
  have D := Lib.hid (chain D.out E.out)
  have T5 := Lib.hid (T5.out.next E.out)
  have T7 : Hid (ZC (.bool false) (.string ⟨#[]⟩) u7 y7.heap.size) := by rw [hu7]; exact ZC.new rfl
  have Hu7 := Lib.hid hu7
  clear hu7 b9 E
  obtain ⟨k0, k1, _⟩ := I1.out.next D.out
  obtain ⟨k2, k3, _⟩ := I2.out.next D.out
  go_wp2_with fail
  rw [← Hu7.out]
  clear Hu7
  refine (H_sub.out _).mono ?_
  rintro e y9 ⟨rfl, b9⟩
  obtain ⟨n0, n1, _⟩ := I1.out.next (chain D.out b9)
  obtain ⟨n2, n3, _⟩ := I2.out.next (chain D.out b9)
  have j1 : w.heap.size < y9.heap.size := World.block_lt_of_cell? _ _ n0
  have j2 : w.heap.size + 1 < y9.heap.size := World.block_lt_of_cell? _ _ n2
  have j3 : ¬ w.heap.size = y9.heap.size := Nat.ne_of_lt j1
  have j4 : ¬ w.heap.size + 1 = y9.heap.size := Nat.ne_of_lt j2
  obtain ⟨u9, hu9⟩ : ∃ u : World, u = y9.alloc (.cells #[.bool false, .string ⟨#[]⟩] 23) := ⟨_, rfl⟩
  have E : Hid (Below u7.heap.size u7 u9) := by rw [hu9]; exact b9.alloc b9.size _
  have D := Lib.hid (chain D.out E.out)
  have T5 := Lib.hid (T5.out.next E.out)
  have T7 := Lib.hid (T7.out.next E.out)
  have T9 : Hid (ZC (.bool false) (.string ⟨#[]⟩) u9 y9.heap.size) := by rw [hu9]; exact ZC.new rfl
  have Hu9 := Lib.hid hu9
  clear hu9 b9 E
  obtain ⟨k0, k1, _⟩ := I1.out.next D.out
  obtain ⟨k2, k3, _⟩ := I2.out.next D.out
  obtain ⟨k4, k5, _⟩ := T5.out
  have l1 : Hid (w.heap.size < u9.heap.size) := World.block_lt_of_cell? u9 _ k0
  have l2 : Hid (y5.heap.size < u9.heap.size) := World.block_lt_of_cell? u9 _ k4
  have l1b := l1.out
  have l2b := l2.out
  have g1 : ¬ w.heap.size = u9.heap.size := Nat.ne_of_lt l1b
  have g2 : ¬ u9.heap.size = w.heap.size := Nat.ne_of_gt l1b
  have g3 : ¬ y5.heap.size = u9.heap.size := Nat.ne_of_lt l2b
  have g4 : ¬ u9.heap.size = y5.heap.size := Nat.ne_of_gt l2b
  go_upto_region 6 with (fail)
  rw [← Hu9.out]
  clear Hu9
  go_cut [62] (fun sv wx => sv = .bool false ∧ Hid (Below u9.heap.size u9 wx))
  case first =>
    rename_i J0 K0 hRJ hMK
    have hud : undef = Value.tuple #[] := rfl
    first
    | (go_region_with
        (first
          | (go_at_call 29; (with_reducible refine (H_val.out _ _ (by first | exact WL.one _ _ _ _ | exact WL.drew (WL.one _ _ _ _))).mono ?_); rintro e y ⟨rfl, b9⟩; have E := Lib.hid (show Below u9.heap.size u9 y by first | exact chain (E.out.alloc E.out.size _) b9 | exact chain E.out b9 | exact chain ((below_one u9 _).drew) b9 | exact chain (((Below.refl u9.heap.size u9).drew).alloc (Nat.le_refl _) _) b9 | exact chain ((Below.refl u9.heap.size u9).drew) b9); have p0 := keep1 E.out k0; have p1 := keep1 E.out k1; have p4 := keep1 E.out k4; have p5 := keep1 E.out k5; have f1 : w.heap.size < y.heap.size := Nat.lt_of_lt_of_le l1.out E.out.size; have f2 : ¬ w.heap.size = y.heap.size := Nat.ne_of_lt f1; have f3 : ¬ y.heap.size = w.heap.size := Nat.ne_of_gt f1; have f4 : y5.heap.size < y.heap.size := Nat.lt_of_lt_of_le l2.out E.out.size; have f5 : ¬ y5.heap.size = y.heap.size := Nat.ne_of_lt f4; have f6 : ¬ y.heap.size = y5.heap.size := Nat.ne_of_gt f4;  clear b9)
          | (go_at_call 18; (with_reducible refine (H_from.out _).mono ?_); rintro e y ⟨v1, rfl, r1, b9⟩; have E := Lib.hid (show Below u9.heap.size u9 y by first | exact chain (E.out.alloc E.out.size _) b9 | exact chain E.out b9 | exact chain ((below_one u9 _).drew) b9 | exact chain (((Below.refl u9.heap.size u9).drew).alloc (Nat.le_refl _) _) b9 | exact chain ((Below.refl u9.heap.size u9).drew) b9); have p0 := keep1 E.out k0; have p1 := keep1 E.out k1; have p4 := keep1 E.out k4; have p5 := keep1 E.out k5; have f1 : w.heap.size < y.heap.size := Nat.lt_of_lt_of_le l1.out E.out.size; have f2 : ¬ w.heap.size = y.heap.size := Nat.ne_of_lt f1; have f3 : ¬ y.heap.size = w.heap.size := Nat.ne_of_gt f1; have f4 : y5.heap.size < y.heap.size := Nat.lt_of_lt_of_le l2.out E.out.size; have f5 : ¬ y5.heap.size = y.heap.size := Nat.ne_of_lt f4; have f6 : ¬ y.heap.size = y5.heap.size := Nat.ne_of_gt f4; have R1 := Lib.hid r1; obtain ⟨q1, bb1, o1, c1, rfl, rr1⟩ := r1; clear rr1; clear b9)
          | (go_at_call 31; (with_reducible refine (H_rneg.out _ _ R1.out).mono ?_); rintro e y ⟨v2, rfl, r2, b9⟩; have E := Lib.hid (show Below u9.heap.size u9 y by first | exact chain (E.out.alloc E.out.size _) b9 | exact chain E.out b9 | exact chain ((below_one u9 _).drew) b9 | exact chain (((Below.refl u9.heap.size u9).drew).alloc (Nat.le_refl _) _) b9 | exact chain ((Below.refl u9.heap.size u9).drew) b9); have p0 := keep1 E.out k0; have p1 := keep1 E.out k1; have p4 := keep1 E.out k4; have p5 := keep1 E.out k5; have f1 : w.heap.size < y.heap.size := Nat.lt_of_lt_of_le l1.out E.out.size; have f2 : ¬ w.heap.size = y.heap.size := Nat.ne_of_lt f1; have f3 : ¬ y.heap.size = w.heap.size := Nat.ne_of_gt f1; have f4 : y5.heap.size < y.heap.size := Nat.lt_of_lt_of_le l2.out E.out.size; have f5 : ¬ y5.heap.size = y.heap.size := Nat.ne_of_lt f4; have f6 : ¬ y.heap.size = y5.heap.size := Nat.ne_of_gt f4; have R2 := Lib.hid r2; obtain ⟨q2, bb2, o2, c2, rfl, rr2⟩ := r2; clear rr2; clear b9)
          | (go_at_call 30; (with_reducible refine (H_isn.out _ _ R2.out).mono ?_); rintro e y ⟨rfl, b9⟩; have E := Lib.hid (show Below u9.heap.size u9 y by first | exact chain (E.out.alloc E.out.size _) b9 | exact chain E.out b9 | exact chain ((below_one u9 _).drew) b9 | exact chain (((Below.refl u9.heap.size u9).drew).alloc (Nat.le_refl _) _) b9 | exact chain ((Below.refl u9.heap.size u9).drew) b9); have p0 := keep1 E.out k0; have p1 := keep1 E.out k1; have p4 := keep1 E.out k4; have p5 := keep1 E.out k5; have f1 : w.heap.size < y.heap.size := Nat.lt_of_lt_of_le l1.out E.out.size; have f2 : ¬ w.heap.size = y.heap.size := Nat.ne_of_lt f1; have f3 : ¬ y.heap.size = w.heap.size := Nat.ne_of_gt f1; have f4 : y5.heap.size < y.heap.size := Nat.lt_of_lt_of_le l2.out E.out.size; have f5 : ¬ y5.heap.size = y.heap.size := Nat.ne_of_lt f4; have f6 : ¬ y.heap.size = y5.heap.size := Nat.ne_of_gt f4;  clear b9)
          | fail))
    | fail
    all_goals
      refine hMK _ _ (Met.intro (hRJ _ _ ?_))
      (repeat apply Exists.intro)
      refine ⟨?_, rfl⟩
      exact ⟨rfl, E⟩
  obtain ⟨rfl, E⟩ := hcut
  obtain ⟨y, hy⟩ : ∃ y : World, y = wc := ⟨_, rfl⟩
  subst hy
  clear k0 k1 k4 k5 l1 l2 l1b l2b g1 g2 g3 g4
  have D := Lib.hid (chain D.out E.out)
  have T7 := Lib.hid (T7.out.next E.out)
  have T9 := Lib.hid (T9.out.next E.out)
  clear T5 E
  obtain ⟨k0, k1, _⟩ := I1.out.next D.out
  obtain ⟨k2, k3, _⟩ := I2.out.next D.out
  go_wp2_with fail
  refine (H_val2.out _ _ (WL.two _ _ _ _ _ _)).mono ?_
  rintro e yv ⟨rfl, b9⟩
  have E := Lib.hid (chain (below_one y _) b9)
  have D := Lib.hid (chain D.out E.out)
  have T7 := Lib.hid (T7.out.next E.out)
  have T9 := Lib.hid (T9.out.next E.out)
  clear b9 E
  obtain ⟨k0, k1, _⟩ := I1.out.next D.out
  obtain ⟨k2, k3, _⟩ := I2.out.next D.out
  obtain ⟨k4, k5, _⟩ := T7.out
  obtain ⟨k6, k7, _⟩ := T9.out
  go_wp2_with fail
  refine (H_known.out _).mono ?_
  rintro e x1 ⟨rfl, b1⟩
  have HZ := Lib.hid (chain hb0.out (chain D.out b1))
  clear b1
  go_wp2
  go_ret
  exact ⟨rfl, HZ.out⟩
end Go.Proofs.Ytlmklhffafcmmaa
