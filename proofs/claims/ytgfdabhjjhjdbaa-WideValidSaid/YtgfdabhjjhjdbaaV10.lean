/- WideValid gives true for all pairs of wide integers (P1.1), and leaves its arguments as they were. No condition. -/
import Derived.Test.YtgfdabhjjhjdbaaV9
import Derived.Test.YtgfdabhjjhjdbaaRows
import Derived.ProofKit
import Derived.OpenShut
import Derived.ShutString
import Derived.ChangeOld
import Derived.Below
import Derived.Lib.SmallJoins

/- The law WideValid gives true. -/
namespace Go.Proofs.Ytgfdabhjjhjdbaa
open Go.RowKit

theorem sgV_sg {a : Bool} {s : ByteArray} (h : vld a s = true) : sgV a s = (sg a (bv s)).sign := by
  have h1 := zb_sg h
  have h2 : (sg a (bv s)).natAbs < Top := by
    have e1 : (sg a (bv s)).natAbs = bv s := by unfold sg; split <;> omega
    rw [e1]
    exact bv_lt h
  have h3 := sgV_z h2
  rwa [h1.1, h1.2] at h3
theorem sgV_bad {a : Bool} {s : ByteArray} (h : vld a s = false) : sgV a s = 0 := by unfold sgV; rw [h]; simp
theorem lenV_bad {a : Bool} {s : ByteArray} (h : vld a s = false) : lenV a s = 0 := by unfold lenV; rw [h]; simp
theorem lenV_ok {a : Bool} {s : ByteArray} (h : vld a s = true) : lenV a s = lenB s := by unfold lenV; rw [h]; simp
theorem cmpN_sign (m n : Nat) : cmpN m n = ((m : Int) - n).sign := by
  unfold cmpN
  split
  · rw [Int.sign_eq_neg_one_of_neg (by omega)]
  · split
    · rw [Int.sign_eq_one_of_pos (by omega)]
    · rw [show (m : Int) - n = 0 by omega]; rfl
theorem pos_of_neg {s : ByteArray} (h : vld true s = true) : 0 < bv s := by
  have h0 : 0 < s.size := by
    rcases Nat.eq_zero_or_pos s.size with h0 | h0
    · unfold vld at h; rw [dif_neg (by omega)] at h; simp at h
    · exact h0
  have : bv s ≠ 0 := fun h1 => by have := (bv_zero_iff (vld_can h)).1 h1; omega
  omega
theorem cmpV_sg {a b : Bool} {s t : ByteArray} (h1 : vld a s = true) (h2 : vld b t = true) : cmpV a s b t = (sg a (bv s) - sg b (bv t)).sign := by
  cases a with
  | false =>
    cases b with
    | false => simp only [cmpV, sg]; rw [cmpN_sign]; simp
    | true =>
      have := pos_of_neg h2
      simp only [cmpV, sg]
      rw [if_neg (by simp), if_pos trivial, Int.sign_eq_one_of_pos (by omega)]
  | true =>
    have := pos_of_neg h1
    cases b with
    | false =>
      simp only [cmpV, sg]
      rw [if_pos trivial, if_neg (by simp), Int.sign_eq_neg_one_of_neg (by omega)]
    | true =>
      simp only [cmpV, sg]
      rw [cmpN_sign, if_pos trivial, if_pos trivial]
      congr 1
      omega
theorem short2_false {a b : Bool} {s t : ByteArray} (h : ¬ (s.size ≤ 60 ∧ t.size ≤ 60)) : shortL [(a, s), (b, t)] = false := by
  simp only [shortL, List.all_cons, List.all_nil, Bool.and_true]
  by_cases h1 : s.size ≤ 60
  · have h2 : ¬ t.size ≤ 60 := fun h2 => h ⟨h1, h2⟩
    simp [h2]
  · simp [h1]
theorem short2_true {a b : Bool} {s t : ByteArray} (h1 : s.size ≤ 60) (h2 : t.size ≤ 60) : shortL [(a, s), (b, t)] = true := by simp [shortL, h1, h2]
theorem lz60 {a : Bool} {s : ByteArray} (hs : s.size ≤ 60) : (Nm.dg D9 (sg a (bv s)).natAbs).length ≤ 1000000 := by
  have e1 : (sg a (bv s)).natAbs = bv s := by unfold sg; split <;> omega
  rw [e1]
  have h5 := Nm.val_lt (dig_rev s)
  rw [rev_length] at h5
  exact Nat.le_trans (dg9_256 (Nat.lt_of_lt_of_le h5 (Nat.pow_le_pow_right (by decide) hs))) (by decide)
theorem rcompare60 {a b : Bool} {s t : ByteArray} (h1 : vld a s = true) (h2 : vld b t = true) (z1 : s.size ≤ 60) (z2 : t.size ≤ 60) (v1 v2 : Value) (w : World) (g1 : Rz w v1 (sg a (bv s))) (g2 : Rz w v2 (sg b (bv t))) :
    Calls Try.prog 21 #[iV (sg a (bv s)) v1, iV (sg b (bv t)) v2] w (SignPost (cmpV a s b t) w) := by
  have h := rcompare_int _ _ v1 v2 w g1 g2 (lz60 z1) (lz60 z2)
  rwa [← cmpV_sg h1 h2] at h
theorem cmpV_swap {a b : Bool} {s t : ByteArray} (h1 : vld a s = true) (h2 : vld b t = true) : cmpV b t a s = -cmpV a s b t := by
  rw [cmpV_sg h1 h2, cmpV_sg h2 h1, ← Int.sign_neg]
  congr 1
  omega
theorem rbits60 {a : Bool} {s : ByteArray} (h : vld a s = true) (z1 : s.size ≤ 60) (v : Value) (w : World) (g : Rz w v (sg a (bv s))) :
    Calls Try.prog 20 #[iV (sg a (bv s)) v] w (IPost (lenB s) w) := by
  have e := (zb_sg h).2
  have h := rbits_int _ v w g (lz60 z1) (by rw [e]; omega)
  rwa [e] at h
theorem rsignV {a : Bool} {s : ByteArray} (h : vld a s = true) (v : Value) (w : World) (g : Rz w v (sg a (bv s))) :
    Calls Try.prog 19 #[iV (sg a (bv s)) v] w (SignPost (sgV a s) w) := by
  have h2 := rsign_int _ v w g
  rwa [← sgV_sg h] at h2

set_option maxRecDepth 100000 in
set_option maxHeartbeats 4000000 in
theorem valid_long (a b : Bool) (s t : ByteArray) (w : World) (hs : ¬ (s.size ≤ 60 ∧ t.size ≤ 60)) :
    Calls Try.prog 3 #[.agg #[.bool a, .string s], .agg #[.bool b, .string t]] w (Ret (.bool true) w) := by
  have H_known := Lib.hid known_true
  obtain ⟨w0, hw0⟩ : ∃ w0 : World, w0 = ((w.alloc (.cells #[.bool a, .string s] 23)).alloc (.cells #[.bool b, .string t] 23)).alloc (.cells #[.bool a, .string s, .bool b, .string t] 23) := ⟨_, rfl⟩
  have hb0 : Hid (Below w.heap.size w w0) := by rw [hw0]; exact (((Below.refl _ _).alloc (Nat.le_refl _) _).alloc (by simp) _).alloc (by simp; omega) _
  have I1 : Hid (ZC (.bool a) (.string s) w0 w.heap.size) := by rw [hw0]; exact ((ZC.new rfl).alloc _).alloc _
  have I2 : Hid (ZC (.bool b) (.string t) w0 (w.heap.size + 1)) := by rw [hw0]; exact (ZC.new (by simp)).alloc _
  have HSH := short_any [(a, s), (b, t)] 2 (w.heap.size + 1 + 1) w0 rfl (by decide) (by rw [hw0]; have := WL.two ((w.alloc (.cells #[.bool a, .string s] 23)).alloc (.cells #[.bool b, .string t] 23)) a b s t 23; simpa using this)
  rw [short2_false hs] at HSH
  have HSh := Lib.hid HSH
  have Hw0 := Lib.hid hw0
  clear HSH hw0
  unfold Ret at *
  unfold BPost at HSh
  go_enter Try.func3, Try.ntmps3
  go_wp2_with fail
  rw [← Hw0.out]
  refine HSh.out.mono ?_
  rintro e x0 ⟨rfl, b0⟩
  have D := Lib.hid b0
  clear b0
  go_wp2_with fail
  refine (H_known.out _).mono ?_
  rintro e x1 ⟨rfl, b1⟩
  have HZ := Lib.hid (chain hb0.out (chain D.out b1))
  clear b1
  go_wp2
  go_ret
  exact ⟨rfl, HZ.out⟩

set_option maxRecDepth 100000 in
set_option maxHeartbeats 4000000 in
theorem valid_bad1 (a b : Bool) (s t : ByteArray) (w : World) (z1 : s.size ≤ 60) (z2 : t.size ≤ 60) (hv : vld a s = false) :
    Calls Try.prog 3 #[.agg #[.bool a, .string s], .agg #[.bool b, .string t]] w (Ret (.bool true) w) := by
  have H_known := Lib.hid known_true
  obtain ⟨w0, hw0⟩ : ∃ w0 : World, w0 = ((w.alloc (.cells #[.bool a, .string s] 23)).alloc (.cells #[.bool b, .string t] 23)).alloc (.cells #[.bool a, .string s, .bool b, .string t] 23) := ⟨_, rfl⟩
  have hb0 : Hid (Below w.heap.size w w0) := by rw [hw0]; exact (((Below.refl _ _).alloc (Nat.le_refl _) _).alloc (by simp) _).alloc (by simp; omega) _
  have I1 : Hid (ZC (.bool a) (.string s) w0 w.heap.size) := by rw [hw0]; exact ((ZC.new rfl).alloc _).alloc _
  have I2 : Hid (ZC (.bool b) (.string t) w0 (w.heap.size + 1)) := by rw [hw0]; exact (ZC.new (by simp)).alloc _
  have HSH := short_any [(a, s), (b, t)] 2 (w.heap.size + 1 + 1) w0 rfl (by decide) (by rw [hw0]; have := WL.two ((w.alloc (.cells #[.bool a, .string s] 23)).alloc (.cells #[.bool b, .string t] 23)) a b s t 23; simpa using this)
  rw [short2_true z1 z2] at HSH
  have H_va := Lib.hid (fun w => Valid_any a s w (by omega))
  have H_ra := Lib.hid (fun w => rvalid_any a s w (by omega))
  have H_vb := Lib.hid (fun w => Valid_any b t w (by omega))
  have H_rb := Lib.hid (fun w => rvalid_any b t w (by omega))
  rw [hv] at H_va H_ra
  have H_c1 := Lib.hid (fun w => Compare_invalid a b s t w (by omega) (by omega) (by rw [hv]; rfl))
  have H_c2 := Lib.hid (fun w => Compare_invalid b a t s w (by omega) (by omega) (by rw [hv, Bool.and_false]))
  have H_sg := Lib.hid (fun w => Sign_any a s w (by omega))
  have H_ln := Lib.hid (fun w => Len_any a s w (by omega))
  rw [sgV_bad hv] at H_sg
  rw [lenV_bad hv] at H_ln
  unfold BPost at H_va H_ra H_vb H_rb
  unfold IPost at H_c1 H_c2 H_sg H_ln
  generalize vld b t = vb at *
  clear hv
  have HSh := Lib.hid HSH
  have Hw0 := Lib.hid hw0
  clear HSH hw0
  unfold Ret at *
  unfold BPost at HSh
  go_enter Try.func3, Try.ntmps3
  go_wp2_with fail
  rw [← Hw0.out]
  refine HSh.out.mono ?_
  rintro e x0 ⟨rfl, b0⟩
  have D := Lib.hid b0
  clear b0
  obtain ⟨k0, k1, _⟩ := I1.out.next D.out
  obtain ⟨k2, k3, _⟩ := I2.out.next D.out
  go_wp2_with fail
  go_region_held3 (fun W' => W'.cell? ⟨w.heap.size, 0, none⟩ = some (.bool a) ∧ W'.cell? ⟨w.heap.size, 1, none⟩ = some (.string s) ∧ W'.cell? ⟨w.heap.size + 1, 0, none⟩ = some (.bool b) ∧ W'.cell? ⟨w.heap.size + 1, 1, none⟩ = some (.string t)) (go_keep)
    (first
      | (go_at_call 13; (with_reducible refine (H_va.out _).mono ?_); rintro e y ⟨rfl, b9⟩; have E := Lib.hid (show Below x0.heap.size x0 y by first | exact chain E.out b9 | exact chain ((Below.refl _ _).drew) b9); have p0 := keep1 E.out k0; have p1 := keep1 E.out k1; have p2 := keep1 E.out k2; have p3 := keep1 E.out k3;  clear b9)
      | (go_at_call 14; (with_reducible refine (H_ra.out _).mono ?_); rintro e y ⟨rfl, b9⟩; have E := Lib.hid (show Below x0.heap.size x0 y by first | exact chain E.out b9 | exact chain ((Below.refl _ _).drew) b9); have p0 := keep1 E.out k0; have p1 := keep1 E.out k1; have p2 := keep1 E.out k2; have p3 := keep1 E.out k3;  clear b9)
      | (go_at_call 13; (with_reducible refine (H_vb.out _).mono ?_); rintro e y ⟨rfl, b9⟩; have E := Lib.hid (show Below x0.heap.size x0 y by first | exact chain E.out b9 | exact chain ((Below.refl _ _).drew) b9); have p0 := keep1 E.out k0; have p1 := keep1 E.out k1; have p2 := keep1 E.out k2; have p3 := keep1 E.out k3;  clear b9)
      | (go_at_call 14; (with_reducible refine (H_rb.out _).mono ?_); rintro e y ⟨rfl, b9⟩; have E := Lib.hid (show Below x0.heap.size x0 y by first | exact chain E.out b9 | exact chain ((Below.refl _ _).drew) b9); have p0 := keep1 E.out k0; have p1 := keep1 E.out k1; have p2 := keep1 E.out k2; have p3 := keep1 E.out k3;  clear b9)
      | fail)
  have D := Lib.hid (chain D.out E.out)
  clear E k0 k1 k2 k3 p0 p1 p2 p3
  obtain ⟨k0, k1, _⟩ := I1.out.next D.out
  obtain ⟨k2, k3, _⟩ := I2.out.next D.out
  go_wp2_with fail
  refine (H_ra.out _).mono ?_
  rintro e y ⟨rfl, b9⟩
  have D := Lib.hid (chain D.out b9)
  obtain ⟨k0, k1, _⟩ := I1.out.next D.out
  obtain ⟨k2, k3, _⟩ := I2.out.next D.out
  go_wp2_with fail
  refine (H_c1.out _).mono ?_
  rintro e y ⟨rfl, b9⟩
  have D := Lib.hid (chain D.out b9)
  obtain ⟨k0, k1, _⟩ := I1.out.next D.out
  obtain ⟨k2, k3, _⟩ := I2.out.next D.out
  go_wp2_with fail
  refine (H_c2.out _).mono ?_
  rintro e y ⟨rfl, b9⟩
  have D := Lib.hid (chain D.out b9)
  obtain ⟨k0, k1, _⟩ := I1.out.next D.out
  obtain ⟨k2, k3, _⟩ := I2.out.next D.out
  go_wp2_with fail
  refine (H_sg.out _).mono ?_
  rintro e y ⟨rfl, b9⟩
  have D := Lib.hid (chain D.out b9)
  obtain ⟨k0, k1, _⟩ := I1.out.next D.out
  obtain ⟨k2, k3, _⟩ := I2.out.next D.out
  go_wp2_with fail
  refine (H_ln.out _).mono ?_
  rintro e y ⟨rfl, b9⟩
  have D := Lib.hid (chain D.out b9)
  obtain ⟨k0, k1, _⟩ := I1.out.next D.out
  obtain ⟨k2, k3, _⟩ := I2.out.next D.out
  go_wp2_with fail
  refine (H_known.out _).mono ?_
  rintro e x1 ⟨rfl, b1⟩
  have HZ := Lib.hid (chain hb0.out (chain D.out b1))
  clear b1
  go_wp2
  go_ret
  exact ⟨rfl, HZ.out⟩

set_option maxRecDepth 100000 in
set_option maxHeartbeats 4000000 in
theorem valid_bad2 (a b : Bool) (s t : ByteArray) (w : World) (z1 : s.size ≤ 60) (z2 : t.size ≤ 60) (hv : vld a s = true) (hv2 : vld b t = false) :
    Calls Try.prog 3 #[.agg #[.bool a, .string s], .agg #[.bool b, .string t]] w (Ret (.bool true) w) := by
  have H_known := Lib.hid known_true
  obtain ⟨w0, hw0⟩ : ∃ w0 : World, w0 = ((w.alloc (.cells #[.bool a, .string s] 23)).alloc (.cells #[.bool b, .string t] 23)).alloc (.cells #[.bool a, .string s, .bool b, .string t] 23) := ⟨_, rfl⟩
  have hb0 : Hid (Below w.heap.size w w0) := by rw [hw0]; exact (((Below.refl _ _).alloc (Nat.le_refl _) _).alloc (by simp) _).alloc (by simp; omega) _
  have I1 : Hid (ZC (.bool a) (.string s) w0 w.heap.size) := by rw [hw0]; exact ((ZC.new rfl).alloc _).alloc _
  have I2 : Hid (ZC (.bool b) (.string t) w0 (w.heap.size + 1)) := by rw [hw0]; exact (ZC.new (by simp)).alloc _
  have HSH := short_any [(a, s), (b, t)] 2 (w.heap.size + 1 + 1) w0 rfl (by decide) (by rw [hw0]; have := WL.two ((w.alloc (.cells #[.bool a, .string s] 23)).alloc (.cells #[.bool b, .string t] 23)) a b s t 23; simpa using this)
  rw [short2_true z1 z2] at HSH
  have H_va := Lib.hid (fun w => Valid_any a s w (by omega))
  have H_ra := Lib.hid (fun w => rvalid_any a s w (by omega))
  have H_vb := Lib.hid (fun w => Valid_any b t w (by omega))
  have H_rb := Lib.hid (fun w => rvalid_any b t w (by omega))
  rw [hv] at H_va H_ra
  rw [hv2] at H_vb H_rb
  have H_sg := Lib.hid (fun w => Sign_any a s w (by omega))
  have H_ln := Lib.hid (fun w => Len_any a s w (by omega))
  rw [lenV_ok hv] at H_ln
  have H_from := Lib.hid (fun w => rfrom_any a s w (by omega))
  have H_rs := Lib.hid (fun v w g => rsignV hv v w g)
  have H_rb2 := Lib.hid (fun v w g => rbits60 hv z1 v w g)
  have H_c1 := Lib.hid (fun w => Compare_invalid a b s t w (by omega) (by omega) (by rw [hv2, Bool.and_false]))
  unfold BPost at H_va H_ra H_vb H_rb
  unfold IntPost iV at H_from
  unfold iV at H_rs H_rb2
  unfold SignPost at H_rs
  unfold IPost at H_sg H_ln H_rb2
  unfold IPost at H_c1
  clear hv hv2
  generalize sgV a s = sgv at *
  generalize lenB s = lnv at *
  generalize sg a (bv s) = z at *
  generalize decide (z < 0) = bz at *
  have HSh := Lib.hid HSH
  have Hw0 := Lib.hid hw0
  clear HSH hw0
  unfold Ret at *
  unfold BPost at HSh
  go_enter Try.func3, Try.ntmps3
  go_wp2_with fail
  rw [← Hw0.out]
  refine HSh.out.mono ?_
  rintro e x0 ⟨rfl, b0⟩
  have D := Lib.hid b0
  clear b0
  obtain ⟨k0, k1, _⟩ := I1.out.next D.out
  obtain ⟨k2, k3, _⟩ := I2.out.next D.out
  go_wp2_with fail
  go_region_held3 (fun W' => W'.cell? ⟨w.heap.size, 0, none⟩ = some (.bool a) ∧ W'.cell? ⟨w.heap.size, 1, none⟩ = some (.string s) ∧ W'.cell? ⟨w.heap.size + 1, 0, none⟩ = some (.bool b) ∧ W'.cell? ⟨w.heap.size + 1, 1, none⟩ = some (.string t)) (go_keep)
    (first
      | (go_at_call 13; (with_reducible refine (H_va.out _).mono ?_); rintro e y ⟨rfl, b9⟩; have E := Lib.hid (show Below x0.heap.size x0 y by first | exact chain E.out b9 | exact chain ((Below.refl _ _).drew) b9); have p0 := keep1 E.out k0; have p1 := keep1 E.out k1; have p2 := keep1 E.out k2; have p3 := keep1 E.out k3;  clear b9)
      | (go_at_call 14; (with_reducible refine (H_ra.out _).mono ?_); rintro e y ⟨rfl, b9⟩; have E := Lib.hid (show Below x0.heap.size x0 y by first | exact chain E.out b9 | exact chain ((Below.refl _ _).drew) b9); have p0 := keep1 E.out k0; have p1 := keep1 E.out k1; have p2 := keep1 E.out k2; have p3 := keep1 E.out k3;  clear b9)
      | (go_at_call 13; (with_reducible refine (H_vb.out _).mono ?_); rintro e y ⟨rfl, b9⟩; have E := Lib.hid (show Below x0.heap.size x0 y by first | exact chain E.out b9 | exact chain ((Below.refl _ _).drew) b9); have p0 := keep1 E.out k0; have p1 := keep1 E.out k1; have p2 := keep1 E.out k2; have p3 := keep1 E.out k3;  clear b9)
      | (go_at_call 14; (with_reducible refine (H_rb.out _).mono ?_); rintro e y ⟨rfl, b9⟩; have E := Lib.hid (show Below x0.heap.size x0 y by first | exact chain E.out b9 | exact chain ((Below.refl _ _).drew) b9); have p0 := keep1 E.out k0; have p1 := keep1 E.out k1; have p2 := keep1 E.out k2; have p3 := keep1 E.out k3;  clear b9)
      | fail)
  have D := Lib.hid (chain D.out E.out)
  clear E k0 k1 k2 k3 p0 p1 p2 p3
  obtain ⟨k0, k1, _⟩ := I1.out.next D.out
  obtain ⟨k2, k3, _⟩ := I2.out.next D.out
  go_wp2_with fail
  refine (H_ra.out _).mono ?_
  rintro e y ⟨rfl, b9⟩
  have D := Lib.hid (chain D.out b9)
  obtain ⟨k0, k1, _⟩ := I1.out.next D.out
  obtain ⟨k2, k3, _⟩ := I2.out.next D.out
  go_wp2_with fail
  refine (H_from.out _).mono ?_
  rintro e y1 ⟨v1, rfl, r1, b9⟩
  have D := Lib.hid (chain D.out b9)
  have R1 : Hid (Rz (y1.alloc (.cells #[.bool bz, v1] 31)) v1 z) := Ri.allocd r1 _
  obtain ⟨pz1, bb1, o1, c1, rfl, rr1⟩ := r1
  obtain ⟨u1, hu1⟩ : ∃ u1 : World, u1 = y1.alloc (.cells #[.bool bz, .slice pz1 (Nm.dg D9 z.natAbs).length c1] 31) := ⟨_, rfl⟩
  rw [← hu1] at R1
  have T5 : Hid (ZC (.bool bz) (.slice pz1 (Nm.dg D9 z.natAbs).length c1) u1 y1.heap.size) := by rw [hu1]; exact ZC.new rfl
  have D : Hid (Below w0.heap.size w0 u1) := by rw [hu1]; exact D.out.alloc D.out.size _
  have Hu1 := Lib.hid hu1
  clear b9 rr1 hu1
  have R1d : Hid (Rz u1.drew (.slice pz1 (Nm.dg D9 z.natAbs).length c1) z) := Ri.drew R1.out
  obtain ⟨k0, k1, _⟩ := I1.out.next D.out
  obtain ⟨k2, k3, _⟩ := I2.out.next D.out
  obtain ⟨k4, k5, _⟩ := T5.out
  go_wp2_with fail
  rw [← Hu1.out]
  clear Hu1
  go_region_held3 (fun W' => W'.cell? ⟨w.heap.size, 0, none⟩ = some (.bool a) ∧ W'.cell? ⟨w.heap.size, 1, none⟩ = some (.string s) ∧ W'.cell? ⟨w.heap.size + 1, 0, none⟩ = some (.bool b) ∧ W'.cell? ⟨w.heap.size + 1, 1, none⟩ = some (.string t) ∧ W'.cell? ⟨y1.heap.size, 0, none⟩ = some (.bool bz) ∧ W'.cell? ⟨y1.heap.size, 1, none⟩ = some (.slice pz1 (Nm.dg D9 z.natAbs).length c1)) (go_keep)
    (first
      | (go_at_call 16; (with_reducible refine (H_sg.out _).mono ?_); rintro e y ⟨rfl, b9⟩; have E := Lib.hid (show Below u1.heap.size u1 y by first | exact chain E.out b9 | exact chain ((Below.refl _ _).drew) b9); have p0 := keep1 E.out k0; have p1 := keep1 E.out k1; have p2 := keep1 E.out k2; have p3 := keep1 E.out k3; have p4 := keep1 E.out k4; have p5 := keep1 E.out k5;  clear b9)
      | (go_at_call 19; (with_reducible refine (H_rs.out _ _ (Ri.below R1.out E.out (Nat.le_refl _))).mono ?_); rintro e y ⟨rfl, b9⟩; have E := Lib.hid (show Below u1.heap.size u1 y by first | exact chain E.out b9 | exact chain ((Below.refl _ _).drew) b9); have p0 := keep1 E.out k0; have p1 := keep1 E.out k1; have p2 := keep1 E.out k2; have p3 := keep1 E.out k3; have p4 := keep1 E.out k4; have p5 := keep1 E.out k5;  clear b9)
      | (go_at_call 17; (with_reducible refine (H_ln.out _).mono ?_); rintro e y ⟨rfl, b9⟩; have E := Lib.hid (show Below u1.heap.size u1 y by first | exact chain E.out b9 | exact chain ((Below.refl _ _).drew) b9); have p0 := keep1 E.out k0; have p1 := keep1 E.out k1; have p2 := keep1 E.out k2; have p3 := keep1 E.out k3; have p4 := keep1 E.out k4; have p5 := keep1 E.out k5;  clear b9)
      | (go_at_call 20; (with_reducible refine (H_rb2.out _ _ (Ri.below R1.out E.out (Nat.le_refl _))).mono ?_); rintro e y ⟨rfl, b9⟩; have E := Lib.hid (show Below u1.heap.size u1 y by first | exact chain E.out b9 | exact chain ((Below.refl _ _).drew) b9); have p0 := keep1 E.out k0; have p1 := keep1 E.out k1; have p2 := keep1 E.out k2; have p3 := keep1 E.out k3; have p4 := keep1 E.out k4; have p5 := keep1 E.out k5;  clear b9)
      | fail)
  have D := Lib.hid (chain D.out E.out)
  have T5 := Lib.hid (T5.out.next E.out)
  have R1 := Lib.hid (Ri.below R1.out E.out (Nat.le_refl _))
  clear E k0 k1 k2 k3 k4 k5 p0 p1 p2 p3 p4 p5
  obtain ⟨k0, k1, _⟩ := I1.out.next D.out
  obtain ⟨k2, k3, _⟩ := I2.out.next D.out
  obtain ⟨k4, k5, _⟩ := T5.out
  go_wp2_with fail
  refine (H_rb.out _).mono ?_
  rintro e y ⟨rfl, b9⟩
  have D := Lib.hid (chain D.out b9)
  obtain ⟨k0, k1, _⟩ := I1.out.next D.out
  obtain ⟨k2, k3, _⟩ := I2.out.next D.out
  go_wp2_with fail
  refine (H_c1.out _).mono ?_
  rintro e y ⟨rfl, b9⟩
  have D := Lib.hid (chain D.out b9)
  obtain ⟨k0, k1, _⟩ := I1.out.next D.out
  obtain ⟨k2, k3, _⟩ := I2.out.next D.out
  go_wp2_with fail
  refine (H_known.out _).mono ?_
  rintro e x1 ⟨rfl, b1⟩
  have HZ := Lib.hid (chain hb0.out (chain D.out b1))
  clear b1
  go_wp2
  go_ret
  exact ⟨rfl, HZ.out⟩

set_option maxRecDepth 100000 in
set_option maxHeartbeats 4000000 in
theorem valid_good (a b : Bool) (s t : ByteArray) (w : World) (z1 : s.size ≤ 60) (z2 : t.size ≤ 60) (hv : vld a s = true) (hv2 : vld b t = true) :
    Calls Try.prog 3 #[.agg #[.bool a, .string s], .agg #[.bool b, .string t]] w (Ret (.bool true) w) := by
  have H_known := Lib.hid known_true
  obtain ⟨w0, hw0⟩ : ∃ w0 : World, w0 = ((w.alloc (.cells #[.bool a, .string s] 23)).alloc (.cells #[.bool b, .string t] 23)).alloc (.cells #[.bool a, .string s, .bool b, .string t] 23) := ⟨_, rfl⟩
  have hb0 : Hid (Below w.heap.size w w0) := by rw [hw0]; exact (((Below.refl _ _).alloc (Nat.le_refl _) _).alloc (by simp) _).alloc (by simp; omega) _
  have I1 : Hid (ZC (.bool a) (.string s) w0 w.heap.size) := by rw [hw0]; exact ((ZC.new rfl).alloc _).alloc _
  have I2 : Hid (ZC (.bool b) (.string t) w0 (w.heap.size + 1)) := by rw [hw0]; exact (ZC.new (by simp)).alloc _
  have HSH := short_any [(a, s), (b, t)] 2 (w.heap.size + 1 + 1) w0 rfl (by decide) (by rw [hw0]; have := WL.two ((w.alloc (.cells #[.bool a, .string s] 23)).alloc (.cells #[.bool b, .string t] 23)) a b s t 23; simpa using this)
  rw [short2_true z1 z2] at HSH
  have H_va := Lib.hid (fun w => Valid_any a s w (by omega))
  have H_ra := Lib.hid (fun w => rvalid_any a s w (by omega))
  have H_vb := Lib.hid (fun w => Valid_any b t w (by omega))
  have H_rb := Lib.hid (fun w => rvalid_any b t w (by omega))
  rw [hv] at H_va H_ra
  rw [hv2] at H_vb H_rb
  have H_sg := Lib.hid (fun w => Sign_any a s w (by omega))
  have H_ln := Lib.hid (fun w => Len_any a s w (by omega))
  rw [lenV_ok hv] at H_ln
  have H_from := Lib.hid (fun w => rfrom_any a s w (by omega))
  have H_rs := Lib.hid (fun v w g => rsignV hv v w g)
  have H_rb2 := Lib.hid (fun v w g => rbits60 hv z1 v w g)
  have H_from2 := Lib.hid (fun w => rfrom_any b t w (by omega))
  have H_cm := Lib.hid (fun v1 v2 w g1 g2 => rcompare60 hv hv2 z1 z2 v1 v2 w g1 g2)
  have H_c1 := Lib.hid (fun w => Compare_valid a b s t w hv hv2)
  have H_c2 := Lib.hid (fun w => Compare_valid b a t s w hv2 hv)
  rw [cmpV_swap hv hv2] at H_c2
  obtain ⟨cc, hcc⟩ : ∃ cc, cmpV a s b t = cc := ⟨_, rfl⟩
  have hc1 : -1 ≤ cc ∧ cc ≤ 1 := by
    rw [← hcc, cmpV_sg hv hv2]
    rcases Int.lt_trichotomy (sg a (bv s) - sg b (bv t)) 0 with g | g | g
    · rw [Int.sign_eq_neg_one_of_neg g]; decide
    · rw [g]; decide
    · rw [Int.sign_eq_one_of_pos g]; decide
  obtain ⟨hc1, hc2⟩ := hc1
  rw [hcc] at H_cm H_c1 H_c2
  clear hcc
  unfold BPost at H_va H_ra H_vb H_rb
  unfold IntPost iV at H_from
  unfold iV at H_rs H_rb2
  unfold SignPost at H_rs
  unfold IPost at H_sg H_ln H_rb2
  unfold IPost at H_c1 H_c2
  unfold IntPost iV at H_from2
  unfold iV at H_cm
  unfold SignPost at H_cm
  clear hv hv2
  generalize sgV a s = sgv at *
  generalize lenB s = lnv at *
  generalize sg a (bv s) = z at *
  generalize decide (z < 0) = bz at *
  generalize sg b (bv t) = z' at *
  generalize decide (z' < 0) = bz' at *
  have HSh := Lib.hid HSH
  have Hw0 := Lib.hid hw0
  clear HSH hw0
  unfold Ret at *
  unfold BPost at HSh
  go_enter Try.func3, Try.ntmps3
  go_wp2_with fail
  rw [← Hw0.out]
  refine HSh.out.mono ?_
  rintro e x0 ⟨rfl, b0⟩
  have D := Lib.hid b0
  clear b0
  obtain ⟨k0, k1, _⟩ := I1.out.next D.out
  obtain ⟨k2, k3, _⟩ := I2.out.next D.out
  go_wp2_with fail
  go_region_held3 (fun W' => W'.cell? ⟨w.heap.size, 0, none⟩ = some (.bool a) ∧ W'.cell? ⟨w.heap.size, 1, none⟩ = some (.string s) ∧ W'.cell? ⟨w.heap.size + 1, 0, none⟩ = some (.bool b) ∧ W'.cell? ⟨w.heap.size + 1, 1, none⟩ = some (.string t)) (go_keep)
    (first
      | (go_at_call 13; (with_reducible refine (H_va.out _).mono ?_); rintro e y ⟨rfl, b9⟩; have E := Lib.hid (show Below x0.heap.size x0 y by first | exact chain E.out b9 | exact chain ((Below.refl _ _).drew) b9); have p0 := keep1 E.out k0; have p1 := keep1 E.out k1; have p2 := keep1 E.out k2; have p3 := keep1 E.out k3;  clear b9)
      | (go_at_call 14; (with_reducible refine (H_ra.out _).mono ?_); rintro e y ⟨rfl, b9⟩; have E := Lib.hid (show Below x0.heap.size x0 y by first | exact chain E.out b9 | exact chain ((Below.refl _ _).drew) b9); have p0 := keep1 E.out k0; have p1 := keep1 E.out k1; have p2 := keep1 E.out k2; have p3 := keep1 E.out k3;  clear b9)
      | (go_at_call 13; (with_reducible refine (H_vb.out _).mono ?_); rintro e y ⟨rfl, b9⟩; have E := Lib.hid (show Below x0.heap.size x0 y by first | exact chain E.out b9 | exact chain ((Below.refl _ _).drew) b9); have p0 := keep1 E.out k0; have p1 := keep1 E.out k1; have p2 := keep1 E.out k2; have p3 := keep1 E.out k3;  clear b9)
      | (go_at_call 14; (with_reducible refine (H_rb.out _).mono ?_); rintro e y ⟨rfl, b9⟩; have E := Lib.hid (show Below x0.heap.size x0 y by first | exact chain E.out b9 | exact chain ((Below.refl _ _).drew) b9); have p0 := keep1 E.out k0; have p1 := keep1 E.out k1; have p2 := keep1 E.out k2; have p3 := keep1 E.out k3;  clear b9)
      | fail)
  have D := Lib.hid (chain D.out E.out)
  clear E k0 k1 k2 k3 p0 p1 p2 p3
  obtain ⟨k0, k1, _⟩ := I1.out.next D.out
  obtain ⟨k2, k3, _⟩ := I2.out.next D.out
  go_wp2_with fail
  refine (H_ra.out _).mono ?_
  rintro e y ⟨rfl, b9⟩
  have D := Lib.hid (chain D.out b9)
  obtain ⟨k0, k1, _⟩ := I1.out.next D.out
  obtain ⟨k2, k3, _⟩ := I2.out.next D.out
  go_wp2_with fail
  refine (H_from.out _).mono ?_
  rintro e y1 ⟨v1, rfl, r1, b9⟩
  have D := Lib.hid (chain D.out b9)
  have R1 : Hid (Rz (y1.alloc (.cells #[.bool bz, v1] 31)) v1 z) := Ri.allocd r1 _
  obtain ⟨pz1, bb1, o1, c1, rfl, rr1⟩ := r1
  obtain ⟨u1, hu1⟩ : ∃ u1 : World, u1 = y1.alloc (.cells #[.bool bz, .slice pz1 (Nm.dg D9 z.natAbs).length c1] 31) := ⟨_, rfl⟩
  rw [← hu1] at R1
  have T5 : Hid (ZC (.bool bz) (.slice pz1 (Nm.dg D9 z.natAbs).length c1) u1 y1.heap.size) := by rw [hu1]; exact ZC.new rfl
  have D : Hid (Below w0.heap.size w0 u1) := by rw [hu1]; exact D.out.alloc D.out.size _
  have Hu1 := Lib.hid hu1
  clear b9 rr1 hu1
  have R1d : Hid (Rz u1.drew (.slice pz1 (Nm.dg D9 z.natAbs).length c1) z) := Ri.drew R1.out
  obtain ⟨k0, k1, _⟩ := I1.out.next D.out
  obtain ⟨k2, k3, _⟩ := I2.out.next D.out
  obtain ⟨k4, k5, _⟩ := T5.out
  go_wp2_with fail
  rw [← Hu1.out]
  clear Hu1
  go_region_held3 (fun W' => W'.cell? ⟨w.heap.size, 0, none⟩ = some (.bool a) ∧ W'.cell? ⟨w.heap.size, 1, none⟩ = some (.string s) ∧ W'.cell? ⟨w.heap.size + 1, 0, none⟩ = some (.bool b) ∧ W'.cell? ⟨w.heap.size + 1, 1, none⟩ = some (.string t) ∧ W'.cell? ⟨y1.heap.size, 0, none⟩ = some (.bool bz) ∧ W'.cell? ⟨y1.heap.size, 1, none⟩ = some (.slice pz1 (Nm.dg D9 z.natAbs).length c1)) (go_keep)
    (first
      | (go_at_call 16; (with_reducible refine (H_sg.out _).mono ?_); rintro e y ⟨rfl, b9⟩; have E := Lib.hid (show Below u1.heap.size u1 y by first | exact chain E.out b9 | exact chain ((Below.refl _ _).drew) b9); have p0 := keep1 E.out k0; have p1 := keep1 E.out k1; have p2 := keep1 E.out k2; have p3 := keep1 E.out k3; have p4 := keep1 E.out k4; have p5 := keep1 E.out k5;  clear b9)
      | (go_at_call 19; (with_reducible refine (H_rs.out _ _ (Ri.below R1.out E.out (Nat.le_refl _))).mono ?_); rintro e y ⟨rfl, b9⟩; have E := Lib.hid (show Below u1.heap.size u1 y by first | exact chain E.out b9 | exact chain ((Below.refl _ _).drew) b9); have p0 := keep1 E.out k0; have p1 := keep1 E.out k1; have p2 := keep1 E.out k2; have p3 := keep1 E.out k3; have p4 := keep1 E.out k4; have p5 := keep1 E.out k5;  clear b9)
      | (go_at_call 17; (with_reducible refine (H_ln.out _).mono ?_); rintro e y ⟨rfl, b9⟩; have E := Lib.hid (show Below u1.heap.size u1 y by first | exact chain E.out b9 | exact chain ((Below.refl _ _).drew) b9); have p0 := keep1 E.out k0; have p1 := keep1 E.out k1; have p2 := keep1 E.out k2; have p3 := keep1 E.out k3; have p4 := keep1 E.out k4; have p5 := keep1 E.out k5;  clear b9)
      | (go_at_call 20; (with_reducible refine (H_rb2.out _ _ (Ri.below R1.out E.out (Nat.le_refl _))).mono ?_); rintro e y ⟨rfl, b9⟩; have E := Lib.hid (show Below u1.heap.size u1 y by first | exact chain E.out b9 | exact chain ((Below.refl _ _).drew) b9); have p0 := keep1 E.out k0; have p1 := keep1 E.out k1; have p2 := keep1 E.out k2; have p3 := keep1 E.out k3; have p4 := keep1 E.out k4; have p5 := keep1 E.out k5;  clear b9)
      | fail)
  have D := Lib.hid (chain D.out E.out)
  have T5 := Lib.hid (T5.out.next E.out)
  have R1 := Lib.hid (Ri.below R1.out E.out (Nat.le_refl _))
  clear E k0 k1 k2 k3 k4 k5 p0 p1 p2 p3 p4 p5
  obtain ⟨k0, k1, _⟩ := I1.out.next D.out
  obtain ⟨k2, k3, _⟩ := I2.out.next D.out
  obtain ⟨k4, k5, _⟩ := T5.out
  go_wp2_with fail
  refine (H_rb.out _).mono ?_
  rintro e yr ⟨rfl, b9⟩
  have D := Lib.hid (chain D.out b9)
  obtain ⟨k0, k1, _⟩ := I1.out.next D.out
  obtain ⟨k2, k3, _⟩ := I2.out.next D.out
  have T5 := Lib.hid (T5.out.next b9)
  have R1 := Lib.hid (Ri.below R1.out b9 (Nat.le_refl _))
  obtain ⟨k4, k5, _⟩ := T5.out
  clear b9
  go_wp2_with fail
  go_region_held3 (fun W' => W'.cell? ⟨w.heap.size, 0, none⟩ = some (.bool a) ∧ W'.cell? ⟨w.heap.size, 1, none⟩ = some (.string s) ∧ W'.cell? ⟨w.heap.size + 1, 0, none⟩ = some (.bool b) ∧ W'.cell? ⟨w.heap.size + 1, 1, none⟩ = some (.string t) ∧ W'.cell? ⟨y1.heap.size, 0, none⟩ = some (.bool bz) ∧ W'.cell? ⟨y1.heap.size, 1, none⟩ = some (.slice pz1 (Nm.dg D9 z.natAbs).length c1)) (go_keep)
    (first
      | (go_at_call 18; (with_reducible refine (H_from2.out _).mono ?_); rintro e y ⟨v2, rfl, r2, b9⟩; have E := Lib.hid (show Below yr.heap.size yr y by first | exact chain E.out b9 | exact chain ((Below.refl _ _).drew) b9); have p0 := keep1 E.out k0; have p1 := keep1 E.out k1; have p2 := keep1 E.out k2; have p3 := keep1 E.out k3; have p4 := keep1 E.out k4; have p5 := keep1 E.out k5; have R2 := Lib.hid r2; obtain ⟨pz2, bb2, o2, c2, rfl, rr2⟩ := r2; clear rr2; clear b9)
      | (go_at_call 21; (with_reducible refine (H_cm.out _ _ _ (Ri.below R1.out E.out (Nat.le_refl _)) R2.out).mono ?_); rintro e y ⟨rfl, b9⟩; have E := Lib.hid (show Below yr.heap.size yr y by first | exact chain E.out b9 | exact chain ((Below.refl _ _).drew) b9); have p0 := keep1 E.out k0; have p1 := keep1 E.out k1; have p2 := keep1 E.out k2; have p3 := keep1 E.out k3; have p4 := keep1 E.out k4; have p5 := keep1 E.out k5;  clear b9)
      | fail)
  have D := Lib.hid (chain D.out E.out)
  clear E k0 k1 k2 k3 k4 k5 p0 p1 p2 p3 p4 p5
  obtain ⟨k0, k1, _⟩ := I1.out.next D.out
  obtain ⟨k2, k3, _⟩ := I2.out.next D.out
  go_wp2_with fail
  refine (H_c1.out _).mono ?_
  rintro e y ⟨rfl, b9⟩
  have D := Lib.hid (chain D.out b9)
  obtain ⟨k0, k1, _⟩ := I1.out.next D.out
  obtain ⟨k2, k3, _⟩ := I2.out.next D.out
  go_wp2_with fail
  refine (H_c2.out _).mono ?_
  rintro e y ⟨rfl, b9⟩
  have D := Lib.hid (chain D.out b9)
  obtain ⟨k0, k1, _⟩ := I1.out.next D.out
  obtain ⟨k2, k3, _⟩ := I2.out.next D.out
  go_wp2_with fail
  refine (H_known.out _).mono ?_
  rintro e x1 ⟨rfl, b1⟩
  have HZ := Lib.hid (chain hb0.out (chain D.out b1))
  clear b1
  go_wp2
  go_ret
  exact ⟨rfl, HZ.out⟩
end Go.Proofs.Ytgfdabhjjhjdbaa

/- WideInts gives true for every int and every wide integer (P1.2), and leaves its arguments as they were. No condition. -/
namespace Go.Proofs.Ytgfdabhjjhjdbaa
open Go.ChangeShapes Go.WideShapes Go.ChangeAt Go.RowKit Go.Joins
open Go.ChangeMaps (open_string shut_string)

theorem Try.own : ownKnob Try.prog.godebug = none := by kernel_rfl
theorem Try.cellsWide : Try.prog.cellsOf 23 = 2 := by kernel_rfl

set_option maxRecDepth 100000 in
/-- A wide integer that came in. -/
theorem open_wide {H : Type} {enc : TypeId × Value → H} {w : World} {base : Nat} {b0 : Nat} {spare : Nat → Bool} {held : Bool} {r : Reach} {v : Value} {d : DataW H} {p : List MemPlace}
    (hv : Value.okWide Try.prog w r b0 23 v) (h : DataW.Trod enc Try.prog w base spare held 23 v d p) :
    ∃ (a : Bool) (s : ByteArray), v = .agg #[.bool a, .string s] ∧ d = .agg [.lit (.bool a), .lit (.string s.data.toList)] ∧ p = [] ∧ s.size ≤ maxLen := by
  obtain ⟨c0, c1, y0, y1, m, rfl, rfl, rfl, hy0, hy1⟩ := open_agg2 Try.underlying23 (by kernel_rfl) Try.cellsWide hv h
  obtain ⟨a, e0, rfl⟩ := DataW.trod_bool Try.underlying4 hy0
  obtain ⟨s, e1, rfl, hs⟩ := DataW.trod_string Try.underlying9 hy1
  simp at e0 e1
  subst e0 e1
  exact ⟨a, s, rfl, rfl, rfl, hs⟩
theorem shut_wide {H : Type} {enc : TypeId × Value → H} {w : World} {base : Nat} {spare : Nat → Bool} {held : Bool} {a : Bool} {s : ByteArray} (hs : s.size ≤ maxLen) :
    DataW.Trod enc Try.prog w base spare held 23 (.agg #[.bool a, .string s]) (.agg [.lit (.bool a), .lit (.string s.data.toList)]) [] :=
  shut_agg2 (y0 := (.lit (.bool a), [])) (y1 := (.lit (.string s.data.toList), [])) Try.underlying23 (by kernel_rfl) Try.cellsWide ⟨1, by simp [DataW.trod, Try.underlying4]⟩ ⟨1, by simp [DataW.trod, Try.underlying9, hs]⟩

theorem ints_any (n : Int) (a : Bool) (s : ByteArray) (w : World) (h1 : -9223372036854775808 ≤ n) (h2 : n ≤ 9223372036854775807) :
    Calls Try.prog 4 #[.int .i64 n, .agg #[.bool a, .string s]] w (Ret (.bool true) w) := by
  by_cases hs : s.size ≤ 60
  · have hz : s.size ≤ 140737488351232 := by omega
    cases hv : vld a s with
    | false => exact ints_invalid n a s w h1 h2 hz hs hv
    | true =>
      by_cases g1 : sg a (bv s) < -9223372036854775808
      · exact ints_low n a s w h1 h2 hz hs hv g1
      · by_cases g2 : 9223372036854775807 < sg a (bv s)
        · exact ints_high n a s w h1 h2 hz hs hv g2
        · exact ints_in n a s w h1 h2 hz hs hv (by omega) (by omega)
  · exact ints_long n a s w h1 h2 hs

set_option maxRecDepth 100000 in
theorem ints_lifted (os : Os) (started : os.Started) (H : Type) (enc : TypeId × Value → H) :
    ReturnsInHanded {} Try.checked os 4 .any (Rows.wideIntsSpec.pre6 enc Try.prog Try.f4 Rows.wideIntsRow.domain false) (Rows.wideIntsSpec.post enc Try.prog Try.f4 false true false false) := by
  refine returnsInHanded_of_change (C := Try.checked) Try.own started (by kernel_rfl) Try.func4
    (ChangeSpec.witness6 (enc := enc) (C := Try.checked) false ⟨#[], #[.int .i64 0, .agg #[.bool false, .string ⟨#[]⟩]], []⟩ 8 (by kernel_rfl) (by kernel_rfl) (by kernel_rfl) (by kernel_rfl)) ?_
  intro W base args ds gs before hval0 hW hcnd _
  have hval : ∀ (j : Nat) t v, Try.f4.params[j]? = some t → args[j]? = some v → Value.okWide Try.prog W .any base t v := hval0
  have hW' := hW
  obtain ⟨p, q, hA0, hV, rfl, hfz, hnd⟩ := hW
  have hA : DataW.TrodAll enc Try.prog W 0 (fun _ => true) true Try.f4.params.toList args.toList ds p := hA0
  rw [Try.params4] at hA hval
  obtain ⟨v0, v1, d0, d1, p0, p1, rfl, rfl, rfl, h0, h1⟩ := trodAll_two hA
  obtain ⟨rfl, rfl⟩ := trodVars_none hV
  obtain ⟨n, rfl, rfl, rfl, wn⟩ := open_int Try.underlying3 (hval 0 3 v0 rfl rfl) h0
  obtain ⟨a, s, rfl, rfl, rfl, hs⟩ := open_wide (hval 1 23 v1 rfl rfl) h1
  clear hA0 hval0
  have bn := bounds_i64 wn
  refine (ints_any n a s W (by omega) (by omega)).mono fun e W' ⟨he, bel⟩ => ?_
  subst he
  exact ⟨_, rfl, _, _, _, [], _, [], hW', trodAll_mk1 (shut_bool Try.underlying4 _), trodAll_mk2 (shut_int Try.underlying3 wn) (shut_wide hs), rfl, bel.frame _, fun h => by cases h⟩

/-- The statement. -/
theorem ints_holds : Rows.WideIntsSaid :=
  OpenClaim.holds_of_wide 4 Try.f4 rfl rfl rfl rfl rfl rfl rfl ⟨rfl, rfl, rfl, rfl, rfl⟩ rfl rfl rfl rfl rfl (by kernel_rfl) Try.func4 (by kernel_rfl)
    (of_decide_eq_true (by kernel_rfl)) (by unfold Func.isWrapper; first | (rw [if_pos (by decide +kernel)]; kernel_rfl) | (rw [if_neg (by decide +kernel)]; exact ⟨rfl, rfl⟩))
    (fun os started H enc _ => ints_lifted os started H enc)
#print axioms ints_holds
end Go.Proofs.Ytgfdabhjjhjdbaa

/- WideValid gives true for all pairs of wide integers (P1.1), and leaves its arguments as they were. No condition. -/
namespace Go.Proofs.Ytgfdabhjjhjdbaa
open Go.ChangeShapes Go.WideShapes Go.ChangeAt Go.RowKit Go.Joins
open Go.ChangeMaps (open_string shut_string)

theorem valid2_any (a b : Bool) (s t : ByteArray) (w : World) : Calls Try.prog 3 #[.agg #[.bool a, .string s], .agg #[.bool b, .string t]] w (Ret (.bool true) w) := by
  by_cases hs : s.size ≤ 60 ∧ t.size ≤ 60
  · cases hv : vld a s with
    | false => exact valid_bad1 a b s t w hs.1 hs.2 hv
    | true =>
      cases hv2 : vld b t with
      | false => exact valid_bad2 a b s t w hs.1 hs.2 hv hv2
      | true => exact valid_good a b s t w hs.1 hs.2 hv hv2
  · exact valid_long a b s t w hs

set_option maxRecDepth 100000 in
theorem valid2_lifted (os : Os) (started : os.Started) (H : Type) (enc : TypeId × Value → H) :
    ReturnsInHanded {} Try.checked os 3 .any (Rows.wideValidSpec.pre6 enc Try.prog Try.f3 Rows.wideValidRow.domain false) (Rows.wideValidSpec.post enc Try.prog Try.f3 false true false false) := by
  refine returnsInHanded_of_change (C := Try.checked) Try.own started (by kernel_rfl) Try.func3
    (ChangeSpec.witness6 (enc := enc) (C := Try.checked) false ⟨#[], #[.agg #[.bool false, .string ⟨#[]⟩], .agg #[.bool false, .string ⟨#[]⟩]], []⟩ 8 (by kernel_rfl) (by kernel_rfl) (by kernel_rfl) (by kernel_rfl)) ?_
  intro W base args ds gs before hval0 hW hcnd _
  have hval : ∀ (j : Nat) t v, Try.f3.params[j]? = some t → args[j]? = some v → Value.okWide Try.prog W .any base t v := hval0
  have hW' := hW
  obtain ⟨p, q, hA0, hV, rfl, hfz, hnd⟩ := hW
  have hA : DataW.TrodAll enc Try.prog W 0 (fun _ => true) true Try.f3.params.toList args.toList ds p := hA0
  rw [Try.params3] at hA hval
  obtain ⟨v0, v1, d0, d1, p0, p1, rfl, rfl, rfl, h0, h1⟩ := trodAll_two hA
  obtain ⟨rfl, rfl⟩ := trodVars_none hV
  obtain ⟨a, s, rfl, rfl, rfl, hs⟩ := open_wide (hval 0 23 v0 rfl rfl) h0
  obtain ⟨b, t, rfl, rfl, rfl, ht⟩ := open_wide (hval 1 23 v1 rfl rfl) h1
  clear hA0 hval0
  refine (valid2_any a b s t W).mono fun e W' ⟨he, bel⟩ => ?_
  subst he
  exact ⟨_, rfl, _, _, _, [], _, [], hW', trodAll_mk1 (shut_bool Try.underlying4 _), trodAll_mk2 (shut_wide hs) (shut_wide ht), rfl, bel.frame _, fun h => by cases h⟩

/-- The statement. -/
theorem valid2_holds : Rows.WideValidSaid :=
  OpenClaim.holds_of_wide 3 Try.f3 rfl rfl rfl rfl rfl rfl rfl ⟨rfl, rfl, rfl, rfl, rfl⟩ rfl rfl rfl rfl rfl (by kernel_rfl) Try.func3 (by kernel_rfl)
    (of_decide_eq_true (by kernel_rfl)) (by unfold Func.isWrapper; first | (rw [if_pos (by decide +kernel)]; kernel_rfl) | (rw [if_neg (by decide +kernel)]; exact ⟨rfl, rfl⟩))
    (fun os started H enc _ => valid2_lifted os started H enc)
#print axioms valid2_holds
end Go.Proofs.Ytgfdabhjjhjdbaa
