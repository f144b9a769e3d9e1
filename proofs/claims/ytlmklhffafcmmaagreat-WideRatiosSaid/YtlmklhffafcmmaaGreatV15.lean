/- WideRatios gives true for all wide integers and ints (P1.7), and leaves its arguments as they were. No condition. -/
import Derived.Test.YtlmklhffafcmmaaGreatV12
import Derived.Test.YtlmklhffafcmmaaGreatV10
import Derived.Test.YtlmklhffafcmmaaGreatV13
import Derived.Test.YtlmklhffafcmmaaGreatV14
import Derived.Test.YtlmklhffafcmmaaGreatV0
import Derived.ProofKit
import Derived.OpenShut
import Derived.ShutString
import Derived.ChangeOld
import Derived.Below
import Derived.Lib.SmallJoins
import Derived.Test.YtlmklhffafcmmaaGreatRows
import Derived.Carry

/- The law WideRatios: the walk over what its calls give: the denominator is positive. -/
namespace Go.Proofs.YtlmklhffafcmmaaGreat
open Go.RowKit

set_option maxRecDepth 100000 in
set_option maxHeartbeats 8000000 in
theorem ratios_pos_d0 (a b : Bool) (s t : ByteArray) (n d : Int) (w : World) (l1 : s.size ≤ 60) (l2 : t.size ≤ 60) (hsh : shortL [(a, s), (b, t)] = true) (hvl : validL [(a, s), (b, t)] = true) (h0 : 0 < t.size) (hd : d = 0) (xa xb : Bool) (sa sb : ByteArray) (x y' z1 z2 : Int) (fa : Bool) (fs : ByteArray) (qx rx : Int)
    (h_ra : ∀ w, Calls Tryz.prog 9 #[.agg #[.bool a, .string s], .agg #[.bool b, .string t]] w fun e w' => e = .returned (.tuple #[.agg #[.bool xa, .string sa, .bool xb, .string sb], .int .i64 0]) ∧ Below w.heap.size w w')
    (h_ro : ∀ w, Calls Tryz.prog 10 #[.int .i64 n, .int .i64 d] w fun e w' => e = .returned (.tuple #[.agg #[.bool false, .string ⟨#[]⟩, .bool false, .string ⟨#[]⟩], .int .i64 3]) ∧ Below w.heap.size w w')
    (h_fl : ∀ w, Calls Tryz.prog 11 #[.agg #[.bool a, .string s, .bool b, .string t]] w fun e w' => e = .returned (.tuple #[.agg #[.bool fa, .string fs], .int .i64 0]) ∧ Below w.heap.size w w')
    (h_vr : ∀ w, Calls Tryz.prog 12 #[.agg #[.bool a, .string s, .bool b, .string t]] w fun e w' => e = .returned (.bool true) ∧ Below w.heap.size w w')
    (h_rv : ∀ w, Calls Tryz.prog 13 #[.agg #[.bool a, .string s, .bool b, .string t]] w fun e w' => e = .returned (.bool true) ∧ Below w.heap.size w w')
    (h_from : ∀ w, Calls Tryz.prog 18 #[.agg #[.bool a, .string s]] w (IntPost x w))
    (h_from2 : ∀ w, Calls Tryz.prog 18 #[.agg #[.bool b, .string t]] w (IntPost y' w))
    (h_sg : ∀ v w, Rz w v y' → Calls Tryz.prog 19 #[iV y' v] w (SignPost (1) w))
    (h_lo2 : ∀ v1 v2 w, Rz w v1 x → Rz w v2 y' → Calls Tryz.prog 15 #[iV x v1, iV y' v2] w (RQPost z1 z2 w))
    (h_sa2 : ∀ v1 v2 w, Rz w v1 z1 → Rz w v2 z2 → Calls Tryz.prog 14 #[.agg #[.bool xa, .string sa, .bool xb, .string sb], .int .i64 0, qV z1 z2 v1 v2] w fun e w' => e = .returned (.bool true) ∧ Below w.heap.size w w')
    (h_qu : ∀ v1 v2 w, Rz w v1 x → Rz w v2 y' → Calls Tryz.prog 20 #[iV x v1, iV y' v2] w (QIPost qx rx w))
    (h_is : ∀ v w, Rz w v qx → Calls Tryz.prog 21 #[.agg #[.bool fa, .string fs], .int .i64 0, iV qx v] w fun e w' => e = .returned (.bool true) ∧ Below w.heap.size w w') :
    Calls Tryz.prog 3 #[.agg #[.bool a, .string s], .agg #[.bool b, .string t], .int .i64 n, .int .i64 d] w (Ret (.bool true) w) := by
  subst hd
  have H_ra := Lib.hid h_ra
  have H_ro := Lib.hid h_ro
  have H_fl := Lib.hid h_fl
  have H_vr := Lib.hid h_vr
  have H_rv := Lib.hid h_rv
  have H_from := Lib.hid h_from
  have H_from2 := Lib.hid h_from2
  have H_sg := Lib.hid h_sg
  have H_lo2 := Lib.hid h_lo2
  have H_sa2 := Lib.hid h_sa2
  have H_qu := Lib.hid h_qu
  have H_is := Lib.hid h_is
  clear h_ra h_ro h_fl h_vr h_rv h_from h_from2 h_sg h_lo2 h_sa2 h_qu h_is
  unfold IntPost at H_from H_from2
  unfold RQPost at H_lo2
  unfold qV at H_lo2 H_sa2
  unfold QIPost at H_qu
  unfold SignPost at H_sg
  unfold iV at H_from H_from2 H_sg H_lo2 H_qu H_is
  generalize decide (x < 0) = bx at *
  generalize decide (y' < 0) = by' at *
  generalize decide (z1 < 0) = bz1 at *
  generalize decide (z2 < 0) = bz2 at *
  generalize decide (qx < 0) = bqx at *
  generalize decide (rx < 0) = brx at *
  have H_known := Lib.hid known_true
  obtain ⟨w0, hw0⟩ : ∃ w0 : World, w0 = ((w.alloc (.cells #[.bool a, .string s] 23)).alloc (.cells #[.bool b, .string t] 23)).alloc (.cells #[.bool a, .string s, .bool b, .string t] 23) := ⟨_, rfl⟩
  have hb0 : Hid (Below w.heap.size w w0) := by rw [hw0]; exact (((Below.refl _ _).alloc (Nat.le_refl _) _).alloc (by simp) _).alloc (by simp; omega) _
  have I1 : Hid (ZC (.bool a) (.string s) w0 w.heap.size) := by rw [hw0]; exact ((ZC.new rfl).alloc _).alloc _
  have I2 : Hid (ZC (.bool b) (.string t) w0 (w.heap.size + 1)) := by rw [hw0]; exact (ZC.new (by simp)).alloc _
  have Hsz : Hid (w.heap.size + 3 ≤ w0.heap.size) := by rw [hw0]; show _ ≤ _; simp
  have HSH := short_any [(a, s), (b, t)] 2 (w.heap.size + 1 + 1) w0 rfl (by decide) (by rw [hw0]; have := WL.two ((w.alloc (.cells #[.bool a, .string s] 23)).alloc (.cells #[.bool b, .string t] 23)) a b s t 23; simpa using this)
  rw [hsh] at HSH
  have H_val := Lib.hid (fun g w h => valid_any [(a, s), (b, t)] 2 g w rfl (by decide) h (by intro x hx; simp at hx; rcases hx with rfl | rfl <;> (show _ ≤ _; simp; omega)))
  rw [hvl] at H_val
  unfold BPost at H_val
  clear hvl
  have HSh := Lib.hid HSH
  have Hw0 := Lib.hid hw0
  clear HSH hw0 hsh
  unfold Ret at *
  unfold BPost at HSh
  go_enter Tryz.func3, Tryz.ntmps3
  go_wp2_with fail
  rw [← Hw0.out]
  refine HSh.out.mono ?_
  rintro e x0 ⟨rfl, b0⟩
  have D := Lib.hid b0
  clear b0
  obtain ⟨k0, k1, _⟩ := I1.out.next D.out
  obtain ⟨k2, k3, _⟩ := I2.out.next D.out
  have b9 := Below.refl x0.heap.size x0
  have j1 : ¬ w.heap.size = x0.heap.size := Nat.ne_of_lt (World.block_lt_of_cell? _ _ k0)
  have j2 : ¬ w.heap.size + 1 = x0.heap.size := Nat.ne_of_lt (World.block_lt_of_cell? _ _ k2)
  obtain ⟨u9, hu9⟩ : ∃ u : World, u = x0.alloc (.cells #[.bool a, .string s, .bool b, .string t] 27) := ⟨_, rfl⟩
  have E : Hid (Below x0.heap.size x0 u9) := by rw [hu9]; exact b9.alloc b9.size _
  have D := Lib.hid (chain D.out E.out)
  have T9 : Hid (ZC4 (.bool a) (.string s) (.bool b) (.string t) u9 x0.heap.size) := by rw [hu9]; exact ZC4.made0 _
  have Hu9 := Lib.hid hu9
  clear hu9 b9 E
  go_upto_region 4 with (fail)
  rw [← Hu9.out]
  clear Hu9
  clear j1 j2
  clear k0 k1 k2 k3
  obtain ⟨k0, k1, _⟩ := I1.out.next D.out
  obtain ⟨k2, k3, _⟩ := I2.out.next D.out
  go_wp2_with fail
  refine (H_ra.out _).mono ?_
  rintro e y10 ⟨rfl, b9⟩
  obtain ⟨u10, hu10⟩ : ∃ u : World, u = y10.alloc (.cells #[.bool xa, .string sa, .bool xb, .string sb] 27) := ⟨_, rfl⟩
  have E : Hid (Below u9.heap.size u9 u10) := by rw [hu10]; exact b9.alloc b9.size _
  have D := Lib.hid (chain D.out E.out)
  have T9 := Lib.hid (T9.out.next E.out)
  have T10 : Hid (ZC4 (.bool xa) (.string sa) (.bool xb) (.string sb) u10 y10.heap.size) := by rw [hu10]; exact ZC4.made0 _
  have Hu10 := Lib.hid hu10
  clear hu10 b9 E
  go_upto_region 5 with (fail)
  rw [← Hu10.out]
  clear Hu10
  clear k0 k1 k2 k3
  go_wp2_with fail
  refine (H_ro.out _).mono ?_
  rintro e y12 ⟨rfl, b9⟩
  obtain ⟨u12, hu12⟩ : ∃ u : World, u = y12.alloc (.cells #[.bool false, .string ⟨#[]⟩, .bool false, .string ⟨#[]⟩] 27) := ⟨_, rfl⟩
  have E : Hid (Below u10.heap.size u10 u12) := by rw [hu12]; exact b9.alloc b9.size _
  have D := Lib.hid (chain D.out E.out)
  have T9 := Lib.hid (T9.out.next E.out)
  have T10 := Lib.hid (T10.out.next E.out)
  have T12 : Hid (ZC4 (.bool false) (.string ⟨#[]⟩) (.bool false) (.string ⟨#[]⟩) u12 y12.heap.size) := by rw [hu12]; exact ZC4.made0 _
  have Hu12 := Lib.hid hu12
  clear hu12 b9 E
  go_upto_region 6 with (fail)
  rw [← Hu12.out]
  clear Hu12
  obtain ⟨⟨k9a, k9b, k9c, k9d⟩, _⟩ := T9.out
  go_wp2_with fail
  refine (H_fl.out _).mono ?_
  rintro e y14 ⟨rfl, b9⟩
  clear k9a k9b k9c k9d
  obtain ⟨u14, hu14⟩ : ∃ u : World, u = y14.alloc (.cells #[.bool fa, .string fs] 23) := ⟨_, rfl⟩
  have E : Hid (Below u12.heap.size u12 u14) := by rw [hu14]; exact b9.alloc b9.size _
  have D := Lib.hid (chain D.out E.out)
  have T9 := Lib.hid (T9.out.next E.out)
  have T10 := Lib.hid (T10.out.next E.out)
  have T12 := Lib.hid (T12.out.next E.out)
  have T14 : Hid (ZC (.bool fa) (.string fs) u14 y14.heap.size) := by rw [hu14]; exact ZC.new rfl
  have Hu14 := Lib.hid hu14
  clear hu14 b9 E
  go_upto_region 7 with (fail)
  rw [← Hu14.out]
  clear Hu14
  obtain ⟨⟨k9a, k9b, k9c, k9d⟩, _⟩ := T9.out
  go_region_held3 (fun W' => W'.cell? ⟨x0.heap.size, 0, none⟩ = some (.bool a) ∧ W'.cell? ⟨x0.heap.size, 1, none⟩ = some (.string s) ∧ W'.cell? ⟨x0.heap.size, 2, none⟩ = some (.bool b) ∧ W'.cell? ⟨x0.heap.size, 3, none⟩ = some (.string t)) (go_keep)
    (first
      | (go_at_call 12; (with_reducible refine (H_vr.out _).mono ?_); rintro e y ⟨rfl, b9⟩; have E := Lib.hid (show Below u14.heap.size u14 y by first | exact chain E.out b9 | exact chain ((Below.refl _ _).drew) b9); have p9a := keep1 E.out k9a; have p9b := keep1 E.out k9b; have p9c := keep1 E.out k9c; have p9d := keep1 E.out k9d; clear b9)
      | (go_at_call 13; (with_reducible refine (H_rv.out _).mono ?_); rintro e y ⟨rfl, b9⟩; have E := Lib.hid (show Below u14.heap.size u14 y by first | exact chain E.out b9 | exact chain ((Below.refl _ _).drew) b9); have p9a := keep1 E.out k9a; have p9b := keep1 E.out k9b; have p9c := keep1 E.out k9c; have p9d := keep1 E.out k9d; clear b9)
      | fail)
  have D := Lib.hid (chain D.out E.out)
  have T9 := Lib.hid (T9.out.next E.out)
  have T10 := Lib.hid (T10.out.next E.out)
  have T12 := Lib.hid (T12.out.next E.out)
  have T14 := Lib.hid (T14.out.next E.out)
  obtain ⟨y7, hy7⟩ : ∃ y7 : World, y7 = y := ⟨_, rfl⟩
  subst hy7
  clear E k9a k9b k9c k9d p9a p9b p9c p9d
  obtain ⟨⟨k12a, k12b, k12c, k12d⟩, _⟩ := T12.out
  go_upto_region 9 with (fail)
  refine wp_region_noPanic ?_
  refine wp_region_held_drew (S := (fun W' => W'.cell? ⟨y12.heap.size, 0, none⟩ = some (.bool false) ∧ W'.cell? ⟨y12.heap.size, 1, none⟩ = some (.string ⟨#[]⟩) ∧ W'.cell? ⟨y12.heap.size, 2, none⟩ = some (.bool false) ∧ W'.cell? ⟨y12.heap.size, 3, none⟩ = some (.string ⟨#[]⟩))) (by kernel_rfl) ?_ (fun hHeld => ?_)
  · exact ⟨k12a, k12b, k12c, k12d⟩
  refine wpAnyH_take (i := 0) (oi := ?oi157) (v := ?v157) ?hi157 (by kernel_rfl) (by kernel_rfl) (by kernel_rfl) (fun _ _ _ h => h) (Or.inl ⟨?hw157, ?hy157⟩) (by assumption) ?rest157
  case hi157 => simp only [List.getElem?_toArray, List.getElem?_cons_succ, List.getElem?_cons_zero]; rfl
  case hw157 => rfl
  case hy157 =>
    intro w hSw
    (try dsimp only at hSw)
    go_simp
    (try with_reducible rfl)
  (try simp only [Act.put, List.setIfInBounds_toArray, List.set_cons_zero, List.set_cons_succ])
  refine wpAnyH_take (i := 1) (oi := ?oi158) (v := ?v158) ?hi158 (by kernel_rfl) (by kernel_rfl) (by kernel_rfl) (fun _ _ _ h => h) (Or.inl ⟨?hw158, ?hy158⟩) (by assumption) ?rest158
  case hi158 => simp only [List.getElem?_toArray, List.getElem?_cons_succ, List.getElem?_cons_zero]; rfl
  case hw158 => rfl
  case hy158 =>
    intro w hSw
    (try dsimp only at hSw)
    go_simp
    (try with_reducible rfl)
  (try simp only [Act.put, List.setIfInBounds_toArray, List.set_cons_zero, List.set_cons_succ])
  refine wpAnyH_take (i := 2) (oi := ?oi159) (v := ?v159) ?hi159 (by kernel_rfl) (by kernel_rfl) (by kernel_rfl) (fun _ _ _ h => h) (Or.inl ⟨?hw159, ?hy159⟩) (by assumption) ?rest159
  case hi159 => simp only [List.getElem?_toArray, List.getElem?_cons_succ, List.getElem?_cons_zero]; rfl
  case hw159 => rfl
  case hy159 =>
    intro w hSw
    (try dsimp only at hSw)
    go_simp
    (try with_reducible rfl)
  (try simp only [Act.put, List.setIfInBounds_toArray, List.set_cons_zero, List.set_cons_succ])
  refine wpAnyH_take (i := 3) (oi := ?oi160) (v := ?v160) ?hi160 (by kernel_rfl) (by kernel_rfl) (by kernel_rfl) (fun _ _ _ h => h) (Or.inl ⟨?hw160, ?hy160⟩) (by assumption) ?rest160
  case hi160 => simp only [List.getElem?_toArray, List.getElem?_cons_succ, List.getElem?_cons_zero]; rfl
  case hw160 => rfl
  case hy160 =>
    intro w hSw
    (try dsimp only at hSw)
    go_simp
    (try with_reducible rfl)
  (try simp only [Act.put, List.setIfInBounds_toArray, List.set_cons_zero, List.set_cons_succ])
  refine wpAnyH_take (i := 4) (oi := ?oi161) (v := ?v161) ?hi161 (by kernel_rfl) (by kernel_rfl) (by kernel_rfl) (fun _ _ _ h => h) (Or.inl ⟨?hw161, ?hy161⟩) (by assumption) ?rest161
  case hi161 => simp only [List.getElem?_toArray, List.getElem?_cons_succ, List.getElem?_cons_zero]; rfl
  case hw161 => rfl
  case hy161 =>
    intro w hSw
    (try dsimp only at hSw)
    go_simp
    (try with_reducible rfl)
  (try simp only [Act.put, List.setIfInBounds_toArray, List.set_cons_zero, List.set_cons_succ])
  refine wpAnyH_take (i := 5) (oi := ?oi162) (v := ?v162) ?hi162 (by kernel_rfl) (by kernel_rfl) (by kernel_rfl) (fun _ _ _ h => h) (Or.inl ⟨?hw162, ?hy162⟩) (by assumption) ?rest162
  case hi162 => simp only [List.getElem?_toArray, List.getElem?_cons_succ, List.getElem?_cons_zero]; rfl
  case hw162 => rfl
  case hy162 =>
    intro w hSw
    (try dsimp only at hSw)
    go_simp
    (try with_reducible rfl)
  (try simp only [Act.put, List.setIfInBounds_toArray, List.set_cons_zero, List.set_cons_succ])
  refine wpAnyH_take (i := 6) (oi := ?oi163) (v := ?v163) ?hi163 (by kernel_rfl) (by kernel_rfl) (by kernel_rfl) (fun _ _ _ h => h) (Or.inl ⟨?hw163, ?hy163⟩) (by assumption) ?rest163
  case hi163 => simp only [List.getElem?_toArray, List.getElem?_cons_succ, List.getElem?_cons_zero]; rfl
  case hw163 => rfl
  case hy163 =>
    intro w hSw
    (try dsimp only at hSw)
    go_simp
    (try with_reducible rfl)
  (try simp only [Act.put, List.setIfInBounds_toArray, List.set_cons_zero, List.set_cons_succ])
  refine wpAnyH_take (i := 7) (oi := ?oi164) (v := ?v164) ?hi164 (by kernel_rfl) (by kernel_rfl) (by kernel_rfl) (fun _ _ _ h => h) (Or.inl ⟨?hw164, ?hy164⟩) (by assumption) ?rest164
  case hi164 => simp only [List.getElem?_toArray, List.getElem?_cons_succ, List.getElem?_cons_zero]; rfl
  case hw164 => rfl
  case hy164 =>
    intro w hSw
    (try dsimp only at hSw)
    go_simp
    (try with_reducible rfl)
  (try simp only [Act.put, List.setIfInBounds_toArray, List.set_cons_zero, List.set_cons_succ])
  refine wpAnyH_take (i := 8) (oi := ?oi165) (v := ?v165) ?hi165 (by kernel_rfl) (by kernel_rfl) (by kernel_rfl) (fun _ _ _ h => h) (Or.inl ⟨?hw165, ?hy165⟩) (by assumption) ?rest165
  case hi165 => simp only [List.getElem?_toArray, List.getElem?_cons_succ, List.getElem?_cons_zero]; rfl
  case hw165 => rfl
  case hy165 =>
    intro w hSw
    (try dsimp only at hSw)
    go_simp
    (try with_reducible rfl)
  (try simp only [Act.put, List.setIfInBounds_toArray, List.set_cons_zero, List.set_cons_succ])
  refine wpAnyH_take (i := 9) (oi := ?oi166) (v := ?v166) ?hi166 (by kernel_rfl) (by kernel_rfl) (by kernel_rfl) (fun _ _ _ h => h) (Or.inl ⟨?hw166, ?hy166⟩) (by assumption) ?rest166
  case hi166 => simp only [List.getElem?_toArray, List.getElem?_cons_succ, List.getElem?_cons_zero]; rfl
  case hw166 => rfl
  case hy166 =>
    intro w hSw
    (try dsimp only at hSw)
    go_simp
    (try with_reducible rfl)
  (try simp only [Act.put, List.setIfInBounds_toArray, List.set_cons_zero, List.set_cons_succ])
  refine wpAnyH_take (i := 10) (oi := ?oi167) (v := ?v167) ?hi167 (by kernel_rfl) (by kernel_rfl) (by kernel_rfl) (fun _ _ _ h => h) (Or.inl ⟨?hw167, ?hy167⟩) (by assumption) ?rest167
  case hi167 => simp only [List.getElem?_toArray, List.getElem?_cons_succ, List.getElem?_cons_zero]; rfl
  case hw167 => rfl
  case hy167 =>
    intro w hSw
    (try dsimp only at hSw)
    go_simp
    (try with_reducible rfl)
  (try simp only [Act.put, List.setIfInBounds_toArray, List.set_cons_zero, List.set_cons_succ])
  refine wpAnyH_take (i := 11) (oi := ?oi168) (v := ?v168) ?hi168 (by kernel_rfl) (by kernel_rfl) (by kernel_rfl) (fun _ _ _ h => h) (Or.inl ⟨?hw168, ?hy168⟩) (by assumption) ?rest168
  case hi168 => simp only [List.getElem?_toArray, List.getElem?_cons_succ, List.getElem?_cons_zero]; rfl
  case hw168 => rfl
  case hy168 =>
    intro w hSw
    (try dsimp only at hSw)
    go_simp
    (try with_reducible rfl)
  (try simp only [Act.put, List.setIfInBounds_toArray, List.set_cons_zero, List.set_cons_succ])
  refine wpAnyH_take (i := 12) (oi := ?oi169) (v := ?v169) ?hi169 (by kernel_rfl) (by kernel_rfl) (by kernel_rfl) (fun _ _ _ h => h) (Or.inl ⟨?hw169, ?hy169⟩) (by assumption) ?rest169
  case hi169 => simp only [List.getElem?_toArray, List.getElem?_cons_succ, List.getElem?_cons_zero]; rfl
  case hw169 => rfl
  case hy169 =>
    intro w hSw
    (try dsimp only at hSw)
    go_simp
    (try with_reducible rfl)
  (try simp only [Act.put, List.setIfInBounds_toArray, List.set_cons_zero, List.set_cons_succ])
  refine wpAnyH_take (i := 13) (oi := ?oi170) (v := ?v170) ?hi170 (by kernel_rfl) (by kernel_rfl) (by kernel_rfl) (fun _ _ _ h => h) (Or.inl ⟨?hw170, ?hy170⟩) (by assumption) ?rest170
  case hi170 => simp only [List.getElem?_toArray, List.getElem?_cons_succ, List.getElem?_cons_zero]; rfl
  case hw170 => rfl
  case hy170 =>
    intro w hSw
    (try dsimp only at hSw)
    go_simp
    (try with_reducible rfl)
  (try simp only [Act.put, List.setIfInBounds_toArray, List.set_cons_zero, List.set_cons_succ])
  refine wpAnyH_take (i := 14) (oi := ?oi171) (v := ?v171) ?hi171 (by kernel_rfl) (by kernel_rfl) (by kernel_rfl) (fun _ _ _ h => h) (Or.inl ⟨?hw171, ?hy171⟩) (by assumption) ?rest171
  case hi171 => simp only [List.getElem?_toArray, List.getElem?_cons_succ, List.getElem?_cons_zero]; rfl
  case hw171 => rfl
  case hy171 =>
    intro w hSw
    (try dsimp only at hSw)
    go_simp
    (try with_reducible rfl)
  (try simp only [Act.put, List.setIfInBounds_toArray, List.set_cons_zero, List.set_cons_succ])
  refine wpAnyH_take (i := 15) (oi := ?oi172) (v := undef) ?hi172 (by kernel_rfl) (by kernel_rfl) (by kernel_rfl) (fun _ _ _ h => h) (Or.inr ⟨?hw172, rfl⟩) (by assumption) ?rest172
  case hi172 => simp only [List.getElem?_toArray, List.getElem?_cons_succ, List.getElem?_cons_zero]; rfl
  case hw172 => rfl
  (try simp only [Act.put, List.setIfInBounds_toArray, List.set_cons_zero, List.set_cons_succ])
  refine wpAnyH_take (i := 16) (oi := ?oi173) (v := undef) ?hi173 (by kernel_rfl) (by kernel_rfl) (by kernel_rfl) (fun _ _ _ h => h) (Or.inr ⟨?hw173, rfl⟩) (by assumption) ?rest173
  case hi173 => simp only [List.getElem?_toArray, List.getElem?_cons_succ, List.getElem?_cons_zero]; rfl
  case hw173 => rfl
  (try simp only [Act.put, List.setIfInBounds_toArray, List.set_cons_zero, List.set_cons_succ])
  refine wpAnyH_take (i := 17) (oi := ?oi174) (v := undef) ?hi174 (by kernel_rfl) (by kernel_rfl) (by kernel_rfl) (fun _ _ _ h => h) (Or.inr ⟨?hw174, rfl⟩) (by assumption) ?rest174
  case hi174 => simp only [List.getElem?_toArray, List.getElem?_cons_succ, List.getElem?_cons_zero]; rfl
  case hw174 => rfl
  (try simp only [Act.put, List.setIfInBounds_toArray, List.set_cons_zero, List.set_cons_succ])
  refine wpAnyH_take (i := 18) (oi := ?oi175) (v := undef) ?hi175 (by kernel_rfl) (by kernel_rfl) (by kernel_rfl) (fun _ _ _ h => h) (Or.inr ⟨?hw175, rfl⟩) (by assumption) ?rest175
  case hi175 => simp only [List.getElem?_toArray, List.getElem?_cons_succ, List.getElem?_cons_zero]; rfl
  case hw175 => rfl
  (try simp only [Act.put, List.setIfInBounds_toArray, List.set_cons_zero, List.set_cons_succ])
  refine wpAnyH_take (i := 19) (oi := ?oi176) (v := undef) ?hi176 (by kernel_rfl) (by kernel_rfl) (by kernel_rfl) (fun _ _ _ h => h) (Or.inr ⟨?hw176, rfl⟩) (by assumption) ?rest176
  case hi176 => simp only [List.getElem?_toArray, List.getElem?_cons_succ, List.getElem?_cons_zero]; rfl
  case hw176 => rfl
  (try simp only [Act.put, List.setIfInBounds_toArray, List.set_cons_zero, List.set_cons_succ])
  refine wpAnyH_take (i := 20) (oi := ?oi177) (v := undef) ?hi177 (by kernel_rfl) (by kernel_rfl) (by kernel_rfl) (fun _ _ _ h => h) (Or.inr ⟨?hw177, rfl⟩) (by assumption) ?rest177
  case hi177 => simp only [List.getElem?_toArray, List.getElem?_cons_succ, List.getElem?_cons_zero]; rfl
  case hw177 => rfl
  (try simp only [Act.put, List.setIfInBounds_toArray, List.set_cons_zero, List.set_cons_succ])
  refine wpAnyH_take (i := 21) (oi := ?oi178) (v := undef) ?hi178 (by kernel_rfl) (by kernel_rfl) (by kernel_rfl) (fun _ _ _ h => h) (Or.inr ⟨?hw178, rfl⟩) (by assumption) ?rest178
  case hi178 => simp only [List.getElem?_toArray, List.getElem?_cons_succ, List.getElem?_cons_zero]; rfl
  case hw178 => rfl
  (try simp only [Act.put, List.setIfInBounds_toArray, List.set_cons_zero, List.set_cons_succ])
  refine wpAnyH_take (i := 22) (oi := ?oi179) (v := undef) ?hi179 (by kernel_rfl) (by kernel_rfl) (by kernel_rfl) (fun _ _ _ h => h) (Or.inr ⟨?hw179, rfl⟩) (by assumption) ?rest179
  case hi179 => simp only [List.getElem?_toArray, List.getElem?_cons_succ, List.getElem?_cons_zero]; rfl
  case hw179 => rfl
  (try simp only [Act.put, List.setIfInBounds_toArray, List.set_cons_zero, List.set_cons_succ])
  refine wpAnyH_take (i := 23) (oi := ?oi180) (v := undef) ?hi180 (by kernel_rfl) (by kernel_rfl) (by kernel_rfl) (fun _ _ _ h => h) (Or.inr ⟨?hw180, rfl⟩) (by assumption) ?rest180
  case hi180 => simp only [List.getElem?_toArray, List.getElem?_cons_succ, List.getElem?_cons_zero]; rfl
  case hw180 => rfl
  (try simp only [Act.put, List.setIfInBounds_toArray, List.set_cons_zero, List.set_cons_succ])
  refine wpAnyH_take (i := 24) (oi := ?oi181) (v := ?v181) ?hi181 (by kernel_rfl) (by kernel_rfl) (by kernel_rfl) (fun _ _ _ h => h) (Or.inl ⟨?hw181, ?hy181⟩) (by assumption) ?rest181
  case hi181 => simp only [List.getElem?_toArray, List.getElem?_cons_succ, List.getElem?_cons_zero]; rfl
  case hw181 => rfl
  case hy181 =>
    intro w hSw
    (try dsimp only at hSw)
    go_simp
    (try with_reducible rfl)
  (try simp only [Act.put, List.setIfInBounds_toArray, List.set_cons_zero, List.set_cons_succ])
  refine wpAnyH_take (i := 25) (oi := ?oi182) (v := ?v182) ?hi182 (by kernel_rfl) (by kernel_rfl) (by kernel_rfl) (fun _ _ _ h => h) (Or.inl ⟨?hw182, ?hy182⟩) (by assumption) ?rest182
  case hi182 => simp only [List.getElem?_toArray, List.getElem?_cons_succ, List.getElem?_cons_zero]; rfl
  case hw182 => rfl
  case hy182 =>
    intro w hSw
    (try dsimp only at hSw)
    go_simp
    (try with_reducible rfl)
  (try simp only [Act.put, List.setIfInBounds_toArray, List.set_cons_zero, List.set_cons_succ])
  have E : Hid (Below y7.heap.size y7 y7.drew) := (Below.refl _ _).drew
  refine wpAnyH_done (by kernel_rfl) ?_ _
  refine NoPanic.normal ?_
  (try dsimp only [Exit.then])
  have D := Lib.hid (chain D.out E.out)
  have T9 := Lib.hid (T9.out.next E.out)
  have T10 := Lib.hid (T10.out.next E.out)
  have T12 := Lib.hid (T12.out.next E.out)
  have T14 := Lib.hid (T14.out.next E.out)
  obtain ⟨y9, hy9⟩ : ∃ y9 : World, y9 = y7.drew := ⟨_, rfl⟩
  rw [← hy9] at D T9 T10 T12 T14
  rw [← hy9]
  clear hy9 E k12a k12b k12c k12d hHeld
  obtain ⟨⟨k9a, k9b, k9c, k9d⟩, _⟩ := T9.out
  obtain ⟨k14a, k14b, _⟩ := T14.out
  go_wp2_with fail
  refine (H_rv.out _).mono ?_
  rintro e y11 ⟨rfl, b9⟩
  have E := Lib.hid b9
  have D := Lib.hid (chain D.out E.out)
  have T9 := Lib.hid (T9.out.next E.out)
  have T10 := Lib.hid (T10.out.next E.out)
  have T12 := Lib.hid (T12.out.next E.out)
  have T14 := Lib.hid (T14.out.next E.out)
  clear b9 E k9a k9b k9c k9d k14a k14b
  obtain ⟨k0, k1, _⟩ := I1.out.next D.out
  obtain ⟨k2, k3, _⟩ := I2.out.next D.out
  obtain ⟨k14a, k14b, _⟩ := T14.out
  go_wp2_with fail
  refine (H_val.out _ _ (WL.two _ _ _ _ _ _)).mono ?_
  rintro e yv ⟨rfl, b9⟩
  have E := Lib.hid (chain (below_one _ _) b9)
  have D := Lib.hid (chain D.out E.out)
  have T9 := Lib.hid (T9.out.next E.out)
  have T10 := Lib.hid (T10.out.next E.out)
  have T12 := Lib.hid (T12.out.next E.out)
  have T14 := Lib.hid (T14.out.next E.out)
  clear b9 E k14a k14b
  clear k0 k1 k2 k3
  obtain ⟨k0, k1, _⟩ := I1.out.next D.out
  obtain ⟨k2, k3, _⟩ := I2.out.next D.out
  have HSB : Hid (w.heap.size + 3 ≤ yv.heap.size) := Nat.le_trans Hsz.out D.out.size
  go_upto_region 17 with (fail)
  obtain ⟨jba, jbb, jbc, jbd, jbe, jbf, jbg, jbh⟩ := far7 HSB.out
  go_cut [16, 17] (fun s7 s8 wx => ∃ (g7 g8 : Nat) (y1 y2 : Option Addr) (n1 c1 n2 c2 : Nat), s7 = .pointer (some ⟨g7, 0, none⟩) ∧ s8 = .pointer (some ⟨g8, 0, none⟩) ∧ Hid (CutI (.bool bx) (.bool by') (.slice y1 n1 c1) (.slice y2 n2 c2) (Nm.dg D9 x.natAbs) (Nm.dg D9 y'.natAbs) yv.heap.size yv wx g7 g8))
  case first =>
    rename_i J0 K0 hRJ hMK
    go_region_held3 (fun W' => W'.cell? ⟨w.heap.size, 0, none⟩ = some (.bool a) ∧ W'.cell? ⟨w.heap.size, 1, none⟩ = some (.string s) ∧ W'.cell? ⟨w.heap.size + 1, 0, none⟩ = some (.bool b) ∧ W'.cell? ⟨w.heap.size + 1, 1, none⟩ = some (.string t)) (go_keep)
      (first
        | (go_at_call 18; (with_reducible refine (H_from.out _).mono ?_); rintro e w1 ⟨v1, rfl, r1, b1⟩; (try (have b1 := undrew b1)); have d1 : Below yv.heap.size yv w1 := chain (by first | exact Below.refl _ _ | exact (Below.refl _ _).drew | exact below_one _ _ | exact below_two _ _ _ | exact ((Below.refl _ _).drew).alloc (Nat.le_refl _) _ | exact (((Below.refl _ _).drew).alloc (Nat.le_refl _) _).alloc (by simp) _) b1; have c1 : Below yv.heap.size yv w1 := d1; have p0 := keep1 c1 k0; have p1 := keep1 c1 k1; have p2 := keep1 c1 k2; have p3 := keep1 c1 k3; obtain ⟨j1a, j1b, j1c, j1d, j1e, j1f, j1g, j1h⟩ := far7 (show w.heap.size + 3 ≤ w1.heap.size from Nat.le_trans HSB.out c1.size); (try (have A0 := Lib.hid (ZC.made (g := yv.heap.size) rfl b1); obtain ⟨A0a, A0b, A0c, A0d⟩ := A0.out)); (try (have A0 := Lib.hid (ZC.made1 (g := yv.heap.size) rfl b1); have B0 := Lib.hid (ZC.made (g := yv.heap.size + 1) (by simp) b1); obtain ⟨A0a, A0b, A0c, A0d⟩ := A0.out; obtain ⟨B0a, B0b, B0c, B0d⟩ := B0.out)); (try (have L01 := Lib.hid (apart_b (g := yv.heap.size) rfl b1); obtain ⟨l01x, l01y, l01z⟩ := L01.out)); (try (have MM := Lib.hid (apart_b2 (g := yv.heap.size) rfl b1); have L01 := Lib.hid MM.out.1; have M01 := Lib.hid MM.out.2; clear MM; obtain ⟨l01x, l01y, l01z⟩ := L01.out; obtain ⟨m01x, m01y, m01z⟩ := M01.out)); have G1 := Lib.hid r1; obtain ⟨pp1, bb1, oo1, cc1, rfl, rr1⟩ := r1; clear rr1)
        | (go_at_call 18; (with_reducible refine (H_from2.out _).mono ?_); rintro e w2 ⟨v2, rfl, r2, b2⟩; (try (have b2 := undrew b2)); have d2 : Below w1.heap.size w1 w2 := chain (by first | exact Below.refl _ _ | exact (Below.refl _ _).drew | exact below_one _ _ | exact below_two _ _ _ | exact ((Below.refl _ _).drew).alloc (Nat.le_refl _) _ | exact (((Below.refl _ _).drew).alloc (Nat.le_refl _) _).alloc (by simp) _) b2; have c2 : Below yv.heap.size yv w2 := chain c1 d2; have p0 := keep1 c2 k0; have p1 := keep1 c2 k1; have p2 := keep1 c2 k2; have p3 := keep1 c2 k3; obtain ⟨j2a, j2b, j2c, j2d, j2e, j2f, j2g, j2h⟩ := far7 (show w.heap.size + 3 ≤ w2.heap.size from Nat.le_trans HSB.out c2.size); (try (have A1 := Lib.hid (ZC.made (g := w1.heap.size) rfl b2); obtain ⟨A1a, A1b, A1c, A1d⟩ := A1.out)); (try (have A1 := Lib.hid (ZC.made1 (g := w1.heap.size) rfl b2); have B1 := Lib.hid (ZC.made (g := w1.heap.size + 1) (by simp) b2); obtain ⟨A1a, A1b, A1c, A1d⟩ := A1.out; obtain ⟨B1a, B1b, B1c, B1d⟩ := B1.out)); (try (have A0 := Lib.hid (A0.out.next d2); obtain ⟨A0a, A0b, A0c, A0d⟩ := A0.out)); (try (have B0 := Lib.hid (B0.out.next d2); obtain ⟨B0a, B0b, B0c, B0d⟩ := B0.out)); (try (have L02 := Lib.hid (apart_t L01.out d2.size); obtain ⟨l02x, l02y, l02z⟩ := L02.out)); (try (have M02 := Lib.hid (apart_t M01.out d2.size); obtain ⟨m02x, m02y, m02z⟩ := M02.out)); (try (have L12 := Lib.hid (apart_b (g := w1.heap.size) rfl b2); obtain ⟨l12x, l12y, l12z⟩ := L12.out)); (try (have MM := Lib.hid (apart_b2 (g := w1.heap.size) rfl b2); have L12 := Lib.hid MM.out.1; have M12 := Lib.hid MM.out.2; clear MM; obtain ⟨l12x, l12y, l12z⟩ := L12.out; obtain ⟨m12x, m12y, m12z⟩ := M12.out)); have G2 := Lib.hid (And.intro (Ri.below G1.out d2 (Nat.le_refl _)) r2); obtain ⟨pp2, bb2, oo2, cc2, rfl, rr2⟩ := r2; clear rr2)
        | fail)
    all_goals
      obtain ⟨r1, r2⟩ := G2.out
      refine hMK _ _ (Met.intro (hRJ _ _ ?_))
      (repeat apply Exists.intro)
      refine ⟨?_, rfl⟩
      refine ⟨_, _, pp1, pp2, (Nm.dg D9 x.natAbs).length, cc1, (Nm.dg D9 y'.natAbs).length, cc2, rfl, rfl, ?_⟩
      show CutI (.bool bx) (.bool by') (.slice pp1 _ cc1) (.slice pp2 _ cc2) (Nm.dg D9 x.natAbs) (Nm.dg D9 y'.natAbs) yv.heap.size yv _ _ _
      have sA0 : yv.heap.size ≤ yv.heap.size := Nat.le_refl _
      have sB0 : yv.heap.size ≤ yv.heap.size + 1 := Nat.le_succ _
      have sA1 : yv.heap.size ≤ w1.heap.size := c1.size
      have sB1 : yv.heap.size ≤ w1.heap.size + 1 := Nat.le_succ_of_le sA1
      have sA2 : yv.heap.size ≤ w2.heap.size := c2.size
      have n0 : ¬ yv.heap.size = yv.heap.size + 1 := Nat.ne_of_lt (Nat.lt_succ_self _)
      have n1 : ¬ w1.heap.size = w1.heap.size + 1 := Nat.ne_of_lt (Nat.lt_succ_self _)
      have m0 : ¬ yv.heap.size + 1 = yv.heap.size := fun e => n0 e.symm
      have m1 : ¬ w1.heap.size + 1 = w1.heap.size := fun e => n1 e.symm
      first
        | with_reducible exact CutI.s1 r1 r2 c2 sA2
        | with_reducible exact CutI.s2 r1 r2 c2 sA2
        | with_reducible exact CutI.s3 A0.out sA0 r1 r2 c2 sA2
        | with_reducible exact CutI.s4 A0.out sA0 r1 r2 c2 sA2
        | with_reducible exact CutI.s3 A1.out sA1 r1 r2 c2 sA2
        | with_reducible exact CutI.s4 A1.out sA1 r1 r2 c2 sA2
        | with_reducible exact CutI.s3 B0.out sB0 r1 r2 c2 sA2
        | with_reducible exact CutI.s4 B0.out sB0 r1 r2 c2 sA2
        | with_reducible exact CutI.s3 B1.out sB1 r1 r2 c2 sA2
        | with_reducible exact CutI.s4 B1.out sB1 r1 r2 c2 sA2
        | with_reducible exact CutI.s5 A0.out sA0 B0.out sB0 n0 r1 r2 c2
        | with_reducible exact CutI.s5 B0.out sB0 A0.out sA0 m0 r1 r2 c2
        | with_reducible exact CutI.s5 A1.out sA1 B1.out sB1 n1 r1 r2 c2
        | with_reducible exact CutI.s5 B1.out sB1 A1.out sA1 m1 r1 r2 c2
        | with_reducible exact CutI.s5 A0.out sA0 A1.out sA1 l01x r1 r2 c2
        | with_reducible exact CutI.s5 A1.out sA1 A0.out sA0 l01y r1 r2 c2
        | fail
  obtain ⟨g7, g8, y1', y2', n1, c1, n2, c2, rfl, rfl, hcut⟩ := hcut
  obtain ⟨_, T11, T12, R1, R2, bxx⟩ := hcut.out
  have D := Lib.hid (chain D.out bxx)
  have T10 := Lib.hid (T10.out.next bxx)
  have T14 := Lib.hid (T14.out.next bxx)
  have R1 := Lib.hid R1
  have R2 := Lib.hid R2
  have T16 := Lib.hid T11
  have T17 := Lib.hid T12
  obtain ⟨y17, hy17⟩ : ∃ y : World, y = wc := ⟨_, rfl⟩
  subst hy17
  clear bxx hcut HSB jba jbb jbc jbd jbe jbf jbg jbh k0 k1 k2 k3 T9 T11 T12
  obtain ⟨k17a, k17b, _⟩ := T17.out
  go_wp2_with fail
  refine (H_sg.out _ _ R2.out).mono ?_
  rintro e y18 ⟨rfl, b9⟩
  have E := Lib.hid b9
  have D := Lib.hid (chain D.out E.out)
  have T10 := Lib.hid (T10.out.next E.out)
  have T14 := Lib.hid (T14.out.next E.out)
  have T16 := Lib.hid (T16.out.next E.out)
  have T17 := Lib.hid (T17.out.next E.out)
  have R1 := Lib.hid (Ri.below R1.out E.out (Nat.le_refl _))
  have R2 := Lib.hid (Ri.below R2.out E.out (Nat.le_refl _))
  clear b9 E k17a k17b
  obtain ⟨k16a, k16b, _⟩ := T16.out
  obtain ⟨k17a, k17b, _⟩ := T17.out
  go_wp2_with fail
  refine (H_qu.out _ _ _ R1.out R2.out).mono ?_
  rintro e y19 ⟨v5, v6, rfl, r5, r6, b9⟩
  obtain ⟨p5, q5, o5, c5, rfl, hr5⟩ := r5
  obtain ⟨p6, q6, o6, c6, rfl, hr6⟩ := r6
  have R5 : Hid (Rz y19 (.slice p5 (Nm.dg D9 qx.natAbs).length c5) qx) := ⟨p5, q5, o5, c5, rfl, hr5⟩
  clear hr5 hr6
  generalize (Nm.dg D9 qx.natAbs).length = l5 at *
  generalize (Nm.dg D9 rx.natAbs).length = l6 at *
  obtain ⟨u19, hu19⟩ : ∃ u : World, u = (y19.alloc (.cells #[.bool bqx, .slice p5 l5 c5] 38)).alloc (.cells #[.bool brx, .slice p6 l6 c6] 38) := ⟨_, rfl⟩
  have E : Hid (Below y18.heap.size y18 u19) := by rw [hu19]; exact (b9.alloc b9.size _).alloc (by simp; exact Nat.le_succ_of_le b9.size) _
  have D := Lib.hid (chain D.out E.out)
  have T10 := Lib.hid (T10.out.next E.out)
  have T14 := Lib.hid (T14.out.next E.out)
  have T16 := Lib.hid (T16.out.next E.out)
  have T17 := Lib.hid (T17.out.next E.out)
  have R1 := Lib.hid (Ri.below R1.out E.out (Nat.le_refl _))
  have R2 := Lib.hid (Ri.below R2.out E.out (Nat.le_refl _))
  have T18 : Hid (ZC (.bool bqx) (.slice p5 l5 c5) u19 y19.heap.size) := by rw [hu19]; exact (ZC.new rfl).alloc _
  have R5 : Hid (Rz u19 (.slice p5 l5 c5) qx) := by rw [hu19]; exact (R5.out.allocd _).allocd _
  have Hu19 := Lib.hid hu19
  clear hu19 b9 E k16a k16b k17a k17b
  go_upto_region 20 with (fail)
  rw [← Hu19.out]
  clear Hu19
  obtain ⟨k14a, k14b, _⟩ := T14.out
  obtain ⟨k18a, k18b, _⟩ := T18.out
  go_wp2_with fail
  refine (H_is.out _ _ R5.out).mono ?_
  rintro e y20 ⟨rfl, b9⟩
  have E := Lib.hid b9
  have D := Lib.hid (chain D.out E.out)
  have T10 := Lib.hid (T10.out.next E.out)
  have T14 := Lib.hid (T14.out.next E.out)
  have T16 := Lib.hid (T16.out.next E.out)
  have T17 := Lib.hid (T17.out.next E.out)
  have R1 := Lib.hid (Ri.below R1.out E.out (Nat.le_refl _))
  have R2 := Lib.hid (Ri.below R2.out E.out (Nat.le_refl _))
  clear b9 E k14a k14b k18a k18b
  go_upto_region 22 with (fail)
  obtain ⟨⟨k10a, k10b, k10c, k10d⟩, _⟩ := T10.out
  obtain ⟨k16a, k16b, _⟩ := T16.out
  obtain ⟨k17a, k17b, _⟩ := T17.out
  go_region_held3 (fun W' => W'.cell? ⟨y10.heap.size, 0, none⟩ = some (.bool xa) ∧ W'.cell? ⟨y10.heap.size, 1, none⟩ = some (.string sa) ∧ W'.cell? ⟨y10.heap.size, 2, none⟩ = some (.bool xb) ∧ W'.cell? ⟨y10.heap.size, 3, none⟩ = some (.string sb) ∧ W'.cell? ⟨g7, 0, none⟩ = some (.bool bx) ∧ W'.cell? ⟨g7, 1, none⟩ = some ((.slice y1' n1 c1)) ∧ W'.cell? ⟨g8, 0, none⟩ = some (.bool by') ∧ W'.cell? ⟨g8, 1, none⟩ = some ((.slice y2' n2 c2))) (go_keep)
    (first
      | (go_at_call 15; (with_reducible refine (H_lo2.out _ _ _ (by first | exact R1.out | exact Ri.drew R1.out) (by first | exact R2.out | exact Ri.drew R2.out)).mono ?_); rintro e y ⟨v7, v8, rfl, r7, r8, b9⟩; have E := Lib.hid (show Below y20.heap.size y20 y by first | exact chain E.out b9 | exact chain ((Below.refl _ _).drew) b9); have pk10a := keep1 E.out k10a; have pk10b := keep1 E.out k10b; have pk10c := keep1 E.out k10c; have pk10d := keep1 E.out k10d; have pk16a := keep1 E.out k16a; have pk16b := keep1 E.out k16b; have pk17a := keep1 E.out k17a; have pk17b := keep1 E.out k17b; have G7 := Lib.hid r7; have G8 := Lib.hid r8; obtain ⟨pp7, bb7, oo7, cc7, rfl, rr7⟩ := r7; obtain ⟨pp8, bb8, oo8, cc8, rfl, rr8⟩ := r8; clear rr7 rr8 b9)
      | (go_at_call 14; (with_reducible refine (H_sa2.out _ _ _ G7.out G8.out).mono ?_); rintro e y ⟨rfl, b9⟩; have E := Lib.hid (show Below y20.heap.size y20 y by first | exact chain E.out b9 | exact chain ((Below.refl _ _).drew) b9); have pk10a := keep1 E.out k10a; have pk10b := keep1 E.out k10b; have pk10c := keep1 E.out k10c; have pk10d := keep1 E.out k10d; have pk16a := keep1 E.out k16a; have pk16b := keep1 E.out k16b; have pk17a := keep1 E.out k17a; have pk17b := keep1 E.out k17b; clear b9)
      | (go_at_call 8; (with_reducible refine (H_known.out _).mono ?_); rintro e y ⟨rfl, b9⟩; have E := Lib.hid (show Below y20.heap.size y20 y by first | exact chain E.out b9 | exact chain ((Below.refl _ _).drew) b9); have pk10a := keep1 E.out k10a; have pk10b := keep1 E.out k10b; have pk10c := keep1 E.out k10c; have pk10d := keep1 E.out k10d; have pk16a := keep1 E.out k16a; have pk16b := keep1 E.out k16b; have pk17a := keep1 E.out k17a; have pk17b := keep1 E.out k17b; clear b9)
      | fail)
  have HZ := Lib.hid (chain hb0.out (chain D.out E.out))
  go_wp2
  go_ret
  exact ⟨rfl, HZ.out⟩

set_option maxRecDepth 100000 in
set_option maxHeartbeats 8000000 in
theorem ratios_pos_d1 (a b : Bool) (s t : ByteArray) (n d : Int) (w : World) (l1 : s.size ≤ 60) (l2 : t.size ≤ 60) (hsh : shortL [(a, s), (b, t)] = true) (hvl : validL [(a, s), (b, t)] = true) (h0 : 0 < t.size) (hd : ¬ d = 0) (ya yb : Bool) (ta tb : ByteArray) (q1 q2 : Int) (xa xb : Bool) (sa sb : ByteArray) (x y' z1 z2 : Int) (fa : Bool) (fs : ByteArray) (qx rx : Int)
    (h_ra : ∀ w, Calls Tryz.prog 9 #[.agg #[.bool a, .string s], .agg #[.bool b, .string t]] w fun e w' => e = .returned (.tuple #[.agg #[.bool xa, .string sa, .bool xb, .string sb], .int .i64 0]) ∧ Below w.heap.size w w')
    (h_ro : ∀ w, Calls Tryz.prog 10 #[.int .i64 n, .int .i64 d] w fun e w' => e = .returned (.tuple #[.agg #[.bool ya, .string ta, .bool yb, .string tb], .int .i64 0]) ∧ Below w.heap.size w w')
    (h_fl : ∀ w, Calls Tryz.prog 11 #[.agg #[.bool a, .string s, .bool b, .string t]] w fun e w' => e = .returned (.tuple #[.agg #[.bool fa, .string fs], .int .i64 0]) ∧ Below w.heap.size w w')
    (h_vr : ∀ w, Calls Tryz.prog 12 #[.agg #[.bool a, .string s, .bool b, .string t]] w fun e w' => e = .returned (.bool true) ∧ Below w.heap.size w w')
    (h_rv : ∀ w, Calls Tryz.prog 13 #[.agg #[.bool a, .string s, .bool b, .string t]] w fun e w' => e = .returned (.bool true) ∧ Below w.heap.size w w')
    (h_n1 : ∀ w, Calls Tryz.prog 16 #[.int .i64 n] w (IntPost n w))
    (h_n2 : ∀ w, Calls Tryz.prog 16 #[.int .i64 d] w (IntPost d w))
    (h_lo1 : ∀ v1 v2 w, Rz w v1 n → Rz w v2 d → Calls Tryz.prog 15 #[iV n v1, iV d v2] w (RQPost q1 q2 w))
    (h_sa1 : ∀ v1 v2 w, Rz w v1 q1 → Rz w v2 q2 → Calls Tryz.prog 14 #[.agg #[.bool ya, .string ta, .bool yb, .string tb], .int .i64 0, qV q1 q2 v1 v2] w fun e w' => e = .returned (.bool true) ∧ Below w.heap.size w w')
    (h_from : ∀ w, Calls Tryz.prog 18 #[.agg #[.bool a, .string s]] w (IntPost x w))
    (h_from2 : ∀ w, Calls Tryz.prog 18 #[.agg #[.bool b, .string t]] w (IntPost y' w))
    (h_sg : ∀ v w, Rz w v y' → Calls Tryz.prog 19 #[iV y' v] w (SignPost (1) w))
    (h_lo2 : ∀ v1 v2 w, Rz w v1 x → Rz w v2 y' → Calls Tryz.prog 15 #[iV x v1, iV y' v2] w (RQPost z1 z2 w))
    (h_sa2 : ∀ v1 v2 w, Rz w v1 z1 → Rz w v2 z2 → Calls Tryz.prog 14 #[.agg #[.bool xa, .string sa, .bool xb, .string sb], .int .i64 0, qV z1 z2 v1 v2] w fun e w' => e = .returned (.bool true) ∧ Below w.heap.size w w')
    (h_qu : ∀ v1 v2 w, Rz w v1 x → Rz w v2 y' → Calls Tryz.prog 20 #[iV x v1, iV y' v2] w (QIPost qx rx w))
    (h_is : ∀ v w, Rz w v qx → Calls Tryz.prog 21 #[.agg #[.bool fa, .string fs], .int .i64 0, iV qx v] w fun e w' => e = .returned (.bool true) ∧ Below w.heap.size w w') :
    Calls Tryz.prog 3 #[.agg #[.bool a, .string s], .agg #[.bool b, .string t], .int .i64 n, .int .i64 d] w (Ret (.bool true) w) := by
  have hd2 : (d == 0) = false := by simp [hd]
  have hd3 : (d != 0) = true := by simp [hd]
  have H_ra := Lib.hid h_ra
  have H_ro := Lib.hid h_ro
  have H_fl := Lib.hid h_fl
  have H_vr := Lib.hid h_vr
  have H_rv := Lib.hid h_rv
  have H_n1 := Lib.hid h_n1
  have H_n2 := Lib.hid h_n2
  have H_lo1 := Lib.hid h_lo1
  have H_sa1 := Lib.hid h_sa1
  have H_from := Lib.hid h_from
  have H_from2 := Lib.hid h_from2
  have H_sg := Lib.hid h_sg
  have H_lo2 := Lib.hid h_lo2
  have H_sa2 := Lib.hid h_sa2
  have H_qu := Lib.hid h_qu
  have H_is := Lib.hid h_is
  clear h_ra h_ro h_fl h_vr h_rv h_n1 h_n2 h_lo1 h_sa1 h_from h_from2 h_sg h_lo2 h_sa2 h_qu h_is
  unfold IntPost at H_n1 H_n2 H_from H_from2
  unfold RQPost at H_lo1 H_lo2
  unfold qV at H_lo1 H_sa1 H_lo2 H_sa2
  unfold QIPost at H_qu
  unfold SignPost at H_sg
  unfold iV at H_n1 H_n2 H_lo1 H_from H_from2 H_sg H_lo2 H_qu H_is
  generalize decide (n < 0) = bn at *
  generalize decide (d < 0) = bd at *
  generalize decide (q1 < 0) = bq1 at *
  generalize decide (q2 < 0) = bq2 at *
  generalize decide (x < 0) = bx at *
  generalize decide (y' < 0) = by' at *
  generalize decide (z1 < 0) = bz1 at *
  generalize decide (z2 < 0) = bz2 at *
  generalize decide (qx < 0) = bqx at *
  generalize decide (rx < 0) = brx at *
  have H_known := Lib.hid known_true
  obtain ⟨w0, hw0⟩ : ∃ w0 : World, w0 = ((w.alloc (.cells #[.bool a, .string s] 23)).alloc (.cells #[.bool b, .string t] 23)).alloc (.cells #[.bool a, .string s, .bool b, .string t] 23) := ⟨_, rfl⟩
  have hb0 : Hid (Below w.heap.size w w0) := by rw [hw0]; exact (((Below.refl _ _).alloc (Nat.le_refl _) _).alloc (by simp) _).alloc (by simp; omega) _
  have I1 : Hid (ZC (.bool a) (.string s) w0 w.heap.size) := by rw [hw0]; exact ((ZC.new rfl).alloc _).alloc _
  have I2 : Hid (ZC (.bool b) (.string t) w0 (w.heap.size + 1)) := by rw [hw0]; exact (ZC.new (by simp)).alloc _
  have Hsz : Hid (w.heap.size + 3 ≤ w0.heap.size) := by rw [hw0]; show _ ≤ _; simp
  have HSH := short_any [(a, s), (b, t)] 2 (w.heap.size + 1 + 1) w0 rfl (by decide) (by rw [hw0]; have := WL.two ((w.alloc (.cells #[.bool a, .string s] 23)).alloc (.cells #[.bool b, .string t] 23)) a b s t 23; simpa using this)
  rw [hsh] at HSH
  have H_val := Lib.hid (fun g w h => valid_any [(a, s), (b, t)] 2 g w rfl (by decide) h (by intro x hx; simp at hx; rcases hx with rfl | rfl <;> (show _ ≤ _; simp; omega)))
  rw [hvl] at H_val
  unfold BPost at H_val
  clear hvl
  have HSh := Lib.hid HSH
  have Hw0 := Lib.hid hw0
  clear HSH hw0 hsh
  unfold Ret at *
  unfold BPost at HSh
  go_enter Tryz.func3, Tryz.ntmps3
  go_wp2_with fail
  rw [← Hw0.out]
  refine HSh.out.mono ?_
  rintro e x0 ⟨rfl, b0⟩
  have D := Lib.hid b0
  clear b0
  obtain ⟨k0, k1, _⟩ := I1.out.next D.out
  obtain ⟨k2, k3, _⟩ := I2.out.next D.out
  have b9 := Below.refl x0.heap.size x0
  have j1 : ¬ w.heap.size = x0.heap.size := Nat.ne_of_lt (World.block_lt_of_cell? _ _ k0)
  have j2 : ¬ w.heap.size + 1 = x0.heap.size := Nat.ne_of_lt (World.block_lt_of_cell? _ _ k2)
  obtain ⟨u9, hu9⟩ : ∃ u : World, u = x0.alloc (.cells #[.bool a, .string s, .bool b, .string t] 27) := ⟨_, rfl⟩
  have E : Hid (Below x0.heap.size x0 u9) := by rw [hu9]; exact b9.alloc b9.size _
  have D := Lib.hid (chain D.out E.out)
  have T9 : Hid (ZC4 (.bool a) (.string s) (.bool b) (.string t) u9 x0.heap.size) := by rw [hu9]; exact ZC4.made0 _
  have Hu9 := Lib.hid hu9
  clear hu9 b9 E
  go_upto_region 4 with (fail)
  rw [← Hu9.out]
  clear Hu9
  clear j1 j2
  clear k0 k1 k2 k3
  obtain ⟨k0, k1, _⟩ := I1.out.next D.out
  obtain ⟨k2, k3, _⟩ := I2.out.next D.out
  go_wp2_with fail
  refine (H_ra.out _).mono ?_
  rintro e y10 ⟨rfl, b9⟩
  obtain ⟨u10, hu10⟩ : ∃ u : World, u = y10.alloc (.cells #[.bool xa, .string sa, .bool xb, .string sb] 27) := ⟨_, rfl⟩
  have E : Hid (Below u9.heap.size u9 u10) := by rw [hu10]; exact b9.alloc b9.size _
  have D := Lib.hid (chain D.out E.out)
  have T9 := Lib.hid (T9.out.next E.out)
  have T10 : Hid (ZC4 (.bool xa) (.string sa) (.bool xb) (.string sb) u10 y10.heap.size) := by rw [hu10]; exact ZC4.made0 _
  have Hu10 := Lib.hid hu10
  clear hu10 b9 E
  go_upto_region 5 with (fail)
  rw [← Hu10.out]
  clear Hu10
  clear k0 k1 k2 k3
  go_wp2_with fail
  refine (H_ro.out _).mono ?_
  rintro e y12 ⟨rfl, b9⟩
  obtain ⟨u12, hu12⟩ : ∃ u : World, u = y12.alloc (.cells #[.bool ya, .string ta, .bool yb, .string tb] 27) := ⟨_, rfl⟩
  have E : Hid (Below u10.heap.size u10 u12) := by rw [hu12]; exact b9.alloc b9.size _
  have D := Lib.hid (chain D.out E.out)
  have T9 := Lib.hid (T9.out.next E.out)
  have T10 := Lib.hid (T10.out.next E.out)
  have T12 : Hid (ZC4 (.bool ya) (.string ta) (.bool yb) (.string tb) u12 y12.heap.size) := by rw [hu12]; exact ZC4.made0 _
  have Hu12 := Lib.hid hu12
  clear hu12 b9 E
  go_upto_region 6 with (fail)
  rw [← Hu12.out]
  clear Hu12
  obtain ⟨⟨k9a, k9b, k9c, k9d⟩, _⟩ := T9.out
  go_wp2_with fail
  refine (H_fl.out _).mono ?_
  rintro e y14 ⟨rfl, b9⟩
  clear k9a k9b k9c k9d
  obtain ⟨u14, hu14⟩ : ∃ u : World, u = y14.alloc (.cells #[.bool fa, .string fs] 23) := ⟨_, rfl⟩
  have E : Hid (Below u12.heap.size u12 u14) := by rw [hu14]; exact b9.alloc b9.size _
  have D := Lib.hid (chain D.out E.out)
  have T9 := Lib.hid (T9.out.next E.out)
  have T10 := Lib.hid (T10.out.next E.out)
  have T12 := Lib.hid (T12.out.next E.out)
  have T14 : Hid (ZC (.bool fa) (.string fs) u14 y14.heap.size) := by rw [hu14]; exact ZC.new rfl
  have Hu14 := Lib.hid hu14
  clear hu14 b9 E
  go_upto_region 7 with (fail)
  rw [← Hu14.out]
  clear Hu14
  obtain ⟨⟨k9a, k9b, k9c, k9d⟩, _⟩ := T9.out
  go_region_held3 (fun W' => W'.cell? ⟨x0.heap.size, 0, none⟩ = some (.bool a) ∧ W'.cell? ⟨x0.heap.size, 1, none⟩ = some (.string s) ∧ W'.cell? ⟨x0.heap.size, 2, none⟩ = some (.bool b) ∧ W'.cell? ⟨x0.heap.size, 3, none⟩ = some (.string t)) (go_keep)
    (first
      | (go_at_call 12; (with_reducible refine (H_vr.out _).mono ?_); rintro e y ⟨rfl, b9⟩; have E := Lib.hid (show Below u14.heap.size u14 y by first | exact chain E.out b9 | exact chain ((Below.refl _ _).drew) b9); have p9a := keep1 E.out k9a; have p9b := keep1 E.out k9b; have p9c := keep1 E.out k9c; have p9d := keep1 E.out k9d; clear b9)
      | (go_at_call 13; (with_reducible refine (H_rv.out _).mono ?_); rintro e y ⟨rfl, b9⟩; have E := Lib.hid (show Below u14.heap.size u14 y by first | exact chain E.out b9 | exact chain ((Below.refl _ _).drew) b9); have p9a := keep1 E.out k9a; have p9b := keep1 E.out k9b; have p9c := keep1 E.out k9c; have p9d := keep1 E.out k9d; clear b9)
      | fail)
  have D := Lib.hid (chain D.out E.out)
  have T9 := Lib.hid (T9.out.next E.out)
  have T10 := Lib.hid (T10.out.next E.out)
  have T12 := Lib.hid (T12.out.next E.out)
  have T14 := Lib.hid (T14.out.next E.out)
  obtain ⟨y7, hy7⟩ : ∃ y7 : World, y7 = y := ⟨_, rfl⟩
  subst hy7
  clear E k9a k9b k9c k9d p9a p9b p9c p9d
  obtain ⟨⟨k12a, k12b, k12c, k12d⟩, _⟩ := T12.out
  go_upto_region 9 with (fail)
  refine wp_region_noPanic ?_
  refine wp_region_held_drew (S := (fun W' => W'.cell? ⟨y12.heap.size, 0, none⟩ = some (.bool ya) ∧ W'.cell? ⟨y12.heap.size, 1, none⟩ = some (.string ta) ∧ W'.cell? ⟨y12.heap.size, 2, none⟩ = some (.bool yb) ∧ W'.cell? ⟨y12.heap.size, 3, none⟩ = some (.string tb))) (by kernel_rfl) ?_ (fun hHeld => ?_)
  · exact ⟨k12a, k12b, k12c, k12d⟩
  refine wpAnyH_take (i := 0) (oi := ?oi183) (v := ?v183) ?hi183 (by kernel_rfl) (by kernel_rfl) (by kernel_rfl) (fun _ _ _ h => h) (Or.inl ⟨?hw183, ?hy183⟩) (by assumption) ?rest183
  case hi183 => simp only [List.getElem?_toArray, List.getElem?_cons_succ, List.getElem?_cons_zero]; rfl
  case hw183 => rfl
  case hy183 =>
    intro w hSw
    (try dsimp only at hSw)
    go_simp
    (try with_reducible rfl)
  (try simp only [Act.put, List.setIfInBounds_toArray, List.set_cons_zero, List.set_cons_succ])
  refine wpAnyH_take (i := 1) (oi := ?oi184) (v := ?v184) ?hi184 (by kernel_rfl) (by kernel_rfl) (by kernel_rfl) (fun _ _ _ h => h) (Or.inl ⟨?hw184, ?hy184⟩) (by assumption) ?rest184
  case hi184 => simp only [List.getElem?_toArray, List.getElem?_cons_succ, List.getElem?_cons_zero]; rfl
  case hw184 => rfl
  case hy184 =>
    intro w hSw
    (try dsimp only at hSw)
    go_simp
    (try with_reducible rfl)
  (try simp only [Act.put, List.setIfInBounds_toArray, List.set_cons_zero, List.set_cons_succ])
  refine wpAnyH_take (i := 2) (oi := ?oi185) (v := ?v185) ?hi185 (by kernel_rfl) (by kernel_rfl) (by kernel_rfl) (fun _ _ _ h => h) (Or.inl ⟨?hw185, ?hy185⟩) (by assumption) ?rest185
  case hi185 => simp only [List.getElem?_toArray, List.getElem?_cons_succ, List.getElem?_cons_zero]; rfl
  case hw185 => rfl
  case hy185 =>
    intro w hSw
    (try dsimp only at hSw)
    go_simp
    (try with_reducible rfl)
  (try simp only [Act.put, List.setIfInBounds_toArray, List.set_cons_zero, List.set_cons_succ])
  refine wpAnyH_take (i := 3) (oi := ?oi186) (v := undef) ?hi186 (by kernel_rfl) (by kernel_rfl) (by kernel_rfl) (fun _ _ _ h => h) (Or.inr ⟨?hw186, rfl⟩) (by assumption) ?rest186
  case hi186 => simp only [List.getElem?_toArray, List.getElem?_cons_succ, List.getElem?_cons_zero]; rfl
  case hw186 => rfl
  (try simp only [Act.put, List.setIfInBounds_toArray, List.set_cons_zero, List.set_cons_succ])
  refine wpAnyH_take (i := 4) (oi := ?oi187) (v := undef) ?hi187 (by kernel_rfl) (by kernel_rfl) (by kernel_rfl) (fun _ _ _ h => h) (Or.inr ⟨?hw187, rfl⟩) (by assumption) ?rest187
  case hi187 => simp only [List.getElem?_toArray, List.getElem?_cons_succ, List.getElem?_cons_zero]; rfl
  case hw187 => rfl
  (try simp only [Act.put, List.setIfInBounds_toArray, List.set_cons_zero, List.set_cons_succ])
  refine wpAnyH_take (i := 5) (oi := ?oi188) (v := undef) ?hi188 (by kernel_rfl) (by kernel_rfl) (by kernel_rfl) (fun _ _ _ h => h) (Or.inr ⟨?hw188, rfl⟩) (by assumption) ?rest188
  case hi188 => simp only [List.getElem?_toArray, List.getElem?_cons_succ, List.getElem?_cons_zero]; rfl
  case hw188 => rfl
  (try simp only [Act.put, List.setIfInBounds_toArray, List.set_cons_zero, List.set_cons_succ])
  refine wpAnyH_take (i := 6) (oi := ?oi189) (v := undef) ?hi189 (by kernel_rfl) (by kernel_rfl) (by kernel_rfl) (fun _ _ _ h => h) (Or.inr ⟨?hw189, rfl⟩) (by assumption) ?rest189
  case hi189 => simp only [List.getElem?_toArray, List.getElem?_cons_succ, List.getElem?_cons_zero]; rfl
  case hw189 => rfl
  (try simp only [Act.put, List.setIfInBounds_toArray, List.set_cons_zero, List.set_cons_succ])
  refine wpAnyH_take (i := 7) (oi := ?oi190) (v := undef) ?hi190 (by kernel_rfl) (by kernel_rfl) (by kernel_rfl) (fun _ _ _ h => h) (Or.inr ⟨?hw190, rfl⟩) (by assumption) ?rest190
  case hi190 => simp only [List.getElem?_toArray, List.getElem?_cons_succ, List.getElem?_cons_zero]; rfl
  case hw190 => rfl
  (try simp only [Act.put, List.setIfInBounds_toArray, List.set_cons_zero, List.set_cons_succ])
  refine wpAnyH_take (i := 8) (oi := ?oi191) (v := undef) ?hi191 (by kernel_rfl) (by kernel_rfl) (by kernel_rfl) (fun _ _ _ h => h) (Or.inr ⟨?hw191, rfl⟩) (by assumption) ?rest191
  case hi191 => simp only [List.getElem?_toArray, List.getElem?_cons_succ, List.getElem?_cons_zero]; rfl
  case hw191 => rfl
  (try simp only [Act.put, List.setIfInBounds_toArray, List.set_cons_zero, List.set_cons_succ])
  refine wpAnyH_take (i := 9) (oi := ?oi192) (v := undef) ?hi192 (by kernel_rfl) (by kernel_rfl) (by kernel_rfl) (fun _ _ _ h => h) (Or.inr ⟨?hw192, rfl⟩) (by assumption) ?rest192
  case hi192 => simp only [List.getElem?_toArray, List.getElem?_cons_succ, List.getElem?_cons_zero]; rfl
  case hw192 => rfl
  (try simp only [Act.put, List.setIfInBounds_toArray, List.set_cons_zero, List.set_cons_succ])
  refine wpAnyH_take (i := 10) (oi := ?oi193) (v := ?v193) ?hi193 (by kernel_rfl) (by kernel_rfl) (by kernel_rfl) (fun _ _ _ h => h) (Or.inl ⟨?hw193, ?hy193⟩) (by assumption) ?rest193
  case hi193 => simp only [List.getElem?_toArray, List.getElem?_cons_succ, List.getElem?_cons_zero]; rfl
  case hw193 => rfl
  case hy193 =>
    intro w hSw
    (try dsimp only at hSw)
    go_simp
    (try with_reducible rfl)
  (try simp only [Act.put, List.setIfInBounds_toArray, List.set_cons_zero, List.set_cons_succ])
  refine wpAnyH_take (i := 11) (oi := ?oi194) (v := ?v194) ?hi194 (by kernel_rfl) (by kernel_rfl) (by kernel_rfl) (fun _ _ _ h => h) (Or.inl ⟨?hw194, ?hy194⟩) (by assumption) ?rest194
  case hi194 => simp only [List.getElem?_toArray, List.getElem?_cons_succ, List.getElem?_cons_zero]; rfl
  case hw194 => rfl
  case hy194 =>
    intro w hSw
    (try dsimp only at hSw)
    go_simp
    (try with_reducible rfl)
  (try simp only [Act.put, List.setIfInBounds_toArray, List.set_cons_zero, List.set_cons_succ])
  refine wpAnyH_take (i := 12) (oi := ?oi195) (v := ?v195) ?hi195 (by kernel_rfl) (by kernel_rfl) (by kernel_rfl) (fun _ _ _ h => h) (Or.inl ⟨?hw195, ?hy195⟩) (by assumption) ?rest195
  case hi195 => simp only [List.getElem?_toArray, List.getElem?_cons_succ, List.getElem?_cons_zero]; rfl
  case hw195 => rfl
  case hy195 =>
    intro w hSw
    (try dsimp only at hSw)
    go_simp
    (try with_reducible rfl)
  (try simp only [Act.put, List.setIfInBounds_toArray, List.set_cons_zero, List.set_cons_succ])
  refine wpAnyH_take (i := 13) (oi := ?oi196) (v := ?v196) ?hi196 (by kernel_rfl) (by kernel_rfl) (by kernel_rfl) (fun _ _ _ h => h) (Or.inl ⟨?hw196, ?hy196⟩) (by assumption) ?rest196
  case hi196 => simp only [List.getElem?_toArray, List.getElem?_cons_succ, List.getElem?_cons_zero]; rfl
  case hw196 => rfl
  case hy196 =>
    intro w hSw
    (try dsimp only at hSw)
    go_simp
    (try with_reducible rfl)
  (try simp only [Act.put, List.setIfInBounds_toArray, List.set_cons_zero, List.set_cons_succ])
  refine wpAnyH_take (i := 14) (oi := ?oi197) (v := ?v197) ?hi197 (by kernel_rfl) (by kernel_rfl) (by kernel_rfl) (fun _ _ _ h => h) (Or.inl ⟨?hw197, ?hy197⟩) (by assumption) ?rest197
  case hi197 => simp only [List.getElem?_toArray, List.getElem?_cons_succ, List.getElem?_cons_zero]; rfl
  case hw197 => rfl
  case hy197 =>
    intro w hSw
    (try dsimp only at hSw)
    go_simp
    (try with_reducible rfl)
  (try simp only [Act.put, List.setIfInBounds_toArray, List.set_cons_zero, List.set_cons_succ])
  refine wpAnyH_take (i := 15) (oi := ?oi198) (v := ?v198) ?hi198 (by kernel_rfl) (by kernel_rfl) (by kernel_rfl) (fun _ _ _ h => h) (Or.inl ⟨?hw198, ?hy198⟩) (by assumption) ?rest198
  case hi198 => simp only [List.getElem?_toArray, List.getElem?_cons_succ, List.getElem?_cons_zero]; rfl
  case hw198 => rfl
  case hy198 =>
    intro w hSw
    (try dsimp only at hSw)
    go_simp
    (try with_reducible rfl)
  (try simp only [Act.put, List.setIfInBounds_toArray, List.set_cons_zero, List.set_cons_succ])
  refine wpAnyH_take (i := 16) (oi := ?oi199) (v := ?v199) ?hi199 (by kernel_rfl) (by kernel_rfl) (by kernel_rfl) (fun _ _ _ h => h) (Or.inl ⟨?hw199, ?hy199⟩) (by assumption) ?rest199
  case hi199 => simp only [List.getElem?_toArray, List.getElem?_cons_succ, List.getElem?_cons_zero]; rfl
  case hw199 => rfl
  case hy199 =>
    intro w hSw
    (try dsimp only at hSw)
    go_simp
    (try with_reducible rfl)
  (try simp only [Act.put, List.setIfInBounds_toArray, List.set_cons_zero, List.set_cons_succ])
  refine wpAnyH_take (i := 17) (oi := ?oi200) (v := ?v200) ?hi200 (by kernel_rfl) (by kernel_rfl) (by kernel_rfl) (fun _ _ _ h => h) (Or.inl ⟨?hw200, ?hy200⟩) (by assumption) ?rest200
  case hi200 => simp only [List.getElem?_toArray, List.getElem?_cons_succ, List.getElem?_cons_zero]; rfl
  case hw200 => rfl
  case hy200 =>
    intro w hSw
    (try dsimp only at hSw)
    go_simp
    (try with_reducible rfl)
  (try simp only [Act.put, List.setIfInBounds_toArray, List.set_cons_zero, List.set_cons_succ])
  refine wpAnyH_take (i := 19) (oi := ?oi201) (v := ?v201) ?hi201 (by kernel_rfl) (by kernel_rfl) (by kernel_rfl) (fun _ _ _ h => h) (Or.inl ⟨?hw201, ?hy201⟩) (by assumption) ?rest201
  case hi201 => simp only [List.getElem?_toArray, List.getElem?_cons_succ, List.getElem?_cons_zero]; rfl
  case hw201 => rfl
  case hy201 =>
    intro w hSw
    (try dsimp only at hSw)
    go_simp
    (try with_reducible rfl)
  (try simp only [Act.put, List.setIfInBounds_toArray, List.set_cons_zero, List.set_cons_succ])
  refine wpAnyH_ready (rs := [18]) (by kernel_rfl) (by simp) ?_
  refine AllReadyH.cons (o := ?oi202) ?hi202 ?rest202 AllReadyH.nil
  case hi202 => simp only [List.getElem?_toArray, List.getElem?_cons_succ, List.getElem?_cons_zero]; rfl
  intro K hK
  go_simp
  (with_reducible refine (H_n1.out _).mono ?_)
  rintro e y ⟨v1, rfl, r1, b9⟩
  have E := Lib.hid (show Below y7.heap.size y7 y by first | exact chain E.out b9 | exact chain ((Below.refl y7.heap.size y7).drew) b9)
  have p0 := keep1 E.out k12a
  have p1 := keep1 E.out k12b
  have p2 := keep1 E.out k12c
  have p3 := keep1 E.out k12d
  have G1 := Lib.hid r1
  obtain ⟨pp1, bb1, oo1, cc1, rfl, rr1⟩ := r1
  clear rr1 b9
  (try go_wp2_with fail)
  refine hK.out _ _ ?_ (fun hHeld => ?_)
  · (try dsimp only)
    exact ⟨p0, p1, p2, p3⟩
  clear hK K
  (try simp only [Act.put, List.setIfInBounds_toArray, List.set_cons_zero, List.set_cons_succ])
  refine wpAnyH_ready (rs := [20]) (by kernel_rfl) (by simp) ?_
  refine AllReadyH.cons (o := ?oi203) ?hi203 ?rest203 AllReadyH.nil
  case hi203 => simp only [List.getElem?_toArray, List.getElem?_cons_succ, List.getElem?_cons_zero]; rfl
  intro K hK
  go_simp
  (with_reducible refine (H_n2.out _).mono ?_)
  rintro e y ⟨v2, rfl, r2, b9⟩
  have E := Lib.hid (show Below y7.heap.size y7 y by first | exact chain E.out b9 | exact chain ((Below.refl y7.heap.size y7).drew) b9)
  have p0 := keep1 E.out k12a
  have p1 := keep1 E.out k12b
  have p2 := keep1 E.out k12c
  have p3 := keep1 E.out k12d
  have G1 := Lib.hid (Ri.below G1.out b9 (Nat.le_refl _))
  have G2 := Lib.hid r2
  obtain ⟨pp2, bb2, oo2, cc2, rfl, rr2⟩ := r2
  clear rr2 b9
  (try go_wp2_with fail)
  refine hK.out _ _ ?_ (fun hHeld => ?_)
  · (try dsimp only)
    exact ⟨p0, p1, p2, p3⟩
  clear hK K
  (try simp only [Act.put, List.setIfInBounds_toArray, List.set_cons_zero, List.set_cons_succ])
  refine wpAnyH_ready (rs := [21]) (by kernel_rfl) (by simp) ?_
  refine AllReadyH.cons (o := ?oi204) ?hi204 ?rest204 AllReadyH.nil
  case hi204 => simp only [List.getElem?_toArray, List.getElem?_cons_succ, List.getElem?_cons_zero]; rfl
  intro K hK
  go_simp
  (with_reducible refine (H_lo1.out _ _ _ G1.out G2.out).mono ?_)
  rintro e y ⟨v3, v4, rfl, r3, r4, b9⟩
  have E := Lib.hid (show Below y7.heap.size y7 y by first | exact chain E.out b9 | exact chain ((Below.refl y7.heap.size y7).drew) b9)
  have p0 := keep1 E.out k12a
  have p1 := keep1 E.out k12b
  have p2 := keep1 E.out k12c
  have p3 := keep1 E.out k12d
  have G3 := Lib.hid r3
  have G4 := Lib.hid r4
  obtain ⟨pp3, bb3, oo3, cc3, rfl, rr3⟩ := r3
  obtain ⟨pp4, bb4, oo4, cc4, rfl, rr4⟩ := r4
  clear rr3 rr4 b9
  (try go_wp2_with fail)
  refine hK.out _ _ ?_ (fun hHeld => ?_)
  · (try dsimp only)
    exact ⟨p0, p1, p2, p3⟩
  clear hK K
  (try simp only [Act.put, List.setIfInBounds_toArray, List.set_cons_zero, List.set_cons_succ])
  refine wpAnyH_ready (rs := [22]) (by kernel_rfl) (by simp) ?_
  refine AllReadyH.cons (o := ?oi205) ?hi205 ?rest205 AllReadyH.nil
  case hi205 => simp only [List.getElem?_toArray, List.getElem?_cons_succ, List.getElem?_cons_zero]; rfl
  intro K hK
  go_simp
  (with_reducible refine (H_sa1.out _ _ _ G3.out G4.out).mono ?_)
  rintro e y ⟨rfl, b9⟩
  have E := Lib.hid (show Below y7.heap.size y7 y by first | exact chain E.out b9 | exact chain ((Below.refl y7.heap.size y7).drew) b9)
  have p0 := keep1 E.out k12a
  have p1 := keep1 E.out k12b
  have p2 := keep1 E.out k12c
  have p3 := keep1 E.out k12d
  clear b9
  (try go_wp2_with fail)
  refine hK.out _ _ ?_ (fun hHeld => ?_)
  · (try dsimp only)
    exact ⟨p0, p1, p2, p3⟩
  clear hK K
  (try simp only [Act.put, List.setIfInBounds_toArray, List.set_cons_zero, List.set_cons_succ])
  refine wpAnyH_take (i := 23) (oi := ?oi206) (v := ?v206) ?hi206 (by kernel_rfl) (by kernel_rfl) (by kernel_rfl) (fun _ _ _ h => h) (Or.inl ⟨?hw206, ?hy206⟩) (by assumption) ?rest206
  case hi206 => simp only [List.getElem?_toArray, List.getElem?_cons_succ, List.getElem?_cons_zero]; rfl
  case hw206 => rfl
  case hy206 =>
    intro w hSw
    (try dsimp only at hSw)
    go_simp
    (try with_reducible rfl)
  (try simp only [Act.put, List.setIfInBounds_toArray, List.set_cons_zero, List.set_cons_succ])
  refine wpAnyH_take (i := 24) (oi := ?oi207) (v := ?v207) ?hi207 (by kernel_rfl) (by kernel_rfl) (by kernel_rfl) (fun _ _ _ h => h) (Or.inl ⟨?hw207, ?hy207⟩) (by assumption) ?rest207
  case hi207 => simp only [List.getElem?_toArray, List.getElem?_cons_succ, List.getElem?_cons_zero]; rfl
  case hw207 => rfl
  case hy207 =>
    intro w hSw
    (try dsimp only at hSw)
    go_simp
    (try with_reducible rfl)
  (try simp only [Act.put, List.setIfInBounds_toArray, List.set_cons_zero, List.set_cons_succ])
  refine wpAnyH_take (i := 25) (oi := ?oi208) (v := ?v208) ?hi208 (by kernel_rfl) (by kernel_rfl) (by kernel_rfl) (fun _ _ _ h => h) (Or.inl ⟨?hw208, ?hy208⟩) (by assumption) ?rest208
  case hi208 => simp only [List.getElem?_toArray, List.getElem?_cons_succ, List.getElem?_cons_zero]; rfl
  case hw208 => rfl
  case hy208 =>
    intro w hSw
    (try dsimp only at hSw)
    go_simp
    (try with_reducible rfl)
  (try simp only [Act.put, List.setIfInBounds_toArray, List.set_cons_zero, List.set_cons_succ])
  refine wpAnyH_done (by kernel_rfl) ?_ _
  refine NoPanic.normal ?_
  (try dsimp only [Exit.then])
  have D := Lib.hid (chain D.out E.out)
  have T9 := Lib.hid (T9.out.next E.out)
  have T10 := Lib.hid (T10.out.next E.out)
  have T12 := Lib.hid (T12.out.next E.out)
  have T14 := Lib.hid (T14.out.next E.out)
  obtain ⟨y9, hy9⟩ : ∃ y9 : World, y9 = y := ⟨_, rfl⟩
  rw [← hy9] at D T9 T10 T12 T14
  rw [← hy9]
  clear hy9 E k12a k12b k12c k12d hHeld
  obtain ⟨⟨k9a, k9b, k9c, k9d⟩, _⟩ := T9.out
  obtain ⟨k14a, k14b, _⟩ := T14.out
  go_wp2_with fail
  refine (H_rv.out _).mono ?_
  rintro e y11 ⟨rfl, b9⟩
  have E := Lib.hid b9
  have D := Lib.hid (chain D.out E.out)
  have T9 := Lib.hid (T9.out.next E.out)
  have T10 := Lib.hid (T10.out.next E.out)
  have T12 := Lib.hid (T12.out.next E.out)
  have T14 := Lib.hid (T14.out.next E.out)
  clear b9 E k9a k9b k9c k9d k14a k14b
  obtain ⟨k0, k1, _⟩ := I1.out.next D.out
  obtain ⟨k2, k3, _⟩ := I2.out.next D.out
  obtain ⟨k14a, k14b, _⟩ := T14.out
  go_wp2_with fail
  refine (H_val.out _ _ (WL.two _ _ _ _ _ _)).mono ?_
  rintro e yv ⟨rfl, b9⟩
  have E := Lib.hid (chain (below_one _ _) b9)
  have D := Lib.hid (chain D.out E.out)
  have T9 := Lib.hid (T9.out.next E.out)
  have T10 := Lib.hid (T10.out.next E.out)
  have T12 := Lib.hid (T12.out.next E.out)
  have T14 := Lib.hid (T14.out.next E.out)
  clear b9 E k14a k14b
  clear k0 k1 k2 k3
  obtain ⟨k0, k1, _⟩ := I1.out.next D.out
  obtain ⟨k2, k3, _⟩ := I2.out.next D.out
  have HSB : Hid (w.heap.size + 3 ≤ yv.heap.size) := Nat.le_trans Hsz.out D.out.size
  go_upto_region 17 with (fail)
  obtain ⟨jba, jbb, jbc, jbd, jbe, jbf, jbg, jbh⟩ := far7 HSB.out
  go_cut [16, 17] (fun s7 s8 wx => ∃ (g7 g8 : Nat) (y1 y2 : Option Addr) (n1 c1 n2 c2 : Nat), s7 = .pointer (some ⟨g7, 0, none⟩) ∧ s8 = .pointer (some ⟨g8, 0, none⟩) ∧ Hid (CutI (.bool bx) (.bool by') (.slice y1 n1 c1) (.slice y2 n2 c2) (Nm.dg D9 x.natAbs) (Nm.dg D9 y'.natAbs) yv.heap.size yv wx g7 g8))
  case first =>
    rename_i J0 K0 hRJ hMK
    go_region_held3 (fun W' => W'.cell? ⟨w.heap.size, 0, none⟩ = some (.bool a) ∧ W'.cell? ⟨w.heap.size, 1, none⟩ = some (.string s) ∧ W'.cell? ⟨w.heap.size + 1, 0, none⟩ = some (.bool b) ∧ W'.cell? ⟨w.heap.size + 1, 1, none⟩ = some (.string t)) (go_keep)
      (first
        | (go_at_call 18; (with_reducible refine (H_from.out _).mono ?_); rintro e w1 ⟨v1, rfl, r1, b1⟩; (try (have b1 := undrew b1)); have d1 : Below yv.heap.size yv w1 := chain (by first | exact Below.refl _ _ | exact (Below.refl _ _).drew | exact below_one _ _ | exact below_two _ _ _ | exact ((Below.refl _ _).drew).alloc (Nat.le_refl _) _ | exact (((Below.refl _ _).drew).alloc (Nat.le_refl _) _).alloc (by simp) _) b1; have c1 : Below yv.heap.size yv w1 := d1; have p0 := keep1 c1 k0; have p1 := keep1 c1 k1; have p2 := keep1 c1 k2; have p3 := keep1 c1 k3; obtain ⟨j1a, j1b, j1c, j1d, j1e, j1f, j1g, j1h⟩ := far7 (show w.heap.size + 3 ≤ w1.heap.size from Nat.le_trans HSB.out c1.size); (try (have A0 := Lib.hid (ZC.made (g := yv.heap.size) rfl b1); obtain ⟨A0a, A0b, A0c, A0d⟩ := A0.out)); (try (have A0 := Lib.hid (ZC.made1 (g := yv.heap.size) rfl b1); have B0 := Lib.hid (ZC.made (g := yv.heap.size + 1) (by simp) b1); obtain ⟨A0a, A0b, A0c, A0d⟩ := A0.out; obtain ⟨B0a, B0b, B0c, B0d⟩ := B0.out)); (try (have L01 := Lib.hid (apart_b (g := yv.heap.size) rfl b1); obtain ⟨l01x, l01y, l01z⟩ := L01.out)); (try (have MM := Lib.hid (apart_b2 (g := yv.heap.size) rfl b1); have L01 := Lib.hid MM.out.1; have M01 := Lib.hid MM.out.2; clear MM; obtain ⟨l01x, l01y, l01z⟩ := L01.out; obtain ⟨m01x, m01y, m01z⟩ := M01.out)); have G1 := Lib.hid r1; obtain ⟨pp1, bb1, oo1, cc1, rfl, rr1⟩ := r1; clear rr1)
        | (go_at_call 18; (with_reducible refine (H_from2.out _).mono ?_); rintro e w2 ⟨v2, rfl, r2, b2⟩; (try (have b2 := undrew b2)); have d2 : Below w1.heap.size w1 w2 := chain (by first | exact Below.refl _ _ | exact (Below.refl _ _).drew | exact below_one _ _ | exact below_two _ _ _ | exact ((Below.refl _ _).drew).alloc (Nat.le_refl _) _ | exact (((Below.refl _ _).drew).alloc (Nat.le_refl _) _).alloc (by simp) _) b2; have c2 : Below yv.heap.size yv w2 := chain c1 d2; have p0 := keep1 c2 k0; have p1 := keep1 c2 k1; have p2 := keep1 c2 k2; have p3 := keep1 c2 k3; obtain ⟨j2a, j2b, j2c, j2d, j2e, j2f, j2g, j2h⟩ := far7 (show w.heap.size + 3 ≤ w2.heap.size from Nat.le_trans HSB.out c2.size); (try (have A1 := Lib.hid (ZC.made (g := w1.heap.size) rfl b2); obtain ⟨A1a, A1b, A1c, A1d⟩ := A1.out)); (try (have A1 := Lib.hid (ZC.made1 (g := w1.heap.size) rfl b2); have B1 := Lib.hid (ZC.made (g := w1.heap.size + 1) (by simp) b2); obtain ⟨A1a, A1b, A1c, A1d⟩ := A1.out; obtain ⟨B1a, B1b, B1c, B1d⟩ := B1.out)); (try (have A0 := Lib.hid (A0.out.next d2); obtain ⟨A0a, A0b, A0c, A0d⟩ := A0.out)); (try (have B0 := Lib.hid (B0.out.next d2); obtain ⟨B0a, B0b, B0c, B0d⟩ := B0.out)); (try (have L02 := Lib.hid (apart_t L01.out d2.size); obtain ⟨l02x, l02y, l02z⟩ := L02.out)); (try (have M02 := Lib.hid (apart_t M01.out d2.size); obtain ⟨m02x, m02y, m02z⟩ := M02.out)); (try (have L12 := Lib.hid (apart_b (g := w1.heap.size) rfl b2); obtain ⟨l12x, l12y, l12z⟩ := L12.out)); (try (have MM := Lib.hid (apart_b2 (g := w1.heap.size) rfl b2); have L12 := Lib.hid MM.out.1; have M12 := Lib.hid MM.out.2; clear MM; obtain ⟨l12x, l12y, l12z⟩ := L12.out; obtain ⟨m12x, m12y, m12z⟩ := M12.out)); have G2 := Lib.hid (And.intro (Ri.below G1.out d2 (Nat.le_refl _)) r2); obtain ⟨pp2, bb2, oo2, cc2, rfl, rr2⟩ := r2; clear rr2)
        | fail)
    all_goals
      obtain ⟨r1, r2⟩ := G2.out
      refine hMK _ _ (Met.intro (hRJ _ _ ?_))
      (repeat apply Exists.intro)
      refine ⟨?_, rfl⟩
      refine ⟨_, _, pp1, pp2, (Nm.dg D9 x.natAbs).length, cc1, (Nm.dg D9 y'.natAbs).length, cc2, rfl, rfl, ?_⟩
      show CutI (.bool bx) (.bool by') (.slice pp1 _ cc1) (.slice pp2 _ cc2) (Nm.dg D9 x.natAbs) (Nm.dg D9 y'.natAbs) yv.heap.size yv _ _ _
      have sA0 : yv.heap.size ≤ yv.heap.size := Nat.le_refl _
      have sB0 : yv.heap.size ≤ yv.heap.size + 1 := Nat.le_succ _
      have sA1 : yv.heap.size ≤ w1.heap.size := c1.size
      have sB1 : yv.heap.size ≤ w1.heap.size + 1 := Nat.le_succ_of_le sA1
      have sA2 : yv.heap.size ≤ w2.heap.size := c2.size
      have n0 : ¬ yv.heap.size = yv.heap.size + 1 := Nat.ne_of_lt (Nat.lt_succ_self _)
      have n1 : ¬ w1.heap.size = w1.heap.size + 1 := Nat.ne_of_lt (Nat.lt_succ_self _)
      have m0 : ¬ yv.heap.size + 1 = yv.heap.size := fun e => n0 e.symm
      have m1 : ¬ w1.heap.size + 1 = w1.heap.size := fun e => n1 e.symm
      first
        | with_reducible exact CutI.s1 r1 r2 c2 sA2
        | with_reducible exact CutI.s2 r1 r2 c2 sA2
        | with_reducible exact CutI.s3 A0.out sA0 r1 r2 c2 sA2
        | with_reducible exact CutI.s4 A0.out sA0 r1 r2 c2 sA2
        | with_reducible exact CutI.s3 A1.out sA1 r1 r2 c2 sA2
        | with_reducible exact CutI.s4 A1.out sA1 r1 r2 c2 sA2
        | with_reducible exact CutI.s3 B0.out sB0 r1 r2 c2 sA2
        | with_reducible exact CutI.s4 B0.out sB0 r1 r2 c2 sA2
        | with_reducible exact CutI.s3 B1.out sB1 r1 r2 c2 sA2
        | with_reducible exact CutI.s4 B1.out sB1 r1 r2 c2 sA2
        | with_reducible exact CutI.s5 A0.out sA0 B0.out sB0 n0 r1 r2 c2
        | with_reducible exact CutI.s5 B0.out sB0 A0.out sA0 m0 r1 r2 c2
        | with_reducible exact CutI.s5 A1.out sA1 B1.out sB1 n1 r1 r2 c2
        | with_reducible exact CutI.s5 B1.out sB1 A1.out sA1 m1 r1 r2 c2
        | with_reducible exact CutI.s5 A0.out sA0 A1.out sA1 l01x r1 r2 c2
        | with_reducible exact CutI.s5 A1.out sA1 A0.out sA0 l01y r1 r2 c2
        | fail
  obtain ⟨g7, g8, y1', y2', n1, c1, n2, c2, rfl, rfl, hcut⟩ := hcut
  obtain ⟨_, T11, T12, R1, R2, bxx⟩ := hcut.out
  have D := Lib.hid (chain D.out bxx)
  have T10 := Lib.hid (T10.out.next bxx)
  have T14 := Lib.hid (T14.out.next bxx)
  have R1 := Lib.hid R1
  have R2 := Lib.hid R2
  have T16 := Lib.hid T11
  have T17 := Lib.hid T12
  obtain ⟨y17, hy17⟩ : ∃ y : World, y = wc := ⟨_, rfl⟩
  subst hy17
  clear bxx hcut HSB jba jbb jbc jbd jbe jbf jbg jbh k0 k1 k2 k3 T9 T11 T12
  obtain ⟨k17a, k17b, _⟩ := T17.out
  go_wp2_with fail
  refine (H_sg.out _ _ R2.out).mono ?_
  rintro e y18 ⟨rfl, b9⟩
  have E := Lib.hid b9
  have D := Lib.hid (chain D.out E.out)
  have T10 := Lib.hid (T10.out.next E.out)
  have T14 := Lib.hid (T14.out.next E.out)
  have T16 := Lib.hid (T16.out.next E.out)
  have T17 := Lib.hid (T17.out.next E.out)
  have R1 := Lib.hid (Ri.below R1.out E.out (Nat.le_refl _))
  have R2 := Lib.hid (Ri.below R2.out E.out (Nat.le_refl _))
  clear b9 E k17a k17b
  obtain ⟨k16a, k16b, _⟩ := T16.out
  obtain ⟨k17a, k17b, _⟩ := T17.out
  go_wp2_with fail
  refine (H_qu.out _ _ _ R1.out R2.out).mono ?_
  rintro e y19 ⟨v5, v6, rfl, r5, r6, b9⟩
  obtain ⟨p5, q5, o5, c5, rfl, hr5⟩ := r5
  obtain ⟨p6, q6, o6, c6, rfl, hr6⟩ := r6
  have R5 : Hid (Rz y19 (.slice p5 (Nm.dg D9 qx.natAbs).length c5) qx) := ⟨p5, q5, o5, c5, rfl, hr5⟩
  clear hr5 hr6
  generalize (Nm.dg D9 qx.natAbs).length = l5 at *
  generalize (Nm.dg D9 rx.natAbs).length = l6 at *
  obtain ⟨u19, hu19⟩ : ∃ u : World, u = (y19.alloc (.cells #[.bool bqx, .slice p5 l5 c5] 38)).alloc (.cells #[.bool brx, .slice p6 l6 c6] 38) := ⟨_, rfl⟩
  have E : Hid (Below y18.heap.size y18 u19) := by rw [hu19]; exact (b9.alloc b9.size _).alloc (by simp; exact Nat.le_succ_of_le b9.size) _
  have D := Lib.hid (chain D.out E.out)
  have T10 := Lib.hid (T10.out.next E.out)
  have T14 := Lib.hid (T14.out.next E.out)
  have T16 := Lib.hid (T16.out.next E.out)
  have T17 := Lib.hid (T17.out.next E.out)
  have R1 := Lib.hid (Ri.below R1.out E.out (Nat.le_refl _))
  have R2 := Lib.hid (Ri.below R2.out E.out (Nat.le_refl _))
  have T18 : Hid (ZC (.bool bqx) (.slice p5 l5 c5) u19 y19.heap.size) := by rw [hu19]; exact (ZC.new rfl).alloc _
  have R5 : Hid (Rz u19 (.slice p5 l5 c5) qx) := by rw [hu19]; exact (R5.out.allocd _).allocd _
  have Hu19 := Lib.hid hu19
  clear hu19 b9 E k16a k16b k17a k17b
  go_upto_region 20 with (fail)
  rw [← Hu19.out]
  clear Hu19
  obtain ⟨k14a, k14b, _⟩ := T14.out
  obtain ⟨k18a, k18b, _⟩ := T18.out
  go_wp2_with fail
  refine (H_is.out _ _ R5.out).mono ?_
  rintro e y20 ⟨rfl, b9⟩
  have E := Lib.hid b9
  have D := Lib.hid (chain D.out E.out)
  have T10 := Lib.hid (T10.out.next E.out)
  have T14 := Lib.hid (T14.out.next E.out)
  have T16 := Lib.hid (T16.out.next E.out)
  have T17 := Lib.hid (T17.out.next E.out)
  have R1 := Lib.hid (Ri.below R1.out E.out (Nat.le_refl _))
  have R2 := Lib.hid (Ri.below R2.out E.out (Nat.le_refl _))
  clear b9 E k14a k14b k18a k18b
  go_upto_region 22 with (fail)
  obtain ⟨⟨k10a, k10b, k10c, k10d⟩, _⟩ := T10.out
  obtain ⟨k16a, k16b, _⟩ := T16.out
  obtain ⟨k17a, k17b, _⟩ := T17.out
  go_region_held3 (fun W' => W'.cell? ⟨y10.heap.size, 0, none⟩ = some (.bool xa) ∧ W'.cell? ⟨y10.heap.size, 1, none⟩ = some (.string sa) ∧ W'.cell? ⟨y10.heap.size, 2, none⟩ = some (.bool xb) ∧ W'.cell? ⟨y10.heap.size, 3, none⟩ = some (.string sb) ∧ W'.cell? ⟨g7, 0, none⟩ = some (.bool bx) ∧ W'.cell? ⟨g7, 1, none⟩ = some ((.slice y1' n1 c1)) ∧ W'.cell? ⟨g8, 0, none⟩ = some (.bool by') ∧ W'.cell? ⟨g8, 1, none⟩ = some ((.slice y2' n2 c2))) (go_keep)
    (first
      | (go_at_call 15; (with_reducible refine (H_lo2.out _ _ _ (by first | exact R1.out | exact Ri.drew R1.out) (by first | exact R2.out | exact Ri.drew R2.out)).mono ?_); rintro e y ⟨v7, v8, rfl, r7, r8, b9⟩; have E := Lib.hid (show Below y20.heap.size y20 y by first | exact chain E.out b9 | exact chain ((Below.refl _ _).drew) b9); have pk10a := keep1 E.out k10a; have pk10b := keep1 E.out k10b; have pk10c := keep1 E.out k10c; have pk10d := keep1 E.out k10d; have pk16a := keep1 E.out k16a; have pk16b := keep1 E.out k16b; have pk17a := keep1 E.out k17a; have pk17b := keep1 E.out k17b; have G7 := Lib.hid r7; have G8 := Lib.hid r8; obtain ⟨pp7, bb7, oo7, cc7, rfl, rr7⟩ := r7; obtain ⟨pp8, bb8, oo8, cc8, rfl, rr8⟩ := r8; clear rr7 rr8 b9)
      | (go_at_call 14; (with_reducible refine (H_sa2.out _ _ _ G7.out G8.out).mono ?_); rintro e y ⟨rfl, b9⟩; have E := Lib.hid (show Below y20.heap.size y20 y by first | exact chain E.out b9 | exact chain ((Below.refl _ _).drew) b9); have pk10a := keep1 E.out k10a; have pk10b := keep1 E.out k10b; have pk10c := keep1 E.out k10c; have pk10d := keep1 E.out k10d; have pk16a := keep1 E.out k16a; have pk16b := keep1 E.out k16b; have pk17a := keep1 E.out k17a; have pk17b := keep1 E.out k17b; clear b9)
      | (go_at_call 8; (with_reducible refine (H_known.out _).mono ?_); rintro e y ⟨rfl, b9⟩; have E := Lib.hid (show Below y20.heap.size y20 y by first | exact chain E.out b9 | exact chain ((Below.refl _ _).drew) b9); have pk10a := keep1 E.out k10a; have pk10b := keep1 E.out k10b; have pk10c := keep1 E.out k10c; have pk10d := keep1 E.out k10d; have pk16a := keep1 E.out k16a; have pk16b := keep1 E.out k16b; have pk17a := keep1 E.out k17a; have pk17b := keep1 E.out k17b; clear b9)
      | fail)
  have HZ := Lib.hid (chain hb0.out (chain D.out E.out))
  go_wp2
  go_ret
  exact ⟨rfl, HZ.out⟩
end Go.Proofs.YtlmklhffafcmmaaGreat

/- The law WideRatios gives true. -/
namespace Go.Proofs.YtlmklhffafcmmaaGreat
open Go.RowKit

/-- The ratio in lowest terms, in limbs and in integers. -/
theorem sg_parts (c : Bool) (A : Nat) : zb (sg c A) = (c && decide (A ≠ 0)) ∧ zs (sg c A) = bs A := by
  have h := wd_sg c A
  rw [wd] at h
  injection h with h
  have h1 := congrArg (fun l => l[0]?) h
  have h2 := congrArg (fun l => l[1]?) h
  simp at h1 h2
  exact ⟨by rw [← h1]; simp, h2.symm⟩
theorem div_sg (c e : Bool) (A g : Nat) (hg : 0 < g) : sg c (g * A) / sg e g = sg (c != e) A := by
  have h := eq1_sg (a := c) (b := e) (m := g * A) (n := g) hg
  rw [← h]
  unfold eq1
  rw [Nat.mul_mod_right]
  simp [hg]
theorem lg_sg (x y : Int) (hy : y ≠ 0) : lg x y = sg (zb y) (Nat.gcd x.natAbs y.natAbs) := by
  unfold lg sg zb
  by_cases h : y < 0
  · rw [if_pos h, decide_eq_true h, if_pos rfl]
  · rw [if_neg h, decide_eq_false h, if_neg (by simp)]
theorem low_parts (x y : Int) (hy : y ≠ 0) (g : Nat) (hg : Nat.gcd x.natAbs y.natAbs = g) :
    x / lg x y = sg (zb x != zb y) (x.natAbs / g) ∧ y / lg x y = sg false (y.natAbs / g) := by
  have hgp : 0 < g := by rw [← hg]; exact Nat.gcd_pos_of_pos_right _ (by omega)
  obtain ⟨A, hA⟩ : g ∣ x.natAbs := by rw [← hg]; exact Nat.gcd_dvd_left _ _
  obtain ⟨B, hB⟩ : g ∣ y.natAbs := by rw [← hg]; exact Nat.gcd_dvd_right _ _
  have hx : x = sg (zb x) (g * A) := by rw [← hA]; exact (sg_z x).symm
  have hy2 : y = sg (zb y) (g * B) := by rw [← hB]; exact (sg_z y).symm
  have eA : x.natAbs / g = A := by rw [hA]; exact Nat.mul_div_cancel_left _ hgp
  have eB : y.natAbs / g = B := by rw [hB]; exact Nat.mul_div_cancel_left _ hgp
  rw [lg_sg x y hy, hg, eA, eB]
  constructor
  · conv => lhs; rw [hx]
    exact div_sg _ _ _ _ hgp
  · have h5 := div_sg (zb y) (zb y) B g hgp
    rw [← hy2] at h5
    rw [h5]
    simp
theorem low_any (m n : Nat) (hm : m < Top) (hn : n < Top) (h0 : 0 < n) : LowOK m n (m / Nat.gcd m n) (n / Nat.gcd m n) := by
  have hg := Nat.gcd_pos_of_pos_right m h0
  have hgn : Nat.gcd m n ≤ n := Nat.gcd_le_right m h0
  have a1 : m / Nat.gcd m n < Top := Nat.lt_of_le_of_lt (Nat.div_le_self _ _) hm
  have a2 : n / Nat.gcd m n < Top := Nat.lt_of_le_of_lt (Nat.div_le_self _ _) hn
  have lt : ∀ {z}, z < Top → (Nm.dg W z).length ≤ 900000000 := fun h => Nat.le_trans (len_top h) (by decide)
  exact ⟨gcdOK_any m n (lt hm) (lt hn), divOK_any _ _ hg (lt hm) (lt (by omega)), divOK_any _ _ hg (lt hn) (lt (by omega)), rfl, rfl, Nat.le_trans (len_top a1) (by decide), Nat.le_trans (len_top a2) (by decide), a1, a2⟩
/-- What comes out for two integers. -/
theorem low_z (x y : Int) (hy : y ≠ 0) : (((zb x != zb y) && decide (x.natAbs / Nat.gcd x.natAbs y.natAbs ≠ 0)) = zb (x / lg x y) ∧ bs (x.natAbs / Nat.gcd x.natAbs y.natAbs) = zs (x / lg x y)) ∧ false = zb (y / lg x y) ∧ bs (y.natAbs / Nat.gcd x.natAbs y.natAbs) = zs (y / lg x y) := by
  obtain ⟨e1, e2⟩ := low_parts x y hy _ rfl
  obtain ⟨p1, p2⟩ := sg_parts (zb x != zb y) (x.natAbs / Nat.gcd x.natAbs y.natAbs)
  obtain ⟨p3, p4⟩ := sg_parts false (y.natAbs / Nat.gcd x.natAbs y.natAbs)
  rw [e1, e2, p1, p2, p3, p4]
  exact ⟨⟨rfl, rfl⟩, rfl, rfl⟩
theorem low_abs (x y : Int) (hy : y ≠ 0) : (x / lg x y).natAbs ≤ x.natAbs ∧ (y / lg x y).natAbs ≤ y.natAbs := by
  obtain ⟨e1, e2⟩ := low_parts x y hy _ rfl
  rw [e1, e2, sg_abs, sg_abs]
  exact ⟨Nat.div_le_self _ _, Nat.div_le_self _ _⟩
/-- An integer that a wide one can hold. -/
def Fit (z : Int) (k : Nat) : Prop := z.natAbs < 256 ^ k
theorem Fit.top {z : Int} {k : Nat} (h : Fit z k) (hk : k ≤ 8192) : z.natAbs < Top := (fits_k hk h).1
theorem Fit.len {z : Int} {k : Nat} (h : Fit z k) (hk : k ≤ 8192) : (Nm.dg D9 z.natAbs).length ≤ 1000000 := Nat.le_trans (fits_k hk h).2 (by decide)
theorem Fit.size {z : Int} {k : Nat} (h : Fit z k) (hk : k ≤ 8192) : (zs z).size ≤ 8192 := zs_size (h.top hk)
theorem Fit.nine {z : Int} {k : Nat} (h : Fit z k) : z.natAbs < D9 ^ k := Nat.lt_of_lt_of_le h (Nat.pow_le_pow_left (by decide) k)
theorem Fit.le {y z : Int} {k : Nat} (h : Fit z k) (hle : y.natAbs ≤ z.natAbs) : Fit y k := Nat.lt_of_le_of_lt hle h
theorem fit_int {n : Int} {k : Nat} (hk : k = 60) (h1 : -9223372036854775808 ≤ n) (h2 : n ≤ 9223372036854775807) : Fit n k := by
  subst hk
  have h3 : n.natAbs < 256 ^ 8 := by omega
  exact Nat.lt_of_lt_of_le h3 (Nat.pow_le_pow_right (by decide) (by decide))
theorem same_z (x y : Int) (k : Nat) (hk : k ≤ 8192) (hx : Fit x k) (hy : Fit y k) (v1 v2 : Value) (w : World) (h1 : Rz w v1 x) (h2 : Rz w v2 y) :
    Calls Tryz.prog 14 #[.agg #[.bool (zb x), .string (zs x), .bool (zb y), .string (zs y)], .int .i64 0, qV x y v1 v2] w fun e w' => e = .returned (.bool true) ∧ Below w.heap.size w w' :=
  rsame_true x y v1 v2 w h1 h2 (hx.len hk) (hy.len hk) (hx.size hk) (hy.size hk)

theorem short2_sizes {a b : Bool} {s t : ByteArray} (h : shortL [(a, s), (b, t)] = true) : s.size ≤ 60 ∧ t.size ≤ 60 := by simpa [shortL] using h

theorem ratios_any (a b : Bool) (s t : ByteArray) (n d : Int) (w : World) (n1 : -9223372036854775808 ≤ n) (n2 : n ≤ 9223372036854775807) (d1 : -9223372036854775808 ≤ d) (d2 : d ≤ 9223372036854775807) :
    Calls Tryz.prog 3 #[.agg #[.bool a, .string s], .agg #[.bool b, .string t], .int .i64 n, .int .i64 d] w (Ret (.bool true) w) := by
  cases hsh : shortL [(a, s), (b, t)] with
  | false => exact ratios_long a b s t n d w hsh
  | true =>
    obtain ⟨l1, l2⟩ := short2_sizes hsh
    obtain ⟨k, hk⟩ : ∃ k : Nat, k = 60 := ⟨_, rfl⟩
    have hk8 : k ≤ 8192 := by omega
    have h_vr := fun w => ValidRatio_any a b s t w (by omega) (by omega)
    have h_rv := fun w => rvalidRatio_any a b s t w (by omega) (by omega)
    have fn := fit_int hk n1 n2
    have fd := fit_int hk d1 d2
    have ro0 : d = 0 → ∀ w, Calls Tryz.prog 10 #[.int .i64 n, .int .i64 d] w fun e w' => e = .returned (.tuple #[.agg #[.bool false, .string ⟨#[]⟩, .bool false, .string ⟨#[]⟩], .int .i64 3]) ∧ Below w.heap.size w w' := fun h w => by
      subst h; exact RatioOf_zero n w n1 n2
    have ro1 : ¬ d = 0 → ∀ w, Calls Tryz.prog 10 #[.int .i64 n, .int .i64 d] w fun e w' => e = .returned (.tuple #[.agg #[.bool (zb (n / lg n d)), .string (zs (n / lg n d)), .bool (zb (d / lg n d)), .string (zs (d / lg n d))], .int .i64 0]) ∧ Below w.heap.size w w' := fun h w => by
      have h5 := RatioOf_ok n d _ _ w (low_any _ _ (fn.top hk8) (fd.top hk8) (by omega)) n1 n2 d1 d2 h
      obtain ⟨⟨e1, e2⟩, e3, e4⟩ := low_z n d h
      rw [e1, e2, e3, e4] at h5
      exact h5
    have hn1 := fun w => rnum_any n w n1 n2
    have hn2 := fun w => rnum_any d w d1 d2
    have lo1 := fun (h : ¬ d = 0) v1 v2 w g1 g2 => rlowest_int n d v1 v2 w k (by omega) fn.nine fd.nine h g1 g2
    have sa1 := fun (h : ¬ d = 0) v1 v2 w g1 g2 => same_z (n / lg n d) (d / lg n d) k hk8 (fn.le (low_abs n d h).1) (fd.le (low_abs n d h).2) v1 v2 w g1 g2
    have fl0 := fun (hr : vldR a s b t = false) w => Floor_bad a b s t w (by omega) (by omega) hr
    rw [wd_none] at fl0
    unfold BPost at h_vr h_rv
    have vrf : vldR a s b t = false → ∀ w, Calls Tryz.prog 12 #[.agg #[.bool a, .string s, .bool b, .string t]] w fun e w' => e = .returned (.bool false) ∧ Below w.heap.size w w' := fun h w => by have h5 := h_vr w; rw [h] at h5; exact h5
    have rvf : vldR a s b t = false → ∀ w, Calls Tryz.prog 13 #[.agg #[.bool a, .string s, .bool b, .string t]] w fun e w' => e = .returned (.bool false) ∧ Below w.heap.size w w' := fun h w => by have h5 := h_rv w; rw [h] at h5; exact h5
    cases hvl : validL [(a, s), (b, t)] with
    | false =>
      have hv : (vld a s && vld b t) = false := by
        have h5 := hvl
        simp only [validL, List.all_cons, List.all_nil, Bool.and_true] at h5
        exact h5
      have hr : vldR a s b t = false := by rw [vld_rat, hv]; rfl
      have h_ra := fun w => Ratio_bad a b s t w (by omega) (by omega) hv
      by_cases h : d = 0
      · exact ratios_bad_d0 a b s t n d w l1 l2 hsh hvl h h_ra (ro0 h) (fl0 hr) (vrf hr) (rvf hr)
      · exact ratios_bad_d1 a b s t n d w l1 l2 hsh hvl h _ _ _ _ _ _ h_ra (ro1 h) (fl0 hr) (vrf hr) (rvf hr) hn1 hn2 (lo1 h) (sa1 h)
    | true =>
      have hv : vld a s = true ∧ vld b t = true := by simpa [validL, Bool.and_eq_true] using hvl
      obtain ⟨v1, v2⟩ := hv
      rcases Nat.eq_zero_or_pos t.size with h0 | h0
      · have ht := empty_of h0
        have hr : vldR a s b t = false := by rw [vld_rat, decide_eq_false (by omega), Bool.and_false]
        have h_ra := fun w => Ratio_zero0 a b s t w (by omega) (by omega) v1 v2 ht
        by_cases h : d = 0
        · exact ratios_zero_d0 a b s t n d w l1 l2 hsh hvl ht h h_ra (ro0 h) (fl0 hr) (vrf hr) (rvf hr)
        · exact ratios_zero_d1 a b s t n d w l1 l2 hsh hvl ht h _ _ _ _ _ _ h_ra (ro1 h) (fl0 hr) (vrf hr) (rvf hr) hn1 hn2 (lo1 h) (sa1 h)
      · have hb0 : bv t ≠ 0 := fun e => by have := (bv_zero_iff (vld_can v2)).1 e; omega
        obtain ⟨x, hx⟩ : ∃ x, sg a (bv s) = x := ⟨_, rfl⟩
        obtain ⟨y, hy⟩ : ∃ y, sg b (bv t) = y := ⟨_, rfl⟩
        obtain ⟨a1, a2⟩ := zb_sg v1
        obtain ⟨b1, b2⟩ := zb_sg v2
        have xa : x.natAbs = bv s := by rw [← hx, sg_abs]
        have ya : y.natAbs = bv t := by rw [← hy, sg_abs]
        rw [hx] at a1 a2
        rw [hy] at b1 b2
        have y0 : y ≠ 0 := by omega
        have fx : Fit x k := by unfold Fit; rw [xa]; exact bv60 hk l1
        have fy : Fit y k := by unfold Fit; rw [ya]; exact bv60 hk l2
        have h_ra : ∀ w, Calls Tryz.prog 9 #[.agg #[.bool a, .string s], .agg #[.bool b, .string t]] w fun e w' => e = .returned (.tuple #[.agg #[.bool (zb (x / lg x y)), .string (zs (x / lg x y)), .bool (zb (y / lg x y)), .string (zs (y / lg x y))], .int .i64 0]) ∧ Below w.heap.size w w' := fun w => by
          have h5 := Ratio_ok a b s t _ _ w (low_any _ _ (bv_lt v1) (bv_lt v2) (by omega)) v1 v2 (by omega)
          obtain ⟨⟨e1, e2⟩, e3, e4⟩ := low_z x y y0
          rw [xa, ya, a1, b1] at e1
          rw [xa, ya] at e2 e4
          rw [e1, e2, e3, e4] at h5
          exact h5
        have h_from := fun w => rfrom_any a s w (by omega)
        have h_from2 := fun w => rfrom_any b t w (by omega)
        rw [hx] at h_from
        rw [hy] at h_from2
        have h_lo2 := fun v1 v2 w g1 g2 => rlowest_int x y v1 v2 w k (by omega) fx.nine fy.nine y0 g1 g2
        have h_sa2 := fun v1 v2 w g1 g2 => same_z (x / lg x y) (y / lg x y) k hk8 (fx.le (low_abs x y y0).1) (fy.le (low_abs x y y0).2) v1 v2 w g1 g2
        cases b with
        | true =>
          have hneg : y < 0 := by
            have h5 : zb y = true := b1
            exact of_decide_eq_true h5
          have hr : vldR a s true t = false := by rw [vld_rat]; simp
          have h_sg : ∀ v w, Rz w v y → Calls Tryz.prog 19 #[iV y v] w (SignPost (-1) w) := fun v w h => by
            have h5 := rsign_int y v w h
            rwa [Int.sign_eq_neg_one_of_neg hneg] at h5
          by_cases h : d = 0
          · exact ratios_neg_d0 a true s t n d w l1 l2 hsh hvl h0 h _ _ _ _ x y _ _ h_ra (ro0 h) (fl0 hr) (vrf hr) (rvf hr) h_from h_from2 h_sg h_lo2 h_sa2
          · exact ratios_neg_d1 a true s t n d w l1 l2 hsh hvl h0 h _ _ _ _ _ _ _ _ _ _ x y _ _ h_ra (ro1 h) (fl0 hr) (vrf hr) (rvf hr) hn1 hn2 (lo1 h) (sa1 h) h_from h_from2 h_sg h_lo2 h_sa2
        | false =>
          have hpos : 0 < y := by
            have h5 : zb y = false := b1
            have h6 : ¬ y < 0 := of_decide_eq_false h5
            omega
          have hr : vldR a s false t = true := by rw [vld_rat, v1, v2, decide_eq_true h0]; rfl
          have hsv : 0 < sgV false t := by
            have h5 := hr
            unfold vldR at h5
            rw [v1, Bool.true_and] at h5
            exact of_decide_eq_true h5
          have h_sg : ∀ v w, Rz w v y → Calls Tryz.prog 19 #[iV y v] w (SignPost 1 w) := fun v w h => by
            have h5 := rsign_int y v w h
            rwa [Int.sign_eq_one_of_pos hpos] at h5
          have lt : ∀ {z}, z < Top → (Nm.dg W z).length ≤ 900000000 := fun h => Nat.le_trans (len_top h) (by decide)
          have hq : sg (a != false) (eq1 a (bv s) (bv t)) = x / y := by
            rw [eq1_sg (b := false) (by omega), hx, hy]
          have fq : Fit (x / y) k := by
            unfold Fit
            rw [← hq, sg_abs]
            exact Nat.lt_of_le_of_lt (eq1_le (by omega)) (bv60 hk l1)
          have h_fl : ∀ w, Calls Tryz.prog 11 #[.agg #[.bool a, .string s, .bool false, .string t]] w fun e w' => e = .returned (.tuple #[.agg #[.bool (zb (x / y)), .string (zs (x / y))], .int .i64 0]) ∧ Below w.heap.size w w' := fun w => by
            have h5 := Floor_ok a false s t w (divOK_any _ _ (by omega) (lt (bv_lt v1)) (lt (bv_lt v2))) v1 v2 hsv (by omega)
            unfold WPost at h5
            rw [wd_sg, hq] at h5
            exact h5
          have h_qu := fun v1 v2 w g1 g2 => rquo_int x y v1 v2 w k (by omega) fx.nine fy.nine g1 g2 y0
          have h_is : ∀ v w, Rz w v (x / y) → Calls Tryz.prog 21 #[.agg #[.bool (zb (x / y)), .string (zs (x / y))], .int .i64 0, iV (x / y) v] w fun e w' => e = .returned (.bool true) ∧ Below w.heap.size w w' := fun v w h => is_true (x / y) v w h (fq.len hk8) (fq.size hk8)
          have vrt : ∀ w, Calls Tryz.prog 12 #[.agg #[.bool a, .string s, .bool false, .string t]] w fun e w' => e = .returned (.bool true) ∧ Below w.heap.size w w' := fun w => by have h5 := h_vr w; rw [hr] at h5; exact h5
          have rvt : ∀ w, Calls Tryz.prog 13 #[.agg #[.bool a, .string s, .bool false, .string t]] w fun e w' => e = .returned (.bool true) ∧ Below w.heap.size w w' := fun w => by have h5 := h_rv w; rw [hr] at h5; exact h5
          by_cases h : d = 0
          · exact ratios_pos_d0 a false s t n d w l1 l2 hsh hvl h0 h _ _ _ _ x y _ _ _ _ _ (x % y) h_ra (ro0 h) h_fl vrt rvt h_from h_from2 h_sg h_lo2 h_sa2 h_qu h_is
          · exact ratios_pos_d1 a false s t n d w l1 l2 hsh hvl h0 h _ _ _ _ _ _ _ _ _ _ x y _ _ _ _ _ (x % y) h_ra (ro1 h) h_fl vrt rvt hn1 hn2 (lo1 h) (sa1 h) h_from h_from2 h_sg h_lo2 h_sa2 h_qu h_is
end Go.Proofs.YtlmklhffafcmmaaGreat

/- What comes in and goes out: wide integers and ratios. -/
namespace Go.Proofs.YtlmklhffafcmmaaGreat
open Go.ChangeShapes Go.WideShapes Go.ChangeAt Go.RowKit Go.Joins
open Go.ChangeMaps (open_string shut_string)

theorem Tryz.own : ownKnob Tryz.prog.godebug = none := by kernel_rfl
theorem Tryz.cellsWide : Tryz.prog.cellsOf 23 = 2 := by kernel_rfl

set_option maxRecDepth 100000 in
/-- A wide integer that came in. -/
theorem open_wide {H : Type} {enc : TypeId × Value → H} {w : World} {base : Nat} {b0 : Nat} {spare : Nat → Bool} {held : Bool} {r : Reach} {v : Value} {d : DataW H} {p : List MemPlace}
    (hv : Value.okWide Tryz.prog w r b0 23 v) (h : DataW.Trod enc Tryz.prog w base spare held 23 v d p) :
    ∃ (a : Bool) (s : ByteArray), v = .agg #[.bool a, .string s] ∧ d = .agg [.lit (.bool a), .lit (.string s.data.toList)] ∧ p = [] ∧ s.size ≤ maxLen := by
  obtain ⟨c0, c1, y0, y1, m, rfl, rfl, rfl, hy0, hy1⟩ := open_agg2 Tryz.underlying23 (by kernel_rfl) Tryz.cellsWide hv h
  obtain ⟨a, e0, rfl⟩ := DataW.trod_bool Tryz.underlying4 hy0
  obtain ⟨s, e1, rfl, hs⟩ := DataW.trod_string Tryz.underlying9 hy1
  simp at e0 e1
  subst e0 e1
  exact ⟨a, s, rfl, rfl, rfl, hs⟩
theorem shut_wide {H : Type} {enc : TypeId × Value → H} {w : World} {base : Nat} {spare : Nat → Bool} {held : Bool} {a : Bool} {s : ByteArray} (hs : s.size ≤ maxLen) :
    DataW.Trod enc Tryz.prog w base spare held 23 (.agg #[.bool a, .string s]) (.agg [.lit (.bool a), .lit (.string s.data.toList)]) [] :=
  shut_agg2 (y0 := (.lit (.bool a), [])) (y1 := (.lit (.string s.data.toList), [])) Tryz.underlying23 (by kernel_rfl) Tryz.cellsWide ⟨1, by simp [DataW.trod, Tryz.underlying4]⟩ ⟨1, by simp [DataW.trod, Tryz.underlying9, hs]⟩

theorem Tryz.cellsRatio : Tryz.prog.cellsOf 27 = 4 := by kernel_rfl
end Go.Proofs.YtlmklhffafcmmaaGreat

/- WideRatios gives true for all wide integers and ints (P1.7), and leaves its arguments as they were. No condition. -/
namespace Go.Proofs.YtlmklhffafcmmaaGreat
open Go.ChangeShapes Go.WideShapes Go.ChangeAt Go.RowKit Go.Joins
open Go.ChangeMaps (open_string shut_string)

set_option maxRecDepth 100000 in
theorem ratios_lifted (os : Os) (started : os.Started) (H : Type) (enc : TypeId × Value → H) :
    ReturnsInHanded {} Tryz.checked os 3 .any (Rows.wideRatiosSpec.pre6 enc Tryz.prog Tryz.f3 Rows.wideRatiosRow.domain false) (Rows.wideRatiosSpec.post enc Tryz.prog Tryz.f3 false true false false) := by
  refine returnsInHanded_of_change (C := Tryz.checked) Tryz.own started (by kernel_rfl) Tryz.func3
    (ChangeSpec.witness6 (enc := enc) (C := Tryz.checked) false ⟨#[], #[.agg #[.bool false, .string ⟨#[]⟩], .agg #[.bool false, .string ⟨#[]⟩], .int .i64 0, .int .i64 0], []⟩ 8 (by kernel_rfl) (by kernel_rfl) (by kernel_rfl) (by kernel_rfl)) ?_
  intro W base args ds gs before hval0 hW hcnd _
  have hval : ∀ (j : Nat) t v, Tryz.f3.params[j]? = some t → args[j]? = some v → Value.okWide Tryz.prog W .any base t v := hval0
  have hW' := hW
  obtain ⟨p, q, hA0, hV, rfl, hfz, hnd⟩ := hW
  have hA : DataW.TrodAll enc Tryz.prog W 0 (fun _ => true) true Tryz.f3.params.toList args.toList ds p := hA0
  rw [Tryz.params3] at hA hval
  obtain ⟨v0, v1, v2, v3, d0, d1, d2, d3, p0, p1, p2, p3, rfl, rfl, rfl, h0, h1, h2, h3⟩ := trodAll_four hA
  obtain ⟨rfl, rfl⟩ := trodVars_none hV
  obtain ⟨a, s, rfl, rfl, rfl, hs⟩ := open_wide (hval 0 23 v0 rfl rfl) h0
  obtain ⟨b, t, rfl, rfl, rfl, ht⟩ := open_wide (hval 1 23 v1 rfl rfl) h1
  obtain ⟨n, rfl, rfl, rfl, wn⟩ := open_int Tryz.underlying3 (hval 2 3 v2 rfl rfl) h2
  obtain ⟨d, rfl, rfl, rfl, wd'⟩ := open_int Tryz.underlying3 (hval 3 3 v3 rfl rfl) h3
  clear hA0 hval0
  have bn := bounds_i64 wn
  have bd := bounds_i64 wd'
  refine (ratios_any a b s t n d W (by omega) (by omega) (by omega) (by omega)).mono fun e W' ⟨he, bel⟩ => ?_
  subst he
  exact ⟨_, rfl, _, _, _, [], _, [], hW', trodAll_mk1 (shut_bool Tryz.underlying4 _), trodAll_mk4 (shut_wide hs) (shut_wide ht) (shut_int Tryz.underlying3 wn) (shut_int Tryz.underlying3 wd'), rfl, bel.frame _, fun h => by cases h⟩

/-- The statement. -/
theorem ratios_holds : Rows.WideRatiosSaid :=
  OpenClaim.holds_of_wide 3 Tryz.f3 rfl rfl rfl rfl rfl rfl rfl ⟨rfl, rfl, rfl, rfl, rfl⟩ rfl rfl rfl rfl rfl (by kernel_rfl) Tryz.func3 (by kernel_rfl)
    (of_decide_eq_true (by kernel_rfl)) (by unfold Func.isWrapper; first | (rw [if_pos (by decide +kernel)]; kernel_rfl) | (rw [if_neg (by decide +kernel)]; exact ⟨rfl, rfl⟩))
    (fun os started H enc _ => ratios_lifted os started H enc)
#print axioms ratios_holds
end Go.Proofs.YtlmklhffafcmmaaGreat
