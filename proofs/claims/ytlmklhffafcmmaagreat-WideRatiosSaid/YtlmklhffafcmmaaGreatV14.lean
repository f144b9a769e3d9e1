/- What the theorem leans on, part 14: LRatC. -/
import Derived.Test.YtlmklhffafcmmaaGreatV12
import Derived.Test.YtlmklhffafcmmaaGreatV10

/- The law WideRatios: the walk over what its calls give: the denominator is negative. -/
namespace Go.Proofs.YtlmklhffafcmmaaGreat
open Go.RowKit

set_option maxRecDepth 100000 in
set_option maxHeartbeats 8000000 in
theorem ratios_neg_d0 (a b : Bool) (s t : ByteArray) (n d : Int) (w : World) (l1 : s.size ≤ 60) (l2 : t.size ≤ 60) (hsh : shortL [(a, s), (b, t)] = true) (hvl : validL [(a, s), (b, t)] = true) (h0 : 0 < t.size) (hd : d = 0) (xa xb : Bool) (sa sb : ByteArray) (x y' z1 z2 : Int)
    (h_ra : ∀ w, Calls Tryz.prog 9 #[.agg #[.bool a, .string s], .agg #[.bool b, .string t]] w fun e w' => e = .returned (.tuple #[.agg #[.bool xa, .string sa, .bool xb, .string sb], .int .i64 0]) ∧ Below w.heap.size w w')
    (h_ro : ∀ w, Calls Tryz.prog 10 #[.int .i64 n, .int .i64 d] w fun e w' => e = .returned (.tuple #[.agg #[.bool false, .string ⟨#[]⟩, .bool false, .string ⟨#[]⟩], .int .i64 3]) ∧ Below w.heap.size w w')
    (h_fl : ∀ w, Calls Tryz.prog 11 #[.agg #[.bool a, .string s, .bool b, .string t]] w fun e w' => e = .returned (.tuple #[.agg #[.bool false, .string ⟨#[]⟩], .int .i64 2]) ∧ Below w.heap.size w w')
    (h_vr : ∀ w, Calls Tryz.prog 12 #[.agg #[.bool a, .string s, .bool b, .string t]] w fun e w' => e = .returned (.bool false) ∧ Below w.heap.size w w')
    (h_rv : ∀ w, Calls Tryz.prog 13 #[.agg #[.bool a, .string s, .bool b, .string t]] w fun e w' => e = .returned (.bool false) ∧ Below w.heap.size w w')
    (h_from : ∀ w, Calls Tryz.prog 18 #[.agg #[.bool a, .string s]] w (IntPost x w))
    (h_from2 : ∀ w, Calls Tryz.prog 18 #[.agg #[.bool b, .string t]] w (IntPost y' w))
    (h_sg : ∀ v w, Rz w v y' → Calls Tryz.prog 19 #[iV y' v] w (SignPost (-1) w))
    (h_lo2 : ∀ v1 v2 w, Rz w v1 x → Rz w v2 y' → Calls Tryz.prog 15 #[iV x v1, iV y' v2] w (RQPost z1 z2 w))
    (h_sa2 : ∀ v1 v2 w, Rz w v1 z1 → Rz w v2 z2 → Calls Tryz.prog 14 #[.agg #[.bool xa, .string sa, .bool xb, .string sb], .int .i64 0, qV z1 z2 v1 v2] w fun e w' => e = .returned (.bool true) ∧ Below w.heap.size w w') :
    Calls Tryz.prog 3 #[.agg #[.bool a, .string s], .agg #[.bool b, .string t], .int .i64 n, .int .i64 d] w (Ret (.bool true) w) := by
  subst hd
  have H_ra := Lib.hid h_ra
  have H_ro := Lib.hid h_ro
  have H_fl := Lib.hid h_fl
  have H_vr := Lib.hid h_vr
  have H_rv := Lib.hid h_rv
  have H_from := Lib.hid h_from
  have H_from2 := Lib.hid h_from2
  have H_sg := Lib.hid h_sg
  have H_lo2 := Lib.hid h_lo2
  have H_sa2 := Lib.hid h_sa2
  clear h_ra h_ro h_fl h_vr h_rv h_from h_from2 h_sg h_lo2 h_sa2
  unfold IntPost at H_from H_from2
  unfold RQPost at H_lo2
  unfold qV at H_lo2 H_sa2
  unfold SignPost at H_sg
  unfold iV at H_from H_from2 H_sg H_lo2
  generalize decide (x < 0) = bx at *
  generalize decide (y' < 0) = by' at *
  generalize decide (z1 < 0) = bz1 at *
  generalize decide (z2 < 0) = bz2 at *
  have H_known := Lib.hid known_true
  obtain ⟨w0, hw0⟩ : ∃ w0 : World, w0 = ((w.alloc (.cells #[.bool a, .string s] 23)).alloc (.cells #[.bool b, .string t] 23)).alloc (.cells #[.bool a, .string s, .bool b, .string t] 23) := ⟨_, rfl⟩
  have hb0 : Hid (Below w.heap.size w w0) := by rw [hw0]; exact (((Below.refl _ _).alloc (Nat.le_refl _) _).alloc (by simp) _).alloc (by simp; omega) _
  have I1 : Hid (ZC (.bool a) (.string s) w0 w.heap.size) := by rw [hw0]; exact ((ZC.new rfl).alloc _).alloc _
  have I2 : Hid (ZC (.bool b) (.string t) w0 (w.heap.size + 1)) := by rw [hw0]; exact (ZC.new (by simp)).alloc _
  have Hsz : Hid (w.heap.size + 3 ≤ w0.heap.size) := by rw [hw0]; show _ ≤ _; simp
  have HSH := short_any [(a, s), (b, t)] 2 (w.heap.size + 1 + 1) w0 rfl (by decide) (by rw [hw0]; have := WL.two ((w.alloc (.cells #[.bool a, .string s] 23)).alloc (.cells #[.bool b, .string t] 23)) a b s t 23; simpa using this)
  rw [hsh] at HSH
  have H_val := Lib.hid (fun g w h => valid_any [(a, s), (b, t)] 2 g w rfl (by decide) h (by intro x hx; simp at hx; rcases hx with rfl | rfl <;> (show _ ≤ _; simp; omega)))
  rw [hvl] at H_val
  unfold BPost at H_val
  clear hvl
  have HSh := Lib.hid HSH
  have Hw0 := Lib.hid hw0
  clear HSH hw0 hsh
  unfold Ret at *
  unfold BPost at HSh
  go_enter Tryz.func3, Tryz.ntmps3
  go_wp2_with fail
  rw [← Hw0.out]
  refine HSh.out.mono ?_
  rintro e x0 ⟨rfl, b0⟩
  have D := Lib.hid b0
  clear b0
  obtain ⟨k0, k1, _⟩ := I1.out.next D.out
  obtain ⟨k2, k3, _⟩ := I2.out.next D.out
  have b9 := Below.refl x0.heap.size x0
  have j1 : ¬ w.heap.size = x0.heap.size := Nat.ne_of_lt (World.block_lt_of_cell? _ _ k0)
  have j2 : ¬ w.heap.size + 1 = x0.heap.size := Nat.ne_of_lt (World.block_lt_of_cell? _ _ k2)
  obtain ⟨u9, hu9⟩ : ∃ u : World, u = x0.alloc (.cells #[.bool a, .string s, .bool b, .string t] 27) := ⟨_, rfl⟩
  have E : Hid (Below x0.heap.size x0 u9) := by rw [hu9]; exact b9.alloc b9.size _
  have D := Lib.hid (chain D.out E.out)
  have T9 : Hid (ZC4 (.bool a) (.string s) (.bool b) (.string t) u9 x0.heap.size) := by rw [hu9]; exact ZC4.made0 _
  have Hu9 := Lib.hid hu9
  clear hu9 b9 E
  go_upto_region 4 with (fail)
  rw [← Hu9.out]
  clear Hu9
  clear j1 j2
  clear k0 k1 k2 k3
  obtain ⟨k0, k1, _⟩ := I1.out.next D.out
  obtain ⟨k2, k3, _⟩ := I2.out.next D.out
  go_wp2_with fail
  refine (H_ra.out _).mono ?_
  rintro e y10 ⟨rfl, b9⟩
  obtain ⟨u10, hu10⟩ : ∃ u : World, u = y10.alloc (.cells #[.bool xa, .string sa, .bool xb, .string sb] 27) := ⟨_, rfl⟩
  have E : Hid (Below u9.heap.size u9 u10) := by rw [hu10]; exact b9.alloc b9.size _
  have D := Lib.hid (chain D.out E.out)
  have T9 := Lib.hid (T9.out.next E.out)
  have T10 : Hid (ZC4 (.bool xa) (.string sa) (.bool xb) (.string sb) u10 y10.heap.size) := by rw [hu10]; exact ZC4.made0 _
  have Hu10 := Lib.hid hu10
  clear hu10 b9 E
  go_upto_region 5 with (fail)
  rw [← Hu10.out]
  clear Hu10
  clear k0 k1 k2 k3
  go_wp2_with fail
  refine (H_ro.out _).mono ?_
  rintro e y12 ⟨rfl, b9⟩
  obtain ⟨u12, hu12⟩ : ∃ u : World, u = y12.alloc (.cells #[.bool false, .string ⟨#[]⟩, .bool false, .string ⟨#[]⟩] 27) := ⟨_, rfl⟩
  have E : Hid (Below u10.heap.size u10 u12) := by rw [hu12]; exact b9.alloc b9.size _
  have D := Lib.hid (chain D.out E.out)
  have T9 := Lib.hid (T9.out.next E.out)
  have T10 := Lib.hid (T10.out.next E.out)
  have T12 : Hid (ZC4 (.bool false) (.string ⟨#[]⟩) (.bool false) (.string ⟨#[]⟩) u12 y12.heap.size) := by rw [hu12]; exact ZC4.made0 _
  have Hu12 := Lib.hid hu12
  clear hu12 b9 E
  go_upto_region 6 with (fail)
  rw [← Hu12.out]
  clear Hu12
  obtain ⟨⟨k9a, k9b, k9c, k9d⟩, _⟩ := T9.out
  go_wp2_with fail
  refine (H_fl.out _).mono ?_
  rintro e y14 ⟨rfl, b9⟩
  clear k9a k9b k9c k9d
  obtain ⟨u14, hu14⟩ : ∃ u : World, u = y14.alloc (.cells #[.bool false, .string ⟨#[]⟩] 23) := ⟨_, rfl⟩
  have E : Hid (Below u12.heap.size u12 u14) := by rw [hu14]; exact b9.alloc b9.size _
  have D := Lib.hid (chain D.out E.out)
  have T9 := Lib.hid (T9.out.next E.out)
  have T10 := Lib.hid (T10.out.next E.out)
  have T12 := Lib.hid (T12.out.next E.out)
  have T14 : Hid (ZC (.bool false) (.string ⟨#[]⟩) u14 y14.heap.size) := by rw [hu14]; exact ZC.new rfl
  have Hu14 := Lib.hid hu14
  clear hu14 b9 E
  go_upto_region 7 with (fail)
  rw [← Hu14.out]
  clear Hu14
  obtain ⟨⟨k9a, k9b, k9c, k9d⟩, _⟩ := T9.out
  go_region_held3 (fun W' => W'.cell? ⟨x0.heap.size, 0, none⟩ = some (.bool a) ∧ W'.cell? ⟨x0.heap.size, 1, none⟩ = some (.string s) ∧ W'.cell? ⟨x0.heap.size, 2, none⟩ = some (.bool b) ∧ W'.cell? ⟨x0.heap.size, 3, none⟩ = some (.string t)) (go_keep)
    (first
      | (go_at_call 12; (with_reducible refine (H_vr.out _).mono ?_); rintro e y ⟨rfl, b9⟩; have E := Lib.hid (show Below u14.heap.size u14 y by first | exact chain E.out b9 | exact chain ((Below.refl _ _).drew) b9); have p9a := keep1 E.out k9a; have p9b := keep1 E.out k9b; have p9c := keep1 E.out k9c; have p9d := keep1 E.out k9d; clear b9)
      | (go_at_call 13; (with_reducible refine (H_rv.out _).mono ?_); rintro e y ⟨rfl, b9⟩; have E := Lib.hid (show Below u14.heap.size u14 y by first | exact chain E.out b9 | exact chain ((Below.refl _ _).drew) b9); have p9a := keep1 E.out k9a; have p9b := keep1 E.out k9b; have p9c := keep1 E.out k9c; have p9d := keep1 E.out k9d; clear b9)
      | fail)
  have D := Lib.hid (chain D.out E.out)
  have T9 := Lib.hid (T9.out.next E.out)
  have T10 := Lib.hid (T10.out.next E.out)
  have T12 := Lib.hid (T12.out.next E.out)
  have T14 := Lib.hid (T14.out.next E.out)
  obtain ⟨y7, hy7⟩ : ∃ y7 : World, y7 = y := ⟨_, rfl⟩
  subst hy7
  clear E k9a k9b k9c k9d p9a p9b p9c p9d
  obtain ⟨⟨k12a, k12b, k12c, k12d⟩, _⟩ := T12.out
  go_upto_region 9 with (fail)
  refine wp_region_noPanic ?_
  refine wp_region_held_drew (S := (fun W' => W'.cell? ⟨y12.heap.size, 0, none⟩ = some (.bool false) ∧ W'.cell? ⟨y12.heap.size, 1, none⟩ = some (.string ⟨#[]⟩) ∧ W'.cell? ⟨y12.heap.size, 2, none⟩ = some (.bool false) ∧ W'.cell? ⟨y12.heap.size, 3, none⟩ = some (.string ⟨#[]⟩))) (by kernel_rfl) ?_ (fun hHeld => ?_)
  · exact ⟨k12a, k12b, k12c, k12d⟩
  refine wpAnyH_take (i := 0) (oi := ?oi105) (v := ?v105) ?hi105 (by kernel_rfl) (by kernel_rfl) (by kernel_rfl) (fun _ _ _ h => h) (Or.inl ⟨?hw105, ?hy105⟩) (by assumption) ?rest105
  case hi105 => simp only [List.getElem?_toArray, List.getElem?_cons_succ, List.getElem?_cons_zero]; rfl
  case hw105 => rfl
  case hy105 =>
    intro w hSw
    (try dsimp only at hSw)
    go_simp
    (try with_reducible rfl)
  (try simp only [Act.put, List.setIfInBounds_toArray, List.set_cons_zero, List.set_cons_succ])
  refine wpAnyH_take (i := 1) (oi := ?oi106) (v := ?v106) ?hi106 (by kernel_rfl) (by kernel_rfl) (by kernel_rfl) (fun _ _ _ h => h) (Or.inl ⟨?hw106, ?hy106⟩) (by assumption) ?rest106
  case hi106 => simp only [List.getElem?_toArray, List.getElem?_cons_succ, List.getElem?_cons_zero]; rfl
  case hw106 => rfl
  case hy106 =>
    intro w hSw
    (try dsimp only at hSw)
    go_simp
    (try with_reducible rfl)
  (try simp only [Act.put, List.setIfInBounds_toArray, List.set_cons_zero, List.set_cons_succ])
  refine wpAnyH_take (i := 2) (oi := ?oi107) (v := ?v107) ?hi107 (by kernel_rfl) (by kernel_rfl) (by kernel_rfl) (fun _ _ _ h => h) (Or.inl ⟨?hw107, ?hy107⟩) (by assumption) ?rest107
  case hi107 => simp only [List.getElem?_toArray, List.getElem?_cons_succ, List.getElem?_cons_zero]; rfl
  case hw107 => rfl
  case hy107 =>
    intro w hSw
    (try dsimp only at hSw)
    go_simp
    (try with_reducible rfl)
  (try simp only [Act.put, List.setIfInBounds_toArray, List.set_cons_zero, List.set_cons_succ])
  refine wpAnyH_take (i := 3) (oi := ?oi108) (v := ?v108) ?hi108 (by kernel_rfl) (by kernel_rfl) (by kernel_rfl) (fun _ _ _ h => h) (Or.inl ⟨?hw108, ?hy108⟩) (by assumption) ?rest108
  case hi108 => simp only [List.getElem?_toArray, List.getElem?_cons_succ, List.getElem?_cons_zero]; rfl
  case hw108 => rfl
  case hy108 =>
    intro w hSw
    (try dsimp only at hSw)
    go_simp
    (try with_reducible rfl)
  (try simp only [Act.put, List.setIfInBounds_toArray, List.set_cons_zero, List.set_cons_succ])
  refine wpAnyH_take (i := 4) (oi := ?oi109) (v := ?v109) ?hi109 (by kernel_rfl) (by kernel_rfl) (by kernel_rfl) (fun _ _ _ h => h) (Or.inl ⟨?hw109, ?hy109⟩) (by assumption) ?rest109
  case hi109 => simp only [List.getElem?_toArray, List.getElem?_cons_succ, List.getElem?_cons_zero]; rfl
  case hw109 => rfl
  case hy109 =>
    intro w hSw
    (try dsimp only at hSw)
    go_simp
    (try with_reducible rfl)
  (try simp only [Act.put, List.setIfInBounds_toArray, List.set_cons_zero, List.set_cons_succ])
  refine wpAnyH_take (i := 5) (oi := ?oi110) (v := ?v110) ?hi110 (by kernel_rfl) (by kernel_rfl) (by kernel_rfl) (fun _ _ _ h => h) (Or.inl ⟨?hw110, ?hy110⟩) (by assumption) ?rest110
  case hi110 => simp only [List.getElem?_toArray, List.getElem?_cons_succ, List.getElem?_cons_zero]; rfl
  case hw110 => rfl
  case hy110 =>
    intro w hSw
    (try dsimp only at hSw)
    go_simp
    (try with_reducible rfl)
  (try simp only [Act.put, List.setIfInBounds_toArray, List.set_cons_zero, List.set_cons_succ])
  refine wpAnyH_take (i := 6) (oi := ?oi111) (v := ?v111) ?hi111 (by kernel_rfl) (by kernel_rfl) (by kernel_rfl) (fun _ _ _ h => h) (Or.inl ⟨?hw111, ?hy111⟩) (by assumption) ?rest111
  case hi111 => simp only [List.getElem?_toArray, List.getElem?_cons_succ, List.getElem?_cons_zero]; rfl
  case hw111 => rfl
  case hy111 =>
    intro w hSw
    (try dsimp only at hSw)
    go_simp
    (try with_reducible rfl)
  (try simp only [Act.put, List.setIfInBounds_toArray, List.set_cons_zero, List.set_cons_succ])
  refine wpAnyH_take (i := 7) (oi := ?oi112) (v := ?v112) ?hi112 (by kernel_rfl) (by kernel_rfl) (by kernel_rfl) (fun _ _ _ h => h) (Or.inl ⟨?hw112, ?hy112⟩) (by assumption) ?rest112
  case hi112 => simp only [List.getElem?_toArray, List.getElem?_cons_succ, List.getElem?_cons_zero]; rfl
  case hw112 => rfl
  case hy112 =>
    intro w hSw
    (try dsimp only at hSw)
    go_simp
    (try with_reducible rfl)
  (try simp only [Act.put, List.setIfInBounds_toArray, List.set_cons_zero, List.set_cons_succ])
  refine wpAnyH_take (i := 8) (oi := ?oi113) (v := ?v113) ?hi113 (by kernel_rfl) (by kernel_rfl) (by kernel_rfl) (fun _ _ _ h => h) (Or.inl ⟨?hw113, ?hy113⟩) (by assumption) ?rest113
  case hi113 => simp only [List.getElem?_toArray, List.getElem?_cons_succ, List.getElem?_cons_zero]; rfl
  case hw113 => rfl
  case hy113 =>
    intro w hSw
    (try dsimp only at hSw)
    go_simp
    (try with_reducible rfl)
  (try simp only [Act.put, List.setIfInBounds_toArray, List.set_cons_zero, List.set_cons_succ])
  refine wpAnyH_take (i := 9) (oi := ?oi114) (v := ?v114) ?hi114 (by kernel_rfl) (by kernel_rfl) (by kernel_rfl) (fun _ _ _ h => h) (Or.inl ⟨?hw114, ?hy114⟩) (by assumption) ?rest114
  case hi114 => simp only [List.getElem?_toArray, List.getElem?_cons_succ, List.getElem?_cons_zero]; rfl
  case hw114 => rfl
  case hy114 =>
    intro w hSw
    (try dsimp only at hSw)
    go_simp
    (try with_reducible rfl)
  (try simp only [Act.put, List.setIfInBounds_toArray, List.set_cons_zero, List.set_cons_succ])
  refine wpAnyH_take (i := 10) (oi := ?oi115) (v := ?v115) ?hi115 (by kernel_rfl) (by kernel_rfl) (by kernel_rfl) (fun _ _ _ h => h) (Or.inl ⟨?hw115, ?hy115⟩) (by assumption) ?rest115
  case hi115 => simp only [List.getElem?_toArray, List.getElem?_cons_succ, List.getElem?_cons_zero]; rfl
  case hw115 => rfl
  case hy115 =>
    intro w hSw
    (try dsimp only at hSw)
    go_simp
    (try with_reducible rfl)
  (try simp only [Act.put, List.setIfInBounds_toArray, List.set_cons_zero, List.set_cons_succ])
  refine wpAnyH_take (i := 11) (oi := ?oi116) (v := ?v116) ?hi116 (by kernel_rfl) (by kernel_rfl) (by kernel_rfl) (fun _ _ _ h => h) (Or.inl ⟨?hw116, ?hy116⟩) (by assumption) ?rest116
  case hi116 => simp only [List.getElem?_toArray, List.getElem?_cons_succ, List.getElem?_cons_zero]; rfl
  case hw116 => rfl
  case hy116 =>
    intro w hSw
    (try dsimp only at hSw)
    go_simp
    (try with_reducible rfl)
  (try simp only [Act.put, List.setIfInBounds_toArray, List.set_cons_zero, List.set_cons_succ])
  refine wpAnyH_take (i := 12) (oi := ?oi117) (v := ?v117) ?hi117 (by kernel_rfl) (by kernel_rfl) (by kernel_rfl) (fun _ _ _ h => h) (Or.inl ⟨?hw117, ?hy117⟩) (by assumption) ?rest117
  case hi117 => simp only [List.getElem?_toArray, List.getElem?_cons_succ, List.getElem?_cons_zero]; rfl
  case hw117 => rfl
  case hy117 =>
    intro w hSw
    (try dsimp only at hSw)
    go_simp
    (try with_reducible rfl)
  (try simp only [Act.put, List.setIfInBounds_toArray, List.set_cons_zero, List.set_cons_succ])
  refine wpAnyH_take (i := 13) (oi := ?oi118) (v := ?v118) ?hi118 (by kernel_rfl) (by kernel_rfl) (by kernel_rfl) (fun _ _ _ h => h) (Or.inl ⟨?hw118, ?hy118⟩) (by assumption) ?rest118
  case hi118 => simp only [List.getElem?_toArray, List.getElem?_cons_succ, List.getElem?_cons_zero]; rfl
  case hw118 => rfl
  case hy118 =>
    intro w hSw
    (try dsimp only at hSw)
    go_simp
    (try with_reducible rfl)
  (try simp only [Act.put, List.setIfInBounds_toArray, List.set_cons_zero, List.set_cons_succ])
  refine wpAnyH_take (i := 14) (oi := ?oi119) (v := ?v119) ?hi119 (by kernel_rfl) (by kernel_rfl) (by kernel_rfl) (fun _ _ _ h => h) (Or.inl ⟨?hw119, ?hy119⟩) (by assumption) ?rest119
  case hi119 => simp only [List.getElem?_toArray, List.getElem?_cons_succ, List.getElem?_cons_zero]; rfl
  case hw119 => rfl
  case hy119 =>
    intro w hSw
    (try dsimp only at hSw)
    go_simp
    (try with_reducible rfl)
  (try simp only [Act.put, List.setIfInBounds_toArray, List.set_cons_zero, List.set_cons_succ])
  refine wpAnyH_take (i := 15) (oi := ?oi120) (v := undef) ?hi120 (by kernel_rfl) (by kernel_rfl) (by kernel_rfl) (fun _ _ _ h => h) (Or.inr ⟨?hw120, rfl⟩) (by assumption) ?rest120
  case hi120 => simp only [List.getElem?_toArray, List.getElem?_cons_succ, List.getElem?_cons_zero]; rfl
  case hw120 => rfl
  (try simp only [Act.put, List.setIfInBounds_toArray, List.set_cons_zero, List.set_cons_succ])
  refine wpAnyH_take (i := 16) (oi := ?oi121) (v := undef) ?hi121 (by kernel_rfl) (by kernel_rfl) (by kernel_rfl) (fun _ _ _ h => h) (Or.inr ⟨?hw121, rfl⟩) (by assumption) ?rest121
  case hi121 => simp only [List.getElem?_toArray, List.getElem?_cons_succ, List.getElem?_cons_zero]; rfl
  case hw121 => rfl
  (try simp only [Act.put, List.setIfInBounds_toArray, List.set_cons_zero, List.set_cons_succ])
  refine wpAnyH_take (i := 17) (oi := ?oi122) (v := undef) ?hi122 (by kernel_rfl) (by kernel_rfl) (by kernel_rfl) (fun _ _ _ h => h) (Or.inr ⟨?hw122, rfl⟩) (by assumption) ?rest122
  case hi122 => simp only [List.getElem?_toArray, List.getElem?_cons_succ, List.getElem?_cons_zero]; rfl
  case hw122 => rfl
  (try simp only [Act.put, List.setIfInBounds_toArray, List.set_cons_zero, List.set_cons_succ])
  refine wpAnyH_take (i := 18) (oi := ?oi123) (v := undef) ?hi123 (by kernel_rfl) (by kernel_rfl) (by kernel_rfl) (fun _ _ _ h => h) (Or.inr ⟨?hw123, rfl⟩) (by assumption) ?rest123
  case hi123 => simp only [List.getElem?_toArray, List.getElem?_cons_succ, List.getElem?_cons_zero]; rfl
  case hw123 => rfl
  (try simp only [Act.put, List.setIfInBounds_toArray, List.set_cons_zero, List.set_cons_succ])
  refine wpAnyH_take (i := 19) (oi := ?oi124) (v := undef) ?hi124 (by kernel_rfl) (by kernel_rfl) (by kernel_rfl) (fun _ _ _ h => h) (Or.inr ⟨?hw124, rfl⟩) (by assumption) ?rest124
  case hi124 => simp only [List.getElem?_toArray, List.getElem?_cons_succ, List.getElem?_cons_zero]; rfl
  case hw124 => rfl
  (try simp only [Act.put, List.setIfInBounds_toArray, List.set_cons_zero, List.set_cons_succ])
  refine wpAnyH_take (i := 20) (oi := ?oi125) (v := undef) ?hi125 (by kernel_rfl) (by kernel_rfl) (by kernel_rfl) (fun _ _ _ h => h) (Or.inr ⟨?hw125, rfl⟩) (by assumption) ?rest125
  case hi125 => simp only [List.getElem?_toArray, List.getElem?_cons_succ, List.getElem?_cons_zero]; rfl
  case hw125 => rfl
  (try simp only [Act.put, List.setIfInBounds_toArray, List.set_cons_zero, List.set_cons_succ])
  refine wpAnyH_take (i := 21) (oi := ?oi126) (v := undef) ?hi126 (by kernel_rfl) (by kernel_rfl) (by kernel_rfl) (fun _ _ _ h => h) (Or.inr ⟨?hw126, rfl⟩) (by assumption) ?rest126
  case hi126 => simp only [List.getElem?_toArray, List.getElem?_cons_succ, List.getElem?_cons_zero]; rfl
  case hw126 => rfl
  (try simp only [Act.put, List.setIfInBounds_toArray, List.set_cons_zero, List.set_cons_succ])
  refine wpAnyH_take (i := 22) (oi := ?oi127) (v := undef) ?hi127 (by kernel_rfl) (by kernel_rfl) (by kernel_rfl) (fun _ _ _ h => h) (Or.inr ⟨?hw127, rfl⟩) (by assumption) ?rest127
  case hi127 => simp only [List.getElem?_toArray, List.getElem?_cons_succ, List.getElem?_cons_zero]; rfl
  case hw127 => rfl
  (try simp only [Act.put, List.setIfInBounds_toArray, List.set_cons_zero, List.set_cons_succ])
  refine wpAnyH_take (i := 23) (oi := ?oi128) (v := undef) ?hi128 (by kernel_rfl) (by kernel_rfl) (by kernel_rfl) (fun _ _ _ h => h) (Or.inr ⟨?hw128, rfl⟩) (by assumption) ?rest128
  case hi128 => simp only [List.getElem?_toArray, List.getElem?_cons_succ, List.getElem?_cons_zero]; rfl
  case hw128 => rfl
  (try simp only [Act.put, List.setIfInBounds_toArray, List.set_cons_zero, List.set_cons_succ])
  refine wpAnyH_take (i := 24) (oi := ?oi129) (v := ?v129) ?hi129 (by kernel_rfl) (by kernel_rfl) (by kernel_rfl) (fun _ _ _ h => h) (Or.inl ⟨?hw129, ?hy129⟩) (by assumption) ?rest129
  case hi129 => simp only [List.getElem?_toArray, List.getElem?_cons_succ, List.getElem?_cons_zero]; rfl
  case hw129 => rfl
  case hy129 =>
    intro w hSw
    (try dsimp only at hSw)
    go_simp
    (try with_reducible rfl)
  (try simp only [Act.put, List.setIfInBounds_toArray, List.set_cons_zero, List.set_cons_succ])
  refine wpAnyH_take (i := 25) (oi := ?oi130) (v := ?v130) ?hi130 (by kernel_rfl) (by kernel_rfl) (by kernel_rfl) (fun _ _ _ h => h) (Or.inl ⟨?hw130, ?hy130⟩) (by assumption) ?rest130
  case hi130 => simp only [List.getElem?_toArray, List.getElem?_cons_succ, List.getElem?_cons_zero]; rfl
  case hw130 => rfl
  case hy130 =>
    intro w hSw
    (try dsimp only at hSw)
    go_simp
    (try with_reducible rfl)
  (try simp only [Act.put, List.setIfInBounds_toArray, List.set_cons_zero, List.set_cons_succ])
  have E : Hid (Below y7.heap.size y7 y7.drew) := (Below.refl _ _).drew
  refine wpAnyH_done (by kernel_rfl) ?_ _
  refine NoPanic.normal ?_
  (try dsimp only [Exit.then])
  have D := Lib.hid (chain D.out E.out)
  have T9 := Lib.hid (T9.out.next E.out)
  have T10 := Lib.hid (T10.out.next E.out)
  have T12 := Lib.hid (T12.out.next E.out)
  have T14 := Lib.hid (T14.out.next E.out)
  obtain ⟨y9, hy9⟩ : ∃ y9 : World, y9 = y7.drew := ⟨_, rfl⟩
  rw [← hy9] at D T9 T10 T12 T14
  rw [← hy9]
  clear hy9 E k12a k12b k12c k12d hHeld
  obtain ⟨⟨k9a, k9b, k9c, k9d⟩, _⟩ := T9.out
  obtain ⟨k14a, k14b, _⟩ := T14.out
  go_wp2_with fail
  refine (H_rv.out _).mono ?_
  rintro e y11 ⟨rfl, b9⟩
  have E := Lib.hid b9
  have D := Lib.hid (chain D.out E.out)
  have T9 := Lib.hid (T9.out.next E.out)
  have T10 := Lib.hid (T10.out.next E.out)
  have T12 := Lib.hid (T12.out.next E.out)
  have T14 := Lib.hid (T14.out.next E.out)
  clear b9 E k9a k9b k9c k9d k14a k14b
  obtain ⟨k0, k1, _⟩ := I1.out.next D.out
  obtain ⟨k2, k3, _⟩ := I2.out.next D.out
  obtain ⟨k14a, k14b, _⟩ := T14.out
  go_wp2_with fail
  refine (H_val.out _ _ (WL.two _ _ _ _ _ _)).mono ?_
  rintro e yv ⟨rfl, b9⟩
  have E := Lib.hid (chain (below_one _ _) b9)
  have D := Lib.hid (chain D.out E.out)
  have T9 := Lib.hid (T9.out.next E.out)
  have T10 := Lib.hid (T10.out.next E.out)
  have T12 := Lib.hid (T12.out.next E.out)
  have T14 := Lib.hid (T14.out.next E.out)
  clear b9 E k14a k14b
  clear k0 k1 k2 k3
  obtain ⟨k0, k1, _⟩ := I1.out.next D.out
  obtain ⟨k2, k3, _⟩ := I2.out.next D.out
  have HSB : Hid (w.heap.size + 3 ≤ yv.heap.size) := Nat.le_trans Hsz.out D.out.size
  go_upto_region 17 with (fail)
  obtain ⟨jba, jbb, jbc, jbd, jbe, jbf, jbg, jbh⟩ := far7 HSB.out
  go_cut [16, 17] (fun s7 s8 wx => ∃ (g7 g8 : Nat) (y1 y2 : Option Addr) (n1 c1 n2 c2 : Nat), s7 = .pointer (some ⟨g7, 0, none⟩) ∧ s8 = .pointer (some ⟨g8, 0, none⟩) ∧ Hid (CutI (.bool bx) (.bool by') (.slice y1 n1 c1) (.slice y2 n2 c2) (Nm.dg D9 x.natAbs) (Nm.dg D9 y'.natAbs) yv.heap.size yv wx g7 g8))
  case first =>
    rename_i J0 K0 hRJ hMK
    go_region_held3 (fun W' => W'.cell? ⟨w.heap.size, 0, none⟩ = some (.bool a) ∧ W'.cell? ⟨w.heap.size, 1, none⟩ = some (.string s) ∧ W'.cell? ⟨w.heap.size + 1, 0, none⟩ = some (.bool b) ∧ W'.cell? ⟨w.heap.size + 1, 1, none⟩ = some (.string t)) (go_keep)
      (first
        | (go_at_call 18; (with_reducible refine (H_from.out _).mono ?_); rintro e w1 ⟨v1, rfl, r1, b1⟩; (try (have b1 := undrew b1)); have d1 : Below yv.heap.size yv w1 := chain (by first | exact Below.refl _ _ | exact (Below.refl _ _).drew | exact below_one _ _ | exact below_two _ _ _ | exact ((Below.refl _ _).drew).alloc (Nat.le_refl _) _ | exact (((Below.refl _ _).drew).alloc (Nat.le_refl _) _).alloc (by simp) _) b1; have c1 : Below yv.heap.size yv w1 := d1; have p0 := keep1 c1 k0; have p1 := keep1 c1 k1; have p2 := keep1 c1 k2; have p3 := keep1 c1 k3; obtain ⟨j1a, j1b, j1c, j1d, j1e, j1f, j1g, j1h⟩ := far7 (show w.heap.size + 3 ≤ w1.heap.size from Nat.le_trans HSB.out c1.size); (try (have A0 := Lib.hid (ZC.made (g := yv.heap.size) rfl b1); obtain ⟨A0a, A0b, A0c, A0d⟩ := A0.out)); (try (have A0 := Lib.hid (ZC.made1 (g := yv.heap.size) rfl b1); have B0 := Lib.hid (ZC.made (g := yv.heap.size + 1) (by simp) b1); obtain ⟨A0a, A0b, A0c, A0d⟩ := A0.out; obtain ⟨B0a, B0b, B0c, B0d⟩ := B0.out)); (try (have L01 := Lib.hid (apart_b (g := yv.heap.size) rfl b1); obtain ⟨l01x, l01y, l01z⟩ := L01.out)); (try (have MM := Lib.hid (apart_b2 (g := yv.heap.size) rfl b1); have L01 := Lib.hid MM.out.1; have M01 := Lib.hid MM.out.2; clear MM; obtain ⟨l01x, l01y, l01z⟩ := L01.out; obtain ⟨m01x, m01y, m01z⟩ := M01.out)); have G1 := Lib.hid r1; obtain ⟨pp1, bb1, oo1, cc1, rfl, rr1⟩ := r1; clear rr1)
        | (go_at_call 18; (with_reducible refine (H_from2.out _).mono ?_); rintro e w2 ⟨v2, rfl, r2, b2⟩; (try (have b2 := undrew b2)); have d2 : Below w1.heap.size w1 w2 := chain (by first | exact Below.refl _ _ | exact (Below.refl _ _).drew | exact below_one _ _ | exact below_two _ _ _ | exact ((Below.refl _ _).drew).alloc (Nat.le_refl _) _ | exact (((Below.refl _ _).drew).alloc (Nat.le_refl _) _).alloc (by simp) _) b2; have c2 : Below yv.heap.size yv w2 := chain c1 d2; have p0 := keep1 c2 k0; have p1 := keep1 c2 k1; have p2 := keep1 c2 k2; have p3 := keep1 c2 k3; obtain ⟨j2a, j2b, j2c, j2d, j2e, j2f, j2g, j2h⟩ := far7 (show w.heap.size + 3 ≤ w2.heap.size from Nat.le_trans HSB.out c2.size); (try (have A1 := Lib.hid (ZC.made (g := w1.heap.size) rfl b2); obtain ⟨A1a, A1b, A1c, A1d⟩ := A1.out)); (try (have A1 := Lib.hid (ZC.made1 (g := w1.heap.size) rfl b2); have B1 := Lib.hid (ZC.made (g := w1.heap.size + 1) (by simp) b2); obtain ⟨A1a, A1b, A1c, A1d⟩ := A1.out; obtain ⟨B1a, B1b, B1c, B1d⟩ := B1.out)); (try (have A0 := Lib.hid (A0.out.next d2); obtain ⟨A0a, A0b, A0c, A0d⟩ := A0.out)); (try (have B0 := Lib.hid (B0.out.next d2); obtain ⟨B0a, B0b, B0c, B0d⟩ := B0.out)); (try (have L02 := Lib.hid (apart_t L01.out d2.size); obtain ⟨l02x, l02y, l02z⟩ := L02.out)); (try (have M02 := Lib.hid (apart_t M01.out d2.size); obtain ⟨m02x, m02y, m02z⟩ := M02.out)); (try (have L12 := Lib.hid (apart_b (g := w1.heap.size) rfl b2); obtain ⟨l12x, l12y, l12z⟩ := L12.out)); (try (have MM := Lib.hid (apart_b2 (g := w1.heap.size) rfl b2); have L12 := Lib.hid MM.out.1; have M12 := Lib.hid MM.out.2; clear MM; obtain ⟨l12x, l12y, l12z⟩ := L12.out; obtain ⟨m12x, m12y, m12z⟩ := M12.out)); have G2 := Lib.hid (And.intro (Ri.below G1.out d2 (Nat.le_refl _)) r2); obtain ⟨pp2, bb2, oo2, cc2, rfl, rr2⟩ := r2; clear rr2)
        | fail)
    all_goals
      obtain ⟨r1, r2⟩ := G2.out
      refine hMK _ _ (Met.intro (hRJ _ _ ?_))
      (repeat apply Exists.intro)
      refine ⟨?_, rfl⟩
      refine ⟨_, _, pp1, pp2, (Nm.dg D9 x.natAbs).length, cc1, (Nm.dg D9 y'.natAbs).length, cc2, rfl, rfl, ?_⟩
      show CutI (.bool bx) (.bool by') (.slice pp1 _ cc1) (.slice pp2 _ cc2) (Nm.dg D9 x.natAbs) (Nm.dg D9 y'.natAbs) yv.heap.size yv _ _ _
      have sA0 : yv.heap.size ≤ yv.heap.size := Nat.le_refl _
      have sB0 : yv.heap.size ≤ yv.heap.size + 1 := Nat.le_succ _
      have sA1 : yv.heap.size ≤ w1.heap.size := c1.size
      have sB1 : yv.heap.size ≤ w1.heap.size + 1 := Nat.le_succ_of_le sA1
      have sA2 : yv.heap.size ≤ w2.heap.size := c2.size
      have n0 : ¬ yv.heap.size = yv.heap.size + 1 := Nat.ne_of_lt (Nat.lt_succ_self _)
      have n1 : ¬ w1.heap.size = w1.heap.size + 1 := Nat.ne_of_lt (Nat.lt_succ_self _)
      have m0 : ¬ yv.heap.size + 1 = yv.heap.size := fun e => n0 e.symm
      have m1 : ¬ w1.heap.size + 1 = w1.heap.size := fun e => n1 e.symm
      first
        | with_reducible exact CutI.s1 r1 r2 c2 sA2
        | with_reducible exact CutI.s2 r1 r2 c2 sA2
        | with_reducible exact CutI.s3 A0.out sA0 r1 r2 c2 sA2
        | with_reducible exact CutI.s4 A0.out sA0 r1 r2 c2 sA2
        | with_reducible exact CutI.s3 A1.out sA1 r1 r2 c2 sA2
        | with_reducible exact CutI.s4 A1.out sA1 r1 r2 c2 sA2
        | with_reducible exact CutI.s3 B0.out sB0 r1 r2 c2 sA2
        | with_reducible exact CutI.s4 B0.out sB0 r1 r2 c2 sA2
        | with_reducible exact CutI.s3 B1.out sB1 r1 r2 c2 sA2
        | with_reducible exact CutI.s4 B1.out sB1 r1 r2 c2 sA2
        | with_reducible exact CutI.s5 A0.out sA0 B0.out sB0 n0 r1 r2 c2
        | with_reducible exact CutI.s5 B0.out sB0 A0.out sA0 m0 r1 r2 c2
        | with_reducible exact CutI.s5 A1.out sA1 B1.out sB1 n1 r1 r2 c2
        | with_reducible exact CutI.s5 B1.out sB1 A1.out sA1 m1 r1 r2 c2
        | with_reducible exact CutI.s5 A0.out sA0 A1.out sA1 l01x r1 r2 c2
        | with_reducible exact CutI.s5 A1.out sA1 A0.out sA0 l01y r1 r2 c2
        | fail
  obtain ⟨g7, g8, y1', y2', n1, c1, n2, c2, rfl, rfl, hcut⟩ := hcut
  obtain ⟨_, T11, T12, R1, R2, bxx⟩ := hcut.out
  have D := Lib.hid (chain D.out bxx)
  have T10 := Lib.hid (T10.out.next bxx)
  have T14 := Lib.hid (T14.out.next bxx)
  have R1 := Lib.hid R1
  have R2 := Lib.hid R2
  have T16 := Lib.hid T11
  have T17 := Lib.hid T12
  obtain ⟨y17, hy17⟩ : ∃ y : World, y = wc := ⟨_, rfl⟩
  subst hy17
  clear bxx hcut HSB jba jbb jbc jbd jbe jbf jbg jbh k0 k1 k2 k3 T9 T11 T12
  obtain ⟨k17a, k17b, _⟩ := T17.out
  go_wp2_with fail
  refine (H_sg.out _ _ R2.out).mono ?_
  rintro e y18 ⟨rfl, b9⟩
  have E := Lib.hid b9
  have D := Lib.hid (chain D.out E.out)
  have T10 := Lib.hid (T10.out.next E.out)
  have T14 := Lib.hid (T14.out.next E.out)
  have T16 := Lib.hid (T16.out.next E.out)
  have T17 := Lib.hid (T17.out.next E.out)
  have R1 := Lib.hid (Ri.below R1.out E.out (Nat.le_refl _))
  have R2 := Lib.hid (Ri.below R2.out E.out (Nat.le_refl _))
  clear b9 E k17a k17b
  go_upto_region 22 with (fail)
  obtain ⟨⟨k10a, k10b, k10c, k10d⟩, _⟩ := T10.out
  obtain ⟨k16a, k16b, _⟩ := T16.out
  obtain ⟨k17a, k17b, _⟩ := T17.out
  go_region_held3 (fun W' => W'.cell? ⟨y10.heap.size, 0, none⟩ = some (.bool xa) ∧ W'.cell? ⟨y10.heap.size, 1, none⟩ = some (.string sa) ∧ W'.cell? ⟨y10.heap.size, 2, none⟩ = some (.bool xb) ∧ W'.cell? ⟨y10.heap.size, 3, none⟩ = some (.string sb) ∧ W'.cell? ⟨g7, 0, none⟩ = some (.bool bx) ∧ W'.cell? ⟨g7, 1, none⟩ = some ((.slice y1' n1 c1)) ∧ W'.cell? ⟨g8, 0, none⟩ = some (.bool by') ∧ W'.cell? ⟨g8, 1, none⟩ = some ((.slice y2' n2 c2))) (go_keep)
    (first
      | (go_at_call 15; (with_reducible refine (H_lo2.out _ _ _ (by first | exact R1.out | exact Ri.drew R1.out) (by first | exact R2.out | exact Ri.drew R2.out)).mono ?_); rintro e y ⟨v7, v8, rfl, r7, r8, b9⟩; have E := Lib.hid (show Below y18.heap.size y18 y by first | exact chain E.out b9 | exact chain ((Below.refl _ _).drew) b9); have pk10a := keep1 E.out k10a; have pk10b := keep1 E.out k10b; have pk10c := keep1 E.out k10c; have pk10d := keep1 E.out k10d; have pk16a := keep1 E.out k16a; have pk16b := keep1 E.out k16b; have pk17a := keep1 E.out k17a; have pk17b := keep1 E.out k17b; have G7 := Lib.hid r7; have G8 := Lib.hid r8; obtain ⟨pp7, bb7, oo7, cc7, rfl, rr7⟩ := r7; obtain ⟨pp8, bb8, oo8, cc8, rfl, rr8⟩ := r8; clear rr7 rr8 b9)
      | (go_at_call 14; (with_reducible refine (H_sa2.out _ _ _ G7.out G8.out).mono ?_); rintro e y ⟨rfl, b9⟩; have E := Lib.hid (show Below y18.heap.size y18 y by first | exact chain E.out b9 | exact chain ((Below.refl _ _).drew) b9); have pk10a := keep1 E.out k10a; have pk10b := keep1 E.out k10b; have pk10c := keep1 E.out k10c; have pk10d := keep1 E.out k10d; have pk16a := keep1 E.out k16a; have pk16b := keep1 E.out k16b; have pk17a := keep1 E.out k17a; have pk17b := keep1 E.out k17b; clear b9)
      | (go_at_call 8; (with_reducible refine (H_known.out _).mono ?_); rintro e y ⟨rfl, b9⟩; have E := Lib.hid (show Below y18.heap.size y18 y by first | exact chain E.out b9 | exact chain ((Below.refl _ _).drew) b9); have pk10a := keep1 E.out k10a; have pk10b := keep1 E.out k10b; have pk10c := keep1 E.out k10c; have pk10d := keep1 E.out k10d; have pk16a := keep1 E.out k16a; have pk16b := keep1 E.out k16b; have pk17a := keep1 E.out k17a; have pk17b := keep1 E.out k17b; clear b9)
      | fail)
  have HZ := Lib.hid (chain hb0.out (chain D.out E.out))
  go_wp2
  go_ret
  exact ⟨rfl, HZ.out⟩

set_option maxRecDepth 100000 in
set_option maxHeartbeats 8000000 in
theorem ratios_neg_d1 (a b : Bool) (s t : ByteArray) (n d : Int) (w : World) (l1 : s.size ≤ 60) (l2 : t.size ≤ 60) (hsh : shortL [(a, s), (b, t)] = true) (hvl : validL [(a, s), (b, t)] = true) (h0 : 0 < t.size) (hd : ¬ d = 0) (ya yb : Bool) (ta tb : ByteArray) (q1 q2 : Int) (xa xb : Bool) (sa sb : ByteArray) (x y' z1 z2 : Int)
    (h_ra : ∀ w, Calls Tryz.prog 9 #[.agg #[.bool a, .string s], .agg #[.bool b, .string t]] w fun e w' => e = .returned (.tuple #[.agg #[.bool xa, .string sa, .bool xb, .string sb], .int .i64 0]) ∧ Below w.heap.size w w')
    (h_ro : ∀ w, Calls Tryz.prog 10 #[.int .i64 n, .int .i64 d] w fun e w' => e = .returned (.tuple #[.agg #[.bool ya, .string ta, .bool yb, .string tb], .int .i64 0]) ∧ Below w.heap.size w w')
    (h_fl : ∀ w, Calls Tryz.prog 11 #[.agg #[.bool a, .string s, .bool b, .string t]] w fun e w' => e = .returned (.tuple #[.agg #[.bool false, .string ⟨#[]⟩], .int .i64 2]) ∧ Below w.heap.size w w')
    (h_vr : ∀ w, Calls Tryz.prog 12 #[.agg #[.bool a, .string s, .bool b, .string t]] w fun e w' => e = .returned (.bool false) ∧ Below w.heap.size w w')
    (h_rv : ∀ w, Calls Tryz.prog 13 #[.agg #[.bool a, .string s, .bool b, .string t]] w fun e w' => e = .returned (.bool false) ∧ Below w.heap.size w w')
    (h_n1 : ∀ w, Calls Tryz.prog 16 #[.int .i64 n] w (IntPost n w))
    (h_n2 : ∀ w, Calls Tryz.prog 16 #[.int .i64 d] w (IntPost d w))
    (h_lo1 : ∀ v1 v2 w, Rz w v1 n → Rz w v2 d → Calls Tryz.prog 15 #[iV n v1, iV d v2] w (RQPost q1 q2 w))
    (h_sa1 : ∀ v1 v2 w, Rz w v1 q1 → Rz w v2 q2 → Calls Tryz.prog 14 #[.agg #[.bool ya, .string ta, .bool yb, .string tb], .int .i64 0, qV q1 q2 v1 v2] w fun e w' => e = .returned (.bool true) ∧ Below w.heap.size w w')
    (h_from : ∀ w, Calls Tryz.prog 18 #[.agg #[.bool a, .string s]] w (IntPost x w))
    (h_from2 : ∀ w, Calls Tryz.prog 18 #[.agg #[.bool b, .string t]] w (IntPost y' w))
    (h_sg : ∀ v w, Rz w v y' → Calls Tryz.prog 19 #[iV y' v] w (SignPost (-1) w))
    (h_lo2 : ∀ v1 v2 w, Rz w v1 x → Rz w v2 y' → Calls Tryz.prog 15 #[iV x v1, iV y' v2] w (RQPost z1 z2 w))
    (h_sa2 : ∀ v1 v2 w, Rz w v1 z1 → Rz w v2 z2 → Calls Tryz.prog 14 #[.agg #[.bool xa, .string sa, .bool xb, .string sb], .int .i64 0, qV z1 z2 v1 v2] w fun e w' => e = .returned (.bool true) ∧ Below w.heap.size w w') :
    Calls Tryz.prog 3 #[.agg #[.bool a, .string s], .agg #[.bool b, .string t], .int .i64 n, .int .i64 d] w (Ret (.bool true) w) := by
  have hd2 : (d == 0) = false := by simp [hd]
  have hd3 : (d != 0) = true := by simp [hd]
  have H_ra := Lib.hid h_ra
  have H_ro := Lib.hid h_ro
  have H_fl := Lib.hid h_fl
  have H_vr := Lib.hid h_vr
  have H_rv := Lib.hid h_rv
  have H_n1 := Lib.hid h_n1
  have H_n2 := Lib.hid h_n2
  have H_lo1 := Lib.hid h_lo1
  have H_sa1 := Lib.hid h_sa1
  have H_from := Lib.hid h_from
  have H_from2 := Lib.hid h_from2
  have H_sg := Lib.hid h_sg
  have H_lo2 := Lib.hid h_lo2
  have H_sa2 := Lib.hid h_sa2
  clear h_ra h_ro h_fl h_vr h_rv h_n1 h_n2 h_lo1 h_sa1 h_from h_from2 h_sg h_lo2 h_sa2
  unfold IntPost at H_n1 H_n2 H_from H_from2
  unfold RQPost at H_lo1 H_lo2
  unfold qV at H_lo1 H_sa1 H_lo2 H_sa2
  unfold SignPost at H_sg
  unfold iV at H_n1 H_n2 H_lo1 H_from H_from2 H_sg H_lo2
  generalize decide (n < 0) = bn at *
  generalize decide (d < 0) = bd at *
  generalize decide (q1 < 0) = bq1 at *
  generalize decide (q2 < 0) = bq2 at *
  generalize decide (x < 0) = bx at *
  generalize decide (y' < 0) = by' at *
  generalize decide (z1 < 0) = bz1 at *
  generalize decide (z2 < 0) = bz2 at *
  have H_known := Lib.hid known_true
  obtain ⟨w0, hw0⟩ : ∃ w0 : World, w0 = ((w.alloc (.cells #[.bool a, .string s] 23)).alloc (.cells #[.bool b, .string t] 23)).alloc (.cells #[.bool a, .string s, .bool b, .string t] 23) := ⟨_, rfl⟩
  have hb0 : Hid (Below w.heap.size w w0) := by rw [hw0]; exact (((Below.refl _ _).alloc (Nat.le_refl _) _).alloc (by simp) _).alloc (by simp; omega) _
  have I1 : Hid (ZC (.bool a) (.string s) w0 w.heap.size) := by rw [hw0]; exact ((ZC.new rfl).alloc _).alloc _
  have I2 : Hid (ZC (.bool b) (.string t) w0 (w.heap.size + 1)) := by rw [hw0]; exact (ZC.new (by simp)).alloc _
  have Hsz : Hid (w.heap.size + 3 ≤ w0.heap.size) := by rw [hw0]; show _ ≤ _; simp
  have HSH := short_any [(a, s), (b, t)] 2 (w.heap.size + 1 + 1) w0 rfl (by decide) (by rw [hw0]; have := WL.two ((w.alloc (.cells #[.bool a, .string s] 23)).alloc (.cells #[.bool b, .string t] 23)) a b s t 23; simpa using this)
  rw [hsh] at HSH
  have H_val := Lib.hid (fun g w h => valid_any [(a, s), (b, t)] 2 g w rfl (by decide) h (by intro x hx; simp at hx; rcases hx with rfl | rfl <;> (show _ ≤ _; simp; omega)))
  rw [hvl] at H_val
  unfold BPost at H_val
  clear hvl
  have HSh := Lib.hid HSH
  have Hw0 := Lib.hid hw0
  clear HSH hw0 hsh
  unfold Ret at *
  unfold BPost at HSh
  go_enter Tryz.func3, Tryz.ntmps3
  go_wp2_with fail
  rw [← Hw0.out]
  refine HSh.out.mono ?_
  rintro e x0 ⟨rfl, b0⟩
  have D := Lib.hid b0
  clear b0
  obtain ⟨k0, k1, _⟩ := I1.out.next D.out
  obtain ⟨k2, k3, _⟩ := I2.out.next D.out
  have b9 := Below.refl x0.heap.size x0
  have j1 : ¬ w.heap.size = x0.heap.size := Nat.ne_of_lt (World.block_lt_of_cell? _ _ k0)
  have j2 : ¬ w.heap.size + 1 = x0.heap.size := Nat.ne_of_lt (World.block_lt_of_cell? _ _ k2)
  obtain ⟨u9, hu9⟩ : ∃ u : World, u = x0.alloc (.cells #[.bool a, .string s, .bool b, .string t] 27) := ⟨_, rfl⟩
  have E : Hid (Below x0.heap.size x0 u9) := by rw [hu9]; exact b9.alloc b9.size _
  have D := Lib.hid (chain D.out E.out)
  have T9 : Hid (ZC4 (.bool a) (.string s) (.bool b) (.string t) u9 x0.heap.size) := by rw [hu9]; exact ZC4.made0 _
  have Hu9 := Lib.hid hu9
  clear hu9 b9 E
  go_upto_region 4 with (fail)
  rw [← Hu9.out]
  clear Hu9
  clear j1 j2
  clear k0 k1 k2 k3
  obtain ⟨k0, k1, _⟩ := I1.out.next D.out
  obtain ⟨k2, k3, _⟩ := I2.out.next D.out
  go_wp2_with fail
  refine (H_ra.out _).mono ?_
  rintro e y10 ⟨rfl, b9⟩
  obtain ⟨u10, hu10⟩ : ∃ u : World, u = y10.alloc (.cells #[.bool xa, .string sa, .bool xb, .string sb] 27) := ⟨_, rfl⟩
  have E : Hid (Below u9.heap.size u9 u10) := by rw [hu10]; exact b9.alloc b9.size _
  have D := Lib.hid (chain D.out E.out)
  have T9 := Lib.hid (T9.out.next E.out)
  have T10 : Hid (ZC4 (.bool xa) (.string sa) (.bool xb) (.string sb) u10 y10.heap.size) := by rw [hu10]; exact ZC4.made0 _
  have Hu10 := Lib.hid hu10
  clear hu10 b9 E
  go_upto_region 5 with (fail)
  rw [← Hu10.out]
  clear Hu10
  clear k0 k1 k2 k3
  go_wp2_with fail
  refine (H_ro.out _).mono ?_
  rintro e y12 ⟨rfl, b9⟩
  obtain ⟨u12, hu12⟩ : ∃ u : World, u = y12.alloc (.cells #[.bool ya, .string ta, .bool yb, .string tb] 27) := ⟨_, rfl⟩
  have E : Hid (Below u10.heap.size u10 u12) := by rw [hu12]; exact b9.alloc b9.size _
  have D := Lib.hid (chain D.out E.out)
  have T9 := Lib.hid (T9.out.next E.out)
  have T10 := Lib.hid (T10.out.next E.out)
  have T12 : Hid (ZC4 (.bool ya) (.string ta) (.bool yb) (.string tb) u12 y12.heap.size) := by rw [hu12]; exact ZC4.made0 _
  have Hu12 := Lib.hid hu12
  clear hu12 b9 E
  go_upto_region 6 with (fail)
  rw [← Hu12.out]
  clear Hu12
  obtain ⟨⟨k9a, k9b, k9c, k9d⟩, _⟩ := T9.out
  go_wp2_with fail
  refine (H_fl.out _).mono ?_
  rintro e y14 ⟨rfl, b9⟩
  clear k9a k9b k9c k9d
  obtain ⟨u14, hu14⟩ : ∃ u : World, u = y14.alloc (.cells #[.bool false, .string ⟨#[]⟩] 23) := ⟨_, rfl⟩
  have E : Hid (Below u12.heap.size u12 u14) := by rw [hu14]; exact b9.alloc b9.size _
  have D := Lib.hid (chain D.out E.out)
  have T9 := Lib.hid (T9.out.next E.out)
  have T10 := Lib.hid (T10.out.next E.out)
  have T12 := Lib.hid (T12.out.next E.out)
  have T14 : Hid (ZC (.bool false) (.string ⟨#[]⟩) u14 y14.heap.size) := by rw [hu14]; exact ZC.new rfl
  have Hu14 := Lib.hid hu14
  clear hu14 b9 E
  go_upto_region 7 with (fail)
  rw [← Hu14.out]
  clear Hu14
  obtain ⟨⟨k9a, k9b, k9c, k9d⟩, _⟩ := T9.out
  go_region_held3 (fun W' => W'.cell? ⟨x0.heap.size, 0, none⟩ = some (.bool a) ∧ W'.cell? ⟨x0.heap.size, 1, none⟩ = some (.string s) ∧ W'.cell? ⟨x0.heap.size, 2, none⟩ = some (.bool b) ∧ W'.cell? ⟨x0.heap.size, 3, none⟩ = some (.string t)) (go_keep)
    (first
      | (go_at_call 12; (with_reducible refine (H_vr.out _).mono ?_); rintro e y ⟨rfl, b9⟩; have E := Lib.hid (show Below u14.heap.size u14 y by first | exact chain E.out b9 | exact chain ((Below.refl _ _).drew) b9); have p9a := keep1 E.out k9a; have p9b := keep1 E.out k9b; have p9c := keep1 E.out k9c; have p9d := keep1 E.out k9d; clear b9)
      | (go_at_call 13; (with_reducible refine (H_rv.out _).mono ?_); rintro e y ⟨rfl, b9⟩; have E := Lib.hid (show Below u14.heap.size u14 y by first | exact chain E.out b9 | exact chain ((Below.refl _ _).drew) b9); have p9a := keep1 E.out k9a; have p9b := keep1 E.out k9b; have p9c := keep1 E.out k9c; have p9d := keep1 E.out k9d; clear b9)
      | fail)
  have D := Lib.hid (chain D.out E.out)
  have T9 := Lib.hid (T9.out.next E.out)
  have T10 := Lib.hid (T10.out.next E.out)
  have T12 := Lib.hid (T12.out.next E.out)
  have T14 := Lib.hid (T14.out.next E.out)
  obtain ⟨y7, hy7⟩ : ∃ y7 : World, y7 = y := ⟨_, rfl⟩
  subst hy7
  clear E k9a k9b k9c k9d p9a p9b p9c p9d
  obtain ⟨⟨k12a, k12b, k12c, k12d⟩, _⟩ := T12.out
  go_upto_region 9 with (fail)
  refine wp_region_noPanic ?_
  refine wp_region_held_drew (S := (fun W' => W'.cell? ⟨y12.heap.size, 0, none⟩ = some (.bool ya) ∧ W'.cell? ⟨y12.heap.size, 1, none⟩ = some (.string ta) ∧ W'.cell? ⟨y12.heap.size, 2, none⟩ = some (.bool yb) ∧ W'.cell? ⟨y12.heap.size, 3, none⟩ = some (.string tb))) (by kernel_rfl) ?_ (fun hHeld => ?_)
  · exact ⟨k12a, k12b, k12c, k12d⟩
  refine wpAnyH_take (i := 0) (oi := ?oi131) (v := ?v131) ?hi131 (by kernel_rfl) (by kernel_rfl) (by kernel_rfl) (fun _ _ _ h => h) (Or.inl ⟨?hw131, ?hy131⟩) (by assumption) ?rest131
  case hi131 => simp only [List.getElem?_toArray, List.getElem?_cons_succ, List.getElem?_cons_zero]; rfl
  case hw131 => rfl
  case hy131 =>
    intro w hSw
    (try dsimp only at hSw)
    go_simp
    (try with_reducible rfl)
  (try simp only [Act.put, List.setIfInBounds_toArray, List.set_cons_zero, List.set_cons_succ])
  refine wpAnyH_take (i := 1) (oi := ?oi132) (v := ?v132) ?hi132 (by kernel_rfl) (by kernel_rfl) (by kernel_rfl) (fun _ _ _ h => h) (Or.inl ⟨?hw132, ?hy132⟩) (by assumption) ?rest132
  case hi132 => simp only [List.getElem?_toArray, List.getElem?_cons_succ, List.getElem?_cons_zero]; rfl
  case hw132 => rfl
  case hy132 =>
    intro w hSw
    (try dsimp only at hSw)
    go_simp
    (try with_reducible rfl)
  (try simp only [Act.put, List.setIfInBounds_toArray, List.set_cons_zero, List.set_cons_succ])
  refine wpAnyH_take (i := 2) (oi := ?oi133) (v := ?v133) ?hi133 (by kernel_rfl) (by kernel_rfl) (by kernel_rfl) (fun _ _ _ h => h) (Or.inl ⟨?hw133, ?hy133⟩) (by assumption) ?rest133
  case hi133 => simp only [List.getElem?_toArray, List.getElem?_cons_succ, List.getElem?_cons_zero]; rfl
  case hw133 => rfl
  case hy133 =>
    intro w hSw
    (try dsimp only at hSw)
    go_simp
    (try with_reducible rfl)
  (try simp only [Act.put, List.setIfInBounds_toArray, List.set_cons_zero, List.set_cons_succ])
  refine wpAnyH_take (i := 3) (oi := ?oi134) (v := undef) ?hi134 (by kernel_rfl) (by kernel_rfl) (by kernel_rfl) (fun _ _ _ h => h) (Or.inr ⟨?hw134, rfl⟩) (by assumption) ?rest134
  case hi134 => simp only [List.getElem?_toArray, List.getElem?_cons_succ, List.getElem?_cons_zero]; rfl
  case hw134 => rfl
  (try simp only [Act.put, List.setIfInBounds_toArray, List.set_cons_zero, List.set_cons_succ])
  refine wpAnyH_take (i := 4) (oi := ?oi135) (v := undef) ?hi135 (by kernel_rfl) (by kernel_rfl) (by kernel_rfl) (fun _ _ _ h => h) (Or.inr ⟨?hw135, rfl⟩) (by assumption) ?rest135
  case hi135 => simp only [List.getElem?_toArray, List.getElem?_cons_succ, List.getElem?_cons_zero]; rfl
  case hw135 => rfl
  (try simp only [Act.put, List.setIfInBounds_toArray, List.set_cons_zero, List.set_cons_succ])
  refine wpAnyH_take (i := 5) (oi := ?oi136) (v := undef) ?hi136 (by kernel_rfl) (by kernel_rfl) (by kernel_rfl) (fun _ _ _ h => h) (Or.inr ⟨?hw136, rfl⟩) (by assumption) ?rest136
  case hi136 => simp only [List.getElem?_toArray, List.getElem?_cons_succ, List.getElem?_cons_zero]; rfl
  case hw136 => rfl
  (try simp only [Act.put, List.setIfInBounds_toArray, List.set_cons_zero, List.set_cons_succ])
  refine wpAnyH_take (i := 6) (oi := ?oi137) (v := undef) ?hi137 (by kernel_rfl) (by kernel_rfl) (by kernel_rfl) (fun _ _ _ h => h) (Or.inr ⟨?hw137, rfl⟩) (by assumption) ?rest137
  case hi137 => simp only [List.getElem?_toArray, List.getElem?_cons_succ, List.getElem?_cons_zero]; rfl
  case hw137 => rfl
  (try simp only [Act.put, List.setIfInBounds_toArray, List.set_cons_zero, List.set_cons_succ])
  refine wpAnyH_take (i := 7) (oi := ?oi138) (v := undef) ?hi138 (by kernel_rfl) (by kernel_rfl) (by kernel_rfl) (fun _ _ _ h => h) (Or.inr ⟨?hw138, rfl⟩) (by assumption) ?rest138
  case hi138 => simp only [List.getElem?_toArray, List.getElem?_cons_succ, List.getElem?_cons_zero]; rfl
  case hw138 => rfl
  (try simp only [Act.put, List.setIfInBounds_toArray, List.set_cons_zero, List.set_cons_succ])
  refine wpAnyH_take (i := 8) (oi := ?oi139) (v := undef) ?hi139 (by kernel_rfl) (by kernel_rfl) (by kernel_rfl) (fun _ _ _ h => h) (Or.inr ⟨?hw139, rfl⟩) (by assumption) ?rest139
  case hi139 => simp only [List.getElem?_toArray, List.getElem?_cons_succ, List.getElem?_cons_zero]; rfl
  case hw139 => rfl
  (try simp only [Act.put, List.setIfInBounds_toArray, List.set_cons_zero, List.set_cons_succ])
  refine wpAnyH_take (i := 9) (oi := ?oi140) (v := undef) ?hi140 (by kernel_rfl) (by kernel_rfl) (by kernel_rfl) (fun _ _ _ h => h) (Or.inr ⟨?hw140, rfl⟩) (by assumption) ?rest140
  case hi140 => simp only [List.getElem?_toArray, List.getElem?_cons_succ, List.getElem?_cons_zero]; rfl
  case hw140 => rfl
  (try simp only [Act.put, List.setIfInBounds_toArray, List.set_cons_zero, List.set_cons_succ])
  refine wpAnyH_take (i := 10) (oi := ?oi141) (v := ?v141) ?hi141 (by kernel_rfl) (by kernel_rfl) (by kernel_rfl) (fun _ _ _ h => h) (Or.inl ⟨?hw141, ?hy141⟩) (by assumption) ?rest141
  case hi141 => simp only [List.getElem?_toArray, List.getElem?_cons_succ, List.getElem?_cons_zero]; rfl
  case hw141 => rfl
  case hy141 =>
    intro w hSw
    (try dsimp only at hSw)
    go_simp
    (try with_reducible rfl)
  (try simp only [Act.put, List.setIfInBounds_toArray, List.set_cons_zero, List.set_cons_succ])
  refine wpAnyH_take (i := 11) (oi := ?oi142) (v := ?v142) ?hi142 (by kernel_rfl) (by kernel_rfl) (by kernel_rfl) (fun _ _ _ h => h) (Or.inl ⟨?hw142, ?hy142⟩) (by assumption) ?rest142
  case hi142 => simp only [List.getElem?_toArray, List.getElem?_cons_succ, List.getElem?_cons_zero]; rfl
  case hw142 => rfl
  case hy142 =>
    intro w hSw
    (try dsimp only at hSw)
    go_simp
    (try with_reducible rfl)
  (try simp only [Act.put, List.setIfInBounds_toArray, List.set_cons_zero, List.set_cons_succ])
  refine wpAnyH_take (i := 12) (oi := ?oi143) (v := ?v143) ?hi143 (by kernel_rfl) (by kernel_rfl) (by kernel_rfl) (fun _ _ _ h => h) (Or.inl ⟨?hw143, ?hy143⟩) (by assumption) ?rest143
  case hi143 => simp only [List.getElem?_toArray, List.getElem?_cons_succ, List.getElem?_cons_zero]; rfl
  case hw143 => rfl
  case hy143 =>
    intro w hSw
    (try dsimp only at hSw)
    go_simp
    (try with_reducible rfl)
  (try simp only [Act.put, List.setIfInBounds_toArray, List.set_cons_zero, List.set_cons_succ])
  refine wpAnyH_take (i := 13) (oi := ?oi144) (v := ?v144) ?hi144 (by kernel_rfl) (by kernel_rfl) (by kernel_rfl) (fun _ _ _ h => h) (Or.inl ⟨?hw144, ?hy144⟩) (by assumption) ?rest144
  case hi144 => simp only [List.getElem?_toArray, List.getElem?_cons_succ, List.getElem?_cons_zero]; rfl
  case hw144 => rfl
  case hy144 =>
    intro w hSw
    (try dsimp only at hSw)
    go_simp
    (try with_reducible rfl)
  (try simp only [Act.put, List.setIfInBounds_toArray, List.set_cons_zero, List.set_cons_succ])
  refine wpAnyH_take (i := 14) (oi := ?oi145) (v := ?v145) ?hi145 (by kernel_rfl) (by kernel_rfl) (by kernel_rfl) (fun _ _ _ h => h) (Or.inl ⟨?hw145, ?hy145⟩) (by assumption) ?rest145
  case hi145 => simp only [List.getElem?_toArray, List.getElem?_cons_succ, List.getElem?_cons_zero]; rfl
  case hw145 => rfl
  case hy145 =>
    intro w hSw
    (try dsimp only at hSw)
    go_simp
    (try with_reducible rfl)
  (try simp only [Act.put, List.setIfInBounds_toArray, List.set_cons_zero, List.set_cons_succ])
  refine wpAnyH_take (i := 15) (oi := ?oi146) (v := ?v146) ?hi146 (by kernel_rfl) (by kernel_rfl) (by kernel_rfl) (fun _ _ _ h => h) (Or.inl ⟨?hw146, ?hy146⟩) (by assumption) ?rest146
  case hi146 => simp only [List.getElem?_toArray, List.getElem?_cons_succ, List.getElem?_cons_zero]; rfl
  case hw146 => rfl
  case hy146 =>
    intro w hSw
    (try dsimp only at hSw)
    go_simp
    (try with_reducible rfl)
  (try simp only [Act.put, List.setIfInBounds_toArray, List.set_cons_zero, List.set_cons_succ])
  refine wpAnyH_take (i := 16) (oi := ?oi147) (v := ?v147) ?hi147 (by kernel_rfl) (by kernel_rfl) (by kernel_rfl) (fun _ _ _ h => h) (Or.inl ⟨?hw147, ?hy147⟩) (by assumption) ?rest147
  case hi147 => simp only [List.getElem?_toArray, List.getElem?_cons_succ, List.getElem?_cons_zero]; rfl
  case hw147 => rfl
  case hy147 =>
    intro w hSw
    (try dsimp only at hSw)
    go_simp
    (try with_reducible rfl)
  (try simp only [Act.put, List.setIfInBounds_toArray, List.set_cons_zero, List.set_cons_succ])
  refine wpAnyH_take (i := 17) (oi := ?oi148) (v := ?v148) ?hi148 (by kernel_rfl) (by kernel_rfl) (by kernel_rfl) (fun _ _ _ h => h) (Or.inl ⟨?hw148, ?hy148⟩) (by assumption) ?rest148
  case hi148 => simp only [List.getElem?_toArray, List.getElem?_cons_succ, List.getElem?_cons_zero]; rfl
  case hw148 => rfl
  case hy148 =>
    intro w hSw
    (try dsimp only at hSw)
    go_simp
    (try with_reducible rfl)
  (try simp only [Act.put, List.setIfInBounds_toArray, List.set_cons_zero, List.set_cons_succ])
  refine wpAnyH_take (i := 19) (oi := ?oi149) (v := ?v149) ?hi149 (by kernel_rfl) (by kernel_rfl) (by kernel_rfl) (fun _ _ _ h => h) (Or.inl ⟨?hw149, ?hy149⟩) (by assumption) ?rest149
  case hi149 => simp only [List.getElem?_toArray, List.getElem?_cons_succ, List.getElem?_cons_zero]; rfl
  case hw149 => rfl
  case hy149 =>
    intro w hSw
    (try dsimp only at hSw)
    go_simp
    (try with_reducible rfl)
  (try simp only [Act.put, List.setIfInBounds_toArray, List.set_cons_zero, List.set_cons_succ])
  refine wpAnyH_ready (rs := [18]) (by kernel_rfl) (by simp) ?_
  refine AllReadyH.cons (o := ?oi150) ?hi150 ?rest150 AllReadyH.nil
  case hi150 => simp only [List.getElem?_toArray, List.getElem?_cons_succ, List.getElem?_cons_zero]; rfl
  intro K hK
  go_simp
  (with_reducible refine (H_n1.out _).mono ?_)
  rintro e y ⟨v1, rfl, r1, b9⟩
  have E := Lib.hid (show Below y7.heap.size y7 y by first | exact chain E.out b9 | exact chain ((Below.refl y7.heap.size y7).drew) b9)
  have p0 := keep1 E.out k12a
  have p1 := keep1 E.out k12b
  have p2 := keep1 E.out k12c
  have p3 := keep1 E.out k12d
  have G1 := Lib.hid r1
  obtain ⟨pp1, bb1, oo1, cc1, rfl, rr1⟩ := r1
  clear rr1 b9
  (try go_wp2_with fail)
  refine hK.out _ _ ?_ (fun hHeld => ?_)
  · (try dsimp only)
    exact ⟨p0, p1, p2, p3⟩
  clear hK K
  (try simp only [Act.put, List.setIfInBounds_toArray, List.set_cons_zero, List.set_cons_succ])
  refine wpAnyH_ready (rs := [20]) (by kernel_rfl) (by simp) ?_
  refine AllReadyH.cons (o := ?oi151) ?hi151 ?rest151 AllReadyH.nil
  case hi151 => simp only [List.getElem?_toArray, List.getElem?_cons_succ, List.getElem?_cons_zero]; rfl
  intro K hK
  go_simp
  (with_reducible refine (H_n2.out _).mono ?_)
  rintro e y ⟨v2, rfl, r2, b9⟩
  have E := Lib.hid (show Below y7.heap.size y7 y by first | exact chain E.out b9 | exact chain ((Below.refl y7.heap.size y7).drew) b9)
  have p0 := keep1 E.out k12a
  have p1 := keep1 E.out k12b
  have p2 := keep1 E.out k12c
  have p3 := keep1 E.out k12d
  have G1 := Lib.hid (Ri.below G1.out b9 (Nat.le_refl _))
  have G2 := Lib.hid r2
  obtain ⟨pp2, bb2, oo2, cc2, rfl, rr2⟩ := r2
  clear rr2 b9
  (try go_wp2_with fail)
  refine hK.out _ _ ?_ (fun hHeld => ?_)
  · (try dsimp only)
    exact ⟨p0, p1, p2, p3⟩
  clear hK K
  (try simp only [Act.put, List.setIfInBounds_toArray, List.set_cons_zero, List.set_cons_succ])
  refine wpAnyH_ready (rs := [21]) (by kernel_rfl) (by simp) ?_
  refine AllReadyH.cons (o := ?oi152) ?hi152 ?rest152 AllReadyH.nil
  case hi152 => simp only [List.getElem?_toArray, List.getElem?_cons_succ, List.getElem?_cons_zero]; rfl
  intro K hK
  go_simp
  (with_reducible refine (H_lo1.out _ _ _ G1.out G2.out).mono ?_)
  rintro e y ⟨v3, v4, rfl, r3, r4, b9⟩
  have E := Lib.hid (show Below y7.heap.size y7 y by first | exact chain E.out b9 | exact chain ((Below.refl y7.heap.size y7).drew) b9)
  have p0 := keep1 E.out k12a
  have p1 := keep1 E.out k12b
  have p2 := keep1 E.out k12c
  have p3 := keep1 E.out k12d
  have G3 := Lib.hid r3
  have G4 := Lib.hid r4
  obtain ⟨pp3, bb3, oo3, cc3, rfl, rr3⟩ := r3
  obtain ⟨pp4, bb4, oo4, cc4, rfl, rr4⟩ := r4
  clear rr3 rr4 b9
  (try go_wp2_with fail)
  refine hK.out _ _ ?_ (fun hHeld => ?_)
  · (try dsimp only)
    exact ⟨p0, p1, p2, p3⟩
  clear hK K
  (try simp only [Act.put, List.setIfInBounds_toArray, List.set_cons_zero, List.set_cons_succ])
  refine wpAnyH_ready (rs := [22]) (by kernel_rfl) (by simp) ?_
  refine AllReadyH.cons (o := ?oi153) ?hi153 ?rest153 AllReadyH.nil
  case hi153 => simp only [List.getElem?_toArray, List.getElem?_cons_succ, List.getElem?_cons_zero]; rfl
  intro K hK
  go_simp
  (with_reducible refine (H_sa1.out _ _ _ G3.out G4.out).mono ?_)
  rintro e y ⟨rfl, b9⟩
  have E := Lib.hid (show Below y7.heap.size y7 y by first | exact chain E.out b9 | exact chain ((Below.refl y7.heap.size y7).drew) b9)
  have p0 := keep1 E.out k12a
  have p1 := keep1 E.out k12b
  have p2 := keep1 E.out k12c
  have p3 := keep1 E.out k12d
  clear b9
  (try go_wp2_with fail)
  refine hK.out _ _ ?_ (fun hHeld => ?_)
  · (try dsimp only)
    exact ⟨p0, p1, p2, p3⟩
  clear hK K
  (try simp only [Act.put, List.setIfInBounds_toArray, List.set_cons_zero, List.set_cons_succ])
  refine wpAnyH_take (i := 23) (oi := ?oi154) (v := ?v154) ?hi154 (by kernel_rfl) (by kernel_rfl) (by kernel_rfl) (fun _ _ _ h => h) (Or.inl ⟨?hw154, ?hy154⟩) (by assumption) ?rest154
  case hi154 => simp only [List.getElem?_toArray, List.getElem?_cons_succ, List.getElem?_cons_zero]; rfl
  case hw154 => rfl
  case hy154 =>
    intro w hSw
    (try dsimp only at hSw)
    go_simp
    (try with_reducible rfl)
  (try simp only [Act.put, List.setIfInBounds_toArray, List.set_cons_zero, List.set_cons_succ])
  refine wpAnyH_take (i := 24) (oi := ?oi155) (v := ?v155) ?hi155 (by kernel_rfl) (by kernel_rfl) (by kernel_rfl) (fun _ _ _ h => h) (Or.inl ⟨?hw155, ?hy155⟩) (by assumption) ?rest155
  case hi155 => simp only [List.getElem?_toArray, List.getElem?_cons_succ, List.getElem?_cons_zero]; rfl
  case hw155 => rfl
  case hy155 =>
    intro w hSw
    (try dsimp only at hSw)
    go_simp
    (try with_reducible rfl)
  (try simp only [Act.put, List.setIfInBounds_toArray, List.set_cons_zero, List.set_cons_succ])
  refine wpAnyH_take (i := 25) (oi := ?oi156) (v := ?v156) ?hi156 (by kernel_rfl) (by kernel_rfl) (by kernel_rfl) (fun _ _ _ h => h) (Or.inl ⟨?hw156, ?hy156⟩) (by assumption) ?rest156
  case hi156 => simp only [List.getElem?_toArray, List.getElem?_cons_succ, List.getElem?_cons_zero]; rfl
  case hw156 => rfl
  case hy156 =>
    intro w hSw
    (try dsimp only at hSw)
    go_simp
    (try with_reducible rfl)
  (try simp only [Act.put, List.setIfInBounds_toArray, List.set_cons_zero, List.set_cons_succ])
  refine wpAnyH_done (by kernel_rfl) ?_ _
  refine NoPanic.normal ?_
  (try dsimp only [Exit.then])
  have D := Lib.hid (chain D.out E.out)
  have T9 := Lib.hid (T9.out.next E.out)
  have T10 := Lib.hid (T10.out.next E.out)
  have T12 := Lib.hid (T12.out.next E.out)
  have T14 := Lib.hid (T14.out.next E.out)
  obtain ⟨y9, hy9⟩ : ∃ y9 : World, y9 = y := ⟨_, rfl⟩
  rw [← hy9] at D T9 T10 T12 T14
  rw [← hy9]
  clear hy9 E k12a k12b k12c k12d hHeld
  obtain ⟨⟨k9a, k9b, k9c, k9d⟩, _⟩ := T9.out
  obtain ⟨k14a, k14b, _⟩ := T14.out
  go_wp2_with fail
  refine (H_rv.out _).mono ?_
  rintro e y11 ⟨rfl, b9⟩
  have E := Lib.hid b9
  have D := Lib.hid (chain D.out E.out)
  have T9 := Lib.hid (T9.out.next E.out)
  have T10 := Lib.hid (T10.out.next E.out)
  have T12 := Lib.hid (T12.out.next E.out)
  have T14 := Lib.hid (T14.out.next E.out)
  clear b9 E k9a k9b k9c k9d k14a k14b
  obtain ⟨k0, k1, _⟩ := I1.out.next D.out
  obtain ⟨k2, k3, _⟩ := I2.out.next D.out
  obtain ⟨k14a, k14b, _⟩ := T14.out
  go_wp2_with fail
  refine (H_val.out _ _ (WL.two _ _ _ _ _ _)).mono ?_
  rintro e yv ⟨rfl, b9⟩
  have E := Lib.hid (chain (below_one _ _) b9)
  have D := Lib.hid (chain D.out E.out)
  have T9 := Lib.hid (T9.out.next E.out)
  have T10 := Lib.hid (T10.out.next E.out)
  have T12 := Lib.hid (T12.out.next E.out)
  have T14 := Lib.hid (T14.out.next E.out)
  clear b9 E k14a k14b
  clear k0 k1 k2 k3
  obtain ⟨k0, k1, _⟩ := I1.out.next D.out
  obtain ⟨k2, k3, _⟩ := I2.out.next D.out
  have HSB : Hid (w.heap.size + 3 ≤ yv.heap.size) := Nat.le_trans Hsz.out D.out.size
  go_upto_region 17 with (fail)
  obtain ⟨jba, jbb, jbc, jbd, jbe, jbf, jbg, jbh⟩ := far7 HSB.out
  go_cut [16, 17] (fun s7 s8 wx => ∃ (g7 g8 : Nat) (y1 y2 : Option Addr) (n1 c1 n2 c2 : Nat), s7 = .pointer (some ⟨g7, 0, none⟩) ∧ s8 = .pointer (some ⟨g8, 0, none⟩) ∧ Hid (CutI (.bool bx) (.bool by') (.slice y1 n1 c1) (.slice y2 n2 c2) (Nm.dg D9 x.natAbs) (Nm.dg D9 y'.natAbs) yv.heap.size yv wx g7 g8))
  case first =>
    rename_i J0 K0 hRJ hMK
    go_region_held3 (fun W' => W'.cell? ⟨w.heap.size, 0, none⟩ = some (.bool a) ∧ W'.cell? ⟨w.heap.size, 1, none⟩ = some (.string s) ∧ W'.cell? ⟨w.heap.size + 1, 0, none⟩ = some (.bool b) ∧ W'.cell? ⟨w.heap.size + 1, 1, none⟩ = some (.string t)) (go_keep)
      (first
        | (go_at_call 18; (with_reducible refine (H_from.out _).mono ?_); rintro e w1 ⟨v1, rfl, r1, b1⟩; (try (have b1 := undrew b1)); have d1 : Below yv.heap.size yv w1 := chain (by first | exact Below.refl _ _ | exact (Below.refl _ _).drew | exact below_one _ _ | exact below_two _ _ _ | exact ((Below.refl _ _).drew).alloc (Nat.le_refl _) _ | exact (((Below.refl _ _).drew).alloc (Nat.le_refl _) _).alloc (by simp) _) b1; have c1 : Below yv.heap.size yv w1 := d1; have p0 := keep1 c1 k0; have p1 := keep1 c1 k1; have p2 := keep1 c1 k2; have p3 := keep1 c1 k3; obtain ⟨j1a, j1b, j1c, j1d, j1e, j1f, j1g, j1h⟩ := far7 (show w.heap.size + 3 ≤ w1.heap.size from Nat.le_trans HSB.out c1.size); (try (have A0 := Lib.hid (ZC.made (g := yv.heap.size) rfl b1); obtain ⟨A0a, A0b, A0c, A0d⟩ := A0.out)); (try (have A0 := Lib.hid (ZC.made1 (g := yv.heap.size) rfl b1); have B0 := Lib.hid (ZC.made (g := yv.heap.size + 1) (by simp) b1); obtain ⟨A0a, A0b, A0c, A0d⟩ := A0.out; obtain ⟨B0a, B0b, B0c, B0d⟩ := B0.out)); (try (have L01 := Lib.hid (apart_b (g := yv.heap.size) rfl b1); obtain ⟨l01x, l01y, l01z⟩ := L01.out)); (try (have MM := Lib.hid (apart_b2 (g := yv.heap.size) rfl b1); have L01 := Lib.hid MM.out.1; have M01 := Lib.hid MM.out.2; clear MM; obtain ⟨l01x, l01y, l01z⟩ := L01.out; obtain ⟨m01x, m01y, m01z⟩ := M01.out)); have G1 := Lib.hid r1; obtain ⟨pp1, bb1, oo1, cc1, rfl, rr1⟩ := r1; clear rr1)
        | (go_at_call 18; (with_reducible refine (H_from2.out _).mono ?_); rintro e w2 ⟨v2, rfl, r2, b2⟩; (try (have b2 := undrew b2)); have d2 : Below w1.heap.size w1 w2 := chain (by first | exact Below.refl _ _ | exact (Below.refl _ _).drew | exact below_one _ _ | exact below_two _ _ _ | exact ((Below.refl _ _).drew).alloc (Nat.le_refl _) _ | exact (((Below.refl _ _).drew).alloc (Nat.le_refl _) _).alloc (by simp) _) b2; have c2 : Below yv.heap.size yv w2 := chain c1 d2; have p0 := keep1 c2 k0; have p1 := keep1 c2 k1; have p2 := keep1 c2 k2; have p3 := keep1 c2 k3; obtain ⟨j2a, j2b, j2c, j2d, j2e, j2f, j2g, j2h⟩ := far7 (show w.heap.size + 3 ≤ w2.heap.size from Nat.le_trans HSB.out c2.size); (try (have A1 := Lib.hid (ZC.made (g := w1.heap.size) rfl b2); obtain ⟨A1a, A1b, A1c, A1d⟩ := A1.out)); (try (have A1 := Lib.hid (ZC.made1 (g := w1.heap.size) rfl b2); have B1 := Lib.hid (ZC.made (g := w1.heap.size + 1) (by simp) b2); obtain ⟨A1a, A1b, A1c, A1d⟩ := A1.out; obtain ⟨B1a, B1b, B1c, B1d⟩ := B1.out)); (try (have A0 := Lib.hid (A0.out.next d2); obtain ⟨A0a, A0b, A0c, A0d⟩ := A0.out)); (try (have B0 := Lib.hid (B0.out.next d2); obtain ⟨B0a, B0b, B0c, B0d⟩ := B0.out)); (try (have L02 := Lib.hid (apart_t L01.out d2.size); obtain ⟨l02x, l02y, l02z⟩ := L02.out)); (try (have M02 := Lib.hid (apart_t M01.out d2.size); obtain ⟨m02x, m02y, m02z⟩ := M02.out)); (try (have L12 := Lib.hid (apart_b (g := w1.heap.size) rfl b2); obtain ⟨l12x, l12y, l12z⟩ := L12.out)); (try (have MM := Lib.hid (apart_b2 (g := w1.heap.size) rfl b2); have L12 := Lib.hid MM.out.1; have M12 := Lib.hid MM.out.2; clear MM; obtain ⟨l12x, l12y, l12z⟩ := L12.out; obtain ⟨m12x, m12y, m12z⟩ := M12.out)); have G2 := Lib.hid (And.intro (Ri.below G1.out d2 (Nat.le_refl _)) r2); obtain ⟨pp2, bb2, oo2, cc2, rfl, rr2⟩ := r2; clear rr2)
        | fail)
    all_goals
      obtain ⟨r1, r2⟩ := G2.out
      refine hMK _ _ (Met.intro (hRJ _ _ ?_))
      (repeat apply Exists.intro)
      refine ⟨?_, rfl⟩
      refine ⟨_, _, pp1, pp2, (Nm.dg D9 x.natAbs).length, cc1, (Nm.dg D9 y'.natAbs).length, cc2, rfl, rfl, ?_⟩
      show CutI (.bool bx) (.bool by') (.slice pp1 _ cc1) (.slice pp2 _ cc2) (Nm.dg D9 x.natAbs) (Nm.dg D9 y'.natAbs) yv.heap.size yv _ _ _
      have sA0 : yv.heap.size ≤ yv.heap.size := Nat.le_refl _
      have sB0 : yv.heap.size ≤ yv.heap.size + 1 := Nat.le_succ _
      have sA1 : yv.heap.size ≤ w1.heap.size := c1.size
      have sB1 : yv.heap.size ≤ w1.heap.size + 1 := Nat.le_succ_of_le sA1
      have sA2 : yv.heap.size ≤ w2.heap.size := c2.size
      have n0 : ¬ yv.heap.size = yv.heap.size + 1 := Nat.ne_of_lt (Nat.lt_succ_self _)
      have n1 : ¬ w1.heap.size = w1.heap.size + 1 := Nat.ne_of_lt (Nat.lt_succ_self _)
      have m0 : ¬ yv.heap.size + 1 = yv.heap.size := fun e => n0 e.symm
      have m1 : ¬ w1.heap.size + 1 = w1.heap.size := fun e => n1 e.symm
      first
        | with_reducible exact CutI.s1 r1 r2 c2 sA2
        | with_reducible exact CutI.s2 r1 r2 c2 sA2
        | with_reducible exact CutI.s3 A0.out sA0 r1 r2 c2 sA2
        | with_reducible exact CutI.s4 A0.out sA0 r1 r2 c2 sA2
        | with_reducible exact CutI.s3 A1.out sA1 r1 r2 c2 sA2
        | with_reducible exact CutI.s4 A1.out sA1 r1 r2 c2 sA2
        | with_reducible exact CutI.s3 B0.out sB0 r1 r2 c2 sA2
        | with_reducible exact CutI.s4 B0.out sB0 r1 r2 c2 sA2
        | with_reducible exact CutI.s3 B1.out sB1 r1 r2 c2 sA2
        | with_reducible exact CutI.s4 B1.out sB1 r1 r2 c2 sA2
        | with_reducible exact CutI.s5 A0.out sA0 B0.out sB0 n0 r1 r2 c2
        | with_reducible exact CutI.s5 B0.out sB0 A0.out sA0 m0 r1 r2 c2
        | with_reducible exact CutI.s5 A1.out sA1 B1.out sB1 n1 r1 r2 c2
        | with_reducible exact CutI.s5 B1.out sB1 A1.out sA1 m1 r1 r2 c2
        | with_reducible exact CutI.s5 A0.out sA0 A1.out sA1 l01x r1 r2 c2
        | with_reducible exact CutI.s5 A1.out sA1 A0.out sA0 l01y r1 r2 c2
        | fail
  obtain ⟨g7, g8, y1', y2', n1, c1, n2, c2, rfl, rfl, hcut⟩ := hcut
  obtain ⟨_, T11, T12, R1, R2, bxx⟩ := hcut.out
  have D := Lib.hid (chain D.out bxx)
  have T10 := Lib.hid (T10.out.next bxx)
  have T14 := Lib.hid (T14.out.next bxx)
  have R1 := Lib.hid R1
  have R2 := Lib.hid R2
  have T16 := Lib.hid T11
  have T17 := Lib.hid T12
  obtain ⟨y17, hy17⟩ : ∃ y : World, y = wc := ⟨_, rfl⟩
  subst hy17
  clear bxx hcut HSB jba jbb jbc jbd jbe jbf jbg jbh k0 k1 k2 k3 T9 T11 T12
  obtain ⟨k17a, k17b, _⟩ := T17.out
  go_wp2_with fail
  refine (H_sg.out _ _ R2.out).mono ?_
  rintro e y18 ⟨rfl, b9⟩
  have E := Lib.hid b9
  have D := Lib.hid (chain D.out E.out)
  have T10 := Lib.hid (T10.out.next E.out)
  have T14 := Lib.hid (T14.out.next E.out)
  have T16 := Lib.hid (T16.out.next E.out)
  have T17 := Lib.hid (T17.out.next E.out)
  have R1 := Lib.hid (Ri.below R1.out E.out (Nat.le_refl _))
  have R2 := Lib.hid (Ri.below R2.out E.out (Nat.le_refl _))
  clear b9 E k17a k17b
  go_upto_region 22 with (fail)
  obtain ⟨⟨k10a, k10b, k10c, k10d⟩, _⟩ := T10.out
  obtain ⟨k16a, k16b, _⟩ := T16.out
  obtain ⟨k17a, k17b, _⟩ := T17.out
  go_region_held3 (fun W' => W'.cell? ⟨y10.heap.size, 0, none⟩ = some (.bool xa) ∧ W'.cell? ⟨y10.heap.size, 1, none⟩ = some (.string sa) ∧ W'.cell? ⟨y10.heap.size, 2, none⟩ = some (.bool xb) ∧ W'.cell? ⟨y10.heap.size, 3, none⟩ = some (.string sb) ∧ W'.cell? ⟨g7, 0, none⟩ = some (.bool bx) ∧ W'.cell? ⟨g7, 1, none⟩ = some ((.slice y1' n1 c1)) ∧ W'.cell? ⟨g8, 0, none⟩ = some (.bool by') ∧ W'.cell? ⟨g8, 1, none⟩ = some ((.slice y2' n2 c2))) (go_keep)
    (first
      | (go_at_call 15; (with_reducible refine (H_lo2.out _ _ _ (by first | exact R1.out | exact Ri.drew R1.out) (by first | exact R2.out | exact Ri.drew R2.out)).mono ?_); rintro e y ⟨v7, v8, rfl, r7, r8, b9⟩; have E := Lib.hid (show Below y18.heap.size y18 y by first | exact chain E.out b9 | exact chain ((Below.refl _ _).drew) b9); have pk10a := keep1 E.out k10a; have pk10b := keep1 E.out k10b; have pk10c := keep1 E.out k10c; have pk10d := keep1 E.out k10d; have pk16a := keep1 E.out k16a; have pk16b := keep1 E.out k16b; have pk17a := keep1 E.out k17a; have pk17b := keep1 E.out k17b; have G7 := Lib.hid r7; have G8 := Lib.hid r8; obtain ⟨pp7, bb7, oo7, cc7, rfl, rr7⟩ := r7; obtain ⟨pp8, bb8, oo8, cc8, rfl, rr8⟩ := r8; clear rr7 rr8 b9)
      | (go_at_call 14; (with_reducible refine (H_sa2.out _ _ _ G7.out G8.out).mono ?_); rintro e y ⟨rfl, b9⟩; have E := Lib.hid (show Below y18.heap.size y18 y by first | exact chain E.out b9 | exact chain ((Below.refl _ _).drew) b9); have pk10a := keep1 E.out k10a; have pk10b := keep1 E.out k10b; have pk10c := keep1 E.out k10c; have pk10d := keep1 E.out k10d; have pk16a := keep1 E.out k16a; have pk16b := keep1 E.out k16b; have pk17a := keep1 E.out k17a; have pk17b := keep1 E.out k17b; clear b9)
      | (go_at_call 8; (with_reducible refine (H_known.out _).mono ?_); rintro e y ⟨rfl, b9⟩; have E := Lib.hid (show Below y18.heap.size y18 y by first | exact chain E.out b9 | exact chain ((Below.refl _ _).drew) b9); have pk10a := keep1 E.out k10a; have pk10b := keep1 E.out k10b; have pk10c := keep1 E.out k10c; have pk10d := keep1 E.out k10d; have pk16a := keep1 E.out k16a; have pk16b := keep1 E.out k16b; have pk17a := keep1 E.out k17a; have pk17b := keep1 E.out k17b; clear b9)
      | fail)
  have HZ := Lib.hid (chain hb0.out (chain D.out E.out))
  go_wp2
  go_ret
  exact ⟨rfl, HZ.out⟩
end Go.Proofs.YtlmklhffafcmmaaGreat
