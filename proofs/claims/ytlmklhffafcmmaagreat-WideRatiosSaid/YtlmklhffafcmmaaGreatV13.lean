/- What the theorem leans on, part 13: LRatB. -/
import Derived.Test.YtlmklhffafcmmaaGreatV12
import Derived.Test.YtlmklhffafcmmaaGreatV10

/- The law WideRatios: the walk over what its calls give: the denominator is 0. -/
namespace Go.Proofs.YtlmklhffafcmmaaGreat
open Go.RowKit

set_option maxRecDepth 100000 in
set_option maxHeartbeats 8000000 in
theorem ratios_zero_d0 (a b : Bool) (s t : ByteArray) (n d : Int) (w : World) (l1 : s.size ≤ 60) (l2 : t.size ≤ 60) (hsh : shortL [(a, s), (b, t)] = true) (hvl : validL [(a, s), (b, t)] = true) (h0 : t = ⟨#[]⟩) (hd : d = 0)
    (h_ra : ∀ w, Calls Tryz.prog 9 #[.agg #[.bool a, .string s], .agg #[.bool b, .string t]] w fun e w' => e = .returned (.tuple #[.agg #[.bool false, .string ⟨#[]⟩, .bool false, .string ⟨#[]⟩], .int .i64 3]) ∧ Below w.heap.size w w')
    (h_ro : ∀ w, Calls Tryz.prog 10 #[.int .i64 n, .int .i64 d] w fun e w' => e = .returned (.tuple #[.agg #[.bool false, .string ⟨#[]⟩, .bool false, .string ⟨#[]⟩], .int .i64 3]) ∧ Below w.heap.size w w')
    (h_fl : ∀ w, Calls Tryz.prog 11 #[.agg #[.bool a, .string s, .bool b, .string t]] w fun e w' => e = .returned (.tuple #[.agg #[.bool false, .string ⟨#[]⟩], .int .i64 2]) ∧ Below w.heap.size w w')
    (h_vr : ∀ w, Calls Tryz.prog 12 #[.agg #[.bool a, .string s, .bool b, .string t]] w fun e w' => e = .returned (.bool false) ∧ Below w.heap.size w w')
    (h_rv : ∀ w, Calls Tryz.prog 13 #[.agg #[.bool a, .string s, .bool b, .string t]] w fun e w' => e = .returned (.bool false) ∧ Below w.heap.size w w') :
    Calls Tryz.prog 3 #[.agg #[.bool a, .string s], .agg #[.bool b, .string t], .int .i64 n, .int .i64 d] w (Ret (.bool true) w) := by
  subst h0
  subst hd
  have H_ra := Lib.hid h_ra
  have H_ro := Lib.hid h_ro
  have H_fl := Lib.hid h_fl
  have H_vr := Lib.hid h_vr
  have H_rv := Lib.hid h_rv
  clear h_ra h_ro h_fl h_vr h_rv
  have H_known := Lib.hid known_true
  obtain ⟨w0, hw0⟩ : ∃ w0 : World, w0 = ((w.alloc (.cells #[.bool a, .string s] 23)).alloc (.cells #[.bool b, .string ⟨#[]⟩] 23)).alloc (.cells #[.bool a, .string s, .bool b, .string ⟨#[]⟩] 23) := ⟨_, rfl⟩
  have hb0 : Hid (Below w.heap.size w w0) := by rw [hw0]; exact (((Below.refl _ _).alloc (Nat.le_refl _) _).alloc (by simp) _).alloc (by simp; omega) _
  have I1 : Hid (ZC (.bool a) (.string s) w0 w.heap.size) := by rw [hw0]; exact ((ZC.new rfl).alloc _).alloc _
  have I2 : Hid (ZC (.bool b) (.string ⟨#[]⟩) w0 (w.heap.size + 1)) := by rw [hw0]; exact (ZC.new (by simp)).alloc _
  have Hsz : Hid (w.heap.size + 3 ≤ w0.heap.size) := by rw [hw0]; show _ ≤ _; simp
  have HSH := short_any [(a, s), (b, ⟨#[]⟩)] 2 (w.heap.size + 1 + 1) w0 rfl (by decide) (by rw [hw0]; have := WL.two ((w.alloc (.cells #[.bool a, .string s] 23)).alloc (.cells #[.bool b, .string ⟨#[]⟩] 23)) a b s ⟨#[]⟩ 23; simpa using this)
  rw [hsh] at HSH
  have H_val := Lib.hid (fun g w h => valid_any [(a, s), (b, ⟨#[]⟩)] 2 g w rfl (by decide) h (by intro x hx; simp at hx; rcases hx with rfl | rfl <;> (show _ ≤ _; simp; omega)))
  rw [hvl] at H_val
  unfold BPost at H_val
  clear hvl
  have HSh := Lib.hid HSH
  have Hw0 := Lib.hid hw0
  clear HSH hw0 hsh
  unfold Ret at *
  unfold BPost at HSh
  go_enter Tryz.func3, Tryz.ntmps3
  go_wp2_with fail
  rw [← Hw0.out]
  refine HSh.out.mono ?_
  rintro e x0 ⟨rfl, b0⟩
  have D := Lib.hid b0
  clear b0
  obtain ⟨k0, k1, _⟩ := I1.out.next D.out
  obtain ⟨k2, k3, _⟩ := I2.out.next D.out
  have b9 := Below.refl x0.heap.size x0
  have j1 : ¬ w.heap.size = x0.heap.size := Nat.ne_of_lt (World.block_lt_of_cell? _ _ k0)
  have j2 : ¬ w.heap.size + 1 = x0.heap.size := Nat.ne_of_lt (World.block_lt_of_cell? _ _ k2)
  obtain ⟨u9, hu9⟩ : ∃ u : World, u = x0.alloc (.cells #[.bool a, .string s, .bool b, .string ⟨#[]⟩] 27) := ⟨_, rfl⟩
  have E : Hid (Below x0.heap.size x0 u9) := by rw [hu9]; exact b9.alloc b9.size _
  have D := Lib.hid (chain D.out E.out)
  have T9 : Hid (ZC4 (.bool a) (.string s) (.bool b) (.string ⟨#[]⟩) u9 x0.heap.size) := by rw [hu9]; exact ZC4.made0 _
  have Hu9 := Lib.hid hu9
  clear hu9 b9 E
  go_upto_region 4 with (fail)
  rw [← Hu9.out]
  clear Hu9
  clear j1 j2
  clear k0 k1 k2 k3
  obtain ⟨k0, k1, _⟩ := I1.out.next D.out
  obtain ⟨k2, k3, _⟩ := I2.out.next D.out
  go_wp2_with fail
  refine (H_ra.out _).mono ?_
  rintro e y10 ⟨rfl, b9⟩
  obtain ⟨u10, hu10⟩ : ∃ u : World, u = y10.alloc (.cells #[.bool false, .string ⟨#[]⟩, .bool false, .string ⟨#[]⟩] 27) := ⟨_, rfl⟩
  have E : Hid (Below u9.heap.size u9 u10) := by rw [hu10]; exact b9.alloc b9.size _
  have D := Lib.hid (chain D.out E.out)
  have T9 := Lib.hid (T9.out.next E.out)
  have T10 : Hid (ZC4 (.bool false) (.string ⟨#[]⟩) (.bool false) (.string ⟨#[]⟩) u10 y10.heap.size) := by rw [hu10]; exact ZC4.made0 _
  have Hu10 := Lib.hid hu10
  clear hu10 b9 E
  go_upto_region 5 with (fail)
  rw [← Hu10.out]
  clear Hu10
  clear k0 k1 k2 k3
  go_wp2_with fail
  refine (H_ro.out _).mono ?_
  rintro e y12 ⟨rfl, b9⟩
  obtain ⟨u12, hu12⟩ : ∃ u : World, u = y12.alloc (.cells #[.bool false, .string ⟨#[]⟩, .bool false, .string ⟨#[]⟩] 27) := ⟨_, rfl⟩
  have E : Hid (Below u10.heap.size u10 u12) := by rw [hu12]; exact b9.alloc b9.size _
  have D := Lib.hid (chain D.out E.out)
  have T9 := Lib.hid (T9.out.next E.out)
  have T10 := Lib.hid (T10.out.next E.out)
  have T12 : Hid (ZC4 (.bool false) (.string ⟨#[]⟩) (.bool false) (.string ⟨#[]⟩) u12 y12.heap.size) := by rw [hu12]; exact ZC4.made0 _
  have Hu12 := Lib.hid hu12
  clear hu12 b9 E
  go_upto_region 6 with (fail)
  rw [← Hu12.out]
  clear Hu12
  obtain ⟨⟨k9a, k9b, k9c, k9d⟩, _⟩ := T9.out
  go_wp2_with fail
  refine (H_fl.out _).mono ?_
  rintro e y14 ⟨rfl, b9⟩
  clear k9a k9b k9c k9d
  obtain ⟨u14, hu14⟩ : ∃ u : World, u = y14.alloc (.cells #[.bool false, .string ⟨#[]⟩] 23) := ⟨_, rfl⟩
  have E : Hid (Below u12.heap.size u12 u14) := by rw [hu14]; exact b9.alloc b9.size _
  have D := Lib.hid (chain D.out E.out)
  have T9 := Lib.hid (T9.out.next E.out)
  have T10 := Lib.hid (T10.out.next E.out)
  have T12 := Lib.hid (T12.out.next E.out)
  have T14 : Hid (ZC (.bool false) (.string ⟨#[]⟩) u14 y14.heap.size) := by rw [hu14]; exact ZC.new rfl
  have Hu14 := Lib.hid hu14
  clear hu14 b9 E
  go_upto_region 7 with (fail)
  rw [← Hu14.out]
  clear Hu14
  obtain ⟨⟨k9a, k9b, k9c, k9d⟩, _⟩ := T9.out
  go_region_held3 (fun W' => W'.cell? ⟨x0.heap.size, 0, none⟩ = some (.bool a) ∧ W'.cell? ⟨x0.heap.size, 1, none⟩ = some (.string s) ∧ W'.cell? ⟨x0.heap.size, 2, none⟩ = some (.bool b) ∧ W'.cell? ⟨x0.heap.size, 3, none⟩ = some (.string ⟨#[]⟩)) (go_keep)
    (first
      | (go_at_call 12; (with_reducible refine (H_vr.out _).mono ?_); rintro e y ⟨rfl, b9⟩; have E := Lib.hid (show Below u14.heap.size u14 y by first | exact chain E.out b9 | exact chain ((Below.refl _ _).drew) b9); have p9a := keep1 E.out k9a; have p9b := keep1 E.out k9b; have p9c := keep1 E.out k9c; have p9d := keep1 E.out k9d; clear b9)
      | (go_at_call 13; (with_reducible refine (H_rv.out _).mono ?_); rintro e y ⟨rfl, b9⟩; have E := Lib.hid (show Below u14.heap.size u14 y by first | exact chain E.out b9 | exact chain ((Below.refl _ _).drew) b9); have p9a := keep1 E.out k9a; have p9b := keep1 E.out k9b; have p9c := keep1 E.out k9c; have p9d := keep1 E.out k9d; clear b9)
      | fail)
  have D := Lib.hid (chain D.out E.out)
  have T9 := Lib.hid (T9.out.next E.out)
  have T10 := Lib.hid (T10.out.next E.out)
  have T12 := Lib.hid (T12.out.next E.out)
  have T14 := Lib.hid (T14.out.next E.out)
  obtain ⟨y7, hy7⟩ : ∃ y7 : World, y7 = y := ⟨_, rfl⟩
  subst hy7
  clear E k9a k9b k9c k9d p9a p9b p9c p9d
  obtain ⟨⟨k12a, k12b, k12c, k12d⟩, _⟩ := T12.out
  go_upto_region 9 with (fail)
  refine wp_region_noPanic ?_
  refine wp_region_held_drew (S := (fun W' => W'.cell? ⟨y12.heap.size, 0, none⟩ = some (.bool false) ∧ W'.cell? ⟨y12.heap.size, 1, none⟩ = some (.string ⟨#[]⟩) ∧ W'.cell? ⟨y12.heap.size, 2, none⟩ = some (.bool false) ∧ W'.cell? ⟨y12.heap.size, 3, none⟩ = some (.string ⟨#[]⟩))) (by kernel_rfl) ?_ (fun hHeld => ?_)
  · exact ⟨k12a, k12b, k12c, k12d⟩
  refine wpAnyH_take (i := 0) (oi := ?oi53) (v := ?v53) ?hi53 (by kernel_rfl) (by kernel_rfl) (by kernel_rfl) (fun _ _ _ h => h) (Or.inl ⟨?hw53, ?hy53⟩) (by assumption) ?rest53
  case hi53 => simp only [List.getElem?_toArray, List.getElem?_cons_succ, List.getElem?_cons_zero]; rfl
  case hw53 => rfl
  case hy53 =>
    intro w hSw
    (try dsimp only at hSw)
    go_simp
    (try with_reducible rfl)
  (try simp only [Act.put, List.setIfInBounds_toArray, List.set_cons_zero, List.set_cons_succ])
  refine wpAnyH_take (i := 1) (oi := ?oi54) (v := ?v54) ?hi54 (by kernel_rfl) (by kernel_rfl) (by kernel_rfl) (fun _ _ _ h => h) (Or.inl ⟨?hw54, ?hy54⟩) (by assumption) ?rest54
  case hi54 => simp only [List.getElem?_toArray, List.getElem?_cons_succ, List.getElem?_cons_zero]; rfl
  case hw54 => rfl
  case hy54 =>
    intro w hSw
    (try dsimp only at hSw)
    go_simp
    (try with_reducible rfl)
  (try simp only [Act.put, List.setIfInBounds_toArray, List.set_cons_zero, List.set_cons_succ])
  refine wpAnyH_take (i := 2) (oi := ?oi55) (v := ?v55) ?hi55 (by kernel_rfl) (by kernel_rfl) (by kernel_rfl) (fun _ _ _ h => h) (Or.inl ⟨?hw55, ?hy55⟩) (by assumption) ?rest55
  case hi55 => simp only [List.getElem?_toArray, List.getElem?_cons_succ, List.getElem?_cons_zero]; rfl
  case hw55 => rfl
  case hy55 =>
    intro w hSw
    (try dsimp only at hSw)
    go_simp
    (try with_reducible rfl)
  (try simp only [Act.put, List.setIfInBounds_toArray, List.set_cons_zero, List.set_cons_succ])
  refine wpAnyH_take (i := 3) (oi := ?oi56) (v := ?v56) ?hi56 (by kernel_rfl) (by kernel_rfl) (by kernel_rfl) (fun _ _ _ h => h) (Or.inl ⟨?hw56, ?hy56⟩) (by assumption) ?rest56
  case hi56 => simp only [List.getElem?_toArray, List.getElem?_cons_succ, List.getElem?_cons_zero]; rfl
  case hw56 => rfl
  case hy56 =>
    intro w hSw
    (try dsimp only at hSw)
    go_simp
    (try with_reducible rfl)
  (try simp only [Act.put, List.setIfInBounds_toArray, List.set_cons_zero, List.set_cons_succ])
  refine wpAnyH_take (i := 4) (oi := ?oi57) (v := ?v57) ?hi57 (by kernel_rfl) (by kernel_rfl) (by kernel_rfl) (fun _ _ _ h => h) (Or.inl ⟨?hw57, ?hy57⟩) (by assumption) ?rest57
  case hi57 => simp only [List.getElem?_toArray, List.getElem?_cons_succ, List.getElem?_cons_zero]; rfl
  case hw57 => rfl
  case hy57 =>
    intro w hSw
    (try dsimp only at hSw)
    go_simp
    (try with_reducible rfl)
  (try simp only [Act.put, List.setIfInBounds_toArray, List.set_cons_zero, List.set_cons_succ])
  refine wpAnyH_take (i := 5) (oi := ?oi58) (v := ?v58) ?hi58 (by kernel_rfl) (by kernel_rfl) (by kernel_rfl) (fun _ _ _ h => h) (Or.inl ⟨?hw58, ?hy58⟩) (by assumption) ?rest58
  case hi58 => simp only [List.getElem?_toArray, List.getElem?_cons_succ, List.getElem?_cons_zero]; rfl
  case hw58 => rfl
  case hy58 =>
    intro w hSw
    (try dsimp only at hSw)
    go_simp
    (try with_reducible rfl)
  (try simp only [Act.put, List.setIfInBounds_toArray, List.set_cons_zero, List.set_cons_succ])
  refine wpAnyH_take (i := 6) (oi := ?oi59) (v := ?v59) ?hi59 (by kernel_rfl) (by kernel_rfl) (by kernel_rfl) (fun _ _ _ h => h) (Or.inl ⟨?hw59, ?hy59⟩) (by assumption) ?rest59
  case hi59 => simp only [List.getElem?_toArray, List.getElem?_cons_succ, List.getElem?_cons_zero]; rfl
  case hw59 => rfl
  case hy59 =>
    intro w hSw
    (try dsimp only at hSw)
    go_simp
    (try with_reducible rfl)
  (try simp only [Act.put, List.setIfInBounds_toArray, List.set_cons_zero, List.set_cons_succ])
  refine wpAnyH_take (i := 7) (oi := ?oi60) (v := ?v60) ?hi60 (by kernel_rfl) (by kernel_rfl) (by kernel_rfl) (fun _ _ _ h => h) (Or.inl ⟨?hw60, ?hy60⟩) (by assumption) ?rest60
  case hi60 => simp only [List.getElem?_toArray, List.getElem?_cons_succ, List.getElem?_cons_zero]; rfl
  case hw60 => rfl
  case hy60 =>
    intro w hSw
    (try dsimp only at hSw)
    go_simp
    (try with_reducible rfl)
  (try simp only [Act.put, List.setIfInBounds_toArray, List.set_cons_zero, List.set_cons_succ])
  refine wpAnyH_take (i := 8) (oi := ?oi61) (v := ?v61) ?hi61 (by kernel_rfl) (by kernel_rfl) (by kernel_rfl) (fun _ _ _ h => h) (Or.inl ⟨?hw61, ?hy61⟩) (by assumption) ?rest61
  case hi61 => simp only [List.getElem?_toArray, List.getElem?_cons_succ, List.getElem?_cons_zero]; rfl
  case hw61 => rfl
  case hy61 =>
    intro w hSw
    (try dsimp only at hSw)
    go_simp
    (try with_reducible rfl)
  (try simp only [Act.put, List.setIfInBounds_toArray, List.set_cons_zero, List.set_cons_succ])
  refine wpAnyH_take (i := 9) (oi := ?oi62) (v := ?v62) ?hi62 (by kernel_rfl) (by kernel_rfl) (by kernel_rfl) (fun _ _ _ h => h) (Or.inl ⟨?hw62, ?hy62⟩) (by assumption) ?rest62
  case hi62 => simp only [List.getElem?_toArray, List.getElem?_cons_succ, List.getElem?_cons_zero]; rfl
  case hw62 => rfl
  case hy62 =>
    intro w hSw
    (try dsimp only at hSw)
    go_simp
    (try with_reducible rfl)
  (try simp only [Act.put, List.setIfInBounds_toArray, List.set_cons_zero, List.set_cons_succ])
  refine wpAnyH_take (i := 10) (oi := ?oi63) (v := ?v63) ?hi63 (by kernel_rfl) (by kernel_rfl) (by kernel_rfl) (fun _ _ _ h => h) (Or.inl ⟨?hw63, ?hy63⟩) (by assumption) ?rest63
  case hi63 => simp only [List.getElem?_toArray, List.getElem?_cons_succ, List.getElem?_cons_zero]; rfl
  case hw63 => rfl
  case hy63 =>
    intro w hSw
    (try dsimp only at hSw)
    go_simp
    (try with_reducible rfl)
  (try simp only [Act.put, List.setIfInBounds_toArray, List.set_cons_zero, List.set_cons_succ])
  refine wpAnyH_take (i := 11) (oi := ?oi64) (v := ?v64) ?hi64 (by kernel_rfl) (by kernel_rfl) (by kernel_rfl) (fun _ _ _ h => h) (Or.inl ⟨?hw64, ?hy64⟩) (by assumption) ?rest64
  case hi64 => simp only [List.getElem?_toArray, List.getElem?_cons_succ, List.getElem?_cons_zero]; rfl
  case hw64 => rfl
  case hy64 =>
    intro w hSw
    (try dsimp only at hSw)
    go_simp
    (try with_reducible rfl)
  (try simp only [Act.put, List.setIfInBounds_toArray, List.set_cons_zero, List.set_cons_succ])
  refine wpAnyH_take (i := 12) (oi := ?oi65) (v := ?v65) ?hi65 (by kernel_rfl) (by kernel_rfl) (by kernel_rfl) (fun _ _ _ h => h) (Or.inl ⟨?hw65, ?hy65⟩) (by assumption) ?rest65
  case hi65 => simp only [List.getElem?_toArray, List.getElem?_cons_succ, List.getElem?_cons_zero]; rfl
  case hw65 => rfl
  case hy65 =>
    intro w hSw
    (try dsimp only at hSw)
    go_simp
    (try with_reducible rfl)
  (try simp only [Act.put, List.setIfInBounds_toArray, List.set_cons_zero, List.set_cons_succ])
  refine wpAnyH_take (i := 13) (oi := ?oi66) (v := ?v66) ?hi66 (by kernel_rfl) (by kernel_rfl) (by kernel_rfl) (fun _ _ _ h => h) (Or.inl ⟨?hw66, ?hy66⟩) (by assumption) ?rest66
  case hi66 => simp only [List.getElem?_toArray, List.getElem?_cons_succ, List.getElem?_cons_zero]; rfl
  case hw66 => rfl
  case hy66 =>
    intro w hSw
    (try dsimp only at hSw)
    go_simp
    (try with_reducible rfl)
  (try simp only [Act.put, List.setIfInBounds_toArray, List.set_cons_zero, List.set_cons_succ])
  refine wpAnyH_take (i := 14) (oi := ?oi67) (v := ?v67) ?hi67 (by kernel_rfl) (by kernel_rfl) (by kernel_rfl) (fun _ _ _ h => h) (Or.inl ⟨?hw67, ?hy67⟩) (by assumption) ?rest67
  case hi67 => simp only [List.getElem?_toArray, List.getElem?_cons_succ, List.getElem?_cons_zero]; rfl
  case hw67 => rfl
  case hy67 =>
    intro w hSw
    (try dsimp only at hSw)
    go_simp
    (try with_reducible rfl)
  (try simp only [Act.put, List.setIfInBounds_toArray, List.set_cons_zero, List.set_cons_succ])
  refine wpAnyH_take (i := 15) (oi := ?oi68) (v := undef) ?hi68 (by kernel_rfl) (by kernel_rfl) (by kernel_rfl) (fun _ _ _ h => h) (Or.inr ⟨?hw68, rfl⟩) (by assumption) ?rest68
  case hi68 => simp only [List.getElem?_toArray, List.getElem?_cons_succ, List.getElem?_cons_zero]; rfl
  case hw68 => rfl
  (try simp only [Act.put, List.setIfInBounds_toArray, List.set_cons_zero, List.set_cons_succ])
  refine wpAnyH_take (i := 16) (oi := ?oi69) (v := undef) ?hi69 (by kernel_rfl) (by kernel_rfl) (by kernel_rfl) (fun _ _ _ h => h) (Or.inr ⟨?hw69, rfl⟩) (by assumption) ?rest69
  case hi69 => simp only [List.getElem?_toArray, List.getElem?_cons_succ, List.getElem?_cons_zero]; rfl
  case hw69 => rfl
  (try simp only [Act.put, List.setIfInBounds_toArray, List.set_cons_zero, List.set_cons_succ])
  refine wpAnyH_take (i := 17) (oi := ?oi70) (v := undef) ?hi70 (by kernel_rfl) (by kernel_rfl) (by kernel_rfl) (fun _ _ _ h => h) (Or.inr ⟨?hw70, rfl⟩) (by assumption) ?rest70
  case hi70 => simp only [List.getElem?_toArray, List.getElem?_cons_succ, List.getElem?_cons_zero]; rfl
  case hw70 => rfl
  (try simp only [Act.put, List.setIfInBounds_toArray, List.set_cons_zero, List.set_cons_succ])
  refine wpAnyH_take (i := 18) (oi := ?oi71) (v := undef) ?hi71 (by kernel_rfl) (by kernel_rfl) (by kernel_rfl) (fun _ _ _ h => h) (Or.inr ⟨?hw71, rfl⟩) (by assumption) ?rest71
  case hi71 => simp only [List.getElem?_toArray, List.getElem?_cons_succ, List.getElem?_cons_zero]; rfl
  case hw71 => rfl
  (try simp only [Act.put, List.setIfInBounds_toArray, List.set_cons_zero, List.set_cons_succ])
  refine wpAnyH_take (i := 19) (oi := ?oi72) (v := undef) ?hi72 (by kernel_rfl) (by kernel_rfl) (by kernel_rfl) (fun _ _ _ h => h) (Or.inr ⟨?hw72, rfl⟩) (by assumption) ?rest72
  case hi72 => simp only [List.getElem?_toArray, List.getElem?_cons_succ, List.getElem?_cons_zero]; rfl
  case hw72 => rfl
  (try simp only [Act.put, List.setIfInBounds_toArray, List.set_cons_zero, List.set_cons_succ])
  refine wpAnyH_take (i := 20) (oi := ?oi73) (v := undef) ?hi73 (by kernel_rfl) (by kernel_rfl) (by kernel_rfl) (fun _ _ _ h => h) (Or.inr ⟨?hw73, rfl⟩) (by assumption) ?rest73
  case hi73 => simp only [List.getElem?_toArray, List.getElem?_cons_succ, List.getElem?_cons_zero]; rfl
  case hw73 => rfl
  (try simp only [Act.put, List.setIfInBounds_toArray, List.set_cons_zero, List.set_cons_succ])
  refine wpAnyH_take (i := 21) (oi := ?oi74) (v := undef) ?hi74 (by kernel_rfl) (by kernel_rfl) (by kernel_rfl) (fun _ _ _ h => h) (Or.inr ⟨?hw74, rfl⟩) (by assumption) ?rest74
  case hi74 => simp only [List.getElem?_toArray, List.getElem?_cons_succ, List.getElem?_cons_zero]; rfl
  case hw74 => rfl
  (try simp only [Act.put, List.setIfInBounds_toArray, List.set_cons_zero, List.set_cons_succ])
  refine wpAnyH_take (i := 22) (oi := ?oi75) (v := undef) ?hi75 (by kernel_rfl) (by kernel_rfl) (by kernel_rfl) (fun _ _ _ h => h) (Or.inr ⟨?hw75, rfl⟩) (by assumption) ?rest75
  case hi75 => simp only [List.getElem?_toArray, List.getElem?_cons_succ, List.getElem?_cons_zero]; rfl
  case hw75 => rfl
  (try simp only [Act.put, List.setIfInBounds_toArray, List.set_cons_zero, List.set_cons_succ])
  refine wpAnyH_take (i := 23) (oi := ?oi76) (v := undef) ?hi76 (by kernel_rfl) (by kernel_rfl) (by kernel_rfl) (fun _ _ _ h => h) (Or.inr ⟨?hw76, rfl⟩) (by assumption) ?rest76
  case hi76 => simp only [List.getElem?_toArray, List.getElem?_cons_succ, List.getElem?_cons_zero]; rfl
  case hw76 => rfl
  (try simp only [Act.put, List.setIfInBounds_toArray, List.set_cons_zero, List.set_cons_succ])
  refine wpAnyH_take (i := 24) (oi := ?oi77) (v := ?v77) ?hi77 (by kernel_rfl) (by kernel_rfl) (by kernel_rfl) (fun _ _ _ h => h) (Or.inl ⟨?hw77, ?hy77⟩) (by assumption) ?rest77
  case hi77 => simp only [List.getElem?_toArray, List.getElem?_cons_succ, List.getElem?_cons_zero]; rfl
  case hw77 => rfl
  case hy77 =>
    intro w hSw
    (try dsimp only at hSw)
    go_simp
    (try with_reducible rfl)
  (try simp only [Act.put, List.setIfInBounds_toArray, List.set_cons_zero, List.set_cons_succ])
  refine wpAnyH_take (i := 25) (oi := ?oi78) (v := ?v78) ?hi78 (by kernel_rfl) (by kernel_rfl) (by kernel_rfl) (fun _ _ _ h => h) (Or.inl ⟨?hw78, ?hy78⟩) (by assumption) ?rest78
  case hi78 => simp only [List.getElem?_toArray, List.getElem?_cons_succ, List.getElem?_cons_zero]; rfl
  case hw78 => rfl
  case hy78 =>
    intro w hSw
    (try dsimp only at hSw)
    go_simp
    (try with_reducible rfl)
  (try simp only [Act.put, List.setIfInBounds_toArray, List.set_cons_zero, List.set_cons_succ])
  have E : Hid (Below y7.heap.size y7 y7.drew) := (Below.refl _ _).drew
  refine wpAnyH_done (by kernel_rfl) ?_ _
  refine NoPanic.normal ?_
  (try dsimp only [Exit.then])
  have D := Lib.hid (chain D.out E.out)
  have T9 := Lib.hid (T9.out.next E.out)
  have T10 := Lib.hid (T10.out.next E.out)
  have T12 := Lib.hid (T12.out.next E.out)
  have T14 := Lib.hid (T14.out.next E.out)
  obtain ⟨y9, hy9⟩ : ∃ y9 : World, y9 = y7.drew := ⟨_, rfl⟩
  rw [← hy9] at D T9 T10 T12 T14
  rw [← hy9]
  clear hy9 E k12a k12b k12c k12d hHeld
  obtain ⟨⟨k9a, k9b, k9c, k9d⟩, _⟩ := T9.out
  obtain ⟨k14a, k14b, _⟩ := T14.out
  go_wp2_with fail
  refine (H_rv.out _).mono ?_
  rintro e y11 ⟨rfl, b9⟩
  have E := Lib.hid b9
  have D := Lib.hid (chain D.out E.out)
  have T9 := Lib.hid (T9.out.next E.out)
  have T10 := Lib.hid (T10.out.next E.out)
  have T12 := Lib.hid (T12.out.next E.out)
  have T14 := Lib.hid (T14.out.next E.out)
  clear b9 E k9a k9b k9c k9d k14a k14b
  obtain ⟨k0, k1, _⟩ := I1.out.next D.out
  obtain ⟨k2, k3, _⟩ := I2.out.next D.out
  obtain ⟨k14a, k14b, _⟩ := T14.out
  go_wp2_with fail
  refine (H_val.out _ _ (WL.two _ _ _ _ _ _)).mono ?_
  rintro e yv ⟨rfl, b9⟩
  have E := Lib.hid (chain (below_one _ _) b9)
  have D := Lib.hid (chain D.out E.out)
  have T9 := Lib.hid (T9.out.next E.out)
  have T10 := Lib.hid (T10.out.next E.out)
  have T12 := Lib.hid (T12.out.next E.out)
  have T14 := Lib.hid (T14.out.next E.out)
  clear b9 E k14a k14b
  clear k0 k1 k2 k3
  obtain ⟨k0, k1, _⟩ := I1.out.next D.out
  obtain ⟨k2, k3, _⟩ := I2.out.next D.out
  obtain ⟨⟨k10a, k10b, k10c, k10d⟩, _⟩ := T10.out
  go_wp2_with fail
  refine (H_known.out _).mono ?_
  rintro e x1 ⟨rfl, b1⟩
  have HZ := Lib.hid (chain hb0.out (chain D.out b1))
  clear b1
  go_wp2
  go_ret
  exact ⟨rfl, HZ.out⟩

set_option maxRecDepth 100000 in
set_option maxHeartbeats 8000000 in
theorem ratios_zero_d1 (a b : Bool) (s t : ByteArray) (n d : Int) (w : World) (l1 : s.size ≤ 60) (l2 : t.size ≤ 60) (hsh : shortL [(a, s), (b, t)] = true) (hvl : validL [(a, s), (b, t)] = true) (h0 : t = ⟨#[]⟩) (hd : ¬ d = 0) (ya yb : Bool) (ta tb : ByteArray) (q1 q2 : Int)
    (h_ra : ∀ w, Calls Tryz.prog 9 #[.agg #[.bool a, .string s], .agg #[.bool b, .string t]] w fun e w' => e = .returned (.tuple #[.agg #[.bool false, .string ⟨#[]⟩, .bool false, .string ⟨#[]⟩], .int .i64 3]) ∧ Below w.heap.size w w')
    (h_ro : ∀ w, Calls Tryz.prog 10 #[.int .i64 n, .int .i64 d] w fun e w' => e = .returned (.tuple #[.agg #[.bool ya, .string ta, .bool yb, .string tb], .int .i64 0]) ∧ Below w.heap.size w w')
    (h_fl : ∀ w, Calls Tryz.prog 11 #[.agg #[.bool a, .string s, .bool b, .string t]] w fun e w' => e = .returned (.tuple #[.agg #[.bool false, .string ⟨#[]⟩], .int .i64 2]) ∧ Below w.heap.size w w')
    (h_vr : ∀ w, Calls Tryz.prog 12 #[.agg #[.bool a, .string s, .bool b, .string t]] w fun e w' => e = .returned (.bool false) ∧ Below w.heap.size w w')
    (h_rv : ∀ w, Calls Tryz.prog 13 #[.agg #[.bool a, .string s, .bool b, .string t]] w fun e w' => e = .returned (.bool false) ∧ Below w.heap.size w w')
    (h_n1 : ∀ w, Calls Tryz.prog 16 #[.int .i64 n] w (IntPost n w))
    (h_n2 : ∀ w, Calls Tryz.prog 16 #[.int .i64 d] w (IntPost d w))
    (h_lo1 : ∀ v1 v2 w, Rz w v1 n → Rz w v2 d → Calls Tryz.prog 15 #[iV n v1, iV d v2] w (RQPost q1 q2 w))
    (h_sa1 : ∀ v1 v2 w, Rz w v1 q1 → Rz w v2 q2 → Calls Tryz.prog 14 #[.agg #[.bool ya, .string ta, .bool yb, .string tb], .int .i64 0, qV q1 q2 v1 v2] w fun e w' => e = .returned (.bool true) ∧ Below w.heap.size w w') :
    Calls Tryz.prog 3 #[.agg #[.bool a, .string s], .agg #[.bool b, .string t], .int .i64 n, .int .i64 d] w (Ret (.bool true) w) := by
  subst h0
  have hd2 : (d == 0) = false := by simp [hd]
  have hd3 : (d != 0) = true := by simp [hd]
  have H_ra := Lib.hid h_ra
  have H_ro := Lib.hid h_ro
  have H_fl := Lib.hid h_fl
  have H_vr := Lib.hid h_vr
  have H_rv := Lib.hid h_rv
  have H_n1 := Lib.hid h_n1
  have H_n2 := Lib.hid h_n2
  have H_lo1 := Lib.hid h_lo1
  have H_sa1 := Lib.hid h_sa1
  clear h_ra h_ro h_fl h_vr h_rv h_n1 h_n2 h_lo1 h_sa1
  unfold IntPost at H_n1 H_n2
  unfold RQPost at H_lo1
  unfold qV at H_lo1 H_sa1
  unfold iV at H_n1 H_n2 H_lo1
  generalize decide (n < 0) = bn at *
  generalize decide (d < 0) = bd at *
  generalize decide (q1 < 0) = bq1 at *
  generalize decide (q2 < 0) = bq2 at *
  have H_known := Lib.hid known_true
  obtain ⟨w0, hw0⟩ : ∃ w0 : World, w0 = ((w.alloc (.cells #[.bool a, .string s] 23)).alloc (.cells #[.bool b, .string ⟨#[]⟩] 23)).alloc (.cells #[.bool a, .string s, .bool b, .string ⟨#[]⟩] 23) := ⟨_, rfl⟩
  have hb0 : Hid (Below w.heap.size w w0) := by rw [hw0]; exact (((Below.refl _ _).alloc (Nat.le_refl _) _).alloc (by simp) _).alloc (by simp; omega) _
  have I1 : Hid (ZC (.bool a) (.string s) w0 w.heap.size) := by rw [hw0]; exact ((ZC.new rfl).alloc _).alloc _
  have I2 : Hid (ZC (.bool b) (.string ⟨#[]⟩) w0 (w.heap.size + 1)) := by rw [hw0]; exact (ZC.new (by simp)).alloc _
  have Hsz : Hid (w.heap.size + 3 ≤ w0.heap.size) := by rw [hw0]; show _ ≤ _; simp
  have HSH := short_any [(a, s), (b, ⟨#[]⟩)] 2 (w.heap.size + 1 + 1) w0 rfl (by decide) (by rw [hw0]; have := WL.two ((w.alloc (.cells #[.bool a, .string s] 23)).alloc (.cells #[.bool b, .string ⟨#[]⟩] 23)) a b s ⟨#[]⟩ 23; simpa using this)
  rw [hsh] at HSH
  have H_val := Lib.hid (fun g w h => valid_any [(a, s), (b, ⟨#[]⟩)] 2 g w rfl (by decide) h (by intro x hx; simp at hx; rcases hx with rfl | rfl <;> (show _ ≤ _; simp; omega)))
  rw [hvl] at H_val
  unfold BPost at H_val
  clear hvl
  have HSh := Lib.hid HSH
  have Hw0 := Lib.hid hw0
  clear HSH hw0 hsh
  unfold Ret at *
  unfold BPost at HSh
  go_enter Tryz.func3, Tryz.ntmps3
  go_wp2_with fail
  rw [← Hw0.out]
  refine HSh.out.mono ?_
  rintro e x0 ⟨rfl, b0⟩
  have D := Lib.hid b0
  clear b0
  obtain ⟨k0, k1, _⟩ := I1.out.next D.out
  obtain ⟨k2, k3, _⟩ := I2.out.next D.out
  have b9 := Below.refl x0.heap.size x0
  have j1 : ¬ w.heap.size = x0.heap.size := Nat.ne_of_lt (World.block_lt_of_cell? _ _ k0)
  have j2 : ¬ w.heap.size + 1 = x0.heap.size := Nat.ne_of_lt (World.block_lt_of_cell? _ _ k2)
  obtain ⟨u9, hu9⟩ : ∃ u : World, u = x0.alloc (.cells #[.bool a, .string s, .bool b, .string ⟨#[]⟩] 27) := ⟨_, rfl⟩
  have E : Hid (Below x0.heap.size x0 u9) := by rw [hu9]; exact b9.alloc b9.size _
  have D := Lib.hid (chain D.out E.out)
  have T9 : Hid (ZC4 (.bool a) (.string s) (.bool b) (.string ⟨#[]⟩) u9 x0.heap.size) := by rw [hu9]; exact ZC4.made0 _
  have Hu9 := Lib.hid hu9
  clear hu9 b9 E
  go_upto_region 4 with (fail)
  rw [← Hu9.out]
  clear Hu9
  clear j1 j2
  clear k0 k1 k2 k3
  obtain ⟨k0, k1, _⟩ := I1.out.next D.out
  obtain ⟨k2, k3, _⟩ := I2.out.next D.out
  go_wp2_with fail
  refine (H_ra.out _).mono ?_
  rintro e y10 ⟨rfl, b9⟩
  obtain ⟨u10, hu10⟩ : ∃ u : World, u = y10.alloc (.cells #[.bool false, .string ⟨#[]⟩, .bool false, .string ⟨#[]⟩] 27) := ⟨_, rfl⟩
  have E : Hid (Below u9.heap.size u9 u10) := by rw [hu10]; exact b9.alloc b9.size _
  have D := Lib.hid (chain D.out E.out)
  have T9 := Lib.hid (T9.out.next E.out)
  have T10 : Hid (ZC4 (.bool false) (.string ⟨#[]⟩) (.bool false) (.string ⟨#[]⟩) u10 y10.heap.size) := by rw [hu10]; exact ZC4.made0 _
  have Hu10 := Lib.hid hu10
  clear hu10 b9 E
  go_upto_region 5 with (fail)
  rw [← Hu10.out]
  clear Hu10
  clear k0 k1 k2 k3
  go_wp2_with fail
  refine (H_ro.out _).mono ?_
  rintro e y12 ⟨rfl, b9⟩
  obtain ⟨u12, hu12⟩ : ∃ u : World, u = y12.alloc (.cells #[.bool ya, .string ta, .bool yb, .string tb] 27) := ⟨_, rfl⟩
  have E : Hid (Below u10.heap.size u10 u12) := by rw [hu12]; exact b9.alloc b9.size _
  have D := Lib.hid (chain D.out E.out)
  have T9 := Lib.hid (T9.out.next E.out)
  have T10 := Lib.hid (T10.out.next E.out)
  have T12 : Hid (ZC4 (.bool ya) (.string ta) (.bool yb) (.string tb) u12 y12.heap.size) := by rw [hu12]; exact ZC4.made0 _
  have Hu12 := Lib.hid hu12
  clear hu12 b9 E
  go_upto_region 6 with (fail)
  rw [← Hu12.out]
  clear Hu12
  obtain ⟨⟨k9a, k9b, k9c, k9d⟩, _⟩ := T9.out
  go_wp2_with fail
  refine (H_fl.out _).mono ?_
  rintro e y14 ⟨rfl, b9⟩
  clear k9a k9b k9c k9d
  obtain ⟨u14, hu14⟩ : ∃ u : World, u = y14.alloc (.cells #[.bool false, .string ⟨#[]⟩] 23) := ⟨_, rfl⟩
  have E : Hid (Below u12.heap.size u12 u14) := by rw [hu14]; exact b9.alloc b9.size _
  have D := Lib.hid (chain D.out E.out)
  have T9 := Lib.hid (T9.out.next E.out)
  have T10 := Lib.hid (T10.out.next E.out)
  have T12 := Lib.hid (T12.out.next E.out)
  have T14 : Hid (ZC (.bool false) (.string ⟨#[]⟩) u14 y14.heap.size) := by rw [hu14]; exact ZC.new rfl
  have Hu14 := Lib.hid hu14
  clear hu14 b9 E
  go_upto_region 7 with (fail)
  rw [← Hu14.out]
  clear Hu14
  obtain ⟨⟨k9a, k9b, k9c, k9d⟩, _⟩ := T9.out
  go_region_held3 (fun W' => W'.cell? ⟨x0.heap.size, 0, none⟩ = some (.bool a) ∧ W'.cell? ⟨x0.heap.size, 1, none⟩ = some (.string s) ∧ W'.cell? ⟨x0.heap.size, 2, none⟩ = some (.bool b) ∧ W'.cell? ⟨x0.heap.size, 3, none⟩ = some (.string ⟨#[]⟩)) (go_keep)
    (first
      | (go_at_call 12; (with_reducible refine (H_vr.out _).mono ?_); rintro e y ⟨rfl, b9⟩; have E := Lib.hid (show Below u14.heap.size u14 y by first | exact chain E.out b9 | exact chain ((Below.refl _ _).drew) b9); have p9a := keep1 E.out k9a; have p9b := keep1 E.out k9b; have p9c := keep1 E.out k9c; have p9d := keep1 E.out k9d; clear b9)
      | (go_at_call 13; (with_reducible refine (H_rv.out _).mono ?_); rintro e y ⟨rfl, b9⟩; have E := Lib.hid (show Below u14.heap.size u14 y by first | exact chain E.out b9 | exact chain ((Below.refl _ _).drew) b9); have p9a := keep1 E.out k9a; have p9b := keep1 E.out k9b; have p9c := keep1 E.out k9c; have p9d := keep1 E.out k9d; clear b9)
      | fail)
  have D := Lib.hid (chain D.out E.out)
  have T9 := Lib.hid (T9.out.next E.out)
  have T10 := Lib.hid (T10.out.next E.out)
  have T12 := Lib.hid (T12.out.next E.out)
  have T14 := Lib.hid (T14.out.next E.out)
  obtain ⟨y7, hy7⟩ : ∃ y7 : World, y7 = y := ⟨_, rfl⟩
  subst hy7
  clear E k9a k9b k9c k9d p9a p9b p9c p9d
  obtain ⟨⟨k12a, k12b, k12c, k12d⟩, _⟩ := T12.out
  go_upto_region 9 with (fail)
  refine wp_region_noPanic ?_
  refine wp_region_held_drew (S := (fun W' => W'.cell? ⟨y12.heap.size, 0, none⟩ = some (.bool ya) ∧ W'.cell? ⟨y12.heap.size, 1, none⟩ = some (.string ta) ∧ W'.cell? ⟨y12.heap.size, 2, none⟩ = some (.bool yb) ∧ W'.cell? ⟨y12.heap.size, 3, none⟩ = some (.string tb))) (by kernel_rfl) ?_ (fun hHeld => ?_)
  · exact ⟨k12a, k12b, k12c, k12d⟩
  refine wpAnyH_take (i := 0) (oi := ?oi79) (v := ?v79) ?hi79 (by kernel_rfl) (by kernel_rfl) (by kernel_rfl) (fun _ _ _ h => h) (Or.inl ⟨?hw79, ?hy79⟩) (by assumption) ?rest79
  case hi79 => simp only [List.getElem?_toArray, List.getElem?_cons_succ, List.getElem?_cons_zero]; rfl
  case hw79 => rfl
  case hy79 =>
    intro w hSw
    (try dsimp only at hSw)
    go_simp
    (try with_reducible rfl)
  (try simp only [Act.put, List.setIfInBounds_toArray, List.set_cons_zero, List.set_cons_succ])
  refine wpAnyH_take (i := 1) (oi := ?oi80) (v := ?v80) ?hi80 (by kernel_rfl) (by kernel_rfl) (by kernel_rfl) (fun _ _ _ h => h) (Or.inl ⟨?hw80, ?hy80⟩) (by assumption) ?rest80
  case hi80 => simp only [List.getElem?_toArray, List.getElem?_cons_succ, List.getElem?_cons_zero]; rfl
  case hw80 => rfl
  case hy80 =>
    intro w hSw
    (try dsimp only at hSw)
    go_simp
    (try with_reducible rfl)
  (try simp only [Act.put, List.setIfInBounds_toArray, List.set_cons_zero, List.set_cons_succ])
  refine wpAnyH_take (i := 2) (oi := ?oi81) (v := ?v81) ?hi81 (by kernel_rfl) (by kernel_rfl) (by kernel_rfl) (fun _ _ _ h => h) (Or.inl ⟨?hw81, ?hy81⟩) (by assumption) ?rest81
  case hi81 => simp only [List.getElem?_toArray, List.getElem?_cons_succ, List.getElem?_cons_zero]; rfl
  case hw81 => rfl
  case hy81 =>
    intro w hSw
    (try dsimp only at hSw)
    go_simp
    (try with_reducible rfl)
  (try simp only [Act.put, List.setIfInBounds_toArray, List.set_cons_zero, List.set_cons_succ])
  refine wpAnyH_take (i := 3) (oi := ?oi82) (v := undef) ?hi82 (by kernel_rfl) (by kernel_rfl) (by kernel_rfl) (fun _ _ _ h => h) (Or.inr ⟨?hw82, rfl⟩) (by assumption) ?rest82
  case hi82 => simp only [List.getElem?_toArray, List.getElem?_cons_succ, List.getElem?_cons_zero]; rfl
  case hw82 => rfl
  (try simp only [Act.put, List.setIfInBounds_toArray, List.set_cons_zero, List.set_cons_succ])
  refine wpAnyH_take (i := 4) (oi := ?oi83) (v := undef) ?hi83 (by kernel_rfl) (by kernel_rfl) (by kernel_rfl) (fun _ _ _ h => h) (Or.inr ⟨?hw83, rfl⟩) (by assumption) ?rest83
  case hi83 => simp only [List.getElem?_toArray, List.getElem?_cons_succ, List.getElem?_cons_zero]; rfl
  case hw83 => rfl
  (try simp only [Act.put, List.setIfInBounds_toArray, List.set_cons_zero, List.set_cons_succ])
  refine wpAnyH_take (i := 5) (oi := ?oi84) (v := undef) ?hi84 (by kernel_rfl) (by kernel_rfl) (by kernel_rfl) (fun _ _ _ h => h) (Or.inr ⟨?hw84, rfl⟩) (by assumption) ?rest84
  case hi84 => simp only [List.getElem?_toArray, List.getElem?_cons_succ, List.getElem?_cons_zero]; rfl
  case hw84 => rfl
  (try simp only [Act.put, List.setIfInBounds_toArray, List.set_cons_zero, List.set_cons_succ])
  refine wpAnyH_take (i := 6) (oi := ?oi85) (v := undef) ?hi85 (by kernel_rfl) (by kernel_rfl) (by kernel_rfl) (fun _ _ _ h => h) (Or.inr ⟨?hw85, rfl⟩) (by assumption) ?rest85
  case hi85 => simp only [List.getElem?_toArray, List.getElem?_cons_succ, List.getElem?_cons_zero]; rfl
  case hw85 => rfl
  (try simp only [Act.put, List.setIfInBounds_toArray, List.set_cons_zero, List.set_cons_succ])
  refine wpAnyH_take (i := 7) (oi := ?oi86) (v := undef) ?hi86 (by kernel_rfl) (by kernel_rfl) (by kernel_rfl) (fun _ _ _ h => h) (Or.inr ⟨?hw86, rfl⟩) (by assumption) ?rest86
  case hi86 => simp only [List.getElem?_toArray, List.getElem?_cons_succ, List.getElem?_cons_zero]; rfl
  case hw86 => rfl
  (try simp only [Act.put, List.setIfInBounds_toArray, List.set_cons_zero, List.set_cons_succ])
  refine wpAnyH_take (i := 8) (oi := ?oi87) (v := undef) ?hi87 (by kernel_rfl) (by kernel_rfl) (by kernel_rfl) (fun _ _ _ h => h) (Or.inr ⟨?hw87, rfl⟩) (by assumption) ?rest87
  case hi87 => simp only [List.getElem?_toArray, List.getElem?_cons_succ, List.getElem?_cons_zero]; rfl
  case hw87 => rfl
  (try simp only [Act.put, List.setIfInBounds_toArray, List.set_cons_zero, List.set_cons_succ])
  refine wpAnyH_take (i := 9) (oi := ?oi88) (v := undef) ?hi88 (by kernel_rfl) (by kernel_rfl) (by kernel_rfl) (fun _ _ _ h => h) (Or.inr ⟨?hw88, rfl⟩) (by assumption) ?rest88
  case hi88 => simp only [List.getElem?_toArray, List.getElem?_cons_succ, List.getElem?_cons_zero]; rfl
  case hw88 => rfl
  (try simp only [Act.put, List.setIfInBounds_toArray, List.set_cons_zero, List.set_cons_succ])
  refine wpAnyH_take (i := 10) (oi := ?oi89) (v := ?v89) ?hi89 (by kernel_rfl) (by kernel_rfl) (by kernel_rfl) (fun _ _ _ h => h) (Or.inl ⟨?hw89, ?hy89⟩) (by assumption) ?rest89
  case hi89 => simp only [List.getElem?_toArray, List.getElem?_cons_succ, List.getElem?_cons_zero]; rfl
  case hw89 => rfl
  case hy89 =>
    intro w hSw
    (try dsimp only at hSw)
    go_simp
    (try with_reducible rfl)
  (try simp only [Act.put, List.setIfInBounds_toArray, List.set_cons_zero, List.set_cons_succ])
  refine wpAnyH_take (i := 11) (oi := ?oi90) (v := ?v90) ?hi90 (by kernel_rfl) (by kernel_rfl) (by kernel_rfl) (fun _ _ _ h => h) (Or.inl ⟨?hw90, ?hy90⟩) (by assumption) ?rest90
  case hi90 => simp only [List.getElem?_toArray, List.getElem?_cons_succ, List.getElem?_cons_zero]; rfl
  case hw90 => rfl
  case hy90 =>
    intro w hSw
    (try dsimp only at hSw)
    go_simp
    (try with_reducible rfl)
  (try simp only [Act.put, List.setIfInBounds_toArray, List.set_cons_zero, List.set_cons_succ])
  refine wpAnyH_take (i := 12) (oi := ?oi91) (v := ?v91) ?hi91 (by kernel_rfl) (by kernel_rfl) (by kernel_rfl) (fun _ _ _ h => h) (Or.inl ⟨?hw91, ?hy91⟩) (by assumption) ?rest91
  case hi91 => simp only [List.getElem?_toArray, List.getElem?_cons_succ, List.getElem?_cons_zero]; rfl
  case hw91 => rfl
  case hy91 =>
    intro w hSw
    (try dsimp only at hSw)
    go_simp
    (try with_reducible rfl)
  (try simp only [Act.put, List.setIfInBounds_toArray, List.set_cons_zero, List.set_cons_succ])
  refine wpAnyH_take (i := 13) (oi := ?oi92) (v := ?v92) ?hi92 (by kernel_rfl) (by kernel_rfl) (by kernel_rfl) (fun _ _ _ h => h) (Or.inl ⟨?hw92, ?hy92⟩) (by assumption) ?rest92
  case hi92 => simp only [List.getElem?_toArray, List.getElem?_cons_succ, List.getElem?_cons_zero]; rfl
  case hw92 => rfl
  case hy92 =>
    intro w hSw
    (try dsimp only at hSw)
    go_simp
    (try with_reducible rfl)
  (try simp only [Act.put, List.setIfInBounds_toArray, List.set_cons_zero, List.set_cons_succ])
  refine wpAnyH_take (i := 14) (oi := ?oi93) (v := ?v93) ?hi93 (by kernel_rfl) (by kernel_rfl) (by kernel_rfl) (fun _ _ _ h => h) (Or.inl ⟨?hw93, ?hy93⟩) (by assumption) ?rest93
  case hi93 => simp only [List.getElem?_toArray, List.getElem?_cons_succ, List.getElem?_cons_zero]; rfl
  case hw93 => rfl
  case hy93 =>
    intro w hSw
    (try dsimp only at hSw)
    go_simp
    (try with_reducible rfl)
  (try simp only [Act.put, List.setIfInBounds_toArray, List.set_cons_zero, List.set_cons_succ])
  refine wpAnyH_take (i := 15) (oi := ?oi94) (v := ?v94) ?hi94 (by kernel_rfl) (by kernel_rfl) (by kernel_rfl) (fun _ _ _ h => h) (Or.inl ⟨?hw94, ?hy94⟩) (by assumption) ?rest94
  case hi94 => simp only [List.getElem?_toArray, List.getElem?_cons_succ, List.getElem?_cons_zero]; rfl
  case hw94 => rfl
  case hy94 =>
    intro w hSw
    (try dsimp only at hSw)
    go_simp
    (try with_reducible rfl)
  (try simp only [Act.put, List.setIfInBounds_toArray, List.set_cons_zero, List.set_cons_succ])
  refine wpAnyH_take (i := 16) (oi := ?oi95) (v := ?v95) ?hi95 (by kernel_rfl) (by kernel_rfl) (by kernel_rfl) (fun _ _ _ h => h) (Or.inl ⟨?hw95, ?hy95⟩) (by assumption) ?rest95
  case hi95 => simp only [List.getElem?_toArray, List.getElem?_cons_succ, List.getElem?_cons_zero]; rfl
  case hw95 => rfl
  case hy95 =>
    intro w hSw
    (try dsimp only at hSw)
    go_simp
    (try with_reducible rfl)
  (try simp only [Act.put, List.setIfInBounds_toArray, List.set_cons_zero, List.set_cons_succ])
  refine wpAnyH_take (i := 17) (oi := ?oi96) (v := ?v96) ?hi96 (by kernel_rfl) (by kernel_rfl) (by kernel_rfl) (fun _ _ _ h => h) (Or.inl ⟨?hw96, ?hy96⟩) (by assumption) ?rest96
  case hi96 => simp only [List.getElem?_toArray, List.getElem?_cons_succ, List.getElem?_cons_zero]; rfl
  case hw96 => rfl
  case hy96 =>
    intro w hSw
    (try dsimp only at hSw)
    go_simp
    (try with_reducible rfl)
  (try simp only [Act.put, List.setIfInBounds_toArray, List.set_cons_zero, List.set_cons_succ])
  refine wpAnyH_take (i := 19) (oi := ?oi97) (v := ?v97) ?hi97 (by kernel_rfl) (by kernel_rfl) (by kernel_rfl) (fun _ _ _ h => h) (Or.inl ⟨?hw97, ?hy97⟩) (by assumption) ?rest97
  case hi97 => simp only [List.getElem?_toArray, List.getElem?_cons_succ, List.getElem?_cons_zero]; rfl
  case hw97 => rfl
  case hy97 =>
    intro w hSw
    (try dsimp only at hSw)
    go_simp
    (try with_reducible rfl)
  (try simp only [Act.put, List.setIfInBounds_toArray, List.set_cons_zero, List.set_cons_succ])
  refine wpAnyH_ready (rs := [18]) (by kernel_rfl) (by simp) ?_
  refine AllReadyH.cons (o := ?oi98) ?hi98 ?rest98 AllReadyH.nil
  case hi98 => simp only [List.getElem?_toArray, List.getElem?_cons_succ, List.getElem?_cons_zero]; rfl
  intro K hK
  go_simp
  (with_reducible refine (H_n1.out _).mono ?_)
  rintro e y ⟨v1, rfl, r1, b9⟩
  have E := Lib.hid (show Below y7.heap.size y7 y by first | exact chain E.out b9 | exact chain ((Below.refl y7.heap.size y7).drew) b9)
  have p0 := keep1 E.out k12a
  have p1 := keep1 E.out k12b
  have p2 := keep1 E.out k12c
  have p3 := keep1 E.out k12d
  have G1 := Lib.hid r1
  obtain ⟨pp1, bb1, oo1, cc1, rfl, rr1⟩ := r1
  clear rr1 b9
  (try go_wp2_with fail)
  refine hK.out _ _ ?_ (fun hHeld => ?_)
  · (try dsimp only)
    exact ⟨p0, p1, p2, p3⟩
  clear hK K
  (try simp only [Act.put, List.setIfInBounds_toArray, List.set_cons_zero, List.set_cons_succ])
  refine wpAnyH_ready (rs := [20]) (by kernel_rfl) (by simp) ?_
  refine AllReadyH.cons (o := ?oi99) ?hi99 ?rest99 AllReadyH.nil
  case hi99 => simp only [List.getElem?_toArray, List.getElem?_cons_succ, List.getElem?_cons_zero]; rfl
  intro K hK
  go_simp
  (with_reducible refine (H_n2.out _).mono ?_)
  rintro e y ⟨v2, rfl, r2, b9⟩
  have E := Lib.hid (show Below y7.heap.size y7 y by first | exact chain E.out b9 | exact chain ((Below.refl y7.heap.size y7).drew) b9)
  have p0 := keep1 E.out k12a
  have p1 := keep1 E.out k12b
  have p2 := keep1 E.out k12c
  have p3 := keep1 E.out k12d
  have G1 := Lib.hid (Ri.below G1.out b9 (Nat.le_refl _))
  have G2 := Lib.hid r2
  obtain ⟨pp2, bb2, oo2, cc2, rfl, rr2⟩ := r2
  clear rr2 b9
  (try go_wp2_with fail)
  refine hK.out _ _ ?_ (fun hHeld => ?_)
  · (try dsimp only)
    exact ⟨p0, p1, p2, p3⟩
  clear hK K
  (try simp only [Act.put, List.setIfInBounds_toArray, List.set_cons_zero, List.set_cons_succ])
  refine wpAnyH_ready (rs := [21]) (by kernel_rfl) (by simp) ?_
  refine AllReadyH.cons (o := ?oi100) ?hi100 ?rest100 AllReadyH.nil
  case hi100 => simp only [List.getElem?_toArray, List.getElem?_cons_succ, List.getElem?_cons_zero]; rfl
  intro K hK
  go_simp
  (with_reducible refine (H_lo1.out _ _ _ G1.out G2.out).mono ?_)
  rintro e y ⟨v3, v4, rfl, r3, r4, b9⟩
  have E := Lib.hid (show Below y7.heap.size y7 y by first | exact chain E.out b9 | exact chain ((Below.refl y7.heap.size y7).drew) b9)
  have p0 := keep1 E.out k12a
  have p1 := keep1 E.out k12b
  have p2 := keep1 E.out k12c
  have p3 := keep1 E.out k12d
  have G3 := Lib.hid r3
  have G4 := Lib.hid r4
  obtain ⟨pp3, bb3, oo3, cc3, rfl, rr3⟩ := r3
  obtain ⟨pp4, bb4, oo4, cc4, rfl, rr4⟩ := r4
  clear rr3 rr4 b9
  (try go_wp2_with fail)
  refine hK.out _ _ ?_ (fun hHeld => ?_)
  · (try dsimp only)
    exact ⟨p0, p1, p2, p3⟩
  clear hK K
  (try simp only [Act.put, List.setIfInBounds_toArray, List.set_cons_zero, List.set_cons_succ])
  refine wpAnyH_ready (rs := [22]) (by kernel_rfl) (by simp) ?_
  refine AllReadyH.cons (o := ?oi101) ?hi101 ?rest101 AllReadyH.nil
  case hi101 => simp only [List.getElem?_toArray, List.getElem?_cons_succ, List.getElem?_cons_zero]; rfl
  intro K hK
  go_simp
  (with_reducible refine (H_sa1.out _ _ _ G3.out G4.out).mono ?_)
  rintro e y ⟨rfl, b9⟩
  have E := Lib.hid (show Below y7.heap.size y7 y by first | exact chain E.out b9 | exact chain ((Below.refl y7.heap.size y7).drew) b9)
  have p0 := keep1 E.out k12a
  have p1 := keep1 E.out k12b
  have p2 := keep1 E.out k12c
  have p3 := keep1 E.out k12d
  clear b9
  (try go_wp2_with fail)
  refine hK.out _ _ ?_ (fun hHeld => ?_)
  · (try dsimp only)
    exact ⟨p0, p1, p2, p3⟩
  clear hK K
  (try simp only [Act.put, List.setIfInBounds_toArray, List.set_cons_zero, List.set_cons_succ])
  refine wpAnyH_take (i := 23) (oi := ?oi102) (v := ?v102) ?hi102 (by kernel_rfl) (by kernel_rfl) (by kernel_rfl) (fun _ _ _ h => h) (Or.inl ⟨?hw102, ?hy102⟩) (by assumption) ?rest102
  case hi102 => simp only [List.getElem?_toArray, List.getElem?_cons_succ, List.getElem?_cons_zero]; rfl
  case hw102 => rfl
  case hy102 =>
    intro w hSw
    (try dsimp only at hSw)
    go_simp
    (try with_reducible rfl)
  (try simp only [Act.put, List.setIfInBounds_toArray, List.set_cons_zero, List.set_cons_succ])
  refine wpAnyH_take (i := 24) (oi := ?oi103) (v := ?v103) ?hi103 (by kernel_rfl) (by kernel_rfl) (by kernel_rfl) (fun _ _ _ h => h) (Or.inl ⟨?hw103, ?hy103⟩) (by assumption) ?rest103
  case hi103 => simp only [List.getElem?_toArray, List.getElem?_cons_succ, List.getElem?_cons_zero]; rfl
  case hw103 => rfl
  case hy103 =>
    intro w hSw
    (try dsimp only at hSw)
    go_simp
    (try with_reducible rfl)
  (try simp only [Act.put, List.setIfInBounds_toArray, List.set_cons_zero, List.set_cons_succ])
  refine wpAnyH_take (i := 25) (oi := ?oi104) (v := ?v104) ?hi104 (by kernel_rfl) (by kernel_rfl) (by kernel_rfl) (fun _ _ _ h => h) (Or.inl ⟨?hw104, ?hy104⟩) (by assumption) ?rest104
  case hi104 => simp only [List.getElem?_toArray, List.getElem?_cons_succ, List.getElem?_cons_zero]; rfl
  case hw104 => rfl
  case hy104 =>
    intro w hSw
    (try dsimp only at hSw)
    go_simp
    (try with_reducible rfl)
  (try simp only [Act.put, List.setIfInBounds_toArray, List.set_cons_zero, List.set_cons_succ])
  refine wpAnyH_done (by kernel_rfl) ?_ _
  refine NoPanic.normal ?_
  (try dsimp only [Exit.then])
  have D := Lib.hid (chain D.out E.out)
  have T9 := Lib.hid (T9.out.next E.out)
  have T10 := Lib.hid (T10.out.next E.out)
  have T12 := Lib.hid (T12.out.next E.out)
  have T14 := Lib.hid (T14.out.next E.out)
  obtain ⟨y9, hy9⟩ : ∃ y9 : World, y9 = y := ⟨_, rfl⟩
  rw [← hy9] at D T9 T10 T12 T14
  rw [← hy9]
  clear hy9 E k12a k12b k12c k12d hHeld
  obtain ⟨⟨k9a, k9b, k9c, k9d⟩, _⟩ := T9.out
  obtain ⟨k14a, k14b, _⟩ := T14.out
  go_wp2_with fail
  refine (H_rv.out _).mono ?_
  rintro e y11 ⟨rfl, b9⟩
  have E := Lib.hid b9
  have D := Lib.hid (chain D.out E.out)
  have T9 := Lib.hid (T9.out.next E.out)
  have T10 := Lib.hid (T10.out.next E.out)
  have T12 := Lib.hid (T12.out.next E.out)
  have T14 := Lib.hid (T14.out.next E.out)
  clear b9 E k9a k9b k9c k9d k14a k14b
  obtain ⟨k0, k1, _⟩ := I1.out.next D.out
  obtain ⟨k2, k3, _⟩ := I2.out.next D.out
  obtain ⟨k14a, k14b, _⟩ := T14.out
  go_wp2_with fail
  refine (H_val.out _ _ (WL.two _ _ _ _ _ _)).mono ?_
  rintro e yv ⟨rfl, b9⟩
  have E := Lib.hid (chain (below_one _ _) b9)
  have D := Lib.hid (chain D.out E.out)
  have T9 := Lib.hid (T9.out.next E.out)
  have T10 := Lib.hid (T10.out.next E.out)
  have T12 := Lib.hid (T12.out.next E.out)
  have T14 := Lib.hid (T14.out.next E.out)
  clear b9 E k14a k14b
  clear k0 k1 k2 k3
  obtain ⟨k0, k1, _⟩ := I1.out.next D.out
  obtain ⟨k2, k3, _⟩ := I2.out.next D.out
  obtain ⟨⟨k10a, k10b, k10c, k10d⟩, _⟩ := T10.out
  go_wp2_with fail
  refine (H_known.out _).mono ?_
  rintro e x1 ⟨rfl, b1⟩
  have HZ := Lib.hid (chain hb0.out (chain D.out b1))
  clear b1
  go_wp2
  go_ret
  exact ⟨rfl, HZ.out⟩
end Go.Proofs.YtlmklhffafcmmaaGreat
