/- VectorValid: the walk over what its calls give. -/
import Derived.Test.YtdicbeaocedkmaaVz
set_option linter.all false
namespace Go.Proofs.Ytdicbeaocedkmaa
open Go.RowKit

set_option maxRecDepth 100000 in
set_option maxHeartbeats 4000000 in
theorem valid_way (x1 x2 x3 y1 y2 y3 k1 k2 : Int) (p q : Bool)
    (H1 : ∀ w, Calls Try.prog 10 #[vv x1 x2 x3] w (Ret (.bool p) w))
    (H2 : ∀ w, Calls Try.prog 11 #[vv x1 x2 x3] w (Ret (.bool p) w))
    (H3 : ∀ w, Calls Try.prog 12 #[vv x1 x2 x3] w (Ret (.bool q) w))
    (H4 : ∀ w, Calls Try.prog 13 #[vv x1 x2 x3] w (Ret (.bool q) w))
    (H5 : ∀ w, Calls Try.prog 14 #[vv x1 x2 x3, vv y1 y2 y3] w (Ret (.int .i64 k1) w))
    (H6 : ∀ w, Calls Try.prog 15 #[vv x1 x2 x3, vv y1 y2 y3] w (Ret (.int .i64 k1) w))
    (H7 : ∀ w, Calls Try.prog 14 #[vv y1 y2 y3, vv x1 x2 x3] w (Ret (.int .i64 k2) w))
    (H8 : ∀ w, Calls Try.prog 15 #[vv y1 y2 y3, vv x1 x2 x3] w (Ret (.int .i64 k2) w))
    (H9 : ∀ w, Calls Try.prog 14 #[vv x1 x2 x3, vv x1 x2 x3] w (Ret (.int .i64 0) w)) (w : World) :
    Calls Try.prog 3 #[vv x1 x2 x3, vv y1 y2 y3] w (Ret (.bool true) w) := by
  have H1 := Lib.hid H1
  have H2 := Lib.hid H2
  have H3 := Lib.hid H3
  have H4 := Lib.hid H4
  have H5 := Lib.hid H5
  have H6 := Lib.hid H6
  have H7 := Lib.hid H7
  have H8 := Lib.hid H8
  have H9 := Lib.hid H9
  have HK := Lib.hid known_true
  have E := Lib.hid (Below.refl w.heap.size w)
  have BX := Lib.hid (Bxs.nil w)
  go_enter Try.func3, Try.ntmps3
  go_upto_region 1 with (fail)
  obtain ⟨u0, hu⟩ : ∃ u0 : World, u0 = w.alloc (.cells #[.int .i64 x1, .int .i64 x2, .int .i64 x3] 23) := ⟨_, rfl⟩
  have b : Below w.heap.size w u0 := by rw [hu]; exact below_one _ _
  have E := Lib.hid (chain E.out b)
  have BX := Lib.hid (BX.out.cons x1 x2 x3)
  rw [← hu] at BX
  have hs : w.heap.size + 1 = u0.heap.size := by rw [hu]; simp
  rw [← hu]
  rw [hs]
  obtain ⟨ga, hga⟩ : ∃ ga, ga = w.heap.size := ⟨_, rfl⟩
  rw [← hga] at BX ⊢
  clear hu b hga hs
  obtain ⟨u1, hu⟩ : ∃ u1 : World, u1 = u0.alloc (.cells #[.int .i64 y1, .int .i64 y2, .int .i64 y3] 23) := ⟨_, rfl⟩
  have b : Below u0.heap.size u0 u1 := by rw [hu]; exact below_one _ _
  have E := Lib.hid (chain E.out b)
  have BX := Lib.hid (BX.out.cons y1 y2 y3)
  rw [← hu] at BX
  rw [← hu]
  obtain ⟨gb, hgb⟩ : ∃ gb, gb = u0.heap.size := ⟨_, rfl⟩
  rw [← hgb] at BX ⊢
  clear hu b hgb
  obtain ⟨cga0, cga1, cga2⟩ := BX.out (ga, (x1, x2, x3)) (by simp)
  obtain ⟨cgb0, cgb1, cgb2⟩ := BX.out (gb, (y1, y2, y3)) (by simp)
  go_region_held3 (fun W' => W'.cell? ⟨ga, 0, none⟩ = some (.int .i64 x1) ∧ W'.cell? ⟨ga, 1, none⟩ = some (.int .i64 x2) ∧ W'.cell? ⟨ga, 2, none⟩ = some (.int .i64 x3) ∧ W'.cell? ⟨gb, 0, none⟩ = some (.int .i64 y1) ∧ W'.cell? ⟨gb, 1, none⟩ = some (.int .i64 y2) ∧ W'.cell? ⟨gb, 2, none⟩ = some (.int .i64 y3)) (go_keep)
    (first
      | (go_at_call 10; (with_reducible refine (H1.out _).mono ?_); rintro e y ⟨rfl, b⟩; (try (have b := undrew b)); have E := Lib.hid (chain E.out b); have BX := Lib.hid (BX.out.below b); clear b; obtain ⟨cga0, cga1, cga2⟩ := BX.out (ga, (x1, x2, x3)) (by simp); obtain ⟨cgb0, cgb1, cgb2⟩ := BX.out (gb, (y1, y2, y3)) (by simp))
      | (go_at_call 11; (with_reducible refine (H2.out _).mono ?_); rintro e y ⟨rfl, b⟩; (try (have b := undrew b)); have E := Lib.hid (chain E.out b); have BX := Lib.hid (BX.out.below b); clear b; obtain ⟨cga0, cga1, cga2⟩ := BX.out (ga, (x1, x2, x3)) (by simp); obtain ⟨cgb0, cgb1, cgb2⟩ := BX.out (gb, (y1, y2, y3)) (by simp))
      | (go_at_call 12; (with_reducible refine (H3.out _).mono ?_); rintro e y ⟨rfl, b⟩; (try (have b := undrew b)); have E := Lib.hid (chain E.out b); have BX := Lib.hid (BX.out.below b); clear b; obtain ⟨cga0, cga1, cga2⟩ := BX.out (ga, (x1, x2, x3)) (by simp); obtain ⟨cgb0, cgb1, cgb2⟩ := BX.out (gb, (y1, y2, y3)) (by simp))
      | (go_at_call 13; (with_reducible refine (H4.out _).mono ?_); rintro e y ⟨rfl, b⟩; (try (have b := undrew b)); have E := Lib.hid (chain E.out b); have BX := Lib.hid (BX.out.below b); clear b; obtain ⟨cga0, cga1, cga2⟩ := BX.out (ga, (x1, x2, x3)) (by simp); obtain ⟨cgb0, cgb1, cgb2⟩ := BX.out (gb, (y1, y2, y3)) (by simp))
      | (go_at_call 14; (with_reducible refine (H5.out _).mono ?_); rintro e y ⟨rfl, b⟩; (try (have b := undrew b)); have E := Lib.hid (chain E.out b); have BX := Lib.hid (BX.out.below b); clear b; obtain ⟨cga0, cga1, cga2⟩ := BX.out (ga, (x1, x2, x3)) (by simp); obtain ⟨cgb0, cgb1, cgb2⟩ := BX.out (gb, (y1, y2, y3)) (by simp))
      | (go_at_call 15; (with_reducible refine (H6.out _).mono ?_); rintro e y ⟨rfl, b⟩; (try (have b := undrew b)); have E := Lib.hid (chain E.out b); have BX := Lib.hid (BX.out.below b); clear b; obtain ⟨cga0, cga1, cga2⟩ := BX.out (ga, (x1, x2, x3)) (by simp); obtain ⟨cgb0, cgb1, cgb2⟩ := BX.out (gb, (y1, y2, y3)) (by simp))
      | (go_at_call 14; (with_reducible refine (H7.out _).mono ?_); rintro e y ⟨rfl, b⟩; (try (have b := undrew b)); have E := Lib.hid (chain E.out b); have BX := Lib.hid (BX.out.below b); clear b; obtain ⟨cga0, cga1, cga2⟩ := BX.out (ga, (x1, x2, x3)) (by simp); obtain ⟨cgb0, cgb1, cgb2⟩ := BX.out (gb, (y1, y2, y3)) (by simp))
      | (go_at_call 15; (with_reducible refine (H8.out _).mono ?_); rintro e y ⟨rfl, b⟩; (try (have b := undrew b)); have E := Lib.hid (chain E.out b); have BX := Lib.hid (BX.out.below b); clear b; obtain ⟨cga0, cga1, cga2⟩ := BX.out (ga, (x1, x2, x3)) (by simp); obtain ⟨cgb0, cgb1, cgb2⟩ := BX.out (gb, (y1, y2, y3)) (by simp))
      | (go_at_call 14; (with_reducible refine (H9.out _).mono ?_); rintro e y ⟨rfl, b⟩; (try (have b := undrew b)); have E := Lib.hid (chain E.out b); have BX := Lib.hid (BX.out.below b); clear b; obtain ⟨cga0, cga1, cga2⟩ := BX.out (ga, (x1, x2, x3)) (by simp); obtain ⟨cgb0, cgb1, cgb2⟩ := BX.out (gb, (y1, y2, y3)) (by simp))
      | (go_at_call 16; (with_reducible refine (HK.out _).mono ?_); rintro e y ⟨rfl, b⟩; (try (have b := undrew b)); have E := Lib.hid (chain E.out b); have BX := Lib.hid (BX.out.below b); clear b; obtain ⟨cga0, cga1, cga2⟩ := BX.out (ga, (x1, x2, x3)) (by simp); obtain ⟨cgb0, cgb1, cgb2⟩ := BX.out (gb, (y1, y2, y3)) (by simp))
      | fail)
  go_wp2
  go_ret
  exact ⟨rfl, by first | exact E.out | exact E.out.drew⟩
end Go.Proofs.Ytdicbeaocedkmaa
