/- What the theorem leans on, part 3: Hra, Rva. -/
import Derived.Test.YtpkfngfenkcjoaaZ2
import Derived.Test.YtpkfngfenkcjoaaZ1
import Derived.Carry
import Derived.OwnWalkIn
import Derived.Laws.AppendOwnNone
import Derived.Deep.DeepCutAuto

/- Boxes that hold vectors; the reference's On and in. -/
set_option linter.all false
namespace Go.Proofs.Ytpkfngfenkcjoaa
open Go.RowKit

/-- Boxes that hold vectors. -/
def Bxs (w : World) (l : List (Nat × T3)) : Prop := ∀ p ∈ l, V3 w p.1 p.2.1 p.2.2.1 p.2.2.2
theorem Bxs.below {w w' : World} {l : List (Nat × T3)} (h : Bxs w l) (hb : Below w.heap.size w w') : Bxs w' l := fun p hp => (h p hp).below hb
theorem Bxs.cons {w : World} {l : List (Nat × T3)} (h : Bxs w l) (x y z : Int) : Bxs (w.alloc (.cells #[.int .i64 x, .int .i64 y, .int .i64 z] 24)) ((w.heap.size, (x, y, z)) :: l) := by
  intro p hp
  rcases List.mem_cons.1 hp with rfl | hp
  · exact ⟨by simp [go_sem], by simp [go_sem], by simp [go_sem]⟩
  · exact (h p hp).below (below_one _ _)
theorem Bxs.nil (w : World) : Bxs w [] := fun p hp => nomatch hp

set_option maxRecDepth 100000 in
set_option maxHeartbeats 4000000 in
theorem On_0 (x1 x2 x3 y1 y2 y3 z1 z2 z3 r a1 a2 b1 b2 : Int) (w1 : (if y1 < x1 then y1 else x1) = a1) (w2 : (if x1 < y1 then y1 else x1) = a2) (w3 : (if y2 < x2 then y2 else x2) = b1) (w4 : (if x2 < y2 then y2 else x2) = b2) (h0 : (r == 0) = false) (h0b : ¬ r = 0) 
    (H1 : ∀ w, Calls Try.prog 53 #[vv x1 x2 x3, vv y1 y2 y3, vv z1 z2 z3] w (Ret (.int .i64 r) w)) (w : World) :
    Calls Try.prog 78 #[vv x1 x2 x3, vv y1 y2 y3, vv z1 z2 z3] w (Ret (.bool false) w) := by
  have H1 := Lib.hid H1
  have h0c := Lib.hid h0b
  clear h0b
  have E := Lib.hid (Below.refl w.heap.size w)
  have BX := Lib.hid (Bxs.nil w)
  go_enter Try.func78, Try.ntmps78
  go_upto_region 1 with (fail)
  obtain ⟨u0, hu⟩ : ∃ u0 : World, u0 = w.alloc (.cells #[.int .i64 x1, .int .i64 x2, .int .i64 x3] 24) := ⟨_, rfl⟩
  have b : Below w.heap.size w u0 := by rw [hu]; exact below_one _ _
  have E := Lib.hid (chain E.out b)
  have BX := Lib.hid (BX.out.cons x1 x2 x3)
  rw [← hu] at BX
  have hs : w.heap.size + 1 = u0.heap.size := by rw [hu]; simp
  rw [← hu]
  rw [hs]
  obtain ⟨ga, hga⟩ : ∃ ga, ga = w.heap.size := ⟨_, rfl⟩
  rw [← hga] at BX ⊢
  clear hu b hga hs
  obtain ⟨u1, hu⟩ : ∃ u1 : World, u1 = u0.alloc (.cells #[.int .i64 y1, .int .i64 y2, .int .i64 y3] 24) := ⟨_, rfl⟩
  have b : Below u0.heap.size u0 u1 := by rw [hu]; exact below_one _ _
  have E := Lib.hid (chain E.out b)
  have BX := Lib.hid (BX.out.cons y1 y2 y3)
  rw [← hu] at BX
  have hs : u0.heap.size + 1 = u1.heap.size := by rw [hu]; simp
  rw [← hu]
  rw [hs]
  obtain ⟨gb, hgb⟩ : ∃ gb, gb = u0.heap.size := ⟨_, rfl⟩
  rw [← hgb] at BX ⊢
  clear hu b hgb hs
  obtain ⟨u2, hu⟩ : ∃ u2 : World, u2 = u1.alloc (.cells #[.int .i64 z1, .int .i64 z2, .int .i64 z3] 24) := ⟨_, rfl⟩
  have b : Below u1.heap.size u1 u2 := by rw [hu]; exact below_one _ _
  have E := Lib.hid (chain E.out b)
  have BX := Lib.hid (BX.out.cons z1 z2 z3)
  rw [← hu] at BX
  rw [← hu]
  obtain ⟨gc, hgc⟩ : ∃ gc, gc = u1.heap.size := ⟨_, rfl⟩
  rw [← hgc] at BX ⊢
  clear hu b hgc
  obtain ⟨cga0, cga1, cga2⟩ := BX.out (ga, (x1, x2, x3)) (by simp)
  obtain ⟨cgb0, cgb1, cgb2⟩ := BX.out (gb, (y1, y2, y3)) (by simp)
  obtain ⟨cgc0, cgc1, cgc2⟩ := BX.out (gc, (z1, z2, z3)) (by simp)
  go_wp2_with fail
  refine (H1.out _).mono ?_
  rintro e y ⟨rfl, b⟩
  have E := Lib.hid (chain E.out b)
  have BX := Lib.hid (BX.out.below b)
  clear b cga0 cga1 cga2 cgb0 cgb1 cgb2 cgc0 cgc1 cgc2
  go_wp2
  go_ret
  exact ⟨rfl, by first | exact E.out | exact E.out.drew⟩

set_option maxRecDepth 100000 in
set_option maxHeartbeats 4000000 in
theorem On_1 (x1 x2 x3 y1 y2 y3 z1 z2 z3 r a1 a2 b1 b2 : Int) (w1 : (if y1 < x1 then y1 else x1) = a1) (w2 : (if x1 < y1 then y1 else x1) = a2) (w3 : (if y2 < x2 then y2 else x2) = b1) (w4 : (if x2 < y2 then y2 else x2) = b2) (h0 : (r == 0) = true) (h0b : r = 0) (h1 : ¬ a1 ≤ z1) 
    (H1 : ∀ w, Calls Try.prog 53 #[vv x1 x2 x3, vv y1 y2 y3, vv z1 z2 z3] w (Ret (.int .i64 r) w)) (w : World) :
    Calls Try.prog 78 #[vv x1 x2 x3, vv y1 y2 y3, vv z1 z2 z3] w (Ret (.bool false) w) := by
  have H1 := Lib.hid H1
  have h0c := Lib.hid h0b
  clear h0b
  have E := Lib.hid (Below.refl w.heap.size w)
  have BX := Lib.hid (Bxs.nil w)
  go_enter Try.func78, Try.ntmps78
  go_upto_region 1 with (fail)
  obtain ⟨u0, hu⟩ : ∃ u0 : World, u0 = w.alloc (.cells #[.int .i64 x1, .int .i64 x2, .int .i64 x3] 24) := ⟨_, rfl⟩
  have b : Below w.heap.size w u0 := by rw [hu]; exact below_one _ _
  have E := Lib.hid (chain E.out b)
  have BX := Lib.hid (BX.out.cons x1 x2 x3)
  rw [← hu] at BX
  have hs : w.heap.size + 1 = u0.heap.size := by rw [hu]; simp
  rw [← hu]
  rw [hs]
  obtain ⟨ga, hga⟩ : ∃ ga, ga = w.heap.size := ⟨_, rfl⟩
  rw [← hga] at BX ⊢
  clear hu b hga hs
  obtain ⟨u1, hu⟩ : ∃ u1 : World, u1 = u0.alloc (.cells #[.int .i64 y1, .int .i64 y2, .int .i64 y3] 24) := ⟨_, rfl⟩
  have b : Below u0.heap.size u0 u1 := by rw [hu]; exact below_one _ _
  have E := Lib.hid (chain E.out b)
  have BX := Lib.hid (BX.out.cons y1 y2 y3)
  rw [← hu] at BX
  have hs : u0.heap.size + 1 = u1.heap.size := by rw [hu]; simp
  rw [← hu]
  rw [hs]
  obtain ⟨gb, hgb⟩ : ∃ gb, gb = u0.heap.size := ⟨_, rfl⟩
  rw [← hgb] at BX ⊢
  clear hu b hgb hs
  obtain ⟨u2, hu⟩ : ∃ u2 : World, u2 = u1.alloc (.cells #[.int .i64 z1, .int .i64 z2, .int .i64 z3] 24) := ⟨_, rfl⟩
  have b : Below u1.heap.size u1 u2 := by rw [hu]; exact below_one _ _
  have E := Lib.hid (chain E.out b)
  have BX := Lib.hid (BX.out.cons z1 z2 z3)
  rw [← hu] at BX
  rw [← hu]
  obtain ⟨gc, hgc⟩ : ∃ gc, gc = u1.heap.size := ⟨_, rfl⟩
  rw [← hgc] at BX ⊢
  clear hu b hgc
  obtain ⟨cga0, cga1, cga2⟩ := BX.out (ga, (x1, x2, x3)) (by simp)
  obtain ⟨cgb0, cgb1, cgb2⟩ := BX.out (gb, (y1, y2, y3)) (by simp)
  obtain ⟨cgc0, cgc1, cgc2⟩ := BX.out (gc, (z1, z2, z3)) (by simp)
  go_wp2_with fail
  refine (H1.out _).mono ?_
  rintro e y ⟨rfl, b⟩
  have E := Lib.hid (chain E.out b)
  have BX := Lib.hid (BX.out.below b)
  clear b cga0 cga1 cga2 cgb0 cgb1 cgb2 cgc0 cgc1 cgc2
  obtain ⟨cga0, cga1, cga2⟩ := BX.out (ga, (x1, x2, x3)) (by simp)
  obtain ⟨cgb0, cgb1, cgb2⟩ := BX.out (gb, (y1, y2, y3)) (by simp)
  obtain ⟨cgc0, cgc1, cgc2⟩ := BX.out (gc, (z1, z2, z3)) (by simp)
  go_wp2
  go_ret
  exact ⟨rfl, by first | exact E.out | exact E.out.drew⟩

set_option maxRecDepth 100000 in
set_option maxHeartbeats 4000000 in
theorem On_2 (x1 x2 x3 y1 y2 y3 z1 z2 z3 r a1 a2 b1 b2 : Int) (w1 : (if y1 < x1 then y1 else x1) = a1) (w2 : (if x1 < y1 then y1 else x1) = a2) (w3 : (if y2 < x2 then y2 else x2) = b1) (w4 : (if x2 < y2 then y2 else x2) = b2) (h0 : (r == 0) = true) (h0b : r = 0) (h1 : a1 ≤ z1) (h2 : ¬ z1 ≤ a2) 
    (H1 : ∀ w, Calls Try.prog 53 #[vv x1 x2 x3, vv y1 y2 y3, vv z1 z2 z3] w (Ret (.int .i64 r) w)) (w : World) :
    Calls Try.prog 78 #[vv x1 x2 x3, vv y1 y2 y3, vv z1 z2 z3] w (Ret (.bool false) w) := by
  have H1 := Lib.hid H1
  have h0c := Lib.hid h0b
  clear h0b
  have E := Lib.hid (Below.refl w.heap.size w)
  have BX := Lib.hid (Bxs.nil w)
  go_enter Try.func78, Try.ntmps78
  go_upto_region 1 with (fail)
  obtain ⟨u0, hu⟩ : ∃ u0 : World, u0 = w.alloc (.cells #[.int .i64 x1, .int .i64 x2, .int .i64 x3] 24) := ⟨_, rfl⟩
  have b : Below w.heap.size w u0 := by rw [hu]; exact below_one _ _
  have E := Lib.hid (chain E.out b)
  have BX := Lib.hid (BX.out.cons x1 x2 x3)
  rw [← hu] at BX
  have hs : w.heap.size + 1 = u0.heap.size := by rw [hu]; simp
  rw [← hu]
  rw [hs]
  obtain ⟨ga, hga⟩ : ∃ ga, ga = w.heap.size := ⟨_, rfl⟩
  rw [← hga] at BX ⊢
  clear hu b hga hs
  obtain ⟨u1, hu⟩ : ∃ u1 : World, u1 = u0.alloc (.cells #[.int .i64 y1, .int .i64 y2, .int .i64 y3] 24) := ⟨_, rfl⟩
  have b : Below u0.heap.size u0 u1 := by rw [hu]; exact below_one _ _
  have E := Lib.hid (chain E.out b)
  have BX := Lib.hid (BX.out.cons y1 y2 y3)
  rw [← hu] at BX
  have hs : u0.heap.size + 1 = u1.heap.size := by rw [hu]; simp
  rw [← hu]
  rw [hs]
  obtain ⟨gb, hgb⟩ : ∃ gb, gb = u0.heap.size := ⟨_, rfl⟩
  rw [← hgb] at BX ⊢
  clear hu b hgb hs
  obtain ⟨u2, hu⟩ : ∃ u2 : World, u2 = u1.alloc (.cells #[.int .i64 z1, .int .i64 z2, .int .i64 z3] 24) := ⟨_, rfl⟩
  have b : Below u1.heap.size u1 u2 := by rw [hu]; exact below_one _ _
  have E := Lib.hid (chain E.out b)
  have BX := Lib.hid (BX.out.cons z1 z2 z3)
  rw [← hu] at BX
  rw [← hu]
  obtain ⟨gc, hgc⟩ : ∃ gc, gc = u1.heap.size := ⟨_, rfl⟩
  rw [← hgc] at BX ⊢
  clear hu b hgc
  obtain ⟨cga0, cga1, cga2⟩ := BX.out (ga, (x1, x2, x3)) (by simp)
  obtain ⟨cgb0, cgb1, cgb2⟩ := BX.out (gb, (y1, y2, y3)) (by simp)
  obtain ⟨cgc0, cgc1, cgc2⟩ := BX.out (gc, (z1, z2, z3)) (by simp)
  go_wp2_with fail
  refine (H1.out _).mono ?_
  rintro e y ⟨rfl, b⟩
  have E := Lib.hid (chain E.out b)
  have BX := Lib.hid (BX.out.below b)
  clear b cga0 cga1 cga2 cgb0 cgb1 cgb2 cgc0 cgc1 cgc2
  obtain ⟨cga0, cga1, cga2⟩ := BX.out (ga, (x1, x2, x3)) (by simp)
  obtain ⟨cgb0, cgb1, cgb2⟩ := BX.out (gb, (y1, y2, y3)) (by simp)
  obtain ⟨cgc0, cgc1, cgc2⟩ := BX.out (gc, (z1, z2, z3)) (by simp)
  go_wp2
  go_ret
  exact ⟨rfl, by first | exact E.out | exact E.out.drew⟩

set_option maxRecDepth 100000 in
set_option maxHeartbeats 4000000 in
theorem On_3 (x1 x2 x3 y1 y2 y3 z1 z2 z3 r a1 a2 b1 b2 : Int) (w1 : (if y1 < x1 then y1 else x1) = a1) (w2 : (if x1 < y1 then y1 else x1) = a2) (w3 : (if y2 < x2 then y2 else x2) = b1) (w4 : (if x2 < y2 then y2 else x2) = b2) (h0 : (r == 0) = true) (h0b : r = 0) (h1 : a1 ≤ z1) (h2 : z1 ≤ a2) (h3 : ¬ b1 ≤ z2) 
    (H1 : ∀ w, Calls Try.prog 53 #[vv x1 x2 x3, vv y1 y2 y3, vv z1 z2 z3] w (Ret (.int .i64 r) w)) (w : World) :
    Calls Try.prog 78 #[vv x1 x2 x3, vv y1 y2 y3, vv z1 z2 z3] w (Ret (.bool false) w) := by
  have H1 := Lib.hid H1
  have h0c := Lib.hid h0b
  clear h0b
  have E := Lib.hid (Below.refl w.heap.size w)
  have BX := Lib.hid (Bxs.nil w)
  go_enter Try.func78, Try.ntmps78
  go_upto_region 1 with (fail)
  obtain ⟨u0, hu⟩ : ∃ u0 : World, u0 = w.alloc (.cells #[.int .i64 x1, .int .i64 x2, .int .i64 x3] 24) := ⟨_, rfl⟩
  have b : Below w.heap.size w u0 := by rw [hu]; exact below_one _ _
  have E := Lib.hid (chain E.out b)
  have BX := Lib.hid (BX.out.cons x1 x2 x3)
  rw [← hu] at BX
  have hs : w.heap.size + 1 = u0.heap.size := by rw [hu]; simp
  rw [← hu]
  rw [hs]
  obtain ⟨ga, hga⟩ : ∃ ga, ga = w.heap.size := ⟨_, rfl⟩
  rw [← hga] at BX ⊢
  clear hu b hga hs
  obtain ⟨u1, hu⟩ : ∃ u1 : World, u1 = u0.alloc (.cells #[.int .i64 y1, .int .i64 y2, .int .i64 y3] 24) := ⟨_, rfl⟩
  have b : Below u0.heap.size u0 u1 := by rw [hu]; exact below_one _ _
  have E := Lib.hid (chain E.out b)
  have BX := Lib.hid (BX.out.cons y1 y2 y3)
  rw [← hu] at BX
  have hs : u0.heap.size + 1 = u1.heap.size := by rw [hu]; simp
  rw [← hu]
  rw [hs]
  obtain ⟨gb, hgb⟩ : ∃ gb, gb = u0.heap.size := ⟨_, rfl⟩
  rw [← hgb] at BX ⊢
  clear hu b hgb hs
  obtain ⟨u2, hu⟩ : ∃ u2 : World, u2 = u1.alloc (.cells #[.int .i64 z1, .int .i64 z2, .int .i64 z3] 24) := ⟨_, rfl⟩
  have b : Below u1.heap.size u1 u2 := by rw [hu]; exact below_one _ _
  have E := Lib.hid (chain E.out b)
  have BX := Lib.hid (BX.out.cons z1 z2 z3)
  rw [← hu] at BX
  rw [← hu]
  obtain ⟨gc, hgc⟩ : ∃ gc, gc = u1.heap.size := ⟨_, rfl⟩
  rw [← hgc] at BX ⊢
  clear hu b hgc
  obtain ⟨cga0, cga1, cga2⟩ := BX.out (ga, (x1, x2, x3)) (by simp)
  obtain ⟨cgb0, cgb1, cgb2⟩ := BX.out (gb, (y1, y2, y3)) (by simp)
  obtain ⟨cgc0, cgc1, cgc2⟩ := BX.out (gc, (z1, z2, z3)) (by simp)
  go_wp2_with fail
  refine (H1.out _).mono ?_
  rintro e y ⟨rfl, b⟩
  have E := Lib.hid (chain E.out b)
  have BX := Lib.hid (BX.out.below b)
  clear b cga0 cga1 cga2 cgb0 cgb1 cgb2 cgc0 cgc1 cgc2
  obtain ⟨cga0, cga1, cga2⟩ := BX.out (ga, (x1, x2, x3)) (by simp)
  obtain ⟨cgb0, cgb1, cgb2⟩ := BX.out (gb, (y1, y2, y3)) (by simp)
  obtain ⟨cgc0, cgc1, cgc2⟩ := BX.out (gc, (z1, z2, z3)) (by simp)
  go_wp2
  go_ret
  exact ⟨rfl, by first | exact E.out | exact E.out.drew⟩

set_option maxRecDepth 100000 in
set_option maxHeartbeats 4000000 in
theorem On_4 (x1 x2 x3 y1 y2 y3 z1 z2 z3 r a1 a2 b1 b2 : Int) (w1 : (if y1 < x1 then y1 else x1) = a1) (w2 : (if x1 < y1 then y1 else x1) = a2) (w3 : (if y2 < x2 then y2 else x2) = b1) (w4 : (if x2 < y2 then y2 else x2) = b2) (h0 : (r == 0) = true) (h0b : r = 0) (h1 : a1 ≤ z1) (h2 : z1 ≤ a2) (h3 : b1 ≤ z2) (h4 : ¬ z2 ≤ b2) 
    (H1 : ∀ w, Calls Try.prog 53 #[vv x1 x2 x3, vv y1 y2 y3, vv z1 z2 z3] w (Ret (.int .i64 r) w)) (w : World) :
    Calls Try.prog 78 #[vv x1 x2 x3, vv y1 y2 y3, vv z1 z2 z3] w (Ret (.bool false) w) := by
  have H1 := Lib.hid H1
  have h0c := Lib.hid h0b
  clear h0b
  have E := Lib.hid (Below.refl w.heap.size w)
  have BX := Lib.hid (Bxs.nil w)
  go_enter Try.func78, Try.ntmps78
  go_upto_region 1 with (fail)
  obtain ⟨u0, hu⟩ : ∃ u0 : World, u0 = w.alloc (.cells #[.int .i64 x1, .int .i64 x2, .int .i64 x3] 24) := ⟨_, rfl⟩
  have b : Below w.heap.size w u0 := by rw [hu]; exact below_one _ _
  have E := Lib.hid (chain E.out b)
  have BX := Lib.hid (BX.out.cons x1 x2 x3)
  rw [← hu] at BX
  have hs : w.heap.size + 1 = u0.heap.size := by rw [hu]; simp
  rw [← hu]
  rw [hs]
  obtain ⟨ga, hga⟩ : ∃ ga, ga = w.heap.size := ⟨_, rfl⟩
  rw [← hga] at BX ⊢
  clear hu b hga hs
  obtain ⟨u1, hu⟩ : ∃ u1 : World, u1 = u0.alloc (.cells #[.int .i64 y1, .int .i64 y2, .int .i64 y3] 24) := ⟨_, rfl⟩
  have b : Below u0.heap.size u0 u1 := by rw [hu]; exact below_one _ _
  have E := Lib.hid (chain E.out b)
  have BX := Lib.hid (BX.out.cons y1 y2 y3)
  rw [← hu] at BX
  have hs : u0.heap.size + 1 = u1.heap.size := by rw [hu]; simp
  rw [← hu]
  rw [hs]
  obtain ⟨gb, hgb⟩ : ∃ gb, gb = u0.heap.size := ⟨_, rfl⟩
  rw [← hgb] at BX ⊢
  clear hu b hgb hs
  obtain ⟨u2, hu⟩ : ∃ u2 : World, u2 = u1.alloc (.cells #[.int .i64 z1, .int .i64 z2, .int .i64 z3] 24) := ⟨_, rfl⟩
  have b : Below u1.heap.size u1 u2 := by rw [hu]; exact below_one _ _
  have E := Lib.hid (chain E.out b)
  have BX := Lib.hid (BX.out.cons z1 z2 z3)
  rw [← hu] at BX
  rw [← hu]
  obtain ⟨gc, hgc⟩ : ∃ gc, gc = u1.heap.size := ⟨_, rfl⟩
  rw [← hgc] at BX ⊢
  clear hu b hgc
  obtain ⟨cga0, cga1, cga2⟩ := BX.out (ga, (x1, x2, x3)) (by simp)
  obtain ⟨cgb0, cgb1, cgb2⟩ := BX.out (gb, (y1, y2, y3)) (by simp)
  obtain ⟨cgc0, cgc1, cgc2⟩ := BX.out (gc, (z1, z2, z3)) (by simp)
  go_wp2_with fail
  refine (H1.out _).mono ?_
  rintro e y ⟨rfl, b⟩
  have E := Lib.hid (chain E.out b)
  have BX := Lib.hid (BX.out.below b)
  clear b cga0 cga1 cga2 cgb0 cgb1 cgb2 cgc0 cgc1 cgc2
  obtain ⟨cga0, cga1, cga2⟩ := BX.out (ga, (x1, x2, x3)) (by simp)
  obtain ⟨cgb0, cgb1, cgb2⟩ := BX.out (gb, (y1, y2, y3)) (by simp)
  obtain ⟨cgc0, cgc1, cgc2⟩ := BX.out (gc, (z1, z2, z3)) (by simp)
  go_wp2
  go_ret
  exact ⟨by simp [h4], by first | exact E.out | exact E.out.drew⟩

set_option maxRecDepth 100000 in
set_option maxHeartbeats 4000000 in
theorem On_5 (x1 x2 x3 y1 y2 y3 z1 z2 z3 r a1 a2 b1 b2 : Int) (w1 : (if y1 < x1 then y1 else x1) = a1) (w2 : (if x1 < y1 then y1 else x1) = a2) (w3 : (if y2 < x2 then y2 else x2) = b1) (w4 : (if x2 < y2 then y2 else x2) = b2) (h0 : (r == 0) = true) (h0b : r = 0) (h1 : a1 ≤ z1) (h2 : z1 ≤ a2) (h3 : b1 ≤ z2) (h4 : z2 ≤ b2) 
    (H1 : ∀ w, Calls Try.prog 53 #[vv x1 x2 x3, vv y1 y2 y3, vv z1 z2 z3] w (Ret (.int .i64 r) w)) (w : World) :
    Calls Try.prog 78 #[vv x1 x2 x3, vv y1 y2 y3, vv z1 z2 z3] w (Ret (.bool true) w) := by
  have H1 := Lib.hid H1
  have h0c := Lib.hid h0b
  clear h0b
  have E := Lib.hid (Below.refl w.heap.size w)
  have BX := Lib.hid (Bxs.nil w)
  go_enter Try.func78, Try.ntmps78
  go_upto_region 1 with (fail)
  obtain ⟨u0, hu⟩ : ∃ u0 : World, u0 = w.alloc (.cells #[.int .i64 x1, .int .i64 x2, .int .i64 x3] 24) := ⟨_, rfl⟩
  have b : Below w.heap.size w u0 := by rw [hu]; exact below_one _ _
  have E := Lib.hid (chain E.out b)
  have BX := Lib.hid (BX.out.cons x1 x2 x3)
  rw [← hu] at BX
  have hs : w.heap.size + 1 = u0.heap.size := by rw [hu]; simp
  rw [← hu]
  rw [hs]
  obtain ⟨ga, hga⟩ : ∃ ga, ga = w.heap.size := ⟨_, rfl⟩
  rw [← hga] at BX ⊢
  clear hu b hga hs
  obtain ⟨u1, hu⟩ : ∃ u1 : World, u1 = u0.alloc (.cells #[.int .i64 y1, .int .i64 y2, .int .i64 y3] 24) := ⟨_, rfl⟩
  have b : Below u0.heap.size u0 u1 := by rw [hu]; exact below_one _ _
  have E := Lib.hid (chain E.out b)
  have BX := Lib.hid (BX.out.cons y1 y2 y3)
  rw [← hu] at BX
  have hs : u0.heap.size + 1 = u1.heap.size := by rw [hu]; simp
  rw [← hu]
  rw [hs]
  obtain ⟨gb, hgb⟩ : ∃ gb, gb = u0.heap.size := ⟨_, rfl⟩
  rw [← hgb] at BX ⊢
  clear hu b hgb hs
  obtain ⟨u2, hu⟩ : ∃ u2 : World, u2 = u1.alloc (.cells #[.int .i64 z1, .int .i64 z2, .int .i64 z3] 24) := ⟨_, rfl⟩
  have b : Below u1.heap.size u1 u2 := by rw [hu]; exact below_one _ _
  have E := Lib.hid (chain E.out b)
  have BX := Lib.hid (BX.out.cons z1 z2 z3)
  rw [← hu] at BX
  rw [← hu]
  obtain ⟨gc, hgc⟩ : ∃ gc, gc = u1.heap.size := ⟨_, rfl⟩
  rw [← hgc] at BX ⊢
  clear hu b hgc
  obtain ⟨cga0, cga1, cga2⟩ := BX.out (ga, (x1, x2, x3)) (by simp)
  obtain ⟨cgb0, cgb1, cgb2⟩ := BX.out (gb, (y1, y2, y3)) (by simp)
  obtain ⟨cgc0, cgc1, cgc2⟩ := BX.out (gc, (z1, z2, z3)) (by simp)
  go_wp2_with fail
  refine (H1.out _).mono ?_
  rintro e y ⟨rfl, b⟩
  have E := Lib.hid (chain E.out b)
  have BX := Lib.hid (BX.out.below b)
  clear b cga0 cga1 cga2 cgb0 cgb1 cgb2 cgc0 cgc1 cgc2
  obtain ⟨cga0, cga1, cga2⟩ := BX.out (ga, (x1, x2, x3)) (by simp)
  obtain ⟨cgb0, cgb1, cgb2⟩ := BX.out (gb, (y1, y2, y3)) (by simp)
  obtain ⟨cgc0, cgc1, cgc2⟩ := BX.out (gc, (z1, z2, z3)) (by simp)
  go_wp2
  go_ret
  exact ⟨rfl, by first | exact E.out | exact E.out.drew⟩

set_option maxRecDepth 100000 in
set_option maxHeartbeats 4000000 in
theorem in_a (x1 x2 x3 y1 y2 y3 z1 z2 z3 p1 p2 p3 r s t : Int) 
    (T1 : ∀ w, Calls Try.prog 53 #[vv x1 x2 x3, vv y1 y2 y3, vv p1 p2 p3] w (Ret (.int .i64 r) w))
    (T2 : ∀ w, Calls Try.prog 53 #[vv y1 y2 y3, vv z1 z2 z3, vv p1 p2 p3] w (Ret (.int .i64 s) w))
    (T3 : ∀ w, Calls Try.prog 53 #[vv z1 z2 z3, vv x1 x2 x3, vv p1 p2 p3] w (Ret (.int .i64 t) w))
    (O1 : ∀ w, Calls Try.prog 78 #[vv x1 x2 x3, vv y1 y2 y3, vv p1 p2 p3] w (Ret (.bool true) w)) (w : World) :
    Calls Try.prog 70 #[vv x1 x2 x3, vv y1 y2 y3, vv z1 z2 z3, vv p1 p2 p3] w (Ret (.bool true) w) := by
  have T1 := Lib.hid T1
  have T2 := Lib.hid T2
  have T3 := Lib.hid T3
  have O1 := Lib.hid O1
  have E := Lib.hid (Below.refl w.heap.size w)
  have BX := Lib.hid (Bxs.nil w)
  go_enter Try.func70, Try.ntmps70
  go_upto_region 1 with (fail)
  obtain ⟨u0, hu⟩ : ∃ u0 : World, u0 = w.alloc (.cells #[.int .i64 x1, .int .i64 x2, .int .i64 x3] 24) := ⟨_, rfl⟩
  have b : Below w.heap.size w u0 := by rw [hu]; exact below_one _ _
  have E := Lib.hid (chain E.out b)
  have BX := Lib.hid (BX.out.cons x1 x2 x3)
  rw [← hu] at BX
  have hs : w.heap.size + 1 = u0.heap.size := by rw [hu]; simp
  rw [← hu]
  rw [hs]
  obtain ⟨ga, hga⟩ : ∃ ga, ga = w.heap.size := ⟨_, rfl⟩
  rw [← hga] at BX ⊢
  clear hu b hga hs
  obtain ⟨u1, hu⟩ : ∃ u1 : World, u1 = u0.alloc (.cells #[.int .i64 y1, .int .i64 y2, .int .i64 y3] 24) := ⟨_, rfl⟩
  have b : Below u0.heap.size u0 u1 := by rw [hu]; exact below_one _ _
  have E := Lib.hid (chain E.out b)
  have BX := Lib.hid (BX.out.cons y1 y2 y3)
  rw [← hu] at BX
  have hs : u0.heap.size + 1 = u1.heap.size := by rw [hu]; simp
  rw [← hu]
  rw [hs]
  obtain ⟨gb, hgb⟩ : ∃ gb, gb = u0.heap.size := ⟨_, rfl⟩
  rw [← hgb] at BX ⊢
  clear hu b hgb hs
  obtain ⟨u2, hu⟩ : ∃ u2 : World, u2 = u1.alloc (.cells #[.int .i64 z1, .int .i64 z2, .int .i64 z3] 24) := ⟨_, rfl⟩
  have b : Below u1.heap.size u1 u2 := by rw [hu]; exact below_one _ _
  have E := Lib.hid (chain E.out b)
  have BX := Lib.hid (BX.out.cons z1 z2 z3)
  rw [← hu] at BX
  have hs : u1.heap.size + 1 = u2.heap.size := by rw [hu]; simp
  rw [← hu]
  rw [hs]
  obtain ⟨gc, hgc⟩ : ∃ gc, gc = u1.heap.size := ⟨_, rfl⟩
  rw [← hgc] at BX ⊢
  clear hu b hgc hs
  obtain ⟨u3, hu⟩ : ∃ u3 : World, u3 = u2.alloc (.cells #[.int .i64 p1, .int .i64 p2, .int .i64 p3] 24) := ⟨_, rfl⟩
  have b : Below u2.heap.size u2 u3 := by rw [hu]; exact below_one _ _
  have E := Lib.hid (chain E.out b)
  have BX := Lib.hid (BX.out.cons p1 p2 p3)
  rw [← hu] at BX
  rw [← hu]
  obtain ⟨gp, hgp⟩ : ∃ gp, gp = u2.heap.size := ⟨_, rfl⟩
  rw [← hgp] at BX ⊢
  clear hu b hgp
  obtain ⟨cga0, cga1, cga2⟩ := BX.out (ga, (x1, x2, x3)) (by simp)
  obtain ⟨cgb0, cgb1, cgb2⟩ := BX.out (gb, (y1, y2, y3)) (by simp)
  obtain ⟨cgc0, cgc1, cgc2⟩ := BX.out (gc, (z1, z2, z3)) (by simp)
  obtain ⟨cgp0, cgp1, cgp2⟩ := BX.out (gp, (p1, p2, p3)) (by simp)
  go_region_held3 (fun W' => W'.cell? ⟨ga, 0, none⟩ = some (.int .i64 x1) ∧ W'.cell? ⟨ga, 1, none⟩ = some (.int .i64 x2) ∧ W'.cell? ⟨ga, 2, none⟩ = some (.int .i64 x3) ∧ W'.cell? ⟨gb, 0, none⟩ = some (.int .i64 y1) ∧ W'.cell? ⟨gb, 1, none⟩ = some (.int .i64 y2) ∧ W'.cell? ⟨gb, 2, none⟩ = some (.int .i64 y3) ∧ W'.cell? ⟨gc, 0, none⟩ = some (.int .i64 z1) ∧ W'.cell? ⟨gc, 1, none⟩ = some (.int .i64 z2) ∧ W'.cell? ⟨gc, 2, none⟩ = some (.int .i64 z3) ∧ W'.cell? ⟨gp, 0, none⟩ = some (.int .i64 p1) ∧ W'.cell? ⟨gp, 1, none⟩ = some (.int .i64 p2) ∧ W'.cell? ⟨gp, 2, none⟩ = some (.int .i64 p3)) (go_keep)
    (first
      | (go_at_call 53; (with_reducible refine (T1.out _).mono ?_); rintro e y ⟨rfl, b⟩; (try (have b := undrew b)); have E := Lib.hid (chain E.out b); have BX := Lib.hid (BX.out.below b); clear b; obtain ⟨cga0, cga1, cga2⟩ := BX.out (ga, (x1, x2, x3)) (by simp); obtain ⟨cgb0, cgb1, cgb2⟩ := BX.out (gb, (y1, y2, y3)) (by simp); obtain ⟨cgc0, cgc1, cgc2⟩ := BX.out (gc, (z1, z2, z3)) (by simp); obtain ⟨cgp0, cgp1, cgp2⟩ := BX.out (gp, (p1, p2, p3)) (by simp))
      | (go_at_call 53; (with_reducible refine (T2.out _).mono ?_); rintro e y ⟨rfl, b⟩; (try (have b := undrew b)); have E := Lib.hid (chain E.out b); have BX := Lib.hid (BX.out.below b); clear b; obtain ⟨cga0, cga1, cga2⟩ := BX.out (ga, (x1, x2, x3)) (by simp); obtain ⟨cgb0, cgb1, cgb2⟩ := BX.out (gb, (y1, y2, y3)) (by simp); obtain ⟨cgc0, cgc1, cgc2⟩ := BX.out (gc, (z1, z2, z3)) (by simp); obtain ⟨cgp0, cgp1, cgp2⟩ := BX.out (gp, (p1, p2, p3)) (by simp))
      | (go_at_call 53; (with_reducible refine (T3.out _).mono ?_); rintro e y ⟨rfl, b⟩; (try (have b := undrew b)); have E := Lib.hid (chain E.out b); have BX := Lib.hid (BX.out.below b); clear b; obtain ⟨cga0, cga1, cga2⟩ := BX.out (ga, (x1, x2, x3)) (by simp); obtain ⟨cgb0, cgb1, cgb2⟩ := BX.out (gb, (y1, y2, y3)) (by simp); obtain ⟨cgc0, cgc1, cgc2⟩ := BX.out (gc, (z1, z2, z3)) (by simp); obtain ⟨cgp0, cgp1, cgp2⟩ := BX.out (gp, (p1, p2, p3)) (by simp))
      | fail)
  have D := Lib.hid (Below.refl w.heap.size w)
  clear cga0 cga1 cga2 cgb0 cgb1 cgb2 cgc0 cgc1 cgc2 cgp0 cgp1 cgp2
  obtain ⟨cga0, cga1, cga2⟩ := BX.out (ga, (x1, x2, x3)) (by simp)
  obtain ⟨cgb0, cgb1, cgb2⟩ := BX.out (gb, (y1, y2, y3)) (by simp)
  obtain ⟨cgp0, cgp1, cgp2⟩ := BX.out (gp, (p1, p2, p3)) (by simp)
  go_wp2_with fail
  refine (O1.out _).mono ?_
  rintro e y ⟨rfl, b⟩
  have E := Lib.hid (chain E.out b)
  have BX := Lib.hid (BX.out.below b)
  clear b cga0 cga1 cga2 cgb0 cgb1 cgb2 cgp0 cgp1 cgp2
  go_wp2
  go_ret
  exact ⟨rfl, by first | exact E.out | exact E.out.drew⟩

set_option maxRecDepth 100000 in
set_option maxHeartbeats 4000000 in
theorem in_b (x1 x2 x3 y1 y2 y3 z1 z2 z3 p1 p2 p3 r s t : Int) 
    (T1 : ∀ w, Calls Try.prog 53 #[vv x1 x2 x3, vv y1 y2 y3, vv p1 p2 p3] w (Ret (.int .i64 r) w))
    (T2 : ∀ w, Calls Try.prog 53 #[vv y1 y2 y3, vv z1 z2 z3, vv p1 p2 p3] w (Ret (.int .i64 s) w))
    (T3 : ∀ w, Calls Try.prog 53 #[vv z1 z2 z3, vv x1 x2 x3, vv p1 p2 p3] w (Ret (.int .i64 t) w))
    (O1 : ∀ w, Calls Try.prog 78 #[vv x1 x2 x3, vv y1 y2 y3, vv p1 p2 p3] w (Ret (.bool false) w))
    (O2 : ∀ w, Calls Try.prog 78 #[vv y1 y2 y3, vv z1 z2 z3, vv p1 p2 p3] w (Ret (.bool true) w)) (w : World) :
    Calls Try.prog 70 #[vv x1 x2 x3, vv y1 y2 y3, vv z1 z2 z3, vv p1 p2 p3] w (Ret (.bool true) w) := by
  have T1 := Lib.hid T1
  have T2 := Lib.hid T2
  have T3 := Lib.hid T3
  have O1 := Lib.hid O1
  have O2 := Lib.hid O2
  have E := Lib.hid (Below.refl w.heap.size w)
  have BX := Lib.hid (Bxs.nil w)
  go_enter Try.func70, Try.ntmps70
  go_upto_region 1 with (fail)
  obtain ⟨u0, hu⟩ : ∃ u0 : World, u0 = w.alloc (.cells #[.int .i64 x1, .int .i64 x2, .int .i64 x3] 24) := ⟨_, rfl⟩
  have b : Below w.heap.size w u0 := by rw [hu]; exact below_one _ _
  have E := Lib.hid (chain E.out b)
  have BX := Lib.hid (BX.out.cons x1 x2 x3)
  rw [← hu] at BX
  have hs : w.heap.size + 1 = u0.heap.size := by rw [hu]; simp
  rw [← hu]
  rw [hs]
  obtain ⟨ga, hga⟩ : ∃ ga, ga = w.heap.size := ⟨_, rfl⟩
  rw [← hga] at BX ⊢
  clear hu b hga hs
  obtain ⟨u1, hu⟩ : ∃ u1 : World, u1 = u0.alloc (.cells #[.int .i64 y1, .int .i64 y2, .int .i64 y3] 24) := ⟨_, rfl⟩
  have b : Below u0.heap.size u0 u1 := by rw [hu]; exact below_one _ _
  have E := Lib.hid (chain E.out b)
  have BX := Lib.hid (BX.out.cons y1 y2 y3)
  rw [← hu] at BX
  have hs : u0.heap.size + 1 = u1.heap.size := by rw [hu]; simp
  rw [← hu]
  rw [hs]
  obtain ⟨gb, hgb⟩ : ∃ gb, gb = u0.heap.size := ⟨_, rfl⟩
  rw [← hgb] at BX ⊢
  clear hu b hgb hs
  obtain ⟨u2, hu⟩ : ∃ u2 : World, u2 = u1.alloc (.cells #[.int .i64 z1, .int .i64 z2, .int .i64 z3] 24) := ⟨_, rfl⟩
  have b : Below u1.heap.size u1 u2 := by rw [hu]; exact below_one _ _
  have E := Lib.hid (chain E.out b)
  have BX := Lib.hid (BX.out.cons z1 z2 z3)
  rw [← hu] at BX
  have hs : u1.heap.size + 1 = u2.heap.size := by rw [hu]; simp
  rw [← hu]
  rw [hs]
  obtain ⟨gc, hgc⟩ : ∃ gc, gc = u1.heap.size := ⟨_, rfl⟩
  rw [← hgc] at BX ⊢
  clear hu b hgc hs
  obtain ⟨u3, hu⟩ : ∃ u3 : World, u3 = u2.alloc (.cells #[.int .i64 p1, .int .i64 p2, .int .i64 p3] 24) := ⟨_, rfl⟩
  have b : Below u2.heap.size u2 u3 := by rw [hu]; exact below_one _ _
  have E := Lib.hid (chain E.out b)
  have BX := Lib.hid (BX.out.cons p1 p2 p3)
  rw [← hu] at BX
  rw [← hu]
  obtain ⟨gp, hgp⟩ : ∃ gp, gp = u2.heap.size := ⟨_, rfl⟩
  rw [← hgp] at BX ⊢
  clear hu b hgp
  obtain ⟨cga0, cga1, cga2⟩ := BX.out (ga, (x1, x2, x3)) (by simp)
  obtain ⟨cgb0, cgb1, cgb2⟩ := BX.out (gb, (y1, y2, y3)) (by simp)
  obtain ⟨cgc0, cgc1, cgc2⟩ := BX.out (gc, (z1, z2, z3)) (by simp)
  obtain ⟨cgp0, cgp1, cgp2⟩ := BX.out (gp, (p1, p2, p3)) (by simp)
  go_region_held3 (fun W' => W'.cell? ⟨ga, 0, none⟩ = some (.int .i64 x1) ∧ W'.cell? ⟨ga, 1, none⟩ = some (.int .i64 x2) ∧ W'.cell? ⟨ga, 2, none⟩ = some (.int .i64 x3) ∧ W'.cell? ⟨gb, 0, none⟩ = some (.int .i64 y1) ∧ W'.cell? ⟨gb, 1, none⟩ = some (.int .i64 y2) ∧ W'.cell? ⟨gb, 2, none⟩ = some (.int .i64 y3) ∧ W'.cell? ⟨gc, 0, none⟩ = some (.int .i64 z1) ∧ W'.cell? ⟨gc, 1, none⟩ = some (.int .i64 z2) ∧ W'.cell? ⟨gc, 2, none⟩ = some (.int .i64 z3) ∧ W'.cell? ⟨gp, 0, none⟩ = some (.int .i64 p1) ∧ W'.cell? ⟨gp, 1, none⟩ = some (.int .i64 p2) ∧ W'.cell? ⟨gp, 2, none⟩ = some (.int .i64 p3)) (go_keep)
    (first
      | (go_at_call 53; (with_reducible refine (T1.out _).mono ?_); rintro e y ⟨rfl, b⟩; (try (have b := undrew b)); have E := Lib.hid (chain E.out b); have BX := Lib.hid (BX.out.below b); clear b; obtain ⟨cga0, cga1, cga2⟩ := BX.out (ga, (x1, x2, x3)) (by simp); obtain ⟨cgb0, cgb1, cgb2⟩ := BX.out (gb, (y1, y2, y3)) (by simp); obtain ⟨cgc0, cgc1, cgc2⟩ := BX.out (gc, (z1, z2, z3)) (by simp); obtain ⟨cgp0, cgp1, cgp2⟩ := BX.out (gp, (p1, p2, p3)) (by simp))
      | (go_at_call 53; (with_reducible refine (T2.out _).mono ?_); rintro e y ⟨rfl, b⟩; (try (have b := undrew b)); have E := Lib.hid (chain E.out b); have BX := Lib.hid (BX.out.below b); clear b; obtain ⟨cga0, cga1, cga2⟩ := BX.out (ga, (x1, x2, x3)) (by simp); obtain ⟨cgb0, cgb1, cgb2⟩ := BX.out (gb, (y1, y2, y3)) (by simp); obtain ⟨cgc0, cgc1, cgc2⟩ := BX.out (gc, (z1, z2, z3)) (by simp); obtain ⟨cgp0, cgp1, cgp2⟩ := BX.out (gp, (p1, p2, p3)) (by simp))
      | (go_at_call 53; (with_reducible refine (T3.out _).mono ?_); rintro e y ⟨rfl, b⟩; (try (have b := undrew b)); have E := Lib.hid (chain E.out b); have BX := Lib.hid (BX.out.below b); clear b; obtain ⟨cga0, cga1, cga2⟩ := BX.out (ga, (x1, x2, x3)) (by simp); obtain ⟨cgb0, cgb1, cgb2⟩ := BX.out (gb, (y1, y2, y3)) (by simp); obtain ⟨cgc0, cgc1, cgc2⟩ := BX.out (gc, (z1, z2, z3)) (by simp); obtain ⟨cgp0, cgp1, cgp2⟩ := BX.out (gp, (p1, p2, p3)) (by simp))
      | fail)
  have D := Lib.hid (Below.refl w.heap.size w)
  clear cga0 cga1 cga2 cgb0 cgb1 cgb2 cgc0 cgc1 cgc2 cgp0 cgp1 cgp2
  obtain ⟨cga0, cga1, cga2⟩ := BX.out (ga, (x1, x2, x3)) (by simp)
  obtain ⟨cgb0, cgb1, cgb2⟩ := BX.out (gb, (y1, y2, y3)) (by simp)
  obtain ⟨cgp0, cgp1, cgp2⟩ := BX.out (gp, (p1, p2, p3)) (by simp)
  go_wp2_with fail
  refine (O1.out _).mono ?_
  rintro e y ⟨rfl, b⟩
  have E := Lib.hid (chain E.out b)
  have BX := Lib.hid (BX.out.below b)
  clear b cga0 cga1 cga2 cgb0 cgb1 cgb2 cgp0 cgp1 cgp2
  obtain ⟨cgb0, cgb1, cgb2⟩ := BX.out (gb, (y1, y2, y3)) (by simp)
  obtain ⟨cgc0, cgc1, cgc2⟩ := BX.out (gc, (z1, z2, z3)) (by simp)
  obtain ⟨cgp0, cgp1, cgp2⟩ := BX.out (gp, (p1, p2, p3)) (by simp)
  go_wp2_with fail
  refine (O2.out _).mono ?_
  rintro e y ⟨rfl, b⟩
  have E := Lib.hid (chain E.out b)
  have BX := Lib.hid (BX.out.below b)
  clear b cgb0 cgb1 cgb2 cgc0 cgc1 cgc2 cgp0 cgp1 cgp2
  go_wp2
  go_ret
  exact ⟨rfl, by first | exact E.out | exact E.out.drew⟩

set_option maxRecDepth 100000 in
set_option maxHeartbeats 4000000 in
theorem in_c (x1 x2 x3 y1 y2 y3 z1 z2 z3 p1 p2 p3 r s t : Int) 
    (T1 : ∀ w, Calls Try.prog 53 #[vv x1 x2 x3, vv y1 y2 y3, vv p1 p2 p3] w (Ret (.int .i64 r) w))
    (T2 : ∀ w, Calls Try.prog 53 #[vv y1 y2 y3, vv z1 z2 z3, vv p1 p2 p3] w (Ret (.int .i64 s) w))
    (T3 : ∀ w, Calls Try.prog 53 #[vv z1 z2 z3, vv x1 x2 x3, vv p1 p2 p3] w (Ret (.int .i64 t) w))
    (O1 : ∀ w, Calls Try.prog 78 #[vv x1 x2 x3, vv y1 y2 y3, vv p1 p2 p3] w (Ret (.bool false) w))
    (O2 : ∀ w, Calls Try.prog 78 #[vv y1 y2 y3, vv z1 z2 z3, vv p1 p2 p3] w (Ret (.bool false) w))
    (O3 : ∀ w, Calls Try.prog 78 #[vv z1 z2 z3, vv x1 x2 x3, vv p1 p2 p3] w (Ret (.bool true) w)) (w : World) :
    Calls Try.prog 70 #[vv x1 x2 x3, vv y1 y2 y3, vv z1 z2 z3, vv p1 p2 p3] w (Ret (.bool true) w) := by
  have T1 := Lib.hid T1
  have T2 := Lib.hid T2
  have T3 := Lib.hid T3
  have O1 := Lib.hid O1
  have O2 := Lib.hid O2
  have O3 := Lib.hid O3
  have E := Lib.hid (Below.refl w.heap.size w)
  have BX := Lib.hid (Bxs.nil w)
  go_enter Try.func70, Try.ntmps70
  go_upto_region 1 with (fail)
  obtain ⟨u0, hu⟩ : ∃ u0 : World, u0 = w.alloc (.cells #[.int .i64 x1, .int .i64 x2, .int .i64 x3] 24) := ⟨_, rfl⟩
  have b : Below w.heap.size w u0 := by rw [hu]; exact below_one _ _
  have E := Lib.hid (chain E.out b)
  have BX := Lib.hid (BX.out.cons x1 x2 x3)
  rw [← hu] at BX
  have hs : w.heap.size + 1 = u0.heap.size := by rw [hu]; simp
  rw [← hu]
  rw [hs]
  obtain ⟨ga, hga⟩ : ∃ ga, ga = w.heap.size := ⟨_, rfl⟩
  rw [← hga] at BX ⊢
  clear hu b hga hs
  obtain ⟨u1, hu⟩ : ∃ u1 : World, u1 = u0.alloc (.cells #[.int .i64 y1, .int .i64 y2, .int .i64 y3] 24) := ⟨_, rfl⟩
  have b : Below u0.heap.size u0 u1 := by rw [hu]; exact below_one _ _
  have E := Lib.hid (chain E.out b)
  have BX := Lib.hid (BX.out.cons y1 y2 y3)
  rw [← hu] at BX
  have hs : u0.heap.size + 1 = u1.heap.size := by rw [hu]; simp
  rw [← hu]
  rw [hs]
  obtain ⟨gb, hgb⟩ : ∃ gb, gb = u0.heap.size := ⟨_, rfl⟩
  rw [← hgb] at BX ⊢
  clear hu b hgb hs
  obtain ⟨u2, hu⟩ : ∃ u2 : World, u2 = u1.alloc (.cells #[.int .i64 z1, .int .i64 z2, .int .i64 z3] 24) := ⟨_, rfl⟩
  have b : Below u1.heap.size u1 u2 := by rw [hu]; exact below_one _ _
  have E := Lib.hid (chain E.out b)
  have BX := Lib.hid (BX.out.cons z1 z2 z3)
  rw [← hu] at BX
  have hs : u1.heap.size + 1 = u2.heap.size := by rw [hu]; simp
  rw [← hu]
  rw [hs]
  obtain ⟨gc, hgc⟩ : ∃ gc, gc = u1.heap.size := ⟨_, rfl⟩
  rw [← hgc] at BX ⊢
  clear hu b hgc hs
  obtain ⟨u3, hu⟩ : ∃ u3 : World, u3 = u2.alloc (.cells #[.int .i64 p1, .int .i64 p2, .int .i64 p3] 24) := ⟨_, rfl⟩
  have b : Below u2.heap.size u2 u3 := by rw [hu]; exact below_one _ _
  have E := Lib.hid (chain E.out b)
  have BX := Lib.hid (BX.out.cons p1 p2 p3)
  rw [← hu] at BX
  rw [← hu]
  obtain ⟨gp, hgp⟩ : ∃ gp, gp = u2.heap.size := ⟨_, rfl⟩
  rw [← hgp] at BX ⊢
  clear hu b hgp
  obtain ⟨cga0, cga1, cga2⟩ := BX.out (ga, (x1, x2, x3)) (by simp)
  obtain ⟨cgb0, cgb1, cgb2⟩ := BX.out (gb, (y1, y2, y3)) (by simp)
  obtain ⟨cgc0, cgc1, cgc2⟩ := BX.out (gc, (z1, z2, z3)) (by simp)
  obtain ⟨cgp0, cgp1, cgp2⟩ := BX.out (gp, (p1, p2, p3)) (by simp)
  go_region_held3 (fun W' => W'.cell? ⟨ga, 0, none⟩ = some (.int .i64 x1) ∧ W'.cell? ⟨ga, 1, none⟩ = some (.int .i64 x2) ∧ W'.cell? ⟨ga, 2, none⟩ = some (.int .i64 x3) ∧ W'.cell? ⟨gb, 0, none⟩ = some (.int .i64 y1) ∧ W'.cell? ⟨gb, 1, none⟩ = some (.int .i64 y2) ∧ W'.cell? ⟨gb, 2, none⟩ = some (.int .i64 y3) ∧ W'.cell? ⟨gc, 0, none⟩ = some (.int .i64 z1) ∧ W'.cell? ⟨gc, 1, none⟩ = some (.int .i64 z2) ∧ W'.cell? ⟨gc, 2, none⟩ = some (.int .i64 z3) ∧ W'.cell? ⟨gp, 0, none⟩ = some (.int .i64 p1) ∧ W'.cell? ⟨gp, 1, none⟩ = some (.int .i64 p2) ∧ W'.cell? ⟨gp, 2, none⟩ = some (.int .i64 p3)) (go_keep)
    (first
      | (go_at_call 53; (with_reducible refine (T1.out _).mono ?_); rintro e y ⟨rfl, b⟩; (try (have b := undrew b)); have E := Lib.hid (chain E.out b); have BX := Lib.hid (BX.out.below b); clear b; obtain ⟨cga0, cga1, cga2⟩ := BX.out (ga, (x1, x2, x3)) (by simp); obtain ⟨cgb0, cgb1, cgb2⟩ := BX.out (gb, (y1, y2, y3)) (by simp); obtain ⟨cgc0, cgc1, cgc2⟩ := BX.out (gc, (z1, z2, z3)) (by simp); obtain ⟨cgp0, cgp1, cgp2⟩ := BX.out (gp, (p1, p2, p3)) (by simp))
      | (go_at_call 53; (with_reducible refine (T2.out _).mono ?_); rintro e y ⟨rfl, b⟩; (try (have b := undrew b)); have E := Lib.hid (chain E.out b); have BX := Lib.hid (BX.out.below b); clear b; obtain ⟨cga0, cga1, cga2⟩ := BX.out (ga, (x1, x2, x3)) (by simp); obtain ⟨cgb0, cgb1, cgb2⟩ := BX.out (gb, (y1, y2, y3)) (by simp); obtain ⟨cgc0, cgc1, cgc2⟩ := BX.out (gc, (z1, z2, z3)) (by simp); obtain ⟨cgp0, cgp1, cgp2⟩ := BX.out (gp, (p1, p2, p3)) (by simp))
      | (go_at_call 53; (with_reducible refine (T3.out _).mono ?_); rintro e y ⟨rfl, b⟩; (try (have b := undrew b)); have E := Lib.hid (chain E.out b); have BX := Lib.hid (BX.out.below b); clear b; obtain ⟨cga0, cga1, cga2⟩ := BX.out (ga, (x1, x2, x3)) (by simp); obtain ⟨cgb0, cgb1, cgb2⟩ := BX.out (gb, (y1, y2, y3)) (by simp); obtain ⟨cgc0, cgc1, cgc2⟩ := BX.out (gc, (z1, z2, z3)) (by simp); obtain ⟨cgp0, cgp1, cgp2⟩ := BX.out (gp, (p1, p2, p3)) (by simp))
      | fail)
  have D := Lib.hid (Below.refl w.heap.size w)
  clear cga0 cga1 cga2 cgb0 cgb1 cgb2 cgc0 cgc1 cgc2 cgp0 cgp1 cgp2
  obtain ⟨cga0, cga1, cga2⟩ := BX.out (ga, (x1, x2, x3)) (by simp)
  obtain ⟨cgb0, cgb1, cgb2⟩ := BX.out (gb, (y1, y2, y3)) (by simp)
  obtain ⟨cgp0, cgp1, cgp2⟩ := BX.out (gp, (p1, p2, p3)) (by simp)
  go_wp2_with fail
  refine (O1.out _).mono ?_
  rintro e y ⟨rfl, b⟩
  have E := Lib.hid (chain E.out b)
  have BX := Lib.hid (BX.out.below b)
  clear b cga0 cga1 cga2 cgb0 cgb1 cgb2 cgp0 cgp1 cgp2
  obtain ⟨cgb0, cgb1, cgb2⟩ := BX.out (gb, (y1, y2, y3)) (by simp)
  obtain ⟨cgc0, cgc1, cgc2⟩ := BX.out (gc, (z1, z2, z3)) (by simp)
  obtain ⟨cgp0, cgp1, cgp2⟩ := BX.out (gp, (p1, p2, p3)) (by simp)
  go_wp2_with fail
  refine (O2.out _).mono ?_
  rintro e y ⟨rfl, b⟩
  have E := Lib.hid (chain E.out b)
  have BX := Lib.hid (BX.out.below b)
  clear b cgb0 cgb1 cgb2 cgc0 cgc1 cgc2 cgp0 cgp1 cgp2
  obtain ⟨cgc0, cgc1, cgc2⟩ := BX.out (gc, (z1, z2, z3)) (by simp)
  obtain ⟨cga0, cga1, cga2⟩ := BX.out (ga, (x1, x2, x3)) (by simp)
  obtain ⟨cgp0, cgp1, cgp2⟩ := BX.out (gp, (p1, p2, p3)) (by simp)
  go_wp2_with fail
  refine (O3.out _).mono ?_
  rintro e y ⟨rfl, b⟩
  have E := Lib.hid (chain E.out b)
  have BX := Lib.hid (BX.out.below b)
  clear b cgc0 cgc1 cgc2 cga0 cga1 cga2 cgp0 cgp1 cgp2
  go_wp2
  go_ret
  exact ⟨rfl, by first | exact E.out | exact E.out.drew⟩

set_option maxRecDepth 100000 in
set_option maxHeartbeats 4000000 in
theorem in_z (x1 x2 x3 y1 y2 y3 z1 z2 z3 p1 p2 p3 r s t : Int) (h0 : (r != 0) = false) 
    (T1 : ∀ w, Calls Try.prog 53 #[vv x1 x2 x3, vv y1 y2 y3, vv p1 p2 p3] w (Ret (.int .i64 r) w))
    (T2 : ∀ w, Calls Try.prog 53 #[vv y1 y2 y3, vv z1 z2 z3, vv p1 p2 p3] w (Ret (.int .i64 s) w))
    (T3 : ∀ w, Calls Try.prog 53 #[vv z1 z2 z3, vv x1 x2 x3, vv p1 p2 p3] w (Ret (.int .i64 t) w))
    (O1 : ∀ w, Calls Try.prog 78 #[vv x1 x2 x3, vv y1 y2 y3, vv p1 p2 p3] w (Ret (.bool false) w))
    (O2 : ∀ w, Calls Try.prog 78 #[vv y1 y2 y3, vv z1 z2 z3, vv p1 p2 p3] w (Ret (.bool false) w))
    (O3 : ∀ w, Calls Try.prog 78 #[vv z1 z2 z3, vv x1 x2 x3, vv p1 p2 p3] w (Ret (.bool false) w)) (w : World) :
    Calls Try.prog 70 #[vv x1 x2 x3, vv y1 y2 y3, vv z1 z2 z3, vv p1 p2 p3] w (Ret (.bool false) w) := by
  have T1 := Lib.hid T1
  have T2 := Lib.hid T2
  have T3 := Lib.hid T3
  have O1 := Lib.hid O1
  have O2 := Lib.hid O2
  have O3 := Lib.hid O3
  have E := Lib.hid (Below.refl w.heap.size w)
  have BX := Lib.hid (Bxs.nil w)
  go_enter Try.func70, Try.ntmps70
  go_upto_region 1 with (fail)
  obtain ⟨u0, hu⟩ : ∃ u0 : World, u0 = w.alloc (.cells #[.int .i64 x1, .int .i64 x2, .int .i64 x3] 24) := ⟨_, rfl⟩
  have b : Below w.heap.size w u0 := by rw [hu]; exact below_one _ _
  have E := Lib.hid (chain E.out b)
  have BX := Lib.hid (BX.out.cons x1 x2 x3)
  rw [← hu] at BX
  have hs : w.heap.size + 1 = u0.heap.size := by rw [hu]; simp
  rw [← hu]
  rw [hs]
  obtain ⟨ga, hga⟩ : ∃ ga, ga = w.heap.size := ⟨_, rfl⟩
  rw [← hga] at BX ⊢
  clear hu b hga hs
  obtain ⟨u1, hu⟩ : ∃ u1 : World, u1 = u0.alloc (.cells #[.int .i64 y1, .int .i64 y2, .int .i64 y3] 24) := ⟨_, rfl⟩
  have b : Below u0.heap.size u0 u1 := by rw [hu]; exact below_one _ _
  have E := Lib.hid (chain E.out b)
  have BX := Lib.hid (BX.out.cons y1 y2 y3)
  rw [← hu] at BX
  have hs : u0.heap.size + 1 = u1.heap.size := by rw [hu]; simp
  rw [← hu]
  rw [hs]
  obtain ⟨gb, hgb⟩ : ∃ gb, gb = u0.heap.size := ⟨_, rfl⟩
  rw [← hgb] at BX ⊢
  clear hu b hgb hs
  obtain ⟨u2, hu⟩ : ∃ u2 : World, u2 = u1.alloc (.cells #[.int .i64 z1, .int .i64 z2, .int .i64 z3] 24) := ⟨_, rfl⟩
  have b : Below u1.heap.size u1 u2 := by rw [hu]; exact below_one _ _
  have E := Lib.hid (chain E.out b)
  have BX := Lib.hid (BX.out.cons z1 z2 z3)
  rw [← hu] at BX
  have hs : u1.heap.size + 1 = u2.heap.size := by rw [hu]; simp
  rw [← hu]
  rw [hs]
  obtain ⟨gc, hgc⟩ : ∃ gc, gc = u1.heap.size := ⟨_, rfl⟩
  rw [← hgc] at BX ⊢
  clear hu b hgc hs
  obtain ⟨u3, hu⟩ : ∃ u3 : World, u3 = u2.alloc (.cells #[.int .i64 p1, .int .i64 p2, .int .i64 p3] 24) := ⟨_, rfl⟩
  have b : Below u2.heap.size u2 u3 := by rw [hu]; exact below_one _ _
  have E := Lib.hid (chain E.out b)
  have BX := Lib.hid (BX.out.cons p1 p2 p3)
  rw [← hu] at BX
  rw [← hu]
  obtain ⟨gp, hgp⟩ : ∃ gp, gp = u2.heap.size := ⟨_, rfl⟩
  rw [← hgp] at BX ⊢
  clear hu b hgp
  obtain ⟨cga0, cga1, cga2⟩ := BX.out (ga, (x1, x2, x3)) (by simp)
  obtain ⟨cgb0, cgb1, cgb2⟩ := BX.out (gb, (y1, y2, y3)) (by simp)
  obtain ⟨cgc0, cgc1, cgc2⟩ := BX.out (gc, (z1, z2, z3)) (by simp)
  obtain ⟨cgp0, cgp1, cgp2⟩ := BX.out (gp, (p1, p2, p3)) (by simp)
  go_region_held3 (fun W' => W'.cell? ⟨ga, 0, none⟩ = some (.int .i64 x1) ∧ W'.cell? ⟨ga, 1, none⟩ = some (.int .i64 x2) ∧ W'.cell? ⟨ga, 2, none⟩ = some (.int .i64 x3) ∧ W'.cell? ⟨gb, 0, none⟩ = some (.int .i64 y1) ∧ W'.cell? ⟨gb, 1, none⟩ = some (.int .i64 y2) ∧ W'.cell? ⟨gb, 2, none⟩ = some (.int .i64 y3) ∧ W'.cell? ⟨gc, 0, none⟩ = some (.int .i64 z1) ∧ W'.cell? ⟨gc, 1, none⟩ = some (.int .i64 z2) ∧ W'.cell? ⟨gc, 2, none⟩ = some (.int .i64 z3) ∧ W'.cell? ⟨gp, 0, none⟩ = some (.int .i64 p1) ∧ W'.cell? ⟨gp, 1, none⟩ = some (.int .i64 p2) ∧ W'.cell? ⟨gp, 2, none⟩ = some (.int .i64 p3)) (go_keep)
    (first
      | (go_at_call 53; (with_reducible refine (T1.out _).mono ?_); rintro e y ⟨rfl, b⟩; (try (have b := undrew b)); have E := Lib.hid (chain E.out b); have BX := Lib.hid (BX.out.below b); clear b; obtain ⟨cga0, cga1, cga2⟩ := BX.out (ga, (x1, x2, x3)) (by simp); obtain ⟨cgb0, cgb1, cgb2⟩ := BX.out (gb, (y1, y2, y3)) (by simp); obtain ⟨cgc0, cgc1, cgc2⟩ := BX.out (gc, (z1, z2, z3)) (by simp); obtain ⟨cgp0, cgp1, cgp2⟩ := BX.out (gp, (p1, p2, p3)) (by simp))
      | (go_at_call 53; (with_reducible refine (T2.out _).mono ?_); rintro e y ⟨rfl, b⟩; (try (have b := undrew b)); have E := Lib.hid (chain E.out b); have BX := Lib.hid (BX.out.below b); clear b; obtain ⟨cga0, cga1, cga2⟩ := BX.out (ga, (x1, x2, x3)) (by simp); obtain ⟨cgb0, cgb1, cgb2⟩ := BX.out (gb, (y1, y2, y3)) (by simp); obtain ⟨cgc0, cgc1, cgc2⟩ := BX.out (gc, (z1, z2, z3)) (by simp); obtain ⟨cgp0, cgp1, cgp2⟩ := BX.out (gp, (p1, p2, p3)) (by simp))
      | (go_at_call 53; (with_reducible refine (T3.out _).mono ?_); rintro e y ⟨rfl, b⟩; (try (have b := undrew b)); have E := Lib.hid (chain E.out b); have BX := Lib.hid (BX.out.below b); clear b; obtain ⟨cga0, cga1, cga2⟩ := BX.out (ga, (x1, x2, x3)) (by simp); obtain ⟨cgb0, cgb1, cgb2⟩ := BX.out (gb, (y1, y2, y3)) (by simp); obtain ⟨cgc0, cgc1, cgc2⟩ := BX.out (gc, (z1, z2, z3)) (by simp); obtain ⟨cgp0, cgp1, cgp2⟩ := BX.out (gp, (p1, p2, p3)) (by simp))
      | fail)
  have D := Lib.hid (Below.refl w.heap.size w)
  clear cga0 cga1 cga2 cgb0 cgb1 cgb2 cgc0 cgc1 cgc2 cgp0 cgp1 cgp2
  obtain ⟨cga0, cga1, cga2⟩ := BX.out (ga, (x1, x2, x3)) (by simp)
  obtain ⟨cgb0, cgb1, cgb2⟩ := BX.out (gb, (y1, y2, y3)) (by simp)
  obtain ⟨cgp0, cgp1, cgp2⟩ := BX.out (gp, (p1, p2, p3)) (by simp)
  go_wp2_with fail
  refine (O1.out _).mono ?_
  rintro e y ⟨rfl, b⟩
  have E := Lib.hid (chain E.out b)
  have BX := Lib.hid (BX.out.below b)
  clear b cga0 cga1 cga2 cgb0 cgb1 cgb2 cgp0 cgp1 cgp2
  obtain ⟨cgb0, cgb1, cgb2⟩ := BX.out (gb, (y1, y2, y3)) (by simp)
  obtain ⟨cgc0, cgc1, cgc2⟩ := BX.out (gc, (z1, z2, z3)) (by simp)
  obtain ⟨cgp0, cgp1, cgp2⟩ := BX.out (gp, (p1, p2, p3)) (by simp)
  go_wp2_with fail
  refine (O2.out _).mono ?_
  rintro e y ⟨rfl, b⟩
  have E := Lib.hid (chain E.out b)
  have BX := Lib.hid (BX.out.below b)
  clear b cgb0 cgb1 cgb2 cgc0 cgc1 cgc2 cgp0 cgp1 cgp2
  obtain ⟨cgc0, cgc1, cgc2⟩ := BX.out (gc, (z1, z2, z3)) (by simp)
  obtain ⟨cga0, cga1, cga2⟩ := BX.out (ga, (x1, x2, x3)) (by simp)
  obtain ⟨cgp0, cgp1, cgp2⟩ := BX.out (gp, (p1, p2, p3)) (by simp)
  go_wp2_with fail
  refine (O3.out _).mono ?_
  rintro e y ⟨rfl, b⟩
  have E := Lib.hid (chain E.out b)
  have BX := Lib.hid (BX.out.below b)
  clear b cgc0 cgc1 cgc2 cga0 cga1 cga2 cgp0 cgp1 cgp2
  go_wp2
  go_ret
  exact ⟨rfl, by first | exact E.out | exact E.out.drew⟩

set_option maxRecDepth 100000 in
set_option maxHeartbeats 4000000 in
theorem in_n (x1 x2 x3 y1 y2 y3 z1 z2 z3 p1 p2 p3 r s t : Int) (h0 : (r != 0) = true) (h1 : (r == s) = false) 
    (T1 : ∀ w, Calls Try.prog 53 #[vv x1 x2 x3, vv y1 y2 y3, vv p1 p2 p3] w (Ret (.int .i64 r) w))
    (T2 : ∀ w, Calls Try.prog 53 #[vv y1 y2 y3, vv z1 z2 z3, vv p1 p2 p3] w (Ret (.int .i64 s) w))
    (T3 : ∀ w, Calls Try.prog 53 #[vv z1 z2 z3, vv x1 x2 x3, vv p1 p2 p3] w (Ret (.int .i64 t) w))
    (O1 : ∀ w, Calls Try.prog 78 #[vv x1 x2 x3, vv y1 y2 y3, vv p1 p2 p3] w (Ret (.bool false) w))
    (O2 : ∀ w, Calls Try.prog 78 #[vv y1 y2 y3, vv z1 z2 z3, vv p1 p2 p3] w (Ret (.bool false) w))
    (O3 : ∀ w, Calls Try.prog 78 #[vv z1 z2 z3, vv x1 x2 x3, vv p1 p2 p3] w (Ret (.bool false) w)) (w : World) :
    Calls Try.prog 70 #[vv x1 x2 x3, vv y1 y2 y3, vv z1 z2 z3, vv p1 p2 p3] w (Ret (.bool false) w) := by
  have T1 := Lib.hid T1
  have T2 := Lib.hid T2
  have T3 := Lib.hid T3
  have O1 := Lib.hid O1
  have O2 := Lib.hid O2
  have O3 := Lib.hid O3
  have E := Lib.hid (Below.refl w.heap.size w)
  have BX := Lib.hid (Bxs.nil w)
  go_enter Try.func70, Try.ntmps70
  go_upto_region 1 with (fail)
  obtain ⟨u0, hu⟩ : ∃ u0 : World, u0 = w.alloc (.cells #[.int .i64 x1, .int .i64 x2, .int .i64 x3] 24) := ⟨_, rfl⟩
  have b : Below w.heap.size w u0 := by rw [hu]; exact below_one _ _
  have E := Lib.hid (chain E.out b)
  have BX := Lib.hid (BX.out.cons x1 x2 x3)
  rw [← hu] at BX
  have hs : w.heap.size + 1 = u0.heap.size := by rw [hu]; simp
  rw [← hu]
  rw [hs]
  obtain ⟨ga, hga⟩ : ∃ ga, ga = w.heap.size := ⟨_, rfl⟩
  rw [← hga] at BX ⊢
  clear hu b hga hs
  obtain ⟨u1, hu⟩ : ∃ u1 : World, u1 = u0.alloc (.cells #[.int .i64 y1, .int .i64 y2, .int .i64 y3] 24) := ⟨_, rfl⟩
  have b : Below u0.heap.size u0 u1 := by rw [hu]; exact below_one _ _
  have E := Lib.hid (chain E.out b)
  have BX := Lib.hid (BX.out.cons y1 y2 y3)
  rw [← hu] at BX
  have hs : u0.heap.size + 1 = u1.heap.size := by rw [hu]; simp
  rw [← hu]
  rw [hs]
  obtain ⟨gb, hgb⟩ : ∃ gb, gb = u0.heap.size := ⟨_, rfl⟩
  rw [← hgb] at BX ⊢
  clear hu b hgb hs
  obtain ⟨u2, hu⟩ : ∃ u2 : World, u2 = u1.alloc (.cells #[.int .i64 z1, .int .i64 z2, .int .i64 z3] 24) := ⟨_, rfl⟩
  have b : Below u1.heap.size u1 u2 := by rw [hu]; exact below_one _ _
  have E := Lib.hid (chain E.out b)
  have BX := Lib.hid (BX.out.cons z1 z2 z3)
  rw [← hu] at BX
  have hs : u1.heap.size + 1 = u2.heap.size := by rw [hu]; simp
  rw [← hu]
  rw [hs]
  obtain ⟨gc, hgc⟩ : ∃ gc, gc = u1.heap.size := ⟨_, rfl⟩
  rw [← hgc] at BX ⊢
  clear hu b hgc hs
  obtain ⟨u3, hu⟩ : ∃ u3 : World, u3 = u2.alloc (.cells #[.int .i64 p1, .int .i64 p2, .int .i64 p3] 24) := ⟨_, rfl⟩
  have b : Below u2.heap.size u2 u3 := by rw [hu]; exact below_one _ _
  have E := Lib.hid (chain E.out b)
  have BX := Lib.hid (BX.out.cons p1 p2 p3)
  rw [← hu] at BX
  rw [← hu]
  obtain ⟨gp, hgp⟩ : ∃ gp, gp = u2.heap.size := ⟨_, rfl⟩
  rw [← hgp] at BX ⊢
  clear hu b hgp
  obtain ⟨cga0, cga1, cga2⟩ := BX.out (ga, (x1, x2, x3)) (by simp)
  obtain ⟨cgb0, cgb1, cgb2⟩ := BX.out (gb, (y1, y2, y3)) (by simp)
  obtain ⟨cgc0, cgc1, cgc2⟩ := BX.out (gc, (z1, z2, z3)) (by simp)
  obtain ⟨cgp0, cgp1, cgp2⟩ := BX.out (gp, (p1, p2, p3)) (by simp)
  go_region_held3 (fun W' => W'.cell? ⟨ga, 0, none⟩ = some (.int .i64 x1) ∧ W'.cell? ⟨ga, 1, none⟩ = some (.int .i64 x2) ∧ W'.cell? ⟨ga, 2, none⟩ = some (.int .i64 x3) ∧ W'.cell? ⟨gb, 0, none⟩ = some (.int .i64 y1) ∧ W'.cell? ⟨gb, 1, none⟩ = some (.int .i64 y2) ∧ W'.cell? ⟨gb, 2, none⟩ = some (.int .i64 y3) ∧ W'.cell? ⟨gc, 0, none⟩ = some (.int .i64 z1) ∧ W'.cell? ⟨gc, 1, none⟩ = some (.int .i64 z2) ∧ W'.cell? ⟨gc, 2, none⟩ = some (.int .i64 z3) ∧ W'.cell? ⟨gp, 0, none⟩ = some (.int .i64 p1) ∧ W'.cell? ⟨gp, 1, none⟩ = some (.int .i64 p2) ∧ W'.cell? ⟨gp, 2, none⟩ = some (.int .i64 p3)) (go_keep)
    (first
      | (go_at_call 53; (with_reducible refine (T1.out _).mono ?_); rintro e y ⟨rfl, b⟩; (try (have b := undrew b)); have E := Lib.hid (chain E.out b); have BX := Lib.hid (BX.out.below b); clear b; obtain ⟨cga0, cga1, cga2⟩ := BX.out (ga, (x1, x2, x3)) (by simp); obtain ⟨cgb0, cgb1, cgb2⟩ := BX.out (gb, (y1, y2, y3)) (by simp); obtain ⟨cgc0, cgc1, cgc2⟩ := BX.out (gc, (z1, z2, z3)) (by simp); obtain ⟨cgp0, cgp1, cgp2⟩ := BX.out (gp, (p1, p2, p3)) (by simp))
      | (go_at_call 53; (with_reducible refine (T2.out _).mono ?_); rintro e y ⟨rfl, b⟩; (try (have b := undrew b)); have E := Lib.hid (chain E.out b); have BX := Lib.hid (BX.out.below b); clear b; obtain ⟨cga0, cga1, cga2⟩ := BX.out (ga, (x1, x2, x3)) (by simp); obtain ⟨cgb0, cgb1, cgb2⟩ := BX.out (gb, (y1, y2, y3)) (by simp); obtain ⟨cgc0, cgc1, cgc2⟩ := BX.out (gc, (z1, z2, z3)) (by simp); obtain ⟨cgp0, cgp1, cgp2⟩ := BX.out (gp, (p1, p2, p3)) (by simp))
      | (go_at_call 53; (with_reducible refine (T3.out _).mono ?_); rintro e y ⟨rfl, b⟩; (try (have b := undrew b)); have E := Lib.hid (chain E.out b); have BX := Lib.hid (BX.out.below b); clear b; obtain ⟨cga0, cga1, cga2⟩ := BX.out (ga, (x1, x2, x3)) (by simp); obtain ⟨cgb0, cgb1, cgb2⟩ := BX.out (gb, (y1, y2, y3)) (by simp); obtain ⟨cgc0, cgc1, cgc2⟩ := BX.out (gc, (z1, z2, z3)) (by simp); obtain ⟨cgp0, cgp1, cgp2⟩ := BX.out (gp, (p1, p2, p3)) (by simp))
      | fail)
  have D := Lib.hid (Below.refl w.heap.size w)
  clear cga0 cga1 cga2 cgb0 cgb1 cgb2 cgc0 cgc1 cgc2 cgp0 cgp1 cgp2
  obtain ⟨cga0, cga1, cga2⟩ := BX.out (ga, (x1, x2, x3)) (by simp)
  obtain ⟨cgb0, cgb1, cgb2⟩ := BX.out (gb, (y1, y2, y3)) (by simp)
  obtain ⟨cgp0, cgp1, cgp2⟩ := BX.out (gp, (p1, p2, p3)) (by simp)
  go_wp2_with fail
  refine (O1.out _).mono ?_
  rintro e y ⟨rfl, b⟩
  have E := Lib.hid (chain E.out b)
  have BX := Lib.hid (BX.out.below b)
  clear b cga0 cga1 cga2 cgb0 cgb1 cgb2 cgp0 cgp1 cgp2
  obtain ⟨cgb0, cgb1, cgb2⟩ := BX.out (gb, (y1, y2, y3)) (by simp)
  obtain ⟨cgc0, cgc1, cgc2⟩ := BX.out (gc, (z1, z2, z3)) (by simp)
  obtain ⟨cgp0, cgp1, cgp2⟩ := BX.out (gp, (p1, p2, p3)) (by simp)
  go_wp2_with fail
  refine (O2.out _).mono ?_
  rintro e y ⟨rfl, b⟩
  have E := Lib.hid (chain E.out b)
  have BX := Lib.hid (BX.out.below b)
  clear b cgb0 cgb1 cgb2 cgc0 cgc1 cgc2 cgp0 cgp1 cgp2
  obtain ⟨cgc0, cgc1, cgc2⟩ := BX.out (gc, (z1, z2, z3)) (by simp)
  obtain ⟨cga0, cga1, cga2⟩ := BX.out (ga, (x1, x2, x3)) (by simp)
  obtain ⟨cgp0, cgp1, cgp2⟩ := BX.out (gp, (p1, p2, p3)) (by simp)
  go_wp2_with fail
  refine (O3.out _).mono ?_
  rintro e y ⟨rfl, b⟩
  have E := Lib.hid (chain E.out b)
  have BX := Lib.hid (BX.out.below b)
  clear b cgc0 cgc1 cgc2 cga0 cga1 cga2 cgp0 cgp1 cgp2
  go_wp2
  go_ret
  exact ⟨rfl, by first | exact E.out | exact E.out.drew⟩

set_option maxRecDepth 100000 in
set_option maxHeartbeats 4000000 in
theorem in_m (x1 x2 x3 y1 y2 y3 z1 z2 z3 p1 p2 p3 r s t : Int) (h0 : (r != 0) = true) (h1 : (r == s) = true) (h2 : (s == t) = false) 
    (T1 : ∀ w, Calls Try.prog 53 #[vv x1 x2 x3, vv y1 y2 y3, vv p1 p2 p3] w (Ret (.int .i64 r) w))
    (T2 : ∀ w, Calls Try.prog 53 #[vv y1 y2 y3, vv z1 z2 z3, vv p1 p2 p3] w (Ret (.int .i64 s) w))
    (T3 : ∀ w, Calls Try.prog 53 #[vv z1 z2 z3, vv x1 x2 x3, vv p1 p2 p3] w (Ret (.int .i64 t) w))
    (O1 : ∀ w, Calls Try.prog 78 #[vv x1 x2 x3, vv y1 y2 y3, vv p1 p2 p3] w (Ret (.bool false) w))
    (O2 : ∀ w, Calls Try.prog 78 #[vv y1 y2 y3, vv z1 z2 z3, vv p1 p2 p3] w (Ret (.bool false) w))
    (O3 : ∀ w, Calls Try.prog 78 #[vv z1 z2 z3, vv x1 x2 x3, vv p1 p2 p3] w (Ret (.bool false) w)) (w : World) :
    Calls Try.prog 70 #[vv x1 x2 x3, vv y1 y2 y3, vv z1 z2 z3, vv p1 p2 p3] w (Ret (.bool false) w) := by
  have T1 := Lib.hid T1
  have T2 := Lib.hid T2
  have T3 := Lib.hid T3
  have O1 := Lib.hid O1
  have O2 := Lib.hid O2
  have O3 := Lib.hid O3
  have E := Lib.hid (Below.refl w.heap.size w)
  have BX := Lib.hid (Bxs.nil w)
  go_enter Try.func70, Try.ntmps70
  go_upto_region 1 with (fail)
  obtain ⟨u0, hu⟩ : ∃ u0 : World, u0 = w.alloc (.cells #[.int .i64 x1, .int .i64 x2, .int .i64 x3] 24) := ⟨_, rfl⟩
  have b : Below w.heap.size w u0 := by rw [hu]; exact below_one _ _
  have E := Lib.hid (chain E.out b)
  have BX := Lib.hid (BX.out.cons x1 x2 x3)
  rw [← hu] at BX
  have hs : w.heap.size + 1 = u0.heap.size := by rw [hu]; simp
  rw [← hu]
  rw [hs]
  obtain ⟨ga, hga⟩ : ∃ ga, ga = w.heap.size := ⟨_, rfl⟩
  rw [← hga] at BX ⊢
  clear hu b hga hs
  obtain ⟨u1, hu⟩ : ∃ u1 : World, u1 = u0.alloc (.cells #[.int .i64 y1, .int .i64 y2, .int .i64 y3] 24) := ⟨_, rfl⟩
  have b : Below u0.heap.size u0 u1 := by rw [hu]; exact below_one _ _
  have E := Lib.hid (chain E.out b)
  have BX := Lib.hid (BX.out.cons y1 y2 y3)
  rw [← hu] at BX
  have hs : u0.heap.size + 1 = u1.heap.size := by rw [hu]; simp
  rw [← hu]
  rw [hs]
  obtain ⟨gb, hgb⟩ : ∃ gb, gb = u0.heap.size := ⟨_, rfl⟩
  rw [← hgb] at BX ⊢
  clear hu b hgb hs
  obtain ⟨u2, hu⟩ : ∃ u2 : World, u2 = u1.alloc (.cells #[.int .i64 z1, .int .i64 z2, .int .i64 z3] 24) := ⟨_, rfl⟩
  have b : Below u1.heap.size u1 u2 := by rw [hu]; exact below_one _ _
  have E := Lib.hid (chain E.out b)
  have BX := Lib.hid (BX.out.cons z1 z2 z3)
  rw [← hu] at BX
  have hs : u1.heap.size + 1 = u2.heap.size := by rw [hu]; simp
  rw [← hu]
  rw [hs]
  obtain ⟨gc, hgc⟩ : ∃ gc, gc = u1.heap.size := ⟨_, rfl⟩
  rw [← hgc] at BX ⊢
  clear hu b hgc hs
  obtain ⟨u3, hu⟩ : ∃ u3 : World, u3 = u2.alloc (.cells #[.int .i64 p1, .int .i64 p2, .int .i64 p3] 24) := ⟨_, rfl⟩
  have b : Below u2.heap.size u2 u3 := by rw [hu]; exact below_one _ _
  have E := Lib.hid (chain E.out b)
  have BX := Lib.hid (BX.out.cons p1 p2 p3)
  rw [← hu] at BX
  rw [← hu]
  obtain ⟨gp, hgp⟩ : ∃ gp, gp = u2.heap.size := ⟨_, rfl⟩
  rw [← hgp] at BX ⊢
  clear hu b hgp
  obtain ⟨cga0, cga1, cga2⟩ := BX.out (ga, (x1, x2, x3)) (by simp)
  obtain ⟨cgb0, cgb1, cgb2⟩ := BX.out (gb, (y1, y2, y3)) (by simp)
  obtain ⟨cgc0, cgc1, cgc2⟩ := BX.out (gc, (z1, z2, z3)) (by simp)
  obtain ⟨cgp0, cgp1, cgp2⟩ := BX.out (gp, (p1, p2, p3)) (by simp)
  go_region_held3 (fun W' => W'.cell? ⟨ga, 0, none⟩ = some (.int .i64 x1) ∧ W'.cell? ⟨ga, 1, none⟩ = some (.int .i64 x2) ∧ W'.cell? ⟨ga, 2, none⟩ = some (.int .i64 x3) ∧ W'.cell? ⟨gb, 0, none⟩ = some (.int .i64 y1) ∧ W'.cell? ⟨gb, 1, none⟩ = some (.int .i64 y2) ∧ W'.cell? ⟨gb, 2, none⟩ = some (.int .i64 y3) ∧ W'.cell? ⟨gc, 0, none⟩ = some (.int .i64 z1) ∧ W'.cell? ⟨gc, 1, none⟩ = some (.int .i64 z2) ∧ W'.cell? ⟨gc, 2, none⟩ = some (.int .i64 z3) ∧ W'.cell? ⟨gp, 0, none⟩ = some (.int .i64 p1) ∧ W'.cell? ⟨gp, 1, none⟩ = some (.int .i64 p2) ∧ W'.cell? ⟨gp, 2, none⟩ = some (.int .i64 p3)) (go_keep)
    (first
      | (go_at_call 53; (with_reducible refine (T1.out _).mono ?_); rintro e y ⟨rfl, b⟩; (try (have b := undrew b)); have E := Lib.hid (chain E.out b); have BX := Lib.hid (BX.out.below b); clear b; obtain ⟨cga0, cga1, cga2⟩ := BX.out (ga, (x1, x2, x3)) (by simp); obtain ⟨cgb0, cgb1, cgb2⟩ := BX.out (gb, (y1, y2, y3)) (by simp); obtain ⟨cgc0, cgc1, cgc2⟩ := BX.out (gc, (z1, z2, z3)) (by simp); obtain ⟨cgp0, cgp1, cgp2⟩ := BX.out (gp, (p1, p2, p3)) (by simp))
      | (go_at_call 53; (with_reducible refine (T2.out _).mono ?_); rintro e y ⟨rfl, b⟩; (try (have b := undrew b)); have E := Lib.hid (chain E.out b); have BX := Lib.hid (BX.out.below b); clear b; obtain ⟨cga0, cga1, cga2⟩ := BX.out (ga, (x1, x2, x3)) (by simp); obtain ⟨cgb0, cgb1, cgb2⟩ := BX.out (gb, (y1, y2, y3)) (by simp); obtain ⟨cgc0, cgc1, cgc2⟩ := BX.out (gc, (z1, z2, z3)) (by simp); obtain ⟨cgp0, cgp1, cgp2⟩ := BX.out (gp, (p1, p2, p3)) (by simp))
      | (go_at_call 53; (with_reducible refine (T3.out _).mono ?_); rintro e y ⟨rfl, b⟩; (try (have b := undrew b)); have E := Lib.hid (chain E.out b); have BX := Lib.hid (BX.out.below b); clear b; obtain ⟨cga0, cga1, cga2⟩ := BX.out (ga, (x1, x2, x3)) (by simp); obtain ⟨cgb0, cgb1, cgb2⟩ := BX.out (gb, (y1, y2, y3)) (by simp); obtain ⟨cgc0, cgc1, cgc2⟩ := BX.out (gc, (z1, z2, z3)) (by simp); obtain ⟨cgp0, cgp1, cgp2⟩ := BX.out (gp, (p1, p2, p3)) (by simp))
      | fail)
  have D := Lib.hid (Below.refl w.heap.size w)
  clear cga0 cga1 cga2 cgb0 cgb1 cgb2 cgc0 cgc1 cgc2 cgp0 cgp1 cgp2
  obtain ⟨cga0, cga1, cga2⟩ := BX.out (ga, (x1, x2, x3)) (by simp)
  obtain ⟨cgb0, cgb1, cgb2⟩ := BX.out (gb, (y1, y2, y3)) (by simp)
  obtain ⟨cgp0, cgp1, cgp2⟩ := BX.out (gp, (p1, p2, p3)) (by simp)
  go_wp2_with fail
  refine (O1.out _).mono ?_
  rintro e y ⟨rfl, b⟩
  have E := Lib.hid (chain E.out b)
  have BX := Lib.hid (BX.out.below b)
  clear b cga0 cga1 cga2 cgb0 cgb1 cgb2 cgp0 cgp1 cgp2
  obtain ⟨cgb0, cgb1, cgb2⟩ := BX.out (gb, (y1, y2, y3)) (by simp)
  obtain ⟨cgc0, cgc1, cgc2⟩ := BX.out (gc, (z1, z2, z3)) (by simp)
  obtain ⟨cgp0, cgp1, cgp2⟩ := BX.out (gp, (p1, p2, p3)) (by simp)
  go_wp2_with fail
  refine (O2.out _).mono ?_
  rintro e y ⟨rfl, b⟩
  have E := Lib.hid (chain E.out b)
  have BX := Lib.hid (BX.out.below b)
  clear b cgb0 cgb1 cgb2 cgc0 cgc1 cgc2 cgp0 cgp1 cgp2
  obtain ⟨cgc0, cgc1, cgc2⟩ := BX.out (gc, (z1, z2, z3)) (by simp)
  obtain ⟨cga0, cga1, cga2⟩ := BX.out (ga, (x1, x2, x3)) (by simp)
  obtain ⟨cgp0, cgp1, cgp2⟩ := BX.out (gp, (p1, p2, p3)) (by simp)
  go_wp2_with fail
  refine (O3.out _).mono ?_
  rintro e y ⟨rfl, b⟩
  have E := Lib.hid (chain E.out b)
  have BX := Lib.hid (BX.out.below b)
  clear b cgc0 cgc1 cgc2 cga0 cga1 cga2 cgp0 cgp1 cgp2
  go_wp2
  go_ret
  exact ⟨rfl, by first | exact E.out | exact E.out.drew⟩

set_option maxRecDepth 100000 in
set_option maxHeartbeats 4000000 in
theorem in_s (x1 x2 x3 y1 y2 y3 z1 z2 z3 p1 p2 p3 r s t : Int) (h0 : (r != 0) = true) (h1 : (r == s) = true) (h2 : (s == t) = true) 
    (T1 : ∀ w, Calls Try.prog 53 #[vv x1 x2 x3, vv y1 y2 y3, vv p1 p2 p3] w (Ret (.int .i64 r) w))
    (T2 : ∀ w, Calls Try.prog 53 #[vv y1 y2 y3, vv z1 z2 z3, vv p1 p2 p3] w (Ret (.int .i64 s) w))
    (T3 : ∀ w, Calls Try.prog 53 #[vv z1 z2 z3, vv x1 x2 x3, vv p1 p2 p3] w (Ret (.int .i64 t) w))
    (O1 : ∀ w, Calls Try.prog 78 #[vv x1 x2 x3, vv y1 y2 y3, vv p1 p2 p3] w (Ret (.bool false) w))
    (O2 : ∀ w, Calls Try.prog 78 #[vv y1 y2 y3, vv z1 z2 z3, vv p1 p2 p3] w (Ret (.bool false) w))
    (O3 : ∀ w, Calls Try.prog 78 #[vv z1 z2 z3, vv x1 x2 x3, vv p1 p2 p3] w (Ret (.bool false) w)) (w : World) :
    Calls Try.prog 70 #[vv x1 x2 x3, vv y1 y2 y3, vv z1 z2 z3, vv p1 p2 p3] w (Ret (.bool true) w) := by
  have T1 := Lib.hid T1
  have T2 := Lib.hid T2
  have T3 := Lib.hid T3
  have O1 := Lib.hid O1
  have O2 := Lib.hid O2
  have O3 := Lib.hid O3
  have E := Lib.hid (Below.refl w.heap.size w)
  have BX := Lib.hid (Bxs.nil w)
  go_enter Try.func70, Try.ntmps70
  go_upto_region 1 with (fail)
  obtain ⟨u0, hu⟩ : ∃ u0 : World, u0 = w.alloc (.cells #[.int .i64 x1, .int .i64 x2, .int .i64 x3] 24) := ⟨_, rfl⟩
  have b : Below w.heap.size w u0 := by rw [hu]; exact below_one _ _
  have E := Lib.hid (chain E.out b)
  have BX := Lib.hid (BX.out.cons x1 x2 x3)
  rw [← hu] at BX
  have hs : w.heap.size + 1 = u0.heap.size := by rw [hu]; simp
  rw [← hu]
  rw [hs]
  obtain ⟨ga, hga⟩ : ∃ ga, ga = w.heap.size := ⟨_, rfl⟩
  rw [← hga] at BX ⊢
  clear hu b hga hs
  obtain ⟨u1, hu⟩ : ∃ u1 : World, u1 = u0.alloc (.cells #[.int .i64 y1, .int .i64 y2, .int .i64 y3] 24) := ⟨_, rfl⟩
  have b : Below u0.heap.size u0 u1 := by rw [hu]; exact below_one _ _
  have E := Lib.hid (chain E.out b)
  have BX := Lib.hid (BX.out.cons y1 y2 y3)
  rw [← hu] at BX
  have hs : u0.heap.size + 1 = u1.heap.size := by rw [hu]; simp
  rw [← hu]
  rw [hs]
  obtain ⟨gb, hgb⟩ : ∃ gb, gb = u0.heap.size := ⟨_, rfl⟩
  rw [← hgb] at BX ⊢
  clear hu b hgb hs
  obtain ⟨u2, hu⟩ : ∃ u2 : World, u2 = u1.alloc (.cells #[.int .i64 z1, .int .i64 z2, .int .i64 z3] 24) := ⟨_, rfl⟩
  have b : Below u1.heap.size u1 u2 := by rw [hu]; exact below_one _ _
  have E := Lib.hid (chain E.out b)
  have BX := Lib.hid (BX.out.cons z1 z2 z3)
  rw [← hu] at BX
  have hs : u1.heap.size + 1 = u2.heap.size := by rw [hu]; simp
  rw [← hu]
  rw [hs]
  obtain ⟨gc, hgc⟩ : ∃ gc, gc = u1.heap.size := ⟨_, rfl⟩
  rw [← hgc] at BX ⊢
  clear hu b hgc hs
  obtain ⟨u3, hu⟩ : ∃ u3 : World, u3 = u2.alloc (.cells #[.int .i64 p1, .int .i64 p2, .int .i64 p3] 24) := ⟨_, rfl⟩
  have b : Below u2.heap.size u2 u3 := by rw [hu]; exact below_one _ _
  have E := Lib.hid (chain E.out b)
  have BX := Lib.hid (BX.out.cons p1 p2 p3)
  rw [← hu] at BX
  rw [← hu]
  obtain ⟨gp, hgp⟩ : ∃ gp, gp = u2.heap.size := ⟨_, rfl⟩
  rw [← hgp] at BX ⊢
  clear hu b hgp
  obtain ⟨cga0, cga1, cga2⟩ := BX.out (ga, (x1, x2, x3)) (by simp)
  obtain ⟨cgb0, cgb1, cgb2⟩ := BX.out (gb, (y1, y2, y3)) (by simp)
  obtain ⟨cgc0, cgc1, cgc2⟩ := BX.out (gc, (z1, z2, z3)) (by simp)
  obtain ⟨cgp0, cgp1, cgp2⟩ := BX.out (gp, (p1, p2, p3)) (by simp)
  go_region_held3 (fun W' => W'.cell? ⟨ga, 0, none⟩ = some (.int .i64 x1) ∧ W'.cell? ⟨ga, 1, none⟩ = some (.int .i64 x2) ∧ W'.cell? ⟨ga, 2, none⟩ = some (.int .i64 x3) ∧ W'.cell? ⟨gb, 0, none⟩ = some (.int .i64 y1) ∧ W'.cell? ⟨gb, 1, none⟩ = some (.int .i64 y2) ∧ W'.cell? ⟨gb, 2, none⟩ = some (.int .i64 y3) ∧ W'.cell? ⟨gc, 0, none⟩ = some (.int .i64 z1) ∧ W'.cell? ⟨gc, 1, none⟩ = some (.int .i64 z2) ∧ W'.cell? ⟨gc, 2, none⟩ = some (.int .i64 z3) ∧ W'.cell? ⟨gp, 0, none⟩ = some (.int .i64 p1) ∧ W'.cell? ⟨gp, 1, none⟩ = some (.int .i64 p2) ∧ W'.cell? ⟨gp, 2, none⟩ = some (.int .i64 p3)) (go_keep)
    (first
      | (go_at_call 53; (with_reducible refine (T1.out _).mono ?_); rintro e y ⟨rfl, b⟩; (try (have b := undrew b)); have E := Lib.hid (chain E.out b); have BX := Lib.hid (BX.out.below b); clear b; obtain ⟨cga0, cga1, cga2⟩ := BX.out (ga, (x1, x2, x3)) (by simp); obtain ⟨cgb0, cgb1, cgb2⟩ := BX.out (gb, (y1, y2, y3)) (by simp); obtain ⟨cgc0, cgc1, cgc2⟩ := BX.out (gc, (z1, z2, z3)) (by simp); obtain ⟨cgp0, cgp1, cgp2⟩ := BX.out (gp, (p1, p2, p3)) (by simp))
      | (go_at_call 53; (with_reducible refine (T2.out _).mono ?_); rintro e y ⟨rfl, b⟩; (try (have b := undrew b)); have E := Lib.hid (chain E.out b); have BX := Lib.hid (BX.out.below b); clear b; obtain ⟨cga0, cga1, cga2⟩ := BX.out (ga, (x1, x2, x3)) (by simp); obtain ⟨cgb0, cgb1, cgb2⟩ := BX.out (gb, (y1, y2, y3)) (by simp); obtain ⟨cgc0, cgc1, cgc2⟩ := BX.out (gc, (z1, z2, z3)) (by simp); obtain ⟨cgp0, cgp1, cgp2⟩ := BX.out (gp, (p1, p2, p3)) (by simp))
      | (go_at_call 53; (with_reducible refine (T3.out _).mono ?_); rintro e y ⟨rfl, b⟩; (try (have b := undrew b)); have E := Lib.hid (chain E.out b); have BX := Lib.hid (BX.out.below b); clear b; obtain ⟨cga0, cga1, cga2⟩ := BX.out (ga, (x1, x2, x3)) (by simp); obtain ⟨cgb0, cgb1, cgb2⟩ := BX.out (gb, (y1, y2, y3)) (by simp); obtain ⟨cgc0, cgc1, cgc2⟩ := BX.out (gc, (z1, z2, z3)) (by simp); obtain ⟨cgp0, cgp1, cgp2⟩ := BX.out (gp, (p1, p2, p3)) (by simp))
      | fail)
  have D := Lib.hid (Below.refl w.heap.size w)
  clear cga0 cga1 cga2 cgb0 cgb1 cgb2 cgc0 cgc1 cgc2 cgp0 cgp1 cgp2
  obtain ⟨cga0, cga1, cga2⟩ := BX.out (ga, (x1, x2, x3)) (by simp)
  obtain ⟨cgb0, cgb1, cgb2⟩ := BX.out (gb, (y1, y2, y3)) (by simp)
  obtain ⟨cgp0, cgp1, cgp2⟩ := BX.out (gp, (p1, p2, p3)) (by simp)
  go_wp2_with fail
  refine (O1.out _).mono ?_
  rintro e y ⟨rfl, b⟩
  have E := Lib.hid (chain E.out b)
  have BX := Lib.hid (BX.out.below b)
  clear b cga0 cga1 cga2 cgb0 cgb1 cgb2 cgp0 cgp1 cgp2
  obtain ⟨cgb0, cgb1, cgb2⟩ := BX.out (gb, (y1, y2, y3)) (by simp)
  obtain ⟨cgc0, cgc1, cgc2⟩ := BX.out (gc, (z1, z2, z3)) (by simp)
  obtain ⟨cgp0, cgp1, cgp2⟩ := BX.out (gp, (p1, p2, p3)) (by simp)
  go_wp2_with fail
  refine (O2.out _).mono ?_
  rintro e y ⟨rfl, b⟩
  have E := Lib.hid (chain E.out b)
  have BX := Lib.hid (BX.out.below b)
  clear b cgb0 cgb1 cgb2 cgc0 cgc1 cgc2 cgp0 cgp1 cgp2
  obtain ⟨cgc0, cgc1, cgc2⟩ := BX.out (gc, (z1, z2, z3)) (by simp)
  obtain ⟨cga0, cga1, cga2⟩ := BX.out (ga, (x1, x2, x3)) (by simp)
  obtain ⟨cgp0, cgp1, cgp2⟩ := BX.out (gp, (p1, p2, p3)) (by simp)
  go_wp2_with fail
  refine (O3.out _).mono ?_
  rintro e y ⟨rfl, b⟩
  have E := Lib.hid (chain E.out b)
  have BX := Lib.hid (BX.out.below b)
  clear b cgc0 cgc1 cgc2 cga0 cga1 cga2 cgp0 cgp1 cgp2
  go_wp2
  go_ret
  exact ⟨rfl, by first | exact E.out | exact E.out.drew⟩
end Go.Proofs.Ytpkfngfenkcjoaa

/- Rows of vectors of the call's own, and what append makes of them. -/
set_option linter.all false
namespace Go.Proofs.Ytpkfngfenkcjoaa
open Go.RowKit

/-- The cells of vectors. -/
def cv (L : List T3) : List Value := L.flatMap fun a => [.int .i64 a.1, .int .i64 a.2.1, .int .i64 a.2.2]
theorem cv_cons (a : T3) (L : List T3) : cv (a :: L) = .int .i64 a.1 :: .int .i64 a.2.1 :: .int .i64 a.2.2 :: cv L := rfl
theorem cv_length (L : List T3) : (cv L).length = L.length * 3 := by
  induction L with
  | nil => rfl
  | cons a L ih => rw [cv_cons]; simp only [List.length_cons, ih]; omega
theorem cv_append (L M : List T3) : cv (L ++ M) = cv L ++ cv M := by simp [cv]
theorem cv_get (L : List T3) (k : Nat) (h : k < L.length) : (cv L)[k * 3]? = some (.int .i64 L[k].1) ∧ (cv L)[k * 3 + 1]? = some (.int .i64 L[k].2.1) ∧ (cv L)[k * 3 + 2]? = some (.int .i64 L[k].2.2) := by
  induction L generalizing k with
  | nil => simp at h
  | cons a L ih =>
    rw [cv_cons]
    cases k with
    | zero => simp
    | succ k =>
      have h' : k < L.length := by simpa using h
      obtain ⟨h1, h2, h3⟩ := ih k h'
      rw [show (k + 1) * 3 = k * 3 + 1 + 1 + 1 by omega]
      simp only [List.getElem?_cons_succ, List.getElem_cons_succ]
      exact ⟨h1, h2, h3⟩
theorem cv_one (L : List T3) : ∀ u ∈ cv L, u.oneCell' = true := by
  intro u hu
  obtain ⟨a, -, ha⟩ := List.mem_flatMap.1 hu
  simp at ha
  rcases ha with rfl | rfl | rfl <;> rfl
/-- v is a row of the call's own, from block B on, that holds the vectors. -/
def RowV (w : World) (B : Nat) (v : Value) (L : List T3) : Prop := w.ownsRow B 24 3 v L.length (cv L)
theorem RowV.nil (w : World) (B : Nat) : RowV w B (.slice none 0 0) [] := ⟨rfl, .inl ⟨rfl, rfl⟩⟩
theorem RowV.rv {w : World} {B : Nat} {v : Value} {L : List T3} (h : RowV w B v L) : Rv w v L := by
  rcases h.2 with ⟨rfl, h0⟩ | ⟨g, cap, cur, rfl, hB, hg, hn, hm, hs, ht⟩
  · obtain rfl := List.eq_nil_of_length_eq_zero h0
    exact ⟨none, 0, 0, 0, rfl, Nat.le_refl _, by decide, fun h => absurd h (by simp), fun k h => absurd h (by simp)⟩
  · have at_ : ∀ j u, (cv L)[j]? = some u → w.cell? ⟨g, 0 + j, none⟩ = some u := by
      intro j u hj
      have := World.ownsRow.cells h (g := g) rfl j u hj
      have hadd : ((⟨g, 0, none⟩ : Addr).add j) = ⟨g, 0 + j, none⟩ := by unfold Addr.add; split <;> simp_all
      rwa [hadd] at this
    refine ⟨some ⟨g, 0, none⟩, g, 0, cap, rfl, hn, hm, fun _ => rfl, fun k hk => ?_⟩
    obtain ⟨h1, h2, h3⟩ := cv_get L k hk
    exact ⟨at_ _ _ h1, by have := at_ _ _ h2; simpa [Nat.add_assoc] using this, by have := at_ _ _ h3; simpa [Nat.add_assoc] using this⟩
theorem RowV.below {w w' : World} {B : Nat} {v : Value} {L : List T3} (h : RowV w B v L) (hb : Below w.heap.size w w') : RowV w' B v L := by
  refine ⟨h.1, ?_⟩
  rcases h.2 with h0 | ⟨g, cap, cur, e, hB, hg, rest⟩
  · exact .inl h0
  · exact .inr ⟨g, cap, cur, e, hB, (hb.block g (lt_of_block hg)).trans hg, rest⟩
theorem RowV.lower {w : World} {B B' : Nat} {v : Value} {L : List T3} (h : RowV w B v L) (hb : B' ≤ B) : RowV w B' v L := by
  refine ⟨h.1, ?_⟩
  rcases h.2 with h0 | ⟨g, cap, cur, e, hB, rest⟩
  · exact .inl h0
  · exact .inr ⟨g, cap, cur, e, Nat.le_trans hb hB, rest⟩
theorem RowV.len {w : World} {B : Nat} {v : Value} {L : List T3} (h : RowV w B v L) : ∃ (p : Option Addr) (c : Nat), v = .slice p L.length c := by
  obtain ⟨p, b, off, cap, e, -⟩ := h.rv
  exact ⟨p, cap, e⟩
/-- One vector in a new block. -/
theorem RowV.made (w : World) (B x y z) (hB : B ≤ w.heap.size) : RowV (w.alloc (.cells #[.int .i64 x, .int .i64 y, .int .i64 z] 24)) B (.slice (some ⟨w.heap.size, 0, none⟩) 1 1) [(x, y, z)] :=
  ⟨rfl, .inr ⟨w.heap.size, 1, _, rfl, hB, heap_alloc_new w _, Nat.le_refl _, by decide, rfl, rfl⟩⟩
/-- A list that is read through a slice whose block is not the row that grew. -/
theorem Rv.grown {w w1 : World} {v : Value} {L : List T3} {row : Option Nat} (h : Rv w v L) (hg : w.grownBy w1 row) (hr : ∀ r, row = some r → v.ownBlock ≠ some r) : Rv w1 v L := by
  obtain ⟨p, b, off, cap, rfl, h2, h3, h4, h5⟩ := h
  refine ⟨p, b, off, cap, rfl, h2, h3, h4, fun k hk => ?_⟩
  have hp := h4 (by omega)
  subst hp
  have hl : b < w.heap.size := World.block_lt_of_cell? w _ (h5 k hk).1
  have hne : some b ≠ row := fun e => hr b e.symm rfl
  have hb := hg.block b hl hne
  exact ⟨(World.cell?_of_block (a := ⟨b, off + k * 3, none⟩) hb).trans (h5 k hk).1, (World.cell?_of_block (a := ⟨b, off + k * 3 + 1, none⟩) hb).trans (h5 k hk).2.1, (World.cell?_of_block (a := ⟨b, off + k * 3 + 2, none⟩) hb).trans (h5 k hk).2.2⟩
theorem RowV.grown {w w1 : World} {B : Nat} {v : Value} {L : List T3} {row : Option Nat} (h : RowV w B v L) (hg : w.grownBy w1 row) (hr : ∀ r, row = some r → v.ownBlock ≠ some r) : RowV w1 B v L := by
  refine ⟨h.1, ?_⟩
  rcases h.2 with h0 | ⟨g, cap, cur, e, hB, hg', rest⟩
  · exact .inl h0
  · refine .inr ⟨g, cap, cur, e, hB, ?_, rest⟩
    rw [hg.block g (lt_of_block hg') fun h' => hr g h'.symm (by rw [e]; rfl)]
    exact hg'
theorem V3.grown {w w1 : World} {g : Nat} {x y z : Int} {row : Option Nat} (h : V3 w g x y z) (hg : w.grownBy w1 row) (hr : row ≠ some g) : V3 w1 g x y z := by
  have hl : g < w.heap.size := World.block_lt_of_cell? w _ h.1
  have hb := hg.block g hl (fun e => hr e.symm)
  exact ⟨(World.cell?_of_block (a := ⟨g, 0, none⟩) hb).trans h.1, (World.cell?_of_block (a := ⟨g, 1, none⟩) hb).trans h.2.1, (World.cell?_of_block (a := ⟨g, 2, none⟩) hb).trans h.2.2⟩
theorem Below.grown_row {B : Nat} {w0 w w1 : World} {v : Value} {L : List T3} (hb : Below B w0 w) (hB : B ≤ w.heap.size) (hrow : RowV w B v L) (hg : w.grownBy w1 v.ownBlock) : Below B w0 w1 :=
  Below.grown hb hg hB (fun q hq => (World.ownsRow.lt hrow q hq).1)

theorem wp_append_V {P : Program} (hP : P = Try.prog) {w : World} {B : Nat} {v vx : Value} {L M : List T3} {o : Oper} {a : Act} {K : Act → World → Prop} {Q : Exit → Act → World → Prop} (s x : Operand)
    (ho : o.op = .call { callee := .builtin .append, args := #[s, x], argTypes := #[22, 22] })
    (hs : a.eval s = v) (hx : a.eval x = vx) (hrow : RowV w B v L) (hr : Rv w vx M) (hl : L.length ≤ 1000000) (hm : M.length ≤ 1000000) (hB : B ≤ w.heap.size) (hne : M = [] → vx = .slice none 0 0 ∨ ∃ ad c, vx = .slice (some ad) 0 c)
    (h : ∀ v' w', RowV w' B v' (L ++ M) → w.grownBy w' v.ownBlock → K (a.put o.dst v') w') : o.wp P a w K Q := by
  subst hP
  have hi : (Try.prog.info? 24).map (fun i => (i.zero, i.size, i.bytes)) = some (some (.agg #[.int .i64 0, .int .i64 0, .int .i64 0]), 3, 24) := by kernel_rfl
  obtain ⟨i0, hi0, hz0, hz1, hz2⟩ := info_parts hi
  obtain ⟨p, b, off, cap, rfl, q2, q3, q4, q5⟩ := hr
  have go : ∀ ad : Addr, (∀ j u, (cv M)[j]? = some u → w.cell? (ad.add j) = some u) → a.eval x = .slice (some ad) M.length cap → o.wp Try.prog a w K Q := by
    intro ad hc hx
    refine wp_append_own w s x 22 ho B 24 i0 (.agg #[.int .i64 0, .int .i64 0, .int .i64 0]) 3 24 Try.underlying22 hi0 hz0 hz1 hz2 rfl (by decide) v L.length (cv L) hs hrow ad M.length cap (cv M) hx (cv_length M) hc (cv_one M) (by unfold maxLen; omega) (by omega) hB ?_
    intro v' w' h1 h2 _
    refine h v' w' ?_ h2
    rw [RowV, List.length_append, cv_append]
    exact h1
  by_cases h0 : 0 < M.length
  · obtain rfl := q4 h0
    refine go ⟨b, off, none⟩ ?_ hx
    intro j u hj
    have hjl : j < M.length * 3 := by rw [← cv_length]; exact (List.getElem?_eq_some_iff.1 hj).1
    have hadd : ((⟨b, off, none⟩ : Addr).add j) = ⟨b, off + j, none⟩ := by unfold Addr.add; split <;> simp_all
    rw [hadd]
    obtain ⟨k, r, hr, rfl⟩ : ∃ k r, r < 3 ∧ j = k * 3 + r := ⟨j / 3, j % 3, by omega, by omega⟩
    have hk : k < M.length := by omega
    obtain ⟨c1, c2, c3⟩ := cv_get M k hk
    obtain ⟨e1, e2, e3⟩ := q5 k hk
    rcases (by omega : r = 0 ∨ r = 1 ∨ r = 2) with rfl | rfl | rfl
    · rw [Nat.add_zero, c1] at hj; cases hj; exact e1
    · rw [c2] at hj; cases hj; exact e2
    · rw [c3] at hj; cases hj; exact e3
  · obtain rfl : M = [] := List.eq_nil_of_length_eq_zero (by omega)
    rcases hne rfl with e | ⟨ad, c, e⟩
    · have hrun := run_append_owned_none (P := Try.prog) (w := w) B 22 o.type 24 i0 3 Try.underlying22 hi0 v L.length (cv L) hrow
      unfold Oper.wp
      rw [e] at hx
      simp [execOp, ho, resolve, invoke, builtin, hs, hx, hrun, Result.andThen]
      refine h v w (by rw [List.append_nil]; exact hrow) ⟨rfl, rfl, rfl, Nat.le_refl _, fun _ _ _ => rfl⟩
    · injection e with e1 e2 e3
      subst e1
      exact go ad (fun j u hj => absurd hj (by simp [cv])) hx
theorem wpList_append_V {P : Program} (hP : P = Try.prog) {w : World} {B : Nat} {v vx : Value} {L M : List T3} {ops : Array Oper} {rest : List Oper} {o : Oper} {a : Act} {Q : Exit → Act → World → Prop} (hgd : o.guard = none) (s x : Operand)
    (ho : o.op = .call { callee := .builtin .append, args := #[s, x], argTypes := #[22, 22] })
    (hs : a.eval s = v) (hx : a.eval x = vx) (hrow : RowV w B v L) (hr : Rv w vx M) (hl : L.length ≤ 1000000) (hm : M.length ≤ 1000000) (hB : B ≤ w.heap.size) (hne : M = [] → vx = .slice none 0 0 ∨ ∃ ad c, vx = .slice (some ad) 0 c)
    (h : ∀ v' w', RowV w' B v' (L ++ M) → w.grownBy w' v.ownBlock → wpList P ops Q rest (a.put o.dst v') w') : wpList P ops Q (o :: rest) a w :=
  wpList_plain hgd fun _ hK => wp_append_V hP s x ho hs hx hrow hr hl hm hB hne fun v' w' h1 h2 => hK _ _ (h v' w' h1 h2)
/-- The first ones of a slice, and those behind them. -/
theorem Rv.take {w : World} {p : Option Addr} {n cap k : Nat} {L : List T3} (h : Rv w (.slice p n cap) L) (hk : k ≤ n) : Rv w (.slice p k cap) (L.take k) := by
  obtain ⟨q, b, off, c, e, h2, h3, h4, h5⟩ := h
  injection e with e1 e2 e3
  subst e1 e2 e3
  have hl : (L.take k).length = k := by rw [List.length_take]; omega
  refine ⟨p, b, off, cap, by rw [hl], by omega, h3, fun h0 => h4 (by omega), fun j hj => ?_⟩
  rw [hl] at hj
  rw [List.getElem_take]
  exact h5 j (by omega)
theorem Rv.drop {w : World} {b off n cap k : Nat} {L : List T3} (h : Rv w (.slice (some ⟨b, off, none⟩) n cap) L) (hk : k ≤ n) : Rv w (.slice (some ⟨b, off + k * 3, none⟩) (n - k) (cap - k)) (L.drop k) := by
  obtain ⟨q, b', off', c, e, h2, h3, h4, h5⟩ := h
  injection e with e1 e2 e3
  subst e2 e3
  have hl : (L.drop k).length = L.length - k := List.length_drop
  refine ⟨some ⟨b, off + k * 3, none⟩, b, off + k * 3, cap - k, by rw [hl], by omega, by unfold maxLen at *; omega, fun _ => rfl, fun j hj => ?_⟩
  rw [hl] at hj
  have h6 := h4 (by omega)
  rw [← e1] at h6
  injection h6 with h6
  injection h6 with y1 y2 y3
  subst y1 y2
  rw [List.getElem_drop]
  obtain ⟨c1, c2, c3⟩ := h5 (k + j) (by omega)
  have e4 : off + (k + j) * 3 = off + k * 3 + j * 3 := by omega
  rw [e4] at c1 c2 c3
  exact ⟨c1, c2, c3⟩
end Go.Proofs.Ytpkfngfenkcjoaa
