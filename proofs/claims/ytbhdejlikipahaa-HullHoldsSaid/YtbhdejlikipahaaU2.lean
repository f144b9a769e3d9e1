/- HullHolds gives true for all two lists of vectors and every vector (P7.6), and leaves its arguments as they were. No condition. -/
import Derived.Test.YtbhdejlikipahaaU1
import Derived.Test.YtbhdejlikipahaaRows
import Derived.Test.YtbhdejlikipahaaZ9

/- HullHolds: the walk where nothing is amiss. -/
set_option linter.all false
namespace Go.Proofs.Ytbhdejlikipahaa
open Go.RowKit

theorem Hull_is (L : List T3) (H : List Hl.P2) (hp : 0 < L.length) (hl : L.length ≤ 10000) (hv : inL 1048576 L = true) (hC : cornersT t3 L = fl H) (v : Value) (w : World) (h : Rv w v L) :
    Calls Try.prog 10 #[v] w fun e w' => ∃ vo, e = .returned (.tuple #[vo, .int .i64 0]) ∧ Rv w' vo (fl H) ∧ Below w.heap.size w w' := Hull_kn L (fl H) hp hl hv hC v w h
theorem Merge_is (L M : List T3) (G : List Hl.P2) (h1 : VH L) (h2 : VH M) (hC : cornersT t3 (L ++ M) = fl G) (v u : Value) (w : World) (h : Rv w v L) (k : Rv w u M) :
    Calls Try.prog 26 #[v, u] w fun e w' => ∃ vo, e = .returned (.tuple #[vo, .int .i64 0]) ∧ Rv w' vo (fl G) ∧ Below w.heap.size w w' := by
  refine (Merge_ok L M v u w h k h1 h2).mono ?_
  rintro e w' ⟨vo, rfl, hr, b⟩
  have hr2 := hr.rv
  rw [hC] at hr2
  exact ⟨vo, rfl, hr2, b⟩
theorem Extent_is (L : List T3) (v : Value) (p1 p2 p3 lo hi : Int) (w : World) (h : Rv w v L) (hv : VH L) (hq : inV 16777216 p1 p2 p3 = true) (h1 : eLo L (p1, p2, p3) L.length = lo) (h2 : eHi L (p1, p2, p3) L.length = hi) :
    Calls Try.prog 21 #[v, vv p1 p2 p3] w (Ret (.tuple #[.int .i64 lo, .int .i64 hi, .int .i64 0]) w) := by
  have := Extent_ok L v p1 p2 p3 w h hv hq
  rwa [h1, h2] at this
/-- Whether one of the first points is above a corner. -/
def fdn (L : List T3) (x y : Int) : Nat → Bool
  | 0 => false
  | j + 1 => fdn L x y j || (decide ((gA L j).1 = x) && decide ((gA L j).2.1 = y))
theorem fdn_of {L : List T3} {x y : Int} {j : Nat} (h1 : (gA L j).1 = x) (h2 : (gA L j).2.1 = y) : ∀ k, j < k → fdn L x y k = true
  | 0, h => by omega
  | k + 1, h => by
    rw [fdn, Bool.or_eq_true]
    rcases Nat.lt_or_ge j k with g | g
    · exact .inl (fdn_of h1 h2 k g)
    · obtain rfl : j = k := by omega
      right
      rw [h1, h2, decide_eq_true rfl, decide_eq_true rfl]; rfl
theorem cells_at {w : World} {b off n cap : Nat} {L : List T3} (h : Rv w (.slice (some ⟨b, off, none⟩) n cap) L) {k : Nat} (hk : k < n) :
    n = L.length ∧ w.cell? ⟨b, off + k * 3, none⟩ = some (.int .i64 (gA L k).1) ∧ w.cell? ⟨b, off + k * 3 + 1, none⟩ = some (.int .i64 (gA L k).2.1) ∧ w.cell? ⟨b, off + k * 3 + 2, none⟩ = some (.int .i64 (gA L k).2.2) := by
  obtain ⟨p', b', off', cap', e, q2, q3, q4, q5⟩ := h
  injection e with e1 e2 e3
  have e4 := e1.trans (q4 (by omega))
  cases e4
  have := q5 k (by omega)
  rw [gA_at (by omega)] at this
  exact ⟨e2, this⟩

set_option maxRecDepth 100000 in
set_option maxHeartbeats 8000000 in
theorem holds_ok (L M : List T3) (v u : Value) (d1 d2 d3 : Int) (w : World) (ha : Rv w v L) (hb : Rv w u M) (hl0 : 0 < L.length) (hl1 : L.length ≤ 20) (hm0 : 0 < M.length) (hm1 : M.length ≤ 20) (hL : inL 1048576 L = true) (hM : inL 1048576 M = true) (hd1 : -1000000 ≤ d1 ∧ d1 ≤ 1000000) (hd2 : -1000000 ≤ d2 ∧ d2 ≤ 1000000) (hd : inV 16777216 d1 d2 d3 = true)
    (H I G : List Hl.P2) (cH : cornersT t3 L = fl H) (cI : cornersT t3 M = fl I) (cHH : cornersT t3 (fl H) = fl H) (vH : VH (fl H)) (vI : VH (fl I)) (cx : cornersT t3 (fl H ++ fl I) = fl G) (cy : cornersT t3 (fl I ++ fl H) = fl G) (cz : cornersT t3 (fl H ++ fl H) = fl H) (ca : cornersT t3 (L ++ M) = fl G)
    (hs : ∀ p ∈ L, 0 ≤ sideV (fl H) p) (hc : ∀ k, k < (fl H).length → (gA (fl H) k).2.2 = 0 ∧ fdn L (gA (fl H) k).1 (gA (fl H) k).2.1 L.length = true) (A lo1 hi1 lo2 hi2 : Int) (hA : aS (fl H) (fl H).length = A) (hA2 : 0 < A ↔ 2 < (fl H).length)
    (hx1 : eLo (fl H) (d1, d2, d3) (fl H).length = lo1) (hx2 : eHi (fl H) (d1, d2, d3) (fl H).length = hi1) (hx3 : eLo (fl H) (-d1, -d2, -d3) (fl H).length = lo2) (hx4 : eHi (fl H) (-d1, -d2, -d3) (fl H).length = hi2) (ho1 : lo1 = -hi2) (ho2 : hi1 = -lo2) (ho3 : lo1 ≤ hi1) (ho4 : -70368744177664 ≤ lo1 ∧ hi1 ≤ 70368744177664) :
    Calls Try.prog 8 #[v, u, vv d1 d2 d3] w (Ret (.bool true) w) := by
  have HRA := Lib.hid ha
  have HRB := Lib.hid hb
  obtain ⟨ba, offa, capa, ea, -⟩ := rv_at ha hl0
  obtain ⟨bb, offb, capb, eb, -⟩ := rv_at hb hm0
  obtain ⟨n, hn⟩ : ∃ n, n = L.length := ⟨_, rfl⟩
  obtain ⟨m, hm⟩ : ∃ m, m = M.length := ⟨_, rfl⟩
  rw [← hn] at ea
  rw [← hm] at eb
  subst ea
  subst eb
  have RW : Hid (Rws w [(.slice (some ⟨ba, offa, none⟩) n capa, L), (.slice (some ⟨bb, offb, none⟩) m capb, M)]) := fun q hq => by simp at hq; rcases hq with rfl | rfl; exact HRA.out; exact HRB.out
  have a0 : ¬ (20 : Int) < (n : Int) := by omega
  have a1 : ¬ (20 : Int) < (m : Int) := by omega
  have a2 : ((n : Int) == 0) = false := by rw [beq_eq_false_iff_ne]; omega
  have a3 : ((m : Int) == 0) = false := by rw [beq_eq_false_iff_ne]; omega
  have a4 : ¬ d1 < -1000000 := by omega
  have a5 : ¬ 1000000 < d1 := by omega
  have a6 : ¬ d2 < -1000000 := by omega
  have a7 : ¬ 1000000 < d2 := by omega
  have jn : n ≤ 20 := by omega
  have HL : Hid (0 < L.length ∧ L.length ≤ 10000 ∧ inL 1048576 L = true) := ⟨hl0, by omega, hL⟩
  have HM : Hid (0 < M.length ∧ M.length ≤ 10000 ∧ inL 1048576 M = true) := ⟨hm0, by omega, hM⟩
  have HLM : Hid (0 < (L ++ M).length ∧ (L ++ M).length ≤ 10000 ∧ inL 1048576 (L ++ M) = true) := ⟨by rw [List.length_append]; omega, by rw [List.length_append]; omega, inL_app hL hM⟩
  have HLL : Hid (L.length ≤ 1000000) := by show _ ≤ _; omega
  have HML : Hid (M.length ≤ 1000000) := by show _ ≤ _; omega
  have NA : Hid (L ≠ []) := fun e => by rw [e] at hl0; simp at hl0
  have NB : Hid (M ≠ []) := fun e => by rw [e] at hm0; simp at hm0
  have HD := Lib.hid hd
  have HDn : Hid (inV 16777216 (-d1) (-d2) (-d3) = true) := by have := inV_iff.1 hd; exact inV_iff.2 ⟨by omega, by omega, by omega⟩
  have HW : Hid (IntKind.i64.wrap (-d1) = -d1 ∧ IntKind.i64.wrap (-d2) = -d2 ∧ IntKind.i64.wrap (-d3) = -d3) := by have := inV_iff.1 hd; exact ⟨wrap_in (by omega), wrap_in (by omega), wrap_in (by omega)⟩
  have CH := Lib.hid cH
  have CI := Lib.hid cI
  have CHH := Lib.hid cHH
  have VHH := Lib.hid vH
  have VHI := Lib.hid vI
  have CX := Lib.hid cx
  have CY := Lib.hid cy
  have CZ := Lib.hid cz
  have CA := Lib.hid ca
  have HSd := Lib.hid hs
  have HCc := Lib.hid hc
  have HAa := Lib.hid hA
  have HX := Lib.hid (And.intro hx1 (And.intro hx2 (And.intro hx3 hx4)))
  have hw1 : IntKind.i64.wrap (-hi2) = lo1 := by rw [← ho1]; exact wrap_in (by omega)
  have hw2 : IntKind.i64.wrap (-lo2) = hi1 := by rw [← ho2]; exact wrap_in (by omega)
  have HWW := Lib.hid (And.intro hw1 (And.intro hw2 ho3))
  have HA2 := Lib.hid hA2
  have HN := Lib.hid hn
  clear ha hb HRA HRB hl0 hl1 hm0 hm1 hL hM hd1 hd2 hd cH cI cHH vH vI cx cy cz ca hs hc hA hA2 hx1 hx2 hx3 hx4 ho1 ho2 ho3 ho4 hw1 hw2 hn hm
  go_enter Try.func8, Try.ntmps8
  go_upto_region 1 with (fail)
  obtain ⟨u0, hu⟩ : ∃ u0 : World, u0 = w.alloc (.cells #[.int .i64 d1, .int .i64 d2, .int .i64 d3] 31) := ⟨_, rfl⟩
  have VP : Hid (V3 u0 w.heap.size d1 d2 d3) := by rw [hu]; exact (vf_made _ _ _ _).1
  have E : Hid (Below w.heap.size w u0) := by rw [hu]; exact below_one w _
  have RW := Lib.hid (RW.out.below E.out)
  obtain ⟨gp, hg⟩ : ∃ g, g = w.heap.size := ⟨_, rfl⟩
  rw [← hg] at VP
  rw [← hu, ← hg]
  clear hu hg
  obtain ⟨e0, e1, e2⟩ := VP.out
  go_wp2_with fail
  refine (Points_kn L _ true _ (RW.out (_, L) List.mem_cons_self) HL.out.2.2).mono ?_
  rintro e y1 ⟨rfl, b⟩
  have RW := Lib.hid (RW.out.below b)
  have VP := Lib.hid (VP.out.below b)
  have E := Lib.hid (chain E.out b)
  clear b e0 e1 e2
  obtain ⟨e0, e1, e2⟩ := VP.out
  go_wp2_with fail
  refine (Points_kn M _ true _ (RW.out (_, M) (List.mem_cons_of_mem _ List.mem_cons_self)) HM.out.2.2).mono ?_
  rintro e y2 ⟨rfl, b⟩
  have RW := Lib.hid (RW.out.below b)
  have VP := Lib.hid (VP.out.below b)
  have E := Lib.hid (chain E.out b)
  clear b e0 e1 e2
  obtain ⟨e0, e1, e2⟩ := VP.out
  go_wp2_with fail
  refine (rValid_kn d1 d2 d3 true _ HD.out).mono ?_
  rintro e y3 ⟨rfl, b⟩
  have RW := Lib.hid (RW.out.below b)
  have VP := Lib.hid (VP.out.below b)
  have E := Lib.hid (chain E.out b)
  clear b e0 e1 e2
  obtain ⟨e0, e1, e2⟩ := VP.out
  go_wp2_with fail
  refine (Hull_is L H HL.out.1 HL.out.2.1 HL.out.2.2 CH.out _ _ (RW.out (.slice (some ⟨ba, offa, none⟩) n capa, L) (by simp))).mono ?_
  rintro e y4 ⟨v1, rfl, hr, b⟩
  have hr2 : Rv y4 v1 (fl H) := hr
  have RW := Lib.hid (Rws.step RW.out b hr2)
  have VP := Lib.hid (VP.out.below b)
  have E := Lib.hid (chain E.out b)
  clear b e0 e1 e2 hr hr2
  obtain ⟨e0, e1, e2⟩ := VP.out
  clear a0 a1 a2 a3 a4 a5 a6 a7
  go_wp2_with fail
  refine (Hull_is M I HM.out.1 HM.out.2.1 HM.out.2.2 CI.out _ _ (RW.out (.slice (some ⟨bb, offb, none⟩) m capb, M) (by simp))).mono ?_
  rintro e y5 ⟨v2, rfl, hr, b⟩
  have hr2 : Rv y5 v2 (fl I) := hr
  have RW := Lib.hid (Rws.step RW.out b hr2)
  have VP := Lib.hid (VP.out.below b)
  have E := Lib.hid (chain E.out b)
  clear b e0 e1 e2 hr hr2
  obtain ⟨e0, e1, e2⟩ := VP.out
  go_wp2_with fail
  refine (Hull_is (fl H) H VHH.out.1 VHH.out.2.1 VHH.out.2.2.1 CHH.out _ _ (RW.out (v1, fl H) (by simp))).mono ?_
  rintro e y6 ⟨v3, rfl, hr, b⟩
  have hr2 : Rv y6 v3 (fl H) := hr
  have RW := Lib.hid (Rws.step RW.out b hr2)
  have VP := Lib.hid (VP.out.below b)
  have E := Lib.hid (chain E.out b)
  clear b e0 e1 e2 hr hr2
  obtain ⟨e0, e1, e2⟩ := VP.out
  go_wp2_with fail
  refine (valid_yes (fl H) _ _ (RW.out (v1, fl H) (by simp)) VHH.out).mono ?_
  rintro e y7 ⟨rfl, b⟩
  have RW := Lib.hid (RW.out.below b)
  have VP := Lib.hid (VP.out.below b)
  have E := Lib.hid (chain E.out b)
  clear b e0 e1 e2
  obtain ⟨e0, e1, e2⟩ := VP.out
  go_wp2_with fail
  refine (Same_yes (fl H) _ _ _ (RW.out (v3, fl H) (by simp)) (RW.out (v1, fl H) (by simp))).mono ?_
  rintro e y8 ⟨rfl, b⟩
  have RW := Lib.hid (RW.out.below b)
  have VP := Lib.hid (VP.out.below b)
  have E := Lib.hid (chain E.out b)
  clear b e0 e1 e2
  obtain ⟨e0, e1, e2⟩ := VP.out
  go_wp2
  go_loopw [123] (fun iv wr => ∃ (wz : World) (k : Nat), wz = wr ∧ k ≤ n ∧ iv = .int .i64 (k : Int) ∧ Hid (Rws wz [(v2, fl I), (v1, fl H), (.slice (some ⟨ba, offa, none⟩) n capa, L), (.slice (some ⟨bb, offb, none⟩) m capb, M)]) ∧ Hid (V3 wz gp d1 d2 d3) ∧ Hid (Below w.heap.size w wz))
    (fun iv _ => n - (intOf iv).toNat)
  case atStart => exact ⟨_, 0, rfl, Nat.zero_le _, rfl, RW.out.sub (by simp), VP, E⟩
  case round =>
    clear RW VP E e0 e1 e2
    obtain ⟨wz, k, rfl, hk, rfl, RW, VP, E⟩ := hrel
    by_cases hlt : k < n
    · obtain ⟨hnl, c0, c1, c2⟩ := cells_at (L := L) (RW.out (.slice (some ⟨ba, offa, none⟩) n capa, L) (by simp)) hlt
      obtain ⟨x, y, z, hx⟩ : ∃ x y z, gA L k = (x, y, z) := ⟨_, _, _, rfl⟩
      rw [hx] at c0 c1 c2
      have HV : Hid (inV 1048576 x y z = true) := by have := gA_in HL.out.2.2 HL.out.1 k; rwa [hx] at this
      have HS0 : 0 ≤ sideV (fl H) (x, y, z) := by
        have := HSd.out (gA L k) (by have hkl : k < L.length := (by omega); rw [← gA_at hkl]; exact List.getElem_mem _)
        rwa [hx] at this
      obtain ⟨W, hW⟩ : ∃ W, W = sideV (fl H) (x, y, z) := ⟨_, rfl⟩
      have HWs : Hid (sideV (fl H) (x, y, z) = W) := hW.symm
      rw [← hW] at HS0
      have i0 : ¬ W < 0 := by omega
      clear hW hx hnl HS0
      have j0 : (0 : Int) ≤ (k : Int) := by omega
      have j1 : (k : Int) < (n : Int) := by omega
      have w1 : IntKind.i64.wrap ((k : Int) + 1) = ((k + 1 : Nat) : Int) := by rw [show (k : Int) + 1 = ((k + 1 : Nat) : Int) by omega]; exact wrap_in (by omega)
      go_wp2_with fail
      refine (Side_kn (fl H) v1 x y z W _ ((RW.out (v1, fl H) (by simp)).below (below_one _ _)) VHH.out HV.out HWs.out).mono ?_
      rintro e y9 ⟨rfl, b9⟩
      have b9 := chain (below_one wz _) b9
      have RW2 := Lib.hid (RW.out.below b9)
      have VP2 := Lib.hid (VP.out.below b9)
      have E2 := Lib.hid (chain E.out b9)
      clear b9 c0 c1 c2
      go_wp2
      go_roundw
      case rel => exact ⟨_, k + 1, rfl, by omega, rfl, RW2.out, VP2.out, E2.out⟩
      case measure => simp [intOf]; omega
    · obtain rfl : n = k := by omega
      clear hlt hk
      obtain ⟨b1, off1, cap1, eh, -⟩ := rv_at (RW.out (v1, fl H) (by simp)) VHH.out.1
      obtain ⟨nh, hnh⟩ : ∃ nh, nh = (fl H).length := ⟨_, rfl⟩
      rw [← hnh] at eh
      subst eh
      have HNH := Lib.hid hnh
      have jh : nh ≤ 10000 := by rw [hnh]; exact VHH.out.2.1
      clear hnh
      go_wp2
      go_loopw [142] (fun iv wr => ∃ (wz : World) (k : Nat), wz = wr ∧ k ≤ nh ∧ iv = .int .i64 (k : Int) ∧ Hid (Rws wz [(v2, fl I), (.slice (some ⟨b1, off1, none⟩) nh cap1, fl H), (.slice (some ⟨ba, offa, none⟩) n capa, L), (.slice (some ⟨bb, offb, none⟩) m capb, M)]) ∧ Hid (V3 wz gp d1 d2 d3) ∧ Hid (Below w.heap.size w wz))
        (fun iv _ => nh - (intOf iv).toNat)
      case atStart => exact ⟨_, 0, rfl, Nat.zero_le _, rfl, RW.out, VP, E⟩
      case round =>
        clear RW VP E
        obtain ⟨wo, k, rfl, hk, rfl, RW, VP, E⟩ := hrel
        by_cases hlt : k < nh
        · obtain ⟨hnl, c0, c1, c2⟩ := cells_at (L := fl H) (RW.out (.slice (some ⟨b1, off1, none⟩) nh cap1, fl H) (by simp)) hlt
          obtain ⟨hz, hf⟩ := HCc.out k (by omega)
          obtain ⟨cx, cy, cz, hx⟩ : ∃ x y z, gA (fl H) k = (x, y, z) := ⟨_, _, _, rfl⟩
          rw [hx] at c0 c1 c2 hz hf
          have e0' : cz = 0 := hz
          subst e0'
          simp only at c0 c1 c2 hf
          have HF : Hid (fdn L cx cy n = true) := by show _ = _; rw [HN.out]; exact hf
          clear hf hz hx hnl
          have j0 : (0 : Int) ≤ (k : Int) := by omega
          have j1 : (k : Int) < (nh : Int) := by omega
          have w1 : IntKind.i64.wrap ((k : Int) + 1) = ((k + 1 : Nat) : Int) := by rw [show (k : Int) + 1 = ((k + 1 : Nat) : Int) by omega]; exact wrap_in (by omega)
          have V8 : Hid (V3 (wo.alloc (.cells #[.int .i64 cx, .int .i64 cy, .int .i64 0] 31)) wo.heap.size cx cy 0) := (vf_made _ _ _ _).1
          have RW := Lib.hid (RW.out.below (below_one wo (.cells #[.int .i64 cx, .int .i64 cy, .int .i64 0] 31)))
          have VP := Lib.hid (VP.out.below (below_one wo (.cells #[.int .i64 cx, .int .i64 cy, .int .i64 0] 31)))
          have E := Lib.hid (chain E.out (below_one wo (.cells #[.int .i64 cx, .int .i64 cy, .int .i64 0] 31)))
          obtain ⟨g8, hg8⟩ : ∃ g, g = wo.heap.size := ⟨_, rfl⟩
          go_upto_region 18 with (fail)
          rw [← hg8] at V8 ⊢
          obtain ⟨wq, hwq⟩ : ∃ q, q = wo.alloc (.cells #[.int .i64 cx, .int .i64 cy, .int .i64 0] 31) := ⟨_, rfl⟩
          rw [← hwq] at V8 RW VP E ⊢
          clear hwq hg8 c0 c1 c2
          go_wp2
          go_loopw [19, 148] (fun fv iv wr => ∃ (wz : World) (j : Nat), wz = wr ∧ j ≤ n ∧ iv = .int .i64 (j : Int) ∧ Hid (fv = .bool (fdn L cx cy j)) ∧ Hid (Rws wz [(v2, fl I), (.slice (some ⟨b1, off1, none⟩) nh cap1, fl H), (.slice (some ⟨ba, offa, none⟩) n capa, L), (.slice (some ⟨bb, offb, none⟩) m capb, M)]) ∧ Hid (V3 wz gp d1 d2 d3) ∧ Hid (V3 wz g8 cx cy 0) ∧ Hid (Below w.heap.size w wz))
            (fun _ iv _ => n - (intOf iv).toNat)
          case atStart => exact ⟨_, 0, rfl, Nat.zero_le _, rfl, rfl, RW, VP, V8, E⟩
          case round =>
            clear RW VP E V8
            obtain ⟨wz, j, rfl, hj, rfl, hfv, RW, VP, V8, E⟩ := hrel
            obtain rfl := hfv.out
            clear hfv
            by_cases hlj : j < n
            · obtain ⟨hnl, c0, c1, c2⟩ := cells_at (L := L) (RW.out (.slice (some ⟨ba, offa, none⟩) n capa, L) (by simp)) hlj
              obtain ⟨x, y, z, hx⟩ : ∃ x y z, gA L j = (x, y, z) := ⟨_, _, _, rfl⟩
              rw [hx] at c0 c1 c2
              simp only at c0 c1 c2
              have HFS : Hid (fdn L cx cy (j + 1) = (fdn L cx cy j || (decide (x = cx) && decide (y = cy)))) := by show fdn L cx cy (j + 1) = _; rw [fdn, hx]
              clear hx hnl
              have q0 : (0 : Int) ≤ (j : Int) := by omega
              have q1 : (j : Int) < (n : Int) := by omega
              have w2 : IntKind.i64.wrap ((j : Int) + 1) = ((j + 1 : Nat) : Int) := by rw [show (j : Int) + 1 = ((j + 1 : Nat) : Int) by omega]; exact wrap_in (by omega)
              obtain ⟨g0, g1, g2⟩ := V8.out
              have RW2 := Lib.hid (RW.out.below (below_one wz (.cells #[.int .i64 x, .int .i64 y, .int .i64 z] 31)))
              have VP2 := Lib.hid (VP.out.below (below_one wz (.cells #[.int .i64 x, .int .i64 y, .int .i64 z] 31)))
              have V82 := Lib.hid (V8.out.below (below_one wz (.cells #[.int .i64 x, .int .i64 y, .int .i64 z] 31)))
              have E2 := Lib.hid (chain E.out (below_one wz (.cells #[.int .i64 x, .int .i64 y, .int .i64 z] 31)))
              have V92 : Hid (V3 (wz.alloc (.cells #[.int .i64 x, .int .i64 y, .int .i64 z] 31)) wz.heap.size x y z) := (vf_made _ _ _ _).1
              obtain ⟨g9, hg9⟩ : ∃ g, g = wz.heap.size := ⟨_, rfl⟩
              generalize fdn L cx cy j = fj at *
              clear RW VP V8 E g0 g1 g2
              go_upto_region 22 with (fail)
              rw [← hg9] at V92 ⊢
              obtain ⟨u2, hu2⟩ : ∃ q, q = wz.alloc (.cells #[.int .i64 x, .int .i64 y, .int .i64 z] 31) := ⟨_, rfl⟩
              rw [← hu2] at V92 RW2 VP2 V82 E2 ⊢
              clear hu2 hg9 c0 c1 c2
              obtain ⟨g0, g1, g2⟩ := V82.out
              obtain ⟨c0, c1, c2⟩ := V92.out
              have FIN : ∀ r : Bool, fdn L cx cy (j + 1) = r → ∃ (wz' : World) (j' : Nat), wz' = u2 ∧ j' ≤ n ∧ (Value.int .i64 ((j + 1 : Nat) : Int)) = .int .i64 (j' : Int) ∧ Hid ((Value.bool r) = .bool (fdn L cx cy j')) ∧ Hid (Rws wz' [(v2, fl I), (.slice (some ⟨b1, off1, none⟩) nh cap1, fl H), (.slice (some ⟨ba, offa, none⟩) n capa, L), (.slice (some ⟨bb, offb, none⟩) m capb, M)]) ∧ Hid (V3 wz' gp d1 d2 d3) ∧ Hid (V3 wz' g8 cx cy 0) ∧ Hid (Below w.heap.size w wz') := fun r hr => ⟨_, j + 1, rfl, by omega, rfl, (by show _ = _; rw [hr]), RW2, VP2, V82, E2⟩
              have FIN := Lib.hid FIN
              cases fj with
              | true =>
                have HR : Hid (fdn L cx cy (j + 1) = true) := by show _ = _; rw [HFS.out]; rfl
                clear HFS
                go_wp2
                go_roundw
                case rel => exact FIN.out _ HR.out
                case measure => simp [intOf]; omega
              | false =>
                by_cases hxx : x = cx
                · subst hxx
                  by_cases hyy : y = cy
                  · subst hyy
                    have HR : Hid (fdn L x y (j + 1) = true) := by show _ = _; rw [HFS.out]; simp
                    clear HFS
                    go_wp2
                    go_roundw
                    case rel => exact FIN.out _ HR.out
                    case measure => simp [intOf]; omega
                  · have HR : Hid (fdn L x cy (j + 1) = false) := by show _ = _; rw [HFS.out]; simp [hyy]
                    clear HFS
                    go_wp2
                    go_roundw
                    case rel => first | exact FIN.out _ HR.out | exact FIN.out _ (by rw [HR.out]; symm; simpa using hyy)
                    case measure => simp [intOf]; omega
                · have HR : Hid (fdn L cx cy (j + 1) = false) := by show _ = _; rw [HFS.out]; simp [hxx]
                  clear HFS
                  go_wp2
                  go_roundw
                  case rel => exact FIN.out _ HR.out
                  case measure => simp [intOf]; omega
            · obtain rfl : n = j := by omega
              rw [HF.out]
              obtain ⟨g0, g1, g2⟩ := V8.out
              clear hlj hj
              go_wp2
              go_roundw
              case rel => exact ⟨_, k + 1, rfl, by omega, rfl, RW.out, VP.out, E.out⟩
              case measure => simp [intOf]; omega
        · obtain rfl : nh = k := by omega
          clear hlt hk
          obtain ⟨e0, e1, e2⟩ := VP.out
          go_wp2_with fail
          refine (Merge_is (fl H) (fl I) G VHH.out VHI.out CX.out _ _ _ (RW.out (.slice (some ⟨b1, off1, none⟩) nh cap1, fl H) (by simp)) (RW.out (v2, fl I) (by simp))).mono ?_
          rintro e y30 ⟨v4, rfl, hr, b⟩
          have hr2 : Rv y30 v4 (fl G) := hr
          have RW := Lib.hid (Rws.step RW.out b hr2)
          have VP := Lib.hid (VP.out.below b)
          have E := Lib.hid (chain E.out b)
          clear b e0 e1 e2 hr hr2
          obtain ⟨e0, e1, e2⟩ := VP.out
          go_wp2_with fail
          refine (Merge_is (fl I) (fl H) G VHI.out VHH.out CY.out _ _ _ (RW.out (v2, fl I) (by simp)) (RW.out (.slice (some ⟨b1, off1, none⟩) nh cap1, fl H) (by simp))).mono ?_
          rintro e y31 ⟨v5, rfl, hr, b⟩
          have hr2 : Rv y31 v5 (fl G) := hr
          have RW := Lib.hid (Rws.step RW.out b hr2)
          have VP := Lib.hid (VP.out.below b)
          have E := Lib.hid (chain E.out b)
          clear b e0 e1 e2 hr hr2
          obtain ⟨e0, e1, e2⟩ := VP.out
          go_wp2_with fail
          refine (Merge_is (fl H) (fl H) H VHH.out VHH.out CZ.out _ _ _ (RW.out (.slice (some ⟨b1, off1, none⟩) nh cap1, fl H) (by simp)) (RW.out (.slice (some ⟨b1, off1, none⟩) nh cap1, fl H) (by simp))).mono ?_
          rintro e y32 ⟨v6, rfl, hr, b⟩
          have hr2 : Rv y32 v6 (fl H) := hr
          have RW := Lib.hid (Rws.step RW.out b hr2)
          have VP := Lib.hid (VP.out.below b)
          have E := Lib.hid (chain E.out b)
          clear b e0 e1 e2 hr hr2
          obtain ⟨e0, e1, e2⟩ := VP.out
          go_wp2_with fail
          refine (Same_yes (fl G) _ _ _ (RW.out (v4, fl G) (by simp)) (RW.out (v5, fl G) (by simp))).mono ?_
          rintro e y33 ⟨rfl, b⟩
          have RW := Lib.hid (RW.out.below b)
          have VP := Lib.hid (VP.out.below b)
          have E := Lib.hid (chain E.out b)
          clear b e0 e1 e2
          obtain ⟨e0, e1, e2⟩ := VP.out
          go_wp2_with fail
          refine (Same_yes (fl H) _ _ _ (RW.out (v6, fl H) (by simp)) (RW.out (.slice (some ⟨b1, off1, none⟩) nh cap1, fl H) (by simp))).mono ?_
          rintro e y34 ⟨rfl, b⟩
          have RW := Lib.hid (RW.out.below b)
          have VP := Lib.hid (VP.out.below b)
          have E := Lib.hid (chain E.out b)
          clear b e0 e1 e2
          obtain ⟨e0, e1, e2⟩ := VP.out
          have HY := Lib.hid (Nat.le_refl y34.heap.size)
          go_wp2_with (at_builtin; first
            | (refine wpList_append_V rfl rfl _ _ rfl rfl rfl (RowV.nil _ y34.heap.size) (RW.out (.slice (some ⟨ba, offa, none⟩) n capa, L) (by simp)) (by show 0 ≤ 1000000; decide) HLL.out (Nat.le_refl _) (fun e => absurd e NA.out) ?_; intro va y35 hrow hg; have R1 := Lib.hid hrow; have b := below_of_grown (show y34.grownBy y35 none from hg); have RW0 := Lib.hid RW.out; have VP0 := Lib.hid VP.out; have E0 := Lib.hid E.out; have RW := Lib.hid (RW.out.below b); have HY := Lib.hid b; clear hrow hg b)
            | (refine wpList_append_V rfl rfl _ _ rfl rfl rfl R1.out (RW.out (.slice (some ⟨bb, offb, none⟩) m capb, M) (by simp)) HLL.out HML.out HY.out.size (fun e => absurd e NB.out) ?_; intro vb y36 hrow hg; have hr2 : Rv y36 vb (L ++ M) := hrow.rv; have b := Below.grown_row HY.out HY.out.size R1.out hg; have RW := Lib.hid (Rws.step RW0.out b hr2); have VP := Lib.hid (VP0.out.below b); have E := Lib.hid (chain E0.out b); clear hrow hg b hr2 e0 e1 e2; obtain ⟨e0, e1, e2⟩ := VP.out))
          refine (Hull_is (L ++ M) G HLM.out.1 HLM.out.2.1 HLM.out.2.2 CA.out _ _ (RW.out (vb, L ++ M) List.mem_cons_self)).mono ?_
          rintro e y37 ⟨v7, rfl, hr, b⟩
          have hr2 : Rv y37 v7 (fl G) := hr
          have RW := Lib.hid (Rws.step RW.out b hr2)
          have VP := Lib.hid (VP.out.below b)
          have E := Lib.hid (chain E.out b)
          clear b e0 e1 e2 hr hr2
          obtain ⟨e0, e1, e2⟩ := VP.out
          go_wp2_with fail
          refine (Same_yes (fl G) _ _ _ (RW.out (v7, fl G) (by simp)) (RW.out (v4, fl G) (by simp))).mono ?_
          rintro e y38 ⟨rfl, b⟩
          have RW := Lib.hid (RW.out.below b)
          have VP := Lib.hid (VP.out.below b)
          have E := Lib.hid (chain E.out b)
          clear b e0 e1 e2
          obtain ⟨e0, e1, e2⟩ := VP.out
          go_wp2_with fail
          refine (Area2_kn (fl H) _ A _ (RW.out (.slice (some ⟨b1, off1, none⟩) nh cap1, fl H) (by simp)) VHH.out HAa.out).mono ?_
          rintro e y39 ⟨rfl, b⟩
          have RW := Lib.hid (RW.out.below b)
          have VP := Lib.hid (VP.out.below b)
          have E := Lib.hid (chain E.out b)
          clear b e0 e1 e2
          obtain ⟨e0, e1, e2⟩ := VP.out
          by_cases g2 : 2 < nh
          · clear jh
            have z1 : 0 < A := HA2.out.2 (by rw [← HNH.out]; exact g2)
            have z2 : (2 : Int) < (nh : Int) := by omega
            clear g2
            go_wp2_with fail
            refine (Extent_is (fl H) _ d1 d2 d3 lo1 hi1 _ (RW.out (.slice (some ⟨b1, off1, none⟩) nh cap1, fl H) (by simp)) VHH.out HD.out HX.out.1 HX.out.2.1).mono ?_
            rintro e y40 ⟨rfl, b⟩
            have RW := Lib.hid (RW.out.below b)
            have VP := Lib.hid (VP.out.below b)
            have E := Lib.hid (chain E.out b)
            clear b e0 e1 e2
            obtain ⟨e0, e1, e2⟩ := VP.out
            clear z1 z2
            go_wp2_with fail
            refine (rNeg_any d1 d2 d3 (-d1) (-d2) (-d3) HW.out.1 HW.out.2.1 HW.out.2.2 _).mono ?_
            rintro e y41 ⟨rfl, b⟩
            have RW := Lib.hid (RW.out.below b)
            have VP := Lib.hid (VP.out.below b)
            have E := Lib.hid (chain E.out b)
            clear b e0 e1 e2
            obtain ⟨e0, e1, e2⟩ := VP.out
            go_wp2_with fail
            refine (Extent_is (fl H) _ (-d1) (-d2) (-d3) lo2 hi2 _ (RW.out (.slice (some ⟨b1, off1, none⟩) nh cap1, fl H) (by simp)) VHH.out HDn.out HX.out.2.2.1 HX.out.2.2.2).mono ?_
            rintro e y42 ⟨rfl, b⟩
            have RW := Lib.hid (RW.out.below b)
            have VP := Lib.hid (VP.out.below b)
            have E := Lib.hid (chain E.out b)
            clear b e0 e1 e2
            obtain ⟨e0, e1, e2⟩ := VP.out
            obtain ⟨q1, q2, q3⟩ := HWW.out
            go_wp2_with fail
            refine (known_true _).mono ?_
            rintro e y43 ⟨rfl, b⟩
            have RW := Lib.hid (RW.out.below b)
            have VP := Lib.hid (VP.out.below b)
            have E := Lib.hid (chain E.out b)
            clear b e0 e1 e2
            obtain ⟨e0, e1, e2⟩ := VP.out
            go_wp2
            go_ret
            exact ⟨rfl, E.out⟩
          · clear jh
            have z1 : decide (0 < A) = false := decide_eq_false (fun k => g2 (by have := HA2.out.1 k; rwa [← HNH.out] at this))
            have z2 : decide ((2 : Int) < (nh : Int)) = false := decide_eq_false (by omega)
            clear g2
            go_wp2_with fail
            refine (Extent_is (fl H) _ d1 d2 d3 lo1 hi1 _ (RW.out (.slice (some ⟨b1, off1, none⟩) nh cap1, fl H) (by simp)) VHH.out HD.out HX.out.1 HX.out.2.1).mono ?_
            rintro e y40 ⟨rfl, b⟩
            have RW := Lib.hid (RW.out.below b)
            have VP := Lib.hid (VP.out.below b)
            have E := Lib.hid (chain E.out b)
            clear b e0 e1 e2
            obtain ⟨e0, e1, e2⟩ := VP.out
            clear z1 z2
            go_wp2_with fail
            refine (rNeg_any d1 d2 d3 (-d1) (-d2) (-d3) HW.out.1 HW.out.2.1 HW.out.2.2 _).mono ?_
            rintro e y41 ⟨rfl, b⟩
            have RW := Lib.hid (RW.out.below b)
            have VP := Lib.hid (VP.out.below b)
            have E := Lib.hid (chain E.out b)
            clear b e0 e1 e2
            obtain ⟨e0, e1, e2⟩ := VP.out
            go_wp2_with fail
            refine (Extent_is (fl H) _ (-d1) (-d2) (-d3) lo2 hi2 _ (RW.out (.slice (some ⟨b1, off1, none⟩) nh cap1, fl H) (by simp)) VHH.out HDn.out HX.out.2.2.1 HX.out.2.2.2).mono ?_
            rintro e y42 ⟨rfl, b⟩
            have RW := Lib.hid (RW.out.below b)
            have VP := Lib.hid (VP.out.below b)
            have E := Lib.hid (chain E.out b)
            clear b e0 e1 e2
            obtain ⟨e0, e1, e2⟩ := VP.out
            obtain ⟨q1, q2, q3⟩ := HWW.out
            go_wp2_with fail
            refine (known_true _).mono ?_
            rintro e y43 ⟨rfl, b⟩
            have RW := Lib.hid (RW.out.below b)
            have VP := Lib.hid (VP.out.below b)
            have E := Lib.hid (chain E.out b)
            clear b e0 e1 e2
            obtain ⟨e0, e1, e2⟩ := VP.out
            go_wp2
            go_ret
            exact ⟨rfl, E.out⟩
end Go.Proofs.Ytbhdejlikipahaa

/- HullHolds: all cases. -/
set_option linter.all false
namespace Go.Proofs.Ytbhdejlikipahaa
open Go.RowKit

set_option maxRecDepth 100000 in
/-- HullHolds gives true for all two lists of vectors and every vector. -/
theorem holds_any (L M : List T3) (v u : Value) (d1 d2 d3 : Int) (w : World) (ha : Rv w v L) (hb : Rv w u M) :
    Calls Try.prog 8 #[v, u, vv d1 d2 d3] w (Ret (.bool true) w) := by
  by_cases h0 : 20 < L.length
  · exact holds_0 L M v u d1 d2 d3 w ha hb h0
  by_cases h1 : 20 < M.length
  · exact holds_1 L M v u d1 d2 d3 w ha hb h0 h1
  by_cases h2 : L.length = 0
  · exact holds_2 L M v u d1 d2 d3 w ha hb h0 h1 h2
  by_cases h3 : M.length = 0
  · exact holds_3 L M v u d1 d2 d3 w ha hb h0 h1 h2 h3
  cases h4 : inL 1048576 L with
  | false => exact holds_4 L M v u d1 d2 d3 w ha hb h0 h1 h2 h3 h4
  | true =>
  cases h5 : inL 1048576 M with
  | false => exact holds_5 L M v u d1 d2 d3 w ha hb h0 h1 h2 h3 h4 h5
  | true =>
  by_cases h6 : d1 < -1000000
  · exact holds_6 L M v u d1 d2 d3 w ha hb h0 h1 h2 h3 h4 h5 h6
  by_cases h7 : 1000000 < d1
  · exact holds_7 L M v u d1 d2 d3 w ha hb h0 h1 h2 h3 h4 h5 h6 h7
  by_cases h8 : d2 < -1000000
  · exact holds_8 L M v u d1 d2 d3 w ha hb h0 h1 h2 h3 h4 h5 h6 h7 h8
  by_cases h9 : 1000000 < d2
  · exact holds_9 L M v u d1 d2 d3 w ha hb h0 h1 h2 h3 h4 h5 h6 h7 h8 h9
  cases h10 : inV 16777216 d1 d2 d3 with
  | false => exact holds_10 L M v u d1 d2 d3 w ha hb h0 h1 h2 h3 h4 h5 h6 h7 h8 h9 h10
  | true =>
  have hl0 : 0 < L.length := by omega
  have hm0 : 0 < M.length := by omega
  obtain ⟨H, cH, hH⟩ := corners_hull L hl0
  obtain ⟨I, cI, hI⟩ := corners_hull M hm0
  have vH := (hull_vh cH hH (by omega) h4).1
  have vI := (hull_vh cI hI (by omega) h5).1
  have cHH : cornersT t3 (fl H) = fl H := corners_is vH.1 (by rw [pl_fl]; exact hH.self)
  obtain ⟨G, cx, hG⟩ := corners_hull (fl H ++ fl I) (by rw [List.length_append]; have := vH.1; omega)
  rw [List.map_append, pl_fl, pl_fl] at hG
  have cy : cornersT t3 (fl I ++ fl H) = fl G := corners_is (by rw [List.length_append]; have := vH.1; omega) (by
    rw [List.map_append, pl_fl, pl_fl]
    exact IsH.congr hG (fun q => by rw [List.mem_append, List.mem_append]; exact Or.comm))
  have cz : cornersT t3 (fl H ++ fl H) = fl H := corners_is (by rw [List.length_append]; have := vH.1; omega) (by
    rw [List.map_append, pl_fl]
    exact IsH.congr hH.self (fun q => by rw [List.mem_append, or_self]))
  have ca : cornersT t3 (L ++ M) = fl G := corners_is (by rw [List.length_append]; omega) (by
    rw [List.map_append]
    exact Hl.IsH.union hH hI hG)
  have hc : ∀ k, k < (fl H).length → (gA (fl H) k).2.2 = 0 ∧ fdn L (gA (fl H) k).1 (gA (fl H) k).2.1 L.length = true := by
    intro k hk
    have hk2 : k < H.length := by rwa [fl_length] at hk
    have e : gA (fl H) k = (H[k].1, H[k].2, 0) := by rw [← gA_at hk, fl_get H k hk2]
    rw [e]
    refine ⟨rfl, ?_⟩
    obtain ⟨a, hal, hae⟩ := List.mem_map.1 (hH.sub H[k] (List.getElem_mem hk2))
    obtain ⟨j, hj, rfl⟩ := List.mem_iff_getElem.1 hal
    rw [gA_at hj] at hae
    have e1 : (gA L j).1 = H[k].1 := congrArg Prod.fst hae
    have e2 : (gA L j).2.1 = H[k].2 := congrArg Prod.snd hae
    exact fdn_of e1 e2 _ hj
  obtain ⟨q, hq⟩ : ∃ q, (fl H).length = q + 1 := ⟨(fl H).length - 1, by have := vH.1; omega⟩
  have hx := ext_opp (d := (d1, d2, d3)) (d' := (-d1, -d2, -d3)) vH.2.2.1 vH.1 h10 rfl rfl rfl q
  rw [← hq] at hx
  exact holds_ok L M v u d1 d2 d3 w ha hb hl0 (by omega) hm0 (by omega) h4 h5 (by omega) (by omega) h10 H I G cH cI cHH vH vI cx cy cz ca
    (fun p hp => side_nonneg rfl hH vH hp) hc _ _ _ _ _ rfl (area_pos vH) rfl rfl rfl rfl hx.1 hx.2.1 hx.2.2.1 hx.2.2.2
end Go.Proofs.Ytbhdejlikipahaa

/- HullHolds gives true for all two lists of vectors and every vector (P7.6), and leaves its arguments as they were. No condition. -/
set_option linter.all false
namespace Go.Proofs.Ytbhdejlikipahaa
open Go.ChangeShapes Go.WideShapes Go.ChangeAt Go.RowKit Go.Joins Go.Deep

set_option maxRecDepth 100000 in
theorem hholds_lifted (os : Os) (started : os.Started) (H : Type) (enc : TypeId × Value → H) :
    ReturnsInHanded {} Try.checked os 8 .any (Rows.hullHoldsSpec.pre6 enc Try.prog Try.f8 Rows.hullHoldsRow.domain false) (Rows.hullHoldsSpec.post enc Try.prog Try.f8 false true false false) := by
  refine returnsInHanded_of_change (C := Try.checked) Try.own started (by kernel_rfl) Try.func8
    (ChangeSpec.witness6 (enc := enc) (C := Try.checked) false ⟨#[], #[.slice none 0 0, .slice none 0 0, .agg #[.int .i64 0, .int .i64 0, .int .i64 0]], []⟩ 8 (by kernel_rfl) (by kernel_rfl) (by kernel_rfl) (by kernel_rfl)) ?_
  intro W base args ds gs before hval0 hW hcnd _
  have hval : ∀ (j : Nat) t v, Try.f8.params[j]? = some t → args[j]? = some v → Value.okWide Try.prog W .any base t v := hval0
  have hW' := hW
  obtain ⟨p, q, hA0, hV, rfl, hfz, hnd⟩ := hW
  have hA : DataW.TrodAll enc Try.prog W 0 (fun _ => true) true Try.f8.params.toList args.toList ds p := hA0
  rw [Try.params8] at hA hval
  obtain ⟨v0, v1, v2, d0, d1, d2, p0, p1, p2, rfl, rfl, rfl, h0, h1, h2⟩ := trodAll_three hA
  obtain ⟨rfl, rfl⟩ := trodVars_none hV
  obtain ⟨L, r0⟩ := open_vecs (hval 0 22 v0 rfl rfl) h0
  obtain ⟨M, r1⟩ := open_vecs (hval 1 22 v1 rfl rfl) h1
  obtain ⟨y1, y2, y3, rfl, rfl, rfl, i2⟩ := open_vec (hval 2 31 v2 rfl rfl) h2
  clear hA0 hval0
  refine (holds_any L M v0 v1 y1 y2 y3 W r0 r1).mono fun e W' ⟨he, bel⟩ => ?_
  subst he
  exact ⟨_, rfl, _, _, _, [], _, [], hW', trodAll_mk1 (shut_bool Try.underlying4 _), (trodAll_mk3 (Below.trod Try.laidOut (by kernel_rfl) (of_decide_eq_true (by kernel_rfl)) h0 bel (fun x hx => by simpa using hW'.lt x (by simp [hx]))) (Below.trod Try.laidOut (by kernel_rfl) (of_decide_eq_true (by kernel_rfl)) h1 bel (fun x hx => by simpa using hW'.lt x (by simp [hx]))) (shut_vec i2)), (by first | rfl | simp), bel.frame _, fun h => by cases h⟩

/-- The statement. -/
theorem hholds_holds : Rows.HullHoldsSaid :=
  OpenClaim.holds_of_wide 8 Try.f8 rfl rfl rfl rfl rfl rfl rfl ⟨rfl, rfl, rfl, rfl, rfl⟩ rfl rfl rfl rfl rfl (by kernel_rfl) Try.func8 (by kernel_rfl)
    (of_decide_eq_true (by kernel_rfl)) (by unfold Func.isWrapper; first | (rw [if_pos (by decide +kernel)]; kernel_rfl) | (rw [if_neg (by decide +kernel)]; exact ⟨rfl, rfl⟩))
    (fun os started H enc _ => hholds_lifted os started H enc)
#print axioms hholds_holds
end Go.Proofs.Ytbhdejlikipahaa
