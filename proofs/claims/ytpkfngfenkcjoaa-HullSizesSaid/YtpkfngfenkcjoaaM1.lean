/- HullSizes gives true for all lists of vectors and all vectors (P7.3, P7.4), and leaves its arguments as they were. No condition. -/
import Derived.Test.YtpkfngfenkcjoaaZ4
import Derived.Test.YtpkfngfenkcjoaaZ2
import Derived.Test.YtpkfngfenkcjoaaM0
import Derived.Test.YtpkfngfenkcjoaaZ9
import Derived.Test.YtpkfngfenkcjoaaRows

/- The reference's Extent: the walk. -/
set_option linter.all false
namespace Go.Proofs.Ytpkfngfenkcjoaa
open Go.RowKit

set_option maxRecDepth 100000 in
set_option maxHeartbeats 8000000 in
theorem rext_walk (g : Nat → T3) (b off cap n : Nat) (p1 p2 p3 : Int) (w : World) (hmx : n ≤ 10000) (hpos : 0 < n) (hc : ∀ k, k < n → w.cell? ⟨b, off + k * 3, none⟩ = some (.int .i64 (g k).1) ∧ w.cell? ⟨b, off + k * 3 + 1, none⟩ = some (.int .i64 (g k).2.1) ∧ w.cell? ⟨b, off + k * 3 + 2, none⟩ = some (.int .i64 (g k).2.2))
    (u v d : Nat → Int) (hu : ∀ k, k < n → IntKind.i64.wrap (p1 * (g k).1) = u k) (hv : ∀ k, k < n → IntKind.i64.wrap (p2 * (g k).2.1) = v k) (hd : ∀ k, k < n → IntKind.i64.wrap (u k + v k) = d k)
    (lo hi : Nat → Int) (hl0 : lo 0 = d 0) (hh0 : hi 0 = d 0) (hls : ∀ k, k < n → lo (k + 1) = min (lo k) (d k)) (hhs : ∀ k, k < n → hi (k + 1) = max (hi k) (d k)) :
    Calls Try.prog 13 #[.slice (some ⟨b, off, none⟩) n cap, vv p1 p2 p3] w (Ret (.tuple #[.int .i64 (lo n), .int .i64 (hi n)]) w) := by
  have H5 := Lib.hid hc
  have HU := Lib.hid hu
  have HV := Lib.hid hv
  have HDD := Lib.hid hd
  have HL0 := Lib.hid hl0
  have HH0 := Lib.hid hh0
  have HLS := Lib.hid hls
  have HHS := Lib.hid hhs
  clear hc hu hv hd hl0 hh0 hls hhs
  have hpz : (0 : Int) < (n : Int) := by omega
  obtain ⟨x1, x2, x3, hL⟩ : ∃ x y z, g 0 = (x, y, z) := ⟨_, _, _, rfl⟩
  have K : Hid (w.cell? ⟨b, off, none⟩ = some (.int .i64 x1) ∧ w.cell? ⟨b, off + 1, none⟩ = some (.int .i64 x2)) := by
    have := H5.out 0 hpos
    rw [hL, Nat.zero_mul, Nat.add_zero] at this
    exact ⟨this.1, this.2.1⟩
  obtain ⟨u0, hu0⟩ : ∃ u0, u0 = u 0 := ⟨_, rfl⟩
  obtain ⟨v0, hv0⟩ : ∃ v0, v0 = v 0 := ⟨_, rfl⟩
  obtain ⟨d0, hd0⟩ : ∃ d0, d0 = d 0 := ⟨_, rfl⟩
  have w1 : IntKind.i64.wrap (p1 * x1) = u0 := by have := HU.out 0 hpos; rwa [hL, ← hu0] at this
  have w2 : IntKind.i64.wrap (p2 * x2) = v0 := by have := HV.out 0 hpos; rwa [hL, ← hv0] at this
  have w3 : IntKind.i64.wrap (u0 + v0) = d0 := by have := HDD.out 0 hpos; rwa [← hu0, ← hv0, ← hd0] at this
  rw [← hd0] at HL0 HH0
  clear hL hu0 hv0 hd0
  go_enter Try.func13, Try.ntmps13
  go_upto_region 1 with (fail)
  obtain ⟨y, hy⟩ : ∃ y : World, y = w.alloc (.cells #[.int .i64 p1, .int .i64 p2, .int .i64 p3] 24) := ⟨_, rfl⟩
  have VP : Hid (V3 y w.heap.size p1 p2 p3) := by rw [hy]; exact ⟨by simp [go_sem], by simp [go_sem], by simp [go_sem]⟩
  have E : Hid (Below w.heap.size w y) := by rw [hy]; exact below_one w _
  obtain ⟨gp, hg⟩ : ∃ g, g = w.heap.size := ⟨_, rfl⟩
  rw [← hg] at VP
  rw [← hy, ← hg]
  clear hy hg
  obtain ⟨e0, e1, e2⟩ := VP.out
  have c0 := keep1 E.out K.out.1
  have c1 := keep1 E.out K.out.2
  go_quiet (fail)
  go_wp2
  go_loopw [6, 7, 8] (fun lv hv iv wr => ∃ (wz : World) (k : Nat) (a b : Int), wz = wr ∧ k ≤ n ∧ iv = .int .i64 (k : Int) ∧ lv = .int .i64 a ∧ hv = .int .i64 b ∧ Hid (a = lo k) ∧ Hid (b = hi k) ∧ Hid (V3 wz gp p1 p2 p3) ∧ Hid (Below w.heap.size w wz))
    (fun _ _ iv _ => n - (intOf iv).toNat)
  case atStart => exact ⟨_, 0, _, _, rfl, Nat.zero_le _, rfl, rfl, rfl, HL0.out.symm, HH0.out.symm, by first | exact VP | exact VP.out.drew | exact VP.out.drewN _, by first | exact E | exact Lib.hid E.out.drew | exact Lib.hid (below_drewN E.out _)⟩
  case round =>
    clear VP E HL0 HH0 K w1 w2 w3 e0 e1 e2 c0 c1
    obtain ⟨wz, k, l0, h0, rfl, hk, rfl, rfl, rfl, hl, hh, VP, E⟩ := hrel
    by_cases hlt : k < n
    · have hk0 : (0 : Int) ≤ (k : Int) := by omega
      have hk1 : (k : Int) < (n : Int) := by omega
      have hw : IntKind.i64.wrap ((k : Int) + 1) = (k : Int) + 1 := wrap_in (by omega)
      obtain ⟨y1, y2, y3, hM⟩ : ∃ x y z, g k = (x, y, z) := ⟨_, _, _, rfl⟩
      have K : Hid (w.cell? ⟨b, off + k * 3, none⟩ = some (.int .i64 y1) ∧ w.cell? ⟨b, off + k * 3 + 1, none⟩ = some (.int .i64 y2)) := by
        have := H5.out k hlt
        rw [hM] at this
        exact ⟨this.1, this.2.1⟩
      obtain ⟨u0, hu0⟩ : ∃ u0, u0 = u k := ⟨_, rfl⟩
      obtain ⟨v0, hv0⟩ : ∃ v0, v0 = v k := ⟨_, rfl⟩
      obtain ⟨d0, hd0⟩ : ∃ d0, d0 = d k := ⟨_, rfl⟩
      have w1 : IntKind.i64.wrap (p1 * y1) = u0 := by have := HU.out k hlt; rwa [hM, ← hu0] at this
      have w2 : IntKind.i64.wrap (p2 * y2) = v0 := by have := HV.out k hlt; rwa [hM, ← hv0] at this
      have w3 : IntKind.i64.wrap (u0 + v0) = d0 := by have := HDD.out k hlt; rwa [← hu0, ← hv0, ← hd0] at this
      have NL : Hid (lo (k + 1) = min l0 d0) := by show _ = _; rw [HLS.out k hlt, hl.out, hd0]
      have NH : Hid (hi (k + 1) = max h0 d0) := by show _ = _; rw [HHS.out k hlt, hh.out, hd0]
      clear hM hu0 hv0 hd0 hl hh
      obtain ⟨e0, e1, e2⟩ := VP.out
      have c0 := keep1 E.out K.out.1
      have c1 := keep1 E.out K.out.2
      go_upto_region 5 with (fail)
      go_quiet (fail)
      go_wp2
      go_roundw
      case rel => exact ⟨_, k + 1, _, _, rfl, by omega, by go_num, rfl, rfl, (by show _ = _; rw [NL.out]; try (split <;> omega)), (by show _ = _; rw [NH.out]; try (split <;> omega)), by first | exact VP | exact VP.out.drew | exact VP.out.drewN _, by first | exact E | exact Lib.hid E.out.drew | exact Lib.hid (below_drewN E.out _)⟩
      case measure => simp [intOf]; omega
    · obtain rfl : k = n := by omega
      clear hlt hk
      go_wp2
      go_ret2
      exact ⟨by rw [← hl.out, ← hh.out]; rfl, E.out⟩
end Go.Proofs.Ytpkfngfenkcjoaa

/- HullSizes: what the reference's Area2, Extent and Diameter2 give for a hull: the same. -/
set_option linter.all false
namespace Go.Proofs.Ytpkfngfenkcjoaa
open Go.RowKit

theorem rv_cells {L : List T3} {b off cap : Nat} {w : World} (h : Rv w (.slice (some ⟨b, off, none⟩) L.length cap) L) (hp : 0 < L.length) : ∀ k, k < L.length → w.cell? ⟨b, off + k * 3, none⟩ = some (.int .i64 (gA L k).1) ∧ w.cell? ⟨b, off + k * 3 + 1, none⟩ = some (.int .i64 (gA L k).2.1) ∧ w.cell? ⟨b, off + k * 3 + 2, none⟩ = some (.int .i64 (gA L k).2.2) := by
  obtain ⟨p', b', off', cap', e, q2, q3, q4, q5⟩ := h
  injection e with e1 e2 e3
  subst e3
  have e4 := e1.trans (q4 hp)
  cases e4
  intro k hk
  have := q5 k hk
  rwa [gA_at hk] at this
theorem gA_z {L : List T3} (hv : VH L) (k : Nat) : (gA L k).2.2 = 0 := by
  have hk := Nat.mod_lt k hv.1
  rw [← gA_nx hk]
  exact hv.2.2.2.1 _ (List.getElem_mem hk)
theorem tn_bd {a b c : T3} (ha : inV 1048576 a.1 a.2.1 a.2.2 = true) (hb : inV 1048576 b.1 b.2.1 b.2.2 = true) (hc : inV 1048576 c.1 c.2.1 c.2.2 = true) : -8796093022208 ≤ Hl.tn (pl a) (pl b) (pl c) ∧ Hl.tn (pl a) (pl b) (pl c) ≤ 8796093022208 := by
  obtain ⟨a1, a2, a3⟩ := bv_of ha
  obtain ⟨b1, b2, b3⟩ := bv_of hb
  obtain ⟨c1, c2, c3⟩ := bv_of hc
  have d1 := mul_bd (x := b.1 - a.1) (y := c.2.1 - a.2.1) (M := 2097152) (N := 2097152) (by omega) (by omega)
  have d2 := mul_bd (x := b.2.1 - a.2.1) (y := c.1 - a.1) (M := 2097152) (N := 2097152) (by omega) (by omega)
  unfold Hl.tn pl
  simp only
  omega
theorem rA_bd {L : List T3} (hv : inL 1048576 L = true) (hp : 0 < L.length) : ∀ k : Nat, -(8796093022208 * (k : Int)) ≤ rA L k ∧ rA L k ≤ 8796093022208 * (k : Int)
  | 0 => by simp [rA]
  | k + 1 => by
    have h1 := rA_bd hv hp k
    have h2 : -8796093022208 ≤ Hl.tn (fA L 0) (fA L (k + 1)) (fA L (k + 2)) ∧ Hl.tn (fA L 0) (fA L (k + 1)) (fA L (k + 2)) ≤ 8796093022208 := tn_bd (gA_in hv hp 0) (gA_in hv hp (k + 1)) (gA_in hv hp (k + 2))
    rw [rA]
    omega
/-- Area2. -/
theorem rArea_anyH (L : List T3) (v : Value) (w : World) (h : Rv w v L) (hv : VH L) :
    Calls Try.prog 11 #[v] w (Ret (.int .i64 (aS L L.length)) w) := by
  obtain ⟨b, off, cap, rfl, hb⟩ := rv_at h hv.1
  have hl := hv.2.2.1
  have hp := hv.1
  have hB := fun k => bv_of (gA_in hl hp k)
  rw [aS_rA hp]
  refine rarea_walk (gA L) b off cap L.length w hv.2.1 hp (rv_cells h hp) (fun k => ((gA L k).1 - (gA L 0).1, (gA L k).2.1 - (gA L 0).2.1, (gA L k).2.2 - (gA L 0).2.2))
    (fun k => (((gA L (k + 1)).2.1 - (gA L 0).2.1) * ((gA L (k + 2)).2.2 - (gA L 0).2.2) - ((gA L (k + 1)).2.2 - (gA L 0).2.2) * ((gA L (k + 2)).2.1 - (gA L 0).2.1),
      ((gA L (k + 1)).2.2 - (gA L 0).2.2) * ((gA L (k + 2)).1 - (gA L 0).1) - ((gA L (k + 1)).1 - (gA L 0).1) * ((gA L (k + 2)).2.2 - (gA L 0).2.2),
      ((gA L (k + 1)).1 - (gA L 0).1) * ((gA L (k + 2)).2.1 - (gA L 0).2.1) - ((gA L (k + 1)).2.1 - (gA L 0).2.1) * ((gA L (k + 2)).1 - (gA L 0).1)))
    (rA L) rfl (fun k hk => ?_) (fun k hk w' => rSub_ok (M := 1048576) (by omega) (hB k) (hB 0) w') (fun k hk w' => rCross_ok (M := 2097152) (N := 2097152) (by omega) (by omega) (bv_diff (hB (k + 1)) (hB 0)) (bv_diff (hB (k + 2)) (hB 0)) w')
  have h1 := rA_bd hl hp (k + 1)
  have h2 := hv.2.1
  have e : rA L k + (((gA L (k + 1)).1 - (gA L 0).1) * ((gA L (k + 2)).2.1 - (gA L 0).2.1) - ((gA L (k + 1)).2.1 - (gA L 0).2.1) * ((gA L (k + 2)).1 - (gA L 0).1)) = rA L (k + 1) := rfl
  show IntKind.i64.wrap (rA L k + (((gA L (k + 1)).1 - (gA L 0).1) * ((gA L (k + 2)).2.1 - (gA L 0).2.1) - ((gA L (k + 1)).2.1 - (gA L 0).2.1) * ((gA L (k + 2)).1 - (gA L 0).1))) = _
  rw [e]
  exact wrap_in (by omega)
/-- Extent. -/
def xLo (L : List T3) (p : T3) : Nat → Int
  | 0 => eD p (gA L 0)
  | k + 1 => min (xLo L p k) (eD p (gA L k))
def xHi (L : List T3) (p : T3) : Nat → Int
  | 0 => eD p (gA L 0)
  | k + 1 => max (xHi L p k) (eD p (gA L k))
theorem xLo_e {L : List T3} {p : T3} (hp : inV 16777216 p.1 p.2.1 p.2.2 = true) (hv : inL 1048576 L = true) (h0 : 0 < L.length) : ∀ k, xLo L p (k + 1) = eLo L p (k + 1)
  | 0 => by
    have := eD_bd hp (gA_in hv h0 0)
    show min (eD p (gA L 0)) (eD p (gA L 0)) = min 9223372036854775807 (eD p (gA L 0))
    omega
  | k + 1 => by rw [xLo, xLo_e hp hv h0 k]; rfl
theorem xHi_e {L : List T3} {p : T3} (hp : inV 16777216 p.1 p.2.1 p.2.2 = true) (hv : inL 1048576 L = true) (h0 : 0 < L.length) : ∀ k, xHi L p (k + 1) = eHi L p (k + 1)
  | 0 => by
    have := eD_bd hp (gA_in hv h0 0)
    show max (eD p (gA L 0)) (eD p (gA L 0)) = max (-9223372036854775808) (eD p (gA L 0))
    omega
  | k + 1 => by rw [xHi, xHi_e hp hv h0 k]; rfl
theorem rExtent_anyH (L : List T3) (v : Value) (p1 p2 p3 : Int) (w : World) (h : Rv w v L) (hv : VH L) (hq : inV 16777216 p1 p2 p3 = true) :
    Calls Try.prog 13 #[v, vv p1 p2 p3] w (Ret (.tuple #[.int .i64 (eLo L (p1, p2, p3) L.length), .int .i64 (eHi L (p1, p2, p3) L.length)]) w) := by
  obtain ⟨b, off, cap, rfl, hb⟩ := rv_at h hv.1
  have hl := hv.2.2.1
  have hp := hv.1
  obtain ⟨a1, a2, a3⟩ := bv_of hq
  have e1 : xLo L (p1, p2, p3) L.length = eLo L (p1, p2, p3) L.length := by
    have := xLo_e (p := (p1, p2, p3)) hq hl hp (L.length - 1)
    rwa [show L.length - 1 + 1 = L.length by omega] at this
  have e2 : xHi L (p1, p2, p3) L.length = eHi L (p1, p2, p3) L.length := by
    have := xHi_e (p := (p1, p2, p3)) hq hl hp (L.length - 1)
    rwa [show L.length - 1 + 1 = L.length by omega] at this
  rw [← e1, ← e2]
  have m1 := fun k => mul_bd a1 (bv_of (gA_in hl hp k)).1
  have m2 := fun k => mul_bd a2 (bv_of (gA_in hl hp k)).2.1
  refine rext_walk (gA L) b off cap L.length p1 p2 p3 w hv.2.1 hp (rv_cells h hp) (fun k => p1 * (gA L k).1) (fun k => p2 * (gA L k).2.1) (fun k => eD (p1, p2, p3) (gA L k))
    (fun k _ => wrap_in (by have := m1 k; omega)) (fun k _ => wrap_in (by have := m2 k; omega)) (fun k _ => ?_) (xLo L (p1, p2, p3)) (xHi L (p1, p2, p3)) rfl rfl (fun k _ => rfl) (fun k _ => rfl)
  have e : p1 * (gA L k).1 + p2 * (gA L k).2.1 = eD (p1, p2, p3) (gA L k) := by
    unfold eD dt
    rw [gA_z hv]
    simp
  show IntKind.i64.wrap (p1 * (gA L k).1 + p2 * (gA L k).2.1) = _
  rw [e]
  have := eD_bd (d := (p1, p2, p3)) hq (gA_in hl hp k)
  exact wrap_in (by omega)
/-- Diameter2. -/
theorem rDiam_anyH (L : List T3) (v : Value) (w : World) (h : Rv w v L) (hv : VH L) :
    Calls Try.prog 10 #[v] w (Ret (.tuple #[.int .i64 (rO (dsA L) L.length L.length).1, .int .i64 (rO (dsA L) L.length L.length).2.1, .int .i64 (rO (dsA L) L.length L.length).2.2]) w) := by
  obtain ⟨b, off, cap, rfl, hb⟩ := rv_at h hv.1
  have hl := hv.2.2.1
  have hp := hv.1
  exact rdiam_walk (gA L) b off cap L.length w hv.2.1 (rv_cells h hp) (dsA L) (fun i k _ _ w' => rDistance2_any (inV_up (gA_in hl hp i)) (inV_up (gA_in hl hp k)) w')
theorem rI_fst {P : Nat → Nat → Prop} {ds : Nat → Nat → Int} {s : Int × Int × Int} {i : Nat} (h : Hl.Fst P ds s) (hP : ∀ x y, P x y → x < i) : ∀ m, Hl.Fst (fun x y => P x y ∨ (x = i ∧ i < y ∧ y < i + 1 + m)) ds (rI ds i s m)
  | 0 => by
    have e : (fun x y => P x y ∨ (x = i ∧ i < y ∧ y < i + 1 + 0)) = P := by
      funext x y
      exact propext ⟨fun h => h.elim id (fun h => by omega), .inl⟩
    rw [e]; exact h
  | m + 1 => by
    refine (rI_fst h hP m).snoc i (i + 1 + m) (fun x y => ?_) (fun x y p => ?_)
    · constructor
      · rintro (p | p)
        · exact .inl (.inl p)
        · by_cases g : y = i + 1 + m
          · exact .inr ⟨p.1, g⟩
          · exact .inl (.inr (by omega))
      · rintro ((p | p) | p)
        · exact .inl p
        · exact .inr (by omega)
        · exact .inr (by omega)
    · rcases p with p | p
      · exact .inl (hP x y p)
      · right; omega
theorem rO_fst (ds : Nat → Nat → Int) (n : Nat) : ∀ i, i ≤ n → Hl.Fst (fun x y => Hl.Prs n x y ∧ x < i) ds (rO ds n i)
  | 0, _ => Hl.Fst.nil (fun x y h => by omega)
  | i + 1, hi => by
    have h := rI_fst (rO_fst ds n i (by omega)) (fun x y p => p.2) (n - 1 - i)
    have e : (fun x y => (Hl.Prs n x y ∧ x < i) ∨ (x = i ∧ i < y ∧ y < i + 1 + (n - 1 - i))) = (fun x y => Hl.Prs n x y ∧ x < i + 1) := by
      funext x y
      unfold Hl.Prs
      exact propext (by omega)
    rw [e] at h
    exact h
theorem fA_per (L : List T3) (k : Nat) : fA L (k + L.length) = fA L k := by
  unfold fA
  rw [← gA_mod L (k + L.length), Nat.add_mod_right, gA_mod]
theorem fA_mod (L : List T3) (k : Nat) : fA L (k % L.length) = fA L k := by unfold fA; rw [gA_mod]
theorem vh_cvx {L : List T3} (hv : VH L) (h3 : 3 ≤ L.length) : Hl.Cvx L.length (fA L) where
  n3 := h3
  per := fA_per L
  conv := fun k m n1 n2 => by
    have hk := Nat.mod_lt k hv.1
    have hm := Nat.mod_lt m hv.1
    have := edge_pos hv h3 hk hm n1 (by rw [Nat.mod_add_mod]; exact n2)
    rw [fA_mod, fA_mod] at this
    rw [show fA L (k % L.length + 1) = fA L (k + 1) by rw [← fA_mod L (k % L.length + 1), Nat.mod_add_mod, fA_mod]] at this
    exact this
theorem ds_dp {L : List T3} (hv : VH L) (x y : Nat) : dsA L x y = Hl.dp (Hl.sb (fA L x) (fA L y)) (Hl.sb (fA L x) (fA L y)) := by
  unfold dsA d2 dt Hl.dp Hl.sb fA pl
  rw [gA_z hv, gA_z hv]
  simp only
  grind
theorem ds_sym (L : List T3) (x y : Nat) : dsA L x y = dsA L y x := by unfold dsA d2 dt; grind
theorem ds_mod (L : List T3) (x y : Nat) : dsA L (x % L.length) y = dsA L x y := by unfold dsA; rw [gA_mod]
theorem ds_self (L : List T3) (x : Nat) : dsA L x x = 0 := by unfold dsA d2 dt; simp
theorem ct_cr (L : List T3) (i j : Nat) : ctA L i j = true ↔ 0 < Hl.cr (Hl.eg (fA L) i) (Hl.eg (fA L) j) := by
  unfold ctA
  rw [decide_eq_true_eq, t3_pl]
  have e : Hl.tn (pl (0, 0, 0)) (pl (wyA L i)) (pl (wyA L j)) = Hl.cr (Hl.eg (fA L) i) (Hl.eg (fA L) j) := by
    unfold Hl.tn Hl.cr Hl.eg Hl.sb fA pl wyA
    simp only
    grind
  rw [e]
theorem max_far {L : List T3} (hv : VH L) {a b : Nat} (h1 : a < b) (h2 : b < L.length) (h0 : 0 < dsA L a b) (hM : ∀ x y, Hl.Prs L.length x y → dsA L x y ≤ dsA L a b) : Hl.Far (fA L) a b := by
  have key : ∀ m c, c < L.length → dsA L m c ≤ dsA L a b := by
    intro m c hc
    rw [← ds_mod]
    have hm := Nat.mod_lt m hv.1
    rcases Nat.lt_trichotomy (m % L.length) c with g | g | g
    · exact hM _ _ ⟨g, hc⟩
    · rw [g, ds_self]; omega
    · rw [ds_sym]; exact hM _ _ ⟨g, hm⟩
  intro m
  rw [← ds_dp hv, ← ds_dp hv, ← ds_dp hv]
  exact ⟨key m a (by omega), key m b h2⟩
/-- Both find the same pair. -/
theorem diam_same {L : List T3} (hv : VH L) {N : Nat} (hN : ∀ k, k < N → (stp (ctA L) k).1 < (stp (ctA L) k).2 ∧ (stp (ctA L) k).2 < L.length) (hE : ¬ ((stp (ctA L) N).1 < (stp (ctA L) N).2 ∧ (stp (ctA L) N).2 < L.length)) : dD (ctA L) (dsA L) N = rO (dsA L) L.length L.length := by
  have hW : Hl.Wal (ctA L) (stp (ctA L)) := ⟨rfl, fun k => rfl⟩
  have h1 : Hl.Fst (Hl.Prs L.length) (dsA L) (rO (dsA L) L.length L.length) := by
    have h := rO_fst (dsA L) L.length L.length (Nat.le_refl _)
    have e : (fun x y => Hl.Prs L.length x y ∧ x < L.length) = Hl.Prs L.length := by
      funext x y
      unfold Hl.Prs
      exact propext (by omega)
    rwa [e] at h
  have h2 := hW.fst (dsA L) (dD (ctA L) (dsA L)) rfl (fun k => rfl) N
  refine h1.same h2 (fun x y ⟨j, hj, e⟩ => ?_) (fun a b hp h0 hM => ?_)
  · have := hN j hj
    rw [e] at this
    exact this
  · obtain ⟨g1, g2⟩ := hp
    by_cases h3 : 3 ≤ L.length
    · exact hW.met (vh_cvx hv h3) (ct_cr L) hE g1 g2 (max_far hv g1 g2 h0 hM)
    · refine ⟨0, ?_, ?_⟩
      · rcases Nat.eq_zero_or_pos N with e | e
        · exact absurd (show (stp (ctA L) N).1 < (stp (ctA L) N).2 ∧ (stp (ctA L) N).2 < L.length by rw [e]; exact ⟨Nat.lt_succ_self 0, by show 1 < _; omega⟩) hE
        · exact e
      · show ((0 : Nat), (1 : Nat)) = (a, b)
        rw [show a = 0 by omega, show b = 1 by omega]
theorem Diam_okH (L : List T3) (v : Value) (w : World) (h : Rv w v L) (hv : VH L) :
    Calls Try.prog 7 #[v] w (Ret (.tuple #[.int .i64 (rO (dsA L) L.length L.length).1, .int .i64 (rO (dsA L) L.length L.length).2.1, .int .i64 (rO (dsA L) L.length L.length).2.2, .int .i64 0]) w) := by
  obtain ⟨N, hN, hE⟩ := Hl.Wal.ends (c := ctA L) (s := stp (ctA L)) ⟨rfl, fun k => rfl⟩ L.length
  have := Diameter2_ok L v w h hv N hN hE
  rwa [diam_same hv hN hE] at this
end Go.Proofs.Ytpkfngfenkcjoaa

/- HullSizes: the walk over what its calls give. -/
set_option linter.all false
namespace Go.Proofs.Ytpkfngfenkcjoaa
open Go.RowKit

set_option maxRecDepth 100000 in
set_option maxHeartbeats 8000000 in
theorem sizes_long (L : List T3) (v : Value) (p1 p2 p3 : Int) (w : World) (ha : Rv w v L) (h : 10 < L.length) :
    Calls Try.prog 3 #[v, vv p1 p2 p3] w (Ret (.bool true) w) := by
  have RA := Lib.hid ha
  clear ha
  obtain ⟨pa, ba, offa, capa, rfl, -⟩ := id RA.out
  obtain ⟨n, hn⟩ : ∃ n, n = L.length := ⟨_, rfl⟩
  rw [← hn] at RA ⊢
  have i0 : (10 : Int) < (n : Int) := by omega
  clear hn
  go_enter Try.func3, Try.ntmps3
  go_upto_region 1 with (fail)
  obtain ⟨y, hy⟩ : ∃ y : World, y = w.alloc (.cells #[.int .i64 p1, .int .i64 p2, .int .i64 p3] 24) := ⟨_, rfl⟩
  have VP : Hid (V3 y w.heap.size p1 p2 p3) := by rw [hy]; exact ⟨by simp [go_sem], by simp [go_sem], by simp [go_sem]⟩
  have E : Hid (Below w.heap.size w y) := by rw [hy]; exact below_one w _
  have RA : Hid (Rv y (.slice pa n capa) L) := RA.out.below (by rw [hy]; exact below_one w _)
  obtain ⟨gp, hg⟩ : ∃ g, g = w.heap.size := ⟨_, rfl⟩
  rw [← hg] at VP
  rw [← hy, ← hg]
  clear hy hg
  go_wp2_with fail
  refine (known_true _).mono ?_
  rintro e z1 ⟨rfl, b⟩
  have RA := Lib.hid (RA.out.below b)
  have VP := Lib.hid (VP.out.below b)
  have E := Lib.hid (chain E.out b)
  clear b
  go_wp2
  go_ret
  exact ⟨rfl, E.out⟩

set_option maxRecDepth 100000 in
set_option maxHeartbeats 8000000 in
theorem sizes_bad (L : List T3) (v : Value) (p1 p2 p3 : Int) (w : World) (ha : Rv w v L) (h : L.length ≤ 10) (hv : ¬ VH L) :
    Calls Try.prog 3 #[v, vv p1 p2 p3] w (Ret (.bool true) w) := by
  have RA := Lib.hid ha
  clear ha
  have HV := Lib.hid hv
  clear hv
  obtain ⟨pa, ba, offa, capa, rfl, -⟩ := id RA.out
  obtain ⟨n, hn⟩ : ∃ n, n = L.length := ⟨_, rfl⟩
  rw [← hn] at RA ⊢
  have i0 : ¬ (10 : Int) < (n : Int) := by omega
  clear hn h
  go_enter Try.func3, Try.ntmps3
  go_upto_region 1 with (fail)
  obtain ⟨y, hy⟩ : ∃ y : World, y = w.alloc (.cells #[.int .i64 p1, .int .i64 p2, .int .i64 p3] 24) := ⟨_, rfl⟩
  have VP : Hid (V3 y w.heap.size p1 p2 p3) := by rw [hy]; exact ⟨by simp [go_sem], by simp [go_sem], by simp [go_sem]⟩
  have E : Hid (Below w.heap.size w y) := by rw [hy]; exact below_one w _
  have RA : Hid (Rv y (.slice pa n capa) L) := RA.out.below (by rw [hy]; exact below_one w _)
  obtain ⟨gp, hg⟩ : ∃ g, g = w.heap.size := ⟨_, rfl⟩
  rw [← hg] at VP
  rw [← hy, ← hg]
  clear hy hg
  go_wp2_with fail
  refine (Area2_bad L _ _ RA.out HV.out).mono ?_
  rintro e z2 ⟨rfl, b⟩
  have RA := Lib.hid (RA.out.below b)
  have VP := Lib.hid (VP.out.below b)
  have E := Lib.hid (chain E.out b)
  clear b
  go_wp2_with fail
  refine (Diameter2_bad L _ _ RA.out HV.out).mono ?_
  rintro e z3 ⟨rfl, b⟩
  have RA := Lib.hid (RA.out.below b)
  have VP := Lib.hid (VP.out.below b)
  have E := Lib.hid (chain E.out b)
  clear b
  obtain ⟨e0, e1, e2⟩ := VP.out
  go_wp2_with fail
  refine (Extent_bad L _ p1 p2 p3 _ RA.out (fun k => HV.out k.1)).mono ?_
  rintro e z4 ⟨rfl, b⟩
  have RA := Lib.hid (RA.out.below b)
  have VP := Lib.hid (VP.out.below b)
  have E := Lib.hid (chain E.out b)
  clear b
  go_wp2_with fail
  refine ((show Calls Try.prog 9 _ _ (Ret (.bool false) _) from by have := rValidH_any L _ _ RA.out; rwa [decide_eq_false HV.out] at this)).mono ?_
  rintro e z5 ⟨rfl, b⟩
  have RA := Lib.hid (RA.out.below b)
  have VP := Lib.hid (VP.out.below b)
  have E := Lib.hid (chain E.out b)
  clear b
  go_wp2_with fail
  refine (known_true _).mono ?_
  rintro e z6 ⟨rfl, b⟩
  have RA := Lib.hid (RA.out.below b)
  have VP := Lib.hid (VP.out.below b)
  have E := Lib.hid (chain E.out b)
  clear b
  go_wp2
  go_ret
  exact ⟨rfl, E.out⟩

set_option maxRecDepth 100000 in
set_option maxHeartbeats 8000000 in
theorem sizes_dir (L : List T3) (v : Value) (p1 p2 p3 : Int) (w : World) (ha : Rv w v L) (h : L.length ≤ 10) (hv : VH L) (hq : inV 16777216 p1 p2 p3 = false) :
    Calls Try.prog 3 #[v, vv p1 p2 p3] w (Ret (.bool true) w) := by
  have RA := Lib.hid ha
  clear ha
  have HV := Lib.hid hv
  have HQ := Lib.hid hq
  clear hv hq
  obtain ⟨pa, ba, offa, capa, rfl, -⟩ := id RA.out
  obtain ⟨n, hn⟩ : ∃ n, n = L.length := ⟨_, rfl⟩
  rw [← hn] at RA ⊢
  have i0 : ¬ (10 : Int) < (n : Int) := by omega
  clear hn h
  obtain ⟨A, hA⟩ : ∃ A, A = aS L L.length := ⟨_, rfl⟩
  obtain ⟨D, hD⟩ : ∃ D, D = rO (dsA L) L.length L.length := ⟨_, rfl⟩
  obtain ⟨d1, d2_, d3⟩ := D
  have CA : Hid (∀ v w, Rv w v L → Calls Try.prog 6 #[v] w (Ret (.tuple #[.int .i64 A, .int .i64 0]) w)) := fun v w h => by have := Area2_ok L v w h HV.out; rwa [← hA] at this
  have CR : Hid (∀ v w, Rv w v L → Calls Try.prog 11 #[v] w (Ret (.int .i64 A) w)) := fun v w h => by have := rArea_anyH L v w h HV.out; rwa [← hA] at this
  have CD : Hid (∀ v w, Rv w v L → Calls Try.prog 7 #[v] w (Ret (.tuple #[.int .i64 d1, .int .i64 d2_, .int .i64 d3, .int .i64 0]) w)) := fun v w h => by have := Diam_okH L v w h HV.out; rwa [← hD] at this
  have CS : Hid (∀ v w, Rv w v L → Calls Try.prog 10 #[v] w (Ret (.tuple #[.int .i64 d1, .int .i64 d2_, .int .i64 d3]) w)) := fun v w h => by have := rDiam_anyH L v w h HV.out; rwa [← hD] at this
  clear hA hD
  go_enter Try.func3, Try.ntmps3
  go_upto_region 1 with (fail)
  obtain ⟨y, hy⟩ : ∃ y : World, y = w.alloc (.cells #[.int .i64 p1, .int .i64 p2, .int .i64 p3] 24) := ⟨_, rfl⟩
  have VP : Hid (V3 y w.heap.size p1 p2 p3) := by rw [hy]; exact ⟨by simp [go_sem], by simp [go_sem], by simp [go_sem]⟩
  have E : Hid (Below w.heap.size w y) := by rw [hy]; exact below_one w _
  have RA : Hid (Rv y (.slice pa n capa) L) := RA.out.below (by rw [hy]; exact below_one w _)
  obtain ⟨gp, hg⟩ : ∃ g, g = w.heap.size := ⟨_, rfl⟩
  rw [← hg] at VP
  rw [← hy, ← hg]
  clear hy hg
  go_wp2_with fail
  refine (CA.out _ _ RA.out).mono ?_
  rintro e z7 ⟨rfl, b⟩
  have RA := Lib.hid (RA.out.below b)
  have VP := Lib.hid (VP.out.below b)
  have E := Lib.hid (chain E.out b)
  clear b
  go_wp2_with fail
  refine (CD.out _ _ RA.out).mono ?_
  rintro e z8 ⟨rfl, b⟩
  have RA := Lib.hid (RA.out.below b)
  have VP := Lib.hid (VP.out.below b)
  have E := Lib.hid (chain E.out b)
  clear b
  obtain ⟨e0, e1, e2⟩ := VP.out
  go_wp2_with fail
  refine (Extent_bad L _ p1 p2 p3 _ RA.out (fun k => by have := HQ.out; rw [k.2] at this; cases this)).mono ?_
  rintro e z9 ⟨rfl, b⟩
  have RA := Lib.hid (RA.out.below b)
  have VP := Lib.hid (VP.out.below b)
  have E := Lib.hid (chain E.out b)
  clear b
  go_wp2_with fail
  refine ((show Calls Try.prog 9 _ _ (Ret (.bool true) _) from by have := rValidH_any L _ _ RA.out; rwa [decide_eq_true HV.out] at this)).mono ?_
  rintro e z10 ⟨rfl, b⟩
  have RA := Lib.hid (RA.out.below b)
  have VP := Lib.hid (VP.out.below b)
  have E := Lib.hid (chain E.out b)
  clear b
  go_wp2_with fail
  refine (CS.out _ _ RA.out).mono ?_
  rintro e z11 ⟨rfl, b⟩
  have RA := Lib.hid (RA.out.below b)
  have VP := Lib.hid (VP.out.below b)
  have E := Lib.hid (chain E.out b)
  clear b
  go_wp2_with fail
  refine (CR.out _ _ RA.out).mono ?_
  rintro e z12 ⟨rfl, b⟩
  have RA := Lib.hid (RA.out.below b)
  have VP := Lib.hid (VP.out.below b)
  have E := Lib.hid (chain E.out b)
  clear b
  obtain ⟨e0, e1, e2⟩ := VP.out
  go_wp2_with fail
  refine ((show Calls Try.prog 12 _ _ (Ret (.bool false) _) from by have := rValid_any p1 p2 p3; rw [HQ.out] at this; exact this _)).mono ?_
  rintro e z13 ⟨rfl, b⟩
  have RA := Lib.hid (RA.out.below b)
  have VP := Lib.hid (VP.out.below b)
  have E := Lib.hid (chain E.out b)
  clear b
  go_wp2_with fail
  refine (known_true _).mono ?_
  rintro e z14 ⟨rfl, b⟩
  have RA := Lib.hid (RA.out.below b)
  have VP := Lib.hid (VP.out.below b)
  have E := Lib.hid (chain E.out b)
  clear b
  go_wp2
  go_ret
  exact ⟨rfl, E.out⟩

set_option maxRecDepth 100000 in
set_option maxHeartbeats 8000000 in
theorem sizes_ok (L : List T3) (v : Value) (p1 p2 p3 : Int) (w : World) (ha : Rv w v L) (h : L.length ≤ 10) (hv : VH L) (hq : inV 16777216 p1 p2 p3 = true) :
    Calls Try.prog 3 #[v, vv p1 p2 p3] w (Ret (.bool true) w) := by
  have RA := Lib.hid ha
  clear ha
  have HV := Lib.hid hv
  have HQ := Lib.hid hq
  clear hv hq
  obtain ⟨pa, ba, offa, capa, rfl, -⟩ := id RA.out
  obtain ⟨n, hn⟩ : ∃ n, n = L.length := ⟨_, rfl⟩
  rw [← hn] at RA ⊢
  have i0 : ¬ (10 : Int) < (n : Int) := by omega
  clear hn h
  obtain ⟨A, hA⟩ : ∃ A, A = aS L L.length := ⟨_, rfl⟩
  obtain ⟨D, hD⟩ : ∃ D, D = rO (dsA L) L.length L.length := ⟨_, rfl⟩
  obtain ⟨d1, d2_, d3⟩ := D
  have CA : Hid (∀ v w, Rv w v L → Calls Try.prog 6 #[v] w (Ret (.tuple #[.int .i64 A, .int .i64 0]) w)) := fun v w h => by have := Area2_ok L v w h HV.out; rwa [← hA] at this
  have CR : Hid (∀ v w, Rv w v L → Calls Try.prog 11 #[v] w (Ret (.int .i64 A) w)) := fun v w h => by have := rArea_anyH L v w h HV.out; rwa [← hA] at this
  have CD : Hid (∀ v w, Rv w v L → Calls Try.prog 7 #[v] w (Ret (.tuple #[.int .i64 d1, .int .i64 d2_, .int .i64 d3, .int .i64 0]) w)) := fun v w h => by have := Diam_okH L v w h HV.out; rwa [← hD] at this
  have CS : Hid (∀ v w, Rv w v L → Calls Try.prog 10 #[v] w (Ret (.tuple #[.int .i64 d1, .int .i64 d2_, .int .i64 d3]) w)) := fun v w h => by have := rDiam_anyH L v w h HV.out; rwa [← hD] at this
  clear hA hD
  obtain ⟨lo, hlo⟩ : ∃ A, A = eLo L (p1, p2, p3) L.length := ⟨_, rfl⟩
  obtain ⟨hi, hhi⟩ : ∃ A, A = eHi L (p1, p2, p3) L.length := ⟨_, rfl⟩
  have CE : Hid (∀ v w, Rv w v L → Calls Try.prog 8 #[v, vv p1 p2 p3] w (Ret (.tuple #[.int .i64 lo, .int .i64 hi, .int .i64 0]) w)) := fun v w h => by have := Extent_ok L v p1 p2 p3 w h HV.out HQ.out; rwa [← hlo, ← hhi] at this
  have CX : Hid (∀ v w, Rv w v L → Calls Try.prog 13 #[v, vv p1 p2 p3] w (Ret (.tuple #[.int .i64 lo, .int .i64 hi]) w)) := fun v w h => by have := rExtent_anyH L v p1 p2 p3 w h HV.out HQ.out; rwa [← hlo, ← hhi] at this
  clear hlo hhi
  go_enter Try.func3, Try.ntmps3
  go_upto_region 1 with (fail)
  obtain ⟨y, hy⟩ : ∃ y : World, y = w.alloc (.cells #[.int .i64 p1, .int .i64 p2, .int .i64 p3] 24) := ⟨_, rfl⟩
  have VP : Hid (V3 y w.heap.size p1 p2 p3) := by rw [hy]; exact ⟨by simp [go_sem], by simp [go_sem], by simp [go_sem]⟩
  have E : Hid (Below w.heap.size w y) := by rw [hy]; exact below_one w _
  have RA : Hid (Rv y (.slice pa n capa) L) := RA.out.below (by rw [hy]; exact below_one w _)
  obtain ⟨gp, hg⟩ : ∃ g, g = w.heap.size := ⟨_, rfl⟩
  rw [← hg] at VP
  rw [← hy, ← hg]
  clear hy hg
  go_wp2_with fail
  refine (CA.out _ _ RA.out).mono ?_
  rintro e z15 ⟨rfl, b⟩
  have RA := Lib.hid (RA.out.below b)
  have VP := Lib.hid (VP.out.below b)
  have E := Lib.hid (chain E.out b)
  clear b
  go_wp2_with fail
  refine (CD.out _ _ RA.out).mono ?_
  rintro e z16 ⟨rfl, b⟩
  have RA := Lib.hid (RA.out.below b)
  have VP := Lib.hid (VP.out.below b)
  have E := Lib.hid (chain E.out b)
  clear b
  obtain ⟨e0, e1, e2⟩ := VP.out
  go_wp2_with fail
  refine (CE.out _ _ RA.out).mono ?_
  rintro e z17 ⟨rfl, b⟩
  have RA := Lib.hid (RA.out.below b)
  have VP := Lib.hid (VP.out.below b)
  have E := Lib.hid (chain E.out b)
  clear b
  go_wp2_with fail
  refine ((show Calls Try.prog 9 _ _ (Ret (.bool true) _) from by have := rValidH_any L _ _ RA.out; rwa [decide_eq_true HV.out] at this)).mono ?_
  rintro e z18 ⟨rfl, b⟩
  have RA := Lib.hid (RA.out.below b)
  have VP := Lib.hid (VP.out.below b)
  have E := Lib.hid (chain E.out b)
  clear b
  go_wp2_with fail
  refine (CS.out _ _ RA.out).mono ?_
  rintro e z19 ⟨rfl, b⟩
  have RA := Lib.hid (RA.out.below b)
  have VP := Lib.hid (VP.out.below b)
  have E := Lib.hid (chain E.out b)
  clear b
  go_wp2_with fail
  refine (CR.out _ _ RA.out).mono ?_
  rintro e z20 ⟨rfl, b⟩
  have RA := Lib.hid (RA.out.below b)
  have VP := Lib.hid (VP.out.below b)
  have E := Lib.hid (chain E.out b)
  clear b
  obtain ⟨e0, e1, e2⟩ := VP.out
  go_wp2_with fail
  refine ((show Calls Try.prog 12 _ _ (Ret (.bool true) _) from by have := rValid_any p1 p2 p3; rw [HQ.out] at this; exact this _)).mono ?_
  rintro e z21 ⟨rfl, b⟩
  have RA := Lib.hid (RA.out.below b)
  have VP := Lib.hid (VP.out.below b)
  have E := Lib.hid (chain E.out b)
  clear b
  obtain ⟨e0, e1, e2⟩ := VP.out
  go_wp2_with fail
  refine (CX.out _ _ RA.out).mono ?_
  rintro e z22 ⟨rfl, b⟩
  have RA := Lib.hid (RA.out.below b)
  have VP := Lib.hid (VP.out.below b)
  have E := Lib.hid (chain E.out b)
  clear b
  go_wp2_with fail
  refine (known_true _).mono ?_
  rintro e z23 ⟨rfl, b⟩
  have RA := Lib.hid (RA.out.below b)
  have VP := Lib.hid (VP.out.below b)
  have E := Lib.hid (chain E.out b)
  clear b
  go_wp2
  go_ret
  exact ⟨rfl, E.out⟩

/-- HullSizes gives true for any list of vectors and any direction. -/
theorem sizes_any (L : List T3) (v : Value) (p1 p2 p3 : Int) (w : World) (ha : Rv w v L) :
    Calls Try.prog 3 #[v, vv p1 p2 p3] w (Ret (.bool true) w) := by
  by_cases h1 : 10 < L.length
  · exact sizes_long L v p1 p2 p3 w ha h1
  · by_cases h2 : VH L
    · cases h3 : inV 16777216 p1 p2 p3 with
      | false => exact sizes_dir L v p1 p2 p3 w ha (by omega) h2 h3
      | true => exact sizes_ok L v p1 p2 p3 w ha (by omega) h2 h3
    · exact sizes_bad L v p1 p2 p3 w ha (by omega) h2
end Go.Proofs.Ytpkfngfenkcjoaa

/- HullSizes gives true for all lists of vectors and all vectors (P7.3, P7.4), and leaves its arguments as they were. No condition. -/
set_option linter.all false
namespace Go.Proofs.Ytpkfngfenkcjoaa
open Go.ChangeShapes Go.WideShapes Go.ChangeAt Go.RowKit Go.Joins Go.Deep

set_option maxRecDepth 100000 in
theorem hsizes_lifted (os : Os) (started : os.Started) (H : Type) (enc : TypeId × Value → H) :
    ReturnsInHanded {} Try.checked os 3 .any (Rows.hullSizesSpec.pre6 enc Try.prog Try.f3 Rows.hullSizesRow.domain false) (Rows.hullSizesSpec.post enc Try.prog Try.f3 false true false false) := by
  refine returnsInHanded_of_change (C := Try.checked) Try.own started (by kernel_rfl) Try.func3
    (ChangeSpec.witness6 (enc := enc) (C := Try.checked) false ⟨#[], #[.slice none 0 0, .agg #[.int .i64 0, .int .i64 0, .int .i64 0]], []⟩ 8 (by kernel_rfl) (by kernel_rfl) (by kernel_rfl) (by kernel_rfl)) ?_
  intro W base args ds gs before hval0 hW hcnd _
  have hval : ∀ (j : Nat) t v, Try.f3.params[j]? = some t → args[j]? = some v → Value.okWide Try.prog W .any base t v := hval0
  have hW' := hW
  obtain ⟨p, q, hA0, hV, rfl, hfz, hnd⟩ := hW
  have hA : DataW.TrodAll enc Try.prog W 0 (fun _ => true) true Try.f3.params.toList args.toList ds p := hA0
  rw [Try.params3] at hA hval
  obtain ⟨v0, v1, d0, d1, p0, p1, rfl, rfl, rfl, h0, h1⟩ := trodAll_two hA
  obtain ⟨rfl, rfl⟩ := trodVars_none hV
  obtain ⟨L, r0⟩ := open_vecs (hval 0 22 v0 rfl rfl) h0
  obtain ⟨y1, y2, y3, rfl, rfl, rfl, i1⟩ := open_vec (hval 1 24 v1 rfl rfl) h1
  clear hA0 hval0
  refine (sizes_any L v0 y1 y2 y3 W r0).mono fun e W' ⟨he, bel⟩ => ?_
  subst he
  exact ⟨_, rfl, _, _, _, [], _, [], hW', trodAll_mk1 (shut_bool Try.underlying4 _), trodAll_mk2 (Below.trod Try.laidOut (by kernel_rfl) (of_decide_eq_true (by kernel_rfl)) h0 bel (fun x hx => by simpa using hW'.lt x (by simp [hx]))) (shut_vec i1), rfl, bel.frame _, fun h => by cases h⟩

/-- The statement. -/
theorem hsizes_holds : Rows.HullSizesSaid :=
  OpenClaim.holds_of_wide 3 Try.f3 rfl rfl rfl rfl rfl rfl rfl ⟨rfl, rfl, rfl, rfl, rfl⟩ rfl rfl rfl rfl rfl (by kernel_rfl) Try.func3 (by kernel_rfl)
    (of_decide_eq_true (by kernel_rfl)) (by unfold Func.isWrapper; first | (rw [if_pos (by decide +kernel)]; kernel_rfl) | (rw [if_neg (by decide +kernel)]; exact ⟨rfl, rfl⟩))
    (fun os started H enc _ => hsizes_lifted os started H enc)
#print axioms hsizes_holds
end Go.Proofs.Ytpkfngfenkcjoaa
