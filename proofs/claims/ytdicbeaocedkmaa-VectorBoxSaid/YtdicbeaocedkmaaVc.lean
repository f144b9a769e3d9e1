/- A list of vectors in memory; vector.allValid. -/
import Derived.Test.YtdicbeaocedkmaaVb
set_option linter.all false
namespace Go.Proofs.Ytdicbeaocedkmaa
open Go.RowKit

/-- A slice value reads as a list of vectors. -/
def Rv (w : World) (v : Value) (L : List (Int × Int × Int)) : Prop :=
  ∃ (p : Option Addr) (b off cap : Nat), v = .slice p L.length cap ∧ L.length ≤ cap ∧ cap ≤ maxLen ∧ (0 < L.length → p = some ⟨b, off, none⟩) ∧
    ∀ k (h : k < L.length), w.cell? ⟨b, off + k * 3, none⟩ = some (.int .i64 L[k].1) ∧ w.cell? ⟨b, off + k * 3 + 1, none⟩ = some (.int .i64 L[k].2.1) ∧ w.cell? ⟨b, off + k * 3 + 2, none⟩ = some (.int .i64 L[k].2.2)
theorem Rv.below {w w' : World} {v : Value} {L : List (Int × Int × Int)} (h : Rv w v L) (hb : Below w.heap.size w w') : Rv w' v L := by
  obtain ⟨p, b, off, cap, h1, h2, h3, h4, h5⟩ := h
  exact ⟨p, b, off, cap, h1, h2, h3, h4, fun k hk => ⟨keep1 hb (h5 k hk).1, keep1 hb (h5 k hk).2.1, keep1 hb (h5 k hk).2.2⟩⟩
def inL (m : Int) (L : List (Int × Int × Int)) : Bool := L.all fun a => inV m a.1 a.2.1 a.2.2
theorem inL_false {m : Int} {L : List (Int × Int × Int)} {k : Nat} (hk : k < L.length) (h : inV m L[k].1 L[k].2.1 L[k].2.2 = false) : inL m L = false := by
  unfold inL
  rw [List.all_eq_false]
  exact ⟨_, List.getElem_mem hk, by simp [h]⟩
theorem inL_true {m : Int} {L : List (Int × Int × Int)} (h : ∀ k (hk : k < L.length), inV m L[k].1 L[k].2.1 L[k].2.2 = true) : inL m L = true := by
  unfold inL
  rw [List.all_eq_true]
  intro x hx
  obtain ⟨k, hk, rfl⟩ := List.mem_iff_getElem.1 hx
  exact h k hk

set_option maxRecDepth 100000 in
set_option maxHeartbeats 2000000 in
theorem allValid_any (L : List (Int × Int × Int)) (v : Value) (w : World) (h : Rv w v L) :
    Calls Try.prog 43 #[v] w (Ret (.bool (inL 16777216 L)) w) := by
  obtain ⟨p, b, off, cap, rfl, h2, h3, h4, h5⟩ := h
  have HV := Lib.hid (fun x y z w => Valid_any x y z w)
  have H4 := Lib.hid h4
  have H5 := Lib.hid h5
  have HF : Hid (∀ k (hk : k < L.length), inV 16777216 L[k].1 L[k].2.1 L[k].2.2 = false → inL 16777216 L = false) := fun k hk h => inL_false hk h
  have HT : Hid ((∀ k (hk : k < L.length), inV 16777216 L[k].1 L[k].2.1 L[k].2.2 = true) → inL 16777216 L = true) := fun h => inL_true h
  generalize inL 16777216 L = res at *
  clear h4 h5
  have hmx : L.length ≤ 9223372036854775807 := by unfold maxLen at h3; omega
  clear h2 h3
  obtain ⟨n, hn⟩ : ∃ n, n = L.length := ⟨_, rfl⟩
  rw [← hn] at hmx ⊢
  have HN := Lib.hid hn
  clear hn
  go_enter Try.func43, Try.ntmps43
  go_wp2
  go_loopw [4, 7] (fun _ iv wr => ∃ (wz : World) (k : Nat), wz = wr ∧ k ≤ n ∧ iv = .int .i64 (k : Int) ∧ Hid (∀ j (hj : j < L.length), j < k → inV 16777216 L[j].1 L[j].2.1 L[j].2.2 = true) ∧ Hid (Below w.heap.size w wz))
    (fun _ iv _ => n - (intOf iv).toNat)
  case atStart => exact ⟨w, 0, rfl, Nat.zero_le _, rfl, fun j _ hj => absurd hj (Nat.not_lt_zero _), Below.refl _ _⟩
  case round =>
    obtain ⟨wz, k, rfl, hk, rfl, hall, hbl⟩ := hrel
    by_cases hlt : k < n
    · have hkl : k < L.length := by have h5 : n = L.length := HN.out; omega
      obtain ⟨x, y, z, hL⟩ : ∃ x y z, L[k] = (x, y, z) := ⟨_, _, _, rfl⟩
      obtain rfl := H4.out (by omega)
      have c0 : wz.cell? ⟨b, off + k * 3, none⟩ = some (.int .i64 x) := by
        have := keep1 hbl.out (H5.out k hkl).1
        simpa [hL] using this
      have c1 : wz.cell? ⟨b, off + k * 3 + 1, none⟩ = some (.int .i64 y) := by
        have := keep1 hbl.out (H5.out k hkl).2.1
        simpa [hL] using this
      have c2 : wz.cell? ⟨b, off + k * 3 + 2, none⟩ = some (.int .i64 z) := by
        have := keep1 hbl.out (H5.out k hkl).2.2
        simpa [hL] using this
      have HVk : Hid (∀ w, Calls Try.prog 10 #[vv x y z] w (Ret (.bool (inV 16777216 x y z)) w)) := fun w => HV.out x y z w
      have hR : Hid (inV 16777216 x y z = true → ∀ j (hj : j < L.length), j < k + 1 → inV 16777216 L[j].1 L[j].2.1 L[j].2.2 = true) := by
        intro hs j hj hjk
        rcases Nat.lt_or_ge j k with g | g
        · exact hall.out j hj g
        · obtain rfl : j = k := by omega
          rw [hL]; exact hs
      have hF : Hid (inV 16777216 x y z = false → res = false) := fun hs => HF.out k hkl (by rw [hL]; exact hs)
      have HB2 := Lib.hid (hbl.out.alloc hbl.out.size (.cells #[.int .i64 x, .int .i64 y, .int .i64 z] 23))
      clear hkl hL hall
      by_cases hsz : inV 16777216 x y z = true
      · have HR := Lib.hid (hR.out hsz)
        rw [hsz] at HVk
        clear hR hF hsz
        go_wp2_with fail
        refine (HVk.out _).mono ?_
        rintro e w5 ⟨rfl, b5⟩
        have HB2 := Lib.hid (chain HB2.out b5)
        clear b5
        go_wp2
        go_roundw
        case rel => exact ⟨_, k + 1, rfl, by omega, by go_num, HR.out, HB2⟩
        case measure => simp [intOf]; omega
      · rw [Bool.not_eq_true] at hsz
        have HF := Lib.hid (hF.out hsz)
        rw [hsz] at HVk
        clear hR hF hsz
        go_wp2_with fail
        refine (HVk.out _).mono ?_
        rintro e w5 ⟨rfl, b5⟩
        have HB2 := Lib.hid (chain HB2.out b5)
        clear b5
        go_wp2
        go_ret
        exact ⟨by rw [HF.out]; rfl, HB2.out⟩
    · have HA : Hid (res = true) := HT.out (fun j hj => hall.out j hj (by have h5 : n = L.length := HN.out; omega))
      clear hall
      go_wp2
      go_ret
      exact ⟨by rw [HA.out]; rfl, hbl.out⟩
end Go.Proofs.Ytdicbeaocedkmaa
