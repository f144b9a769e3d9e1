/- PolyDivides gives true for all pairs of polynomials (P2.7), and leaves its arguments as they were. No condition. -/
import Derived.Test.YtepddegphdlbeaaGreatJ2
import Derived.Test.YtepddegphdlbeaaGreatJ1
import Derived.Test.YtepddegphdlbeaaGreatG12
import Derived.Test.YtepddegphdlbeaaGreatG9
import Derived.Test.YtepddegphdlbeaaGreatG8
import Derived.Test.YtepddegphdlbeaaGreatG7
import Derived.Test.YtepddegphdlbeaaGreatG6
import Derived.Test.YtepddegphdlbeaaGreatJ0
import Derived.Test.YtepddegphdlbeaaGreatG4
import Derived.Test.YtepddegphdlbeaaGreatG3
import Derived.Test.YtepddegphdlbeaaGreatG2
import Derived.Test.YtepddegphdlbeaaGreatG1
import Derived.Test.YtepddegphdlbeaaGreatG0
import Derived.Test.YtepddegphdlbeaaGreatProg
import Derived.WalkKit
import Derived.WalkSpells
import Derived.WalkLawsBesides
import Derived.Lib.Hide
import Derived.Deep.QuietTactic
import Derived.BigQuiet
import Derived.Shelf.Small.Bits
import Derived.Shelf.Small.Wraps
import Derived.Shelf.Strconv.Itoa0
import Derived.Shelf.Bits.Mul64
import Derived.Ground.Names2Prog
import Derived.Shelf.Slices.SearchI
import Derived.Shelf.Spec.BitsCarry
import Derived.Deep.LoopGhost
import Derived.Deep.RegionHeld3
import Derived.Deep.DeepCutAuto
import Derived.Test.YtepddegphdlbeaaGreatG5
import Derived.Laws.AppendOwnNone
import Derived.Below
import Derived.Test.YtepddegphdlbeaaGreatG11
import Derived.Test.YtepddegphdlbeaaGreatG10
import Derived.RangeFuncNested
import Derived.RangeFuncBound
import Derived.RangeFuncCalls
import Derived.RangeFuncLeaves
import Derived.Shelf.Abstract
import Derived.Shelf.RegionOpen
import Derived.OwnWalkIn
import Derived.TacticsInMore
import Derived.LoopNIn
import Derived.LoopIn
import Derived.OrdersIn
import Derived.Deep.RegionHeld
import Derived.Maps.AppendAt
import Derived.Lib.SliceRun
import Derived.IntWalk
import Derived.Test.YtepddegphdlbeaaGreatG16
import Derived.Test.YtepddegphdlbeaaGreatG15
import Derived.Test.YtepddegphdlbeaaGreatG13
import Derived.Laws.StructEq
import Derived.Test.YtepddegphdlbeaaGreatG14
import Derived.Test.YtepddegphdlbeaaGreatRows
import Derived.ProofKit
import Derived.OpenShut
import Derived.ShutString
import Derived.ChangeOld
import Derived.Lib.SmallJoins
import Derived.Deep.SlicePairs
set_option maxRecDepth 100000
set_option maxHeartbeats 16000000
set_option linter.all false
namespace Go.Proofs.YtepddegphdlbeaaGreat
open Go.RowKit
theorem k'pb {p : List Int} (h : sml (zl p)) : Pl.mx p < 2 ^ 64 := by
 have h1 : Pl.mx p ≤ 2 ^ 64 - 1 := by
  refine Pl.mx_le fun k hk => ?_
  have h2 := h k (by rw [k'cc]; exact hk)
  have e : (zl p)[k]'(by rw [k'cc]; exact hk) = (zb p[k], zs p[k]) := by simp [zl]
  rw [e] at h2
  have h3 := bvk (k := 8) rfl h2
  rw [bv_zs] at h3
  rw [Pl.cf_lt hk]
  have : (256 : Nat) ^ 8 = 2 ^ 64 := by decide
  omega
 have : 0 < 2 ^ 64 := by decide
 omega
theorem k'pc {p : List Int} (hp : VP p) (g : shP (zl p) = true) : glb (zl p) ≤ 200 := k'id g hp
theorem k'pd {p q : List Int} (hp : VP p) (hq : VP q) (g1 : shP (zl p) = true) (g2 : shP (zl q) = true) (l1 : p.length ≤ 14) (h0 : q ≠ []) : ckd (zl p) (zl q) = 0 := by
 have b1 := k'pc hp g1
 have b2 := k'pc hq g2
 have c2 := k'fb (zl q)
 have hl := List.length_pos_iff.2 h0
 unfold ckd
 rw [hp.ok, hq.ok, show (true && true) = true from rfl, if_pos rfl, k'cc, k'cc, if_neg (by omega), if_neg]
 intro ⟨h1, h2⟩
 have h3 : ((p.length : Int) - (q.length : Int) + 1) * (glb (zl q) + 1) ≤ 15 * (glb (zl q) + 1) := Int.mul_le_mul_of_nonneg_right (by omega) (by omega)
 omega
theorem k'pe {p q : List Int} (hp : VP p) (hq : VP q) (g1 : shP (zl p) = true) (g2 : shP (zl q) = true) (l1 : p.length ≤ 14) (l2 : q.length ≤ 14) : ckg (zl p) (zl q) = 0 := by
 have b1 := k'pc hp g1
 have b2 := k'pc hq g2
 have c1 := k'fb (zl p)
 have c2 := k'fb (zl q)
 unfold ckg
 rw [hp.ok, hq.ok, show (true && true) = true from rfl, if_pos rfl, k'cc, k'cc, if_neg]
 intro ⟨h0, h1, h2⟩
 obtain ⟨a, ha⟩ : ∃ a, a = max ((p.length : Int) - 1) ((q.length : Int) - 1) + 3 := ⟨_, rfl⟩
 obtain ⟨b, hb⟩ : ∃ b, b = max (glb (zl p)) (glb (zl q)) + 8 := ⟨_, rfl⟩
 rw [← ha, ← hb] at h2
 have ha1 : 0 ≤ a ∧ a ≤ 16 := by omega
 have hb1 : 0 ≤ b ∧ b ≤ 208 := by omega
 have h3 : a * a ≤ 16 * 16 := Int.mul_le_mul ha1.2 ha1.2 ha1.1 (by decide)
 have h4 : a * a * b ≤ 16 * 16 * 208 := Int.mul_le_mul h3 hb1.2 hb1.1 (by decide)
 omega
theorem k'pf {L1 L2 : List (Bool × ByteArray)} (h : (vldP L1 && vldP L2) = false) : ckd L1 L2 = 2 := by
 unfold ckd; rw [h]; rfl
theorem k'pg {L1 L2 : List (Bool × ByteArray)} (h : (vldP L1 && vldP L2) = false) : ckg L1 L2 = 2 := by
 unfold ckg; rw [h]; rfl
theorem k'ph {p : List Int} (hp : VP p) (hq : VP []) : ckd (zl p) (zl []) = 3 := by
 unfold ckd
 rw [hp.ok, hq.ok, show (true && true) = true from rfl, if_pos rfl, if_pos (show (zl []).length = 0 from rfl)]
theorem k'pi {p q : List Int} (l1 : p.length ≤ 9) (l2 : q.length ≤ 9) (h1 : Pl.mx p < 2 ^ 64) (h2 : Pl.mx q < 2 ^ 64) : SE p q := by
 have key : ∀ n, 64 ≤ b0 n := fun n => by unfold b0; split <;> omega
 exact ⟨l1, l2, Or.inl ⟨mx_up h1 (key _), mx_up h2 (key _)⟩⟩
theorem k'pj {p q : List Int} (hp : Pl.Nrm p) (hq : Pl.Nrm q) (l1 : p.length ≤ 9) (l2 : q.length ≤ 9) (h1 : Pl.mx p < 2 ^ 64) (h2 : Pl.mx q < 2 ^ 64) : SEk (Pl.prim p) (Pl.prim q) :=
 ⟨k'pi (by rw [Pl.prim_length]; exact l1) (by rw [Pl.prim_length]; exact l2) (Nat.lt_of_le_of_lt (Pl.mx_prim p) h1) (Nat.lt_of_le_of_lt (Pl.mx_prim q) h2), Pl.prim_prim hp, Pl.prim_prim hq, Pl.prim_nrm hp, Pl.prim_nrm hq⟩
theorem k'pk {p q : List Int} {v1 v2 : Value} {w : World} (h1 : Rp w v1 p) (h2 : Rp w v2 q) (hp : VP p) (hq : VP q) (hc : ckg (zl p) (zl q) = 0) (l1 : p.length ≤ 9) (l2 : q.length ≤ 9) (m1 : Pl.mx p < 2 ^ 64) (m2 : Pl.mx q < 2 ^ 64) :
 Calls Tryz.prog 55 #[v1, v2] w (ResP (Pl.gcdP p q) w) :=
 k'jw p q v1 v2 w h1 h2 hp hq hc SEk k'p1 (fun _ => k'pj hp.nrm hq.nrm l1 l2 m1 m2) (fun _ => k'pj hq.nrm hp.nrm l2 l1 m2 m1)
theorem k'pl (q : List Int) (n : Nat) (r a : List Int) (h : Pl.dvs q n r = some a) : ∀ x ∈ a, x.natAbs ≤ Pl.mx r * (1 + Pl.mx q) ^ n := by
 induction n generalizing r a with
 | zero =>
  rw [Pl.dvs] at h
  split at h
  ·cases h; intro x hx; cases hx
  ·cases h
 | succ n ih =>
  rw [Pl.dvs] at h
  split at h
  ·cases hd : Pl.dvs q n (Pl.step 1 (Pl.lead r / Pl.lead q) q r) with
   | none => rw [hd] at h; cases h
   | some a' =>
    rw [hd] at h
    have ha : a' ++ [Pl.lead r / Pl.lead q] = a := by simpa using h
    subst ha
    have hc : (Pl.lead r / Pl.lead q).natAbs ≤ Pl.mx r := Nat.le_trans (Int.natAbs_ediv_le_natAbs _ _) (Pl.mx_cf r _)
    have hs : Pl.mx (Pl.step 1 (Pl.lead r / Pl.lead q) q r) ≤ Pl.mx r * (1 + Pl.mx q) := by
     refine Nat.le_trans (Pl.mx_step _ _ _ _) ?_
     have := Nat.mul_le_mul_right (Pl.mx q) hc
     rw [Nat.mul_add]
     simp only [Int.natAbs_one, Nat.one_mul, Nat.mul_one]
     omega
    intro x hx
    rcases List.mem_append.1 hx with g | g
    ·refine Nat.le_trans (ih _ _ hd x g) ?_
     rw [Nat.pow_succ, Nat.mul_comm ((1 + Pl.mx q) ^ n), ← Nat.mul_assoc]
     exact Nat.mul_le_mul_right _ hs
    ·have : x = Pl.lead r / Pl.lead q := by simpa using g
     subst this
     exact Nat.le_trans hc (Nat.le_mul_of_pos_right _ (Nat.pow_pos (by omega)))
  ·cases h
theorem k'pm {p q a : List Int} (hp : Pl.Nrm p) (hq : Pl.Nrm q) (h0 : q ≠ []) (h : Pl.dvs q (p.length + 1 - q.length) p = some a) : Pl.Nrm a := by
 have hl := List.length_pos_iff.2 h0
 obtain ⟨n, hn⟩ : ∃ n, n = p.length + 1 - q.length := ⟨_, rfl⟩
 rw [← hn] at h
 cases n with
 | zero =>
  rw [Pl.dvs] at h
  split at h
  ·cases h; exact Pl.nrm_nil
  ·cases h
 | succ n =>
  rw [Pl.dvs] at h
  split at h
  case isTrue hm =>
   cases hd : Pl.dvs q n (Pl.step 1 (Pl.lead p / Pl.lead q) q p) with
   | none => rw [hd] at h; cases h
   | some a' =>
    rw [hd] at h
    have ha : a' ++ [Pl.lead p / Pl.lead q] = a := by simpa using h
    subst ha
    have hpl : Pl.lead p ≠ 0 := Pl.lead_ne hp (by intro e; subst e; simp at hn; omega)
    intro hx e
    rw [List.getElem_append_right (by simp)] at e
    simp only [List.length_append, List.length_singleton, Nat.add_sub_cancel, Nat.sub_self, List.getElem_cons_zero] at e
    have h3 := Int.ediv_mul_cancel (Int.dvd_of_emod_eq_zero hm)
    rw [e, Int.zero_mul] at h3
    exact hpl h3.symm
  case isFalse => cases h
theorem k'pn {S : List Int → List Int → Prop} (hS : Pl.Euk S) {G : List Int} (n : Nat) : ∀ p q, q.length ≤ n → Pl.EInv S G p q → ∃ r, Pl.ELast G r ∧ r.length ≤ p.length := by
 induction n with
 | zero => exact fun p q hq h => ⟨p, h.zero hS (by omega), Nat.le_refl _⟩
 | succ n ih =>
  intro p q hq h
  have hlen := h.len
  rcases Nat.lt_trichotomy q.length 1 with g | g | g
  ·exact ⟨p, h.zero hS (by omega), Nat.le_refl _⟩
  ·exact ⟨q, h.one hS g, hlen⟩
  ·have hl := Pl.rest_length (p := p) (q := q) (by omega)
   obtain ⟨r, h1, h2⟩ := ih q (Pl.prim (Pl.rest p q)) (by rw [Pl.prim_length]; omega) (h.step hS g)
   exact ⟨r, h1, Nat.le_trans h2 hlen⟩
theorem k'po {G r : List Int} (h : Pl.ELast G r) : G.length = r.length ∧ ∀ a ∈ G, a.natAbs < Top := by
 rcases Nat.eq_zero_or_pos r.length with h0 | h0
 ·rw [h.nil h0]; exact ⟨rfl, h.top⟩
 ·by_cases hs : Pl.cf r (r.length - 1) < 0
  ·rw [h.neg h0 hs]
   refine ⟨Pl.scl_length _ _, fun a ha => ?_⟩
   obtain ⟨x, hx, rfl⟩ := List.mem_map.1 ha
   have := h.top x hx
   omega
  ·rw [h.pos h0 hs]; exact ⟨rfl, h.top⟩
theorem k'pp {p q : List Int} (hp : Pl.Nrm p) (hq : Pl.Nrm q) (l1 : p.length ≤ 9) (l2 : q.length ≤ 9) (h1 : q.length ≤ p.length → SEk (Pl.prim p) (Pl.prim q)) (h2 : p.length < q.length → SEk (Pl.prim q) (Pl.prim p)) : (Pl.gcdP p q).length ≤ 25 ∧ ∀ a ∈ Pl.gcdP p q, a.natAbs < Top := by
 have hg0 : Pl.gcdP (Pl.prim p) (Pl.prim q) = Pl.gcdP p q := Pl.gcdP_npr (Pl.npr_prim hp) (Pl.npr_prim hq)
 have key : ∃ r, Pl.ELast (Pl.gcdP p q) r ∧ r.length ≤ 9 := by
  rcases Nat.lt_or_ge p.length q.length with g | g
  ·obtain ⟨r, a, b⟩ := k'pn k'p1 (G := Pl.gcdP p q) (Pl.prim p).length (Pl.prim q) (Pl.prim p) (Nat.le_refl _)
    ⟨Pl.prim_nrm hq, Pl.prim_nrm hp, Pl.prim_prim hq, Pl.prim_prim hp, by rw [← Pl.gcdP_swap (Pl.prim_nrm hp) (Pl.prim_nrm hq) (by rw [Pl.prim_length, Pl.prim_length]; exact g)]; exact hg0, by rw [Pl.prim_length, Pl.prim_length]; exact Nat.le_of_lt g, by rw [Pl.prim_length]; omega, h2 g⟩
   exact ⟨r, a, by rw [Pl.prim_length] at b; omega⟩
  ·obtain ⟨r, a, b⟩ := k'pn k'p1 (G := Pl.gcdP p q) (Pl.prim q).length (Pl.prim p) (Pl.prim q) (Nat.le_refl _)
    ⟨Pl.prim_nrm hp, Pl.prim_nrm hq, Pl.prim_prim hp, Pl.prim_prim hq, hg0, by rw [Pl.prim_length, Pl.prim_length]; exact g, by rw [Pl.prim_length]; omega, h1 g⟩
   exact ⟨r, a, by rw [Pl.prim_length] at b; omega⟩
 obtain ⟨r, h3, h4⟩ := key
 obtain ⟨h5, h6⟩ := k'po h3
 exact ⟨by omega, h6⟩
theorem k'pq {z : Int} (h : z.natAbs < Top) : (Nm.dg D9 z.natAbs).length ≤ 1000000 := by
 obtain ⟨k, hk⟩ : ∃ k : Nat, k = 2260 := ⟨_, rfl⟩
 refine Nat.le_trans (len9 (k := k) (Nat.lt_of_lt_of_le h ?_)) (by omega)
 unfold Top
 refine Nat.le_trans (Nat.pow_le_pow_right (by decide) (show TopBits ≤ 29 * k by rw [k'3m]; omega)) ?_
 rw [Nat.pow_mul]
 exact Nat.pow_le_pow_left (by unfold D9; decide) _
theorem k'pr (L1 L2 : List (Bool × ByteArray)) (v1 v2 : Value) (w : World) (h1 : Rw w v1 L1) (h2 : Rw w v2 L2) (z1 : Lim L1) (z2 : Lim L2) :
 Calls Tryz.prog 8 #[v1, v2] w (Ret (.bool true) w) := by
 have HS := fun w' (hb : Below w.heap.size w w') r hr => k'l9 (h1.below hb) (h2.below hb) z1 z2 r hr
 cases hs : (shP L1 && shP L2) with
 | false => exact k'p7 L1 L2 v1 v2 w h1 h2 (fun w' hb => HS w' hb _ hs)
 | true =>
  have hs' := hs
  rw [Bool.and_eq_true] at hs'
  obtain ⟨g1, g2⟩ := hs'
  by_cases c1 : L1.length ≤ 9 ∨ L1.length = 26
  ·by_cases c2 : L2.length ≤ 9 ∨ L2.length = 26
   ·refine k'pa L1 L2 v1 v2 w h1 h2 z1 z2 c1 c2 (fun w' hb => HS w' hb _ hs) (fun m1 m2 => ?_)
    have s1 := k'dt g1
    have s2 := k'dt g2
    have HV := fun w' (hb : Below w.heap.size w w') r hr => k'la (h1.below hb) (h2.below hb) s1 s2 r hr
    cases hv : (vldP L1 && vldP L2) with
    | false =>
     exact Or.inl ⟨fun w' hb => k'fz L1 L2 v1 v2 2 w' (h1.below hb) (h2.below hb) s1 s2 (k'pf hv) (by decide),
      fun w' hb => k'jp L1 L2 v1 v2 2 w' (h1.below hb) (h2.below hb) s1 s2 (k'pf hv) (by decide),
      fun w' hb => k'jv L1 L2 v1 v2 2 w' (h1.below hb) (h2.below hb) s1 s2 (k'pg hv) (by decide), fun w' hb => HV w' hb _ hv⟩
    | true =>
     have hv' := hv
     rw [Bool.and_eq_true] at hv'
     obtain ⟨p, hp, rfl⟩ := VP.of hv'.1
     obtain ⟨q, hq, rfl⟩ := VP.of hv'.2
     have l1 : p.length ≤ 9 := by have := hp.len; rw [k'cc] at c1; omega
     have l2 : q.length ≤ 9 := by have := hq.len; rw [k'cc] at c2; omega
     have x1 := k'pb m1
     have x2 := k'pb m2
     have t1 := k'i5 g1
     have t2 := k'i5 g2
     have hcg := k'pe hp hq g1 g2 (by omega) (by omega)
     obtain ⟨y1, y2⟩ := k'pp hp.nrm hq.nrm l1 l2 (fun _ => k'pj hp.nrm hq.nrm l1 l2 x1 x2) (fun _ => k'pj hq.nrm hp.nrm l2 l1 x2 x1)
     have HC := fun w' (hb : Below w.heap.size w w') => k'pk (h1.below hb) (h2.below hb) hp hq hcg l1 l2 x1 x2
     have HF1 := fun w' (hb : Below w.heap.size w w') => k'dk p v1 w' (h1.below hb) (by omega) hp.top
     have HF2 := fun w' (hb : Below w.heap.size w w') => k'dk q v2 w' (h2.below hb) (by omega) hq.top
     have HG := fun w' a b (ha : RP w' a p) (hb : RP w' b q) => k'os SE k'p3 p q a b w' ha hb (by omega) (by omega) hp.nrm hq.nrm (k'pi l1 l2 x1 x2)
     have HEG := fun w' v x (hv : Rp w' v (Pl.gcdP p q)) (hx : RP w' x (Pl.gcdP p q)) => k'jj _ v x w' hv hx y1 y2 (fun a ha => k'pq (y2 a ha))
     have HO : ∀ (m : Nat), q.length = m → ∀ w' v, RP w' v q → ∃ a c, v = .slice a m c := fun m hm w' v h => by obtain ⟨a, b, o, c, h, -⟩ := h; exact ⟨a, c, by rw [h, hm]⟩
     by_cases h0 : q = []
     ·subst h0
      exact Or.inr (Or.inl ⟨p, [], _, 0, fun w' hb => k'fz (zl p) (zl []) v1 v2 3 w' (h1.below hb) (h2.below hb) s1 s2 (k'ph hp hq) (by decide),
       fun w' hb => k'jp (zl p) (zl []) v1 v2 3 w' (h1.below hb) (h2.below hb) s1 s2 (k'ph hp hq) (by decide), HC, fun w' hb => HV w' hb _ hv, HF1, HF2, HO 0 rfl, rfl, HG, HEG⟩)
     ·have hcd := k'pd hp hq g1 g2 (by omega) h0
      have hl := List.length_pos_iff.2 h0
      have HR := fun w' (hb : Below w.heap.size w w') => k'g0 p q v1 v2 w' (h1.below hb) (h2.below hb) hp hq hcd
      have HD := fun w' (hb : Below w.heap.size w w') => k'jq p q v1 v2 w' (h1.below hb) (h2.below hb) hp hq hcd
      have hab : (16 + 1) * (p.length + 1 - q.length) + 16 ≤ 20000 := by have := Nat.mul_le_mul_left 17 (show p.length + 1 - q.length ≤ 10 by omega); omega
      have HRr := fun w' a b (ha : RP w' a p) (hb : RP w' b q) => k'mt 16 16 p q a b w' ha hb (by omega) (by omega) hp.nrm hq.nrm h0 t1 t2 hab (by decide)
      have HDr := fun w' a b (ha : RP w' a p) (hb : RP w' b q) => k'p6 16 16 p q a b w' ha hb (by omega) (by omega) hp.nrm hq.nrm h0 t1 t2 hab (by decide)
      obtain ⟨K, hK⟩ : ∃ K, K = (16 + 1) * (p.length + 1 - q.length) + 16 := ⟨_, rfl⟩
      have hK2 : K ≤ 2000 := by have := Nat.mul_le_mul_left 17 (show p.length + 1 - q.length ≤ 10 by omega); omega
      have sR : Sz K (Pl.rest p q) := by rw [hK]; exact k'or t1 t2 hl hp.nrm
      have HET := fun w' v x (hv : Rp w' v (Pl.rest p q)) (hx : RP w' x (Pl.rest p q)) => k'jj _ v x w' hv hx (by have := Pl.rest_length (p := p) hl; omega) (sR.top hK2) (sR.len9 hK2)
      cases hd : Pl.dvs q (p.length + 1 - q.length) p with
      | none =>
       rw [hd] at HD HDr
       exact Or.inr (Or.inr (Or.inl ⟨p, q, _, _, q.length, HR, fun w' hb => (HD w' hb).mono fun e w'' h => by
        rcases h with ⟨t, ht, -⟩ | ⟨-, h⟩
        ·cases ht
        ·exact h, HC, fun w' hb => HV w' hb _ hv, HF1, HF2, HO _ rfl, hl, HG, HEG, HRr, HET, fun w' a b ha hb => (HDr w' a b ha hb).mono fun e w'' h => by
        rcases h with ⟨t, v, ht, -⟩ | ⟨-, h⟩
        ·cases ht
        ·exact h⟩))
      | some t =>
       rw [hd] at HD HDr
       have hn := k'pm hp.nrm hq.nrm h0 hd
       have ht := Pl.dvs_length q _ p t hd
       obtain ⟨c, hc⟩ : ∃ c : Nat, c = 10 := ⟨_, rfl⟩
       have hm : ∀ a ∈ t, a.natAbs < Top := fun a ha => by
        refine Nat.lt_of_le_of_lt (k'pl q _ p t hd a ha) (Nat.lt_of_lt_of_le (m := 2 ^ 64 * (2 ^ 65) ^ c) ?_ ?_)
        ·refine Nat.mul_lt_mul_of_lt_of_le x1 (Nat.le_trans (Nat.pow_le_pow_left (show 1 + Pl.mx q ≤ 2 ^ 65 by omega) _) (Nat.pow_le_pow_right (by decide) (by omega))) (Nat.pow_pos (by decide))
        ·rw [← Nat.pow_mul, ← Nat.pow_add]; exact k'j4 (by omega)
       have HB : ∀ w', Below w.heap.size w w' → Calls Tryz.prog 54 #[v1, v2] w' (ResP t w') := fun w' hb => (HD w' hb).mono fun e w'' h => by
        rcases h with ⟨t', ht', h⟩ | ⟨h, -⟩
        ·cases ht'; exact h
        ·cases h
       refine Or.inr (Or.inr (Or.inr ⟨p, q, _, _, t, q.length, HR, HB, HC, fun w' hb => HV w' hb _ hv, HF1, HF2, HO _ rfl, hl, HG, HEG, HRr, HET, fun w' a b ha hb => (HDr w' a b ha hb).mono fun e w'' h => ?_, fun w' v x hv hx => k'jj _ v x w' hv hx (by omega) hm (fun a ha => k'pq (hm a ha))⟩))
       rcases h with ⟨t', v, ht', h1, h2, h3⟩ | ⟨h, -⟩
       ·cases ht'; rw [Pl.trim_nrm hn] at h2; exact ⟨v, h1, h2, h3⟩
       ·cases h
   ·exact k'p9 L1 L2 v1 v2 w h1 h2 c1 (by omega) (fun w' hb => HS w' hb _ hs)
  ·exact k'p8 L1 L2 v1 v2 w h1 h2 (by omega) (fun w' hb => HS w' hb _ hs)
end Go.Proofs.YtepddegphdlbeaaGreat
namespace Go.Proofs.YtepddegphdlbeaaGreat
open Go.ChangeShapes Go.WideShapes Go.ChangeAt Go.RowKit Go.Joins
open Go.ChangeMaps (open_string shut_string)
theorem k'ps (os : Os) (started : os.Started) (H : Type) (enc : TypeId × Value → H) :
 ReturnsInHanded {} Tryz.checked os 8 .any (Rows.polyDividesSpec.pre6 enc Tryz.prog Tryz.f8 Rows.polyDividesRow.domain false) (Rows.polyDividesSpec.post enc Tryz.prog Tryz.f8 false true false false) := by
 refine returnsInHanded_of_change (C := Tryz.checked) Tryz.own started (by kernel_rfl) Tryz.func8
  (ChangeSpec.witness6 (enc := enc) (C := Tryz.checked) false ⟨#[], #[.slice none 0 0, .slice none 0 0], []⟩ 8 (by kernel_rfl) (by kernel_rfl) (by kernel_rfl) (by kernel_rfl)) ?_
 intro W base args ds gs before hval0 hW hcnd _
 have hval : ∀ (j : Nat) t v, Tryz.f8.params[j]? = some t → args[j]? = some v → Value.okWide Tryz.prog W .any base t v := hval0
 have hW' := hW
 obtain ⟨p, q, hA0, hV, rfl, hfz, hnd⟩ := hW
 have hA : DataW.TrodAll enc Tryz.prog W 0 (fun _ => true) true Tryz.f8.params.toList args.toList ds p := hA0
 rw [Tryz.params8] at hA hval
 obtain ⟨v0, v1, d0, d1, p0, p1, rfl, rfl, rfl, h0, h1⟩ := trodAll_two hA
 obtain ⟨rfl, rfl⟩ := trodVars_none hV
 obtain ⟨L0, r0, z0, t0⟩ := k'm9 (hval 0 23 v0 rfl rfl) h0
 obtain ⟨L1, r1, z1, t1⟩ := k'm9 (hval 1 23 v1 rfl rfl) h1
 clear hA0 hval0
 refine (k'pr L0 L1 v0 v1 W r0 r1 z0 z1).mono fun e W' ⟨he, bel⟩ => ?_
 subst he
 exact ⟨_, rfl, _, _, _, [], _, [], hW', trodAll_mk1 (shut_bool Tryz.underlying4 _), trodAll_mk2 (t0 W' bel) (t1 W' bel), rfl, bel.frame _, fun h => by cases h⟩
theorem pdivides_holds : Rows.PolyDividesSaid :=
 OpenClaim.holds_of_wide 8 Tryz.f8 rfl rfl rfl rfl rfl rfl rfl ⟨rfl, rfl, rfl, rfl, rfl⟩ rfl rfl rfl rfl rfl (by kernel_rfl) Tryz.func8 (by kernel_rfl)
  (of_decide_eq_true (by kernel_rfl)) (by unfold Func.isWrapper; first | (rw [if_pos (by decide +kernel)]; kernel_rfl) | (rw [if_neg (by decide +kernel)]; exact ⟨rfl, rfl⟩))
  (fun os started H enc _ => k'ps os started H enc)
end Go.Proofs.YtepddegphdlbeaaGreat
