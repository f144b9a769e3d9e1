/- HullMerges gives true for all two lists of vectors (P7.5), and leaves its arguments as they were. No condition. -/
import Derived.Test.YtbhdejlikipahaaZ7
import Derived.Test.YtbhdejlikipahaaZ9
import Derived.Laws.AppendOwn
import Derived.Test.YtbhdejlikipahaaRows

/- A list that turns left all round is its own hull, and a hull is the only one. Plain facts. -/
set_option linter.all false
namespace Go.Proofs.Ytbhdejlikipahaa.Hl

/-- From the least point, turns to the left carry on. -/
theorem fan {o a b c : P2} (ha : lt o a) (hb : lt o b) (hc : lt o c) (h1 : 0 < tn o a b) (h2 : 0 < tn o b c) : 0 < tn o a c := by
  obtain ⟨u, hu⟩ : ∃ u : P2, u = (a.1 - o.1, a.2 - o.2) := ⟨_, rfl⟩
  obtain ⟨v, hv⟩ : ∃ v : P2, v = (b.1 - o.1, b.2 - o.2) := ⟨_, rfl⟩
  obtain ⟨x, hx⟩ : ∃ x : P2, x = (c.1 - o.1, c.2 - o.2) := ⟨_, rfl⟩
  have g1 : 0 < u.1 * v.2 - u.2 * v.1 := by subst hu hv; exact h1
  have g2 : 0 < v.1 * x.2 - v.2 * x.1 := by subst hv hx; exact h2
  have g3 : tn o a c = u.1 * x.2 - u.2 * x.1 := by subst hu hx; rfl
  have p1 : 0 < u.1 ∨ (u.1 = 0 ∧ 0 < u.2) := by subst hu; unfold lt at ha; simp only; omega
  have p2 : 0 < v.1 ∨ (v.1 = 0 ∧ 0 < v.2) := by subst hv; unfold lt at hb; simp only; omega
  have p3 : 0 < x.1 ∨ (x.1 = 0 ∧ 0 < x.2) := by subst hx; unfold lt at hc; simp only; omega
  rw [g3]
  have id1 : (u.1 * x.2 - u.2 * x.1) * v.1 = (u.1 * v.2 - u.2 * v.1) * x.1 + (v.1 * x.2 - v.2 * x.1) * u.1 := by grind
  rcases p2 with p2 | ⟨p2, p2'⟩
  · rcases p1 with p1 | ⟨p1, p1'⟩
    · have m1 := Int.mul_pos g2 p1
      have m2 : 0 ≤ (u.1 * v.2 - u.2 * v.1) * x.1 := Int.mul_nonneg (by omega) (by omega)
      exact Int.pos_of_mul_pos_left (by omega : 0 < (u.1 * x.2 - u.2 * x.1) * v.1) p2
    · rw [p1] at g1
      have := Int.mul_pos p1' p2
      omega
  · rw [p2] at g2
    rcases p3 with p3 | ⟨p3, p3'⟩
    · have := Int.mul_pos p2' p3
      omega
    · rw [p3] at g2; omega
theorem lift1 {o a k q l : P2} (h1 : 0 < tn o l k) (h2 : 0 < tn a l k) (h3 : 0 < tn o k q) (h4 : 0 < tn o a k) (h5 : 0 < tn l k q) : 0 < tn a k q := by
  have id1 : tn o l k * tn a k q = tn a l k * tn o k q + tn o a k * tn l k q := by unfold tn; grind
  have m1 := Int.mul_pos h2 h3
  have m2 := Int.mul_pos h4 h5
  exact Int.pos_of_mul_pos_right (by omega : 0 < tn o l k * tn a k q) h1
theorem lift2 {o a b k q : P2} (h1 : 0 < tn o b k) (h2 : 0 < tn o b q) (h3 : 0 < tn a b k) (h4 : 0 < tn b k q) (h5 : 0 < tn o a b) : 0 < tn a b q := by
  have id1 : tn o b k * tn a b q = tn o b q * tn a b k + tn b k q * tn o a b := by unfold tn; grind
  have m1 := Int.mul_pos h2 h3
  have m2 := Int.mul_pos h4 h5
  exact Int.pos_of_mul_pos_right (by omega : 0 < tn o b k * tn a b q) h1
/-- Turns to the left one after another, and seen from the least one: so all of them. -/
theorem triples {P : Nat → P2} {n : Nat} (h0 : ∀ k, 0 < k → k < n → lt (P 0) (P k)) (h1 : ∀ k, 0 < k → k + 1 < n → 0 < tn (P 0) (P k) (P (k + 1))) (h2 : ∀ k, k + 2 < n → 0 < tn (P k) (P (k + 1)) (P (k + 2))) :
    ∀ m, m < n → ∀ a b c, a < b → b < c → c ≤ m → 0 < tn (P a) (P b) (P c) := by
  have hf : ∀ d j, 0 < j → j + d + 1 < n → 0 < tn (P 0) (P j) (P (j + d + 1)) := by
    intro d
    induction d with
    | zero => intro j hj hn; exact h1 j hj hn
    | succ d ih =>
      intro j hj hn
      exact fan (h0 _ hj (by omega)) (h0 _ (by omega) (by omega)) (h0 _ (by omega) (by omega)) (ih j hj (by omega)) (h1 (j + d + 1) (by omega) (by omega))
  have hf2 : ∀ j k, 0 < j → j < k → k < n → 0 < tn (P 0) (P j) (P k) := by
    intro j k hj hk hn
    have := hf (k - j - 1) j hj (by omega)
    rwa [show j + (k - j - 1) + 1 = k by omega] at this
  intro m
  induction m with
  | zero => intro _ a b c _ _ _; omega
  | succ k ih =>
    intro hm a b c hab hbc hc
    have ih := ih (by omega)
    rcases Nat.lt_or_ge c (k + 1) with g | g
    · exact ih a b c hab hbc (by omega)
    · obtain rfl : c = k + 1 := by omega
      have last : ∀ a, a < k → 0 < tn (P a) (P k) (P (k + 1)) := by
        intro a ha
        rcases Nat.eq_zero_or_pos a with rfl | ha0
        · exact hf2 k (k + 1) (by omega) (by omega) (by omega)
        · rcases Nat.lt_or_ge (a + 1) k with g | g
          · have hl := h2 (k - 1) (by omega)
            rw [show k - 1 + 1 = k by omega, show k - 1 + 2 = k + 1 by omega] at hl
            exact lift1 (o := P 0) (l := P (k - 1)) (ih 0 (k - 1) k (by omega) (by omega) (by omega)) (ih a (k - 1) k (by omega) (by omega) (by omega)) (hf2 k (k + 1) (by omega) (by omega) (by omega)) (ih 0 a k ha0 (by omega) (by omega)) hl
          · have hl := h2 a (by omega)
            obtain rfl : k = a + 1 := by omega
            exact hl
      rcases Nat.lt_or_ge b k with g2 | g2
      · rcases Nat.eq_zero_or_pos a with rfl | ha0
        · exact hf2 b (k + 1) (by omega) (by omega) (by omega)
        · exact lift2 (o := P 0) (k := P k) (ih 0 b k (by omega) g2 (by omega)) (hf2 b (k + 1) (by omega) (by omega) (by omega)) (ih a b k hab g2 (by omega)) (last b g2) (ih 0 a b ha0 hab (by omega))
      · obtain rfl : b = k := by omega
        exact last a hab
/-- A list that turns left all round is its own hull. -/
theorem isH_self {h : List P2} (hp : 0 < h.length) (h0 : ∀ k (hk : k < h.length), 0 < k → lt h[0] h[k])
    (hr : 3 ≤ h.length → (∀ k (hk : k + 2 < h.length), 0 < tn h[k] h[k + 1] h[k + 2]) ∧ (∀ k (hk : k + 1 < h.length), 0 < k → 0 < tn h[0] h[k] h[k + 1])) : IsH h h := by
  have hd : ∀ k (hk : k < h.length), h.getD k (0, 0) = h[k] := fun k hk => by rw [List.getD_eq_getElem?_getD, List.getElem?_eq_getElem hk]; rfl
  have hT : 3 ≤ h.length → ∀ a b c (ha : a < b) (hb : b < c) (hc : c < h.length), 0 < tn h[a] h[b] h[c] := by
    intro hl a b c ha hb hc
    have := triples (P := fun k => h.getD k (0, 0)) (n := h.length) (fun k k0 hk => by rw [hd 0 hp, hd k hk]; exact h0 k hk k0) (fun k k0 hk => by rw [hd 0 hp, hd k (by omega), hd _ hk]; exact (hr hl).2 k hk k0)
      (fun k hk => by rw [hd k (by omega), hd (k + 1) (by omega), hd (k + 2) hk]; exact (hr hl).1 k hk) (h.length - 1) (by omega) a b c ha hb (by omega)
    rwa [hd a (by omega), hd b (by omega), hd c hc] at this
  have hmem : ∀ p ∈ h, ∃ k, ∃ hk : k < h.length, h[k] = p := fun p hp => List.mem_iff_getElem.1 hp
  have hturn : 3 ≤ h.length → ∀ i (hi : i + 1 < h.length), ∀ k (hk : k < h.length), k ≠ i → k ≠ i + 1 → 0 < tn h[i] h[i + 1] h[k] := by
    intro hl i hi k hk e1 e2
    rcases Nat.lt_or_ge k i with g | g
    · rw [← tn_rot, ← tn_rot]
      have := hT hl k i (i + 1) g (by omega) hi
      rw [← tn_rot, ← tn_rot, ← tn_rot]
      first | exact this | (rw [tn_rot, tn_rot]; exact this) | (rw [tn_rot]; exact this)
    · exact hT hl i (i + 1) k (by omega) (by omega) hk
  have hturn0 : 3 ≤ h.length → ∀ k (hk : k < h.length), k ≠ h.length - 1 → k ≠ 0 → 0 < tn h[h.length - 1] h[0] h[k] := by
    intro hl k hk e1 e2
    have := hT hl 0 k (h.length - 1) (by omega) (by omega) (by omega)
    rw [← tn_rot] 
    first | exact this | (rw [← tn_rot]; exact this)
  refine ⟨fun p hp => hp, hp, fun p hq => ?_, fun e p hq => ?_, fun e p hq => ?_, fun e => ?_, fun hl p hq i hi => ?_, fun hl p hq => ?_, hturn, hturn0⟩
  · obtain ⟨k, hk, rfl⟩ := hmem p hq
    rcases Nat.eq_zero_or_pos k with rfl | k0
    · exact .inl rfl
    · exact .inr (h0 k hk k0)
  · obtain ⟨k, hk, rfl⟩ := hmem p hq
    obtain rfl : k = 0 := by omega
    rfl
  · obtain ⟨k, hk, rfl⟩ := hmem p hq
    rcases (by omega : k = 0 ∨ k = 1) with rfl | rfl
    · exact ⟨tn_aba _ _, by omega, by omega, by omega, by omega⟩
    · exact ⟨tn_abb _ _, by omega, by omega, by omega, by omega⟩
  · intro e'
    have := h0 1 (by omega) (by omega)
    rw [← e'] at this
    exact lt_irrefl _ this
  · obtain ⟨k, hk, rfl⟩ := hmem p hq
    by_cases e1 : k = i
    · subst e1; rw [tn_aba]; omega
    · by_cases e2 : k = i + 1
      · subst e2; rw [tn_abb]; omega
      · have := hturn hl i hi k hk e1 e2; omega
  · obtain ⟨k, hk, rfl⟩ := hmem p hq
    by_cases e1 : k = h.length - 1
    · subst e1; rw [tn_aba]; omega
    · by_cases e2 : k = 0
      · subst e2; rw [tn_abb]; omega
      · have := hturn0 hl k hk e1 e2; omega
/-- There is one hull. -/
theorem IsH.unique {S h g : List P2} (H : IsH S h) (G : IsH S g) : h = g := by
  have hm : ∀ p, p ∈ h ↔ p ∈ g := fun p => (H.mem_iff p).symm.trans (G.mem_iff p)
  have hl : h.length = g.length := same_length H.nodup G.nodup hm
  refine List.ext_getElem hl ?_
  intro i
  induction i with
  | zero =>
    intro h1 h2
    rcases H.first _ (G.sub _ (List.getElem_mem h2)) with e | e
    · exact e.symm
    · rcases G.first _ (H.sub _ (List.getElem_mem h1)) with e' | e'
      · exact e'
      · exact absurd (lt_trans e e') (lt_irrefl _)
  | succ j ih =>
    intro h1 h2
    have e := ih (by omega) (by omega)
    obtain ⟨n1, n2⟩ := H.next h1
    refine G.only h2 ((hm _).1 (List.getElem_mem h1)) (by rw [← e]; exact n1) (fun c hc => ?_)
    rw [← e]
    exact n2 c ((hm c).2 hc)
end Go.Proofs.Ytbhdejlikipahaa.Hl

/- Which lists are hulls; the reference's Valid. -/
set_option linter.all false
namespace Go.Proofs.Ytbhdejlikipahaa
open Go.RowKit Go.Sort

theorem t3_pl (a b c : T3) : t3 a b c = 1 ↔ 0 < Hl.tn (pl a) (pl b) (pl c) := by
  show cmpI (Hl.tn (pl a) (pl b) (pl c)) 0 = 1 ↔ _
  unfold cmpI
  split <;> (try split) <;> omega
theorem c3_neg (a b : T3) : c3 a b < 0 ↔ L3 a b := by
  have := c3_lt a b
  unfold ltOf at this
  rw [decide_eq_true_eq] at this
  exact this
theorem fl_pl {L : List T3} (h : ∀ a ∈ L, a.2.2 = 0) : fl (L.map pl) = L := by
  unfold fl
  rw [List.map_map]
  refine (List.map_congr_left ?_).trans (List.map_id L)
  intro a ha
  have := h a ha
  show (a.1, a.2.1, (0 : Int)) = a
  rw [← this]
theorem pl_fl (H : List Hl.P2) : (fl H).map pl = H := by
  unfold fl
  rw [List.map_map]
  exact (List.map_congr_left (fun a _ => rfl)).trans (List.map_id H)
/-- What goes round once is its own hull. -/
theorem vh_isH {L : List T3} (h : VH L) : Hl.IsH (L.map pl) (L.map pl) := by
  obtain ⟨h1, h2, h3, h4, h5, h6⟩ := h
  refine Hl.isH_self (by rw [List.length_map]; exact h1) (fun k hk k0 => ?_) (fun hl => ?_)
  · rw [List.length_map] at hk
    have := (c3_neg _ _).1 (h5 k hk k0)
    have z1 := h4 _ (List.getElem_mem h1)
    have z2 := h4 _ (List.getElem_mem hk)
    simp only [List.getElem_map]
    unfold L3 at this
    unfold Hl.lt pl
    simp only
    omega
  · rw [List.length_map] at hl
    have hr := h6.resolve_left (by omega)
    refine ⟨fun k hk => ?_, fun k hk k0 => ?_⟩
    · rw [List.length_map] at hk
      have := hr.1 k (by omega)
      simp only [Nat.mod_eq_of_lt (show k + 1 < L.length by omega), Nat.mod_eq_of_lt (show k + 1 + 1 < L.length by omega)] at this
      simp only [List.getElem_map]
      exact (t3_pl _ _ _).1 this
    · rw [List.length_map] at hk
      simp only [List.getElem_map]
      exact (t3_pl _ _ _).1 (hr.2 k hk k0)
theorem isH_vh {L : List T3} {H : List Hl.P2} (hL : fl H = L) (hH : Hl.IsH H H) (h2 : L.length ≤ 10000) (h3 : inL 1048576 L = true) : VH L := by
  subst hL
  have hl : (fl H).length = H.length := fl_length H
  refine ⟨by rw [hl]; exact hH.pos, h2, h3, ?_, ?_, ?_⟩
  · intro a ha
    obtain ⟨b, _, rfl⟩ := List.mem_map.1 ha
    rfl
  · intro k hk k0
    rw [c3_neg]
    have hk2 : k < H.length := by omega
    rw [fl_get H 0 hH.pos, fl_get H k hk2]
    have hlt : Hl.lt H[0] H[k] := by
      rcases hH.first _ (List.getElem_mem hk2) with e | e
      · exact absurd e.symm (hH.ne hk2 k0)
      · exact e
    unfold Hl.lt at hlt
    unfold L3
    simp only
    omega
  · by_cases h : H.length ≤ 2
    · left; omega
    · right
      have hl3 : 3 ≤ H.length := by omega
      refine ⟨fun k hk => ?_, fun k hk k0 => ?_⟩
      · rw [t3_pl]
        have hk2 : k < H.length := by omega
        have m1 : (k + 1) % (fl H).length < H.length := by rw [← hl]; exact Nat.mod_lt _ (by omega)
        have m2 : (k + 1 + 1) % (fl H).length < H.length := by rw [← hl]; exact Nat.mod_lt _ (by omega)
        rw [fl_get H k hk2, fl_get H _ m1, fl_get H _ m2]
        show 0 < Hl.tn H[k] (H[(k + 1) % (fl H).length]) (H[(k + 1 + 1) % (fl H).length])
        simp only [hl]
        rcases (by omega : k + 2 < H.length ∨ k + 2 = H.length ∨ k + 1 = H.length) with g | g | g
        · simp only [Nat.mod_eq_of_lt (show k + 1 < H.length by omega), Nat.mod_eq_of_lt (show k + 1 + 1 < H.length by omega)]
          exact hH.turn hl3 k (by omega) (k + 1 + 1) (by omega) (by omega) (by omega)
        · simp only [Nat.mod_eq_of_lt (show k + 1 < H.length by omega), show (k + 1 + 1) % H.length = 0 by rw [show k + 1 + 1 = H.length by omega]; exact Nat.mod_self _]
          exact hH.turn hl3 k (by omega) 0 (by omega) (by omega) (by omega)
        · have e1 : (k + 1) % H.length = 0 := by rw [g]; exact Nat.mod_self _
          have e2 : (k + 1 + 1) % H.length = 1 := by rw [g, Nat.add_mod_left]; exact Nat.mod_eq_of_lt (by omega)
          simp only [e1, e2]
          have := hH.turn0 hl3 1 (by omega) (by omega) (by omega)
          simp only [show H.length - 1 = k by omega] at this
          exact this
      · rw [t3_pl]
        have hk2 : k + 1 < H.length := by omega
        rw [fl_get H 0 hH.pos, fl_get H k (by omega), fl_get H _ hk2]
        show 0 < Hl.tn H[0] H[k] H[k + 1]
        rw [← Hl.tn_rot]
        exact hH.turn hl3 k hk2 0 hH.pos (by omega) (by omega)
/-- The hulls are the lists that are the hull of their own points. -/
theorem vh_iff {L : List T3} {H : List Hl.P2} (hH : Hl.IsH (L.map pl) H) (h2 : L.length ≤ 10000) (h3 : inL 1048576 L = true) : fl H = L ↔ VH L := by
  constructor
  · intro e
    refine isH_vh e ?_ h2 h3
    rw [← e, pl_fl] at hH
    exact hH
  · intro h
    rw [hH.unique (vh_isH h)]
    exact fl_pl h.2.2.2.1
noncomputable instance (L : List T3) : Decidable (VH L) := Classical.propDecidable _

/-! The reference's Valid. -/
set_option maxRecDepth 100000 in
set_option maxHeartbeats 4000000 in
theorem rvalid_0 (p : Option Addr) (n cap : Nat) (w : World) (h0 : ¬ (0 : Int) < (n : Int) ∨ ¬ (n : Int) ≤ 10000) :
    Calls Try.prog 15 #[.slice p n cap] w (Ret (.bool false) w) := by
  have E := Lib.hid (Below.refl w.heap.size w)
  by_cases h1 : (0 : Int) < (n : Int)
  · have h2 : ¬ (n : Int) ≤ 10000 := h0.resolve_left (fun h => h h1)
    clear h0
    go_enter Try.func15, Try.ntmps15
    go_wp2
    go_ret
    exact ⟨rfl, E.out⟩
  · clear h0
    go_enter Try.func15, Try.ntmps15
    go_wp2
    go_ret
    exact ⟨rfl, E.out⟩
set_option maxRecDepth 100000 in
set_option maxHeartbeats 4000000 in
theorem rvalid_1 (p : Option Addr) (n cap : Nat) (w : World) (h0 : (0 : Int) < (n : Int)) (h1 : (n : Int) ≤ 10000)
    (HP : ∀ w', Below w.heap.size w w' → Calls Try.prog 12 #[.slice p n cap] w' (Ret (.bool false) w')) :
    Calls Try.prog 15 #[.slice p n cap] w (Ret (.bool false) w) := by
  have E := Lib.hid (Below.refl w.heap.size w)
  have HP := Lib.hid HP
  go_enter Try.func15, Try.ntmps15
  go_wp2_with fail
  refine (HP.out _ E.out).mono ?_
  rintro e y ⟨rfl, b⟩
  have E := Lib.hid (chain E.out b)
  clear b
  go_wp2
  go_ret
  exact ⟨rfl, E.out⟩
set_option maxRecDepth 100000 in
set_option maxHeartbeats 4000000 in
theorem rvalid_2 (p : Option Addr) (n cap : Nat) (w : World) (res : Bool) (X : World → Value → Prop) (h0 : (0 : Int) < (n : Int)) (h1 : (n : Int) ≤ 10000)
    (HP : ∀ w', Below w.heap.size w w' → Calls Try.prog 12 #[.slice p n cap] w' (Ret (.bool true) w'))
    (HH : ∀ w', Below w.heap.size w w' → Calls Try.prog 13 #[.slice p n cap] w' (fun e w2 => ∃ vo, e = .returned vo ∧ X w2 vo ∧ Below w'.heap.size w' w2))
    (HS : ∀ w' vo, Below w.heap.size w w' → X w' vo → Calls Try.prog 11 #[vo, .slice p n cap] w' (Ret (.bool res) w')) :
    Calls Try.prog 15 #[.slice p n cap] w (Ret (.bool res) w) := by
  have E := Lib.hid (Below.refl w.heap.size w)
  have HP := Lib.hid HP
  have HH := Lib.hid HH
  have HS := Lib.hid HS
  go_enter Try.func15, Try.ntmps15
  go_wp2_with fail
  refine (HP.out _ E.out).mono ?_
  rintro e y ⟨rfl, b⟩
  have E := Lib.hid (chain E.out b)
  clear b
  go_wp2_with fail
  refine (HH.out _ E.out).mono ?_
  rintro e y1 ⟨vo, rfl, hx, b⟩
  have HX := Lib.hid hx
  have E := Lib.hid (chain E.out b)
  clear b hx
  go_wp2_with fail
  refine (HS.out _ _ E.out HX.out).mono ?_
  rintro e y2 ⟨rfl, b⟩
  have E := Lib.hid (chain E.out b)
  clear b
  go_wp2
  go_ret
  exact ⟨rfl, E.out⟩
/-- The reference's Valid is Valid. -/
theorem rValidH_any (L : List T3) (v : Value) (w : World) (h : Rv w v L) : Calls Try.prog 15 #[v] w (Ret (.bool (decide (VH L))) w) := by
  obtain ⟨p, b, off, cap, rfl, -⟩ := id h
  by_cases h1 : 0 < L.length
  · by_cases h2 : L.length ≤ 10000
    · by_cases h3 : inL 1048576 L = true
      · obtain ⟨H, -, hH⟩ := corners_hull L h1
        have hb : ∀ a ∈ L.map (fun a => (a.1, a.2.1)), inV 16777216 a.1 a.2 0 = true := by
          intro a ha
          obtain ⟨b, hb, rfl⟩ := List.mem_map.1 ha
          have := inV_iff.1 (inL_mem h3 b hb)
          exact inV_iff.2 ⟨by show _ ≤ b.1 ∧ b.1 ≤ _; omega, by show _ ≤ b.2.1 ∧ b.2.1 ≤ _; omega, by omega⟩
        have e : decide (VH L) = decide (fl H = L) := by
          by_cases g : fl H = L
          · rw [decide_eq_true g, decide_eq_true ((vh_iff hH h2 h3).1 g)]
          · rw [decide_eq_false g, decide_eq_false (fun k => g ((vh_iff hH h2 h3).2 k))]
        rw [e]
        refine rvalid_2 p L.length cap w _ (fun w' vo => Rv w' vo (fl H) ∧ Rv w' (.slice p L.length cap) L) (by omega) (by omega) (fun w' b => ?_) (fun w' b => ?_) (fun w' vo b hx => Same_any _ _ _ _ _ hx.1 hx.2)
        · have := Points_any L _ w' (h.below b)
          rwa [h3] at this
        · refine (refHull_walk L _ w' _ H rfl hH (h.below b) (by omega) hb).mono ?_
          rintro e w2 ⟨vo, rfl, hr, b2⟩
          exact ⟨vo, rfl, ⟨hr.rv, (h.below b).below b2⟩, b2⟩
      · rw [decide_eq_false (fun k : VH L => h3 k.2.2.1)]
        refine rvalid_1 p L.length cap w (by omega) (by omega) (fun w' b => ?_)
        have := Points_any L _ w' (h.below b)
        rwa [Bool.eq_false_iff.2 h3] at this
    · rw [decide_eq_false (fun k : VH L => h2 k.2.1)]
      exact rvalid_0 p L.length cap w (.inr (by omega))
  · rw [decide_eq_false (fun k : VH L => h1 k.1)]
    exact rvalid_0 p L.length cap w (.inl (by omega))
theorem Valid_anyH (L : List T3) (v : Value) (w : World) (h : Rv w v L) : Calls Try.prog 16 #[v] w (Ret (.bool (decide (VH L))) w) := by
  by_cases k : VH L
  · rw [decide_eq_true k]; exact valid_yes L v w h k
  · rw [decide_eq_false k]; exact valid_no L v w h k
end Go.Proofs.Ytbhdejlikipahaa

/- HullMerges: the walk over what its calls give. -/
set_option linter.all false
namespace Go.Proofs.Ytbhdejlikipahaa
open Go.RowKit

set_option maxRecDepth 100000 in
set_option maxHeartbeats 8000000 in
theorem merges_long1 (L M : List T3) (v u : Value) (w : World) (ha : Rv w v L) (hb : Rv w u M) (h : 7 < L.length) :
    Calls Try.prog 6 #[v, u] w (Ret (.bool true) w) := by
  have E := Lib.hid (Below.refl w.heap.size w)
  obtain ⟨pa, ba, offa, capa, rfl, -⟩ := ha
  obtain ⟨pb, bb, offb, capb, rfl, -⟩ := hb
  have i0 : (7 : Int) < (L.length : Int) := by omega
  go_enter Try.func6, Try.ntmps6
  go_wp2_with fail
  refine (known_true _).mono ?_
  rintro e y1 ⟨rfl, b⟩
  have E := Lib.hid (chain E.out b)
  clear b
  go_wp2
  go_ret
  exact ⟨rfl, E.out⟩

set_option maxRecDepth 100000 in
set_option maxHeartbeats 8000000 in
theorem merges_long2 (L M : List T3) (v u : Value) (w : World) (ha : Rv w v L) (hb : Rv w u M) (h0 : ¬ 7 < L.length) (h : 7 < M.length) :
    Calls Try.prog 6 #[v, u] w (Ret (.bool true) w) := by
  have E := Lib.hid (Below.refl w.heap.size w)
  obtain ⟨pa, ba, offa, capa, rfl, -⟩ := ha
  obtain ⟨pb, bb, offb, capb, rfl, -⟩ := hb
  have i0 : ¬ (7 : Int) < (L.length : Int) := by omega
  have i1 : (7 : Int) < (M.length : Int) := by omega
  go_enter Try.func6, Try.ntmps6
  go_wp2_with fail
  refine (known_true _).mono ?_
  rintro e y1 ⟨rfl, b⟩
  have E := Lib.hid (chain E.out b)
  clear b
  go_wp2
  go_ret
  exact ⟨rfl, E.out⟩

set_option maxRecDepth 100000 in
set_option maxHeartbeats 8000000 in
theorem merges_bad1 (L M : List T3) (v u : Value) (w : World) (ha : Rv w v L) (hb : Rv w u M) (hL : L.length ≤ 7) (hM : M.length ≤ 7) (h : ¬ VH L) :
    Calls Try.prog 6 #[v, u] w (Ret (.bool true) w) := by
  have E := Lib.hid (Below.refl w.heap.size w)
  have RA := Lib.hid ha
  have RB := Lib.hid hb
  clear ha hb
  have H := Lib.hid h
  clear h
  obtain ⟨pa, ba, offa, capa, rfl, -⟩ := id RA.out
  obtain ⟨pb, bb, offb, capb, rfl, -⟩ := id RB.out
  obtain ⟨n, hn⟩ : ∃ n, n = L.length := ⟨_, rfl⟩
  obtain ⟨m, hm⟩ : ∃ m, m = M.length := ⟨_, rfl⟩
  rw [← hn] at RA hL ⊢
  rw [← hm] at RB hM ⊢
  have i0 : ¬ (7 : Int) < (n : Int) := by omega
  have i1 : ¬ (7 : Int) < (m : Int) := by omega
  clear hn hm hL hM
  go_enter Try.func6, Try.ntmps6
  go_wp2_with fail
  refine (Merge_bad L M _ _ _ RA.out RB.out (fun k => H.out k.1)).mono ?_
  rintro e y1 ⟨rfl, b⟩
  have RA := Lib.hid (RA.out.below b)
  have RB := Lib.hid (RB.out.below b)
  have E := Lib.hid (chain E.out b)
  clear b
  go_wp2_with fail
  refine ((show Calls Try.prog 15 _ _ (Ret (.bool false) _) from by have := rValidH_any L _ _ RA.out; rwa [decide_eq_false H.out] at this)).mono ?_
  rintro e y2 ⟨rfl, b⟩
  have E := Lib.hid (chain E.out b)
  clear b
  go_wp2_with fail
  refine (known_true _).mono ?_
  rintro e y3 ⟨rfl, b⟩
  have E := Lib.hid (chain E.out b)
  clear b
  go_wp2
  go_ret
  exact ⟨rfl, E.out⟩

set_option maxRecDepth 100000 in
set_option maxHeartbeats 8000000 in
theorem merges_bad2 (L M : List T3) (v u : Value) (w : World) (ha : Rv w v L) (hb : Rv w u M) (hL : L.length ≤ 7) (hM : M.length ≤ 7) (h0 : VH L) (h : ¬ VH M) :
    Calls Try.prog 6 #[v, u] w (Ret (.bool true) w) := by
  have E := Lib.hid (Below.refl w.heap.size w)
  have RA := Lib.hid ha
  have RB := Lib.hid hb
  clear ha hb
  have H0 := Lib.hid h0
  have H := Lib.hid h
  clear h h0
  obtain ⟨pa, ba, offa, capa, rfl, -⟩ := id RA.out
  obtain ⟨pb, bb, offb, capb, rfl, -⟩ := id RB.out
  obtain ⟨n, hn⟩ : ∃ n, n = L.length := ⟨_, rfl⟩
  obtain ⟨m, hm⟩ : ∃ m, m = M.length := ⟨_, rfl⟩
  rw [← hn] at RA hL ⊢
  rw [← hm] at RB hM ⊢
  have i0 : ¬ (7 : Int) < (n : Int) := by omega
  have i1 : ¬ (7 : Int) < (m : Int) := by omega
  clear hn hm hL hM
  go_enter Try.func6, Try.ntmps6
  go_wp2_with fail
  refine (Merge_bad L M _ _ _ RA.out RB.out (fun k => H.out k.2)).mono ?_
  rintro e y1 ⟨rfl, b⟩
  have RA := Lib.hid (RA.out.below b)
  have RB := Lib.hid (RB.out.below b)
  have E := Lib.hid (chain E.out b)
  clear b
  go_wp2_with fail
  refine ((show Calls Try.prog 15 _ _ (Ret (.bool true) _) from by have := rValidH_any L _ _ RA.out; rwa [decide_eq_true H0.out] at this)).mono ?_
  rintro e y2 ⟨rfl, b⟩
  have RB := Lib.hid (RB.out.below b)
  have E := Lib.hid (chain E.out b)
  clear b
  go_wp2_with fail
  refine ((show Calls Try.prog 15 _ _ (Ret (.bool false) _) from by have := rValidH_any M _ _ RB.out; rwa [decide_eq_false H.out] at this)).mono ?_
  rintro e y3 ⟨rfl, b⟩
  have E := Lib.hid (chain E.out b)
  clear b
  go_wp2_with fail
  refine (known_true _).mono ?_
  rintro e y4 ⟨rfl, b⟩
  have E := Lib.hid (chain E.out b)
  clear b
  go_wp2
  go_ret
  exact ⟨rfl, E.out⟩

set_option maxRecDepth 100000 in
set_option maxHeartbeats 8000000 in
theorem merges_ok (L M : List T3) (v u : Value) (w : World) (ha : Rv w v L) (hb : Rv w u M) (hL : L.length ≤ 7) (hM : M.length ≤ 7) (h0 : VH L) (h : VH M) (H : List Hl.P2) (hC : cornersT t3 (L ++ M) = fl H) (hH : Hl.IsH ((L ++ M).map pl) H) :
    Calls Try.prog 6 #[v, u] w (Ret (.bool true) w) := by
  have E := Lib.hid (Below.refl w.heap.size w)
  have RA := Lib.hid ha
  have RB := Lib.hid hb
  clear ha hb
  have HA := Lib.hid h0
  have HB := Lib.hid h
  have HC := Lib.hid hC
  have HH := Lib.hid hH
  have HLL : Hid (L.length ≤ 1000000) := by show _ ≤ _; omega
  have HLM : Hid (M.length ≤ 1000000) := by show _ ≤ _; omega
  have HLS : Hid ((L ++ M).length ≤ 500000) := by show _ ≤ _; rw [List.length_append]; omega
  have NA : Hid (L ≠ []) := fun e => by have := HA.out.1; rw [e] at this; simp at this
  have NB : Hid (M ≠ []) := fun e => by have := HB.out.1; rw [e] at this; simp at this
  have HBD : Hid (∀ a ∈ (L ++ M).map (fun a => (a.1, a.2.1)), inV 16777216 a.1 a.2 0 = true) := by
    intro a ha
    obtain ⟨b, hb, rfl⟩ := List.mem_map.1 ha
    have := inV_iff.1 (inL_mem (inL_app HA.out.2.2.1 HB.out.2.2.1) b hb)
    exact inV_iff.2 ⟨by show _ ≤ b.1 ∧ b.1 ≤ _; omega, by show _ ≤ b.2.1 ∧ b.2.1 ≤ _; omega, by omega⟩
  clear h h0 hC hH
  obtain ⟨pa, ba, offa, capa, rfl, -⟩ := id RA.out
  obtain ⟨pb, bb, offb, capb, rfl, -⟩ := id RB.out
  obtain ⟨n, hn⟩ : ∃ n, n = L.length := ⟨_, rfl⟩
  obtain ⟨m, hm⟩ : ∃ m, m = M.length := ⟨_, rfl⟩
  rw [← hn] at RA hL ⊢
  rw [← hm] at RB hM ⊢
  have i0 : ¬ (7 : Int) < (n : Int) := by omega
  have i1 : ¬ (7 : Int) < (m : Int) := by omega
  clear hn hm hL hM
  go_enter Try.func6, Try.ntmps6
  go_wp2_with fail
  refine (Merge_ok L M _ _ _ RA.out RB.out HA.out HB.out).mono ?_
  rintro e y1 ⟨vh, rfl, hr, b⟩
  have RA := Lib.hid (RA.out.below b)
  have RB := Lib.hid (RB.out.below b)
  have RH : Hid (Rv y1 vh (fl H)) := by have h := hr.rv; rw [HC.out] at h; exact h
  have E := Lib.hid (chain E.out b)
  clear b hr
  go_wp2_with fail
  refine ((show Calls Try.prog 15 _ _ (Ret (.bool true) _) from by have := rValidH_any L _ _ RA.out; rwa [decide_eq_true HA.out] at this)).mono ?_
  rintro e y2 ⟨rfl, b⟩
  have RA := Lib.hid (RA.out.below b)
  have RB := Lib.hid (RB.out.below b)
  have RH := Lib.hid (RH.out.below b)
  have E := Lib.hid (chain E.out b)
  clear b
  go_wp2_with fail
  refine ((show Calls Try.prog 15 _ _ (Ret (.bool true) _) from by have := rValidH_any M _ _ RB.out; rwa [decide_eq_true HB.out] at this)).mono ?_
  rintro e y3 ⟨rfl, b⟩
  have RA := Lib.hid (RA.out.below b)
  have RB := Lib.hid (RB.out.below b)
  have RH := Lib.hid (RH.out.below b)
  have E := Lib.hid (chain E.out b)
  clear b
  have HY := Lib.hid (Nat.le_refl y3.heap.size)
  go_wp2_with (at_builtin; first
    | (refine wpList_append_V rfl rfl _ _ rfl rfl rfl (RowV.nil _ y3.heap.size) RA.out (by show 0 ≤ 1000000; decide) HLL.out (Nat.le_refl _) (fun e => absurd e NA.out) ?_; intro v1 y4 hrow hg; have R1 := Lib.hid hrow; have b := below_of_grown (show y3.grownBy y4 none from hg); have E2 : Hid (∀ W, Below y3.heap.size y3 W → Below w.heap.size w W) := fun W k => chain E.out k; have RB := Lib.hid (RB.out.below b); have RH0 := Lib.hid RH.out; have HY := Lib.hid b; clear hrow hg b)
    | (refine wpList_append_V rfl rfl _ _ rfl rfl rfl R1.out RB.out HLL.out HLM.out HY.out.size (fun e => absurd e NB.out) ?_; intro v2 y5 hrow hg; have R2 := Lib.hid hrow.rv; have b := Below.grown_row HY.out HY.out.size R1.out hg; have E := Lib.hid (E2.out _ b); have RH := Lib.hid (RH0.out.below b); clear hrow hg b))
  refine (refHull_walk (L ++ M) _ _ _ H rfl HH.out R2.out HLS.out HBD.out).mono ?_
  rintro e y6 ⟨vr, rfl, hr, b⟩
  have RH := Lib.hid (RH.out.below b)
  have RR := Lib.hid hr.rv
  have E := Lib.hid (chain E.out b)
  clear b hr
  go_wp2_with fail
  refine (Same_yes (fl H) _ _ _ RH.out RR.out).mono ?_
  rintro e y7 ⟨rfl, b⟩
  have E := Lib.hid (chain E.out b)
  clear b
  go_wp2_with fail
  refine (known_true _).mono ?_
  rintro e y8 ⟨rfl, b⟩
  have E := Lib.hid (chain E.out b)
  clear b
  go_wp2
  go_ret
  exact ⟨rfl, E.out⟩

/-- HullMerges gives true for all two lists of vectors. -/
theorem merges_any (L M : List T3) (v u : Value) (w : World) (ha : Rv w v L) (hb : Rv w u M) :
    Calls Try.prog 6 #[v, u] w (Ret (.bool true) w) := by
  by_cases h1 : 7 < L.length
  · exact merges_long1 L M v u w ha hb h1
  · by_cases h2 : 7 < M.length
    · exact merges_long2 L M v u w ha hb h1 h2
    · by_cases h3 : VH L
      · by_cases h4 : VH M
        · obtain ⟨H, hC, hH⟩ := corners_hull (L ++ M) (by have := h3.1; rw [List.length_append]; omega)
          exact merges_ok L M v u w ha hb (by omega) (by omega) h3 h4 H hC hH
        · exact merges_bad2 L M v u w ha hb (by omega) (by omega) h3 h4
      · exact merges_bad1 L M v u w ha hb (by omega) (by omega) h3
end Go.Proofs.Ytbhdejlikipahaa

/- HullMerges gives true for all two lists of vectors (P7.5), and leaves its arguments as they were. No condition. -/
set_option linter.all false
namespace Go.Proofs.Ytbhdejlikipahaa
open Go.ChangeShapes Go.WideShapes Go.ChangeAt Go.RowKit Go.Joins Go.Deep

set_option maxRecDepth 100000 in
theorem hmerges_lifted (os : Os) (started : os.Started) (H : Type) (enc : TypeId × Value → H) :
    ReturnsInHanded {} Try.checked os 6 .any (Rows.hullMergesSpec.pre6 enc Try.prog Try.f6 Rows.hullMergesRow.domain false) (Rows.hullMergesSpec.post enc Try.prog Try.f6 false true false false) := by
  refine returnsInHanded_of_change (C := Try.checked) Try.own started (by kernel_rfl) Try.func6
    (ChangeSpec.witness6 (enc := enc) (C := Try.checked) false ⟨#[], #[.slice none 0 0, .slice none 0 0], []⟩ 8 (by kernel_rfl) (by kernel_rfl) (by kernel_rfl) (by kernel_rfl)) ?_
  intro W base args ds gs before hval0 hW hcnd _
  have hval : ∀ (j : Nat) t v, Try.f6.params[j]? = some t → args[j]? = some v → Value.okWide Try.prog W .any base t v := hval0
  have hW' := hW
  obtain ⟨p, q, hA0, hV, rfl, hfz, hnd⟩ := hW
  have hA : DataW.TrodAll enc Try.prog W 0 (fun _ => true) true Try.f6.params.toList args.toList ds p := hA0
  rw [Try.params6] at hA hval
  obtain ⟨v0, v1, d0, d1, p0, p1, rfl, rfl, rfl, h0, h1⟩ := trodAll_two hA
  obtain ⟨rfl, rfl⟩ := trodVars_none hV
  obtain ⟨L, r0⟩ := open_vecs (hval 0 22 v0 rfl rfl) h0
  obtain ⟨M, r1⟩ := open_vecs (hval 1 22 v1 rfl rfl) h1
  clear hA0 hval0
  refine (merges_any L M v0 v1 W r0 r1).mono fun e W' ⟨he, bel⟩ => ?_
  subst he
  exact ⟨_, rfl, _, _, _, [], _, [], hW', trodAll_mk1 (shut_bool Try.underlying4 _), trodAll_mk2 (Below.trod Try.laidOut (by kernel_rfl) (of_decide_eq_true (by kernel_rfl)) h0 bel (fun x hx => by simpa using hW'.lt x (by simp [hx]))) (Below.trod Try.laidOut (by kernel_rfl) (of_decide_eq_true (by kernel_rfl)) h1 bel (fun x hx => by simpa using hW'.lt x (by simp [hx]))), rfl, bel.frame _, fun h => by cases h⟩

/-- The statement. -/
theorem hmerges_holds : Rows.HullMergesSaid :=
  OpenClaim.holds_of_wide 6 Try.f6 rfl rfl rfl rfl rfl rfl rfl ⟨rfl, rfl, rfl, rfl, rfl⟩ rfl rfl rfl rfl rfl (by kernel_rfl) Try.func6 (by kernel_rfl)
    (of_decide_eq_true (by kernel_rfl)) (by unfold Func.isWrapper; first | (rw [if_pos (by decide +kernel)]; kernel_rfl) | (rw [if_neg (by decide +kernel)]; exact ⟨rfl, rfl⟩))
    (fun os started H enc _ => hmerges_lifted os started H enc)
#print axioms hmerges_holds
end Go.Proofs.Ytbhdejlikipahaa
