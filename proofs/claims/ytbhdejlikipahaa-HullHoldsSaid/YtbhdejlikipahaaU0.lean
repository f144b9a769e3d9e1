/- What the theorem leans on, part 0: Hgh, Phy, Psa, Psb, Psc. -/
import Derived.Test.YtbhdejlikipahaaZ7
import Derived.Test.YtbhdejlikipahaaZ9
import Derived.Test.YtbhdejlikipahaaZ4

/- A list that turns left all round is its own hull, and a hull is the only one. Plain facts. -/
set_option linter.all false
namespace Go.Proofs.Ytbhdejlikipahaa.Hl

/-- From the least point, turns to the left carry on. -/
theorem fan {o a b c : P2} (ha : lt o a) (hb : lt o b) (hc : lt o c) (h1 : 0 < tn o a b) (h2 : 0 < tn o b c) : 0 < tn o a c := by
  obtain ⟨u, hu⟩ : ∃ u : P2, u = (a.1 - o.1, a.2 - o.2) := ⟨_, rfl⟩
  obtain ⟨v, hv⟩ : ∃ v : P2, v = (b.1 - o.1, b.2 - o.2) := ⟨_, rfl⟩
  obtain ⟨x, hx⟩ : ∃ x : P2, x = (c.1 - o.1, c.2 - o.2) := ⟨_, rfl⟩
  have g1 : 0 < u.1 * v.2 - u.2 * v.1 := by subst hu hv; exact h1
  have g2 : 0 < v.1 * x.2 - v.2 * x.1 := by subst hv hx; exact h2
  have g3 : tn o a c = u.1 * x.2 - u.2 * x.1 := by subst hu hx; rfl
  have p1 : 0 < u.1 ∨ (u.1 = 0 ∧ 0 < u.2) := by subst hu; unfold lt at ha; simp only; omega
  have p2 : 0 < v.1 ∨ (v.1 = 0 ∧ 0 < v.2) := by subst hv; unfold lt at hb; simp only; omega
  have p3 : 0 < x.1 ∨ (x.1 = 0 ∧ 0 < x.2) := by subst hx; unfold lt at hc; simp only; omega
  rw [g3]
  have id1 : (u.1 * x.2 - u.2 * x.1) * v.1 = (u.1 * v.2 - u.2 * v.1) * x.1 + (v.1 * x.2 - v.2 * x.1) * u.1 := by grind
  rcases p2 with p2 | ⟨p2, p2'⟩
  · rcases p1 with p1 | ⟨p1, p1'⟩
    · have m1 := Int.mul_pos g2 p1
      have m2 : 0 ≤ (u.1 * v.2 - u.2 * v.1) * x.1 := Int.mul_nonneg (by omega) (by omega)
      exact Int.pos_of_mul_pos_left (by omega : 0 < (u.1 * x.2 - u.2 * x.1) * v.1) p2
    · rw [p1] at g1
      have := Int.mul_pos p1' p2
      omega
  · rw [p2] at g2
    rcases p3 with p3 | ⟨p3, p3'⟩
    · have := Int.mul_pos p2' p3
      omega
    · rw [p3] at g2; omega
theorem lift1 {o a k q l : P2} (h1 : 0 < tn o l k) (h2 : 0 < tn a l k) (h3 : 0 < tn o k q) (h4 : 0 < tn o a k) (h5 : 0 < tn l k q) : 0 < tn a k q := by
  have id1 : tn o l k * tn a k q = tn a l k * tn o k q + tn o a k * tn l k q := by unfold tn; grind
  have m1 := Int.mul_pos h2 h3
  have m2 := Int.mul_pos h4 h5
  exact Int.pos_of_mul_pos_right (by omega : 0 < tn o l k * tn a k q) h1
theorem lift2 {o a b k q : P2} (h1 : 0 < tn o b k) (h2 : 0 < tn o b q) (h3 : 0 < tn a b k) (h4 : 0 < tn b k q) (h5 : 0 < tn o a b) : 0 < tn a b q := by
  have id1 : tn o b k * tn a b q = tn o b q * tn a b k + tn b k q * tn o a b := by unfold tn; grind
  have m1 := Int.mul_pos h2 h3
  have m2 := Int.mul_pos h4 h5
  exact Int.pos_of_mul_pos_right (by omega : 0 < tn o b k * tn a b q) h1
/-- Turns to the left one after another, and seen from the least one: so all of them. -/
theorem triples {P : Nat → P2} {n : Nat} (h0 : ∀ k, 0 < k → k < n → lt (P 0) (P k)) (h1 : ∀ k, 0 < k → k + 1 < n → 0 < tn (P 0) (P k) (P (k + 1))) (h2 : ∀ k, k + 2 < n → 0 < tn (P k) (P (k + 1)) (P (k + 2))) :
    ∀ m, m < n → ∀ a b c, a < b → b < c → c ≤ m → 0 < tn (P a) (P b) (P c) := by
  have hf : ∀ d j, 0 < j → j + d + 1 < n → 0 < tn (P 0) (P j) (P (j + d + 1)) := by
    intro d
    induction d with
    | zero => intro j hj hn; exact h1 j hj hn
    | succ d ih =>
      intro j hj hn
      exact fan (h0 _ hj (by omega)) (h0 _ (by omega) (by omega)) (h0 _ (by omega) (by omega)) (ih j hj (by omega)) (h1 (j + d + 1) (by omega) (by omega))
  have hf2 : ∀ j k, 0 < j → j < k → k < n → 0 < tn (P 0) (P j) (P k) := by
    intro j k hj hk hn
    have := hf (k - j - 1) j hj (by omega)
    rwa [show j + (k - j - 1) + 1 = k by omega] at this
  intro m
  induction m with
  | zero => intro _ a b c _ _ _; omega
  | succ k ih =>
    intro hm a b c hab hbc hc
    have ih := ih (by omega)
    rcases Nat.lt_or_ge c (k + 1) with g | g
    · exact ih a b c hab hbc (by omega)
    · obtain rfl : c = k + 1 := by omega
      have last : ∀ a, a < k → 0 < tn (P a) (P k) (P (k + 1)) := by
        intro a ha
        rcases Nat.eq_zero_or_pos a with rfl | ha0
        · exact hf2 k (k + 1) (by omega) (by omega) (by omega)
        · rcases Nat.lt_or_ge (a + 1) k with g | g
          · have hl := h2 (k - 1) (by omega)
            rw [show k - 1 + 1 = k by omega, show k - 1 + 2 = k + 1 by omega] at hl
            exact lift1 (o := P 0) (l := P (k - 1)) (ih 0 (k - 1) k (by omega) (by omega) (by omega)) (ih a (k - 1) k (by omega) (by omega) (by omega)) (hf2 k (k + 1) (by omega) (by omega) (by omega)) (ih 0 a k ha0 (by omega) (by omega)) hl
          · have hl := h2 a (by omega)
            obtain rfl : k = a + 1 := by omega
            exact hl
      rcases Nat.lt_or_ge b k with g2 | g2
      · rcases Nat.eq_zero_or_pos a with rfl | ha0
        · exact hf2 b (k + 1) (by omega) (by omega) (by omega)
        · exact lift2 (o := P 0) (k := P k) (ih 0 b k (by omega) g2 (by omega)) (hf2 b (k + 1) (by omega) (by omega) (by omega)) (ih a b k hab g2 (by omega)) (last b g2) (ih 0 a b ha0 hab (by omega))
      · obtain rfl : b = k := by omega
        exact last a hab
/-- A list that turns left all round is its own hull. -/
theorem isH_self {h : List P2} (hp : 0 < h.length) (h0 : ∀ k (hk : k < h.length), 0 < k → lt h[0] h[k])
    (hr : 3 ≤ h.length → (∀ k (hk : k + 2 < h.length), 0 < tn h[k] h[k + 1] h[k + 2]) ∧ (∀ k (hk : k + 1 < h.length), 0 < k → 0 < tn h[0] h[k] h[k + 1])) : IsH h h := by
  have hd : ∀ k (hk : k < h.length), h.getD k (0, 0) = h[k] := fun k hk => by rw [List.getD_eq_getElem?_getD, List.getElem?_eq_getElem hk]; rfl
  have hT : 3 ≤ h.length → ∀ a b c (ha : a < b) (hb : b < c) (hc : c < h.length), 0 < tn h[a] h[b] h[c] := by
    intro hl a b c ha hb hc
    have := triples (P := fun k => h.getD k (0, 0)) (n := h.length) (fun k k0 hk => by rw [hd 0 hp, hd k hk]; exact h0 k hk k0) (fun k k0 hk => by rw [hd 0 hp, hd k (by omega), hd _ hk]; exact (hr hl).2 k hk k0)
      (fun k hk => by rw [hd k (by omega), hd (k + 1) (by omega), hd (k + 2) hk]; exact (hr hl).1 k hk) (h.length - 1) (by omega) a b c ha hb (by omega)
    rwa [hd a (by omega), hd b (by omega), hd c hc] at this
  have hmem : ∀ p ∈ h, ∃ k, ∃ hk : k < h.length, h[k] = p := fun p hp => List.mem_iff_getElem.1 hp
  have hturn : 3 ≤ h.length → ∀ i (hi : i + 1 < h.length), ∀ k (hk : k < h.length), k ≠ i → k ≠ i + 1 → 0 < tn h[i] h[i + 1] h[k] := by
    intro hl i hi k hk e1 e2
    rcases Nat.lt_or_ge k i with g | g
    · rw [← tn_rot, ← tn_rot]
      have := hT hl k i (i + 1) g (by omega) hi
      rw [← tn_rot, ← tn_rot, ← tn_rot]
      first | exact this | (rw [tn_rot, tn_rot]; exact this) | (rw [tn_rot]; exact this)
    · exact hT hl i (i + 1) k (by omega) (by omega) hk
  have hturn0 : 3 ≤ h.length → ∀ k (hk : k < h.length), k ≠ h.length - 1 → k ≠ 0 → 0 < tn h[h.length - 1] h[0] h[k] := by
    intro hl k hk e1 e2
    have := hT hl 0 k (h.length - 1) (by omega) (by omega) (by omega)
    rw [← tn_rot] 
    first | exact this | (rw [← tn_rot]; exact this)
  refine ⟨fun p hp => hp, hp, fun p hq => ?_, fun e p hq => ?_, fun e p hq => ?_, fun e => ?_, fun hl p hq i hi => ?_, fun hl p hq => ?_, hturn, hturn0⟩
  · obtain ⟨k, hk, rfl⟩ := hmem p hq
    rcases Nat.eq_zero_or_pos k with rfl | k0
    · exact .inl rfl
    · exact .inr (h0 k hk k0)
  · obtain ⟨k, hk, rfl⟩ := hmem p hq
    obtain rfl : k = 0 := by omega
    rfl
  · obtain ⟨k, hk, rfl⟩ := hmem p hq
    rcases (by omega : k = 0 ∨ k = 1) with rfl | rfl
    · exact ⟨tn_aba _ _, by omega, by omega, by omega, by omega⟩
    · exact ⟨tn_abb _ _, by omega, by omega, by omega, by omega⟩
  · intro e'
    have := h0 1 (by omega) (by omega)
    rw [← e'] at this
    exact lt_irrefl _ this
  · obtain ⟨k, hk, rfl⟩ := hmem p hq
    by_cases e1 : k = i
    · subst e1; rw [tn_aba]; omega
    · by_cases e2 : k = i + 1
      · subst e2; rw [tn_abb]; omega
      · have := hturn hl i hi k hk e1 e2; omega
  · obtain ⟨k, hk, rfl⟩ := hmem p hq
    by_cases e1 : k = h.length - 1
    · subst e1; rw [tn_aba]; omega
    · by_cases e2 : k = 0
      · subst e2; rw [tn_abb]; omega
      · have := hturn0 hl k hk e1 e2; omega
/-- There is one hull. -/
theorem IsH.unique {S h g : List P2} (H : IsH S h) (G : IsH S g) : h = g := by
  have hm : ∀ p, p ∈ h ↔ p ∈ g := fun p => (H.mem_iff p).symm.trans (G.mem_iff p)
  have hl : h.length = g.length := same_length H.nodup G.nodup hm
  refine List.ext_getElem hl ?_
  intro i
  induction i with
  | zero =>
    intro h1 h2
    rcases H.first _ (G.sub _ (List.getElem_mem h2)) with e | e
    · exact e.symm
    · rcases G.first _ (H.sub _ (List.getElem_mem h1)) with e' | e'
      · exact e'
      · exact absurd (lt_trans e e') (lt_irrefl _)
  | succ j ih =>
    intro h1 h2
    have e := ih (by omega) (by omega)
    obtain ⟨n1, n2⟩ := H.next h1
    refine G.only h2 ((hm _).1 (List.getElem_mem h1)) (by rw [← e]; exact n1) (fun c hc => ?_)
    rw [← e]
    exact n2 c ((hm c).2 hc)
end Go.Proofs.Ytbhdejlikipahaa.Hl

/- Which lists are hulls; the reference's Valid. -/
set_option linter.all false
namespace Go.Proofs.Ytbhdejlikipahaa
open Go.RowKit Go.Sort

theorem t3_pl (a b c : T3) : t3 a b c = 1 ↔ 0 < Hl.tn (pl a) (pl b) (pl c) := by
  show cmpI (Hl.tn (pl a) (pl b) (pl c)) 0 = 1 ↔ _
  unfold cmpI
  split <;> (try split) <;> omega
theorem c3_neg (a b : T3) : c3 a b < 0 ↔ L3 a b := by
  have := c3_lt a b
  unfold ltOf at this
  rw [decide_eq_true_eq] at this
  exact this
theorem fl_pl {L : List T3} (h : ∀ a ∈ L, a.2.2 = 0) : fl (L.map pl) = L := by
  unfold fl
  rw [List.map_map]
  refine (List.map_congr_left ?_).trans (List.map_id L)
  intro a ha
  have := h a ha
  show (a.1, a.2.1, (0 : Int)) = a
  rw [← this]
theorem pl_fl (H : List Hl.P2) : (fl H).map pl = H := by
  unfold fl
  rw [List.map_map]
  exact (List.map_congr_left (fun a _ => rfl)).trans (List.map_id H)
/-- What goes round once is its own hull. -/
theorem vh_isH {L : List T3} (h : VH L) : Hl.IsH (L.map pl) (L.map pl) := by
  obtain ⟨h1, h2, h3, h4, h5, h6⟩ := h
  refine Hl.isH_self (by rw [List.length_map]; exact h1) (fun k hk k0 => ?_) (fun hl => ?_)
  · rw [List.length_map] at hk
    have := (c3_neg _ _).1 (h5 k hk k0)
    have z1 := h4 _ (List.getElem_mem h1)
    have z2 := h4 _ (List.getElem_mem hk)
    simp only [List.getElem_map]
    unfold L3 at this
    unfold Hl.lt pl
    simp only
    omega
  · rw [List.length_map] at hl
    have hr := h6.resolve_left (by omega)
    refine ⟨fun k hk => ?_, fun k hk k0 => ?_⟩
    · rw [List.length_map] at hk
      have := hr.1 k (by omega)
      simp only [Nat.mod_eq_of_lt (show k + 1 < L.length by omega), Nat.mod_eq_of_lt (show k + 1 + 1 < L.length by omega)] at this
      simp only [List.getElem_map]
      exact (t3_pl _ _ _).1 this
    · rw [List.length_map] at hk
      simp only [List.getElem_map]
      exact (t3_pl _ _ _).1 (hr.2 k hk k0)
theorem isH_vh {L : List T3} {H : List Hl.P2} (hL : fl H = L) (hH : Hl.IsH H H) (h2 : L.length ≤ 10000) (h3 : inL 1048576 L = true) : VH L := by
  subst hL
  have hl : (fl H).length = H.length := fl_length H
  refine ⟨by rw [hl]; exact hH.pos, h2, h3, ?_, ?_, ?_⟩
  · intro a ha
    obtain ⟨b, _, rfl⟩ := List.mem_map.1 ha
    rfl
  · intro k hk k0
    rw [c3_neg]
    have hk2 : k < H.length := by omega
    rw [fl_get H 0 hH.pos, fl_get H k hk2]
    have hlt : Hl.lt H[0] H[k] := by
      rcases hH.first _ (List.getElem_mem hk2) with e | e
      · exact absurd e.symm (hH.ne hk2 k0)
      · exact e
    unfold Hl.lt at hlt
    unfold L3
    simp only
    omega
  · by_cases h : H.length ≤ 2
    · left; omega
    · right
      have hl3 : 3 ≤ H.length := by omega
      refine ⟨fun k hk => ?_, fun k hk k0 => ?_⟩
      · rw [t3_pl]
        have hk2 : k < H.length := by omega
        have m1 : (k + 1) % (fl H).length < H.length := by rw [← hl]; exact Nat.mod_lt _ (by omega)
        have m2 : (k + 1 + 1) % (fl H).length < H.length := by rw [← hl]; exact Nat.mod_lt _ (by omega)
        rw [fl_get H k hk2, fl_get H _ m1, fl_get H _ m2]
        show 0 < Hl.tn H[k] (H[(k + 1) % (fl H).length]) (H[(k + 1 + 1) % (fl H).length])
        simp only [hl]
        rcases (by omega : k + 2 < H.length ∨ k + 2 = H.length ∨ k + 1 = H.length) with g | g | g
        · simp only [Nat.mod_eq_of_lt (show k + 1 < H.length by omega), Nat.mod_eq_of_lt (show k + 1 + 1 < H.length by omega)]
          exact hH.turn hl3 k (by omega) (k + 1 + 1) (by omega) (by omega) (by omega)
        · simp only [Nat.mod_eq_of_lt (show k + 1 < H.length by omega), show (k + 1 + 1) % H.length = 0 by rw [show k + 1 + 1 = H.length by omega]; exact Nat.mod_self _]
          exact hH.turn hl3 k (by omega) 0 (by omega) (by omega) (by omega)
        · have e1 : (k + 1) % H.length = 0 := by rw [g]; exact Nat.mod_self _
          have e2 : (k + 1 + 1) % H.length = 1 := by rw [g, Nat.add_mod_left]; exact Nat.mod_eq_of_lt (by omega)
          simp only [e1, e2]
          have := hH.turn0 hl3 1 (by omega) (by omega) (by omega)
          simp only [show H.length - 1 = k by omega] at this
          exact this
      · rw [t3_pl]
        have hk2 : k + 1 < H.length := by omega
        rw [fl_get H 0 hH.pos, fl_get H k (by omega), fl_get H _ hk2]
        show 0 < Hl.tn H[0] H[k] H[k + 1]
        rw [← Hl.tn_rot]
        exact hH.turn hl3 k hk2 0 hH.pos (by omega) (by omega)
/-- The hulls are the lists that are the hull of their own points. -/
theorem vh_iff {L : List T3} {H : List Hl.P2} (hH : Hl.IsH (L.map pl) H) (h2 : L.length ≤ 10000) (h3 : inL 1048576 L = true) : fl H = L ↔ VH L := by
  constructor
  · intro e
    refine isH_vh e ?_ h2 h3
    rw [← e, pl_fl] at hH
    exact hH
  · intro h
    rw [hH.unique (vh_isH h)]
    exact fl_pl h.2.2.2.1
noncomputable instance (L : List T3) : Decidable (VH L) := Classical.propDecidable _

/-! The reference's Valid. -/
set_option maxRecDepth 100000 in
set_option maxHeartbeats 4000000 in
theorem rvalid_0 (p : Option Addr) (n cap : Nat) (w : World) (h0 : ¬ (0 : Int) < (n : Int) ∨ ¬ (n : Int) ≤ 10000) :
    Calls Try.prog 15 #[.slice p n cap] w (Ret (.bool false) w) := by
  have E := Lib.hid (Below.refl w.heap.size w)
  by_cases h1 : (0 : Int) < (n : Int)
  · have h2 : ¬ (n : Int) ≤ 10000 := h0.resolve_left (fun h => h h1)
    clear h0
    go_enter Try.func15, Try.ntmps15
    go_wp2
    go_ret
    exact ⟨rfl, E.out⟩
  · clear h0
    go_enter Try.func15, Try.ntmps15
    go_wp2
    go_ret
    exact ⟨rfl, E.out⟩
set_option maxRecDepth 100000 in
set_option maxHeartbeats 4000000 in
theorem rvalid_1 (p : Option Addr) (n cap : Nat) (w : World) (h0 : (0 : Int) < (n : Int)) (h1 : (n : Int) ≤ 10000)
    (HP : ∀ w', Below w.heap.size w w' → Calls Try.prog 12 #[.slice p n cap] w' (Ret (.bool false) w')) :
    Calls Try.prog 15 #[.slice p n cap] w (Ret (.bool false) w) := by
  have E := Lib.hid (Below.refl w.heap.size w)
  have HP := Lib.hid HP
  go_enter Try.func15, Try.ntmps15
  go_wp2_with fail
  refine (HP.out _ E.out).mono ?_
  rintro e y ⟨rfl, b⟩
  have E := Lib.hid (chain E.out b)
  clear b
  go_wp2
  go_ret
  exact ⟨rfl, E.out⟩
set_option maxRecDepth 100000 in
set_option maxHeartbeats 4000000 in
theorem rvalid_2 (p : Option Addr) (n cap : Nat) (w : World) (res : Bool) (X : World → Value → Prop) (h0 : (0 : Int) < (n : Int)) (h1 : (n : Int) ≤ 10000)
    (HP : ∀ w', Below w.heap.size w w' → Calls Try.prog 12 #[.slice p n cap] w' (Ret (.bool true) w'))
    (HH : ∀ w', Below w.heap.size w w' → Calls Try.prog 13 #[.slice p n cap] w' (fun e w2 => ∃ vo, e = .returned vo ∧ X w2 vo ∧ Below w'.heap.size w' w2))
    (HS : ∀ w' vo, Below w.heap.size w w' → X w' vo → Calls Try.prog 11 #[vo, .slice p n cap] w' (Ret (.bool res) w')) :
    Calls Try.prog 15 #[.slice p n cap] w (Ret (.bool res) w) := by
  have E := Lib.hid (Below.refl w.heap.size w)
  have HP := Lib.hid HP
  have HH := Lib.hid HH
  have HS := Lib.hid HS
  go_enter Try.func15, Try.ntmps15
  go_wp2_with fail
  refine (HP.out _ E.out).mono ?_
  rintro e y ⟨rfl, b⟩
  have E := Lib.hid (chain E.out b)
  clear b
  go_wp2_with fail
  refine (HH.out _ E.out).mono ?_
  rintro e y1 ⟨vo, rfl, hx, b⟩
  have HX := Lib.hid hx
  have E := Lib.hid (chain E.out b)
  clear b hx
  go_wp2_with fail
  refine (HS.out _ _ E.out HX.out).mono ?_
  rintro e y2 ⟨rfl, b⟩
  have E := Lib.hid (chain E.out b)
  clear b
  go_wp2
  go_ret
  exact ⟨rfl, E.out⟩
/-- The reference's Valid is Valid. -/
theorem rValidH_any (L : List T3) (v : Value) (w : World) (h : Rv w v L) : Calls Try.prog 15 #[v] w (Ret (.bool (decide (VH L))) w) := by
  obtain ⟨p, b, off, cap, rfl, -⟩ := id h
  by_cases h1 : 0 < L.length
  · by_cases h2 : L.length ≤ 10000
    · by_cases h3 : inL 1048576 L = true
      · obtain ⟨H, -, hH⟩ := corners_hull L h1
        have hb : ∀ a ∈ L.map (fun a => (a.1, a.2.1)), inV 16777216 a.1 a.2 0 = true := by
          intro a ha
          obtain ⟨b, hb, rfl⟩ := List.mem_map.1 ha
          have := inV_iff.1 (inL_mem h3 b hb)
          exact inV_iff.2 ⟨by show _ ≤ b.1 ∧ b.1 ≤ _; omega, by show _ ≤ b.2.1 ∧ b.2.1 ≤ _; omega, by omega⟩
        have e : decide (VH L) = decide (fl H = L) := by
          by_cases g : fl H = L
          · rw [decide_eq_true g, decide_eq_true ((vh_iff hH h2 h3).1 g)]
          · rw [decide_eq_false g, decide_eq_false (fun k => g ((vh_iff hH h2 h3).2 k))]
        rw [e]
        refine rvalid_2 p L.length cap w _ (fun w' vo => Rv w' vo (fl H) ∧ Rv w' (.slice p L.length cap) L) (by omega) (by omega) (fun w' b => ?_) (fun w' b => ?_) (fun w' vo b hx => Same_any _ _ _ _ _ hx.1 hx.2)
        · have := Points_any L _ w' (h.below b)
          rwa [h3] at this
        · refine (refHull_walk L _ w' _ H rfl hH (h.below b) (by omega) hb).mono ?_
          rintro e w2 ⟨vo, rfl, hr, b2⟩
          exact ⟨vo, rfl, ⟨hr.rv, (h.below b).below b2⟩, b2⟩
      · rw [decide_eq_false (fun k : VH L => h3 k.2.2.1)]
        refine rvalid_1 p L.length cap w (by omega) (by omega) (fun w' b => ?_)
        have := Points_any L _ w' (h.below b)
        rwa [Bool.eq_false_iff.2 h3] at this
    · rw [decide_eq_false (fun k : VH L => h2 k.2.1)]
      exact rvalid_0 p L.length cap w (.inr (by omega))
  · rw [decide_eq_false (fun k : VH L => h1 k.1)]
    exact rvalid_0 p L.length cap w (.inl (by omega))
theorem Valid_anyH (L : List T3) (v : Value) (w : World) (h : Rv w v L) : Calls Try.prog 16 #[v] w (Ret (.bool (decide (VH L))) w) := by
  by_cases k : VH L
  · rw [decide_eq_true k]; exact valid_yes L v w h k
  · rw [decide_eq_false k]; exact valid_no L v w h k
end Go.Proofs.Ytbhdejlikipahaa

/- The reference's Side: the walk. -/
set_option linter.all false
namespace Go.Proofs.Ytbhdejlikipahaa
open Go.RowKit

set_option maxRecDepth 100000 in
set_option maxHeartbeats 8000000 in
theorem rside_walk (L : List T3) (b off cap n : Nat) (p1 p2 p3 : Int) (w : World) (hn : n = L.length) (hmx : L.length ≤ 10000) (hp : Rv w (.slice (some ⟨b, off, none⟩) n cap) L) (hpos : 0 < n)
    (on : Nat → Bool) (tv : Nat → Int) (ins : Nat → Bool) (res : Int) (hi0 : ins 0 = decide (2 < n)) (his : ∀ k, k < n → ins (k + 1) = (ins k && decide (0 < tv k)))
    (hO : ∀ k, k < n → ∀ w', Calls Try.prog 43 #[vv (gA L k).1 (gA L k).2.1 (gA L k).2.2, vv (gA L (k + 1)).1 (gA L (k + 1)).2.1 (gA L (k + 1)).2.2, vv p1 p2 p3] w' (Ret (.bool (on k)) w'))
    (hT : ∀ k, k < n → ∀ w', Calls Try.prog 33 #[vv (gA L k).1 (gA L k).2.1 (gA L k).2.2, vv (gA L (k + 1)).1 (gA L (k + 1)).2.1 (gA L (k + 1)).2.2, vv p1 p2 p3] w' (Ret (.int .i64 (tv k)) w'))
    (hZ : ∀ k, k < n → on k = true → res = 0) (hN : (∀ k, k < n → on k = false) → res = if ins n then 1 else -1) :
    Calls Try.prog 18 #[.slice (some ⟨b, off, none⟩) n cap, vv p1 p2 p3] w (Ret (.int .i64 res) w) := by
  obtain ⟨p', b', off', cap', e, q2, q3, q4, q5⟩ := hp
  injection e with e1 e2 e3
  subst e3
  have e4 := e1.trans (q4 (by omega))
  cases e4
  have H5 : Hid (∀ k, k < L.length → w.cell? ⟨b, off + k * 3, none⟩ = some (.int .i64 (gA L k).1) ∧ w.cell? ⟨b, off + k * 3 + 1, none⟩ = some (.int .i64 (gA L k).2.1) ∧ w.cell? ⟨b, off + k * 3 + 2, none⟩ = some (.int .i64 (gA L k).2.2)) := by
    intro k hk
    have := q5 k hk
    rwa [gA_at hk] at this
  have HO := Lib.hid hO
  have HT := Lib.hid hT
  have HZ := Lib.hid hZ
  have HNn := Lib.hid hN
  have HI0 := Lib.hid hi0
  have HIS := Lib.hid his
  have HG : Hid (∀ k, gA L k = gA L (k % L.length)) := by intro k; unfold gA; rw [Nat.mod_mod]
  clear q2 q3 q4 q5 hO hT hZ hN hi0 his e1 e2
  rw [← hn] at hmx H5 HG
  have HN := Lib.hid hn
  clear hn
  have hpz : (0 : Int) < (n : Int) := by omega
  obtain ⟨s0, hs0⟩ : ∃ s0, s0 = decide (2 < n) := ⟨_, rfl⟩
  have j0 : decide ((2 : Int) < (n : Int)) = s0 := by rw [hs0]; exact decide_eq_decide.2 (by omega)
  have HI00 : Hid (ins 0 = s0) := by show _ = _; rw [HI0.out, hs0]
  clear hs0
  go_enter Try.func18, Try.ntmps18
  go_upto_region 1 with (fail)
  obtain ⟨u0, hu⟩ : ∃ u0 : World, u0 = w.alloc (.cells #[.int .i64 p1, .int .i64 p2, .int .i64 p3] 31) := ⟨_, rfl⟩
  have VP : Hid (V3 u0 w.heap.size p1 p2 p3) := by rw [hu]; exact (vf_made _ _ _ _).1
  have E : Hid (Below w.heap.size w u0) := by rw [hu]; exact below_one w _
  obtain ⟨gp, hg⟩ : ∃ g, g = w.heap.size := ⟨_, rfl⟩
  rw [← hg] at VP
  rw [← hu, ← hg]
  clear hu
  have HGP : Hid (w.heap.size ≤ gp ∧ gp < u0.heap.size) := ⟨by show _ ≤ _; omega, World.block_lt_of_cell? _ _ VP.out.1⟩
  clear hg
  go_wp2
  go_loopw [5, 6] (fun sv iv wr => ∃ (wz : World) (k : Nat), wz = wr ∧ k ≤ n ∧ iv = .int .i64 (k : Int) ∧ Hid (sv = .bool (ins k)) ∧ Hid (∀ j, j < k → on j = false) ∧ Hid (V3 wz gp p1 p2 p3) ∧ Hid (Below w.heap.size w wz))
    (fun _ iv _ => n - (intOf iv).toNat)
  case atStart => exact ⟨u0, 0, rfl, Nat.zero_le _, rfl, (by show _ = _; first | (rw [HI00.out]; done) | (rw [HI00.out, ← j0])), fun j hj => absurd hj (Nat.not_lt_zero _), VP, E⟩
  case round =>
    clear VP E HI00 HGP
    obtain ⟨wz, k, rfl, hk, rfl, hsv, hall, VP, hbl⟩ := hrel
    obtain rfl := hsv.out
    clear hsv
    by_cases hlt : k < n
    · obtain ⟨x, y, z, hL⟩ : ∃ x y z, gA L k = (x, y, z) := ⟨_, _, _, rfl⟩
      obtain ⟨a0, a1, a2, hA⟩ : ∃ x y z, gA L (k + 1) = (x, y, z) := ⟨_, _, _, rfl⟩
      have hj : (k + 1) % n < n := Nat.mod_lt _ hpos
      have K : Hid (w.cell? ⟨b, off + k * 3, none⟩ = some (.int .i64 x) ∧ w.cell? ⟨b, off + k * 3 + 1, none⟩ = some (.int .i64 y) ∧ w.cell? ⟨b, off + k * 3 + 2, none⟩ = some (.int .i64 z)) := by
        have := H5.out k hlt
        rwa [hL] at this
      have K2 : Hid (w.cell? ⟨b, off + (k + 1) % n * 3, none⟩ = some (.int .i64 a0) ∧ w.cell? ⟨b, off + (k + 1) % n * 3 + 1, none⟩ = some (.int .i64 a1) ∧ w.cell? ⟨b, off + (k + 1) % n * 3 + 2, none⟩ = some (.int .i64 a2)) := by
        have := H5.out _ hj
        rwa [← HG.out (k + 1), hA] at this
      have O1 : Hid (∀ w', Calls Try.prog 43 #[vv x y z, vv a0 a1 a2, vv p1 p2 p3] w' (Ret (.bool (on k)) w')) := by
        have := HO.out k hlt
        rwa [hL, hA] at this
      have T1 : Hid (∀ w', Calls Try.prog 33 #[vv x y z, vv a0 a1 a2, vv p1 p2 p3] w' (Ret (.int .i64 (tv k)) w')) := by
        have := HT.out k hlt
        rwa [hL, hA] at this
      have HIS1 : Hid (ins (k + 1) = (ins k && decide (0 < tv k))) := HIS.out k hlt
      have HZ1 : Hid (on k = true → res = 0) := HZ.out k hlt
      have HAL : Hid (on k = false → ∀ j, j < k + 1 → on j = false) := by
        intro ho j hjk
        rcases Nat.lt_or_ge j k with g | g
        · exact hall.out j g
        · obtain rfl : j = k := by omega
          exact ho
      clear hall hL hA
      generalize on k = onk at *
      generalize tv k = tk at *
      generalize hsk : ins k = sk at *
      have HSK := Lib.hid hsk
      clear hsk
      have hrem : Int.tmod ((k : Int) + 1) (n : Int) = (((k + 1) % n : Nat) : Int) := by
        rw [Int.tmod_eq_emod_of_nonneg (by omega), Int.natCast_emod]; rfl
      generalize (k + 1) % n = j at *
      have hw : IntKind.i64.wrap ((k : Int) + 1) = (k : Int) + 1 := wrap_in (by omega)
      have hw2 : IntKind.i64.wrap (j : Int) = (j : Int) := wrap_in (by omega)
      have hn0 : ¬ (n : Int) = 0 := by omega
      have hj0 : (0 : Int) ≤ (j : Int) := by omega
      have hjn : (j : Int) < (n : Int) := by omega
      have hk0 : (0 : Int) ≤ (k : Int) := by omega
      have hkn : (k : Int) < (n : Int) := by omega
      have c0 := keep1 hbl.out K2.out.1
      have c1 := keep1 hbl.out K2.out.2.1
      have c2 := keep1 hbl.out K2.out.2.2
      go_upto_region 6 with (fail)
      obtain ⟨u1, hu⟩ : ∃ u1 : World, u1 = wz.alloc (.cells #[.int .i64 a0, .int .i64 a1, .int .i64 a2] 31) := ⟨_, rfl⟩
      have VB : Hid (V3 u1 wz.heap.size a0 a1 a2) := by rw [hu]; exact (vf_made _ _ _ _).1
      have VP : Hid (V3 u1 gp p1 p2 p3) := by rw [hu]; exact VP.out.below (below_one _ _)
      have HB2 : Hid (Below w.heap.size w u1) := by rw [hu]; exact hbl.out.alloc hbl.out.size _
      obtain ⟨gx, hg⟩ : ∃ g, g = wz.heap.size := ⟨_, rfl⟩
      rw [← hg] at VB
      rw [← hu, ← hg]
      clear hu hg c0 c1 c2
      have c0 := keep1 HB2.out K.out.1
      have c1 := keep1 HB2.out K.out.2.1
      have c2 := keep1 HB2.out K.out.2.2
      obtain ⟨e0, e1, e2⟩ := VB.out
      obtain ⟨e3, e4, e5⟩ := VP.out
      go_region_held3 (fun W' => W'.cell? ⟨b, off + k * 3, none⟩ = some (.int .i64 x) ∧ W'.cell? ⟨b, off + k * 3 + 1, none⟩ = some (.int .i64 y) ∧ W'.cell? ⟨b, off + k * 3 + 2, none⟩ = some (.int .i64 z) ∧ W'.cell? ⟨gx, 0, none⟩ = some (.int .i64 a0) ∧ W'.cell? ⟨gx, 1, none⟩ = some (.int .i64 a1) ∧ W'.cell? ⟨gx, 2, none⟩ = some (.int .i64 a2) ∧ W'.cell? ⟨gp, 0, none⟩ = some (.int .i64 p1) ∧ W'.cell? ⟨gp, 1, none⟩ = some (.int .i64 p2) ∧ W'.cell? ⟨gp, 2, none⟩ = some (.int .i64 p3)) (go_keep)
        (first
          | (go_at_call 43; (with_reducible refine (O1.out _).mono ?_); rintro e y5 ⟨rfl, b5⟩; (try (have b5 := undrew b5)); have HB2 := Lib.hid (chain HB2.out b5); have VB := Lib.hid (VB.out.below b5); have VP := Lib.hid (VP.out.below b5); clear b5; obtain ⟨e0, e1, e2⟩ := VB.out; obtain ⟨e3, e4, e5⟩ := VP.out; have c0 := keep1 HB2.out K.out.1; have c1 := keep1 HB2.out K.out.2.1; have c2 := keep1 HB2.out K.out.2.2)
          | fail)
      clear O1
      cases onk with
      | true =>
        obtain rfl : res = 0 := HZ1.out rfl
        clear HZ1 HAL T1 HIS1
        go_wp2
        go_ret
        exact ⟨rfl, by first | exact HB2.out | exact HB2.out.drew⟩
      | false =>
        have HALL := Lib.hid (HAL.out rfl)
        clear HZ1 HAL
        cases sk with
        | false =>
          have HI2 : Hid (ins (k + 1) = false) := by show _ = _; rw [HIS1.out]; rfl
          clear HIS1 T1
          go_upto_region 8 with (fail)
          go_quiet (fail)
          go_wp2
          go_roundw
          case rel => exact ⟨_, k + 1, rfl, by omega, by go_num, (by show _ = _; rw [HI2.out]), HALL.out, by first | exact VP.out | exact VP.out.drew, by first | exact HB2.out | exact HB2.out.drew | exact below_drewN HB2.out _⟩
          case measure => simp [intOf]; omega
        | true =>
          have HI2 : Hid (ins (k + 1) = decide (0 < tk)) := by show _ = _; rw [HIS1.out]; rfl
          clear HIS1
          go_upto_region 8 with (fail)
          go_region_held3 (fun W' => W'.cell? ⟨b, off + k * 3, none⟩ = some (.int .i64 x) ∧ W'.cell? ⟨b, off + k * 3 + 1, none⟩ = some (.int .i64 y) ∧ W'.cell? ⟨b, off + k * 3 + 2, none⟩ = some (.int .i64 z) ∧ W'.cell? ⟨gx, 0, none⟩ = some (.int .i64 a0) ∧ W'.cell? ⟨gx, 1, none⟩ = some (.int .i64 a1) ∧ W'.cell? ⟨gx, 2, none⟩ = some (.int .i64 a2) ∧ W'.cell? ⟨gp, 0, none⟩ = some (.int .i64 p1) ∧ W'.cell? ⟨gp, 1, none⟩ = some (.int .i64 p2) ∧ W'.cell? ⟨gp, 2, none⟩ = some (.int .i64 p3)) (go_keep)
            (first
              | (go_at_call 33; (with_reducible refine (T1.out _).mono ?_); rintro e y6 ⟨rfl, b5⟩; (try (have b5 := undrew b5)); have HB2 := Lib.hid (chain HB2.out b5); have VB := Lib.hid (VB.out.below b5); have VP := Lib.hid (VP.out.below b5); clear b5; obtain ⟨e0, e1, e2⟩ := VB.out; obtain ⟨e3, e4, e5⟩ := VP.out; have c0 := keep1 HB2.out K.out.1; have c1 := keep1 HB2.out K.out.2.1; have c2 := keep1 HB2.out K.out.2.2)
              | fail)
          go_wp2
          go_roundw
          case rel => exact ⟨_, k + 1, rfl, by omega, by go_num, (by show _ = _; rw [HI2.out]), HALL.out, by first | exact VP.out | exact VP.out.drew, by first | exact HB2.out | exact HB2.out.drew | exact below_drewN HB2.out _⟩
          case measure => simp [intOf]; omega
    · obtain rfl : k = n := by omega
      have hr := HNn.out hall.out
      clear hall HZ HNn HO HT HIS
      generalize ins k = sk at *
      cases sk with
      | true =>
        obtain rfl : res = 1 := hr
        clear hlt hk
        go_wp2
        go_ret
        exact ⟨rfl, hbl.out⟩
      | false =>
        obtain rfl : res = -1 := hr
        clear hlt hk
        go_wp2
        go_ret
        exact ⟨rfl, hbl.out⟩
end Go.Proofs.Ytbhdejlikipahaa

/- The side of a point: both ways to find it agree. -/
set_option linter.all false
namespace Go.Proofs.Ytbhdejlikipahaa
open Go.RowKit

theorem aff_tn_le {u v a b p : Hl.P2} (ha : 0 ≤ Hl.tn u v a) (hb : 0 ≤ Hl.tn u v b) (h : Hl.on a b p) : 0 ≤ Hl.tn u v p := by
  apply Classical.byContradiction
  intro hn
  obtain ⟨A, B, C, hA⟩ := Hl.aff_tn u v
  have e1 := hA a
  have e2 := hA b
  have e3 := hA p
  exact Hl.aff_on (A := A) (B := B) (C := C - Hl.tn u v p) (by omega) (by omega) (by omega) h
/-- Between two corners, on the line through them. -/
theorem on_edge {z a b c p : Hl.P2} (h1 : 0 < Hl.tn z a b) (h2 : 0 < Hl.tn a b c) (h0 : Hl.tn a b p = 0) (h3 : 0 ≤ Hl.tn b c p) (h4 : 0 ≤ Hl.tn z a p) : Hl.on a b p := by
  refine Hl.on_of h2 h0 h3 ?_
  have hc : 0 < Hl.tn c a b := by rw [← Hl.tn_rot]; exact h2
  have e : Hl.tn z a b * Hl.tn c a p = Hl.tn c a b * Hl.tn z a p - Hl.tn a b p * Hl.tn z a c := by unfold Hl.tn; grind
  rw [h0, Int.zero_mul, Int.sub_zero] at e
  have h5 := Int.mul_nonneg (Int.le_of_lt hc) h4
  apply Classical.byContradiction
  intro hn
  have h6 := Int.mul_pos h1 (show 0 < -Hl.tn c a p by omega)
  rw [Int.mul_neg] at h6
  omega
/-- A corner on the plane, counted round. -/
def fA (L : List T3) (k : Nat) : Hl.P2 := pl (gA L k)
theorem gA_mod (L : List T3) (k : Nat) : gA L (k % L.length) = gA L k := by unfold gA; rw [Nat.mod_mod]
theorem map_at {L : List T3} {k : Nat} (h : k < (L.map pl).length) : (L.map pl)[k] = fA L k := by
  rw [List.getElem_map]
  rw [List.length_map] at h
  rw [gA_at h]; rfl
theorem edge_pos {L : List T3} (hv : VH L) (h3 : 3 ≤ L.length) {k j : Nat} (hk : k < L.length) (hj : j < L.length) (n1 : j ≠ k) (n2 : j ≠ (k + 1) % L.length) : 0 < Hl.tn (fA L k) (fA L (k + 1)) (fA L j) := by
  have H := vh_isH hv
  have hl : (L.map pl).length = L.length := List.length_map _
  rcases Nat.lt_or_ge (k + 1) L.length with g | g
  · rw [Nat.mod_eq_of_lt g] at n2
    have := H.turn (by omega) k (by omega) j (by omega) n1 n2
    rwa [map_at, map_at, map_at] at this
  · have e : k = L.length - 1 := by omega
    have e2 : (k + 1) % L.length = 0 := by rw [show k + 1 = L.length by omega]; exact Nat.mod_self _
    rw [e2] at n2
    have := H.turn0 (by omega) j (by omega) (by omega) n2
    rw [map_at, map_at, map_at, hl, ← e] at this
    rw [show fA L (k + 1) = fA L 0 by unfold fA; rw [← gA_mod L (k + 1), e2]]
    exact this
theorem edge_nonneg {L : List T3} (hv : VH L) (h3 : 3 ≤ L.length) {k j : Nat} (hk : k < L.length) (hj : j < L.length) : 0 ≤ Hl.tn (fA L k) (fA L (k + 1)) (fA L j) := by
  by_cases n1 : j = k
  · subst n1; rw [Hl.tn_aba]; omega
  · by_cases n2 : j = (k + 1) % L.length
    · have : fA L j = fA L (k + 1) := by unfold fA; rw [n2, gA_mod]
      rw [this, Hl.tn_abb]; omega
    · have := edge_pos hv h3 hk hj n1 n2; omega
theorem t3_tn (a b p : T3) : t3 a b p = cmpI (Hl.tn (pl a) (pl b) (pl p)) 0 := rfl
theorem cmpI_cases (a : Int) : (a < 0 ∧ cmpI a 0 = -1) ∨ (a = 0 ∧ cmpI a 0 = 0) ∨ (0 < a ∧ cmpI a 0 = 1) := cmpI_three a
/-- The least turn. -/
theorem sS_le (L : List T3) (p : T3) : ∀ k, sS L p k ≤ 1 ∧ ∀ j, j < k → sS L p k ≤ t3 (gA L j) (gA L (j + 1)) p
  | 0 => ⟨by simp [sS], fun j hj => by omega⟩
  | k + 1 => by
    obtain ⟨h1, h2⟩ := sS_le L p k
    rw [sS]
    refine ⟨by omega, fun j hj => ?_⟩
    rcases Nat.lt_or_ge j k with g | g
    · have := h2 j g; omega
    · obtain rfl : j = k := by omega
      omega
theorem sS_mem (L : List T3) (p : T3) : ∀ k, sS L p k = 1 ∨ ∃ j, j < k ∧ sS L p k = t3 (gA L j) (gA L (j + 1)) p
  | 0 => .inl rfl
  | k + 1 => by
    rw [sS]
    rcases Int.le_total (sS L p k) (t3 (gA L k) (gA L (k + 1)) p) with g | g
    · rw [Int.min_eq_left g]
      rcases sS_mem L p k with h | ⟨j, hj, h⟩
      · exact .inl h
      · exact .inr ⟨j, by omega, h⟩
    · rw [Int.min_eq_right g]
      exact .inr ⟨k, by omega, rfl⟩
def onA (L : List T3) (p : T3) (k : Nat) : Bool := decide (Hl.on (fA L k) (fA L (k + 1)) (pl p))
def insA (L : List T3) (p : T3) : Nat → Bool
  | 0 => decide (2 < L.length)
  | k + 1 => insA L p k && decide (0 < t3 (gA L k) (gA L (k + 1)) p)
theorem insA_true {L : List T3} {p : T3} : ∀ {k}, insA L p k = true → 2 < L.length ∧ ∀ j, j < k → 0 < t3 (gA L j) (gA L (j + 1)) p
  | 0, h => ⟨by simpa [insA] using h, fun j hj => by omega⟩
  | k + 1, h => by
    rw [insA, Bool.and_eq_true, decide_eq_true_eq] at h
    obtain ⟨h1, h2⟩ := insA_true h.1
    refine ⟨h1, fun j hj => ?_⟩
    rcases Nat.lt_or_ge j k with g | g
    · exact h2 j g
    · obtain rfl : j = k := by omega
      exact h.2
theorem insA_of {L : List T3} {p : T3} (h0 : 2 < L.length) : ∀ {k}, (∀ j, j < k → 0 < t3 (gA L j) (gA L (j + 1)) p) → insA L p k = true
  | 0, _ => by simpa [insA] using h0
  | k + 1, h => by
    rw [insA, Bool.and_eq_true, decide_eq_true_eq]
    exact ⟨insA_of h0 (fun j hj => h j (by omega)), h k (by omega)⟩
/-- With three corners or more. -/
theorem side_great {L : List T3} (hv : VH L) (h3 : 3 ≤ L.length) (p : T3) :
    (∀ k, k < L.length → onA L p k = true → sS L p L.length = 0) ∧ ((∀ k, k < L.length → onA L p k = false) → sS L p L.length = if insA L p L.length then 1 else -1) := by
  have hm : ∀ k, (k + 1) % L.length < L.length := fun k => Nat.mod_lt _ (by omega)
  have fm : ∀ k, fA L (k % L.length) = fA L k := fun k => by unfold fA; rw [gA_mod]
  constructor
  · intro k hk ho
    unfold onA at ho
    rw [decide_eq_true_eq] at ho
    have hall : ∀ j, j < L.length → 0 ≤ t3 (gA L j) (gA L (j + 1)) p := by
      intro j hj
      have h1 := edge_nonneg hv h3 hj hk
      have h2 := edge_nonneg hv h3 hj (hm k)
      rw [fm] at h2
      have := aff_tn_le h1 h2 ho
      rw [t3_tn]
      rcases cmpI_cases (Hl.tn (pl (gA L j)) (pl (gA L (j + 1))) (pl p)) with ⟨a, b⟩ | ⟨a, b⟩ | ⟨a, b⟩
      · exact absurd (show 0 ≤ Hl.tn (pl (gA L j)) (pl (gA L (j + 1))) (pl p) from this) (by omega)
      · omega
      · omega
    have h0 : t3 (gA L k) (gA L (k + 1)) p = 0 := by
      rw [t3_tn]
      have : Hl.tn (pl (gA L k)) (pl (gA L (k + 1))) (pl p) = 0 := ho.1
      rw [this]; rfl
    have h1 := (sS_le L p L.length).2 k hk
    rcases sS_mem L p L.length with h | ⟨j, hj, h⟩
    · omega
    · have := hall j hj; omega
  · intro hno
    by_cases hi : insA L p L.length = true
    · rw [if_pos hi]
      obtain ⟨_, h2⟩ := insA_true hi
      rcases sS_mem L p L.length with h | ⟨j, hj, h⟩
      · exact h
      · have h4 := h2 j hj
        have h5 := (sS_le L p L.length).1
        omega
    · rw [if_neg hi]
      apply Classical.byContradiction
      intro hne
      have hge : ∀ j, j < L.length → 0 ≤ Hl.tn (fA L j) (fA L (j + 1)) (pl p) := by
        intro j hj
        apply Classical.byContradiction
        intro hn
        apply hne
        have h4 := (sS_le L p L.length).2 j hj
        rw [t3_tn] at h4
        rcases cmpI_cases (Hl.tn (pl (gA L j)) (pl (gA L (j + 1))) (pl p)) with ⟨a, b⟩ | ⟨a, b⟩ | ⟨a, b⟩
        · rcases sS_mem L p L.length with h | ⟨i, hi, h⟩
          · omega
          · rw [t3_tn] at h
            rcases cmpI_cases (Hl.tn (pl (gA L i)) (pl (gA L (i + 1))) (pl p)) with ⟨c, d⟩ | ⟨c, d⟩ | ⟨c, d⟩ <;> omega
        · exact absurd a (by unfold fA at hn; omega)
        · exact absurd a (by unfold fA at hn; omega)
      have hpos : ∀ j, j < L.length → 0 < Hl.tn (fA L j) (fA L (j + 1)) (pl p) := by
        intro j hj
        apply Classical.byContradiction
        intro hn
        have h0 : Hl.tn (fA L j) (fA L (j + 1)) (pl p) = 0 := by have := hge j hj; omega
        have := hno j hj
        unfold onA at this
        rw [decide_eq_false_iff_not] at this
        apply this
        -- the edge before and the edge behind
        obtain ⟨i, hi, hij⟩ : ∃ i, i < L.length ∧ (i + 1) % L.length = j := by
          rcases Nat.eq_zero_or_pos j with rfl | j0
          · exact ⟨L.length - 1, by omega, by rw [show L.length - 1 + 1 = L.length by omega]; exact Nat.mod_self _⟩
          · exact ⟨j - 1, by omega, by rw [show j - 1 + 1 = j by omega]; exact Nat.mod_eq_of_lt hj⟩
        have fi : fA L (i + 1) = fA L j := by rw [← fm (i + 1), hij]
        have e1 : i ≠ j := by
          intro e
          rw [e] at hij
          rcases Nat.lt_or_ge (j + 1) L.length with g | g
          · rw [Nat.mod_eq_of_lt g] at hij; omega
          · rw [show j + 1 = L.length by omega, Nat.mod_self] at hij; omega
        have e2 : i ≠ (j + 1) % L.length := by
          intro e
          rcases Nat.lt_or_ge (i + 1) L.length with g | g
          · rw [Nat.mod_eq_of_lt g] at hij
            rcases Nat.lt_or_ge (j + 1) L.length with g2 | g2
            · rw [Nat.mod_eq_of_lt g2] at e; omega
            · rw [show j + 1 = L.length by omega, Nat.mod_self] at e; omega
          · rw [show i + 1 = L.length by omega, Nat.mod_self] at hij
            subst hij
            rw [Nat.mod_eq_of_lt (by omega)] at e
            omega
        have p1 := edge_pos hv h3 hj hi e1 e2
        have p1' : 0 < Hl.tn (fA L i) (fA L j) (fA L (j + 1)) := by rw [← Hl.tn_rot]; exact p1
        have hk := hm j
        obtain ⟨k, hkk⟩ : ∃ k, k = (j + 1) % L.length := ⟨_, rfl⟩
        rw [← hkk] at hk e2
        have fk : fA L k = fA L (j + 1) := by rw [hkk, fm]
        have fk1 : fA L (k + 1) = fA L (j + 1 + 1) := by
          rw [← fm (k + 1), ← fm (j + 1 + 1), hkk]
          congr 1
          rw [Nat.mod_add_mod]
        have e3 : j ≠ k := by
          intro e
          rw [← e] at hkk
          rcases Nat.lt_or_ge (j + 1) L.length with g | g
          · rw [Nat.mod_eq_of_lt g] at hkk; omega
          · rw [show j + 1 = L.length by omega, Nat.mod_self] at hkk; omega
        have e4 : j ≠ (k + 1) % L.length := by
          intro e
          rcases Nat.lt_or_ge (j + 1) L.length with g | g
          · rw [Nat.mod_eq_of_lt g] at hkk
            rcases Nat.lt_or_ge (k + 1) L.length with g2 | g2
            · rw [Nat.mod_eq_of_lt g2] at e; omega
            · rw [show k + 1 = L.length by omega, Nat.mod_self] at e; omega
          · rw [show j + 1 = L.length by omega, Nat.mod_self] at hkk
            subst hkk
            rw [Nat.mod_eq_of_lt (by omega)] at e
            omega
        have p2 := edge_pos hv h3 hk hj e3 e4
        rw [fk, fk1] at p2
        have q1 := hge i hi
        rw [fi] at q1
        have q2 := hge k hk
        rw [fk, fk1] at q2
        refine on_edge p1' (c := fA L (j + 1 + 1)) ?_ h0 q2 q1
        rw [← Hl.tn_rot]
        exact p2
      exact hi (insA_of (by omega) (fun j hj => by
        rw [t3_tn]
        have := hpos j hj
        rcases cmpI_cases (Hl.tn (pl (gA L j)) (pl (gA L (j + 1))) (pl p)) with ⟨a, b⟩ | ⟨a, b⟩ | ⟨a, b⟩
        · unfold fA at this; omega
        · unfold fA at this; omega
        · omega))
/-- On a line: between, in the order of vectors. -/
theorem sol_on {a b p : T3} (ha : a.2.2 = 0) (hb : b.2.2 = 0) (hp : p.2.2 = 0) (hab : L3 a b ∨ a = b) : solV a b p = if Hl.on (pl a) (pl b) (pl p) then 0 else -1 := by
  have hd1 : ∀ {x y : T3}, x.2.2 = 0 → y.2.2 = 0 → (L3 x y ↔ Hl.lt (pl x) (pl y)) := by
    intro x y hx hy
    unfold L3 Hl.lt pl
    simp only
    omega
  have hc : ∀ {x y : T3}, ¬ c3 x y ≤ 0 ↔ L3 y x := by
    intro x y
    have h1 := c3_neg y x
    have h2 : c3 y x < 0 ↔ 0 < c3 x y := by
      unfold c3 vC cmpI
      split <;> split <;> (try split) <;> (try split) <;> (try split) <;> (try split) <;> (try split) <;> (try split) <;> (try split) <;> (try split) <;> omega
    rw [← h1, h2]; omega
  unfold solV
  rw [t3_tn]
  by_cases h0 : Hl.tn (pl a) (pl b) (pl p) = 0
  · rw [h0, show cmpI 0 0 = 0 from rfl, if_neg (by simp)]
    by_cases h1 : L3 p a
    · rw [if_pos (hc.2 h1), if_neg]
      intro ho
      have h1' := (hd1 hp ha).1 h1
      obtain ⟨_, o1, o2, o3, o4⟩ := ho
      have hab' : Hl.lt (pl a) (pl b) ∨ pl a = pl b := hab.imp (hd1 ha hb).1 (fun e => by rw [e])
      unfold Hl.tn at h0
      rcases hab' with hab' | hab'
      · unfold Hl.lt at *
        rcases h1' with h1' | ⟨h1', h1''⟩
        · omega
        · rcases hab' with g | ⟨g, g'⟩
          · have z1 : (pl p).1 - (pl a).1 = 0 := by omega
            rw [z1, Int.mul_zero, Int.sub_zero] at h0
            rcases Int.mul_eq_zero.1 h0 with z | z <;> omega
          · omega
      · have e1 := congrArg Prod.fst hab'
        have e2 := congrArg Prod.snd hab'
        unfold Hl.lt at h1'
        omega
    · rw [if_neg (fun k => h1 (hc.1 k))]
      by_cases h2 : L3 b p
      · rw [if_pos (hc.2 h2), if_neg]
        intro ho
        have h2' := (hd1 hb hp).1 h2
        obtain ⟨_, o1, o2, o3, o4⟩ := ho
        have hab' : Hl.lt (pl a) (pl b) ∨ pl a = pl b := hab.imp (hd1 ha hb).1 (fun e => by rw [e])
        unfold Hl.tn at h0
        rcases hab' with hab' | hab'
        · unfold Hl.lt at *
          rcases h2' with h2' | ⟨h2', h2''⟩
          · omega
          · rcases hab' with g | ⟨g, g'⟩
            · have z1 : (pl p).1 - (pl a).1 = (pl b).1 - (pl a).1 := by omega
              rw [z1, Int.mul_comm ((pl b).2 - (pl a).2), ← Int.mul_sub] at h0
              rcases Int.mul_eq_zero.1 h0 with z | z <;> omega
            · omega
        · have e1 := congrArg Prod.fst hab'
          have e2 := congrArg Prod.snd hab'
          unfold Hl.lt at h2'
          omega
      · rw [if_neg (fun k => h2 (hc.1 k)), if_pos]
        have n1 : ¬ Hl.lt (pl p) (pl a) := fun k => h1 ((hd1 hp ha).2 k)
        have n2 : ¬ Hl.lt (pl b) (pl p) := fun k => h2 ((hd1 hb hp).2 k)
        rcases Hl.lt_tri (pl p) (pl a) with g | g | g
        · exact absurd g n1
        · rw [g]; exact ⟨Hl.tn_aba _ _, by omega, by omega, by omega, by omega⟩
        · rcases Hl.lt_tri (pl p) (pl b) with g2 | g2 | g2
          · exact Hl.on_mid g g2 h0
          · rw [g2]; exact ⟨Hl.tn_abb _ _, by omega, by omega, by omega, by omega⟩
          · exact absurd g2 n2
  · have hne : cmpI (Hl.tn (pl a) (pl b) (pl p)) 0 ≠ 0 := fun e => h0 (cmpI_zero.1 e)
    rw [if_pos hne, if_neg (fun k => h0 k.1)]
/-- With one corner or two. -/
theorem side_small {L : List T3} (hv : VH L) (h3 : L.length ≤ 2) (p : T3) (hp : p.2.2 = 0) :
    (∀ k, k < L.length → onA L p k = true → solV (gA L 0) (gA L (L.length - 1)) p = 0) ∧ ((∀ k, k < L.length → onA L p k = false) → solV (gA L 0) (gA L (L.length - 1)) p = if insA L p L.length then 1 else -1) := by
  have hi : insA L p L.length = false := Bool.eq_false_iff.2 (fun h => by have := (insA_true h).1; omega)
  rw [hi]
  have h1 := hv.1
  have hz : ∀ k, (gA L k).2.2 = 0 := by
    intro k
    have hk := Nat.mod_lt k h1
    rw [← gA_nx hk]
    exact hv.2.2.2.1 _ (List.getElem_mem hk)
  have ge : ∀ k, gA L k = gA L (k % L.length) := fun k => (gA_mod L k).symm
  rcases (by omega : L.length = 1 ∨ L.length = 2) with e | e
  · have g1 : gA L 1 = gA L 0 := by rw [ge 1, e]
    have s := sol_on (hz 0) (hz 0) hp (.inr rfl)
    rw [e]
    constructor
    · intro k hk ho
      obtain rfl : k = 0 := by omega
      unfold onA fA at ho
      rw [decide_eq_true_eq, g1] at ho
      rw [s, if_pos ho]
    · intro hno
      have := hno 0 (by omega)
      unfold onA fA at this
      rw [decide_eq_false_iff_not, g1] at this
      rw [s, if_neg this]; rfl
  · have g2 : gA L 2 = gA L 0 := by rw [ge 2, e]
    have hlt : L3 (gA L 0) (gA L 1) := by
      have := (c3_neg _ _).1 (hv.2.2.2.2.1 1 (by omega) (by omega))
      rwa [gA_at (by omega), gA_at (by omega)] at this
    have s := sol_on (hz 0) (hz 1) hp (.inl hlt)
    rw [e]
    constructor
    · intro k hk ho
      unfold onA fA at ho
      rw [decide_eq_true_eq] at ho
      rw [s, if_pos]
      rcases (by omega : k = 0 ∨ k = 1) with rfl | rfl
      · exact ho
      · rw [g2] at ho; exact Hl.on_symm ho
    · intro hno
      have := hno 0 (by omega)
      unfold onA fA at this
      rw [decide_eq_false_iff_not] at this
      rw [s, if_neg this]; rfl
/-- The reference's Side is Side. -/
theorem rSideH_any (L : List T3) (v : Value) (p1 p2 p3 : Int) (w : World) (h : Rv w v L) (hv : VH L) (hq : inV 1048576 p1 p2 p3 = true) :
    Calls Try.prog 18 #[v, vv p1 p2 p3] w (Ret (.int .i64 (sideV L (p1, p2, p3))) w) := by
  obtain ⟨b, off, cap, rfl, hb⟩ := rv_at h hv.1
  have hl := hv.2.2.1
  have hin := fun k => inV_up (gA_in hl hv.1 k)
  have key : (∀ k, k < L.length → onA L (p1, p2, 0) k = true → sideV L (p1, p2, p3) = 0) ∧ ((∀ k, k < L.length → onA L (p1, p2, 0) k = false) → sideV L (p1, p2, p3) = if insA L (p1, p2, 0) L.length then 1 else -1) := by
    unfold sideV
    split
    · next h2 => exact side_small hv h2 (p1, p2, 0) rfl
    · next h2 => exact side_great hv (by omega) (p1, p2, 0)
  exact rside_walk L b off cap L.length p1 p2 p3 w rfl hv.2.1 h hv.1 (onA L (p1, p2, 0)) (fun k => t3 (gA L k) (gA L (k + 1)) (p1, p2, 0)) (insA L (p1, p2, 0)) _ rfl (fun k _ => rfl)
    (fun k _ w' => On_any (hin k) (hin (k + 1)) (inV_up hq) w') (fun k _ w' => rTurn_any (hin k) (hin (k + 1)) (inV_up hq) w') key.1 key.2
end Go.Proofs.Ytbhdejlikipahaa

/- HullSides: the walk over what its calls give. -/
set_option linter.all false
namespace Go.Proofs.Ytbhdejlikipahaa
open Go.RowKit

theorem rPoint_kn (p1 p2 p3 : Int) (r : Bool) (w : World) (h : inV 1048576 p1 p2 p3 = r) : Calls Try.prog 17 #[vv p1 p2 p3] w (Ret (.bool r) w) := by
  have := rPoint_any p1 p2 p3 w
  rwa [h] at this
theorem rSideH_kn (L : List T3) (v : Value) (p1 p2 p3 W : Int) (w : World) (h : Rv w v L) (hv : VH L) (hq : inV 1048576 p1 p2 p3 = true) (hs : sideV L (p1, p2, p3) = W) :
    Calls Try.prog 18 #[v, vv p1 p2 p3] w (Ret (.int .i64 W) w) := by
  have := rSideH_any L v p1 p2 p3 w h hv hq
  rwa [hs] at this

set_option maxRecDepth 100000 in
set_option maxHeartbeats 8000000 in
theorem sides_long (L : List T3) (v : Value) (p1 p2 p3 : Int) (w : World) (hl : Rv w v L) (hL : 10 < L.length) :
    Calls Try.prog 4 #[v, vv p1 p2 p3] w (Ret (.bool true) w) := by
  have R := Lib.hid hl
  clear hl
  obtain ⟨p, bb, off, cap, rfl, -⟩ := id R.out
  obtain ⟨n, hn⟩ : ∃ n, n = L.length := ⟨_, rfl⟩
  rw [← hn] at R hL ⊢
  have i0 : (10 : Int) < (n : Int) := by omega
  clear hn hL
  go_enter Try.func4, Try.ntmps4
  go_upto_region 1 with (fail)
  obtain ⟨u0, hu⟩ : ∃ u0 : World, u0 = w.alloc (.cells #[.int .i64 p1, .int .i64 p2, .int .i64 p3] 31) := ⟨_, rfl⟩
  have VP : Hid (V3 u0 w.heap.size p1 p2 p3) := by rw [hu]; exact (vf_made _ _ _ _).1
  have E : Hid (Below w.heap.size w u0) := by rw [hu]; exact below_one w _
  have R : Hid (Rv u0 (.slice p n cap) L) := R.out.below E.out
  obtain ⟨gp, hg⟩ : ∃ g, g = w.heap.size := ⟨_, rfl⟩
  rw [← hg] at VP
  rw [← hu, ← hg]
  clear hu hg
  obtain ⟨e0, e1, e2⟩ := VP.out
  go_wp2_with fail
  refine (known_true _).mono ?_
  rintro e y1 ⟨rfl, b⟩
  have R := Lib.hid (R.out.below b)
  have VP := Lib.hid (VP.out.below b)
  have E := Lib.hid (chain E.out b)
  clear b e0 e1 e2
  obtain ⟨e0, e1, e2⟩ := VP.out
  go_wp2
  go_ret
  exact ⟨rfl, E.out⟩

set_option maxRecDepth 100000 in
set_option maxHeartbeats 8000000 in
theorem sides_bad1 (L : List T3) (v : Value) (p1 p2 p3 : Int) (w : World) (hl : Rv w v L) (hL : L.length ≤ 10) (h : ¬ VH L) :
    Calls Try.prog 4 #[v, vv p1 p2 p3] w (Ret (.bool true) w) := by
  have H := Lib.hid h
  clear h
  have R := Lib.hid hl
  clear hl
  obtain ⟨p, bb, off, cap, rfl, -⟩ := id R.out
  obtain ⟨n, hn⟩ : ∃ n, n = L.length := ⟨_, rfl⟩
  rw [← hn] at R hL ⊢
  have i0 : ¬ (10 : Int) < (n : Int) := by omega
  clear hn hL
  go_enter Try.func4, Try.ntmps4
  go_upto_region 1 with (fail)
  obtain ⟨u0, hu⟩ : ∃ u0 : World, u0 = w.alloc (.cells #[.int .i64 p1, .int .i64 p2, .int .i64 p3] 31) := ⟨_, rfl⟩
  have VP : Hid (V3 u0 w.heap.size p1 p2 p3) := by rw [hu]; exact (vf_made _ _ _ _).1
  have E : Hid (Below w.heap.size w u0) := by rw [hu]; exact below_one w _
  have R : Hid (Rv u0 (.slice p n cap) L) := R.out.below E.out
  obtain ⟨gp, hg⟩ : ∃ g, g = w.heap.size := ⟨_, rfl⟩
  rw [← hg] at VP
  rw [← hu, ← hg]
  clear hu hg
  obtain ⟨e0, e1, e2⟩ := VP.out
  go_wp2_with fail
  refine (Side_bad L _ _ _ _ _ R.out (fun k => H.out k.1)).mono ?_
  rintro e y1 ⟨rfl, b⟩
  have R := Lib.hid (R.out.below b)
  have VP := Lib.hid (VP.out.below b)
  have E := Lib.hid (chain E.out b)
  clear b e0 e1 e2
  obtain ⟨e0, e1, e2⟩ := VP.out
  go_wp2_with fail
  refine ((show Calls Try.prog 15 _ _ (Ret (.bool false) _) from by have := rValidH_any L _ _ R.out; rwa [decide_eq_false H.out] at this)).mono ?_
  rintro e y2 ⟨rfl, b⟩
  have R := Lib.hid (R.out.below b)
  have VP := Lib.hid (VP.out.below b)
  have E := Lib.hid (chain E.out b)
  clear b e0 e1 e2
  obtain ⟨e0, e1, e2⟩ := VP.out
  go_wp2_with fail
  refine ((show Calls Try.prog 16 _ _ (Ret (.bool false) _) from by have := Valid_anyH L _ _ R.out; rwa [decide_eq_false H.out] at this)).mono ?_
  rintro e y3 ⟨rfl, b⟩
  have R := Lib.hid (R.out.below b)
  have VP := Lib.hid (VP.out.below b)
  have E := Lib.hid (chain E.out b)
  clear b e0 e1 e2
  obtain ⟨e0, e1, e2⟩ := VP.out
  go_wp2_with fail
  refine (known_true _).mono ?_
  rintro e y4 ⟨rfl, b⟩
  have R := Lib.hid (R.out.below b)
  have VP := Lib.hid (VP.out.below b)
  have E := Lib.hid (chain E.out b)
  clear b e0 e1 e2
  obtain ⟨e0, e1, e2⟩ := VP.out
  go_wp2
  go_ret
  exact ⟨rfl, E.out⟩

set_option maxRecDepth 100000 in
set_option maxHeartbeats 8000000 in
theorem sides_bad2 (L : List T3) (v : Value) (p1 p2 p3 : Int) (w : World) (hl : Rv w v L) (hL : L.length ≤ 10) (h : VH L) (hq : inV 1048576 p1 p2 p3 = false) :
    Calls Try.prog 4 #[v, vv p1 p2 p3] w (Ret (.bool true) w) := by
  have H := Lib.hid h
  have HQ := Lib.hid hq
  clear h hq
  have R := Lib.hid hl
  clear hl
  obtain ⟨p, bb, off, cap, rfl, -⟩ := id R.out
  obtain ⟨n, hn⟩ : ∃ n, n = L.length := ⟨_, rfl⟩
  rw [← hn] at R hL ⊢
  have i0 : ¬ (10 : Int) < (n : Int) := by omega
  clear hn hL
  go_enter Try.func4, Try.ntmps4
  go_upto_region 1 with (fail)
  obtain ⟨u0, hu⟩ : ∃ u0 : World, u0 = w.alloc (.cells #[.int .i64 p1, .int .i64 p2, .int .i64 p3] 31) := ⟨_, rfl⟩
  have VP : Hid (V3 u0 w.heap.size p1 p2 p3) := by rw [hu]; exact (vf_made _ _ _ _).1
  have E : Hid (Below w.heap.size w u0) := by rw [hu]; exact below_one w _
  have R : Hid (Rv u0 (.slice p n cap) L) := R.out.below E.out
  obtain ⟨gp, hg⟩ : ∃ g, g = w.heap.size := ⟨_, rfl⟩
  rw [← hg] at VP
  rw [← hu, ← hg]
  clear hu hg
  obtain ⟨e0, e1, e2⟩ := VP.out
  go_wp2_with fail
  refine (Side_bad L _ _ _ _ _ R.out (fun k => Bool.eq_false_iff.1 HQ.out k.2)).mono ?_
  rintro e y1 ⟨rfl, b⟩
  have R := Lib.hid (R.out.below b)
  have VP := Lib.hid (VP.out.below b)
  have E := Lib.hid (chain E.out b)
  clear b e0 e1 e2
  obtain ⟨e0, e1, e2⟩ := VP.out
  go_wp2_with fail
  refine ((show Calls Try.prog 15 _ _ (Ret (.bool true) _) from by have := rValidH_any L _ _ R.out; rwa [decide_eq_true H.out] at this)).mono ?_
  rintro e y2 ⟨rfl, b⟩
  have R := Lib.hid (R.out.below b)
  have VP := Lib.hid (VP.out.below b)
  have E := Lib.hid (chain E.out b)
  clear b e0 e1 e2
  obtain ⟨e0, e1, e2⟩ := VP.out
  go_wp2_with fail
  refine ((show Calls Try.prog 16 _ _ (Ret (.bool true) _) from by have := Valid_anyH L _ _ R.out; rwa [decide_eq_true H.out] at this)).mono ?_
  rintro e y3 ⟨rfl, b⟩
  have R := Lib.hid (R.out.below b)
  have VP := Lib.hid (VP.out.below b)
  have E := Lib.hid (chain E.out b)
  clear b e0 e1 e2
  obtain ⟨e0, e1, e2⟩ := VP.out
  go_wp2_with fail
  refine (rPoint_kn p1 p2 p3 false _ HQ.out).mono ?_
  rintro e y4 ⟨rfl, b⟩
  have R := Lib.hid (R.out.below b)
  have VP := Lib.hid (VP.out.below b)
  have E := Lib.hid (chain E.out b)
  clear b e0 e1 e2
  obtain ⟨e0, e1, e2⟩ := VP.out
  go_wp2_with fail
  refine (known_true _).mono ?_
  rintro e y5 ⟨rfl, b⟩
  have R := Lib.hid (R.out.below b)
  have VP := Lib.hid (VP.out.below b)
  have E := Lib.hid (chain E.out b)
  clear b e0 e1 e2
  obtain ⟨e0, e1, e2⟩ := VP.out
  go_wp2
  go_ret
  exact ⟨rfl, E.out⟩

set_option maxRecDepth 100000 in
set_option maxHeartbeats 8000000 in
theorem sides_ok (L : List T3) (v : Value) (p1 p2 p3 : Int) (w : World) (hl : Rv w v L) (hL : L.length ≤ 10) (h : VH L) (hq : inV 1048576 p1 p2 p3 = true) (W : Int) (hW : sideV L (p1, p2, p3) = W) :
    Calls Try.prog 4 #[v, vv p1 p2 p3] w (Ret (.bool true) w) := by
  have H := Lib.hid h
  have HQ := Lib.hid hq
  have HW := Lib.hid hW
  clear h hq hW
  have R := Lib.hid hl
  clear hl
  obtain ⟨p, bb, off, cap, rfl, -⟩ := id R.out
  obtain ⟨n, hn⟩ : ∃ n, n = L.length := ⟨_, rfl⟩
  rw [← hn] at R hL ⊢
  have i0 : ¬ (10 : Int) < (n : Int) := by omega
  clear hn hL
  go_enter Try.func4, Try.ntmps4
  go_upto_region 1 with (fail)
  obtain ⟨u0, hu⟩ : ∃ u0 : World, u0 = w.alloc (.cells #[.int .i64 p1, .int .i64 p2, .int .i64 p3] 31) := ⟨_, rfl⟩
  have VP : Hid (V3 u0 w.heap.size p1 p2 p3) := by rw [hu]; exact (vf_made _ _ _ _).1
  have E : Hid (Below w.heap.size w u0) := by rw [hu]; exact below_one w _
  have R : Hid (Rv u0 (.slice p n cap) L) := R.out.below E.out
  obtain ⟨gp, hg⟩ : ∃ g, g = w.heap.size := ⟨_, rfl⟩
  rw [← hg] at VP
  rw [← hu, ← hg]
  clear hu hg
  obtain ⟨e0, e1, e2⟩ := VP.out
  go_wp2_with fail
  refine (Side_kn L _ _ _ _ W _ R.out H.out HQ.out HW.out).mono ?_
  rintro e y1 ⟨rfl, b⟩
  have R := Lib.hid (R.out.below b)
  have VP := Lib.hid (VP.out.below b)
  have E := Lib.hid (chain E.out b)
  clear b e0 e1 e2
  obtain ⟨e0, e1, e2⟩ := VP.out
  go_wp2_with fail
  refine ((show Calls Try.prog 15 _ _ (Ret (.bool true) _) from by have := rValidH_any L _ _ R.out; rwa [decide_eq_true H.out] at this)).mono ?_
  rintro e y2 ⟨rfl, b⟩
  have R := Lib.hid (R.out.below b)
  have VP := Lib.hid (VP.out.below b)
  have E := Lib.hid (chain E.out b)
  clear b e0 e1 e2
  obtain ⟨e0, e1, e2⟩ := VP.out
  go_wp2_with fail
  refine ((show Calls Try.prog 16 _ _ (Ret (.bool true) _) from by have := Valid_anyH L _ _ R.out; rwa [decide_eq_true H.out] at this)).mono ?_
  rintro e y3 ⟨rfl, b⟩
  have R := Lib.hid (R.out.below b)
  have VP := Lib.hid (VP.out.below b)
  have E := Lib.hid (chain E.out b)
  clear b e0 e1 e2
  obtain ⟨e0, e1, e2⟩ := VP.out
  go_wp2_with fail
  refine (rPoint_kn p1 p2 p3 true _ HQ.out).mono ?_
  rintro e y4 ⟨rfl, b⟩
  have R := Lib.hid (R.out.below b)
  have VP := Lib.hid (VP.out.below b)
  have E := Lib.hid (chain E.out b)
  clear b e0 e1 e2
  obtain ⟨e0, e1, e2⟩ := VP.out
  go_wp2_with fail
  refine (rSideH_kn L _ _ _ _ W _ R.out H.out HQ.out HW.out).mono ?_
  rintro e y5 ⟨rfl, b⟩
  have R := Lib.hid (R.out.below b)
  have VP := Lib.hid (VP.out.below b)
  have E := Lib.hid (chain E.out b)
  clear b e0 e1 e2
  obtain ⟨e0, e1, e2⟩ := VP.out
  go_wp2_with fail
  refine (known_true _).mono ?_
  rintro e y6 ⟨rfl, b⟩
  have R := Lib.hid (R.out.below b)
  have VP := Lib.hid (VP.out.below b)
  have E := Lib.hid (chain E.out b)
  clear b e0 e1 e2
  obtain ⟨e0, e1, e2⟩ := VP.out
  go_wp2
  go_ret
  exact ⟨rfl, E.out⟩

/-- HullSides gives true for every list of vectors and every vector. -/
theorem sides_any (L : List T3) (v : Value) (p1 p2 p3 : Int) (w : World) (hl : Rv w v L) :
    Calls Try.prog 4 #[v, vv p1 p2 p3] w (Ret (.bool true) w) := by
  by_cases h1 : 10 < L.length
  · exact sides_long L v p1 p2 p3 w hl h1
  · by_cases h2 : VH L
    · by_cases h3 : inV 1048576 p1 p2 p3 = true
      · exact sides_ok L v p1 p2 p3 w hl (by omega) h2 h3 _ rfl
      · exact sides_bad2 L v p1 p2 p3 w hl (by omega) h2 (Bool.eq_false_iff.2 h3)
    · exact sides_bad1 L v p1 p2 p3 w hl (by omega) h2
end Go.Proofs.Ytbhdejlikipahaa
