/- What the theorem leans on, part 0: Hgh, Phy, Psa, Psb, Psd, Hgi, Pse, Hgj, Ptd. -/
import Derived.Test.YtpkfngfenkcjoaaZ7
import Derived.Test.YtpkfngfenkcjoaaZ9
import Derived.Test.YtpkfngfenkcjoaaZ4
import Derived.Test.YtpkfngfenkcjoaaZ5

/- A list that turns left all round is its own hull, and a hull is the only one. Plain facts. -/
set_option linter.all false
namespace Go.Proofs.Ytpkfngfenkcjoaa.Hl

/-- From the least point, turns to the left carry on. -/
theorem fan {o a b c : P2} (ha : lt o a) (hb : lt o b) (hc : lt o c) (h1 : 0 < tn o a b) (h2 : 0 < tn o b c) : 0 < tn o a c := by
  obtain ⟨u, hu⟩ : ∃ u : P2, u = (a.1 - o.1, a.2 - o.2) := ⟨_, rfl⟩
  obtain ⟨v, hv⟩ : ∃ v : P2, v = (b.1 - o.1, b.2 - o.2) := ⟨_, rfl⟩
  obtain ⟨x, hx⟩ : ∃ x : P2, x = (c.1 - o.1, c.2 - o.2) := ⟨_, rfl⟩
  have g1 : 0 < u.1 * v.2 - u.2 * v.1 := by subst hu hv; exact h1
  have g2 : 0 < v.1 * x.2 - v.2 * x.1 := by subst hv hx; exact h2
  have g3 : tn o a c = u.1 * x.2 - u.2 * x.1 := by subst hu hx; rfl
  have p1 : 0 < u.1 ∨ (u.1 = 0 ∧ 0 < u.2) := by subst hu; unfold lt at ha; simp only; omega
  have p2 : 0 < v.1 ∨ (v.1 = 0 ∧ 0 < v.2) := by subst hv; unfold lt at hb; simp only; omega
  have p3 : 0 < x.1 ∨ (x.1 = 0 ∧ 0 < x.2) := by subst hx; unfold lt at hc; simp only; omega
  rw [g3]
  have id1 : (u.1 * x.2 - u.2 * x.1) * v.1 = (u.1 * v.2 - u.2 * v.1) * x.1 + (v.1 * x.2 - v.2 * x.1) * u.1 := by grind
  rcases p2 with p2 | ⟨p2, p2'⟩
  · rcases p1 with p1 | ⟨p1, p1'⟩
    · have m1 := Int.mul_pos g2 p1
      have m2 : 0 ≤ (u.1 * v.2 - u.2 * v.1) * x.1 := Int.mul_nonneg (by omega) (by omega)
      exact Int.pos_of_mul_pos_left (by omega : 0 < (u.1 * x.2 - u.2 * x.1) * v.1) p2
    · rw [p1] at g1
      have := Int.mul_pos p1' p2
      omega
  · rw [p2] at g2
    rcases p3 with p3 | ⟨p3, p3'⟩
    · have := Int.mul_pos p2' p3
      omega
    · rw [p3] at g2; omega
theorem lift1 {o a k q l : P2} (h1 : 0 < tn o l k) (h2 : 0 < tn a l k) (h3 : 0 < tn o k q) (h4 : 0 < tn o a k) (h5 : 0 < tn l k q) : 0 < tn a k q := by
  have id1 : tn o l k * tn a k q = tn a l k * tn o k q + tn o a k * tn l k q := by unfold tn; grind
  have m1 := Int.mul_pos h2 h3
  have m2 := Int.mul_pos h4 h5
  exact Int.pos_of_mul_pos_right (by omega : 0 < tn o l k * tn a k q) h1
theorem lift2 {o a b k q : P2} (h1 : 0 < tn o b k) (h2 : 0 < tn o b q) (h3 : 0 < tn a b k) (h4 : 0 < tn b k q) (h5 : 0 < tn o a b) : 0 < tn a b q := by
  have id1 : tn o b k * tn a b q = tn o b q * tn a b k + tn b k q * tn o a b := by unfold tn; grind
  have m1 := Int.mul_pos h2 h3
  have m2 := Int.mul_pos h4 h5
  exact Int.pos_of_mul_pos_right (by omega : 0 < tn o b k * tn a b q) h1
/-- Turns to the left one after another, and seen from the least one: so all of them. -/
theorem triples {P : Nat → P2} {n : Nat} (h0 : ∀ k, 0 < k → k < n → lt (P 0) (P k)) (h1 : ∀ k, 0 < k → k + 1 < n → 0 < tn (P 0) (P k) (P (k + 1))) (h2 : ∀ k, k + 2 < n → 0 < tn (P k) (P (k + 1)) (P (k + 2))) :
    ∀ m, m < n → ∀ a b c, a < b → b < c → c ≤ m → 0 < tn (P a) (P b) (P c) := by
  have hf : ∀ d j, 0 < j → j + d + 1 < n → 0 < tn (P 0) (P j) (P (j + d + 1)) := by
    intro d
    induction d with
    | zero => intro j hj hn; exact h1 j hj hn
    | succ d ih =>
      intro j hj hn
      exact fan (h0 _ hj (by omega)) (h0 _ (by omega) (by omega)) (h0 _ (by omega) (by omega)) (ih j hj (by omega)) (h1 (j + d + 1) (by omega) (by omega))
  have hf2 : ∀ j k, 0 < j → j < k → k < n → 0 < tn (P 0) (P j) (P k) := by
    intro j k hj hk hn
    have := hf (k - j - 1) j hj (by omega)
    rwa [show j + (k - j - 1) + 1 = k by omega] at this
  intro m
  induction m with
  | zero => intro _ a b c _ _ _; omega
  | succ k ih =>
    intro hm a b c hab hbc hc
    have ih := ih (by omega)
    rcases Nat.lt_or_ge c (k + 1) with g | g
    · exact ih a b c hab hbc (by omega)
    · obtain rfl : c = k + 1 := by omega
      have last : ∀ a, a < k → 0 < tn (P a) (P k) (P (k + 1)) := by
        intro a ha
        rcases Nat.eq_zero_or_pos a with rfl | ha0
        · exact hf2 k (k + 1) (by omega) (by omega) (by omega)
        · rcases Nat.lt_or_ge (a + 1) k with g | g
          · have hl := h2 (k - 1) (by omega)
            rw [show k - 1 + 1 = k by omega, show k - 1 + 2 = k + 1 by omega] at hl
            exact lift1 (o := P 0) (l := P (k - 1)) (ih 0 (k - 1) k (by omega) (by omega) (by omega)) (ih a (k - 1) k (by omega) (by omega) (by omega)) (hf2 k (k + 1) (by omega) (by omega) (by omega)) (ih 0 a k ha0 (by omega) (by omega)) hl
          · have hl := h2 a (by omega)
            obtain rfl : k = a + 1 := by omega
            exact hl
      rcases Nat.lt_or_ge b k with g2 | g2
      · rcases Nat.eq_zero_or_pos a with rfl | ha0
        · exact hf2 b (k + 1) (by omega) (by omega) (by omega)
        · exact lift2 (o := P 0) (k := P k) (ih 0 b k (by omega) g2 (by omega)) (hf2 b (k + 1) (by omega) (by omega) (by omega)) (ih a b k hab g2 (by omega)) (last b g2) (ih 0 a b ha0 hab (by omega))
      · obtain rfl : b = k := by omega
        exact last a hab
/-- A list that turns left all round is its own hull. -/
theorem isH_self {h : List P2} (hp : 0 < h.length) (h0 : ∀ k (hk : k < h.length), 0 < k → lt h[0] h[k])
    (hr : 3 ≤ h.length → (∀ k (hk : k + 2 < h.length), 0 < tn h[k] h[k + 1] h[k + 2]) ∧ (∀ k (hk : k + 1 < h.length), 0 < k → 0 < tn h[0] h[k] h[k + 1])) : IsH h h := by
  have hd : ∀ k (hk : k < h.length), h.getD k (0, 0) = h[k] := fun k hk => by rw [List.getD_eq_getElem?_getD, List.getElem?_eq_getElem hk]; rfl
  have hT : 3 ≤ h.length → ∀ a b c (ha : a < b) (hb : b < c) (hc : c < h.length), 0 < tn h[a] h[b] h[c] := by
    intro hl a b c ha hb hc
    have := triples (P := fun k => h.getD k (0, 0)) (n := h.length) (fun k k0 hk => by rw [hd 0 hp, hd k hk]; exact h0 k hk k0) (fun k k0 hk => by rw [hd 0 hp, hd k (by omega), hd _ hk]; exact (hr hl).2 k hk k0)
      (fun k hk => by rw [hd k (by omega), hd (k + 1) (by omega), hd (k + 2) hk]; exact (hr hl).1 k hk) (h.length - 1) (by omega) a b c ha hb (by omega)
    rwa [hd a (by omega), hd b (by omega), hd c hc] at this
  have hmem : ∀ p ∈ h, ∃ k, ∃ hk : k < h.length, h[k] = p := fun p hp => List.mem_iff_getElem.1 hp
  have hturn : 3 ≤ h.length → ∀ i (hi : i + 1 < h.length), ∀ k (hk : k < h.length), k ≠ i → k ≠ i + 1 → 0 < tn h[i] h[i + 1] h[k] := by
    intro hl i hi k hk e1 e2
    rcases Nat.lt_or_ge k i with g | g
    · rw [← tn_rot, ← tn_rot]
      have := hT hl k i (i + 1) g (by omega) hi
      rw [← tn_rot, ← tn_rot, ← tn_rot]
      first | exact this | (rw [tn_rot, tn_rot]; exact this) | (rw [tn_rot]; exact this)
    · exact hT hl i (i + 1) k (by omega) (by omega) hk
  have hturn0 : 3 ≤ h.length → ∀ k (hk : k < h.length), k ≠ h.length - 1 → k ≠ 0 → 0 < tn h[h.length - 1] h[0] h[k] := by
    intro hl k hk e1 e2
    have := hT hl 0 k (h.length - 1) (by omega) (by omega) (by omega)
    rw [← tn_rot] 
    first | exact this | (rw [← tn_rot]; exact this)
  refine ⟨fun p hp => hp, hp, fun p hq => ?_, fun e p hq => ?_, fun e p hq => ?_, fun e => ?_, fun hl p hq i hi => ?_, fun hl p hq => ?_, hturn, hturn0⟩
  · obtain ⟨k, hk, rfl⟩ := hmem p hq
    rcases Nat.eq_zero_or_pos k with rfl | k0
    · exact .inl rfl
    · exact .inr (h0 k hk k0)
  · obtain ⟨k, hk, rfl⟩ := hmem p hq
    obtain rfl : k = 0 := by omega
    rfl
  · obtain ⟨k, hk, rfl⟩ := hmem p hq
    rcases (by omega : k = 0 ∨ k = 1) with rfl | rfl
    · exact ⟨tn_aba _ _, by omega, by omega, by omega, by omega⟩
    · exact ⟨tn_abb _ _, by omega, by omega, by omega, by omega⟩
  · intro e'
    have := h0 1 (by omega) (by omega)
    rw [← e'] at this
    exact lt_irrefl _ this
  · obtain ⟨k, hk, rfl⟩ := hmem p hq
    by_cases e1 : k = i
    · subst e1; rw [tn_aba]; omega
    · by_cases e2 : k = i + 1
      · subst e2; rw [tn_abb]; omega
      · have := hturn hl i hi k hk e1 e2; omega
  · obtain ⟨k, hk, rfl⟩ := hmem p hq
    by_cases e1 : k = h.length - 1
    · subst e1; rw [tn_aba]; omega
    · by_cases e2 : k = 0
      · subst e2; rw [tn_abb]; omega
      · have := hturn0 hl k hk e1 e2; omega
/-- There is one hull. -/
theorem IsH.unique {S h g : List P2} (H : IsH S h) (G : IsH S g) : h = g := by
  have hm : ∀ p, p ∈ h ↔ p ∈ g := fun p => (H.mem_iff p).symm.trans (G.mem_iff p)
  have hl : h.length = g.length := same_length H.nodup G.nodup hm
  refine List.ext_getElem hl ?_
  intro i
  induction i with
  | zero =>
    intro h1 h2
    rcases H.first _ (G.sub _ (List.getElem_mem h2)) with e | e
    · exact e.symm
    · rcases G.first _ (H.sub _ (List.getElem_mem h1)) with e' | e'
      · exact e'
      · exact absurd (lt_trans e e') (lt_irrefl _)
  | succ j ih =>
    intro h1 h2
    have e := ih (by omega) (by omega)
    obtain ⟨n1, n2⟩ := H.next h1
    refine G.only h2 ((hm _).1 (List.getElem_mem h1)) (by rw [← e]; exact n1) (fun c hc => ?_)
    rw [← e]
    exact n2 c ((hm c).2 hc)
end Go.Proofs.Ytpkfngfenkcjoaa.Hl

/- Which lists are hulls; the reference's Valid. -/
set_option linter.all false
namespace Go.Proofs.Ytpkfngfenkcjoaa
open Go.RowKit Go.Sort

theorem t3_pl (a b c : T3) : t3 a b c = 1 ↔ 0 < Hl.tn (pl a) (pl b) (pl c) := by
  show cmpI (Hl.tn (pl a) (pl b) (pl c)) 0 = 1 ↔ _
  unfold cmpI
  split <;> (try split) <;> omega
theorem c3_neg (a b : T3) : c3 a b < 0 ↔ L3 a b := by
  have := c3_lt a b
  unfold ltOf at this
  rw [decide_eq_true_eq] at this
  exact this
theorem fl_pl {L : List T3} (h : ∀ a ∈ L, a.2.2 = 0) : fl (L.map pl) = L := by
  unfold fl
  rw [List.map_map]
  refine (List.map_congr_left ?_).trans (List.map_id L)
  intro a ha
  have := h a ha
  show (a.1, a.2.1, (0 : Int)) = a
  rw [← this]
theorem pl_fl (H : List Hl.P2) : (fl H).map pl = H := by
  unfold fl
  rw [List.map_map]
  exact (List.map_congr_left (fun a _ => rfl)).trans (List.map_id H)
/-- What goes round once is its own hull. -/
theorem vh_isH {L : List T3} (h : VH L) : Hl.IsH (L.map pl) (L.map pl) := by
  obtain ⟨h1, h2, h3, h4, h5, h6⟩ := h
  refine Hl.isH_self (by rw [List.length_map]; exact h1) (fun k hk k0 => ?_) (fun hl => ?_)
  · rw [List.length_map] at hk
    have := (c3_neg _ _).1 (h5 k hk k0)
    have z1 := h4 _ (List.getElem_mem h1)
    have z2 := h4 _ (List.getElem_mem hk)
    simp only [List.getElem_map]
    unfold L3 at this
    unfold Hl.lt pl
    simp only
    omega
  · rw [List.length_map] at hl
    have hr := h6.resolve_left (by omega)
    refine ⟨fun k hk => ?_, fun k hk k0 => ?_⟩
    · rw [List.length_map] at hk
      have := hr.1 k (by omega)
      simp only [Nat.mod_eq_of_lt (show k + 1 < L.length by omega), Nat.mod_eq_of_lt (show k + 1 + 1 < L.length by omega)] at this
      simp only [List.getElem_map]
      exact (t3_pl _ _ _).1 this
    · rw [List.length_map] at hk
      simp only [List.getElem_map]
      exact (t3_pl _ _ _).1 (hr.2 k hk k0)
theorem isH_vh {L : List T3} {H : List Hl.P2} (hL : fl H = L) (hH : Hl.IsH H H) (h2 : L.length ≤ 10000) (h3 : inL 1048576 L = true) : VH L := by
  subst hL
  have hl : (fl H).length = H.length := fl_length H
  refine ⟨by rw [hl]; exact hH.pos, h2, h3, ?_, ?_, ?_⟩
  · intro a ha
    obtain ⟨b, _, rfl⟩ := List.mem_map.1 ha
    rfl
  · intro k hk k0
    rw [c3_neg]
    have hk2 : k < H.length := by omega
    rw [fl_get H 0 hH.pos, fl_get H k hk2]
    have hlt : Hl.lt H[0] H[k] := by
      rcases hH.first _ (List.getElem_mem hk2) with e | e
      · exact absurd e.symm (hH.ne hk2 k0)
      · exact e
    unfold Hl.lt at hlt
    unfold L3
    simp only
    omega
  · by_cases h : H.length ≤ 2
    · left; omega
    · right
      have hl3 : 3 ≤ H.length := by omega
      refine ⟨fun k hk => ?_, fun k hk k0 => ?_⟩
      · rw [t3_pl]
        have hk2 : k < H.length := by omega
        have m1 : (k + 1) % (fl H).length < H.length := by rw [← hl]; exact Nat.mod_lt _ (by omega)
        have m2 : (k + 1 + 1) % (fl H).length < H.length := by rw [← hl]; exact Nat.mod_lt _ (by omega)
        rw [fl_get H k hk2, fl_get H _ m1, fl_get H _ m2]
        show 0 < Hl.tn H[k] (H[(k + 1) % (fl H).length]) (H[(k + 1 + 1) % (fl H).length])
        simp only [hl]
        rcases (by omega : k + 2 < H.length ∨ k + 2 = H.length ∨ k + 1 = H.length) with g | g | g
        · simp only [Nat.mod_eq_of_lt (show k + 1 < H.length by omega), Nat.mod_eq_of_lt (show k + 1 + 1 < H.length by omega)]
          exact hH.turn hl3 k (by omega) (k + 1 + 1) (by omega) (by omega) (by omega)
        · simp only [Nat.mod_eq_of_lt (show k + 1 < H.length by omega), show (k + 1 + 1) % H.length = 0 by rw [show k + 1 + 1 = H.length by omega]; exact Nat.mod_self _]
          exact hH.turn hl3 k (by omega) 0 (by omega) (by omega) (by omega)
        · have e1 : (k + 1) % H.length = 0 := by rw [g]; exact Nat.mod_self _
          have e2 : (k + 1 + 1) % H.length = 1 := by rw [g, Nat.add_mod_left]; exact Nat.mod_eq_of_lt (by omega)
          simp only [e1, e2]
          have := hH.turn0 hl3 1 (by omega) (by omega) (by omega)
          simp only [show H.length - 1 = k by omega] at this
          exact this
      · rw [t3_pl]
        have hk2 : k + 1 < H.length := by omega
        rw [fl_get H 0 hH.pos, fl_get H k (by omega), fl_get H _ hk2]
        show 0 < Hl.tn H[0] H[k] H[k + 1]
        rw [← Hl.tn_rot]
        exact hH.turn hl3 k hk2 0 hH.pos (by omega) (by omega)
/-- The hulls are the lists that are the hull of their own points. -/
theorem vh_iff {L : List T3} {H : List Hl.P2} (hH : Hl.IsH (L.map pl) H) (h2 : L.length ≤ 10000) (h3 : inL 1048576 L = true) : fl H = L ↔ VH L := by
  constructor
  · intro e
    refine isH_vh e ?_ h2 h3
    rw [← e, pl_fl] at hH
    exact hH
  · intro h
    rw [hH.unique (vh_isH h)]
    exact fl_pl h.2.2.2.1
noncomputable instance (L : List T3) : Decidable (VH L) := Classical.propDecidable _

/-! The reference's Valid. -/
set_option maxRecDepth 100000 in
set_option maxHeartbeats 4000000 in
theorem rvalid_0 (p : Option Addr) (n cap : Nat) (w : World) (h0 : ¬ (0 : Int) < (n : Int) ∨ ¬ (n : Int) ≤ 10000) :
    Calls Try.prog 9 #[.slice p n cap] w (Ret (.bool false) w) := by
  have E := Lib.hid (Below.refl w.heap.size w)
  by_cases h1 : (0 : Int) < (n : Int)
  · have h2 : ¬ (n : Int) ≤ 10000 := h0.resolve_left (fun h => h h1)
    clear h0
    go_enter Try.func9, Try.ntmps9
    go_wp2
    go_ret
    exact ⟨rfl, E.out⟩
  · clear h0
    go_enter Try.func9, Try.ntmps9
    go_wp2
    go_ret
    exact ⟨rfl, E.out⟩
set_option maxRecDepth 100000 in
set_option maxHeartbeats 4000000 in
theorem rvalid_1 (p : Option Addr) (n cap : Nat) (w : World) (h0 : (0 : Int) < (n : Int)) (h1 : (n : Int) ≤ 10000)
    (HP : ∀ w', Below w.heap.size w w' → Calls Try.prog 26 #[.slice p n cap] w' (Ret (.bool false) w')) :
    Calls Try.prog 9 #[.slice p n cap] w (Ret (.bool false) w) := by
  have E := Lib.hid (Below.refl w.heap.size w)
  have HP := Lib.hid HP
  go_enter Try.func9, Try.ntmps9
  go_wp2_with fail
  refine (HP.out _ E.out).mono ?_
  rintro e y ⟨rfl, b⟩
  have E := Lib.hid (chain E.out b)
  clear b
  go_wp2
  go_ret
  exact ⟨rfl, E.out⟩
set_option maxRecDepth 100000 in
set_option maxHeartbeats 4000000 in
theorem rvalid_2 (p : Option Addr) (n cap : Nat) (w : World) (res : Bool) (X : World → Value → Prop) (h0 : (0 : Int) < (n : Int)) (h1 : (n : Int) ≤ 10000)
    (HP : ∀ w', Below w.heap.size w w' → Calls Try.prog 26 #[.slice p n cap] w' (Ret (.bool true) w'))
    (HH : ∀ w', Below w.heap.size w w' → Calls Try.prog 27 #[.slice p n cap] w' (fun e w2 => ∃ vo, e = .returned vo ∧ X w2 vo ∧ Below w'.heap.size w' w2))
    (HS : ∀ w' vo, Below w.heap.size w w' → X w' vo → Calls Try.prog 16 #[vo, .slice p n cap] w' (Ret (.bool res) w')) :
    Calls Try.prog 9 #[.slice p n cap] w (Ret (.bool res) w) := by
  have E := Lib.hid (Below.refl w.heap.size w)
  have HP := Lib.hid HP
  have HH := Lib.hid HH
  have HS := Lib.hid HS
  go_enter Try.func9, Try.ntmps9
  go_wp2_with fail
  refine (HP.out _ E.out).mono ?_
  rintro e y ⟨rfl, b⟩
  have E := Lib.hid (chain E.out b)
  clear b
  go_wp2_with fail
  refine (HH.out _ E.out).mono ?_
  rintro e y1 ⟨vo, rfl, hx, b⟩
  have HX := Lib.hid hx
  have E := Lib.hid (chain E.out b)
  clear b hx
  go_wp2_with fail
  refine (HS.out _ _ E.out HX.out).mono ?_
  rintro e y2 ⟨rfl, b⟩
  have E := Lib.hid (chain E.out b)
  clear b
  go_wp2
  go_ret
  exact ⟨rfl, E.out⟩
/-- The reference's Valid is Valid. -/
theorem rValidH_any (L : List T3) (v : Value) (w : World) (h : Rv w v L) : Calls Try.prog 9 #[v] w (Ret (.bool (decide (VH L))) w) := by
  obtain ⟨p, b, off, cap, rfl, -⟩ := id h
  by_cases h1 : 0 < L.length
  · by_cases h2 : L.length ≤ 10000
    · by_cases h3 : inL 1048576 L = true
      · obtain ⟨H, -, hH⟩ := corners_hull L h1
        have hb : ∀ a ∈ L.map (fun a => (a.1, a.2.1)), inV 16777216 a.1 a.2 0 = true := by
          intro a ha
          obtain ⟨b, hb, rfl⟩ := List.mem_map.1 ha
          have := inV_iff.1 (inL_mem h3 b hb)
          exact inV_iff.2 ⟨by show _ ≤ b.1 ∧ b.1 ≤ _; omega, by show _ ≤ b.2.1 ∧ b.2.1 ≤ _; omega, by omega⟩
        have e : decide (VH L) = decide (fl H = L) := by
          by_cases g : fl H = L
          · rw [decide_eq_true g, decide_eq_true ((vh_iff hH h2 h3).1 g)]
          · rw [decide_eq_false g, decide_eq_false (fun k => g ((vh_iff hH h2 h3).2 k))]
        rw [e]
        refine rvalid_2 p L.length cap w _ (fun w' vo => Rv w' vo (fl H) ∧ Rv w' (.slice p L.length cap) L) (by omega) (by omega) (fun w' b => ?_) (fun w' b => ?_) (fun w' vo b hx => Same_any _ _ _ _ _ hx.1 hx.2)
        · have := Points_any L _ w' (h.below b)
          rwa [h3] at this
        · refine (refHull_walk L _ w' _ H rfl hH (h.below b) (by omega) hb).mono ?_
          rintro e w2 ⟨vo, rfl, hr, b2⟩
          exact ⟨vo, rfl, ⟨hr.rv, (h.below b).below b2⟩, b2⟩
      · rw [decide_eq_false (fun k : VH L => h3 k.2.2.1)]
        refine rvalid_1 p L.length cap w (by omega) (by omega) (fun w' b => ?_)
        have := Points_any L _ w' (h.below b)
        rwa [Bool.eq_false_iff.2 h3] at this
    · rw [decide_eq_false (fun k : VH L => h2 k.2.1)]
      exact rvalid_0 p L.length cap w (.inr (by omega))
  · rw [decide_eq_false (fun k : VH L => h1 k.1)]
    exact rvalid_0 p L.length cap w (.inl (by omega))
theorem Valid_anyH (L : List T3) (v : Value) (w : World) (h : Rv w v L) : Calls Try.prog 19 #[v] w (Ret (.bool (decide (VH L))) w) := by
  by_cases k : VH L
  · rw [decide_eq_true k]; exact valid_yes L v w h k
  · rw [decide_eq_false k]; exact valid_no L v w h k
end Go.Proofs.Ytpkfngfenkcjoaa

/- The reference's Side: the walk. -/
set_option linter.all false
namespace Go.Proofs.Ytpkfngfenkcjoaa
open Go.RowKit

end Go.Proofs.Ytpkfngfenkcjoaa

/- The side of a point: both ways to find it agree. -/
set_option linter.all false
namespace Go.Proofs.Ytpkfngfenkcjoaa
open Go.RowKit

theorem aff_tn_le {u v a b p : Hl.P2} (ha : 0 ≤ Hl.tn u v a) (hb : 0 ≤ Hl.tn u v b) (h : Hl.on a b p) : 0 ≤ Hl.tn u v p := by
  apply Classical.byContradiction
  intro hn
  obtain ⟨A, B, C, hA⟩ := Hl.aff_tn u v
  have e1 := hA a
  have e2 := hA b
  have e3 := hA p
  exact Hl.aff_on (A := A) (B := B) (C := C - Hl.tn u v p) (by omega) (by omega) (by omega) h
/-- Between two corners, on the line through them. -/
theorem on_edge {z a b c p : Hl.P2} (h1 : 0 < Hl.tn z a b) (h2 : 0 < Hl.tn a b c) (h0 : Hl.tn a b p = 0) (h3 : 0 ≤ Hl.tn b c p) (h4 : 0 ≤ Hl.tn z a p) : Hl.on a b p := by
  refine Hl.on_of h2 h0 h3 ?_
  have hc : 0 < Hl.tn c a b := by rw [← Hl.tn_rot]; exact h2
  have e : Hl.tn z a b * Hl.tn c a p = Hl.tn c a b * Hl.tn z a p - Hl.tn a b p * Hl.tn z a c := by unfold Hl.tn; grind
  rw [h0, Int.zero_mul, Int.sub_zero] at e
  have h5 := Int.mul_nonneg (Int.le_of_lt hc) h4
  apply Classical.byContradiction
  intro hn
  have h6 := Int.mul_pos h1 (show 0 < -Hl.tn c a p by omega)
  rw [Int.mul_neg] at h6
  omega
/-- A corner on the plane, counted round. -/
def fA (L : List T3) (k : Nat) : Hl.P2 := pl (gA L k)
theorem gA_mod (L : List T3) (k : Nat) : gA L (k % L.length) = gA L k := by unfold gA; rw [Nat.mod_mod]
theorem map_at {L : List T3} {k : Nat} (h : k < (L.map pl).length) : (L.map pl)[k] = fA L k := by
  rw [List.getElem_map]
  rw [List.length_map] at h
  rw [gA_at h]; rfl
theorem edge_pos {L : List T3} (hv : VH L) (h3 : 3 ≤ L.length) {k j : Nat} (hk : k < L.length) (hj : j < L.length) (n1 : j ≠ k) (n2 : j ≠ (k + 1) % L.length) : 0 < Hl.tn (fA L k) (fA L (k + 1)) (fA L j) := by
  have H := vh_isH hv
  have hl : (L.map pl).length = L.length := List.length_map _
  rcases Nat.lt_or_ge (k + 1) L.length with g | g
  · rw [Nat.mod_eq_of_lt g] at n2
    have := H.turn (by omega) k (by omega) j (by omega) n1 n2
    rwa [map_at, map_at, map_at] at this
  · have e : k = L.length - 1 := by omega
    have e2 : (k + 1) % L.length = 0 := by rw [show k + 1 = L.length by omega]; exact Nat.mod_self _
    rw [e2] at n2
    have := H.turn0 (by omega) j (by omega) (by omega) n2
    rw [map_at, map_at, map_at, hl, ← e] at this
    rw [show fA L (k + 1) = fA L 0 by unfold fA; rw [← gA_mod L (k + 1), e2]]
    exact this
theorem edge_nonneg {L : List T3} (hv : VH L) (h3 : 3 ≤ L.length) {k j : Nat} (hk : k < L.length) (hj : j < L.length) : 0 ≤ Hl.tn (fA L k) (fA L (k + 1)) (fA L j) := by
  by_cases n1 : j = k
  · subst n1; rw [Hl.tn_aba]; omega
  · by_cases n2 : j = (k + 1) % L.length
    · have : fA L j = fA L (k + 1) := by unfold fA; rw [n2, gA_mod]
      rw [this, Hl.tn_abb]; omega
    · have := edge_pos hv h3 hk hj n1 n2; omega
theorem t3_tn (a b p : T3) : t3 a b p = cmpI (Hl.tn (pl a) (pl b) (pl p)) 0 := rfl
theorem cmpI_cases (a : Int) : (a < 0 ∧ cmpI a 0 = -1) ∨ (a = 0 ∧ cmpI a 0 = 0) ∨ (0 < a ∧ cmpI a 0 = 1) := cmpI_three a
/-- The least turn. -/
theorem sS_le (L : List T3) (p : T3) : ∀ k, sS L p k ≤ 1 ∧ ∀ j, j < k → sS L p k ≤ t3 (gA L j) (gA L (j + 1)) p
  | 0 => ⟨by simp [sS], fun j hj => by omega⟩
  | k + 1 => by
    obtain ⟨h1, h2⟩ := sS_le L p k
    rw [sS]
    refine ⟨by omega, fun j hj => ?_⟩
    rcases Nat.lt_or_ge j k with g | g
    · have := h2 j g; omega
    · obtain rfl : j = k := by omega
      omega
theorem sS_mem (L : List T3) (p : T3) : ∀ k, sS L p k = 1 ∨ ∃ j, j < k ∧ sS L p k = t3 (gA L j) (gA L (j + 1)) p
  | 0 => .inl rfl
  | k + 1 => by
    rw [sS]
    rcases Int.le_total (sS L p k) (t3 (gA L k) (gA L (k + 1)) p) with g | g
    · rw [Int.min_eq_left g]
      rcases sS_mem L p k with h | ⟨j, hj, h⟩
      · exact .inl h
      · exact .inr ⟨j, by omega, h⟩
    · rw [Int.min_eq_right g]
      exact .inr ⟨k, by omega, rfl⟩
def onA (L : List T3) (p : T3) (k : Nat) : Bool := decide (Hl.on (fA L k) (fA L (k + 1)) (pl p))
def insA (L : List T3) (p : T3) : Nat → Bool
  | 0 => decide (2 < L.length)
  | k + 1 => insA L p k && decide (0 < t3 (gA L k) (gA L (k + 1)) p)
theorem insA_true {L : List T3} {p : T3} : ∀ {k}, insA L p k = true → 2 < L.length ∧ ∀ j, j < k → 0 < t3 (gA L j) (gA L (j + 1)) p
  | 0, h => ⟨by simpa [insA] using h, fun j hj => by omega⟩
  | k + 1, h => by
    rw [insA, Bool.and_eq_true, decide_eq_true_eq] at h
    obtain ⟨h1, h2⟩ := insA_true h.1
    refine ⟨h1, fun j hj => ?_⟩
    rcases Nat.lt_or_ge j k with g | g
    · exact h2 j g
    · obtain rfl : j = k := by omega
      exact h.2
theorem insA_of {L : List T3} {p : T3} (h0 : 2 < L.length) : ∀ {k}, (∀ j, j < k → 0 < t3 (gA L j) (gA L (j + 1)) p) → insA L p k = true
  | 0, _ => by simpa [insA] using h0
  | k + 1, h => by
    rw [insA, Bool.and_eq_true, decide_eq_true_eq]
    exact ⟨insA_of h0 (fun j hj => h j (by omega)), h k (by omega)⟩
/-- With three corners or more. -/
theorem side_great {L : List T3} (hv : VH L) (h3 : 3 ≤ L.length) (p : T3) :
    (∀ k, k < L.length → onA L p k = true → sS L p L.length = 0) ∧ ((∀ k, k < L.length → onA L p k = false) → sS L p L.length = if insA L p L.length then 1 else -1) := by
  have hm : ∀ k, (k + 1) % L.length < L.length := fun k => Nat.mod_lt _ (by omega)
  have fm : ∀ k, fA L (k % L.length) = fA L k := fun k => by unfold fA; rw [gA_mod]
  constructor
  · intro k hk ho
    unfold onA at ho
    rw [decide_eq_true_eq] at ho
    have hall : ∀ j, j < L.length → 0 ≤ t3 (gA L j) (gA L (j + 1)) p := by
      intro j hj
      have h1 := edge_nonneg hv h3 hj hk
      have h2 := edge_nonneg hv h3 hj (hm k)
      rw [fm] at h2
      have := aff_tn_le h1 h2 ho
      rw [t3_tn]
      rcases cmpI_cases (Hl.tn (pl (gA L j)) (pl (gA L (j + 1))) (pl p)) with ⟨a, b⟩ | ⟨a, b⟩ | ⟨a, b⟩
      · exact absurd (show 0 ≤ Hl.tn (pl (gA L j)) (pl (gA L (j + 1))) (pl p) from this) (by omega)
      · omega
      · omega
    have h0 : t3 (gA L k) (gA L (k + 1)) p = 0 := by
      rw [t3_tn]
      have : Hl.tn (pl (gA L k)) (pl (gA L (k + 1))) (pl p) = 0 := ho.1
      rw [this]; rfl
    have h1 := (sS_le L p L.length).2 k hk
    rcases sS_mem L p L.length with h | ⟨j, hj, h⟩
    · omega
    · have := hall j hj; omega
  · intro hno
    by_cases hi : insA L p L.length = true
    · rw [if_pos hi]
      obtain ⟨_, h2⟩ := insA_true hi
      rcases sS_mem L p L.length with h | ⟨j, hj, h⟩
      · exact h
      · have h4 := h2 j hj
        have h5 := (sS_le L p L.length).1
        omega
    · rw [if_neg hi]
      apply Classical.byContradiction
      intro hne
      have hge : ∀ j, j < L.length → 0 ≤ Hl.tn (fA L j) (fA L (j + 1)) (pl p) := by
        intro j hj
        apply Classical.byContradiction
        intro hn
        apply hne
        have h4 := (sS_le L p L.length).2 j hj
        rw [t3_tn] at h4
        rcases cmpI_cases (Hl.tn (pl (gA L j)) (pl (gA L (j + 1))) (pl p)) with ⟨a, b⟩ | ⟨a, b⟩ | ⟨a, b⟩
        · rcases sS_mem L p L.length with h | ⟨i, hi, h⟩
          · omega
          · rw [t3_tn] at h
            rcases cmpI_cases (Hl.tn (pl (gA L i)) (pl (gA L (i + 1))) (pl p)) with ⟨c, d⟩ | ⟨c, d⟩ | ⟨c, d⟩ <;> omega
        · exact absurd a (by unfold fA at hn; omega)
        · exact absurd a (by unfold fA at hn; omega)
      have hpos : ∀ j, j < L.length → 0 < Hl.tn (fA L j) (fA L (j + 1)) (pl p) := by
        intro j hj
        apply Classical.byContradiction
        intro hn
        have h0 : Hl.tn (fA L j) (fA L (j + 1)) (pl p) = 0 := by have := hge j hj; omega
        have := hno j hj
        unfold onA at this
        rw [decide_eq_false_iff_not] at this
        apply this
        -- the edge before and the edge behind
        obtain ⟨i, hi, hij⟩ : ∃ i, i < L.length ∧ (i + 1) % L.length = j := by
          rcases Nat.eq_zero_or_pos j with rfl | j0
          · exact ⟨L.length - 1, by omega, by rw [show L.length - 1 + 1 = L.length by omega]; exact Nat.mod_self _⟩
          · exact ⟨j - 1, by omega, by rw [show j - 1 + 1 = j by omega]; exact Nat.mod_eq_of_lt hj⟩
        have fi : fA L (i + 1) = fA L j := by rw [← fm (i + 1), hij]
        have e1 : i ≠ j := by
          intro e
          rw [e] at hij
          rcases Nat.lt_or_ge (j + 1) L.length with g | g
          · rw [Nat.mod_eq_of_lt g] at hij; omega
          · rw [show j + 1 = L.length by omega, Nat.mod_self] at hij; omega
        have e2 : i ≠ (j + 1) % L.length := by
          intro e
          rcases Nat.lt_or_ge (i + 1) L.length with g | g
          · rw [Nat.mod_eq_of_lt g] at hij
            rcases Nat.lt_or_ge (j + 1) L.length with g2 | g2
            · rw [Nat.mod_eq_of_lt g2] at e; omega
            · rw [show j + 1 = L.length by omega, Nat.mod_self] at e; omega
          · rw [show i + 1 = L.length by omega, Nat.mod_self] at hij
            subst hij
            rw [Nat.mod_eq_of_lt (by omega)] at e
            omega
        have p1 := edge_pos hv h3 hj hi e1 e2
        have p1' : 0 < Hl.tn (fA L i) (fA L j) (fA L (j + 1)) := by rw [← Hl.tn_rot]; exact p1
        have hk := hm j
        obtain ⟨k, hkk⟩ : ∃ k, k = (j + 1) % L.length := ⟨_, rfl⟩
        rw [← hkk] at hk e2
        have fk : fA L k = fA L (j + 1) := by rw [hkk, fm]
        have fk1 : fA L (k + 1) = fA L (j + 1 + 1) := by
          rw [← fm (k + 1), ← fm (j + 1 + 1), hkk]
          congr 1
          rw [Nat.mod_add_mod]
        have e3 : j ≠ k := by
          intro e
          rw [← e] at hkk
          rcases Nat.lt_or_ge (j + 1) L.length with g | g
          · rw [Nat.mod_eq_of_lt g] at hkk; omega
          · rw [show j + 1 = L.length by omega, Nat.mod_self] at hkk; omega
        have e4 : j ≠ (k + 1) % L.length := by
          intro e
          rcases Nat.lt_or_ge (j + 1) L.length with g | g
          · rw [Nat.mod_eq_of_lt g] at hkk
            rcases Nat.lt_or_ge (k + 1) L.length with g2 | g2
            · rw [Nat.mod_eq_of_lt g2] at e; omega
            · rw [show k + 1 = L.length by omega, Nat.mod_self] at e; omega
          · rw [show j + 1 = L.length by omega, Nat.mod_self] at hkk
            subst hkk
            rw [Nat.mod_eq_of_lt (by omega)] at e
            omega
        have p2 := edge_pos hv h3 hk hj e3 e4
        rw [fk, fk1] at p2
        have q1 := hge i hi
        rw [fi] at q1
        have q2 := hge k hk
        rw [fk, fk1] at q2
        refine on_edge p1' (c := fA L (j + 1 + 1)) ?_ h0 q2 q1
        rw [← Hl.tn_rot]
        exact p2
      exact hi (insA_of (by omega) (fun j hj => by
        rw [t3_tn]
        have := hpos j hj
        rcases cmpI_cases (Hl.tn (pl (gA L j)) (pl (gA L (j + 1))) (pl p)) with ⟨a, b⟩ | ⟨a, b⟩ | ⟨a, b⟩
        · unfold fA at this; omega
        · unfold fA at this; omega
        · omega))
/-- On a line: between, in the order of vectors. -/
theorem sol_on {a b p : T3} (ha : a.2.2 = 0) (hb : b.2.2 = 0) (hp : p.2.2 = 0) (hab : L3 a b ∨ a = b) : solV a b p = if Hl.on (pl a) (pl b) (pl p) then 0 else -1 := by
  have hd1 : ∀ {x y : T3}, x.2.2 = 0 → y.2.2 = 0 → (L3 x y ↔ Hl.lt (pl x) (pl y)) := by
    intro x y hx hy
    unfold L3 Hl.lt pl
    simp only
    omega
  have hc : ∀ {x y : T3}, ¬ c3 x y ≤ 0 ↔ L3 y x := by
    intro x y
    have h1 := c3_neg y x
    have h2 : c3 y x < 0 ↔ 0 < c3 x y := by
      unfold c3 vC cmpI
      split <;> split <;> (try split) <;> (try split) <;> (try split) <;> (try split) <;> (try split) <;> (try split) <;> (try split) <;> (try split) <;> omega
    rw [← h1, h2]; omega
  unfold solV
  rw [t3_tn]
  by_cases h0 : Hl.tn (pl a) (pl b) (pl p) = 0
  · rw [h0, show cmpI 0 0 = 0 from rfl, if_neg (by simp)]
    by_cases h1 : L3 p a
    · rw [if_pos (hc.2 h1), if_neg]
      intro ho
      have h1' := (hd1 hp ha).1 h1
      obtain ⟨_, o1, o2, o3, o4⟩ := ho
      have hab' : Hl.lt (pl a) (pl b) ∨ pl a = pl b := hab.imp (hd1 ha hb).1 (fun e => by rw [e])
      unfold Hl.tn at h0
      rcases hab' with hab' | hab'
      · unfold Hl.lt at *
        rcases h1' with h1' | ⟨h1', h1''⟩
        · omega
        · rcases hab' with g | ⟨g, g'⟩
          · have z1 : (pl p).1 - (pl a).1 = 0 := by omega
            rw [z1, Int.mul_zero, Int.sub_zero] at h0
            rcases Int.mul_eq_zero.1 h0 with z | z <;> omega
          · omega
      · have e1 := congrArg Prod.fst hab'
        have e2 := congrArg Prod.snd hab'
        unfold Hl.lt at h1'
        omega
    · rw [if_neg (fun k => h1 (hc.1 k))]
      by_cases h2 : L3 b p
      · rw [if_pos (hc.2 h2), if_neg]
        intro ho
        have h2' := (hd1 hb hp).1 h2
        obtain ⟨_, o1, o2, o3, o4⟩ := ho
        have hab' : Hl.lt (pl a) (pl b) ∨ pl a = pl b := hab.imp (hd1 ha hb).1 (fun e => by rw [e])
        unfold Hl.tn at h0
        rcases hab' with hab' | hab'
        · unfold Hl.lt at *
          rcases h2' with h2' | ⟨h2', h2''⟩
          · omega
          · rcases hab' with g | ⟨g, g'⟩
            · have z1 : (pl p).1 - (pl a).1 = (pl b).1 - (pl a).1 := by omega
              rw [z1, Int.mul_comm ((pl b).2 - (pl a).2), ← Int.mul_sub] at h0
              rcases Int.mul_eq_zero.1 h0 with z | z <;> omega
            · omega
        · have e1 := congrArg Prod.fst hab'
          have e2 := congrArg Prod.snd hab'
          unfold Hl.lt at h2'
          omega
      · rw [if_neg (fun k => h2 (hc.1 k)), if_pos]
        have n1 : ¬ Hl.lt (pl p) (pl a) := fun k => h1 ((hd1 hp ha).2 k)
        have n2 : ¬ Hl.lt (pl b) (pl p) := fun k => h2 ((hd1 hb hp).2 k)
        rcases Hl.lt_tri (pl p) (pl a) with g | g | g
        · exact absurd g n1
        · rw [g]; exact ⟨Hl.tn_aba _ _, by omega, by omega, by omega, by omega⟩
        · rcases Hl.lt_tri (pl p) (pl b) with g2 | g2 | g2
          · exact Hl.on_mid g g2 h0
          · rw [g2]; exact ⟨Hl.tn_abb _ _, by omega, by omega, by omega, by omega⟩
          · exact absurd g2 n2
  · have hne : cmpI (Hl.tn (pl a) (pl b) (pl p)) 0 ≠ 0 := fun e => h0 (cmpI_zero.1 e)
    rw [if_pos hne, if_neg (fun k => h0 k.1)]
/-- With one corner or two. -/
theorem side_small {L : List T3} (hv : VH L) (h3 : L.length ≤ 2) (p : T3) (hp : p.2.2 = 0) :
    (∀ k, k < L.length → onA L p k = true → solV (gA L 0) (gA L (L.length - 1)) p = 0) ∧ ((∀ k, k < L.length → onA L p k = false) → solV (gA L 0) (gA L (L.length - 1)) p = if insA L p L.length then 1 else -1) := by
  have hi : insA L p L.length = false := Bool.eq_false_iff.2 (fun h => by have := (insA_true h).1; omega)
  rw [hi]
  have h1 := hv.1
  have hz : ∀ k, (gA L k).2.2 = 0 := by
    intro k
    have hk := Nat.mod_lt k h1
    rw [← gA_nx hk]
    exact hv.2.2.2.1 _ (List.getElem_mem hk)
  have ge : ∀ k, gA L k = gA L (k % L.length) := fun k => (gA_mod L k).symm
  rcases (by omega : L.length = 1 ∨ L.length = 2) with e | e
  · have g1 : gA L 1 = gA L 0 := by rw [ge 1, e]
    have s := sol_on (hz 0) (hz 0) hp (.inr rfl)
    rw [e]
    constructor
    · intro k hk ho
      obtain rfl : k = 0 := by omega
      unfold onA fA at ho
      rw [decide_eq_true_eq, g1] at ho
      rw [s, if_pos ho]
    · intro hno
      have := hno 0 (by omega)
      unfold onA fA at this
      rw [decide_eq_false_iff_not, g1] at this
      rw [s, if_neg this]; rfl
  · have g2 : gA L 2 = gA L 0 := by rw [ge 2, e]
    have hlt : L3 (gA L 0) (gA L 1) := by
      have := (c3_neg _ _).1 (hv.2.2.2.2.1 1 (by omega) (by omega))
      rwa [gA_at (by omega), gA_at (by omega)] at this
    have s := sol_on (hz 0) (hz 1) hp (.inl hlt)
    rw [e]
    constructor
    · intro k hk ho
      unfold onA fA at ho
      rw [decide_eq_true_eq] at ho
      rw [s, if_pos]
      rcases (by omega : k = 0 ∨ k = 1) with rfl | rfl
      · exact ho
      · rw [g2] at ho; exact Hl.on_symm ho
    · intro hno
      have := hno 0 (by omega)
      unfold onA fA at this
      rw [decide_eq_false_iff_not] at this
      rw [s, if_neg this]; rfl
end Go.Proofs.Ytpkfngfenkcjoaa

/- The area is that of the triangles at the first corner. Plain facts. -/
set_option linter.all false
namespace Go.Proofs.Ytpkfngfenkcjoaa
open Go.RowKit

/-- The triangles at the first corner. -/
def rA (L : List T3) : Nat → Int
  | 0 => 0
  | k + 1 => rA L k + Hl.tn (fA L 0) (fA L (k + 1)) (fA L (k + 2))
theorem crs_flip (a b : T3) : crs a b + crs b a = 0 := by unfold crs; grind
theorem tn_crs (a b c : T3) : Hl.tn (pl a) (pl b) (pl c) = crs b c + crs c a - crs b a := by unfold crs Hl.tn pl; grind
theorem rA_step (L : List T3) : ∀ k, aS L (k + 1) + crs (gA L (k + 1)) (gA L 0) = rA L k
  | 0 => by
    have := crs_flip (gA L 0) (gA L 1)
    show 0 + crs (gA L 0) (gA L 1) + crs (gA L 1) (gA L 0) = 0
    omega
  | k + 1 => by
    have ih := rA_step L k
    have h := tn_crs (gA L 0) (gA L (k + 1)) (gA L (k + 2))
    rw [aS, rA]
    show _ + crs (gA L (k + 2)) (gA L 0) = rA L k + Hl.tn (pl (gA L 0)) (pl (gA L (k + 1))) (pl (gA L (k + 2)))
    rw [h]
    show aS L (k + 1) + crs (gA L (k + 1)) (gA L (k + 2)) + _ = _
    omega
theorem gA_round (L : List T3) : gA L L.length = gA L 0 := by rw [← gA_mod L L.length, Nat.mod_self]
/-- Twice the area. -/
theorem aS_rA {L : List T3} (hp : 0 < L.length) : aS L L.length = rA L (L.length - 2) := by
  rcases (by omega : L.length = 1 ∨ 2 ≤ L.length) with e | e
  · rw [e]
    have := crs_flip (gA L 0) (gA L 0)
    have g1 : gA L 1 = gA L 0 := by have := gA_round L; rwa [e] at this
    show 0 + crs (gA L 0) (gA L 1) = 0
    rw [g1]; omega
  · obtain ⟨m, hm⟩ : ∃ m, L.length = m + 2 := ⟨L.length - 2, by omega⟩
    have h := rA_step L m
    have g := gA_round L
    rw [hm] at g ⊢
    show aS L (m + 1) + crs (gA L (m + 1)) (gA L (m + 2)) = rA L m
    rw [g]
    exact h
theorem rA_pos {L : List T3} (hv : VH L) (h3 : 3 ≤ L.length) : ∀ k, k + 2 ≤ L.length → 0 ≤ rA L k ∧ (0 < k → 0 < rA L k)
  | 0, _ => ⟨by simp [rA], fun h => by omega⟩
  | k + 1, hk => by
    obtain ⟨h1, _⟩ := rA_pos hv h3 k (by omega)
    have e : (k + 1 + 1) % L.length = k + 2 := Nat.mod_eq_of_lt (by omega)
    have h := edge_pos hv h3 (k := k + 1) (j := 0) (by omega) (by omega) (by omega) (by omega)
    rw [rA]
    rw [← Hl.tn_rot]
    have : 0 < Hl.tn (fA L (k + 1)) (fA L (k + 2)) (fA L 0) := h
    omega
/-- There is an area just if there are three corners. -/
theorem area_pos {L : List T3} (hv : VH L) : 0 < aS L L.length ↔ 2 < L.length := by
  rw [aS_rA hv.1]
  constructor
  · intro h
    apply Classical.byContradiction
    intro hn
    rw [show L.length - 2 = 0 by omega] at h
    exact absurd h (by simp [rA])
  · intro h
    exact (rA_pos hv (by omega) (L.length - 2) (by omega)).2 (by omega)
end Go.Proofs.Ytpkfngfenkcjoaa

/- Hulls of parts, and of two lists together. Plain facts. -/
set_option linter.all false
namespace Go.Proofs.Ytpkfngfenkcjoaa.Hl

/-- The hull of fewer points that has all corners among them. -/
theorem IsH.mono {S T h : List P2} (H : IsH S h) (h1 : ∀ q ∈ T, q ∈ S) (h2 : ∀ q ∈ h, q ∈ T) : IsH T h where
  sub := h2
  pos := H.pos
  first := fun p hp => H.first p (h1 p hp)
  one := fun e p hp => H.one e p (h1 p hp)
  two := fun e p hp => H.two e p (h1 p hp)
  ne2 := H.ne2
  left := fun e p hp => H.left e p (h1 p hp)
  last := fun e p hp => H.last e p (h1 p hp)
  turn := H.turn
  turn0 := H.turn0
theorem IsH.self {S h : List P2} (H : IsH S h) : IsH h h := H.mono H.sub (fun _ h => h)
/-- What is nowhere negative at the corners is nowhere negative. -/
theorem IsH.nonneg {S h : List P2} (H : IsH S h) {f : P2 → Int} (hf : Aff f) (h0 : ∀ q ∈ h, 0 ≤ f q) : ∀ p ∈ S, 0 ≤ f p := by
  intro p hp
  by_cases hm : p ∈ h
  · exact h0 p hm
  · have G : IsH (p :: h) h := H.mono (fun q hq => by rcases List.mem_cons.1 hq with rfl | k; exact hp; exact H.sub q k) (fun q hq => List.mem_cons_of_mem _ hq)
    obtain ⟨a, ha, b, hb, c, hc, n1, n2, n3, ht⟩ := G.other List.mem_cons_self hm
    have ha := (List.mem_cons.1 ha).resolve_left n1
    have hb := (List.mem_cons.1 hb).resolve_left n2
    have hc := (List.mem_cons.1 hc).resolve_left n3
    apply Classical.byContradiction
    intro hn
    obtain ⟨A, B, C, hA⟩ := hf
    have e0 := hA p
    have e1 := hA a
    have e2 := hA b
    have e3 := hA c
    have k1 := h0 a ha
    have k2 := h0 b hb
    have k3 := h0 c hc
    exact aff_in (A := A) (B := B) (C := C - f p) (by omega) (by omega) (by omega) (by omega) ht
theorem aff_neg {f : P2 → Int} (h : Aff f) : Aff (fun p => - f p) := by
  obtain ⟨A, B, C, hA⟩ := h
  exact ⟨-A, -B, -C, fun p => by show -f p = _; rw [hA]; grind⟩
theorem aff_fst (c : Int) : Aff (fun p => p.1 - c) := ⟨1, 0, -c, fun p => by simp; omega⟩
theorem aff_snd (c : Int) : Aff (fun p => p.2 - c) := ⟨0, 1, -c, fun p => by simp; omega⟩
theorem IsH.zero {S h : List P2} (H : IsH S h) {f : P2 → Int} (hf : Aff f) (h0 : ∀ q ∈ h, f q = 0) : ∀ p ∈ S, f p = 0 := by
  intro p hp
  have h1 := H.nonneg hf (fun q hq => by rw [h0 q hq]; omega) p hp
  have h2 := H.nonneg (aff_neg hf) (fun q hq => by rw [h0 q hq]; omega) p hp
  omega
theorem IsH.le1 {S h : List P2} (H : IsH S h) {c : Int} (h0 : ∀ q ∈ h, c ≤ q.1) : ∀ p ∈ S, c ≤ p.1 := fun p hp => by
  have := H.nonneg (aff_fst c) (fun q hq => by have := h0 q hq; omega) p hp; omega
theorem IsH.ge1 {S h : List P2} (H : IsH S h) {c : Int} (h0 : ∀ q ∈ h, q.1 ≤ c) : ∀ p ∈ S, p.1 ≤ c := fun p hp => by
  have := H.nonneg (aff_neg (aff_fst c)) (fun q hq => by have := h0 q hq; omega) p hp; omega
theorem IsH.le2 {S h : List P2} (H : IsH S h) {c : Int} (h0 : ∀ q ∈ h, c ≤ q.2) : ∀ p ∈ S, c ≤ p.2 := fun p hp => by
  have := H.nonneg (aff_snd c) (fun q hq => by have := h0 q hq; omega) p hp; omega
theorem IsH.ge2 {S h : List P2} (H : IsH S h) {c : Int} (h0 : ∀ q ∈ h, q.2 ≤ c) : ∀ p ∈ S, p.2 ≤ c := fun p hp => by
  have := H.nonneg (aff_neg (aff_snd c)) (fun q hq => by have := h0 q hq; omega) p hp; omega
/-- All points, not the corners alone. -/
theorem IsH.grow {S h T g : List P2} (H : IsH S h) (G : IsH T g) (hT : ∀ q ∈ h, q ∈ T) (p : P2) (hp : p ∈ S) :
    (p = g[0]'G.pos ∨ lt (g[0]'G.pos) p) ∧ (g.length = 1 → p = g[0]'G.pos) ∧ (∀ e : g.length = 2, on g[0] g[1] p) ∧ (3 ≤ g.length → ∀ i (hi : i + 1 < g.length), 0 ≤ tn g[i] g[i + 1] p) ∧ (3 ≤ g.length → 0 ≤ tn (g[g.length - 1]'(by have := G.pos; omega)) (g[0]'G.pos) p) := by
  refine ⟨?_, fun e => ?_, fun e => ?_, fun e i hi => ?_, fun e => ?_⟩
  · have k := G.first (h[0]'H.pos) (hT _ (List.getElem_mem H.pos))
    rcases H.first p hp with e | e
    · rw [e]; exact k
    · rcases k with k | k
      · rw [← k]; exact .inr e
      · exact .inr (lt_trans k e)
  · have a1 := H.zero (aff_fst (g[0]'G.pos).1) (fun q hq => by rw [G.one e q (hT q hq)]; omega) p hp
    have a2 := H.zero (aff_snd (g[0]'G.pos).2) (fun q hq => by rw [G.one e q (hT q hq)]; omega) p hp
    exact ext2 (by omega) (by omega)
  · exact ⟨H.zero (aff_tn _ _) (fun q hq => (G.two e q (hT q hq)).1) p hp, H.le1 (fun q hq => (G.two e q (hT q hq)).2.1) p hp, H.ge1 (fun q hq => (G.two e q (hT q hq)).2.2.1) p hp, H.le2 (fun q hq => (G.two e q (hT q hq)).2.2.2.1) p hp, H.ge2 (fun q hq => (G.two e q (hT q hq)).2.2.2.2) p hp⟩
  · exact H.nonneg (aff_tn _ _) (fun q hq => G.left e q (hT q hq) i hi) p hp
  · exact H.nonneg (aff_tn _ _) (fun q hq => G.last e q (hT q hq)) p hp
/-- The hull of two hulls is the hull of all points. -/
theorem IsH.union {S T h i g : List P2} (H : IsH S h) (I : IsH T i) (G : IsH (h ++ i) g) : IsH (S ++ T) g := by
  have a := fun p (hp : p ∈ S) => H.grow G (fun q hq => List.mem_append.2 (.inl hq)) p hp
  have b := fun p (hp : p ∈ T) => I.grow G (fun q hq => List.mem_append.2 (.inr hq)) p hp
  have c : ∀ p ∈ S ++ T, (p = g[0]'G.pos ∨ lt (g[0]'G.pos) p) ∧ (g.length = 1 → p = g[0]'G.pos) ∧ (∀ e : g.length = 2, on g[0] g[1] p) ∧ (3 ≤ g.length → ∀ i (hi : i + 1 < g.length), 0 ≤ tn g[i] g[i + 1] p) ∧ (3 ≤ g.length → 0 ≤ tn (g[g.length - 1]'(by have := G.pos; omega)) (g[0]'G.pos) p) := by
    intro p hp
    rcases List.mem_append.1 hp with hp | hp
    · exact a p hp
    · exact b p hp
  refine ⟨fun p hp => ?_, G.pos, fun p hp => (c p hp).1, fun e p hp => (c p hp).2.1 e, fun e p hp => (c p hp).2.2.1 e, G.ne2, fun e p hp j hj => (c p hp).2.2.2.1 e j hj, fun e p hp => (c p hp).2.2.2.2 e, G.turn, G.turn0⟩
  rcases List.mem_append.1 (G.sub p hp) with k | k
  · exact List.mem_append.2 (.inl (H.sub p k))
  · exact List.mem_append.2 (.inr (I.sub p k))
end Go.Proofs.Ytpkfngfenkcjoaa.Hl

/- What HullHolds asks of a hull. Plain facts. -/
set_option linter.all false
namespace Go.Proofs.Ytpkfngfenkcjoaa
open Go.RowKit Go.Sort Go.Lib

theorem FF_len (L : List T3) : (FF L).length ≤ L.length := by
  unfold FF compactUpTo
  rw [List.length_map]
  refine Nat.le_trans (List.length_filter_le _ _) ?_
  rw [List.length_range, ms_length, List.length_map]
  exact Nat.le_refl _
theorem corners_len (L : List T3) : (cornersT t3 L).length ≤ 2 * L.length := by
  have h := FF_len L
  unfold cornersT
  split
  · omega
  · rw [List.length_append, List.length_dropLast, List.length_dropLast, List.length_reverse, List.length_reverse]
    have h1 := chT_len t3 (FF L)
    have h2 := chT_len t3 (FF L).reverse
    rw [List.length_reverse] at h2
    omega
/-- The hull of some points: a hull. -/
theorem hull_vh {L : List T3} {H : List Hl.P2} (hC : cornersT t3 L = fl H) (hH : Hl.IsH (L.map pl) H) (hl : L.length ≤ 1000) (hv : inL 1048576 L = true) : VH (fl H) ∧ (fl H).length ≤ 2000 := by
  have hlen : (fl H).length ≤ 2000 := by rw [← hC]; have := corners_len L; omega
  refine ⟨isH_vh rfl hH.self (by omega) ?_, hlen⟩
  unfold inL
  rw [List.all_eq_true]
  intro a ha
  obtain ⟨q, hq, rfl⟩ := List.mem_map.1 ha
  obtain ⟨b, hb, e⟩ := List.mem_map.1 (hH.sub q hq)
  have := inV_iff.1 (inL_mem hv b hb)
  subst e
  exact inV_iff.2 ⟨by show _ ≤ b.1 ∧ b.1 ≤ _; omega, by show _ ≤ b.2.1 ∧ b.2.1 ≤ _; omega, by show _ ≤ (0 : Int) ∧ (0 : Int) ≤ _; omega⟩
theorem corners_is {L : List T3} {H : List Hl.P2} (hp : 0 < L.length) (hH : Hl.IsH (L.map pl) H) : cornersT t3 L = fl H := by
  obtain ⟨G, hG, hI⟩ := corners_hull L hp
  rw [hG, hI.unique hH]
theorem fl_pos {H : List Hl.P2} (h : VH (fl H)) : 0 < (fl H).length := h.1
/-- A point is nowhere outside of the hull. -/
theorem side_nonneg {L M : List T3} {H : List Hl.P2} (hM : M = fl H) (hH : Hl.IsH (L.map pl) H) (hv : VH M) {p : T3} (hp : p ∈ L) : 0 ≤ sideV M p := by
  have hpl : pl p ∈ L.map pl := List.mem_map_of_mem hp
  have hMl : M.length = H.length := by rw [hM, fl_length]
  have hat : ∀ k (hk : k < H.length), fA M k = H[k] := by
    intro k hk
    unfold fA
    rw [← gA_at (by omega : k < M.length)]
    subst hM
    rw [fl_get H k hk]
    rfl
  have ho : ∀ k, Hl.on (fA M 0) (fA M k) (pl p) → pl (p.1, p.2.1, (0 : Int)) = pl p := fun _ _ => rfl
  unfold sideV
  split
  · next h2 =>
    have hz : ∀ k, (gA M k).2.2 = 0 := by
      intro k
      have hk := Nat.mod_lt k hv.1
      rw [← gA_nx hk]
      exact hv.2.2.2.1 _ (List.getElem_mem hk)
    have h1 := hv.1
    rcases (by omega : M.length = 1 ∨ M.length = 2) with e | e
    · rw [e]
      rw [sol_on (hz 0) (hz 0) rfl (.inr rfl), if_pos]
      · omega
      · have := hH.one (by omega) _ hpl
        show Hl.on (fA M 0) (fA M 0) (pl p)
        rw [hat 0 (by omega), this]
        exact ⟨Hl.tn_aba _ _, by omega, by omega, by omega, by omega⟩
    · rw [e]
      have hlt : L3 (gA M 0) (gA M 1) := by
        have := (c3_neg _ _).1 (hv.2.2.2.2.1 1 (by omega) (by omega))
        rwa [gA_at (by omega), gA_at (by omega)] at this
      rw [sol_on (hz 0) (hz 1) rfl (.inl hlt), if_pos]
      · omega
      · have := hH.two (by omega) _ hpl
        show Hl.on (fA M 0) (fA M 1) (pl p)
        rw [hat 0 (by omega), hat 1 (by omega)]
        exact this
  · next h2 =>
    have h3 : 3 ≤ H.length := by omega
    rcases sS_mem M (p.1, p.2.1, 0) M.length with h | ⟨j, hj, h⟩
    · rw [h]; omega
    · rw [h, t3_tn]
      have hge : 0 ≤ Hl.tn (fA M j) (fA M (j + 1)) (pl p) := by
        rcases Nat.lt_or_ge (j + 1) H.length with g | g
        · rw [hat j (by omega), hat (j + 1) g]
          exact hH.left h3 _ hpl j g
        · have e : j = H.length - 1 := by omega
          have : fA M (j + 1) = fA M 0 := by unfold fA; rw [show j + 1 = M.length by omega, gA_round]
          rw [this, hat j (by omega), hat 0 (by omega)]
          have := hH.last h3 _ hpl
          simp only [e]
          exact this
      have hge2 : 0 ≤ Hl.tn (pl (gA M j)) (pl (gA M (j + 1))) (pl (p.1, p.2.1, (0 : Int))) := hge
      rcases cmpI_cases (Hl.tn (pl (gA M j)) (pl (gA M (j + 1))) (pl (p.1, p.2.1, (0 : Int)))) with ⟨a, b⟩ | ⟨a, b⟩ | ⟨a, b⟩ <;> omega
/-- Extents of opposite directions. -/
theorem eD_bd {d a : T3} (hd : inV 16777216 d.1 d.2.1 d.2.2 = true) (ha : inV 1048576 a.1 a.2.1 a.2.2 = true) : -70368744177664 ≤ eD d a ∧ eD d a ≤ 70368744177664 := by
  obtain ⟨a1, a2, a3⟩ := bv_of hd
  obtain ⟨b1, b2, b3⟩ := bv_of ha
  have c1 := mul_bd a1 b1
  have c2 := mul_bd a2 b2
  have c3 := mul_bd a3 b3
  unfold eD dt
  omega
theorem ext_opp {L : List T3} {d d' : T3} (hv : inL 1048576 L = true) (hp : 0 < L.length) (hd : inV 16777216 d.1 d.2.1 d.2.2 = true) (h1 : d'.1 = -d.1) (h2 : d'.2.1 = -d.2.1) (h3 : d'.2.2 = -d.2.2) :
    ∀ k, eLo L d (k + 1) = -eHi L d' (k + 1) ∧ eHi L d (k + 1) = -eLo L d' (k + 1) ∧ eLo L d (k + 1) ≤ eHi L d (k + 1) ∧ (-70368744177664 ≤ eLo L d (k + 1) ∧ eHi L d (k + 1) ≤ 70368744177664) := by
  have hn : ∀ k, eD d' (gA L k) = -eD d (gA L k) := by
    intro k
    unfold eD dt
    rw [h1, h2, h3]
    grind
  intro k
  induction k with
  | zero =>
    have h := hn 0
    have b := eD_bd hd (gA_in hv hp 0)
    simp only [eLo, eHi]
    omega
  | succ k ih =>
    have h := hn (k + 1)
    have b := eD_bd hd (gA_in hv hp (k + 1))
    have u1 : eLo L d (k + 1 + 1) = min (eLo L d (k + 1)) (eD d (gA L (k + 1))) := rfl
    have u2 : eHi L d (k + 1 + 1) = max (eHi L d (k + 1)) (eD d (gA L (k + 1))) := rfl
    have u3 : eLo L d' (k + 1 + 1) = min (eLo L d' (k + 1)) (eD d' (gA L (k + 1))) := rfl
    have u4 : eHi L d' (k + 1 + 1) = max (eHi L d' (k + 1)) (eD d' (gA L (k + 1))) := rfl
    rw [u1, u2, u3, u4]
    clear u1 u2 u3 u4
    generalize eLo L d (k + 1) = a1 at *
    generalize eHi L d (k + 1) = a2 at *
    generalize eLo L d' (k + 1) = a3 at *
    generalize eHi L d' (k + 1) = a4 at *
    omega
end Go.Proofs.Ytpkfngfenkcjoaa

/- The hull of a grid: its rectangle. Plain facts. -/
set_option linter.all false
namespace Go.Proofs.Ytpkfngfenkcjoaa.Hl

/-- The corners of a rectangle. -/
theorem rect {S : List P2} {X Y : Int} (hX : 0 < X) (hY : 0 < Y) (hb : ∀ q ∈ S, (0 ≤ q.1 ∧ q.1 ≤ X) ∧ (0 ≤ q.2 ∧ q.2 ≤ Y)) (h0 : (0, 0) ∈ S) (h1 : (X, 0) ∈ S) (h2 : (X, Y) ∈ S) (h3 : (0, Y) ∈ S) : IsH S [(0, 0), (X, 0), (X, Y), (0, Y)] := by
  have hXY := Int.mul_pos hX hY
  have m1 : ∀ q ∈ S, 0 ≤ X * q.2 := fun q hq => Int.mul_nonneg (by omega) (hb q hq).2.1
  have m2 : ∀ q ∈ S, 0 ≤ Y * (X - q.1) := fun q hq => Int.mul_nonneg (by omega) (by have := (hb q hq).1.2; omega)
  have m3 : ∀ q ∈ S, 0 ≤ X * (Y - q.2) := fun q hq => Int.mul_nonneg (by omega) (by have := (hb q hq).2.2; omega)
  have m4 : ∀ q ∈ S, 0 ≤ Y * q.1 := fun q hq => Int.mul_nonneg (by omega) (hb q hq).1.1
  have t0 : ∀ q : P2, tn (0, 0) (X, 0) q = X * q.2 := fun q => by unfold tn; grind
  have t1 : ∀ q : P2, tn (X, 0) (X, Y) q = Y * (X - q.1) := fun q => by unfold tn; grind
  have t2 : ∀ q : P2, tn (X, Y) (0, Y) q = X * (Y - q.2) := fun q => by unfold tn; grind
  have t3 : ∀ q : P2, tn (0, Y) (0, 0) q = Y * q.1 := fun q => by unfold tn; grind
  refine ⟨fun p hp => ?_, by simp, fun p hp => ?_, fun e => by simp at e, fun e => by simp at e, fun e => by simp at e, fun _ p hp i hi => ?_, fun _ p hp => ?_, fun _ i hi k hk n1 n2 => ?_, fun _ k hk n1 n2 => ?_⟩
  · simp at hp
    rcases hp with rfl | rfl | rfl | rfl
    · exact h0
    · exact h1
    · exact h2
    · exact h3
  · have := hb p hp
    by_cases e : p = (0, 0)
    · exact .inl e
    · right
      show lt (0, 0) p
      unfold lt
      simp only
      by_cases e1 : p.1 = 0
      · by_cases e2 : p.2 = 0
        · exact absurd (ext2 e1 e2) e
        · omega
      · omega
  · simp at hi
    rcases (by omega : i = 0 ∨ i = 1 ∨ i = 2) with rfl | rfl | rfl
    · show 0 ≤ tn (0, 0) (X, 0) p; rw [t0]; exact m1 p hp
    · show 0 ≤ tn (X, 0) (X, Y) p; rw [t1]; exact m2 p hp
    · show 0 ≤ tn (X, Y) (0, Y) p; rw [t2]; exact m3 p hp
  · show 0 ≤ tn (0, Y) (0, 0) p; rw [t3]; exact m4 p hp
  · simp at hi hk
    rcases (by omega : i = 0 ∨ i = 1 ∨ i = 2) with rfl | rfl | rfl
    · rcases (by omega : k = 2 ∨ k = 3) with rfl | rfl
      · show 0 < tn (0, 0) (X, 0) (X, Y); rw [t0]; exact hXY
      · show 0 < tn (0, 0) (X, 0) (0, Y); rw [t0]; exact hXY
    · rcases (by omega : k = 0 ∨ k = 3) with rfl | rfl
      · show 0 < tn (X, 0) (X, Y) (0, 0); rw [t1]; show 0 < Y * (X - 0); rw [Int.sub_zero, Int.mul_comm]; exact hXY
      · show 0 < tn (X, 0) (X, Y) (0, Y); rw [t1]; show 0 < Y * (X - 0); rw [Int.sub_zero, Int.mul_comm]; exact hXY
    · rcases (by omega : k = 0 ∨ k = 1) with rfl | rfl
      · show 0 < tn (X, Y) (0, Y) (0, 0); rw [t2]; show 0 < X * (Y - 0); rw [Int.sub_zero]; exact hXY
      · show 0 < tn (X, Y) (0, Y) (X, 0); rw [t2]; show 0 < X * (Y - 0); rw [Int.sub_zero]; exact hXY
  · simp at hk n1
    rcases (by omega : k = 1 ∨ k = 2) with rfl | rfl
    · show 0 < tn (0, Y) (0, 0) (X, 0); rw [t3, Int.mul_comm]; exact hXY
    · show 0 < tn (0, Y) (0, 0) (X, Y); rw [t3, Int.mul_comm]; exact hXY
/-- One point alone. -/
theorem dot_isH {S : List P2} {a : P2} (h0 : a ∈ S) (h : ∀ q ∈ S, q = a) : IsH S [a] :=
  ⟨fun p hp => by rw [List.mem_singleton.1 hp]; exact h0, by simp, fun p hp => .inl (h p hp), fun _ p hp => h p hp, fun e => by simp at e, fun e => by simp at e, fun e => by simp at e, fun e => by simp at e, fun e => by simp at e, fun e => by simp at e⟩
/-- A row. -/
theorem row_isH {S : List P2} {X : Int} (hX : 0 < X) (hb : ∀ q ∈ S, (0 ≤ q.1 ∧ q.1 ≤ X) ∧ q.2 = 0) (h0 : (0, 0) ∈ S) (h1 : (X, 0) ∈ S) : IsH S [(0, 0), (X, 0)] := by
  refine ⟨fun p hp => ?_, by simp, fun p hp => ?_, fun e => by simp at e, fun _ p hp => ?_, fun _ e => ?_, fun e => by simp at e, fun e => by simp at e, fun e => by simp at e, fun e => by simp at e⟩
  · simp at hp
    rcases hp with rfl | rfl
    · exact h0
    · exact h1
  · have := hb p hp
    by_cases e1 : p.1 = 0
    · exact .inl (ext2 e1 this.2)
    · right; show lt (0, 0) p; unfold lt; simp only; omega
  · have := hb p hp
    refine ⟨?_, ?_, ?_, ?_, ?_⟩
    · show tn (0, 0) (X, 0) p = 0
      unfold tn
      simp only
      rw [this.2]; grind
    all_goals (simp only [List.getElem_cons_zero, List.getElem_cons_succ]; omega)
  · have := congrArg Prod.fst e
    simp at this
    omega
/-- A column. -/
theorem col_isH {S : List P2} {Y : Int} (hY : 0 < Y) (hb : ∀ q ∈ S, q.1 = 0 ∧ (0 ≤ q.2 ∧ q.2 ≤ Y)) (h0 : (0, 0) ∈ S) (h1 : (0, Y) ∈ S) : IsH S [(0, 0), (0, Y)] := by
  refine ⟨fun p hp => ?_, by simp, fun p hp => ?_, fun e => by simp at e, fun _ p hp => ?_, fun _ e => ?_, fun e => by simp at e, fun e => by simp at e, fun e => by simp at e, fun e => by simp at e⟩
  · simp at hp
    rcases hp with rfl | rfl
    · exact h0
    · exact h1
  · have := hb p hp
    by_cases e1 : p.2 = 0
    · exact .inl (ext2 this.1 e1)
    · right; show lt (0, 0) p; unfold lt; simp only; omega
  · have := hb p hp
    refine ⟨?_, ?_, ?_, ?_, ?_⟩
    · show tn (0, 0) (0, Y) p = 0
      unfold tn
      simp only
      rw [this.1]; grind
    all_goals (simp only [List.getElem_cons_zero, List.getElem_cons_succ]; omega)
  · have := congrArg Prod.snd e
    simp at this
    omega
end Go.Proofs.Ytpkfngfenkcjoaa.Hl

/- HullGrids: the list of the grid's points, its hull, its area. Plain facts. -/
set_option linter.all false
namespace Go.Proofs.Ytpkfngfenkcjoaa
open Go.RowKit

/-- The first points of a row, and the first rows. -/
def grow (s i : Nat) : Nat → List T3
  | 0 => []
  | k + 1 => grow s i k ++ [((k : Int) * (s : Int), (i : Int) * (s : Int), (i : Int) + (k : Int))]
def gall (c s : Nat) : Nat → List T3
  | 0 => []
  | i + 1 => gall c s i ++ grow s i c
theorem grow_len (s i : Nat) : ∀ k, (grow s i k).length = k
  | 0 => rfl
  | k + 1 => by rw [grow, List.length_append, grow_len]; rfl
theorem gall_len (c s : Nat) : ∀ i, (gall c s i).length = i * c
  | 0 => by simp [gall]
  | i + 1 => by rw [gall, List.length_append, gall_len, grow_len, Nat.succ_mul]
theorem grow_mem (s i : Nat) (a : T3) : ∀ k, a ∈ grow s i k ↔ ∃ j, j < k ∧ a = ((j : Int) * (s : Int), (i : Int) * (s : Int), (i : Int) + (j : Int))
  | 0 => by simp [grow]
  | k + 1 => by
    rw [grow, List.mem_append, grow_mem s i a k, List.mem_singleton]
    constructor
    · rintro (⟨j, hj, e⟩ | e)
      · exact ⟨j, by omega, e⟩
      · exact ⟨k, by omega, e⟩
    · rintro ⟨j, hj, e⟩
      rcases Nat.lt_or_eq_of_le (Nat.le_of_lt_succ hj) with g | rfl
      · exact .inl ⟨j, g, e⟩
      · exact .inr e
theorem gall_mem (c s : Nat) (a : T3) : ∀ i, a ∈ gall c s i ↔ ∃ m, m < i ∧ ∃ j, j < c ∧ a = ((j : Int) * (s : Int), (m : Int) * (s : Int), (m : Int) + (j : Int))
  | 0 => by simp [gall]
  | i + 1 => by
    rw [gall, List.mem_append, gall_mem c s a i, grow_mem]
    constructor
    · rintro (⟨m, hm, e⟩ | e)
      · exact ⟨m, by omega, e⟩
      · exact ⟨i, by omega, e⟩
    · rintro ⟨m, hm, e⟩
      rcases Nat.lt_or_eq_of_le (Nat.le_of_lt_succ hm) with g | rfl
      · exact .inl ⟨m, g, e⟩
      · exact .inr e
theorem mul_lim {j s : Nat} (hj : j ≤ 99) (hs : s ≤ 1000) : 0 ≤ (j : Int) * (s : Int) ∧ (j : Int) * (s : Int) ≤ 99000 := by
  have h1 := Nat.mul_le_mul hj hs
  have e : (j : Int) * (s : Int) = ((j * s : Nat) : Int) := by rw [Int.natCast_mul]
  rw [e]
  omega
theorem gall_in {r c s : Nat} (hr : r ≤ 100) (hc : c ≤ 100) (hs : s ≤ 1000) : inL 1048576 (gall c s r) = true := by
  unfold inL
  rw [List.all_eq_true]
  intro a ha
  obtain ⟨m, hm, j, hj, rfl⟩ := (gall_mem c s a r).1 ha
  have h1 := mul_lim (show j ≤ 99 by omega) hs
  have h2 := mul_lim (show m ≤ 99 by omega) hs
  exact inV_iff.2 ⟨by show _ ≤ (j : Int) * (s : Int) ∧ (j : Int) * (s : Int) ≤ _; omega, by show _ ≤ (m : Int) * (s : Int) ∧ (m : Int) * (s : Int) ≤ _; omega, by show _ ≤ (m : Int) + (j : Int) ∧ (m : Int) + (j : Int) ≤ _; omega⟩
theorem pl_mem (c s r : Nat) (q : Hl.P2) : q ∈ (gall c s r).map pl ↔ ∃ m, m < r ∧ ∃ j, j < c ∧ q = ((j : Int) * (s : Int), (m : Int) * (s : Int)) := by
  rw [List.mem_map]
  constructor
  · rintro ⟨a, ha, rfl⟩
    obtain ⟨m, hm, j, hj, rfl⟩ := (gall_mem c s a r).1 ha
    exact ⟨m, hm, j, hj, rfl⟩
  · rintro ⟨m, hm, j, hj, rfl⟩
    exact ⟨_, (gall_mem c s _ r).2 ⟨m, hm, j, hj, rfl⟩, rfl⟩
theorem mul_le {j c s : Nat} (h : j < c) : 0 ≤ (j : Int) * (s : Int) ∧ (j : Int) * (s : Int) ≤ ((c - 1 : Nat) : Int) * (s : Int) := by
  have h1 := Nat.mul_le_mul_right s (show j ≤ c - 1 by omega)
  rw [← Int.natCast_mul, ← Int.natCast_mul]
  omega
/-- The corners of the grid. -/
def gcor (c s r : Nat) : List Hl.P2 :=
  if r = 1 then (if c = 1 then [(0, 0)] else [(0, 0), (((c - 1 : Nat) : Int) * (s : Int), 0)]) else (if c = 1 then [(0, 0), (0, ((r - 1 : Nat) : Int) * (s : Int))] else [(0, 0), (((c - 1 : Nat) : Int) * (s : Int), 0), (((c - 1 : Nat) : Int) * (s : Int), ((r - 1 : Nat) : Int) * (s : Int)), (0, ((r - 1 : Nat) : Int) * (s : Int))])
theorem grid_isH {r c s : Nat} (hr : 0 < r) (hc : 0 < c) (hs : 0 < s) : Hl.IsH ((gall c s r).map pl) (gcor c s r) := by
  have pos : ∀ k : Nat, 1 < k → 0 < ((k - 1 : Nat) : Int) * (s : Int) := fun k hk => by
    have := Nat.mul_pos (show 0 < k - 1 by omega) hs
    rw [← Int.natCast_mul]
    omega
  have z : (0, 0) ∈ (gall c s r).map pl := (pl_mem c s r _).2 ⟨0, hr, 0, hc, by simp⟩
  unfold gcor
  split
  · next e =>
    subst e
    split
    · next e =>
      subst e
      refine Hl.dot_isH z (fun q hq => ?_)
      obtain ⟨m, hm, j, hj, rfl⟩ := (pl_mem _ _ _ q).1 hq
      obtain rfl : m = 0 := by omega
      obtain rfl : j = 0 := by omega
      simp
    · next e =>
      refine Hl.row_isH (pos c (by omega)) (fun q hq => ?_) z ((pl_mem c s 1 _).2 ⟨0, hr, c - 1, by omega, by simp⟩)
      obtain ⟨m, hm, j, hj, rfl⟩ := (pl_mem _ _ _ q).1 hq
      obtain rfl : m = 0 := by omega
      exact ⟨mul_le hj, by simp⟩
  · next e =>
    split
    · next e2 =>
      subst e2
      refine Hl.col_isH (pos r (by omega)) (fun q hq => ?_) z ((pl_mem 1 s r _).2 ⟨r - 1, by omega, 0, hc, by simp⟩)
      obtain ⟨m, hm, j, hj, rfl⟩ := (pl_mem _ _ _ q).1 hq
      obtain rfl : j = 0 := by omega
      exact ⟨by simp, mul_le hm⟩
    · next e2 =>
      refine Hl.rect (pos c (by omega)) (pos r (by omega)) (fun q hq => ?_) z ((pl_mem c s r _).2 ⟨0, hr, c - 1, by omega, by simp⟩) ((pl_mem c s r _).2 ⟨r - 1, by omega, c - 1, by omega, rfl⟩) ((pl_mem c s r _).2 ⟨r - 1, by omega, 0, hc, by simp⟩)
      obtain ⟨m, hm, j, hj, rfl⟩ := (pl_mem _ _ _ q).1 hq
      exact ⟨mul_le hj, mul_le hm⟩
theorem grid_hull {r c s : Nat} (hr : 0 < r) (hc : 0 < c) (hs : 0 < s) : cornersT t3 (gall c s r) = fl (gcor c s r) :=
  corners_is (by rw [gall_len]; exact Nat.mul_pos hr hc) (grid_isH hr hc hs)
theorem grid_vh {r c s : Nat} (hr : 0 < r) (hc : 0 < c) (hs : 0 < s) (hr1 : r ≤ 100) (hc1 : c ≤ 100) (hs1 : s ≤ 1000) : VH (fl (gcor c s r)) := by
  have H := grid_isH hr hc hs
  have hl : (gcor c s r).length ≤ 4 := by unfold gcor; split <;> split <;> simp
  refine isH_vh rfl H.self (by rw [fl_length]; omega) ?_
  unfold inL
  rw [List.all_eq_true]
  intro a ha
  obtain ⟨q, hq, rfl⟩ := List.mem_map.1 ha
  obtain ⟨m, hm, j, hj, rfl⟩ := (pl_mem _ _ _ q).1 (H.sub q hq)
  have h1 := mul_lim (show j ≤ 99 by omega) hs1
  have h2 := mul_lim (show m ≤ 99 by omega) hs1
  exact inV_iff.2 ⟨by show _ ≤ (j : Int) * (s : Int) ∧ (j : Int) * (s : Int) ≤ _; omega, by show _ ≤ (m : Int) * (s : Int) ∧ (m : Int) * (s : Int) ≤ _; omega, by show _ ≤ (0 : Int) ∧ (0 : Int) ≤ _; omega⟩
theorem area_rect (X Y : Int) : aS (fl [(0, 0), (X, 0), (X, Y), (0, Y)]) 4 = 2 * X * Y := by
  simp [aS, gA, fl, crs]
  grind
theorem area_two (a b : Hl.P2) : aS (fl [a, b]) 2 = 0 := by
  simp [aS, gA, fl, crs]
  grind
theorem area_dot (a : Hl.P2) : aS (fl [a]) 1 = 0 := by
  simp [aS, gA, fl, crs]
  grind
theorem grid_area (c s r : Nat) : aS (fl (gcor c s r)) (fl (gcor c s r)).length = 2 * (((c - 1 : Nat) : Int) * (s : Int)) * (((r - 1 : Nat) : Int) * (s : Int)) := by
  unfold gcor
  split
  · next e =>
    subst e
    split
    · exact (area_dot _).trans (by simp)
    · exact (area_two _ _).trans (by simp)
  · split
    · next e =>
      subst e
      exact (area_two _ _).trans (by simp)
    · exact area_rect _ _
/-- The grid's points and points at the origin behind them. -/
theorem pad_in {L : List T3} (h : inL 1048576 L = true) (m : Nat) : inL 1048576 (L ++ List.replicate m (0, 0, 0)) = true := by
  refine inL_app h ?_
  unfold inL
  rw [List.all_eq_true]
  intro a ha
  rw [(List.mem_replicate.1 ha).2]
  rfl
end Go.Proofs.Ytpkfngfenkcjoaa
