/- What the theorem leans on, part 0: Hgh, Phy, Psa, Psb, Psd, Hgi, Pse, Hgk, Hgl, Pta, Ptb. -/
import Derived.Test.YtpkfngfenkcjoaaZ7
import Derived.Test.YtpkfngfenkcjoaaZ9
import Derived.Test.YtpkfngfenkcjoaaZ4
import Derived.Test.YtpkfngfenkcjoaaZ2

/- A list that turns left all round is its own hull, and a hull is the only one. Plain facts. -/
set_option linter.all false
namespace Go.Proofs.Ytpkfngfenkcjoaa.Hl

/-- From the least point, turns to the left carry on. -/
theorem fan {o a b c : P2} (ha : lt o a) (hb : lt o b) (hc : lt o c) (h1 : 0 < tn o a b) (h2 : 0 < tn o b c) : 0 < tn o a c := by
  obtain ⟨u, hu⟩ : ∃ u : P2, u = (a.1 - o.1, a.2 - o.2) := ⟨_, rfl⟩
  obtain ⟨v, hv⟩ : ∃ v : P2, v = (b.1 - o.1, b.2 - o.2) := ⟨_, rfl⟩
  obtain ⟨x, hx⟩ : ∃ x : P2, x = (c.1 - o.1, c.2 - o.2) := ⟨_, rfl⟩
  have g1 : 0 < u.1 * v.2 - u.2 * v.1 := by subst hu hv; exact h1
  have g2 : 0 < v.1 * x.2 - v.2 * x.1 := by subst hv hx; exact h2
  have g3 : tn o a c = u.1 * x.2 - u.2 * x.1 := by subst hu hx; rfl
  have p1 : 0 < u.1 ∨ (u.1 = 0 ∧ 0 < u.2) := by subst hu; unfold lt at ha; simp only; omega
  have p2 : 0 < v.1 ∨ (v.1 = 0 ∧ 0 < v.2) := by subst hv; unfold lt at hb; simp only; omega
  have p3 : 0 < x.1 ∨ (x.1 = 0 ∧ 0 < x.2) := by subst hx; unfold lt at hc; simp only; omega
  rw [g3]
  have id1 : (u.1 * x.2 - u.2 * x.1) * v.1 = (u.1 * v.2 - u.2 * v.1) * x.1 + (v.1 * x.2 - v.2 * x.1) * u.1 := by grind
  rcases p2 with p2 | ⟨p2, p2'⟩
  · rcases p1 with p1 | ⟨p1, p1'⟩
    · have m1 := Int.mul_pos g2 p1
      have m2 : 0 ≤ (u.1 * v.2 - u.2 * v.1) * x.1 := Int.mul_nonneg (by omega) (by omega)
      exact Int.pos_of_mul_pos_left (by omega : 0 < (u.1 * x.2 - u.2 * x.1) * v.1) p2
    · rw [p1] at g1
      have := Int.mul_pos p1' p2
      omega
  · rw [p2] at g2
    rcases p3 with p3 | ⟨p3, p3'⟩
    · have := Int.mul_pos p2' p3
      omega
    · rw [p3] at g2; omega
theorem lift1 {o a k q l : P2} (h1 : 0 < tn o l k) (h2 : 0 < tn a l k) (h3 : 0 < tn o k q) (h4 : 0 < tn o a k) (h5 : 0 < tn l k q) : 0 < tn a k q := by
  have id1 : tn o l k * tn a k q = tn a l k * tn o k q + tn o a k * tn l k q := by unfold tn; grind
  have m1 := Int.mul_pos h2 h3
  have m2 := Int.mul_pos h4 h5
  exact Int.pos_of_mul_pos_right (by omega : 0 < tn o l k * tn a k q) h1
theorem lift2 {o a b k q : P2} (h1 : 0 < tn o b k) (h2 : 0 < tn o b q) (h3 : 0 < tn a b k) (h4 : 0 < tn b k q) (h5 : 0 < tn o a b) : 0 < tn a b q := by
  have id1 : tn o b k * tn a b q = tn o b q * tn a b k + tn b k q * tn o a b := by unfold tn; grind
  have m1 := Int.mul_pos h2 h3
  have m2 := Int.mul_pos h4 h5
  exact Int.pos_of_mul_pos_right (by omega : 0 < tn o b k * tn a b q) h1
/-- Turns to the left one after another, and seen from the least one: so all of them. -/
theorem triples {P : Nat → P2} {n : Nat} (h0 : ∀ k, 0 < k → k < n → lt (P 0) (P k)) (h1 : ∀ k, 0 < k → k + 1 < n → 0 < tn (P 0) (P k) (P (k + 1))) (h2 : ∀ k, k + 2 < n → 0 < tn (P k) (P (k + 1)) (P (k + 2))) :
    ∀ m, m < n → ∀ a b c, a < b → b < c → c ≤ m → 0 < tn (P a) (P b) (P c) := by
  have hf : ∀ d j, 0 < j → j + d + 1 < n → 0 < tn (P 0) (P j) (P (j + d + 1)) := by
    intro d
    induction d with
    | zero => intro j hj hn; exact h1 j hj hn
    | succ d ih =>
      intro j hj hn
      exact fan (h0 _ hj (by omega)) (h0 _ (by omega) (by omega)) (h0 _ (by omega) (by omega)) (ih j hj (by omega)) (h1 (j + d + 1) (by omega) (by omega))
  have hf2 : ∀ j k, 0 < j → j < k → k < n → 0 < tn (P 0) (P j) (P k) := by
    intro j k hj hk hn
    have := hf (k - j - 1) j hj (by omega)
    rwa [show j + (k - j - 1) + 1 = k by omega] at this
  intro m
  induction m with
  | zero => intro _ a b c _ _ _; omega
  | succ k ih =>
    intro hm a b c hab hbc hc
    have ih := ih (by omega)
    rcases Nat.lt_or_ge c (k + 1) with g | g
    · exact ih a b c hab hbc (by omega)
    · obtain rfl : c = k + 1 := by omega
      have last : ∀ a, a < k → 0 < tn (P a) (P k) (P (k + 1)) := by
        intro a ha
        rcases Nat.eq_zero_or_pos a with rfl | ha0
        · exact hf2 k (k + 1) (by omega) (by omega) (by omega)
        · rcases Nat.lt_or_ge (a + 1) k with g | g
          · have hl := h2 (k - 1) (by omega)
            rw [show k - 1 + 1 = k by omega, show k - 1 + 2 = k + 1 by omega] at hl
            exact lift1 (o := P 0) (l := P (k - 1)) (ih 0 (k - 1) k (by omega) (by omega) (by omega)) (ih a (k - 1) k (by omega) (by omega) (by omega)) (hf2 k (k + 1) (by omega) (by omega) (by omega)) (ih 0 a k ha0 (by omega) (by omega)) hl
          · have hl := h2 a (by omega)
            obtain rfl : k = a + 1 := by omega
            exact hl
      rcases Nat.lt_or_ge b k with g2 | g2
      · rcases Nat.eq_zero_or_pos a with rfl | ha0
        · exact hf2 b (k + 1) (by omega) (by omega) (by omega)
        · exact lift2 (o := P 0) (k := P k) (ih 0 b k (by omega) g2 (by omega)) (hf2 b (k + 1) (by omega) (by omega) (by omega)) (ih a b k hab g2 (by omega)) (last b g2) (ih 0 a b ha0 hab (by omega))
      · obtain rfl : b = k := by omega
        exact last a hab
/-- A list that turns left all round is its own hull. -/
theorem isH_self {h : List P2} (hp : 0 < h.length) (h0 : ∀ k (hk : k < h.length), 0 < k → lt h[0] h[k])
    (hr : 3 ≤ h.length → (∀ k (hk : k + 2 < h.length), 0 < tn h[k] h[k + 1] h[k + 2]) ∧ (∀ k (hk : k + 1 < h.length), 0 < k → 0 < tn h[0] h[k] h[k + 1])) : IsH h h := by
  have hd : ∀ k (hk : k < h.length), h.getD k (0, 0) = h[k] := fun k hk => by rw [List.getD_eq_getElem?_getD, List.getElem?_eq_getElem hk]; rfl
  have hT : 3 ≤ h.length → ∀ a b c (ha : a < b) (hb : b < c) (hc : c < h.length), 0 < tn h[a] h[b] h[c] := by
    intro hl a b c ha hb hc
    have := triples (P := fun k => h.getD k (0, 0)) (n := h.length) (fun k k0 hk => by rw [hd 0 hp, hd k hk]; exact h0 k hk k0) (fun k k0 hk => by rw [hd 0 hp, hd k (by omega), hd _ hk]; exact (hr hl).2 k hk k0)
      (fun k hk => by rw [hd k (by omega), hd (k + 1) (by omega), hd (k + 2) hk]; exact (hr hl).1 k hk) (h.length - 1) (by omega) a b c ha hb (by omega)
    rwa [hd a (by omega), hd b (by omega), hd c hc] at this
  have hmem : ∀ p ∈ h, ∃ k, ∃ hk : k < h.length, h[k] = p := fun p hp => List.mem_iff_getElem.1 hp
  have hturn : 3 ≤ h.length → ∀ i (hi : i + 1 < h.length), ∀ k (hk : k < h.length), k ≠ i → k ≠ i + 1 → 0 < tn h[i] h[i + 1] h[k] := by
    intro hl i hi k hk e1 e2
    rcases Nat.lt_or_ge k i with g | g
    · rw [← tn_rot, ← tn_rot]
      have := hT hl k i (i + 1) g (by omega) hi
      rw [← tn_rot, ← tn_rot, ← tn_rot]
      first | exact this | (rw [tn_rot, tn_rot]; exact this) | (rw [tn_rot]; exact this)
    · exact hT hl i (i + 1) k (by omega) (by omega) hk
  have hturn0 : 3 ≤ h.length → ∀ k (hk : k < h.length), k ≠ h.length - 1 → k ≠ 0 → 0 < tn h[h.length - 1] h[0] h[k] := by
    intro hl k hk e1 e2
    have := hT hl 0 k (h.length - 1) (by omega) (by omega) (by omega)
    rw [← tn_rot] 
    first | exact this | (rw [← tn_rot]; exact this)
  refine ⟨fun p hp => hp, hp, fun p hq => ?_, fun e p hq => ?_, fun e p hq => ?_, fun e => ?_, fun hl p hq i hi => ?_, fun hl p hq => ?_, hturn, hturn0⟩
  · obtain ⟨k, hk, rfl⟩ := hmem p hq
    rcases Nat.eq_zero_or_pos k with rfl | k0
    · exact .inl rfl
    · exact .inr (h0 k hk k0)
  · obtain ⟨k, hk, rfl⟩ := hmem p hq
    obtain rfl : k = 0 := by omega
    rfl
  · obtain ⟨k, hk, rfl⟩ := hmem p hq
    rcases (by omega : k = 0 ∨ k = 1) with rfl | rfl
    · exact ⟨tn_aba _ _, by omega, by omega, by omega, by omega⟩
    · exact ⟨tn_abb _ _, by omega, by omega, by omega, by omega⟩
  · intro e'
    have := h0 1 (by omega) (by omega)
    rw [← e'] at this
    exact lt_irrefl _ this
  · obtain ⟨k, hk, rfl⟩ := hmem p hq
    by_cases e1 : k = i
    · subst e1; rw [tn_aba]; omega
    · by_cases e2 : k = i + 1
      · subst e2; rw [tn_abb]; omega
      · have := hturn hl i hi k hk e1 e2; omega
  · obtain ⟨k, hk, rfl⟩ := hmem p hq
    by_cases e1 : k = h.length - 1
    · subst e1; rw [tn_aba]; omega
    · by_cases e2 : k = 0
      · subst e2; rw [tn_abb]; omega
      · have := hturn0 hl k hk e1 e2; omega
/-- There is one hull. -/
theorem IsH.unique {S h g : List P2} (H : IsH S h) (G : IsH S g) : h = g := by
  have hm : ∀ p, p ∈ h ↔ p ∈ g := fun p => (H.mem_iff p).symm.trans (G.mem_iff p)
  have hl : h.length = g.length := same_length H.nodup G.nodup hm
  refine List.ext_getElem hl ?_
  intro i
  induction i with
  | zero =>
    intro h1 h2
    rcases H.first _ (G.sub _ (List.getElem_mem h2)) with e | e
    · exact e.symm
    · rcases G.first _ (H.sub _ (List.getElem_mem h1)) with e' | e'
      · exact e'
      · exact absurd (lt_trans e e') (lt_irrefl _)
  | succ j ih =>
    intro h1 h2
    have e := ih (by omega) (by omega)
    obtain ⟨n1, n2⟩ := H.next h1
    refine G.only h2 ((hm _).1 (List.getElem_mem h1)) (by rw [← e]; exact n1) (fun c hc => ?_)
    rw [← e]
    exact n2 c ((hm c).2 hc)
end Go.Proofs.Ytpkfngfenkcjoaa.Hl

/- Which lists are hulls; the reference's Valid. -/
set_option linter.all false
namespace Go.Proofs.Ytpkfngfenkcjoaa
open Go.RowKit Go.Sort

theorem t3_pl (a b c : T3) : t3 a b c = 1 ↔ 0 < Hl.tn (pl a) (pl b) (pl c) := by
  show cmpI (Hl.tn (pl a) (pl b) (pl c)) 0 = 1 ↔ _
  unfold cmpI
  split <;> (try split) <;> omega
theorem c3_neg (a b : T3) : c3 a b < 0 ↔ L3 a b := by
  have := c3_lt a b
  unfold ltOf at this
  rw [decide_eq_true_eq] at this
  exact this
theorem fl_pl {L : List T3} (h : ∀ a ∈ L, a.2.2 = 0) : fl (L.map pl) = L := by
  unfold fl
  rw [List.map_map]
  refine (List.map_congr_left ?_).trans (List.map_id L)
  intro a ha
  have := h a ha
  show (a.1, a.2.1, (0 : Int)) = a
  rw [← this]
theorem pl_fl (H : List Hl.P2) : (fl H).map pl = H := by
  unfold fl
  rw [List.map_map]
  exact (List.map_congr_left (fun a _ => rfl)).trans (List.map_id H)
/-- What goes round once is its own hull. -/
theorem vh_isH {L : List T3} (h : VH L) : Hl.IsH (L.map pl) (L.map pl) := by
  obtain ⟨h1, h2, h3, h4, h5, h6⟩ := h
  refine Hl.isH_self (by rw [List.length_map]; exact h1) (fun k hk k0 => ?_) (fun hl => ?_)
  · rw [List.length_map] at hk
    have := (c3_neg _ _).1 (h5 k hk k0)
    have z1 := h4 _ (List.getElem_mem h1)
    have z2 := h4 _ (List.getElem_mem hk)
    simp only [List.getElem_map]
    unfold L3 at this
    unfold Hl.lt pl
    simp only
    omega
  · rw [List.length_map] at hl
    have hr := h6.resolve_left (by omega)
    refine ⟨fun k hk => ?_, fun k hk k0 => ?_⟩
    · rw [List.length_map] at hk
      have := hr.1 k (by omega)
      simp only [Nat.mod_eq_of_lt (show k + 1 < L.length by omega), Nat.mod_eq_of_lt (show k + 1 + 1 < L.length by omega)] at this
      simp only [List.getElem_map]
      exact (t3_pl _ _ _).1 this
    · rw [List.length_map] at hk
      simp only [List.getElem_map]
      exact (t3_pl _ _ _).1 (hr.2 k hk k0)
theorem isH_vh {L : List T3} {H : List Hl.P2} (hL : fl H = L) (hH : Hl.IsH H H) (h2 : L.length ≤ 10000) (h3 : inL 1048576 L = true) : VH L := by
  subst hL
  have hl : (fl H).length = H.length := fl_length H
  refine ⟨by rw [hl]; exact hH.pos, h2, h3, ?_, ?_, ?_⟩
  · intro a ha
    obtain ⟨b, _, rfl⟩ := List.mem_map.1 ha
    rfl
  · intro k hk k0
    rw [c3_neg]
    have hk2 : k < H.length := by omega
    rw [fl_get H 0 hH.pos, fl_get H k hk2]
    have hlt : Hl.lt H[0] H[k] := by
      rcases hH.first _ (List.getElem_mem hk2) with e | e
      · exact absurd e.symm (hH.ne hk2 k0)
      · exact e
    unfold Hl.lt at hlt
    unfold L3
    simp only
    omega
  · by_cases h : H.length ≤ 2
    · left; omega
    · right
      have hl3 : 3 ≤ H.length := by omega
      refine ⟨fun k hk => ?_, fun k hk k0 => ?_⟩
      · rw [t3_pl]
        have hk2 : k < H.length := by omega
        have m1 : (k + 1) % (fl H).length < H.length := by rw [← hl]; exact Nat.mod_lt _ (by omega)
        have m2 : (k + 1 + 1) % (fl H).length < H.length := by rw [← hl]; exact Nat.mod_lt _ (by omega)
        rw [fl_get H k hk2, fl_get H _ m1, fl_get H _ m2]
        show 0 < Hl.tn H[k] (H[(k + 1) % (fl H).length]) (H[(k + 1 + 1) % (fl H).length])
        simp only [hl]
        rcases (by omega : k + 2 < H.length ∨ k + 2 = H.length ∨ k + 1 = H.length) with g | g | g
        · simp only [Nat.mod_eq_of_lt (show k + 1 < H.length by omega), Nat.mod_eq_of_lt (show k + 1 + 1 < H.length by omega)]
          exact hH.turn hl3 k (by omega) (k + 1 + 1) (by omega) (by omega) (by omega)
        · simp only [Nat.mod_eq_of_lt (show k + 1 < H.length by omega), show (k + 1 + 1) % H.length = 0 by rw [show k + 1 + 1 = H.length by omega]; exact Nat.mod_self _]
          exact hH.turn hl3 k (by omega) 0 (by omega) (by omega) (by omega)
        · have e1 : (k + 1) % H.length = 0 := by rw [g]; exact Nat.mod_self _
          have e2 : (k + 1 + 1) % H.length = 1 := by rw [g, Nat.add_mod_left]; exact Nat.mod_eq_of_lt (by omega)
          simp only [e1, e2]
          have := hH.turn0 hl3 1 (by omega) (by omega) (by omega)
          simp only [show H.length - 1 = k by omega] at this
          exact this
      · rw [t3_pl]
        have hk2 : k + 1 < H.length := by omega
        rw [fl_get H 0 hH.pos, fl_get H k (by omega), fl_get H _ hk2]
        show 0 < Hl.tn H[0] H[k] H[k + 1]
        rw [← Hl.tn_rot]
        exact hH.turn hl3 k hk2 0 hH.pos (by omega) (by omega)
/-- The hulls are the lists that are the hull of their own points. -/
theorem vh_iff {L : List T3} {H : List Hl.P2} (hH : Hl.IsH (L.map pl) H) (h2 : L.length ≤ 10000) (h3 : inL 1048576 L = true) : fl H = L ↔ VH L := by
  constructor
  · intro e
    refine isH_vh e ?_ h2 h3
    rw [← e, pl_fl] at hH
    exact hH
  · intro h
    rw [hH.unique (vh_isH h)]
    exact fl_pl h.2.2.2.1
noncomputable instance (L : List T3) : Decidable (VH L) := Classical.propDecidable _

/-! The reference's Valid. -/
set_option maxRecDepth 100000 in
set_option maxHeartbeats 4000000 in
theorem rvalid_0 (p : Option Addr) (n cap : Nat) (w : World) (h0 : ¬ (0 : Int) < (n : Int) ∨ ¬ (n : Int) ≤ 10000) :
    Calls Try.prog 9 #[.slice p n cap] w (Ret (.bool false) w) := by
  have E := Lib.hid (Below.refl w.heap.size w)
  by_cases h1 : (0 : Int) < (n : Int)
  · have h2 : ¬ (n : Int) ≤ 10000 := h0.resolve_left (fun h => h h1)
    clear h0
    go_enter Try.func9, Try.ntmps9
    go_wp2
    go_ret
    exact ⟨rfl, E.out⟩
  · clear h0
    go_enter Try.func9, Try.ntmps9
    go_wp2
    go_ret
    exact ⟨rfl, E.out⟩
set_option maxRecDepth 100000 in
set_option maxHeartbeats 4000000 in
theorem rvalid_1 (p : Option Addr) (n cap : Nat) (w : World) (h0 : (0 : Int) < (n : Int)) (h1 : (n : Int) ≤ 10000)
    (HP : ∀ w', Below w.heap.size w w' → Calls Try.prog 26 #[.slice p n cap] w' (Ret (.bool false) w')) :
    Calls Try.prog 9 #[.slice p n cap] w (Ret (.bool false) w) := by
  have E := Lib.hid (Below.refl w.heap.size w)
  have HP := Lib.hid HP
  go_enter Try.func9, Try.ntmps9
  go_wp2_with fail
  refine (HP.out _ E.out).mono ?_
  rintro e y ⟨rfl, b⟩
  have E := Lib.hid (chain E.out b)
  clear b
  go_wp2
  go_ret
  exact ⟨rfl, E.out⟩
set_option maxRecDepth 100000 in
set_option maxHeartbeats 4000000 in
theorem rvalid_2 (p : Option Addr) (n cap : Nat) (w : World) (res : Bool) (X : World → Value → Prop) (h0 : (0 : Int) < (n : Int)) (h1 : (n : Int) ≤ 10000)
    (HP : ∀ w', Below w.heap.size w w' → Calls Try.prog 26 #[.slice p n cap] w' (Ret (.bool true) w'))
    (HH : ∀ w', Below w.heap.size w w' → Calls Try.prog 27 #[.slice p n cap] w' (fun e w2 => ∃ vo, e = .returned vo ∧ X w2 vo ∧ Below w'.heap.size w' w2))
    (HS : ∀ w' vo, Below w.heap.size w w' → X w' vo → Calls Try.prog 16 #[vo, .slice p n cap] w' (Ret (.bool res) w')) :
    Calls Try.prog 9 #[.slice p n cap] w (Ret (.bool res) w) := by
  have E := Lib.hid (Below.refl w.heap.size w)
  have HP := Lib.hid HP
  have HH := Lib.hid HH
  have HS := Lib.hid HS
  go_enter Try.func9, Try.ntmps9
  go_wp2_with fail
  refine (HP.out _ E.out).mono ?_
  rintro e y ⟨rfl, b⟩
  have E := Lib.hid (chain E.out b)
  clear b
  go_wp2_with fail
  refine (HH.out _ E.out).mono ?_
  rintro e y1 ⟨vo, rfl, hx, b⟩
  have HX := Lib.hid hx
  have E := Lib.hid (chain E.out b)
  clear b hx
  go_wp2_with fail
  refine (HS.out _ _ E.out HX.out).mono ?_
  rintro e y2 ⟨rfl, b⟩
  have E := Lib.hid (chain E.out b)
  clear b
  go_wp2
  go_ret
  exact ⟨rfl, E.out⟩
/-- The reference's Valid is Valid. -/
theorem rValidH_any (L : List T3) (v : Value) (w : World) (h : Rv w v L) : Calls Try.prog 9 #[v] w (Ret (.bool (decide (VH L))) w) := by
  obtain ⟨p, b, off, cap, rfl, -⟩ := id h
  by_cases h1 : 0 < L.length
  · by_cases h2 : L.length ≤ 10000
    · by_cases h3 : inL 1048576 L = true
      · obtain ⟨H, -, hH⟩ := corners_hull L h1
        have hb : ∀ a ∈ L.map (fun a => (a.1, a.2.1)), inV 16777216 a.1 a.2 0 = true := by
          intro a ha
          obtain ⟨b, hb, rfl⟩ := List.mem_map.1 ha
          have := inV_iff.1 (inL_mem h3 b hb)
          exact inV_iff.2 ⟨by show _ ≤ b.1 ∧ b.1 ≤ _; omega, by show _ ≤ b.2.1 ∧ b.2.1 ≤ _; omega, by omega⟩
        have e : decide (VH L) = decide (fl H = L) := by
          by_cases g : fl H = L
          · rw [decide_eq_true g, decide_eq_true ((vh_iff hH h2 h3).1 g)]
          · rw [decide_eq_false g, decide_eq_false (fun k => g ((vh_iff hH h2 h3).2 k))]
        rw [e]
        refine rvalid_2 p L.length cap w _ (fun w' vo => Rv w' vo (fl H) ∧ Rv w' (.slice p L.length cap) L) (by omega) (by omega) (fun w' b => ?_) (fun w' b => ?_) (fun w' vo b hx => Same_any _ _ _ _ _ hx.1 hx.2)
        · have := Points_any L _ w' (h.below b)
          rwa [h3] at this
        · refine (refHull_walk L _ w' _ H rfl hH (h.below b) (by omega) hb).mono ?_
          rintro e w2 ⟨vo, rfl, hr, b2⟩
          exact ⟨vo, rfl, ⟨hr.rv, (h.below b).below b2⟩, b2⟩
      · rw [decide_eq_false (fun k : VH L => h3 k.2.2.1)]
        refine rvalid_1 p L.length cap w (by omega) (by omega) (fun w' b => ?_)
        have := Points_any L _ w' (h.below b)
        rwa [Bool.eq_false_iff.2 h3] at this
    · rw [decide_eq_false (fun k : VH L => h2 k.2.1)]
      exact rvalid_0 p L.length cap w (.inr (by omega))
  · rw [decide_eq_false (fun k : VH L => h1 k.1)]
    exact rvalid_0 p L.length cap w (.inl (by omega))
theorem Valid_anyH (L : List T3) (v : Value) (w : World) (h : Rv w v L) : Calls Try.prog 19 #[v] w (Ret (.bool (decide (VH L))) w) := by
  by_cases k : VH L
  · rw [decide_eq_true k]; exact valid_yes L v w h k
  · rw [decide_eq_false k]; exact valid_no L v w h k
end Go.Proofs.Ytpkfngfenkcjoaa

/- The reference's Side: the walk. -/
set_option linter.all false
namespace Go.Proofs.Ytpkfngfenkcjoaa
open Go.RowKit

end Go.Proofs.Ytpkfngfenkcjoaa

/- The side of a point: both ways to find it agree. -/
set_option linter.all false
namespace Go.Proofs.Ytpkfngfenkcjoaa
open Go.RowKit

theorem aff_tn_le {u v a b p : Hl.P2} (ha : 0 ≤ Hl.tn u v a) (hb : 0 ≤ Hl.tn u v b) (h : Hl.on a b p) : 0 ≤ Hl.tn u v p := by
  apply Classical.byContradiction
  intro hn
  obtain ⟨A, B, C, hA⟩ := Hl.aff_tn u v
  have e1 := hA a
  have e2 := hA b
  have e3 := hA p
  exact Hl.aff_on (A := A) (B := B) (C := C - Hl.tn u v p) (by omega) (by omega) (by omega) h
/-- Between two corners, on the line through them. -/
theorem on_edge {z a b c p : Hl.P2} (h1 : 0 < Hl.tn z a b) (h2 : 0 < Hl.tn a b c) (h0 : Hl.tn a b p = 0) (h3 : 0 ≤ Hl.tn b c p) (h4 : 0 ≤ Hl.tn z a p) : Hl.on a b p := by
  refine Hl.on_of h2 h0 h3 ?_
  have hc : 0 < Hl.tn c a b := by rw [← Hl.tn_rot]; exact h2
  have e : Hl.tn z a b * Hl.tn c a p = Hl.tn c a b * Hl.tn z a p - Hl.tn a b p * Hl.tn z a c := by unfold Hl.tn; grind
  rw [h0, Int.zero_mul, Int.sub_zero] at e
  have h5 := Int.mul_nonneg (Int.le_of_lt hc) h4
  apply Classical.byContradiction
  intro hn
  have h6 := Int.mul_pos h1 (show 0 < -Hl.tn c a p by omega)
  rw [Int.mul_neg] at h6
  omega
/-- A corner on the plane, counted round. -/
def fA (L : List T3) (k : Nat) : Hl.P2 := pl (gA L k)
theorem gA_mod (L : List T3) (k : Nat) : gA L (k % L.length) = gA L k := by unfold gA; rw [Nat.mod_mod]
theorem map_at {L : List T3} {k : Nat} (h : k < (L.map pl).length) : (L.map pl)[k] = fA L k := by
  rw [List.getElem_map]
  rw [List.length_map] at h
  rw [gA_at h]; rfl
theorem edge_pos {L : List T3} (hv : VH L) (h3 : 3 ≤ L.length) {k j : Nat} (hk : k < L.length) (hj : j < L.length) (n1 : j ≠ k) (n2 : j ≠ (k + 1) % L.length) : 0 < Hl.tn (fA L k) (fA L (k + 1)) (fA L j) := by
  have H := vh_isH hv
  have hl : (L.map pl).length = L.length := List.length_map _
  rcases Nat.lt_or_ge (k + 1) L.length with g | g
  · rw [Nat.mod_eq_of_lt g] at n2
    have := H.turn (by omega) k (by omega) j (by omega) n1 n2
    rwa [map_at, map_at, map_at] at this
  · have e : k = L.length - 1 := by omega
    have e2 : (k + 1) % L.length = 0 := by rw [show k + 1 = L.length by omega]; exact Nat.mod_self _
    rw [e2] at n2
    have := H.turn0 (by omega) j (by omega) (by omega) n2
    rw [map_at, map_at, map_at, hl, ← e] at this
    rw [show fA L (k + 1) = fA L 0 by unfold fA; rw [← gA_mod L (k + 1), e2]]
    exact this
theorem edge_nonneg {L : List T3} (hv : VH L) (h3 : 3 ≤ L.length) {k j : Nat} (hk : k < L.length) (hj : j < L.length) : 0 ≤ Hl.tn (fA L k) (fA L (k + 1)) (fA L j) := by
  by_cases n1 : j = k
  · subst n1; rw [Hl.tn_aba]; omega
  · by_cases n2 : j = (k + 1) % L.length
    · have : fA L j = fA L (k + 1) := by unfold fA; rw [n2, gA_mod]
      rw [this, Hl.tn_abb]; omega
    · have := edge_pos hv h3 hk hj n1 n2; omega
theorem t3_tn (a b p : T3) : t3 a b p = cmpI (Hl.tn (pl a) (pl b) (pl p)) 0 := rfl
theorem cmpI_cases (a : Int) : (a < 0 ∧ cmpI a 0 = -1) ∨ (a = 0 ∧ cmpI a 0 = 0) ∨ (0 < a ∧ cmpI a 0 = 1) := cmpI_three a
/-- The least turn. -/
theorem sS_le (L : List T3) (p : T3) : ∀ k, sS L p k ≤ 1 ∧ ∀ j, j < k → sS L p k ≤ t3 (gA L j) (gA L (j + 1)) p
  | 0 => ⟨by simp [sS], fun j hj => by omega⟩
  | k + 1 => by
    obtain ⟨h1, h2⟩ := sS_le L p k
    rw [sS]
    refine ⟨by omega, fun j hj => ?_⟩
    rcases Nat.lt_or_ge j k with g | g
    · have := h2 j g; omega
    · obtain rfl : j = k := by omega
      omega
theorem sS_mem (L : List T3) (p : T3) : ∀ k, sS L p k = 1 ∨ ∃ j, j < k ∧ sS L p k = t3 (gA L j) (gA L (j + 1)) p
  | 0 => .inl rfl
  | k + 1 => by
    rw [sS]
    rcases Int.le_total (sS L p k) (t3 (gA L k) (gA L (k + 1)) p) with g | g
    · rw [Int.min_eq_left g]
      rcases sS_mem L p k with h | ⟨j, hj, h⟩
      · exact .inl h
      · exact .inr ⟨j, by omega, h⟩
    · rw [Int.min_eq_right g]
      exact .inr ⟨k, by omega, rfl⟩
def onA (L : List T3) (p : T3) (k : Nat) : Bool := decide (Hl.on (fA L k) (fA L (k + 1)) (pl p))
def insA (L : List T3) (p : T3) : Nat → Bool
  | 0 => decide (2 < L.length)
  | k + 1 => insA L p k && decide (0 < t3 (gA L k) (gA L (k + 1)) p)
theorem insA_true {L : List T3} {p : T3} : ∀ {k}, insA L p k = true → 2 < L.length ∧ ∀ j, j < k → 0 < t3 (gA L j) (gA L (j + 1)) p
  | 0, h => ⟨by simpa [insA] using h, fun j hj => by omega⟩
  | k + 1, h => by
    rw [insA, Bool.and_eq_true, decide_eq_true_eq] at h
    obtain ⟨h1, h2⟩ := insA_true h.1
    refine ⟨h1, fun j hj => ?_⟩
    rcases Nat.lt_or_ge j k with g | g
    · exact h2 j g
    · obtain rfl : j = k := by omega
      exact h.2
theorem insA_of {L : List T3} {p : T3} (h0 : 2 < L.length) : ∀ {k}, (∀ j, j < k → 0 < t3 (gA L j) (gA L (j + 1)) p) → insA L p k = true
  | 0, _ => by simpa [insA] using h0
  | k + 1, h => by
    rw [insA, Bool.and_eq_true, decide_eq_true_eq]
    exact ⟨insA_of h0 (fun j hj => h j (by omega)), h k (by omega)⟩
/-- With three corners or more. -/
theorem side_great {L : List T3} (hv : VH L) (h3 : 3 ≤ L.length) (p : T3) :
    (∀ k, k < L.length → onA L p k = true → sS L p L.length = 0) ∧ ((∀ k, k < L.length → onA L p k = false) → sS L p L.length = if insA L p L.length then 1 else -1) := by
  have hm : ∀ k, (k + 1) % L.length < L.length := fun k => Nat.mod_lt _ (by omega)
  have fm : ∀ k, fA L (k % L.length) = fA L k := fun k => by unfold fA; rw [gA_mod]
  constructor
  · intro k hk ho
    unfold onA at ho
    rw [decide_eq_true_eq] at ho
    have hall : ∀ j, j < L.length → 0 ≤ t3 (gA L j) (gA L (j + 1)) p := by
      intro j hj
      have h1 := edge_nonneg hv h3 hj hk
      have h2 := edge_nonneg hv h3 hj (hm k)
      rw [fm] at h2
      have := aff_tn_le h1 h2 ho
      rw [t3_tn]
      rcases cmpI_cases (Hl.tn (pl (gA L j)) (pl (gA L (j + 1))) (pl p)) with ⟨a, b⟩ | ⟨a, b⟩ | ⟨a, b⟩
      · exact absurd (show 0 ≤ Hl.tn (pl (gA L j)) (pl (gA L (j + 1))) (pl p) from this) (by omega)
      · omega
      · omega
    have h0 : t3 (gA L k) (gA L (k + 1)) p = 0 := by
      rw [t3_tn]
      have : Hl.tn (pl (gA L k)) (pl (gA L (k + 1))) (pl p) = 0 := ho.1
      rw [this]; rfl
    have h1 := (sS_le L p L.length).2 k hk
    rcases sS_mem L p L.length with h | ⟨j, hj, h⟩
    · omega
    · have := hall j hj; omega
  · intro hno
    by_cases hi : insA L p L.length = true
    · rw [if_pos hi]
      obtain ⟨_, h2⟩ := insA_true hi
      rcases sS_mem L p L.length with h | ⟨j, hj, h⟩
      · exact h
      · have h4 := h2 j hj
        have h5 := (sS_le L p L.length).1
        omega
    · rw [if_neg hi]
      apply Classical.byContradiction
      intro hne
      have hge : ∀ j, j < L.length → 0 ≤ Hl.tn (fA L j) (fA L (j + 1)) (pl p) := by
        intro j hj
        apply Classical.byContradiction
        intro hn
        apply hne
        have h4 := (sS_le L p L.length).2 j hj
        rw [t3_tn] at h4
        rcases cmpI_cases (Hl.tn (pl (gA L j)) (pl (gA L (j + 1))) (pl p)) with ⟨a, b⟩ | ⟨a, b⟩ | ⟨a, b⟩
        · rcases sS_mem L p L.length with h | ⟨i, hi, h⟩
          · omega
          · rw [t3_tn] at h
            rcases cmpI_cases (Hl.tn (pl (gA L i)) (pl (gA L (i + 1))) (pl p)) with ⟨c, d⟩ | ⟨c, d⟩ | ⟨c, d⟩ <;> omega
        · exact absurd a (by unfold fA at hn; omega)
        · exact absurd a (by unfold fA at hn; omega)
      have hpos : ∀ j, j < L.length → 0 < Hl.tn (fA L j) (fA L (j + 1)) (pl p) := by
        intro j hj
        apply Classical.byContradiction
        intro hn
        have h0 : Hl.tn (fA L j) (fA L (j + 1)) (pl p) = 0 := by have := hge j hj; omega
        have := hno j hj
        unfold onA at this
        rw [decide_eq_false_iff_not] at this
        apply this
        -- the edge before and the edge behind
        obtain ⟨i, hi, hij⟩ : ∃ i, i < L.length ∧ (i + 1) % L.length = j := by
          rcases Nat.eq_zero_or_pos j with rfl | j0
          · exact ⟨L.length - 1, by omega, by rw [show L.length - 1 + 1 = L.length by omega]; exact Nat.mod_self _⟩
          · exact ⟨j - 1, by omega, by rw [show j - 1 + 1 = j by omega]; exact Nat.mod_eq_of_lt hj⟩
        have fi : fA L (i + 1) = fA L j := by rw [← fm (i + 1), hij]
        have e1 : i ≠ j := by
          intro e
          rw [e] at hij
          rcases Nat.lt_or_ge (j + 1) L.length with g | g
          · rw [Nat.mod_eq_of_lt g] at hij; omega
          · rw [show j + 1 = L.length by omega, Nat.mod_self] at hij; omega
        have e2 : i ≠ (j + 1) % L.length := by
          intro e
          rcases Nat.lt_or_ge (i + 1) L.length with g | g
          · rw [Nat.mod_eq_of_lt g] at hij
            rcases Nat.lt_or_ge (j + 1) L.length with g2 | g2
            · rw [Nat.mod_eq_of_lt g2] at e; omega
            · rw [show j + 1 = L.length by omega, Nat.mod_self] at e; omega
          · rw [show i + 1 = L.length by omega, Nat.mod_self] at hij
            subst hij
            rw [Nat.mod_eq_of_lt (by omega)] at e
            omega
        have p1 := edge_pos hv h3 hj hi e1 e2
        have p1' : 0 < Hl.tn (fA L i) (fA L j) (fA L (j + 1)) := by rw [← Hl.tn_rot]; exact p1
        have hk := hm j
        obtain ⟨k, hkk⟩ : ∃ k, k = (j + 1) % L.length := ⟨_, rfl⟩
        rw [← hkk] at hk e2
        have fk : fA L k = fA L (j + 1) := by rw [hkk, fm]
        have fk1 : fA L (k + 1) = fA L (j + 1 + 1) := by
          rw [← fm (k + 1), ← fm (j + 1 + 1), hkk]
          congr 1
          rw [Nat.mod_add_mod]
        have e3 : j ≠ k := by
          intro e
          rw [← e] at hkk
          rcases Nat.lt_or_ge (j + 1) L.length with g | g
          · rw [Nat.mod_eq_of_lt g] at hkk; omega
          · rw [show j + 1 = L.length by omega, Nat.mod_self] at hkk; omega
        have e4 : j ≠ (k + 1) % L.length := by
          intro e
          rcases Nat.lt_or_ge (j + 1) L.length with g | g
          · rw [Nat.mod_eq_of_lt g] at hkk
            rcases Nat.lt_or_ge (k + 1) L.length with g2 | g2
            · rw [Nat.mod_eq_of_lt g2] at e; omega
            · rw [show k + 1 = L.length by omega, Nat.mod_self] at e; omega
          · rw [show j + 1 = L.length by omega, Nat.mod_self] at hkk
            subst hkk
            rw [Nat.mod_eq_of_lt (by omega)] at e
            omega
        have p2 := edge_pos hv h3 hk hj e3 e4
        rw [fk, fk1] at p2
        have q1 := hge i hi
        rw [fi] at q1
        have q2 := hge k hk
        rw [fk, fk1] at q2
        refine on_edge p1' (c := fA L (j + 1 + 1)) ?_ h0 q2 q1
        rw [← Hl.tn_rot]
        exact p2
      exact hi (insA_of (by omega) (fun j hj => by
        rw [t3_tn]
        have := hpos j hj
        rcases cmpI_cases (Hl.tn (pl (gA L j)) (pl (gA L (j + 1))) (pl p)) with ⟨a, b⟩ | ⟨a, b⟩ | ⟨a, b⟩
        · unfold fA at this; omega
        · unfold fA at this; omega
        · omega))
/-- On a line: between, in the order of vectors. -/
theorem sol_on {a b p : T3} (ha : a.2.2 = 0) (hb : b.2.2 = 0) (hp : p.2.2 = 0) (hab : L3 a b ∨ a = b) : solV a b p = if Hl.on (pl a) (pl b) (pl p) then 0 else -1 := by
  have hd1 : ∀ {x y : T3}, x.2.2 = 0 → y.2.2 = 0 → (L3 x y ↔ Hl.lt (pl x) (pl y)) := by
    intro x y hx hy
    unfold L3 Hl.lt pl
    simp only
    omega
  have hc : ∀ {x y : T3}, ¬ c3 x y ≤ 0 ↔ L3 y x := by
    intro x y
    have h1 := c3_neg y x
    have h2 : c3 y x < 0 ↔ 0 < c3 x y := by
      unfold c3 vC cmpI
      split <;> split <;> (try split) <;> (try split) <;> (try split) <;> (try split) <;> (try split) <;> (try split) <;> (try split) <;> (try split) <;> omega
    rw [← h1, h2]; omega
  unfold solV
  rw [t3_tn]
  by_cases h0 : Hl.tn (pl a) (pl b) (pl p) = 0
  · rw [h0, show cmpI 0 0 = 0 from rfl, if_neg (by simp)]
    by_cases h1 : L3 p a
    · rw [if_pos (hc.2 h1), if_neg]
      intro ho
      have h1' := (hd1 hp ha).1 h1
      obtain ⟨_, o1, o2, o3, o4⟩ := ho
      have hab' : Hl.lt (pl a) (pl b) ∨ pl a = pl b := hab.imp (hd1 ha hb).1 (fun e => by rw [e])
      unfold Hl.tn at h0
      rcases hab' with hab' | hab'
      · unfold Hl.lt at *
        rcases h1' with h1' | ⟨h1', h1''⟩
        · omega
        · rcases hab' with g | ⟨g, g'⟩
          · have z1 : (pl p).1 - (pl a).1 = 0 := by omega
            rw [z1, Int.mul_zero, Int.sub_zero] at h0
            rcases Int.mul_eq_zero.1 h0 with z | z <;> omega
          · omega
      · have e1 := congrArg Prod.fst hab'
        have e2 := congrArg Prod.snd hab'
        unfold Hl.lt at h1'
        omega
    · rw [if_neg (fun k => h1 (hc.1 k))]
      by_cases h2 : L3 b p
      · rw [if_pos (hc.2 h2), if_neg]
        intro ho
        have h2' := (hd1 hb hp).1 h2
        obtain ⟨_, o1, o2, o3, o4⟩ := ho
        have hab' : Hl.lt (pl a) (pl b) ∨ pl a = pl b := hab.imp (hd1 ha hb).1 (fun e => by rw [e])
        unfold Hl.tn at h0
        rcases hab' with hab' | hab'
        · unfold Hl.lt at *
          rcases h2' with h2' | ⟨h2', h2''⟩
          · omega
          · rcases hab' with g | ⟨g, g'⟩
            · have z1 : (pl p).1 - (pl a).1 = (pl b).1 - (pl a).1 := by omega
              rw [z1, Int.mul_comm ((pl b).2 - (pl a).2), ← Int.mul_sub] at h0
              rcases Int.mul_eq_zero.1 h0 with z | z <;> omega
            · omega
        · have e1 := congrArg Prod.fst hab'
          have e2 := congrArg Prod.snd hab'
          unfold Hl.lt at h2'
          omega
      · rw [if_neg (fun k => h2 (hc.1 k)), if_pos]
        have n1 : ¬ Hl.lt (pl p) (pl a) := fun k => h1 ((hd1 hp ha).2 k)
        have n2 : ¬ Hl.lt (pl b) (pl p) := fun k => h2 ((hd1 hb hp).2 k)
        rcases Hl.lt_tri (pl p) (pl a) with g | g | g
        · exact absurd g n1
        · rw [g]; exact ⟨Hl.tn_aba _ _, by omega, by omega, by omega, by omega⟩
        · rcases Hl.lt_tri (pl p) (pl b) with g2 | g2 | g2
          · exact Hl.on_mid g g2 h0
          · rw [g2]; exact ⟨Hl.tn_abb _ _, by omega, by omega, by omega, by omega⟩
          · exact absurd g2 n2
  · have hne : cmpI (Hl.tn (pl a) (pl b) (pl p)) 0 ≠ 0 := fun e => h0 (cmpI_zero.1 e)
    rw [if_pos hne, if_neg (fun k => h0 k.1)]
/-- With one corner or two. -/
theorem side_small {L : List T3} (hv : VH L) (h3 : L.length ≤ 2) (p : T3) (hp : p.2.2 = 0) :
    (∀ k, k < L.length → onA L p k = true → solV (gA L 0) (gA L (L.length - 1)) p = 0) ∧ ((∀ k, k < L.length → onA L p k = false) → solV (gA L 0) (gA L (L.length - 1)) p = if insA L p L.length then 1 else -1) := by
  have hi : insA L p L.length = false := Bool.eq_false_iff.2 (fun h => by have := (insA_true h).1; omega)
  rw [hi]
  have h1 := hv.1
  have hz : ∀ k, (gA L k).2.2 = 0 := by
    intro k
    have hk := Nat.mod_lt k h1
    rw [← gA_nx hk]
    exact hv.2.2.2.1 _ (List.getElem_mem hk)
  have ge : ∀ k, gA L k = gA L (k % L.length) := fun k => (gA_mod L k).symm
  rcases (by omega : L.length = 1 ∨ L.length = 2) with e | e
  · have g1 : gA L 1 = gA L 0 := by rw [ge 1, e]
    have s := sol_on (hz 0) (hz 0) hp (.inr rfl)
    rw [e]
    constructor
    · intro k hk ho
      obtain rfl : k = 0 := by omega
      unfold onA fA at ho
      rw [decide_eq_true_eq, g1] at ho
      rw [s, if_pos ho]
    · intro hno
      have := hno 0 (by omega)
      unfold onA fA at this
      rw [decide_eq_false_iff_not, g1] at this
      rw [s, if_neg this]; rfl
  · have g2 : gA L 2 = gA L 0 := by rw [ge 2, e]
    have hlt : L3 (gA L 0) (gA L 1) := by
      have := (c3_neg _ _).1 (hv.2.2.2.2.1 1 (by omega) (by omega))
      rwa [gA_at (by omega), gA_at (by omega)] at this
    have s := sol_on (hz 0) (hz 1) hp (.inl hlt)
    rw [e]
    constructor
    · intro k hk ho
      unfold onA fA at ho
      rw [decide_eq_true_eq] at ho
      rw [s, if_pos]
      rcases (by omega : k = 0 ∨ k = 1) with rfl | rfl
      · exact ho
      · rw [g2] at ho; exact Hl.on_symm ho
    · intro hno
      have := hno 0 (by omega)
      unfold onA fA at this
      rw [decide_eq_false_iff_not] at this
      rw [s, if_neg this]; rfl
end Go.Proofs.Ytpkfngfenkcjoaa

/- The area is that of the triangles at the first corner. Plain facts. -/
set_option linter.all false
namespace Go.Proofs.Ytpkfngfenkcjoaa
open Go.RowKit

/-- The triangles at the first corner. -/
def rA (L : List T3) : Nat → Int
  | 0 => 0
  | k + 1 => rA L k + Hl.tn (fA L 0) (fA L (k + 1)) (fA L (k + 2))
theorem crs_flip (a b : T3) : crs a b + crs b a = 0 := by unfold crs; grind
theorem tn_crs (a b c : T3) : Hl.tn (pl a) (pl b) (pl c) = crs b c + crs c a - crs b a := by unfold crs Hl.tn pl; grind
theorem rA_step (L : List T3) : ∀ k, aS L (k + 1) + crs (gA L (k + 1)) (gA L 0) = rA L k
  | 0 => by
    have := crs_flip (gA L 0) (gA L 1)
    show 0 + crs (gA L 0) (gA L 1) + crs (gA L 1) (gA L 0) = 0
    omega
  | k + 1 => by
    have ih := rA_step L k
    have h := tn_crs (gA L 0) (gA L (k + 1)) (gA L (k + 2))
    rw [aS, rA]
    show _ + crs (gA L (k + 2)) (gA L 0) = rA L k + Hl.tn (pl (gA L 0)) (pl (gA L (k + 1))) (pl (gA L (k + 2)))
    rw [h]
    show aS L (k + 1) + crs (gA L (k + 1)) (gA L (k + 2)) + _ = _
    omega
theorem gA_round (L : List T3) : gA L L.length = gA L 0 := by rw [← gA_mod L L.length, Nat.mod_self]
/-- Twice the area. -/
theorem aS_rA {L : List T3} (hp : 0 < L.length) : aS L L.length = rA L (L.length - 2) := by
  rcases (by omega : L.length = 1 ∨ 2 ≤ L.length) with e | e
  · rw [e]
    have := crs_flip (gA L 0) (gA L 0)
    have g1 : gA L 1 = gA L 0 := by have := gA_round L; rwa [e] at this
    show 0 + crs (gA L 0) (gA L 1) = 0
    rw [g1]; omega
  · obtain ⟨m, hm⟩ : ∃ m, L.length = m + 2 := ⟨L.length - 2, by omega⟩
    have h := rA_step L m
    have g := gA_round L
    rw [hm] at g ⊢
    show aS L (m + 1) + crs (gA L (m + 1)) (gA L (m + 2)) = rA L m
    rw [g]
    exact h
theorem rA_pos {L : List T3} (hv : VH L) (h3 : 3 ≤ L.length) : ∀ k, k + 2 ≤ L.length → 0 ≤ rA L k ∧ (0 < k → 0 < rA L k)
  | 0, _ => ⟨by simp [rA], fun h => by omega⟩
  | k + 1, hk => by
    obtain ⟨h1, _⟩ := rA_pos hv h3 k (by omega)
    have e : (k + 1 + 1) % L.length = k + 2 := Nat.mod_eq_of_lt (by omega)
    have h := edge_pos hv h3 (k := k + 1) (j := 0) (by omega) (by omega) (by omega) (by omega)
    rw [rA]
    rw [← Hl.tn_rot]
    have : 0 < Hl.tn (fA L (k + 1)) (fA L (k + 2)) (fA L 0) := h
    omega
/-- There is an area just if there are three corners. -/
theorem area_pos {L : List T3} (hv : VH L) : 0 < aS L L.length ↔ 2 < L.length := by
  rw [aS_rA hv.1]
  constructor
  · intro h
    apply Classical.byContradiction
    intro hn
    rw [show L.length - 2 = 0 by omega] at h
    exact absurd h (by simp [rA])
  · intro h
    exact (rA_pos hv (by omega) (L.length - 2) (by omega)).2 (by omega)
end Go.Proofs.Ytpkfngfenkcjoaa

/- Hulls of parts, and of two lists together. Plain facts. -/
set_option linter.all false
namespace Go.Proofs.Ytpkfngfenkcjoaa.Hl

/-- The hull of fewer points that has all corners among them. -/
theorem IsH.mono {S T h : List P2} (H : IsH S h) (h1 : ∀ q ∈ T, q ∈ S) (h2 : ∀ q ∈ h, q ∈ T) : IsH T h where
  sub := h2
  pos := H.pos
  first := fun p hp => H.first p (h1 p hp)
  one := fun e p hp => H.one e p (h1 p hp)
  two := fun e p hp => H.two e p (h1 p hp)
  ne2 := H.ne2
  left := fun e p hp => H.left e p (h1 p hp)
  last := fun e p hp => H.last e p (h1 p hp)
  turn := H.turn
  turn0 := H.turn0
theorem IsH.self {S h : List P2} (H : IsH S h) : IsH h h := H.mono H.sub (fun _ h => h)
/-- What is nowhere negative at the corners is nowhere negative. -/
theorem IsH.nonneg {S h : List P2} (H : IsH S h) {f : P2 → Int} (hf : Aff f) (h0 : ∀ q ∈ h, 0 ≤ f q) : ∀ p ∈ S, 0 ≤ f p := by
  intro p hp
  by_cases hm : p ∈ h
  · exact h0 p hm
  · have G : IsH (p :: h) h := H.mono (fun q hq => by rcases List.mem_cons.1 hq with rfl | k; exact hp; exact H.sub q k) (fun q hq => List.mem_cons_of_mem _ hq)
    obtain ⟨a, ha, b, hb, c, hc, n1, n2, n3, ht⟩ := G.other List.mem_cons_self hm
    have ha := (List.mem_cons.1 ha).resolve_left n1
    have hb := (List.mem_cons.1 hb).resolve_left n2
    have hc := (List.mem_cons.1 hc).resolve_left n3
    apply Classical.byContradiction
    intro hn
    obtain ⟨A, B, C, hA⟩ := hf
    have e0 := hA p
    have e1 := hA a
    have e2 := hA b
    have e3 := hA c
    have k1 := h0 a ha
    have k2 := h0 b hb
    have k3 := h0 c hc
    exact aff_in (A := A) (B := B) (C := C - f p) (by omega) (by omega) (by omega) (by omega) ht
theorem aff_neg {f : P2 → Int} (h : Aff f) : Aff (fun p => - f p) := by
  obtain ⟨A, B, C, hA⟩ := h
  exact ⟨-A, -B, -C, fun p => by show -f p = _; rw [hA]; grind⟩
theorem aff_fst (c : Int) : Aff (fun p => p.1 - c) := ⟨1, 0, -c, fun p => by simp; omega⟩
theorem aff_snd (c : Int) : Aff (fun p => p.2 - c) := ⟨0, 1, -c, fun p => by simp; omega⟩
theorem IsH.zero {S h : List P2} (H : IsH S h) {f : P2 → Int} (hf : Aff f) (h0 : ∀ q ∈ h, f q = 0) : ∀ p ∈ S, f p = 0 := by
  intro p hp
  have h1 := H.nonneg hf (fun q hq => by rw [h0 q hq]; omega) p hp
  have h2 := H.nonneg (aff_neg hf) (fun q hq => by rw [h0 q hq]; omega) p hp
  omega
theorem IsH.le1 {S h : List P2} (H : IsH S h) {c : Int} (h0 : ∀ q ∈ h, c ≤ q.1) : ∀ p ∈ S, c ≤ p.1 := fun p hp => by
  have := H.nonneg (aff_fst c) (fun q hq => by have := h0 q hq; omega) p hp; omega
theorem IsH.ge1 {S h : List P2} (H : IsH S h) {c : Int} (h0 : ∀ q ∈ h, q.1 ≤ c) : ∀ p ∈ S, p.1 ≤ c := fun p hp => by
  have := H.nonneg (aff_neg (aff_fst c)) (fun q hq => by have := h0 q hq; omega) p hp; omega
theorem IsH.le2 {S h : List P2} (H : IsH S h) {c : Int} (h0 : ∀ q ∈ h, c ≤ q.2) : ∀ p ∈ S, c ≤ p.2 := fun p hp => by
  have := H.nonneg (aff_snd c) (fun q hq => by have := h0 q hq; omega) p hp; omega
theorem IsH.ge2 {S h : List P2} (H : IsH S h) {c : Int} (h0 : ∀ q ∈ h, q.2 ≤ c) : ∀ p ∈ S, p.2 ≤ c := fun p hp => by
  have := H.nonneg (aff_neg (aff_snd c)) (fun q hq => by have := h0 q hq; omega) p hp; omega
/-- All points, not the corners alone. -/
theorem IsH.grow {S h T g : List P2} (H : IsH S h) (G : IsH T g) (hT : ∀ q ∈ h, q ∈ T) (p : P2) (hp : p ∈ S) :
    (p = g[0]'G.pos ∨ lt (g[0]'G.pos) p) ∧ (g.length = 1 → p = g[0]'G.pos) ∧ (∀ e : g.length = 2, on g[0] g[1] p) ∧ (3 ≤ g.length → ∀ i (hi : i + 1 < g.length), 0 ≤ tn g[i] g[i + 1] p) ∧ (3 ≤ g.length → 0 ≤ tn (g[g.length - 1]'(by have := G.pos; omega)) (g[0]'G.pos) p) := by
  refine ⟨?_, fun e => ?_, fun e => ?_, fun e i hi => ?_, fun e => ?_⟩
  · have k := G.first (h[0]'H.pos) (hT _ (List.getElem_mem H.pos))
    rcases H.first p hp with e | e
    · rw [e]; exact k
    · rcases k with k | k
      · rw [← k]; exact .inr e
      · exact .inr (lt_trans k e)
  · have a1 := H.zero (aff_fst (g[0]'G.pos).1) (fun q hq => by rw [G.one e q (hT q hq)]; omega) p hp
    have a2 := H.zero (aff_snd (g[0]'G.pos).2) (fun q hq => by rw [G.one e q (hT q hq)]; omega) p hp
    exact ext2 (by omega) (by omega)
  · exact ⟨H.zero (aff_tn _ _) (fun q hq => (G.two e q (hT q hq)).1) p hp, H.le1 (fun q hq => (G.two e q (hT q hq)).2.1) p hp, H.ge1 (fun q hq => (G.two e q (hT q hq)).2.2.1) p hp, H.le2 (fun q hq => (G.two e q (hT q hq)).2.2.2.1) p hp, H.ge2 (fun q hq => (G.two e q (hT q hq)).2.2.2.2) p hp⟩
  · exact H.nonneg (aff_tn _ _) (fun q hq => G.left e q (hT q hq) i hi) p hp
  · exact H.nonneg (aff_tn _ _) (fun q hq => G.last e q (hT q hq)) p hp
/-- The hull of two hulls is the hull of all points. -/
theorem IsH.union {S T h i g : List P2} (H : IsH S h) (I : IsH T i) (G : IsH (h ++ i) g) : IsH (S ++ T) g := by
  have a := fun p (hp : p ∈ S) => H.grow G (fun q hq => List.mem_append.2 (.inl hq)) p hp
  have b := fun p (hp : p ∈ T) => I.grow G (fun q hq => List.mem_append.2 (.inr hq)) p hp
  have c : ∀ p ∈ S ++ T, (p = g[0]'G.pos ∨ lt (g[0]'G.pos) p) ∧ (g.length = 1 → p = g[0]'G.pos) ∧ (∀ e : g.length = 2, on g[0] g[1] p) ∧ (3 ≤ g.length → ∀ i (hi : i + 1 < g.length), 0 ≤ tn g[i] g[i + 1] p) ∧ (3 ≤ g.length → 0 ≤ tn (g[g.length - 1]'(by have := G.pos; omega)) (g[0]'G.pos) p) := by
    intro p hp
    rcases List.mem_append.1 hp with hp | hp
    · exact a p hp
    · exact b p hp
  refine ⟨fun p hp => ?_, G.pos, fun p hp => (c p hp).1, fun e p hp => (c p hp).2.1 e, fun e p hp => (c p hp).2.2.1 e, G.ne2, fun e p hp j hj => (c p hp).2.2.2.1 e j hj, fun e p hp => (c p hp).2.2.2.2 e, G.turn, G.turn0⟩
  rcases List.mem_append.1 (G.sub p hp) with k | k
  · exact List.mem_append.2 (.inl (H.sub p k))
  · exact List.mem_append.2 (.inr (I.sub p k))
end Go.Proofs.Ytpkfngfenkcjoaa.Hl

/- What HullHolds asks of a hull. Plain facts. -/
set_option linter.all false
namespace Go.Proofs.Ytpkfngfenkcjoaa
open Go.RowKit Go.Sort Go.Lib

theorem FF_len (L : List T3) : (FF L).length ≤ L.length := by
  unfold FF compactUpTo
  rw [List.length_map]
  refine Nat.le_trans (List.length_filter_le _ _) ?_
  rw [List.length_range, ms_length, List.length_map]
  exact Nat.le_refl _
theorem corners_len (L : List T3) : (cornersT t3 L).length ≤ 2 * L.length := by
  have h := FF_len L
  unfold cornersT
  split
  · omega
  · rw [List.length_append, List.length_dropLast, List.length_dropLast, List.length_reverse, List.length_reverse]
    have h1 := chT_len t3 (FF L)
    have h2 := chT_len t3 (FF L).reverse
    rw [List.length_reverse] at h2
    omega
/-- The hull of some points: a hull. -/
theorem hull_vh {L : List T3} {H : List Hl.P2} (hC : cornersT t3 L = fl H) (hH : Hl.IsH (L.map pl) H) (hl : L.length ≤ 1000) (hv : inL 1048576 L = true) : VH (fl H) ∧ (fl H).length ≤ 2000 := by
  have hlen : (fl H).length ≤ 2000 := by rw [← hC]; have := corners_len L; omega
  refine ⟨isH_vh rfl hH.self (by omega) ?_, hlen⟩
  unfold inL
  rw [List.all_eq_true]
  intro a ha
  obtain ⟨q, hq, rfl⟩ := List.mem_map.1 ha
  obtain ⟨b, hb, e⟩ := List.mem_map.1 (hH.sub q hq)
  have := inV_iff.1 (inL_mem hv b hb)
  subst e
  exact inV_iff.2 ⟨by show _ ≤ b.1 ∧ b.1 ≤ _; omega, by show _ ≤ b.2.1 ∧ b.2.1 ≤ _; omega, by show _ ≤ (0 : Int) ∧ (0 : Int) ≤ _; omega⟩
theorem corners_is {L : List T3} {H : List Hl.P2} (hp : 0 < L.length) (hH : Hl.IsH (L.map pl) H) : cornersT t3 L = fl H := by
  obtain ⟨G, hG, hI⟩ := corners_hull L hp
  rw [hG, hI.unique hH]
theorem fl_pos {H : List Hl.P2} (h : VH (fl H)) : 0 < (fl H).length := h.1
/-- A point is nowhere outside of the hull. -/
theorem side_nonneg {L M : List T3} {H : List Hl.P2} (hM : M = fl H) (hH : Hl.IsH (L.map pl) H) (hv : VH M) {p : T3} (hp : p ∈ L) : 0 ≤ sideV M p := by
  have hpl : pl p ∈ L.map pl := List.mem_map_of_mem hp
  have hMl : M.length = H.length := by rw [hM, fl_length]
  have hat : ∀ k (hk : k < H.length), fA M k = H[k] := by
    intro k hk
    unfold fA
    rw [← gA_at (by omega : k < M.length)]
    subst hM
    rw [fl_get H k hk]
    rfl
  have ho : ∀ k, Hl.on (fA M 0) (fA M k) (pl p) → pl (p.1, p.2.1, (0 : Int)) = pl p := fun _ _ => rfl
  unfold sideV
  split
  · next h2 =>
    have hz : ∀ k, (gA M k).2.2 = 0 := by
      intro k
      have hk := Nat.mod_lt k hv.1
      rw [← gA_nx hk]
      exact hv.2.2.2.1 _ (List.getElem_mem hk)
    have h1 := hv.1
    rcases (by omega : M.length = 1 ∨ M.length = 2) with e | e
    · rw [e]
      rw [sol_on (hz 0) (hz 0) rfl (.inr rfl), if_pos]
      · omega
      · have := hH.one (by omega) _ hpl
        show Hl.on (fA M 0) (fA M 0) (pl p)
        rw [hat 0 (by omega), this]
        exact ⟨Hl.tn_aba _ _, by omega, by omega, by omega, by omega⟩
    · rw [e]
      have hlt : L3 (gA M 0) (gA M 1) := by
        have := (c3_neg _ _).1 (hv.2.2.2.2.1 1 (by omega) (by omega))
        rwa [gA_at (by omega), gA_at (by omega)] at this
      rw [sol_on (hz 0) (hz 1) rfl (.inl hlt), if_pos]
      · omega
      · have := hH.two (by omega) _ hpl
        show Hl.on (fA M 0) (fA M 1) (pl p)
        rw [hat 0 (by omega), hat 1 (by omega)]
        exact this
  · next h2 =>
    have h3 : 3 ≤ H.length := by omega
    rcases sS_mem M (p.1, p.2.1, 0) M.length with h | ⟨j, hj, h⟩
    · rw [h]; omega
    · rw [h, t3_tn]
      have hge : 0 ≤ Hl.tn (fA M j) (fA M (j + 1)) (pl p) := by
        rcases Nat.lt_or_ge (j + 1) H.length with g | g
        · rw [hat j (by omega), hat (j + 1) g]
          exact hH.left h3 _ hpl j g
        · have e : j = H.length - 1 := by omega
          have : fA M (j + 1) = fA M 0 := by unfold fA; rw [show j + 1 = M.length by omega, gA_round]
          rw [this, hat j (by omega), hat 0 (by omega)]
          have := hH.last h3 _ hpl
          simp only [e]
          exact this
      have hge2 : 0 ≤ Hl.tn (pl (gA M j)) (pl (gA M (j + 1))) (pl (p.1, p.2.1, (0 : Int))) := hge
      rcases cmpI_cases (Hl.tn (pl (gA M j)) (pl (gA M (j + 1))) (pl (p.1, p.2.1, (0 : Int)))) with ⟨a, b⟩ | ⟨a, b⟩ | ⟨a, b⟩ <;> omega
/-- Extents of opposite directions. -/
theorem eD_bd {d a : T3} (hd : inV 16777216 d.1 d.2.1 d.2.2 = true) (ha : inV 1048576 a.1 a.2.1 a.2.2 = true) : -70368744177664 ≤ eD d a ∧ eD d a ≤ 70368744177664 := by
  obtain ⟨a1, a2, a3⟩ := bv_of hd
  obtain ⟨b1, b2, b3⟩ := bv_of ha
  have c1 := mul_bd a1 b1
  have c2 := mul_bd a2 b2
  have c3 := mul_bd a3 b3
  unfold eD dt
  omega
theorem ext_opp {L : List T3} {d d' : T3} (hv : inL 1048576 L = true) (hp : 0 < L.length) (hd : inV 16777216 d.1 d.2.1 d.2.2 = true) (h1 : d'.1 = -d.1) (h2 : d'.2.1 = -d.2.1) (h3 : d'.2.2 = -d.2.2) :
    ∀ k, eLo L d (k + 1) = -eHi L d' (k + 1) ∧ eHi L d (k + 1) = -eLo L d' (k + 1) ∧ eLo L d (k + 1) ≤ eHi L d (k + 1) ∧ (-70368744177664 ≤ eLo L d (k + 1) ∧ eHi L d (k + 1) ≤ 70368744177664) := by
  have hn : ∀ k, eD d' (gA L k) = -eD d (gA L k) := by
    intro k
    unfold eD dt
    rw [h1, h2, h3]
    grind
  intro k
  induction k with
  | zero =>
    have h := hn 0
    have b := eD_bd hd (gA_in hv hp 0)
    simp only [eLo, eHi]
    omega
  | succ k ih =>
    have h := hn (k + 1)
    have b := eD_bd hd (gA_in hv hp (k + 1))
    have u1 : eLo L d (k + 1 + 1) = min (eLo L d (k + 1)) (eD d (gA L (k + 1))) := rfl
    have u2 : eHi L d (k + 1 + 1) = max (eHi L d (k + 1)) (eD d (gA L (k + 1))) := rfl
    have u3 : eLo L d' (k + 1 + 1) = min (eLo L d' (k + 1)) (eD d' (gA L (k + 1))) := rfl
    have u4 : eHi L d' (k + 1 + 1) = max (eHi L d' (k + 1)) (eD d' (gA L (k + 1))) := rfl
    rw [u1, u2, u3, u4]
    clear u1 u2 u3 u4
    generalize eLo L d (k + 1) = a1 at *
    generalize eHi L d (k + 1) = a2 at *
    generalize eLo L d' (k + 1) = a3 at *
    generalize eHi L d' (k + 1) = a4 at *
    omega
end Go.Proofs.Ytpkfngfenkcjoaa

/- Pairs of corners that are farthest apart: two lines turn round a hull and meet them. Plain facts. -/
set_option linter.all false
namespace Go.Proofs.Ytpkfngfenkcjoaa.Hl

/-- The vector product, the scalar product, the way along an edge. -/
def cr (u v : P2) : Int := u.1 * v.2 - u.2 * v.1
def dp (u v : P2) : Int := u.1 * v.1 + u.2 * v.2
def sb (a b : P2) : P2 := (b.1 - a.1, b.2 - a.2)
def eg (p : Nat → P2) (k : Nat) : P2 := sb (p k) (p (k + 1))

/-- Corners that turn left, each in turn, counted round. -/
structure Cvx (n : Nat) (p : Nat → P2) : Prop where
  n3 : 3 ≤ n
  per : ∀ k, p (k + n) = p k
  conv : ∀ k m, m % n ≠ k % n → m % n ≠ (k + 1) % n → 0 < tn (p k) (p (k + 1)) (p m)

theorem Cvx.mod {n : Nat} {p : Nat → P2} (h : Cvx n p) (k : Nat) : p k = p (k % n) := by
  have key : ∀ q r, p (r + n * q) = p r := by
    intro q r
    induction q with
    | zero => rfl
    | succ q ih => rw [Nat.mul_succ, ← Nat.add_assoc, h.per, ih]
  have := key (k / n) (k % n)
  rwa [Nat.mod_add_div] at this
theorem Cvx.weak {n : Nat} {p : Nat → P2} (h : Cvx n p) (k m : Nat) : 0 ≤ tn (p k) (p (k + 1)) (p m) := by
  by_cases h1 : m % n = k % n
  · have : p m = p k := by rw [h.mod m, h.mod k, h1]
    rw [this, tn_aba]; omega
  · by_cases h2 : m % n = (k + 1) % n
    · have : p m = p (k + 1) := by rw [h.mod m, h.mod (k + 1), h2]
      rw [this, tn_abb]; omega
    · exact Int.le_of_lt (h.conv k m h1 h2)
theorem mod_ne {n a b : Nat} (h1 : a < b) (h2 : b < a + n) : b % n ≠ a % n := by
  intro e
  have h := Nat.sub_mod_eq_zero_of_mod_eq e
  have : b - a < n := by omega
  rw [Nat.mod_eq_of_lt this] at h
  omega
theorem cr_tn (a b c : P2) : cr (sb a b) (sb b c) = tn a b c := by unfold cr sb tn; grind
theorem cr_tn2 (a b c : P2) : cr (sb a b) (sb a c) = tn a b c := by unfold cr sb tn; grind
theorem Cvx.next {n : Nat} {p : Nat → P2} (h : Cvx n p) (k : Nat) : 0 < cr (eg p k) (eg p (k + 1)) := by
  unfold eg
  rw [cr_tn]
  have := h.n3
  exact h.conv k (k + 1 + 1) (mod_ne (by omega) (by omega)) (mod_ne (by omega) (by omega))
theorem cram (u v w a q : P2) : cr v w * cr u (sb q a) = cr v (sb q a) * cr u w - cr w (sb q a) * cr u v := by
  unfold cr sb; grind
theorem cr_end (a b c : P2) : cr (sb a b) (sb b c) = cr (sb a b) (sb a c) := by unfold cr sb; grind
/-- An edge that has turned by a half turn or more is followed by such a one. -/
theorem Cvx.over {n : Nat} {p : Nat → P2} (h : Cvx n p) {a k : Nat} (h1 : a < k) (h2 : k + 1 < a + n) (h3 : cr (eg p a) (eg p k) ≤ 0) : cr (eg p a) (eg p (k + 1)) ≤ 0 := by
  apply Classical.byContradiction
  intro h4
  have h4 : 0 < cr (eg p a) (eg p (k + 1)) := by omega
  have hC := h.next k
  have f1 := h.weak k a
  have f2 := h.weak (k + 1) a
  have hH := h.conv a (k + 1) (mod_ne (by omega) (by omega)) (mod_ne (by omega) (by omega))
  have id := cram (eg p a) (eg p k) (eg p (k + 1)) (p a) (p (k + 1))
  have e1 : cr (eg p k) (sb (p (k + 1)) (p a)) = tn (p k) (p (k + 1)) (p a) := by unfold eg; exact cr_tn _ _ _
  have e2 : cr (eg p (k + 1)) (sb (p (k + 1)) (p a)) = tn (p (k + 1)) (p (k + 1 + 1)) (p a) := by unfold eg; exact cr_tn2 _ _ _
  have e3 : cr (eg p a) (sb (p (k + 1)) (p a)) = -tn (p a) (p (a + 1)) (p (k + 1)) := by unfold eg cr sb tn; grind
  rw [e1, e2, e3] at id
  have m1 := Int.mul_pos hC hH
  have m2 := Int.mul_nonneg f1 (Int.le_of_lt h4)
  have m3 := Int.mul_nonneg f2 (show 0 ≤ -cr (eg p a) (eg p k) by omega)
  rw [Int.mul_neg] at id m3
  omega
theorem Cvx.over2 {n : Nat} {p : Nat → P2} (h : Cvx n p) {a j : Nat} (h1 : a < j) (h3 : cr (eg p a) (eg p j) ≤ 0) : ∀ d, j + d < a + n → cr (eg p a) (eg p (j + d)) ≤ 0
  | 0, _ => h3
  | d + 1, hd => h.over (k := j + d) (by omega) (by omega) (h.over2 h1 h3 d (by omega))
theorem sq_pos {x y : Int} (h : x ≠ 0 ∨ y ≠ 0) : 0 < x * x + y * y := by
  have key : ∀ z : Int, 0 ≤ z * z := fun z => by
    rcases Int.le_total 0 z with h | h
    · exact Int.mul_nonneg h h
    · have := Int.mul_nonneg (show 0 ≤ -z by omega) (show 0 ≤ -z by omega)
      rwa [Int.neg_mul_neg] at this
  have kp : ∀ z : Int, z ≠ 0 → 0 < z * z := fun z hz => by
    have h1 := key z
    have : z * z ≠ 0 := fun e => hz ((Int.mul_eq_zero.1 e).elim id id)
    omega
  have h1 := key x
  have h2 := key y
  rcases h with h | h
  · have := kp x h; omega
  · have := kp y h; omega
theorem dp_pos {u v : P2} (h : 0 < cr u v) : 0 < dp u u ∧ 0 < dp v v := by
  refine ⟨sq_pos ?_, sq_pos ?_⟩
  · by_cases h1 : u.1 = 0
    · right; intro h2
      unfold cr at h; rw [h1, h2] at h; simp at h
    · exact .inl h1
  · by_cases h1 : v.1 = 0
    · right; intro h2
      unfold cr at h; rw [h1, h2] at h; simp at h
    · exact .inl h1
/-- Farthest apart: no corner is farther from one of both. -/
def Far (p : Nat → P2) (a b : Nat) : Prop := ∀ m, dp (sb (p m) (p a)) (sb (p m) (p a)) ≤ dp (sb (p a) (p b)) (sb (p a) (p b)) ∧ dp (sb (p m) (p b)) (sb (p m) (p b)) ≤ dp (sb (p a) (p b)) (sb (p a) (p b))
theorem sandwich (u v d : P2) : cr u v * dp d d = cr u d * dp d v + dp u d * cr d v := by unfold cr dp; grind
theorem near_u (a a' b : P2) : dp (sb a' b) (sb a' b) = dp (sb a a') (sb a a') - 2 * dp (sb a a') (sb a b) + dp (sb a b) (sb a b) := by unfold dp sb; grind
theorem near_v (a b' b : P2) : dp (sb b' a) (sb b' a) = dp (sb b' b) (sb b' b) - 2 * dp (sb a b) (sb b' b) + dp (sb a b) (sb a b) := by unfold dp sb; grind
/-- Between two corners that are farthest apart no edge has turned by a half turn. -/
theorem Cvx.between {n : Nat} {p : Nat → P2} (h : Cvx n p) {a j b : Nat} (h1 : a < j) (h2 : j < b) (h3 : b < a + n) (hF : Far p a b) : 0 < cr (eg p a) (eg p j) := by
  apply Classical.byContradiction
  intro h4
  have h5 := h.over2 h1 (show cr (eg p a) (eg p j) ≤ 0 by omega) (b - 1 - j) (by omega)
  rw [show j + (b - 1 - j) = b - 1 by omega] at h5
  obtain ⟨c, rfl⟩ : ∃ c, b = c + 1 := ⟨b - 1, by omega⟩
  simp only [Nat.add_sub_cancel] at h5
  have c1 := h.conv a (c + 1) (mod_ne (by omega) (by omega)) (mod_ne (by omega) (by omega))
  have c2 := h.conv c a (fun e => mod_ne (n := n) (a := a) (b := c) (by omega) (by omega) e.symm) (fun e => mod_ne (n := n) (a := a) (b := c + 1) (by omega) (by omega) e.symm)
  have g1 : 0 < cr (eg p a) (sb (p a) (p (c + 1))) := by unfold eg; rw [cr_tn2]; exact c1
  have g2 : 0 < cr (sb (p a) (p (c + 1))) (eg p c) := by
    have : cr (sb (p a) (p (c + 1))) (eg p c) = tn (p c) (p (c + 1)) (p a) := by unfold eg cr sb tn; grind
    rw [this]; exact c2
  have d1 := (dp_pos g1).1
  have d2 := (dp_pos g2).2
  have f1 := (hF (a + 1)).2
  have f2 := (hF c).1
  rw [near_u (p a) (p (a + 1)) (p (c + 1))] at f1
  rw [near_v (p a) (p c) (p (c + 1))] at f2
  have d1' : 0 < dp (sb (p a) (p (a + 1))) (sb (p a) (p (a + 1))) := d1
  have d2' : 0 < dp (sb (p c) (p (c + 1))) (sb (p c) (p (c + 1))) := d2
  have k1 : 0 < dp (eg p a) (sb (p a) (p (c + 1))) := by show 0 < dp (sb (p a) (p (a + 1))) _; omega
  have k2 : 0 < dp (sb (p a) (p (c + 1))) (eg p c) := by show 0 < dp _ (sb (p c) (p (c + 1))); omega
  have id := sandwich (eg p a) (eg p c) (sb (p a) (p (c + 1)))
  have m1 := Int.mul_pos g1 k2
  have m2 := Int.mul_pos k1 g2
  have m3 := Int.mul_nonneg (show 0 ≤ -cr (eg p a) (eg p c) by omega) (Int.le_of_lt (dp_pos g2).1)
  rw [Int.neg_mul] at m3
  omega
theorem Far.symm {p : Nat → P2} {a b : Nat} (h : Far p a b) : Far p b a := by
  have e : dp (sb (p b) (p a)) (sb (p b) (p a)) = dp (sb (p a) (p b)) (sb (p a) (p b)) := by unfold dp sb; grind
  intro m
  rw [e]
  exact ⟨(h m).2, (h m).1⟩
theorem cr_neg (u v : P2) : cr v u = -cr u v := by unfold cr; grind
/-- The other way round. -/
theorem Cvx.beyond {n : Nat} {p : Nat → P2} (h : Cvx n p) {i a b : Nat} (h1 : i < a) (h2 : a < b) (h3 : b < n) (hF : Far p a b) : cr (eg p i) (eg p b) < 0 := by
  have hF' : Far p b (a + n) := by
    have := hF.symm
    unfold Far at *
    rw [h.per]
    exact this
  have k := h.between (a := b) (j := i + n) (b := a + n) (by omega) (by omega) (by omega) hF'
  have e : eg p (i + n) = eg p i := by
    unfold eg
    rw [h.per, show i + n + 1 = i + 1 + n by omega, h.per]
  rw [e, cr_neg] at k
  omega
end Go.Proofs.Ytpkfngfenkcjoaa.Hl

/- The first pair that is farthest apart: the way of two lines round a hull meets it. Plain facts. -/
set_option linter.all false
namespace Go.Proofs.Ytpkfngfenkcjoaa.Hl

/-- The first greatest one of some pairs, none of which is 0 or less; or none. -/
def Fst (P : Nat → Nat → Prop) (ds : Nat → Nat → Int) (r : Int × Int × Int) : Prop :=
  (∃ a b : Nat, P a b ∧ r = ((a : Int), (b : Int), ds a b) ∧ 0 < ds a b ∧ (∀ x y, P x y → ds x y ≤ ds a b) ∧ (∀ x y, P x y → x < a ∨ (x = a ∧ y < b) → ds x y < ds a b)) ∨ (r = (0, 0, 0) ∧ ∀ x y, P x y → ds x y ≤ 0)
theorem Fst.nil {P : Nat → Nat → Prop} {ds : Nat → Nat → Int} (h : ∀ x y, ¬ P x y) : Fst P ds (0, 0, 0) := .inr ⟨rfl, fun x y k => absurd k (h x y)⟩
theorem Fst.nonneg {P : Nat → Nat → Prop} {ds : Nat → Nat → Int} {r : Int × Int × Int} (h : Fst P ds r) : 0 ≤ r.2.2 ∧ ∀ x y, P x y → ds x y ≤ r.2.2 := by
  rcases h with ⟨a, b, h1, rfl, h2, h3, h4⟩ | ⟨rfl, h3⟩
  · exact ⟨Int.le_of_lt h2, h3⟩
  · exact ⟨Int.le_refl _, h3⟩
/-- One pair more, behind all others. -/
theorem Fst.snoc {P Q : Nat → Nat → Prop} {ds : Nat → Nat → Int} {r : Int × Int × Int} (h : Fst P ds r) (i k : Nat) (hQ : ∀ x y, Q x y ↔ P x y ∨ (x = i ∧ y = k)) (hl : ∀ x y, P x y → x < i ∨ (x = i ∧ y < k)) :
    Fst Q ds (if r.2.2 < ds i k then ((i : Int), (k : Int), ds i k) else r) := by
  obtain ⟨n0, n1⟩ := h.nonneg
  split
  · next g =>
    refine .inl ⟨i, k, (hQ i k).2 (.inr ⟨rfl, rfl⟩), rfl, by omega, fun x y q => ?_, fun x y q l => ?_⟩
    · rcases (hQ x y).1 q with p | ⟨rfl, rfl⟩
      · have := n1 x y p; omega
      · exact Int.le_refl _
    · rcases (hQ x y).1 q with p | ⟨rfl, rfl⟩
      · have := n1 x y p; omega
      · omega
  · next g =>
    rcases h with ⟨a, b, h1, rfl, h2, h3, h4⟩ | ⟨rfl, h3⟩
    · simp only at g
      refine .inl ⟨a, b, (hQ a b).2 (.inl h1), rfl, h2, fun x y q => ?_, fun x y q l => ?_⟩
      · rcases (hQ x y).1 q with p | ⟨rfl, rfl⟩
        · exact h3 x y p
        · omega
      · rcases (hQ x y).1 q with p | ⟨rfl, rfl⟩
        · exact h4 x y p l
        · have := hl a b h1; omega
    · simp only at g
      refine .inr ⟨rfl, fun x y q => ?_⟩
      rcases (hQ x y).1 q with p | ⟨rfl, rfl⟩
      · exact h3 x y p
      · omega
/-- All pairs of n. -/
def Prs (n : Nat) (x y : Nat) : Prop := x < y ∧ y < n
/-- If some of the pairs hold every greatest one, the first greatest one of them is that of all. -/
theorem Fst.same {P : Nat → Nat → Prop} {n : Nat} {ds : Nat → Nat → Int} {r s : Int × Int × Int} (h : Fst (Prs n) ds r) (k : Fst P ds s) (hP : ∀ x y, P x y → Prs n x y)
    (hM : ∀ a b, Prs n a b → 0 < ds a b → (∀ x y, Prs n x y → ds x y ≤ ds a b) → P a b) : s = r := by
  rcases h with ⟨a, b, h1, rfl, h2, h3, h4⟩ | ⟨rfl, h3⟩
  · have hp := hM a b h1 h2 h3
    rcases k with ⟨c, d, k1, rfl, k2, k3, k4⟩ | ⟨rfl, k3⟩
    · have e1 := h3 c d (hP c d k1)
      have e2 := k3 a b hp
      have l1 : ¬ (c < a ∨ (c = a ∧ d < b)) := fun l => by have := h4 c d (hP c d k1) l; omega
      have l2 : ¬ (a < c ∨ (a = c ∧ b < d)) := fun l => by have := k4 a b hp l; omega
      obtain rfl : c = a := by omega
      obtain rfl : d = b := by omega
      rfl
    · have := k3 a b hp; omega
  · rcases k with ⟨c, d, k1, rfl, k2, k3, k4⟩ | ⟨rfl, k3⟩
    · have := h3 c d (hP c d k1); omega
    · rfl

/-- The way of both lines. -/
structure Wal (c : Nat → Nat → Bool) (s : Nat → Nat × Nat) : Prop where
  z : s 0 = (0, 1)
  st : ∀ k, s (k + 1) = if c (s k).1 (s k).2 then ((s k).1, (s k).2 + 1) else ((s k).1 + 1, (s k).2)
theorem Wal.sum {c : Nat → Nat → Bool} {s : Nat → Nat × Nat} (h : Wal c s) : ∀ k, (s k).1 + (s k).2 = k + 1
  | 0 => by rw [h.z]
  | k + 1 => by
    have := h.sum k
    rw [h.st]
    split <;> simp only [] <;> omega
theorem Wal.mono {c : Nat → Nat → Bool} {s : Nat → Nat × Nat} (h : Wal c s) (k : Nat) : ∀ d, (s k).1 ≤ (s (k + d)).1 ∧ (s k).2 ≤ (s (k + d)).2
  | 0 => ⟨Nat.le_refl _, Nat.le_refl _⟩
  | d + 1 => by
    have := h.mono k d
    rw [show k + (d + 1) = k + d + 1 from rfl, h.st]
    split <;> simp only [] <;> omega
theorem Wal.reach {n : Nat} {p : Nat → P2} (H : Cvx n p) {c : Nat → Nat → Bool} {s : Nat → Nat × Nat} (h : Wal c s) (hc : ∀ i j, c i j = true ↔ 0 < cr (eg p i) (eg p j)) {a b : Nat} (h1 : a < b) (h2 : b < n) (hF : Far p a b) :
    ∀ k, k + 1 ≤ a + b → (s k).1 ≤ a ∧ (s k).2 ≤ b ∧ (s k).1 < (s k).2
  | 0, _ => by rw [h.z]; simp only; omega
  | k + 1, hk => by
    obtain ⟨g1, g2, g3⟩ := h.reach H hc h1 h2 hF k (by omega)
    have g4 := h.sum k
    rw [h.st]
    split
    · next e =>
      have e := (hc _ _).1 e
      simp only
      refine ⟨g1, ?_, by omega⟩
      apply Classical.byContradiction
      intro hn
      have hb : (s k).2 = b := by omega
      rw [hb] at e g4
      have := H.beyond (i := (s k).1) (by omega) h1 h2 hF
      omega
    · next e =>
      have e : ¬ 0 < cr (eg p (s k).1) (eg p (s k).2) := fun k => e ((hc _ _).2 k)
      simp only
      have n1 : (s k).1 ≠ a := by
        intro ha
        rw [ha] at e g4 g3
        exact e (H.between g3 (by omega) (by have := H.n3; omega) hF)
      have n2 : (s k).1 + 1 ≠ (s k).2 := by
        intro ha
        rw [← ha] at e
        exact e (H.next _)
      omega
/-- What the way meets up to a number. -/
def Met (s : Nat → Nat × Nat) (k : Nat) (x y : Nat) : Prop := ∃ j, j < k ∧ s j = (x, y)
theorem Wal.met {n N : Nat} {p : Nat → P2} (H : Cvx n p) {c : Nat → Nat → Bool} {s : Nat → Nat × Nat} (h : Wal c s) (hc : ∀ i j, c i j = true ↔ 0 < cr (eg p i) (eg p j)) (hE : ¬ ((s N).1 < (s N).2 ∧ (s N).2 < n)) {a b : Nat} (h1 : a < b) (h2 : b < n) (hF : Far p a b) :
    Met s N a b := by
  have g := h.reach H hc h1 h2 hF (a + b - 1) (by omega)
  have g4 := h.sum (a + b - 1)
  refine ⟨a + b - 1, ?_, Prod.ext (by omega) (by omega)⟩
  apply Classical.byContradiction
  intro hn
  have := h.reach H hc h1 h2 hF N (by omega)
  exact hE ⟨this.2.2, by omega⟩
theorem Wal.lex {c : Nat → Nat → Bool} {s : Nat → Nat × Nat} (h : Wal c s) {j k : Nat} (hj : j < k) : (s j).1 < (s k).1 ∨ ((s j).1 = (s k).1 ∧ (s j).2 < (s k).2) := by
  have g := h.mono j (k - j)
  rw [show j + (k - j) = k by omega] at g
  have := h.sum j
  have := h.sum k
  omega
/-- The way comes to its end. -/
theorem Wal.ends {c : Nat → Nat → Bool} {s : Nat → Nat × Nat} (h : Wal c s) (n : Nat) : ∃ N, (∀ k, k < N → (s k).1 < (s k).2 ∧ (s k).2 < n) ∧ ¬ ((s N).1 < (s N).2 ∧ (s N).2 < n) := by
  have key : ∀ m, (∀ k, k < m → (s k).1 < (s k).2 ∧ (s k).2 < n) ∨ ∃ N, (∀ k, k < N → (s k).1 < (s k).2 ∧ (s k).2 < n) ∧ ¬ ((s N).1 < (s N).2 ∧ (s N).2 < n) := by
    intro m
    induction m with
    | zero => exact .inl (fun k hk => absurd hk (by omega))
    | succ m ih =>
      rcases ih with ih | ih
      · by_cases g : (s m).1 < (s m).2 ∧ (s m).2 < n
        · refine .inl (fun k hk => ?_)
          rcases Nat.lt_or_eq_of_le (Nat.le_of_lt_succ hk) with e | e
          · exact ih k e
          · rw [e]; exact g
        · exact .inr ⟨m, ih, g⟩
      · exact .inr ih
  rcases key (2 * n + 2) with g | g
  · have := g (2 * n + 1) (by omega)
    have := h.sum (2 * n + 1)
    omega
  · exact g
/-- What is met so far, its first greatest one. -/
theorem Wal.fst {c : Nat → Nat → Bool} {s : Nat → Nat × Nat} (h : Wal c s) (ds : Nat → Nat → Int) (D : Nat → Int × Int × Int) (h0 : D 0 = (0, 0, 0))
    (hD : ∀ k, D (k + 1) = if (D k).2.2 < ds (s k).1 (s k).2 then (((s k).1 : Int), ((s k).2 : Int), ds (s k).1 (s k).2) else D k) : ∀ k, Fst (Met s k) ds (D k)
  | 0 => by rw [h0]; exact Fst.nil (fun x y ⟨j, hj, _⟩ => by omega)
  | k + 1 => by
    rw [hD]
    refine (h.fst ds D h0 hD k).snoc _ _ (fun x y => ⟨?_, ?_⟩) ?_
    · rintro ⟨j, hj, e⟩
      rcases Nat.lt_or_eq_of_le (Nat.le_of_lt_succ hj) with g | rfl
      · exact .inl ⟨j, g, e⟩
      · right; rw [e]; exact ⟨rfl, rfl⟩
    · rintro (⟨j, hj, e⟩ | ⟨rfl, rfl⟩)
      · exact ⟨j, by omega, e⟩
      · exact ⟨k, by omega, rfl⟩
    · rintro x y ⟨j, hj, e⟩
      have := h.lex hj
      rw [e] at this
      exact this
end Go.Proofs.Ytpkfngfenkcjoaa.Hl

/- The reference's Diameter2: the walk. -/
set_option linter.all false
namespace Go.Proofs.Ytpkfngfenkcjoaa
open Go.RowKit

/-- The greatest pair of one row, and of all rows. -/
def rI (ds : Nat → Nat → Int) (i : Nat) (s : Int × Int × Int) : Nat → Int × Int × Int
  | 0 => s
  | m + 1 => if (rI ds i s m).2.2 < ds i (i + 1 + m) then ((i : Int), ((i + 1 + m : Nat) : Int), ds i (i + 1 + m)) else rI ds i s m
def rO (ds : Nat → Nat → Int) (n : Nat) : Nat → Int × Int × Int
  | 0 => (0, 0, 0)
  | i + 1 => rI ds i (rO ds n i) (n - 1 - i)
theorem rI_step (ds : Nat → Nat → Int) (i : Nat) (s : Int × Int × Int) (k : Nat) (h : i < k) : rI ds i s (k + 1 - (i + 1)) = if (rI ds i s (k - (i + 1))).2.2 < ds i k then ((i : Int), (k : Int), ds i k) else rI ds i s (k - (i + 1)) := by
  rw [show k + 1 - (i + 1) = k - (i + 1) + 1 by omega, rI, show i + 1 + (k - (i + 1)) = k by omega]

set_option maxRecDepth 100000 in
set_option maxHeartbeats 8000000 in
theorem rdiam_walk (g : Nat → T3) (b off cap n : Nat) (w : World) (hmx : n ≤ 10000) (hc : ∀ k, k < n → w.cell? ⟨b, off + k * 3, none⟩ = some (.int .i64 (g k).1) ∧ w.cell? ⟨b, off + k * 3 + 1, none⟩ = some (.int .i64 (g k).2.1) ∧ w.cell? ⟨b, off + k * 3 + 2, none⟩ = some (.int .i64 (g k).2.2))
    (ds : Nat → Nat → Int)
    (hD : ∀ i k, i < n → k < n → ∀ w', Calls Try.prog 28 #[vv (g i).1 (g i).2.1 (g i).2.2, vv (g k).1 (g k).2.1 (g k).2.2] w' (Ret (.int .i64 (ds i k)) w')) :
    Calls Try.prog 10 #[.slice (some ⟨b, off, none⟩) n cap] w (Ret (.tuple #[.int .i64 (rO ds n n).1, .int .i64 (rO ds n n).2.1, .int .i64 (rO ds n n).2.2]) w) := by
  have H5 := Lib.hid hc
  have HD := Lib.hid hD
  clear hc hD
  have E : Hid (Below w.heap.size w w) := Below.refl _ _
  obtain ⟨O, hO⟩ : ∃ O, O = rO ds n := ⟨_, rfl⟩
  have O0 : Hid (O 0 = (0, 0, 0)) := by show _ = _; rw [hO]; rfl
  have OS : Hid (∀ i, O (i + 1) = rI ds i (O i) (n - 1 - i)) := by intro i; rw [hO]; rfl
  rw [← hO]
  clear hO
  go_enter Try.func10, Try.ntmps10
  go_wp2
  go_loopw [5, 6, 7, 8, 9] (fun av bv mv iv kv wr => ∃ (wz : World) (i : Nat) (a1 a2 a3 : Int), wz = wr ∧ i ≤ n ∧ iv = .int .i64 (i : Int) ∧ av = .int .i64 a1 ∧ bv = .int .i64 a2 ∧ mv = .int .i64 a3 ∧ Hid ((a1, a2, a3) = O i) ∧ Hid (Below w.heap.size w wz))
    (fun _ _ _ iv _ _ => n - (intOf iv).toNat)
  case atStart => exact ⟨w, 0, 0, 0, 0, rfl, Nat.zero_le _, rfl, rfl, rfl, rfl, (by show _ = _; rw [O0.out]), E⟩
  case round =>
    clear E O0
    obtain ⟨wz, i, a1, a2, a3, rfl, hi, rfl, rfl, rfl, rfl, hs, E⟩ := hrel
    by_cases hlt : i < n
    · have hi0 : (0 : Int) ≤ (i : Int) := by omega
      have hi1 : (i : Int) < (n : Int) := by omega
      obtain ⟨x1, x2, x3, hL⟩ : ∃ x y z, g i = (x, y, z) := ⟨_, _, _, rfl⟩
      have KI : Hid (w.cell? ⟨b, off + i * 3, none⟩ = some (.int .i64 x1) ∧ w.cell? ⟨b, off + i * 3 + 1, none⟩ = some (.int .i64 x2) ∧ w.cell? ⟨b, off + i * 3 + 2, none⟩ = some (.int .i64 x3)) := by
        have := H5.out i hlt
        rwa [hL] at this
      have HD1 : Hid (∀ k, k < n → ∀ w', Calls Try.prog 28 #[vv x1 x2 x3, vv (g k).1 (g k).2.1 (g k).2.2] w' (Ret (.int .i64 (ds i k)) w')) := by
        intro k hk
        have := HD.out i k hlt hk
        rwa [hL] at this
      clear hL
      have hw : IntKind.i64.wrap ((i : Int) + 1) = (i : Int) + 1 := wrap_in (by omega)
      have OSi : Hid (O (i + 1) = rI ds i (O i) (n - 1 - i)) := OS.out i
      generalize O i = Oi at *
      go_wp2
      go_loopw [5, 6, 7, 9] (fun av bv mv kv wr => ∃ (wz : World) (k : Nat) (a1 a2 a3 : Int), wz = wr ∧ i < k ∧ k ≤ n ∧ kv = .int .i64 (k : Int) ∧ av = .int .i64 a1 ∧ bv = .int .i64 a2 ∧ mv = .int .i64 a3 ∧ Hid ((a1, a2, a3) = rI ds i Oi (k - (i + 1))) ∧ Hid (Below w.heap.size w wz))
        (fun _ _ _ kv _ => n - (intOf kv).toNat)
      case atStart => exact ⟨wz, i + 1, a1, a2, a3, rfl, Nat.lt_succ_self _, hlt, by go_num, rfl, rfl, rfl, (by show _ = _; rw [Nat.sub_self]; exact hs.out), E⟩
      case round =>
        clear E hs
        obtain ⟨wz, k, a1, a2, a3, rfl, hk, hkn, rfl, rfl, rfl, rfl, hs, E⟩ := hrel
        by_cases hlk : k < n
        · have hk0 : (0 : Int) ≤ (k : Int) := by omega
          have hk1 : (k : Int) < (n : Int) := by omega
          have hwk : IntKind.i64.wrap ((k : Int) + 1) = (k : Int) + 1 := wrap_in (by omega)
          obtain ⟨y1, y2, y3, hL⟩ : ∃ x y z, g k = (x, y, z) := ⟨_, _, _, rfl⟩
          have KK : Hid (w.cell? ⟨b, off + k * 3, none⟩ = some (.int .i64 y1) ∧ w.cell? ⟨b, off + k * 3 + 1, none⟩ = some (.int .i64 y2) ∧ w.cell? ⟨b, off + k * 3 + 2, none⟩ = some (.int .i64 y3)) := by
            have := H5.out k hlk
            rwa [hL] at this
          have D1 : Hid (∀ w', Calls Try.prog 28 #[vv x1 x2 x3, vv y1 y2 y3] w' (Ret (.int .i64 (ds i k)) w')) := by
            have := HD1.out k hlk
            rwa [hL] at this
          have RS : Hid (rI ds i Oi (k + 1 - (i + 1)) = if a3 < ds i k then ((i : Int), (k : Int), ds i k) else (a1, a2, a3)) := by
            show _ = _
            rw [rI_step _ _ _ _ hk, ← hs.out]
          clear hL hs
          generalize ds i k = dk at *
          generalize hrr : rI ds i Oi (k + 1 - (i + 1)) = rr at *
          have HRR := Lib.hid hrr
          clear hrr
          have HB := Lib.hid E.out
          clear E
          have c0 := keep1 HB.out KI.out.1; have c1 := keep1 HB.out KI.out.2.1; have c2 := keep1 HB.out KI.out.2.2; have d0 := keep1 HB.out KK.out.1; have d1 := keep1 HB.out KK.out.2.1; have d2 := keep1 HB.out KK.out.2.2
          by_cases hgt : a3 < dk
          · have RS1 : Hid (rr = ((i : Int), (k : Int), dk)) := by show _ = _; rw [RS.out, if_pos hgt]
            clear RS
            go_upto_region 8 with (fail)
            go_region_held3 (fun W' => W'.cell? ⟨b, off + i * 3, none⟩ = some (.int .i64 x1) ∧ W'.cell? ⟨b, off + i * 3 + 1, none⟩ = some (.int .i64 x2) ∧ W'.cell? ⟨b, off + i * 3 + 2, none⟩ = some (.int .i64 x3) ∧ W'.cell? ⟨b, off + k * 3, none⟩ = some (.int .i64 y1) ∧ W'.cell? ⟨b, off + k * 3 + 1, none⟩ = some (.int .i64 y2) ∧ W'.cell? ⟨b, off + k * 3 + 2, none⟩ = some (.int .i64 y3)) (go_keep)
              (first
              | (go_at_call 28; (with_reducible refine (D1.out _).mono ?_); rintro e y5 ⟨rfl, b5⟩; (try (have b5 := undrew b5)); have HB := Lib.hid (chain HB.out b5); clear b5; have c0 := keep1 HB.out KI.out.1; have c1 := keep1 HB.out KI.out.2.1; have c2 := keep1 HB.out KI.out.2.2; have d0 := keep1 HB.out KK.out.1; have d1 := keep1 HB.out KK.out.2.1; have d2 := keep1 HB.out KK.out.2.2)
              | fail)
            go_upto_region 9 with (fail)
            go_region_held3 (fun W' => W'.cell? ⟨b, off + i * 3, none⟩ = some (.int .i64 x1) ∧ W'.cell? ⟨b, off + i * 3 + 1, none⟩ = some (.int .i64 x2) ∧ W'.cell? ⟨b, off + i * 3 + 2, none⟩ = some (.int .i64 x3) ∧ W'.cell? ⟨b, off + k * 3, none⟩ = some (.int .i64 y1) ∧ W'.cell? ⟨b, off + k * 3 + 1, none⟩ = some (.int .i64 y2) ∧ W'.cell? ⟨b, off + k * 3 + 2, none⟩ = some (.int .i64 y3)) (go_keep)
              (first
              | (go_at_call 28; (with_reducible refine (D1.out _).mono ?_); rintro e y5 ⟨rfl, b5⟩; (try (have b5 := undrew b5)); have HB := Lib.hid (chain HB.out b5); clear b5; have c0 := keep1 HB.out KI.out.1; have c1 := keep1 HB.out KI.out.2.1; have c2 := keep1 HB.out KI.out.2.2; have d0 := keep1 HB.out KK.out.1; have d1 := keep1 HB.out KK.out.2.1; have d2 := keep1 HB.out KK.out.2.2)
              | fail)
            go_wp2
            go_roundw
            case rel => exact ⟨_, k + 1, _, _, _, rfl, by omega, by omega, by go_num, rfl, rfl, rfl, (by show _ = _; rw [HRR.out, RS1.out]), by first | exact HB | exact Lib.hid HB.out.drew | exact Lib.hid (below_drewN HB.out _)⟩
            case measure => simp [intOf]; omega
          · have RS1 : Hid (rr = (a1, a2, a3)) := by show _ = _; rw [RS.out, if_neg hgt]
            clear RS
            go_upto_region 8 with (fail)
            go_region_held3 (fun W' => W'.cell? ⟨b, off + i * 3, none⟩ = some (.int .i64 x1) ∧ W'.cell? ⟨b, off + i * 3 + 1, none⟩ = some (.int .i64 x2) ∧ W'.cell? ⟨b, off + i * 3 + 2, none⟩ = some (.int .i64 x3) ∧ W'.cell? ⟨b, off + k * 3, none⟩ = some (.int .i64 y1) ∧ W'.cell? ⟨b, off + k * 3 + 1, none⟩ = some (.int .i64 y2) ∧ W'.cell? ⟨b, off + k * 3 + 2, none⟩ = some (.int .i64 y3)) (go_keep)
              (first
              | (go_at_call 28; (with_reducible refine (D1.out _).mono ?_); rintro e y5 ⟨rfl, b5⟩; (try (have b5 := undrew b5)); have HB := Lib.hid (chain HB.out b5); clear b5; have c0 := keep1 HB.out KI.out.1; have c1 := keep1 HB.out KI.out.2.1; have c2 := keep1 HB.out KI.out.2.2; have d0 := keep1 HB.out KK.out.1; have d1 := keep1 HB.out KK.out.2.1; have d2 := keep1 HB.out KK.out.2.2)
              | fail)
            go_wp2
            go_roundw
            case rel => exact ⟨_, k + 1, _, _, _, rfl, by omega, by omega, by go_num, rfl, rfl, rfl, (by show _ = _; rw [HRR.out, RS1.out]), by first | exact HB | exact Lib.hid HB.out.drew | exact Lib.hid (below_drewN HB.out _)⟩
            case measure => simp [intOf]; omega
        · obtain rfl : k = n := by omega
          have NS : Hid ((a1, a2, a3) = O (i + 1)) := by
            show _ = _
            rw [OSi.out, hs.out, show k - 1 - i = k - (i + 1) by omega]
          clear hs
          go_wp2
          go_roundw
          case rel => exact ⟨_, i + 1, _, _, _, rfl, by omega, by go_num, rfl, rfl, rfl, NS, E⟩
          case measure => simp [intOf]; omega
    · obtain rfl : i = n := by omega
      have e := hs.out
      have EE := Lib.hid e
      clear e hs hlt hi
      go_wp2
      go_ret3
      exact ⟨by rw [← EE.out]; rfl, E.out⟩
end Go.Proofs.Ytpkfngfenkcjoaa

/- The reference's Area2: the walk. -/
set_option linter.all false
namespace Go.Proofs.Ytpkfngfenkcjoaa
open Go.RowKit

set_option maxRecDepth 100000 in
set_option maxHeartbeats 8000000 in
theorem rarea_walk (g : Nat → T3) (b off cap n : Nat) (w : World) (hmx : n ≤ 10000) (hpos : 0 < n) (hc : ∀ k, k < n → w.cell? ⟨b, off + k * 3, none⟩ = some (.int .i64 (g k).1) ∧ w.cell? ⟨b, off + k * 3 + 1, none⟩ = some (.int .i64 (g k).2.1) ∧ w.cell? ⟨b, off + k * 3 + 2, none⟩ = some (.int .i64 (g k).2.2))
    (sb : Nat → T3) (cx : Nat → T3) (sm : Nat → Int) (h0 : sm 0 = 0) (hs : ∀ k, k + 2 < n → IntKind.i64.wrap (sm k + (cx k).2.2) = sm (k + 1))
    (hS : ∀ k, k < n → ∀ w', Calls Try.prog 30 #[vv (g k).1 (g k).2.1 (g k).2.2, vv (g 0).1 (g 0).2.1 (g 0).2.2] w' (Ret (vv (sb k).1 (sb k).2.1 (sb k).2.2) w'))
    (hC : ∀ k, k + 2 < n → ∀ w', Calls Try.prog 29 #[vv (sb (k + 1)).1 (sb (k + 1)).2.1 (sb (k + 1)).2.2, vv (sb (k + 2)).1 (sb (k + 2)).2.1 (sb (k + 2)).2.2] w' (Ret (.agg #[.int .i64 (cx k).1, .int .i64 (cx k).2.1, .int .i64 (cx k).2.2]) w')) :
    Calls Try.prog 11 #[.slice (some ⟨b, off, none⟩) n cap] w (Ret (.int .i64 (sm (n - 2))) w) := by
  have H5 := Lib.hid hc
  have HSub := Lib.hid hS
  have HCr := Lib.hid hC
  have HSM := Lib.hid hs
  have HS0 := Lib.hid h0
  clear hc hS hC hs h0
  have E : Hid (Below w.heap.size w w) := Below.refl _ _
  obtain ⟨z1, z2, z3, hZ⟩ : ∃ x y z, g 0 = (x, y, z) := ⟨_, _, _, rfl⟩
  have KZ : Hid (w.cell? ⟨b, off, none⟩ = some (.int .i64 z1) ∧ w.cell? ⟨b, off + 1, none⟩ = some (.int .i64 z2) ∧ w.cell? ⟨b, off + 2, none⟩ = some (.int .i64 z3)) := by
    have := H5.out 0 hpos
    rwa [hZ, Nat.zero_mul, Nat.add_zero] at this
  rw [hZ] at HSub
  clear hZ
  have hpz : (0 : Int) < (n : Int) := by omega
  go_enter Try.func11, Try.ntmps11
  go_wp2
  go_loopw [3, 4] (fun sv iv wr => ∃ (wz : World) (k : Nat) (s : Int), wz = wr ∧ k ≤ n - 2 ∧ iv = .int .i64 ((k : Int) + 1) ∧ sv = .int .i64 s ∧ Hid (s = sm k) ∧ Hid (Below w.heap.size w wz))
    (fun _ iv _ => n - (intOf iv).toNat)
  case atStart => exact ⟨w, 0, 0, rfl, Nat.zero_le _, rfl, rfl, (by show _ = _; rw [HS0.out]), E⟩
  case round =>
    clear E HS0
    obtain ⟨wz, k, s, rfl, hk, rfl, rfl, hs, E⟩ := hrel
    have hw1 : IntKind.i64.wrap ((k : Int) + 1 + 1) = (k : Int) + 1 + 1 := wrap_in (by omega)
    by_cases hlt : k + 2 < n
    · have hi0 : (0 : Int) ≤ (k : Int) + 1 := by omega
      have hi1 : (k : Int) + 1 < (n : Int) := by omega
      have hi2 : (k : Int) + 1 + 1 < (n : Int) := by omega
      have hi3 : (0 : Int) ≤ (k : Int) + 1 + 1 := by omega
      obtain ⟨x1, x2, x3, hL⟩ : ∃ x y z, g (k + 1) = (x, y, z) := ⟨_, _, _, rfl⟩
      obtain ⟨y1, y2, y3, hM⟩ : ∃ x y z, g (k + 2) = (x, y, z) := ⟨_, _, _, rfl⟩
      obtain ⟨p1, p2, p3, hP⟩ : ∃ x y z, sb (k + 1) = (x, y, z) := ⟨_, _, _, rfl⟩
      obtain ⟨q1, q2, q3, hQ⟩ : ∃ x y z, sb (k + 2) = (x, y, z) := ⟨_, _, _, rfl⟩
      obtain ⟨r1, r2, r3, hR⟩ : ∃ x y z, cx k = (x, y, z) := ⟨_, _, _, rfl⟩
      have KI : Hid (w.cell? ⟨b, off + (k + 1) * 3, none⟩ = some (.int .i64 x1) ∧ w.cell? ⟨b, off + (k + 1) * 3 + 1, none⟩ = some (.int .i64 x2) ∧ w.cell? ⟨b, off + (k + 1) * 3 + 2, none⟩ = some (.int .i64 x3)) := by
        have := H5.out (k + 1) (by omega)
        rwa [hL] at this
      have KK : Hid (w.cell? ⟨b, off + (k + 1 + 1) * 3, none⟩ = some (.int .i64 y1) ∧ w.cell? ⟨b, off + (k + 1 + 1) * 3 + 1, none⟩ = some (.int .i64 y2) ∧ w.cell? ⟨b, off + (k + 1 + 1) * 3 + 2, none⟩ = some (.int .i64 y3)) := by
        have := H5.out (k + 2) hlt
        rwa [hM] at this
      have D1 : Hid (∀ w', Calls Try.prog 30 #[vv x1 x2 x3, vv z1 z2 z3] w' (Ret (vv p1 p2 p3) w')) := by
        have := HSub.out (k + 1) (by omega)
        rwa [hL, hP] at this
      have D2 : Hid (∀ w', Calls Try.prog 30 #[vv y1 y2 y3, vv z1 z2 z3] w' (Ret (vv q1 q2 q3) w')) := by
        have := HSub.out (k + 2) hlt
        rwa [hM, hQ] at this
      have D3 : Hid (∀ w', Calls Try.prog 29 #[vv p1 p2 p3, vv q1 q2 q3] w' (Ret (.agg #[.int .i64 r1, .int .i64 r2, .int .i64 r3]) w')) := by
        have := HCr.out k hlt
        rwa [hP, hQ, hR] at this
      have hsw : IntKind.i64.wrap (s + r3) = sm (k + 1) := by
        have := HSM.out k hlt
        rwa [hR, ← hs.out] at this
      have hf2 : ∀ w, (Instr.field 24 (.agg #[.int .i64 r1, .int .i64 r2, .int .i64 r3]) 2).run Try.prog w = .ok (.int .i64 r3) w := fun _ => by kernel_rfl
      clear hL hM hP hQ hR hs
      generalize hsk : sm (k + 1) = s' at *
      have HSK := Lib.hid hsk.symm
      clear hsk
      obtain ⟨m, hm⟩ : ∃ m, m = k + 1 := ⟨_, rfl⟩
      have hmi : (k : Int) + 1 = (m : Int) := by omega
      rw [hmi] at hi0 hi1 hi2 hi3 hw1 ⊢
      rw [← hm] at KI KK
      have hmi2 : ∀ a : Int, IntKind.i64.wrap a = IntKind.i64.wrap a := fun _ => rfl
      clear hmi2
      have HB := Lib.hid E.out
      clear E
      have HM := Lib.hid hm
      have HMI := Lib.hid hmi
      clear hm hmi
      have e0 := keep1 HB.out KZ.out.1; have e1 := keep1 HB.out KZ.out.2.1; have e2 := keep1 HB.out KZ.out.2.2; have c0 := keep1 HB.out KI.out.1; have c1 := keep1 HB.out KI.out.2.1; have c2 := keep1 HB.out KI.out.2.2; have d0 := keep1 HB.out KK.out.1; have d1 := keep1 HB.out KK.out.2.1; have d2 := keep1 HB.out KK.out.2.2
      go_upto_region 5 with (fail)
      go_region_held3 (fun W' => W'.cell? ⟨b, off, none⟩ = some (.int .i64 z1) ∧ W'.cell? ⟨b, off + 1, none⟩ = some (.int .i64 z2) ∧ W'.cell? ⟨b, off + 2, none⟩ = some (.int .i64 z3) ∧ W'.cell? ⟨b, off + m * 3, none⟩ = some (.int .i64 x1) ∧ W'.cell? ⟨b, off + m * 3 + 1, none⟩ = some (.int .i64 x2) ∧ W'.cell? ⟨b, off + m * 3 + 2, none⟩ = some (.int .i64 x3) ∧ W'.cell? ⟨b, off + (m + 1) * 3, none⟩ = some (.int .i64 y1) ∧ W'.cell? ⟨b, off + (m + 1) * 3 + 1, none⟩ = some (.int .i64 y2) ∧ W'.cell? ⟨b, off + (m + 1) * 3 + 2, none⟩ = some (.int .i64 y3)) (go_keep)
        (first
          | (go_at_call 30; (with_reducible refine (D1.out _).mono ?_); rintro e y5 ⟨rfl, b5⟩; (try (have b5 := undrew b5)); have HB := Lib.hid (chain HB.out b5); clear b5; have e0 := keep1 HB.out KZ.out.1; have e1 := keep1 HB.out KZ.out.2.1; have e2 := keep1 HB.out KZ.out.2.2; have c0 := keep1 HB.out KI.out.1; have c1 := keep1 HB.out KI.out.2.1; have c2 := keep1 HB.out KI.out.2.2; have d0 := keep1 HB.out KK.out.1; have d1 := keep1 HB.out KK.out.2.1; have d2 := keep1 HB.out KK.out.2.2)
          | (go_at_call 30; (with_reducible refine (D2.out _).mono ?_); rintro e y5 ⟨rfl, b5⟩; (try (have b5 := undrew b5)); have HB := Lib.hid (chain HB.out b5); clear b5; have e0 := keep1 HB.out KZ.out.1; have e1 := keep1 HB.out KZ.out.2.1; have e2 := keep1 HB.out KZ.out.2.2; have c0 := keep1 HB.out KI.out.1; have c1 := keep1 HB.out KI.out.2.1; have c2 := keep1 HB.out KI.out.2.2; have d0 := keep1 HB.out KK.out.1; have d1 := keep1 HB.out KK.out.2.1; have d2 := keep1 HB.out KK.out.2.2)
          | (go_at_call 29; (with_reducible refine (D3.out _).mono ?_); rintro e y5 ⟨rfl, b5⟩; (try (have b5 := undrew b5)); have HB := Lib.hid (chain HB.out b5); clear b5; have e0 := keep1 HB.out KZ.out.1; have e1 := keep1 HB.out KZ.out.2.1; have e2 := keep1 HB.out KZ.out.2.2; have c0 := keep1 HB.out KI.out.1; have c1 := keep1 HB.out KI.out.2.1; have c2 := keep1 HB.out KI.out.2.2; have d0 := keep1 HB.out KK.out.1; have d1 := keep1 HB.out KK.out.2.1; have d2 := keep1 HB.out KK.out.2.2)
          | fail)
      go_wp2
      go_roundw
      case rel => exact ⟨_, m, _, rfl, by have := HM.out; omega, by first | rfl | go_num, rfl, (by have := HM.out; show _ = _; rw [HSK.out, this]), by first | exact HB | exact Lib.hid HB.out.drew | exact Lib.hid (below_drewN HB.out _)⟩
      case measure => have := HM.out; simp [intOf]; omega
    · have hge : ¬ ((k : Int) + 1 + 1 < (n : Int)) := by omega
      have EE : Hid (s = sm (n - 2)) := by
        show _ = _
        rw [hs.out]
        by_cases g1 : 2 ≤ n
        · rw [show k = n - 2 by omega]
        · rw [show k = n - 2 by omega]
      clear hs hlt hk
      go_wp2
      go_ret
      exact ⟨by rw [← EE.out]; rfl, E.out⟩
end Go.Proofs.Ytpkfngfenkcjoaa
