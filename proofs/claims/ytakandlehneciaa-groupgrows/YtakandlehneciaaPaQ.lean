/- The program's rounds, plain: points that are to be looked at again stand in a set of bits; what the rounds come to. -/
import Derived.Test.YtakandlehneciaaPaP
namespace Go.Proofs.Ytakandlehneciaa
set_option linter.unusedVariables false
set_option linter.unusedSimpArgs false
set_option maxRecDepth 10000
namespace Pa
/-- numbers, one behind the other: nothing is less, each edge is fitted to what was, all is walked -/
structure Sq (n : Nat) (E : List Ed) (x : Nat → List Int) : Prop where
  z : x 0 = d0 n
  nn : ∀ k, Nn n (x k)
  up : ∀ k p, g (x k) p ≤ g (x (k + 1)) p
  fit : ∀ k, ∀ e ∈ E, 0 ≤ g (x k) e.1 → g (x k) e.1 + e.2.2 ≤ g (x (k + 1)) e.2.1
  att : ∀ k, Att E (g (x k))
theorem sq_up {n : Nat} {E : List Ed} {x : Nat → List Int} (hx : Sq n E x) {k m : Nat} (h : k ≤ m) (p : Nat) : g (x k) p ≤ g (x m) p := by
  induction h with
  | refl => omega
  | step h ih => exact Int.le_trans ih (hx.up _ p)
theorem sq_zero {n : Nat} (hn : 0 < n) {E : List Ed} {x : Nat → List Int} (hx : Sq n E x) (k : Nat) : 0 ≤ g (x k) 0 := by
  have := sq_up hx (Nat.zero_le k) 0
  rw [hx.z, d0_g hn] at this
  simpa using this
theorem sq_wk {n : Nat} {E : List Ed} (hg : Gr n E) {x : Nat → List Int} (hx : Sq n E x) {k : Nat} {s : Int} {p : Nat} (h : Wk E k s p) : s ≤ g (x k) p := by
  induction h with
  | nil => exact sq_zero hg.1 hx 0
  | @snoc k s p q l h he ih =>
    have h0 := (wk_nonneg hg h).1
    have := hx.fit k _ he (Int.le_trans h0 ih)
    simp only at this
    omega
theorem sq_fit {n : Nat} {E : List Ed} (hg : Gr n E) {x : Nat → List Int} (hx : Sq n E x) {d : Nat → Int} (hf : Fit E d) {m : Nat} (hm : n ≤ m + 1) : Fit E (g (x m)) := by
  have hlast : ∀ p, ∀ k s, Wk E k s p → s ≤ g (x m) p := fun p k s h => by
    obtain ⟨k', s', hw, hk, hs⟩ := short hg hf h
    exact Int.le_trans hs (Int.le_trans (sq_wk hg hx hw) (sq_up hx (by omega) p))
  refine ⟨hlast 0 0 0 .nil, fun e he h0 => ?_⟩
  obtain ⟨k, hw⟩ := hx.att m e.1 h0
  exact hlast _ _ _ (.snoc hw (show (e.1, e.2.1, e.2.2) ∈ E from he))
/-- does a set have a point? -/
abbrev bt (s p : Nat) : Bool := s.testBit p
theorem bt_put (s p q : Nat) : bt (s ||| 2 ^ p) q = (bt s q || decide (p = q)) := by
  simp [bt, Nat.testBit_or, Nat.testBit_two_pow]
theorem bt_none {s : Nat} : s = 0 ↔ ∀ p, bt s p = false := by
  refine ⟨fun h p => by rw [h]; simp [bt], fun h => Nat.eq_of_testBit_eq fun p => by rw [Nat.zero_testBit]; exact h p⟩
theorem put_lt {s p : Nat} (h : s < 18446744073709551616) (hp : p < 64) : s ||| 2 ^ p < 18446744073709551616 :=
  Nat.or_lt_two_pow (n := 64) h (Nat.pow_lt_pow_right (by decide) hp)
/-- one edge of a round: now the set that is looked at, d and s what is told so far -/
def gp (now : Nat) (d : List Int) (e : Ed) : Bool := bt now e.1 && decide (g d e.2.1 < g d e.1 + e.2.2)
def sp (now : Nat) (x : List Int × Nat) (e : Ed) : List Int × Nat := bif gp now x.1 e then (x.1.set e.2.1 (g x.1 e.1 + e.2.2), x.2 ||| 2 ^ e.2.1) else x
def rp (now : Nat) : List Ed → List Int × Nat → List Int × Nat
  | [], x => x
  | e :: E, x => rp now E (sp now x e)
theorem rp_app (now : Nat) : ∀ (A B : List Ed) (x : List Int × Nat), rp now (A ++ B) x = rp now B (rp now A x)
  | [], B, x => rfl
  | e :: A, B, x => by rw [List.cons_append, rp, rp, rp_app now A B]
/-- what holds within a round: b what it began with -/
structure In9 (n : Nat) (F : List Ed) (now : Nat) (b : List Int) (x : List Int × Nat) : Prop where
  nn : Nn n x.1
  up : ∀ p, g b p ≤ g x.1 p
  att : Att F (g x.1)
  lt : ∀ p, bt x.2 p = true → g b p < g x.1 p
  st : ∀ p, bt x.2 p = false → g x.1 p = g b p
  s64 : x.2 < 18446744073709551616
theorem sp_in {n : Nat} (hn : n ≤ 64) {F : List Ed} (hg : Gr n F) {now : Nat} {b : List Int} (hnow : ∀ p, bt now p = true → 0 ≤ g b p) {x : List Int × Nat} (h : In9 n F now b x) {e : Ed} (he : e ∈ F) : In9 n F now b (sp now x e) ∧ (∀ p, g x.1 p ≤ g (sp now x e).1 p) ∧ (bt now e.1 = true → g b e.1 + e.2.2 ≤ g (sp now x e).1 e.2.1) := by
  obtain ⟨h1, h2, h3⟩ := hg.2 e he
  have hl : e.2.1 < x.1.length := by rw [h.nn.1]; exact h2
  have hu := h.up e.1
  unfold sp
  cases hgp : gp now x.1 e with
  | false =>
    simp only [cond_false]
    refine ⟨h, fun p => Int.le_refl _, fun hb => ?_⟩
    have : ¬ (g x.1 e.2.1 < g x.1 e.1 + e.2.2) := fun h4 => by
      unfold gp at hgp
      rw [hb, decide_eq_true h4] at hgp
      exact absurd hgp (by simp)
    omega
  | true =>
    obtain ⟨hb, hlt⟩ : bt now e.1 = true ∧ g x.1 e.2.1 < g x.1 e.1 + e.2.2 := by simpa [gp] using hgp
    have h0 := hnow _ hb
    simp only [cond_true]
    have gs := fun p => g_set (v := g x.1 e.1 + e.2.2) hl p
    refine ⟨⟨⟨by rw [List.length_set]; exact h.nn.1, fun p => ?_⟩, fun p => ?_, fun p hp => ?_, fun p hp => ?_, fun p hp => ?_, put_lt h.s64 (by omega)⟩, fun p => ?_, fun _ => ?_⟩
    · rw [gs]; split
      · omega
      · exact h.nn.2 p
    · rw [gs]; have := h.up p; split
      · rename_i e1; rw [e1] at hlt; omega
      · exact this
    · rw [gs] at hp ⊢
      by_cases e1 : e.2.1 = p
      · rw [if_pos e1] at hp ⊢
        obtain ⟨k, hw⟩ := h.att e.1 (by omega)
        exact ⟨k + 1, e1 ▸ Wk.snoc hw he⟩
      · rw [if_neg e1] at hp ⊢
        exact h.att p hp
    · simp only at hp ⊢
      rw [bt_put] at hp
      rw [gs]
      by_cases e1 : e.2.1 = p
      · rw [if_pos e1]
        have := h.up e.2.1
        rw [e1] at this hlt
        omega
      · rw [if_neg e1]
        exact h.lt p (by simpa [e1] using hp)
    · simp only at hp ⊢
      rw [bt_put] at hp
      rw [gs]
      have e1 : ¬ e.2.1 = p := fun e1 => by simp [e1] at hp
      rw [if_neg e1]
      exact h.st p (by simpa [e1] using hp)
    · rw [gs]; split
      · rename_i e1; rw [e1] at hlt; omega
      · exact Int.le_refl _
    · rw [gs, if_pos rfl]; omega
theorem rp_in {n : Nat} (hn : n ≤ 64) {F : List Ed} (hg : Gr n F) {now : Nat} {b : List Int} (hnow : ∀ p, bt now p = true → 0 ≤ g b p) : ∀ (E : List Ed) (x : List Int × Nat), (∀ e ∈ E, e ∈ F) → In9 n F now b x → In9 n F now b (rp now E x) ∧ (∀ p, g x.1 p ≤ g (rp now E x).1 p) ∧ ∀ e ∈ E, bt now e.1 = true → g b e.1 + e.2.2 ≤ g (rp now E x).1 e.2.1
  | [], x, _, h => ⟨h, fun p => Int.le_refl _, fun e he => absurd he (by simp)⟩
  | e :: E, x, hE, h => by
    obtain ⟨h1, h2, h3⟩ := sp_in hn hg hnow h (hE e (by simp))
    obtain ⟨h4, h5, h6⟩ := rp_in hn hg hnow E _ (fun y hy => hE y (by simp [hy])) h1
    rw [rp]
    refine ⟨h4, fun p => Int.le_trans (h2 p) (h5 p), fun y hy hb => ?_⟩
    rcases List.mem_cons.1 hy with rfl | hy
    · exact Int.le_trans (h3 hb) (h5 _)
    · exact h6 y hy hb
/-- what holds between the rounds -/
structure Iv (n : Nat) (E : List Ed) (x : List Int × Nat) : Prop where
  nn : Nn n x.1
  att : Att E (g x.1)
  z : 0 ≤ g x.1 0
  re : ∀ p, bt x.2 p = true → 0 ≤ g x.1 p
  fit : ∀ e ∈ E, 0 ≤ g x.1 e.1 → bt x.2 e.1 = false → g x.1 e.1 + e.2.2 ≤ g x.1 e.2.1
  s64 : x.2 < 18446744073709551616
def rd9 (E : List Ed) (x : List Int × Nat) : List Int × Nat := rp x.2 E (x.1, 0)
def st9 (n : Nat) (E : List Ed) : Nat → List Int × Nat
  | 0 => (d0 n, 1)
  | k + 1 => rd9 E (st9 n E k)
theorem iv_zero {n : Nat} {E : List Ed} (hg : Gr n E) : Iv n E (d0 n, 1) := by
  have b1 : ∀ p, bt 1 p = decide (p = 0) := fun p => by
    have := Nat.testBit_two_pow (n := 0) (m := p)
    simp only [Nat.pow_zero] at this
    simp only [bt, this]
    by_cases h : p = 0
    · subst h; rfl
    · have h2 : ¬ 0 = p := fun e => h e.symm
      simp [h, h2]
  refine ⟨d0_nn hg.1, d0_att hg.1, by simp [d0_g hg.1], fun p hp => ?_, fun e he h0 hb => ?_, (by show (1 : Nat) < 18446744073709551616; decide)⟩
  · simp only [b1, decide_eq_true_eq] at hp
    subst hp; simp [d0_g hg.1]
  · simp only [b1, decide_eq_false_iff_not] at hb
    simp only [d0_g hg.1, if_neg hb] at h0
    omega
theorem rd_in {n : Nat} (hn : n ≤ 64) {E : List Ed} (hg : Gr n E) {x : List Int × Nat} (h : Iv n E x) : In9 n E x.2 x.1 (rd9 E x) ∧ (∀ e ∈ E, bt x.2 e.1 = true → g x.1 e.1 + e.2.2 ≤ g (rd9 E x).1 e.2.1) := by
  have h0 : In9 n E x.2 x.1 (x.1, 0) := ⟨h.nn, fun p => Int.le_refl _, h.att, fun p hp => by simp [bt] at hp, fun p _ => rfl, (by show (0 : Nat) < 18446744073709551616; decide)⟩
  obtain ⟨h1, _, h3⟩ := rp_in hn hg h.re E (x.1, 0) (fun e he => he) h0
  exact ⟨h1, h3⟩
theorem iv_next {n : Nat} (hn : n ≤ 64) {E : List Ed} (hg : Gr n E) {x : List Int × Nat} (h : Iv n E x) : Iv n E (rd9 E x) := by
  obtain ⟨h1, h3⟩ := rd_in hn hg h
  refine ⟨h1.nn, h1.att, Int.le_trans h.z (h1.up 0), fun p hp => ?_, fun e he h0 hb => ?_, h1.s64⟩
  · have := h1.lt p hp; have := h.nn.2 p; omega
  · have hs := h1.st _ hb
    rw [hs] at h0 ⊢
    cases hb2 : bt x.2 e.1 with
    | true => exact h3 e he hb2
    | false => exact Int.le_trans (h.fit e he h0 hb2) (h1.up _)
theorem iv_all {n : Nat} (hn : n ≤ 64) {E : List Ed} (hg : Gr n E) : ∀ k, Iv n E (st9 n E k)
  | 0 => iv_zero hg
  | k + 1 => iv_next hn hg (iv_all hn hg k)
theorem st_sq {n : Nat} (hn : n ≤ 64) {E : List Ed} (hg : Gr n E) : Sq n E (fun k => (st9 n E k).1) where
  z := rfl
  nn k := (iv_all hn hg k).nn
  up k p := (rd_in hn hg (iv_all hn hg k)).1.up p
  fit k e he h0 := by
    have h := iv_all hn hg k
    obtain ⟨h1, h3⟩ := rd_in hn hg h
    cases hb : bt (st9 n E k).2 e.1 with
    | true => exact h3 e he hb
    | false => exact Int.le_trans (h.fit e he h0 hb) (h1.up _)
  att k := (iv_all hn hg k).att
/-- what is told, if the set is empty; that there is nothing to tell, if it is not behind as many rounds as there are points -/
def Good (n : Nat) (E : List Ed) (d : List Int) : Prop := Nn n d ∧ Fit E (g d) ∧ Att E (g d)
theorem st_good {n : Nat} (hn : n ≤ 64) {E : List Ed} (hg : Gr n E) {k : Nat} (h : (st9 n E k).2 = 0) : Good n E (st9 n E k).1 := by
  have hi := iv_all hn hg k
  refine ⟨hi.nn, ⟨hi.z, fun e he h0 => hi.fit e he h0 ?_⟩, hi.att⟩
  rw [h]; simp [bt]
theorem st_none {n : Nat} (hn : n ≤ 64) {E : List Ed} (hg : Gr n E) (h : (st9 n E n).2 ≠ 0) : ∀ d, ¬ Fit E d := by
  intro d hf
  apply h
  obtain ⟨m, rfl⟩ : ∃ m, n = m + 1 := ⟨n - 1, by have := hg.1; omega⟩
  have h1 := sq_fit hg (st_sq hn hg) hf (Nat.le_refl (m + 1))
  have hi := iv_all hn hg m
  obtain ⟨h2, _⟩ := rd_in hn hg hi
  rw [bt_none]
  intro p
  cases hb : bt (st9 (m + 1) E (m + 1)).2 p with
  | false => rfl
  | true =>
    have h3 := h2.lt p hb
    have h4 := hi.nn.2 p
    have h5 : g (rd9 E (st9 (m + 1) E m)).1 p ≤ g (st9 (m + 1) E m).1 p := fit_le hg h1 h2.att (p := p) (by omega)
    omega
open Classical in
/-- how long the longest ways are; or the error -/
noncomputable def lgd (n : Nat) (E : List Ed) : List Int × Int := if h : ∃ d, Good n E d then (h.choose, 0) else ([], 140)
theorem lgd_good {n : Nat} {E : List Ed} (hg : Gr n E) {d : List Int} (h : Good n E d) : lgd n E = (d, 0) := by
  have he : ∃ d, Good n E d := ⟨d, h⟩
  unfold lgd
  rw [dif_pos he]
  rw [one hg he.choose_spec h]
theorem lgd_none {n : Nat} {E : List Ed} (h : ∀ d, ¬ Fit E d) : lgd n E = ([], 140) := by
  unfold lgd
  rw [dif_neg]
  rintro ⟨d, _, hf, _⟩
  exact h _ hf
theorem lgd_or {n : Nat} (E : List Ed) : lgd n E = ([], 140) ∨ ∃ d, Good n E d ∧ lgd n E = (d, 0) := by
  by_cases he : ∃ d, Good n E d
  · right
    refine ⟨he.choose, he.choose_spec, ?_⟩
    unfold lgd; rw [dif_pos he]
  · left; unfold lgd; rw [dif_neg he]
theorem jac_good {n : Nat} {E : List Ed} (hg : Gr n E) {m : Nat} (hm : n ≤ m) : ((runR (jac E) m (d0 n)).2 = false ∧ lgd n E = ((runR (jac E) m (d0 n)).1, 0)) ∨ ((runR (jac E) m (d0 n)).2 = true ∧ lgd n E = ([], 140)) := by
  rcases longest hg (jac_rd hg) hm with ⟨d, h1, h2, h3, h4⟩ | ⟨h1, h2⟩
  · exact .inl ⟨by rw [h1], by rw [h1]; exact lgd_good hg ⟨h2, h3, h4⟩⟩
  · exact .inr ⟨h1, lgd_none h2⟩
end Pa
end Go.Proofs.Ytakandlehneciaa
