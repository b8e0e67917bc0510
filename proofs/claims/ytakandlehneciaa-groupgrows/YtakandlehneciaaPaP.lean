/- What follows of a fitting that is walked, plain: point 0 is at 0, a way that goes by no point twice leads to each point that is reached, an edge more. -/
import Derived.Test.YtakandlehneciaaPaO
namespace Go.Proofs.Ytakandlehneciaa
set_option linter.unusedVariables false
set_option linter.unusedSimpArgs false
set_option maxRecDepth 10000
namespace Pa
theorem fit_zero {n : Nat} {E : List Ed} (hg : Gr n E) {d : Nat → Int} (hf : Fit E d) (ha : Att E d) : d 0 = 0 := by
  obtain ⟨k, hw⟩ := ha 0 hf.1
  have h1 : Fit E (fun p => d p - d 0) := ⟨by simp only; omega, fun e he h => by
    simp only at h ⊢
    have := hf.1
    have := hf.2 e he (by omega)
    omega⟩
  have h2 : d 0 ≤ d 0 - d 0 := fit_ge hg h1 hw
  have := hf.1
  omega
/-- the edges that a longest way may go by -/
def tg (E : List Ed) (d : Nat → Int) (a p : Nat) : Bool := E.any fun e => e.1 == a && e.2.1 == p && d p == d a + e.2.2
theorem tg_iff {E : List Ed} {d : Nat → Int} {a p : Nat} : tg E d a p = true ↔ ∃ l, (a, p, l) ∈ E ∧ d p = d a + l := by
  simp only [tg, List.any_eq_true, Bool.and_eq_true, beq_iff_eq]
  constructor
  · rintro ⟨⟨x, y, l⟩, h1, ⟨h2, h3⟩, h4⟩
    simp only at h2 h3 h4
    subst h2; subst h3
    exact ⟨l, h1, h4⟩
  · rintro ⟨l, h1, h2⟩
    exact ⟨(a, p, l), h1, ⟨rfl, rfl⟩, h2⟩
theorem isW_snoc {T : Nat → Nat → Bool} {p q : Nat} (h : T p q = true) : ∀ w, isW T p w → isW T q (w ++ [q])
  | [], h0 => absurd h0 (by simp [isW])
  | [a], h0 => by
    have : a = p := h0
    subst this
    exact ⟨h, rfl⟩
  | a :: b :: w, h0 => ⟨h0.1, isW_snoc h (b :: w) h0.2⟩
/-- a walk that is as long as the fitting says goes by such edges alone -/
theorem wp_tight {n : Nat} {E : List Ed} (hg : Gr n E) {d : Nat → Int} (hf : Fit E d) {L : List Nat} {s : Int} {p : Nat} (h : Wp E L s p) (hs : d p ≤ s) : isW (tg E d) p ((p :: L).reverse) ∧ (p :: L).getLast? = some 0 := by
  induction h with
  | nil => exact ⟨rfl, rfl⟩
  | @snoc L s p q l h he ih =>
    have h0 := (wk_nonneg hg (wk_of h)).1
    have h1 := fit_ge hg hf (wk_of h)
    have h2 := hf.2 _ he (by simp only; omega)
    simp only at h2
    obtain ⟨h3, h4⟩ := ih (by omega)
    refine ⟨?_, by rw [List.getLast?_cons_cons]; exact h4⟩
    rw [List.reverse_cons]
    exact isW_snoc (tg_iff.2 ⟨l, he, by omega⟩) _ h3
theorem way_ex {n : Nat} {E : List Ed} (hg : Gr n E) {d : Nat → Int} (hf : Fit E d) (ha : Att E d) {p : Nat} (hp : 0 ≤ d p) : ∃ w, (∃ r, w = 0 :: r) ∧ isW (tg E d) p w ∧ w.Nodup ∧ ∀ x ∈ w, x < n := by
  obtain ⟨k, hw⟩ := ha p hp
  obtain ⟨L, hL, _⟩ := wp_of hw
  obtain ⟨L', s', h1, h2, h3⟩ := wp_short hg hf hL
  obtain ⟨h4, h5⟩ := wp_tight hg hf h1 h3
  refine ⟨_, ?_, h4, ?_, fun x hx => wp_lt hg h1 x (List.mem_reverse.1 hx)⟩
  · rw [← List.head?_reverse] at h5
    cases hr : (p :: L').reverse with
    | nil => rw [hr] at h5; exact absurd h5 (by simp)
    | cons a r =>
      rw [hr] at h5
      have : a = 0 := by simpa using h5
      exact ⟨r, by rw [this]⟩
  · exact List.pairwise_reverse.2 (h2.imp fun h => h.symm)
/-- the longest edge from a point to a point; -1 if there is none -/
def bst : List Ed → Nat → Nat → Int → Int
  | [], _, _, b => b
  | e :: E, a, p, b => bst E a p (if e.1 = a ∧ e.2.1 = p then max b e.2.2 else b)
theorem bst_ge : ∀ (E : List Ed) (a p : Nat) (b : Int), b ≤ bst E a p b ∧ ∀ l, (a, p, l) ∈ E → l ≤ bst E a p b
  | [], a, p, b => ⟨Int.le_refl _, fun l h => absurd h (by simp)⟩
  | e :: E, a, p, b => by
    obtain ⟨h1, h2⟩ := bst_ge E a p (if e.1 = a ∧ e.2.1 = p then max b e.2.2 else b)
    refine ⟨?_, fun l hl => ?_⟩
    · rw [bst]; refine Int.le_trans ?_ h1; split <;> omega
    · rw [bst]
      rcases List.mem_cons.1 hl with rfl | hl
      · refine Int.le_trans ?_ h1; simp only [and_self, if_true]; omega
      · exact h2 l hl
theorem bst_in : ∀ (E : List Ed) (a p : Nat) (b : Int), bst E a p b = b ∨ (a, p, bst E a p b) ∈ E
  | [], a, p, b => .inl rfl
  | (x, y, l) :: E, a, p, b => by
    rw [bst]
    by_cases h : x = a ∧ y = p
    · obtain ⟨rfl, rfl⟩ := h
      simp only [and_self, if_true]
      rcases bst_in E x y (max b l) with h1 | h1
      · by_cases hb : l ≤ b
        · left; rw [h1]; omega
        · right; rw [h1]
          have : max b l = l := by omega
          rw [this]; simp
      · exact .inr (List.mem_cons_of_mem _ h1)
    · rw [if_neg h]
      rcases bst_in E a p b with h1 | h1
      · exact .inl h1
      · exact .inr (List.mem_cons_of_mem _ h1)
/-- between two points of such a way the longest edge is what lies between their numbers -/
theorem bst_tg {E : List Ed} {d : Nat → Int} (hf : Fit E d) {a p : Nat} (ha : 0 ≤ d a) (hl : ∀ e ∈ E, 0 ≤ e.2.2) (h : tg E d a p = true) : bst E a p (-1) = d p - d a ∧ 0 ≤ d p - d a := by
  obtain ⟨l, h1, h2⟩ := tg_iff.1 h
  have h3 := (bst_ge E a p (-1)).2 l h1
  have h4 := hl _ h1
  simp only at h4
  rcases bst_in E a p (-1) with h5 | h5
  · omega
  · have := hf.2 _ h5 ha
    simp only at this
    omega
/-- each point of a way: such an edge leads to the next one, and it is reached -/
theorem isW_at {T : Nat → Nat → Bool} {to : Nat} : ∀ w, isW T to w → ∀ i, i + 1 < w.length → T (w.getD i 0) (w.getD (i + 1) 0) = true
  | [], h, i, hi => absurd hi (by simp)
  | [a], h, i, hi => absurd hi (by simp)
  | a :: b :: w, h, 0, hi => h.1
  | a :: b :: w, h, i + 1, hi => isW_at (b :: w) h.2 i (by simpa using hi)
theorem isW_last {T : Nat → Nat → Bool} {to : Nat} : ∀ w, isW T to w → w.getD (w.length - 1) 0 = to ∧ w ≠ []
  | [], h => absurd h (by simp [isW])
  | [a], h => ⟨h, by simp⟩
  | a :: b :: w, h => ⟨(isW_last (b :: w) h.2).1, by simp⟩
theorem isW_reach {E : List Ed} {d : Nat → Int} {to : Nat} (hl : ∀ e ∈ E, 0 ≤ e.2.2) {w : List Nat} (h : isW (tg E d) to w) (h0 : 0 ≤ d (w.getD 0 0)) : ∀ i, i < w.length → 0 ≤ d (w.getD i 0)
  | 0, _ => h0
  | i + 1, hi => by
    have h1 := isW_reach hl h h0 i (by omega)
    obtain ⟨l, h2, h3⟩ := tg_iff.1 (isW_at w h i hi)
    have := hl _ h2
    simp only at this
    omega
/-- an edge more -/
theorem wk_more {E F : List Ed} (h : ∀ e ∈ E, e ∈ F) {k : Nat} {s : Int} {p : Nat} (hw : Wk E k s p) : Wk F k s p := by
  induction hw with
  | nil => exact .nil
  | snoc _ he ih => exact .snoc ih (h _ he)
theorem fit_less {E F : List Ed} (h : ∀ e ∈ E, e ∈ F) {d : Nat → Int} (hf : Fit F d) : Fit E d := ⟨hf.1, fun e he => hf.2 e (h e he)⟩
theorem att_more {E F : List Ed} (h : ∀ e ∈ E, e ∈ F) {d : Nat → Int} (ha : Att E d) : Att F d := fun p hp => (ha p hp).imp fun k hw => wk_more h hw
theorem more_ge {n : Nat} {E F : List Ed} (hg : Gr n F) (h : ∀ e ∈ E, e ∈ F) {d d' : Nat → Int} (ha : Att E d) (hf : Fit F d') (hl : ∀ p, -1 ≤ d' p) (hl' : ∀ p, -1 ≤ d p) (p : Nat) : d p ≤ d' p := by
  have h1 := hl p; have h2 := hl' p
  by_cases h0 : 0 ≤ d p
  · exact fit_le hg hf (att_more h ha) h0
  · omega
/-- an edge that is fitted already changes nothing, and none else does -/
theorem more_same {n : Nat} {E : List Ed} {x : Ed} (hg : Gr n (E ++ [x])) {d d' : List Int} (h : Nn n d ∧ Fit E (g d) ∧ Att E (g d)) (h' : Nn n d' ∧ Fit (E ++ [x]) (g d') ∧ Att (E ++ [x]) (g d')) : d = d' ↔ (g d x.1 < 0 ∨ g d x.1 + x.2.2 ≤ g d x.2.1) := by
  constructor
  · rintro rfl
    by_cases h0 : 0 ≤ g d x.1
    · exact .inr (h'.2.1.2 x (by simp) h0)
    · exact .inl (by omega)
  · intro hx
    refine one hg ⟨h.1, ⟨h.2.1.1, fun e he h0 => ?_⟩, att_more (fun e he => by simp [he]) h.2.2⟩ h'
    rcases List.mem_append.1 he with he | he
    · exact h.2.1.2 e he h0
    · have : e = x := by simpa using he
      subst this
      rcases hx with hx | hx
      · omega
      · exact hx
end Pa
end Go.Proofs.Ytakandlehneciaa
