/- Longest ways, plain: a fitting is told by its walks, rounds come to it, and where they don't a walk grows round a circle. -/
import Derived.Test.YtakandlehneciaaNum
namespace Go.Proofs.Ytakandlehneciaa
set_option linter.unusedVariables false
set_option linter.unusedSimpArgs false
set_option maxRecDepth 10000
namespace Pa
/-- an edge: from, to, its length -/
abbrev Ed := Nat × Nat × Int
/-- the number at a place; -1 behind the end -/
def g (d : List Int) (p : Nat) : Int := d.getD p (-1)
/-- a walk from 0: how many edges, how long, where it ends -/
inductive Wk (E : List Ed) : Nat → Int → Nat → Prop
  | nil : Wk E 0 0 0
  | snoc {k s p q l} : Wk E k s p → (p, q, l) ∈ E → Wk E (k + 1) (s + l) q
/-- a graph of n points -/
def Gr (n : Nat) (E : List Ed) : Prop := 0 < n ∧ ∀ e ∈ E, e.1 < n ∧ e.2.1 < n ∧ 0 ≤ e.2.2
/-- every edge from a point that is reached is fitted -/
def Fit (E : List Ed) (d : Nat → Int) : Prop := 0 ≤ d 0 ∧ ∀ e ∈ E, 0 ≤ d e.1 → d e.1 + e.2.2 ≤ d e.2.1
/-- every number from 0 on is the length of a walk -/
def Att (E : List Ed) (d : Nat → Int) : Prop := ∀ p, 0 ≤ d p → ∃ k, Wk E k (d p) p
theorem wk_nonneg {n : Nat} {E : List Ed} (hg : Gr n E) {k : Nat} {s : Int} {p : Nat} (h : Wk E k s p) : 0 ≤ s ∧ p < n := by
  induction h with
  | nil => exact ⟨Int.le_refl _, hg.1⟩
  | snoc h he ih => have := hg.2 _ he; simp only at this; omega
theorem fit_ge {n : Nat} {E : List Ed} (hg : Gr n E) {d : Nat → Int} (hf : Fit E d) {k : Nat} {s : Int} {p : Nat} (h : Wk E k s p) : s ≤ d p := by
  induction h with
  | nil => exact hf.1
  | snoc h he ih =>
    have h0 := (wk_nonneg hg h).1
    have := hf.2 _ he (by simp only; omega)
    simp only at this; omega
/-- a fitting that is walked is the least one: there is one alone -/
theorem fit_le {n : Nat} {E : List Ed} (hg : Gr n E) {d d' : Nat → Int} (hf : Fit E d) (ha : Att E d') {p : Nat} (h : 0 ≤ d' p) : d' p ≤ d p := by
  obtain ⟨k, hw⟩ := ha p h
  exact fit_ge hg hf hw
theorem fit_one {n : Nat} {E : List Ed} (hg : Gr n E) {d d' : Nat → Int} (hf : Fit E d) (ha : Att E d) (hf' : Fit E d') (ha' : Att E d') (hl : ∀ p, -1 ≤ d p) (hl' : ∀ p, -1 ≤ d' p) (p : Nat) : d p = d' p := by
  have h1 := @fit_le n E hg d d' hf ha' p
  have h2 := @fit_le n E hg d' d hf' ha p
  have := hl p; have := hl' p
  omega
/-- walks with the points they went by, the last one first -/
inductive Wp (E : List Ed) : List Nat → Int → Nat → Prop
  | nil : Wp E [] 0 0
  | snoc {L s p q l} : Wp E L s p → (p, q, l) ∈ E → Wp E (p :: L) (s + l) q
theorem wp_of {E : List Ed} {k : Nat} {s : Int} {p : Nat} (h : Wk E k s p) : ∃ L, Wp E L s p ∧ L.length = k := by
  induction h with
  | nil => exact ⟨[], .nil, rfl⟩
  | snoc h he ih => obtain ⟨L, hL, e⟩ := ih; exact ⟨_, .snoc hL he, by simp [e]⟩
theorem wk_of {E : List Ed} {L : List Nat} {s : Int} {p : Nat} (h : Wp E L s p) : Wk E L.length s p := by
  induction h with
  | nil => exact .nil
  | snoc h he ih => exact .snoc ih he
/-- a walk that went by a point was there: what lies between is no longer than the fitting lets it be -/
theorem wp_cut {n : Nat} {E : List Ed} (hg : Gr n E) {d : Nat → Int} (hf : Fit E d) {L : List Nat} {s : Int} {p q : Nat} (h : Wp E L s p) (hq : q ∈ p :: L) (hn : (p :: L).Nodup) : ∃ L' s', Wp E L' s' q ∧ (q :: L').Nodup ∧ d q + (s - s') ≤ d p := by
  induction h with
  | nil =>
    have : q = 0 := by simpa using hq
    subst this
    exact ⟨[], 0, .nil, by simp, by omega⟩
  | @snoc L s r p l h he ih =>
    rcases List.mem_cons.1 hq with rfl | hq
    · exact ⟨_, _, .snoc h he, hn, by omega⟩
    · obtain ⟨L', s', hw, hl, hd⟩ := ih hq (List.nodup_cons.1 hn).2
      have h0 := (wk_nonneg hg (wk_of h)).1
      have h1 := fit_ge hg hf (wk_of h)
      have := hf.2 _ he (by simp only; omega)
      simp only at this
      exact ⟨L', s', hw, hl, by omega⟩
theorem wp_short {n : Nat} {E : List Ed} (hg : Gr n E) {d : Nat → Int} (hf : Fit E d) {L : List Nat} {s : Int} {p : Nat} (h : Wp E L s p) : ∃ L' s', Wp E L' s' p ∧ (p :: L').Nodup ∧ s ≤ s' := by
  induction h with
  | nil => exact ⟨[], 0, .nil, by simp, by omega⟩
  | @snoc L s p q l h he ih =>
    obtain ⟨L1, s1, hw, hn, hs⟩ := ih
    by_cases hq : q ∈ p :: L1
    · obtain ⟨L2, s2, hw2, hn2, hd⟩ := wp_cut hg hf hw hq hn
      have h0 := (wk_nonneg hg (wk_of hw)).1
      have h1 := fit_ge hg hf (wk_of hw)
      have := hf.2 _ he (by simp only; omega)
      simp only at this
      exact ⟨L2, s2, hw2, hn2, by omega⟩
    · exact ⟨p :: L1, s1 + l, .snoc hw he, List.nodup_cons.2 ⟨hq, hn⟩, by omega⟩
theorem wp_lt {n : Nat} {E : List Ed} (hg : Gr n E) {L : List Nat} {s : Int} {p : Nat} (h : Wp E L s p) : ∀ x ∈ p :: L, x < n := by
  induction h with
  | nil => intro x hx; have : x = 0 := by simpa using hx
           subst this; exact hg.1
  | snoc h he ih =>
    intro x hx
    rcases List.mem_cons.1 hx with rfl | hx
    · exact (hg.2 _ he).2.1
    · exact ih x hx
theorem nodup_le : ∀ (n : Nat) (L : List Nat), L.Nodup → (∀ x ∈ L, x < n) → L.length ≤ n
  | 0, L, hn, h => by
    cases L with
    | nil => simp
    | cons a l => exact absurd (h a (by simp)) (by omega)
  | n + 1, L, hn, h => by
    by_cases hm : n ∈ L
    · have h1 := nodup_le n (L.erase n) (hn.erase n) (fun x hx => by
        have h2 := (hn.mem_erase_iff).1 hx
        have := h x h2.2; have := h2.1; omega)
      rw [List.length_erase_of_mem hm] at h1
      omega
    · have := nodup_le n L hn (fun x hx => by
        have h2 := h x hx
        have : x ≠ n := fun e => hm (e ▸ hx)
        omega)
      omega
/-- where all is fitted somehow, walks of fewer edges than points are long enough -/
theorem short {n : Nat} {E : List Ed} (hg : Gr n E) {d : Nat → Int} (hf : Fit E d) {k : Nat} {s : Int} {p : Nat} (h : Wk E k s p) : ∃ k' s', Wk E k' s' p ∧ k' < n ∧ s ≤ s' := by
  obtain ⟨L, hL, _⟩ := wp_of h
  obtain ⟨L', s', hw, hn, hs⟩ := wp_short hg hf hL
  have := nodup_le n _ hn (wp_lt hg hw)
  exact ⟨_, s', wk_of hw, by simp only [List.length_cons] at this; omega, hs⟩
/-- n numbers, none below -1 -/
def Nn (n : Nat) (d : List Int) : Prop := d.length = n ∧ ∀ p, -1 ≤ g d p
/-- what a round does: nothing is less, each edge is fitted to what was, all is walked still -/
structure Rd (n : Nat) (E : List Ed) (R : List Int → List Int) : Prop where
  inv : ∀ d, Nn n d → Nn n (R d)
  up : ∀ d, Nn n d → ∀ p, g d p ≤ g (R d) p
  fit : ∀ d, Nn n d → ∀ e, e ∈ E → 0 ≤ g d e.1 → g d e.1 + e.2.2 ≤ g (R d) e.2.1
  att : ∀ d, Nn n d → Att E (g d) → Att E (g (R d))
def it (R : List Int → List Int) (d : List Int) : Nat → List Int
  | 0 => d
  | k + 1 => R (it R d k)
/-- what the rounds start with -/
def d0 (n : Nat) : List Int := (List.range n).map fun p => if p = 0 then 0 else -1
theorem d0_g {n : Nat} (hn : 0 < n) (p : Nat) : g (d0 n) p = if p = 0 then 0 else -1 := by
  unfold g d0
  by_cases h : p < n
  · simp [h]
  · have : p ≠ 0 := by omega
    simp [h, this]
theorem d0_nn {n : Nat} (hn : 0 < n) : Nn n (d0 n) := ⟨by simp [d0], fun p => by rw [d0_g hn]; split <;> omega⟩
theorem d0_att {n : Nat} (hn : 0 < n) {E : List Ed} : Att E (g (d0 n)) := fun p h => by
  rw [d0_g hn] at *
  by_cases hp : p = 0
  · subst hp; exact ⟨0, by simpa using Wk.nil⟩
  · rw [if_neg hp] at h; omega
theorem it_nn {n : Nat} (hn : 0 < n) {E : List Ed} {R : List Int → List Int} (hR : Rd n E R) : ∀ k, Nn n (it R (d0 n) k)
  | 0 => d0_nn hn
  | k + 1 => hR.inv _ (it_nn hn hR k)
theorem it_att {n : Nat} (hn : 0 < n) {E : List Ed} {R : List Int → List Int} (hR : Rd n E R) : ∀ k, Att E (g (it R (d0 n) k))
  | 0 => d0_att hn
  | k + 1 => hR.att _ (it_nn hn hR k) (it_att hn hR k)
theorem it_up {n : Nat} (hn : 0 < n) {E : List Ed} {R : List Int → List Int} (hR : Rd n E R) {k m : Nat} (h : k ≤ m) (p : Nat) : g (it R (d0 n) k) p ≤ g (it R (d0 n) m) p := by
  induction h with
  | refl => omega
  | step h ih => exact Int.le_trans ih (hR.up _ (it_nn hn hR _) p)
theorem it_zero {n : Nat} (hn : 0 < n) {E : List Ed} {R : List Int → List Int} (hR : Rd n E R) (k : Nat) : 0 ≤ g (it R (d0 n) k) 0 := by
  have := it_up hn hR (Nat.zero_le k) 0
  simp only [it, d0_g hn] at this
  simpa using this
theorem it_wk {n : Nat} {E : List Ed} (hg : Gr n E) {R : List Int → List Int} (hR : Rd n E R) {k : Nat} {s : Int} {p : Nat} (h : Wk E k s p) : s ≤ g (it R (d0 n) k) p := by
  induction h with
  | nil => exact it_zero hg.1 hR 0
  | @snoc k s p q l h he ih =>
    have h0 := (wk_nonneg hg h).1
    have := hR.fit _ (it_nn hg.1 hR k) _ he (Int.le_trans h0 ih)
    simp only [it] at *
    omega
/-- if there is a fitting at all, n - 1 rounds come to one -/
theorem it_fit {n : Nat} {E : List Ed} (hg : Gr n E) {R : List Int → List Int} (hR : Rd n E R) {d : Nat → Int} (hf : Fit E d) {m : Nat} (hm : n ≤ m + 1) : Fit E (g (it R (d0 n) m)) := by
  have hlast : ∀ p, ∀ k s, Wk E k s p → s ≤ g (it R (d0 n) m) p := fun p k s h => by
    obtain ⟨k', s', hw, hk, hs⟩ := short hg hf h
    exact Int.le_trans hs (Int.le_trans (it_wk hg hR hw) (it_up hg.1 hR (by omega) p))
  refine ⟨hlast 0 0 0 .nil, fun e he h0 => ?_⟩
  obtain ⟨k, hw⟩ := it_att hg.1 hR m e.1 h0
  exact hlast _ _ _ (.snoc hw (show (e.1, e.2.1, e.2.2) ∈ E from he))
theorem g_ext {n : Nat} {d d' : List Int} (h : d.length = n) (h' : d'.length = n) (hp : ∀ p, g d p = g d' p) : d = d' := by
  refine List.ext_getElem (by omega) fun p h1 h2 => ?_
  have := hp p
  simpa [g, List.getD_eq_getElem?_getD, h1, h2] using this
/-- behind a fitting one round more changes nothing -/
theorem fit_stop {n : Nat} {E : List Ed} (hg : Gr n E) {R : List Int → List Int} (hR : Rd n E R) {d : List Int} (hn : Nn n d) (hf : Fit E (g d)) (ha : Att E (g d)) : R d = d := by
  refine g_ext (hR.inv d hn).1 hn.1 fun p => ?_
  have h3 := hn.2 p
  have h2 := hR.up d hn p
  by_cases h : g (R d) p < 0
  · omega
  · have h1 := fit_le hg hf (hR.att _ hn ha) (p := p) (by omega)
    omega
theorem stop_fit {n : Nat} {E : List Ed} {R : List Int → List Int} (hR : Rd n E R) {d : List Int} (hn : Nn n d) (h0 : 0 ≤ g d 0) (hs : R d = d) : Fit E (g d) :=
  ⟨h0, fun e he h => by have := hR.fit d hn e he h; rw [hs] at this; exact this⟩
/-- rounds until nothing grows, m + 1 at most: the numbers, and whether they grew to the end -/
def runR (R : List Int → List Int) : Nat → List Int → List Int × Bool
  | 0, d => (d, true)
  | m + 1, d => if R d = d then (d, false) else runR R m (R d)
theorem runR_it (R : List Int → List Int) (d : List Int) : ∀ m k, (∃ j, k ≤ j ∧ j < k + m ∧ runR R m (it R d k) = (it R d j, false) ∧ R (it R d j) = it R d j) ∨ ((runR R m (it R d k)).2 = true ∧ ∀ j, k ≤ j → j < k + m → R (it R d j) ≠ it R d j)
  | 0, k => .inr ⟨rfl, fun j h1 h2 => by omega⟩
  | m + 1, k => by
    by_cases h : R (it R d k) = it R d k
    · exact .inl ⟨k, Nat.le_refl _, by omega, by simp only [runR, if_pos h], h⟩
    · simp only [runR, if_neg h]
      rcases runR_it R d m (k + 1) with ⟨j, h1, h2, h3, h4⟩ | ⟨h1, h2⟩
      · exact .inl ⟨j, by omega, by omega, h3, h4⟩
      · refine .inr ⟨h1, fun j h3 h4 => ?_⟩
        by_cases hj : j = k
        · subst hj; exact h
        · exact h2 j (by omega) (by omega)
/-- what the rounds come to: the fitting that is walked, or there is none -/
theorem longest {n : Nat} {E : List Ed} (hg : Gr n E) {R : List Int → List Int} (hR : Rd n E R) {m : Nat} (hm : n ≤ m) : (∃ d, runR R m (d0 n) = (d, false) ∧ Nn n d ∧ Fit E (g d) ∧ Att E (g d)) ∨ ((runR R m (d0 n)).2 = true ∧ ∀ d, ¬ Fit E d) := by
  rcases runR_it R (d0 n) m 0 with ⟨j, h1, h2, h3, h4⟩ | ⟨h1, h2⟩
  · exact .inl ⟨_, h3, it_nn hg.1 hR j, stop_fit hR (it_nn hg.1 hR j) (it_zero hg.1 hR j) h4, it_att hg.1 hR j⟩
  · refine .inr ⟨h1, fun d hf => ?_⟩
    have hn := hg.1
    exact h2 (n - 1) (by omega) (by omega) (fit_stop hg hR (it_nn hg.1 hR _) (it_fit hg hR hf (by omega)) (it_att hg.1 hR _))
theorem one {n : Nat} {E : List Ed} (hg : Gr n E) {d d' : List Int} (h : Nn n d ∧ Fit E (g d) ∧ Att E (g d)) (h' : Nn n d' ∧ Fit E (g d') ∧ Att E (g d')) : d = d' :=
  g_ext h.1.1 h'.1.1 (fit_one hg h.2.1 h.2.2 h'.2.1 h'.2.2 h.1.2 h'.1.2)
end Pa
end Go.Proofs.Ytakandlehneciaa
