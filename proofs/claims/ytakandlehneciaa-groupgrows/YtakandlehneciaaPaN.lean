/- The document's round, plain: the numbers longer by one edge more, and whether one was. -/
import Derived.Test.YtakandlehneciaaPaM
namespace Go.Proofs.Ytakandlehneciaa
set_option linter.unusedVariables false
set_option linter.unusedSimpArgs false
set_option maxRecDepth 10000
namespace Pa
/-- does an edge make a number greater? -/
def gt (d o : List Int) (e : Ed) : Bool := decide (0 ≤ g d e.1) && decide (g o e.2.1 < g d e.1 + e.2.2)
/-- one edge: d what was, o what is told so far -/
def rl (d o : List Int) (e : Ed) : List Int := bif gt d o e then o.set e.2.1 (g d e.1 + e.2.2) else o
/-- the edges one behind the other, from what was -/
def jl (d : List Int) : List Ed → List Int → List Int
  | [], o => o
  | e :: E, o => jl d E (rl d o e)
/-- did one grow? -/
def jb (d : List Int) : List Ed → List Int → Bool
  | [], _ => false
  | e :: E, o => gt d o e || jb d E (rl d o e)
theorem g_set {o : List Int} {t : Nat} {v : Int} (h : t < o.length) (p : Nat) : g (o.set t v) p = if t = p then v else g o p := by
  unfold g
  rw [List.getD_eq_getElem?_getD, List.getElem?_set]
  by_cases e : t = p
  · subst e; simp [h]
  · simp [e, List.getD_eq_getElem?_getD]
theorem rl_len (d o : List Int) (e : Ed) : (rl d o e).length = o.length := by unfold rl; cases gt d o e <;> simp
theorem gt_iff {d o : List Int} {e : Ed} : gt d o e = true ↔ 0 ≤ g d e.1 ∧ g o e.2.1 < g d e.1 + e.2.2 := by simp [gt]
theorem rl_up {d o : List Int} {e : Ed} (h : e.2.1 < o.length) (p : Nat) : g o p ≤ g (rl d o e) p := by
  unfold rl
  cases h1 : gt d o e with
  | false => simp
  | true =>
    have h2 := gt_iff.1 h1
    simp only [cond_true, g_set h]
    split
    · rename_i e; subst e; omega
    · omega
theorem rl_fit {d o : List Int} {e : Ed} (h : e.2.1 < o.length) (h0 : 0 ≤ g d e.1) : g d e.1 + e.2.2 ≤ g (rl d o e) e.2.1 := by
  unfold rl
  cases h1 : gt d o e with
  | false =>
    have : ¬ (0 ≤ g d e.1 ∧ g o e.2.1 < g d e.1 + e.2.2) := fun h2 => by rw [gt_iff.2 h2] at h1; exact absurd h1 (by simp)
    simp only [cond_false]; omega
  | true => simp only [cond_true, g_set h]; simp
theorem rl_strict {d o : List Int} {e : Ed} (h : e.2.1 < o.length) (h1 : gt d o e = true) : g o e.2.1 < g (rl d o e) e.2.1 := by
  have h2 := gt_iff.1 h1
  have := rl_fit (d := d) h h2.1
  omega
/-- what holds of one number holds of it behind an edge, or it is the edge's -/
theorem rl_or {d o : List Int} {e : Ed} (h : e.2.1 < o.length) (p : Nat) : g (rl d o e) p = g o p ∨ (p = e.2.1 ∧ 0 ≤ g d e.1 ∧ g (rl d o e) p = g d e.1 + e.2.2) := by
  unfold rl
  cases h1 : gt d o e with
  | false => exact .inl rfl
  | true =>
    have h2 := gt_iff.1 h1
    simp only [cond_true, g_set h]
    by_cases hp : e.2.1 = p
    · exact .inr ⟨hp.symm, h2.1, by simp [hp]⟩
    · exact .inl (by simp [hp])
theorem jl_len (d : List Int) : ∀ (E : List Ed) (o : List Int), (jl d E o).length = o.length
  | [], o => rfl
  | e :: E, o => by rw [jl, jl_len d E, rl_len]
theorem jl_up (d : List Int) : ∀ (E : List Ed) (o : List Int), (∀ e ∈ E, e.2.1 < o.length) → ∀ p, g o p ≤ g (jl d E o) p
  | [], o, _, p => Int.le_refl _
  | e :: E, o, h, p => by
    rw [jl]
    exact Int.le_trans (rl_up (h e (by simp)) p) (jl_up d E _ (fun x hx => by rw [rl_len]; exact h x (by simp [hx])) p)
theorem jl_fit (d : List Int) : ∀ (E : List Ed) (o : List Int), (∀ e ∈ E, e.2.1 < o.length) → ∀ e ∈ E, 0 ≤ g d e.1 → g d e.1 + e.2.2 ≤ g (jl d E o) e.2.1
  | [], o, _, x, hx, _ => absurd hx (by simp)
  | e :: E, o, h, x, hx, h0 => by
    rw [jl]
    have hl : ∀ x ∈ E, x.2.1 < (rl d o e).length := fun x hx => by rw [rl_len]; exact h x (by simp [hx])
    rcases List.mem_cons.1 hx with rfl | hx
    · exact Int.le_trans (rl_fit (h x (by simp)) h0) (jl_up d E _ hl _)
    · exact jl_fit d E _ hl x hx h0
theorem jl_or (d : List Int) : ∀ (E : List Ed) (o : List Int), (∀ e ∈ E, e.2.1 < o.length) → ∀ p, g (jl d E o) p = g o p ∨ ∃ e ∈ E, p = e.2.1 ∧ 0 ≤ g d e.1 ∧ g (jl d E o) p = g d e.1 + e.2.2
  | [], o, _, p => .inl rfl
  | e :: E, o, h, p => by
    rw [jl]
    have hl : ∀ x ∈ E, x.2.1 < (rl d o e).length := fun x hx => by rw [rl_len]; exact h x (by simp [hx])
    rcases jl_or d E _ hl p with h1 | ⟨x, hx, h1⟩
    · rcases rl_or (d := d) (h e (by simp)) p with h2 | ⟨h2, h3, h4⟩
      · exact .inl (h1.trans h2)
      · exact .inr ⟨e, by simp, h2, h3, h1.trans h4⟩
    · exact .inr ⟨x, by simp [hx], h1⟩
/-- one grew just where the numbers are others -/
theorem jb_false (d : List Int) : ∀ (E : List Ed) (o : List Int), jb d E o = false → jl d E o = o
  | [], o, _ => rfl
  | e :: E, o, h => by
    rw [jb, Bool.or_eq_false_iff] at h
    have : rl d o e = o := by unfold rl; rw [h.1]; rfl
    rw [jl, jb_false d E _ h.2, this]
theorem jb_true (d : List Int) : ∀ (E : List Ed) (o : List Int), (∀ e ∈ E, e.2.1 < o.length) → jb d E o = true → jl d E o ≠ o
  | [], o, _, h => absurd h (by simp [jb])
  | e :: E, o, h, hb => fun he => by
    have hl : ∀ x ∈ E, x.2.1 < (rl d o e).length := fun x hx => by rw [rl_len]; exact h x (by simp [hx])
    have h0 := h e (by simp)
    rw [jl] at he
    cases h1 : gt d o e with
    | true =>
      have h2 := rl_strict (d := d) h0 h1
      have h3 := jl_up d E _ hl e.2.1
      rw [he] at h3
      omega
    | false =>
      have : rl d o e = o := by unfold rl; rw [h1]; rfl
      rw [jb, h1, Bool.false_or] at hb
      exact jb_true d E _ hl hb (he.trans this.symm)
/-- the document's round -/
def jac (E : List Ed) (d : List Int) : List Int := jl d E d
theorem jac_rd {n : Nat} {E : List Ed} (hg : Gr n E) : Rd n E (jac E) where
  inv d h := ⟨by rw [jac, jl_len, h.1], fun p => Int.le_trans (h.2 p) (jl_up d E d (fun e he => by rw [h.1]; exact (hg.2 e he).2.1) p)⟩
  up d h p := jl_up d E d (fun e he => by rw [h.1]; exact (hg.2 e he).2.1) p
  fit d h e he h0 := jl_fit d E d (fun e he => by rw [h.1]; exact (hg.2 e he).2.1) e he h0
  att d h ha p hp := by
    unfold jac at *
    rcases jl_or d E d (fun e he => by rw [h.1]; exact (hg.2 e he).2.1) p with h1 | ⟨e, he, h2, h3, h4⟩
    · rw [h1] at hp ⊢; exact ha p hp
    · obtain ⟨k, hw⟩ := ha _ h3
      rw [h4, h2]
      exact ⟨k + 1, .snoc hw he⟩
theorem jac_stop {n : Nat} {E : List Ed} (hg : Gr n E) {d : List Int} (h : Nn n d) : jb d E d = false ↔ jac E d = d := by
  refine ⟨jb_false d E d, fun h1 => ?_⟩
  cases hb : jb d E d with
  | false => rfl
  | true => exact absurd h1 (jb_true d E d (fun e he => by rw [h.1]; exact (hg.2 e he).2.1) hb)
/-- all are at most M a round -/
theorem jl_le (d : List Int) {B M : Int} : ∀ (E : List Ed) (o : List Int), (∀ e ∈ E, e.2.1 < o.length ∧ e.2.2 ≤ M) → (∀ p, g d p ≤ B) → (∀ p, g o p ≤ B + M) → ∀ p, g (jl d E o) p ≤ B + M
  | E, o, h, hd, ho, p => by
    rcases jl_or d E o (fun e he => (h e he).1) p with h1 | ⟨e, he, h2, h3, h4⟩
    · rw [h1]; exact ho p
    · rw [h4]; have := hd e.1; have := (h e he).2; omega
end Pa
end Go.Proofs.Ytakandlehneciaa
