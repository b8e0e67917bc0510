/- A text that is cut ahead of a token has the tokens ahead of it. No program is met here. -/
import Derived.Test.YtfjphcgipbgodaaDoorLFact
namespace Go.Proofs.YtfjphcgipbgodaaDoor
set_option linter.unusedVariables false
set_option linter.unusedSimpArgs false
theorem skp_tke : ∀ (r : List UInt8) (b : Bool) (K : Nat), skp b r ≤ K → skp b (r.take K) = skp b r
  | [], b, K, _ => by simp
  | c :: r, true, K, h => by
    simp only [skp] at h
    obtain ⟨K, rfl⟩ : ∃ k, K = k + 1 := ⟨K - 1, by omega⟩
    simp only [List.take_succ_cons, skp]
    rw [skp_tke r _ K (by omega)]
  | c :: r, false, K, h => by
    cases K with
    | zero => simp only [List.take_zero]; simp only [Nat.le_zero] at h; rw [h]; rfl
    | succ K =>
      simp only [List.take_succ_cons, skp] at h ⊢
      split
      · rename_i h3; rw [if_pos h3] at h; rw [skp_tke r _ K (by omega)]
      · rename_i h3
        rw [if_neg h3] at h
        split
        · rename_i h1; rw [if_pos h1] at h; rw [skp_tke r _ K (by omega)]
        · rfl
theorem tw_tke (P : UInt8 → Bool) : ∀ (r : List UInt8) (K : Nat), tw P r ≤ K → tw P (r.take K) = tw P r
  | [], K, _ => by simp
  | c :: r, K, h => by
    cases K with
    | zero => simp only [List.take_zero]; simp only [Nat.le_zero] at h; rw [h]; rfl
    | succ K =>
      unfold tw at h ⊢
      simp only [List.take_succ_cons, List.takeWhile_cons] at h ⊢
      split
      · rename_i hp; rw [if_pos hp] at h; simp only [List.length_cons] at h ⊢; have := tw_tke P r K (by unfold tw; omega); unfold tw at this; rw [this]
      · rfl
theorem en_tke (q : List UInt8) (K : Nat) (h : en q ≤ K) : en (q.take K) = en q := by
  cases q with
  | nil => simp
  | cons c r =>
    simp only [en] at h
    obtain ⟨K, rfl⟩ : ∃ k, K = k + 1 := ⟨K - 1, by omega⟩
    simp only [List.take_succ_cons, en]
    rw [tw_tke _ r K (by omega)]
theorem one_tke {q : List UInt8} {K p : Nat} {t : Tok} (h : one q p = .ok t) (hK : en q ≤ K) : one (q.take K) p = .ok t := by
  cases q with
  | nil => simpa using h
  | cons c r =>
    have e := en_tke (c :: r) K hK
    have e2 : ((c :: r).take K).take (en (c :: r)) = (c :: r).take (en (c :: r)) := by rw [List.take_take, Nat.min_eq_left hK]
    have hp := en_pos c r
    obtain ⟨K, rfl⟩ : ∃ k, K = k + 1 := ⟨K - 1, by omega⟩
    rw [List.take_succ_cons] at e e2 ⊢
    simp only [one] at h ⊢
    rw [e, e2]
    exact h
theorem tk_ge : ∀ (n : Nat) (r : List UInt8) (p : Nat) (L : List Tok), r.length ≤ n → tk r p = .ok L → ∀ t ∈ L, (p : Int) ≤ t.p
  | n, r, p, L, hn, h => by
    rcases tk_cons h with ⟨rfl, _⟩ | ⟨t, M, rfl, h1, h2, h3, _, h5, h6, h7⟩
    · intro t ht; simp at ht; subst ht; simp; omega
    · intro u hu
      rcases List.mem_cons.1 hu with rfl | hu
      · rw [h3]; simp; omega
      · cases n with
        | zero => omega
        | succ n => have := tk_ge n _ _ M (by rw [List.length_drop]; omega) h7 u hu; omega
theorem tk_take : ∀ (a : List Tok) (r : List UInt8) (p : Nat) (t : Tok) (b : List Tok) (k : Nat), tk r p = .ok (a ++ t :: b) → t.p = ((p + k : Nat) : Int) → tk (r.take k) p = .ok (a ++ [⟨0, [], 0, ((p + k : Nat) : Int)⟩])
  | [], r, p, t, b, k, h, hp => by
    rcases tk_cons h with ⟨e, hs⟩ | ⟨u, M, e, h1, h2, h3, _, h5, h6, h7⟩
    · simp at e
      obtain ⟨rfl, rfl⟩ := e
      have : k = r.length := by have : ((p + r.length : Nat) : Int) = ((p + k : Nat) : Int) := hp; omega
      subst this
      rw [List.take_length]
      exact h
    · simp at e
      obtain ⟨rfl, rfl⟩ := e
      have : k = skp false r := by rw [h3] at hp; omega
      subst this
      rw [tk_eq, skp_tke r false _ (Nat.le_refl _)]
      rw [List.drop_eq_nil_of_le (by rw [List.length_take]; omega)]
      simp [one]
  | t1 :: a, r, p, t, b, k, h, hp => by
    rcases tk_cons h with ⟨e, hs⟩ | ⟨u, M, e, h1, h2, h3, h4, h5, h6, h7⟩
    · simp at e
    · simp at e
      obtain ⟨rfl, rfl⟩ := e
      have hge := tk_ge _ _ _ _ (Nat.le_refl _) h7 t (by simp)
      have hk : skp false r + t1.s.length ≤ k := by rw [hp] at hge; omega
      obtain ⟨k', rfl⟩ : ∃ k', k = skp false r + t1.s.length + k' := ⟨k - (skp false r + t1.s.length), by omega⟩
      have ih := tk_take a _ _ t b k' h7 (by rw [hp]; congr 1; omega)
      have hen : t1.s.length = en (r.drop (skp false r)) := by
        rcases (one_ok h1).2 with ⟨_, e⟩ | ⟨_, _, _, e, _⟩
        · rw [e] at h2; exact absurd rfl h2
        · exact e
      rw [tk_eq, skp_tke r false _ (by omega)]
      have e1 : (r.take (skp false r + t1.s.length + k')).drop (skp false r) = (r.drop (skp false r)).take (t1.s.length + k') := by rw [List.drop_take]; congr 1; omega
      rw [e1, one_tke h1 (by omega)]
      simp only [if_neg h2]
      have e2 : ((r.drop (skp false r)).take (t1.s.length + k')).drop t1.s.length = (r.drop (skp false r + t1.s.length)).take k' := by rw [List.drop_take, List.drop_drop]; congr 1; omega
      rw [e2, ih]
      simp only [pre, List.cons_append, List.nil_append]
      rw [show p + skp false r + t1.s.length + k' = p + (skp false r + t1.s.length + k') by omega]
theorem T_take {l : List UInt8} {a : List Tok} {t : Tok} {b : List Tok} {k : Nat} (h : T l = .ok (a ++ t :: b)) (hp : t.p = (k : Int)) : T (l.take k) = .ok (a ++ [⟨0, [], 0, (k : Int)⟩]) := by
  obtain ⟨h1, h2⟩ := T_ok h
  have := tk_take a l 0 t b k h2 (by rw [hp]; simp)
  unfold T
  rw [if_neg (by rw [List.length_take]; omega), this]
  simp
end Go.Proofs.YtfjphcgipbgodaaDoor
