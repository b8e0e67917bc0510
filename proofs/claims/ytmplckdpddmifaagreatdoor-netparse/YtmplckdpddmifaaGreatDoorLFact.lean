/- What the tokens of bytes are like, in plain words. -/
import Derived.Test.YtmplckdpddmifaaGreatDoorLTok
namespace Go.Proofs.YtmplckdpddmifaaGreatDoor
set_option linter.unusedVariables false
theorem one_err {r : List UInt8} {p : Nat} {e : Int} (h : one r p = .error e) : e = 4 ∨ e = 40 := by
  cases r with
  | nil => simp [one] at h
  | cons c r => simp only [one] at h; (repeat' split at h) <;> simp at h <;> omega
theorem pre_err {acc : List Tok} {x : Except (Int × Nat) (List Tok)} {y : Int × Nat} (h : pre acc x = .error y) : x = .error y := by
  cases x with
  | error z => exact h
  | ok l => cases h
theorem pre_ok {acc L : List Tok} {x : Except (Int × Nat) (List Tok)} (h : pre acc x = .ok L) : ∃ M, x = .ok M ∧ L = acc ++ M := by
  cases x with
  | error z => cases h
  | ok l => simp only [pre, Except.ok.injEq] at h; exact ⟨l, rfl, h.symm⟩
theorem tk_err : ∀ (n : Nat) (r : List UInt8) (p : Nat) (e : Int) (a : Nat), r.length ≤ n → tk r p = .error (e, a) → (e = 4 ∨ e = 40) ∧ p ≤ a ∧ a ≤ p + r.length
  | n, r, p, e, a, hn, h => by
    rw [tk_eq] at h
    have hs := skp_le false r
    split at h
    · rename_i e' he
      simp only [Except.error.injEq, Prod.mk.injEq] at h
      obtain ⟨rfl, rfl⟩ := h
      exact ⟨one_err he, by omega, by omega⟩
    · rename_i t ht
      split at h
      · cases h
      · rename_i hk
        have h' := pre_err h
        rcases (one_ok ht).2 with ⟨_, h2⟩ | ⟨_, _, _, h1, h2, _⟩
        · rw [h2] at hk; exact absurd rfl hk
        · have hl := en_le (r.drop (skp false r))
          cases n with
          | zero =>
            simp only [List.length_drop] at hl
            omega
          | succ n =>
            have := tk_err n _ _ e a (by simp only [List.length_drop] at *; omega) h'
            simp only [List.length_drop] at *
            omega
theorem tk_cons {r : List UInt8} {p : Nat} {L : List Tok} (h : tk r p = .ok L) :
    (L = [⟨0, [], 0, ((p + r.length : Nat) : Int)⟩] ∧ skp false r = r.length) ∨
    (∃ t M, L = t :: M ∧ one (r.drop (skp false r)) (p + skp false r) = .ok t ∧ t.k ≠ 0 ∧ t.p = ((p + skp false r : Nat) : Int) ∧ t.s = (r.drop (skp false r)).take t.s.length ∧ 1 ≤ t.s.length ∧ skp false r + t.s.length ≤ r.length ∧ tk (r.drop (skp false r + t.s.length)) (p + skp false r + t.s.length) = .ok M) := by
  rw [tk_eq] at h
  have hs := skp_le false r
  split at h
  · cases h
  · rename_i t ht
    have h0 := one_ok ht
    split at h
    · rename_i hk
      left
      rcases h0.2 with ⟨h1, h2⟩ | ⟨h1, _⟩
      · have : r.length ≤ skp false r := by have := congrArg List.length h1; simp at this; omega
        have e : skp false r = r.length := by omega
        rw [e] at h2
        simp only [Except.ok.injEq] at h
        rw [h2] at h
        exact ⟨h.symm, e⟩
      · exact absurd hk h1
    · rename_i hk
      right
      obtain ⟨M, hM, rfl⟩ := pre_ok h
      rcases h0.2 with ⟨_, h2⟩ | ⟨_, _, h3, h4, h5, _⟩
      · rw [h2] at hk; exact absurd rfl hk
      · have hl := en_le (r.drop (skp false r))
        refine ⟨t, M, rfl, ht, hk, h0.1, by rw [h4]; exact h3, by omega, by simp only [List.length_drop] at hl; omega, ?_⟩
        rw [List.drop_drop] at hM
        exact hM
theorem T_err {l : List UInt8} {e : Int} {a : Nat} (h : T l = .error (e, a)) : (e = 4 ∨ e = 40) ∧ a ≤ l.length := by
  unfold T at h
  split at h
  · simp only [Except.error.injEq, Prod.mk.injEq] at h
    obtain ⟨rfl, rfl⟩ := h
    exact ⟨.inl rfl, by omega⟩
  · have := tk_err l.length l 0 e a (Nat.le_refl _) h
    exact ⟨this.1, by omega⟩
theorem T_ok {l : List UInt8} {L : List Tok} (h : T l = .ok L) : l.length ≤ 65536 ∧ tk l 0 = .ok L := by
  unfold T at h
  split at h
  · cases h
  · exact ⟨by omega, h⟩
/-- how many tokens there are -/
theorem tk_len : ∀ (n : Nat) (r : List UInt8) (p : Nat) (L : List Tok), r.length ≤ n → tk r p = .ok L → 1 ≤ L.length ∧ L.length ≤ r.length + 1
  | n, r, p, L, hn, h => by
    rcases tk_cons h with ⟨rfl, _⟩ | ⟨t, M, rfl, _, _, _, _, h5, h6, h7⟩
    · simp
    · cases n with
      | zero => omega
      | succ n =>
        have := tk_len n _ _ M (by rw [List.length_drop]; omega) h7
        rw [List.length_drop] at this
        simp only [List.length_cons]
        omega
theorem T_len {l : List UInt8} {L : List Tok} (h : T l = .ok L) : 1 ≤ L.length ∧ L.length ≤ l.length + 1 := tk_len l.length l 0 L (Nat.le_refl _) (T_ok h).2
/-- a text that is one token: it stands at the front -/
theorem T_one {l : List UInt8} {x y : Tok} (h : T l = .ok [x, y]) (hs : x.s = l) : x.p = 0 := by
  rcases tk_cons (T_ok h).2 with ⟨h1, _⟩ | ⟨t, M, h0, _, _, h3, _, _, h6, _⟩
  · simp at h1
  · simp only [List.cons.injEq] at h0
    obtain ⟨rfl, _⟩ := h0
    rw [h3, hs] at *
    omega
end Go.Proofs.YtmplckdpddmifaaGreatDoor
