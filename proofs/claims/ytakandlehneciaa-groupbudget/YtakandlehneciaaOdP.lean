/- Orders, plain: what the statements on places ask. -/
import Derived.Test.YtakandlehneciaaOdM
namespace Go.Proofs.Ytakandlehneciaa
set_option linter.unusedVariables false
set_option linter.unusedSimpArgs false
set_option maxRecDepth 10000
namespace Od
theorem isO_nat {n k : Int} (h : 0 ≤ k ∧ k < cnt n) : ∃ m i : Nat, n = (m : Int) ∧ k = (i : Int) ∧ m ≤ 8 ∧ i < fc m := by
  have hn : 0 ≤ n ∧ n ≤ 8 := by
    rcases Classical.em (0 ≤ n ∧ n ≤ 8) with h1 | h1
    · exact h1
    · have := h.2; unfold cnt at this; rw [if_neg h1] at this; omega
  obtain ⟨m, rfl⟩ : ∃ m : Nat, n = (m : Int) := ⟨n.toNat, by omega⟩
  obtain ⟨i, rfl⟩ : ∃ i : Nat, k = (i : Int) := ⟨k.toNat, by omega⟩
  have h2 := h.2
  rw [cnt_nat (by omega)] at h2
  exact ⟨m, i, rfl, rfl, by omega, by omega⟩
theorem ah_at {m i k : Nat} (h8 : m ≤ 8) (hi : i < fc m) (hk : k < fc m) {j : Nat} (hj : j < m) (he : ∀ a, a < j → (nth m i).getD a 0 = (nth m k).getD a 0) (hne : (nth m i).getD j 0 ≠ (nth m k).getD j 0) : decide ((nth m i).getD j 0 < (nth m k).getD j 0) = decide ((i : Int) < (k : Int)) := by
  rw [nth_yes h8 hi, nth_yes h8 hk] at he hne ⊢
  rcases Nat.lt_trichotomy i k with h | h | h
  · obtain ⟨b, hb, ha, hl⟩ := nth_lt m (rg m) i k (rg_len m) (rg_up m) hi hk h
    rcases Nat.lt_trichotomy b j with h1 | h1 | h1
    · have := he b h1; omega
    · subst h1; rw [decide_eq_true hl, decide_eq_true (by omega)]
    · exact absurd (ha j h1) hne
  · subst h; exact absurd rfl hne
  · obtain ⟨b, hb, ha, hl⟩ := nth_lt m (rg m) k i (rg_len m) (rg_up m) hk hi h
    rcases Nat.lt_trichotomy b j with h1 | h1 | h1
    · have := he b h1; omega
    · subst h1; rw [decide_eq_false (by omega), decide_eq_false (by omega)]
    · exact absurd (ha j h1).symm hne
theorem ah_end {m i k : Nat} (h8 : m ≤ 8) (hi : i < fc m) (hk : k < fc m) (he : ∀ a, a < m → (nth m i).getD a 0 = (nth m k).getD a 0) : i = k := by
  rw [nth_yes h8 hi, nth_yes h8 hk] at he
  rcases Nat.lt_trichotomy i k with h | h | h
  · obtain ⟨b, hb, ha, hl⟩ := nth_lt m (rg m) i k (rg_len m) (rg_up m) hi hk h
    have := he b hb; omega
  · exact h
  · obtain ⟨b, hb, ha, hl⟩ := nth_lt m (rg m) k i (rg_len m) (rg_up m) hk hi h
    have := he b hb; omega
end Od
end Go.Proofs.Ytakandlehneciaa
