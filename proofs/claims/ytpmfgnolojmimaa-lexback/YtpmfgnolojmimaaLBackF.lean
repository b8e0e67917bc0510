/- Tokens of what is spelt, in plain words. -/
import Derived.Test.YtpmfgnolojmimaaLFew
import Derived.Test.YtpmfgnolojmimaaLRightA
import Derived.Test.YtpmfgnolojmimaaLJoinF
import Derived.Test.YtpmfgnolojmimaaLSame
namespace Go.Proofs.Ytpmfgnolojmimaa
set_option linter.unusedVariables false
theorem rg_one {t : Tok} (h : rg t = true) : ∃ x, one t.s 0 = .ok x ∧ x.k = t.k ∧ x.n = t.n ∧ x.s = t.s ∧ x.k ≠ 0 ∧ skp false t.s = 0 ∧ t.s.length ≤ 24 := by
  unfold rg at h
  split at h
  · rename_i x y hT
    simp only [Bool.and_eq_true, decide_eq_true_eq] at h
    obtain ⟨⟨hk, hn⟩, hs⟩ := h
    rcases tk_cons (T_ok hT).2 with ⟨h1, _⟩ | ⟨t', M, h0, h1, h2, h3, h4, h5, h6, _⟩
    · simp at h1
    · simp only [List.cons.injEq] at h0
      obtain ⟨rfl, _⟩ := h0
      rw [hs] at h6
      have ha : skp false t.s = 0 := by omega
      rw [ha, List.drop_zero] at h1
      have h24 : t.s.length ≤ 24 := by
        rcases (one_ok h1).2 with ⟨_, e⟩ | ⟨_, _, _, e1, _, e2⟩
        · rw [e] at h2; exact absurd rfl h2
        · rw [← hs]; omega
      exact ⟨x, h1, hk, hn, hs, h2, ha, h24⟩
  · cases h
theorem tk_blank (R : List UInt8) (q : Nat) : tk (32 :: R) q = tk R (q + 1) := by
  have k1 : kd (32 : UInt8).toNat = 1 := by decide
  have es : skp false (32 :: R) = 1 + skp false R := by
    simp only [skp]
    rw [if_neg (by rw [k1]; decide), if_pos (.inl k1)]
  have ed : (32 :: R).drop (1 + skp false R) = R.drop (skp false R) := by rw [Nat.add_comm, List.drop_succ_cons]
  rw [tk_eq (32 :: R), tk_eq R, es, ed, show q + (1 + skp false R) = q + 1 + skp false R by omega]
theorem join_cons2 (x y : List UInt8) (r : List (List UInt8)) : Lib.join (x :: y :: r) [32] = x ++ 32 :: Lib.join (y :: r) [32] := by
  rw [Lib.join_cons, Lib.join_cons]
  unfold Lib.joinTail
  simp
theorem not32 : ¬ (kd (32 : UInt8).toNat = 4 ∨ kd (32 : UInt8).toNat = 5 ∨ kd (32 : UInt8).toNat = 6) := by decide
theorem tk_nil (p : Nat) : tk [] p = .ok [⟨0, [], 0, (p : Int)⟩] := by
  rw [tk_eq]
  rfl
theorem tk_spelt : ∀ (G : List Tok), (∀ t, t ∈ G → rg t = true) → ∀ p : Nat, ∃ (G' : List Tok) (e : Int), tk (Lib.join (G.map Tok.s) [32]) p = .ok (G' ++ [⟨0, [], 0, e⟩]) ∧ G'.map st = G.map st
  | [], _, p => ⟨[], p, by rw [List.map_nil, Lib.join_nil, tk_nil]; rfl, rfl⟩
  | [t], h, p => by
    obtain ⟨x, h1, hk, hn, hs, h0, ha, _⟩ := rg_one (h t (by simp))
    have e1 : one t.s (p + 0) = .ok (sh p x) := by rw [Nat.add_comm, one_sh, h1]
    refine ⟨[sh p x], (p + t.s.length : Nat), ?_, by simp [st, sh, hk, hn, hs]⟩
    rw [List.map_cons, List.map_nil, Lib.join_one, tk_eq, ha, List.drop_zero, e1]
    simp only
    rw [if_neg (show (sh p x).k ≠ 0 from h0)]
    have e2 : t.s.drop (sh p x).s.length = [] := List.drop_of_length_le (by show t.s.length ≤ x.s.length; rw [hs]; exact Nat.le_refl _)
    rw [e2, tk_nil]
    show Except.ok [sh p x, _] = Except.ok [sh p x, _]
    rw [show (sh p x).s.length = t.s.length from congrArg List.length hs]
    rfl
  | t :: u :: G, h, p => by
    obtain ⟨x, h1, hk, hn, hs, h0, ha, _⟩ := rg_one (h t (by simp))
    have hne : t.s ≠ [] := by
      intro e
      rw [e] at h1
      simp only [one, Except.ok.injEq] at h1
      rw [← h1] at h0
      exact h0 rfl
    have e1 : one t.s (p + 0) = .ok (sh p x) := by rw [Nat.add_comm, one_sh, h1]
    obtain ⟨G', e, hG, hst⟩ := tk_spelt (u :: G) (fun t ht => h t (by simp at ht ⊢; exact .inr ht)) (p + t.s.length + 1)
    refine ⟨sh p x :: G', e, ?_, by rw [List.map_cons, hst]; simp [st, sh, hk, hn, hs]⟩
    rw [List.map_cons, List.map_cons, join_cons2, ← List.map_cons (f := Tok.s)]
    have es : skp false (t.s ++ 32 :: Lib.join ((u :: G).map Tok.s) [32]) = 0 := by
      rw [skp_app2 _ false t.s (by rw [ha]; exact List.length_pos_iff.2 hne), ha]
    rw [tk_eq, es, List.drop_zero, one_app 32 not32 _ e1 h0]
    simp only
    rw [if_neg (show (sh p x).k ≠ 0 from h0)]
    have hl : (sh p x).s.length = t.s.length := congrArg List.length hs
    have e2 : (t.s ++ 32 :: Lib.join ((u :: G).map Tok.s) [32]).drop (sh p x).s.length = 32 :: Lib.join ((u :: G).map Tok.s) [32] := by
      rw [hl, List.drop_append_of_le_length (Nat.le_refl _), List.drop_length, List.nil_append]
    rw [e2, tk_blank, hl, show p + 0 + t.s.length + 1 = p + t.s.length + 1 by omega, hG]
    rfl
theorem join_len : ∀ (G : List Tok), (∀ t, t ∈ G → rg t = true) → (Lib.join (G.map Tok.s) [32]).length ≤ 25 * G.length
  | [], _ => by simp [Lib.join_nil]
  | [t], h => by
    obtain ⟨x, _, _, _, _, _, _, h24⟩ := rg_one (h t (by simp))
    rw [List.map_cons, List.map_nil, Lib.join_one]
    simp
    omega
  | t :: u :: G, h => by
    obtain ⟨x, _, _, _, _, _, _, h24⟩ := rg_one (h t (by simp))
    have ih := join_len (u :: G) (fun t ht => h t (by simp at ht ⊢; exact .inr ht))
    rw [List.map_cons, List.map_cons, join_cons2, ← List.map_cons (f := Tok.s)]
    simp only [List.length_append, List.length_cons] at *
    omega
theorem tx_good {G : List Tok} (h : ∀ t, t ∈ G → rg t = true) : tx G = G.map Tok.s := by
  unfold tx
  rw [List.filter_eq_self.2]
  intro t ht
  obtain ⟨x, _, hk, _, _, h0, _⟩ := rg_one (h t ht)
  simp only [ne_eq, decide_eq_true_eq]
  rw [← hk]
  exact h0
theorem T_spelt {G : List Tok} (h : ∀ t, t ∈ G → rg t = true) (hl : G.length ≤ 200) : (sp G).length ≤ 5000 ∧ ∃ (G' : List Tok) (e : Int), T (sp G) = .ok (G' ++ [⟨0, [], 0, e⟩]) ∧ G'.map st = G.map st := by
  have hs : sp G = Lib.join (G.map Tok.s) [32] := by unfold sp; rw [tx_good h]
  have hl2 := join_len G h
  obtain ⟨G', e, h1, h2⟩ := tk_spelt G h 0
  rw [hs]
  refine ⟨by omega, G', e, ?_, h2⟩
  unfold T
  rw [if_neg (by omega)]
  exact h1
/-- those that are right -/
def gd (L : List Tok) : List Tok := L.filter rg
theorem gd_snoc {L : List Tok} {k : Nat} (h : k < L.length) : gd (L.take (k + 1)) = gd (L.take k) ++ (if rg (L.getD k t0) = true then [L.getD k t0] else []) := by
  have e : L.take (k + 1) = L.take k ++ [L.getD k t0] := by
    rw [List.take_add_one, List.getElem?_eq_getElem h, List.getD_eq_getElem?_getD, List.getElem?_eq_getElem h]; rfl
  unfold gd
  rw [e, List.filter_append]
  congr 1
  by_cases h0 : rg (L.getD k t0) = true
  · rw [if_pos h0, List.filter_cons, if_pos h0]; rfl
  · rw [if_neg h0, List.filter_cons, if_neg h0]; rfl
theorem gd_le (L : List Tok) : (gd L).length ≤ L.length := List.length_filter_le _ _
theorem gd_right {L : List Tok} : ∀ t, t ∈ gd L → rg t = true := fun t ht => (List.mem_filter.1 ht).2
end Go.Proofs.Ytpmfgnolojmimaa
