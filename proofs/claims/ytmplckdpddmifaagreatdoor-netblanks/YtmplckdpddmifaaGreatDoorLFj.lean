/- What the tokens of bytes are like, in plain words. -/
import Derived.Test.YtmplckdpddmifaaGreatDoorLTok
namespace Go.Proofs.YtmplckdpddmifaaGreatDoor
set_option linter.unusedVariables false
theorem one_err {r : List UInt8} {p : Nat} {e : Int} (h : one r p = .error e) : e = 4 ∨ e = 40 := by
  cases r with
  | nil => simp [one] at h
  | cons c r => simp only [one] at h; (repeat' split at h) <;> simp at h <;> omega
theorem pre_err {acc : List Tok} {x : Except (Int × Nat) (List Tok)} {y : Int × Nat} (h : pre acc x = .error y) : x = .error y := by
  cases x with
  | error z => exact h
  | ok l => cases h
theorem pre_ok {acc L : List Tok} {x : Except (Int × Nat) (List Tok)} (h : pre acc x = .ok L) : ∃ M, x = .ok M ∧ L = acc ++ M := by
  cases x with
  | error z => cases h
  | ok l => simp only [pre, Except.ok.injEq] at h; exact ⟨l, rfl, h.symm⟩
theorem tk_err : ∀ (n : Nat) (r : List UInt8) (p : Nat) (e : Int) (a : Nat), r.length ≤ n → tk r p = .error (e, a) → (e = 4 ∨ e = 40) ∧ p ≤ a ∧ a ≤ p + r.length
  | n, r, p, e, a, hn, h => by
    rw [tk_eq] at h
    have hs := skp_le false r
    split at h
    · rename_i e' he
      simp only [Except.error.injEq, Prod.mk.injEq] at h
      obtain ⟨rfl, rfl⟩ := h
      exact ⟨one_err he, by omega, by omega⟩
    · rename_i t ht
      split at h
      · cases h
      · rename_i hk
        have h' := pre_err h
        rcases (one_ok ht).2 with ⟨_, h2⟩ | ⟨_, _, _, h1, h2, _⟩
        · rw [h2] at hk; exact absurd rfl hk
        · have hl := en_le (r.drop (skp false r))
          cases n with
          | zero =>
            simp only [List.length_drop] at hl
            omega
          | succ n =>
            have := tk_err n _ _ e a (by simp only [List.length_drop] at *; omega) h'
            simp only [List.length_drop] at *
            omega
theorem tk_cons {r : List UInt8} {p : Nat} {L : List Tok} (h : tk r p = .ok L) :
    (L = [⟨0, [], 0, ((p + r.length : Nat) : Int)⟩] ∧ skp false r = r.length) ∨
    (∃ t M, L = t :: M ∧ one (r.drop (skp false r)) (p + skp false r) = .ok t ∧ t.k ≠ 0 ∧ t.p = ((p + skp false r : Nat) : Int) ∧ t.s = (r.drop (skp false r)).take t.s.length ∧ 1 ≤ t.s.length ∧ skp false r + t.s.length ≤ r.length ∧ tk (r.drop (skp false r + t.s.length)) (p + skp false r + t.s.length) = .ok M) := by
  rw [tk_eq] at h
  have hs := skp_le false r
  split at h
  · cases h
  · rename_i t ht
    have h0 := one_ok ht
    split at h
    · rename_i hk
      left
      rcases h0.2 with ⟨h1, h2⟩ | ⟨h1, _⟩
      · have : r.length ≤ skp false r := by have := congrArg List.length h1; simp at this; omega
        have e : skp false r = r.length := by omega
        rw [e] at h2
        simp only [Except.ok.injEq] at h
        rw [h2] at h
        exact ⟨h.symm, e⟩
      · exact absurd hk h1
    · rename_i hk
      right
      obtain ⟨M, hM, rfl⟩ := pre_ok h
      rcases h0.2 with ⟨_, h2⟩ | ⟨_, _, h3, h4, h5, _⟩
      · rw [h2] at hk; exact absurd rfl hk
      · have hl := en_le (r.drop (skp false r))
        refine ⟨t, M, rfl, ht, hk, h0.1, by rw [h4]; exact h3, by omega, by simp only [List.length_drop] at hl; omega, ?_⟩
        rw [List.drop_drop] at hM
        exact hM
theorem T_err {l : List UInt8} {e : Int} {a : Nat} (h : T l = .error (e, a)) : (e = 4 ∨ e = 40) ∧ a ≤ l.length := by
  unfold T at h
  split at h
  · simp only [Except.error.injEq, Prod.mk.injEq] at h
    obtain ⟨rfl, rfl⟩ := h
    exact ⟨.inl rfl, by omega⟩
  · have := tk_err l.length l 0 e a (Nat.le_refl _) h
    exact ⟨this.1, by omega⟩
theorem T_ok {l : List UInt8} {L : List Tok} (h : T l = .ok L) : l.length ≤ 65536 ∧ tk l 0 = .ok L := by
  unfold T at h
  split at h
  · cases h
  · exact ⟨by omega, h⟩
/-- how many tokens there are -/
theorem tk_len : ∀ (n : Nat) (r : List UInt8) (p : Nat) (L : List Tok), r.length ≤ n → tk r p = .ok L → 1 ≤ L.length ∧ L.length ≤ r.length + 1
  | n, r, p, L, hn, h => by
    rcases tk_cons h with ⟨rfl, _⟩ | ⟨t, M, rfl, _, _, _, _, h5, h6, h7⟩
    · simp
    · cases n with
      | zero => omega
      | succ n =>
        have := tk_len n _ _ M (by rw [List.length_drop]; omega) h7
        rw [List.length_drop] at this
        simp only [List.length_cons]
        omega
theorem T_len {l : List UInt8} {L : List Tok} (h : T l = .ok L) : 1 ≤ L.length ∧ L.length ≤ l.length + 1 := tk_len l.length l 0 L (Nat.le_refl _) (T_ok h).2
/-- a text that is one token: it stands at the front -/
theorem T_one {l : List UInt8} {x y : Tok} (h : T l = .ok [x, y]) (hs : x.s = l) : x.p = 0 := by
  rcases tk_cons (T_ok h).2 with ⟨h1, _⟩ | ⟨t, M, h0, _, _, h3, _, _, h6, _⟩
  · simp at h1
  · simp only [List.cons.injEq] at h0
    obtain ⟨rfl, _⟩ := h0
    rw [h3, hs] at *
    omega
end Go.Proofs.YtmplckdpddmifaaGreatDoor
namespace Go.Proofs.YtmplckdpddmifaaGreatDoor
set_option linter.unusedVariables false
theorem skp_app1 (b : List UInt8) : ∀ (b0 : Bool) (r : List UInt8), skp b0 r = r.length → skp b0 (r ++ 10 :: b) = r.length + 1 + skp false b
  | true, [], h => by
    have : kd 10 = 2 := by decide
    simp [skp, this]
  | false, [], h => by
    have : kd 10 = 2 := by decide
    simp [skp, this]
  | true, c :: r, h => by
    simp only [skp, List.length_cons] at h
    have := skp_app1 b (decide (kd c.toNat ≠ 2)) r (by omega)
    simp only [List.cons_append, skp, List.length_cons]
    omega
  | false, c :: r, h => by
    simp only [skp, List.length_cons] at h
    simp only [List.cons_append, skp, List.length_cons]
    by_cases k3 : kd c.toNat = 3
    · rw [if_pos k3] at h ⊢
      have := skp_app1 b true r (by omega)
      omega
    · rw [if_neg k3] at h ⊢
      by_cases k12 : kd c.toNat = 1 ∨ kd c.toNat = 2
      · rw [if_pos k12] at h ⊢
        have := skp_app1 b false r (by omega)
        omega
      · rw [if_neg k12] at h; omega
theorem skp_app2 (x : List UInt8) : ∀ (b0 : Bool) (r : List UInt8), skp b0 r < r.length → skp b0 (r ++ x) = skp b0 r
  | b0, [], h => by cases b0 <;> simp at h
  | true, c :: r, h => by
    simp only [skp, List.length_cons] at h
    have := skp_app2 x (decide (kd c.toNat ≠ 2)) r (by omega)
    simp only [List.cons_append, skp]
    omega
  | false, c :: r, h => by
    simp only [skp, List.length_cons] at h
    simp only [List.cons_append, skp]
    by_cases k3 : kd c.toNat = 3
    · rw [if_pos k3] at h ⊢
      rw [if_pos k3]
      have := skp_app2 x true r (by omega)
      omega
    · rw [if_neg k3] at h ⊢
      rw [if_neg k3]
      by_cases k12 : kd c.toNat = 1 ∨ kd c.toNat = 2
      · rw [if_pos k12] at h ⊢
        rw [if_pos k12]
        have := skp_app2 x false r (by omega)
        omega
      · rw [if_neg k12, if_neg k12]
theorem tw_app (P : UInt8 → Bool) (y : UInt8) (hy : P y = false) (b : List UInt8) : ∀ s : List UInt8, tw P (s ++ y :: b) = tw P s
  | [] => by unfold tw; rw [List.nil_append, List.takeWhile_cons]; simp [hy]
  | c :: s => by
    have ih := tw_app P y hy b s
    unfold tw at *
    rw [List.cons_append, List.takeWhile_cons, List.takeWhile_cons]
    split
    · simp only [List.length_cons, ih]
    · rfl
/-- a byte that goes on with no token, behind one -/
theorem one_app {r : List UInt8} {p : Nat} {t : Tok} (y : UInt8) (hy : ¬ (kd y.toNat = 4 ∨ kd y.toNat = 5 ∨ kd y.toNat = 6)) (b : List UInt8) (h : one r p = .ok t) (hk : t.k ≠ 0) : one (r ++ y :: b) p = .ok t := by
  cases r with
  | nil => simp only [one, Except.ok.injEq] at h; rw [← h] at hk; exact absurd rfl hk
  | cons c r =>
    have hle := en_le (c :: r)
    simp only [one] at h
    have hg : kd c.toNat = 4 ∨ kd c.toNat = 5 ∨ kd c.toNat = 7 := by
      by_cases h4 : kd c.toNat = 4
      · exact .inl h4
      · rw [if_neg h4] at h
        by_cases h5 : kd c.toNat = 5
        · exact .inr (.inl h5)
        · rw [if_neg h5] at h
          by_cases h7 : kd c.toNat = 7
          · exact .inr (.inr h7)
          · rw [if_neg h7] at h; cases h
    have hf : goes c y = false := by
      unfold goes
      rw [Bool.eq_false_iff]
      intro h
      rw [on_iff] at h
      omega
    have e : en (c :: r ++ y :: b) = en (c :: r) := by
      show 1 + tw (goes c) (r ++ y :: b) = 1 + tw (goes c) r
      rw [tw_app _ _ hf]
    have e2 : (c :: r ++ y :: b).take (en (c :: r)) = (c :: r).take (en (c :: r)) := List.take_append_of_le_length hle
    rw [List.cons_append] at e e2 ⊢
    simp only [one, e, e2]
    exact h
theorem ten : ¬ (kd (10 : UInt8).toNat = 4 ∨ kd (10 : UInt8).toNat = 5 ∨ kd (10 : UInt8).toNat = 6) := by decide
theorem dropLast_cons (t : Tok) {M : List Tok} (h : M ≠ []) : (t :: M).dropLast = t :: M.dropLast := by
  cases M with
  | nil => exact absurd rfl h
  | cons a b => rfl
theorem tk_join (b : List UInt8) : ∀ (L : List Tok) (r : List UInt8) (p : Nat), tk r p = .ok L → tk (r ++ 10 :: b) p = pre L.dropLast (tk b (p + r.length + 1))
  | [], r, p, h => by
    have := (tk_len r.length r p [] (Nat.le_refl _) h).1
    simp at this
  | t :: M, r, p, h => by
    rcases tk_cons h with ⟨e, hs⟩ | ⟨t', M', e, h1, h2, h3, h4, h5, h6, h7⟩
    · simp only [List.cons.injEq] at e
      obtain ⟨rfl, rfl⟩ := e
      have e1 := skp_app1 b false r hs
      have e2 : ∀ k, (r ++ 10 :: b).drop (r.length + 1 + k) = b.drop k := fun k => by
        rw [List.drop_append, List.drop_of_length_le (by omega), List.nil_append, show r.length + 1 + k - r.length = k + 1 by omega, List.drop_succ_cons]
      show tk (r ++ 10 :: b) p = pre [] (tk b (p + r.length + 1))
      rw [pre_nil, tk_eq (r ++ 10 :: b), tk_eq b, e1, e2, show p + (r.length + 1 + skp false b) = p + r.length + 1 + skp false b by omega]
    · simp only [List.cons.injEq] at e
      obtain ⟨rfl, rfl⟩ := e
      have hM := (tk_len _ _ _ M (Nat.le_refl _) h7).1
      have hne : M ≠ [] := fun e => by rw [e] at hM; simp at hM
      have ih := tk_join b M _ _ h7
      rw [dropLast_cons t hne]
      have e1 : skp false (r ++ 10 :: b) = skp false r := skp_app2 _ false r (by omega)
      have e2 : (r ++ 10 :: b).drop (skp false r) = r.drop (skp false r) ++ 10 :: b := List.drop_append_of_le_length (by omega)
      have e3 : (r ++ 10 :: b).drop (skp false r + t.s.length) = r.drop (skp false r + t.s.length) ++ 10 :: b := List.drop_append_of_le_length (by omega)
      rw [tk_eq, e1, e2, one_app 10 ten b h1 h2]
      simp only [if_neg h2]
      rw [← e2, List.drop_drop, e3, ih, pre_pre]
      rw [List.length_drop, show p + skp false r + t.s.length + (r.length - (skp false r + t.s.length)) + 1 = p + r.length + 1 by omega]
      rfl
/-- a token later by some places -/
def sh (k : Nat) (t : Tok) : Tok := ⟨t.k, t.s, t.n, t.p + k⟩
theorem one_sh (r : List UInt8) (p k : Nat) : one r (p + k) = match one r p with
    | .ok t => .ok (sh k t)
    | .error e => .error e := by
  cases r with
  | nil => simp [one, sh]
  | cons c r =>
    simp only [one]
    by_cases h4 : kd c.toNat = 4
    · simp only [if_pos h4]
      split <;> simp [sh]
    · simp only [if_neg h4]
      by_cases h5 : kd c.toNat = 5
      · simp only [if_pos h5]
        split <;> simp [sh]
      · simp only [if_neg h5]
        by_cases h7 : kd c.toNat = 7
        · simp [if_pos h7, sh]
        · simp [if_neg h7]
theorem tk_sh (k : Nat) : ∀ (L : List Tok) (r : List UInt8) (p : Nat), tk r p = .ok L → tk r (p + k) = .ok (L.map (sh k))
  | [], r, p, h => by
    have := (tk_len r.length r p [] (Nat.le_refl _) h).1
    simp at this
  | t :: M, r, p, h => by
    have h0 := h
    rw [tk_eq] at h ⊢
    rw [show p + k + skp false r = p + skp false r + k by omega, one_sh]
    split at h
    · cases h
    · rename_i t' ht
      rw [ht]
      simp only
      by_cases hk : t'.k = 0
      · rw [if_pos hk] at h
        simp only [Except.ok.injEq, List.cons.injEq] at h
        obtain ⟨rfl, rfl⟩ := h
        rw [if_pos (show (sh k t').k = 0 from hk)]
        rfl
      · rw [if_neg hk] at h
        obtain ⟨M', hM, e⟩ := pre_ok h
        simp only [List.cons_append, List.nil_append, List.cons.injEq] at e
        obtain ⟨rfl, rfl⟩ := e
        rw [if_neg (show (sh k t).k ≠ 0 from hk)]
        have ih := tk_sh k M _ _ hM
        rw [show p + skp false r + k + (sh k t).s.length = p + skp false r + t.s.length + k by show _ + t.s.length = _; omega]
        show pre [sh k t] (tk ((r.drop (skp false r)).drop t.s.length) _) = _
        rw [ih]
        rfl
theorem T_join {a b : List UInt8} {L M : List Tok} (ha : T a = .ok L) (hb : T b = .ok M) (hl : a.length + b.length < 65536) : T (a ++ 10 :: b) = .ok (L.dropLast ++ M.map (sh (a.length + 1))) := by
  have h1 := (T_ok ha).2
  have h2 := tk_sh (a.length + 1) M b 0 (T_ok hb).2
  rw [show 0 + (a.length + 1) = 0 + a.length + 1 by omega] at h2
  unfold T
  rw [if_neg (by simp; omega), tk_join b L a 0 h1, h2]
  rfl
end Go.Proofs.YtmplckdpddmifaaGreatDoor
