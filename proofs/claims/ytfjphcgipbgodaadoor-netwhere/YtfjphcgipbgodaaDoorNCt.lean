/- The grammar's steps, turned round. No program is met here. -/
import Derived.Test.YtfjphcgipbgodaaDoorNPar
namespace Go.Proofs.YtfjphcgipbgodaaDoor
set_option linter.unusedVariables false
set_option linter.unusedSimpArgs false
theorem sq_inv {p : Sp} {ps : List Sp} {c : List D} {r : List Tok} {x : List D × List Tok} (h : sq (p :: ps) c r = .ok x) : ∃ c1 r1, p c r = .ok (c1, r1) ∧ sq ps c1 r1 = .ok x := by
  simp only [sq] at h
  cases hp : p c r with
  | error y => rw [hp] at h; cases h
  | ok q => obtain ⟨c1, r1⟩ := q; rw [hp] at h; exact ⟨c1, r1, rfl, h⟩
theorem sq_end {c : List D} {r : List Tok} {x : List D × List Tok} (h : sq [] c r = .ok x) : x = (c, r) := by simp [sq] at h; exact h.symm
theorem the_inv {s : List UInt8} {c : List D} {r : List Tok} {c' : List D} {r' : List Tok} (h : pThe s c r = .ok (c', r')) : c' = c ∧ ∃ t, r = t :: r' := by
  cases r with
  | nil => simp [pThe, bad] at h
  | cons t r => simp only [pThe] at h; split at h; (simp at h; exact ⟨h.1.symm, t, by rw [h.2]⟩); exact absurd h bad_ne
theorem name_inv {c : List D} {r : List Tok} {c' : List D} {r' : List Tok} (h : pName c r = .ok (c', r')) : ∃ t, c' = c ++ [dS t.s] ∧ ¬ t.s ∈ words ∧ r = t :: r' := by
  cases r with
  | nil => simp [pName, bad] at h
  | cons t r => simp only [pName] at h; split at h; (rename_i hk; simp at h; exact ⟨t, h.1.symm, hk.2, by rw [h.2]⟩); exact absurd h bad_ne
theorem num_inv {c : List D} {r : List Tok} {c' : List D} {r' : List Tok} (h : pNum c r = .ok (c', r')) : ∃ t, c' = c ++ [dI t.n] ∧ r = t :: r' := by
  cases r with
  | nil => simp [pNum, bad] at h
  | cons t r => simp only [pNum] at h; split at h; (simp at h; exact ⟨t, h.1.symm, by rw [h.2]⟩); exact absurd h bad_ne
theorem pos_inv {c : List D} {r : List Tok} {c' : List D} {r' : List Tok} (h : pPos c r = .ok (c', r')) : ∃ n, c' = c ++ [dI n] ∧ r = r' := by
  cases r with
  | nil => simp [pPos, bad] at h
  | cons t r => simp [pPos] at h; exact ⟨t.p, h.1.symm, h.2⟩
theorem end_inv {c : List D} {r : List Tok} {c' : List D} {r' : List Tok} (h : pEnd c r = .ok (c', r')) : c' = c := by
  cases r with
  | nil => simp [pEnd, bad] at h
  | cons t r => simp only [pEnd] at h; split at h; (simp at h; exact h.1.symm); exact absurd h bad_ne
theorem may_inv {s : List UInt8} {c : List D} {r : List Tok} {c' : List D} {r' : List Tok} (h : pMay s c r = .ok (c', r')) : ∃ b, c' = c ++ [dB b] := by
  cases r with
  | nil => simp [pMay, bad] at h
  | cons t r => simp only [pMay] at h; split at h <;> (simp at h; exact ⟨_, h.1.symm⟩)
theorem some_inv {c : List D} {r : List Tok} {c' : List D} {r' : List Tok} (h : pSome c r = .ok (c', r')) : c' = c ∧ ∀ e z, c ≠ [.row e z []] := by
  simp only [pSome] at h
  split at h
  · exact absurd h bad_ne
  · rename_i hne; simp at h; exact ⟨h.1.symm, fun e z he => hne e z he⟩
theorem frac_inv {c : List D} {r : List Tok} {c' : List D} {r' : List Tok} (h : pFrac c r = .ok (c', r')) : ∃ a b, c' = c ++ [dI a] ++ [dI b] := by
  obtain ⟨c1, r1, h1, h⟩ := sq_inv h
  obtain ⟨c2, r2, h2, h⟩ := sq_inv h
  obtain ⟨c3, r3, h3, h⟩ := sq_inv h
  have := sq_end h
  obtain ⟨t, rfl, _⟩ := num_inv h1
  obtain ⟨rfl, _⟩ := the_inv h2
  obtain ⟨u, rfl, _⟩ := num_inv h3
  simp at this
  exact ⟨t.n, u.n, by simp [this.1]⟩
theorem nmz_inv (most : Nat) : ∀ (f : Nat) (L : List (List D)) (r : List Tok) (L' : List (List D)) (r' : List Tok), L.length ≤ most → nmz most f L r = .ok (L', r') → 1 ≤ L'.length ∧ L'.length ≤ most
  | 0, _, _, _, _, _, h => by simp [nmz] at h
  | f + 1, L, r, L', r', hL, h => by
    simp only [nmz] at h
    split at h
    · cases h
    · rename_i d r1 h1
      split at h
      · split at h <;> cases h
      · rename_i hne
        split at h
        · rename_i r2 h2
          exact nmz_inv most f _ r2 _ _ (by simp; omega) h
        · rename_i r2 _ h2
          simp at h; rw [← h.1]; simp; omega
        · cases h
theorem names_inv {e most : Nat} {c : List D} {r : List Tok} {c' : List D} {r' : List Tok} (h : pNames e most c r = .ok (c', r')) : ∃ L, c' = c ++ [.row e 1 L] ∧ 1 ≤ L.length ∧ L.length ≤ most := by
  simp only [pNames] at h
  split at h
  · cases h
  · rename_i L r1 h1; simp at h; exact ⟨L, h.1.symm, nmz_inv most _ _ _ _ _ (Nat.zero_le _) h1⟩
theorem rwz_inv (word : List UInt8) (most : Nat) (body : List Tok → Rs) (Q : List D → Prop) (hQ : ∀ r d r', body r = .ok (d, r') → Q d) : ∀ (f : Nat) (L : List (List D)) (r : List Tok) (L' : List (List D)) (r' : List Tok), L.length ≤ most → (∀ d ∈ L, Q d) → rwz word most body f L r = .ok (L', r') → L'.length ≤ most ∧ ∀ d ∈ L', Q d
  | 0, _, _, _, _, _, _, h => by simp [rwz] at h
  | f + 1, L, [], L', r', _, _, h => by simp [rwz] at h
  | f + 1, L, t :: r, L', r', hL, hq, h => by
    simp only [rwz] at h
    split at h
    · split at h
      · cases h
      · rename_i hne
        split at h
        · cases h
        · rename_i d r1 h1
          refine rwz_inv word most body Q hQ f _ r1 _ _ (by simp; omega) (fun x hx => ?_) h
          rcases List.mem_append.1 hx with hx | hx
          · exact hq x hx
          · simp at hx; subst hx; exact hQ _ _ _ h1
    · simp at h; rw [← h.1]; exact ⟨hL, hq⟩
theorem row_inv {word : List UInt8} {most e z : Nat} {body : List Tok → Rs} {Q : List D → Prop} (hQ : ∀ r d r', body r = .ok (d, r') → Q d) {c : List D} {r : List Tok} {c' : List D} {r' : List Tok} (h : pRow word most e z body c r = .ok (c', r')) : ∃ L, c' = c ++ [.row e z L] ∧ L.length ≤ most ∧ ∀ d ∈ L, Q d := by
  simp only [pRow] at h
  split at h
  · cases h
  · rename_i L r1 h1; simp at h; exact ⟨L, h.1.symm, rwz_inv word most body Q hQ _ _ _ _ _ (Nat.zero_le _) (fun d hd => by cases hd) h1⟩
theorem rotd_inv {p : List Tok → Rs} {r : List Tok} {c : List D} {r' : List Tok} (h : rotd p r = .ok (c, r')) : ∃ c1, p r = .ok (c1, r') ∧ c = rot c1 := by
  simp only [rotd] at h
  cases hp : p r with
  | error x => rw [hp] at h; cases h
  | ok q => obtain ⟨c1, r1⟩ := q; rw [hp] at h; simp at h; exact ⟨c1, by rw [h.2], h.1.symm⟩
end Go.Proofs.YtfjphcgipbgodaaDoor
namespace Go.Proofs.YtfjphcgipbgodaaDoor
set_option linter.unusedVariables false
set_option linter.unusedSimpArgs false
/-- an end at a place -/
def Ed (e : Tok) (x : Int) : Prop := e.k = 0 ∧ e.s = [] ∧ e.p = x
/-- tokens that end as they should -/
def W (r : List Tok) : Prop := ∃ m e, r = m ++ [e] ∧ e.k = 0 ∧ e.s = []
theorem W.ne {r : List Tok} (h : W r) : r ≠ [] := by obtain ⟨m, e, rfl, _⟩ := h; simp
theorem W.tail {t : Tok} {r : List Tok} (h : W (t :: r)) (ht : t.k ≠ 0 ∨ t.s ≠ []) : W r := by
  obtain ⟨m, e, h1, h2, h3⟩ := h
  cases m with
  | nil => simp at h1; obtain ⟨rfl, _⟩ := h1; rcases ht with h | h; exact absurd h2 h; exact absurd h3 h
  | cons u m => simp at h1; exact ⟨m, e, h1.2, h2, h3⟩
/-- what went well goes as well where the text ends behind it -/
def OkC (p : Sp) : Prop := ∀ c r c1 s, W r → p c r = .ok (c1, s) → W s ∧ ∃ a, r = a ++ s ∧ ∀ a2 t b e, s = a2 ++ t :: b → Ed e t.p → p c (a ++ (a2 ++ [e])) = .ok (c1, a2 ++ [e])
/-- where another token was wanted, an end is as wrong -/
def CutC (p : Sp) : Prop := ∀ c r x, W r → p c r = .error (50, x) → ∃ a t b, r = a ++ t :: b ∧ t.p = x ∧ ∀ e, Ed e x → p c (a ++ [e]) = .error (50, x)
theorem okc_the {s : List UInt8} (hs : s ≠ []) : OkC (pThe s) := by
  intro c r c1 q hw h
  cases r with
  | nil => simp [pThe, bad] at h
  | cons t r =>
    simp only [pThe] at h
    split at h
    · rename_i ht; simp at h; obtain ⟨rfl, rfl⟩ := h; exact ⟨hw.tail (.inr (by rw [ht]; exact hs)), [t], rfl, fun a2 u b e _ _ => by simp [pThe, ht]⟩
    · exact absurd h bad_ne
theorem cut_the {s : List UInt8} (hs : s ≠ []) : CutC (pThe s) := by
  intro c r x hw h
  cases r with
  | nil => exact absurd rfl hw.ne
  | cons t r =>
    simp only [pThe, bad] at h
    split at h
    · cases h
    · simp at h; exact ⟨[], t, r, rfl, h, fun e he => by simp [pThe, bad, he.2.1, Ne.symm hs, he.2.2]⟩
theorem okc_name : OkC pName := by
  intro c r c1 q hw h
  cases r with
  | nil => simp [pName, bad] at h
  | cons t r =>
    simp only [pName] at h
    split at h
    · rename_i ht; simp at h; obtain ⟨rfl, rfl⟩ := h; exact ⟨hw.tail (.inl (by rw [ht.1]; decide)), [t], rfl, fun a2 u b e _ _ => by simp [pName, ht]⟩
    · exact absurd h bad_ne
theorem cut_name : CutC pName := by
  intro c r x hw h
  cases r with
  | nil => exact absurd rfl hw.ne
  | cons t r =>
    simp only [pName, bad] at h
    split at h
    · cases h
    · simp at h; exact ⟨[], t, r, rfl, h, fun e he => by simp [pName, bad, he.1, he.2.2]⟩
theorem okc_num : OkC pNum := by
  intro c r c1 q hw h
  cases r with
  | nil => simp [pNum, bad] at h
  | cons t r =>
    simp only [pNum] at h
    split at h
    · rename_i ht; simp at h; obtain ⟨rfl, rfl⟩ := h; exact ⟨hw.tail (.inl (by rw [ht]; decide)), [t], rfl, fun a2 u b e _ _ => by simp [pNum, ht]⟩
    · exact absurd h bad_ne
theorem cut_num : CutC pNum := by
  intro c r x hw h
  cases r with
  | nil => exact absurd rfl hw.ne
  | cons t r =>
    simp only [pNum, bad] at h
    split at h
    · cases h
    · simp at h; exact ⟨[], t, r, rfl, h, fun e he => by simp [pNum, bad, he.1, he.2.2]⟩
theorem okc_pos : OkC pPos := by
  intro c r c1 q hw h
  cases r with
  | nil => simp [pPos, bad] at h
  | cons t r =>
    simp [pPos] at h
    obtain ⟨rfl, rfl⟩ := h
    refine ⟨hw, [], rfl, fun a2 u b e h he => ?_⟩
    cases a2 with
    | nil => simp at h; obtain ⟨rfl, rfl⟩ := h; simp [pPos, he.2.2]
    | cons v a2 => simp at h; obtain ⟨rfl, _⟩ := h; simp [pPos]
theorem cut_pos : CutC pPos := by
  intro c r x hw h
  cases r with
  | nil => exact absurd rfl hw.ne
  | cons t r => simp [pPos] at h
theorem okc_may {s : List UInt8} (hs : s ≠ []) : OkC (pMay s) := by
  intro c r c1 q hw h
  cases r with
  | nil => simp [pMay, bad] at h
  | cons t r =>
    simp only [pMay] at h
    split at h
    · rename_i ht; simp at h; obtain ⟨rfl, rfl⟩ := h; exact ⟨hw.tail (.inr (by rw [ht]; exact hs)), [t], rfl, fun a2 u b e _ _ => by simp [pMay, ht]⟩
    · rename_i ht
      simp at h
      obtain ⟨rfl, rfl⟩ := h
      refine ⟨hw, [], rfl, fun a2 u b e h he => ?_⟩
      cases a2 with
      | nil => simp [pMay, he.2.1, Ne.symm hs]
      | cons v a2 => simp at h; obtain ⟨rfl, _⟩ := h; simp [pMay, ht]
theorem cut_may {s : List UInt8} : CutC (pMay s) := by
  intro c r x hw h
  cases r with
  | nil => exact absurd rfl hw.ne
  | cons t r => simp only [pMay] at h; split at h <;> cases h
theorem okc_some : OkC pSome := by
  intro c r c1 q hw h
  have h' := h
  simp only [pSome] at h
  split at h
  · exact absurd h bad_ne
  · rename_i hne
    simp at h
    obtain ⟨rfl, rfl⟩ := h
    refine ⟨hw, [], rfl, fun a2 u b e h he => ?_⟩
    simp [pSome]
theorem okc_nil : OkC (sq []) := by
  intro c r c1 q hw h
  simp [sq] at h
  obtain ⟨rfl, rfl⟩ := h
  exact ⟨hw, [], rfl, fun a2 u b e h he => by simp [sq]⟩
theorem okc_cons {p : Sp} {ps : List Sp} (hp : OkC p) (h2 : OkC (sq ps)) : OkC (sq (p :: ps)) := by
  intro c r c1 q hw h
  obtain ⟨c2, r2, k1, k2⟩ := sq_inv h
  obtain ⟨w1, a, rfl, e1⟩ := hp _ _ _ _ hw k1
  obtain ⟨w2, a', rfl, e2⟩ := h2 _ _ _ _ w1 k2
  refine ⟨w2, a ++ a', by simp, fun a2 t b e hq he => ?_⟩
  have f1 := e1 (a' ++ a2) t b e (by rw [hq]; simp) he
  have f2 := e2 a2 t b e hq he
  rw [List.append_assoc] at f1
  rw [List.append_assoc]
  simp only [sq, f1, f2]
theorem cut_nil : CutC (sq []) := by
  intro c r x hw h
  simp [sq] at h
theorem cut_cons {p : Sp} {ps : List Sp} (hp : OkC p) (hc : CutC p) (h2 : CutC (sq ps)) : CutC (sq (p :: ps)) := by
  intro c r x hw h
  cases hq : p c r with
  | error y =>
    simp only [sq, hq] at h
    injection h with h
    subst h
    obtain ⟨a, t, b, e1, e2, e3⟩ := hc _ _ _ hw hq
    exact ⟨a, t, b, e1, e2, fun e he => by simp only [sq, e3 e he]⟩
  | ok z =>
    obtain ⟨c2, r2⟩ := z
    simp only [sq, hq] at h
    obtain ⟨w1, a, rfl, e1⟩ := hp _ _ _ _ hw hq
    obtain ⟨a', t, b, rfl, e2, e3⟩ := h2 _ _ _ w1 h
    refine ⟨a ++ a', t, b, by simp, e2, fun e he => ?_⟩
    have f1 := e1 a' t b e rfl (e2 ▸ he)
    rw [List.append_assoc]
    simp only [sq, f1, e3 e he]
theorem cut_some : CutC pSome := by
  intro c r x hw h
  cases r with
  | nil => exact absurd rfl hw.ne
  | cons t r =>
    have h' := h
    simp only [pSome] at h
    split at h
    · simp [bad] at h; exact ⟨[], t, r, rfl, h, fun e he => by simp [pSome, bad, he.2.2]⟩
    · cases h
/-- both, of a thing -/
def Ok1 (p : List Tok → Rs) : Prop := ∀ r c1 s, W r → p r = .ok (c1, s) → W s ∧ ∃ a, r = a ++ s ∧ ∀ a2 t b e, s = a2 ++ t :: b → Ed e t.p → p (a ++ (a2 ++ [e])) = .ok (c1, a2 ++ [e])
def Cut1 (p : List Tok → Rs) : Prop := ∀ r x, W r → p r = .error (50, x) → ∃ a t b, r = a ++ t :: b ∧ t.p = x ∧ ∀ e, Ed e x → p (a ++ [e]) = .error (50, x)
theorem ok1_of {p : Sp} (h : OkC p) : Ok1 (p []) := fun r c1 s hw e => h [] r c1 s hw e
theorem cut1_of {p : Sp} (h : CutC p) : Cut1 (p []) := fun r x hw e => h [] r x hw e
theorem ok1_rotd {p : List Tok → Rs} (h : Ok1 p) : Ok1 (rotd p) := by
  intro r c1 s hw e
  obtain ⟨c0, e0, rfl⟩ := rotd_inv e
  obtain ⟨w1, a, rfl, e1⟩ := h _ _ _ hw e0
  exact ⟨w1, a, rfl, fun a2 t b e hq he => by simp only [rotd, e1 a2 t b e hq he]⟩
theorem cut1_rotd {p : List Tok → Rs} (h : Cut1 p) : Cut1 (rotd p) := by
  intro r x hw e
  simp only [rotd] at e
  cases hq : p r with
  | error y =>
    rw [hq] at e; injection e with e; subst e
    obtain ⟨a, t, b, e1, e2, e3⟩ := h _ _ hw hq
    exact ⟨a, t, b, e1, e2, fun e he => by simp only [rotd, e3 e he]⟩
  | ok q => obtain ⟨c, r1⟩ := q; rw [hq] at e; cases e
/-- rows -/
theorem ok_rw (word : List UInt8) (hword : word ≠ []) (most : Nat) (body : List Tok → Rs) (hm : Mon body) (hb : Ok1 body) : ∀ (n : Nat) (L : List (List D)) (r : List Tok) (L' : List (List D)) (s : List Tok), r.length ≤ n → W r → rw_ word most body L r = .ok (L', s) → W s ∧ ∃ a, r = a ++ s ∧ ∀ a2 t b e, s = a2 ++ t :: b → Ed e t.p → rw_ word most body L (a ++ (a2 ++ [e])) = .ok (L', a2 ++ [e])
  | n, L, [], L', s, _, hw, _ => absurd rfl hw.ne
  | n, L, t :: r, L', s, hn, hw, h => by
    have h0 := h
    rw [rw_cons _ _ _ hm] at h
    by_cases ht : t.s = word
    · rw [if_pos ht] at h
      by_cases hl : L.length = most
      · rw [if_pos hl] at h; cases h
      · rw [if_neg hl] at h
        cases hq : body r with
        | error y => rw [hq] at h; cases h
        | ok z =>
          obtain ⟨d, r'⟩ := z
          rw [hq] at h
          obtain ⟨w1, a, rfl, e1⟩ := hb _ _ _ (hw.tail (.inr (by rw [ht]; exact hword))) hq
          have hlen := hm _ _ _ hq
          cases n with
          | zero => simp at hn
          | succ n =>
            obtain ⟨w2, a', rfl, e2⟩ := ok_rw word hword most body hm hb n _ r' L' s (by simp at hn hlen; omega) w1 h
            refine ⟨w2, t :: (a ++ a'), by simp, fun a2 u b e hs he => ?_⟩
            have f1 := e1 (a' ++ a2) u b e (by rw [hs]; simp) he
            have f2 := e2 a2 u b e hs he
            rw [List.append_assoc] at f1
            rw [List.cons_append, rw_cons _ _ _ hm, if_pos ht, if_neg hl, List.append_assoc, f1]
            exact f2
    · rw [if_neg ht] at h
      simp at h
      obtain ⟨rfl, rfl⟩ := h
      refine ⟨hw, [], rfl, fun a2 u b e hs he => ?_⟩
      cases a2 with
      | nil => rw [List.nil_append, List.nil_append, rw_cons _ _ _ hm, if_neg (by rw [he.2.1]; exact fun x => hword x.symm)]
      | cons v a2 => simp at hs; obtain ⟨rfl, _⟩ := hs; rw [List.nil_append, List.cons_append, rw_cons _ _ _ hm, if_neg ht]
theorem cut_rw (word : List UInt8) (hword : word ≠ []) (most : Nat) (body : List Tok → Rs) (hm : Mon body) (hb : Ok1 body) (hc : Cut1 body) : ∀ (n : Nat) (L : List (List D)) (r : List Tok) (x : Int), r.length ≤ n → W r → rw_ word most body L r = .error (50, x) → ∃ a t b, r = a ++ t :: b ∧ t.p = x ∧ ∀ e, Ed e x → rw_ word most body L (a ++ [e]) = .error (50, x)
  | n, L, [], x, _, hw, _ => absurd rfl hw.ne
  | n, L, t :: r, x, hn, hw, h => by
    rw [rw_cons _ _ _ hm] at h
    by_cases ht : t.s = word
    · rw [if_pos ht] at h
      by_cases hl : L.length = most
      · rw [if_pos hl] at h; simp at h
      · rw [if_neg hl] at h
        cases hq : body r with
        | error y =>
          rw [hq] at h; injection h with h; subst h
          obtain ⟨a, u, b, rfl, e2, e3⟩ := hc _ _ (hw.tail (.inr (by rw [ht]; exact hword))) hq
          exact ⟨t :: a, u, b, rfl, e2, fun e he => by rw [List.cons_append, rw_cons _ _ _ hm, if_pos ht, if_neg hl, e3 e he]⟩
        | ok z =>
          obtain ⟨d, r'⟩ := z
          rw [hq] at h
          obtain ⟨w1, a, rfl, e1⟩ := hb _ _ _ (hw.tail (.inr (by rw [ht]; exact hword))) hq
          have hlen := hm _ _ _ hq
          cases n with
          | zero => simp at hn
          | succ n =>
            obtain ⟨a', u, b, rfl, e2, e3⟩ := cut_rw word hword most body hm hb hc n _ r' x (by simp at hn hlen; omega) w1 h
            refine ⟨t :: (a ++ a'), u, b, by simp, e2, fun e he => ?_⟩
            have f1 := e1 a' u b e rfl (e2 ▸ he)
            rw [List.cons_append, rw_cons _ _ _ hm, if_pos ht, if_neg hl, List.append_assoc, f1]
            exact e3 e he
    · rw [if_neg ht] at h; cases h
theorem okc_row {word : List UInt8} (hword : word ≠ []) {most e z : Nat} {body : List Tok → Rs} (hm : Mon body) (hb : Ok1 body) : OkC (pRow word most e z body) := by
  intro c r c1 s hw h
  simp only [pRow] at h
  cases hq : rw_ word most body [] r with
  | error y => rw [show rwz word most body (r.length + 1) [] r = _ from hq] at h; cases h
  | ok q =>
    obtain ⟨L, s'⟩ := q
    rw [show rwz word most body (r.length + 1) [] r = _ from hq] at h
    simp at h
    obtain ⟨rfl, rfl⟩ := h
    obtain ⟨w1, a, e0, e1⟩ := ok_rw word hword most body hm hb _ _ _ _ _ (Nat.le_refl _) hw hq
    refine ⟨w1, a, e0, fun a2 t b e hs he => ?_⟩
    have := e1 a2 t b e hs he
    simp only [pRow]
    rw [show rwz word most body ((a ++ (a2 ++ [e])).length + 1) [] (a ++ (a2 ++ [e])) = _ from this]
theorem cut_row {word : List UInt8} (hword : word ≠ []) {most e z : Nat} {body : List Tok → Rs} (hm : Mon body) (hb : Ok1 body) (hc : Cut1 body) : CutC (pRow word most e z body) := by
  intro c r x hw h
  simp only [pRow] at h
  cases hq : rw_ word most body [] r with
  | error y =>
    rw [show rwz word most body (r.length + 1) [] r = _ from hq] at h
    injection h with h
    subst h
    obtain ⟨a, t, b, e1, e2, e3⟩ := cut_rw word hword most body hm hb hc _ _ _ _ (Nat.le_refl _) hw hq
    refine ⟨a, t, b, e1, e2, fun e he => ?_⟩
    have := e3 e he
    simp only [pRow]
    rw [show rwz word most body ((a ++ [e]).length + 1) [] (a ++ [e]) = _ from this]
  | ok q => obtain ⟨L, s'⟩ := q; rw [show rwz word most body (r.length + 1) [] r = _ from hq] at h; cases h
end Go.Proofs.YtfjphcgipbgodaaDoor
namespace Go.Proofs.YtfjphcgipbgodaaDoor
set_option linter.unusedVariables false
set_option linter.unusedSimpArgs false
theorem ok_nm (most : Nat) : ∀ (n : Nat) (L : List (List D)) (r : List Tok) (L' : List (List D)) (s : List Tok), r.length ≤ n → W r → nm most L r = .ok (L', s) → W s ∧ ∃ a, r = a ++ s ∧ ∀ a2 t b e, s = a2 ++ t :: b → Ed e t.p → nm most L (a ++ (a2 ++ [e])) = .ok (L', a2 ++ [e])
  | n, L, [], L', s, _, hw, _ => absurd rfl hw.ne
  | n, L, t :: r, L', s, hn, hw, h => by
    rw [nm_cons] at h
    by_cases ht : t.k = 1 ∧ ¬ t.s ∈ words
    · rw [if_pos ht] at h
      by_cases hl : L.length = most
      · rw [if_pos hl] at h; cases h
      · rw [if_neg hl] at h
        have w1 := hw.tail (.inl (by rw [ht.1]; decide))
        cases r with
        | nil => exact absurd rfl w1.ne
        | cons u r2 =>
          simp only at h
          by_cases hu : u.s = [44]
          · rw [if_pos hu] at h
            have w2 := w1.tail (.inr (by rw [hu]; simp))
            cases n with
            | zero => simp at hn
            | succ n =>
              obtain ⟨w3, a, rfl, e1⟩ := ok_nm most n _ r2 L' s (by simp at hn; omega) w2 h
              refine ⟨w3, t :: u :: a, by simp, fun a2 v b e hs he => ?_⟩
              have f1 := e1 a2 v b e hs he
              rw [List.cons_append, nm_cons, if_pos ht, if_neg hl, List.cons_append]
              simp only [if_pos hu]
              exact f1
          · rw [if_neg hu] at h
            simp at h
            obtain ⟨rfl, rfl⟩ := h
            refine ⟨w1, [t], rfl, fun a2 v b e hs he => ?_⟩
            rw [List.cons_append, nm_cons, if_pos ht, if_neg hl]
            cases a2 with
            | nil => simp [he.2.1]
            | cons q a2 => simp at hs; obtain ⟨rfl, _⟩ := hs; simp [hu]
    · rw [if_neg ht] at h; cases h
theorem cut_nm (most : Nat) : ∀ (n : Nat) (L : List (List D)) (r : List Tok) (x : Int), r.length ≤ n → W r → nm most L r = .error (50, x) → ∃ a t b, r = a ++ t :: b ∧ t.p = x ∧ ∀ e, Ed e x → nm most L (a ++ [e]) = .error (50, x)
  | n, L, [], x, _, hw, _ => absurd rfl hw.ne
  | n, L, t :: r, x, hn, hw, h => by
    rw [nm_cons] at h
    by_cases ht : t.k = 1 ∧ ¬ t.s ∈ words
    · rw [if_pos ht] at h
      by_cases hl : L.length = most
      · rw [if_pos hl] at h; simp at h
      · rw [if_neg hl] at h
        have w1 := hw.tail (.inl (by rw [ht.1]; decide))
        cases r with
        | nil => exact absurd rfl w1.ne
        | cons u r2 =>
          simp only at h
          by_cases hu : u.s = [44]
          · rw [if_pos hu] at h
            have w2 := w1.tail (.inr (by rw [hu]; simp))
            cases n with
            | zero => simp at hn
            | succ n =>
              obtain ⟨a, v, b, rfl, e2, e3⟩ := cut_nm most n _ r2 x (by simp at hn; omega) w2 h
              refine ⟨t :: u :: a, v, b, rfl, e2, fun e he => ?_⟩
              rw [List.cons_append, nm_cons, if_pos ht, if_neg hl, List.cons_append]
              simp only [if_pos hu]
              exact e3 e he
          · rw [if_neg hu] at h; cases h
    · rw [if_neg ht] at h
      simp at h
      exact ⟨[], t, r, rfl, h, fun e he => by rw [List.nil_append, nm_cons, if_neg (by rw [he.1]; simp), he.2.2]⟩
theorem okc_names (e most : Nat) : OkC (pNames e most) := by
  intro c r c1 s hw h
  simp only [pNames] at h
  cases hq : nm most [] r with
  | error y => rw [show nmz most (r.length + 1) [] r = _ from hq] at h; cases h
  | ok q =>
    obtain ⟨L, s'⟩ := q
    rw [show nmz most (r.length + 1) [] r = _ from hq] at h
    simp at h
    obtain ⟨rfl, rfl⟩ := h
    obtain ⟨w1, a, e0, e1⟩ := ok_nm most _ _ _ _ _ (Nat.le_refl _) hw hq
    refine ⟨w1, a, e0, fun a2 t b e hs he => ?_⟩
    have := e1 a2 t b e hs he
    simp only [pNames]
    rw [show nmz most ((a ++ (a2 ++ [e])).length + 1) [] (a ++ (a2 ++ [e])) = _ from this]
theorem cut_names (e most : Nat) : CutC (pNames e most) := by
  intro c r x hw h
  simp only [pNames] at h
  cases hq : nm most [] r with
  | error y =>
    rw [show nmz most (r.length + 1) [] r = _ from hq] at h
    injection h with h
    subst h
    obtain ⟨a, t, b, e1, e2, e3⟩ := cut_nm most _ _ _ _ (Nat.le_refl _) hw hq
    refine ⟨a, t, b, e1, e2, fun e he => ?_⟩
    have := e3 e he
    simp only [pNames]
    rw [show nmz most ((a ++ [e]).length + 1) [] (a ++ [e]) = _ from this]
  | ok q => obtain ⟨L, s'⟩ := q; rw [show nmz most (r.length + 1) [] r = _ from hq] at h; cases h
/-- what the grade's two steps come to -/
theorem grade_by (c : List D) (r : List Tok) : pGrade c r = match sq [pMay [45], pNum] [] r with
    | .error x => .error x
    | .ok ([.val (.bool b), .val (.int .i64 n)], r') => .ok (c ++ [dI (if b then -n else n)], r')
    | .ok _ => .error (0, 0) := rfl
theorem okc_two : OkC (sq [pMay [45], pNum]) := okc_cons (okc_may (by decide)) (okc_cons okc_num okc_nil)
theorem cut_two : CutC (sq [pMay [45], pNum]) := cut_cons (okc_may (by decide)) cut_may (cut_cons okc_num cut_num cut_nil)
theorem okc_grade : OkC pGrade := by
  intro c r c1 s hw h
  rw [grade_by] at h
  cases hq : sq [pMay [45], pNum] [] r with
  | error y => rw [hq] at h; cases h
  | ok q =>
    obtain ⟨c2, s'⟩ := q
    rw [hq] at h
    obtain ⟨w1, a, e0, e1⟩ := okc_two _ _ _ _ hw hq
    have hs : s' = s := by
      revert h
      split
      · intro h; cases h
      · rename_i e2; injection e2 with e2; injection e2 with _ e2; intro h; simp at h; rw [e2]; exact h.2
      · intro h; cases h
    subst hs
    refine ⟨w1, a, e0, fun a2 t b e hq2 he => ?_⟩
    rw [grade_by, e1 a2 t b e hq2 he]
    revert h
    split
    · rename_i e2; cases e2
    · rename_i e2; injection e2 with e2; injection e2 with e3 e2; subst e3; intro h; simp at h; simp [h.1]
    · intro h; cases h
theorem cut_grade : CutC pGrade := by
  intro c r x hw h
  rw [grade_by] at h
  cases hq : sq [pMay [45], pNum] [] r with
  | error y =>
    rw [hq] at h
    injection h with h
    subst h
    obtain ⟨a, t, b, e1, e2, e3⟩ := cut_two _ _ _ hw hq
    exact ⟨a, t, b, e1, e2, fun e he => by rw [grade_by, e3 e he]⟩
  | ok q =>
    obtain ⟨c2, s'⟩ := q
    rw [hq] at h
    revert h
    split
    · rename_i e2; cases e2
    · intro h; cases h
    · intro h; simp at h
end Go.Proofs.YtfjphcgipbgodaaDoor
namespace Go.Proofs.YtfjphcgipbgodaaDoor
set_option linter.unusedVariables false
set_option linter.unusedSimpArgs false
theorem okc_frac : OkC pFrac := okc_cons okc_num (okc_cons (okc_the (by decide)) (okc_cons okc_num okc_nil))
theorem cut_frac : CutC pFrac := cut_cons okc_num cut_num (cut_cons (okc_the (by decide)) (cut_the (by decide)) (cut_cons okc_num cut_num cut_nil))
theorem ok_foe1 : Ok1 pFoe := ok1_rotd (ok1_of (by repeat (first | exact okc_nil | (refine okc_cons ?_ ?_; first | exact okc_pos | exact okc_name | exact okc_num | exact okc_the (by decide) | exact okc_frac | exact okc_grade | exact okc_may (by decide) | exact okc_names _ _ | exact okc_some))))
theorem cut_foe1 : Cut1 pFoe := cut1_rotd (cut1_of (by repeat (first | exact cut_nil | (refine cut_cons ?_ ?_ ?_; (first | exact okc_pos | exact okc_name | exact okc_num | exact okc_the (by decide) | exact okc_frac | exact okc_grade | exact okc_may (by decide) | exact okc_names _ _ | exact okc_some); (first | exact cut_pos | exact cut_name | exact cut_num | exact cut_the (by decide) | exact cut_frac | exact cut_grade | exact cut_may | exact cut_names _ _ | exact cut_some)))))
theorem ok_walk1 : Ok1 pWalk := ok1_rotd (ok1_of (by repeat (first | exact okc_nil | (refine okc_cons ?_ ?_; first | exact okc_pos | exact okc_name | exact okc_num | exact okc_the (by decide) | exact okc_frac | exact okc_grade | exact okc_may (by decide) | exact okc_names _ _ | exact okc_some))))
theorem cut_walk1 : Cut1 pWalk := cut1_rotd (cut1_of (by repeat (first | exact cut_nil | (refine cut_cons ?_ ?_ ?_; (first | exact okc_pos | exact okc_name | exact okc_num | exact okc_the (by decide) | exact okc_frac | exact okc_grade | exact okc_may (by decide) | exact okc_names _ _ | exact okc_some); (first | exact cut_pos | exact cut_name | exact cut_num | exact cut_the (by decide) | exact cut_frac | exact cut_grade | exact cut_may | exact cut_names _ _ | exact cut_some)))))
theorem ok_stop1 : Ok1 pStop := ok1_rotd (ok1_of (by repeat (first | exact okc_nil | (refine okc_cons ?_ ?_; first | exact okc_pos | exact okc_name | exact okc_num | exact okc_the (by decide) | exact okc_frac | exact okc_grade | exact okc_may (by decide) | exact okc_names _ _ | exact okc_some))))
theorem cut_stop1 : Cut1 pStop := cut1_rotd (cut1_of (by repeat (first | exact cut_nil | (refine cut_cons ?_ ?_ ?_; (first | exact okc_pos | exact okc_name | exact okc_num | exact okc_the (by decide) | exact okc_frac | exact okc_grade | exact okc_may (by decide) | exact okc_names _ _ | exact okc_some); (first | exact cut_pos | exact cut_name | exact cut_num | exact cut_the (by decide) | exact cut_frac | exact cut_grade | exact cut_may | exact cut_names _ _ | exact cut_some)))))
theorem ok_head1 : Ok1 pHead := ok1_rotd (ok1_of (by repeat (first | exact okc_nil | (refine okc_cons ?_ ?_; first | exact okc_pos | exact okc_name | exact okc_num | exact okc_the (by decide) | exact okc_frac | exact okc_grade | exact okc_may (by decide) | exact okc_names _ _ | exact okc_some))))
theorem cut_head1 : Cut1 pHead := cut1_rotd (cut1_of (by repeat (first | exact cut_nil | (refine cut_cons ?_ ?_ ?_; (first | exact okc_pos | exact okc_name | exact okc_num | exact okc_the (by decide) | exact okc_frac | exact okc_grade | exact okc_may (by decide) | exact okc_names _ _ | exact okc_some); (first | exact cut_pos | exact cut_name | exact cut_num | exact cut_the (by decide) | exact cut_frac | exact cut_grade | exact cut_may | exact cut_names _ _ | exact cut_some)))))
theorem ok_phase1 : Ok1 pPhase := ok1_rotd (ok1_of (by repeat (first | exact okc_nil | (refine okc_cons ?_ ?_; first | exact okc_pos | exact okc_name | exact okc_num | exact okc_the (by decide) | exact okc_frac | exact okc_grade | exact okc_may (by decide) | exact okc_names _ _ | exact okc_some))))
theorem cut_phase1 : Cut1 pPhase := cut1_rotd (cut1_of (by repeat (first | exact cut_nil | (refine cut_cons ?_ ?_ ?_; (first | exact okc_pos | exact okc_name | exact okc_num | exact okc_the (by decide) | exact okc_frac | exact okc_grade | exact okc_may (by decide) | exact okc_names _ _ | exact okc_some); (first | exact cut_pos | exact cut_name | exact cut_num | exact cut_the (by decide) | exact cut_frac | exact cut_grade | exact cut_may | exact cut_names _ _ | exact cut_some)))))
theorem ok_ring1 : Ok1 pRing := ok1_of (by repeat (first | exact okc_nil | (refine okc_cons ?_ ?_; first | exact okc_pos | exact okc_name | exact okc_num | exact okc_the (by decide) | exact okc_frac | exact okc_grade | exact okc_may (by decide) | exact okc_names _ _ | exact okc_some)))
theorem cut_ring1 : Cut1 pRing := cut1_of (by repeat (first | exact cut_nil | (refine cut_cons ?_ ?_ ?_; (first | exact okc_pos | exact okc_name | exact okc_num | exact okc_the (by decide) | exact okc_frac | exact okc_grade | exact okc_may (by decide) | exact okc_names _ _ | exact okc_some); (first | exact cut_pos | exact cut_name | exact cut_num | exact cut_the (by decide) | exact cut_frac | exact cut_grade | exact cut_may | exact cut_names _ _ | exact cut_some))))
theorem ok_group1 : Ok1 pGroup := ok1_of (by repeat (first | exact okc_nil | (refine okc_cons ?_ ?_; first | exact okc_pos | exact okc_name | exact okc_num | exact okc_the (by decide) | exact okc_frac | exact okc_grade | exact okc_may (by decide) | exact okc_names _ _ | exact okc_some | exact okc_row (by decide) mon_ring ok_ring1)))
theorem cut_group1 : Cut1 pGroup := cut1_of (by repeat (first | exact cut_nil | (refine cut_cons ?_ ?_ ?_; (first | exact okc_pos | exact okc_name | exact okc_num | exact okc_the (by decide) | exact okc_frac | exact okc_grade | exact okc_may (by decide) | exact okc_names _ _ | exact okc_some | exact okc_row (by decide) mon_ring ok_ring1); (first | exact cut_pos | exact cut_name | exact cut_num | exact cut_the (by decide) | exact cut_frac | exact cut_grade | exact cut_may | exact cut_names _ _ | exact cut_some | exact cut_row (by decide) mon_ring ok_ring1 cut_ring1))))
theorem ok_node1 : Ok1 pNode := ok1_rotd (ok1_of (by repeat (first | exact okc_nil | (refine okc_cons ?_ ?_; first | exact okc_pos | exact okc_name | exact okc_num | exact okc_the (by decide) | exact okc_frac | exact okc_grade | exact okc_may (by decide) | exact okc_names _ _ | exact okc_some | exact okc_row (by decide) mon_head ok_head1 | exact okc_row (by decide) mon_walk ok_walk1 | exact okc_row (by decide) mon_phase ok_phase1 | exact okc_row (by decide) mon_group ok_group1 | exact okc_row (by decide) mon_foe ok_foe1))))
theorem cut_node1 : Cut1 pNode := cut1_rotd (cut1_of (by repeat (first | exact cut_nil | (refine cut_cons ?_ ?_ ?_; (first | exact okc_pos | exact okc_name | exact okc_num | exact okc_the (by decide) | exact okc_frac | exact okc_grade | exact okc_may (by decide) | exact okc_names _ _ | exact okc_some | exact okc_row (by decide) mon_head ok_head1 | exact okc_row (by decide) mon_walk ok_walk1 | exact okc_row (by decide) mon_phase ok_phase1 | exact okc_row (by decide) mon_group ok_group1 | exact okc_row (by decide) mon_foe ok_foe1); (first | exact cut_pos | exact cut_name | exact cut_num | exact cut_the (by decide) | exact cut_frac | exact cut_grade | exact cut_may | exact cut_names _ _ | exact cut_some | exact cut_row (by decide) mon_head ok_head1 cut_head1 | exact cut_row (by decide) mon_walk ok_walk1 cut_walk1 | exact cut_row (by decide) mon_phase ok_phase1 cut_phase1 | exact cut_row (by decide) mon_group ok_group1 cut_group1 | exact cut_row (by decide) mon_foe ok_foe1 cut_foe1)))))
/-- the artery behind its word -/
def artIn : List Sp := [pThe [123], pRow [115, 116, 111, 112] 12 92 6 pStop, pThe [119, 101, 105, 103, 104, 116, 115], pNum, pNum, pThe [59], pThe [125]]
theorem okc_artIn : OkC (sq artIn) := (by repeat (first | exact okc_nil | (refine okc_cons ?_ ?_; first | exact okc_pos | exact okc_name | exact okc_num | exact okc_the (by decide) | exact okc_frac | exact okc_grade | exact okc_may (by decide) | exact okc_names _ _ | exact okc_some | exact okc_row (by decide) mon_stop ok_stop1)))
theorem cut_artIn : CutC (sq artIn) := (by repeat (first | exact cut_nil | (refine cut_cons ?_ ?_ ?_; (first | exact okc_pos | exact okc_name | exact okc_num | exact okc_the (by decide) | exact okc_frac | exact okc_grade | exact okc_may (by decide) | exact okc_names _ _ | exact okc_some | exact okc_row (by decide) mon_stop ok_stop1); (first | exact cut_pos | exact cut_name | exact cut_num | exact cut_the (by decide) | exact cut_frac | exact cut_grade | exact cut_may | exact cut_names _ _ | exact cut_some | exact cut_row (by decide) mon_stop ok_stop1 cut_stop1))))
theorem art_yes {c : List D} {t : Tok} {r : List Tok} (h : t.s = [97, 114, 116, 101, 114, 121]) : pArt c (t :: r) = sq artIn c r := by simp [pArt, pMay, h, dB, artIn]
theorem art_no {c : List D} {t : Tok} {r : List Tok} (h : ¬ t.s = [97, 114, 116, 101, 114, 121]) : pArt c (t :: r) = .ok (c ++ [.row 92 6 [], dI 0, dI 0], t :: r) := by simp [pArt, pMay, h, dB]
theorem okc_art : OkC pArt := by
  intro c r c1 s hw h
  cases r with
  | nil => exact absurd rfl hw.ne
  | cons t r =>
    by_cases ht : t.s = [97, 114, 116, 101, 114, 121]
    · rw [art_yes ht] at h
      obtain ⟨w1, a, rfl, e1⟩ := okc_artIn _ _ _ _ (hw.tail (.inr (by rw [ht]; simp))) h
      exact ⟨w1, t :: a, rfl, fun a2 u b e hs he => by rw [List.cons_append, art_yes ht]; exact e1 a2 u b e hs he⟩
    · rw [art_no ht] at h
      simp only [Except.ok.injEq, Prod.mk.injEq] at h
      obtain ⟨rfl, rfl⟩ := h
      refine ⟨hw, [], rfl, fun a2 u b e hs he => ?_⟩
      cases a2 with
      | nil => rw [List.nil_append, List.nil_append, art_no (by rw [he.2.1]; simp)]
      | cons v a2 => simp at hs; obtain ⟨rfl, _⟩ := hs; rw [List.nil_append, List.cons_append, art_no ht]
theorem cut_art : CutC pArt := by
  intro c r x hw h
  cases r with
  | nil => exact absurd rfl hw.ne
  | cons t r =>
    by_cases ht : t.s = [97, 114, 116, 101, 114, 121]
    · rw [art_yes ht] at h
      obtain ⟨a, u, b, rfl, e2, e3⟩ := cut_artIn _ _ _ (hw.tail (.inr (by rw [ht]; simp))) h
      exact ⟨t :: a, u, b, rfl, e2, fun e he => by rw [List.cons_append, art_yes ht]; exact e3 e he⟩
    · rw [art_no ht] at h; cases h
theorem sq_app : ∀ (ps qs : List Sp) (c : List D) (r : List Tok), sq (ps ++ qs) c r = match sq ps c r with | .error x => .error x | .ok (c', r') => sq qs c' r'
  | [], qs, c, r => rfl
  | p :: ps, qs, c, r => by
    simp only [List.cons_append, sq]
    cases p c r with
    | error x => rfl
    | ok q => obtain ⟨c', r'⟩ := q; exact sq_app ps qs c' r'
def netIn : List Sp := [pThe [99, 121, 99, 108, 101], pNum, pThe [116, 111], pNum, pThe [98, 121], pNum, pThe [59], pThe [112, 101, 97, 107], pFrac, pThe [59], pRow [110, 111, 100, 101] 12 41 7 pNode, pArt]
theorem net_by (r : List Tok) : pNet r = match sq netIn [] r with | .error x => .error x | .ok (c', r') => sq [pEnd] c' r' := sq_app netIn [pEnd] [] r
theorem okc_net : OkC (sq netIn) := (by repeat (first | exact okc_nil | (refine okc_cons ?_ ?_; first | exact okc_pos | exact okc_name | exact okc_num | exact okc_the (by decide) | exact okc_frac | exact okc_grade | exact okc_may (by decide) | exact okc_names _ _ | exact okc_art | exact okc_row (by decide) mon_node ok_node1)))
theorem cut_net : CutC (sq netIn) := (by repeat (first | exact cut_nil | (refine cut_cons ?_ ?_ ?_; (first | exact okc_pos | exact okc_name | exact okc_num | exact okc_the (by decide) | exact okc_frac | exact okc_grade | exact okc_may (by decide) | exact okc_names _ _ | exact okc_art | exact okc_row (by decide) mon_node ok_node1); (first | exact cut_pos | exact cut_name | exact cut_num | exact cut_the (by decide) | exact cut_frac | exact cut_grade | exact cut_may | exact cut_names _ _ | exact cut_art | exact cut_row (by decide) mon_node ok_node1 cut_node1))))
/-- where another token was wanted: what is read ahead of it is a network, or its end is wrong -/
theorem net_cut {r : List Tok} {x : Int} (hw : W r) (h : pNet r = .error (50, x)) : ∃ a t b, r = a ++ t :: b ∧ t.p = x ∧ ∀ e, Ed e x → pNet (a ++ [e]) = .error (50, x) ∨ ∃ y, pNet (a ++ [e]) = .ok y := by
  rw [net_by] at h
  cases hq : sq netIn [] r with
  | error y =>
    rw [hq] at h
    injection h with h
    subst h
    obtain ⟨a, t, b, e1, e2, e3⟩ := cut_net _ _ _ hw hq
    exact ⟨a, t, b, e1, e2, fun e he => .inl (by rw [net_by, e3 e he])⟩
  | ok z =>
    obtain ⟨c, s⟩ := z
    rw [hq] at h
    obtain ⟨w1, a, rfl, e1⟩ := okc_net _ _ _ _ hw hq
    cases s with
    | nil => exact absurd rfl w1.ne
    | cons t s =>
      have hx : t.p = x := by
        simp only [sq, pEnd, bad] at h
        split at h
        · rename_i h2; split at h2 <;> simp at h2; rw [← h2] at h; simp at h; exact h
        · cases h
      refine ⟨a, t, s, rfl, hx, fun e he => .inr ?_⟩
      have f := e1 [] t s e rfl (hx ▸ he)
      rw [List.nil_append] at f
      exact ⟨(c, [e]), by rw [net_by, f]; simp [sq, pEnd, he.1]⟩
end Go.Proofs.YtfjphcgipbgodaaDoor
namespace Go.Proofs.YtfjphcgipbgodaaDoor
set_option linter.unusedVariables false
set_option linter.unusedSimpArgs false
def ErP (p : Sp) : Prop := ∀ c r x, W r → p c r = .error x → ∃ t ∈ r, t.p = x.2
def EpO (p : List Tok → Rs) : Prop := ∀ r x, W r → p r = .error x → ∃ t ∈ r, t.p = x.2
theorem bad_ep {e : Int} {r : List Tok} {x : Er} (hw : W r) (h : bad e r = .error x) : ∃ t ∈ r, t.p = x.2 := by
  cases r with
  | nil => exact absurd rfl hw.ne
  | cons t r => simp [bad] at h; exact ⟨t, List.mem_cons_self, by rw [← h]⟩
theorem ep_the (s : List UInt8) : ErP (pThe s) := by
  intro c r x hw h
  cases r with
  | nil => exact absurd rfl hw.ne
  | cons t r => simp only [pThe] at h; split at h; cases h; exact bad_ep hw h
theorem ep_name : ErP pName := by
  intro c r x hw h
  cases r with
  | nil => exact absurd rfl hw.ne
  | cons t r => simp only [pName] at h; split at h; cases h; exact bad_ep hw h
theorem ep_num : ErP pNum := by
  intro c r x hw h
  cases r with
  | nil => exact absurd rfl hw.ne
  | cons t r => simp only [pNum] at h; split at h; cases h; exact bad_ep hw h
theorem ep_pos : ErP pPos := by
  intro c r x hw h
  cases r with
  | nil => exact absurd rfl hw.ne
  | cons t r => simp [pPos] at h
theorem ep_end : ErP pEnd := by
  intro c r x hw h
  cases r with
  | nil => exact absurd rfl hw.ne
  | cons t r => simp only [pEnd] at h; split at h; cases h; exact bad_ep hw h
theorem ep_may (s : List UInt8) : ErP (pMay s) := by
  intro c r x hw h
  cases r with
  | nil => exact absurd rfl hw.ne
  | cons t r => simp only [pMay] at h; split at h <;> cases h
theorem ep_some : ErP pSome := by
  intro c r x hw h
  simp only [pSome] at h
  split at h
  · exact bad_ep hw h
  · cases h
theorem ep_nil : ErP (sq []) := by intro c r x hw h; simp [sq] at h
theorem ep_cons {p : Sp} {ps : List Sp} (ho : OkC p) (hp : ErP p) (h2 : ErP (sq ps)) : ErP (sq (p :: ps)) := by
  intro c r x hw h
  cases hq : p c r with
  | error y => simp only [sq, hq] at h; injection h with h; subst h; exact hp _ _ _ hw hq
  | ok z =>
    obtain ⟨c2, r2⟩ := z
    simp only [sq, hq] at h
    obtain ⟨w1, a, rfl, _⟩ := ho _ _ _ _ hw hq
    obtain ⟨t, ht, e⟩ := h2 _ _ _ w1 h
    exact ⟨t, List.mem_append.2 (.inr ht), e⟩
theorem ep_frac : ErP pFrac := ep_cons okc_num ep_num (ep_cons (okc_the (by decide)) (ep_the _) (ep_cons okc_num ep_num ep_nil))
theorem ep_two : ErP (sq [pMay [45], pNum]) := ep_cons (okc_may (by decide)) (ep_may _) (ep_cons okc_num ep_num ep_nil)
theorem ep_grade : ErP pGrade := by
  intro c r x hw h
  rw [grade_by] at h
  cases hq : sq [pMay [45], pNum] [] r with
  | error y => rw [hq] at h; injection h with h; subst h; exact ep_two _ _ _ hw hq
  | ok q =>
    exfalso
    obtain ⟨c2, s'⟩ := q
    rw [hq] at h
    obtain ⟨c3, r3, k1, k2⟩ := sq_inv hq
    obtain ⟨c4, r4, k3, k4⟩ := sq_inv k2
    have e := sq_end k4
    obtain ⟨b, rfl⟩ := may_inv k1
    obtain ⟨t, rfl, _⟩ := num_inv k3
    injection e with e1 e2
    subst e1
    simp [dB, dI] at h
theorem ep_nm (most : Nat) : ∀ (n : Nat) (L : List (List D)) (r : List Tok) (x : Er), r.length ≤ n → W r → nm most L r = .error x → ∃ t ∈ r, t.p = x.2
  | n, L, [], x, _, hw, _ => absurd rfl hw.ne
  | n, L, t :: r, x, hn, hw, h => by
    rw [nm_cons] at h
    by_cases ht : t.k = 1 ∧ ¬ t.s ∈ words
    · rw [if_pos ht] at h
      by_cases hl : L.length = most
      · rw [if_pos hl] at h; injection h with h; exact ⟨t, List.mem_cons_self, by rw [← h]⟩
      · rw [if_neg hl] at h
        have w1 := hw.tail (.inl (by rw [ht.1]; decide))
        cases r with
        | nil => exact absurd rfl w1.ne
        | cons u r2 =>
          simp only at h
          by_cases hu : u.s = [44]
          · rw [if_pos hu] at h
            cases n with
            | zero => simp at hn
            | succ n =>
              obtain ⟨v, hv, e⟩ := ep_nm most n _ r2 x (by simp at hn; omega) (w1.tail (.inr (by rw [hu]; simp))) h
              exact ⟨v, List.mem_cons_of_mem _ (List.mem_cons_of_mem _ hv), e⟩
          · rw [if_neg hu] at h; cases h
    · rw [if_neg ht] at h; injection h with h; exact ⟨t, List.mem_cons_self, by rw [← h]⟩
theorem ep_names (e most : Nat) : ErP (pNames e most) := by
  intro c r x hw h
  simp only [pNames] at h
  cases hq : nm most [] r with
  | error y => rw [show nmz most (r.length + 1) [] r = _ from hq] at h; injection h with h; subst h; exact ep_nm most _ _ _ _ (Nat.le_refl _) hw hq
  | ok q => obtain ⟨L, s'⟩ := q; rw [show nmz most (r.length + 1) [] r = _ from hq] at h; cases h
theorem ep_rw (word : List UInt8) (hword : word ≠ []) (most : Nat) (body : List Tok → Rs) (hm : Mon body) (hb : Ok1 body) (hc : EpO body) : ∀ (n : Nat) (L : List (List D)) (r : List Tok) (x : Er), r.length ≤ n → W r → rw_ word most body L r = .error x → ∃ t ∈ r, t.p = x.2
  | n, L, [], x, _, hw, _ => absurd rfl hw.ne
  | n, L, t :: r, x, hn, hw, h => by
    rw [rw_cons _ _ _ hm] at h
    by_cases ht : t.s = word
    · rw [if_pos ht] at h
      have w0 := hw.tail (.inr (by rw [ht]; exact hword))
      by_cases hl : L.length = most
      · rw [if_pos hl] at h; injection h with h; exact ⟨t, List.mem_cons_self, by rw [← h]⟩
      · rw [if_neg hl] at h
        cases hq : body r with
        | error y =>
          rw [hq] at h; injection h with h; subst h
          obtain ⟨v, hv, e⟩ := hc _ _ w0 hq
          exact ⟨v, List.mem_cons_of_mem _ hv, e⟩
        | ok z =>
          obtain ⟨d, r'⟩ := z
          rw [hq] at h
          obtain ⟨w1, a, rfl, _⟩ := hb _ _ _ w0 hq
          have hlen := hm _ _ _ hq
          cases n with
          | zero => simp at hn
          | succ n =>
            obtain ⟨v, hv, e⟩ := ep_rw word hword most body hm hb hc n _ r' x (by simp at hn hlen; omega) w1 h
            exact ⟨v, List.mem_cons_of_mem _ (List.mem_append.2 (.inr hv)), e⟩
    · rw [if_neg ht] at h; cases h
theorem ep_row {word : List UInt8} (hword : word ≠ []) {most e z : Nat} {body : List Tok → Rs} (hm : Mon body) (hb : Ok1 body) (hc : EpO body) : ErP (pRow word most e z body) := by
  intro c r x hw h
  simp only [pRow] at h
  cases hq : rw_ word most body [] r with
  | error y => rw [show rwz word most body (r.length + 1) [] r = _ from hq] at h; injection h with h; subst h; exact ep_rw word hword most body hm hb hc _ _ _ _ (Nat.le_refl _) hw hq
  | ok q => obtain ⟨L, s'⟩ := q; rw [show rwz word most body (r.length + 1) [] r = _ from hq] at h; cases h
theorem epo_of {p : Sp} (h : ErP p) : EpO (p []) := fun r x hw e => h [] r x hw e
theorem epo_rotd {p : List Tok → Rs} (h : EpO p) : EpO (rotd p) := by
  intro r x hw e
  simp only [rotd] at e
  cases hq : p r with
  | error y => rw [hq] at e; injection e with e; subst e; exact h _ _ hw hq
  | ok q => obtain ⟨c, r1⟩ := q; rw [hq] at e; cases e
theorem ep_foe1 : EpO pFoe := epo_rotd (epo_of (by repeat (first | exact ep_nil | (refine ep_cons ?_ ?_ ?_; (first | exact okc_pos | exact okc_name | exact okc_num | exact okc_the (by decide) | exact okc_frac | exact okc_grade | exact okc_may (by decide) | exact okc_names _ _ | exact okc_some); (first | exact ep_pos | exact ep_name | exact ep_num | exact ep_the _ | exact ep_frac | exact ep_grade | exact ep_may _ | exact ep_names _ _ | exact ep_some)))))
theorem ep_walk1 : EpO pWalk := epo_rotd (epo_of (by repeat (first | exact ep_nil | (refine ep_cons ?_ ?_ ?_; (first | exact okc_pos | exact okc_name | exact okc_num | exact okc_the (by decide) | exact okc_frac | exact okc_grade | exact okc_may (by decide) | exact okc_names _ _ | exact okc_some); (first | exact ep_pos | exact ep_name | exact ep_num | exact ep_the _ | exact ep_frac | exact ep_grade | exact ep_may _ | exact ep_names _ _ | exact ep_some)))))
theorem ep_stop1 : EpO pStop := epo_rotd (epo_of (by repeat (first | exact ep_nil | (refine ep_cons ?_ ?_ ?_; (first | exact okc_pos | exact okc_name | exact okc_num | exact okc_the (by decide) | exact okc_frac | exact okc_grade | exact okc_may (by decide) | exact okc_names _ _ | exact okc_some); (first | exact ep_pos | exact ep_name | exact ep_num | exact ep_the _ | exact ep_frac | exact ep_grade | exact ep_may _ | exact ep_names _ _ | exact ep_some)))))
theorem ep_head1 : EpO pHead := epo_rotd (epo_of (by repeat (first | exact ep_nil | (refine ep_cons ?_ ?_ ?_; (first | exact okc_pos | exact okc_name | exact okc_num | exact okc_the (by decide) | exact okc_frac | exact okc_grade | exact okc_may (by decide) | exact okc_names _ _ | exact okc_some); (first | exact ep_pos | exact ep_name | exact ep_num | exact ep_the _ | exact ep_frac | exact ep_grade | exact ep_may _ | exact ep_names _ _ | exact ep_some)))))
theorem ep_phase1 : EpO pPhase := epo_rotd (epo_of (by repeat (first | exact ep_nil | (refine ep_cons ?_ ?_ ?_; (first | exact okc_pos | exact okc_name | exact okc_num | exact okc_the (by decide) | exact okc_frac | exact okc_grade | exact okc_may (by decide) | exact okc_names _ _ | exact okc_some); (first | exact ep_pos | exact ep_name | exact ep_num | exact ep_the _ | exact ep_frac | exact ep_grade | exact ep_may _ | exact ep_names _ _ | exact ep_some)))))
theorem ep_ring1 : EpO pRing := epo_of (by repeat (first | exact ep_nil | (refine ep_cons ?_ ?_ ?_; (first | exact okc_pos | exact okc_name | exact okc_num | exact okc_the (by decide) | exact okc_frac | exact okc_grade | exact okc_may (by decide) | exact okc_names _ _ | exact okc_some); (first | exact ep_pos | exact ep_name | exact ep_num | exact ep_the _ | exact ep_frac | exact ep_grade | exact ep_may _ | exact ep_names _ _ | exact ep_some))))
theorem ep_group1 : EpO pGroup := epo_of (by repeat (first | exact ep_nil | (refine ep_cons ?_ ?_ ?_; (first | exact okc_pos | exact okc_name | exact okc_num | exact okc_the (by decide) | exact okc_frac | exact okc_grade | exact okc_may (by decide) | exact okc_names _ _ | exact okc_some | exact okc_row (by decide) mon_ring ok_ring1); (first | exact ep_pos | exact ep_name | exact ep_num | exact ep_the _ | exact ep_frac | exact ep_grade | exact ep_may _ | exact ep_names _ _ | exact ep_some | exact ep_row (by decide) mon_ring ok_ring1 ep_ring1))))
theorem ep_node1 : EpO pNode := epo_rotd (epo_of (by repeat (first | exact ep_nil | (refine ep_cons ?_ ?_ ?_; (first | exact okc_pos | exact okc_name | exact okc_num | exact okc_the (by decide) | exact okc_frac | exact okc_grade | exact okc_may (by decide) | exact okc_names _ _ | exact okc_some | exact okc_row (by decide) mon_head ok_head1 | exact okc_row (by decide) mon_walk ok_walk1 | exact okc_row (by decide) mon_phase ok_phase1 | exact okc_row (by decide) mon_group ok_group1 | exact okc_row (by decide) mon_foe ok_foe1); (first | exact ep_pos | exact ep_name | exact ep_num | exact ep_the _ | exact ep_frac | exact ep_grade | exact ep_may _ | exact ep_names _ _ | exact ep_some | exact ep_row (by decide) mon_head ok_head1 ep_head1 | exact ep_row (by decide) mon_walk ok_walk1 ep_walk1 | exact ep_row (by decide) mon_phase ok_phase1 ep_phase1 | exact ep_row (by decide) mon_group ok_group1 ep_group1 | exact ep_row (by decide) mon_foe ok_foe1 ep_foe1)))))
theorem ep_artIn : ErP (sq artIn) := (by repeat (first | exact ep_nil | (refine ep_cons ?_ ?_ ?_; (first | exact okc_pos | exact okc_name | exact okc_num | exact okc_the (by decide) | exact okc_frac | exact okc_grade | exact okc_may (by decide) | exact okc_names _ _ | exact okc_some | exact okc_row (by decide) mon_stop ok_stop1); (first | exact ep_pos | exact ep_name | exact ep_num | exact ep_the _ | exact ep_frac | exact ep_grade | exact ep_may _ | exact ep_names _ _ | exact ep_some | exact ep_row (by decide) mon_stop ok_stop1 ep_stop1))))
theorem ep_art : ErP pArt := by
  intro c r x hw h
  cases r with
  | nil => exact absurd rfl hw.ne
  | cons t r =>
    by_cases ht : t.s = [97, 114, 116, 101, 114, 121]
    · rw [art_yes ht] at h
      obtain ⟨v, hv, e⟩ := ep_artIn _ _ _ (hw.tail (.inr (by rw [ht]; simp))) h
      exact ⟨v, List.mem_cons_of_mem _ hv, e⟩
    · rw [art_no ht] at h; cases h
theorem ep_netIn : ErP (sq netIn) := (by repeat (first | exact ep_nil | (refine ep_cons ?_ ?_ ?_; (first | exact okc_pos | exact okc_name | exact okc_num | exact okc_the (by decide) | exact okc_frac | exact okc_grade | exact okc_may (by decide) | exact okc_names _ _ | exact okc_some | exact okc_row (by decide) mon_node ok_node1 | exact okc_art); (first | exact ep_pos | exact ep_name | exact ep_num | exact ep_the _ | exact ep_frac | exact ep_grade | exact ep_may _ | exact ep_names _ _ | exact ep_some | exact ep_row (by decide) mon_node ok_node1 ep_node1 | exact ep_art))))
theorem net_ep {r : List Tok} {x : Er} (hw : W r) (h : pNet r = .error x) : ∃ t ∈ r, t.p = x.2 := by
  rw [net_by] at h
  cases hq : sq netIn [] r with
  | error y => rw [hq] at h; injection h with h; subst h; exact ep_netIn _ _ _ hw hq
  | ok z =>
    obtain ⟨c, s⟩ := z
    rw [hq] at h
    obtain ⟨w1, a, rfl, _⟩ := okc_net _ _ _ _ hw hq
    obtain ⟨t, ht, e⟩ := ep_cons (p := pEnd) (ps := []) (fun c r c1 s hw h => by
      cases r with
      | nil => exact absurd rfl hw.ne
      | cons t r =>
        simp only [pEnd] at h
        split at h
        · rename_i hk; simp at h; obtain ⟨rfl, rfl⟩ := h
          refine ⟨hw, [], rfl, fun a2 u b e hs he => ?_⟩
          cases a2 with
          | nil => simp [pEnd, he.1]
          | cons v a2 => simp at hs; obtain ⟨rfl, _⟩ := hs; simp [pEnd, hk]
        · exact absurd h bad_ne) ep_end ep_nil _ _ _ w1 h
    exact ⟨t, List.mem_append.2 (.inr ht), e⟩
end Go.Proofs.YtfjphcgipbgodaaDoor
namespace Go.Proofs.YtfjphcgipbgodaaDoor
set_option linter.unusedVariables false
set_option linter.unusedSimpArgs false
def ErS (p : Sp) : Prop := ∀ c r x, p c r = .error x → x.1 = 50 ∨ x.1 = 4
def Er1 (p : List Tok → Rs) : Prop := ∀ r x, p r = .error x → x.1 = 50 ∨ x.1 = 4
theorem bad_er {e : Int} {r : List Tok} {x : Er} (h : bad e r = .error x) : x.1 = e := by cases r <;> (simp [bad] at h; rw [← h])
theorem er_the (s : List UInt8) : ErS (pThe s) := by
  intro c r x h
  cases r with
  | nil => exact .inl (bad_er (show bad 50 [] = .error x from h))
  | cons t r => simp only [pThe] at h; split at h; cases h; exact .inl (bad_er h)
theorem er_name : ErS pName := by
  intro c r x h
  cases r with
  | nil => exact .inl (bad_er (show bad 50 [] = .error x from h))
  | cons t r => simp only [pName] at h; split at h; cases h; exact .inl (bad_er h)
theorem er_num : ErS pNum := by
  intro c r x h
  cases r with
  | nil => exact .inl (bad_er (show bad 50 [] = .error x from h))
  | cons t r => simp only [pNum] at h; split at h; cases h; exact .inl (bad_er h)
theorem er_pos : ErS pPos := by
  intro c r x h
  cases r with
  | nil => exact .inl (bad_er (show bad 50 [] = .error x from h))
  | cons t r => simp [pPos] at h
theorem er_end : ErS pEnd := by
  intro c r x h
  cases r with
  | nil => exact .inl (bad_er (show bad 50 [] = .error x from h))
  | cons t r => simp only [pEnd] at h; split at h; cases h; exact .inl (bad_er h)
theorem er_may (s : List UInt8) : ErS (pMay s) := by
  intro c r x h
  cases r with
  | nil => exact .inl (bad_er (show bad 50 [] = .error x from h))
  | cons t r => simp only [pMay] at h; split at h <;> cases h
theorem er_some : ErS pSome := by
  intro c r x h
  simp only [pSome] at h
  split at h
  · exact .inl (bad_er h)
  · cases h
theorem er_sq : ∀ (ps : List Sp), (∀ p ∈ ps, ErS p) → ErS (sq ps)
  | [], _, c, r, x, h => by simp [sq] at h
  | p :: ps, hp, c, r, x, h => by
    simp only [sq] at h
    cases hq : p c r with
    | error y => rw [hq] at h; injection h with h; subst h; exact hp p List.mem_cons_self _ _ _ hq
    | ok q => obtain ⟨c1, r1⟩ := q; rw [hq] at h; exact er_sq ps (fun q hq => hp q (List.mem_cons_of_mem _ hq)) _ _ _ h
theorem er_frac : ErS pFrac := er_sq _ (all_cons er_num (all_cons (er_the _) (all_cons er_num all_nil)))
theorem er_grade : ErS pGrade := by
  intro c r x h
  have h0 := er_sq [pMay [45], pNum] (all_cons (er_may _) (all_cons er_num all_nil))
  cases r with
  | nil => simp [pGrade, sq, pMay, bad] at h; rw [← h]; exact .inl rfl
  | cons t r =>
    by_cases h1 : t.s = [45]
    · cases r with
      | nil => simp [pGrade, sq, pMay, bad, h1, pNum] at h; rw [← h]; exact .inl rfl
      | cons u r =>
        by_cases h2 : u.k = 2
        · simp [pGrade, sq, pMay, bad, h1, pNum, h2, dB, dI] at h
        · simp [pGrade, sq, pMay, bad, h1, pNum, h2] at h; rw [← h]; exact .inl rfl
    · by_cases h2 : t.k = 2
      · simp [pGrade, sq, pMay, bad, h1, pNum, h2, dB, dI] at h
      · simp [pGrade, sq, pMay, bad, h1, pNum, h2] at h; rw [← h]; exact .inl rfl
theorem er_nm (most : Nat) : ∀ (n : Nat) (L : List (List D)) (r : List Tok) (x : Er), r.length ≤ n → nm most L r = .error x → x.1 = 50 ∨ x.1 = 4
  | n, L, [], x, _, h => by simp [nm, nmz, pName, bad] at h; rw [← h]; exact .inl rfl
  | n, L, t :: r, x, hn, h => by
    rw [nm_cons] at h
    split at h
    · split at h
      · injection h with h; rw [← h]; exact .inr rfl
      · cases r with
        | nil => simp at h; rw [← h]; exact .inl rfl
        | cons u r2 =>
          simp only at h
          split at h
          · cases n with
            | zero => simp at hn
            | succ n => exact er_nm most n _ r2 x (by simp at hn; omega) h
          · cases h
    · injection h with h; rw [← h]; exact .inl rfl
theorem er_names (e most : Nat) : ErS (pNames e most) := by
  intro c r x h
  simp only [pNames] at h
  cases hq : nmz most (r.length + 1) [] r with
  | error y => rw [hq] at h; injection h with h; subst h; exact er_nm most _ [] r _ (Nat.le_refl _) hq
  | ok q => obtain ⟨L, r1⟩ := q; rw [hq] at h; cases h
theorem er_rw (word : List UInt8) (most : Nat) (body : List Tok → Rs) (hm : Mon body) (he : Er1 body) : ∀ (n : Nat) (L : List (List D)) (r : List Tok) (x : Er), r.length ≤ n → rw_ word most body L r = .error x → x.1 = 50 ∨ x.1 = 4
  | n, L, [], x, _, h => by simp [rw_, rwz] at h; rw [← h]; exact .inl rfl
  | n, L, t :: r, x, hn, h => by
    rw [rw_cons _ _ _ hm] at h
    split at h
    · split at h
      · injection h with h; rw [← h]; exact .inr rfl
      · cases hb : body r with
        | error y => rw [hb] at h; injection h with h; subst h; exact he _ _ hb
        | ok q =>
          obtain ⟨d, r'⟩ := q
          rw [hb] at h
          have := hm _ _ _ hb
          cases n with
          | zero => simp at hn
          | succ n => exact er_rw word most body hm he n _ r' x (by simp at hn; omega) h
    · cases h
theorem er_row (word : List UInt8) (most e z : Nat) (body : List Tok → Rs) (hm : Mon body) (he : Er1 body) : ErS (pRow word most e z body) := by
  intro c r x h
  simp only [pRow] at h
  cases hq : rwz word most body (r.length + 1) [] r with
  | error y => rw [hq] at h; injection h with h; subst h; exact er_rw word most body hm he _ [] r _ (Nat.le_refl _) hq
  | ok q => obtain ⟨L, r1⟩ := q; rw [hq] at h; cases h
theorem er_rotd {p : List Tok → Rs} (h : Er1 p) : Er1 (rotd p) := by
  intro r x e
  simp only [rotd] at e
  cases hq : p r with
  | error y => rw [hq] at e; injection e with e; subst e; exact h _ _ hq
  | ok q => obtain ⟨c, r1⟩ := q; rw [hq] at e; cases e
theorem er_of {ps : List Sp} (h : ∀ p ∈ ps, ErS p) : Er1 (sq ps []) := fun r x e => er_sq ps h _ _ _ e
theorem er_foe : Er1 pFoe := er_rotd (er_of (by repeat (first | exact all_nil | (refine all_cons ?_ ?_; first | exact er_pos | exact er_name | exact er_num | exact er_the _ | exact er_frac | exact er_grade | exact er_may _ | exact er_names _ _))))
theorem er_walk : Er1 pWalk := er_rotd (er_of (by repeat (first | exact all_nil | (refine all_cons ?_ ?_; first | exact er_pos | exact er_name | exact er_num | exact er_the _ | exact er_frac | exact er_grade | exact er_may _ | exact er_names _ _))))
theorem er_stop : Er1 pStop := er_rotd (er_of (by repeat (first | exact all_nil | (refine all_cons ?_ ?_; first | exact er_pos | exact er_name | exact er_num | exact er_the _ | exact er_frac | exact er_grade | exact er_may _ | exact er_names _ _))))
theorem er_head : Er1 pHead := er_rotd (er_of (by repeat (first | exact all_nil | (refine all_cons ?_ ?_; first | exact er_pos | exact er_name | exact er_num | exact er_the _ | exact er_frac | exact er_grade | exact er_may _ | exact er_names _ _))))
theorem er_phase : Er1 pPhase := er_rotd (er_of (by repeat (first | exact all_nil | (refine all_cons ?_ ?_; first | exact er_pos | exact er_name | exact er_num | exact er_the _ | exact er_frac | exact er_grade | exact er_may _ | exact er_names _ _))))
theorem er_ring : Er1 pRing := er_of (by repeat (first | exact all_nil | (refine all_cons ?_ ?_; first | exact er_pos | exact er_name | exact er_num | exact er_the _ | exact er_frac | exact er_grade | exact er_may _ | exact er_names _ _)))
theorem er_group : Er1 pGroup := er_of (by repeat (first | exact all_nil | (refine all_cons ?_ ?_; first | exact er_the _ | exact er_row _ _ _ _ _ mon_ring er_ring | exact er_some)))
theorem er_node : Er1 pNode := er_rotd (er_of (by repeat (first | exact all_nil | (refine all_cons ?_ ?_; first | exact er_pos | exact er_name | exact er_the _ | exact er_row _ _ _ _ _ mon_head er_head | exact er_row _ _ _ _ _ mon_walk er_walk | exact er_row _ _ _ _ _ mon_phase er_phase | exact er_row _ _ _ _ _ mon_group er_group | exact er_row _ _ _ _ _ mon_foe er_foe))))
theorem er_art : ErS pArt := by
  intro c r x h
  simp only [pArt] at h
  split at h
  · rename_i y h1; injection h with h; subst h; exact er_may _ _ _ _ h1
  · exact er_sq _ (by repeat (first | exact all_nil | (refine all_cons ?_ ?_; first | exact er_num | exact er_the _ | exact er_row _ _ _ _ _ mon_stop er_stop))) _ _ _ h
  · cases h
theorem err_net {L : List Tok} {x : Er} (h : pNet L = .error x) : x.1 = 50 ∨ x.1 = 4 :=
  er_sq _ (by repeat (first | exact all_nil | (refine all_cons ?_ ?_; first | exact er_num | exact er_the _ | exact er_frac | exact er_row _ _ _ _ _ mon_node er_node | exact er_art | exact er_end))) _ _ _ h
end Go.Proofs.YtfjphcgipbgodaaDoor
