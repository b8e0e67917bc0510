/- The grammar's steps, turned round. No program is met here. -/
import Derived.Test.YtmplckdpddmifaaGreatDoorNPar
namespace Go.Proofs.YtmplckdpddmifaaGreatDoor
set_option linter.unusedVariables false
set_option linter.unusedSimpArgs false
theorem sq_inv {p : Sp} {ps : List Sp} {c : List D} {r : List Tok} {x : List D × List Tok} (h : sq (p :: ps) c r = .ok x) : ∃ c1 r1, p c r = .ok (c1, r1) ∧ sq ps c1 r1 = .ok x := by
  simp only [sq] at h
  cases hp : p c r with
  | error y => rw [hp] at h; cases h
  | ok q => obtain ⟨c1, r1⟩ := q; rw [hp] at h; exact ⟨c1, r1, rfl, h⟩
theorem sq_end {c : List D} {r : List Tok} {x : List D × List Tok} (h : sq [] c r = .ok x) : x = (c, r) := by simp [sq] at h; exact h.symm
theorem the_inv {s : List UInt8} {c : List D} {r : List Tok} {c' : List D} {r' : List Tok} (h : pThe s c r = .ok (c', r')) : c' = c ∧ ∃ t, r = t :: r' := by
  cases r with
  | nil => simp [pThe, bad] at h
  | cons t r => simp only [pThe] at h; split at h; (simp at h; exact ⟨h.1.symm, t, by rw [h.2]⟩); exact absurd h bad_ne
theorem name_inv {c : List D} {r : List Tok} {c' : List D} {r' : List Tok} (h : pName c r = .ok (c', r')) : ∃ t, c' = c ++ [dS t.s] ∧ ¬ t.s ∈ words ∧ r = t :: r' := by
  cases r with
  | nil => simp [pName, bad] at h
  | cons t r => simp only [pName] at h; split at h; (rename_i hk; simp at h; exact ⟨t, h.1.symm, hk.2, by rw [h.2]⟩); exact absurd h bad_ne
theorem num_inv {c : List D} {r : List Tok} {c' : List D} {r' : List Tok} (h : pNum c r = .ok (c', r')) : ∃ t, c' = c ++ [dI t.n] ∧ r = t :: r' := by
  cases r with
  | nil => simp [pNum, bad] at h
  | cons t r => simp only [pNum] at h; split at h; (simp at h; exact ⟨t, h.1.symm, by rw [h.2]⟩); exact absurd h bad_ne
theorem pos_inv {c : List D} {r : List Tok} {c' : List D} {r' : List Tok} (h : pPos c r = .ok (c', r')) : ∃ n, c' = c ++ [dI n] ∧ r = r' := by
  cases r with
  | nil => simp [pPos, bad] at h
  | cons t r => simp [pPos] at h; exact ⟨t.p, h.1.symm, h.2⟩
theorem end_inv {c : List D} {r : List Tok} {c' : List D} {r' : List Tok} (h : pEnd c r = .ok (c', r')) : c' = c := by
  cases r with
  | nil => simp [pEnd, bad] at h
  | cons t r => simp only [pEnd] at h; split at h; (simp at h; exact h.1.symm); exact absurd h bad_ne
theorem may_inv {s : List UInt8} {c : List D} {r : List Tok} {c' : List D} {r' : List Tok} (h : pMay s c r = .ok (c', r')) : ∃ b, c' = c ++ [dB b] := by
  cases r with
  | nil => simp [pMay, bad] at h
  | cons t r => simp only [pMay] at h; split at h <;> (simp at h; exact ⟨_, h.1.symm⟩)
theorem some_inv {c : List D} {r : List Tok} {c' : List D} {r' : List Tok} (h : pSome c r = .ok (c', r')) : c' = c ∧ ∀ e z, c ≠ [.row e z []] := by
  simp only [pSome] at h
  split at h
  · exact absurd h bad_ne
  · rename_i hne; simp at h; exact ⟨h.1.symm, fun e z he => hne e z he⟩
theorem frac_inv {c : List D} {r : List Tok} {c' : List D} {r' : List Tok} (h : pFrac c r = .ok (c', r')) : ∃ a b, c' = c ++ [dI a] ++ [dI b] := by
  obtain ⟨c1, r1, h1, h⟩ := sq_inv h
  obtain ⟨c2, r2, h2, h⟩ := sq_inv h
  obtain ⟨c3, r3, h3, h⟩ := sq_inv h
  have := sq_end h
  obtain ⟨t, rfl, _⟩ := num_inv h1
  obtain ⟨rfl, _⟩ := the_inv h2
  obtain ⟨u, rfl, _⟩ := num_inv h3
  simp at this
  exact ⟨t.n, u.n, by simp [this.1]⟩
theorem nmz_inv (most : Nat) : ∀ (f : Nat) (L : List (List D)) (r : List Tok) (L' : List (List D)) (r' : List Tok), L.length ≤ most → nmz most f L r = .ok (L', r') → 1 ≤ L'.length ∧ L'.length ≤ most
  | 0, _, _, _, _, _, h => by simp [nmz] at h
  | f + 1, L, r, L', r', hL, h => by
    simp only [nmz] at h
    split at h
    · cases h
    · rename_i d r1 h1
      split at h
      · split at h <;> cases h
      · rename_i hne
        split at h
        · rename_i r2 h2
          exact nmz_inv most f _ r2 _ _ (by simp; omega) h
        · rename_i r2 _ h2
          simp at h; rw [← h.1]; simp; omega
        · cases h
theorem names_inv {e most : Nat} {c : List D} {r : List Tok} {c' : List D} {r' : List Tok} (h : pNames e most c r = .ok (c', r')) : ∃ L, c' = c ++ [.row e 1 L] ∧ 1 ≤ L.length ∧ L.length ≤ most := by
  simp only [pNames] at h
  split at h
  · cases h
  · rename_i L r1 h1; simp at h; exact ⟨L, h.1.symm, nmz_inv most _ _ _ _ _ (Nat.zero_le _) h1⟩
theorem rwz_inv (word : List UInt8) (most : Nat) (body : List Tok → Rs) (Q : List D → Prop) (hQ : ∀ r d r', body r = .ok (d, r') → Q d) : ∀ (f : Nat) (L : List (List D)) (r : List Tok) (L' : List (List D)) (r' : List Tok), L.length ≤ most → (∀ d ∈ L, Q d) → rwz word most body f L r = .ok (L', r') → L'.length ≤ most ∧ ∀ d ∈ L', Q d
  | 0, _, _, _, _, _, _, h => by simp [rwz] at h
  | f + 1, L, [], L', r', _, _, h => by simp [rwz] at h
  | f + 1, L, t :: r, L', r', hL, hq, h => by
    simp only [rwz] at h
    split at h
    · split at h
      · cases h
      · rename_i hne
        split at h
        · cases h
        · rename_i d r1 h1
          refine rwz_inv word most body Q hQ f _ r1 _ _ (by simp; omega) (fun x hx => ?_) h
          rcases List.mem_append.1 hx with hx | hx
          · exact hq x hx
          · simp at hx; subst hx; exact hQ _ _ _ h1
    · simp at h; rw [← h.1]; exact ⟨hL, hq⟩
theorem row_inv {word : List UInt8} {most e z : Nat} {body : List Tok → Rs} {Q : List D → Prop} (hQ : ∀ r d r', body r = .ok (d, r') → Q d) {c : List D} {r : List Tok} {c' : List D} {r' : List Tok} (h : pRow word most e z body c r = .ok (c', r')) : ∃ L, c' = c ++ [.row e z L] ∧ L.length ≤ most ∧ ∀ d ∈ L, Q d := by
  simp only [pRow] at h
  split at h
  · cases h
  · rename_i L r1 h1; simp at h; exact ⟨L, h.1.symm, rwz_inv word most body Q hQ _ _ _ _ _ (Nat.zero_le _) (fun d hd => by cases hd) h1⟩
theorem rotd_inv {p : List Tok → Rs} {r : List Tok} {c : List D} {r' : List Tok} (h : rotd p r = .ok (c, r')) : ∃ c1, p r = .ok (c1, r') ∧ c = rot c1 := by
  simp only [rotd] at h
  cases hp : p r with
  | error x => rw [hp] at h; cases h
  | ok q => obtain ⟨c1, r1⟩ := q; rw [hp] at h; simp at h; exact ⟨c1, by rw [h.2], h.1.symm⟩
end Go.Proofs.YtmplckdpddmifaaGreatDoor
namespace Go.Proofs.YtmplckdpddmifaaGreatDoor
set_option linter.unusedVariables false
set_option linter.unusedSimpArgs false
/-- an end at a place -/
def Ed (e : Tok) (x : Int) : Prop := e.k = 0 ∧ e.s = [] ∧ e.p = x
/-- tokens that end as they should -/
def W (r : List Tok) : Prop := ∃ m e, r = m ++ [e] ∧ e.k = 0 ∧ e.s = []
theorem W.ne {r : List Tok} (h : W r) : r ≠ [] := by obtain ⟨m, e, rfl, _⟩ := h; simp
theorem W.tail {t : Tok} {r : List Tok} (h : W (t :: r)) (ht : t.k ≠ 0 ∨ t.s ≠ []) : W r := by
  obtain ⟨m, e, h1, h2, h3⟩ := h
  cases m with
  | nil => simp at h1; obtain ⟨rfl, _⟩ := h1; rcases ht with h | h; exact absurd h2 h; exact absurd h3 h
  | cons u m => simp at h1; exact ⟨m, e, h1.2, h2, h3⟩
/-- what went well goes as well where the text ends behind it -/
def OkC (p : Sp) : Prop := ∀ c r c1 s, W r → p c r = .ok (c1, s) → W s ∧ ∃ a, r = a ++ s ∧ ∀ a2 t b e, s = a2 ++ t :: b → Ed e t.p → p c (a ++ (a2 ++ [e])) = .ok (c1, a2 ++ [e])
/-- where another token was wanted, an end is as wrong -/
def CutC (p : Sp) : Prop := ∀ c r x, W r → p c r = .error (50, x) → ∃ a t b, r = a ++ t :: b ∧ t.p = x ∧ ∀ e, Ed e x → p c (a ++ [e]) = .error (50, x)
theorem okc_the {s : List UInt8} (hs : s ≠ []) : OkC (pThe s) := by
  intro c r c1 q hw h
  cases r with
  | nil => simp [pThe, bad] at h
  | cons t r =>
    simp only [pThe] at h
    split at h
    · rename_i ht; simp at h; obtain ⟨rfl, rfl⟩ := h; exact ⟨hw.tail (.inr (by rw [ht]; exact hs)), [t], rfl, fun a2 u b e _ _ => by simp [pThe, ht]⟩
    · exact absurd h bad_ne
theorem cut_the {s : List UInt8} (hs : s ≠ []) : CutC (pThe s) := by
  intro c r x hw h
  cases r with
  | nil => exact absurd rfl hw.ne
  | cons t r =>
    simp only [pThe, bad] at h
    split at h
    · cases h
    · simp at h; exact ⟨[], t, r, rfl, h, fun e he => by simp [pThe, bad, he.2.1, Ne.symm hs, he.2.2]⟩
theorem okc_name : OkC pName := by
  intro c r c1 q hw h
  cases r with
  | nil => simp [pName, bad] at h
  | cons t r =>
    simp only [pName] at h
    split at h
    · rename_i ht; simp at h; obtain ⟨rfl, rfl⟩ := h; exact ⟨hw.tail (.inl (by rw [ht.1]; decide)), [t], rfl, fun a2 u b e _ _ => by simp [pName, ht]⟩
    · exact absurd h bad_ne
theorem cut_name : CutC pName := by
  intro c r x hw h
  cases r with
  | nil => exact absurd rfl hw.ne
  | cons t r =>
    simp only [pName, bad] at h
    split at h
    · cases h
    · simp at h; exact ⟨[], t, r, rfl, h, fun e he => by simp [pName, bad, he.1, he.2.2]⟩
theorem okc_num : OkC pNum := by
  intro c r c1 q hw h
  cases r with
  | nil => simp [pNum, bad] at h
  | cons t r =>
    simp only [pNum] at h
    split at h
    · rename_i ht; simp at h; obtain ⟨rfl, rfl⟩ := h; exact ⟨hw.tail (.inl (by rw [ht]; decide)), [t], rfl, fun a2 u b e _ _ => by simp [pNum, ht]⟩
    · exact absurd h bad_ne
theorem cut_num : CutC pNum := by
  intro c r x hw h
  cases r with
  | nil => exact absurd rfl hw.ne
  | cons t r =>
    simp only [pNum, bad] at h
    split at h
    · cases h
    · simp at h; exact ⟨[], t, r, rfl, h, fun e he => by simp [pNum, bad, he.1, he.2.2]⟩
theorem okc_pos : OkC pPos := by
  intro c r c1 q hw h
  cases r with
  | nil => simp [pPos, bad] at h
  | cons t r =>
    simp [pPos] at h
    obtain ⟨rfl, rfl⟩ := h
    refine ⟨hw, [], rfl, fun a2 u b e h he => ?_⟩
    cases a2 with
    | nil => simp at h; obtain ⟨rfl, rfl⟩ := h; simp [pPos, he.2.2]
    | cons v a2 => simp at h; obtain ⟨rfl, _⟩ := h; simp [pPos]
theorem cut_pos : CutC pPos := by
  intro c r x hw h
  cases r with
  | nil => exact absurd rfl hw.ne
  | cons t r => simp [pPos] at h
theorem okc_may {s : List UInt8} (hs : s ≠ []) : OkC (pMay s) := by
  intro c r c1 q hw h
  cases r with
  | nil => simp [pMay, bad] at h
  | cons t r =>
    simp only [pMay] at h
    split at h
    · rename_i ht; simp at h; obtain ⟨rfl, rfl⟩ := h; exact ⟨hw.tail (.inr (by rw [ht]; exact hs)), [t], rfl, fun a2 u b e _ _ => by simp [pMay, ht]⟩
    · rename_i ht
      simp at h
      obtain ⟨rfl, rfl⟩ := h
      refine ⟨hw, [], rfl, fun a2 u b e h he => ?_⟩
      cases a2 with
      | nil => simp [pMay, he.2.1, Ne.symm hs]
      | cons v a2 => simp at h; obtain ⟨rfl, _⟩ := h; simp [pMay, ht]
theorem cut_may {s : List UInt8} : CutC (pMay s) := by
  intro c r x hw h
  cases r with
  | nil => exact absurd rfl hw.ne
  | cons t r => simp only [pMay] at h; split at h <;> cases h
theorem okc_some : OkC pSome := by
  intro c r c1 q hw h
  have h' := h
  simp only [pSome] at h
  split at h
  · exact absurd h bad_ne
  · rename_i hne
    simp at h
    obtain ⟨rfl, rfl⟩ := h
    refine ⟨hw, [], rfl, fun a2 u b e h he => ?_⟩
    simp [pSome]
theorem okc_nil : OkC (sq []) := by
  intro c r c1 q hw h
  simp [sq] at h
  obtain ⟨rfl, rfl⟩ := h
  exact ⟨hw, [], rfl, fun a2 u b e h he => by simp [sq]⟩
theorem okc_cons {p : Sp} {ps : List Sp} (hp : OkC p) (h2 : OkC (sq ps)) : OkC (sq (p :: ps)) := by
  intro c r c1 q hw h
  obtain ⟨c2, r2, k1, k2⟩ := sq_inv h
  obtain ⟨w1, a, rfl, e1⟩ := hp _ _ _ _ hw k1
  obtain ⟨w2, a', rfl, e2⟩ := h2 _ _ _ _ w1 k2
  refine ⟨w2, a ++ a', by simp, fun a2 t b e hq he => ?_⟩
  have f1 := e1 (a' ++ a2) t b e (by rw [hq]; simp) he
  have f2 := e2 a2 t b e hq he
  rw [List.append_assoc] at f1
  rw [List.append_assoc]
  simp only [sq, f1, f2]
theorem cut_nil : CutC (sq []) := by
  intro c r x hw h
  simp [sq] at h
theorem cut_cons {p : Sp} {ps : List Sp} (hp : OkC p) (hc : CutC p) (h2 : CutC (sq ps)) : CutC (sq (p :: ps)) := by
  intro c r x hw h
  cases hq : p c r with
  | error y =>
    simp only [sq, hq] at h
    injection h with h
    subst h
    obtain ⟨a, t, b, e1, e2, e3⟩ := hc _ _ _ hw hq
    exact ⟨a, t, b, e1, e2, fun e he => by simp only [sq, e3 e he]⟩
  | ok z =>
    obtain ⟨c2, r2⟩ := z
    simp only [sq, hq] at h
    obtain ⟨w1, a, rfl, e1⟩ := hp _ _ _ _ hw hq
    obtain ⟨a', t, b, rfl, e2, e3⟩ := h2 _ _ _ w1 h
    refine ⟨a ++ a', t, b, by simp, e2, fun e he => ?_⟩
    have f1 := e1 a' t b e rfl (e2 ▸ he)
    rw [List.append_assoc]
    simp only [sq, f1, e3 e he]
theorem cut_some : CutC pSome := by
  intro c r x hw h
  cases r with
  | nil => exact absurd rfl hw.ne
  | cons t r =>
    have h' := h
    simp only [pSome] at h
    split at h
    · simp [bad] at h; exact ⟨[], t, r, rfl, h, fun e he => by simp [pSome, bad, he.2.2]⟩
    · cases h
/-- both, of a thing -/
def Ok1 (p : List Tok → Rs) : Prop := ∀ r c1 s, W r → p r = .ok (c1, s) → W s ∧ ∃ a, r = a ++ s ∧ ∀ a2 t b e, s = a2 ++ t :: b → Ed e t.p → p (a ++ (a2 ++ [e])) = .ok (c1, a2 ++ [e])
def Cut1 (p : List Tok → Rs) : Prop := ∀ r x, W r → p r = .error (50, x) → ∃ a t b, r = a ++ t :: b ∧ t.p = x ∧ ∀ e, Ed e x → p (a ++ [e]) = .error (50, x)
theorem ok1_of {p : Sp} (h : OkC p) : Ok1 (p []) := fun r c1 s hw e => h [] r c1 s hw e
theorem cut1_of {p : Sp} (h : CutC p) : Cut1 (p []) := fun r x hw e => h [] r x hw e
theorem ok1_rotd {p : List Tok → Rs} (h : Ok1 p) : Ok1 (rotd p) := by
  intro r c1 s hw e
  obtain ⟨c0, e0, rfl⟩ := rotd_inv e
  obtain ⟨w1, a, rfl, e1⟩ := h _ _ _ hw e0
  exact ⟨w1, a, rfl, fun a2 t b e hq he => by simp only [rotd, e1 a2 t b e hq he]⟩
theorem cut1_rotd {p : List Tok → Rs} (h : Cut1 p) : Cut1 (rotd p) := by
  intro r x hw e
  simp only [rotd] at e
  cases hq : p r with
  | error y =>
    rw [hq] at e; injection e with e; subst e
    obtain ⟨a, t, b, e1, e2, e3⟩ := h _ _ hw hq
    exact ⟨a, t, b, e1, e2, fun e he => by simp only [rotd, e3 e he]⟩
  | ok q => obtain ⟨c, r1⟩ := q; rw [hq] at e; cases e
/-- rows -/
theorem ok_rw (word : List UInt8) (hword : word ≠ []) (most : Nat) (body : List Tok → Rs) (hm : Mon body) (hb : Ok1 body) : ∀ (n : Nat) (L : List (List D)) (r : List Tok) (L' : List (List D)) (s : List Tok), r.length ≤ n → W r → rw_ word most body L r = .ok (L', s) → W s ∧ ∃ a, r = a ++ s ∧ ∀ a2 t b e, s = a2 ++ t :: b → Ed e t.p → rw_ word most body L (a ++ (a2 ++ [e])) = .ok (L', a2 ++ [e])
  | n, L, [], L', s, _, hw, _ => absurd rfl hw.ne
  | n, L, t :: r, L', s, hn, hw, h => by
    have h0 := h
    rw [rw_cons _ _ _ hm] at h
    by_cases ht : t.s = word
    · rw [if_pos ht] at h
      by_cases hl : L.length = most
      · rw [if_pos hl] at h; cases h
      · rw [if_neg hl] at h
        cases hq : body r with
        | error y => rw [hq] at h; cases h
        | ok z =>
          obtain ⟨d, r'⟩ := z
          rw [hq] at h
          obtain ⟨w1, a, rfl, e1⟩ := hb _ _ _ (hw.tail (.inr (by rw [ht]; exact hword))) hq
          have hlen := hm _ _ _ hq
          cases n with
          | zero => simp at hn
          | succ n =>
            obtain ⟨w2, a', rfl, e2⟩ := ok_rw word hword most body hm hb n _ r' L' s (by simp at hn hlen; omega) w1 h
            refine ⟨w2, t :: (a ++ a'), by simp, fun a2 u b e hs he => ?_⟩
            have f1 := e1 (a' ++ a2) u b e (by rw [hs]; simp) he
            have f2 := e2 a2 u b e hs he
            rw [List.append_assoc] at f1
            rw [List.cons_append, rw_cons _ _ _ hm, if_pos ht, if_neg hl, List.append_assoc, f1]
            exact f2
    · rw [if_neg ht] at h
      simp at h
      obtain ⟨rfl, rfl⟩ := h
      refine ⟨hw, [], rfl, fun a2 u b e hs he => ?_⟩
      cases a2 with
      | nil => rw [List.nil_append, List.nil_append, rw_cons _ _ _ hm, if_neg (by rw [he.2.1]; exact fun x => hword x.symm)]
      | cons v a2 => simp at hs; obtain ⟨rfl, _⟩ := hs; rw [List.nil_append, List.cons_append, rw_cons _ _ _ hm, if_neg ht]
theorem cut_rw (word : List UInt8) (hword : word ≠ []) (most : Nat) (body : List Tok → Rs) (hm : Mon body) (hb : Ok1 body) (hc : Cut1 body) : ∀ (n : Nat) (L : List (List D)) (r : List Tok) (x : Int), r.length ≤ n → W r → rw_ word most body L r = .error (50, x) → ∃ a t b, r = a ++ t :: b ∧ t.p = x ∧ ∀ e, Ed e x → rw_ word most body L (a ++ [e]) = .error (50, x)
  | n, L, [], x, _, hw, _ => absurd rfl hw.ne
  | n, L, t :: r, x, hn, hw, h => by
    rw [rw_cons _ _ _ hm] at h
    by_cases ht : t.s = word
    · rw [if_pos ht] at h
      by_cases hl : L.length = most
      · rw [if_pos hl] at h; simp at h
      · rw [if_neg hl] at h
        cases hq : body r with
        | error y =>
          rw [hq] at h; injection h with h; subst h
          obtain ⟨a, u, b, rfl, e2, e3⟩ := hc _ _ (hw.tail (.inr (by rw [ht]; exact hword))) hq
          exact ⟨t :: a, u, b, rfl, e2, fun e he => by rw [List.cons_append, rw_cons _ _ _ hm, if_pos ht, if_neg hl, e3 e he]⟩
        | ok z =>
          obtain ⟨d, r'⟩ := z
          rw [hq] at h
          obtain ⟨w1, a, rfl, e1⟩ := hb _ _ _ (hw.tail (.inr (by rw [ht]; exact hword))) hq
          have hlen := hm _ _ _ hq
          cases n with
          | zero => simp at hn
          | succ n =>
            obtain ⟨a', u, b, rfl, e2, e3⟩ := cut_rw word hword most body hm hb hc n _ r' x (by simp at hn hlen; omega) w1 h
            refine ⟨t :: (a ++ a'), u, b, by simp, e2, fun e he => ?_⟩
            have f1 := e1 a' u b e rfl (e2 ▸ he)
            rw [List.cons_append, rw_cons _ _ _ hm, if_pos ht, if_neg hl, List.append_assoc, f1]
            exact e3 e he
    · rw [if_neg ht] at h; cases h
theorem okc_row {word : List UInt8} (hword : word ≠ []) {most e z : Nat} {body : List Tok → Rs} (hm : Mon body) (hb : Ok1 body) : OkC (pRow word most e z body) := by
  intro c r c1 s hw h
  simp only [pRow] at h
  cases hq : rw_ word most body [] r with
  | error y => rw [show rwz word most body (r.length + 1) [] r = _ from hq] at h; cases h
  | ok q =>
    obtain ⟨L, s'⟩ := q
    rw [show rwz word most body (r.length + 1) [] r = _ from hq] at h
    simp at h
    obtain ⟨rfl, rfl⟩ := h
    obtain ⟨w1, a, e0, e1⟩ := ok_rw word hword most body hm hb _ _ _ _ _ (Nat.le_refl _) hw hq
    refine ⟨w1, a, e0, fun a2 t b e hs he => ?_⟩
    have := e1 a2 t b e hs he
    simp only [pRow]
    rw [show rwz word most body ((a ++ (a2 ++ [e])).length + 1) [] (a ++ (a2 ++ [e])) = _ from this]
theorem cut_row {word : List UInt8} (hword : word ≠ []) {most e z : Nat} {body : List Tok → Rs} (hm : Mon body) (hb : Ok1 body) (hc : Cut1 body) : CutC (pRow word most e z body) := by
  intro c r x hw h
  simp only [pRow] at h
  cases hq : rw_ word most body [] r with
  | error y =>
    rw [show rwz word most body (r.length + 1) [] r = _ from hq] at h
    injection h with h
    subst h
    obtain ⟨a, t, b, e1, e2, e3⟩ := cut_rw word hword most body hm hb hc _ _ _ _ (Nat.le_refl _) hw hq
    refine ⟨a, t, b, e1, e2, fun e he => ?_⟩
    have := e3 e he
    simp only [pRow]
    rw [show rwz word most body ((a ++ [e]).length + 1) [] (a ++ [e]) = _ from this]
  | ok q => obtain ⟨L, s'⟩ := q; rw [show rwz word most body (r.length + 1) [] r = _ from hq] at h; cases h
end Go.Proofs.YtmplckdpddmifaaGreatDoor
namespace Go.Proofs.YtmplckdpddmifaaGreatDoor
set_option linter.unusedVariables false
set_option linter.unusedSimpArgs false
theorem ok_nm (most : Nat) : ∀ (n : Nat) (L : List (List D)) (r : List Tok) (L' : List (List D)) (s : List Tok), r.length ≤ n → W r → nm most L r = .ok (L', s) → W s ∧ ∃ a, r = a ++ s ∧ ∀ a2 t b e, s = a2 ++ t :: b → Ed e t.p → nm most L (a ++ (a2 ++ [e])) = .ok (L', a2 ++ [e])
  | n, L, [], L', s, _, hw, _ => absurd rfl hw.ne
  | n, L, t :: r, L', s, hn, hw, h => by
    rw [nm_cons] at h
    by_cases ht : t.k = 1 ∧ ¬ t.s ∈ words
    · rw [if_pos ht] at h
      by_cases hl : L.length = most
      · rw [if_pos hl] at h; cases h
      · rw [if_neg hl] at h
        have w1 := hw.tail (.inl (by rw [ht.1]; decide))
        cases r with
        | nil => exact absurd rfl w1.ne
        | cons u r2 =>
          simp only at h
          by_cases hu : u.s = [44]
          · rw [if_pos hu] at h
            have w2 := w1.tail (.inr (by rw [hu]; simp))
            cases n with
            | zero => simp at hn
            | succ n =>
              obtain ⟨w3, a, rfl, e1⟩ := ok_nm most n _ r2 L' s (by simp at hn; omega) w2 h
              refine ⟨w3, t :: u :: a, by simp, fun a2 v b e hs he => ?_⟩
              have f1 := e1 a2 v b e hs he
              rw [List.cons_append, nm_cons, if_pos ht, if_neg hl, List.cons_append]
              simp only [if_pos hu]
              exact f1
          · rw [if_neg hu] at h
            simp at h
            obtain ⟨rfl, rfl⟩ := h
            refine ⟨w1, [t], rfl, fun a2 v b e hs he => ?_⟩
            rw [List.cons_append, nm_cons, if_pos ht, if_neg hl]
            cases a2 with
            | nil => simp [he.2.1]
            | cons q a2 => simp at hs; obtain ⟨rfl, _⟩ := hs; simp [hu]
    · rw [if_neg ht] at h; cases h
theorem cut_nm (most : Nat) : ∀ (n : Nat) (L : List (List D)) (r : List Tok) (x : Int), r.length ≤ n → W r → nm most L r = .error (50, x) → ∃ a t b, r = a ++ t :: b ∧ t.p = x ∧ ∀ e, Ed e x → nm most L (a ++ [e]) = .error (50, x)
  | n, L, [], x, _, hw, _ => absurd rfl hw.ne
  | n, L, t :: r, x, hn, hw, h => by
    rw [nm_cons] at h
    by_cases ht : t.k = 1 ∧ ¬ t.s ∈ words
    · rw [if_pos ht] at h
      by_cases hl : L.length = most
      · rw [if_pos hl] at h; simp at h
      · rw [if_neg hl] at h
        have w1 := hw.tail (.inl (by rw [ht.1]; decide))
        cases r with
        | nil => exact absurd rfl w1.ne
        | cons u r2 =>
          simp only at h
          by_cases hu : u.s = [44]
          · rw [if_pos hu] at h
            have w2 := w1.tail (.inr (by rw [hu]; simp))
            cases n with
            | zero => simp at hn
            | succ n =>
              obtain ⟨a, v, b, rfl, e2, e3⟩ := cut_nm most n _ r2 x (by simp at hn; omega) w2 h
              refine ⟨t :: u :: a, v, b, rfl, e2, fun e he => ?_⟩
              rw [List.cons_append, nm_cons, if_pos ht, if_neg hl, List.cons_append]
              simp only [if_pos hu]
              exact e3 e he
          · rw [if_neg hu] at h; cases h
    · rw [if_neg ht] at h
      simp at h
      exact ⟨[], t, r, rfl, h, fun e he => by rw [List.nil_append, nm_cons, if_neg (by rw [he.1]; simp), he.2.2]⟩
theorem okc_names (e most : Nat) : OkC (pNames e most) := by
  intro c r c1 s hw h
  simp only [pNames] at h
  cases hq : nm most [] r with
  | error y => rw [show nmz most (r.length + 1) [] r = _ from hq] at h; cases h
  | ok q =>
    obtain ⟨L, s'⟩ := q
    rw [show nmz most (r.length + 1) [] r = _ from hq] at h
    simp at h
    obtain ⟨rfl, rfl⟩ := h
    obtain ⟨w1, a, e0, e1⟩ := ok_nm most _ _ _ _ _ (Nat.le_refl _) hw hq
    refine ⟨w1, a, e0, fun a2 t b e hs he => ?_⟩
    have := e1 a2 t b e hs he
    simp only [pNames]
    rw [show nmz most ((a ++ (a2 ++ [e])).length + 1) [] (a ++ (a2 ++ [e])) = _ from this]
theorem cut_names (e most : Nat) : CutC (pNames e most) := by
  intro c r x hw h
  simp only [pNames] at h
  cases hq : nm most [] r with
  | error y =>
    rw [show nmz most (r.length + 1) [] r = _ from hq] at h
    injection h with h
    subst h
    obtain ⟨a, t, b, e1, e2, e3⟩ := cut_nm most _ _ _ _ (Nat.le_refl _) hw hq
    refine ⟨a, t, b, e1, e2, fun e he => ?_⟩
    have := e3 e he
    simp only [pNames]
    rw [show nmz most ((a ++ [e]).length + 1) [] (a ++ [e]) = _ from this]
  | ok q => obtain ⟨L, s'⟩ := q; rw [show nmz most (r.length + 1) [] r = _ from hq] at h; cases h
/-- what the grade's two steps come to -/
theorem grade_by (c : List D) (r : List Tok) : pGrade c r = match sq [pMay [45], pNum] [] r with
    | .error x => .error x
    | .ok ([.val (.bool b), .val (.int .i64 n)], r') => .ok (c ++ [dI (if b then -n else n)], r')
    | .ok _ => .error (0, 0) := rfl
theorem okc_two : OkC (sq [pMay [45], pNum]) := okc_cons (okc_may (by decide)) (okc_cons okc_num okc_nil)
theorem cut_two : CutC (sq [pMay [45], pNum]) := cut_cons (okc_may (by decide)) cut_may (cut_cons okc_num cut_num cut_nil)
theorem okc_grade : OkC pGrade := by
  intro c r c1 s hw h
  rw [grade_by] at h
  cases hq : sq [pMay [45], pNum] [] r with
  | error y => rw [hq] at h; cases h
  | ok q =>
    obtain ⟨c2, s'⟩ := q
    rw [hq] at h
    obtain ⟨w1, a, e0, e1⟩ := okc_two _ _ _ _ hw hq
    have hs : s' = s := by
      revert h
      split
      · intro h; cases h
      · rename_i e2; injection e2 with e2; injection e2 with _ e2; intro h; simp at h; rw [e2]; exact h.2
      · intro h; cases h
    subst hs
    refine ⟨w1, a, e0, fun a2 t b e hq2 he => ?_⟩
    rw [grade_by, e1 a2 t b e hq2 he]
    revert h
    split
    · rename_i e2; cases e2
    · rename_i e2; injection e2 with e2; injection e2 with e3 e2; subst e3; intro h; simp at h; simp [h.1]
    · intro h; cases h
theorem cut_grade : CutC pGrade := by
  intro c r x hw h
  rw [grade_by] at h
  cases hq : sq [pMay [45], pNum] [] r with
  | error y =>
    rw [hq] at h
    injection h with h
    subst h
    obtain ⟨a, t, b, e1, e2, e3⟩ := cut_two _ _ _ hw hq
    exact ⟨a, t, b, e1, e2, fun e he => by rw [grade_by, e3 e he]⟩
  | ok q =>
    obtain ⟨c2, s'⟩ := q
    rw [hq] at h
    revert h
    split
    · rename_i e2; cases e2
    · intro h; cases h
    · intro h; simp at h
end Go.Proofs.YtmplckdpddmifaaGreatDoor
namespace Go.Proofs.YtmplckdpddmifaaGreatDoor
set_option linter.unusedVariables false
set_option linter.unusedSimpArgs false
theorem okc_frac : OkC pFrac := okc_cons okc_num (okc_cons (okc_the (by decide)) (okc_cons okc_num okc_nil))
theorem cut_frac : CutC pFrac := cut_cons okc_num cut_num (cut_cons (okc_the (by decide)) (cut_the (by decide)) (cut_cons okc_num cut_num cut_nil))
theorem ok_foe1 : Ok1 pFoe := ok1_rotd (ok1_of (by repeat (first | exact okc_nil | (refine okc_cons ?_ ?_; first | exact okc_pos | exact okc_name | exact okc_num | exact okc_the (by decide) | exact okc_frac | exact okc_grade | exact okc_may (by decide) | exact okc_names _ _ | exact okc_some))))
theorem cut_foe1 : Cut1 pFoe := cut1_rotd (cut1_of (by repeat (first | exact cut_nil | (refine cut_cons ?_ ?_ ?_; (first | exact okc_pos | exact okc_name | exact okc_num | exact okc_the (by decide) | exact okc_frac | exact okc_grade | exact okc_may (by decide) | exact okc_names _ _ | exact okc_some); (first | exact cut_pos | exact cut_name | exact cut_num | exact cut_the (by decide) | exact cut_frac | exact cut_grade | exact cut_may | exact cut_names _ _ | exact cut_some)))))
theorem ok_walk1 : Ok1 pWalk := ok1_rotd (ok1_of (by repeat (first | exact okc_nil | (refine okc_cons ?_ ?_; first | exact okc_pos | exact okc_name | exact okc_num | exact okc_the (by decide) | exact okc_frac | exact okc_grade | exact okc_may (by decide) | exact okc_names _ _ | exact okc_some))))
theorem cut_walk1 : Cut1 pWalk := cut1_rotd (cut1_of (by repeat (first | exact cut_nil | (refine cut_cons ?_ ?_ ?_; (first | exact okc_pos | exact okc_name | exact okc_num | exact okc_the (by decide) | exact okc_frac | exact okc_grade | exact okc_may (by decide) | exact okc_names _ _ | exact okc_some); (first | exact cut_pos | exact cut_name | exact cut_num | exact cut_the (by decide) | exact cut_frac | exact cut_grade | exact cut_may | exact cut_names _ _ | exact cut_some)))))
theorem ok_stop1 : Ok1 pStop := ok1_rotd (ok1_of (by repeat (first | exact okc_nil | (refine okc_cons ?_ ?_; first | exact okc_pos | exact okc_name | exact okc_num | exact okc_the (by decide) | exact okc_frac | exact okc_grade | exact okc_may (by decide) | exact okc_names _ _ | exact okc_some))))
theorem cut_stop1 : Cut1 pStop := cut1_rotd (cut1_of (by repeat (first | exact cut_nil | (refine cut_cons ?_ ?_ ?_; (first | exact okc_pos | exact okc_name | exact okc_num | exact okc_the (by decide) | exact okc_frac | exact okc_grade | exact okc_may (by decide) | exact okc_names _ _ | exact okc_some); (first | exact cut_pos | exact cut_name | exact cut_num | exact cut_the (by decide) | exact cut_frac | exact cut_grade | exact cut_may | exact cut_names _ _ | exact cut_some)))))
theorem ok_head1 : Ok1 pHead := ok1_rotd (ok1_of (by repeat (first | exact okc_nil | (refine okc_cons ?_ ?_; first | exact okc_pos | exact okc_name | exact okc_num | exact okc_the (by decide) | exact okc_frac | exact okc_grade | exact okc_may (by decide) | exact okc_names _ _ | exact okc_some))))
theorem cut_head1 : Cut1 pHead := cut1_rotd (cut1_of (by repeat (first | exact cut_nil | (refine cut_cons ?_ ?_ ?_; (first | exact okc_pos | exact okc_name | exact okc_num | exact okc_the (by decide) | exact okc_frac | exact okc_grade | exact okc_may (by decide) | exact okc_names _ _ | exact okc_some); (first | exact cut_pos | exact cut_name | exact cut_num | exact cut_the (by decide) | exact cut_frac | exact cut_grade | exact cut_may | exact cut_names _ _ | exact cut_some)))))
theorem ok_phase1 : Ok1 pPhase := ok1_rotd (ok1_of (by repeat (first | exact okc_nil | (refine okc_cons ?_ ?_; first | exact okc_pos | exact okc_name | exact okc_num | exact okc_the (by decide) | exact okc_frac | exact okc_grade | exact okc_may (by decide) | exact okc_names _ _ | exact okc_some))))
theorem cut_phase1 : Cut1 pPhase := cut1_rotd (cut1_of (by repeat (first | exact cut_nil | (refine cut_cons ?_ ?_ ?_; (first | exact okc_pos | exact okc_name | exact okc_num | exact okc_the (by decide) | exact okc_frac | exact okc_grade | exact okc_may (by decide) | exact okc_names _ _ | exact okc_some); (first | exact cut_pos | exact cut_name | exact cut_num | exact cut_the (by decide) | exact cut_frac | exact cut_grade | exact cut_may | exact cut_names _ _ | exact cut_some)))))
theorem ok_ring1 : Ok1 pRing := ok1_of (by repeat (first | exact okc_nil | (refine okc_cons ?_ ?_; first | exact okc_pos | exact okc_name | exact okc_num | exact okc_the (by decide) | exact okc_frac | exact okc_grade | exact okc_may (by decide) | exact okc_names _ _ | exact okc_some)))
theorem cut_ring1 : Cut1 pRing := cut1_of (by repeat (first | exact cut_nil | (refine cut_cons ?_ ?_ ?_; (first | exact okc_pos | exact okc_name | exact okc_num | exact okc_the (by decide) | exact okc_frac | exact okc_grade | exact okc_may (by decide) | exact okc_names _ _ | exact okc_some); (first | exact cut_pos | exact cut_name | exact cut_num | exact cut_the (by decide) | exact cut_frac | exact cut_grade | exact cut_may | exact cut_names _ _ | exact cut_some))))
theorem ok_group1 : Ok1 pGroup := ok1_of (by repeat (first | exact okc_nil | (refine okc_cons ?_ ?_; first | exact okc_pos | exact okc_name | exact okc_num | exact okc_the (by decide) | exact okc_frac | exact okc_grade | exact okc_may (by decide) | exact okc_names _ _ | exact okc_some | exact okc_row (by decide) mon_ring ok_ring1)))
theorem cut_group1 : Cut1 pGroup := cut1_of (by repeat (first | exact cut_nil | (refine cut_cons ?_ ?_ ?_; (first | exact okc_pos | exact okc_name | exact okc_num | exact okc_the (by decide) | exact okc_frac | exact okc_grade | exact okc_may (by decide) | exact okc_names _ _ | exact okc_some | exact okc_row (by decide) mon_ring ok_ring1); (first | exact cut_pos | exact cut_name | exact cut_num | exact cut_the (by decide) | exact cut_frac | exact cut_grade | exact cut_may | exact cut_names _ _ | exact cut_some | exact cut_row (by decide) mon_ring ok_ring1 cut_ring1))))
theorem ok_node1 : Ok1 pNode := ok1_rotd (ok1_of (by repeat (first | exact okc_nil | (refine okc_cons ?_ ?_; first | exact okc_pos | exact okc_name | exact okc_num | exact okc_the (by decide) | exact okc_frac | exact okc_grade | exact okc_may (by decide) | exact okc_names _ _ | exact okc_some | exact okc_row (by decide) mon_head ok_head1 | exact okc_row (by decide) mon_walk ok_walk1 | exact okc_row (by decide) mon_phase ok_phase1 | exact okc_row (by decide) mon_group ok_group1 | exact okc_row (by decide) mon_foe ok_foe1))))
theorem cut_node1 : Cut1 pNode := cut1_rotd (cut1_of (by repeat (first | exact cut_nil | (refine cut_cons ?_ ?_ ?_; (first | exact okc_pos | exact okc_name | exact okc_num | exact okc_the (by decide) | exact okc_frac | exact okc_grade | exact okc_may (by decide) | exact okc_names _ _ | exact okc_some | exact okc_row (by decide) mon_head ok_head1 | exact okc_row (by decide) mon_walk ok_walk1 | exact okc_row (by decide) mon_phase ok_phase1 | exact okc_row (by decide) mon_group ok_group1 | exact okc_row (by decide) mon_foe ok_foe1); (first | exact cut_pos | exact cut_name | exact cut_num | exact cut_the (by decide) | exact cut_frac | exact cut_grade | exact cut_may | exact cut_names _ _ | exact cut_some | exact cut_row (by decide) mon_head ok_head1 cut_head1 | exact cut_row (by decide) mon_walk ok_walk1 cut_walk1 | exact cut_row (by decide) mon_phase ok_phase1 cut_phase1 | exact cut_row (by decide) mon_group ok_group1 cut_group1 | exact cut_row (by decide) mon_foe ok_foe1 cut_foe1)))))
/-- the artery behind its word -/
def artIn : List Sp := [pThe [123], pRow [115, 116, 111, 112] 12 114 6 pStop, pThe [119, 101, 105, 103, 104, 116, 115], pNum, pNum, pThe [59], pThe [125]]
theorem okc_artIn : OkC (sq artIn) := (by repeat (first | exact okc_nil | (refine okc_cons ?_ ?_; first | exact okc_pos | exact okc_name | exact okc_num | exact okc_the (by decide) | exact okc_frac | exact okc_grade | exact okc_may (by decide) | exact okc_names _ _ | exact okc_some | exact okc_row (by decide) mon_stop ok_stop1)))
theorem cut_artIn : CutC (sq artIn) := (by repeat (first | exact cut_nil | (refine cut_cons ?_ ?_ ?_; (first | exact okc_pos | exact okc_name | exact okc_num | exact okc_the (by decide) | exact okc_frac | exact okc_grade | exact okc_may (by decide) | exact okc_names _ _ | exact okc_some | exact okc_row (by decide) mon_stop ok_stop1); (first | exact cut_pos | exact cut_name | exact cut_num | exact cut_the (by decide) | exact cut_frac | exact cut_grade | exact cut_may | exact cut_names _ _ | exact cut_some | exact cut_row (by decide) mon_stop ok_stop1 cut_stop1))))
theorem art_yes {c : List D} {t : Tok} {r : List Tok} (h : t.s = [97, 114, 116, 101, 114, 121]) : pArt c (t :: r) = sq artIn c r := by simp [pArt, pMay, h, dB, artIn]
theorem art_no {c : List D} {t : Tok} {r : List Tok} (h : ¬ t.s = [97, 114, 116, 101, 114, 121]) : pArt c (t :: r) = .ok (c ++ [.row 114 6 [], dI 0, dI 0], t :: r) := by simp [pArt, pMay, h, dB]
theorem okc_art : OkC pArt := by
  intro c r c1 s hw h
  cases r with
  | nil => exact absurd rfl hw.ne
  | cons t r =>
    by_cases ht : t.s = [97, 114, 116, 101, 114, 121]
    · rw [art_yes ht] at h
      obtain ⟨w1, a, rfl, e1⟩ := okc_artIn _ _ _ _ (hw.tail (.inr (by rw [ht]; simp))) h
      exact ⟨w1, t :: a, rfl, fun a2 u b e hs he => by rw [List.cons_append, art_yes ht]; exact e1 a2 u b e hs he⟩
    · rw [art_no ht] at h
      simp only [Except.ok.injEq, Prod.mk.injEq] at h
      obtain ⟨rfl, rfl⟩ := h
      refine ⟨hw, [], rfl, fun a2 u b e hs he => ?_⟩
      cases a2 with
      | nil => rw [List.nil_append, List.nil_append, art_no (by rw [he.2.1]; simp)]
      | cons v a2 => simp at hs; obtain ⟨rfl, _⟩ := hs; rw [List.nil_append, List.cons_append, art_no ht]
theorem cut_art : CutC pArt := by
  intro c r x hw h
  cases r with
  | nil => exact absurd rfl hw.ne
  | cons t r =>
    by_cases ht : t.s = [97, 114, 116, 101, 114, 121]
    · rw [art_yes ht] at h
      obtain ⟨a, u, b, rfl, e2, e3⟩ := cut_artIn _ _ _ (hw.tail (.inr (by rw [ht]; simp))) h
      exact ⟨t :: a, u, b, rfl, e2, fun e he => by rw [List.cons_append, art_yes ht]; exact e3 e he⟩
    · rw [art_no ht] at h; cases h
theorem sq_app : ∀ (ps qs : List Sp) (c : List D) (r : List Tok), sq (ps ++ qs) c r = match sq ps c r with | .error x => .error x | .ok (c', r') => sq qs c' r'
  | [], qs, c, r => rfl
  | p :: ps, qs, c, r => by
    simp only [List.cons_append, sq]
    cases p c r with
    | error x => rfl
    | ok q => obtain ⟨c', r'⟩ := q; exact sq_app ps qs c' r'
def netIn : List Sp := [pThe [99, 121, 99, 108, 101], pNum, pThe [116, 111], pNum, pThe [98, 121], pNum, pThe [59], pThe [112, 101, 97, 107], pFrac, pThe [59], pRow [110, 111, 100, 101] 12 61 7 pNode, pArt]
theorem net_by (r : List Tok) : pNet r = match sq netIn [] r with | .error x => .error x | .ok (c', r') => sq [pEnd] c' r' := sq_app netIn [pEnd] [] r
theorem okc_net : OkC (sq netIn) := (by repeat (first | exact okc_nil | (refine okc_cons ?_ ?_; first | exact okc_pos | exact okc_name | exact okc_num | exact okc_the (by decide) | exact okc_frac | exact okc_grade | exact okc_may (by decide) | exact okc_names _ _ | exact okc_art | exact okc_row (by decide) mon_node ok_node1)))
theorem cut_net : CutC (sq netIn) := (by repeat (first | exact cut_nil | (refine cut_cons ?_ ?_ ?_; (first | exact okc_pos | exact okc_name | exact okc_num | exact okc_the (by decide) | exact okc_frac | exact okc_grade | exact okc_may (by decide) | exact okc_names _ _ | exact okc_art | exact okc_row (by decide) mon_node ok_node1); (first | exact cut_pos | exact cut_name | exact cut_num | exact cut_the (by decide) | exact cut_frac | exact cut_grade | exact cut_may | exact cut_names _ _ | exact cut_art | exact cut_row (by decide) mon_node ok_node1 cut_node1))))
/-- where another token was wanted: what is read ahead of it is a network, or its end is wrong -/
theorem net_cut {r : List Tok} {x : Int} (hw : W r) (h : pNet r = .error (50, x)) : ∃ a t b, r = a ++ t :: b ∧ t.p = x ∧ ∀ e, Ed e x → pNet (a ++ [e]) = .error (50, x) ∨ ∃ y, pNet (a ++ [e]) = .ok y := by
  rw [net_by] at h
  cases hq : sq netIn [] r with
  | error y =>
    rw [hq] at h
    injection h with h
    subst h
    obtain ⟨a, t, b, e1, e2, e3⟩ := cut_net _ _ _ hw hq
    exact ⟨a, t, b, e1, e2, fun e he => .inl (by rw [net_by, e3 e he])⟩
  | ok z =>
    obtain ⟨c, s⟩ := z
    rw [hq] at h
    obtain ⟨w1, a, rfl, e1⟩ := okc_net _ _ _ _ hw hq
    cases s with
    | nil => exact absurd rfl w1.ne
    | cons t s =>
      have hx : t.p = x := by
        simp only [sq, pEnd, bad] at h
        split at h
        · rename_i h2; split at h2 <;> simp at h2; rw [← h2] at h; simp at h; exact h
        · cases h
      refine ⟨a, t, s, rfl, hx, fun e he => .inr ?_⟩
      have f := e1 [] t s e rfl (hx ▸ he)
      rw [List.nil_append] at f
      exact ⟨(c, [e]), by rw [net_by, f]; simp [sq, pEnd, he.1]⟩
end Go.Proofs.YtmplckdpddmifaaGreatDoor
namespace Go.Proofs.YtmplckdpddmifaaGreatDoor
set_option linter.unusedVariables false
set_option linter.unusedSimpArgs false
/-- a token without its place -/
def q0 (t : Tok) : Tok := ⟨t.k, t.s, t.n, 0⟩
/-- does a thing of so many parts have a place (it stands last)? -/
def plc (z : Nat) : Bool := z == 3 || z == 6 || z == 7 || z == 11
mutual
/-- what is read without its places -/
def Z : D → D
  | .val v => .val v
  | .row e z L => .row e z (Zss (plc z) L)
def Zl : Bool → List D → List D
  | _, [] => []
  | b, d :: ds => (if b && ds.isEmpty then dI 0 else Z d) :: Zl b ds
def Zss : Bool → List (List D) → List (List D)
  | _, [] => []
  | b, ds :: L => Zl b ds :: Zss b L
end
theorem zl_false : ∀ ds : List D, Zl false ds = ds.map Z
  | [] => by simp [Zl]
  | d :: ds => by simp [Zl, zl_false ds]
theorem zl_true : ∀ (ds : List D) (x : D), Zl true (ds ++ [x]) = ds.map Z ++ [dI 0]
  | [], x => by simp [Zl]
  | d :: ds, x => by simp [Zl, zl_true ds x]
theorem zss_map (b : Bool) : ∀ L : List (List D), Zss b L = L.map (Zl b)
  | [] => by simp [Zss]
  | ds :: L => by simp [Zss, zss_map b L]
theorem zss_len (b : Bool) (L : List (List D)) : (Zss b L).length = L.length := by rw [zss_map]; simp
theorem q0_nil {r' : List Tok} (h : ([] : List Tok).map q0 = r'.map q0) : r' = [] := by cases r' with | nil => rfl | cons => simp at h
theorem q0_cons {t : Tok} {r r' : List Tok} (h : (t :: r).map q0 = r'.map q0) : ∃ t' r2, r' = t' :: r2 ∧ t'.k = t.k ∧ t'.s = t.s ∧ t'.n = t.n ∧ r.map q0 = r2.map q0 := by
  cases r' with
  | nil => simp at h
  | cons t' r2 =>
    simp [q0] at h
    exact ⟨t', r2, rfl, h.1.1.symm, h.1.2.1.symm, h.1.2.2.symm, by simpa [q0] using h.2⟩
def Out (c c' : List D) (x y : Rs) : Prop := match x, y with
  | .error e, .error f => e.1 = f.1
  | .ok (c1, s), .ok (c2, s') => s.map q0 = s'.map q0 ∧ ∃ d d', c1 = c ++ d ∧ c2 = c' ++ d' ∧ d.map Z = d'.map Z
  | _, _ => False
/-- a step that reads alike, whatever was read ahead -/
def PlC (p : Sp) : Prop := ∀ c c' r r', r.map q0 = r'.map q0 → Out c c' (p c r) (p c' r')
theorem out_bad {c c' : List D} {e : Int} {r r' : List Tok} (h : r.map q0 = r'.map q0) : Out c c' (bad e r) (bad e r') := by
  cases r with
  | nil => obtain rfl := q0_nil h; simp [bad, Out]
  | cons t r => obtain ⟨t', r2, rfl, _⟩ := q0_cons h; simp [bad, Out]
theorem out_ok {c c' d d' : List D} {s s' : List Tok} (h : s.map q0 = s'.map q0) (hd : d.map Z = d'.map Z) : Out c c' (.ok (c ++ d, s)) (.ok (c' ++ d', s')) := ⟨h, d, d', rfl, rfl, hd⟩
theorem out_ok0 {c c' : List D} {s s' : List Tok} (h : s.map q0 = s'.map q0) : Out c c' (.ok (c, s)) (.ok (c', s')) := ⟨h, [], [], by simp, by simp, rfl⟩
theorem pl_the (w : List UInt8) : PlC (pThe w) := by
  intro c c' r r' h
  cases r with
  | nil => obtain rfl := q0_nil h; simp [pThe, bad, Out]
  | cons t r =>
    obtain ⟨t', r2, rfl, hk, hs, hn, h2⟩ := q0_cons h
    simp only [pThe, hs]
    by_cases ht : t.s = w
    · rw [if_pos ht, if_pos ht]; exact out_ok0 h2
    · rw [if_neg ht, if_neg ht]; exact out_bad h
theorem pl_name : PlC pName := by
  intro c c' r r' h
  cases r with
  | nil => obtain rfl := q0_nil h; simp [pName, bad, Out]
  | cons t r =>
    obtain ⟨t', r2, rfl, hk, hs, hn, h2⟩ := q0_cons h
    simp only [pName, hs, hk]
    by_cases ht : t.k = 1 ∧ ¬ t.s ∈ words
    · rw [if_pos ht, if_pos ht]; exact out_ok h2 rfl
    · rw [if_neg ht, if_neg ht]; exact out_bad h
theorem pl_num : PlC pNum := by
  intro c c' r r' h
  cases r with
  | nil => obtain rfl := q0_nil h; simp [pNum, bad, Out]
  | cons t r =>
    obtain ⟨t', r2, rfl, hk, hs, hn, h2⟩ := q0_cons h
    simp only [pNum, hn, hk]
    by_cases ht : t.k = 2
    · rw [if_pos ht, if_pos ht]; exact out_ok h2 rfl
    · rw [if_neg ht, if_neg ht]; exact out_bad h
theorem pl_end : PlC pEnd := by
  intro c c' r r' h
  cases r with
  | nil => obtain rfl := q0_nil h; simp [pEnd, bad, Out]
  | cons t r =>
    obtain ⟨t', r2, rfl, hk, hs, hn, h2⟩ := q0_cons h
    simp only [pEnd, hk]
    by_cases ht : t.k = 0
    · rw [if_pos ht, if_pos ht]; exact out_ok0 h
    · rw [if_neg ht, if_neg ht]; exact out_bad h
theorem pl_may (w : List UInt8) : PlC (pMay w) := by
  intro c c' r r' h
  cases r with
  | nil => obtain rfl := q0_nil h; simp [pMay, bad, Out]
  | cons t r =>
    obtain ⟨t', r2, rfl, hk, hs, hn, h2⟩ := q0_cons h
    simp only [pMay, hs]
    by_cases ht : t.s = w
    · rw [if_pos ht, if_pos ht]; exact out_ok h2 rfl
    · rw [if_neg ht, if_neg ht]; exact out_ok h rfl
theorem pl_nil : PlC (sq []) := fun c c' r r' h => out_ok0 h
theorem pl_cons {p : Sp} {ps : List Sp} (hp : PlC p) (h2 : PlC (sq ps)) : PlC (sq (p :: ps)) := by
  intro c c' r r' h
  have h1 := hp c c' r r' h
  simp only [sq]
  cases hx : p c r with
  | error x =>
    cases hy : p c' r' with
    | error y => rw [hx, hy] at h1; exact h1
    | ok y => rw [hx, hy] at h1; exact h1.elim
  | ok x =>
    cases hy : p c' r' with
    | error y => rw [hx, hy] at h1; exact h1.elim
    | ok y =>
      obtain ⟨c1, s⟩ := x
      obtain ⟨c2, s'⟩ := y
      rw [hx, hy] at h1
      obtain ⟨e1, d, d', rfl, rfl, e2⟩ := h1
      have h3 := h2 (c ++ d) (c' ++ d') s s' e1
      simp only
      cases hx2 : sq ps (c ++ d) s with
      | error x =>
        cases hy2 : sq ps (c' ++ d') s' with
        | error y => rw [hx2, hy2] at h3; exact h3
        | ok y => rw [hx2, hy2] at h3; exact h3.elim
      | ok x =>
        cases hy2 : sq ps (c' ++ d') s' with
        | error y => rw [hx2, hy2] at h3; exact h3.elim
        | ok y =>
          obtain ⟨c3, s3⟩ := x
          obtain ⟨c4, s4⟩ := y
          rw [hx2, hy2] at h3
          obtain ⟨e3, f, f', rfl, rfl, e4⟩ := h3
          rw [List.append_assoc, List.append_assoc]
          exact out_ok e3 (by simp [e2, e4])
/-- things that read alike -/
def PlB (b : Bool) (body : List Tok → Rs) : Prop := ∀ r r', r.map q0 = r'.map q0 → match body r, body r' with
  | .error e, .error f => e.1 = f.1
  | .ok (d, s), .ok (d', s') => s.map q0 = s'.map q0 ∧ Zl b d = Zl b d'
  | _, _ => False
theorem plb_of {p : Sp} (h : PlC p) : PlB false (p []) := by
  intro r r' hr
  have := h [] [] r r' hr
  cases hx : p [] r with
  | error x =>
    cases hy : p [] r' with
    | error y => rw [hx, hy] at this; exact this
    | ok y => rw [hx, hy] at this; exact this.elim
  | ok x =>
    cases hy : p [] r' with
    | error y => rw [hx, hy] at this; exact this.elim
    | ok y =>
      obtain ⟨c1, s⟩ := x
      obtain ⟨c2, s'⟩ := y
      rw [hx, hy] at this
      obtain ⟨e1, d, d', rfl, rfl, e2⟩ := this
      exact ⟨e1, by rw [zl_false, zl_false]; simpa using e2⟩
theorem plb_pos {ps : List Sp} (h : PlC (sq ps)) : PlB true (rotd (sq (pPos :: ps) [])) := by
  intro r r' hr
  cases r with
  | nil => obtain rfl := q0_nil hr; simp [rotd, sq, pPos, bad]
  | cons t r =>
    obtain ⟨t', r2, rfl, hk, hs, hn, h2⟩ := q0_cons hr
    have := h [dI t.p] [dI t'.p] (t :: r) (t' :: r2) hr
    simp only [rotd, sq, pPos, List.nil_append]
    cases hx : sq ps [dI t.p] (t :: r) with
    | error x =>
      cases hy : sq ps [dI t'.p] (t' :: r2) with
      | error y => rw [hx, hy] at this; exact this
      | ok y => rw [hx, hy] at this; exact this.elim
    | ok x =>
      cases hy : sq ps [dI t'.p] (t' :: r2) with
      | error y => rw [hx, hy] at this; exact this.elim
      | ok y =>
        obtain ⟨c1, s⟩ := x
        obtain ⟨c2, s'⟩ := y
        rw [hx, hy] at this
        obtain ⟨e1, d, d', rfl, rfl, e2⟩ := this
        refine ⟨e1, ?_⟩
        simp only [List.cons_append, List.nil_append, rot]
        rw [zl_true, zl_true, e2]
theorem pl_rw (word : List UInt8) (most : Nat) (b : Bool) (body : List Tok → Rs) (hm : Mon body) (hb : PlB b body) : ∀ (n : Nat) (L L' : List (List D)) (r r' : List Tok), r.length ≤ n → Zss b L = Zss b L' → r.map q0 = r'.map q0 → match rw_ word most body L r, rw_ word most body L' r' with
    | .error e, .error f => e.1 = f.1
    | .ok (M, s), .ok (M', s') => s.map q0 = s'.map q0 ∧ Zss b M = Zss b M'
    | _, _ => False
  | n, L, L', [], r', _, _, h => by obtain rfl := q0_nil h; simp [rw_, rwz]
  | n, L, L', t :: r, r', hn, hL, h => by
    obtain ⟨t', r2, rfl, hk, hs, _, h2⟩ := q0_cons h
    have hlen : L'.length = L.length := by rw [← zss_len b L, ← zss_len b L', hL]
    rw [rw_cons _ _ _ hm, rw_cons _ _ _ hm, hs]
    by_cases ht : t.s = word
    · rw [if_pos ht, if_pos ht, hlen]
      by_cases hl : L.length = most
      · rw [if_pos hl, if_pos hl]
      · rw [if_neg hl, if_neg hl]
        have h3 := hb r r2 h2
        cases hx : body r with
        | error x =>
          cases hy : body r2 with
          | error y => rw [hx, hy] at h3; exact h3
          | ok y => rw [hx, hy] at h3; exact h3.elim
        | ok x =>
          cases hy : body r2 with
          | error y => rw [hx, hy] at h3; exact h3.elim
          | ok y =>
            obtain ⟨d, s⟩ := x
            obtain ⟨d', s'⟩ := y
            rw [hx, hy] at h3
            have hlen2 := hm _ _ _ hx
            cases n with
            | zero => simp at hn
            | succ n => exact pl_rw word most b body hm hb n (L ++ [d]) (L' ++ [d']) s s' (by simp at hn; omega) (by rw [zss_map, zss_map] at hL ⊢; simp [hL, h3.2]) h3.1
    · rw [if_neg ht, if_neg ht]
      exact ⟨h, hL⟩
theorem pl_row {word : List UInt8} {most e z : Nat} {body : List Tok → Rs} (hm : Mon body) (hb : PlB (plc z) body) : PlC (pRow word most e z body) := by
  intro c c' r r' h
  have h1 := pl_rw word most (plc z) body hm hb _ [] [] r r' (Nat.le_refl _) rfl h
  simp only [pRow]
  rw [show rwz word most body (r.length + 1) [] r = rw_ word most body [] r from rfl, show rwz word most body (r'.length + 1) [] r' = rw_ word most body [] r' from rfl]
  cases hx : rw_ word most body [] r with
  | error x =>
    cases hy : rw_ word most body [] r' with
    | error y => rw [hx, hy] at h1; exact h1
    | ok y => rw [hx, hy] at h1; exact h1.elim
  | ok x =>
    cases hy : rw_ word most body [] r' with
    | error y => rw [hx, hy] at h1; exact h1.elim
    | ok y =>
      rw [hx, hy] at h1
      exact out_ok h1.1 (by simp only [List.map_cons, List.map_nil, Z, h1.2])
theorem pl_nm (most : Nat) : ∀ (n : Nat) (L : List (List D)) (r r' : List Tok), r.length ≤ n → r.map q0 = r'.map q0 → match nm most L r, nm most L r' with
    | .error e, .error f => e.1 = f.1
    | .ok (M, s), .ok (M', s') => s.map q0 = s'.map q0 ∧ M = M'
    | _, _ => False
  | n, L, [], r', _, h => by obtain rfl := q0_nil h; simp [nm, nmz, pName, bad]
  | n, L, t :: r, r', hn, h => by
    obtain ⟨t', r2, rfl, hk, hs, _, h2⟩ := q0_cons h
    rw [nm_cons, nm_cons, hs, hk]
    by_cases ht : t.k = 1 ∧ ¬ t.s ∈ words
    · rw [if_pos ht, if_pos ht]
      by_cases hl : L.length = most
      · rw [if_pos hl, if_pos hl]
      · rw [if_neg hl, if_neg hl]
        cases r with
        | nil => obtain rfl := q0_nil h2; simp
        | cons u r3 =>
          obtain ⟨u', r4, rfl, _, hs2, _, h4⟩ := q0_cons h2
          simp only [hs2]
          by_cases hu : u.s = [44]
          · rw [if_pos hu, if_pos hu]
            cases n with
            | zero => simp at hn
            | succ n => exact pl_nm most n _ r3 r4 (by simp at hn; omega) h4
          · rw [if_neg hu, if_neg hu]
            exact ⟨h2, rfl⟩
    · rw [if_neg ht, if_neg ht]
theorem pl_names (e most : Nat) : PlC (pNames e most) := by
  intro c c' r r' h
  have h1 := pl_nm most _ [] r r' (Nat.le_refl _) h
  simp only [pNames]
  rw [show nmz most (r.length + 1) [] r = nm most [] r from rfl, show nmz most (r'.length + 1) [] r' = nm most [] r' from rfl]
  cases hx : nm most [] r with
  | error x =>
    cases hy : nm most [] r' with
    | error y => rw [hx, hy] at h1; exact h1
    | ok y => rw [hx, hy] at h1; exact h1.elim
  | ok x =>
    cases hy : nm most [] r' with
    | error y => rw [hx, hy] at h1; exact h1.elim
    | ok y =>
      rw [hx, hy] at h1
      obtain ⟨h2, h3⟩ := h1
      simp only [h3]
      exact out_ok h2 rfl
theorem pl_grade : PlC pGrade := by
  intro c c' r r' h
  simp only [pGrade]
  cases r with
  | nil => obtain rfl := q0_nil h; simp [sq, pMay, bad, Out]
  | cons t r =>
    obtain ⟨t', r2, rfl, hk, hs, hn, h2⟩ := q0_cons h
    simp only [sq, pMay, hs]
    by_cases ht : t.s = [45]
    · simp only [if_pos ht]
      cases r with
      | nil => obtain rfl := q0_nil h2; simp [pNum, bad, Out]
      | cons u r3 =>
        obtain ⟨u', r4, rfl, hk2, hs2, hn2, h4⟩ := q0_cons h2
        simp only [pNum, hk2, hn2]
        by_cases hu : u.k = 2
        · simp only [if_pos hu, dB, dI, List.nil_append, List.cons_append]; exact out_ok h4 rfl
        · simp [if_neg hu, bad, Out]
    · simp only [if_neg ht, pNum, hk, hn]
      by_cases hu : t.k = 2
      · simp only [if_pos hu, dB, dI, List.nil_append, List.cons_append]; exact out_ok h2 rfl
      · simp [if_neg hu, bad, Out]
theorem pl_frac : PlC pFrac := pl_cons pl_num (pl_cons (pl_the _) (pl_cons pl_num pl_nil))
theorem plb_foe : PlB true pFoe := plb_pos (by repeat (first | exact pl_nil | (refine pl_cons ?_ ?_; first | exact pl_name | exact pl_the _)))
theorem plb_walk : PlB true pWalk := plb_pos (by repeat (first | exact pl_nil | (refine pl_cons ?_ ?_; first | exact pl_name | exact pl_num | exact pl_the _)))
theorem plb_stop : PlB true pStop := plb_pos (by repeat (first | exact pl_nil | (refine pl_cons ?_ ?_; first | exact pl_name | exact pl_num | exact pl_the _)))
theorem plb_head : PlB true pHead := plb_pos (by repeat (first | exact pl_nil | (refine pl_cons ?_ ?_; first | exact pl_name | exact pl_num | exact pl_the _ | exact pl_frac | exact pl_grade)))
theorem plb_phase : PlB true pPhase := plb_pos (by repeat (first | exact pl_nil | (refine pl_cons ?_ ?_; first | exact pl_name | exact pl_the _ | exact pl_names _ _)))
theorem plb_ring : PlB false pRing := plb_of (by repeat (first | exact pl_nil | (refine pl_cons ?_ ?_; first | exact pl_may _ | exact pl_the _ | exact pl_names _ _)))
theorem plb_group : PlB false pGroup := by
  intro r r' hr
  have h1 : PlC (sq [pThe [123], pRow [114, 105, 110, 103] 2 117 2 pRing]) := pl_cons (pl_the _) (pl_cons (pl_row mon_ring plb_ring) pl_nil)
  have h2 := pl_the [125]
  have hs : ∀ x, pGroup x = match sq [pThe [123], pRow [114, 105, 110, 103] 2 117 2 pRing] [] x with
      | .error e => .error e
      | .ok (c, s) => sq [pSome, pThe [125]] c s := fun x => sq_app [pThe [123], pRow [114, 105, 110, 103] 2 117 2 pRing] [pSome, pThe [125]] [] x
  have hrow : ∀ x c s, sq [pThe [123], pRow [114, 105, 110, 103] 2 117 2 pRing] [] x = .ok (c, s) → ∃ L, c = [.row 117 2 L] := by
    intro x c s h
    obtain ⟨c1, r1, k1, k2⟩ := sq_inv h
    obtain ⟨rfl, _⟩ := the_inv k1
    obtain ⟨c2, r2, k3, k4⟩ := sq_inv k2
    have := sq_end k4
    simp at this
    obtain ⟨L, e, _⟩ := row_inv (Q := fun _ => True) (fun _ _ _ _ => trivial) k3
    exact ⟨L, by rw [this.1, e]; rfl⟩
  have h3 := h1 [] [] r r' hr
  rw [hs r, hs r']
  cases hx : sq [pThe [123], pRow [114, 105, 110, 103] 2 117 2 pRing] [] r with
  | error x =>
    cases hy : sq [pThe [123], pRow [114, 105, 110, 103] 2 117 2 pRing] [] r' with
    | error y => rw [hx, hy] at h3; exact h3
    | ok y => rw [hx, hy] at h3; exact h3.elim
  | ok x =>
    cases hy : sq [pThe [123], pRow [114, 105, 110, 103] 2 117 2 pRing] [] r' with
    | error y => rw [hx, hy] at h3; exact h3.elim
    | ok y =>
      obtain ⟨c1, s⟩ := x
      obtain ⟨c2, s'⟩ := y
      rw [hx, hy] at h3
      obtain ⟨L, rfl⟩ := hrow _ _ _ hx
      obtain ⟨L', rfl⟩ := hrow _ _ _ hy
      obtain ⟨e1, d, d', e3, e4, e2⟩ := h3
      simp only [List.nil_append] at e3 e4
      subst e3 e4
      simp only [List.map_cons, List.map_nil, Z, List.cons.injEq, and_true, D.row.injEq, true_and] at e2
      have hlen : L.length = L'.length := by rw [← zss_len (plc 2) L, ← zss_len (plc 2) L', e2]
      simp only [sq, pSome]
      cases L with
      | nil =>
        have : L' = [] := List.eq_nil_of_length_eq_zero (by rw [← hlen]; rfl)
        subst this
        cases s with
        | nil => obtain rfl := q0_nil e1; simp [bad]
        | cons t s => obtain ⟨t', s2, rfl, _⟩ := q0_cons e1; simp [bad]
      | cons x L =>
        cases L' with
        | nil => simp at hlen
        | cons x' L' =>
          simp only
          have h4 := h2 [.row 117 2 (x :: L)] [.row 117 2 (x' :: L')] s s' e1
          cases hx2 : pThe [125] [.row 117 2 (x :: L)] s with
          | error x =>
            cases hy2 : pThe [125] [.row 117 2 (x' :: L')] s' with
            | error y => rw [hx2, hy2] at h4; exact h4
            | ok y => rw [hx2, hy2] at h4; exact h4.elim
          | ok z1 =>
            cases hy2 : pThe [125] [.row 117 2 (x' :: L')] s' with
            | error y => rw [hx2, hy2] at h4; exact h4.elim
            | ok z2 =>
              obtain ⟨d1, s1⟩ := z1
              obtain ⟨d2, s2⟩ := z2
              rw [hx2, hy2] at h4
              obtain ⟨rfl, _⟩ := the_inv hx2
              obtain ⟨rfl, _⟩ := the_inv hy2
              exact ⟨h4.1, by rw [zl_false, zl_false]; simp only [List.map_cons, List.map_nil, Z, e2]⟩
theorem plb_node : PlB true pNode := plb_pos (by repeat (first | exact pl_nil | (refine pl_cons ?_ ?_; first | exact pl_name | exact pl_the _ | exact pl_row mon_head plb_head | exact pl_row mon_walk plb_walk | exact pl_row mon_phase plb_phase | exact pl_row mon_group plb_group | exact pl_row mon_foe plb_foe)))
theorem pl_artIn : PlC (sq artIn) := by repeat (first | exact pl_nil | (refine pl_cons ?_ ?_; first | exact pl_num | exact pl_the _ | exact pl_row mon_stop plb_stop))
theorem pl_art : PlC pArt := by
  intro c c' r r' h
  cases r with
  | nil => obtain rfl := q0_nil h; simp [pArt, pMay, bad, Out]
  | cons t r =>
    obtain ⟨t', r2, rfl, hk, hs, hn, h2⟩ := q0_cons h
    by_cases ht : t.s = [97, 114, 116, 101, 114, 121]
    · rw [art_yes ht, art_yes (hs.trans ht)]; exact pl_artIn c c' r r2 h2
    · rw [art_no ht, art_no (by rw [hs]; exact ht)]; exact out_ok h rfl
theorem pl_net : PlC (sq (netIn ++ [pEnd])) := by
  show PlC (sq [_, _, _, _, _, _, _, _, _, _, _, _, _])
  repeat (first | exact pl_nil | (refine pl_cons ?_ ?_; first | exact pl_num | exact pl_the _ | exact pl_frac | exact pl_row mon_node plb_node | exact pl_art | exact pl_end))
/-- tokens that differ in their places alone are the same network, its places aside, or the same error -/
theorem net_pl {r r' : List Tok} (h : r.map q0 = r'.map q0) : match pNet r, pNet r' with
    | .error e, .error f => e.1 = f.1
    | .ok (c, s), .ok (c', s') => c.map Z = c'.map Z
    | _, _ => False := by
  have := pl_net [] [] r r' h
  rw [show sq (netIn ++ [pEnd]) [] r = pNet r from rfl, show sq (netIn ++ [pEnd]) [] r' = pNet r' from rfl] at this
  cases hx : pNet r with
  | error x =>
    cases hy : pNet r' with
    | error y => rw [hx, hy] at this; exact this
    | ok y => rw [hx, hy] at this; exact this.elim
  | ok x =>
    cases hy : pNet r' with
    | error y => rw [hx, hy] at this; exact this.elim
    | ok y =>
      obtain ⟨c1, s⟩ := x
      obtain ⟨c2, s'⟩ := y
      rw [hx, hy] at this
      obtain ⟨_, d, d', rfl, rfl, e2⟩ := this
      simpa using e2
end Go.Proofs.YtmplckdpddmifaaGreatDoor
namespace Go.Proofs.YtmplckdpddmifaaGreatDoor
set_option linter.unusedVariables false
set_option linter.unusedSimpArgs false
def NamesSh (L : List (List D)) : Prop := L.length ≤ 100000 ∧ ∀ x ∈ L, ∃ s, x = [dS s]
def HeadSh (x : List D) : Prop := ∃ s v1 v2 v3 v4 v5 v6 v7 v8 v9 p, x = [dS s, dI v1, dI v2, dI v3, dI v4, dI v5, dI v6, dI v7, dI v8, dI v9, dI p]
def PedSh (x : List D) : Prop := ∃ s t v1 v2 v3 p, x = [dS s, dS t, dI v1, dI v2, dI v3, dI p]
def PhaseSh (x : List D) : Prop := ∃ s L p, x = [dS s, .row 9 1 L, dI p] ∧ NamesSh L
def RingSh (x : List D) : Prop := ∃ f L, x = [dB f, .row 9 1 L] ∧ NamesSh L
def GroupSh (x : List D) : Prop := ∃ R, x = [.row 117 2 R] ∧ R.length ≤ 100000 ∧ ∀ y ∈ R, RingSh y
def FoeSh (x : List D) : Prop := ∃ s t p, x = [dS s, dS t, dI p]
def StopSh (x : List D) : Prop := ∃ s t u v1 v2 p, x = [dS s, dS t, dS u, dI v1, dI v2, dI p]
def NodeSh (x : List D) : Prop := ∃ s H P Q G F p, x = [dS s, .row 77 11 H, .row 101 6 P, .row 105 3 Q, .row 109 1 G, .row 112 3 F, dI p] ∧ (H.length ≤ 100000 ∧ ∀ y ∈ H, HeadSh y) ∧ (P.length ≤ 100000 ∧ ∀ y ∈ P, PedSh y) ∧ (Q.length ≤ 100000 ∧ ∀ y ∈ Q, PhaseSh y) ∧ (G.length ≤ 100000 ∧ ∀ y ∈ G, GroupSh y) ∧ (F.length ≤ 100000 ∧ ∀ y ∈ F, FoeSh y)
def NetSh (x : List D) : Prop := ∃ a0 a1 a2 a3 a4 Ns Ss a5 a6, x = [dI a0, dI a1, dI a2, dI a3, dI a4, .row 61 7 Ns, .row 114 6 Ss, dI a5, dI a6] ∧ (Ns.length ≤ 100000 ∧ ∀ y ∈ Ns, NodeSh y) ∧ (Ss.length ≤ 100000 ∧ ∀ y ∈ Ss, StopSh y)
/-- what a step adds -/
def ShC (p : Sp) (Q : List D → Prop) : Prop := ∀ c r c' r', p c r = .ok (c', r') → ∃ d, c' = c ++ d ∧ Q d
theorem sh_the (s : List UInt8) : ShC (pThe s) (fun d => d = []) := fun c r c' r' h => ⟨[], by simp [(the_inv h).1], rfl⟩
theorem sh_name : ShC pName (fun d => ∃ s, d = [dS s]) := fun c r c' r' h => by obtain ⟨t, e, _⟩ := name_inv h; exact ⟨_, e, _, rfl⟩
theorem sh_num : ShC pNum (fun d => ∃ n, d = [dI n]) := fun c r c' r' h => by obtain ⟨t, e, _⟩ := num_inv h; exact ⟨_, e, _, rfl⟩
theorem sh_pos : ShC pPos (fun d => ∃ n, d = [dI n]) := fun c r c' r' h => by obtain ⟨n, e, _⟩ := pos_inv h; exact ⟨_, e, _, rfl⟩
theorem sh_may (s : List UInt8) : ShC (pMay s) (fun d => ∃ b, d = [dB b]) := fun c r c' r' h => by obtain ⟨b, e⟩ := may_inv h; exact ⟨_, e, _, rfl⟩
theorem sh_end : ShC pEnd (fun d => d = []) := fun c r c' r' h => ⟨[], by simp [end_inv h], rfl⟩
theorem sh_some : ShC pSome (fun d => d = []) := fun c r c' r' h => ⟨[], by simp [(some_inv h).1], rfl⟩
theorem sh_frac : ShC pFrac (fun d => ∃ a b, d = [dI a, dI b]) := fun c r c' r' h => by obtain ⟨a, b, e⟩ := frac_inv h; exact ⟨[dI a, dI b], by rw [e]; simp, _, _, rfl⟩
theorem sh_grade : ShC pGrade (fun d => ∃ n, d = [dI n]) := fun c r c' r' h => by
  simp only [pGrade] at h
  split at h
  · cases h
  · simp at h; exact ⟨_, h.1.symm, _, rfl⟩
  · cases h
theorem nmz_sh (most : Nat) : ∀ (f : Nat) (L : List (List D)) (r : List Tok) (L' : List (List D)) (r' : List Tok), (∀ x ∈ L, ∃ s, x = [dS s]) → nmz most f L r = .ok (L', r') → ∀ x ∈ L', ∃ s, x = [dS s]
  | 0, _, _, _, _, _, h => by simp [nmz] at h
  | f + 1, L, r, L', r', hL, h => by
    simp only [nmz] at h
    split at h
    · cases h
    · rename_i d r1 h1
      obtain ⟨t, e, _⟩ := name_inv h1
      have hd : ∀ x ∈ L ++ [d], ∃ s, x = [dS s] := fun x hx => by
        rcases List.mem_append.1 hx with hx | hx
        · exact hL x hx
        · simp at hx; subst hx; exact ⟨t.s, by simpa using e⟩
      split at h
      · split at h <;> cases h
      · split at h
        · exact nmz_sh most f _ _ _ _ hd h
        · simp at h; rw [← h.1]; exact hd
        · cases h
theorem sh_names (e most : Nat) (hm : most ≤ 100000) : ShC (pNames e most) (fun d => ∃ L, d = [.row e 1 L] ∧ NamesSh L) := fun c r c' r' h => by
  obtain ⟨L, e1, _, e3⟩ := names_inv h
  refine ⟨_, e1, L, rfl, by omega, ?_⟩
  simp only [pNames] at h
  split at h
  · cases h
  · rename_i L2 r1 h1
    simp at h
    have : L2 = L := by have := h.1; rw [e1] at this; simpa using this
    subst this
    exact nmz_sh most _ _ _ _ _ (fun x hx => by cases hx) h1
theorem sh_row {word : List UInt8} {most e z : Nat} {body : List Tok → Rs} {Q : List D → Prop} (hm : most ≤ 100000) (hQ : ∀ r d r', body r = .ok (d, r') → Q d) : ShC (pRow word most e z body) (fun d => ∃ L, d = [.row e z L] ∧ L.length ≤ 100000 ∧ ∀ y ∈ L, Q y) := fun c r c' r' h => by
  obtain ⟨L, e1, e2, e3⟩ := row_inv hQ h
  exact ⟨_, e1, L, rfl, by omega, e3⟩
theorem sh_nil : ShC (sq []) (fun d => d = []) := fun c r c' r' h => by have := sq_end h; simp at this; exact ⟨[], by simp [this.1], rfl⟩
theorem sh_cons {p : Sp} {ps : List Sp} {Q R : List D → Prop} (hp : ShC p Q) (h2 : ShC (sq ps) R) : ShC (sq (p :: ps)) (fun d => ∃ d1 d2, d = d1 ++ d2 ∧ Q d1 ∧ R d2) := fun c r c' r' h => by
  obtain ⟨c1, r1, k1, k2⟩ := sq_inv h
  obtain ⟨d1, rfl, q1⟩ := hp _ _ _ _ k1
  obtain ⟨d2, e, q2⟩ := h2 _ _ _ _ k2
  exact ⟨d1 ++ d2, by rw [e, List.append_assoc], d1, d2, rfl, q1, q2⟩
theorem foe_sh {r : List Tok} {d : List D} {r' : List Tok} (h : pFoe r = .ok (d, r')) : FoeSh d := by
  obtain ⟨c, hc, rfl⟩ := rotd_inv h
  obtain ⟨d, e, d1, x, rfl, ⟨p, rfl⟩, d2, x, rfl, ⟨s, rfl⟩, d3, x, rfl, ⟨t, rfl⟩, d4, x, rfl, rfl, rfl⟩ := sh_cons sh_pos (sh_cons sh_name (sh_cons sh_name (sh_cons (sh_the _) sh_nil))) _ _ _ _ hc
  exact ⟨s, t, p, by rw [e]; rfl⟩
theorem walk_sh {r : List Tok} {d : List D} {r' : List Tok} (h : pWalk r = .ok (d, r')) : PedSh d := by
  obtain ⟨c, hc, rfl⟩ := rotd_inv h
  obtain ⟨d, e, d1, x, rfl, ⟨p, rfl⟩, d2, x, rfl, ⟨s, rfl⟩, d3, x, rfl, rfl, d4, x, rfl, ⟨t, rfl⟩, d5, x, rfl, rfl, d6, x, rfl, ⟨v1, rfl⟩, d7, x, rfl, rfl, d8, x, rfl, ⟨v2, rfl⟩, d9, x, rfl, rfl, d10, x, rfl, ⟨v3, rfl⟩, d11, x, rfl, rfl, rfl⟩ := sh_cons sh_pos (sh_cons sh_name (sh_cons (sh_the _) (sh_cons sh_name (sh_cons (sh_the _) (sh_cons sh_num (sh_cons (sh_the _) (sh_cons sh_num (sh_cons (sh_the _) (sh_cons sh_num (sh_cons (sh_the _) sh_nil)))))))))) _ _ _ _ hc
  exact ⟨s, t, v1, v2, v3, p, by rw [e]; rfl⟩
theorem stop_sh {r : List Tok} {d : List D} {r' : List Tok} (h : pStop r = .ok (d, r')) : StopSh d := by
  obtain ⟨c, hc, rfl⟩ := rotd_inv h
  obtain ⟨d, e, d1, x, rfl, ⟨p, rfl⟩, d2, x, rfl, ⟨s, rfl⟩, d3, x, rfl, rfl, d4, x, rfl, ⟨t, rfl⟩, d5, x, rfl, rfl, d6, x, rfl, ⟨u, rfl⟩, d7, x, rfl, rfl, d8, x, rfl, ⟨v1, rfl⟩, d9, x, rfl, rfl, d10, x, rfl, ⟨v2, rfl⟩, d11, x, rfl, rfl, rfl⟩ := sh_cons sh_pos (sh_cons sh_name (sh_cons (sh_the _) (sh_cons sh_name (sh_cons (sh_the _) (sh_cons sh_name (sh_cons (sh_the _) (sh_cons sh_num (sh_cons (sh_the _) (sh_cons sh_num (sh_cons (sh_the _) sh_nil)))))))))) _ _ _ _ hc
  exact ⟨s, t, u, v1, v2, p, by rw [e]; rfl⟩
theorem phase_sh {r : List Tok} {d : List D} {r' : List Tok} (h : pPhase r = .ok (d, r')) : PhaseSh d := by
  obtain ⟨c, hc, rfl⟩ := rotd_inv h
  obtain ⟨d, e, d1, x, rfl, ⟨p, rfl⟩, d2, x, rfl, ⟨s, rfl⟩, d3, x, rfl, rfl, d4, x, rfl, ⟨L, rfl, hL⟩, d5, x, rfl, rfl, rfl⟩ := sh_cons sh_pos (sh_cons sh_name (sh_cons (sh_the _) (sh_cons (sh_names _ 16 (by decide)) (sh_cons (sh_the _) sh_nil)))) _ _ _ _ hc
  exact ⟨s, L, p, by rw [e]; rfl, hL⟩
theorem ring_sh {r : List Tok} {d : List D} {r' : List Tok} (h : pRing r = .ok (d, r')) : RingSh d := by
  obtain ⟨d, e, d1, x, rfl, ⟨f, rfl⟩, d2, x, rfl, ⟨L, rfl, hL⟩, d3, x, rfl, rfl, rfl⟩ := sh_cons (sh_may _) (sh_cons (sh_names _ 4 (by decide)) (sh_cons (sh_the _) sh_nil)) _ _ _ _ h
  exact ⟨f, L, by rw [e]; rfl, hL⟩
theorem group_sh {r : List Tok} {d : List D} {r' : List Tok} (h : pGroup r = .ok (d, r')) : GroupSh d := by
  obtain ⟨d, e, d1, x, rfl, rfl, d2, x, rfl, ⟨R, rfl, hR⟩, d3, x, rfl, rfl, d4, x, rfl, rfl, rfl⟩ := sh_cons (sh_the _) (sh_cons (sh_row (Q := RingSh) (by decide) (fun r d r' h => ring_sh h)) (sh_cons sh_some (sh_cons (sh_the _) sh_nil))) _ _ _ _ h
  exact ⟨R, by rw [e]; rfl, hR⟩
theorem head_sh {r : List Tok} {d : List D} {r' : List Tok} (h : pHead r = .ok (d, r')) : HeadSh d := by
  obtain ⟨c, hc, rfl⟩ := rotd_inv h
  obtain ⟨d, e, d1, x, rfl, ⟨p, rfl⟩, d2, x, rfl, ⟨s, rfl⟩, d3, x, rfl, rfl, d4, x, rfl, ⟨v1, rfl⟩, d5, x, rfl, rfl, d6, x, rfl, ⟨v2, rfl⟩, d7, x, rfl, rfl, d8, x, rfl, ⟨v3, v4, rfl⟩, d9, x, rfl, rfl, d10, x, rfl, ⟨v5, rfl⟩, d11, x, rfl, rfl, d12, x, rfl, ⟨v6, rfl⟩, d13, x, rfl, rfl, d14, x, rfl, ⟨v7, rfl⟩, d15, x, rfl, rfl, d16, x, rfl, ⟨v8, rfl⟩, d17, x, rfl, rfl, d18, x, rfl, ⟨v9, rfl⟩, d19, x, rfl, rfl, rfl⟩ := sh_cons sh_pos (sh_cons sh_name (sh_cons (sh_the _) (sh_cons sh_num (sh_cons (sh_the _) (sh_cons sh_num (sh_cons (sh_the _) (sh_cons sh_frac (sh_cons (sh_the _) (sh_cons sh_num (sh_cons (sh_the _) (sh_cons sh_grade (sh_cons (sh_the _) (sh_cons sh_num (sh_cons (sh_the _) (sh_cons sh_num (sh_cons (sh_the _) (sh_cons sh_num (sh_cons (sh_the _) sh_nil)))))))))))))))))) _ _ _ _ hc
  exact ⟨s, v1, v2, v3, v4, v5, v6, v7, v8, v9, p, by rw [e]; rfl⟩
theorem node_sh {r : List Tok} {d : List D} {r' : List Tok} (h : pNode r = .ok (d, r')) : NodeSh d := by
  obtain ⟨c, hc, rfl⟩ := rotd_inv h
  obtain ⟨d, e, d1, x, rfl, ⟨p, rfl⟩, d2, x, rfl, ⟨s, rfl⟩, d3, x, rfl, rfl, d4, x, rfl, ⟨H, rfl, hH⟩, d5, x, rfl, ⟨P, rfl, hP⟩, d6, x, rfl, ⟨Q, rfl, hQ⟩, d7, x, rfl, ⟨G, rfl, hG⟩, d8, x, rfl, ⟨F, rfl, hF⟩, d9, x, rfl, rfl, rfl⟩ := sh_cons sh_pos (sh_cons sh_name (sh_cons (sh_the _) (sh_cons (sh_row (Q := HeadSh) (by decide) (fun r d r' h => head_sh h)) (sh_cons (sh_row (Q := PedSh) (by decide) (fun r d r' h => walk_sh h)) (sh_cons (sh_row (Q := PhaseSh) (by decide) (fun r d r' h => phase_sh h)) (sh_cons (sh_row (Q := GroupSh) (by decide) (fun r d r' h => group_sh h)) (sh_cons (sh_row (Q := FoeSh) (by decide) (fun r d r' h => foe_sh h)) (sh_cons (sh_the _) sh_nil)))))))) _ _ _ _ hc
  exact ⟨s, H, P, Q, G, F, p, by rw [e]; rfl, hH, hP, hQ, hG, hF⟩
theorem sh_art : ShC pArt (fun d => ∃ Ss x y, d = [.row 114 6 Ss, dI x, dI y] ∧ Ss.length ≤ 100000 ∧ ∀ y ∈ Ss, StopSh y) := by
  intro c r c' r' h
  cases r with
  | nil => simp [pArt, pMay, bad] at h
  | cons t r =>
    by_cases ht : t.s = [97, 114, 116, 101, 114, 121]
    · rw [art_yes ht] at h
      obtain ⟨d, e, d1, x, rfl, rfl, d2, x, rfl, ⟨S, rfl, hS⟩, d3, x, rfl, rfl, d4, x, rfl, ⟨v1, rfl⟩, d5, x, rfl, ⟨v2, rfl⟩, d6, x, rfl, rfl, d7, x, rfl, rfl, rfl⟩ := sh_cons (sh_the _) (sh_cons (sh_row (Q := StopSh) (by decide) (fun r d r' h => stop_sh h)) (sh_cons (sh_the _) (sh_cons sh_num (sh_cons sh_num (sh_cons (sh_the _) (sh_cons (sh_the _) sh_nil)))))) _ _ _ _ h
      exact ⟨_, e, S, v1, v2, rfl, hS⟩
    · rw [art_no ht] at h
      simp only [Except.ok.injEq, Prod.mk.injEq] at h
      exact ⟨_, h.1.symm, [], 0, 0, rfl, by simp, fun y hy => by cases hy⟩
theorem net_sh {l : List UInt8} {cs : List D} (h : N l = .ok cs) : NetSh cs := by
  unfold N at h
  cases hT : T l with
  | error x => rw [hT] at h; cases h
  | ok L =>
    rw [hT] at h
    simp only at h
    cases hp : pNet L with
    | error x => rw [hp] at h; cases h
    | ok q =>
      obtain ⟨c, s⟩ := q
      rw [hp] at h
      simp only [Except.ok.injEq] at h
      subst h
      obtain ⟨d, e, d1, x, rfl, rfl, d2, x, rfl, ⟨a0, rfl⟩, d3, x, rfl, rfl, d4, x, rfl, ⟨a1, rfl⟩, d5, x, rfl, rfl, d6, x, rfl, ⟨a2, rfl⟩, d7, x, rfl, rfl, d8, x, rfl, rfl, d9, x, rfl, ⟨a3, a4, rfl⟩, d10, x, rfl, rfl, d11, x, rfl, ⟨Ns, rfl, hN⟩, d12, x, rfl, ⟨Ss, a5, a6, rfl, hS⟩, d13, x, rfl, rfl, rfl⟩ := sh_cons (sh_the _) (sh_cons sh_num (sh_cons (sh_the _) (sh_cons sh_num (sh_cons (sh_the _) (sh_cons sh_num (sh_cons (sh_the _) (sh_cons (sh_the _) (sh_cons sh_frac (sh_cons (sh_the _) (sh_cons (sh_row (Q := NodeSh) (by decide) (fun r d r' h => node_sh h)) (sh_cons sh_art (sh_cons sh_end sh_nil)))))))))))) _ _ _ _ hp
      exact ⟨a0, a1, a2, a3, a4, Ns, Ss, a5, a6, by rw [e]; rfl, hN, hS⟩
end Go.Proofs.YtmplckdpddmifaaGreatDoor
