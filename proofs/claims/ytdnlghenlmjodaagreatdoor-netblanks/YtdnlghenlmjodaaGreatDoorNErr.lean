/- What may be wrong with a text that has tokens: another token was wanted, or there are too many. -/
import Derived.Test.YtdnlghenlmjodaaGreatDoorNPar
namespace Go.Proofs.YtdnlghenlmjodaaGreatDoor
set_option linter.unusedVariables false
set_option linter.unusedSimpArgs false
def ErS (p : Sp) : Prop := ∀ c r x, p c r = .error x → x.1 = 50 ∨ x.1 = 4
def Er1 (p : List Tok → Rs) : Prop := ∀ r x, p r = .error x → x.1 = 50 ∨ x.1 = 4
theorem bad_er {e : Int} {r : List Tok} {x : Er} (h : bad e r = .error x) : x.1 = e := by cases r <;> (simp [bad] at h; rw [← h])
theorem er_the (s : List UInt8) : ErS (pThe s) := by
  intro c r x h
  cases r with
  | nil => exact .inl (bad_er (show bad 50 [] = .error x from h))
  | cons t r => simp only [pThe] at h; split at h; cases h; exact .inl (bad_er h)
theorem er_name : ErS pName := by
  intro c r x h
  cases r with
  | nil => exact .inl (bad_er (show bad 50 [] = .error x from h))
  | cons t r => simp only [pName] at h; split at h; cases h; exact .inl (bad_er h)
theorem er_num : ErS pNum := by
  intro c r x h
  cases r with
  | nil => exact .inl (bad_er (show bad 50 [] = .error x from h))
  | cons t r => simp only [pNum] at h; split at h; cases h; exact .inl (bad_er h)
theorem er_pos : ErS pPos := by
  intro c r x h
  cases r with
  | nil => exact .inl (bad_er (show bad 50 [] = .error x from h))
  | cons t r => simp [pPos] at h
theorem er_end : ErS pEnd := by
  intro c r x h
  cases r with
  | nil => exact .inl (bad_er (show bad 50 [] = .error x from h))
  | cons t r => simp only [pEnd] at h; split at h; cases h; exact .inl (bad_er h)
theorem er_may (s : List UInt8) : ErS (pMay s) := by
  intro c r x h
  cases r with
  | nil => exact .inl (bad_er (show bad 50 [] = .error x from h))
  | cons t r => simp only [pMay] at h; split at h <;> cases h
theorem er_some : ErS pSome := by
  intro c r x h
  simp only [pSome] at h
  split at h
  · exact .inl (bad_er h)
  · cases h
theorem er_sq : ∀ (ps : List Sp), (∀ p ∈ ps, ErS p) → ErS (sq ps)
  | [], _, c, r, x, h => by simp [sq] at h
  | p :: ps, hp, c, r, x, h => by
    simp only [sq] at h
    cases hq : p c r with
    | error y => rw [hq] at h; injection h with h; subst h; exact hp p List.mem_cons_self _ _ _ hq
    | ok q => obtain ⟨c1, r1⟩ := q; rw [hq] at h; exact er_sq ps (fun q hq => hp q (List.mem_cons_of_mem _ hq)) _ _ _ h
theorem er_frac : ErS pFrac := er_sq _ (all_cons er_num (all_cons (er_the _) (all_cons er_num all_nil)))
theorem er_grade : ErS pGrade := by
  intro c r x h
  have h0 := er_sq [pMay [45], pNum] (all_cons (er_may _) (all_cons er_num all_nil))
  cases r with
  | nil => simp [pGrade, sq, pMay, bad] at h; rw [← h]; exact .inl rfl
  | cons t r =>
    by_cases h1 : t.s = [45]
    · cases r with
      | nil => simp [pGrade, sq, pMay, bad, h1, pNum] at h; rw [← h]; exact .inl rfl
      | cons u r =>
        by_cases h2 : u.k = 2
        · simp [pGrade, sq, pMay, bad, h1, pNum, h2, dB, dI] at h
        · simp [pGrade, sq, pMay, bad, h1, pNum, h2] at h; rw [← h]; exact .inl rfl
    · by_cases h2 : t.k = 2
      · simp [pGrade, sq, pMay, bad, h1, pNum, h2, dB, dI] at h
      · simp [pGrade, sq, pMay, bad, h1, pNum, h2] at h; rw [← h]; exact .inl rfl
theorem er_nm (most : Nat) : ∀ (n : Nat) (L : List (List D)) (r : List Tok) (x : Er), r.length ≤ n → nm most L r = .error x → x.1 = 50 ∨ x.1 = 4
  | n, L, [], x, _, h => by simp [nm, nmz, pName, bad] at h; rw [← h]; exact .inl rfl
  | n, L, t :: r, x, hn, h => by
    rw [nm_cons] at h
    split at h
    · split at h
      · injection h with h; rw [← h]; exact .inr rfl
      · cases r with
        | nil => simp at h; rw [← h]; exact .inl rfl
        | cons u r2 =>
          simp only at h
          split at h
          · cases n with
            | zero => simp at hn
            | succ n => exact er_nm most n _ r2 x (by simp at hn; omega) h
          · cases h
    · injection h with h; rw [← h]; exact .inl rfl
theorem er_names (e most : Nat) : ErS (pNames e most) := by
  intro c r x h
  simp only [pNames] at h
  cases hq : nmz most (r.length + 1) [] r with
  | error y => rw [hq] at h; injection h with h; subst h; exact er_nm most _ [] r _ (Nat.le_refl _) hq
  | ok q => obtain ⟨L, r1⟩ := q; rw [hq] at h; cases h
theorem er_rw (word : List UInt8) (most : Nat) (body : List Tok → Rs) (hm : Mon body) (he : Er1 body) : ∀ (n : Nat) (L : List (List D)) (r : List Tok) (x : Er), r.length ≤ n → rw_ word most body L r = .error x → x.1 = 50 ∨ x.1 = 4
  | n, L, [], x, _, h => by simp [rw_, rwz] at h; rw [← h]; exact .inl rfl
  | n, L, t :: r, x, hn, h => by
    rw [rw_cons _ _ _ hm] at h
    split at h
    · split at h
      · injection h with h; rw [← h]; exact .inr rfl
      · cases hb : body r with
        | error y => rw [hb] at h; injection h with h; subst h; exact he _ _ hb
        | ok q =>
          obtain ⟨d, r'⟩ := q
          rw [hb] at h
          have := hm _ _ _ hb
          cases n with
          | zero => simp at hn
          | succ n => exact er_rw word most body hm he n _ r' x (by simp at hn; omega) h
    · cases h
theorem er_row (word : List UInt8) (most e z : Nat) (body : List Tok → Rs) (hm : Mon body) (he : Er1 body) : ErS (pRow word most e z body) := by
  intro c r x h
  simp only [pRow] at h
  cases hq : rwz word most body (r.length + 1) [] r with
  | error y => rw [hq] at h; injection h with h; subst h; exact er_rw word most body hm he _ [] r _ (Nat.le_refl _) hq
  | ok q => obtain ⟨L, r1⟩ := q; rw [hq] at h; cases h
theorem er_rotd {p : List Tok → Rs} (h : Er1 p) : Er1 (rotd p) := by
  intro r x e
  simp only [rotd] at e
  cases hq : p r with
  | error y => rw [hq] at e; injection e with e; subst e; exact h _ _ hq
  | ok q => obtain ⟨c, r1⟩ := q; rw [hq] at e; cases e
theorem er_of {ps : List Sp} (h : ∀ p ∈ ps, ErS p) : Er1 (sq ps []) := fun r x e => er_sq ps h _ _ _ e
theorem er_foe : Er1 pFoe := er_rotd (er_of (by repeat (first | exact all_nil | (refine all_cons ?_ ?_; first | exact er_pos | exact er_name | exact er_num | exact er_the _ | exact er_frac | exact er_grade | exact er_may _ | exact er_names _ _))))
theorem er_walk : Er1 pWalk := er_rotd (er_of (by repeat (first | exact all_nil | (refine all_cons ?_ ?_; first | exact er_pos | exact er_name | exact er_num | exact er_the _ | exact er_frac | exact er_grade | exact er_may _ | exact er_names _ _))))
theorem er_stop : Er1 pStop := er_rotd (er_of (by repeat (first | exact all_nil | (refine all_cons ?_ ?_; first | exact er_pos | exact er_name | exact er_num | exact er_the _ | exact er_frac | exact er_grade | exact er_may _ | exact er_names _ _))))
theorem er_head : Er1 pHead := er_rotd (er_of (by repeat (first | exact all_nil | (refine all_cons ?_ ?_; first | exact er_pos | exact er_name | exact er_num | exact er_the _ | exact er_frac | exact er_grade | exact er_may _ | exact er_names _ _))))
theorem er_phase : Er1 pPhase := er_rotd (er_of (by repeat (first | exact all_nil | (refine all_cons ?_ ?_; first | exact er_pos | exact er_name | exact er_num | exact er_the _ | exact er_frac | exact er_grade | exact er_may _ | exact er_names _ _))))
theorem er_ring : Er1 pRing := er_of (by repeat (first | exact all_nil | (refine all_cons ?_ ?_; first | exact er_pos | exact er_name | exact er_num | exact er_the _ | exact er_frac | exact er_grade | exact er_may _ | exact er_names _ _)))
theorem er_group : Er1 pGroup := er_of (by repeat (first | exact all_nil | (refine all_cons ?_ ?_; first | exact er_the _ | exact er_row _ _ _ _ _ mon_ring er_ring | exact er_some)))
theorem er_node : Er1 pNode := er_rotd (er_of (by repeat (first | exact all_nil | (refine all_cons ?_ ?_; first | exact er_pos | exact er_name | exact er_the _ | exact er_row _ _ _ _ _ mon_head er_head | exact er_row _ _ _ _ _ mon_walk er_walk | exact er_row _ _ _ _ _ mon_phase er_phase | exact er_row _ _ _ _ _ mon_group er_group | exact er_row _ _ _ _ _ mon_foe er_foe))))
theorem er_art : ErS pArt := by
  intro c r x h
  simp only [pArt] at h
  split at h
  · rename_i y h1; injection h with h; subst h; exact er_may _ _ _ _ h1
  · exact er_sq _ (by repeat (first | exact all_nil | (refine all_cons ?_ ?_; first | exact er_num | exact er_the _ | exact er_row _ _ _ _ _ mon_stop er_stop))) _ _ _ h
  · cases h
theorem err_net {L : List Tok} {x : Er} (h : pNet L = .error x) : x.1 = 50 ∨ x.1 = 4 :=
  er_sq _ (by repeat (first | exact all_nil | (refine all_cons ?_ ?_; first | exact er_num | exact er_the _ | exact er_frac | exact er_row _ _ _ _ _ mon_node er_node | exact er_art | exact er_end))) _ _ _ h
end Go.Proofs.YtdnlghenlmjodaaGreatDoor
