/- The grammar: no step gives tokens back; rows and names by their equations. No program is met here. -/
import Derived.Test.YtmplckdpddmifaaGreatDoorNMath
namespace Go.Proofs.YtmplckdpddmifaaGreatDoor
set_option linter.unusedVariables false
set_option linter.unusedSimpArgs false
/-- no tokens are given back -/
def Mon (p : List Tok → Rs) : Prop := ∀ r c r', p r = .ok (c, r') → r'.length ≤ r.length
def MonS (p : Sp) : Prop := ∀ c r c' r', p c r = .ok (c', r') → r'.length ≤ r.length
theorem bad_ne {e : Int} {r : List Tok} {x : List D × List Tok} : bad e r ≠ .ok x := by cases r <;> simp [bad]
theorem mon_the (s : List UInt8) : MonS (pThe s) := by
  intro c r c' r' h
  cases r with
  | nil => simp [pThe, bad] at h
  | cons t r => simp only [pThe] at h; split at h; (simp at h; simp [← h.2]); exact absurd h bad_ne
theorem mon_name : MonS pName := by
  intro c r c' r' h
  cases r with
  | nil => simp [pName, bad] at h
  | cons t r => simp only [pName] at h; split at h; (simp at h; simp [← h.2]); exact absurd h bad_ne
theorem mon_num : MonS pNum := by
  intro c r c' r' h
  cases r with
  | nil => simp [pNum, bad] at h
  | cons t r => simp only [pNum] at h; split at h; (simp at h; simp [← h.2]); exact absurd h bad_ne
theorem mon_pos : MonS pPos := by
  intro c r c' r' h
  cases r with
  | nil => simp [pPos, bad] at h
  | cons t r => simp [pPos] at h; simp [← h.2]
theorem mon_end : MonS pEnd := by
  intro c r c' r' h
  cases r with
  | nil => simp [pEnd, bad] at h
  | cons t r => simp only [pEnd] at h; split at h; (simp at h; simp [← h.2]); exact absurd h bad_ne
theorem mon_may (s : List UInt8) : MonS (pMay s) := by
  intro c r c' r' h
  cases r with
  | nil => simp [pMay, bad] at h
  | cons t r => simp only [pMay] at h; split at h <;> (simp at h; simp [← h.2])
theorem mon_some : MonS pSome := by
  intro c r c' r' h
  simp only [pSome] at h
  split at h
  · exact absurd h bad_ne
  · simp at h; simp [h.2]
theorem mon_sq : ∀ (ps : List Sp), (∀ p ∈ ps, MonS p) → MonS (sq ps)
  | [], _, c, r, c', r', h => by simp [sq] at h; simp [h.2]
  | p :: ps, hp, c, r, c', r', h => by
    simp only [sq] at h
    split at h
    · cases h
    · rename_i c1 r1 h1
      exact Nat.le_trans (mon_sq ps (fun q hq => hp q (List.mem_cons_of_mem _ hq)) _ _ _ _ h) (hp p List.mem_cons_self _ _ _ _ h1)
theorem mon_frac : MonS pFrac := mon_sq _ (by intro p hp; simp at hp; rcases hp with rfl | rfl | rfl; exact mon_num; exact mon_the _; exact mon_num)
theorem mon_grade : MonS pGrade := by
  intro c r c' r' h
  have hs := mon_sq [pMay [45], pNum] (by intro p hp; simp at hp; rcases hp with rfl | rfl; exact mon_may _; exact mon_num)
  simp only [pGrade] at h
  split at h
  · cases h
  · rename_i h1; simp at h; rw [← h.2]; exact hs _ _ _ _ h1
  · cases h
theorem name_shrinks {c c' : List D} {r r' : List Tok} (h : pName c r = .ok (c', r')) : r'.length < r.length := by
  cases r with
  | nil => simp [pName, bad] at h
  | cons t r => simp only [pName] at h; split at h; (simp at h; simp [← h.2]); exact absurd h bad_ne
theorem nmz_fuel (most : Nat) : ∀ (f g : Nat) (L : List (List D)) (r : List Tok), r.length < f → r.length < g → nmz most f L r = nmz most g L r
  | 0, _, _, _, h, _ => by omega
  | _, 0, _, _, _, h => by omega
  | f + 1, g + 1, L, r, hf, hg => by
    simp only [nmz]
    split
    · rfl
    · rename_i d r' h1
      have := name_shrinks h1
      split
      · rfl
      · split
        · rename_i r2 h2
          have := mon_may _ _ _ _ _ h2
          exact nmz_fuel most f g _ r2 (by omega) (by omega)
        · rfl
        · rfl
/-- names, by what is there already -/
def nm (most : Nat) (L : List (List D)) (r : List Tok) : Except Er (List (List D) × List Tok) := nmz most (r.length + 1) L r
theorem nm_cons (most : Nat) (L : List (List D)) (t : Tok) (r : List Tok) : nm most L (t :: r) =
    if t.k = 1 ∧ ¬ t.s ∈ words then
      (if L.length = most then .error (4, t.p)
       else match r with
        | [] => .error (50, 0)
        | u :: r2 => if u.s = [44] then nm most (L ++ [[dS t.s]]) r2 else .ok (L ++ [[dS t.s]], u :: r2))
    else .error (50, t.p) := by
  unfold nm
  rw [nmz]
  by_cases h : t.k = 1 ∧ ¬ t.s ∈ words
  · have e : pName [] (t :: r) = .ok ([dS t.s], r) := by simp [pName, h]
    rw [e, if_pos h]
    by_cases h2 : L.length = most
    · simp [h2, bad]
    · simp only [if_neg h2]
      cases r with
      | nil => simp [pMay, bad]
      | cons u r2 =>
        by_cases h3 : u.s = [44]
        · simp only [pMay, if_pos h3, dB, List.nil_append]
          exact nmz_fuel most _ _ _ r2 (by simp; omega) (by simp)
        · simp [pMay, if_neg h3, dB]
  · have e : pName [] (t :: r) = .error (50, t.p) := by simp only [pName, if_neg h, bad]
    rw [e, if_neg h]
theorem nm_mon (most : Nat) : ∀ (f : Nat) (L : List (List D)) (r : List Tok) (L' : List (List D)) (r' : List Tok), nmz most f L r = .ok (L', r') → r'.length ≤ r.length
  | 0, _, _, _, _, h => by simp [nmz] at h
  | f + 1, L, r, L', r', h => by
    simp only [nmz] at h
    split at h
    · cases h
    · rename_i d r1 h1
      have := name_shrinks h1
      split at h
      · split at h <;> cases h
      · split at h
        · rename_i r2 h2
          have := mon_may _ _ _ _ _ h2
          have := nm_mon most f _ r2 _ _ h
          omega
        · rename_i r2 _ h2
          have := mon_may _ _ _ _ _ h2
          simp at h; rw [← h.2]; omega
        · cases h
theorem mon_names (e most : Nat) : MonS (pNames e most) := by
  intro c r c' r' h
  simp only [pNames] at h
  split at h
  · cases h
  · rename_i L r1 h1; simp at h; rw [← h.2]; exact nm_mon _ _ _ _ _ _ h1
theorem rwz_fuel (word : List UInt8) (most : Nat) (body : List Tok → Rs) (hm : Mon body) : ∀ (f g : Nat) (L : List (List D)) (r : List Tok), r.length < f → r.length < g → rwz word most body f L r = rwz word most body g L r
  | 0, _, _, _, h, _ => by omega
  | _, 0, _, _, _, h => by omega
  | f + 1, g + 1, L, [], hf, hg => by simp [rwz]
  | f + 1, g + 1, L, t :: r, hf, hg => by
    simp only [rwz]
    split
    · split
      · rfl
      · split
        · rfl
        · rename_i d r' h1
          have := hm _ _ _ h1
          simp at hf hg
          exact rwz_fuel word most body hm f g _ r' (by omega) (by omega)
    · rfl
/-- things, by what is there already -/
def rw_ (word : List UInt8) (most : Nat) (body : List Tok → Rs) (L : List (List D)) (r : List Tok) : Except Er (List (List D) × List Tok) := rwz word most body (r.length + 1) L r
theorem rw_cons (word : List UInt8) (most : Nat) (body : List Tok → Rs) (hm : Mon body) (L : List (List D)) (t : Tok) (r : List Tok) : rw_ word most body L (t :: r) =
    if t.s = word then
      (if L.length = most then .error (4, t.p)
       else match body r with
        | .error x => .error x
        | .ok (d, r') => rw_ word most body (L ++ [d]) r')
    else .ok (L, t :: r) := by
  unfold rw_
  rw [rwz]
  by_cases h : t.s = word
  · simp only [if_pos h]
    by_cases h2 : L.length = most
    · simp only [if_pos h2]
    · simp only [if_neg h2]
      cases h1 : body r with
      | error x => rfl
      | ok q =>
        obtain ⟨d, r'⟩ := q
        have := hm _ _ _ h1
        simp only [List.length_cons]
        exact rwz_fuel word most body hm _ _ _ r' (by omega) (by omega)
  · simp only [if_neg h]
theorem rwz_mon (word : List UInt8) (most : Nat) (body : List Tok → Rs) (hm : Mon body) : ∀ (f : Nat) (L : List (List D)) (r : List Tok) (L' : List (List D)) (r' : List Tok), rwz word most body f L r = .ok (L', r') → r'.length ≤ r.length
  | 0, _, _, _, _, h => by simp [rwz] at h
  | f + 1, L, [], L', r', h => by simp [rwz] at h
  | f + 1, L, t :: r, L', r', h => by
    simp only [rwz] at h
    split at h
    · split at h
      · cases h
      · split at h
        · cases h
        · rename_i d r1 h1
          have := hm _ _ _ h1
          have := rwz_mon word most body hm f _ r1 _ _ h
          simp; omega
    · simp at h; simp [← h.2]
theorem mon_row (word : List UInt8) (most e z : Nat) (body : List Tok → Rs) (hm : Mon body) : MonS (pRow word most e z body) := by
  intro c r c' r' h
  simp only [pRow] at h
  split at h
  · cases h
  · rename_i L r1 h1; simp at h; rw [← h.2]; exact rwz_mon _ _ _ hm _ _ _ _ _ h1
theorem mon_rotd {p : List Tok → Rs} (h : Mon p) : Mon (rotd p) := by
  intro r c r' e
  simp only [rotd] at e
  split at e
  · cases e
  · rename_i c1 r1 h1; simp at e; rw [← e.2]; exact h _ _ _ h1
theorem mon_of {ps : List Sp} (h : ∀ p ∈ ps, MonS p) : Mon (sq ps []) := fun r c r' e => mon_sq ps h _ _ _ _ e
theorem all_nil {α : Type} {Q : α → Prop} : ∀ p ∈ ([] : List α), Q p := fun p h => by cases h
theorem all_cons {α : Type} {Q : α → Prop} {a : α} {l : List α} (h : Q a) (t : ∀ p ∈ l, Q p) : ∀ p ∈ a :: l, Q p := fun p hp => by
  rcases List.mem_cons.1 hp with rfl | hp
  · exact h
  · exact t p hp
theorem mon_foe : Mon pFoe := mon_rotd (mon_of (by repeat (first | exact all_nil | (refine all_cons ?_ ?_; first | exact mon_pos | exact mon_name | exact mon_num | exact mon_the _ | exact mon_frac | exact mon_grade | exact mon_may _ | exact mon_names _ _ | exact mon_some | exact mon_end))))
theorem mon_walk : Mon pWalk := mon_rotd (mon_of (by repeat (first | exact all_nil | (refine all_cons ?_ ?_; first | exact mon_pos | exact mon_name | exact mon_num | exact mon_the _ | exact mon_frac | exact mon_grade | exact mon_may _ | exact mon_names _ _ | exact mon_some | exact mon_end))))
theorem mon_stop : Mon pStop := mon_rotd (mon_of (by repeat (first | exact all_nil | (refine all_cons ?_ ?_; first | exact mon_pos | exact mon_name | exact mon_num | exact mon_the _ | exact mon_frac | exact mon_grade | exact mon_may _ | exact mon_names _ _ | exact mon_some | exact mon_end))))
theorem mon_head : Mon pHead := mon_rotd (mon_of (by repeat (first | exact all_nil | (refine all_cons ?_ ?_; first | exact mon_pos | exact mon_name | exact mon_num | exact mon_the _ | exact mon_frac | exact mon_grade | exact mon_may _ | exact mon_names _ _ | exact mon_some | exact mon_end))))
theorem mon_phase : Mon pPhase := mon_rotd (mon_of (by repeat (first | exact all_nil | (refine all_cons ?_ ?_; first | exact mon_pos | exact mon_name | exact mon_num | exact mon_the _ | exact mon_frac | exact mon_grade | exact mon_may _ | exact mon_names _ _ | exact mon_some | exact mon_end))))
theorem mon_ring : Mon pRing := mon_of (by repeat (first | exact all_nil | (refine all_cons ?_ ?_; first | exact mon_pos | exact mon_name | exact mon_num | exact mon_the _ | exact mon_frac | exact mon_grade | exact mon_may _ | exact mon_names _ _ | exact mon_some | exact mon_end)))
theorem mon_group : Mon pGroup := mon_of (by repeat (first | exact all_nil | (refine all_cons ?_ ?_; first | exact mon_the _ | exact mon_row _ _ _ _ _ mon_ring | exact mon_some)))
theorem mon_node : Mon pNode := mon_rotd (mon_of (by repeat (first | exact all_nil | (refine all_cons ?_ ?_; first | exact mon_pos | exact mon_name | exact mon_the _ | exact mon_row _ _ _ _ _ mon_head | exact mon_row _ _ _ _ _ mon_walk | exact mon_row _ _ _ _ _ mon_phase | exact mon_row _ _ _ _ _ mon_group | exact mon_row _ _ _ _ _ mon_foe))))
theorem mon_art : MonS pArt := by
  intro c r c' r' h
  simp only [pArt] at h
  split at h
  · cases h
  · rename_i r1 h1
    have := mon_may _ _ _ _ _ h1
    have := mon_sq _ (by repeat (first | exact all_nil | (refine all_cons ?_ ?_; first | exact mon_num | exact mon_the _ | exact mon_row _ _ _ _ _ mon_stop))) _ _ _ _ h
    omega
  · rename_i r1 _ h1
    have := mon_may _ _ _ _ _ h1
    simp at h; rw [← h.2]; omega
end Go.Proofs.YtmplckdpddmifaaGreatDoor
