/- The grammar: no step gives tokens back; rows and names by their equations. No program is met here. -/
import Derived.Test.YtcdnbdajnagfiaaGreatDoorNMath
namespace Go.Proofs.YtcdnbdajnagfiaaGreatDoor
set_option linter.unusedVariables false
set_option linter.unusedSimpArgs false
/-- no tokens are given back -/
def Mon (p : List Tok → Rs) : Prop := ∀ r c r', p r = .ok (c, r') → r'.length ≤ r.length
def MonS (p : Sp) : Prop := ∀ c r c' r', p c r = .ok (c', r') → r'.length ≤ r.length
theorem bad_ne {e : Int} {r : List Tok} {x : List D × List Tok} : bad e r ≠ .ok x := by cases r <;> simp [bad]
theorem mon_the (s : List UInt8) : MonS (pThe s) := by
  intro c r c' r' h
  cases r with
  | nil => simp [pThe, bad] at h
  | cons t r => simp only [pThe] at h; split at h; (simp at h; simp [← h.2]); exact absurd h bad_ne
theorem mon_name : MonS pName := by
  intro c r c' r' h
  cases r with
  | nil => simp [pName, bad] at h
  | cons t r => simp only [pName] at h; split at h; (simp at h; simp [← h.2]); exact absurd h bad_ne
theorem mon_num : MonS pNum := by
  intro c r c' r' h
  cases r with
  | nil => simp [pNum, bad] at h
  | cons t r => simp only [pNum] at h; split at h; (simp at h; simp [← h.2]); exact absurd h bad_ne
theorem mon_pos : MonS pPos := by
  intro c r c' r' h
  cases r with
  | nil => simp [pPos, bad] at h
  | cons t r => simp [pPos] at h; simp [← h.2]
theorem mon_end : MonS pEnd := by
  intro c r c' r' h
  cases r with
  | nil => simp [pEnd, bad] at h
  | cons t r => simp only [pEnd] at h; split at h; (simp at h; simp [← h.2]); exact absurd h bad_ne
theorem mon_may (s : List UInt8) : MonS (pMay s) := by
  intro c r c' r' h
  cases r with
  | nil => simp [pMay, bad] at h
  | cons t r => simp only [pMay] at h; split at h <;> (simp at h; simp [← h.2])
theorem mon_some : MonS pSome := by
  intro c r c' r' h
  simp only [pSome] at h
  split at h
  · exact absurd h bad_ne
  · simp at h; simp [h.2]
theorem mon_sq : ∀ (ps : List Sp), (∀ p ∈ ps, MonS p) → MonS (sq ps)
  | [], _, c, r, c', r', h => by simp [sq] at h; simp [h.2]
  | p :: ps, hp, c, r, c', r', h => by
    simp only [sq] at h
    split at h
    · cases h
    · rename_i c1 r1 h1
      exact Nat.le_trans (mon_sq ps (fun q hq => hp q (List.mem_cons_of_mem _ hq)) _ _ _ _ h) (hp p List.mem_cons_self _ _ _ _ h1)
theorem mon_frac : MonS pFrac := mon_sq _ (by intro p hp; simp at hp; rcases hp with rfl | rfl | rfl; exact mon_num; exact mon_the _; exact mon_num)
theorem mon_grade : MonS pGrade := by
  intro c r c' r' h
  have hs := mon_sq [pMay [45], pNum] (by intro p hp; simp at hp; rcases hp with rfl | rfl; exact mon_may _; exact mon_num)
  simp only [pGrade] at h
  split at h
  · cases h
  · rename_i h1; simp at h; rw [← h.2]; exact hs _ _ _ _ h1
  · cases h
theorem name_shrinks {c c' : List D} {r r' : List Tok} (h : pName c r = .ok (c', r')) : r'.length < r.length := by
  cases r with
  | nil => simp [pName, bad] at h
  | cons t r => simp only [pName] at h; split at h; (simp at h; simp [← h.2]); exact absurd h bad_ne
theorem nmz_fuel (most : Nat) : ∀ (f g : Nat) (L : List (List D)) (r : List Tok), r.length < f → r.length < g → nmz most f L r = nmz most g L r
  | 0, _, _, _, h, _ => by omega
  | _, 0, _, _, _, h => by omega
  | f + 1, g + 1, L, r, hf, hg => by
    simp only [nmz]
    split
    · rfl
    · rename_i d r' h1
      have := name_shrinks h1
      split
      · rfl
      · split
        · rename_i r2 h2
          have := mon_may _ _ _ _ _ h2
          exact nmz_fuel most f g _ r2 (by omega) (by omega)
        · rfl
        · rfl
/-- names, by what is there already -/
def nm (most : Nat) (L : List (List D)) (r : List Tok) : Except Er (List (List D) × List Tok) := nmz most (r.length + 1) L r
theorem nm_cons (most : Nat) (L : List (List D)) (t : Tok) (r : List Tok) : nm most L (t :: r) =
    if t.k = 1 ∧ ¬ t.s ∈ words then
      (if L.length = most then .error (4, t.p)
       else match r with
        | [] => .error (50, 0)
        | u :: r2 => if u.s = [44] then nm most (L ++ [[dS t.s]]) r2 else .ok (L ++ [[dS t.s]], u :: r2))
    else .error (50, t.p) := by
  unfold nm
  rw [nmz]
  by_cases h : t.k = 1 ∧ ¬ t.s ∈ words
  · have e : pName [] (t :: r) = .ok ([dS t.s], r) := by simp [pName, h]
    rw [e, if_pos h]
    by_cases h2 : L.length = most
    · simp [h2, bad]
    · simp only [if_neg h2]
      cases r with
      | nil => simp [pMay, bad]
      | cons u r2 =>
        by_cases h3 : u.s = [44]
        · simp only [pMay, if_pos h3, dB, List.nil_append]
          exact nmz_fuel most _ _ _ r2 (by simp; omega) (by simp)
        · simp [pMay, if_neg h3, dB]
  · have e : pName [] (t :: r) = .error (50, t.p) := by simp only [pName, if_neg h, bad]
    rw [e, if_neg h]
theorem nm_mon (most : Nat) : ∀ (f : Nat) (L : List (List D)) (r : List Tok) (L' : List (List D)) (r' : List Tok), nmz most f L r = .ok (L', r') → r'.length ≤ r.length
  | 0, _, _, _, _, h => by simp [nmz] at h
  | f + 1, L, r, L', r', h => by
    simp only [nmz] at h
    split at h
    · cases h
    · rename_i d r1 h1
      have := name_shrinks h1
      split at h
      · split at h <;> cases h
      · split at h
        · rename_i r2 h2
          have := mon_may _ _ _ _ _ h2
          have := nm_mon most f _ r2 _ _ h
          omega
        · rename_i r2 _ h2
          have := mon_may _ _ _ _ _ h2
          simp at h; rw [← h.2]; omega
        · cases h
theorem mon_names (e most : Nat) : MonS (pNames e most) := by
  intro c r c' r' h
  simp only [pNames] at h
  split at h
  · cases h
  · rename_i L r1 h1; simp at h; rw [← h.2]; exact nm_mon _ _ _ _ _ _ h1
theorem rwz_fuel (word : List UInt8) (most : Nat) (body : List Tok → Rs) (hm : Mon body) : ∀ (f g : Nat) (L : List (List D)) (r : List Tok), r.length < f → r.length < g → rwz word most body f L r = rwz word most body g L r
  | 0, _, _, _, h, _ => by omega
  | _, 0, _, _, _, h => by omega
  | f + 1, g + 1, L, [], hf, hg => by simp [rwz]
  | f + 1, g + 1, L, t :: r, hf, hg => by
    simp only [rwz]
    split
    · split
      · rfl
      · split
        · rfl
        · rename_i d r' h1
          have := hm _ _ _ h1
          simp at hf hg
          exact rwz_fuel word most body hm f g _ r' (by omega) (by omega)
    · rfl
/-- things, by what is there already -/
def rw_ (word : List UInt8) (most : Nat) (body : List Tok → Rs) (L : List (List D)) (r : List Tok) : Except Er (List (List D) × List Tok) := rwz word most body (r.length + 1) L r
theorem rw_cons (word : List UInt8) (most : Nat) (body : List Tok → Rs) (hm : Mon body) (L : List (List D)) (t : Tok) (r : List Tok) : rw_ word most body L (t :: r) =
    if t.s = word then
      (if L.length = most then .error (4, t.p)
       else match body r with
        | .error x => .error x
        | .ok (d, r') => rw_ word most body (L ++ [d]) r')
    else .ok (L, t :: r) := by
  unfold rw_
  rw [rwz]
  by_cases h : t.s = word
  · simp only [if_pos h]
    by_cases h2 : L.length = most
    · simp only [if_pos h2]
    · simp only [if_neg h2]
      cases h1 : body r with
      | error x => rfl
      | ok q =>
        obtain ⟨d, r'⟩ := q
        have := hm _ _ _ h1
        simp only [List.length_cons]
        exact rwz_fuel word most body hm _ _ _ r' (by omega) (by omega)
  · simp only [if_neg h]
theorem rwz_mon (word : List UInt8) (most : Nat) (body : List Tok → Rs) (hm : Mon body) : ∀ (f : Nat) (L : List (List D)) (r : List Tok) (L' : List (List D)) (r' : List Tok), rwz word most body f L r = .ok (L', r') → r'.length ≤ r.length
  | 0, _, _, _, _, h => by simp [rwz] at h
  | f + 1, L, [], L', r', h => by simp [rwz] at h
  | f + 1, L, t :: r, L', r', h => by
    simp only [rwz] at h
    split at h
    · split at h
      · cases h
      · split at h
        · cases h
        · rename_i d r1 h1
          have := hm _ _ _ h1
          have := rwz_mon word most body hm f _ r1 _ _ h
          simp; omega
    · simp at h; simp [← h.2]
theorem mon_row (word : List UInt8) (most e z : Nat) (body : List Tok → Rs) (hm : Mon body) : MonS (pRow word most e z body) := by
  intro c r c' r' h
  simp only [pRow] at h
  split at h
  · cases h
  · rename_i L r1 h1; simp at h; rw [← h.2]; exact rwz_mon _ _ _ hm _ _ _ _ _ h1
theorem mon_rotd {p : List Tok → Rs} (h : Mon p) : Mon (rotd p) := by
  intro r c r' e
  simp only [rotd] at e
  split at e
  · cases e
  · rename_i c1 r1 h1; simp at e; rw [← e.2]; exact h _ _ _ h1
theorem mon_of {ps : List Sp} (h : ∀ p ∈ ps, MonS p) : Mon (sq ps []) := fun r c r' e => mon_sq ps h _ _ _ _ e
theorem all_nil {α : Type} {Q : α → Prop} : ∀ p ∈ ([] : List α), Q p := fun p h => by cases h
theorem all_cons {α : Type} {Q : α → Prop} {a : α} {l : List α} (h : Q a) (t : ∀ p ∈ l, Q p) : ∀ p ∈ a :: l, Q p := fun p hp => by
  rcases List.mem_cons.1 hp with rfl | hp
  · exact h
  · exact t p hp
theorem mon_foe : Mon pFoe := mon_rotd (mon_of (by repeat (first | exact all_nil | (refine all_cons ?_ ?_; first | exact mon_pos | exact mon_name | exact mon_num | exact mon_the _ | exact mon_frac | exact mon_grade | exact mon_may _ | exact mon_names _ _ | exact mon_some | exact mon_end))))
theorem mon_walk : Mon pWalk := mon_rotd (mon_of (by repeat (first | exact all_nil | (refine all_cons ?_ ?_; first | exact mon_pos | exact mon_name | exact mon_num | exact mon_the _ | exact mon_frac | exact mon_grade | exact mon_may _ | exact mon_names _ _ | exact mon_some | exact mon_end))))
theorem mon_stop : Mon pStop := mon_rotd (mon_of (by repeat (first | exact all_nil | (refine all_cons ?_ ?_; first | exact mon_pos | exact mon_name | exact mon_num | exact mon_the _ | exact mon_frac | exact mon_grade | exact mon_may _ | exact mon_names _ _ | exact mon_some | exact mon_end))))
theorem mon_head : Mon pHead := mon_rotd (mon_of (by repeat (first | exact all_nil | (refine all_cons ?_ ?_; first | exact mon_pos | exact mon_name | exact mon_num | exact mon_the _ | exact mon_frac | exact mon_grade | exact mon_may _ | exact mon_names _ _ | exact mon_some | exact mon_end))))
theorem mon_phase : Mon pPhase := mon_rotd (mon_of (by repeat (first | exact all_nil | (refine all_cons ?_ ?_; first | exact mon_pos | exact mon_name | exact mon_num | exact mon_the _ | exact mon_frac | exact mon_grade | exact mon_may _ | exact mon_names _ _ | exact mon_some | exact mon_end))))
theorem mon_ring : Mon pRing := mon_of (by repeat (first | exact all_nil | (refine all_cons ?_ ?_; first | exact mon_pos | exact mon_name | exact mon_num | exact mon_the _ | exact mon_frac | exact mon_grade | exact mon_may _ | exact mon_names _ _ | exact mon_some | exact mon_end)))
theorem mon_group : Mon pGroup := mon_of (by repeat (first | exact all_nil | (refine all_cons ?_ ?_; first | exact mon_the _ | exact mon_row _ _ _ _ _ mon_ring | exact mon_some)))
theorem mon_node : Mon pNode := mon_rotd (mon_of (by repeat (first | exact all_nil | (refine all_cons ?_ ?_; first | exact mon_pos | exact mon_name | exact mon_the _ | exact mon_row _ _ _ _ _ mon_head | exact mon_row _ _ _ _ _ mon_walk | exact mon_row _ _ _ _ _ mon_phase | exact mon_row _ _ _ _ _ mon_group | exact mon_row _ _ _ _ _ mon_foe))))
end Go.Proofs.YtcdnbdajnagfiaaGreatDoor

namespace Go.Proofs.YtcdnbdajnagfiaaGreatDoor
set_option linter.unusedVariables false
set_option linter.unusedSimpArgs false
theorem sq_inv {p : Sp} {ps : List Sp} {c : List D} {r : List Tok} {x : List D × List Tok} (h : sq (p :: ps) c r = .ok x) : ∃ c1 r1, p c r = .ok (c1, r1) ∧ sq ps c1 r1 = .ok x := by
  simp only [sq] at h
  cases hp : p c r with
  | error y => rw [hp] at h; cases h
  | ok q => obtain ⟨c1, r1⟩ := q; rw [hp] at h; exact ⟨c1, r1, rfl, h⟩
theorem sq_end {c : List D} {r : List Tok} {x : List D × List Tok} (h : sq [] c r = .ok x) : x = (c, r) := by simp [sq] at h; exact h.symm
theorem the_inv {s : List UInt8} {c : List D} {r : List Tok} {c' : List D} {r' : List Tok} (h : pThe s c r = .ok (c', r')) : c' = c ∧ ∃ t, r = t :: r' := by
  cases r with
  | nil => simp [pThe, bad] at h
  | cons t r => simp only [pThe] at h; split at h; (simp at h; exact ⟨h.1.symm, t, by rw [h.2]⟩); exact absurd h bad_ne
theorem name_inv {c : List D} {r : List Tok} {c' : List D} {r' : List Tok} (h : pName c r = .ok (c', r')) : ∃ t, c' = c ++ [dS t.s] ∧ ¬ t.s ∈ words ∧ r = t :: r' := by
  cases r with
  | nil => simp [pName, bad] at h
  | cons t r => simp only [pName] at h; split at h; (rename_i hk; simp at h; exact ⟨t, h.1.symm, hk.2, by rw [h.2]⟩); exact absurd h bad_ne
theorem num_inv {c : List D} {r : List Tok} {c' : List D} {r' : List Tok} (h : pNum c r = .ok (c', r')) : ∃ t, c' = c ++ [dI t.n] ∧ r = t :: r' := by
  cases r with
  | nil => simp [pNum, bad] at h
  | cons t r => simp only [pNum] at h; split at h; (simp at h; exact ⟨t, h.1.symm, by rw [h.2]⟩); exact absurd h bad_ne
theorem some_inv {c : List D} {r : List Tok} {c' : List D} {r' : List Tok} (h : pSome c r = .ok (c', r')) : c' = c ∧ ∀ e z, c ≠ [.row e z []] := by
  simp only [pSome] at h
  split at h
  · exact absurd h bad_ne
  · rename_i hne; simp at h; exact ⟨h.1.symm, fun e z he => hne e z he⟩
theorem nmz_inv (most : Nat) : ∀ (f : Nat) (L : List (List D)) (r : List Tok) (L' : List (List D)) (r' : List Tok), L.length ≤ most → nmz most f L r = .ok (L', r') → 1 ≤ L'.length ∧ L'.length ≤ most
  | 0, _, _, _, _, _, h => by simp [nmz] at h
  | f + 1, L, r, L', r', hL, h => by
    simp only [nmz] at h
    split at h
    · cases h
    · rename_i d r1 h1
      split at h
      · split at h <;> cases h
      · rename_i hne
        split at h
        · rename_i r2 h2
          exact nmz_inv most f _ r2 _ _ (by simp; omega) h
        · rename_i r2 _ h2
          simp at h; rw [← h.1]; simp; omega
        · cases h
theorem names_inv {e most : Nat} {c : List D} {r : List Tok} {c' : List D} {r' : List Tok} (h : pNames e most c r = .ok (c', r')) : ∃ L, c' = c ++ [.row e 1 L] ∧ 1 ≤ L.length ∧ L.length ≤ most := by
  simp only [pNames] at h
  split at h
  · cases h
  · rename_i L r1 h1; simp at h; exact ⟨L, h.1.symm, nmz_inv most _ _ _ _ _ (Nat.zero_le _) h1⟩
theorem rotd_inv {p : List Tok → Rs} {r : List Tok} {c : List D} {r' : List Tok} (h : rotd p r = .ok (c, r')) : ∃ c1, p r = .ok (c1, r') ∧ c = rot c1 := by
  simp only [rotd] at h
  cases hp : p r with
  | error x => rw [hp] at h; cases h
  | ok q => obtain ⟨c1, r1⟩ := q; rw [hp] at h; simp at h; exact ⟨c1, by rw [h.2], h.1.symm⟩
end Go.Proofs.YtcdnbdajnagfiaaGreatDoor

namespace Go.Proofs.YtcdnbdajnagfiaaGreatDoor
set_option linter.unusedVariables false
set_option linter.unusedSimpArgs false
/-- tokens that end as they should -/
def W (r : List Tok) : Prop := ∃ m e, r = m ++ [e] ∧ e.k = 0 ∧ e.s = []
theorem W.ne {r : List Tok} (h : W r) : r ≠ [] := by obtain ⟨m, e, rfl, _⟩ := h; simp
theorem W.tail {t : Tok} {r : List Tok} (h : W (t :: r)) (ht : t.k ≠ 0 ∨ t.s ≠ []) : W r := by
  obtain ⟨m, e, h1, h2, h3⟩ := h
  cases m with
  | nil => simp at h1; obtain ⟨rfl, _⟩ := h1; rcases ht with h | h; exact absurd h2 h; exact absurd h3 h
  | cons u m => simp at h1; exact ⟨m, e, h1.2, h2, h3⟩
end Go.Proofs.YtcdnbdajnagfiaaGreatDoor

namespace Go.Proofs.YtcdnbdajnagfiaaGreatDoor
set_option linter.unusedVariables false
set_option linter.unusedSimpArgs false
/-- the artery behind its word -/
def artIn : List Sp := [pThe [123], pRow [115, 116, 111, 112] 12 49 6 pStop, pThe [119, 101, 105, 103, 104, 116, 115], pNum, pNum, pThe [59], pThe [125]]
theorem art_yes {c : List D} {t : Tok} {r : List Tok} (h : t.s = [97, 114, 116, 101, 114, 121]) : pArt c (t :: r) = sq artIn c r := by simp [pArt, pMay, h, dB, artIn]
theorem art_no {c : List D} {t : Tok} {r : List Tok} (h : ¬ t.s = [97, 114, 116, 101, 114, 121]) : pArt c (t :: r) = .ok (c ++ [.row 49 6 [], dI 0, dI 0], t :: r) := by simp [pArt, pMay, h, dB]
end Go.Proofs.YtcdnbdajnagfiaaGreatDoor

namespace Go.Proofs.YtcdnbdajnagfiaaGreatDoor
set_option linter.unusedVariables false
set_option linter.unusedSimpArgs false
/-- a token without its place -/
def q0 (t : Tok) : Tok := ⟨t.k, t.s, t.n, 0⟩
/-- does a thing of so many parts have a place (it stands last)? -/
def plc (z : Nat) : Bool := z == 3 || z == 6 || z == 7 || z == 11
mutual
/-- what is read without its places -/
def Z : D → D
  | .val v => .val v
  | .row e z L => .row e z (Zss (plc z) L)
def Zl : Bool → List D → List D
  | _, [] => []
  | b, d :: ds => (if b && ds.isEmpty then dI 0 else Z d) :: Zl b ds
def Zss : Bool → List (List D) → List (List D)
  | _, [] => []
  | b, ds :: L => Zl b ds :: Zss b L
end
theorem zss_map (b : Bool) : ∀ L : List (List D), Zss b L = L.map (Zl b)
  | [] => by simp [Zss]
  | ds :: L => by simp [Zss, zss_map b L]
theorem zss_len (b : Bool) (L : List (List D)) : (Zss b L).length = L.length := by rw [zss_map]; simp
theorem q0_nil {r' : List Tok} (h : ([] : List Tok).map q0 = r'.map q0) : r' = [] := by cases r' with | nil => rfl | cons => simp at h
theorem q0_cons {t : Tok} {r r' : List Tok} (h : (t :: r).map q0 = r'.map q0) : ∃ t' r2, r' = t' :: r2 ∧ t'.k = t.k ∧ t'.s = t.s ∧ t'.n = t.n ∧ r.map q0 = r2.map q0 := by
  cases r' with
  | nil => simp at h
  | cons t' r2 =>
    simp [q0] at h
    exact ⟨t', r2, rfl, h.1.1.symm, h.1.2.1.symm, h.1.2.2.symm, by simpa [q0] using h.2⟩
def Out (c c' : List D) (x y : Rs) : Prop := match x, y with
  | .error e, .error f => e.1 = f.1
  | .ok (c1, s), .ok (c2, s') => s.map q0 = s'.map q0 ∧ ∃ d d', c1 = c ++ d ∧ c2 = c' ++ d' ∧ d.map Z = d'.map Z
  | _, _ => False
/-- a step that reads alike, whatever was read ahead -/
def PlC (p : Sp) : Prop := ∀ c c' r r', r.map q0 = r'.map q0 → Out c c' (p c r) (p c' r')
theorem out_bad {c c' : List D} {e : Int} {r r' : List Tok} (h : r.map q0 = r'.map q0) : Out c c' (bad e r) (bad e r') := by
  cases r with
  | nil => obtain rfl := q0_nil h; simp [bad, Out]
  | cons t r => obtain ⟨t', r2, rfl, _⟩ := q0_cons h; simp [bad, Out]
theorem out_ok {c c' d d' : List D} {s s' : List Tok} (h : s.map q0 = s'.map q0) (hd : d.map Z = d'.map Z) : Out c c' (.ok (c ++ d, s)) (.ok (c' ++ d', s')) := ⟨h, d, d', rfl, rfl, hd⟩
theorem pl_name : PlC pName := by
  intro c c' r r' h
  cases r with
  | nil => obtain rfl := q0_nil h; simp [pName, bad, Out]
  | cons t r =>
    obtain ⟨t', r2, rfl, hk, hs, hn, h2⟩ := q0_cons h
    simp only [pName, hs, hk]
    by_cases ht : t.k = 1 ∧ ¬ t.s ∈ words
    · rw [if_pos ht, if_pos ht]; exact out_ok h2 rfl
    · rw [if_neg ht, if_neg ht]; exact out_bad h
theorem pl_num : PlC pNum := by
  intro c c' r r' h
  cases r with
  | nil => obtain rfl := q0_nil h; simp [pNum, bad, Out]
  | cons t r =>
    obtain ⟨t', r2, rfl, hk, hs, hn, h2⟩ := q0_cons h
    simp only [pNum, hn, hk]
    by_cases ht : t.k = 2
    · rw [if_pos ht, if_pos ht]; exact out_ok h2 rfl
    · rw [if_neg ht, if_neg ht]; exact out_bad h
end Go.Proofs.YtcdnbdajnagfiaaGreatDoor

namespace Go.Proofs.YtcdnbdajnagfiaaGreatDoor
set_option linter.unusedVariables false
set_option linter.unusedSimpArgs false
def NamesSh (L : List (List D)) : Prop := L.length ≤ 100000 ∧ ∀ x ∈ L, ∃ s, x = [dS s]
def HeadSh (x : List D) : Prop := ∃ s v1 v2 v3 v4 v5 v6 v7 v8 v9 p, x = [dS s, dI v1, dI v2, dI v3, dI v4, dI v5, dI v6, dI v7, dI v8, dI v9, dI p]
def PedSh (x : List D) : Prop := ∃ s t v1 v2 v3 p, x = [dS s, dS t, dI v1, dI v2, dI v3, dI p]
def PhaseSh (x : List D) : Prop := ∃ s L p, x = [dS s, .row 9 1 L, dI p] ∧ NamesSh L
def RingSh (x : List D) : Prop := ∃ f L, x = [dB f, .row 9 1 L] ∧ NamesSh L
def GroupSh (x : List D) : Prop := ∃ R, x = [.row 93 2 R] ∧ R.length ≤ 100000 ∧ ∀ y ∈ R, RingSh y
def FoeSh (x : List D) : Prop := ∃ s t p, x = [dS s, dS t, dI p]
def StopSh (x : List D) : Prop := ∃ s t u v1 v2 p, x = [dS s, dS t, dS u, dI v1, dI v2, dI p]
def NodeSh (x : List D) : Prop := ∃ s H P Q G F p, x = [dS s, .row 84 11 H, .row 86 6 P, .row 88 3 Q, .row 91 1 G, .row 95 3 F, dI p] ∧ (H.length ≤ 100000 ∧ ∀ y ∈ H, HeadSh y) ∧ (P.length ≤ 100000 ∧ ∀ y ∈ P, PedSh y) ∧ (Q.length ≤ 100000 ∧ ∀ y ∈ Q, PhaseSh y) ∧ (G.length ≤ 100000 ∧ ∀ y ∈ G, GroupSh y) ∧ (F.length ≤ 100000 ∧ ∀ y ∈ F, FoeSh y)
def NetSh (x : List D) : Prop := ∃ a0 a1 a2 a3 a4 Ns Ss a5 a6, x = [dI a0, dI a1, dI a2, dI a3, dI a4, .row 46 7 Ns, .row 49 6 Ss, dI a5, dI a6] ∧ (Ns.length ≤ 100000 ∧ ∀ y ∈ Ns, NodeSh y) ∧ (Ss.length ≤ 100000 ∧ ∀ y ∈ Ss, StopSh y)
/-- what a step adds -/
def ShC (p : Sp) (Q : List D → Prop) : Prop := ∀ c r c' r', p c r = .ok (c', r') → ∃ d, c' = c ++ d ∧ Q d
theorem nmz_sh (most : Nat) : ∀ (f : Nat) (L : List (List D)) (r : List Tok) (L' : List (List D)) (r' : List Tok), (∀ x ∈ L, ∃ s, x = [dS s]) → nmz most f L r = .ok (L', r') → ∀ x ∈ L', ∃ s, x = [dS s]
  | 0, _, _, _, _, _, h => by simp [nmz] at h
  | f + 1, L, r, L', r', hL, h => by
    simp only [nmz] at h
    split at h
    · cases h
    · rename_i d r1 h1
      obtain ⟨t, e, _⟩ := name_inv h1
      have hd : ∀ x ∈ L ++ [d], ∃ s, x = [dS s] := fun x hx => by
        rcases List.mem_append.1 hx with hx | hx
        · exact hL x hx
        · simp at hx; subst hx; exact ⟨t.s, by simpa using e⟩
      split at h
      · split at h <;> cases h
      · split at h
        · exact nmz_sh most f _ _ _ _ hd h
        · simp at h; rw [← h.1]; exact hd
        · cases h
theorem sh_names (e most : Nat) (hm : most ≤ 100000) : ShC (pNames e most) (fun d => ∃ L, d = [.row e 1 L] ∧ NamesSh L) := fun c r c' r' h => by
  obtain ⟨L, e1, _, e3⟩ := names_inv h
  refine ⟨_, e1, L, rfl, by omega, ?_⟩
  simp only [pNames] at h
  split at h
  · cases h
  · rename_i L2 r1 h1
    simp at h
    have : L2 = L := by have := h.1; rw [e1] at this; simpa using this
    subst this
    exact nmz_sh most _ _ _ _ _ (fun x hx => by cases hx) h1
end Go.Proofs.YtcdnbdajnagfiaaGreatDoor

namespace Go.Proofs.YtcdnbdajnagfiaaGreatDoor
set_option linter.unusedVariables false
theorem one_err {r : List UInt8} {p : Nat} {e : Int} (h : one r p = .error e) : e = 4 ∨ e = 40 := by
  cases r with
  | nil => simp [one] at h
  | cons c r => simp only [one] at h; (repeat' split at h) <;> simp at h <;> omega
theorem pre_err {acc : List Tok} {x : Except (Int × Nat) (List Tok)} {y : Int × Nat} (h : pre acc x = .error y) : x = .error y := by
  cases x with
  | error z => exact h
  | ok l => cases h
theorem pre_ok {acc L : List Tok} {x : Except (Int × Nat) (List Tok)} (h : pre acc x = .ok L) : ∃ M, x = .ok M ∧ L = acc ++ M := by
  cases x with
  | error z => cases h
  | ok l => simp only [pre, Except.ok.injEq] at h; exact ⟨l, rfl, h.symm⟩
theorem tk_err : ∀ (n : Nat) (r : List UInt8) (p : Nat) (e : Int) (a : Nat), r.length ≤ n → tk r p = .error (e, a) → (e = 4 ∨ e = 40) ∧ p ≤ a ∧ a ≤ p + r.length
  | n, r, p, e, a, hn, h => by
    rw [tk_eq] at h
    have hs := skp_le false r
    split at h
    · rename_i e' he
      simp only [Except.error.injEq, Prod.mk.injEq] at h
      obtain ⟨rfl, rfl⟩ := h
      exact ⟨one_err he, by omega, by omega⟩
    · rename_i t ht
      split at h
      · cases h
      · rename_i hk
        have h' := pre_err h
        rcases (one_ok ht).2 with ⟨_, h2⟩ | ⟨_, _, _, h1, h2, _⟩
        · rw [h2] at hk; exact absurd rfl hk
        · have hl := en_le (r.drop (skp false r))
          cases n with
          | zero =>
            simp only [List.length_drop] at hl
            omega
          | succ n =>
            have := tk_err n _ _ e a (by simp only [List.length_drop] at *; omega) h'
            simp only [List.length_drop] at *
            omega
theorem tk_cons {r : List UInt8} {p : Nat} {L : List Tok} (h : tk r p = .ok L) :
    (L = [⟨0, [], 0, ((p + r.length : Nat) : Int)⟩] ∧ skp false r = r.length) ∨
    (∃ t M, L = t :: M ∧ one (r.drop (skp false r)) (p + skp false r) = .ok t ∧ t.k ≠ 0 ∧ t.p = ((p + skp false r : Nat) : Int) ∧ t.s = (r.drop (skp false r)).take t.s.length ∧ 1 ≤ t.s.length ∧ skp false r + t.s.length ≤ r.length ∧ tk (r.drop (skp false r + t.s.length)) (p + skp false r + t.s.length) = .ok M) := by
  rw [tk_eq] at h
  have hs := skp_le false r
  split at h
  · cases h
  · rename_i t ht
    have h0 := one_ok ht
    split at h
    · rename_i hk
      left
      rcases h0.2 with ⟨h1, h2⟩ | ⟨h1, _⟩
      · have : r.length ≤ skp false r := by have := congrArg List.length h1; simp at this; omega
        have e : skp false r = r.length := by omega
        rw [e] at h2
        simp only [Except.ok.injEq] at h
        rw [h2] at h
        exact ⟨h.symm, e⟩
      · exact absurd hk h1
    · rename_i hk
      right
      obtain ⟨M, hM, rfl⟩ := pre_ok h
      rcases h0.2 with ⟨_, h2⟩ | ⟨_, _, h3, h4, h5, _⟩
      · rw [h2] at hk; exact absurd rfl hk
      · have hl := en_le (r.drop (skp false r))
        refine ⟨t, M, rfl, ht, hk, h0.1, by rw [h4]; exact h3, by omega, by simp only [List.length_drop] at hl; omega, ?_⟩
        rw [List.drop_drop] at hM
        exact hM
theorem T_err {l : List UInt8} {e : Int} {a : Nat} (h : T l = .error (e, a)) : (e = 4 ∨ e = 40) ∧ a ≤ l.length := by
  unfold T at h
  split at h
  · simp only [Except.error.injEq, Prod.mk.injEq] at h
    obtain ⟨rfl, rfl⟩ := h
    exact ⟨.inl rfl, by omega⟩
  · have := tk_err l.length l 0 e a (Nat.le_refl _) h
    exact ⟨this.1, by omega⟩
theorem T_ok {l : List UInt8} {L : List Tok} (h : T l = .ok L) : l.length ≤ 65536 ∧ tk l 0 = .ok L := by
  unfold T at h
  split at h
  · cases h
  · exact ⟨by omega, h⟩
/-- how many tokens there are -/
theorem tk_len : ∀ (n : Nat) (r : List UInt8) (p : Nat) (L : List Tok), r.length ≤ n → tk r p = .ok L → 1 ≤ L.length ∧ L.length ≤ r.length + 1
  | n, r, p, L, hn, h => by
    rcases tk_cons h with ⟨rfl, _⟩ | ⟨t, M, rfl, _, _, _, _, h5, h6, h7⟩
    · simp
    · cases n with
      | zero => omega
      | succ n =>
        have := tk_len n _ _ M (by rw [List.length_drop]; omega) h7
        rw [List.length_drop] at this
        simp only [List.length_cons]
        omega
theorem T_len {l : List UInt8} {L : List Tok} (h : T l = .ok L) : 1 ≤ L.length ∧ L.length ≤ l.length + 1 := tk_len l.length l 0 L (Nat.le_refl _) (T_ok h).2
/-- a text that is one token: it stands at the front -/
theorem T_one {l : List UInt8} {x y : Tok} (h : T l = .ok [x, y]) (hs : x.s = l) : x.p = 0 := by
  rcases tk_cons (T_ok h).2 with ⟨h1, _⟩ | ⟨t, M, h0, _, _, h3, _, _, h6, _⟩
  · simp at h1
  · simp only [List.cons.injEq] at h0
    obtain ⟨rfl, _⟩ := h0
    rw [h3, hs] at *
    omega
end Go.Proofs.YtcdnbdajnagfiaaGreatDoor
