/- What may be wrong with a text that has tokens: another token was wanted, or there are too many. -/
import Derived.Test.YtfjphcgipbgodaaDoorNPar
import Derived.Test.YtfjphcgipbgodaaDoorNWf
import Derived.Test.YtfjphcgipbgodaaDoorNAwk
namespace Go.Proofs.YtfjphcgipbgodaaDoor
set_option linter.unusedVariables false
set_option linter.unusedSimpArgs false
def ErS (p : Sp) : Prop := ∀ c r x, p c r = .error x → x.1 = 50 ∨ x.1 = 4
def Er1 (p : List Tok → Rs) : Prop := ∀ r x, p r = .error x → x.1 = 50 ∨ x.1 = 4
theorem bad_er {e : Int} {r : List Tok} {x : Er} (h : bad e r = .error x) : x.1 = e := by cases r <;> (simp [bad] at h; rw [← h])
theorem er_the (s : List UInt8) : ErS (pThe s) := by
  intro c r x h
  cases r with
  | nil => exact .inl (bad_er (show bad 50 [] = .error x from h))
  | cons t r => simp only [pThe] at h; split at h; cases h; exact .inl (bad_er h)
theorem er_name : ErS pName := by
  intro c r x h
  cases r with
  | nil => exact .inl (bad_er (show bad 50 [] = .error x from h))
  | cons t r => simp only [pName] at h; split at h; cases h; exact .inl (bad_er h)
theorem er_num : ErS pNum := by
  intro c r x h
  cases r with
  | nil => exact .inl (bad_er (show bad 50 [] = .error x from h))
  | cons t r => simp only [pNum] at h; split at h; cases h; exact .inl (bad_er h)
theorem er_pos : ErS pPos := by
  intro c r x h
  cases r with
  | nil => exact .inl (bad_er (show bad 50 [] = .error x from h))
  | cons t r => simp [pPos] at h
theorem er_end : ErS pEnd := by
  intro c r x h
  cases r with
  | nil => exact .inl (bad_er (show bad 50 [] = .error x from h))
  | cons t r => simp only [pEnd] at h; split at h; cases h; exact .inl (bad_er h)
theorem er_may (s : List UInt8) : ErS (pMay s) := by
  intro c r x h
  cases r with
  | nil => exact .inl (bad_er (show bad 50 [] = .error x from h))
  | cons t r => simp only [pMay] at h; split at h <;> cases h
theorem er_some : ErS pSome := by
  intro c r x h
  simp only [pSome] at h
  split at h
  · exact .inl (bad_er h)
  · cases h
theorem er_sq : ∀ (ps : List Sp), (∀ p ∈ ps, ErS p) → ErS (sq ps)
  | [], _, c, r, x, h => by simp [sq] at h
  | p :: ps, hp, c, r, x, h => by
    simp only [sq] at h
    cases hq : p c r with
    | error y => rw [hq] at h; injection h with h; subst h; exact hp p List.mem_cons_self _ _ _ hq
    | ok q => obtain ⟨c1, r1⟩ := q; rw [hq] at h; exact er_sq ps (fun q hq => hp q (List.mem_cons_of_mem _ hq)) _ _ _ h
theorem er_frac : ErS pFrac := er_sq _ (all_cons er_num (all_cons (er_the _) (all_cons er_num all_nil)))
theorem er_grade : ErS pGrade := by
  intro c r x h
  have h0 := er_sq [pMay [45], pNum] (all_cons (er_may _) (all_cons er_num all_nil))
  cases r with
  | nil => simp [pGrade, sq, pMay, bad] at h; rw [← h]; exact .inl rfl
  | cons t r =>
    by_cases h1 : t.s = [45]
    · cases r with
      | nil => simp [pGrade, sq, pMay, bad, h1, pNum] at h; rw [← h]; exact .inl rfl
      | cons u r =>
        by_cases h2 : u.k = 2
        · simp [pGrade, sq, pMay, bad, h1, pNum, h2, dB, dI] at h
        · simp [pGrade, sq, pMay, bad, h1, pNum, h2] at h; rw [← h]; exact .inl rfl
    · by_cases h2 : t.k = 2
      · simp [pGrade, sq, pMay, bad, h1, pNum, h2, dB, dI] at h
      · simp [pGrade, sq, pMay, bad, h1, pNum, h2] at h; rw [← h]; exact .inl rfl
theorem er_nm (most : Nat) : ∀ (n : Nat) (L : List (List D)) (r : List Tok) (x : Er), r.length ≤ n → nm most L r = .error x → x.1 = 50 ∨ x.1 = 4
  | n, L, [], x, _, h => by simp [nm, nmz, pName, bad] at h; rw [← h]; exact .inl rfl
  | n, L, t :: r, x, hn, h => by
    rw [nm_cons] at h
    split at h
    · split at h
      · injection h with h; rw [← h]; exact .inr rfl
      · cases r with
        | nil => simp at h; rw [← h]; exact .inl rfl
        | cons u r2 =>
          simp only at h
          split at h
          · cases n with
            | zero => simp at hn
            | succ n => exact er_nm most n _ r2 x (by simp at hn; omega) h
          · cases h
    · injection h with h; rw [← h]; exact .inl rfl
theorem er_names (e most : Nat) : ErS (pNames e most) := by
  intro c r x h
  simp only [pNames] at h
  cases hq : nmz most (r.length + 1) [] r with
  | error y => rw [hq] at h; injection h with h; subst h; exact er_nm most _ [] r _ (Nat.le_refl _) hq
  | ok q => obtain ⟨L, r1⟩ := q; rw [hq] at h; cases h
theorem er_rw (word : List UInt8) (most : Nat) (body : List Tok → Rs) (hm : Mon body) (he : Er1 body) : ∀ (n : Nat) (L : List (List D)) (r : List Tok) (x : Er), r.length ≤ n → rw_ word most body L r = .error x → x.1 = 50 ∨ x.1 = 4
  | n, L, [], x, _, h => by simp [rw_, rwz] at h; rw [← h]; exact .inl rfl
  | n, L, t :: r, x, hn, h => by
    rw [rw_cons _ _ _ hm] at h
    split at h
    · split at h
      · injection h with h; rw [← h]; exact .inr rfl
      · cases hb : body r with
        | error y => rw [hb] at h; injection h with h; subst h; exact he _ _ hb
        | ok q =>
          obtain ⟨d, r'⟩ := q
          rw [hb] at h
          have := hm _ _ _ hb
          cases n with
          | zero => simp at hn
          | succ n => exact er_rw word most body hm he n _ r' x (by simp at hn; omega) h
    · cases h
theorem er_row (word : List UInt8) (most e z : Nat) (body : List Tok → Rs) (hm : Mon body) (he : Er1 body) : ErS (pRow word most e z body) := by
  intro c r x h
  simp only [pRow] at h
  cases hq : rwz word most body (r.length + 1) [] r with
  | error y => rw [hq] at h; injection h with h; subst h; exact er_rw word most body hm he _ [] r _ (Nat.le_refl _) hq
  | ok q => obtain ⟨L, r1⟩ := q; rw [hq] at h; cases h
theorem er_rotd {p : List Tok → Rs} (h : Er1 p) : Er1 (rotd p) := by
  intro r x e
  simp only [rotd] at e
  cases hq : p r with
  | error y => rw [hq] at e; injection e with e; subst e; exact h _ _ hq
  | ok q => obtain ⟨c, r1⟩ := q; rw [hq] at e; cases e
theorem er_of {ps : List Sp} (h : ∀ p ∈ ps, ErS p) : Er1 (sq ps []) := fun r x e => er_sq ps h _ _ _ e
theorem er_foe : Er1 pFoe := er_rotd (er_of (by repeat (first | exact all_nil | (refine all_cons ?_ ?_; first | exact er_pos | exact er_name | exact er_num | exact er_the _ | exact er_frac | exact er_grade | exact er_may _ | exact er_names _ _))))
theorem er_walk : Er1 pWalk := er_rotd (er_of (by repeat (first | exact all_nil | (refine all_cons ?_ ?_; first | exact er_pos | exact er_name | exact er_num | exact er_the _ | exact er_frac | exact er_grade | exact er_may _ | exact er_names _ _))))
theorem er_stop : Er1 pStop := er_rotd (er_of (by repeat (first | exact all_nil | (refine all_cons ?_ ?_; first | exact er_pos | exact er_name | exact er_num | exact er_the _ | exact er_frac | exact er_grade | exact er_may _ | exact er_names _ _))))
theorem er_head : Er1 pHead := er_rotd (er_of (by repeat (first | exact all_nil | (refine all_cons ?_ ?_; first | exact er_pos | exact er_name | exact er_num | exact er_the _ | exact er_frac | exact er_grade | exact er_may _ | exact er_names _ _))))
theorem er_phase : Er1 pPhase := er_rotd (er_of (by repeat (first | exact all_nil | (refine all_cons ?_ ?_; first | exact er_pos | exact er_name | exact er_num | exact er_the _ | exact er_frac | exact er_grade | exact er_may _ | exact er_names _ _))))
theorem er_ring : Er1 pRing := er_of (by repeat (first | exact all_nil | (refine all_cons ?_ ?_; first | exact er_pos | exact er_name | exact er_num | exact er_the _ | exact er_frac | exact er_grade | exact er_may _ | exact er_names _ _)))
theorem er_group : Er1 pGroup := er_of (by repeat (first | exact all_nil | (refine all_cons ?_ ?_; first | exact er_the _ | exact er_row _ _ _ _ _ mon_ring er_ring | exact er_some)))
theorem er_node : Er1 pNode := er_rotd (er_of (by repeat (first | exact all_nil | (refine all_cons ?_ ?_; first | exact er_pos | exact er_name | exact er_the _ | exact er_row _ _ _ _ _ mon_head er_head | exact er_row _ _ _ _ _ mon_walk er_walk | exact er_row _ _ _ _ _ mon_phase er_phase | exact er_row _ _ _ _ _ mon_group er_group | exact er_row _ _ _ _ _ mon_foe er_foe))))
theorem er_art : ErS pArt := by
  intro c r x h
  simp only [pArt] at h
  split at h
  · rename_i y h1; injection h with h; subst h; exact er_may _ _ _ _ h1
  · exact er_sq _ (by repeat (first | exact all_nil | (refine all_cons ?_ ?_; first | exact er_num | exact er_the _ | exact er_row _ _ _ _ _ mon_stop er_stop))) _ _ _ h
  · cases h
theorem err_net {L : List Tok} {x : Er} (h : pNet L = .error x) : x.1 = 50 ∨ x.1 = 4 :=
  er_sq _ (by repeat (first | exact all_nil | (refine all_cons ?_ ?_; first | exact er_num | exact er_the _ | exact er_frac | exact er_row _ _ _ _ _ mon_node er_node | exact er_art | exact er_end))) _ _ _ h
end Go.Proofs.YtfjphcgipbgodaaDoor
namespace Go.Proofs.YtfjphcgipbgodaaDoor
open Go.RowKit
set_option linter.unusedVariables false
set_option linter.unusedSimpArgs false
set_option maxRecDepth 10000
theorem sq_inv {p : Sp} {ps : List Sp} {c : List D} {r : List Tok} {x : List D × List Tok} (h : sq (p :: ps) c r = .ok x) : ∃ c1 r1, p c r = .ok (c1, r1) ∧ sq ps c1 r1 = .ok x := by
  simp only [sq] at h
  cases hp : p c r with
  | error y => rw [hp] at h; cases h
  | ok q => obtain ⟨c1, r1⟩ := q; rw [hp] at h; exact ⟨c1, r1, rfl, h⟩
theorem sq_end {c : List D} {r : List Tok} {x : List D × List Tok} (h : sq [] c r = .ok x) : x = (c, r) := by simp [sq] at h; exact h.symm
theorem the_inv {s : List UInt8} {c : List D} {r : List Tok} {c' : List D} {r' : List Tok} (h : pThe s c r = .ok (c', r')) : c' = c ∧ ∃ t, r = t :: r' := by
  cases r with
  | nil => simp [pThe, bad] at h
  | cons t r => simp only [pThe] at h; split at h; (simp at h; exact ⟨h.1.symm, t, by rw [h.2]⟩); exact absurd h bad_ne
theorem name_inv {c : List D} {r : List Tok} {c' : List D} {r' : List Tok} (h : pName c r = .ok (c', r')) : ∃ t, c' = c ++ [dS t.s] ∧ ¬ t.s ∈ words ∧ r = t :: r' := by
  cases r with
  | nil => simp [pName, bad] at h
  | cons t r => simp only [pName] at h; split at h; (rename_i hk; simp at h; exact ⟨t, h.1.symm, hk.2, by rw [h.2]⟩); exact absurd h bad_ne
theorem num_inv {c : List D} {r : List Tok} {c' : List D} {r' : List Tok} (h : pNum c r = .ok (c', r')) : ∃ t, c' = c ++ [dI t.n] ∧ r = t :: r' := by
  cases r with
  | nil => simp [pNum, bad] at h
  | cons t r => simp only [pNum] at h; split at h; (simp at h; exact ⟨t, h.1.symm, by rw [h.2]⟩); exact absurd h bad_ne
theorem pos_inv {c : List D} {r : List Tok} {c' : List D} {r' : List Tok} (h : pPos c r = .ok (c', r')) : ∃ n, c' = c ++ [dI n] ∧ r = r' := by
  cases r with
  | nil => simp [pPos, bad] at h
  | cons t r => simp [pPos] at h; exact ⟨t.p, h.1.symm, h.2⟩
theorem end_inv {c : List D} {r : List Tok} {c' : List D} {r' : List Tok} (h : pEnd c r = .ok (c', r')) : c' = c := by
  cases r with
  | nil => simp [pEnd, bad] at h
  | cons t r => simp only [pEnd] at h; split at h; (simp at h; exact h.1.symm); exact absurd h bad_ne
theorem may_inv {s : List UInt8} {c : List D} {r : List Tok} {c' : List D} {r' : List Tok} (h : pMay s c r = .ok (c', r')) : ∃ b, c' = c ++ [dB b] := by
  cases r with
  | nil => simp [pMay, bad] at h
  | cons t r => simp only [pMay] at h; split at h <;> (simp at h; exact ⟨_, h.1.symm⟩)
theorem some_inv {c : List D} {r : List Tok} {c' : List D} {r' : List Tok} (h : pSome c r = .ok (c', r')) : c' = c ∧ ∀ e z, c ≠ [.row e z []] := by
  simp only [pSome] at h
  split at h
  · exact absurd h bad_ne
  · rename_i hne; simp at h; exact ⟨h.1.symm, fun e z he => hne e z he⟩
theorem frac_inv {c : List D} {r : List Tok} {c' : List D} {r' : List Tok} (h : pFrac c r = .ok (c', r')) : ∃ a b, c' = c ++ [dI a] ++ [dI b] := by
  obtain ⟨c1, r1, h1, h⟩ := sq_inv h
  obtain ⟨c2, r2, h2, h⟩ := sq_inv h
  obtain ⟨c3, r3, h3, h⟩ := sq_inv h
  have := sq_end h
  obtain ⟨t, rfl, _⟩ := num_inv h1
  obtain ⟨rfl, _⟩ := the_inv h2
  obtain ⟨u, rfl, _⟩ := num_inv h3
  simp at this
  exact ⟨t.n, u.n, by simp [this.1]⟩
theorem nmz_inv (most : Nat) : ∀ (f : Nat) (L : List (List D)) (r : List Tok) (L' : List (List D)) (r' : List Tok), L.length ≤ most → nmz most f L r = .ok (L', r') → 1 ≤ L'.length ∧ L'.length ≤ most
  | 0, _, _, _, _, _, h => by simp [nmz] at h
  | f + 1, L, r, L', r', hL, h => by
    simp only [nmz] at h
    split at h
    · cases h
    · rename_i d r1 h1
      split at h
      · split at h <;> cases h
      · rename_i hne
        split at h
        · rename_i r2 h2
          exact nmz_inv most f _ r2 _ _ (by simp; omega) h
        · rename_i r2 _ h2
          simp at h; rw [← h.1]; simp; omega
        · cases h
theorem names_inv {e most : Nat} {c : List D} {r : List Tok} {c' : List D} {r' : List Tok} (h : pNames e most c r = .ok (c', r')) : ∃ L, c' = c ++ [.row e 1 L] ∧ 1 ≤ L.length ∧ L.length ≤ most := by
  simp only [pNames] at h
  split at h
  · cases h
  · rename_i L r1 h1; simp at h; exact ⟨L, h.1.symm, nmz_inv most _ _ _ _ _ (Nat.zero_le _) h1⟩
theorem rwz_inv (word : List UInt8) (most : Nat) (body : List Tok → Rs) (Q : List D → Prop) (hQ : ∀ r d r', body r = .ok (d, r') → Q d) : ∀ (f : Nat) (L : List (List D)) (r : List Tok) (L' : List (List D)) (r' : List Tok), L.length ≤ most → (∀ d ∈ L, Q d) → rwz word most body f L r = .ok (L', r') → L'.length ≤ most ∧ ∀ d ∈ L', Q d
  | 0, _, _, _, _, _, _, h => by simp [rwz] at h
  | f + 1, L, [], L', r', _, _, h => by simp [rwz] at h
  | f + 1, L, t :: r, L', r', hL, hq, h => by
    simp only [rwz] at h
    split at h
    · split at h
      · cases h
      · rename_i hne
        split at h
        · cases h
        · rename_i d r1 h1
          refine rwz_inv word most body Q hQ f _ r1 _ _ (by simp; omega) (fun x hx => ?_) h
          rcases List.mem_append.1 hx with hx | hx
          · exact hq x hx
          · simp at hx; subst hx; exact hQ _ _ _ h1
    · simp at h; rw [← h.1]; exact ⟨hL, hq⟩
theorem row_inv {word : List UInt8} {most e z : Nat} {body : List Tok → Rs} {Q : List D → Prop} (hQ : ∀ r d r', body r = .ok (d, r') → Q d) {c : List D} {r : List Tok} {c' : List D} {r' : List Tok} (h : pRow word most e z body c r = .ok (c', r')) : ∃ L, c' = c ++ [.row e z L] ∧ L.length ≤ most ∧ ∀ d ∈ L, Q d := by
  simp only [pRow] at h
  split at h
  · cases h
  · rename_i L r1 h1; simp at h; exact ⟨L, h.1.symm, rwz_inv word most body Q hQ _ _ _ _ _ (Nat.zero_le _) (fun d hd => by cases hd) h1⟩
theorem rotd_inv {p : List Tok → Rs} {r : List Tok} {c : List D} {r' : List Tok} (h : rotd p r = .ok (c, r')) : ∃ c1, p r = .ok (c1, r') ∧ c = rot c1 := by
  simp only [rotd] at h
  cases hp : p r with
  | error x => rw [hp] at h; cases h
  | ok q => obtain ⟨c1, r1⟩ := q; rw [hp] at h; simp at h; exact ⟨c1, by rw [h.2], h.1.symm⟩
def RingOk (d : List D) : Prop := ∃ b L, d = [dB b, .row 9 1 L] ∧ 1 ≤ L.length ∧ L.length ≤ 4
def GroupOk (d : List D) : Prop := ∃ L, d = [.row 48 2 L] ∧ 1 ≤ L.length ∧ L.length ≤ 2 ∧ ∀ x ∈ L, RingOk x
def NodeOk (d : List D) : Prop := ∃ s H P F G E n, d = [dS s, .row 60 11 H, .row 94 6 P, .row 96 3 F, .row 45 1 G, .row 99 3 E, dI n] ∧ ¬ s ∈ words ∧ H.length ≤ 16 ∧ P.length ≤ 8 ∧ F.length ≤ 16 ∧ G.length ≤ 4 ∧ E.length ≤ 64 ∧ ∀ x ∈ G, GroupOk x
def NetOk (d : List D) : Prop := ∃ a0 a1 a2 a3 a4 Ns Ss a5 a6, d = [dI a0, dI a1, dI a2, dI a3, dI a4, .row 41 7 Ns, .row 92 6 Ss, dI a5, dI a6] ∧ 0 ≤ a0 ∧ 0 ≤ a1 ∧ 0 ≤ a2 ∧ Ns.length ≤ 12 ∧ Ss.length ≤ 12 ∧ ∀ x ∈ Ns, NodeOk x
theorem ring_ok {r : List Tok} {d : List D} {r' : List Tok} (h : pRing r = .ok (d, r')) : RingOk d := by
  obtain ⟨c1, r1, h1, h⟩ := sq_inv h
  obtain ⟨c2, r2, h2, h⟩ := sq_inv h
  obtain ⟨c3, r3, h3, h⟩ := sq_inv h
  have e := sq_end h
  obtain ⟨b, rfl⟩ := may_inv h1
  obtain ⟨L, rfl, l1, l2⟩ := names_inv h2
  obtain ⟨rfl, _⟩ := the_inv h3
  simp at e
  exact ⟨b, L, e.1, l1, l2⟩
theorem group_ok {r : List Tok} {d : List D} {r' : List Tok} (h : pGroup r = .ok (d, r')) : GroupOk d := by
  obtain ⟨c1, r1, h1, h⟩ := sq_inv h
  obtain ⟨c2, r2, h2, h⟩ := sq_inv h
  obtain ⟨c3, r3, h3, h⟩ := sq_inv h
  obtain ⟨c4, r4, h4, h⟩ := sq_inv h
  have e := sq_end h
  obtain ⟨rfl, _⟩ := the_inv h1
  obtain ⟨L, rfl, l1, l2⟩ := row_inv (Q := RingOk) (fun r d r' h => ring_ok h) h2
  obtain ⟨rfl, hne⟩ := some_inv h3
  obtain ⟨rfl, _⟩ := the_inv h4
  simp at e
  refine ⟨L, e.1, ?_, l1, l2⟩
  cases L with
  | nil => exact absurd rfl (hne _ _)
  | cons a b => simp
theorem node_ok {r : List Tok} {d : List D} {r' : List Tok} (h : pNode r = .ok (d, r')) : NodeOk d := by
  obtain ⟨d0, h0, rfl⟩ := rotd_inv h
  clear h
  obtain ⟨c1, r1, h1, h⟩ := sq_inv h0
  obtain ⟨c2, r2, h2, h⟩ := sq_inv h
  obtain ⟨c3, r3, h3, h⟩ := sq_inv h
  obtain ⟨c4, r4, h4, h⟩ := sq_inv h
  obtain ⟨c5, r5, h5, h⟩ := sq_inv h
  obtain ⟨c6, r6, h6, h⟩ := sq_inv h
  obtain ⟨c7, r7, h7, h⟩ := sq_inv h
  obtain ⟨c8, r8, h8, h⟩ := sq_inv h
  obtain ⟨c9, r9, h9, h⟩ := sq_inv h
  have e := sq_end h
  obtain ⟨n, rfl, _⟩ := pos_inv h1
  obtain ⟨t, rfl, ht, _⟩ := name_inv h2
  obtain ⟨rfl, _⟩ := the_inv h3
  obtain ⟨H, rfl, l1, _⟩ := row_inv (Q := fun _ => True) (fun r d r' h => trivial) h4
  obtain ⟨P, rfl, l2, _⟩ := row_inv (Q := fun _ => True) (fun r d r' h => trivial) h5
  obtain ⟨F, rfl, l3, _⟩ := row_inv (Q := fun _ => True) (fun r d r' h => trivial) h6
  obtain ⟨G, rfl, l4, l5⟩ := row_inv (Q := GroupOk) (fun r d r' h => group_ok h) h7
  obtain ⟨E, rfl, l6, _⟩ := row_inv (Q := fun _ => True) (fun r d r' h => trivial) h8
  obtain ⟨rfl, _⟩ := the_inv h9
  simp at e
  exact ⟨t.s, H, P, F, G, E, n, by rw [e.1]; rfl, ht, l1, l2, l3, l4, l6, l5⟩
theorem net_ok {l : List UInt8} {cs : List D} (hl : l.length ≤ 65536) (h : N l = .ok cs) : NetOk cs := by
  unfold N at h
  cases hT : T l with
  | error x => rw [hT] at h; cases h
  | ok L =>
    rw [hT] at h
    simp only at h
    have hw := (T_wf hl hT).2.2
    cases hp : pNet L with
    | error x => rw [hp] at h; cases h
    | ok q =>
      obtain ⟨c, r'⟩ := q
      rw [hp] at h
      simp at h
      subst h
      obtain ⟨c1, r1, h1, h⟩ := sq_inv hp
      obtain ⟨c2, r2, h2, h⟩ := sq_inv h
      obtain ⟨c3, r3, h3, h⟩ := sq_inv h
      obtain ⟨c4, r4, h4, h⟩ := sq_inv h
      obtain ⟨c5, r5, h5, h⟩ := sq_inv h
      obtain ⟨c6, r6, h6, h⟩ := sq_inv h
      obtain ⟨c7, r7, h7, h⟩ := sq_inv h
      obtain ⟨c8, r8, h8, h⟩ := sq_inv h
      obtain ⟨c9, r9, h9, h⟩ := sq_inv h
      obtain ⟨c10, r10, h10, h⟩ := sq_inv h
      obtain ⟨c11, r11, h11, h⟩ := sq_inv h
      obtain ⟨c12, r12, h12, h⟩ := sq_inv h
      obtain ⟨c13, r13, h13, h⟩ := sq_inv h
      have e := sq_end h
      obtain ⟨rfl, t1, rfl⟩ := the_inv h1
      obtain ⟨t2, rfl, rfl⟩ := num_inv h2
      obtain ⟨rfl, t3, rfl⟩ := the_inv h3
      obtain ⟨t4, rfl, rfl⟩ := num_inv h4
      obtain ⟨rfl, t5, rfl⟩ := the_inv h5
      obtain ⟨t6, rfl, rfl⟩ := num_inv h6
      obtain ⟨rfl, t7, rfl⟩ := the_inv h7
      obtain ⟨rfl, t8, rfl⟩ := the_inv h8
      obtain ⟨a3, a4, rfl⟩ := frac_inv h9
      obtain ⟨rfl, t9, rfl⟩ := the_inv h10
      obtain ⟨Ns, rfl, l1, l2⟩ := row_inv (Q := NodeOk) (fun r d r' h => node_ok h) h11
      have h13' := end_inv h13
      have hart : ∃ Ss a5 a6, c12 = ([] ++ [dI t2.n] ++ [dI t4.n] ++ [dI t6.n] ++ [dI a3] ++ [dI a4] ++ [D.row 41 7 Ns]) ++ [.row 92 6 Ss, dI a5, dI a6] ∧ Ss.length ≤ 12 := by
        simp only [pArt] at h12
        split at h12
        · cases h12
        · obtain ⟨d1, s1, k1, h12⟩ := sq_inv h12
          obtain ⟨d2, s2, k2, h12⟩ := sq_inv h12
          obtain ⟨d3, s3, k3, h12⟩ := sq_inv h12
          obtain ⟨d4, s4, k4, h12⟩ := sq_inv h12
          obtain ⟨d5, s5, k5, h12⟩ := sq_inv h12
          obtain ⟨d6, s6, k6, h12⟩ := sq_inv h12
          obtain ⟨d7, s7, k7, h12⟩ := sq_inv h12
          have e2 := sq_end h12
          obtain ⟨rfl, _⟩ := the_inv k1
          obtain ⟨Ss, rfl, l3, _⟩ := row_inv (Q := fun _ => True) (fun r d r' h => trivial) k2
          obtain ⟨rfl, _⟩ := the_inv k3
          obtain ⟨u1, rfl, _⟩ := num_inv k4
          obtain ⟨u2, rfl, _⟩ := num_inv k5
          obtain ⟨rfl, _⟩ := the_inv k6
          obtain ⟨rfl, _⟩ := the_inv k7
          injection e2 with e2 _
          exact ⟨Ss, u1.n, u2.n, by rw [e2]; simp, l3⟩
        · simp only [Except.ok.injEq, Prod.mk.injEq] at h12
          exact ⟨[], 0, 0, h12.1.symm, by simp⟩
      obtain ⟨Ss, a5, a6, hc, l3⟩ := hart
      injection e with e _
      refine ⟨t2.n, t4.n, t6.n, a3, a4, Ns, Ss, a5, a6, by rw [e, h13', hc]; simp, (hw t2 (by simp)).1, (hw t4 (by simp)).1, (hw t6 (by simp)).1, l1, l3, l2⟩
end Go.Proofs.YtfjphcgipbgodaaDoor
namespace Go.Proofs.YtfjphcgipbgodaaDoor
open Go.RowKit
set_option linter.unusedVariables false
set_option linter.unusedSimpArgs false
set_option maxRecDepth 10000
/-- a ring, a group, a node in memory, in this world and later ones -/
def RingM (w : World) (aR : Option Addr) (m : Nat) : Prop := ∃ gR aP nP cP, aR = some ⟨gR, 0, none⟩ ∧ (∀ w', Keep w w' → w'.cell? ⟨gR, m * 2 + 1, none⟩ = some (.slice aP nP cP)) ∧ 1 ≤ nP ∧ nP ≤ 4
def GroupM (w : World) (a4 : Option Addr) (k : Nat) : Prop := ∃ g4 aR nR cR, a4 = some ⟨g4, 0, none⟩ ∧ (∀ w', Keep w w' → w'.cell? ⟨g4, k, none⟩ = some (.slice aR nR cR)) ∧ 1 ≤ nR ∧ nR ≤ 2 ∧ ∀ m, m < nR → RingM w aR m
def NodeM (w : World) (a : Option Addr) (i : Nat) : Prop := ∃ g S a1 n1 c1 a2 n2 c2 a3 n3 c3 a4 n4 c4 a5 n5 c5 pp, a = some ⟨g, 0, none⟩ ∧
  (∀ w', Keep w w' → w'.cell? ⟨g, i * 7, none⟩ = some (.string S) ∧ w'.cell? ⟨g, i * 7 + 1, none⟩ = some (.slice a1 n1 c1) ∧ w'.cell? ⟨g, i * 7 + 2, none⟩ = some (.slice a2 n2 c2) ∧ w'.cell? ⟨g, i * 7 + 3, none⟩ = some (.slice a3 n3 c3) ∧ w'.cell? ⟨g, i * 7 + 4, none⟩ = some (.slice a4 n4 c4) ∧ w'.cell? ⟨g, i * 7 + 5, none⟩ = some (.slice a5 n5 c5) ∧ w'.cell? ⟨g, i * 7 + 6, none⟩ = some (.int .i64 pp)) ∧
  n1 ≤ 16 ∧ n2 ≤ 8 ∧ n3 ≤ 16 ∧ n4 ≤ 4 ∧ n5 ≤ 64 ∧ ¬ S.toList ∈ words ∧ ∀ k, k < n4 → GroupM w a4 k
theorem ring_m {w : World} {P : Nat → Prop} {v : Value} {L : List (List D)} (h : Rd w (.row 48 2 L) P v) (hq : ∀ x ∈ L, RingOk x) : ∃ aR cR, v = .slice aR L.length cR ∧ ∀ m, m < L.length → RingM w aR m := by
  obtain ⟨aR, cR, xs, rfl, _⟩ := row_shape h
  refine ⟨aR, cR, rfl, fun m hm => ?_⟩
  obtain ⟨g, cap, ys, P', e, k1, k2⟩ := row_at h hm
  injection e with e _ _
  obtain ⟨b, L2, e2, l1, l2⟩ := hq L[m] (List.getElem_mem hm)
  rw [e2] at k1
  obtain ⟨u0, us, rfl, _, k1⟩ := rds_cons k1
  obtain ⟨u1, us, rfl, k3, _⟩ := rds_cons k1
  obtain ⟨aP, cP, xs, rfl, _⟩ := row_shape k3
  have hc := k2 1 _ rfl
  exact ⟨g, aP, L2.length, cP, e, fun w' hk => hk.cell' hc, l1, l2⟩
theorem group_m {w : World} {P : Nat → Prop} {v : Value} {L : List (List D)} (h : Rd w (.row 45 1 L) P v) (hq : ∀ x ∈ L, GroupOk x) : ∃ a c, v = .slice a L.length c ∧ ∀ k, k < L.length → GroupM w a k := by
  obtain ⟨a, c, xs, rfl, _⟩ := row_shape h
  refine ⟨a, c, rfl, fun k hk => ?_⟩
  obtain ⟨g, cap, ys, P', e, k1, k2⟩ := row_at h hk
  injection e with e _ _
  obtain ⟨L2, e2, l1, l2, l3⟩ := hq L[k] (List.getElem_mem hk)
  rw [e2] at k1
  obtain ⟨u0, us, rfl, k3, _⟩ := rds_cons k1
  obtain ⟨aR, cR, rfl, hR⟩ := ring_m k3 l3
  have hc := k2 0 _ rfl
  rw [Nat.mul_one, Nat.add_zero] at hc
  exact ⟨g, aR, L2.length, cR, e, fun w' hk => hk.cell' hc, l1, l2, hR⟩
theorem node_m {w : World} {P : Nat → Prop} {v : Value} {L : List (List D)} (h : Rd w (.row 41 7 L) P v) (hq : ∀ x ∈ L, NodeOk x) : ∃ a c, v = .slice a L.length c ∧ ∀ i, i < L.length → NodeM w a i := by
  obtain ⟨a, c, xs, rfl, _⟩ := row_shape h
  refine ⟨a, c, rfl, fun i hi => ?_⟩
  obtain ⟨g, cap, ys, P', e, k1, k2⟩ := row_at h hi
  injection e with e _ _
  obtain ⟨s, H, Pd, F, G, E, n, e2, l0, l1, l2, l3, l4, l5, l6⟩ := hq L[i] (List.getElem_mem hi)
  rw [e2] at k1
  obtain ⟨u0, us, rfl, q0, k1⟩ := rds_cons k1
  obtain ⟨u1, us, rfl, q1, k1⟩ := rds_cons k1
  obtain ⟨u2, us, rfl, q2, k1⟩ := rds_cons k1
  obtain ⟨u3, us, rfl, q3, k1⟩ := rds_cons k1
  obtain ⟨u4, us, rfl, q4, k1⟩ := rds_cons k1
  obtain ⟨u5, us, rfl, q5, k1⟩ := rds_cons k1
  obtain ⟨u6, us, rfl, q6, k1⟩ := rds_cons k1
  obtain rfl : u0 = .string (sv s) := q0.1
  obtain ⟨a1, c1, x1, rfl, _⟩ := row_shape q1
  obtain ⟨a2, c2, x2, rfl, _⟩ := row_shape q2
  obtain ⟨a3, c3, x3, rfl, _⟩ := row_shape q3
  obtain ⟨a4, c4, rfl, hG⟩ := group_m q4 l6
  obtain ⟨a5, c5, x5, rfl, _⟩ := row_shape q5
  obtain rfl : u6 = .int .i64 n := q6.1
  refine ⟨g, sv s, a1, H.length, c1, a2, Pd.length, c2, a3, F.length, c3, a4, G.length, c4, a5, E.length, c5, n, e, fun w' hk => ⟨hk.cell' (k2 0 _ rfl), hk.cell' (k2 1 _ rfl), hk.cell' (k2 2 _ rfl), hk.cell' (k2 3 _ rfl), hk.cell' (k2 4 _ rfl), hk.cell' (k2 5 _ rfl), hk.cell' (k2 6 _ rfl)⟩, l1, l2, l3, l4, l5, by rw [svl]; exact l0, hG⟩
end Go.Proofs.YtfjphcgipbgodaaDoor
