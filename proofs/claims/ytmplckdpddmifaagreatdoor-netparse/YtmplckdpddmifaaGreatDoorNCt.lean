/- The grammar's steps, turned round. No program is met here. -/
import Derived.Test.YtmplckdpddmifaaGreatDoorNPar
namespace Go.Proofs.YtmplckdpddmifaaGreatDoor
set_option linter.unusedVariables false
set_option linter.unusedSimpArgs false
theorem sq_inv {p : Sp} {ps : List Sp} {c : List D} {r : List Tok} {x : List D × List Tok} (h : sq (p :: ps) c r = .ok x) : ∃ c1 r1, p c r = .ok (c1, r1) ∧ sq ps c1 r1 = .ok x := by
  simp only [sq] at h
  cases hp : p c r with
  | error y => rw [hp] at h; cases h
  | ok q => obtain ⟨c1, r1⟩ := q; rw [hp] at h; exact ⟨c1, r1, rfl, h⟩
theorem sq_end {c : List D} {r : List Tok} {x : List D × List Tok} (h : sq [] c r = .ok x) : x = (c, r) := by simp [sq] at h; exact h.symm
theorem the_inv {s : List UInt8} {c : List D} {r : List Tok} {c' : List D} {r' : List Tok} (h : pThe s c r = .ok (c', r')) : c' = c ∧ ∃ t, r = t :: r' := by
  cases r with
  | nil => simp [pThe, bad] at h
  | cons t r => simp only [pThe] at h; split at h; (simp at h; exact ⟨h.1.symm, t, by rw [h.2]⟩); exact absurd h bad_ne
theorem name_inv {c : List D} {r : List Tok} {c' : List D} {r' : List Tok} (h : pName c r = .ok (c', r')) : ∃ t, c' = c ++ [dS t.s] ∧ ¬ t.s ∈ words ∧ r = t :: r' := by
  cases r with
  | nil => simp [pName, bad] at h
  | cons t r => simp only [pName] at h; split at h; (rename_i hk; simp at h; exact ⟨t, h.1.symm, hk.2, by rw [h.2]⟩); exact absurd h bad_ne
theorem num_inv {c : List D} {r : List Tok} {c' : List D} {r' : List Tok} (h : pNum c r = .ok (c', r')) : ∃ t, c' = c ++ [dI t.n] ∧ r = t :: r' := by
  cases r with
  | nil => simp [pNum, bad] at h
  | cons t r => simp only [pNum] at h; split at h; (simp at h; exact ⟨t, h.1.symm, by rw [h.2]⟩); exact absurd h bad_ne
theorem pos_inv {c : List D} {r : List Tok} {c' : List D} {r' : List Tok} (h : pPos c r = .ok (c', r')) : ∃ n, c' = c ++ [dI n] ∧ r = r' := by
  cases r with
  | nil => simp [pPos, bad] at h
  | cons t r => simp [pPos] at h; exact ⟨t.p, h.1.symm, h.2⟩
theorem end_inv {c : List D} {r : List Tok} {c' : List D} {r' : List Tok} (h : pEnd c r = .ok (c', r')) : c' = c := by
  cases r with
  | nil => simp [pEnd, bad] at h
  | cons t r => simp only [pEnd] at h; split at h; (simp at h; exact h.1.symm); exact absurd h bad_ne
theorem may_inv {s : List UInt8} {c : List D} {r : List Tok} {c' : List D} {r' : List Tok} (h : pMay s c r = .ok (c', r')) : ∃ b, c' = c ++ [dB b] := by
  cases r with
  | nil => simp [pMay, bad] at h
  | cons t r => simp only [pMay] at h; split at h <;> (simp at h; exact ⟨_, h.1.symm⟩)
theorem some_inv {c : List D} {r : List Tok} {c' : List D} {r' : List Tok} (h : pSome c r = .ok (c', r')) : c' = c ∧ ∀ e z, c ≠ [.row e z []] := by
  simp only [pSome] at h
  split at h
  · exact absurd h bad_ne
  · rename_i hne; simp at h; exact ⟨h.1.symm, fun e z he => hne e z he⟩
theorem frac_inv {c : List D} {r : List Tok} {c' : List D} {r' : List Tok} (h : pFrac c r = .ok (c', r')) : ∃ a b, c' = c ++ [dI a] ++ [dI b] := by
  obtain ⟨c1, r1, h1, h⟩ := sq_inv h
  obtain ⟨c2, r2, h2, h⟩ := sq_inv h
  obtain ⟨c3, r3, h3, h⟩ := sq_inv h
  have := sq_end h
  obtain ⟨t, rfl, _⟩ := num_inv h1
  obtain ⟨rfl, _⟩ := the_inv h2
  obtain ⟨u, rfl, _⟩ := num_inv h3
  simp at this
  exact ⟨t.n, u.n, by simp [this.1]⟩
theorem nmz_inv (most : Nat) : ∀ (f : Nat) (L : List (List D)) (r : List Tok) (L' : List (List D)) (r' : List Tok), L.length ≤ most → nmz most f L r = .ok (L', r') → 1 ≤ L'.length ∧ L'.length ≤ most
  | 0, _, _, _, _, _, h => by simp [nmz] at h
  | f + 1, L, r, L', r', hL, h => by
    simp only [nmz] at h
    split at h
    · cases h
    · rename_i d r1 h1
      split at h
      · split at h <;> cases h
      · rename_i hne
        split at h
        · rename_i r2 h2
          exact nmz_inv most f _ r2 _ _ (by simp; omega) h
        · rename_i r2 _ h2
          simp at h; rw [← h.1]; simp; omega
        · cases h
theorem names_inv {e most : Nat} {c : List D} {r : List Tok} {c' : List D} {r' : List Tok} (h : pNames e most c r = .ok (c', r')) : ∃ L, c' = c ++ [.row e 1 L] ∧ 1 ≤ L.length ∧ L.length ≤ most := by
  simp only [pNames] at h
  split at h
  · cases h
  · rename_i L r1 h1; simp at h; exact ⟨L, h.1.symm, nmz_inv most _ _ _ _ _ (Nat.zero_le _) h1⟩
theorem rwz_inv (word : List UInt8) (most : Nat) (body : List Tok → Rs) (Q : List D → Prop) (hQ : ∀ r d r', body r = .ok (d, r') → Q d) : ∀ (f : Nat) (L : List (List D)) (r : List Tok) (L' : List (List D)) (r' : List Tok), L.length ≤ most → (∀ d ∈ L, Q d) → rwz word most body f L r = .ok (L', r') → L'.length ≤ most ∧ ∀ d ∈ L', Q d
  | 0, _, _, _, _, _, _, h => by simp [rwz] at h
  | f + 1, L, [], L', r', _, _, h => by simp [rwz] at h
  | f + 1, L, t :: r, L', r', hL, hq, h => by
    simp only [rwz] at h
    split at h
    · split at h
      · cases h
      · rename_i hne
        split at h
        · cases h
        · rename_i d r1 h1
          refine rwz_inv word most body Q hQ f _ r1 _ _ (by simp; omega) (fun x hx => ?_) h
          rcases List.mem_append.1 hx with hx | hx
          · exact hq x hx
          · simp at hx; subst hx; exact hQ _ _ _ h1
    · simp at h; rw [← h.1]; exact ⟨hL, hq⟩
theorem row_inv {word : List UInt8} {most e z : Nat} {body : List Tok → Rs} {Q : List D → Prop} (hQ : ∀ r d r', body r = .ok (d, r') → Q d) {c : List D} {r : List Tok} {c' : List D} {r' : List Tok} (h : pRow word most e z body c r = .ok (c', r')) : ∃ L, c' = c ++ [.row e z L] ∧ L.length ≤ most ∧ ∀ d ∈ L, Q d := by
  simp only [pRow] at h
  split at h
  · cases h
  · rename_i L r1 h1; simp at h; exact ⟨L, h.1.symm, rwz_inv word most body Q hQ _ _ _ _ _ (Nat.zero_le _) (fun d hd => by cases hd) h1⟩
theorem rotd_inv {p : List Tok → Rs} {r : List Tok} {c : List D} {r' : List Tok} (h : rotd p r = .ok (c, r')) : ∃ c1, p r = .ok (c1, r') ∧ c = rot c1 := by
  simp only [rotd] at h
  cases hp : p r with
  | error x => rw [hp] at h; cases h
  | ok q => obtain ⟨c1, r1⟩ := q; rw [hp] at h; simp at h; exact ⟨c1, by rw [h.2], h.1.symm⟩
end Go.Proofs.YtmplckdpddmifaaGreatDoor
namespace Go.Proofs.YtmplckdpddmifaaGreatDoor
set_option linter.unusedVariables false
set_option linter.unusedSimpArgs false
/-- a token without its place -/
def q0 (t : Tok) : Tok := ⟨t.k, t.s, t.n, 0⟩
/-- does a thing of so many parts have a place (it stands last)? -/
def plc (z : Nat) : Bool := z == 3 || z == 6 || z == 7 || z == 11
mutual
/-- what is read without its places -/
def Z : D → D
  | .val v => .val v
  | .row e z L => .row e z (Zss (plc z) L)
def Zl : Bool → List D → List D
  | _, [] => []
  | b, d :: ds => (if b && ds.isEmpty then dI 0 else Z d) :: Zl b ds
def Zss : Bool → List (List D) → List (List D)
  | _, [] => []
  | b, ds :: L => Zl b ds :: Zss b L
end
theorem zl_false : ∀ ds : List D, Zl false ds = ds.map Z
  | [] => by simp [Zl]
  | d :: ds => by simp [Zl, zl_false ds]
theorem zl_true : ∀ (ds : List D) (x : D), Zl true (ds ++ [x]) = ds.map Z ++ [dI 0]
  | [], x => by simp [Zl]
  | d :: ds, x => by simp [Zl, zl_true ds x]
theorem zss_map (b : Bool) : ∀ L : List (List D), Zss b L = L.map (Zl b)
  | [] => by simp [Zss]
  | ds :: L => by simp [Zss, zss_map b L]
/-- the artery behind its word -/
def artIn : List Sp := [pThe [123], pRow [115, 116, 111, 112] 12 114 6 pStop, pThe [119, 101, 105, 103, 104, 116, 115], pNum, pNum, pThe [59], pThe [125]]
theorem art_yes {c : List D} {t : Tok} {r : List Tok} (h : t.s = [97, 114, 116, 101, 114, 121]) : pArt c (t :: r) = sq artIn c r := by simp [pArt, pMay, h, dB, artIn]
theorem art_no {c : List D} {t : Tok} {r : List Tok} (h : ¬ t.s = [97, 114, 116, 101, 114, 121]) : pArt c (t :: r) = .ok (c ++ [.row 114 6 [], dI 0, dI 0], t :: r) := by simp [pArt, pMay, h, dB]
end Go.Proofs.YtmplckdpddmifaaGreatDoor
namespace Go.Proofs.YtmplckdpddmifaaGreatDoor
set_option linter.unusedVariables false
set_option linter.unusedSimpArgs false
def NamesSh (L : List (List D)) : Prop := L.length ≤ 100000 ∧ ∀ x ∈ L, ∃ s, x = [dS s]
def HeadSh (x : List D) : Prop := ∃ s v1 v2 v3 v4 v5 v6 v7 v8 v9 p, x = [dS s, dI v1, dI v2, dI v3, dI v4, dI v5, dI v6, dI v7, dI v8, dI v9, dI p]
def PedSh (x : List D) : Prop := ∃ s t v1 v2 v3 p, x = [dS s, dS t, dI v1, dI v2, dI v3, dI p]
def PhaseSh (x : List D) : Prop := ∃ s L p, x = [dS s, .row 9 1 L, dI p] ∧ NamesSh L
def RingSh (x : List D) : Prop := ∃ f L, x = [dB f, .row 9 1 L] ∧ NamesSh L
def GroupSh (x : List D) : Prop := ∃ R, x = [.row 117 2 R] ∧ R.length ≤ 100000 ∧ ∀ y ∈ R, RingSh y
def FoeSh (x : List D) : Prop := ∃ s t p, x = [dS s, dS t, dI p]
def StopSh (x : List D) : Prop := ∃ s t u v1 v2 p, x = [dS s, dS t, dS u, dI v1, dI v2, dI p]
def NodeSh (x : List D) : Prop := ∃ s H P Q G F p, x = [dS s, .row 77 11 H, .row 101 6 P, .row 105 3 Q, .row 109 1 G, .row 112 3 F, dI p] ∧ (H.length ≤ 100000 ∧ ∀ y ∈ H, HeadSh y) ∧ (P.length ≤ 100000 ∧ ∀ y ∈ P, PedSh y) ∧ (Q.length ≤ 100000 ∧ ∀ y ∈ Q, PhaseSh y) ∧ (G.length ≤ 100000 ∧ ∀ y ∈ G, GroupSh y) ∧ (F.length ≤ 100000 ∧ ∀ y ∈ F, FoeSh y)
def NetSh (x : List D) : Prop := ∃ a0 a1 a2 a3 a4 Ns Ss a5 a6, x = [dI a0, dI a1, dI a2, dI a3, dI a4, .row 61 7 Ns, .row 114 6 Ss, dI a5, dI a6] ∧ (Ns.length ≤ 100000 ∧ ∀ y ∈ Ns, NodeSh y) ∧ (Ss.length ≤ 100000 ∧ ∀ y ∈ Ss, StopSh y)
/-- what a step adds -/
def ShC (p : Sp) (Q : List D → Prop) : Prop := ∀ c r c' r', p c r = .ok (c', r') → ∃ d, c' = c ++ d ∧ Q d
theorem sh_the (s : List UInt8) : ShC (pThe s) (fun d => d = []) := fun c r c' r' h => ⟨[], by simp [(the_inv h).1], rfl⟩
theorem sh_name : ShC pName (fun d => ∃ s, d = [dS s]) := fun c r c' r' h => by obtain ⟨t, e, _⟩ := name_inv h; exact ⟨_, e, _, rfl⟩
theorem sh_num : ShC pNum (fun d => ∃ n, d = [dI n]) := fun c r c' r' h => by obtain ⟨t, e, _⟩ := num_inv h; exact ⟨_, e, _, rfl⟩
theorem sh_pos : ShC pPos (fun d => ∃ n, d = [dI n]) := fun c r c' r' h => by obtain ⟨n, e, _⟩ := pos_inv h; exact ⟨_, e, _, rfl⟩
theorem sh_may (s : List UInt8) : ShC (pMay s) (fun d => ∃ b, d = [dB b]) := fun c r c' r' h => by obtain ⟨b, e⟩ := may_inv h; exact ⟨_, e, _, rfl⟩
theorem sh_end : ShC pEnd (fun d => d = []) := fun c r c' r' h => ⟨[], by simp [end_inv h], rfl⟩
theorem sh_some : ShC pSome (fun d => d = []) := fun c r c' r' h => ⟨[], by simp [(some_inv h).1], rfl⟩
theorem sh_frac : ShC pFrac (fun d => ∃ a b, d = [dI a, dI b]) := fun c r c' r' h => by obtain ⟨a, b, e⟩ := frac_inv h; exact ⟨[dI a, dI b], by rw [e]; simp, _, _, rfl⟩
theorem sh_grade : ShC pGrade (fun d => ∃ n, d = [dI n]) := fun c r c' r' h => by
  simp only [pGrade] at h
  split at h
  · cases h
  · simp at h; exact ⟨_, h.1.symm, _, rfl⟩
  · cases h
theorem nmz_sh (most : Nat) : ∀ (f : Nat) (L : List (List D)) (r : List Tok) (L' : List (List D)) (r' : List Tok), (∀ x ∈ L, ∃ s, x = [dS s]) → nmz most f L r = .ok (L', r') → ∀ x ∈ L', ∃ s, x = [dS s]
  | 0, _, _, _, _, _, h => by simp [nmz] at h
  | f + 1, L, r, L', r', hL, h => by
    simp only [nmz] at h
    split at h
    · cases h
    · rename_i d r1 h1
      obtain ⟨t, e, _⟩ := name_inv h1
      have hd : ∀ x ∈ L ++ [d], ∃ s, x = [dS s] := fun x hx => by
        rcases List.mem_append.1 hx with hx | hx
        · exact hL x hx
        · simp at hx; subst hx; exact ⟨t.s, by simpa using e⟩
      split at h
      · split at h <;> cases h
      · split at h
        · exact nmz_sh most f _ _ _ _ hd h
        · simp at h; rw [← h.1]; exact hd
        · cases h
theorem sh_names (e most : Nat) (hm : most ≤ 100000) : ShC (pNames e most) (fun d => ∃ L, d = [.row e 1 L] ∧ NamesSh L) := fun c r c' r' h => by
  obtain ⟨L, e1, _, e3⟩ := names_inv h
  refine ⟨_, e1, L, rfl, by omega, ?_⟩
  simp only [pNames] at h
  split at h
  · cases h
  · rename_i L2 r1 h1
    simp at h
    have : L2 = L := by have := h.1; rw [e1] at this; simpa using this
    subst this
    exact nmz_sh most _ _ _ _ _ (fun x hx => by cases hx) h1
theorem sh_row {word : List UInt8} {most e z : Nat} {body : List Tok → Rs} {Q : List D → Prop} (hm : most ≤ 100000) (hQ : ∀ r d r', body r = .ok (d, r') → Q d) : ShC (pRow word most e z body) (fun d => ∃ L, d = [.row e z L] ∧ L.length ≤ 100000 ∧ ∀ y ∈ L, Q y) := fun c r c' r' h => by
  obtain ⟨L, e1, e2, e3⟩ := row_inv hQ h
  exact ⟨_, e1, L, rfl, by omega, e3⟩
theorem sh_nil : ShC (sq []) (fun d => d = []) := fun c r c' r' h => by have := sq_end h; simp at this; exact ⟨[], by simp [this.1], rfl⟩
theorem sh_cons {p : Sp} {ps : List Sp} {Q R : List D → Prop} (hp : ShC p Q) (h2 : ShC (sq ps) R) : ShC (sq (p :: ps)) (fun d => ∃ d1 d2, d = d1 ++ d2 ∧ Q d1 ∧ R d2) := fun c r c' r' h => by
  obtain ⟨c1, r1, k1, k2⟩ := sq_inv h
  obtain ⟨d1, rfl, q1⟩ := hp _ _ _ _ k1
  obtain ⟨d2, e, q2⟩ := h2 _ _ _ _ k2
  exact ⟨d1 ++ d2, by rw [e, List.append_assoc], d1, d2, rfl, q1, q2⟩
theorem foe_sh {r : List Tok} {d : List D} {r' : List Tok} (h : pFoe r = .ok (d, r')) : FoeSh d := by
  obtain ⟨c, hc, rfl⟩ := rotd_inv h
  obtain ⟨d, e, d1, x, rfl, ⟨p, rfl⟩, d2, x, rfl, ⟨s, rfl⟩, d3, x, rfl, ⟨t, rfl⟩, d4, x, rfl, rfl, rfl⟩ := sh_cons sh_pos (sh_cons sh_name (sh_cons sh_name (sh_cons (sh_the _) sh_nil))) _ _ _ _ hc
  exact ⟨s, t, p, by rw [e]; rfl⟩
theorem walk_sh {r : List Tok} {d : List D} {r' : List Tok} (h : pWalk r = .ok (d, r')) : PedSh d := by
  obtain ⟨c, hc, rfl⟩ := rotd_inv h
  obtain ⟨d, e, d1, x, rfl, ⟨p, rfl⟩, d2, x, rfl, ⟨s, rfl⟩, d3, x, rfl, rfl, d4, x, rfl, ⟨t, rfl⟩, d5, x, rfl, rfl, d6, x, rfl, ⟨v1, rfl⟩, d7, x, rfl, rfl, d8, x, rfl, ⟨v2, rfl⟩, d9, x, rfl, rfl, d10, x, rfl, ⟨v3, rfl⟩, d11, x, rfl, rfl, rfl⟩ := sh_cons sh_pos (sh_cons sh_name (sh_cons (sh_the _) (sh_cons sh_name (sh_cons (sh_the _) (sh_cons sh_num (sh_cons (sh_the _) (sh_cons sh_num (sh_cons (sh_the _) (sh_cons sh_num (sh_cons (sh_the _) sh_nil)))))))))) _ _ _ _ hc
  exact ⟨s, t, v1, v2, v3, p, by rw [e]; rfl⟩
theorem stop_sh {r : List Tok} {d : List D} {r' : List Tok} (h : pStop r = .ok (d, r')) : StopSh d := by
  obtain ⟨c, hc, rfl⟩ := rotd_inv h
  obtain ⟨d, e, d1, x, rfl, ⟨p, rfl⟩, d2, x, rfl, ⟨s, rfl⟩, d3, x, rfl, rfl, d4, x, rfl, ⟨t, rfl⟩, d5, x, rfl, rfl, d6, x, rfl, ⟨u, rfl⟩, d7, x, rfl, rfl, d8, x, rfl, ⟨v1, rfl⟩, d9, x, rfl, rfl, d10, x, rfl, ⟨v2, rfl⟩, d11, x, rfl, rfl, rfl⟩ := sh_cons sh_pos (sh_cons sh_name (sh_cons (sh_the _) (sh_cons sh_name (sh_cons (sh_the _) (sh_cons sh_name (sh_cons (sh_the _) (sh_cons sh_num (sh_cons (sh_the _) (sh_cons sh_num (sh_cons (sh_the _) sh_nil)))))))))) _ _ _ _ hc
  exact ⟨s, t, u, v1, v2, p, by rw [e]; rfl⟩
theorem phase_sh {r : List Tok} {d : List D} {r' : List Tok} (h : pPhase r = .ok (d, r')) : PhaseSh d := by
  obtain ⟨c, hc, rfl⟩ := rotd_inv h
  obtain ⟨d, e, d1, x, rfl, ⟨p, rfl⟩, d2, x, rfl, ⟨s, rfl⟩, d3, x, rfl, rfl, d4, x, rfl, ⟨L, rfl, hL⟩, d5, x, rfl, rfl, rfl⟩ := sh_cons sh_pos (sh_cons sh_name (sh_cons (sh_the _) (sh_cons (sh_names _ 16 (by decide)) (sh_cons (sh_the _) sh_nil)))) _ _ _ _ hc
  exact ⟨s, L, p, by rw [e]; rfl, hL⟩
theorem ring_sh {r : List Tok} {d : List D} {r' : List Tok} (h : pRing r = .ok (d, r')) : RingSh d := by
  obtain ⟨d, e, d1, x, rfl, ⟨f, rfl⟩, d2, x, rfl, ⟨L, rfl, hL⟩, d3, x, rfl, rfl, rfl⟩ := sh_cons (sh_may _) (sh_cons (sh_names _ 4 (by decide)) (sh_cons (sh_the _) sh_nil)) _ _ _ _ h
  exact ⟨f, L, by rw [e]; rfl, hL⟩
theorem group_sh {r : List Tok} {d : List D} {r' : List Tok} (h : pGroup r = .ok (d, r')) : GroupSh d := by
  obtain ⟨d, e, d1, x, rfl, rfl, d2, x, rfl, ⟨R, rfl, hR⟩, d3, x, rfl, rfl, d4, x, rfl, rfl, rfl⟩ := sh_cons (sh_the _) (sh_cons (sh_row (Q := RingSh) (by decide) (fun r d r' h => ring_sh h)) (sh_cons sh_some (sh_cons (sh_the _) sh_nil))) _ _ _ _ h
  exact ⟨R, by rw [e]; rfl, hR⟩
theorem head_sh {r : List Tok} {d : List D} {r' : List Tok} (h : pHead r = .ok (d, r')) : HeadSh d := by
  obtain ⟨c, hc, rfl⟩ := rotd_inv h
  obtain ⟨d, e, d1, x, rfl, ⟨p, rfl⟩, d2, x, rfl, ⟨s, rfl⟩, d3, x, rfl, rfl, d4, x, rfl, ⟨v1, rfl⟩, d5, x, rfl, rfl, d6, x, rfl, ⟨v2, rfl⟩, d7, x, rfl, rfl, d8, x, rfl, ⟨v3, v4, rfl⟩, d9, x, rfl, rfl, d10, x, rfl, ⟨v5, rfl⟩, d11, x, rfl, rfl, d12, x, rfl, ⟨v6, rfl⟩, d13, x, rfl, rfl, d14, x, rfl, ⟨v7, rfl⟩, d15, x, rfl, rfl, d16, x, rfl, ⟨v8, rfl⟩, d17, x, rfl, rfl, d18, x, rfl, ⟨v9, rfl⟩, d19, x, rfl, rfl, rfl⟩ := sh_cons sh_pos (sh_cons sh_name (sh_cons (sh_the _) (sh_cons sh_num (sh_cons (sh_the _) (sh_cons sh_num (sh_cons (sh_the _) (sh_cons sh_frac (sh_cons (sh_the _) (sh_cons sh_num (sh_cons (sh_the _) (sh_cons sh_grade (sh_cons (sh_the _) (sh_cons sh_num (sh_cons (sh_the _) (sh_cons sh_num (sh_cons (sh_the _) (sh_cons sh_num (sh_cons (sh_the _) sh_nil)))))))))))))))))) _ _ _ _ hc
  exact ⟨s, v1, v2, v3, v4, v5, v6, v7, v8, v9, p, by rw [e]; rfl⟩
theorem node_sh {r : List Tok} {d : List D} {r' : List Tok} (h : pNode r = .ok (d, r')) : NodeSh d := by
  obtain ⟨c, hc, rfl⟩ := rotd_inv h
  obtain ⟨d, e, d1, x, rfl, ⟨p, rfl⟩, d2, x, rfl, ⟨s, rfl⟩, d3, x, rfl, rfl, d4, x, rfl, ⟨H, rfl, hH⟩, d5, x, rfl, ⟨P, rfl, hP⟩, d6, x, rfl, ⟨Q, rfl, hQ⟩, d7, x, rfl, ⟨G, rfl, hG⟩, d8, x, rfl, ⟨F, rfl, hF⟩, d9, x, rfl, rfl, rfl⟩ := sh_cons sh_pos (sh_cons sh_name (sh_cons (sh_the _) (sh_cons (sh_row (Q := HeadSh) (by decide) (fun r d r' h => head_sh h)) (sh_cons (sh_row (Q := PedSh) (by decide) (fun r d r' h => walk_sh h)) (sh_cons (sh_row (Q := PhaseSh) (by decide) (fun r d r' h => phase_sh h)) (sh_cons (sh_row (Q := GroupSh) (by decide) (fun r d r' h => group_sh h)) (sh_cons (sh_row (Q := FoeSh) (by decide) (fun r d r' h => foe_sh h)) (sh_cons (sh_the _) sh_nil)))))))) _ _ _ _ hc
  exact ⟨s, H, P, Q, G, F, p, by rw [e]; rfl, hH, hP, hQ, hG, hF⟩
theorem sh_art : ShC pArt (fun d => ∃ Ss x y, d = [.row 114 6 Ss, dI x, dI y] ∧ Ss.length ≤ 100000 ∧ ∀ y ∈ Ss, StopSh y) := by
  intro c r c' r' h
  cases r with
  | nil => simp [pArt, pMay, bad] at h
  | cons t r =>
    by_cases ht : t.s = [97, 114, 116, 101, 114, 121]
    · rw [art_yes ht] at h
      obtain ⟨d, e, d1, x, rfl, rfl, d2, x, rfl, ⟨S, rfl, hS⟩, d3, x, rfl, rfl, d4, x, rfl, ⟨v1, rfl⟩, d5, x, rfl, ⟨v2, rfl⟩, d6, x, rfl, rfl, d7, x, rfl, rfl, rfl⟩ := sh_cons (sh_the _) (sh_cons (sh_row (Q := StopSh) (by decide) (fun r d r' h => stop_sh h)) (sh_cons (sh_the _) (sh_cons sh_num (sh_cons sh_num (sh_cons (sh_the _) (sh_cons (sh_the _) sh_nil)))))) _ _ _ _ h
      exact ⟨_, e, S, v1, v2, rfl, hS⟩
    · rw [art_no ht] at h
      simp only [Except.ok.injEq, Prod.mk.injEq] at h
      exact ⟨_, h.1.symm, [], 0, 0, rfl, by simp, fun y hy => by cases hy⟩
theorem net_sh {l : List UInt8} {cs : List D} (h : N l = .ok cs) : NetSh cs := by
  unfold N at h
  cases hT : T l with
  | error x => rw [hT] at h; cases h
  | ok L =>
    rw [hT] at h
    simp only at h
    cases hp : pNet L with
    | error x => rw [hp] at h; cases h
    | ok q =>
      obtain ⟨c, s⟩ := q
      rw [hp] at h
      simp only [Except.ok.injEq] at h
      subst h
      obtain ⟨d, e, d1, x, rfl, rfl, d2, x, rfl, ⟨a0, rfl⟩, d3, x, rfl, rfl, d4, x, rfl, ⟨a1, rfl⟩, d5, x, rfl, rfl, d6, x, rfl, ⟨a2, rfl⟩, d7, x, rfl, rfl, d8, x, rfl, rfl, d9, x, rfl, ⟨a3, a4, rfl⟩, d10, x, rfl, rfl, d11, x, rfl, ⟨Ns, rfl, hN⟩, d12, x, rfl, ⟨Ss, a5, a6, rfl, hS⟩, d13, x, rfl, rfl, rfl⟩ := sh_cons (sh_the _) (sh_cons sh_num (sh_cons (sh_the _) (sh_cons sh_num (sh_cons (sh_the _) (sh_cons sh_num (sh_cons (sh_the _) (sh_cons (sh_the _) (sh_cons sh_frac (sh_cons (sh_the _) (sh_cons (sh_row (Q := NodeSh) (by decide) (fun r d r' h => node_sh h)) (sh_cons sh_art (sh_cons sh_end sh_nil)))))))))))) _ _ _ _ hp
      exact ⟨a0, a1, a2, a3, a4, Ns, Ss, a5, a6, by rw [e]; rfl, hN, hS⟩
end Go.Proofs.YtmplckdpddmifaaGreatDoor
