/- What the tokens of bytes are like, in plain words. -/
import Derived.Test.YtjincjlalopbfaaNPlc
namespace Go.Proofs.Ytjincjlalopbfaa
set_option linter.unusedVariables false
theorem pre_ok {acc L : List Tok} {x : Except (Int × Nat) (List Tok)} (h : pre acc x = .ok L) : ∃ M, x = .ok M ∧ L = acc ++ M := by
  cases x with
  | error z => cases h
  | ok l => simp only [pre, Except.ok.injEq] at h; exact ⟨l, rfl, h.symm⟩
theorem tk_cons {r : List UInt8} {p : Nat} {L : List Tok} (h : tk r p = .ok L) :
    (L = [⟨0, [], 0, ((p + r.length : Nat) : Int)⟩] ∧ skp false r = r.length) ∨
    (∃ t M, L = t :: M ∧ one (r.drop (skp false r)) (p + skp false r) = .ok t ∧ t.k ≠ 0 ∧ t.p = ((p + skp false r : Nat) : Int) ∧ t.s = (r.drop (skp false r)).take t.s.length ∧ 1 ≤ t.s.length ∧ skp false r + t.s.length ≤ r.length ∧ tk (r.drop (skp false r + t.s.length)) (p + skp false r + t.s.length) = .ok M) := by
  rw [tk_eq] at h
  have hs := skp_le false r
  split at h
  · cases h
  · rename_i t ht
    have h0 := one_ok ht
    split at h
    · rename_i hk
      left
      rcases h0.2 with ⟨h1, h2⟩ | ⟨h1, _⟩
      · have : r.length ≤ skp false r := by have := congrArg List.length h1; simp at this; omega
        have e : skp false r = r.length := by omega
        rw [e] at h2
        simp only [Except.ok.injEq] at h
        rw [h2] at h
        exact ⟨h.symm, e⟩
      · exact absurd hk h1
    · rename_i hk
      right
      obtain ⟨M, hM, rfl⟩ := pre_ok h
      rcases h0.2 with ⟨_, h2⟩ | ⟨_, _, h3, h4, h5, _⟩
      · rw [h2] at hk; exact absurd rfl hk
      · have hl := en_le (r.drop (skp false r))
        refine ⟨t, M, rfl, ht, hk, h0.1, by rw [h4]; exact h3, by omega, by simp only [List.length_drop] at hl; omega, ?_⟩
        rw [List.drop_drop] at hM
        exact hM
theorem T_ok {l : List UInt8} {L : List Tok} (h : T l = .ok L) : l.length ≤ 65536 ∧ tk l 0 = .ok L := by
  unfold T at h
  split at h
  · cases h
  · exact ⟨by omega, h⟩
/-- how many tokens there are -/
theorem tk_len : ∀ (n : Nat) (r : List UInt8) (p : Nat) (L : List Tok), r.length ≤ n → tk r p = .ok L → 1 ≤ L.length ∧ L.length ≤ r.length + 1
  | n, r, p, L, hn, h => by
    rcases tk_cons h with ⟨rfl, _⟩ | ⟨t, M, rfl, _, _, _, _, h5, h6, h7⟩
    · simp
    · cases n with
      | zero => omega
      | succ n =>
        have := tk_len n _ _ M (by rw [List.length_drop]; omega) h7
        rw [List.length_drop] at this
        simp only [List.length_cons]
        omega
theorem T_len {l : List UInt8} {L : List Tok} (h : T l = .ok L) : 1 ≤ L.length ∧ L.length ≤ l.length + 1 := tk_len l.length l 0 L (Nat.le_refl _) (T_ok h).2
end Go.Proofs.Ytjincjlalopbfaa

namespace Go.Proofs.Ytjincjlalopbfaa
open Go.RowKit
set_option linter.unusedVariables false
set_option linter.unusedSimpArgs false
/-- a step behind what was read -/
def bnd (X : Rs) (p : Sp) : Rs := match X with
  | .error x => .error x
  | .ok (c, r) => p c r
/-- a thing of its own behind what was read -/
def bnb (X : Rs) (p : List Tok → Rs) : Rs := match X with
  | .error x => .error x
  | .ok (_, r) => p r
/-- what is left -/
def toks : Rs → Except Er (List Tok)
  | .error x => .error x
  | .ok (_, r) => .ok r
/-- nothing was read yet -/
def fresh : Rs → Rs
  | .error x => .error x
  | .ok (_, r) => .ok ([], r)
theorem toks_fresh (X : Rs) : toks (fresh X) = toks X := by rcases X with x | ⟨c, r⟩ <;> rfl
theorem bnd_fresh (X : Rs) (p : Sp) : bnd (fresh X) p = bnb X (p []) := by rcases X with x | ⟨c, r⟩ <;> rfl
theorem bnd_sq_nil (X : Rs) : bnd X (sq []) = X := by rcases X with x | ⟨c, r⟩ <;> rfl
theorem bnd_sq_cons (X : Rs) (p : Sp) (ps : List Sp) : bnd X (sq (p :: ps)) = bnd (bnd X p) (sq ps) := by
  rcases X with x | ⟨c, r⟩
  · rfl
  · show sq (p :: ps) c r = bnd (p c r) (sq ps)
    simp only [sq]
    cases p c r <;> rfl
theorem toks_rot (X : Rs) (p : List Tok → Rs) : toks (bnb X (rotd p)) = toks (bnb X p) := by
  rcases X with x | ⟨c, r⟩
  · rfl
  · show toks (rotd p r) = toks (p r)
    simp only [rotd]
    rcases p r with x | ⟨c, r'⟩ <;> rfl
/-- if all is well behind it, all was well ahead of it, and so much was added -/
def Got (X Y : Rs) (ds : List D) : Prop := ∀ c r, Y = .ok (c, r) → ∃ c0 r0, X = .ok (c0, r0) ∧ c = c0 ++ ds
theorem Got.refl (X : Rs) : Got X X [] := fun c r h => ⟨c, r, h, by simp⟩
theorem Got.trans {X Y Z : Rs} {a b : List D} (h : Got X Y a) (k : Got Y Z b) : Got X Z (a ++ b) := fun c r e => by
  obtain ⟨c1, r1, h1, rfl⟩ := k c r e
  obtain ⟨c0, r0, h0, rfl⟩ := h c1 r1 h1
  exact ⟨c0, r0, h0, by simp⟩
/-- from nothing on, what was read is what was added -/
theorem Got.all {X : Rs} {p : Sp} {ds : List D} (h : Got (fresh X) (bnd (fresh X) p) ds) : ∀ c r, bnb X (p []) = .ok (c, r) → c = ds := fun c r e => by
  rw [← bnd_fresh] at e
  obtain ⟨c0, r0, h0, rfl⟩ := h c r e
  rcases X with x | ⟨c1, r1⟩
  · cases h0
  · simp only [fresh, Except.ok.injEq, Prod.mk.injEq] at h0
    rw [← h0.1]; rfl
theorem Got.rot {X : Rs} {p : Sp} {d : D} {ds : List D} (h : Got (fresh X) (bnd (fresh X) p) (d :: ds)) : ∀ c r, bnb X (rotd (p [])) = .ok (c, r) → c = ds ++ [d] := fun c r e => by
  rcases X with x | ⟨c1, r1⟩
  · cases e
  · simp only [bnb, rotd] at e
    cases hp : p [] r1 with
    | error x => rw [hp] at e; cases e
    | ok q =>
      rw [hp] at e
      simp only [Except.ok.injEq, Prod.mk.injEq] at e
      have := h.all q.1 q.2 hp
      rw [← e.1, this]; rfl
/-- how tokens are made -/
def Kf (t : Tok) : Prop := (t.k = 0 → t.s = []) ∧ (t.k = 2 → ∃ c s, t.s = c :: s ∧ 48 ≤ c.toNat ∧ c.toNat ≤ 57)
/-- what no number and no end is -/
def wrd : List UInt8 → Bool
  | [] => false
  | c :: _ => !(decide (48 ≤ c.toNat) && decide (c.toNat ≤ 57))
theorem Kf.word {t : Tok} (h : Kf t) {s : List UInt8} (hs : wrd s = true) (e : t.s = s) : t.k ≠ 0 ∧ t.k ≠ 2 := by
  refine ⟨fun k => ?_, fun k => ?_⟩
  · rw [h.1 k] at e; subst e; cases hs
  · obtain ⟨c, s', e', h1, h2⟩ := h.2 k
    rw [e'] at e; subst e
    simp [wrd, h1, h2] at hs
theorem one_kf {r : List UInt8} {p : Nat} {t : Tok} (h : one r p = .ok t) : Kf t := by
  cases r with
  | nil => simp only [one, Except.ok.injEq] at h; subst h; exact ⟨fun _ => rfl, fun e => by simp at e⟩
  | cons c r =>
    simp only [one] at h
    split at h
    · split at h
      · cases h
      · simp only [Except.ok.injEq] at h; subst h; exact ⟨fun e => by simp at e, fun e => by simp at e⟩
    · split at h
      · rename_i h5
        split at h
        · cases h
        · simp only [Except.ok.injEq] at h
          subst h
          refine ⟨fun e => by simp at e, fun _ => ?_⟩
          refine ⟨c, r.take (tw (goes c) r), ?_, ?_⟩
          · show (c :: r).take (en (c :: r)) = _
            rw [en, Nat.add_comm 1, List.take_succ_cons]
          · unfold kd at h5
            (repeat' split at h5) <;> omega
      · split at h
        · simp only [Except.ok.injEq] at h; subst h; exact ⟨fun e => by simp at e, fun e => by simp at e⟩
        · cases h
theorem tk_kf : ∀ (n : Nat) (r : List UInt8) (p : Nat) (L : List Tok), r.length ≤ n → tk r p = .ok L → ∀ t ∈ L, Kf t
  | n, r, p, L, hn, h => by
    rcases tk_cons h with ⟨rfl, _⟩ | ⟨t, M, rfl, h1, h2, _, _, h5, h6, h7⟩
    · exact fun t ht => by simp at ht; subst ht; exact ⟨fun _ => rfl, fun e => by simp at e⟩
    · cases n with
      | zero => omega
      | succ n =>
        have hM := tk_kf n _ _ M (by rw [List.length_drop]; omega) h7
        intro x hx
        rcases List.mem_cons.1 hx with rfl | hx
        · exact one_kf h1
        · exact hM x hx
theorem T_kf {l : List UInt8} {L : List Tok} (h : T l = .ok L) : ∀ t ∈ L, Kf t := tk_kf l.length l 0 L (Nat.le_refl _) (T_ok h).2
/-- does one more begin? and what is left -/
def bgn (word : List UInt8) (n most : Nat) : Except Er (List Tok) → Bool × Except Er (List Tok)
  | .error x => (false, .error x)
  | .ok [] => (false, .ok [])
  | .ok (t :: r) => if t.s = word then (if n = most then (false, .error (4, t.p)) else (true, .ok r)) else (false, .ok (t :: r))
/-- a row that is done -/
def rwF (L : List (List D)) : Except Er (List Tok) → Except Er (List (List D) × List Tok)
  | .error x => .error x
  | .ok r => .ok (L, r)
/-- the rest of a row -/
def rwY (word : List UInt8) (most : Nat) (body : List Tok → Rs) (Y : Except Er (List Tok)) (L : List (List D)) : Except Er (List (List D) × List Tok) := match Y with
  | .error x => .error x
  | .ok r => rw_ word most body L r
theorem rwY_no {word : List UInt8} {most : Nat} {body : List Tok → Rs} (hm : Mon body) {Y Y' : Except Er (List Tok)} {L : List (List D)} (hne : Y ≠ .ok []) (h : bgn word L.length most Y = (false, Y')) : rwY word most body Y L = rwF L Y' := by
  match Y, h with
  | .error x, h => simp only [bgn, Prod.mk.injEq] at h; rw [← h.2]; rfl
  | .ok [], h => exact absurd rfl hne
  | .ok (t :: r), h =>
    simp only [bgn] at h
    show rw_ word most body L (t :: r) = _
    rw [rw_cons _ _ _ hm]
    by_cases h1 : t.s = word
    · rw [if_pos h1] at h ⊢
      by_cases h2 : L.length = most
      · rw [if_pos h2] at h ⊢
        simp only [Prod.mk.injEq] at h
        rw [← h.2]; rfl
      · rw [if_neg h2] at h; simp at h
    · rw [if_neg h1] at h ⊢
      simp only [Prod.mk.injEq] at h
      rw [← h.2]; rfl
theorem bgn_yes {word : List UInt8} {n most : Nat} {Y Y' : Except Er (List Tok)} (h : bgn word n most Y = (true, Y')) : ∃ t r, Y = .ok (t :: r) ∧ Y' = .ok r ∧ t.s = word ∧ n ≠ most := by
  match Y, h with
  | .error x, h => simp [bgn] at h
  | .ok [], h => simp [bgn] at h
  | .ok (t :: r), h =>
    simp only [bgn] at h
    by_cases h1 : t.s = word
    · rw [if_pos h1] at h
      by_cases h2 : n = most
      · rw [if_pos h2] at h; simp at h
      · rw [if_neg h2] at h; simp only [Prod.mk.injEq] at h; exact ⟨t, r, rfl, h.2.symm, h1, h2⟩
    · rw [if_neg h1] at h; simp at h
theorem rwY_yes {word : List UInt8} {most : Nat} {body : List Tok → Rs} (hm : Mon body) {t : Tok} {r : List Tok} {L : List (List D)} {cs : List D} (h1 : t.s = word) (h2 : L.length ≠ most) (hc : ∀ c r', body r = .ok (c, r') → cs = c) : rwY word most body (.ok (t :: r)) L = rwY word most body (toks (body r)) (L ++ [cs]) := by
  show rw_ word most body L (t :: r) = _
  rw [rw_cons _ _ _ hm, if_pos h1, if_neg h2]
  cases hb : body r with
  | error x => rfl
  | ok q => obtain ⟨c, r'⟩ := q; rw [hc c r' hb]; rfl
/-- a row behind what was read -/
theorem row_bnd {word : List UInt8} {most e z : Nat} {body : List Tok → Rs} {X : Rs} {Y' : Except Er (List Tok)} {L : List (List D)} (h : rwY word most body (toks X) [] = rwF L Y') : toks (bnd X (pRow word most e z body)) = Y' ∧ Got X (bnd X (pRow word most e z body)) [.row e z L] := by
  rcases X with x | ⟨c, r⟩
  · cases Y' with
    | error y => simp only [toks, rwY, rwF, Except.error.injEq] at h; subst h; exact ⟨rfl, fun c r e => by cases e⟩
    | ok r => cases h
  · have e0 : bnd (.ok (c, r)) (pRow word most e z body) = match rw_ word most body [] r with | .error x => .error x | .ok (L, r') => .ok (c ++ [.row e z L], r') := rfl
    have h' : rw_ word most body [] r = rwF L Y' := h
    rw [e0, h']
    cases Y' with
    | error y => exact ⟨rfl, fun c r e => by cases e⟩
    | ok r1 => exact ⟨rfl, fun c2 r2 e2 => by simp only [rwF, Except.ok.injEq, Prod.mk.injEq] at e2; exact ⟨c, r, rfl, e2.1.symm⟩⟩
/-- names, behind one of them -/
def nmA (most : Nat) (L : List (List D)) : Except Er (List Tok) → Except Er (List (List D) × List Tok)
  | .error x => .error x
  | .ok [] => .error (50, 0)
  | .ok (u :: r) => if u.s = [44] then nm most L r else .ok (L, u :: r)
/-- the first name -/
theorem nmA_start {most : Nat} (hm : most ≠ 0) {c : List D} {t : Tok} {r : List Tok} {s : List UInt8} (h : Got (.ok (c, t :: r)) (bnd (.ok (c, t :: r)) pName) [dS s]) : nm most [] (t :: r) = nmA most [[dS s]] (toks (bnd (.ok (c, t :: r)) pName)) := by
  rw [nm_cons]
  simp only [bnd, pName] at h ⊢
  by_cases hn : t.k = 1 ∧ ¬ t.s ∈ words
  · rw [if_pos hn] at h ⊢
    obtain ⟨c0, r0, h0, h1⟩ := h _ _ rfl
    simp only [Except.ok.injEq, Prod.mk.injEq] at h0
    obtain ⟨rfl, _⟩ := h0
    have hd : dS t.s = dS s := by have := List.append_cancel_left h1; simpa using this
    rw [if_neg (by simp; omega), if_pos hn, hd]
    cases r with
    | nil => rfl
    | cons u r2 => rfl
  · rw [if_neg hn, if_neg hn]; rfl
theorem nmA_yes {most : Nat} {L : List (List D)} {u t : Tok} {r : List Tok} (h : u.s = [44]) : nmA most L (.ok (u :: t :: r)) = if t.k = 1 ∧ ¬ t.s ∈ words then (if L.length = most then .error (4, t.p) else nmA most (L ++ [[dS t.s]]) (.ok r)) else .error (50, t.p) := by
  show (if u.s = [44] then nm most L (t :: r) else _) = _
  rw [if_pos h, nm_cons]
  by_cases hn : t.k = 1 ∧ ¬ t.s ∈ words
  · rw [if_pos hn, if_pos hn]
    by_cases h2 : L.length = most
    · rw [if_pos h2, if_pos h2]
    · rw [if_neg h2, if_neg h2]
      cases r <;> rfl
  · rw [if_neg hn, if_neg hn]
theorem nmA_no {most : Nat} {L : List (List D)} {Y : Except Er (List Tok)} (hne : Y ≠ .ok []) (h : ∀ t r, Y = .ok (t :: r) → t.s ≠ [44]) : nmA most L Y = rwF L Y := by
  match Y with
  | .error x => rfl
  | .ok [] => exact absurd rfl hne
  | .ok (u :: r) => show (if u.s = [44] then _ else _) = _; rw [if_neg (h u r rfl)]; rfl
theorem names_bnd {e most : Nat} {X : Rs} {Y' : Except Er (List Tok)} {L : List (List D)} (hX : ∀ c r, X = .ok (c, r) → nm most [] r = rwF L Y') (hE : ∀ x, X = .error x → Y' = .error x) : toks (bnd X (pNames e most)) = Y' ∧ Got X (bnd X (pNames e most)) [.row e 1 L] := by
  rcases X with x | ⟨c, r⟩
  · rw [hE x rfl]; exact ⟨rfl, fun c r e => by cases e⟩
  · have e0 : bnd (.ok (c, r)) (pNames e most) = match nm most [] r with | .error x => .error x | .ok (L, r') => .ok (c ++ [.row e 1 L], r') := rfl
    rw [e0, hX c r rfl]
    cases Y' with
    | error y => exact ⟨rfl, fun c r e => by cases e⟩
    | ok r1 => exact ⟨rfl, fun c2 r2 e2 => by simp only [rwF, Except.ok.injEq, Prod.mk.injEq] at e2; exact ⟨c, r, rfl, e2.1.symm⟩⟩
/-- a row that is begun is not empty at its end -/
theorem rwz_len (word : List UInt8) (most : Nat) (body : List Tok → Rs) : ∀ (f : Nat) (L : List (List D)) (r : List Tok) (L' : List (List D)) (r' : List Tok), rwz word most body f L r = .ok (L', r') → L.length ≤ L'.length
  | 0, _, _, _, _, h => by simp [rwz] at h
  | f + 1, L, [], L', r', h => by simp [rwz] at h
  | f + 1, L, t :: r, L', r', h => by
    simp only [rwz] at h
    split at h
    · split at h
      · cases h
      · split at h
        · cases h
        · rename_i d r1 h1
          have := rwz_len word most body f _ r1 _ _ h
          simp at this; omega
    · simp at h; simp [← h.1]
end Go.Proofs.Ytjincjlalopbfaa

namespace Go.Proofs.Ytjincjlalopbfaa
open Go.RowKit
attribute [local go_sem ↓] Go.wp_at_zero Go.wp_at_succ
set_option linter.unusedVariables false
set_option linter.unusedSimpArgs false
set_option maxRecDepth 10000
theorem num_snoc (m : List UInt8) (c : UInt8) : num (m ++ [c]) = num m * 10 + ((c.toNat : Int) - 48) := by unfold num; rw [List.foldl_append]; rfl
theorem take_one (l : List UInt8) (k : Nat) (h : k < l.length) : l.take (k + 1) = l.take k ++ [l.getD k 0] := by
  rw [List.take_add_one, List.getElem?_eq_getElem h, List.getD_eq_getElem?_getD, List.getElem?_eq_getElem h]; rfl
theorem num_bd (l : List UInt8) (hd : ∀ c, c ∈ l → kd c.toNat = 5) : ∀ k, k ≤ l.length → 0 ≤ num (l.take k) ∧ num (l.take k) < 10 ^ k
  | 0, _ => by simp [num]
  | k + 1, h => by
    have ih := num_bd l hd k (by omega)
    have hc := (kd_5 _).1 (hd (l.getD k 0) (by rw [List.getD_eq_getElem?_getD, List.getElem?_eq_getElem (by omega)]; exact List.getElem_mem _))
    rw [take_one l k (by omega), num_snoc, Int.pow_succ]
    generalize num (l.take k) = x at *
    generalize (10 : Int) ^ k = y at *
    omega
end Go.Proofs.Ytjincjlalopbfaa

namespace Go.Proofs.Ytjincjlalopbfaa
open Go.RowKit
set_option linter.unusedVariables false
set_option linter.unusedSimpArgs false
set_option maxRecDepth 10000
theorem tw_take (P : UInt8 → Bool) (r : List UInt8) : r.take (tw P r) = r.takeWhile P := (List.prefix_iff_eq_take.1 (List.takeWhile_prefix P)).symm
theorem en_take (c : UInt8) (r : List UInt8) : (c :: r).take (en (c :: r)) = c :: r.takeWhile (goes c) := by
  rw [en, Nat.add_comm, List.take_succ_cons, tw_take]
theorem en_all {c : UInt8} {r : List UInt8} {x : UInt8} (h : x ∈ (c :: r).take (en (c :: r))) : x = c ∨ goes c x = true := by
  rw [en_take, List.mem_cons] at h
  rcases h with h | h
  · exact .inl h
  · right
    have := List.all_takeWhile (l := r) (p := goes c)
    rw [List.all_eq_true] at this
    exact this x h
theorem en_digits {c : UInt8} {r : List UInt8} (h5 : kd c.toNat = 5) : ∀ x, x ∈ (c :: r).take (en (c :: r)) → kd x.toNat = 5 := by
  intro x h
  rcases en_all h with rfl | h
  · exact h5
  · unfold goes at h
    rw [on_iff] at h
    omega
/-- a piece of bytes, as a string -/
theorem conv_piece {w : World} {ad : Addr} {l : List UInt8} {i N : Nat} (C : Cy w (some ad) l.length (fun k => ((l.getD k 0).toNat : Int))) (hi : i ≤ N) (hN : N ≤ l.length) {t u : TypeId} (hs : Try.prog.underlying t = some (.slice 5)) (hu : Try.prog.underlying u = some .string) (c : Nat) :
    (convert t u (.slice (some (ad.add i)) (N - i) c)).run Try.prog w = .ok (.string (sv ((l.drop i).take (N - i)))) w := by
  have hl : ((l.drop i).take (N - i)).length = N - i := by rw [List.length_take, List.length_drop]; omega
  have h := run_convert_bytes_back (P := Try.prog) w t u 5 (ad.add i) c ((l.drop i).take (N - i)) hs Try.underlying5 hu (fun j hj => ?_)
  · rw [hl] at h; exact h
  · rw [hl] at hj
    obtain ⟨ad', e, _, hc⟩ := C (i + j) (by omega)
    injection e with e
    subst e
    rw [Addr.add_add, hc]
    congr 2
    show ((l.getD (i + j) 0).toNat : Int) = _
    rw [List.getD_eq_getElem?_getD, List.getElem?_eq_getElem (by omega)]
    simp
def rtk : Except Int Tok → Tok
  | .ok t => t
  | .error _ => t0
def re : Except Int Tok → Int
  | .ok _ => 0
  | .error e => e
end Go.Proofs.Ytjincjlalopbfaa
