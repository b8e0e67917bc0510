/- Two texts with a line between: their tokens, in plain words. -/
import Derived.Test.YtcdnbdajnagfiaaGreatDoorLFact
import Derived.Test.YtcdnbdajnagfiaaGreatDoorSHead
import Derived.Lib.ItoaMem
import Derived.Test.YtcdnbdajnagfiaaGreatDoorSNet
import Derived.Test.YtcdnbdajnagfiaaGreatDoorSArt
import Derived.Test.YtcdnbdajnagfiaaGreatDoorSNode
namespace Go.Proofs.YtcdnbdajnagfiaaGreatDoor
set_option linter.unusedVariables false
theorem skp_app2 (x : List UInt8) : ∀ (b0 : Bool) (r : List UInt8), skp b0 r < r.length → skp b0 (r ++ x) = skp b0 r
  | b0, [], h => by cases b0 <;> simp at h
  | true, c :: r, h => by
    simp only [skp, List.length_cons] at h
    have := skp_app2 x (decide (kd c.toNat ≠ 2)) r (by omega)
    simp only [List.cons_append, skp]
    omega
  | false, c :: r, h => by
    simp only [skp, List.length_cons] at h
    simp only [List.cons_append, skp]
    by_cases k3 : kd c.toNat = 3
    · rw [if_pos k3] at h ⊢
      rw [if_pos k3]
      have := skp_app2 x true r (by omega)
      omega
    · rw [if_neg k3] at h ⊢
      rw [if_neg k3]
      by_cases k12 : kd c.toNat = 1 ∨ kd c.toNat = 2
      · rw [if_pos k12] at h ⊢
        rw [if_pos k12]
        have := skp_app2 x false r (by omega)
        omega
      · rw [if_neg k12, if_neg k12]
theorem tw_app (P : UInt8 → Bool) (y : UInt8) (hy : P y = false) (b : List UInt8) : ∀ s : List UInt8, tw P (s ++ y :: b) = tw P s
  | [] => by unfold tw; rw [List.nil_append, List.takeWhile_cons]; simp [hy]
  | c :: s => by
    have ih := tw_app P y hy b s
    unfold tw at *
    rw [List.cons_append, List.takeWhile_cons, List.takeWhile_cons]
    split
    · simp only [List.length_cons, ih]
    · rfl
/-- a byte that goes on with no token, behind one -/
theorem one_app {r : List UInt8} {p : Nat} {t : Tok} (y : UInt8) (hy : ¬ (kd y.toNat = 4 ∨ kd y.toNat = 5 ∨ kd y.toNat = 6)) (b : List UInt8) (h : one r p = .ok t) (hk : t.k ≠ 0) : one (r ++ y :: b) p = .ok t := by
  cases r with
  | nil => simp only [one, Except.ok.injEq] at h; rw [← h] at hk; exact absurd rfl hk
  | cons c r =>
    have hle := en_le (c :: r)
    simp only [one] at h
    have hg : kd c.toNat = 4 ∨ kd c.toNat = 5 ∨ kd c.toNat = 7 := by
      by_cases h4 : kd c.toNat = 4
      · exact .inl h4
      · rw [if_neg h4] at h
        by_cases h5 : kd c.toNat = 5
        · exact .inr (.inl h5)
        · rw [if_neg h5] at h
          by_cases h7 : kd c.toNat = 7
          · exact .inr (.inr h7)
          · rw [if_neg h7] at h; cases h
    have hf : goes c y = false := by
      unfold goes
      rw [Bool.eq_false_iff]
      intro h
      rw [on_iff] at h
      omega
    have e : en (c :: r ++ y :: b) = en (c :: r) := by
      show 1 + tw (goes c) (r ++ y :: b) = 1 + tw (goes c) r
      rw [tw_app _ _ hf]
    have e2 : (c :: r ++ y :: b).take (en (c :: r)) = (c :: r).take (en (c :: r)) := List.take_append_of_le_length hle
    rw [List.cons_append] at e e2 ⊢
    simp only [one, e, e2]
    exact h
theorem ten : ¬ (kd (10 : UInt8).toNat = 4 ∨ kd (10 : UInt8).toNat = 5 ∨ kd (10 : UInt8).toNat = 6) := by decide
/-- a token later by some places -/
def sh (k : Nat) (t : Tok) : Tok := ⟨t.k, t.s, t.n, t.p + k⟩
theorem one_sh (r : List UInt8) (p k : Nat) : one r (p + k) = match one r p with
    | .ok t => .ok (sh k t)
    | .error e => .error e := by
  cases r with
  | nil => simp [one, sh]
  | cons c r =>
    simp only [one]
    by_cases h4 : kd c.toNat = 4
    · simp only [if_pos h4]
      split <;> simp [sh]
    · simp only [if_neg h4]
      by_cases h5 : kd c.toNat = 5
      · simp only [if_pos h5]
        split <;> simp [sh]
      · simp only [if_neg h5]
        by_cases h7 : kd c.toNat = 7
        · simp [if_pos h7, sh]
        · simp [if_neg h7]
end Go.Proofs.YtcdnbdajnagfiaaGreatDoor

namespace Go.Proofs.YtcdnbdajnagfiaaGreatDoor
open Go.RowKit
set_option linter.unusedVariables false
set_option linter.unusedSimpArgs false
set_option maxRecDepth 10000
namespace S
/-- what is written of words, by how many braces are open and the word ahead -/
def rst : Int → List UInt8 → List (List UInt8) → List UInt8
  | _, _, [] => []
  | op, la, wd :: ws => gp (op1 op wd) la wd ++ (wd ++ (if wd = [123] then 10 :: rst (op1 op wd + 1) [] ws else if wd = [125] ∨ wd = [59] then 10 :: rst (op1 op wd) [] ws else rst (op1 op wd) wd ws))
theorem pss_out : ∀ (ws : List (List UInt8)) (st : St), (pss st ws).out = st.out ++ rst st.op st.la ws
  | [], st => by simp [pss, rst]
  | wd :: ws, st => by
    have ih := pss_out ws (ps st wd)
    have e : pss st (wd :: ws) = pss (ps st wd) ws := rfl
    rw [e, ih]
    simp only [rst, ps]
    by_cases h1 : wd = [123]
    · simp only [if_pos h1]; simp
    · simp only [if_neg h1]
      by_cases h2 : wd = [125] ∨ wd = [59]
      · simp only [if_pos h2]; simp
      · simp only [if_neg h2]; simp
theorem tk_skip (c : UInt8) (hc : kd c.toNat = 1 ∨ kd c.toNat = 2) (R : List UInt8) (q : Nat) : tk (c :: R) q = tk R (q + 1) := by
  have es : skp false (c :: R) = 1 + skp false R := by
    simp only [skp]
    rw [if_neg (by omega), if_pos hc]
  have ed : (c :: R).drop (1 + skp false R) = R.drop (skp false R) := by rw [Nat.add_comm, List.drop_succ_cons]
  rw [tk_eq (c :: R), tk_eq R, es, ed, show q + (1 + skp false R) = q + 1 + skp false R by omega]
theorem tk_rep : ∀ (n : Nat) (R : List UInt8) (q : Nat), tk (List.replicate n 32 ++ R) q = tk R (q + n)
  | 0, R, q => rfl
  | n + 1, R, q => by rw [List.replicate_succ, List.cons_append, tk_skip 32 (by decide), tk_rep n R (q + 1)]; congr 1; omega
theorem gp_rep (op : Int) (la wd : List UInt8) : ∃ n, gp op la wd = List.replicate n 32 := by
  unfold gp
  split
  · exact ⟨_, rfl⟩
  · split
    · exact ⟨0, rfl⟩
    · split
      · exact ⟨0, rfl⟩
      · exact ⟨1, rfl⟩
theorem tk_nil (p : Nat) : tk [] p = .ok [⟨0, [], 0, (p : Int)⟩] := by
  rw [tk_eq]
  rfl
/-- what goes on with no token -/
def nw (R : List UInt8) : Prop := ∀ y b, R = y :: b → ¬ (kd y.toNat = 4 ∨ kd y.toNat = 5 ∨ kd y.toNat = 6)
theorem nw_nil : nw [] := fun y b h => by cases h
theorem nw_cons {y : UInt8} {b : List UInt8} (h : ¬ (kd y.toNat = 4 ∨ kd y.toNat = 5 ∨ kd y.toNat = 6)) : nw (y :: b) := fun y' b' e => by cases e; exact h
/-- a word of the printer's and its tokens -/
def Wk (w : List UInt8) (ts : List Tok) : Prop := w ≠ [] ∧ ∀ R p, (w = [47] ∨ nw R) → ∃ ts', tk (w ++ R) p = pre ts' (tk R (p + w.length)) ∧ ts'.map q0 = ts
/-- words and their tokens -/
inductive Wks : List (List UInt8) → List Tok → Prop where
  | nil : Wks [] []
  | cons {w : List UInt8} {ws : List (List UInt8)} {ts tss : List Tok} : Wk w ts → Wks ws tss → Wks (w :: ws) (ts ++ tss)
theorem Wks.append {a b : List (List UInt8)} {x y : List Tok} (h : Wks a x) (k : Wks b y) : Wks (a ++ b) (x ++ y) := by
  induction h with
  | nil => exact k
  | cons h1 _ ih => rw [List.cons_append, List.append_assoc]; exact .cons h1 ih
theorem Wks.one {w : List UInt8} {t : Tok} {ws : List (List UInt8)} {tss : List Tok} (h : Wk w [t]) (k : Wks ws tss) : Wks (w :: ws) (t :: tss) := .cons h k
theorem Wks.flat {α : Type} {f : α → List (List UInt8)} {g : α → List Tok} : ∀ (l : List α), (∀ a ∈ l, Wks (f a) (g a)) → Wks (l.flatMap f) (l.flatMap g)
  | [], _ => .nil
  | a :: l, h => by
    rw [List.flatMap_cons, List.flatMap_cons]
    exact (h a List.mem_cons_self).append (Wks.flat l (fun b hb => h b (List.mem_cons_of_mem _ hb)))
theorem tk_rst : ∀ (ws : List (List UInt8)) (ts : List Tok), Wks ws ts → ∀ (op : Int) (la : List UInt8) (p : Nat), ∃ (L : List Tok) (e : Int), tk (rst op la ws) p = .ok (L ++ [⟨0, [], 0, e⟩]) ∧ L.map q0 = ts := by
  intro ws ts h
  induction h with
  | nil => intro op la p; exact ⟨[], p, by rw [rst, tk_nil]; rfl, rfl⟩
  | @cons w ws ts tss hw _ ih =>
    intro op la p
    obtain ⟨n, hn⟩ := gp_rep (op1 op w) la w
    simp only [rst]
    rw [hn, tk_rep]
    by_cases h1 : w = [123]
    · simp only [if_pos h1]
      obtain ⟨ts', e1, e2⟩ := hw.2 (10 :: rst (op1 op w + 1) [] ws) (p + n) (.inr (nw_cons (by decide)))
      obtain ⟨L, e, i1, i2⟩ := ih (op1 op w + 1) [] (p + n + w.length + 1)
      rw [e1, tk_skip 10 (by decide), i1]
      exact ⟨ts' ++ L, e, by simp [pre], by rw [List.map_append, e2, i2]⟩
    · simp only [if_neg h1]
      by_cases h2 : w = [125] ∨ w = [59]
      · simp only [if_pos h2]
        obtain ⟨ts', e1, e2⟩ := hw.2 (10 :: rst (op1 op w) [] ws) (p + n) (.inr (nw_cons (by decide)))
        obtain ⟨L, e, i1, i2⟩ := ih (op1 op w) [] (p + n + w.length + 1)
        rw [e1, tk_skip 10 (by decide), i1]
        exact ⟨ts' ++ L, e, by simp [pre], by rw [List.map_append, e2, i2]⟩
      · simp only [if_neg h2]
        have hnw : w = [47] ∨ nw (rst (op1 op w) w ws) := by
          by_cases h3 : w = [47]
          · exact .inl h3
          · right
            cases ws with
            | nil => exact nw_nil
            | cons x xs =>
              simp only [rst, gp, if_neg hw.1, if_neg h3]
              by_cases h4 : x = [44] ∨ x = [59] ∨ x = [58] ∨ x = [47]
              · simp only [if_pos h4, List.nil_append]
                rcases h4 with rfl | rfl | rfl | rfl <;> exact nw_cons (by decide)
              · simp only [if_neg h4]
                exact nw_cons (by decide)
        obtain ⟨ts', e1, e2⟩ := hw.2 (rst (op1 op w) w ws) (p + n) hnw
        obtain ⟨L, e, i1, i2⟩ := ih (op1 op w) w (p + n + w.length)
        rw [e1, i1]
        exact ⟨ts' ++ L, e, by simp [pre], by rw [List.map_append, e2, i2]⟩
/-- a text that is one token -/
def Gs (s : List UInt8) (k n : Int) : Prop := k ≠ 0 ∧ one s 0 = .ok ⟨k, s, n, 0⟩ ∧ skp false s = 0
theorem tk_gs {s : List UInt8} {k n : Int} (h : Gs s k n) (R : List UInt8) (p : Nat) (hR : nw R) : tk (s ++ R) p = pre [⟨k, s, n, p⟩] (tk R (p + s.length)) := by
  obtain ⟨h0, h1, h2⟩ := h
  have hne : s ≠ [] := by
    rintro rfl
    simp only [one, Except.ok.injEq, Tok.mk.injEq] at h1
    exact h0 h1.1.symm
  have e1 : one s (p + 0) = .ok ⟨k, s, n, p⟩ := by rw [Nat.add_comm, one_sh, h1]; simp [sh]
  have es : skp false (s ++ R) = 0 := by rw [skp_app2 _ false s (by rw [h2]; exact List.length_pos_iff.2 hne), h2]
  have e2 : one (s ++ R) (p + 0) = .ok ⟨k, s, n, p⟩ := by
    cases R with
    | nil => rw [List.append_nil]; exact e1
    | cons y b => exact one_app y (hR y b rfl) b e1 h0
  rw [tk_eq, es, List.drop_zero, e2]
  simp only
  rw [if_neg h0, List.drop_append_of_le_length (Nat.le_refl _), List.drop_length, List.nil_append, Nat.add_zero]
theorem wk_gs {s : List UInt8} {k n : Int} (h : Gs s k n) (h47 : s ≠ [47]) : Wk s [⟨k, s, n, 0⟩] := by
  refine ⟨?_, fun R p hR => ?_⟩
  · rintro rfl
    have := h.2.1
    simp only [one, Except.ok.injEq, Tok.mk.injEq] at this
    exact h.1 this.1.symm
  · exact ⟨_, tk_gs h R p (hR.resolve_left h47), by simp [q0]⟩
theorem tk_sign (c : UInt8) (hc : kd c.toNat = 7) (R : List UInt8) (p : Nat) : tk (c :: R) p = pre [⟨3, [c], 0, p⟩] (tk R (p + 1)) := by
  have es : skp false (c :: R) = 0 := by simp only [skp]; rw [if_neg (by omega), if_neg (by omega)]
  have ee : en (c :: R) = 1 := by
    have : tw (goes c) R = 0 := tw_none fun x => by unfold goes; rw [hc]; unfold on; simp
    simp [en, this]
  have e2 : one (c :: R) (p + 0) = .ok ⟨3, [c], 0, p⟩ := by
    simp only [one]
    rw [if_neg (by omega), if_neg (by omega), if_pos hc, ee]
    simp
  rw [tk_eq, es, List.drop_zero, e2]
  simp
theorem wk_sign (c : UInt8) (hc : kd c.toNat = 7) : Wk [c] [⟨3, [c], 0, 0⟩] := ⟨by simp, fun R p _ => ⟨_, tk_sign c hc R p, by simp [q0]⟩⟩
/-- names, words of the grammar, signs, numbers, grades -/
abbrev kS (s : List UInt8) : Tok := ⟨1, s, 0, 0⟩
abbrev kN (n : Int) : Tok := ⟨2, dg n, n, 0⟩
abbrev kC (c : UInt8) : Tok := ⟨3, [c], 0, 0⟩
def kG (n : Int) : List Tok := if n < 0 then [kC 45, kN (-n)] else [kN n]
theorem rg_gs {s : List UInt8} (h : rg ⟨1, s, 0, 0⟩ = true) : Gs s 1 0 := by
  unfold rg at h
  split at h
  · rename_i x y hT
    simp only [Bool.and_eq_true, decide_eq_true_eq] at h
    obtain ⟨⟨hk, hn⟩, hs⟩ := h
    rcases tk_cons (T_ok hT).2 with ⟨h1, _⟩ | ⟨t', M, h0, h1, h2, h3, h4, h5, h6, _⟩
    · simp at h1
    · simp only [List.cons.injEq] at h0
      obtain ⟨rfl, _⟩ := h0
      rw [hs] at h6
      have h6' : skp false s + s.length ≤ s.length := h6
      have ha : skp false s = 0 := by omega
      have h1' : one (s.drop (skp false s)) (0 + skp false s) = .ok x := h1
      rw [ha, List.drop_zero] at h1'
      have hp := (one_ok h1').1
      refine ⟨by decide, ?_, ha⟩
      rw [h1']
      congr 1
      cases x
      simp only at hk hn hs hp
      subst hk; subst hn; subst hs
      rw [hp]; rfl
  · cases h
theorem nmB_rg {s : List UInt8} (h : nmB s = true) : rg ⟨1, s, 0, 0⟩ = true ∧ ¬ s ∈ words := by
  unfold nmB at h
  simp only [Bool.and_eq_true, Bool.not_eq_true', decide_eq_false_iff_not] at h
  exact h
theorem gs47 {s : List UInt8} {k n : Int} (h : Gs s k n) (hk : k ≠ 3) : s ≠ [47] := by
  rintro rfl
  have h1 := h.2.1
  have e : one [47] 0 = .ok ⟨3, [47], 0, 0⟩ := rfl
  rw [e] at h1
  simp only [Except.ok.injEq, Tok.mk.injEq] at h1
  exact hk h1.1.symm
theorem wk_name {s : List UInt8} (h : nmB s = true) : Wk s [kS s] := by
  have g := rg_gs (nmB_rg h).1
  exact wk_gs g (gs47 g (by decide))
/-- digits -/
theorem dig_kd (x : Nat) (h : x < 10) : kd (UInt8.ofNat (48 + x)).toNat = 5 ∧ ((UInt8.ofNat (48 + x)).toNat : Int) - 48 = x := by
  have e : (UInt8.ofNat (48 + x)).toNat = 48 + x := by rw [UInt8.toNat_ofNat']; omega
  rw [e]
  refine ⟨?_, by omega⟩
  rw [kd_5]
  omega
theorem dec_dig (u : Nat) : ∀ c ∈ Lib.decDigits u, kd c.toNat = 5 := by
  induction u using Nat.strongRecOn with
  | _ u ih =>
    intro c hc
    rw [Lib.decDigits] at hc
    split at hc
    · rename_i h
      simp only [List.mem_singleton] at hc
      subst hc
      exact (dig_kd u h).1
    · rename_i h
      rcases List.mem_append.1 hc with hc | hc
      · exact ih (u / 10) (by omega) c hc
      · simp only [List.mem_singleton] at hc
        subst hc
        exact (dig_kd (u % 10) (Nat.mod_lt _ (by decide))).1
theorem num_snoc (l : List UInt8) (c : UInt8) : num (l ++ [c]) = num l * 10 + ((c.toNat : Int) - 48) := by simp [num, List.foldl_append]
theorem num_dec (u : Nat) : num (Lib.decDigits u) = u := by
  induction u using Nat.strongRecOn with
  | _ u ih =>
    rw [Lib.decDigits]
    split
    · rename_i h
      have := num_snoc [] (UInt8.ofNat (48 + u))
      rw [List.nil_append, (dig_kd u h).2] at this
      rw [this]
      simp [num]
    · rename_i h
      rw [num_snoc, ih (u / 10) (by omega), (dig_kd (u % 10) (Nat.mod_lt _ (by decide))).2]
      omega
theorem ndig_le : ∀ (k u : Nat), 1 ≤ k → u < 10 ^ k → Lib.nDigits u ≤ k
  | 0, u, h, _ => by omega
  | k + 1, u, _, h => by
    by_cases h1 : u < 10
    · rw [Lib.nDigits_small h1]; omega
    · rw [Lib.nDigits_big h1]
      have hk : 1 ≤ k := by
        rcases Nat.eq_zero_or_pos k with rfl | h2
        · rw [Nat.zero_add, Nat.pow_one] at h; omega
        · exact h2
      have := ndig_le k (u / 10) hk (by rw [Nat.pow_succ] at h; omega)
      omega
theorem tw_all {P : UInt8 → Bool} : ∀ l : List UInt8, (∀ x ∈ l, P x = true) → tw P l = l.length
  | [], _ => rfl
  | c :: r, h => by
    have ih := tw_all r (fun x hx => h x (List.mem_cons_of_mem _ hx))
    unfold tw at ih ⊢
    rw [List.takeWhile_cons, if_pos (h c List.mem_cons_self), List.length_cons, ih, List.length_cons]
theorem gs_dec (u : Nat) (h : u < 1000000000000000000) : Gs (Lib.decDigits u) 2 u := by
  have hl : (Lib.decDigits u).length ≤ 18 := by rw [Lib.decDigits_length]; exact ndig_le 18 u (by decide) (by simpa using h)
  have hp : 1 ≤ (Lib.decDigits u).length := by rw [Lib.decDigits_length]; exact Lib.nDigits_pos u
  have hd := dec_dig u
  have hn := num_dec u
  generalize Lib.decDigits u = l at hl hp hd hn
  refine ⟨by decide, ?_, ?_⟩
  · cases l with
    | nil => simp at hp
    | cons c r =>
      have hc := hd c List.mem_cons_self
      have e : en (c :: r) = (c :: r).length := by
        simp only [en, List.length_cons]
        rw [tw_all r (fun x hx => by unfold goes; rw [hc, hd x (List.mem_cons_of_mem _ hx)]; decide)]
        omega
      have et : (c :: r).take (en (c :: r)) = c :: r := by rw [e]; exact List.take_length
      simp only [one]
      rw [if_neg (by omega), if_pos hc, if_neg (by rw [e]; omega), et, hn]
      rfl
  · cases l with
    | nil => rfl
    | cons c r =>
      have hc := hd c List.mem_cons_self
      simp only [skp]
      rw [if_neg (by omega), if_neg (by omega)]
theorem dg_pos {n : Int} (h : 0 ≤ n) : dg n = Lib.decDigits n.toNat := by unfold dg Lib.itoa; rw [if_neg (by omega)]
theorem dg_neg {n : Int} (h : n < 0) : dg n = 45 :: dg (-n) := by
  rw [dg_pos (n := -n) (by omega)]
  unfold dg Lib.itoa
  rw [if_pos h, show n.natAbs = (-n).toNat by omega]
theorem gs_num {n : Int} (h : nuB n = true) : Gs (dg n) 2 n := by
  unfold nuB at h
  have h := of_decide_eq_true h
  have := gs_dec n.toNat (by omega)
  rw [dg_pos h.1]
  rwa [show ((n.toNat : Nat) : Int) = n by omega] at this
theorem wk_num {n : Int} (h : nuB n = true) : Wk (dg n) [kN n] := wk_gs (gs_num h) (gs47 (gs_num h) (by decide))
theorem wk_grade {n : Int} (h : grB n = true) : Wk (dg n) (kG n) := by
  unfold grB at h
  have h := of_decide_eq_true h
  unfold kG
  by_cases h0 : n < 0
  · rw [if_pos h0, dg_neg h0]
    have hg := gs_num (n := -n) (by unfold nuB; exact decide_eq_true ⟨by omega, by omega⟩)
    refine ⟨by simp, fun R p hR => ?_⟩
    have hR' : nw R := hR.resolve_left (fun e => by simp at e)
    refine ⟨_, by rw [List.cons_append, tk_sign 45 (by decide), tk_gs hg R (p + 1) hR', pre_pre, List.length_cons, show p + 1 + (dg (-n)).length = p + ((dg (-n)).length + 1) by omega], ?_⟩
    simp [q0, kC, kN]
  · rw [if_neg h0]
    exact wk_num (by unfold nuB; exact decide_eq_true ⟨by omega, by omega⟩)
/-- a word of the grammar -/
theorem wk_word (s : List UInt8) (h : one s 0 = .ok ⟨1, s, 0, 0⟩) (h2 : skp false s = 0) : Wk s [kS s] := wk_gs ⟨by decide, h, h2⟩ (gs47 ⟨by decide, h, h2⟩ (by decide))
end S
end Go.Proofs.YtcdnbdajnagfiaaGreatDoor

namespace Go.Proofs.YtcdnbdajnagfiaaGreatDoor
open Go.RowKit
set_option linter.unusedVariables false
set_option linter.unusedSimpArgs false
set_option maxRecDepth 10000
namespace S
/-- names in a row -/
def nms (d : D) : List (List UInt8) := (fL d).map (fun e => tS (gt e 0))
def lk : List (List UInt8) → List Tok
  | [] => [kC 59]
  | s :: l => kS s :: (l.flatMap (fun x => [kC 44, kS x]) ++ [kC 59])
/-- the words of each thing -/
def headW (ds : List D) : List (List UInt8) := hw (tS (gt ds 0)) (fI (gt ds 1)) (fI (gt ds 2)) (fI (gt ds 3)) (fI (gt ds 4)) (fI (gt ds 5)) (fI (gt ds 6)) (fI (gt ds 7)) (fI (gt ds 8)) (fI (gt ds 9))
def walkW (ds : List D) : List (List UInt8) := [[119, 97, 108, 107], tS (gt ds 0), [119, 105, 116, 104], tS (gt ds 1), [108, 111, 110, 103], dg (fI (gt ds 2)), [112, 97, 99, 101], dg (fI (gt ds 3)), [108, 101, 97, 115, 116], dg (fI (gt ds 4)), [59]]
def foeW (ds : List D) : List (List UInt8) := [[102, 111, 101], tS (gt ds 0), tS (gt ds 1), [59]]
def stopW (ds : List D) : List (List UInt8) := [[115, 116, 111, 112], tS (gt ds 0), [111, 117, 116], tS (gt ds 1), [105, 110], tS (gt ds 2), [97, 104, 101, 97, 100], dg (fI (gt ds 3)), [98, 97, 99, 107], dg (fI (gt ds 4)), [59]]
def phaseW (ds : List D) : List (List UInt8) := [[112, 104, 97, 115, 101], tS (gt ds 0), [58]] ++ lw (nms (gt ds 1))
def ringW (ds : List D) : List (List UInt8) := rw1 (fB (gt ds 0)) (nms (gt ds 1))
def groupW (ds : List D) : List (List UInt8) := [[103, 114, 111, 117, 112], [123]] ++ ((fL (gt ds 0)).flatMap ringW ++ [[125]])
def nodeW (ds : List D) : List (List UInt8) := [[110, 111, 100, 101], tS (gt ds 0), [123]] ++ ((fL (gt ds 1)).flatMap headW ++ ((fL (gt ds 2)).flatMap walkW ++ ((fL (gt ds 3)).flatMap phaseW ++ ((fL (gt ds 4)).flatMap groupW ++ ((fL (gt ds 5)).flatMap foeW ++ [[125]])))))
def artW (ds : List D) : List (List UInt8) := [[97, 114, 116, 101, 114, 121], [123]] ++ ((fL (gt ds 6)).flatMap stopW ++ ([[119, 101, 105, 103, 104, 116, 115], dg (fI (gt ds 7)), dg (fI (gt ds 8)), [59]] ++ [[125]]))
abbrev hasArt (ds : List D) : Prop := 0 < (fL (gt ds 6)).length ∨ fI (gt ds 7) ≠ 0 ∨ fI (gt ds 8) ≠ 0
def netW (ds : List D) : List (List UInt8) := [[99, 121, 99, 108, 101], dg (fI (gt ds 0)), [116, 111], dg (fI (gt ds 1)), [98, 121], dg (fI (gt ds 2)), [59]] ++ ([[112, 101, 97, 107], dg (fI (gt ds 3)), [47], dg (fI (gt ds 4)), [59]] ++ ((fL (gt ds 5)).flatMap nodeW ++ (if hasArt ds then artW ds else [])))
/-- the tokens of each thing, behind the word that it begins with -/
def headK (ds : List D) : List Tok := kS (tS (gt ds 0)) :: kS [118, 111, 108, 117, 109, 101] :: kN (fI (gt ds 1)) :: kS [102, 108, 111, 119] :: kN (fI (gt ds 2)) :: kS [117, 115, 101] :: kN (fI (gt ds 3)) :: kC 47 :: kN (fI (gt ds 4)) :: kS [115, 112, 101, 101, 100] :: kN (fI (gt ds 5)) :: kS [103, 114, 97, 100, 101] :: (kG (fI (gt ds 6)) ++ [kS [119, 105, 100, 116, 104], kN (fI (gt ds 7)), kS [108, 101, 110, 103, 116, 104], kN (fI (gt ds 8)), kS [103, 114, 101, 101, 110], kN (fI (gt ds 9)), kC 59])
def walkK (ds : List D) : List Tok := [kS (tS (gt ds 0)), kS [119, 105, 116, 104], kS (tS (gt ds 1)), kS [108, 111, 110, 103], kN (fI (gt ds 2)), kS [112, 97, 99, 101], kN (fI (gt ds 3)), kS [108, 101, 97, 115, 116], kN (fI (gt ds 4)), kC 59]
def foeK (ds : List D) : List Tok := [kS (tS (gt ds 0)), kS (tS (gt ds 1)), kC 59]
def stopK (ds : List D) : List Tok := [kS (tS (gt ds 0)), kS [111, 117, 116], kS (tS (gt ds 1)), kS [105, 110], kS (tS (gt ds 2)), kS [97, 104, 101, 97, 100], kN (fI (gt ds 3)), kS [98, 97, 99, 107], kN (fI (gt ds 4)), kC 59]
def phaseK (ds : List D) : List Tok := [kS (tS (gt ds 0)), kC 58] ++ lk (nms (gt ds 1))
def ringK (ds : List D) : List Tok := (if fB (gt ds 0) then [kS [102, 114, 101, 101]] else []) ++ lk (nms (gt ds 1))
def groupK (ds : List D) : List Tok := [kC 123] ++ ((fL (gt ds 0)).flatMap (fun d => kS [114, 105, 110, 103] :: ringK d) ++ [kC 125])
def nodeK (ds : List D) : List Tok := [kS (tS (gt ds 0)), kC 123] ++ ((fL (gt ds 1)).flatMap (fun d => kS [104, 101, 97, 100] :: headK d) ++ ((fL (gt ds 2)).flatMap (fun d => kS [119, 97, 108, 107] :: walkK d) ++ ((fL (gt ds 3)).flatMap (fun d => kS [112, 104, 97, 115, 101] :: phaseK d) ++ ((fL (gt ds 4)).flatMap (fun d => kS [103, 114, 111, 117, 112] :: groupK d) ++ ((fL (gt ds 5)).flatMap (fun d => kS [102, 111, 101] :: foeK d) ++ [kC 125])))))
def artK (ds : List D) : List Tok := [kS [97, 114, 116, 101, 114, 121], kC 123] ++ ((fL (gt ds 6)).flatMap (fun d => kS [115, 116, 111, 112] :: stopK d) ++ [kS [119, 101, 105, 103, 104, 116, 115], kN (fI (gt ds 7)), kN (fI (gt ds 8)), kC 59, kC 125])
def netK (ds : List D) : List Tok := [kS [99, 121, 99, 108, 101], kN (fI (gt ds 0)), kS [116, 111], kN (fI (gt ds 1)), kS [98, 121], kN (fI (gt ds 2)), kC 59] ++ ([kS [112, 101, 97, 107], kN (fI (gt ds 3)), kC 47, kN (fI (gt ds 4)), kC 59] ++ ((fL (gt ds 5)).flatMap (fun d => kS [110, 111, 100, 101] :: nodeK d) ++ (if hasArt ds then artK ds else [])))
/-- a row by its places is a row by its things -/
theorem range_flat {α : Type} (W : List D → List α) (L : List (List D)) : (List.range L.length).flatMap (fun k => W (L.getD k [])) = L.flatMap W := by
  have e : (List.range L.length).map (fun k => L.getD k []) = L := by
    apply List.ext_getElem
    · simp
    · intro i h1 h2
      simp only [List.getElem_map, List.getElem_range]
      rw [List.getD_eq_getElem?_getD, List.getElem?_eq_getElem h2, Option.getD_some]
  have : (List.range L.length).flatMap (fun k => W (L.getD k [])) = ((List.range L.length).map (fun k => L.getD k [])).flatMap W := by rw [List.flatMap_map]
  rw [this, e]
theorem range_map {α : Type} (W : List D → α) (L : List (List D)) : (List.range L.length).map (fun k => W (L.getD k [])) = L.map W := by
  apply List.ext_getElem
  · simp
  · intro i h1 h2
    simp only [List.getElem_map, List.getElem_range]
    rw [List.getD_eq_getElem?_getD, List.getElem?_eq_getElem (by simpa using h2), Option.getD_some]
/-- what a row that is right is -/
theorem rowB_all {lo hi : Nat} {B : List D → Bool} {L : List (List D)} (h : rowB lo hi B L = true) : (lo ≤ L.length ∧ L.length ≤ hi) ∧ ∀ ds ∈ L, B ds = true := by
  unfold rowB at h
  simp only [Bool.and_eq_true, decide_eq_true_eq, List.all_eq_true] at h
  exact h
theorem and_l {a b : Bool} (h : (a && b) = true) : a = true := by simp only [Bool.and_eq_true] at h; exact h.1
theorem and_r {a b : Bool} (h : (a && b) = true) : b = true := by simp only [Bool.and_eq_true] at h; exact h.2
theorem nus_cons {a : Int} {l : List Int} (h : nusB (a :: l) = true) : nuB a = true ∧ nusB l = true := by
  unfold nusB at h ⊢
  simp only [List.all_cons, Bool.and_eq_true] at h
  exact h
theorem wk_lw {l : List (List UInt8)} (hl : l ≠ []) (h : ∀ s ∈ l, nmB s = true) : Wks (lw l) (lk l) := by
  cases l with
  | nil => exact absurd rfl hl
  | cons s l =>
    refine .one (wk_name (h s List.mem_cons_self)) (.append (.flat l fun x hx => .one (wk_sign 44 (by decide)) (.one (wk_name (h x (List.mem_cons_of_mem _ hx))) .nil)) (.one (wk_sign 59 (by decide)) .nil))
theorem nms_ok {lo hi : Nat} {d : D} (hlo : 1 ≤ lo) (h : rowB lo hi nameB (fL d) = true) : nms d ≠ [] ∧ (∀ s ∈ nms d, nmB s = true) ∧ (nms d).length ≤ hi := by
  obtain ⟨⟨h1, h2⟩, h3⟩ := rowB_all h
  unfold nms
  refine ⟨?_, ?_, by simpa using h2⟩
  · intro e
    rw [List.map_eq_nil_iff] at e
    rw [e] at h1
    simp at h1
    omega
  · intro s hs
    obtain ⟨x, hx, rfl⟩ := List.mem_map.1 hs
    exact h3 x hx
theorem wk_head {ds : List D} (h : headB ds = true) : Wks (headW ds) (kS [104, 101, 97, 100] :: headK ds) := by
  have n0 := and_l h
  have v6 := and_l (and_r h)
  have hv := and_r (and_r h)
  obtain ⟨v1, hv⟩ := nus_cons hv
  obtain ⟨v2, hv⟩ := nus_cons hv
  obtain ⟨v3, hv⟩ := nus_cons hv
  obtain ⟨v4, hv⟩ := nus_cons hv
  obtain ⟨v5, hv⟩ := nus_cons hv
  obtain ⟨v7, hv⟩ := nus_cons hv
  obtain ⟨v8, hv⟩ := nus_cons hv
  obtain ⟨v9, hv⟩ := nus_cons hv
  exact .one (wk_word [104, 101, 97, 100] rfl rfl) (.one (wk_name n0) (.one (wk_word [118, 111, 108, 117, 109, 101] rfl rfl) (.one (wk_num v1) (.one (wk_word [102, 108, 111, 119] rfl rfl) (.one (wk_num v2) (.one (wk_word [117, 115, 101] rfl rfl) (.one (wk_num v3) (.one (wk_sign 47 (by decide)) (.one (wk_num v4) (.one (wk_word [115, 112, 101, 101, 100] rfl rfl) (.one (wk_num v5) (.one (wk_word [103, 114, 97, 100, 101] rfl rfl) (.cons (wk_grade v6) (.one (wk_word [119, 105, 100, 116, 104] rfl rfl) (.one (wk_num v7) (.one (wk_word [108, 101, 110, 103, 116, 104] rfl rfl) (.one (wk_num v8) (.one (wk_word [103, 114, 101, 101, 110] rfl rfl) (.one (wk_num v9) (.one (wk_sign 59 (by decide)) (.nil)))))))))))))))))))))
theorem wk_walk {ds : List D} (h : walkB ds = true) : Wks (walkW ds) (kS [119, 97, 108, 107] :: walkK ds) := by
  have n0 := and_l h
  have n1 := and_l (and_r h)
  have hv := and_r (and_r h)
  obtain ⟨v2, hv⟩ := nus_cons hv
  obtain ⟨v3, hv⟩ := nus_cons hv
  obtain ⟨v4, hv⟩ := nus_cons hv
  exact .one (wk_word [119, 97, 108, 107] rfl rfl) (.one (wk_name n0) (.one (wk_word [119, 105, 116, 104] rfl rfl) (.one (wk_name n1) (.one (wk_word [108, 111, 110, 103] rfl rfl) (.one (wk_num v2) (.one (wk_word [112, 97, 99, 101] rfl rfl) (.one (wk_num v3) (.one (wk_word [108, 101, 97, 115, 116] rfl rfl) (.one (wk_num v4) (.one (wk_sign 59 (by decide)) (.nil)))))))))))
theorem wk_foe {ds : List D} (h : foeB ds = true) : Wks (foeW ds) (kS [102, 111, 101] :: foeK ds) := by
  have n0 := and_l h
  have n1 := and_r h
  exact .one (wk_word [102, 111, 101] rfl rfl) (.one (wk_name n0) (.one (wk_name n1) (.one (wk_sign 59 (by decide)) (.nil))))
theorem wk_stop {ds : List D} (h : stopB ds = true) : Wks (stopW ds) (kS [115, 116, 111, 112] :: stopK ds) := by
  have n0 := and_l h
  have n1 := and_l (and_r h)
  have n2 := and_l (and_r (and_r h))
  have hv := and_r (and_r (and_r h))
  obtain ⟨v3, hv⟩ := nus_cons hv
  obtain ⟨v4, hv⟩ := nus_cons hv
  exact .one (wk_word [115, 116, 111, 112] rfl rfl) (.one (wk_name n0) (.one (wk_word [111, 117, 116] rfl rfl) (.one (wk_name n1) (.one (wk_word [105, 110] rfl rfl) (.one (wk_name n2) (.one (wk_word [97, 104, 101, 97, 100] rfl rfl) (.one (wk_num v3) (.one (wk_word [98, 97, 99, 107] rfl rfl) (.one (wk_num v4) (.one (wk_sign 59 (by decide)) (.nil)))))))))))
theorem wk_phase {ds : List D} (h : phaseB ds = true) : Wks (phaseW ds) (kS [112, 104, 97, 115, 101] :: phaseK ds) := by
  have n0 := and_l h
  obtain ⟨h1, h2, _⟩ := nms_ok (by decide) (and_r h)
  exact .one (wk_word [112, 104, 97, 115, 101] rfl rfl) (.append (.one (wk_name n0) (.one (wk_sign 58 (by decide)) .nil)) (wk_lw h1 h2))
theorem wk_ring {ds : List D} (h : ringB ds = true) : Wks (ringW ds) (kS [114, 105, 110, 103] :: ringK ds) := by
  obtain ⟨h1, h2, _⟩ := nms_ok (by decide) h
  show Wks ([114, 105, 110, 103] :: ((if fB (gt ds 0) then [[102, 114, 101, 101]] else []) ++ lw (nms (gt ds 1)))) (kS [114, 105, 110, 103] :: ((if fB (gt ds 0) then [kS [102, 114, 101, 101]] else []) ++ lk (nms (gt ds 1))))
  refine .one (wk_word [114, 105, 110, 103] rfl rfl) (.append ?_ (wk_lw h1 h2))
  cases fB (gt ds 0)
  · exact .nil
  · exact .one (wk_word [102, 114, 101, 101] rfl rfl) .nil
theorem wk_group {ds : List D} (h : groupB ds = true) : Wks (groupW ds) (kS [103, 114, 111, 117, 112] :: groupK ds) := by
  obtain ⟨_, h3⟩ := rowB_all h
  exact .one (wk_word [103, 114, 111, 117, 112] rfl rfl) (.append (.one (wk_sign 123 (by decide)) .nil) (.append (.flat _ fun x hx => wk_ring (h3 x hx)) (.one (wk_sign 125 (by decide)) .nil)))
theorem wk_node {ds : List D} (h : nodeB ds = true) : Wks (nodeW ds) (kS [110, 111, 100, 101] :: nodeK ds) := by
  have n0 := and_l h
  obtain ⟨_, h1⟩ := rowB_all (and_l (and_r h))
  obtain ⟨_, h2⟩ := rowB_all (and_l (and_r (and_r h)))
  obtain ⟨_, h3⟩ := rowB_all (and_l (and_r (and_r (and_r h))))
  obtain ⟨_, h4⟩ := rowB_all (and_l (and_r (and_r (and_r (and_r h)))))
  obtain ⟨_, h5⟩ := rowB_all (and_r (and_r (and_r (and_r (and_r h)))))
  exact .one (wk_word [110, 111, 100, 101] rfl rfl) (.append (.one (wk_name n0) (.one (wk_sign 123 (by decide)) .nil)) (.append (.flat _ fun x hx => wk_head (h1 x hx)) (.append (.flat _ fun x hx => wk_walk (h2 x hx)) (.append (.flat _ fun x hx => wk_phase (h3 x hx)) (.append (.flat _ fun x hx => wk_group (h4 x hx)) (.append (.flat _ fun x hx => wk_foe (h5 x hx)) (.one (wk_sign 125 (by decide)) .nil)))))))
theorem wk_net {ds : List D} (h : netB ds = true) : Wks (netW ds) (netK ds) := by
  have hv := and_l h
  obtain ⟨v0, hv⟩ := nus_cons hv
  obtain ⟨v1, hv⟩ := nus_cons hv
  obtain ⟨v2, hv⟩ := nus_cons hv
  obtain ⟨v3, hv⟩ := nus_cons hv
  obtain ⟨v4, hv⟩ := nus_cons hv
  obtain ⟨v7, hv⟩ := nus_cons hv
  obtain ⟨v8, hv⟩ := nus_cons hv
  obtain ⟨_, h5⟩ := rowB_all (and_l (and_r h))
  obtain ⟨_, h6⟩ := rowB_all (and_r (and_r h))
  unfold netW netK
  refine .append (.one (wk_word [99, 121, 99, 108, 101] rfl rfl) (.one (wk_num v0) (.one (wk_word [116, 111] rfl rfl) (.one (wk_num v1) (.one (wk_word [98, 121] rfl rfl) (.one (wk_num v2) (.one (wk_sign 59 (by decide)) (.nil)))))))) (.append (.one (wk_word [112, 101, 97, 107] rfl rfl) (.one (wk_num v3) (.one (wk_sign 47 (by decide)) (.one (wk_num v4) (.one (wk_sign 59 (by decide)) (.nil)))))) (.append (.flat _ fun x hx => wk_node (h5 x hx)) ?_))
  split
  · unfold artW artK
    exact .append (.one (wk_word [97, 114, 116, 101, 114, 121] rfl rfl) (.one (wk_sign 123 (by decide)) .nil)) (.append (.flat _ fun x hx => wk_stop (h6 x hx)) (.one (wk_word [119, 101, 105, 103, 104, 116, 115] rfl rfl) (.one (wk_num v7) (.one (wk_num v8) (.one (wk_sign 59 (by decide)) (.one (wk_sign 125 (by decide)) (.nil)))))))
  · exact .nil
/-- a network's text -/
def txt (ds : List D) : List UInt8 := rst 0 [] (netW ds)
theorem tk_txt {ds : List D} (h : netB ds = true) : ∃ (L : List Tok) (e : Int), tk (txt ds) 0 = .ok (L ++ [⟨0, [], 0, e⟩]) ∧ L.map q0 = netK ds := tk_rst _ _ (wk_net h) 0 [] 0
end S
end Go.Proofs.YtcdnbdajnagfiaaGreatDoor
