/- Package show: Show of any network. -/
import Derived.Test.YtcdnbdajnagfiaaGreatDoorSShow
import Derived.Test.YtcdnbdajnagfiaaGreatDoorSNc
import Derived.Test.YtcdnbdajnagfiaaGreatDoorSBack
namespace Go.Proofs.YtcdnbdajnagfiaaGreatDoor
open Go.RowKit
attribute [local go_sem ↓] Go.wp_at_zero Go.wp_at_succ
set_option linter.unusedVariables false
set_option linter.unusedSimpArgs false
set_option maxRecDepth 100000
namespace S
/-- what Show leaves -/
def ShP (l : List UInt8) (w : World) (e : Ending) (w' : World) : Prop := ∃ v, e = .returned (.tuple #[v, .int .i64 0]) ∧ By w' v l ∧ Keep w w'
theorem txt_ne (ds : List D) : txt ds ≠ [] := by simp [txt, netW, rst]
theorem show_any {w : World} {ds : List D} {us : List Value} (hs : ShL netT ds) (hB : netB ds = true) (hr : Rvs w ds us) (ht : Tab w) : Calls Tryz.prog 8 #[.agg us.toArray] w (ShP (txt ds) w) := by
  have hs' := hs
  have hr' := hr
  obtain ⟨op, la, hT2⟩ : ∃ op la, ∀ w' p, Keep w w' → w.heap.size ≤ p → Ps w' p ⟨[], 0, []⟩ → Calls Tryz.prog 17 #[.pointer (some ⟨p, 0, none⟩), .agg us.toArray] w' fun e w'' => e = .returned (.tuple #[]) ∧ Pr w'' p (txt ds) op la ∧ Fb p w' w'' := by
    refine ⟨(pss ⟨[], 0, []⟩ (netW ds)).op, sv (pss ⟨[], 0, []⟩ (netW ds)).la, fun w' p hk hp h => ?_⟩
    have := net_any (nc (p := p) (Nat.lt_of_lt_of_le ht.lt hp)) hp (Fb.keep hk) hs' hB hr' ⟨[], 0, []⟩ (ht.keep hk) h (net_oks hB) (by have := cost_net hB; simp; omega)
    refine this.mono ?_
    rintro e w'' ⟨rfl, h1, h2⟩
    refine ⟨rfl, ?_, h2⟩
    rw [← txt_out]
    exact h1
  have hT1 : ∀ w', Keep w w' → Calls Tryz.prog 10 #[.agg us.toArray] w' fun e w'' => e = .returned (.bool true) ∧ Keep w' w'' := fun w' hk => by
    have := Right_any (w := w') hs' (Rvs.keep hk _ _ hr')
    rw [hB] at this
    exact this
  have hl := txt_len hB
  have hne := txt_ne ds
  generalize txt ds = out at *
  simp only [ShL, Sh1, netT] at hs
  obtain ⟨_, _, rfl, ⟨v0, rfl, _, _⟩, ⟨_, _, rfl, ⟨v1, rfl, _, _⟩, ⟨_, _, rfl, ⟨v2, rfl, _, _⟩, ⟨_, _, rfl, ⟨v3, rfl, _, _⟩, ⟨_, _, rfl, ⟨v4, rfl, _, _⟩, ⟨_, _, rfl, ⟨L5, rfl, _, q5⟩, ⟨_, _, rfl, ⟨L6, rfl, _, q6⟩, ⟨_, _, rfl, ⟨v7, rfl, _, _⟩, ⟨_, _, rfl, ⟨v8, rfl, _, _⟩, rfl⟩⟩⟩⟩⟩⟩⟩⟩⟩ := hs
  simp only [Rvs, Rv, dS, dI, dB] at hr
  obtain ⟨_, _, rfl, rfl, ⟨_, _, rfl, rfl, ⟨_, _, rfl, rfl, ⟨_, _, rfl, rfl, ⟨_, _, rfl, rfl, ⟨_, _, rfl, ⟨x5, z5, rfl, y5, m5⟩, ⟨_, _, rfl, ⟨x6, z6, rfl, y6, m6⟩, ⟨_, _, rfl, rfl, ⟨_, _, rfl, rfl, rfl⟩⟩⟩⟩⟩⟩⟩⟩⟩ := hr
  exact show_yes v0 v1 v2 v3 v4 x5 L5.length z5 x6 L6.length z6 v7 v8 out op la w hne (by omega) (hide hT1) (hide hT2)
theorem show_bad {w : World} {ds : List D} {us : List Value} (hs : ShL netT ds) (hB : netB ds = false) (hr : Rvs w ds us) : Calls Tryz.prog 8 #[.agg us.toArray] w fun e w' => e = .returned (.tuple #[.slice none 0 0, .int .i64 1]) ∧ Keep w w' := by
  have hs' := hs
  have hr' := hr
  simp only [ShL, Sh1, netT] at hs
  obtain ⟨_, _, rfl, ⟨v0, rfl, _, _⟩, ⟨_, _, rfl, ⟨v1, rfl, _, _⟩, ⟨_, _, rfl, ⟨v2, rfl, _, _⟩, ⟨_, _, rfl, ⟨v3, rfl, _, _⟩, ⟨_, _, rfl, ⟨v4, rfl, _, _⟩, ⟨_, _, rfl, ⟨L5, rfl, _, q5⟩, ⟨_, _, rfl, ⟨L6, rfl, _, q6⟩, ⟨_, _, rfl, ⟨v7, rfl, _, _⟩, ⟨_, _, rfl, ⟨v8, rfl, _, _⟩, rfl⟩⟩⟩⟩⟩⟩⟩⟩⟩ := hs
  simp only [Rvs, Rv, dS, dI, dB] at hr
  obtain ⟨_, _, rfl, rfl, ⟨_, _, rfl, rfl, ⟨_, _, rfl, rfl, ⟨_, _, rfl, rfl, ⟨_, _, rfl, rfl, ⟨_, _, rfl, ⟨x5, z5, rfl, y5, m5⟩, ⟨_, _, rfl, ⟨x6, z6, rfl, y6, m6⟩, ⟨_, _, rfl, rfl, ⟨_, _, rfl, rfl, rfl⟩⟩⟩⟩⟩⟩⟩⟩⟩ := hr
  refine show_no v0 v1 v2 v3 v4 x5 L5.length z5 x6 L6.length z6 v7 v8 w (hide fun w' hk => ?_)
  have := Right_any (w := w') hs' (Rvs.keep hk _ _ hr')
  rw [hB] at this
  exact this
end S
end Go.Proofs.YtcdnbdajnagfiaaGreatDoor

namespace Go.Proofs.YtcdnbdajnagfiaaGreatDoor
open Go.RowKit
set_option linter.unusedVariables false
set_option linter.unusedSimpArgs false
set_option maxRecDepth 10000
namespace S
/-- a token of a text: a word is right, a number and the place fit -/
def Tg (t : Tok) : Prop := (t.k = 1 → rg ⟨1, t.s, 0, 0⟩ = true) ∧ (0 ≤ t.n ∧ t.n ≤ 999999999999999999) ∧ (0 ≤ t.p ∧ t.p ≤ 70000)
theorem gs_rg {s : List UInt8} (h : Gs s 1 0) (hl : s.length ≤ 65536) : rg ⟨1, s, 0, 0⟩ = true := by
  have h1 := tk_gs h [] 0 nw_nil
  rw [List.append_nil, tk_nil] at h1
  have hT : T s = .ok [⟨1, s, 0, 0⟩, ⟨0, [], 0, ((0 + s.length : Nat) : Int)⟩] := by
    unfold T
    rw [if_neg (by omega), h1]
    rfl
  rw [rg_ok (t := ⟨1, s, 0, 0⟩) hT]
  simp
theorem tw_takes (P : UInt8 → Bool) : ∀ r : List UInt8, tw P (r.take (tw P r)) = tw P r
  | [] => rfl
  | c :: r => by
    have ih := tw_takes P r
    unfold tw at ih ⊢
    rw [List.takeWhile_cons]
    by_cases h : P c = true
    · rw [if_pos h, List.length_cons, List.take_succ_cons, List.takeWhile_cons, if_pos h, List.length_cons, ih]
    · rw [if_neg h]; simp
theorem one_word {r : List UInt8} {p : Nat} {t : Tok} (h : one r p = .ok t) (hk : t.k = 1) : Gs t.s 1 0 ∧ t.s.length ≤ 24 := by
  cases r with
  | nil => simp only [one, Except.ok.injEq] at h; subst h; simp at hk
  | cons c r =>
    have h0 := one_ok h
    simp only [one] at h
    split at h
    · rename_i h4
      split at h
      · cases h
      · rename_i h24
        simp only [Except.ok.injEq] at h
        subst h
        have et : (c :: r).take (en (c :: r)) = c :: r.take (tw (goes c) r) := by
          simp only [en]
          rw [Nat.add_comm, List.take_succ_cons]
        have hl : ((c :: r).take (en (c :: r))).length ≤ 24 := by rw [List.length_take]; omega
        simp only at hl ⊢
        rw [et] at hl ⊢
        have en2 : en (c :: r.take (tw (goes c) r)) = (c :: r.take (tw (goes c) r)).length := by
          simp only [en]
          rw [tw_takes, List.length_cons, List.length_take]
          have := tw_le (goes c) r
          omega
        refine ⟨⟨by decide, ?_, ?_⟩, hl⟩
        · simp only [one]
          rw [if_pos h4, if_neg (by rw [en2]; omega), en2, List.take_length]
          rfl
        · simp only [skp]
          rw [if_neg (by omega), if_neg (by omega)]
    · split at h
      · split at h
        · cases h
        · simp only [Except.ok.injEq] at h; subst h; simp at hk
      · split at h
        · simp only [Except.ok.injEq] at h; subst h; simp at hk
        · cases h
theorem num_bd : ∀ (l : List UInt8) (v : Int), (∀ c ∈ l, kd c.toNat = 5) → 0 ≤ v → 0 ≤ l.foldl (fun v c => v * 10 + ((c.toNat : Int) - 48)) v ∧ l.foldl (fun v c => v * 10 + ((c.toNat : Int) - 48)) v < (v + 1) * (10 : Int) ^ l.length
  | [], v, _, hv => by simp only [List.foldl_nil, List.length_nil, Int.pow_zero, Int.mul_one]; omega
  | c :: l, v, h, hv => by
    have hc := (kd_5 _).1 (h c List.mem_cons_self)
    have ih := num_bd l (v * 10 + ((c.toNat : Int) - 48)) (fun x hx => h x (List.mem_cons_of_mem _ hx)) (by omega)
    rw [List.foldl_cons]
    refine ⟨ih.1, Int.lt_of_lt_of_le ih.2 ?_⟩
    rw [List.length_cons, Int.pow_succ, Int.mul_comm ((10 : Int) ^ l.length) 10, ← Int.mul_assoc]
    refine Int.mul_le_mul_of_nonneg_right (by omega) ?_
    exact Int.le_of_lt (Int.pow_pos (by decide))
theorem tw_mem {P : UInt8 → Bool} : ∀ (r : List UInt8) (x : UInt8), x ∈ r.take (tw P r) → P x = true
  | [], x, h => by simp at h
  | c :: r, x, h => by
    unfold tw at h
    rw [List.takeWhile_cons] at h
    by_cases hc : P c = true
    · rw [if_pos hc, List.length_cons, List.take_succ_cons] at h
      rcases List.mem_cons.1 h with rfl | h
      · exact hc
      · exact tw_mem r x h
    · rw [if_neg hc] at h; simp at h
theorem one_bd {r : List UInt8} {p : Nat} {t : Tok} (h : one r p = .ok t) : 0 ≤ t.n ∧ t.n ≤ 999999999999999999 := by
  cases r with
  | nil => simp only [one, Except.ok.injEq] at h; subst h; simp
  | cons c r =>
    simp only [one] at h
    split at h
    · split at h
      · cases h
      · simp only [Except.ok.injEq] at h; subst h; simp
    · split at h
      · rename_i h4 h5
        split at h
        · cases h
        · rename_i h18
          simp only [Except.ok.injEq] at h
          subst h
          have et : (c :: r).take (en (c :: r)) = c :: r.take (tw (goes c) r) := by
            simp only [en]
            rw [Nat.add_comm, List.take_succ_cons]
          have hl : ((c :: r).take (en (c :: r))).length ≤ 18 := by rw [List.length_take]; omega
          have hall : ∀ x ∈ (c :: r).take (en (c :: r)), kd x.toNat = 5 := by
            intro x hx
            rw [et] at hx
            rcases List.mem_cons.1 hx with rfl | hx
            · exact h5
            · have := tw_mem r x hx
              unfold goes at this
              rw [on_iff] at this
              omega
          have hb := num_bd _ 0 hall (Int.le_refl 0)
          simp only
          unfold num
          refine ⟨hb.1, ?_⟩
          have h2 : ((10 : Int) ^ ((c :: r).take (en (c :: r))).length) ≤ 10 ^ 18 := by
            have := Nat.pow_le_pow_right (show 0 < 10 by decide) hl
            exact_mod_cast this
          have := hb.2
          rw [Int.zero_add, Int.one_mul] at this
          omega
      · split at h
        · simp only [Except.ok.injEq] at h; subst h; simp
        · cases h
theorem tk_tg : ∀ (n : Nat) (r : List UInt8) (p : Nat) (L : List Tok), r.length ≤ n → p + r.length ≤ 70000 → tk r p = .ok L → ∀ t ∈ L, Tg t
  | n, r, p, L, hn, hp, h => by
    rcases tk_cons h with ⟨rfl, _⟩ | ⟨t, M, rfl, h1, h2, h3, _, h5, h6, h7⟩
    · intro t ht
      simp only [List.mem_singleton] at ht
      subst ht
      exact ⟨by simp, by simp, by simp; omega⟩
    · cases n with
      | zero => omega
      | succ n =>
        intro u hu
        rcases List.mem_cons.1 hu with rfl | hu
        · refine ⟨fun hk => ?_, one_bd h1, ?_⟩
          · have := one_word h1 hk
            exact gs_rg this.1 (by omega)
          · have := (one_ok h1).1
            rw [this]
            omega
        · exact tk_tg n _ _ M (by rw [List.length_drop]; omega) (by rw [List.length_drop]; omega) h7 u hu
/-- a step over tokens of a text: what it reads is so, and what is left are tokens of a text -/
def RgC (p : Sp) (Q : List D → Prop) : Prop := ∀ c r c' r', (∀ t ∈ r, Tg t) → p c r = .ok (c', r') → (∀ t ∈ r', Tg t) ∧ ∃ d, c' = c ++ d ∧ Q d
theorem tl_tg {t : Tok} {r : List Tok} (h : ∀ x ∈ t :: r, Tg x) : Tg t ∧ ∀ x ∈ r, Tg x := ⟨h t List.mem_cons_self, fun x hx => h x (List.mem_cons_of_mem _ hx)⟩
theorem r_the (s : List UInt8) : RgC (pThe s) (fun d => d = []) := fun c r c' r' hr h => by
  obtain ⟨e, t, rfl⟩ := the_inv h
  exact ⟨(tl_tg hr).2, [], by simp [e], rfl⟩
theorem r_name : RgC pName (fun d => ∃ s, d = [dS s] ∧ nmB s = true ∧ s.length ≤ 24) := fun c r c' r' hr h => by
  cases r with
  | nil => simp [pName, bad] at h
  | cons t r =>
    simp only [pName] at h
    split at h
    · rename_i hk
      simp only [Except.ok.injEq, Prod.mk.injEq] at h
      obtain ⟨rfl, rfl⟩ := h
      have hg := (tl_tg hr).1.1 hk.1
      have hB : nmB t.s = true := by unfold nmB; rw [hg]; simp [hk.2]
      exact ⟨(tl_tg hr).2, _, rfl, t.s, rfl, hB, name_len hB⟩
    · exact absurd h bad_ne
theorem r_num : RgC pNum (fun d => ∃ n, d = [dI n] ∧ nuB n = true) := fun c r c' r' hr h => by
  obtain ⟨t, e, rfl⟩ := num_inv h
  have := (tl_tg hr).1.2.1
  exact ⟨(tl_tg hr).2, _, e, t.n, rfl, by unfold nuB; exact decide_eq_true this⟩
theorem r_pos : RgC pPos (fun d => ∃ n, d = [dI n] ∧ 0 ≤ n ∧ n ≤ 70000) := fun c r c' r' hr h => by
  cases r with
  | nil => simp [pPos, bad] at h
  | cons t r =>
    simp only [pPos, Except.ok.injEq, Prod.mk.injEq] at h
    obtain ⟨rfl, rfl⟩ := h
    exact ⟨hr, _, rfl, t.p, rfl, (tl_tg hr).1.2.2⟩
theorem r_end : RgC pEnd (fun d => d = []) := fun c r c' r' hr h => by
  cases r with
  | nil => simp [pEnd, bad] at h
  | cons t r =>
    simp only [pEnd] at h
    split at h
    · simp only [Except.ok.injEq, Prod.mk.injEq] at h
      obtain ⟨rfl, rfl⟩ := h
      exact ⟨hr, [], by simp, rfl⟩
    · exact absurd h bad_ne
theorem r_may (s : List UInt8) : RgC (pMay s) (fun d => ∃ b, d = [dB b]) := fun c r c' r' hr h => by
  cases r with
  | nil => simp [pMay, bad] at h
  | cons t r =>
    simp only [pMay] at h
    split at h
    · simp only [Except.ok.injEq, Prod.mk.injEq] at h
      obtain ⟨rfl, rfl⟩ := h
      exact ⟨(tl_tg hr).2, _, rfl, _, rfl⟩
    · simp only [Except.ok.injEq, Prod.mk.injEq] at h
      obtain ⟨rfl, rfl⟩ := h
      exact ⟨hr, _, rfl, _, rfl⟩
theorem r_nil : RgC (sq []) (fun d => d = []) := fun c r c' r' hr h => by
  have := sq_end h
  simp only [Prod.mk.injEq] at this
  obtain ⟨rfl, rfl⟩ := this
  exact ⟨hr, [], by simp, rfl⟩
theorem r_cons {p : Sp} {ps : List Sp} {Q R : List D → Prop} (hp : RgC p Q) (h2 : RgC (sq ps) R) : RgC (sq (p :: ps)) (fun d => ∃ d1 d2, d = d1 ++ d2 ∧ Q d1 ∧ R d2) := fun c r c' r' hr h => by
  obtain ⟨c1, r1, k1, k2⟩ := sq_inv h
  obtain ⟨hr1, d1, rfl, q1⟩ := hp _ _ _ _ hr k1
  obtain ⟨hr2, d2, e, q2⟩ := h2 _ _ _ _ hr1 k2
  exact ⟨hr2, d1 ++ d2, by rw [e, List.append_assoc], d1, d2, rfl, q1, q2⟩
theorem r_frac : RgC pFrac (fun d => ∃ a b, d = [dI a, dI b] ∧ nuB a = true ∧ nuB b = true) := fun c r c' r' hr h => by
  obtain ⟨hr', d, e, d1, d2, rfl, ⟨a, rfl, ha⟩, d3, d4, rfl, rfl, d5, d6, rfl, ⟨b, rfl, hb⟩, rfl⟩ := r_cons r_num (r_cons (r_the _) (r_cons r_num r_nil)) c r c' r' hr h
  exact ⟨hr', _, e, a, b, rfl, ha, hb⟩
theorem r_grade : RgC pGrade (fun d => ∃ n, d = [dI n] ∧ grB n = true) := fun c r c' r' hr h => by
  simp only [pGrade] at h
  split at h
  · cases h
  · rename_i b n r1 h1
    simp only [Except.ok.injEq, Prod.mk.injEq] at h
    obtain ⟨rfl, rfl⟩ := h
    obtain ⟨hr', d, e, d1, d2, rfl, ⟨b', rfl⟩, d3, d4, rfl, ⟨m, rfl, hm⟩, rfl⟩ := r_cons (r_may _) (r_cons r_num r_nil) [] r _ _ hr h1
    simp only [List.nil_append, List.append_nil, List.cons_append, List.cons.injEq, dI, dB, D.val.injEq, Value.int.injEq, true_and, and_true] at e
    obtain ⟨_, rfl⟩ := e
    refine ⟨hr', _, rfl, _, rfl, ?_⟩
    unfold nuB at hm
    have := of_decide_eq_true hm
    unfold grB
    refine decide_eq_true ?_
    split <;> omega
  · cases h
theorem nmz_r (most : Nat) : ∀ (f : Nat) (L : List (List D)) (r : List Tok) (L' : List (List D)) (r' : List Tok), (∀ t ∈ r, Tg t) → (∀ x ∈ L, ∃ s, x = [dS s] ∧ nmB s = true ∧ s.length ≤ 24) → nmz most f L r = .ok (L', r') → (∀ t ∈ r', Tg t) ∧ ∀ x ∈ L', ∃ s, x = [dS s] ∧ nmB s = true ∧ s.length ≤ 24
  | 0, _, _, _, _, _, _, h => by simp [nmz] at h
  | f + 1, L, r, L', r', hr, hL, h => by
    simp only [nmz] at h
    split at h
    · cases h
    · rename_i d r1 h1
      obtain ⟨hr1, d', e, s, rfl, hB, hs⟩ := r_name _ _ _ _ hr h1
      have hd : ∀ x ∈ L ++ [d], ∃ s, x = [dS s] ∧ nmB s = true ∧ s.length ≤ 24 := fun x hx => by
        rcases List.mem_append.1 hx with hx | hx
        · exact hL x hx
        · simp only [List.mem_singleton] at hx; subst hx; exact ⟨s, by simpa using e, hB, hs⟩
      split at h
      · split at h <;> cases h
      · split at h
        · rename_i r2 h2
          exact nmz_r most f _ _ _ _ (r_may _ _ _ _ _ hr1 h2).1 hd h
        · rename_i r2 _ h2
          simp only [Except.ok.injEq, Prod.mk.injEq] at h
          obtain ⟨rfl, rfl⟩ := h
          exact ⟨(r_may _ _ _ _ _ hr1 h2).1, hd⟩
        · cases h
/-- names in a row that are right -/
def NmR (most : Nat) (L : List (List D)) : Prop := rowB 1 most nameB L = true ∧ ∀ x ∈ L, ShL nameT x
theorem nm_sh {x : List D} (h : ∃ s, x = [dS s] ∧ nmB s = true ∧ s.length ≤ 24) : nameB x = true ∧ ShL nameT x := by
  obtain ⟨s, rfl, h1, h2⟩ := h
  refine ⟨h1, ?_⟩
  simp only [ShL, Sh1, nameT]
  exact ⟨_, _, rfl, ⟨s, rfl, by unfold maxLen; omega⟩, rfl⟩
theorem r_names (e most : Nat) : RgC (pNames e most) (fun d => ∃ L, d = [.row e 1 L] ∧ NmR most L ∧ L.length ≤ most) := fun c r c' r' hr h => by
  obtain ⟨L, e1, e2, e3⟩ := names_inv h
  simp only [pNames] at h
  split at h
  · cases h
  · rename_i L2 r1 h1
    simp only [Except.ok.injEq, Prod.mk.injEq] at h
    have : L2 = L := by have := h.1; rw [e1] at this; simpa using this
    subst this
    obtain ⟨hr1, hL⟩ := nmz_r most _ _ _ _ _ hr (fun x hx => by cases hx) h1
    rw [h.2] at hr1
    refine ⟨hr1, _, e1, L2, rfl, ⟨?_, fun x hx => (nm_sh (hL x hx)).2⟩, e3⟩
    unfold rowB
    rw [decide_eq_true ⟨e2, e3⟩, Bool.true_and, List.all_eq_true]
    exact fun x hx => (nm_sh (hL x hx)).1
/-- a body over tokens of a text -/
def RgB (body : List Tok → Rs) (Q : List D → Prop) : Prop := ∀ r d r', (∀ t ∈ r, Tg t) → body r = .ok (d, r') → (∀ t ∈ r', Tg t) ∧ Q d
theorem rwz_r (word : List UInt8) (most : Nat) (body : List Tok → Rs) (Q : List D → Prop) (hQ : RgB body Q) : ∀ (f : Nat) (L : List (List D)) (r : List Tok) (L' : List (List D)) (r' : List Tok), (∀ t ∈ r, Tg t) → L.length ≤ most → (∀ d ∈ L, Q d) → rwz word most body f L r = .ok (L', r') → (∀ t ∈ r', Tg t) ∧ L'.length ≤ most ∧ ∀ d ∈ L', Q d
  | 0, _, _, _, _, _, _, _, h => by simp [rwz] at h
  | f + 1, L, r, L', r', hr, hl, hL, h => by
    cases r with
    | nil => simp [rwz] at h
    | cons t r =>
      simp only [rwz] at h
      split at h
      · split at h
        · cases h
        · rename_i hne
          split at h
          · cases h
          · rename_i d r1 h1
            obtain ⟨hr1, hd⟩ := hQ _ _ _ (tl_tg hr).2 h1
            refine rwz_r word most body Q hQ f _ _ _ _ hr1 (by simp; omega) (fun x hx => ?_) h
            rcases List.mem_append.1 hx with hx | hx
            · exact hL x hx
            · simp only [List.mem_singleton] at hx; subst hx; exact hd
      · simp only [Except.ok.injEq, Prod.mk.injEq] at h
        obtain ⟨rfl, rfl⟩ := h
        exact ⟨hr, hl, hL⟩
theorem r_row {word : List UInt8} {most e z : Nat} {body : List Tok → Rs} {Q : List D → Prop} (hQ : RgB body Q) : RgC (pRow word most e z body) (fun d => ∃ L, d = [.row e z L] ∧ L.length ≤ most ∧ ∀ y ∈ L, Q y) := fun c r c' r' hr h => by
  simp only [pRow] at h
  split at h
  · cases h
  · rename_i L r1 h1
    simp only [Except.ok.injEq, Prod.mk.injEq] at h
    obtain ⟨rfl, rfl⟩ := h
    obtain ⟨k1, k2, k3⟩ := rwz_r word most body Q hQ _ _ _ _ _ hr (Nat.zero_le _) (fun d hd => by cases hd) h1
    exact ⟨k1, _, rfl, L, rfl, k2, k3⟩
theorem rowB_of {lo hi : Nat} {B : List D → Bool} {L : List (List D)} (h1 : lo ≤ L.length) (h2 : L.length ≤ hi) (h : ∀ x ∈ L, B x = true) : rowB lo hi B L = true := by
  unfold rowB
  rw [decide_eq_true ⟨h1, h2⟩, Bool.true_and, List.all_eq_true]
  exact h
theorem nu_bd0 {n : Int} (h : nuB n = true) : 0 ≤ n ∧ n ≤ 999999999999999999 := by unfold nuB at h; exact of_decide_eq_true h
theorem gr_i {n : Int} (h : grB n = true) : -9223372036854775808 ≤ n ∧ n ≤ 9223372036854775807 := by unfold grB at h; have := of_decide_eq_true h; omega
theorem nu_i {n : Int} (h : nuB n = true) : -9223372036854775808 ≤ n ∧ n ≤ 9223372036854775807 := by have := nu_bd0 h; omega
end S
end Go.Proofs.YtcdnbdajnagfiaaGreatDoor

namespace Go.Proofs.YtcdnbdajnagfiaaGreatDoor
open Go.RowKit
set_option linter.unusedVariables false
set_option linter.unusedSimpArgs false
set_option maxRecDepth 10000
namespace S
theorem fI_dI (n : Int) : fI (dI n) = n := rfl
theorem fL_row (e z : Nat) (L : List (List D)) : fL (.row e z L) = L := rfl
theorem rd_head : RgB pHead (fun d => ShL headT d ∧ headB d = true) := fun r d r' hr h => by
  obtain ⟨c1, h1, rfl⟩ := rotd_inv h
  obtain ⟨hr2, dd, e, x0, y0, rfl, ⟨p0, rfl, hp0, hp1⟩, x1, y1, rfl, ⟨s0, rfl, n0, m0⟩, x2, y2, rfl, rfl, x3, y3, rfl, ⟨u1, rfl, v1⟩, x4, y4, rfl, rfl, x5, y5, rfl, ⟨u2, rfl, v2⟩, x6, y6, rfl, rfl, x7, y7, rfl, ⟨u3, u4, rfl, v3, v4⟩, x8, y8, rfl, rfl, x9, y9, rfl, ⟨u5, rfl, v5⟩, x10, y10, rfl, rfl, x11, y11, rfl, ⟨u6, rfl, v6⟩, x12, y12, rfl, rfl, x13, y13, rfl, ⟨u7, rfl, v7⟩, x14, y14, rfl, rfl, x15, y15, rfl, ⟨u8, rfl, v8⟩, x16, y16, rfl, rfl, x17, y17, rfl, ⟨u9, rfl, v9⟩, x18, y18, rfl, rfl, rfl⟩ := (r_cons r_pos (r_cons r_name (r_cons (r_the _) (r_cons r_num (r_cons (r_the _) (r_cons r_num (r_cons (r_the _) (r_cons r_frac (r_cons (r_the _) (r_cons r_num (r_cons (r_the _) (r_cons r_grade (r_cons (r_the _) (r_cons r_num (r_cons (r_the _) (r_cons r_num (r_cons (r_the _) (r_cons r_num (r_cons (r_the _) r_nil))))))))))))))))))) [] r _ _ hr h1
  simp only [List.nil_append, List.cons_append, List.append_nil] at e
  subst e
  refine ⟨hr2, ?_, ?_⟩
  · simp only [rot, List.cons_append, List.nil_append, ShL, Sh1, headT]
    exact ⟨_, _, rfl, ⟨_, rfl, by unfold maxLen; omega⟩, ⟨_, _, rfl, ⟨_, rfl, (nu_i v1).1, (nu_i v1).2⟩, ⟨_, _, rfl, ⟨_, rfl, (nu_i v2).1, (nu_i v2).2⟩, ⟨_, _, rfl, ⟨_, rfl, (nu_i v3).1, (nu_i v3).2⟩, ⟨_, _, rfl, ⟨_, rfl, (nu_i v4).1, (nu_i v4).2⟩, ⟨_, _, rfl, ⟨_, rfl, (nu_i v5).1, (nu_i v5).2⟩, ⟨_, _, rfl, ⟨_, rfl, (gr_i v6).1, (gr_i v6).2⟩, ⟨_, _, rfl, ⟨_, rfl, (nu_i v7).1, (nu_i v7).2⟩, ⟨_, _, rfl, ⟨_, rfl, (nu_i v8).1, (nu_i v8).2⟩, ⟨_, _, rfl, ⟨_, rfl, (nu_i v9).1, (nu_i v9).2⟩, ⟨_, _, rfl, ⟨_, rfl, ((show -9223372036854775808 ≤ p0 ∧ p0 ≤ 9223372036854775807 by omega)).1, ((show -9223372036854775808 ≤ p0 ∧ p0 ≤ 9223372036854775807 by omega)).2⟩, rfl⟩⟩⟩⟩⟩⟩⟩⟩⟩⟩⟩
  · simp [rot, headB, nusB, gt, tS_dS, fI_dI, n0, v1, v2, v3, v4, v5, v6, v7, v8, v9]
theorem rd_walk : RgB pWalk (fun d => ShL pedT d ∧ walkB d = true) := fun r d r' hr h => by
  obtain ⟨c1, h1, rfl⟩ := rotd_inv h
  obtain ⟨hr2, dd, e, x0, y0, rfl, ⟨p0, rfl, hp0, hp1⟩, x1, y1, rfl, ⟨s0, rfl, n0, m0⟩, x2, y2, rfl, rfl, x3, y3, rfl, ⟨s1, rfl, n1, m1⟩, x4, y4, rfl, rfl, x5, y5, rfl, ⟨u2, rfl, v2⟩, x6, y6, rfl, rfl, x7, y7, rfl, ⟨u3, rfl, v3⟩, x8, y8, rfl, rfl, x9, y9, rfl, ⟨u4, rfl, v4⟩, x10, y10, rfl, rfl, rfl⟩ := (r_cons r_pos (r_cons r_name (r_cons (r_the _) (r_cons r_name (r_cons (r_the _) (r_cons r_num (r_cons (r_the _) (r_cons r_num (r_cons (r_the _) (r_cons r_num (r_cons (r_the _) r_nil))))))))))) [] r _ _ hr h1
  simp only [List.nil_append, List.cons_append, List.append_nil] at e
  subst e
  refine ⟨hr2, ?_, ?_⟩
  · simp only [rot, List.cons_append, List.nil_append, ShL, Sh1, pedT]
    exact ⟨_, _, rfl, ⟨_, rfl, by unfold maxLen; omega⟩, ⟨_, _, rfl, ⟨_, rfl, by unfold maxLen; omega⟩, ⟨_, _, rfl, ⟨_, rfl, (nu_i v2).1, (nu_i v2).2⟩, ⟨_, _, rfl, ⟨_, rfl, (nu_i v3).1, (nu_i v3).2⟩, ⟨_, _, rfl, ⟨_, rfl, (nu_i v4).1, (nu_i v4).2⟩, ⟨_, _, rfl, ⟨_, rfl, ((show -9223372036854775808 ≤ p0 ∧ p0 ≤ 9223372036854775807 by omega)).1, ((show -9223372036854775808 ≤ p0 ∧ p0 ≤ 9223372036854775807 by omega)).2⟩, rfl⟩⟩⟩⟩⟩⟩
  · simp [rot, walkB, nusB, gt, tS_dS, fI_dI, n0, n1, v2, v3, v4]
theorem rd_foe : RgB pFoe (fun d => ShL foeT d ∧ foeB d = true) := fun r d r' hr h => by
  obtain ⟨c1, h1, rfl⟩ := rotd_inv h
  obtain ⟨hr2, dd, e, x0, y0, rfl, ⟨p0, rfl, hp0, hp1⟩, x1, y1, rfl, ⟨s0, rfl, n0, m0⟩, x2, y2, rfl, ⟨s1, rfl, n1, m1⟩, x3, y3, rfl, rfl, rfl⟩ := (r_cons r_pos (r_cons r_name (r_cons r_name (r_cons (r_the _) r_nil)))) [] r _ _ hr h1
  simp only [List.nil_append, List.cons_append, List.append_nil] at e
  subst e
  refine ⟨hr2, ?_, ?_⟩
  · simp only [rot, List.cons_append, List.nil_append, ShL, Sh1, foeT]
    exact ⟨_, _, rfl, ⟨_, rfl, by unfold maxLen; omega⟩, ⟨_, _, rfl, ⟨_, rfl, by unfold maxLen; omega⟩, ⟨_, _, rfl, ⟨_, rfl, ((show -9223372036854775808 ≤ p0 ∧ p0 ≤ 9223372036854775807 by omega)).1, ((show -9223372036854775808 ≤ p0 ∧ p0 ≤ 9223372036854775807 by omega)).2⟩, rfl⟩⟩⟩
  · simp [rot, foeB, nusB, gt, tS_dS, fI_dI, n0, n1]
theorem rd_stop : RgB pStop (fun d => ShL stopT d ∧ stopB d = true) := fun r d r' hr h => by
  obtain ⟨c1, h1, rfl⟩ := rotd_inv h
  obtain ⟨hr2, dd, e, x0, y0, rfl, ⟨p0, rfl, hp0, hp1⟩, x1, y1, rfl, ⟨s0, rfl, n0, m0⟩, x2, y2, rfl, rfl, x3, y3, rfl, ⟨s1, rfl, n1, m1⟩, x4, y4, rfl, rfl, x5, y5, rfl, ⟨s2, rfl, n2, m2⟩, x6, y6, rfl, rfl, x7, y7, rfl, ⟨u3, rfl, v3⟩, x8, y8, rfl, rfl, x9, y9, rfl, ⟨u4, rfl, v4⟩, x10, y10, rfl, rfl, rfl⟩ := (r_cons r_pos (r_cons r_name (r_cons (r_the _) (r_cons r_name (r_cons (r_the _) (r_cons r_name (r_cons (r_the _) (r_cons r_num (r_cons (r_the _) (r_cons r_num (r_cons (r_the _) r_nil))))))))))) [] r _ _ hr h1
  simp only [List.nil_append, List.cons_append, List.append_nil] at e
  subst e
  refine ⟨hr2, ?_, ?_⟩
  · simp only [rot, List.cons_append, List.nil_append, ShL, Sh1, stopT]
    exact ⟨_, _, rfl, ⟨_, rfl, by unfold maxLen; omega⟩, ⟨_, _, rfl, ⟨_, rfl, by unfold maxLen; omega⟩, ⟨_, _, rfl, ⟨_, rfl, by unfold maxLen; omega⟩, ⟨_, _, rfl, ⟨_, rfl, (nu_i v3).1, (nu_i v3).2⟩, ⟨_, _, rfl, ⟨_, rfl, (nu_i v4).1, (nu_i v4).2⟩, ⟨_, _, rfl, ⟨_, rfl, ((show -9223372036854775808 ≤ p0 ∧ p0 ≤ 9223372036854775807 by omega)).1, ((show -9223372036854775808 ≤ p0 ∧ p0 ≤ 9223372036854775807 by omega)).2⟩, rfl⟩⟩⟩⟩⟩⟩
  · simp [rot, stopB, nusB, gt, tS_dS, fI_dI, n0, n1, n2, v3, v4]
theorem rd_phase : RgB pPhase (fun d => ShL phaseT d ∧ phaseB d = true) := fun r d r' hr h => by
  obtain ⟨c1, h1, rfl⟩ := rotd_inv h
  obtain ⟨hr2, dd, e, x0, y0, rfl, ⟨p0, rfl, hp0, hp1⟩, x1, y1, rfl, ⟨s0, rfl, n0, m0⟩, x2, y2, rfl, rfl, x3, y3, rfl, ⟨L, rfl, hL, hl⟩, x4, y4, rfl, rfl, rfl⟩ := (r_cons r_pos (r_cons r_name (r_cons (r_the _) (r_cons (r_names _ _) (r_cons (r_the _) r_nil))))) [] r _ _ hr h1
  simp only [List.nil_append, List.cons_append, List.append_nil] at e
  subst e
  refine ⟨hr2, ?_, ?_⟩
  · simp only [rot, List.cons_append, List.nil_append, ShL, Sh1, phaseT]
    exact ⟨_, _, rfl, ⟨_, rfl, by unfold maxLen; omega⟩, ⟨_, _, rfl, ⟨_, rfl, by unfold maxLen; omega, hL.2⟩, ⟨_, _, rfl, ⟨_, rfl, by omega, by omega⟩, rfl⟩⟩⟩
  · simp [rot, phaseB, gt, tS_dS, fL_row, n0, hL.1]
theorem rd_ring : RgB pRing (fun d => ShL rowT d ∧ ringB d = true) := fun r d r' hr h => by
  obtain ⟨hr2, dd, e, x0, y0, rfl, ⟨f0, rfl⟩, x1, y1, rfl, ⟨L, rfl, hL, hl⟩, x2, y2, rfl, rfl, rfl⟩ := (r_cons (r_may _) (r_cons (r_names _ _) (r_cons (r_the _) r_nil))) [] r _ _ hr h
  simp only [List.nil_append, List.cons_append, List.append_nil] at e
  subst e
  refine ⟨hr2, ?_, ?_⟩
  · simp only [ShL, Sh1, rowT]
    exact ⟨_, _, rfl, ⟨_, rfl⟩, ⟨_, _, rfl, ⟨_, rfl, by unfold maxLen; omega, hL.2⟩, rfl⟩⟩
  · simp [ringB, gt, fL_row, hL.1]
theorem rd_group : RgB pGroup (fun d => ShL groupT d ∧ groupB d = true) := fun r d r' hr h => by
  obtain ⟨c1, r1, k1, k2⟩ := sq_inv h
  obtain ⟨c2, r2, k3, k4⟩ := sq_inv k2
  obtain ⟨c3, r3, k5, k6⟩ := sq_inv k4
  obtain ⟨c4, r4, k7, k8⟩ := sq_inv k6
  obtain ⟨g1, d1, e1, rfl⟩ := r_the _ _ _ _ _ hr k1
  obtain ⟨g2, d2, e2, L, rfl, hl, hL⟩ := r_row rd_ring _ _ _ _ g1 k3
  have g3 : (∀ t ∈ r3, Tg t) ∧ c3 = c2 ∧ ∀ e z, c2 ≠ [.row e z []] := by
    have h5 := some_inv k5
    have h6 : r3 = r2 := by
      unfold pSome at k5
      split at k5
      · exact absurd k5 bad_ne
      · simp only [Except.ok.injEq, Prod.mk.injEq] at k5; exact k5.2.symm
    rw [h6]
    exact ⟨g2, h5.1, h5.2⟩
  obtain ⟨g4, d4, e4, rfl⟩ := r_the _ _ _ _ _ g3.1 k7
  have k9 := sq_end k8
  simp only [Prod.mk.injEq] at k9
  obtain ⟨rfl, rfl⟩ := k9
  simp only [List.nil_append, List.append_nil] at e1 e2 e4
  subst e1
  simp only [List.nil_append] at e2
  rw [e4, g3.2.1, e2]
  have hne := g3.2.2
  rw [e2] at hne
  have h1 : 1 ≤ L.length := by
    cases L with
    | nil => exact absurd rfl (hne _ _)
    | cons x xs => simp
  refine ⟨g4, ?_, ?_⟩
  · simp only [ShL, Sh1, groupT]
    exact ⟨_, _, rfl, ⟨_, rfl, by unfold maxLen; omega, fun x hx => (hL x hx).1⟩, rfl⟩
  · show rowB 1 2 ringB L = true
    exact rowB_of h1 hl (fun x hx => (hL x hx).2)
theorem rd_node : RgB pNode (fun d => ShL nodeT d ∧ nodeB d = true) := fun r d r' hr h => by
  obtain ⟨c1, h1, rfl⟩ := rotd_inv h
  obtain ⟨hr2, dd, e, x0, y0, rfl, ⟨p0, rfl, hp0, hp1⟩, x1, y1, rfl, ⟨s0, rfl, n0, m0⟩, x2, y2, rfl, rfl, x3, y3, rfl, ⟨L1, rfl, l1, g1⟩, x4, y4, rfl, ⟨L2, rfl, l2, g2⟩, x5, y5, rfl, ⟨L3, rfl, l3, g3⟩, x6, y6, rfl, ⟨L4, rfl, l4, g4⟩, x7, y7, rfl, ⟨L5, rfl, l5, g5⟩, x8, y8, rfl, rfl, rfl⟩ := (r_cons r_pos (r_cons r_name (r_cons (r_the _) (r_cons (r_row rd_head) (r_cons (r_row rd_walk) (r_cons (r_row rd_phase) (r_cons (r_row rd_group) (r_cons (r_row rd_foe) (r_cons (r_the _) r_nil))))))))) [] r _ _ hr h1
  simp only [List.nil_append, List.cons_append, List.append_nil] at e
  subst e
  refine ⟨hr2, ?_, ?_⟩
  · simp only [rot, List.cons_append, List.nil_append, ShL, Sh1, nodeT]
    exact ⟨_, _, rfl, ⟨_, rfl, by unfold maxLen; omega⟩, ⟨_, _, rfl, ⟨_, rfl, by unfold maxLen; omega, fun x hx => (g1 x hx).1⟩, ⟨_, _, rfl, ⟨_, rfl, by unfold maxLen; omega, fun x hx => (g2 x hx).1⟩, ⟨_, _, rfl, ⟨_, rfl, by unfold maxLen; omega, fun x hx => (g3 x hx).1⟩, ⟨_, _, rfl, ⟨_, rfl, by unfold maxLen; omega, fun x hx => (g4 x hx).1⟩, ⟨_, _, rfl, ⟨_, rfl, by unfold maxLen; omega, fun x hx => (g5 x hx).1⟩, ⟨_, _, rfl, ⟨_, rfl, by omega, by omega⟩, rfl⟩⟩⟩⟩⟩⟩⟩
  · have b1 := rowB_of (lo := 0) (Nat.zero_le _) l1 (fun x hx => (g1 x hx).2)
    have b2 := rowB_of (lo := 0) (Nat.zero_le _) l2 (fun x hx => (g2 x hx).2)
    have b3 := rowB_of (lo := 0) (Nat.zero_le _) l3 (fun x hx => (g3 x hx).2)
    have b4 := rowB_of (lo := 0) (Nat.zero_le _) l4 (fun x hx => (g4 x hx).2)
    have b5 := rowB_of (lo := 0) (Nat.zero_le _) l5 (fun x hx => (g5 x hx).2)
    simp [rot, nodeB, gt, tS_dS, fL_row, n0, b1, b2, b3, b4, b5]
theorem r_art : RgC pArt (fun d => ∃ L x y, d = [.row 49 6 L, dI x, dI y] ∧ L.length ≤ 12 ∧ (∀ z ∈ L, ShL stopT z ∧ stopB z = true) ∧ nuB x = true ∧ nuB y = true) := fun c r c' r' hr h => by
  unfold pArt at h
  split at h
  · cases h
  · rename_i r1 h1
    have hr1 := (r_may _ _ _ _ _ hr h1).1
    obtain ⟨hr2, dd, e, x0, y0, rfl, rfl, x1, y1, rfl, ⟨L, rfl, l0, g0⟩, x2, y2, rfl, rfl, x3, y3, rfl, ⟨u7, rfl, v7⟩, x4, y4, rfl, ⟨u8, rfl, v8⟩, x5, y5, rfl, rfl, x6, y6, rfl, rfl, rfl⟩ := (r_cons (r_the _) (r_cons (r_row rd_stop) (r_cons (r_the _) (r_cons r_num (r_cons r_num (r_cons (r_the _) (r_cons (r_the _) r_nil))))))) c r1 _ _ hr1 h
    exact ⟨hr2, _, e, L, u7, u8, rfl, l0, g0, v7, v8⟩
  · rename_i r1 _ h1
    simp only [Except.ok.injEq, Prod.mk.injEq] at h
    obtain ⟨rfl, rfl⟩ := h
    exact ⟨(r_may _ _ _ _ _ hr h1).1, _, rfl, [], 0, 0, rfl, by simp, (fun z hz => by cases hz), rfl, rfl⟩
theorem read_right {l : List UInt8} {cs : List D} (h : N l = .ok cs) : ShL netT cs ∧ netB cs = true := by
  unfold N at h
  cases hT : T l with
  | error x => rw [hT] at h; cases h
  | ok L =>
    rw [hT] at h
    simp only at h
    have hl := (T_ok hT).1
    have hr := tk_tg l.length l 0 L (Nat.le_refl _) (by omega) (T_ok hT).2
    cases hp : pNet L with
    | error x => rw [hp] at h; cases h
    | ok q =>
      obtain ⟨c, s⟩ := q
      rw [hp] at h
      simp only [Except.ok.injEq] at h
      subst h
      obtain ⟨hr2, dd, e, x0, y0, rfl, rfl, x1, y1, rfl, ⟨u0, rfl, v0⟩, x2, y2, rfl, rfl, x3, y3, rfl, ⟨u1, rfl, v1⟩, x4, y4, rfl, rfl, x5, y5, rfl, ⟨u2, rfl, v2⟩, x6, y6, rfl, rfl, x7, y7, rfl, rfl, x8, y8, rfl, ⟨u3, u4, rfl, v3, v4⟩, x9, y9, rfl, rfl, x10, y10, rfl, ⟨L5, rfl, l5, g5⟩, x11, y11, rfl, ⟨L6, u7, u8, rfl, l6, g6, v7, v8⟩, x12, y12, rfl, rfl, rfl⟩ := (r_cons (r_the _) (r_cons r_num (r_cons (r_the _) (r_cons r_num (r_cons (r_the _) (r_cons r_num (r_cons (r_the _) (r_cons (r_the _) (r_cons r_frac (r_cons (r_the _) (r_cons (r_row rd_node) (r_cons r_art (r_cons r_end r_nil))))))))))))) [] L _ _ hr hp
      simp only [List.nil_append, List.cons_append, List.append_nil] at e
      subst e
      refine ⟨?_, ?_⟩
      · simp only [ShL, Sh1, netT]
        exact ⟨_, _, rfl, ⟨_, rfl, (nu_i v0).1, (nu_i v0).2⟩, ⟨_, _, rfl, ⟨_, rfl, (nu_i v1).1, (nu_i v1).2⟩, ⟨_, _, rfl, ⟨_, rfl, (nu_i v2).1, (nu_i v2).2⟩, ⟨_, _, rfl, ⟨_, rfl, (nu_i v3).1, (nu_i v3).2⟩, ⟨_, _, rfl, ⟨_, rfl, (nu_i v4).1, (nu_i v4).2⟩, ⟨_, _, rfl, ⟨_, rfl, by unfold maxLen; omega, fun x hx => (g5 x hx).1⟩, ⟨_, _, rfl, ⟨_, rfl, by unfold maxLen; omega, fun x hx => (g6 x hx).1⟩, ⟨_, _, rfl, ⟨_, rfl, (nu_i v7).1, (nu_i v7).2⟩, ⟨_, _, rfl, ⟨_, rfl, (nu_i v8).1, (nu_i v8).2⟩, rfl⟩⟩⟩⟩⟩⟩⟩⟩⟩
      · have b5 := rowB_of (lo := 0) (Nat.zero_le _) l5 (fun x hx => (g5 x hx).2)
        have b6 := rowB_of (lo := 0) (Nat.zero_le _) l6 (fun x hx => (g6 x hx).2)
        simp [netB, nusB, gt, fI_dI, fL_row, v0, v1, v2, v3, v4, v7, v8, b5, b6]
end S
end Go.Proofs.YtcdnbdajnagfiaaGreatDoor
