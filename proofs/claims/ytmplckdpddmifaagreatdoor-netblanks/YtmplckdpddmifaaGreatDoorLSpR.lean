/- Tokens spelt by the document, and their tokens again. -/
import Derived.Test.YtmplckdpddmifaaGreatDoorLSt
import Derived.Test.YtmplckdpddmifaaGreatDoorLFj
import Derived.Test.YtmplckdpddmifaaGreatDoorNCt
import Derived.Lib.Join
namespace Go.Proofs.YtmplckdpddmifaaGreatDoor
open Go.RowKit
attribute [local go_sem ↓] Go.wp_at_zero Go.wp_at_succ
set_option linter.unusedVariables false
set_option linter.unusedSimpArgs false
set_option maxRecDepth 10000
/-- the texts of all tokens but the end -/
def tx (L : List Tok) : List (List UInt8) := (L.filter fun t => decide (t.k ≠ 0)).map Tok.s
/-- tokens spelt -/
def sp (L : List Tok) : List UInt8 := Lib.join (tx L) [32]
theorem tx_snoc {L : List Tok} {k : Nat} (h : k < L.length) : tx (L.take (k + 1)) = tx (L.take k) ++ (if (L.getD k t0).k = 0 then [] else [(L.getD k t0).s]) := by
  have e : L.take (k + 1) = L.take k ++ [L.getD k t0] := by
    rw [List.take_add_one, List.getElem?_eq_getElem h, List.getD_eq_getElem?_getD, List.getElem?_eq_getElem h]; rfl
  unfold tx
  rw [e, List.filter_append, List.map_append]
  congr 1
  by_cases h0 : (L.getD k t0).k = 0
  · rw [if_pos h0, List.filter_cons, if_neg (by rw [h0]; decide)]; rfl
  · rw [if_neg h0, List.filter_cons, if_pos (by simpa using h0)]; rfl
theorem join_snoc (xs : List (List UInt8)) (y : List UInt8) : Lib.join (xs ++ [y]) [32] = if xs = [] then y else Lib.join xs [32] ++ [32] ++ y := by
  cases xs with
  | nil => simp [Lib.join_one]
  | cons x r =>
    rw [if_neg (by simp), List.cons_append, Lib.join_cons, Lib.join_cons]
    unfold Lib.joinTail
    simp
theorem join_le (xs ys : List (List UInt8)) : (Lib.join xs [32]).length ≤ (Lib.join (xs ++ ys) [32]).length := by
  cases xs with
  | nil => simp [Lib.join_nil]
  | cons x r =>
    rw [List.cons_append, Lib.join_cons, Lib.join_cons]
    unfold Lib.joinTail
    simp
theorem sp_step {L : List Tok} {k : Nat} (h : k < L.length) : sp (L.take (k + 1)) = if (L.getD k t0).k = 0 then sp (L.take k) else if tx (L.take k) = [] then (L.getD k t0).s else sp (L.take k) ++ [32] ++ (L.getD k t0).s := by
  unfold sp
  rw [tx_snoc h]
  by_cases h0 : (L.getD k t0).k = 0
  · rw [if_pos h0, if_pos h0, List.append_nil]
  · rw [if_neg h0, if_neg h0, join_snoc]
theorem sp_take_le (L : List Tok) (k : Nat) : (sp (L.take k)).length ≤ (sp L).length := by
  have e : tx L = tx (L.take k) ++ tx (L.drop k) := by
    unfold tx
    rw [← List.map_append, ← List.filter_append, List.take_append_drop]
  unfold sp
  rw [e]
  exact join_le _ _
set_option maxHeartbeats 4000000 in
theorem rspell_core (v0 : Value) (L : List Tok) (w : World) (hl : L.length ≤ 70000) (hs : (sp L).length ≤ 1000000) (hR : Ts w v0 L) :
    Calls Tryz.prog 10 #[v0] w fun e w' => e = .returned (.string (sv (sp L))) ∧ w' = w := by
  obtain ⟨a, cap, hv, hcap, hcell⟩ := id hR
  subst hv
  have HC := hide hcell
  clear hR hcell
  go_enter Tryz.func10, Tryz.ntmps10
  go_wp2_with fail
  go_loop [3, 4, 5] (fun vs vf vi => ∃ (k : Nat) (f : Bool), k ≤ L.length ∧ vi = .int .i64 (k : Int) ∧ vs = .string (sv (sp (L.take k))) ∧ vf = .bool f ∧ (f = true ↔ tx (L.take k) = [])) (fun vs vf vi => L.length - (intOf vi).toNat)
  case atStart => exact ⟨0, true, Nat.zero_le _, rfl, rfl, rfl, by simp [tx]⟩
  case round =>
    obtain ⟨k, f, hk, rfl, rfl, rfl, hf⟩ := hrel
    by_cases hlt : k < L.length
    · have li : (k : Int) < (L.length : Int) := by omega
      obtain ⟨ad, rfl, hb, c0, c1, c2, c3⟩ := (unhide HC) k hlt
      have HS := hide (sp_step hlt)
      have HT := hide (tx_snoc hlt)
      have h1 := sp_take_le L k
      have h2 := sp_take_le L (k + 1)
      have z1 := sv_size (sp (L.take k))
      generalize L.getD k t0 = t at *
      obtain ⟨kk, ss, nn, pp⟩ := t
      simp only at c0 c1 c2 c3 HS HT
      have z2 := sv_size ss
      by_cases h0 : kk = 0
      · have hb0 : (kk == 0) = true := by simp [h0]
        have HS2 : Hid (sp (L.take (k + 1)) = sp (L.take k)) := by have := unhide HS; rw [if_pos h0] at this; exact this
        have HT2 : Hid (tx (L.take (k + 1)) = tx (L.take k)) := by have := unhide HT; rw [if_pos h0, List.append_nil] at this; exact this
        have HF := hide hf
        clear h0 HS HT hf
        go_wp2_with fail
        exact ⟨⟨k + 1, f, hlt, by go_num, by rw [unhide HS2], rfl, by rw [unhide HT2]; exact unhide HF⟩, by simp [intOf]; omega⟩
      · have hb0 : (kk == 0) = false := by simp [h0]
        have HT2 : Hid (tx (L.take (k + 1)) ≠ []) := by have := unhide HT; rw [if_neg h0] at this; unfold Hid; rw [this]; simp
        have hs2 := unhide HS
        rw [if_neg h0] at hs2
        cases f with
        | true =>
          rw [if_pos (hf.1 rfl)] at hs2
          have e0 : sp (L.take k) = [] := by unfold sp; rw [hf.1 rfl]; rfl
          have HX : Hid (sv (sp (L.take k)) ++ sv ss = sv (sp (L.take (k + 1)))) := by unfold Hid; rw [sv_cat, e0, hs2]; rfl
          have hov : ¬ 9223372036854775807 < (sv (sp (L.take k))).size + (sv ss).size := by rw [z1, z2, ← hs2]; omega
          clear hs2 e0 h0 HS HT hf h1 h2 z1 z2
          generalize sv (sp (L.take k)) = s1 at *
          generalize sv ss = s2 at *
          go_wp2_with fail
          exact ⟨⟨k + 1, false, hlt, by go_num, by rw [unhide HX], rfl, ⟨fun h => (by cases h), fun h => absurd h (unhide HT2)⟩⟩, by simp [intOf]; omega⟩
        | false =>
          have hne : ¬ tx (L.take k) = [] := fun e => by have := hf.2 e; cases this
          rw [if_neg hne] at hs2
          have hlen : (sp (L.take k)).length + 1 + ss.length ≤ 1000000 := by have := congrArg List.length hs2; simp only [List.length_append, List.length_cons, List.length_nil] at this; omega
          have HX : Hid (sv (sp (L.take k)) ++ ⟨#[32]⟩ ++ sv ss = sv (sp (L.take (k + 1)))) := by unfold Hid; rw [hs2, ← sv_cat, ← sv_cat]; rfl
          have hov1 : ¬ 9223372036854775807 < (sv (sp (L.take k))).size + 1 := by rw [z1]; omega
          have hov2 : ¬ 9223372036854775807 < (sv (sp (L.take k))).size + 1 + (sv ss).size := by rw [z1, z2]; omega
          clear hs2 hne h0 HS HT hf h1 h2 z1 z2 hlen
          generalize sv (sp (L.take k)) = s1 at *
          generalize sv ss = s2 at *
          go_wp2_with fail
          exact ⟨⟨k + 1, false, hlt, by go_num, by rw [unhide HX], rfl, ⟨fun h => (by cases h), fun h => absurd h (unhide HT2)⟩⟩, by simp [intOf]; omega⟩
    · have e : k = L.length := by omega
      subst e
      rw [List.take_length]
      go_wp2_with fail
      go_ret
      exact ⟨rfl, rfl⟩
/-- a token that stands alone as it stands -/
def Gd (t : Tok) : Prop := ∃ x, one t.s 0 = .ok x ∧ x.k = t.k ∧ x.n = t.n ∧ x.s = t.s ∧ x.k ≠ 0 ∧ skp false t.s = 0 ∧ t.s.length ≤ 24
theorem tk_blank (R : List UInt8) (q : Nat) : tk (32 :: R) q = tk R (q + 1) := by
  have k1 : kd (32 : UInt8).toNat = 1 := by decide
  have es : skp false (32 :: R) = 1 + skp false R := by
    simp only [skp]
    rw [if_neg (by rw [k1]; decide), if_pos (.inl k1)]
  have ed : (32 :: R).drop (1 + skp false R) = R.drop (skp false R) := by rw [Nat.add_comm, List.drop_succ_cons]
  rw [tk_eq (32 :: R), tk_eq R, es, ed, show q + (1 + skp false R) = q + 1 + skp false R by omega]
theorem join_cons2 (x y : List UInt8) (r : List (List UInt8)) : Lib.join (x :: y :: r) [32] = x ++ 32 :: Lib.join (y :: r) [32] := by
  rw [Lib.join_cons, Lib.join_cons]
  unfold Lib.joinTail
  simp
theorem not32 : ¬ (kd (32 : UInt8).toNat = 4 ∨ kd (32 : UInt8).toNat = 5 ∨ kd (32 : UInt8).toNat = 6) := by decide
theorem tk_nil (p : Nat) : tk [] p = .ok [⟨0, [], 0, (p : Int)⟩] := by
  rw [tk_eq]
  rfl
theorem tk_spelt : ∀ (G : List Tok), (∀ t, t ∈ G → Gd t) → ∀ p : Nat, ∃ (G' : List Tok) (e : Int), tk (Lib.join (G.map Tok.s) [32]) p = .ok (G' ++ [⟨0, [], 0, e⟩]) ∧ G'.map q0 = G.map q0
  | [], _, p => ⟨[], p, by rw [List.map_nil, Lib.join_nil, tk_nil]; rfl, rfl⟩
  | [t], h, p => by
    obtain ⟨x, h1, hk, hn, hs, h0, ha, _⟩ := h t (by simp)
    have e1 : one t.s (p + 0) = .ok (sh p x) := by rw [Nat.add_comm, one_sh, h1]
    refine ⟨[sh p x], (p + t.s.length : Nat), ?_, by simp [q0, sh, hk, hn, hs]⟩
    rw [List.map_cons, List.map_nil, Lib.join_one, tk_eq, ha, List.drop_zero, e1]
    simp only
    rw [if_neg (show (sh p x).k ≠ 0 from h0)]
    have e2 : t.s.drop (sh p x).s.length = [] := List.drop_of_length_le (by show t.s.length ≤ x.s.length; rw [hs]; exact Nat.le_refl _)
    rw [e2, tk_nil]
    show Except.ok [sh p x, _] = Except.ok [sh p x, _]
    rw [show (sh p x).s.length = t.s.length from congrArg List.length hs]
    rfl
  | t :: u :: G, h, p => by
    obtain ⟨x, h1, hk, hn, hs, h0, ha, _⟩ := h t (by simp)
    have hne : t.s ≠ [] := by
      intro e
      rw [e] at h1
      simp only [one, Except.ok.injEq] at h1
      rw [← h1] at h0
      exact h0 rfl
    have e1 : one t.s (p + 0) = .ok (sh p x) := by rw [Nat.add_comm, one_sh, h1]
    obtain ⟨G', e, hG, hst⟩ := tk_spelt (u :: G) (fun t ht => h t (by simp at ht ⊢; exact .inr ht)) (p + t.s.length + 1)
    refine ⟨sh p x :: G', e, ?_, by rw [List.map_cons, hst]; simp [q0, sh, hk, hn, hs]⟩
    rw [List.map_cons, List.map_cons, join_cons2, ← List.map_cons (f := Tok.s)]
    have es : skp false (t.s ++ 32 :: Lib.join ((u :: G).map Tok.s) [32]) = 0 := by
      rw [skp_app2 _ false t.s (by rw [ha]; exact List.length_pos_iff.2 hne), ha]
    rw [tk_eq, es, List.drop_zero, one_app 32 not32 _ e1 h0]
    simp only
    rw [if_neg (show (sh p x).k ≠ 0 from h0)]
    have hl : (sh p x).s.length = t.s.length := congrArg List.length hs
    have e2 : (t.s ++ 32 :: Lib.join ((u :: G).map Tok.s) [32]).drop (sh p x).s.length = 32 :: Lib.join ((u :: G).map Tok.s) [32] := by
      rw [hl, List.drop_append_of_le_length (Nat.le_refl _), List.drop_length, List.nil_append]
    rw [e2, tk_blank, hl, show p + 0 + t.s.length + 1 = p + t.s.length + 1 by omega, hG]
    rfl
theorem join_sum : ∀ (G : List Tok), (Lib.join (G.map Tok.s) [32]).length ≤ (G.map fun t => t.s.length).sum + G.length
  | [] => by simp [Lib.join_nil]
  | [t] => by rw [List.map_cons, List.map_nil, Lib.join_one]; simp
  | t :: u :: G => by
    have ih := join_sum (u :: G)
    rw [List.map_cons, List.map_cons, join_cons2, ← List.map_cons (f := Tok.s)]
    simp only [List.length_append, List.length_cons, List.map_cons, List.sum_cons] at *
    omega
theorem tw_takes (P : UInt8 → Bool) : ∀ r : List UInt8, tw P (r.take (tw P r)) = tw P r
  | [] => rfl
  | c :: r => by
    have ih := tw_takes P r
    unfold tw at ih ⊢
    rw [List.takeWhile_cons]
    by_cases h : P c = true
    · rw [if_pos h, List.length_cons, List.take_succ_cons, List.takeWhile_cons, if_pos h, List.length_cons, ih]
    · rw [if_neg h]; simp
theorem en_takes (r : List UInt8) : en (r.take (en r)) = en r := by
  cases r with
  | nil => rfl
  | cons c r =>
    simp only [en]
    rw [Nat.add_comm, List.take_succ_cons]
    simp only [en]
    rw [tw_takes, Nat.add_comm]
theorem one_gd {r : List UInt8} {p : Nat} {t : Tok} (h : one r p = .ok t) (hk : t.k ≠ 0) : Gd t := by
  cases r with
  | nil => simp only [one, Except.ok.injEq] at h; subst h; exact absurd rfl hk
  | cons c r =>
    have h0 := one_ok h
    rcases h0.2 with ⟨e, _⟩ | ⟨_, _, e1, e2, e3, e4⟩
    · cases e
    · have et : (c :: r).take (en (c :: r)) = c :: r.take (en (c :: r) - 1) := by
        obtain ⟨m, hm⟩ : ∃ m, en (c :: r) = m + 1 := ⟨en (c :: r) - 1, by omega⟩
        rw [hm]; simp
      have he := en_takes (c :: r)
      rw [et] at he e1
      have hsk : skp false (c :: r.take (en (c :: r) - 1)) = 0 := by
        simp only [skp]
        simp only [one] at h
        split at h
        · rename_i h4; rw [if_neg (by omega), if_neg (by omega)]
        · split at h
          · rename_i h5; rw [if_neg (by omega), if_neg (by omega)]
          · split at h
            · rename_i h7; rw [if_neg (by omega), if_neg (by omega)]
            · cases h
      refine ⟨⟨t.k, t.s, t.n, 0⟩, ?_, rfl, rfl, rfl, hk, by rw [e1]; exact hsk, by omega⟩
      have hlen : (c :: r.take (en (c :: r) - 1)).take (en (c :: r)) = c :: r.take (en (c :: r) - 1) := by
        rw [← et]; rw [List.take_take, Nat.min_self]
      rw [e1]
      simp only [one] at h ⊢
      rw [he, hlen]
      rw [et] at h
      split at h
      · rename_i h4
        rw [if_pos h4]
        split at h
        · cases h
        · rename_i h24
          simp only [Except.ok.injEq] at h
          rw [if_neg h24]
          rw [← h]; rfl
      · rename_i h4
        rw [if_neg h4]
        split at h
        · rename_i h5
          rw [if_pos h5]
          split at h
          · cases h
          · rename_i h18
            simp only [Except.ok.injEq] at h
            rw [if_neg h18]
            rw [← h]; rfl
        · rename_i h5
          rw [if_neg h5]
          split at h
          · rename_i h7
            simp only [Except.ok.injEq] at h
            rw [if_pos h7]
            rw [← h]; rfl
          · cases h
theorem tk_gd : ∀ (n : Nat) (r : List UInt8) (p : Nat) (L : List Tok), r.length ≤ n → tk r p = .ok L → ∃ m e, L = m ++ [e] ∧ e.k = 0 ∧ e.s = [] ∧ e.n = 0 ∧ (∀ t ∈ m, Gd t ∧ t.k ≠ 0) ∧ (m.map fun t => t.s.length).sum ≤ r.length ∧ m.length ≤ r.length
  | n, r, p, L, hn, h => by
    rcases tk_cons h with ⟨rfl, _⟩ | ⟨t, M, rfl, h1, h2, _, _, h5, h6, h7⟩
    · exact ⟨[], _, rfl, rfl, rfl, rfl, fun t ht => (by cases ht), by simp, by simp⟩
    · cases n with
      | zero => omega
      | succ n =>
        obtain ⟨m, e, rfl, e1, e2, e4, e3, e5, e6⟩ := tk_gd n _ _ M (by rw [List.length_drop]; omega) h7
        rw [List.length_drop] at e5 e6
        exact ⟨t :: m, e, rfl, e1, e2, e4, fun u hu => by rcases List.mem_cons.1 hu with rfl | hu; exact ⟨one_gd h1 h2, h2⟩; exact e3 u hu, by simp only [List.map_cons, List.sum_cons]; omega, by simp only [List.length_cons]; omega⟩
/-- the tokens of what a text's tokens are spelt as, their places aside -/
theorem T_again {l : List UInt8} {L : List Tok} (h : T l = .ok L) (hl : l.length ≤ 6000) : (sp L).length ≤ 12000 ∧ ∃ L', T (sp L) = .ok L' ∧ L.map q0 = L'.map q0 := by
  obtain ⟨m, e, rfl, e1, e2, e4, e3, e5, e6⟩ := tk_gd _ l 0 L (Nat.le_refl _) (T_ok h).2
  have hs : sp (m ++ [e]) = Lib.join (m.map Tok.s) [32] := by
    unfold sp tx
    rw [List.filter_append, List.filter_eq_self.2 (fun t ht => by simpa using (e3 t ht).2)]
    simp [e1]
  have hj := join_sum m
  rw [hs]
  refine ⟨by omega, ?_⟩
  obtain ⟨G', q, h1, h2⟩ := tk_spelt m (fun t ht => (e3 t ht).1) 0
  refine ⟨G' ++ [⟨0, [], 0, q⟩], by unfold T; rw [if_neg (by omega)]; exact h1, ?_⟩
  rw [List.map_append, List.map_append, h2]
  simp [q0, e1, e2, e4]
end Go.Proofs.YtmplckdpddmifaaGreatDoor
