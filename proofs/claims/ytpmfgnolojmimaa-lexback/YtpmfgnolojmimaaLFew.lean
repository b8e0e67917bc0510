/- Are there few tokens; tokens spelt by the document. -/
import Derived.Test.YtpmfgnolojmimaaLSpell
namespace Go.Proofs.Ytpmfgnolojmimaa
open Go.RowKit
attribute [local go_sem ↓] Go.wp_at_zero Go.wp_at_succ
set_option linter.unusedVariables false
set_option linter.unusedSimpArgs false
set_option maxRecDepth 10000
theorem sv_app (a b : List UInt8) : sv a ++ sv b = sv (a ++ b) := by
  apply ByteArray.ext
  simp [sv, ByteArray.data_append]
set_option maxHeartbeats 4000000 in
theorem few_core (a : Option Addr) (n cap : Nat) (S : Nat → ByteArray) (r : Bool) (w : World)
    (HC : Hid (∀ k, k < n → ∃ ad, a = some ad ∧ w.cell? ⟨(ad.add (k * 4)).block, (ad.add (k * 4)).off + 1, none⟩ = some (.string (S k))))
    (H1 : Hid (∀ k, k < n → k ≤ 200 → 200 < (S k).size → r = false))
    (H2 : Hid ((∀ k, k < n → k ≤ 200 → (S k).size ≤ 200) → r = decide (n ≤ 200))) :
    Calls Try.prog 17 #[.slice a n cap] w fun e w' => e = .returned (.bool r) ∧ w' = w := by
  go_enter Try.func17, Try.ntmps17
  go_wp2_with fail
  go_loop [3] (fun vi => ∃ k : Nat, k ≤ n ∧ k ≤ 201 ∧ vi = .int .i64 (k : Int) ∧ Hid (∀ j, j < k → (S j).size ≤ 200)) (fun vi => 201 - (intOf vi).toNat)
  case atStart => exact ⟨0, Nat.zero_le _, by omega, rfl, hide fun j hj => by omega⟩
  case round =>
    obtain ⟨k, hk, hk2, rfl, HS⟩ := hrel
    by_cases hlt : k < n ∧ k ≤ 200
    · obtain ⟨h1, h2⟩ := hlt
      have li : (k : Int) < (n : Int) := by omega
      have li2 : (k : Int) ≤ 200 := by omega
      obtain ⟨ad, rfl, ck⟩ := (unhide HC) k h1
      have HQ := hide ((unhide H1) k h1 h2)
      generalize hs : S k = s at *
      have HSk := hide hs
      clear hs
      by_cases h3 : (200 : Int) < (s.size : Int)
      · have hr := (unhide HQ) (by omega)
        subst hr
        go_wp2_with fail
        go_ret
        exact ⟨rfl, rfl⟩
      · go_wp2_with fail
        refine ⟨⟨k + 1, h1, by omega, by go_num, hide fun j hj => ?_⟩, by simp [intOf]; omega⟩
        rcases Nat.lt_succ_iff_lt_or_eq.1 hj with h | h
        · exact (unhide HS) j h
        · rw [h, unhide HSk]; omega
    · have hr := (unhide H2) (fun j h1 h2 => (unhide HS) j (by omega))
      subst hr
      by_cases h1 : k < n
      · have li : (k : Int) < (n : Int) := by omega
        have li2 : ¬ (k : Int) ≤ 200 := by omega
        go_wp2_with fail
        go_ret
        exact ⟨bool_ret (by rw [Bool.eq_iff_iff]; simp; omega), rfl⟩
      · have li : ¬ (k : Int) < (n : Int) := by omega
        go_wp2_with fail
        go_ret
        exact ⟨bool_ret (by rw [Bool.eq_iff_iff]; simp; omega), rfl⟩
/-- few tokens, each short -/
def Fw (L : List Tok) : Prop := L.length ≤ 200 ∧ ∀ k, k < L.length → (L.getD k t0).s.length ≤ 200
theorem few_any (v : Value) (L : List Tok) (w : World) (h : Ts w v L) : Calls Try.prog 17 #[v] w fun e w' => ∃ r : Bool, (r = true ↔ Fw L) ∧ e = .returned (.bool r) ∧ w' = w := by
  obtain ⟨a, cap, rfl, _, hc⟩ := h
  by_cases hf : ∀ k, k < L.length → k ≤ 200 → (sv (L.getD k t0).s).size ≤ 200
  · refine (few_core a L.length cap (fun k => sv (L.getD k t0).s) (decide (L.length ≤ 200)) w (hide fun k hk => ?_) (hide fun k h1 h2 h3 => ?_) (hide fun _ => rfl)).mono ?_
    · obtain ⟨ad, h0, _, _, h1, _⟩ := hc k hk
      exact ⟨ad, h0, h1⟩
    · have := hf k h1 h2; omega
    · rintro e w' ⟨rfl, rfl⟩
      refine ⟨_, ?_, rfl, rfl⟩
      rw [decide_eq_true_iff]
      refine ⟨fun h => ⟨h, fun k hk => ?_⟩, fun h => h.1⟩
      have := hf k hk (by omega)
      rw [sv_size] at this
      exact this
  · refine (few_core a L.length cap (fun k => sv (L.getD k t0).s) false w (hide fun k hk => ?_) (hide fun k h1 h2 h3 => rfl) (hide fun h => absurd h hf)).mono ?_
    · obtain ⟨ad, h0, _, _, h1, _⟩ := hc k hk
      exact ⟨ad, h0, h1⟩
    · rintro e w' ⟨rfl, rfl⟩
      refine ⟨_, ⟨fun h => (by cases h), fun h => absurd (fun k hk _ => ?_) hf⟩, rfl, rfl⟩
      rw [sv_size]
      exact h.2 k hk
theorem join_snoc (xs : List (List UInt8)) (y : List UInt8) : Lib.join (xs ++ [y]) [32] = if xs = [] then y else Lib.join xs [32] ++ [32] ++ y := by
  cases xs with
  | nil => simp [Lib.join_one]
  | cons x r =>
    rw [if_neg (by simp), List.cons_append, Lib.join_cons, Lib.join_cons]
    unfold Lib.joinTail
    simp
theorem join_le (xs ys : List (List UInt8)) : (Lib.join xs [32]).length ≤ (Lib.join (xs ++ ys) [32]).length := by
  cases xs with
  | nil => simp [Lib.join_nil]
  | cons x r =>
    rw [List.cons_append, Lib.join_cons, Lib.join_cons]
    unfold Lib.joinTail
    simp
theorem sp_step {L : List Tok} {k : Nat} (h : k < L.length) : sp (L.take (k + 1)) = if (L.getD k t0).k = 0 then sp (L.take k) else if tx (L.take k) = [] then (L.getD k t0).s else sp (L.take k) ++ [32] ++ (L.getD k t0).s := by
  unfold sp
  rw [tx_snoc h]
  by_cases h0 : (L.getD k t0).k = 0
  · rw [if_pos h0, if_pos h0, List.append_nil]
  · rw [if_neg h0, if_neg h0, join_snoc]
theorem sp_take_le (L : List Tok) (k : Nat) : (sp (L.take k)).length ≤ (sp L).length := by
  have e : tx L = tx (L.take k) ++ tx (L.drop k) := by
    unfold tx
    rw [← List.map_append, ← List.filter_append, List.take_append_drop]
  unfold sp
  rw [e]
  exact join_le _ _
set_option maxHeartbeats 4000000 in
theorem rspell_core (v0 : Value) (L : List Tok) (w : World) (hl : L.length ≤ 70000) (hs : (sp L).length ≤ 1000000) (hR : Ts w v0 L) :
    Calls Try.prog 19 #[v0] w fun e w' => e = .returned (.string (sv (sp L))) ∧ w' = w := by
  obtain ⟨a, cap, hv, hcap, hcell⟩ := id hR
  subst hv
  have HC := hide hcell
  clear hR hcell
  go_enter Try.func19, Try.ntmps19
  go_wp2_with fail
  go_loop [3, 4, 5] (fun vs vf vi => ∃ (k : Nat) (f : Bool), k ≤ L.length ∧ vi = .int .i64 (k : Int) ∧ vs = .string (sv (sp (L.take k))) ∧ vf = .bool f ∧ (f = true ↔ tx (L.take k) = [])) (fun vs vf vi => L.length - (intOf vi).toNat)
  case atStart => exact ⟨0, true, Nat.zero_le _, rfl, rfl, rfl, by simp [tx]⟩
  case round =>
    obtain ⟨k, f, hk, rfl, rfl, rfl, hf⟩ := hrel
    by_cases hlt : k < L.length
    · have li : (k : Int) < (L.length : Int) := by omega
      obtain ⟨ad, rfl, hb, c0, c1, c2, c3⟩ := (unhide HC) k hlt
      have HS := hide (sp_step hlt)
      have HT := hide (tx_snoc hlt)
      have h1 := sp_take_le L k
      have h2 := sp_take_le L (k + 1)
      have z1 := sv_size (sp (L.take k))
      generalize L.getD k t0 = t at *
      obtain ⟨kk, ss, nn, pp⟩ := t
      simp only at c0 c1 c2 c3 HS HT
      have z2 := sv_size ss
      by_cases h0 : kk = 0
      · have hb0 : (kk == 0) = true := by simp [h0]
        have HS2 : Hid (sp (L.take (k + 1)) = sp (L.take k)) := by have := unhide HS; rw [if_pos h0] at this; exact this
        have HT2 : Hid (tx (L.take (k + 1)) = tx (L.take k)) := by have := unhide HT; rw [if_pos h0, List.append_nil] at this; exact this
        have HF := hide hf
        clear h0 HS HT hf
        go_wp2_with fail
        exact ⟨⟨k + 1, f, hlt, by go_num, by rw [unhide HS2], rfl, by rw [unhide HT2]; exact unhide HF⟩, by simp [intOf]; omega⟩
      · have hb0 : (kk == 0) = false := by simp [h0]
        have HT2 : Hid (tx (L.take (k + 1)) ≠ []) := by have := unhide HT; rw [if_neg h0] at this; unfold Hid; rw [this]; simp
        have hs2 := unhide HS
        rw [if_neg h0] at hs2
        cases f with
        | true =>
          rw [if_pos (hf.1 rfl)] at hs2
          have e0 : sp (L.take k) = [] := by unfold sp; rw [hf.1 rfl]; rfl
          have HX : Hid (sv (sp (L.take k)) ++ sv ss = sv (sp (L.take (k + 1)))) := by unfold Hid; rw [sv_app, e0, hs2]; rfl
          have hov : ¬ 9223372036854775807 < (sv (sp (L.take k))).size + (sv ss).size := by rw [z1, z2, ← hs2]; omega
          clear hs2 e0 h0 HS HT hf h1 h2 z1 z2
          generalize sv (sp (L.take k)) = s1 at *
          generalize sv ss = s2 at *
          go_wp2_with fail
          exact ⟨⟨k + 1, false, hlt, by go_num, by rw [unhide HX], rfl, ⟨fun h => (by cases h), fun h => absurd h (unhide HT2)⟩⟩, by simp [intOf]; omega⟩
        | false =>
          have hne : ¬ tx (L.take k) = [] := fun e => by have := hf.2 e; cases this
          rw [if_neg hne] at hs2
          have hlen : (sp (L.take k)).length + 1 + ss.length ≤ 1000000 := by have := congrArg List.length hs2; simp only [List.length_append, List.length_cons, List.length_nil] at this; omega
          have HX : Hid (sv (sp (L.take k)) ++ ⟨#[32]⟩ ++ sv ss = sv (sp (L.take (k + 1)))) := by unfold Hid; rw [hs2, ← sv_app, ← sv_app]; rfl
          have hov1 : ¬ 9223372036854775807 < (sv (sp (L.take k))).size + 1 := by rw [z1]; omega
          have hov2 : ¬ 9223372036854775807 < (sv (sp (L.take k))).size + 1 + (sv ss).size := by rw [z1, z2]; omega
          clear hs2 hne h0 HS HT hf h1 h2 z1 z2 hlen
          generalize sv (sp (L.take k)) = s1 at *
          generalize sv ss = s2 at *
          go_wp2_with fail
          exact ⟨⟨k + 1, false, hlt, by go_num, by rw [unhide HX], rfl, ⟨fun h => (by cases h), fun h => absurd h (unhide HT2)⟩⟩, by simp [intOf]; omega⟩
    · have e : k = L.length := by omega
      subst e
      rw [List.take_length]
      go_wp2_with fail
      go_ret
      exact ⟨rfl, rfl⟩
end Go.Proofs.Ytpmfgnolojmimaa
