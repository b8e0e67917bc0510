/- The document's one token, as it is said. -/
import Derived.Test.YtfjphcgipbgodaaDoorLOne
namespace Go.Proofs.YtfjphcgipbgodaaDoor
open Go.RowKit
set_option linter.unusedVariables false
set_option linter.unusedSimpArgs false
set_option maxRecDepth 10000
theorem tw_congr {P Q : UInt8 → Bool} (h : ∀ x, P x = Q x) (l : List UInt8) : tw P l = tw Q l := by rw [show P = Q from funext h]
theorem one_any (v : Value) (l : List UInt8) (i : Nat) (w : World) (hl : l.length ≤ 70000) (hlt : i < l.length) (h : By w v l) :
    Calls Tryd.prog 30 #[v, .int .i64 (i : Int)] w fun e w' => e = .returned (.tuple #[tv (rt (one (l.drop i) i)), .int .i64 (re (one (l.drop i) i))]) ∧ Keep w w' := by
  obtain ⟨a, cap, e, hcap, hc⟩ := id h
  subst e
  obtain ⟨ad, rfl, hb, ci⟩ := hc i hlt
  have hd := drop_at l i hlt
  have h2 := en_le (l.drop i)
  have h1 : 1 ≤ en (l.drop i) := by rw [hd]; exact en_pos _ _
  rw [List.length_drop] at h2
  have HC : Hid (∀ k, k < l.length → ∀ W, Keep w W → W.cell? (ad.add k) = some (.int .u8 ((l.getD k 0).toNat : Int))) := fun k hk W hK => by
    obtain ⟨ad', e, _, ck⟩ := hc k hk
    injection e with e
    subst e
    rw [Below.cell hK (by rw [add_block]; exact hb)]; exact ck
  have CV : ∀ N, i ≤ N → N ≤ l.length → ∀ W, Keep w W → (convert 22 9 (.slice (some (ad.add i)) (N - i) (cap - i))).run Tryd.prog W = .ok (.string (sv ((l.drop i).take (N - i)))) W := fun N h1 h2 W hk =>
    conv_piece (h.cy.keep hk) h1 h2 (t := 22) (u := 9) Tryd.underlying22 Tryd.underlying9 (cap - i)
  have HV : Hid (∀ W, Keep w W → (convert 22 9 (.slice (some (ad.add i)) (i + en (l.drop i) - i) (cap - i))).run Tryd.prog W = .ok (.string (sv ((l.drop i).take (en (l.drop i))))) W) := fun W hk => by
    have := CV (i + en (l.drop i)) (by omega) (by omega) W hk
    rw [Nat.add_sub_cancel_left] at this ⊢
    exact this
  have hlen : ((l.drop i).take (en (l.drop i))).length = en (l.drop i) := by rw [List.length_take, List.length_drop]; omega
  have e1 : one (l.drop i) i = (if kd (l.getD i 0).toNat = 4 then (if 24 < en (l.drop i) then .error 4 else .ok ⟨1, (l.drop i).take (en (l.drop i)), 0, i⟩)
    else if kd (l.getD i 0).toNat = 5 then (if 18 < en (l.drop i) then .error 4 else .ok ⟨2, (l.drop i).take (en (l.drop i)), num ((l.drop i).take (en (l.drop i))), i⟩)
    else if kd (l.getD i 0).toNat = 7 then .ok ⟨3, (l.drop i).take (en (l.drop i)), 0, i⟩
    else .error 40) := by
    conv => lhs; rw [hd]
    simp only [one]
    rw [← hd]
  have h7e : kd (l.getD i 0).toNat = 7 → en (l.drop i) = 1 := by
    rw [hd]
    intro h7
    have : tw (goes (l.getD i 0)) (l.drop (i + 1)) = 0 := tw_none fun x => by unfold goes; rw [h7]; unfold on; simp
    show 1 + tw (goes (l.getD i 0)) (l.drop (i + 1)) = 1
    rw [this]
  have hS := small_any ((l.getD i 0).toNat : Int)
  have hD := digit_any ((l.getD i 0).toNat : Int)
  have hG := sign_any ((l.getD i 0).toNat : Int)
  rw [e1]
  by_cases k4 : kd (l.getD i 0).toNat = 4
  · rw [if_pos k4]
    have hg : ∀ x : UInt8, goes (l.getD i 0) x = on 4 (kd x.toNat) := fun x => by unfold goes; rw [k4]
    have hE : en (l.drop i) = tw (fun x => on 4 (kd x.toNat)) (l.drop i) := by
      rw [en_at _ _ hlt, tw_step _ _ _ hlt, if_pos (by show on 4 (kd (l.getD i 0).toNat) = true; rw [k4]; decide), tw_congr hg]
    have hP : ∀ k, on 4 (kd (l.getD k 0).toNat) = true ↔ (decide (97 ≤ ((l.getD k 0).toNat : Int) ∧ ((l.getD k 0).toNat : Int) ≤ 122) = true ∨ decide (48 ≤ ((l.getD k 0).toNat : Int) ∧ ((l.getD k 0).toNat : Int) ≤ 57) = true ∨ ((l.getD k 0).toNat : Int) = 95) := fun k => by
      rw [on_iff, kd_4, kd_5, kd_6, decide_eq_true_iff, decide_eq_true_iff]
      omega
    refine (one_word ad l.length cap i (i + en (l.drop i)) (fun k => ((l.getD k 0).toNat : Int)) (fun k => decide (97 ≤ ((l.getD k 0).toNat : Int) ∧ ((l.getD k 0).toNat : Int) ≤ 122)) (fun k => decide (48 ≤ ((l.getD k 0).toNat : Int) ∧ ((l.getD k 0).toNat : Int) ≤ 57)) (fun k => tw (fun x => on 4 (kd x.toNat)) (l.drop k)) _ w hl hlt (by omega) (by omega) hcap hb HC (hide fun k hk w => small_any _ w) (hide fun k hk w => digit_any _ w)
      (hide (by rw [decide_eq_true_iff]; exact (kd_4 _).1 k4)) (hide fun k hk hp => ?_) (hide fun k hp => ?_) (hide (by rw [hE])) HV).mono ?_
    · show tw (fun x => on 4 (kd x.toNat)) (l.drop k) = 1 + tw (fun x => on 4 (kd x.toNat)) (l.drop (k + 1))
      rw [tw_step _ _ _ hk, if_pos ((hP k).2 hp)]
    · by_cases hk : k < l.length
      · show tw (fun x => on 4 (kd x.toNat)) (l.drop k) = 0
        rw [tw_step _ _ _ hk, if_neg (fun h => hp hk ((hP k).1 h))]
      · exact tw_end _ _ _ (by omega)
    · rintro e w' ⟨⟨hA, hB⟩, hk⟩
      refine ⟨?_, hk⟩
      by_cases hm : 24 < en (l.drop i)
      · rw [if_pos hm]; exact hB (by omega)
      · rw [if_neg hm]; exact hA (by omega)
  · rw [if_neg k4]
    have n4 : decide (97 ≤ ((l.getD i 0).toNat : Int) ∧ ((l.getD i 0).toNat : Int) ≤ 122) = false := by rw [decide_eq_false_iff_not, ← kd_4]; exact k4
    rw [n4] at hS
    by_cases k5 : kd (l.getD i 0).toNat = 5
    · rw [if_pos k5]
      have hg : ∀ x : UInt8, goes (l.getD i 0) x = on 5 (kd x.toNat) := fun x => by unfold goes; rw [k5]
      have hE : en (l.drop i) = tw (fun x => on 5 (kd x.toNat)) (l.drop i) := by
        rw [en_at _ _ hlt, tw_step _ _ _ hlt, if_pos (by show on 5 (kd (l.getD i 0).toNat) = true; rw [k5]; decide), tw_congr hg]
      have hP : ∀ k, on 5 (kd (l.getD k 0).toNat) = true ↔ (decide (48 ≤ ((l.getD k 0).toNat : Int) ∧ ((l.getD k 0).toNat : Int) ≤ 57) = true) := fun k => by
        rw [on_iff, kd_5, decide_eq_true_iff]
        omega
      have hdig : ∀ x, x ∈ (l.drop i).take (en (l.drop i)) → kd x.toNat = 5 := by rw [hd]; exact en_digits k5
      have hget : ∀ j, j < en (l.drop i) → ((l.drop i).take (en (l.drop i))).getD j 0 = l.getD (i + j) 0 := fun j hj => by
        rw [List.getD_eq_getElem?_getD, List.getElem?_take_of_lt hj, List.getElem?_drop, ← List.getD_eq_getElem?_getD]
      refine (one_num ad l.length cap i (i + en (l.drop i)) (fun k => ((l.getD k 0).toNat : Int)) (fun k => ((l.getD k 0).toNat : Int) - 48) (fun k => decide (48 ≤ ((l.getD k 0).toNat : Int) ∧ ((l.getD k 0).toNat : Int) ≤ 57)) (fun k => tw (fun x => on 5 (kd x.toNat)) (l.drop k)) (fun j => num (((l.drop i).take (en (l.drop i))).take j)) _ w hl hlt (by omega) (by omega) hcap hb HC (hide hS) (hide fun k hk w => digit_any _ w)
        (hide (by rw [decide_eq_true_iff]; exact (kd_5 _).1 k5)) (hide fun k hk hp => ?_) (hide fun k hk hp => ?_) (hide fun k hp => ?_) (hide (by rw [hE])) (hide (by simp [num])) (hide fun j hj hje => ?_) HV).mono ?_
      · rw [decide_eq_true_iff] at hp
        show ((l.getD k 0).toNat : Int) = ((l.getD k 0).toNat : Int) - 48 + 48 ∧ 0 ≤ ((l.getD k 0).toNat : Int) - 48 ∧ ((l.getD k 0).toNat : Int) - 48 ≤ 9
        omega
      · show tw (fun x => on 5 (kd x.toNat)) (l.drop k) = 1 + tw (fun x => on 5 (kd x.toNat)) (l.drop (k + 1))
        rw [tw_step _ _ _ hk, if_pos ((hP k).2 hp)]
      · by_cases hk : k < l.length
        · show tw (fun x => on 5 (kd x.toNat)) (l.drop k) = 0
          rw [tw_step _ _ _ hk, if_neg (fun h => by have h1 := (hP k).1 h; have h2 := hp hk; rw [h1] at h2; cases h2)]
        · exact tw_end _ _ _ (by omega)
      · have hj2 : j < en (l.drop i) := by omega
        have hb := num_bd _ hdig j (by omega)
        have hp : (10 : Int) ^ j ≤ 10 ^ 17 := by exact_mod_cast Nat.pow_le_pow_right (n := 10) (by decide) (show j ≤ 17 by omega)
        refine ⟨?_, hb.1, by omega⟩
        show num (((l.drop i).take (en (l.drop i))).take (j + 1)) = 10 * num (((l.drop i).take (en (l.drop i))).take j) + (((l.getD (i + j) 0).toNat : Int) - 48)
        rw [take_one _ j (by omega), num_snoc, hget j hj2]
        omega
      · rintro e w' ⟨⟨hA, hB⟩, hk⟩
        refine ⟨?_, hk⟩
        by_cases hm : 18 < en (l.drop i)
        · rw [if_pos hm]; exact hB (by omega)
        · rw [if_neg hm]
          have := hA (by omega)
          have ht : ((l.drop i).take (en (l.drop i))).take (i + en (l.drop i) - i) = (l.drop i).take (en (l.drop i)) := by rw [Nat.add_sub_cancel_left, List.take_take, Nat.min_self]
          simp only [ht] at this
          exact this
    · rw [if_neg k5]
      have n5 : decide (48 ≤ ((l.getD i 0).toNat : Int) ∧ ((l.getD i 0).toNat : Int) ≤ 57) = false := by rw [decide_eq_false_iff_not, ← kd_5]; exact k5
      rw [n5] at hD
      by_cases k7 : kd (l.getD i 0).toNat = 7
      · rw [if_pos k7]
        have y7 := (kd_7 _).1 k7
        rw [decide_eq_true y7] at hG
        have h71 := h7e k7
        rw [h71] at HV ⊢
        exact one_sign ad l.length cap i _ _ w hl hlt hcap hb (hide fun W hk => (unhide HC) i hlt W hk) (hide hS) (hide hD) (hide hG) HV
      · rw [if_neg k7]
        have n7 : ¬ _ := fun h => k7 ((kd_7 _).2 h)
        rw [decide_eq_false n7] at hG
        exact one_byte ad l.length cap i _ _ w hl hlt hcap hb (hide fun W hk => (unhide HC) i hlt W hk) (hide hS) (hide hD) (hide hG) (hide fun W hk => CV (i + 1) (by omega) (by omega) W hk)
end Go.Proofs.YtfjphcgipbgodaaDoor
