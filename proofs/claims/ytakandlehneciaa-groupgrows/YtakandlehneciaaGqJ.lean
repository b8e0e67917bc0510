/- Package group, plain: three layouts that are told of a job: its own, with one pair less, with one time more. -/
import Derived.Test.YtakandlehneciaaGqH
import Derived.Test.YtakandlehneciaaGqI
namespace Go.Proofs.Ytakandlehneciaa
set_option linter.unusedVariables false
set_option linter.unusedSimpArgs false
set_option maxRecDepth 10000
namespace Gp
open Pa
theorem jobR_of {RR : List (List Int)} {FR : List Bool} {AP : List P2} (h : Rt RR FR AP) : jobR RR FR AP = true := by
  have hr : RR.any noRow = false := by
    rw [List.any_eq_false]
    intro L hL
    obtain ⟨h1, h2, h3⟩ := h.row L hL
    unfold noRow
    rw [Bool.not_eq_true, Bool.or_eq_false_iff, decide_eq_false_iff_not, List.any_eq_false]
    refine ⟨by omega, fun t ht => ?_⟩
    have := h3 t ht
    unfold noT
    rw [Bool.not_eq_true, decide_eq_false_iff_not]
    omega
  rcases h.rows with h1 | h1
  · rw [jobR_3 h.free h1 hr, h.one h1]; rfl
  · rw [jobR_4 h.free h1 hr, decide_eq_true h.few, Bool.true_and, Bool.not_eq_true', List.any_eq_false]
    intro p hp
    have := h.pair p hp
    unfold noP
    rw [Bool.not_eq_true, decide_eq_false_iff_not]
    omega
theorem most_ge {RR : List (List Int)} {FR : List Bool} {AP : List P2} (hJ : jobR RR FR AP = true) : 2 ≤ mostN RR FR AP := by
  unfold mostN
  rw [if_pos hJ]
  have h0 := osN_pos (rt_of hJ) 0
  have h2 := osN_pos (rt_of hJ) 1
  have hp : 1 ≤ (osN RR FR 0).length * (osN RR FR 1).length := Nat.mul_pos h0 h2
  have h3 : 1 ≤ 2 ^ AP.length := Nat.one_le_two_pow
  have h4 := Nat.mul_le_mul (Nat.mul_le_mul h3 hp) (show 1 ≤ AP.length + 1 by omega)
  omega
theorem most_hi (RR : List (List Int)) (FR : List Bool) (AP : List P2) : 0 ≤ mostN RR FR AP ∧ mostN RR FR AP ≤ 10000000000 := by
  unfold mostN
  split
  · rename_i h
    have hrt := rt_of h
    have l0 := osN_len hrt 0
    have l1 := osN_len hrt 1
    have l2 := hrt.few
    have hP : (2 : Nat) ^ AP.length ≤ 65536 := Nat.pow_le_pow_right (by decide) l2
    have h2 : (osN RR FR 0).length * (osN RR FR 1).length ≤ 24 * 24 := Nat.mul_le_mul l0 l1
    have h3 := Nat.mul_le_mul (Nat.mul_le_mul hP h2) (show AP.length + 1 ≤ 17 by omega)
    omega
  · omega
/-- with as many steps as there may be -/
theorem lay_most {RR : List (List Int)} {FR : List Bool} {AP : List P2} {B : Option Bt} {sn er : Int} (hJ : jobR RR FR AP = true) (h : layN RR FR AP (mostN RR FR AP) = (B, sn, er)) : (er = 150 ∧ B = none ∧ bestN RR FR AP = none) ∨ (er = 0 ∧ ∃ b, B = some b ∧ bestN RR FR AP = some b) := by
  have := most_ge hJ
  rcases lay_of (bud := mostN RR FR AP) hJ (by omega) (most_le hJ (Int.le_refl _)) with ⟨h1, h2⟩ | ⟨b, h1, h2⟩
  · rw [h2] at h
    injection h with h3 h4
    injection h4 with h4 h5
    exact .inl ⟨h5.symm, h3.symm, h1⟩
  · rw [h2] at h
    injection h with h3 h4
    injection h4 with h4 h5
    exact .inr ⟨h5.symm, b, h3.symm, h1⟩
theorem best_bd {RR : List (List Int)} {FR : List Bool} {AP : List P2} {b : Bt} (hrt : Rt RR FR AP) (h : bestN RR FR AP = some b) : 0 ≤ b.2 ∧ b.2 ≤ 6000000 := by
  have hh := best_holds hrt h
  have h0 : 0 < RR.length := by rcases hrt.rows with h | h <;> omega
  obtain ⟨r1, r2, r3, r4, r5, r6⟩ := hh.row 0 h0
  obtain ⟨q, q1, q2, q3, q4, q5, q6, q7, q8⟩ := hh.col 0 h0 ((RR.getD 0 []).length - 1) (by omega)
  rw [edL_at (by omega), if_pos (by omega)] at q7 q8
  exact ⟨q7, q8⟩
theorem gr_res {RR : List (List Int)} {FR : List Bool} {AP : List P2} {Bo Bl : Option Bt} {sn er sl el : Int} {n : Nat} (hJ : jobR RR FR AP = true) (h1 : layN RR FR AP (mostN RR FR AP) = (Bo, sn, er)) (h2 : layN RR FR (AP.take n) (mostN RR FR (AP.take n)) = (Bl, sl, el)) :
    er = 150 ∨ (er = 0 ∧ el = 0 ∧ xb Bl ≤ xb Bo ∧ sumN (RR.getD 0 []) ≤ xb Bo ∧ 0 ≤ xb Bo ∧ xb Bo ≤ 6000000) := by
  have hrt := rt_of hJ
  rcases lay_most hJ h1 with ⟨e, _, _⟩ | ⟨e, b, rfl, hb⟩
  · exact .inl e
  · obtain ⟨b', hb', hl⟩ := less_ok hrt hb n
    have h0 : 0 < RR.length := by rcases hrt.rows with h | h <;> omega
    rcases lay_most (jobR_of (rt_less hrt n)) h2 with ⟨_, _, e2⟩ | ⟨e2, b2, rfl, hb2⟩
    · rw [e2] at hb'; cases hb'
    · rw [hb2] at hb'
      injection hb' with hb'
      subst hb'
      have := best_bd hrt hb
      exact .inr ⟨e, e2, hl, best_sum hrt hb h0, this.1, this.2⟩
/-- the rows with one time more -/
def mor (RR : List (List Int)) (k : Nat) (more : Int) : List (List Int) := (RR.getD 0 []).set k ((RR.getD 0 []).getD k 0 + more) :: RR.drop 1
theorem mor_gw {RR : List (List Int)} {k : Nat} {more : Int} (h0 : 0 < RR.length) (hk : k < (RR.getD 0 []).length) (hp : 0 ≤ more) : Gw RR (mor RR k more) k more := by
  refine ⟨by simp [mor]; omega, fun r => ?_, fun j => ?_, fun r hr => ?_, hk, hp⟩
  · cases r with
    | zero => simp [mor]
    | succ r =>
      rw [mor, List.getD_cons_succ, List.getD_eq_getElem?_getD, List.getElem?_drop, ← List.getD_eq_getElem?_getD, Nat.add_comm]
  · rw [mor, List.getD_cons_zero]
    by_cases e : j = k
    · subst e
      rw [if_pos rfl, List.getD_eq_getElem?_getD, List.getElem?_set_self hk]
      rfl
    · rw [if_neg e, List.getD_eq_getElem?_getD, List.getElem?_set_ne (by omega), ← List.getD_eq_getElem?_getD]; simp
  · obtain ⟨s, rfl⟩ : ∃ s, r = s + 1 := ⟨r - 1, by omega⟩
    rw [mor, List.getD_cons_succ, List.getD_eq_getElem?_getD, List.getElem?_drop, ← List.getD_eq_getElem?_getD, Nat.add_comm]
theorem mor_rt {RR : List (List Int)} {FR : List Bool} {AP : List P2} {k : Nat} {more : Int} (hrt : Rt RR FR AP) (hk : k < (RR.getD 0 []).length) (hp : 0 ≤ more) (ht : (RR.getD 0 []).getD k 0 + more ≤ 6000) : Rt (mor RR k more) FR AP := by
  have h0 : 0 < RR.length := by rcases hrt.rows with h | h <;> omega
  have hg := mor_gw h0 hk hp
  refine ⟨by rw [hg.len]; exact hrt.rows, by rw [hg.len]; exact hrt.free, fun L hL => ?_, fun e => hrt.one (by rw [← hg.len]; exact e), hrt.few, fun p hp => by rw [hg.lens, hg.lens]; exact hrt.pair p hp⟩
  unfold mor at hL
  rcases List.mem_cons.1 hL with rfl | hL
  · obtain ⟨h1, h2, h3⟩ := hrt.row _ (getD_mem (z := []) h0)
    refine ⟨by rw [List.length_set]; exact h1, by rw [List.length_set]; exact h2, fun t hm => ?_⟩
    rcases List.mem_or_eq_of_mem_set hm with h | h
    · exact h3 t h
    · have := h3 _ (getD_mem (z := 0) hk)
      omega
  · exact hrt.row L (List.mem_of_mem_drop hL)
theorem gr_more {RR : List (List Int)} {FR : List Bool} {AP : List P2} {Bo Bg : Option Bt} {sn er sg eg : Int} {k : Nat} {more : Int} (hJ : jobR RR FR AP = true) (hz : ∀ i, i < RR.length → ∀ j, j < (RR.getD i []).length → (RR.getD i []).getD j 0 ≠ 0) (hk : k < (RR.getD 0 []).length) (hp : 0 ≤ more) (ht : (RR.getD 0 []).getD k 0 + more ≤ 6000) (h1 : layN RR FR AP (mostN RR FR AP) = (Bo, sn, er)) (he : er = 0) (h2 : layN (mor RR k more) FR AP (mostN (mor RR k more) FR AP) = (Bg, sg, eg)) :
    eg = 0 ∧ xb Bo ≤ xb Bg ∧ xb Bg ≤ xb Bo + more := by
  have hrt := rt_of hJ
  have h0 : 0 < RR.length := by rcases hrt.rows with h | h <;> omega
  have hz2 : ∀ L ∈ RR, ∀ t ∈ L, 1 ≤ t := fun L hL t ht => by
    obtain ⟨i, hi, rfl⟩ := List.getElem_of_mem hL
    obtain ⟨j, hj, rfl⟩ := List.getElem_of_mem ht
    have h9 := hz i hi
    rw [List.getD_eq_getElem?_getD, List.getElem?_eq_getElem hi] at h9
    have h8 := h9 j hj
    simp only [Option.getD_some] at h8
    rw [List.getD_eq_getElem?_getD, List.getElem?_eq_getElem hj] at h8
    simp only [Option.getD_some] at h8
    have := (hrt.row _ hL).2.2 _ ht
    omega
  rcases lay_most hJ h1 with ⟨e, _, _⟩ | ⟨e, b, rfl, hb⟩
  · omega
  · have hr2 := mor_rt hrt hk hp ht
    obtain ⟨c, hc, hl, hu⟩ := grow_ok (mor_gw h0 hk hp) hz2 hrt hr2 hb
    rcases lay_most (jobR_of hr2) h2 with ⟨_, _, e2⟩ | ⟨e2, b2, rfl, hb2⟩
    · rw [e2] at hc; cases hc
    · rw [hb2] at hc
      injection hc with hc
      subst hc
      exact ⟨e2, hl, hu⟩
end Gp
end Go.Proofs.Ytakandlehneciaa
