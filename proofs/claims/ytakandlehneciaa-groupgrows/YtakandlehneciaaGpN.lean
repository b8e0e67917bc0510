/- Package group, plain: what a right job is; times of a row together; a time that no layout is shorter than. -/
import Derived.Test.YtakandlehneciaaGpS
namespace Go.Proofs.Ytakandlehneciaa
set_option linter.unusedVariables false
set_option linter.unusedSimpArgs false
set_option maxRecDepth 10000
namespace Gp
open Pa
/-- a row of times -/
def Rg (L : List Int) : Prop := 1 ≤ L.length ∧ L.length ≤ 4 ∧ ∀ t ∈ L, 0 ≤ t ∧ t ≤ 6000
/-- a job that may be -/
structure Rt (RR : List (List Int)) (FR : List Bool) (AP : List P2) : Prop where
  rows : RR.length = 1 ∨ RR.length = 2
  free : FR.length = RR.length
  row : ∀ L ∈ RR, Rg L
  one : RR.length = 1 → AP = []
  few : AP.length ≤ 16
  pair : ∀ p ∈ AP, 0 ≤ p.1 ∧ p.1 < ((RR.getD 0 []).length : Int) ∧ 0 ≤ p.2 ∧ p.2 < ((RR.getD 1 []).length : Int)
theorem rt_of {RR : List (List Int)} {FR : List Bool} {AP : List P2} (h : jobR RR FR AP = true) : Rt RR FR AP := by
  unfold jobR at h
  rw [Bool.and_eq_true, Bool.and_eq_true, decide_eq_true_eq, Bool.not_eq_true'] at h
  obtain ⟨⟨h1, h2⟩, h3⟩ := h
  have hrow : ∀ L ∈ RR, Rg L := fun L hL => by
    have := (List.any_eq_false.1 h2) L hL
    unfold noRow at this
    rw [Bool.not_eq_true, Bool.or_eq_false_iff, decide_eq_false_iff_not] at this
    refine ⟨by omega, by omega, fun t ht => ?_⟩
    have h4 := (List.any_eq_false.1 this.2) t ht
    unfold noT at h4
    rw [Bool.not_eq_true, decide_eq_false_iff_not] at h4
    omega
  by_cases h5 : RR.length = 1
  · rw [if_pos h5, decide_eq_true_eq] at h3
    have : AP = [] := List.eq_nil_of_length_eq_zero h3
    subst this
    exact ⟨.inl h5, h1.2.2, hrow, fun _ => rfl, by simp, fun p hp => by simp at hp⟩
  · rw [if_neg h5, Bool.and_eq_true, decide_eq_true_eq, Bool.not_eq_true'] at h3
    refine ⟨.inr (by omega), h1.2.2, hrow, fun h => absurd h h5, h3.1, fun p hp => ?_⟩
    have := (List.any_eq_false.1 h3.2) p hp
    unfold noP at this
    rw [Bool.not_eq_true, decide_eq_false_iff_not] at this
    omega
theorem getD_mem {α : Type} {l : List α} {k : Nat} {z : α} (h : k < l.length) : l.getD k z ∈ l := by
  rw [List.getD_eq_getElem?_getD, List.getElem?_eq_getElem h]
  exact List.getElem_mem h
theorem fold_more {α β : Type} (f : β → α → β) (b : β) (z : α) (l : List α) (k : Nat) (h : k < l.length) : (l.take (k + 1)).foldl f b = f ((l.take k).foldl f b) (l.getD k z) := by
  rw [List.take_add_one, List.foldl_append, List.getElem?_eq_getElem h, List.getD_eq_getElem?_getD, List.getElem?_eq_getElem h]
  rfl
theorem take_all {α : Type} (l : List α) : l.take l.length = l := List.take_length
def sumN (L : List Int) : Int := L.foldl (· + ·) 0
theorem sum_bd {L : List Int} (h : ∀ t ∈ L, 0 ≤ t ∧ t ≤ 6000) : ∀ k, k ≤ L.length → 0 ≤ (L.take k).foldl (· + ·) (0 : Int) ∧ (L.take k).foldl (· + ·) (0 : Int) ≤ 6000 * (k : Int)
  | 0, _ => by simp
  | k + 1, hk => by
    have ih := sum_bd h k (by omega)
    have := h (L.getD k 0) (getD_mem (by omega))
    rw [fold_more _ _ 0 L k (by omega)]
    omega
/-- the time of all that are apart from one, added up -/
def stA (r : List Int) (p : P2) (a : Int) (q : P2) : Int := if q.1 = p.1 then a + r.getD q.2.toNat 0 else a
def stB (r : List Int) (p : P2) (b : Int) (q : P2) : Int := if q.2 = p.2 then b + r.getD q.1.toNat 0 else b
def flA (RR : List (List Int)) : Int := RR.foldl (fun m r => max m (sumN r)) 0
def flS (r0 r1 : List Int) (D : List P2) (m : Int) (p : P2) : Int := max (max m (D.foldl (stA r1 p) (r0.getD p.1.toNat 0))) (D.foldl (stB r0 p) (r1.getD p.2.toNat 0))
/-- a time that no layout is shorter than -/
def flr (RR : List (List Int)) (D : List P2) : Int := D.foldl (flS (RR.getD 0 []) (RR.getD 1 []) D) (flA RR)
theorem rg_at {L : List Int} (h : ∀ t ∈ L, 0 ≤ t ∧ t ≤ 6000) (k : Nat) : 0 ≤ L.getD k 0 ∧ L.getD k 0 ≤ 6000 := by
  by_cases hk : k < L.length
  · exact h _ (getD_mem hk)
  · rw [List.getD_eq_getElem?_getD, List.getElem?_eq_none (by omega)]; simp
theorem stA_bd {r : List Int} (h : ∀ t ∈ r, 0 ≤ t ∧ t ≤ 6000) (p : P2) (D : List P2) {a : Int} (ha : 0 ≤ a ∧ a ≤ 6000) : ∀ k, k ≤ D.length → 0 ≤ (D.take k).foldl (stA r p) a ∧ (D.take k).foldl (stA r p) a ≤ 6000 + 6000 * (k : Int)
  | 0, _ => by simp; omega
  | k + 1, hk => by
    have ih := stA_bd h p D ha k (by omega)
    have := rg_at h (D.getD k z2).2.toNat
    rw [fold_more _ _ z2 D k (by omega)]
    simp only [stA]
    split <;> omega
theorem stB_bd {r : List Int} (h : ∀ t ∈ r, 0 ≤ t ∧ t ≤ 6000) (p : P2) (D : List P2) {a : Int} (ha : 0 ≤ a ∧ a ≤ 6000) : ∀ k, k ≤ D.length → 0 ≤ (D.take k).foldl (stB r p) a ∧ (D.take k).foldl (stB r p) a ≤ 6000 + 6000 * (k : Int)
  | 0, _ => by simp; omega
  | k + 1, hk => by
    have ih := stB_bd h p D ha k (by omega)
    have := rg_at h (D.getD k z2).1.toNat
    rw [fold_more _ _ z2 D k (by omega)]
    simp only [stB]
    split <;> omega
end Gp
end Go.Proofs.Ytakandlehneciaa
