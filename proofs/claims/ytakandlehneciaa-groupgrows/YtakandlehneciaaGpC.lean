/- Package group, plain: a layout's edges are a graph; more of them make it no shorter. -/
import Derived.Test.YtakandlehneciaaGpJ
namespace Go.Proofs.Ytakandlehneciaa
set_option linter.unusedVariables false
set_option linter.unusedSimpArgs false
set_option maxRecDepth 10000
namespace Gp
open Pa
theorem ptN_ge (RR : List (List Int)) : ∀ r, 2 ≤ ptN RR r
  | 0 => Nat.le_refl _
  | r + 1 => by have := ptN_ge RR r; rw [ptN]; omega
theorem ptN_up (RR : List (List Int)) {r R : Nat} (h : r ≤ R) : ptN RR r ≤ ptN RR R := by
  induction h with
  | refl => exact Nat.le_refl _
  | step h ih => rw [ptN]; omega
theorem ptN_le {RR : List (List Int)} (h : ∀ L ∈ RR, Rg L) : ∀ r, ptN RR r ≤ 2 + 3 * r
  | 0 => Nat.le_refl _
  | r + 1 => by
    have := ptN_le h r
    rw [ptN]
    by_cases hr : r < RR.length
    · have := (h _ (getD_mem (z := []) hr)).2.1; omega
    · rw [List.getD_eq_getElem?_getD, List.getElem?_eq_none (by omega)]; simp; omega
/-- the marks of a row -/
theorem mk_at (p n : Nat) {k : Nat} (hk : k ≤ n + 1) : (mkL p (n + 1)).getD k 0 = if k = 0 then 0 else if k = n + 1 then 1 else ((p + (k - 1) : Nat) : Int) := by
  unfold mkL mkP
  rw [Nat.add_sub_cancel, List.cons_append]
  cases k with
  | zero => rfl
  | succ k =>
    rw [List.getD_cons_succ, if_neg (by omega)]
    by_cases h : k = n
    · subst h
      rw [if_pos rfl, List.getD_eq_getElem?_getD, List.getElem?_append_right (by simp)]
      simp
    · rw [if_neg (by omega), List.getD_eq_getElem?_getD, List.getElem?_append_left (by simp; omega)]
      simp [show k < n by omega]
/-- a layout of a job -/
structure La (RR : List (List Int)) (D : List P2) (o : O2) : Prop where
  two : RR.length = 1 ∨ RR.length = 2
  row : ∀ L ∈ RR, Rg L
  ord : ∀ r, r < RR.length → Od.isO ((oo RR.length o).getD r []) = true ∧ ((oo RR.length o).getD r []).length = (RR.getD r []).length
  pair : ∀ p ∈ D, ∃ a b : Nat, p = ((a : Int), (b : Int)) ∧ a < (RR.getD 0 []).length ∧ b < (RR.getD 1 []).length ∧ RR.length = 2
theorem oo_len {R : Nat} (h : R = 1 ∨ R = 2) (o : O2) : (oo R o).length = R := by rcases h with rfl | rfl <;> simp [oo]
/-- a mark is a point -/
theorem mk_in {RR : List (List Int)} (hr : ∀ L ∈ RR, Rg L) {r k : Nat} (h : r < RR.length) (hk : k ≤ (RR.getD r []).length) : ∃ q : Nat, (mkR RR r).getD k 0 = (q : Int) ∧ q < ptN RR RR.length := by
  have h1 := (hr _ (getD_mem (z := []) h)).1
  obtain ⟨n, hn⟩ : ∃ n, (RR.getD r []).length = n + 1 := ⟨_, (Nat.sub_add_cancel h1).symm⟩
  have h2 := ptN_ge RR r
  have h3 := ptN_up RR (show r + 1 ≤ RR.length by omega)
  rw [ptN, hn] at h3
  rw [mkR, hn, mk_at _ _ (by omega)]
  by_cases c1 : k = 0
  · exact ⟨0, by rw [if_pos c1]; rfl, by omega⟩
  · by_cases c2 : k = n + 1
    · exact ⟨1, by rw [if_neg c1, if_pos c2]; rfl, by omega⟩
    · exact ⟨_, by rw [if_neg c1, if_neg c2], by omega⟩
theorem mkR_len {RR : List (List Int)} (hr : ∀ L ∈ RR, Rg L) {r : Nat} (h : r < RR.length) : (mkR RR r).length = (RR.getD r []).length + 1 := by
  have h1 := (hr _ (getD_mem (z := []) h)).1
  obtain ⟨n, hn⟩ : ∃ n, (RR.getD r []).length = n + 1 := ⟨_, (Nat.sub_add_cancel h1).symm⟩
  rw [mkR, hn, mkL_len]
theorem MK_at (RR : List (List Int)) {r R : Nat} (h : r < R) : (MKn RR R).getD r [] = mkR RR r := by
  rw [List.getD_eq_getElem?_getD, MKn, List.getElem?_map, List.getElem?_range h]; rfl
theorem PL_at (OO : List (List Int)) {r R : Nat} (h : r < R) : (PLn OO R).getD r [] = Od.tnL (OO.getD r []) := by
  rw [List.getD_eq_getElem?_getD, PLn, List.getElem?_map, List.getElem?_range h]; rfl
/-- one that may stand in a graph of n points -/
def okE (n : Nat) (e : E3) : Prop := ∃ p q : Nat, e.1 = (p : Int) ∧ e.2.1 = (q : Int) ∧ p < n ∧ q < n ∧ 0 ≤ e.2.2 ∧ e.2.2 ≤ 6000
theorem ph_ok {RR OO : List (List Int)} (hr : ∀ L ∈ RR, Rg L) (ho : ∀ r, r < RR.length → (OO.getD r []).length = (RR.getD r []).length) : ∀ r, r ≤ RR.length → ∀ e ∈ PHn RR OO r, okE (ptN RR RR.length) e
  | 0, _, e, he => by simp [PHn] at he
  | r + 1, h, e, he => by
    rw [PHn, List.mem_append] at he
    rcases he with he | he
    · exact ph_ok hr ho r (by omega) e he
    · obtain ⟨k, hk, rfl⟩ := List.mem_map.1 he
      rw [List.mem_range] at hk
      obtain ⟨p, hp, hp2⟩ := mk_in hr (show r < RR.length by omega) (k := k) (by omega)
      obtain ⟨q, hq, hq2⟩ := mk_in hr (show r < RR.length by omega) (k := k + 1) (by omega)
      have ht := rg_at (hr _ (getD_mem (z := []) (show r < RR.length by omega))).2.2 ((OO.getD r []).getD k 0).toNat
      exact ⟨p, q, hp, hq, hp2, hq2, ht.1, ht.2⟩
theorem ph_len (RR OO : List (List Int)) (hr : ∀ L ∈ RR, Rg L) : ∀ r, (PHn RR OO r).length ≤ 4 * r
  | 0 => by simp [PHn]
  | r + 1 => by
    have := ph_len RR OO hr r
    rw [PHn, List.length_append, phL_len]
    by_cases h : r < RR.length
    · have := (hr _ (getD_mem (z := []) h)).2.1; omega
    · rw [List.getD_eq_getElem?_getD, List.getElem?_eq_none (by omega)]; simp; omega
/-- what the places of a pair are -/
theorem pl_in {o : List Int} {n a : Nat} (h : Od.isO o = true) (hl : o.length = n) (ha : a < n) : ∃ k : Nat, (Od.tnL o).getD a 0 = (k : Int) ∧ k < n ∧ o.getD k 0 = (a : Int) := by
  have e : Od.tnL o = Od.tl o := by unfold Od.tnL; rw [if_pos h]
  have hm := ((Od.isO_all h).2 (a : Int)).2 ⟨by omega, by omega⟩
  have hi := List.idxOf_lt_length_iff.2 hm
  exact ⟨o.idxOf (a : Int), by rw [e, Od.tl_at (by omega)], by omega, Od.at_idx hi⟩
end Gp
end Go.Proofs.Ytakandlehneciaa
