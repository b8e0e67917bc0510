/- Orders of numbers, plain: places and orders undo one another. -/
import Derived.Test.YtakandlehneciaaNum
namespace Go.Proofs.Ytakandlehneciaa
set_option linter.unusedVariables false
set_option linter.unusedSimpArgs false
set_option maxRecDepth 10000
namespace Od
/-- how many orders there are -/
def fc : Nat → Nat
  | 0 => 1
  | n + 1 => fc n * (n + 1)
theorem fc_pos : ∀ n, 0 < fc n
  | 0 => by simp [fc]
  | n + 1 => by rw [fc]; exact Nat.mul_pos (fc_pos n) (by omega)
theorem fc_mono {m n : Nat} (h : m ≤ n) : fc m ≤ fc n := by
  induction h with
  | refl => exact Nat.le_refl _
  | step h ih => exact Nat.le_trans ih (by rw [fc]; exact Nat.le_mul_of_pos_right _ (by omega))
theorem fc_le {n : Nat} (h : n ≤ 8) : fc n ≤ 40320 := Nat.le_trans (fc_mono h) (by decide)
def cnt (n : Int) : Int := if 0 ≤ n ∧ n ≤ 8 then (fc n.toNat : Int) else 0
theorem cnt_nat {n : Nat} (h : n ≤ 8) : cnt (n : Int) = (fc n : Int) := by
  unfold cnt
  rw [if_pos ⟨by omega, by omega⟩]
  simp
/-- the numbers from 0 on -/
def rg (n : Nat) : List Int := (List.range n).map (fun (k : Nat) => (k : Int))
theorem rg_len (n : Nat) : (rg n).length = n := by simp [rg]
theorem rg_at {n k : Nat} (h : k < n) : (rg n).getD k 0 = (k : Int) := by simp [rg, h]
theorem rg_mem {n : Nat} {x : Int} : x ∈ rg n ↔ 0 ≤ x ∧ x < (n : Int) := by
  simp only [rg, List.mem_map, List.mem_range]
  constructor
  · rintro ⟨k, hk, rfl⟩; omega
  · rintro ⟨h0, h1⟩; exact ⟨x.toNat, by omega, by omega⟩
theorem rg_up (n : Nat) : (rg n).Pairwise (· < ·) := by
  unfold rg
  rw [List.pairwise_map]
  exact List.pairwise_lt_range.imp (fun h => by omega)
theorem up_nd {l : List Int} (h : l.Pairwise (· < ·)) : l.Nodup := h.imp (fun h => by omega)
theorem rg_nd (n : Nat) : (rg n).Nodup := up_nd (rg_up n)
/-- an order by its place -/
def nthL : Nat → List Int → Nat → List Int
  | 0, l, k => []
  | m + 1, l, k => l.getD (k / fc m) 0 :: nthL m (l.eraseIdx (k / fc m)) (k % fc m)
theorem nthL_len : ∀ (m : Nat) (l : List Int) (k : Nat), (nthL m l k).length = m
  | 0, l, k => rfl
  | m + 1, l, k => by rw [nthL, List.length_cons, nthL_len m]
/-- an order's place -/
def rk : List Int → List Int → Option Nat
  | l, [] => some 0
  | l, x :: p => if l.idxOf x < l.length then (rk (l.eraseIdx (l.idxOf x)) p).map (fun r => l.idxOf x * fc (l.length - 1) + r) else none
theorem div_lt {m k : Nat} (h : k < fc (m + 1)) : k / fc m < m + 1 := by
  rw [Nat.div_lt_iff_lt_mul (fc_pos m), Nat.mul_comm]
  exact h
theorem idx_at {l : List Int} (hn : l.Nodup) {i : Nat} (hi : i < l.length) : l.idxOf (l.getD i 0) = i := by
  rw [List.getD_eq_getElem?_getD, List.getElem?_eq_getElem hi]
  exact hn.idxOf_getElem i hi
theorem at_idx {l : List Int} {x : Int} (h : l.idxOf x < l.length) : l.getD (l.idxOf x) 0 = x := by
  rw [List.getD_eq_getElem?_getD, List.getElem?_eq_getElem h]
  exact List.getElem_idxOf h
theorem nd_erase {l : List Int} (hn : l.Nodup) (i : Nat) : (l.eraseIdx i).Nodup := hn.sublist (List.eraseIdx_sublist l i)
theorem up_erase {l : List Int} (hn : l.Pairwise (· < ·)) (i : Nat) : (l.eraseIdx i).Pairwise (· < ·) := hn.sublist (List.eraseIdx_sublist l i)
theorem len_erase {l : List Int} {m i : Nat} (hl : l.length = m + 1) (hi : i < m + 1) : (l.eraseIdx i).length = m := by
  rw [List.length_eraseIdx_of_lt (by omega)]; omega
theorem rk_nth : ∀ (m : Nat) (l : List Int) (k : Nat), l.length = m → l.Nodup → k < fc m → rk l (nthL m l k) = some k
  | 0, l, k, hl, hn, hk => by
    have : k = 0 := by simp [fc] at hk; omega
    subst this
    simp [nthL, rk]
  | m + 1, l, k, hl, hn, hk => by
    have hq := div_lt hk
    rw [nthL, rk, idx_at hn (by omega), if_pos (by omega), rk_nth m _ _ (len_erase hl hq) (nd_erase hn _) (Nat.mod_lt _ (fc_pos m))]
    simp only [Option.map_some, hl, Nat.add_sub_cancel]
    rw [Nat.mul_comm, Nat.div_add_mod]
theorem rk_lt : ∀ (p l : List Int) (r : Nat), l.length = p.length → rk l p = some r → r < fc p.length
  | [], l, r, hl, h => by simp [rk] at h; subst h; simp [fc]
  | x :: p, l, r, hl, h => by
    rw [rk] at h
    split at h
    · rename_i hi
      cases e : rk (l.eraseIdx (l.idxOf x)) p with
      | none => rw [e] at h; simp at h
      | some s =>
        rw [e] at h
        simp only [Option.map_some, Option.some.injEq] at h
        have hs := rk_lt p _ s (by rw [List.length_eraseIdx_of_lt hi, hl]; simp) e
        rw [List.length_cons, fc, ← h, hl, List.length_cons, Nat.add_sub_cancel]
        rw [hl, List.length_cons] at hi
        have h5 : (l.idxOf x + 1) * fc p.length ≤ (p.length + 1) * fc p.length := Nat.mul_le_mul_right _ (by omega)
        rw [Nat.succ_mul, Nat.mul_comm (p.length + 1)] at h5
        omega
    · cases h
theorem nth_rk : ∀ (p l : List Int) (r : Nat), l.length = p.length → rk l p = some r → nthL p.length l r = p
  | [], l, r, hl, h => rfl
  | x :: p, l, r, hl, h => by
    rw [rk] at h
    split at h
    · rename_i hi
      cases e : rk (l.eraseIdx (l.idxOf x)) p with
      | none => rw [e] at h; simp at h
      | some s =>
        rw [e] at h
        simp only [Option.map_some, Option.some.injEq] at h
        have hl2 : (l.eraseIdx (l.idxOf x)).length = p.length := by rw [List.length_eraseIdx_of_lt hi, hl]; simp
        have hs := rk_lt p _ s hl2 e
        rw [hl, List.length_cons, Nat.add_sub_cancel] at h
        have hd : r / fc p.length = l.idxOf x := by
          rw [← h, Nat.mul_comm, Nat.mul_add_div (fc_pos _), Nat.div_eq_of_lt hs, Nat.add_zero]
        have hm : r % fc p.length = s := by rw [← h, Nat.mul_comm, Nat.mul_add_mod, Nat.mod_eq_of_lt hs]
        rw [List.length_cons, nthL, hd, hm, at_idx hi, nth_rk p _ s hl2 e]
    · cases h
theorem mem_erase {l : List Int} (hn : l.Nodup) {i : Nat} (hi : i < l.length) {y : Int} : y ∈ l ↔ y = l.getD i 0 ∨ y ∈ l.eraseIdx i := by
  rw [List.mem_iff_getElem?, List.mem_iff_getElem?, List.getD_eq_getElem?_getD, List.getElem?_eq_getElem hi]
  simp only [Option.getD_some, List.getElem?_eraseIdx]
  constructor
  · rintro ⟨j, hj⟩
    rcases Nat.lt_trichotomy j i with h | h | h
    · exact .inr ⟨j, by rw [if_pos h]; exact hj⟩
    · subst h; rw [List.getElem?_eq_getElem hi] at hj; simp at hj; exact .inl hj.symm
    · refine .inr ⟨j - 1, ?_⟩
      rw [if_neg (by omega), Nat.sub_add_cancel (by omega)]; exact hj
  · rintro (rfl | ⟨j, hj⟩)
    · exact ⟨i, List.getElem?_eq_getElem hi⟩
    · split at hj
      · exact ⟨j, hj⟩
      · exact ⟨j + 1, hj⟩
/-- what has a place has every number -/
theorem rk_all : ∀ (p l : List Int) (r : Nat), l.length = p.length → l.Nodup → rk l p = some r → ∀ y, y ∈ l ↔ y ∈ p
  | [], l, r, hl, hn, h, y => by
    obtain rfl : l = [] := List.eq_nil_of_length_eq_zero hl
    simp
  | x :: p, l, r, hl, hn, h, y => by
    rw [rk] at h
    split at h
    · rename_i hi
      cases e : rk (l.eraseIdx (l.idxOf x)) p with
      | none => rw [e] at h; simp at h
      | some s =>
        rw [mem_erase hn hi, at_idx hi, rk_all p _ s (by rw [List.length_eraseIdx_of_lt hi, hl]; simp) (nd_erase hn _) e y]
        simp
    · cases h
theorem rk_nd : ∀ (p l : List Int) (r : Nat), l.length = p.length → l.Nodup → rk l p = some r → p.Nodup
  | [], l, r, hl, hn, h => List.nodup_nil
  | x :: p, l, r, hl, hn, h => by
    rw [rk] at h
    split at h
    · rename_i hi
      cases e : rk (l.eraseIdx (l.idxOf x)) p with
      | none => rw [e] at h; simp at h
      | some s =>
        have hl2 : (l.eraseIdx (l.idxOf x)).length = p.length := by rw [List.length_eraseIdx_of_lt hi, hl]; simp
        have ha := rk_all p _ s hl2 (nd_erase hn _) e
        refine List.nodup_cons.2 ⟨fun hx => ?_, rk_nd p _ s hl2 (nd_erase hn _) e⟩
        have := (ha x).2 hx
        obtain ⟨j, hj⟩ := List.mem_iff_getElem?.1 this
        rw [List.getElem?_eraseIdx] at hj
        have key : ∀ a, l[a]? = some x → a = l.idxOf x := by
          intro a ha
          obtain ⟨h1, h2⟩ := List.getElem?_eq_some_iff.1 ha
          rw [← h2, hn.idxOf_getElem a h1]
        split at hj
        · have := key j hj; omega
        · have := key _ hj; omega
    · cases h
/-- as many are wanted as there are -/
theorem nd_le : ∀ (l p : List Int), l.Nodup → (∀ y ∈ l, y ∈ p) → l.length ≤ p.length
  | [], p, hn, h => by simp
  | x :: l, p, hn, h => by
    have hx : x ∈ p := h x (by simp)
    have hn' := List.nodup_cons.1 hn
    have := nd_le l (p.erase x) hn'.2 (fun y hy => by
      have hne : y ≠ x := fun e => hn'.1 (e ▸ hy)
      exact (List.mem_erase_of_ne hne).2 (h y (by simp [hy])))
    rw [List.length_erase_of_mem hx] at this
    have : 0 < p.length := List.length_pos_of_mem hx
    simp only [List.length_cons]
    omega
theorem rk_of : ∀ (p l : List Int), l.length = p.length → l.Nodup → (∀ y ∈ l, y ∈ p) → ∃ r, rk l p = some r
  | [], l, hl, hn, h => ⟨0, by simp [rk]⟩
  | x :: p, l, hl, hn, h => by
    have hi : l.idxOf x < l.length := by
      rw [List.idxOf_lt_length_iff]
      rcases Classical.em (x ∈ l) with hx | hx
      · exact hx
      · exfalso
        have := nd_le l p hn (fun y hy => by
          rcases List.mem_cons.1 (h y hy) with e | e
          · exact absurd (e ▸ hy) hx
          · exact e)
        simp only [List.length_cons] at hl
        omega
    have hl2 : (l.eraseIdx (l.idxOf x)).length = p.length := by rw [List.length_eraseIdx_of_lt hi, hl]; simp
    obtain ⟨s, hs⟩ := rk_of p (l.eraseIdx (l.idxOf x)) hl2 (nd_erase hn _) (fun y hy => by
      have h1 : y ∈ l := (List.eraseIdx_sublist l _).subset hy
      rcases List.mem_cons.1 (h y h1) with e | e
      · exfalso
        subst e
        obtain ⟨j, hj⟩ := List.mem_iff_getElem?.1 hy
        rw [List.getElem?_eraseIdx] at hj
        have key : ∀ a, l[a]? = some y → a = l.idxOf y := by
          intro a ha
          obtain ⟨h1, h2⟩ := List.getElem?_eq_some_iff.1 ha
          rw [← h2, hn.idxOf_getElem a h1]
        split at hj
        · have := key j hj; omega
        · have := key _ hj; omega
      · exact e)
    exact ⟨_, by rw [rk, if_pos hi, hs]; rfl⟩
/-- whether a row is an order; its place -/
def isO (p : List Int) : Bool := decide (p.length ≤ 8) && (rg p.length).all (fun v => decide (v ∈ p))
def rank (p : List Int) : Int := if isO p then ((rk (rg p.length) p).getD 0 : Nat) else -1
theorem isO_rk {p : List Int} (h : isO p = true) : p.length ≤ 8 ∧ ∃ r, rk (rg p.length) p = some r ∧ rank p = (r : Int) ∧ r < fc p.length := by
  have hr : rank p = (((rk (rg p.length) p).getD 0 : Nat) : Int) := by unfold rank; rw [if_pos h]
  simp only [isO, Bool.and_eq_true, decide_eq_true_eq, List.all_eq_true] at h
  obtain ⟨r, e⟩ := rk_of p (rg p.length) (rg_len _) (rg_nd _) h.2
  exact ⟨h.1, r, e, by rw [hr, e]; rfl, rk_lt p _ r (rg_len _) e⟩
theorem rk_isO {p : List Int} {r : Nat} (h8 : p.length ≤ 8) (h : rk (rg p.length) p = some r) : isO p = true := by
  simp only [isO, Bool.and_eq_true, decide_eq_true_eq, List.all_eq_true]
  exact ⟨h8, fun y hy => (rk_all p _ r (rg_len _) (rg_nd _) h y).1 hy⟩
theorem isO_no {p : List Int} (h8 : p.length ≤ 8) (h : rk (rg p.length) p = none) : isO p = false := by
  cases e : isO p with
  | false => rfl
  | true => obtain ⟨_, r, e1, _⟩ := isO_rk e; rw [h] at e1; cases e1
theorem rank_no {p : List Int} (h : isO p = false) : rank p = -1 := by unfold rank; rw [h]; rfl
theorem rank_bd (p : List Int) : -1 ≤ rank p ∧ rank p < 40320 := by
  cases e : isO p with
  | false => rw [rank_no e]; omega
  | true =>
    obtain ⟨h8, r, _, h, hl⟩ := isO_rk e
    have := fc_le h8
    omega
/-- an order by its place: none where there is none -/
def nth (n k : Int) : List Int := if 0 ≤ k ∧ k < cnt n then nthL n.toNat (rg n.toNat) k.toNat else []
theorem nth_yes {n k : Nat} (h8 : n ≤ 8) (hk : k < fc n) : nth n k = nthL n (rg n) k := by
  unfold nth
  rw [cnt_nat h8, if_pos ⟨by omega, by omega⟩]
  simp
theorem nth_no {n k : Int} (h : ¬ (0 ≤ k ∧ k < cnt n)) : nth n k = [] := by unfold nth; rw [if_neg h]
theorem nth_rank {n k : Nat} (h8 : n ≤ 8) (hk : k < fc n) : isO (nth n k) = true ∧ rank (nth n k) = k ∧ (nth n k).length = n := by
  rw [nth_yes h8 hk]
  have hl := nthL_len n (rg n) k
  have h := rk_nth n (rg n) k (rg_len n) (rg_nd n) hk
  have h1 : isO (nthL n (rg n) k) = true := rk_isO (by omega) (by rw [hl]; exact h)
  refine ⟨h1, ?_, hl⟩
  obtain ⟨_, r, e, hr, _⟩ := isO_rk h1
  rw [hl, h] at e
  injection e with e
  rw [hr, e]
/-- where each number stands -/
def tl (p : List Int) : List Int := (List.range p.length).map (fun (v : Nat) => (p.idxOf (v : Int) : Int))
def tlk (p : List Int) (i : Nat) : List Int := (List.range p.length).map (fun (v : Nat) => if p.idxOf (v : Int) < i then (p.idxOf (v : Int) : Int) else 0)
theorem isO_all {p : List Int} (h : isO p = true) : p.Nodup ∧ ∀ y, y ∈ p ↔ 0 ≤ y ∧ y < (p.length : Int) := by
  obtain ⟨h8, r, e, _⟩ := isO_rk h
  exact ⟨rk_nd p _ r (rg_len _) (rg_nd _) e, fun y => by rw [← rk_all p _ r (rg_len _) (rg_nd _) e y, rg_mem]⟩
theorem tlk_zero (p : List Int) : tlk p 0 = List.replicate p.length 0 := by
  rw [List.eq_replicate_iff]
  refine ⟨by simp [tlk], fun b hb => ?_⟩
  simp only [tlk, List.mem_map] at hb
  obtain ⟨v, _, rfl⟩ := hb
  simp
theorem tlk_end {p : List Int} (h : isO p = true) : tlk p p.length = tl p := by
  obtain ⟨hn, ha⟩ := isO_all h
  unfold tlk tl
  apply List.map_congr_left
  intro v hv
  rw [if_pos]
  rw [List.idxOf_lt_length_iff, ha]
  have := List.mem_range.1 hv
  omega
theorem tlk_len (p : List Int) (i : Nat) : (tlk p i).length = p.length := by simp [tlk]
theorem isO_at {p : List Int} (h : isO p = true) {i : Nat} (hi : i < p.length) : 0 ≤ p.getD i 0 ∧ p.getD i 0 < (p.length : Int) := by
  obtain ⟨hn, ha⟩ := isO_all h
  rw [← ha, List.getD_eq_getElem?_getD, List.getElem?_eq_getElem hi]
  exact List.getElem_mem hi
theorem tlk_more {p : List Int} (h : isO p = true) {i : Nat} (hi : i < p.length) : (tlk p i).set (p.getD i 0).toNat (i : Int) = tlk p (i + 1) := by
  obtain ⟨hn, ha⟩ := isO_all h
  have hb := isO_at h hi
  apply List.ext_getElem?
  intro v
  rw [List.getElem?_set]
  unfold tlk
  simp only [List.length_map, List.length_range, List.getElem?_map]
  by_cases hv : v < p.length
  · rw [List.getElem?_range hv]
    simp only [Option.map_some]
    by_cases e : (p.getD i 0).toNat = v
    · rw [if_pos e, if_pos (by omega)]
      have : (v : Int) = p.getD i 0 := by omega
      rw [this, idx_at hn hi, if_pos (by omega)]
    · rw [if_neg e]
      have hv2 : (v : Int) ∈ p := by rw [ha]; omega
      have hlt := List.idxOf_lt_length_iff.2 hv2
      have hne : p.idxOf (v : Int) ≠ i := by
        intro e2
        have := at_idx hlt
        rw [e2] at this
        omega
      by_cases h2 : p.idxOf (v : Int) < i
      · rw [if_pos h2, if_pos (by omega)]
      · rw [if_neg h2, if_neg (by omega)]
  · rw [List.getElem?_eq_none (by simp; omega)]
    simp
    intro h1; omega
theorem tl_at {p : List Int} {v : Nat} (hv : v < p.length) : (tl p).getD v 0 = (p.idxOf (v : Int) : Int) := by
  simp [tl, hv]
theorem tl_len (p : List Int) : (tl p).length = p.length := by simp [tl]
theorem tl_back {p : List Int} (h : isO p = true) {i : Nat} (hi : i < p.length) : (tl p).getD (p.getD i 0).toNat 0 = (i : Int) := by
  obtain ⟨hn, ha⟩ := isO_all h
  have hb := isO_at h hi
  rw [tl_at (by omega), show (((p.getD i 0).toNat : Nat) : Int) = p.getD i 0 by omega, idx_at hn hi]
theorem tl_isO {p : List Int} (h : isO p = true) : isO (tl p) = true := by
  have h8 := (isO_rk h).1
  simp only [isO, Bool.and_eq_true, decide_eq_true_eq, List.all_eq_true, tl_len]
  refine ⟨h8, fun y hy => ?_⟩
  rw [rg_mem] at hy
  have hb := isO_at h (show y.toNat < p.length by omega)
  have := tl_back h (show y.toNat < p.length by omega)
  rw [List.getD_eq_getElem?_getD, List.getElem?_eq_getElem (by rw [tl_len]; omega)] at this
  simp only [Option.getD_some] at this
  rw [show y = ((y.toNat : Nat) : Int) by omega, ← this]
  exact List.getElem_mem _
theorem tl_tl {p : List Int} (h : isO p = true) : tl (tl p) = p := by
  have ho := tl_isO h
  obtain ⟨hn, ha⟩ := isO_all ho
  apply List.ext_getElem?
  intro i
  by_cases hi : i < p.length
  · have hb := isO_at h hi
    have h1 : (tl (tl p)).getD i 0 = p.getD i 0 := by
      rw [tl_at (by rw [tl_len]; exact hi), ← tl_back h hi, idx_at hn (by rw [tl_len]; omega)]
      omega
    rw [List.getD_eq_getElem?_getD, List.getD_eq_getElem?_getD] at h1
    rw [List.getElem?_eq_getElem hi, List.getElem?_eq_getElem (by rw [tl_len, tl_len]; exact hi)] at h1 ⊢
    simpa using h1
  · rw [List.getElem?_eq_none (by rw [tl_len, tl_len]; omega), List.getElem?_eq_none (by omega)]
/-- the one ahead has the lesser place -/
theorem nth_lt : ∀ (m : Nat) (l : List Int) (i k : Nat), l.length = m → l.Pairwise (· < ·) → i < fc m → k < fc m → i < k → ∃ j, j < m ∧ (∀ a, a < j → (nthL m l i).getD a 0 = (nthL m l k).getD a 0) ∧ (nthL m l i).getD j 0 < (nthL m l k).getD j 0
  | 0, l, i, k, hl, hu, hi, hk, h => by simp [fc] at hi hk; omega
  | m + 1, l, i, k, hl, hu, hi, hk, h => by
    have h1 := div_lt hi
    have h2 := div_lt hk
    have hle : i / fc m ≤ k / fc m := Nat.div_le_div_right (Nat.le_of_lt h)
    rcases Nat.lt_or_eq_of_le hle with h3 | h3
    · refine ⟨0, by omega, fun a ha => by omega, ?_⟩
      simp only [nthL, List.getD_cons_zero]
      rw [List.getD_eq_getElem?_getD, List.getD_eq_getElem?_getD, List.getElem?_eq_getElem (show i / fc m < l.length by omega), List.getElem?_eq_getElem (show k / fc m < l.length by omega)]
      exact List.pairwise_iff_getElem.1 hu _ _ _ _ h3
    · have h4 : i % fc m < k % fc m := by
        have e1 := Nat.div_add_mod i (fc m)
        have e2 := Nat.div_add_mod k (fc m)
        rw [h3] at e1
        omega
      obtain ⟨j, hj, ha, hb⟩ := nth_lt m (l.eraseIdx (k / fc m)) (i % fc m) (k % fc m) (len_erase hl h2) (up_erase hu _) (Nat.mod_lt _ (fc_pos m)) (Nat.mod_lt _ (fc_pos m)) h4
      refine ⟨j + 1, by omega, fun a haj => ?_, ?_⟩
      · cases a with
        | zero => simp only [nthL, List.getD_cons_zero, h3]
        | succ a => simp only [nthL, List.getD_cons_succ, h3]; exact ha a (by omega)
      · simp only [nthL, List.getD_cons_succ, h3]; exact hb
end Od
end Go.Proofs.Ytakandlehneciaa
