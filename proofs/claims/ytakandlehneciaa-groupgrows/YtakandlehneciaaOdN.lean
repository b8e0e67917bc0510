/- All orders, one behind the other, by the document's way: the same as by their places (of six numbers at most). -/
import Derived.Test.YtakandlehneciaaOdM
namespace Go.Proofs.Ytakandlehneciaa
set_option linter.unusedVariables false
set_option linter.unusedSimpArgs false
set_option maxRecDepth 100000
namespace Od
/-- a row's next ones, of the numbers below v -/
def nx (r : List Int) (v : Nat) : List (List Int) := ((rg v).filter (fun x => !(decide (x ∈ r)))).map (fun x => r ++ [x])
def stp (n : Nat) (O : List (List Int)) : List (List Int) := O.flatMap (fun r => nx r n)
def ordK (n : Nat) : Nat → List (List Int)
  | 0 => [[]]
  | i + 1 => stp n (ordK n i)
theorem nx_more (r : List Int) (v : Nat) : nx r (v + 1) = nx r v ++ (if decide ((v : Int) ∈ r) then [] else [r ++ [(v : Int)]]) := by
  unfold nx rg
  rw [List.range_succ, List.map_append, List.filter_append, List.map_append]
  by_cases h : (v : Int) ∈ r <;> simp [h]
theorem stp_more (n : Nat) (O : List (List Int)) (k : Nat) (hk : k < O.length) : stp n (O.take (k + 1)) = stp n (O.take k) ++ nx (O.getD k []) n := by
  unfold stp
  rw [List.take_add_one, List.flatMap_append, List.getElem?_eq_getElem hk, List.getD_eq_getElem?_getD, List.getElem?_eq_getElem hk]
  simp
/-- how many there are on the way -/
def ok (n : Nat) : Bool := (List.range (n + 1)).all (fun i => (ordK n i).length ≤ 100000) && (ordK n n == (List.range (fc n)).map (nthL n (rg n)))
theorem ok0 : ok 0 = true := by decide +kernel
theorem ok1 : ok 1 = true := by decide +kernel
theorem ok2 : ok 2 = true := by decide +kernel
theorem ok3 : ok 3 = true := by decide +kernel
theorem ok4 : ok 4 = true := by decide +kernel
theorem ok5 : ok 5 = true := by decide +kernel
theorem ok6 : ok 6 = true := by decide +kernel
theorem ok_all {n : Nat} (h : n ≤ 6) : ok n = true := by
  have : n = 0 ∨ n = 1 ∨ n = 2 ∨ n = 3 ∨ n = 4 ∨ n = 5 ∨ n = 6 := by omega
  rcases this with rfl | rfl | rfl | rfl | rfl | rfl | rfl
  · exact ok0
  · exact ok1
  · exact ok2
  · exact ok3
  · exact ok4
  · exact ok5
  · exact ok6
theorem ord_len {n i : Nat} (h : n ≤ 6) (hi : i ≤ n) : (ordK n i).length ≤ 100000 := by
  have := ok_all h
  simp only [ok, Bool.and_eq_true, List.all_eq_true, decide_eq_true_eq] at this
  exact this.1 i (List.mem_range.2 (by omega))
theorem ord_nth {n : Nat} (h : n ≤ 6) : ordK n n = (List.range (fc n)).map (nthL n (rg n)) := by
  have := ok_all h
  simp only [ok, Bool.and_eq_true] at this
  exact eq_of_beq this.2
theorem stp_le (n : Nat) (O : List (List Int)) (k : Nat) : (stp n (O.take k)).length ≤ (stp n O).length := by
  have h : stp n O = stp n (O.take k) ++ stp n (O.drop k) := by unfold stp; rw [← List.flatMap_append, List.take_append_drop]
  rw [h, List.length_append]; omega
theorem nx_le (r : List Int) (v : Nat) : (nx r v).length ≤ v := by
  unfold nx
  rw [List.length_map]
  exact Nat.le_trans (List.length_filter_le _ _) (by rw [rg_len]; exact Nat.le_refl _)
theorem ord_row : ∀ (n i : Nat) (r : List Int), r ∈ ordK n i → r.length = i
  | n, 0, r, h => by simp [ordK] at h; subst h; rfl
  | n, i + 1, r, h => by
    rw [ordK, stp, List.mem_flatMap] at h
    obtain ⟨q, hq, h⟩ := h
    simp only [nx, List.mem_map] at h
    obtain ⟨x, _, rfl⟩ := h
    simp [ord_row n i q hq]
end Od
end Go.Proofs.Ytakandlehneciaa
