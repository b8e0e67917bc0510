/- The document's Nth, Rank, Next, Rows, of six numbers at most. -/
import Derived.Test.YtakandlehneciaaOdF
import Derived.Test.YtakandlehneciaaOdG
import Derived.Test.YtakandlehneciaaOdD
import Derived.Test.YtakandlehneciaaOdP
namespace Go.Proofs.Ytakandlehneciaa
open Go.RowKit
attribute [local go_sem ↓] Go.wp_at_zero Go.wp_at_succ
set_option linter.unusedVariables false
set_option linter.unusedSimpArgs false
set_option maxRecDepth 10000
namespace Od
theorem cnt_no {n : Int} (h : n < 0 ∨ 8 < n) : cnt n = 0 := by unfold cnt; rw [if_neg (by omega)]
theorem cnt_0 (n : Int) : 0 ≤ cnt n := by unfold cnt; split <;> omega
theorem rowsN_at {n : Int} {m k : Nat} (h : k < m) : (rowsN n m).getD k [] = nth n (k : Int) := by
  unfold rowsN
  rw [List.getD_eq_getElem?_getD, List.getElem?_map, List.getElem?_range h]; rfl
theorem ord_rows {n : Nat} (h : n ≤ 6) : ordK n n = rowsN (n : Int) (fc n) := by
  rw [ord_nth h]
  unfold rowsN
  apply List.map_congr_left
  intro k hk
  rw [nth_yes (by omega) (List.mem_range.1 hk)]
theorem rorders_any (n : Int) (h : n ≤ 6 ∨ 8 < n) (w : World) : Calls Try.prog 59 #[.int .i64 n] w (Wq (rowsN n (cnt n).toNat) w) := by
  by_cases h0 : n < 0 ∨ 8 < n
  · rw [cnt_no h0]
    exact rorders_no n h0 w
  · obtain ⟨m, rfl⟩ : ∃ m : Nat, n = (m : Int) := ⟨n.toNat, by omega⟩
    rw [cnt_nat (by omega), Int.toNat_natCast, ← ord_rows (by omega)]
    exact rorders_yes m (by omega) w
theorem Wr.pre {w : World} {va : Option Addr} {n : Int} {m k : Nat} (h : Wr w va (rowsN n m)) (hk : k ≤ m) : Wr w va (rowsN n k) := fun j hj => by
  rw [rowsN_len] at hj
  have := h j (by rw [rowsN_len]; omega)
  rw [rowsN_at (by omega)] at this ⊢
  exact this
theorem rank_first {L : List Int} (h : isO L = true) : ∃ r : Nat, rank L = (r : Int) ∧ r < fc L.length ∧ nth (L.length : Int) (r : Int) = L ∧ ∀ i : Nat, i < r → nth (L.length : Int) (i : Int) ≠ L := by
  obtain ⟨h8, r, e, hr, hl⟩ := isO_rk h
  refine ⟨r, hr, hl, ?_, fun i hi he => ?_⟩
  · rw [nth_yes h8 hl]; exact nth_rk L (rg L.length) r (rg_len _) e
  · have := (nth_rank h8 (Nat.lt_trans hi hl)).2.1
    rw [he, hr] at this
    omega
set_option maxHeartbeats 2000000 in
theorem rrows_any (free : Bool) (n : Int) (h : n ≤ 6 ∨ 8 < n) (w : World) : Calls Try.prog 41 #[.bool free, .int .i64 n] w (Wq (rowsN n (if free then (cnt n).toNat else min (cnt n).toNat 1)) w) := by
  have TO := hide (fun w => rorders_any n h w)
  generalize (cnt n).toNat = C at TO ⊢
  cases free with
  | true =>
    go_enter Try.func41, Try.ntmps41
    go_wp2_with fail
    (refine ((unhide TO) _).mono ?_; rintro e w3 ⟨va, vc, rfl, hk9, hc9, hw9⟩; have K3 := hide hk9; have HC := hide hc9; have WR := hide hw9; clear hk9 hc9 hw9)
    rw [rowsN_len] at HC ⊢
    go_wp2_with fail
    go_ret
    exact ⟨va, vc, by rw [rowsN_len]; rfl, unhide K3, by rw [rowsN_len]; exact unhide HC, unhide WR⟩
  | false =>
    by_cases h1 : 1 < C
    · have h2 : (1 : Int) < (C : Int) := by omega
      have hm : (if false = true then C else min C 1) = 1 := by simp; omega
      rw [hm]
      go_enter Try.func41, Try.ntmps41
      go_wp2_with fail
      (refine ((unhide TO) _).mono ?_; rintro e w3 ⟨va, vc, rfl, hk9, hc9, hw9⟩; have K3 := hide hk9; have HC := hide (hw9.pre (k := 1) (by omega)); rw [rowsN_len] at hc9; have h3 : (1 : Int) ≤ (vc : Int) := (by omega); have h4 : 1 ≤ vc := (by omega); clear hk9 hw9)
      rw [rowsN_len]
      go_wp2_with fail
      go_ret
      exact ⟨va, vc, by rw [rowsN_len]; rfl, unhide K3, by rw [rowsN_len]; omega, unhide HC⟩
    · have h2 : ¬ (1 : Int) < (C : Int) := by omega
      have hm : (if false = true then C else min C 1) = C := by simp; omega
      rw [hm]
      go_enter Try.func41, Try.ntmps41
      go_wp2_with fail
      (refine ((unhide TO) _).mono ?_; rintro e w3 ⟨va, vc, rfl, hk9, hc9, hw9⟩; have K3 := hide hk9; have HC := hide hc9; have WR := hide hw9; clear hk9 hc9 hw9)
      rw [rowsN_len] at HC ⊢
      go_wp2_with fail
      go_ret
      exact ⟨va, vc, by rw [rowsN_len]; rfl, unhide K3, by rw [rowsN_len]; exact unhide HC, unhide WR⟩
end Od
end Go.Proofs.Ytakandlehneciaa
