/- The document's Nth, Rank, Next, Rows, of six numbers at most. -/
import Derived.Test.YteiogijopngohaaOdF
import Derived.Test.YteiogijopngohaaOdG
import Derived.Test.YteiogijopngohaaOdD
import Derived.Test.YteiogijopngohaaOdP
namespace Go.Proofs.Yteiogijopngohaa
open Go.RowKit
attribute [local go_sem ↓] Go.wp_at_zero Go.wp_at_succ
set_option linter.unusedVariables false
set_option linter.unusedSimpArgs false
set_option maxRecDepth 10000
namespace Od
theorem cnt_no {n : Int} (h : n < 0 ∨ 8 < n) : cnt n = 0 := by unfold cnt; rw [if_neg (by omega)]
theorem cnt_0 (n : Int) : 0 ≤ cnt n := by unfold cnt; split <;> omega
theorem rowsN_at {n : Int} {m k : Nat} (h : k < m) : (rowsN n m).getD k [] = nth n (k : Int) := by
  unfold rowsN
  rw [List.getD_eq_getElem?_getD, List.getElem?_map, List.getElem?_range h]; rfl
theorem ord_rows {n : Nat} (h : n ≤ 6) : ordK n n = rowsN (n : Int) (fc n) := by
  rw [ord_nth h]
  unfold rowsN
  apply List.map_congr_left
  intro k hk
  rw [nth_yes (by omega) (List.mem_range.1 hk)]
theorem rorders_any (n : Int) (h : n ≤ 6 ∨ 8 < n) (w : World) : Calls Try.prog 25 #[.int .i64 n] w (Wq (rowsN n (cnt n).toNat) w) := by
  by_cases h0 : n < 0 ∨ 8 < n
  · rw [cnt_no h0]
    exact rorders_no n h0 w
  · obtain ⟨m, rfl⟩ : ∃ m : Nat, n = (m : Int) := ⟨n.toNat, by omega⟩
    rw [cnt_nat (by omega), Int.toNat_natCast, ← ord_rows (by omega)]
    exact rorders_yes m (by omega) w
theorem Wr.pre {w : World} {va : Option Addr} {n : Int} {m k : Nat} (h : Wr w va (rowsN n m)) (hk : k ≤ m) : Wr w va (rowsN n k) := fun j hj => by
  rw [rowsN_len] at hj
  have := h j (by rw [rowsN_len]; omega)
  rw [rowsN_at (by omega)] at this ⊢
  exact this
set_option maxHeartbeats 2000000 in
theorem rnth_any (n k : Int) (h : n ≤ 6 ∨ 8 < n) (w : World) : Calls Try.prog 13 #[.int .i64 n, .int .i64 k] w (Iq (nth n k) w) := by
  have TO := hide (fun w => rorders_any n h w)
  obtain ⟨C, hC⟩ : ∃ C : Nat, cnt n = (C : Int) := ⟨(cnt n).toNat, by have := cnt_0 n; omega⟩
  rw [hC, Int.toNat_natCast] at TO
  by_cases h0 : k < 0
  · rw [nth_no (by omega)]
    go_enter Try.func13, Try.ntmps13
    go_wp2_with fail
    (refine ((unhide TO) _).mono ?_; rintro e w3 ⟨va, vc, rfl, hk9, hc9, hw9⟩; have K3 := hide hk9; clear hk9 hc9 hw9)
    go_wp2_with fail
    go_ret
    exact ⟨_, rfl, unhide K3, iw_nil _⟩
  by_cases h1 : k < (C : Int)
  · obtain ⟨i, rfl⟩ : ∃ i : Nat, k = (i : Int) := ⟨k.toNat, by omega⟩
    have hlt : i < C := by omega
    have li : ¬ (C : Int) ≤ (i : Int) := by omega
    clear hC
    go_enter Try.func13, Try.ntmps13
    go_wp2_with fail
    (refine ((unhide TO) _).mono ?_; rintro e w3 ⟨va, vc, rfl, hk9, hc9, hw9⟩; have K3 := hide hk9; have h9 := hw9 i (by rw [rowsN_len]; exact hlt); clear hk9 hc9 hw9)
    rw [rowsN_len]
    rw [rowsN_at hlt] at h9
    obtain ⟨ad, u, rfl, y0, hu⟩ := h9
    have HU := hide hu
    clear hu
    go_wp2_with fail
    go_ret
    exact ⟨_, rfl, unhide K3, unhide HU⟩
  · rw [nth_no (by omega)]
    have li : (C : Int) ≤ k := by omega
    clear hC
    go_enter Try.func13, Try.ntmps13
    go_wp2_with fail
    (refine ((unhide TO) _).mono ?_; rintro e w3 ⟨va, vc, rfl, hk9, hc9, hw9⟩; have K3 := hide hk9; clear hk9 hc9 hw9)
    rw [rowsN_len]
    go_wp2_with fail
    go_ret
    exact ⟨_, rfl, unhide K3, iw_nil _⟩
theorem rank_first {L : List Int} (h : isO L = true) : ∃ r : Nat, rank L = (r : Int) ∧ r < fc L.length ∧ nth (L.length : Int) (r : Int) = L ∧ ∀ i : Nat, i < r → nth (L.length : Int) (i : Int) ≠ L := by
  obtain ⟨h8, r, e, hr, hl⟩ := isO_rk h
  refine ⟨r, hr, hl, ?_, fun i hi he => ?_⟩
  · rw [nth_yes h8 hl]; exact nth_rk L (rg L.length) r (rg_len _) e
  · have := (nth_rank h8 (Nat.lt_trans hi hl)).2.1
    rw [he, hr] at this
    omega
set_option maxHeartbeats 2000000 in
theorem rrank_any (v : Value) (L : List Int) (w : World) (h : Is w v L) (hn : L.length ≤ 1000000) (h6 : L.length ≤ 6 ∨ 8 < L.length) : Calls Try.prog 17 #[v] w fun e w' => e = .returned (.int .i64 (rank L)) ∧ Keep w w' := by
  have TR := hide (right_any v L w h hn)
  have IS := hide h
  obtain ⟨a, cap, rfl, _⟩ := h
  cases hO : isO L with
  | false =>
    rw [rank_no hO]
    rw [hO] at TR
    generalize L.length = n at *
    clear hO
    go_enter Try.func17, Try.ntmps17
    go_wp2_with fail
    (refine (unhide TR).mono ?_; rintro e w1 ⟨rfl, hk9⟩; have K1 := hide hk9; clear hk9 TR)
    go_wp2_with fail
    go_ret
    exact ⟨rfl, unhide K1⟩
  | true =>
    obtain ⟨r, hr, hl, hat, hne⟩ := rank_first hO
    have h8 := (isO_rk hO).1
    have TO := hide (fun w => rorders_any (L.length : Int) (by omega) w)
    rw [cnt_nat h8, Int.toNat_natCast] at TO
    rw [hr]
    rw [hO] at TR
    obtain ⟨F, hF⟩ : ∃ F, fc L.length = F := ⟨_, rfl⟩
    have hFb := fc_le h8
    rw [hF] at TO hl hFb
    have TS := hide (fun u M w (h : Is w u M) (g : Is w (.slice a L.length cap) L) (hm : M.length ≤ 1000000) => same_any u _ M L w h g hm hn)
    have HAT := hide hat
    have HNE := hide hne
    have HNL : Hid (∀ i : Nat, i < F → (nth (L.length : Int) (i : Int)).length ≤ 1000000) := hide (fun i hi => by have := (nth_rank h8 (show i < fc L.length by omega)).2.2; omega)
    obtain ⟨n, hn9⟩ : ∃ n, L.length = n := ⟨_, rfl⟩
    rw [hn9] at hn h8 IS TR TO TS HAT HNE HNL ⊢
    clear hO hr hat hne hF hn9 h6
    go_enter Try.func17, Try.ntmps17
    go_wp2_with fail
    (refine (unhide TR).mono ?_; rintro e w1 ⟨rfl, hk9⟩; have K1 := hide hk9; clear hk9 TR)
    go_wp2_with fail
    (refine ((unhide TO) _).mono ?_; rintro e w3 ⟨va, vc, rfl, hk9, hc9, hw9⟩; have K3 := hide ((unhide K1).trans hk9); have WR := hide hw9; clear hk9 hc9 hw9)
    rw [rowsN_len]
    go_wp2_with fail
    go_loopw [4] (fun vi wr => ∃ i : Nat, i ≤ r ∧ vi = .int .i64 (i : Int) ∧ Hid (Keep w3 wr)) (fun vi _ => r - (intOf vi).toNat)
    case atStart => exact ⟨0, Nat.zero_le _, rfl, hide (Keep.refl _)⟩
    case round =>
      obtain ⟨i, hi, rfl, KW⟩ := hrel
      have hlt : i < F := by omega
      have li : (i : Int) < (F : Int) := by omega
      have h9 := (unhide WR) i (by rw [rowsN_len]; exact hlt)
      rw [rowsN_at hlt] at h9
      obtain ⟨ad, u, rfl, y9, hu⟩ := h9
      have y0 := kc (unhide KW) y9
      have HU := hide (hu.keep (unhide KW)).is
      have TSi := hide ((unhide TS) u _ wr (unhide HU) (((unhide IS).keep (unhide K3)).keep (unhide KW)) (unhide HNL i hlt))
      clear y9 hu
      go_wp2_with fail
      (refine (unhide TSi).mono ?_; rintro e w4 ⟨rfl, hk9⟩; have K4 := hide ((unhide KW).trans hk9); clear hk9 TSi)
      by_cases hir : i = r
      · subst hir
        rw [unhide HAT]
        rw [decide_eq_true (rfl : L = L)]
        clear y0
        go_wp2_with fail
        go_ret
        exact ⟨rfl, (unhide K3).trans (unhide K4)⟩
      · rw [decide_eq_false (unhide HNE i (by omega))]
        clear y0
        go_wp2_with fail
        go_roundw
        case rel => exact ⟨i + 1, by omega, by go_num, K4⟩
        case measure => simp [intOf]; omega
set_option maxHeartbeats 2000000 in
theorem rnext_any (v : Value) (L : List Int) (w : World) (h : Is w v L) (hn : L.length ≤ 1000000) (h6 : L.length ≤ 6 ∨ 8 < L.length) : Calls Try.prog 15 #[v] w (Nq L w) := by
  have TR := hide (rrank_any v L w h hn h6)
  have TN := hide (fun k w => rnth_any (L.length : Int) k (by omega) w)
  have TC := hide (fun w => rcount_any (L.length : Int) w)
  obtain ⟨a, cap, rfl, _⟩ := h
  have hb := rank_bd L
  by_cases hlt : 0 ≤ rank L ∧ rank L + 1 < cnt (L.length : Int)
  · have hO : isO L = true := by
      cases hO : isO L with
      | true => rfl
      | false => rw [rank_no hO] at hlt; omega
    have h1 : nxB L = true := by unfold nxB; rw [hO, decide_eq_true hlt.2]; rfl
    have HP : Hid (∀ e w' v, Keep w w' → Iw w' v (nth (L.length : Int) (rank L + 1)) → e = .returned (.tuple #[v, .bool true]) → Nq L w e w') := hide (fun e w' v hk hi he => ⟨v, by rw [h1]; exact he, hk, by unfold nxL; rw [h1]; exact hi⟩)
    have hr0 : ¬ (rank L < 0) := by omega
    have hge : ¬ (cnt (L.length : Int) ≤ rank L + 1) := by omega
    have TN := hide ((unhide TN) (rank L + 1))
    generalize Nq L w = QQ at HP ⊢
    generalize nth (L.length : Int) (rank L + 1) = N at TN HP
    generalize rank L = r at *
    generalize cnt (L.length : Int) = c at *
    generalize L.length = n at *
    clear h1 hO hlt
    go_enter Try.func15, Try.ntmps15
    go_wp2_with fail
    (refine (unhide TR).mono ?_; rintro e w1 ⟨rfl, hk9⟩; have K1 := hide hk9; clear hk9 TR)
    go_wp2_with fail
    (refine ((unhide TC) _).mono ?_; rintro e w2 ⟨rfl, hk9⟩; have K2 := hide ((unhide K1).trans hk9); clear hk9 TC)
    go_wp2_with fail
    (refine ((unhide TN) _).mono ?_; rintro e w3 ⟨v3, rfl, hk9, hi9⟩; have K3 := hide ((unhide K2).trans hk9); have HI := hide hi9; clear hk9 hi9 TN)
    go_wp2_with fail
    try go_ret2
    exact (unhide HP) _ _ _ (unhide K3) (unhide HI) rfl
  · have h1 : nxB L = false := by
      unfold nxB
      cases hO : isO L with
      | false => rfl
      | true => rw [Bool.true_and]; exact decide_eq_false (fun h => hlt ⟨(isO_cnt hO).2, h⟩)
    have HP : Hid (∀ e w', Keep w w' → e = .returned (.tuple #[.slice none 0 0, .bool false]) → Nq L w e w') := hide (fun e w' hk he => ⟨_, by rw [h1]; exact he, hk, by unfold nxL; rw [h1]; exact iw_nil _⟩)
    generalize Nq L w = QQ at HP ⊢
    generalize rank L = r at *
    generalize cnt (L.length : Int) = c at *
    clear h1 TN
    generalize L.length = n at *
    by_cases hr0 : r < 0
    · clear hlt
      go_enter Try.func15, Try.ntmps15
      go_wp2_with fail
      (refine (unhide TR).mono ?_; rintro e w1 ⟨rfl, hk9⟩; have K1 := hide hk9; clear hk9 TR)
      go_wp2_with fail
      try go_ret2
      exact (unhide HP) _ _ (unhide K1) rfl
    · have hge : c ≤ r + 1 := by omega
      clear hlt
      go_enter Try.func15, Try.ntmps15
      go_wp2_with fail
      (refine (unhide TR).mono ?_; rintro e w1 ⟨rfl, hk9⟩; have K1 := hide hk9; clear hk9 TR)
      go_wp2_with fail
      (refine ((unhide TC) _).mono ?_; rintro e w2 ⟨rfl, hk9⟩; have K2 := hide ((unhide K1).trans hk9); clear hk9 TC)
      go_wp2_with fail
      try go_ret2
      exact (unhide HP) _ _ (unhide K2) rfl
set_option maxHeartbeats 2000000 in
theorem rrows_any (free : Bool) (n : Int) (h : n ≤ 6 ∨ 8 < n) (w : World) : Calls Try.prog 21 #[.bool free, .int .i64 n] w (Wq (rowsN n (if free then (cnt n).toNat else min (cnt n).toNat 1)) w) := by
  have TO := hide (fun w => rorders_any n h w)
  generalize (cnt n).toNat = C at TO ⊢
  cases free with
  | true =>
    go_enter Try.func21, Try.ntmps21
    go_wp2_with fail
    (refine ((unhide TO) _).mono ?_; rintro e w3 ⟨va, vc, rfl, hk9, hc9, hw9⟩; have K3 := hide hk9; have HC := hide hc9; have WR := hide hw9; clear hk9 hc9 hw9)
    rw [rowsN_len] at HC ⊢
    go_wp2_with fail
    go_ret
    exact ⟨va, vc, by rw [rowsN_len]; rfl, unhide K3, by rw [rowsN_len]; exact unhide HC, unhide WR⟩
  | false =>
    by_cases h1 : 1 < C
    · have h2 : (1 : Int) < (C : Int) := by omega
      have hm : (if false = true then C else min C 1) = 1 := by simp; omega
      rw [hm]
      go_enter Try.func21, Try.ntmps21
      go_wp2_with fail
      (refine ((unhide TO) _).mono ?_; rintro e w3 ⟨va, vc, rfl, hk9, hc9, hw9⟩; have K3 := hide hk9; have HC := hide (hw9.pre (k := 1) (by omega)); rw [rowsN_len] at hc9; have h3 : (1 : Int) ≤ (vc : Int) := (by omega); have h4 : 1 ≤ vc := (by omega); clear hk9 hw9)
      rw [rowsN_len]
      go_wp2_with fail
      go_ret
      exact ⟨va, vc, by rw [rowsN_len]; rfl, unhide K3, by rw [rowsN_len]; omega, unhide HC⟩
    · have h2 : ¬ (1 : Int) < (C : Int) := by omega
      have hm : (if false = true then C else min C 1) = C := by simp; omega
      rw [hm]
      go_enter Try.func21, Try.ntmps21
      go_wp2_with fail
      (refine ((unhide TO) _).mono ?_; rintro e w3 ⟨va, vc, rfl, hk9, hc9, hw9⟩; have K3 := hide hk9; have HC := hide hc9; have WR := hide hw9; clear hk9 hc9 hw9)
      rw [rowsN_len] at HC ⊢
      go_wp2_with fail
      go_ret
      exact ⟨va, vc, by rw [rowsN_len]; rfl, unhide K3, by rw [rowsN_len]; exact unhide HC, unhide WR⟩
end Od
end Go.Proofs.Yteiogijopngohaa
