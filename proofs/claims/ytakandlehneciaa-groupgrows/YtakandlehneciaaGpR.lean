/- Package order: Rows, told as rows of the call's own. -/
import Derived.Test.YtakandlehneciaaOdF
namespace Go.Proofs.Ytakandlehneciaa
open Go.RowKit
attribute [local go_sem ↓] Go.wp_at_zero Go.wp_at_succ
set_option linter.unusedVariables false
set_option linter.unusedSimpArgs false
set_option maxRecDepth 10000
namespace Od
theorem og_mono {B B' : Nat} {w : World} {v : Value} {LL : List (List Int)} (h : Og B w v LL) (hb : B' ≤ B) : Og B' w v LL := by
  obtain ⟨US, h1, h2, h3⟩ := h
  exact ⟨US, h1, own_mono h2 hb, h3⟩
def Wg (LL : List (List Int)) (w : World) (e : Ending) (w' : World) : Prop := ∃ v, e = .returned v ∧ Keep w w' ∧ Og w.heap.size w' v LL
set_option maxHeartbeats 4000000 in
theorem rowsG_core (free : Bool) (n : Int) (C D : Nat) (w : World) (hC : C ≤ 1000) (hD : D ≤ C) (hm : (free = true ∧ D = C) ∨ (free = false ∧ C ≤ 1 ∧ D = C) ∨ (free = false ∧ 1 < C ∧ D = 1))
    (TC : Hid (∀ w, Calls Try.prog 57 #[.int .i64 n] w fun e w' => e = .returned (.int .i64 (C : Int)) ∧ Keep w w'))
    (TN : Hid (∀ (k : Nat) w, Calls Try.prog 58 #[.int .i64 n, .int .i64 (k : Int)] w (Iq (nth n (k : Int)) w))) :
    Calls Try.prog 40 #[.bool free, .int .i64 n] w (Wg (rowsN n D) w) := by
  obtain ⟨i1, hi1, hz10, hz11, hz12⟩ := info_f infoR2
  rcases hm with ⟨rfl, rfl⟩ | ⟨rfl, hm⟩ | ⟨rfl, hm, rfl⟩
  · go_enter Try.func40, Try.ntmps40
    go_wp2_with fail
    (refine ((unhide TC) _).mono ?_; rintro e w3 ⟨rfl, hk9⟩; have K3 := hide hk9; clear hk9)
    go_wp2_with fail
    go_loopw [6, 15] (fun vo vi wr => ∃ i : Nat, i ≤ D ∧ vi = .int .i64 (i : Int) ∧ Hid (Og w3.heap.size wr vo (rowsN n i)) ∧ Hid (Keep w3 wr)) (fun vo vi _ => D - (intOf vi).toNat)
    case atStart => exact ⟨0, Nat.zero_le _, rfl, hide (og_nil _ _), hide (Keep.refl _)⟩
    case round =>
      obtain ⟨k, hk, rfl, OG, KW⟩ := hrel
      obtain ⟨US, hus, hown, hrow⟩ := unhide OG
      obtain ⟨ao, co, rfl⟩ := own_l hown
      have HO := hide hown
      have HU := hide hus
      have HRW := hide hrow
      rw [rowsN_len] at HO
      clear hus hown hrow
      by_cases hlt : k < D
      · have li : (k : Int) < (D : Int) := by omega
        rw [rowsN_len]
        go_wp2_with fail
        (refine ((unhide TN) k wr).mono ?_; rintro e w4 ⟨v4, rfl, hk9, hi9⟩; have K4 := hide hk9; have I4 := hide hi9; obtain ⟨a4, c4, hv4⟩ := hi9.sl; subst hv4; clear hk9 hi9)
        obtain ⟨n4, hn4⟩ : ∃ m, (nth n (k : Int)).length = m := ⟨_, rfl⟩
        rw [hn4] at I4 ⊢
        have HO4 := hide (own_k (unhide HO) (unhide K4))
        go_wp2_with (at_builtin; refine wpList_append_own _ rfl _ _ 28 rfl w3.heap.size 49 i1 _ 1 24 Try.underlying28 hi1 hz10 hz11 hz12 rfl (by decide) _ _ _ rfl ((unhide HO4).alloc _) ⟨w4.heap.size, 0, none⟩ 1 1 [.slice a4 n4 c4] rfl rfl (new_v w4 [.slice a4 n4 c4] _) (by simp [Value.oneCell']) (by unfold maxLen; omega) (by omega) (by have h1 := Below.size (unhide KW); have h2 := Below.size (unhide K4); simp; omega) ?_; intro v7 w7 hown' hgrow hnil; have HO7 := hide hown'; have HG7 := hide hgrow; clear hown' hgrow hnil)
        have K7 : Hid (Keep w3 w7) := hide (Below.grown (((unhide KW).trans (unhide K4)).alloc (.cells #[.slice a4 n4 c4] 49)) (unhide HG7) (by have h1 := Below.size (unhide KW); have h2 := Below.size (unhide K4); simp; omega) (fun j ej => ((unhide HO).lt j ej).1))
        go_roundw
        case rel =>
          refine ⟨k + 1, hlt, by go_num, hide ?_, K7⟩
          rw [rowsN_more]
          exact og_more (unhide HU) (rowsN_len _ _) ((unhide HO4).alloc _) (fun j hj => ((unhide HRW j hj).keep (unhide K4)).keep ((Keep.refl _).alloc _)) ((unhide I4).keep ((Keep.refl _).alloc _)) (unhide HO7) (unhide HG7)
        case measure => simp [intOf]; omega
      · have li : ¬ (k : Int) < (D : Int) := by omega
        obtain rfl : k = D := by omega
        go_wp2_with fail
        go_ret
        exact ⟨_, rfl, (unhide K3).trans (unhide KW), og_mono (unhide OG) (Below.size (unhide K3))⟩
  · have hc : (C : Int) ≤ 1 := by omega
    obtain rfl : D = C := hm.2
    clear hm
    go_enter Try.func40, Try.ntmps40
    go_wp2_with fail
    (refine ((unhide TC) _).mono ?_; rintro e w3 ⟨rfl, hk9⟩; have K3 := hide hk9; clear hk9)
    go_wp2_with fail
    go_loopw [6, 15] (fun vo vi wr => ∃ i : Nat, i ≤ D ∧ vi = .int .i64 (i : Int) ∧ Hid (Og w3.heap.size wr vo (rowsN n i)) ∧ Hid (Keep w3 wr)) (fun vo vi _ => D - (intOf vi).toNat)
    case atStart => exact ⟨0, Nat.zero_le _, rfl, hide (og_nil _ _), hide (Keep.refl _)⟩
    case round =>
      obtain ⟨k, hk, rfl, OG, KW⟩ := hrel
      obtain ⟨US, hus, hown, hrow⟩ := unhide OG
      obtain ⟨ao, co, rfl⟩ := own_l hown
      have HO := hide hown
      have HU := hide hus
      have HRW := hide hrow
      rw [rowsN_len] at HO
      clear hus hown hrow
      by_cases hlt : k < D
      · have li : (k : Int) < (D : Int) := by omega
        rw [rowsN_len]
        go_wp2_with fail
        (refine ((unhide TN) k wr).mono ?_; rintro e w4 ⟨v4, rfl, hk9, hi9⟩; have K4 := hide hk9; have I4 := hide hi9; obtain ⟨a4, c4, hv4⟩ := hi9.sl; subst hv4; clear hk9 hi9)
        obtain ⟨n4, hn4⟩ : ∃ m, (nth n (k : Int)).length = m := ⟨_, rfl⟩
        rw [hn4] at I4 ⊢
        have HO4 := hide (own_k (unhide HO) (unhide K4))
        go_wp2_with (at_builtin; refine wpList_append_own _ rfl _ _ 28 rfl w3.heap.size 49 i1 _ 1 24 Try.underlying28 hi1 hz10 hz11 hz12 rfl (by decide) _ _ _ rfl ((unhide HO4).alloc _) ⟨w4.heap.size, 0, none⟩ 1 1 [.slice a4 n4 c4] rfl rfl (new_v w4 [.slice a4 n4 c4] _) (by simp [Value.oneCell']) (by unfold maxLen; omega) (by omega) (by have h1 := Below.size (unhide KW); have h2 := Below.size (unhide K4); simp; omega) ?_; intro v7 w7 hown' hgrow hnil; have HO7 := hide hown'; have HG7 := hide hgrow; clear hown' hgrow hnil)
        have K7 : Hid (Keep w3 w7) := hide (Below.grown (((unhide KW).trans (unhide K4)).alloc (.cells #[.slice a4 n4 c4] 49)) (unhide HG7) (by have h1 := Below.size (unhide KW); have h2 := Below.size (unhide K4); simp; omega) (fun j ej => ((unhide HO).lt j ej).1))
        go_roundw
        case rel =>
          refine ⟨k + 1, hlt, by go_num, hide ?_, K7⟩
          rw [rowsN_more]
          exact og_more (unhide HU) (rowsN_len _ _) ((unhide HO4).alloc _) (fun j hj => ((unhide HRW j hj).keep (unhide K4)).keep ((Keep.refl _).alloc _)) ((unhide I4).keep ((Keep.refl _).alloc _)) (unhide HO7) (unhide HG7)
        case measure => simp [intOf]; omega
      · have li : ¬ (k : Int) < (D : Int) := by omega
        obtain rfl : k = D := by omega
        go_wp2_with fail
        go_ret
        exact ⟨_, rfl, (unhide K3).trans (unhide KW), og_mono (unhide OG) (Below.size (unhide K3))⟩
  · have hc : ¬ (C : Int) ≤ 1 := by omega
    go_enter Try.func40, Try.ntmps40
    go_wp2_with fail
    (refine ((unhide TC) _).mono ?_; rintro e w3 ⟨rfl, hk9⟩; have K3 := hide hk9; clear hk9)
    go_wp2_with fail
    go_loopw [6, 15] (fun vo vi wr => ∃ i : Nat, i ≤ 1 ∧ vi = .int .i64 (i : Int) ∧ Hid (Og w3.heap.size wr vo (rowsN n i)) ∧ Hid (Keep w3 wr)) (fun vo vi _ => 1 - (intOf vi).toNat)
    case atStart => exact ⟨0, Nat.zero_le _, rfl, hide (og_nil _ _), hide (Keep.refl _)⟩
    case round =>
      obtain ⟨k, hk, rfl, OG, KW⟩ := hrel
      obtain ⟨US, hus, hown, hrow⟩ := unhide OG
      obtain ⟨ao, co, rfl⟩ := own_l hown
      have HO := hide hown
      have HU := hide hus
      have HRW := hide hrow
      rw [rowsN_len] at HO
      clear hus hown hrow
      by_cases hlt : k < 1
      · have li : (k : Int) < 1 := by omega
        rw [rowsN_len]
        go_wp2_with fail
        (refine ((unhide TN) k wr).mono ?_; rintro e w4 ⟨v4, rfl, hk9, hi9⟩; have K4 := hide hk9; have I4 := hide hi9; obtain ⟨a4, c4, hv4⟩ := hi9.sl; subst hv4; clear hk9 hi9)
        obtain ⟨n4, hn4⟩ : ∃ m, (nth n (k : Int)).length = m := ⟨_, rfl⟩
        rw [hn4] at I4 ⊢
        have HO4 := hide (own_k (unhide HO) (unhide K4))
        go_wp2_with (at_builtin; refine wpList_append_own _ rfl _ _ 28 rfl w3.heap.size 49 i1 _ 1 24 Try.underlying28 hi1 hz10 hz11 hz12 rfl (by decide) _ _ _ rfl ((unhide HO4).alloc _) ⟨w4.heap.size, 0, none⟩ 1 1 [.slice a4 n4 c4] rfl rfl (new_v w4 [.slice a4 n4 c4] _) (by simp [Value.oneCell']) (by unfold maxLen; omega) (by omega) (by have h1 := Below.size (unhide KW); have h2 := Below.size (unhide K4); simp; omega) ?_; intro v7 w7 hown' hgrow hnil; have HO7 := hide hown'; have HG7 := hide hgrow; clear hown' hgrow hnil)
        have K7 : Hid (Keep w3 w7) := hide (Below.grown (((unhide KW).trans (unhide K4)).alloc (.cells #[.slice a4 n4 c4] 49)) (unhide HG7) (by have h1 := Below.size (unhide KW); have h2 := Below.size (unhide K4); simp; omega) (fun j ej => ((unhide HO).lt j ej).1))
        go_roundw
        case rel =>
          refine ⟨k + 1, hlt, by go_num, hide ?_, K7⟩
          rw [rowsN_more]
          exact og_more (unhide HU) (rowsN_len _ _) ((unhide HO4).alloc _) (fun j hj => ((unhide HRW j hj).keep (unhide K4)).keep ((Keep.refl _).alloc _)) ((unhide I4).keep ((Keep.refl _).alloc _)) (unhide HO7) (unhide HG7)
        case measure => simp [intOf]; omega
      · have li : ¬ (k : Int) < 1 := by omega
        obtain rfl : k = 1 := by omega
        go_wp2_with fail
        go_ret
        exact ⟨_, rfl, (unhide K3).trans (unhide KW), og_mono (unhide OG) (Below.size (unhide K3))⟩
theorem rowsG_any (free : Bool) (n : Int) (w : World) (hn : cnt n ≤ 1000) : Calls Try.prog 40 #[.bool free, .int .i64 n] w (Wg (rowsN n (if free then (cnt n).toNat else min (cnt n).toNat 1)) w) := by
  obtain ⟨C, hC⟩ : ∃ C : Nat, cnt n = (C : Int) := ⟨(cnt n).toNat, by have : 0 ≤ cnt n := (by unfold cnt; split <;> omega); omega⟩
  have TC := hide (fun w => count_any n w)
  have hb : 0 < C ∨ C = 0 := by omega
  rw [hC] at TC hn ⊢
  refine rowsG_core free n C _ w (by omega) ?_ ?_ TC (hide fun k w => nth_any n (k : Int) w)
  · cases free
    · simp; omega
    · simp
  · cases free
    · by_cases h1 : C ≤ 1
      · exact .inr (.inl ⟨rfl, h1, by simp; omega⟩)
      · exact .inr (.inr ⟨rfl, by omega, by simp; omega⟩)
    · exact .inl ⟨rfl, by simp⟩
end Od
end Go.Proofs.Ytakandlehneciaa
