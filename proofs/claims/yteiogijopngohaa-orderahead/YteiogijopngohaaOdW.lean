/- The chapter's examples. -/
import Derived.Test.YteiogijopngohaaOdD
namespace Go.Proofs.Yteiogijopngohaa
open Go.RowKit
attribute [local go_sem ↓] Go.wp_at_zero Go.wp_at_succ
set_option linter.unusedVariables false
set_option linter.unusedSimpArgs false
set_option maxRecDepth 10000
namespace Od
theorem lit_is (w : World) (a b c : Int) (t : TypeId) : Is (w.alloc (.cells #[.int .i64 a, .int .i64 b, .int .i64 c] t)) (.slice (some ⟨w.heap.size, 0, none⟩) 3 3) [a, b, c] := by
  refine ⟨_, 3, rfl, fun k hk => ⟨_, rfl, ?_⟩⟩
  rw [add_pl, Nat.zero_add]
  simp only [List.length_cons, List.length_nil] at hk
  have h := heap_alloc_new w (.cells #[.int .i64 a, .int .i64 b, .int .i64 c] t)
  have : k = 0 ∨ k = 1 ∨ k = 2 := by omega
  rcases this with rfl | rfl | rfl <;> (simp only [World.cell?]; rw [h]; rfl)
theorem ex1 : nxB [0, 2, 1] = true ∧ nxL [0, 2, 1] = [1, 0, 2] := by decide +kernel
theorem ex2 : nth 3 3 = [1, 2, 0] ∧ rank [2, 1, 0] = 5 ∧ cnt 4 = 24 := by decide +kernel
set_option maxHeartbeats 2000000 in
theorem awake_any (w : World) : Calls Try.prog 10 #[] w fun e w' => e = .returned (.bool true) ∧ Keep w w' := by
  have E1 := hide ex1
  have E2 := hide ex2
  go_enter Try.func10, Try.ntmps10
  go_wp2_with fail
  (refine (next_any _ [0, 2, 1] _ (lit_is w 0 2 1 _) (by simp)).mono ?_; rintro e w1 ⟨v1, rfl, hk9, hi9⟩; have K1 := hide (((Keep.refl w).alloc _).trans hk9); clear hk9)
  rw [(unhide E1).1]
  rw [(unhide E1).2] at hi9
  have I1 := hide hi9
  clear hi9
  go_wp2_with fail
  (refine (nth_any 3 3 w1).mono ?_; rintro e w2 ⟨v2, rfl, hk9, hi9⟩; have K2 := hide ((unhide K1).trans hk9); have I2 := hide ((unhide I1).keep hk9); rw [(unhide E2).1] at hi9; have J2 := hide hi9; clear hk9 hi9 I1 K1)
  go_wp2_with fail
  (refine (same_any _ _ [1, 2, 0] [1, 2, 0] _ ((unhide J2).keep ((Keep.refl w2).alloc _)).is (lit_is w2 1 2 0 _) (by simp) (by simp)).mono ?_; rintro e w3 ⟨rfl, hk9⟩; have hk8 := ((Keep.refl w2).alloc _).trans hk9; have K3 := hide ((unhide K2).trans hk8); have I3 := hide ((unhide I2).keep hk8); clear hk9 hk8 I2 J2 K2)
  rw [decide_eq_true (rfl : [(1 : Int), 2, 0] = [1, 2, 0])]
  go_wp2_with fail
  (refine (rank_any _ [2, 1, 0] _ (lit_is w3 2 1 0 _) (by simp)).mono ?_; rintro e w4 ⟨rfl, hk9⟩; have hk8 := ((Keep.refl w3).alloc _).trans hk9; have K4 := hide ((unhide K3).trans hk8); have I4 := hide ((unhide I3).keep hk8); clear hk9 hk8 I3 K3)
  rw [(unhide E2).2.1]
  go_wp2_with fail
  (refine (same_any _ _ [1, 0, 2] [1, 0, 2] _ ((unhide I4).keep ((Keep.refl w4).alloc _)).is (lit_is w4 1 0 2 _) (by simp) (by simp)).mono ?_; rintro e w5 ⟨rfl, hk9⟩; have hk8 := ((Keep.refl w4).alloc _).trans hk9; have K5 := hide ((unhide K4).trans hk8); clear hk9 hk8 I4 K4)
  rw [decide_eq_true (rfl : [(1 : Int), 0, 2] = [1, 0, 2])]
  go_wp2_with fail
  (refine (count_any 4 _).mono ?_; rintro e w6 ⟨rfl, hk9⟩; have K6 := hide ((unhide K5).trans hk9); clear hk9 K5)
  rw [(unhide E2).2.2]
  go_wp2_with fail
  go_ret
  exact ⟨rfl, unhide K6⟩
end Od
end Go.Proofs.Yteiogijopngohaa
