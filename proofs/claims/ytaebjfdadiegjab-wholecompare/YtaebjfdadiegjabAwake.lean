/- The chapter's examples, walked: awake is true. -/
import Derived.Test.YtaebjfdadiegjabScale
namespace Go.Proofs.Ytaebjfdadiegjab
open Go.RowKit
set_option linter.unusedVariables false

theorem scale_c1 (w : World) : Calls Try.prog 20 #[.int .i64 4611686018427387904, .int .i64 6, .int .i64 2] w fun e w' => e = .returned (.tuple #[.int .i64 0, .int .i64 2]) ∧ Keep w w' := by
  have h := scale_any 4611686018427387904 6 2 w (by omega) (by omega) (by omega) (by omega) (by omega) (by omega)
  rw [ans_no (by omega), err_no (by omega)] at h
  exact h
theorem scale_c2 (w : World) : Calls Try.prog 20 #[.int .i64 4611686018427387904, .int .i64 6, .int .i64 8] w fun e w' => e = .returned (.tuple #[.int .i64 3458764513820540928, .int .i64 0]) ∧ Keep w w' := by
  have h := scale_any 4611686018427387904 6 8 w (by omega) (by omega) (by omega) (by omega) (by omega) (by omega)
  rw [ans_yes (by omega) (by omega), err_yes (by omega) (by omega), show (4611686018427387904 * 6 / 8 : Int) = 3458764513820540928 by decide] at h
  exact h
set_option maxHeartbeats 400000 in
theorem floor_c (w : World) : Calls Try.prog 8 #[.int .i64 (-7), .int .i64 2] w fun e w' => e = .returned (.tuple #[.int .i64 (-4), .int .i64 0]) ∧ w' = w := by
  go_enter Try.func8, Try.ntmps8
  go_wp2
  go_ret2
  exact ⟨rfl, rfl⟩
set_option maxHeartbeats 400000 in
theorem ceil_c (w : World) : Calls Try.prog 11 #[.int .i64 (-7), .int .i64 2] w fun e w' => e = .returned (.tuple #[.int .i64 (-3), .int .i64 0]) ∧ w' = w := by
  go_enter Try.func11, Try.ntmps11
  go_wp2
  go_ret2
  exact ⟨rfl, rfl⟩

set_option maxHeartbeats 400000 in
theorem awake_any (w : World) :
    Calls Try.prog 7 #[] w fun e w' => e = .returned (.bool true) ∧ Keep w w' := by
  go_enter Try.func7, Try.ntmps7
  go_wp2_with fail
  refine (floor_c _).mono ?_
  rintro e w0 ⟨rfl, rfl⟩
  go_wp2_with fail
  refine (ceil_c _).mono ?_
  rintro e w0 ⟨rfl, rfl⟩
  go_wp2_with fail
  refine (scale_c1 _).mono ?_
  rintro e w1 ⟨rfl, hg1⟩
  go_wp2_with fail
  refine (scale_c2 _).mono ?_
  rintro e w2 ⟨rfl, hg2⟩
  go_wp2
  go_ret
  exact ⟨rfl, hg1.trans hg2⟩
end Go.Proofs.Ytaebjfdadiegjab
