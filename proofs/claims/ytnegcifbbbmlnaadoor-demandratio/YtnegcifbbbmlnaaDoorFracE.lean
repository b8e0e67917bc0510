/- Package frac: Cmp, Floor, Ceil, and a text of small numbers. -/
import Derived.Test.YtnegcifbbbmlnaaDoorFracP0
import Derived.Test.YtnegcifbbbmlnaaDoorWholeQ
namespace Go.Proofs.YtnegcifbbbmlnaaDoor
open Go.RowKit
set_option linter.unusedVariables false
set_option maxRecDepth 10000
set_option maxHeartbeats 400000 in
theorem ffloor_core (n d x y v e0 : Int) (w : World) (T1 : Hid (∀ w, Calls Tryd.prog 64 #[.agg #[.int .i64 n, .int .i64 d]] w fun e w' => e = .returned (.agg #[.int .i64 x, .int .i64 y]) ∧ Keep w w'))
    (T2 : Hid (∀ w, Calls Tryd.prog 72 #[.int .i64 x, .int .i64 y] w fun e w' => e = .returned (.tuple #[.int .i64 v, .int .i64 e0]) ∧ w' = w)) :
    Calls Tryd.prog 52 #[.agg #[.int .i64 n, .int .i64 d]] w fun e w' => e = .returned (.int .i64 v) ∧ Keep w w' := by
  go_enter Tryd.func52, Tryd.ntmps52
  go_wp2_with fail
  (refine ((unhide T1) _).mono ?_; rintro e w2 ⟨rfl, hk⟩; obtain ⟨o1, k1, rfl⟩ := hk.ext; clear hk)
  go_wp2_with fail
  refine ((unhide T2) _).mono ?_
  rintro e w2 ⟨rfl, rfl⟩
  go_wp2_with fail
  go_ret
  exact ⟨rfl, by repeat (first | apply keep_ext | apply Keep.alloc | apply Keep.drew | (refine keep_set _ _ _ (by omega) ?_) | assumption | exact Keep.refl _)⟩
theorem ffloor_any (n d : Int) (w : World) (h1 : -9223372036854775808 ≤ n) (h2 : n ≤ 9223372036854775807) (h3 : -9223372036854775808 ≤ d) (h4 : d ≤ 9223372036854775807) :
    Calls Tryd.prog 52 #[.agg #[.int .i64 n, .int .i64 d]] w fun e w' => e = .returned (.int .i64 (flA (cn n d) (cd n d))) ∧ Keep w w' := by
  obtain ⟨r1, r2, r3, r4, r5⟩ := rt_counted n d h1 h2 h4
  exact ffloor_core n d _ _ _ _ w (hide fun w => counted_any n d w h1 h2 h3 h4) (hide fun w => floor_any _ _ w r3 r4 (by omega) r5)

theorem dig4 : (Lib.decDigits 4).toArray = #[52] := by first | decide | kernel_rfl | simp [Lib.decDigits]
theorem dig15 : (Lib.decDigits 15).toArray = #[49, 53] := by first | decide | kernel_rfl | simp [Lib.decDigits]
end Go.Proofs.YtnegcifbbbmlnaaDoor
