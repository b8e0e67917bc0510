/- What the sums, differences, opposites, quotients and rests of package whole, and of the document's answer, come to. -/
import Derived.Test.YtaebjfdadiegjabProg
import Derived.Test.YtaebjfdadiegjabNum
import Derived.WalkKit
import Derived.ProofKit
namespace Go.Proofs.Ytaebjfdadiegjab
open Go.RowKit
set_option linter.unusedVariables false





set_option maxHeartbeats 400000 in
theorem neg_any (a : Int) (w : World) (h1 : -9223372036854775808 ≤ a) (h2 : a ≤ 9223372036854775807) :
    Calls Try.prog 10 #[.int .i64 a] w fun e w' => e = .returned (.tuple #[.int .i64 (ans (-a)), .int .i64 (err (-a))]) ∧ w' = w := by
  by_cases hn : a = -9223372036854775808
  · subst hn
    rw [ans_no (by omega), err_no (by omega)]
    go_enter Try.func10, Try.ntmps10
    go_wp2
    go_ret2
    exact ⟨rfl, rfl⟩
  · have hn' : -9223372036854775808 ≤ -a ∧ -a ≤ 9223372036854775807 := by omega
    have hb : (a == -9223372036854775808) = false := by simp [hn]
    have ew := wrap_in hn'
    rw [ans_yes hn'.1 hn'.2, err_yes hn'.1 hn'.2]
    go_enter Try.func10, Try.ntmps10
    go_wp2
    go_ret2
    exact ⟨two_ret (by first | rfl | exact ew) rfl, rfl⟩


end Go.Proofs.Ytaebjfdadiegjab
