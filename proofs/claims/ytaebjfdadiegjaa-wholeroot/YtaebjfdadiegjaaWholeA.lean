/- What the sums, differences, opposites, quotients and rests of package whole, and of the document's answer, come to. -/
import Derived.Test.YtaebjfdadiegjaaProg
import Derived.Test.YtaebjfdadiegjaaNum
import Derived.WalkKit
import Derived.ProofKit
namespace Go.Proofs.Ytaebjfdadiegjaa
open Go.RowKit
set_option linter.unusedVariables false

set_option maxHeartbeats 400000 in
theorem add_any (a b : Int) (w : World) (h1 : -9223372036854775808 ≤ a) (h2 : a ≤ 9223372036854775807) (h3 : -9223372036854775808 ≤ b) (h4 : b ≤ 9223372036854775807) :
    Calls Try.prog 9 #[.int .i64 a, .int .i64 b] w fun e w' => e = .returned (.tuple #[.int .i64 (ans (a + b)), .int .i64 (err (a + b))]) ∧ w' = w := by
  go_enter Try.func9, Try.ntmps9
  go_wp2
  · have hn := add_no h1 h2 h3 h4 ‹_› ‹_›
    go_ret2
    exact ⟨two_ret (ans_no hn).symm (err_no hn).symm, rfl⟩
  · have hn := add_yes1 h1 h2 h3 h4 ‹_› ‹_›
    go_ret2
    exact ⟨two_ret (by rw [wrap_in hn, ans_yes hn.1 hn.2]) (err_yes hn.1 hn.2).symm, rfl⟩
  · have hn := add_yes2 h1 h2 h3 h4 ‹_›
    go_ret2
    exact ⟨two_ret (by rw [wrap_in hn, ans_yes hn.1 hn.2]) (err_yes hn.1 hn.2).symm, rfl⟩

set_option maxHeartbeats 400000 in
theorem sub_any (a b : Int) (w : World) (h1 : -9223372036854775808 ≤ a) (h2 : a ≤ 9223372036854775807) (h3 : -9223372036854775808 ≤ b) (h4 : b ≤ 9223372036854775807) :
    Calls Try.prog 11 #[.int .i64 a, .int .i64 b] w fun e w' => e = .returned (.tuple #[.int .i64 (ans (a - b)), .int .i64 (err (a - b))]) ∧ w' = w := by
  go_enter Try.func11, Try.ntmps11
  go_wp2
  · have hn : -9223372036854775808 ≤ a - b ∧ a - b ≤ 9223372036854775807 := by omega
    go_ret2
    exact ⟨two_ret (by rw [wrap_in hn, ans_yes hn.1 hn.2]) (err_yes hn.1 hn.2).symm, rfl⟩
  · have hn := sub_no h1 h2 h3 h4 ‹_› ‹_›
    go_ret2
    exact ⟨two_ret (ans_no hn).symm (err_no hn).symm, rfl⟩
  · have hn := sub_yes h1 h2 h3 h4 ‹_› ‹_›
    go_ret2
    exact ⟨two_ret (by rw [wrap_in hn, ans_yes hn.1 hn.2]) (err_yes hn.1 hn.2).symm, rfl⟩

set_option maxHeartbeats 400000 in
theorem radd_any (a b : Int) (w : World) (h1 : -9223372036854775808 ≤ a) (h2 : a ≤ 9223372036854775807) (h3 : -9223372036854775808 ≤ b) (h4 : b ≤ 9223372036854775807) :
    Calls Try.prog 10 #[.int .i64 a, .int .i64 b] w fun e w' => e = .returned (.tuple #[.int .i64 (ans (a + b)), .int .i64 (err (a + b))]) ∧ w' = w := by
  by_cases hn : -9223372036854775808 ≤ a + b ∧ a + b ≤ 9223372036854775807
  · have ea := ans_yes hn.1 hn.2
    have ee := err_yes hn.1 hn.2
    have ew := wrap_in hn
    rw [ea, ee]
    clear ea ee
    go_enter Try.func10, Try.ntmps10
    go_wp2
    all_goals first | omega | (go_ret2; exact ⟨two_ret (by first | rfl | exact ew) rfl, rfl⟩)
  · have hn' : a + b < -9223372036854775808 ∨ 9223372036854775807 < a + b := by omega
    rw [ans_no hn', err_no hn']
    go_enter Try.func10, Try.ntmps10
    go_wp2
    all_goals first | omega | (go_ret2; exact ⟨rfl, rfl⟩)

set_option maxHeartbeats 400000 in
theorem rsub_any (a b : Int) (w : World) (h1 : -9223372036854775808 ≤ a) (h2 : a ≤ 9223372036854775807) (h3 : -9223372036854775808 ≤ b) (h4 : b ≤ 9223372036854775807) :
    Calls Try.prog 12 #[.int .i64 a, .int .i64 b] w fun e w' => e = .returned (.tuple #[.int .i64 (ans (a - b)), .int .i64 (err (a - b))]) ∧ w' = w := by
  by_cases hn : -9223372036854775808 ≤ a - b ∧ a - b ≤ 9223372036854775807
  · have ea := ans_yes hn.1 hn.2
    have ee := err_yes hn.1 hn.2
    have ew := wrap_in hn
    rw [ea, ee]
    clear ea ee
    go_enter Try.func12, Try.ntmps12
    go_wp2
    all_goals first | omega | (go_ret2; exact ⟨two_ret (by first | rfl | exact ew) rfl, rfl⟩)
  · have hn' : a - b < -9223372036854775808 ∨ 9223372036854775807 < a - b := by omega
    rw [ans_no hn', err_no hn']
    go_enter Try.func12, Try.ntmps12
    go_wp2
    all_goals first | omega | (go_ret2; exact ⟨rfl, rfl⟩)

set_option maxHeartbeats 400000 in
theorem neg_any (a : Int) (w : World) (h1 : -9223372036854775808 ≤ a) (h2 : a ≤ 9223372036854775807) :
    Calls Try.prog 13 #[.int .i64 a] w fun e w' => e = .returned (.tuple #[.int .i64 (ans (-a)), .int .i64 (err (-a))]) ∧ w' = w := by
  by_cases hn : a = -9223372036854775808
  · subst hn
    rw [ans_no (by omega), err_no (by omega)]
    go_enter Try.func13, Try.ntmps13
    go_wp2
    go_ret2
    exact ⟨rfl, rfl⟩
  · have hn' : -9223372036854775808 ≤ -a ∧ -a ≤ 9223372036854775807 := by omega
    have hb : (a == -9223372036854775808) = false := by simp [hn]
    have ew := wrap_in hn'
    rw [ans_yes hn'.1 hn'.2, err_yes hn'.1 hn'.2]
    go_enter Try.func13, Try.ntmps13
    go_wp2
    go_ret2
    exact ⟨two_ret (by first | rfl | exact ew) rfl, rfl⟩

set_option maxHeartbeats 400000 in
theorem same_any (a d : Int) (w : World) :
    Calls Try.prog 14 #[.int .i64 a, .int .i64 d, .int .i64 a, .int .i64 d] w fun e w' => e = .returned (.bool true) ∧ w' = w := by
  go_enter Try.func14, Try.ntmps14
  go_wp2
  go_ret
  exact ⟨rfl, rfl⟩

end Go.Proofs.Ytaebjfdadiegjaa
