/- What the sums, differences, opposites, quotients and rests of package whole, and of the document's answer, come to. -/
import Derived.Test.YtnegcifbbbmlnaaDoorProg
import Derived.Test.YtnegcifbbbmlnaaDoorNum
import Derived.WalkKit
import Derived.ProofKit
namespace Go.Proofs.YtnegcifbbbmlnaaDoor
open Go.RowKit
set_option linter.unusedVariables false

set_option maxHeartbeats 400000 in
theorem add_any (a b : Int) (w : World) (h1 : -9223372036854775808 ≤ a) (h2 : a ≤ 9223372036854775807) (h3 : -9223372036854775808 ≤ b) (h4 : b ≤ 9223372036854775807) :
    Calls Tryd.prog 55 #[.int .i64 a, .int .i64 b] w fun e w' => e = .returned (.tuple #[.int .i64 (ans (a + b)), .int .i64 (err (a + b))]) ∧ w' = w := by
  go_enter Tryd.func55, Tryd.ntmps55
  go_wp2
  · have hn := add_no h1 h2 h3 h4 ‹_› ‹_›
    go_ret2
    exact ⟨two_ret (ans_no hn).symm (err_no hn).symm, rfl⟩
  · have hn := add_yes1 h1 h2 h3 h4 ‹_› ‹_›
    go_ret2
    exact ⟨two_ret (by rw [wrap_in hn, ans_yes hn.1 hn.2]) (err_yes hn.1 hn.2).symm, rfl⟩
  · have hn := add_yes2 h1 h2 h3 h4 ‹_›
    go_ret2
    exact ⟨two_ret (by rw [wrap_in hn, ans_yes hn.1 hn.2]) (err_yes hn.1 hn.2).symm, rfl⟩






end Go.Proofs.YtnegcifbbbmlnaaDoor
