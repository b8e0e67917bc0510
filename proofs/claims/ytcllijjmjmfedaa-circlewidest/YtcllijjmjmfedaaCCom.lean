/- Package circle: the iterator over the ticks that two rows of pieces share. -/
import Derived.Test.YtcllijjmjmfedaaCVal
namespace Go.Proofs.Ytcllijjmjmfedaa
open Go.RowKit Go.Shelf
attribute [local go_sem] Oper.semAt_some
attribute [local go_sem ↓] Go.wp_at_zero Go.wp_at_succ
set_option linter.unusedVariables false
set_option linter.unusedSimpArgs false
theorem drop_getD {L : List Pr} {k : Nat} (h : k < L.length) : L.drop k = L.getD k (0, 0) :: L.drop (k + 1) := by
  rw [List.drop_eq_getElem_cons h, List.getD_eq_getElem?_getD, List.getElem?_eq_getElem h]
  rfl
end Go.Proofs.Ytcllijjmjmfedaa
