/- What the sums, differences, opposites, quotients and rests of package whole, and of the document's answer, come to. -/
import Derived.Test.YtnfhkgdgkfanhabDoorProg
import Derived.Test.YtnfhkgdgkfanhabDoorNum
import Derived.WalkKit
import Derived.ProofKit
namespace Go.Proofs.YtnfhkgdgkfanhabDoor
open Go.RowKit
set_option linter.unusedVariables false







end Go.Proofs.YtnfhkgdgkfanhabDoor
