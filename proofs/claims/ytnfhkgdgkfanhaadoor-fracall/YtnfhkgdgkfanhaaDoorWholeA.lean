/- What the sums, differences, opposites, quotients and rests of package whole, and of the document's answer, come to. -/
import Derived.Test.YtnfhkgdgkfanhaaDoorProg
import Derived.Test.YtnfhkgdgkfanhaaDoorNum
import Derived.WalkKit
import Derived.ProofKit
namespace Go.Proofs.YtnfhkgdgkfanhaaDoor
open Go.RowKit
set_option linter.unusedVariables false







end Go.Proofs.YtnfhkgdgkfanhaaDoor
