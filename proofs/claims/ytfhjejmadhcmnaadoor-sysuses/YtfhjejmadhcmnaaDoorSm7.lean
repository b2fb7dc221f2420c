
/-
  DERIVED. THE WALK of the comparison of two slices of expressions.
-/
import Derived.Test.YtfhjejmadhcmnaaDoorSm5
namespace Go.Proofs.YtfhjejmadhcmnaaDoor
open Go.RowKit Go.IntWalk
set_option linter.unusedVariables false
set_option linter.unusedSimpArgs false
set_option maxRecDepth 100000

end Go.Proofs.YtfhjejmadhcmnaaDoor
