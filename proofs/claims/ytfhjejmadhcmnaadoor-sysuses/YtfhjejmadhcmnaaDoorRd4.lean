
/-
  DERIVED. THE WALKS of the reader's expressions, where all goes well: one level after the other.
-/
import Derived.Test.YtfhjejmadhcmnaaDoorRd3
namespace Go.Proofs.YtfhjejmadhcmnaaDoor
open Go.RowKit Go.IntWalk
set_option linter.unusedVariables false
set_option linter.unusedSimpArgs false
set_option maxRecDepth 100000

end Go.Proofs.YtfhjejmadhcmnaaDoor
