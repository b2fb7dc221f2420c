
/-
  DERIVED. THE WALKS of the reader's expressions, where all goes well: a name, a number, what is ahead, a comparison, the number of parts.
-/
import Derived.Test.YtfhjejmadhcmnaaDoorRd4
namespace Go.Proofs.YtfhjejmadhcmnaaDoor
open Go.RowKit Go.IntWalk
set_option linter.unusedVariables false
set_option linter.unusedSimpArgs false
set_option maxRecDepth 100000


end Go.Proofs.YtfhjejmadhcmnaaDoor
