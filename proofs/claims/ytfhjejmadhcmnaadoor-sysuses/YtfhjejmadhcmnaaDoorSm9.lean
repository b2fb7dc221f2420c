
/-
  DERIVED. The comparisons of expressions, whatever their depth.
-/
import Derived.Test.YtfhjejmadhcmnaaDoorSm6
import Derived.Test.YtfhjejmadhcmnaaDoorSm7
namespace Go.Proofs.YtfhjejmadhcmnaaDoor
open Go.RowKit Go.IntWalk
set_option linter.unusedVariables false
set_option linter.unusedSimpArgs false
set_option maxRecDepth 100000

theorem partsL_zero : ∀ l : List Ex, partsL l ≤ 0 → l = []
  | [], _ => rfl
  | .mk _ _ _ _ _ _ :: _, h => by simp [partsL, parts] at h

end Go.Proofs.YtfhjejmadhcmnaaDoor
