
/-
  DERIVED. THE WALK of token.read.
-/
import Derived.Test.YtfhjejmadhcmnaaDoorNum
namespace Go.Proofs.YtfhjejmadhcmnaaDoor
open Go.RowKit Go.IntWalk
set_option linter.unusedVariables false
set_option linter.unusedSimpArgs false

theorem headD_eq : ∀ (l : List UInt8) (h : 0 < l.length), l.headD 0 = l[0]
  | [], h => by simp at h
  | _ :: _, _ => rfl

end Go.Proofs.YtfhjejmadhcmnaaDoor
