
/-
  DERIVED. THE WALKS of the reader's expressions, where all goes well: operators, and operations of one kind from the left.
-/
import Derived.Test.YtfhjejmadhcmnaaDoorMem
import Derived.Deep.RegionWith
import Derived.Deep.LoopGhost
namespace Go.Proofs.YtfhjejmadhcmnaaDoor
open Go.RowKit Go.IntWalk
set_option linter.unusedVariables false
set_option linter.unusedSimpArgs false
set_option maxRecDepth 100000

/-- the operator that a text is -/
def signOp (t : List UInt8) : Int :=
  if t == [43] then 1 else if t == [45] then 2 else if t == [42] then 3 else if t == [47] then 4 else if t == [37] then 5 else
  if t == [60] then 8 else if t == [61, 61] then 9 else if t == [97, 110, 100] then 10 else if t == [111, 114] then 11 else if t == [120, 111, 114] then 12 else 0

/-- .. if it is one of those from a to c; else 0 -/
def btw (a c : Int) (t : List UInt8) : Int := if signOp t < a ∨ c < signOp t then 0 else signOp t

end Go.Proofs.YtfhjejmadhcmnaaDoor
