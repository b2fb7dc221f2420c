import Derived.Test.YtfipfdpohkafaaaDoorRows
import Derived.WalkKit
import Derived.WalkSpells
import Derived.Lib.Strings
import Derived.Lib.Walk
set_option linter.unusedVariables false
set_option linter.unusedSimpArgs false
set_option maxHeartbeats 64000000
set_option maxRecDepth 100000
namespace Go.Proofs.YtfipfdpohkafaaaDoor.Tk
/-- a token -/
structure Tok where
  kind : Int
  place : Nat
  text : List UInt8
  n : Int
end Go.Proofs.YtfipfdpohkafaaaDoor.Tk
namespace Go.Proofs.YtfipfdpohkafaaaDoor
open Go.RowKit
set_option linter.unusedVariables false
theorem hide {p : Prop} (h : p) : Hid p := h
theorem ret_bool {a b : Bool} (h : a = b) : Ending.returned (.bool a) = .returned (.bool b) := by rw [h]
end Go.Proofs.YtfipfdpohkafaaaDoor
