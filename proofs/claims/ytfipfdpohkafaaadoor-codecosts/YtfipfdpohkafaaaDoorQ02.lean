import Derived.Test.YtfipfdpohkafaaaDoorRows
import Derived.Test.YtfipfdpohkafaaaDoorQ01
import Derived.WalkKit
import Derived.WalkSpells
import Derived.Lib.Strings
import Derived.Lib.Walk
set_option linter.unusedVariables false
set_option linter.unusedSimpArgs false
set_option maxHeartbeats 64000000
set_option maxRecDepth 100000
namespace Go.Proofs.YtfipfdpohkafaaaDoor
open Go.RowKit
set_option linter.unusedVariables false
theorem hide {p : Prop} (h : p) : Hid p := h
end Go.Proofs.YtfipfdpohkafaaaDoor
