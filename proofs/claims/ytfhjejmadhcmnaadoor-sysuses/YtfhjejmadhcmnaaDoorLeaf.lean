
/-
  DERIVED. THE WALKS of the leaves of package token: isLetter, isDigit, isBlank, runLength, blankLength.
-/
import Derived.Test.YtfhjejmadhcmnaaDoorRows
import Derived.Test.YtfhjejmadhcmnaaDoorSpec
import Derived.WalkKit
import Derived.WalkSpells
import Derived.Lib.Strings
import Derived.Lib.Walk
namespace Go.Proofs.YtfhjejmadhcmnaaDoor
open Go.RowKit
set_option linter.unusedVariables false

theorem hide {p : Prop} (h : p) : Hid p := h
theorem unhide {p : Prop} (h : Hid p) : p := h
theorem ret_int {k : IntKind} {a b : Int} (h : a = b) : Ending.returned (.int k a) = .returned (.int k b) := by rw [h]
theorem ret_bool {a b : Bool} (h : a = b) : Ending.returned (.bool a) = .returned (.bool b) := by rw [h]

theorem byte_at (s : ByteArray) (k : Nat) (h : k < s.size) (h' : k < s.data.toList.length) : s.data.toList[k] = s[k] := by
  rfl

end Go.Proofs.YtfhjejmadhcmnaaDoor
