import Derived.Test.YtfipfdpohkafaaaDoorQ27
import Derived.Test.YtfipfdpohkafaaaDoorQ00
import Derived.WalkKit
import Derived.WalkSpells
import Derived.IntWalk
import Derived.Lib.Hide
import Derived.Deep.Cut
import Derived.Deep.LoopGhost
import Derived.Laws.Cover1
import Derived.Lib.MakeNoZero
set_option linter.unusedVariables false
set_option linter.unusedSimpArgs false
set_option maxHeartbeats 64000000
set_option maxRecDepth 100000
namespace Go.Proofs.YtfipfdpohkafaaaDoor
open Go.RowKit Go.IntWalk
set_option linter.unusedVariables false
set_option linter.unusedSimpArgs false
namespace Sk
def idxI (p : Int → Bool) : Nat → List Int → Int
  | _, [] => -1
  | i, x :: r => if p x = true then (i : Int) else idxI p (i + 1) r
theorem idxI_neg (p : Int → Bool) : ∀ (l : List Int) (i : Nat), (0 ≤ idxI p i l ↔ l.any p = true) ∧ (l.any p = false → idxI p i l = -1)
  | [], i => by simp [idxI]
  | x :: r, i => by
    unfold idxI
    by_cases h : p x = true
    · rw [if_pos h]
      simp [h]
    · rw [if_neg h]
      have := idxI_neg p r (i + 1)
      simp [h]
      simpa using this
end Sk
end Go.Proofs.YtfipfdpohkafaaaDoor
