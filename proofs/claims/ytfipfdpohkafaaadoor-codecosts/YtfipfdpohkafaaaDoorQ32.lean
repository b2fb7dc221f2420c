import Derived.Test.YtfipfdpohkafaaaDoorQ29
import Derived.WalkKit
import Derived.WalkSpells
import Derived.IntWalk
import Derived.Deep.Cut
import Derived.Deep.LoopGhost
import Derived.Ground.NamesProg
import Derived.Laws.Cover1
import Derived.Laws.EntriesVeiled
import Derived.Laws.Externs
import Derived.Lib.Hide
import Derived.Lib.MakeNoZero
import Derived.Lib.SlBuf
import Derived.Shelf.Bytes.SlSmallAll
import Derived.Shelf.Lay
set_option linter.unusedVariables false
set_option linter.unusedSimpArgs false
set_option maxHeartbeats 64000000
set_option maxRecDepth 100000
namespace Go.Proofs.YtfipfdpohkafaaaDoor
open Go.RowKit Go.IntWalk
set_option linter.unusedVariables false
set_option linter.unusedSimpArgs false
theorem heap_set_other (w : World) (p : Addr) (u : Value) {i : Nat} (h : p.block ≠ i) : (w.setCell p u).heap[i]? = w.heap[i]? := by
  cases e : w.heap[i]? with
  | none => 
    have hs : (w.setCell p u).heap.size = w.heap.size := by simp [World.setCell]
    rw [Array.getElem?_eq_none_iff] at e ⊢
    omega
  | some o => exact keep_set e h u
end Go.Proofs.YtfipfdpohkafaaaDoor
