import Derived.Test.YtfipfdpohkafaaaDoorQ29
import Derived.WalkKit
import Derived.WalkSpells
import Derived.IntWalk
import Derived.Lib.Hide
import Derived.Deep.Cut
import Derived.Deep.LoopGhost
import Derived.Ground.NamesProg
import Derived.Laws.Cover1
import Derived.Laws.Externs
import Derived.Lib.MakeNoZero
import Derived.Lib.SlBuf
import Derived.Shelf.Bytes.SlSmallAll
import Derived.Shelf.Lay
set_option linter.unusedVariables false
set_option linter.unusedSimpArgs false
set_option maxHeartbeats 64000000
set_option maxRecDepth 100000
namespace Go.Proofs.YtfipfdpohkafaaaDoor
open Go.RowKit Go.IntWalk
set_option linter.unusedVariables false
set_option linter.unusedSimpArgs false
theorem ownX_of {α : Type} {T : Kind α} {B : Nat} {w : World} {v : Value} {l : List α} (h : OwnL T B w v l) : OwnX T (fun i => B ≤ i ∧ i < w.heap.size) w v l := by
  have hlt := h.lt
  obtain ⟨D, ⟨h1, h2⟩, h3⟩ := h
  refine ⟨D, ⟨h1, ?_⟩, fun k hk => hlt k hk, fun j hj => T.wide (h3 j hj) fun i hi hl => ⟨⟨hi.1, hl⟩, hi.2⟩⟩
  rcases h2 with h | ⟨g, cap, cur, e1, e2, e3⟩
  · exact .inl h
  · exact .inr ⟨g, cap, cur, e1, Nat.zero_le _, e3⟩
end Go.Proofs.YtfipfdpohkafaaaDoor
