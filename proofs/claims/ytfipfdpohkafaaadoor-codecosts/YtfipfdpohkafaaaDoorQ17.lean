import Derived.Test.YtfipfdpohkafaaaDoorQ12
set_option linter.unusedVariables false
set_option linter.unusedSimpArgs false
set_option maxHeartbeats 64000000
set_option maxRecDepth 100000
namespace Go.Proofs.YtfipfdpohkafaaaDoor
open Go.RowKit Go.IntWalk
set_option linter.unusedVariables false
set_option linter.unusedSimpArgs false
theorem HExs.wide {ok ok' : Nat → Prop} {w : World} {v : Value} {l : List Ex} (h : HExs ok w v l) (hk : ∀ i, ok i → i < w.heap.size → ok' i) : HExs ok' w v l := by
  obtain ⟨C, h1, h2⟩ := h
  exact ⟨C, h1.wide hk, fun i hi => (h2 i hi).wide hk⟩
end Go.Proofs.YtfipfdpohkafaaaDoor
