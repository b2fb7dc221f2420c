import Derived.Test.YtfipfdpohkafaaaDoorQ11
set_option linter.unusedVariables false
set_option linter.unusedSimpArgs false
set_option maxHeartbeats 64000000
set_option maxRecDepth 100000
namespace Go.Proofs.YtfipfdpohkafaaaDoor
open Go.RowKit Go.IntWalk
set_option linter.unusedVariables false
set_option linter.unusedSimpArgs false
/-- a slice of expressions -/
def HExs (ok : Nat → Prop) (w : World) (v : Value) (L : List Ex) : Prop := ∃ C, Sl ok 6 w v L.length C ∧ ∀ i (h : i < L.length), HEx ok w (C i) L[i]
theorem HExs.keep {ok : Nat → Prop} {w w' : World} {v : Value} {l : List Ex} (h : HExs ok w v l) (hs : w.heap.size ≤ w'.heap.size) (hk : ∀ i, ok i → i < w.heap.size → w'.heap[i]? = w.heap[i]?) : HExs ok w' v l := by
  obtain ⟨C, h1, h2⟩ := h
  exact ⟨C, h1.keep hs hk, fun i hi => (h2 i hi).keep hs hk⟩
theorem HExs.at {ok : Nat → Prop} {w : World} {v : Value} {L : List Ex} (h : HExs ok w v L) :
    ∃ ao cap, v = .slice ao L.length cap ∧ L.length ≤ cap ∧ cap ≤ maxLen ∧ ∀ i (h : i < L.length), ∃ b o y, ao = some ⟨b, o, none⟩ ∧ ok b ∧ b < w.heap.size ∧ ExAt w b (o + i * 6) y ∧ HEx ok w y.cells L[i] := by
  obtain ⟨C, h1, h2⟩ := h
  exact h1.exAt h2
end Go.Proofs.YtfipfdpohkafaaaDoor
