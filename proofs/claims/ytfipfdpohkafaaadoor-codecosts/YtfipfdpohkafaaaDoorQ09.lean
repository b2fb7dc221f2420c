import Derived.Test.YtfipfdpohkafaaaDoorQ08
import Derived.Deep.RegionWith
set_option linter.unusedVariables false
set_option linter.unusedSimpArgs false
set_option maxHeartbeats 64000000
set_option maxRecDepth 100000
namespace Go.Proofs.YtfipfdpohkafaaaDoor
open Go.RowKit Go.IntWalk
set_option linter.unusedVariables false
set_option linter.unusedSimpArgs false
theorem HSizes.at {ok : Nat → Prop} {w : World} {v : Value} {l : List (List Tm)} (h : HSizes ok w v l) :
    ∃ ao cap, v = .slice ao l.length cap ∧ l.length ≤ cap ∧ cap ≤ maxLen ∧ ∀ i (h : i < l.length), ∃ b o au nu cu, ao = some ⟨b, o, none⟩ ∧ b < w.heap.size ∧ w.cell? ⟨b, o + i, none⟩ = some (.slice au nu cu) ∧ HTerms ok w (.slice au nu cu) l[i] := by
  obtain ⟨C, ⟨ao, cap, hv, h1, h2, h3⟩, hC⟩ := h
  refine ⟨ao, cap, hv, h1, h2, fun i hi => ?_⟩
  obtain ⟨b, o, ha, hob, hb, hc⟩ := h3 (by omega)
  have := (hc i hi).2 0 (by decide)
  obtain ⟨u, hu, ht⟩ := hC i hi
  rw [hu] at this
  have ht0 := ht
  obtain ⟨_, ⟨au, cu, rfl, _⟩, _⟩ := ht0
  exact ⟨b, o, au, _, cu, ha, hb, by simpa using this, ht⟩
end Go.Proofs.YtfipfdpohkafaaaDoor
