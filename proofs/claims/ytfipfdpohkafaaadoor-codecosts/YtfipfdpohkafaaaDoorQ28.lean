import Derived.Test.YtfipfdpohkafaaaDoorQ25
set_option linter.unusedVariables false
set_option linter.unusedSimpArgs false
set_option maxHeartbeats 64000000
set_option maxRecDepth 100000
namespace Go.Proofs.YtfipfdpohkafaaaDoor
open Go.Shelf Go.RowKit Go.Lib Go.IntWalk
set_option linter.unusedVariables false
set_option linter.unusedSimpArgs false
theorem blk_ints {w : World} {g : Nat} {L : List Int} {t : TypeId} (h : w.heap[g]? = some (.cells (L.map (Value.int .i64)).toArray t (0, 0))) (hm : L.length ≤ maxLen) : HInts (fun i => g = i) w (.slice (some ⟨g, 0, none⟩) L.length L.length) L := by
  refine ⟨fun i => [.int .i64 (L[i]!)], ⟨_, _, rfl, Nat.le_refl _, hm, fun h0 => ⟨g, 0, rfl, rfl, lt_of h, fun i hi => ⟨rfl, fun j hj => ?_⟩⟩⟩, fun i hi => by simp [hi]⟩
  obtain rfl : j = 0 := by omega
  have := cell_of h i
  simp only [Nat.zero_add, Nat.mul_one, Nat.add_zero]
  rw [this]
  simp [hi]
end Go.Proofs.YtfipfdpohkafaaaDoor
