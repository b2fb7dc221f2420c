import Derived.Test.YtfipfdpohkafaaaDoorQ10
import Derived.Deep.RegionWith
import Derived.Deep.LoopGhost
set_option linter.unusedVariables false
set_option linter.unusedSimpArgs false
set_option maxHeartbeats 64000000
set_option maxRecDepth 100000
namespace Go.Proofs.YtfipfdpohkafaaaDoor
open Go.RowKit Go.IntWalk
set_option linter.unusedVariables false
set_option linter.unusedSimpArgs false
/-- six cells of an expression at a place -/
def ExAt (w : World) (b o : Nat) (y : ExV) : Prop :=
  w.cell? ⟨b, o, none⟩ = some (.int .i64 y.op) ∧ w.cell? ⟨b, o + 1, none⟩ = some (.int .i64 y.k) ∧ w.cell? ⟨b, o + 2, none⟩ = some (.int .i64 y.n) ∧
  w.cell? ⟨b, o + 3, none⟩ = some (.string y.name) ∧ w.cell? ⟨b, o + 4, none⟩ = some (.slice y.aS y.nS y.cS) ∧ w.cell? ⟨b, o + 5, none⟩ = some (.slice y.aL y.nL y.cL)
theorem ExAt.keep {w w' : World} {b o : Nat} {y : ExV} (h : ExAt w b o y) (hb : w'.heap[b]? = w.heap[b]?) : ExAt w' b o y := by
  have hc : ∀ q, w'.cell? ⟨b, q, none⟩ = w.cell? ⟨b, q, none⟩ := fun q => World.cell?_of_block (w := w) hb
  obtain ⟨h0, h1, h2, h3, h4, h5⟩ := h
  exact ⟨(hc _).trans h0, (hc _).trans h1, (hc _).trans h2, (hc _).trans h3, (hc _).trans h4, (hc _).trans h5⟩
theorem Sl.exAt {ok : Nat → Prop} {w : World} {v : Value} {L : List Ex} {C : Nat → List Value} (hL : Sl ok 6 w v L.length C) (hE : ∀ i (h : i < L.length), HEx ok w (C i) L[i]) :
    ∃ ao cap, v = .slice ao L.length cap ∧ L.length ≤ cap ∧ cap ≤ maxLen ∧ ∀ i (h : i < L.length), ∃ b o y, ao = some ⟨b, o, none⟩ ∧ ok b ∧ b < w.heap.size ∧ ExAt w b (o + i * 6) y ∧ HEx ok w y.cells L[i] := by
  obtain ⟨ao, cap, hv, h1, h2, h3⟩ := hL
  refine ⟨ao, cap, hv, h1, h2, fun i hi => ?_⟩
  obtain ⟨b, o, ha, hob, hb, hc⟩ := h3 (by omega)
  obtain ⟨y, hy, hex⟩ := (hE i hi).toV
  have hcc := (hc i hi).2
  rw [hy] at hcc
  exact ⟨b, o, y, ha, hob, hb, ⟨hcc 0 (by decide), hcc 1 (by decide), hcc 2 (by decide), hcc 3 (by decide), hcc 4 (by decide), hcc 5 (by decide)⟩, hex⟩
end Go.Proofs.YtfipfdpohkafaaaDoor
