import Derived.Test.YtfipfdpohkafaaaDoorQ17
import Derived.Test.YtfipfdpohkafaaaDoorQ14
import Derived.Deep.DeepCutAuto
set_option linter.unusedVariables false
set_option linter.unusedSimpArgs false
set_option maxHeartbeats 64000000
set_option maxRecDepth 100000
namespace Go.Proofs.YtfipfdpohkafaaaDoor
open Go.RowKit Go.IntWalk
set_option linter.unusedVariables false
set_option linter.unusedSimpArgs false
theorem HNames.wide {ok ok' : Nat → Prop} {w : World} {v : Value} {l : List ByteArray} (h : HNames ok w v l) (hk : ∀ i, ok i → i < w.heap.size → ok' i) : HNames ok' w v l := by
  obtain ⟨C, h1, h2⟩ := h
  exact ⟨C, h1.wide hk, h2⟩
theorem HDes.wide {ok ok' : Nat → Prop} {w : World} {v : Value} {l : List De} (h : HDes ok w v l) (hk : ∀ i, ok i → i < w.heap.size → ok' i) : HDes ok' w v l := by
  obtain ⟨C, h1, h2⟩ := h
  refine ⟨C, h1.wide hk, fun i hi => ?_⟩
  obtain ⟨u, e, ht⟩ := h2 i hi
  exact ⟨u, e, ht.wide hk⟩
theorem HEq.wide {ok ok' : Nat → Prop} {w : World} {x : EqV} {q : Eqn} (h : HEq ok w x q) (hk : ∀ i, ok i → i < w.heap.size → ok' i) : HEq ok' w x q :=
  ⟨h.place, h.names.wide hk, h.node, h.S.wide hk, h.E.wide hk⟩
theorem HEqs.wide {ok ok' : Nat → Prop} {w : World} {v : Value} {l : List Eqn} (h : HEqs ok w v l) (hk : ∀ i, ok i → i < w.heap.size → ok' i) : HEqs ok' w v l := by
  obtain ⟨C, h1, h2⟩ := h
  refine ⟨C, h1.wide hk, fun i hi => ?_⟩
  obtain ⟨x, e, hx⟩ := h2 i hi
  exact ⟨x, e, hx.wide hk⟩
theorem HNd.wide {ok ok' : Nat → Prop} {w : World} {x : NdV} {n : Nd} (h : HNd ok w x n) (hk : ∀ i, ok i → i < w.heap.size → ok' i) : HNd ok' w x n :=
  ⟨h.name, h.place, h.sizes.wide hk, h.inn.wide hk, h.out.wide hk, h.loc.wide hk, h.eqs.wide hk⟩
end Go.Proofs.YtfipfdpohkafaaaDoor
