import Derived.Test.YtfipfdpohkafaaaDoorQ26
set_option linter.unusedVariables false
set_option linter.unusedSimpArgs false
set_option maxHeartbeats 64000000
set_option maxRecDepth 100000
namespace Go.Proofs.YtfipfdpohkafaaaDoor
open Go.Shelf Go.RowKit Go.Lib Go.IntWalk
set_option linter.unusedVariables false
set_option linter.unusedSimpArgs false
/-- a step of a tree -/
structure Pu where
  op : Int
  k : Int
  v : Int
  n : Int
def Pu.cs (p : Pu) : List Value := [.int .i64 p.op, .int .i64 p.k, .int .i64 p.v, .int .i64 p.n]
def HPu (ok : Nat → Prop) (w : World) (v : Value) (L : List Pu) : Prop := ∃ C, Sl ok 4 w v L.length C ∧ ∀ i (h : i < L.length), C i = (L[i]).cs
theorem HPu.at {ok : Nat → Prop} {w : World} {v : Value} {l : List Pu} (h : HPu ok w v l) :
    ∃ ao cap, v = .slice ao l.length cap ∧ l.length ≤ cap ∧ cap ≤ maxLen ∧ ∀ i (h : i < l.length), ∃ b o, ao = some ⟨b, o, none⟩ ∧ b < w.heap.size ∧ w.cell? ⟨b, o + i * 4, none⟩ = some (.int .i64 (l[i]).op) ∧ w.cell? ⟨b, o + i * 4 + 1, none⟩ = some (.int .i64 (l[i]).k) ∧ w.cell? ⟨b, o + i * 4 + 2, none⟩ = some (.int .i64 (l[i]).v) ∧ w.cell? ⟨b, o + i * 4 + 3, none⟩ = some (.int .i64 (l[i]).n) := by
  obtain ⟨C, ⟨ao, cap, hv, h1, h2, h3⟩, hC⟩ := h
  refine ⟨ao, cap, hv, h1, h2, fun i hi => ?_⟩
  obtain ⟨b, o, ha, hob, hb, hc⟩ := h3 (by omega)
  have hcc := (hc i hi).2
  rw [hC i hi] at hcc
  exact ⟨b, o, ha, hb, hcc 0 (by decide), hcc 1 (by decide), hcc 2 (by decide), hcc 3 (by decide)⟩
theorem HPu.keep {ok : Nat → Prop} {w w' : World} {v : Value} {l : List Pu} (h : HPu ok w v l) (h1 : w.heap.size ≤ w'.heap.size) (h2 : ∀ i, ok i → i < w.heap.size → w'.heap[i]? = w.heap[i]?) : HPu ok w' v l := by
  obtain ⟨C, h3, h4⟩ := h
  exact ⟨C, h3.keep h1 h2, h4⟩
/-! ### sorting, and each once -/
end Go.Proofs.YtfipfdpohkafaaaDoor
