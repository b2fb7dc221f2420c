import Derived.Test.YtfipfdpohkafaaaDoorQ23
import Derived.Test.YtfipfdpohkafaaaDoorQ22
import Derived.Shelf.Lay
import Derived.Shelf.Sort.Plain
import Derived.Shelf.Slices.CompactI
import Derived.Shelf.Slices.In.SortNone
import Derived.Ground.NamesProg
set_option linter.unusedVariables false
set_option linter.unusedSimpArgs false
set_option maxHeartbeats 64000000
set_option maxRecDepth 100000
namespace Go.Proofs.YtfipfdpohkafaaaDoor
open Go.Shelf Go.RowKit Go.Lib Go.IntWalk Go.Sort
set_option linter.unusedVariables false
set_option linter.unusedSimpArgs false
/-- v is a row of numbers -/
def HInts (ok : Nat → Prop) (w : World) (v : Value) (L : List Int) : Prop := ∃ C, Sl ok 1 w v L.length C ∧ ∀ i (h : i < L.length), C i = [.int .i64 L[i]]
theorem HInts.at {ok : Nat → Prop} {w : World} {v : Value} {l : List Int} (h : HInts ok w v l) :
    ∃ ao cap, v = .slice ao l.length cap ∧ l.length ≤ cap ∧ cap ≤ maxLen ∧ ∀ i (h : i < l.length), ∃ b o, ao = some ⟨b, o, none⟩ ∧ b < w.heap.size ∧ w.cell? ⟨b, o + i, none⟩ = some (.int .i64 l[i]) := by
  obtain ⟨C, ⟨ao, cap, hv, h1, h2, h3⟩, hC⟩ := h
  refine ⟨ao, cap, hv, h1, h2, fun i hi => ?_⟩
  obtain ⟨b, o, ha, hob, hb, hc⟩ := h3 (by omega)
  have := (hc i hi).2 0 (by decide)
  rw [hC i hi] at this
  exact ⟨b, o, ha, hb, by simpa using this⟩
theorem HInts.keep {ok : Nat → Prop} {w w' : World} {v : Value} {l : List Int} (h : HInts ok w v l) (h1 : w.heap.size ≤ w'.heap.size) (h2 : ∀ i, ok i → i < w.heap.size → w'.heap[i]? = w.heap[i]?) : HInts ok w' v l := by
  obtain ⟨C, h3, h4⟩ := h
  exact ⟨C, h3.keep h1 h2, h4⟩
theorem HInts.under {ok : Nat → Prop} {w w' : World} {v : Value} {l : List Int} (h : HInts ok w v l) (b : Below w.heap.size w w') : HInts ok w' v l := h.keep b.size fun i _ hl => b.block i hl
theorem HInts.wide {ok ok' : Nat → Prop} {w : World} {v : Value} {l : List Int} (h : HInts ok w v l) (hk : ∀ i, ok i → i < w.heap.size → ok' i) : HInts ok' w v l := by
  obtain ⟨C, h3, h4⟩ := h
  exact ⟨C, h3.wide hk, h4⟩
def ics (l : List Int) : List Value := l.map (Value.int .i64)
theorem ics_len (l : List Int) : (ics l).length = l.length := by simp [ics]
/-- a block of numbers, and what lies behind them -/
def IBlk (w : World) (g : Nat) (l : List Int) (sp : List Value) : Prop := w.heap[g]? = some (.cells (ics l ++ sp).toArray 3 (0, 0))
theorem IBlk.cell {w : World} {g : Nat} {l : List Int} {sp : List Value} (h : IBlk w g l sp) {i : Nat} (hi : i < l.length) : w.cell? ⟨g, i, none⟩ = some (.int .i64 l[i]) := by
  have := cell_of h i
  rw [this, List.getElem?_toArray, List.getElem?_append_left (by rw [ics_len]; exact hi)]
  simp [ics, hi]
theorem IBlk.holds {w : World} {g : Nat} {l : List Int} {sp : List Value} (h : IBlk w g l sp) : Holds (Value.int .i64) w g 0 l.toArray := by
  intro j hj
  have hj2 : j < l.length := by simpa using hj
  rw [Nat.zero_add]
  refine ⟨?_, free_of h j⟩
  rw [h.cell hj2]
  simp [hj2]
end Go.Proofs.YtfipfdpohkafaaaDoor
