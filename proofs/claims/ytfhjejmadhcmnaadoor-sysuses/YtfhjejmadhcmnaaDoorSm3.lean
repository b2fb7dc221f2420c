
/-
  DERIVED. THE WALKS of the comparisons of the document: names, terms, sizes: they only read.
-/
import Derived.Test.YtfhjejmadhcmnaaDoorSm2
namespace Go.Proofs.YtfhjejmadhcmnaaDoor
open Go.RowKit Go.IntWalk
set_option linter.unusedVariables false
set_option linter.unusedSimpArgs false
set_option maxRecDepth 100000

theorem drewN2 {w wr : World} {a : Nat} (h : wr = w.drewN a) (b : Nat) : Below w.heap.size w (wr.drewN b) := by rw [h]; exact ⟨rfl, rfl, rfl, Nat.le_refl _, fun _ _ => rfl⟩

end Go.Proofs.YtfhjejmadhcmnaaDoor
