
/-
  DERIVED. What a row of tokens holds, cell by cell.
-/
import Derived.Test.YtfhjejmadhcmnaaDoorScan
namespace Go.Proofs.YtfhjejmadhcmnaaDoor
open Go.RowKit Go.IntWalk
set_option linter.unusedVariables false
set_option linter.unusedSimpArgs false

/-- what a slice of tokens holds: cell by cell -/
def HoldsToks (w : World) (g : Nat) (L : List Tk.Tok) : Prop :=
  ∀ i (hi : i < L.length), w.cell? ⟨g, i * 4, none⟩ = some (.int .i64 (L[i]).kind) ∧ w.cell? ⟨g, i * 4 + 1, none⟩ = some (.int .i64 ((L[i]).place : Int)) ∧
    w.cell? ⟨g, i * 4 + 2, none⟩ = some (.string (str (L[i]).text)) ∧ w.cell? ⟨g, i * 4 + 3, none⟩ = some (.int .i64 (L[i]).n)

theorem toksCells_at : ∀ (L : List Tk.Tok) (i : Nat) (hi : i < L.length),
    (toksCells L)[i * 4]? = some (.int .i64 (L[i]).kind) ∧ (toksCells L)[i * 4 + 1]? = some (.int .i64 ((L[i]).place : Int)) ∧
    (toksCells L)[i * 4 + 2]? = some (.string (str (L[i]).text)) ∧ (toksCells L)[i * 4 + 3]? = some (.int .i64 (L[i]).n)
  | [], i, hi => by simp at hi
  | t :: L, 0, _ => by simp [toksCells, tokCells]
  | t :: L, i + 1, hi => by
    have ih := toksCells_at L i (by simpa using hi)
    have e : toksCells (t :: L) = tokCells t ++ toksCells L := by simp [toksCells]
    have hl : (tokCells t).length = 4 := rfl
    rw [e]
    have go : ∀ j, (tokCells t ++ toksCells L)[(i + 1) * 4 + j]? = (toksCells L)[i * 4 + j]? := by
      intro j
      rw [List.getElem?_append_right (by rw [hl]; omega), hl]
      congr 1
      omega
    exact ⟨(go 0).trans ih.1, (go 1).trans ih.2.1, (go 2).trans ih.2.2.1, (go 3).trans ih.2.2.2⟩

end Go.Proofs.YtfhjejmadhcmnaaDoor
