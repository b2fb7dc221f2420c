/-
  DERIVED. THE WALK of token.Scan.
-/
import Derived.Test.YtjpjedigajiomaaM02
import Derived.Test.YtjpjedigajiomaaMath
namespace Go.Proofs.Ytjpjedigajiomaa
open Go.RowKit Go.IntWalk
set_option linter.unusedVariables false
set_option linter.unusedSimpArgs false

def str (l : List UInt8) : ByteArray := ⟨l.toArray⟩

/-- a token's cells -/
def tokCells (t : Tk.Tok) : List Value := [.int .i64 t.kind, .int .i64 (t.place : Int), .string (str t.text), .int .i64 t.n]

def toksCells (l : List Tk.Tok) : List Value := l.flatMap tokCells

theorem drop_extract (s : ByteArray) (p : Nat) : (s.extract p s.size).data.toList = s.data.toList.drop p := by
  rw [extract_list, List.take_of_length_le]
  rw [List.length_drop, ← Lib.size_eq]
  exact Nat.le_refl _

theorem ownsRow_below {w w' : World} {base : Nat} {e : TypeId} {size : Nat} {v : Value} {n : Nat} {xs : List Value} (h : w.ownsRow base e size v n xs) (hb : Below w.heap.size w w') : w'.ownsRow base e size v n xs :=
  h.kept (row := none) ⟨hb.os, hb.tape, hb.output, hb.size, fun k hk _ => hb.block k hk⟩ (by cases hv : v.ownBlock <;> simp)

theorem res_cells {w w1 : World} (h : Below (w.heap.size + 1) (w.alloc (.cells #[.int .i64 0, .int .i64 0] 30)) w1) :
    w1.cell? ⟨w.heap.size, 0, none⟩ = some (.int .i64 0) ∧ w1.cell? ⟨w.heap.size, 1, none⟩ = some (.int .i64 0) ∧ w1.frozen? ⟨w.heap.size, 0, none⟩ = false ∧ w1.frozen? ⟨w.heap.size, 1, none⟩ = false ∧ w.heap.size < w1.heap.size := by
  obtain ⟨hc, hf⟩ := bcellB h
  refine ⟨?_, ?_, ?_, ?_, ?_⟩
  · rw [hc _ _ (by omega)]; simp
  · rw [hc _ _ (by omega)]; simp
  · rw [hf _ _ (by omega)]; simp
  · rw [hf _ _ (by omega)]; simp
  · have := h.size; simp at this; omega

end Go.Proofs.Ytjpjedigajiomaa


/-
  DERIVED. What a row of tokens holds, cell by cell.
-/
namespace Go.Proofs.Ytjpjedigajiomaa
open Go.RowKit Go.IntWalk
set_option linter.unusedVariables false
set_option linter.unusedSimpArgs false

/-- what a slice of tokens holds: cell by cell -/
def HoldsToks (w : World) (g : Nat) (L : List Tk.Tok) : Prop :=
  ∀ i (hi : i < L.length), w.cell? ⟨g, i * 4, none⟩ = some (.int .i64 (L[i]).kind) ∧ w.cell? ⟨g, i * 4 + 1, none⟩ = some (.int .i64 ((L[i]).place : Int)) ∧
    w.cell? ⟨g, i * 4 + 2, none⟩ = some (.string (str (L[i]).text)) ∧ w.cell? ⟨g, i * 4 + 3, none⟩ = some (.int .i64 (L[i]).n)

theorem toksCells_at : ∀ (L : List Tk.Tok) (i : Nat) (hi : i < L.length),
    (toksCells L)[i * 4]? = some (.int .i64 (L[i]).kind) ∧ (toksCells L)[i * 4 + 1]? = some (.int .i64 ((L[i]).place : Int)) ∧
    (toksCells L)[i * 4 + 2]? = some (.string (str (L[i]).text)) ∧ (toksCells L)[i * 4 + 3]? = some (.int .i64 (L[i]).n)
  | [], i, hi => by simp at hi
  | t :: L, 0, _ => by simp [toksCells, tokCells]
  | t :: L, i + 1, hi => by
    have ih := toksCells_at L i (by simpa using hi)
    have e : toksCells (t :: L) = tokCells t ++ toksCells L := by simp [toksCells]
    have hl : (tokCells t).length = 4 := rfl
    rw [e]
    have go : ∀ j, (tokCells t ++ toksCells L)[(i + 1) * 4 + j]? = (toksCells L)[i * 4 + j]? := by
      intro j
      rw [List.getElem?_append_right (by rw [hl]; omega), hl]
      congr 1
      omega
    exact ⟨(go 0).trans ih.1, (go 1).trans ih.2.1, (go 2).trans ih.2.2.1, (go 3).trans ih.2.2.2⟩

end Go.Proofs.Ytjpjedigajiomaa
