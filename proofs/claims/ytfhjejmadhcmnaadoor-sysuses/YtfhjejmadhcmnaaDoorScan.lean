
/-
  DERIVED. THE WALK of token.Scan.
-/
import Derived.Test.YtfhjejmadhcmnaaDoorReads
import Derived.Test.YtfhjejmadhcmnaaDoorMath
namespace Go.Proofs.YtfhjejmadhcmnaaDoor
open Go.RowKit Go.IntWalk
set_option linter.unusedVariables false
set_option linter.unusedSimpArgs false

def str (l : List UInt8) : ByteArray := ⟨l.toArray⟩

/-- a token's cells -/
def tokCells (t : Tk.Tok) : List Value := [.int .i64 t.kind, .int .i64 (t.place : Int), .string (str t.text), .int .i64 t.n]

def toksCells (l : List Tk.Tok) : List Value := l.flatMap tokCells

theorem drop_extract (s : ByteArray) (p : Nat) : (s.extract p s.size).data.toList = s.data.toList.drop p := by
  rw [extract_list, List.take_of_length_le]
  rw [List.length_drop, ← Lib.size_eq]
  exact Nat.le_refl _

theorem ownsRow_below {w w' : World} {base : Nat} {e : TypeId} {size : Nat} {v : Value} {n : Nat} {xs : List Value} (h : w.ownsRow base e size v n xs) (hb : Below w.heap.size w w') : w'.ownsRow base e size v n xs :=
  h.kept (row := none) ⟨hb.os, hb.tape, hb.output, hb.size, fun k hk _ => hb.block k hk⟩ (by cases hv : v.ownBlock <;> simp)

theorem res_cells {w w1 : World} (h : Below (w.heap.size + 1) (w.alloc (.cells #[.int .i64 0, .int .i64 0] 38)) w1) :
    w1.cell? ⟨w.heap.size, 0, none⟩ = some (.int .i64 0) ∧ w1.cell? ⟨w.heap.size, 1, none⟩ = some (.int .i64 0) ∧ w1.frozen? ⟨w.heap.size, 0, none⟩ = false ∧ w1.frozen? ⟨w.heap.size, 1, none⟩ = false ∧ w.heap.size < w1.heap.size := by
  obtain ⟨hc, hf⟩ := bcellB h
  refine ⟨?_, ?_, ?_, ?_, ?_⟩
  · rw [hc _ _ (by omega)]; simp
  · rw [hc _ _ (by omega)]; simp
  · rw [hf _ _ (by omega)]; simp
  · rw [hf _ _ (by omega)]; simp
  · have := h.size; simp at this; omega

end Go.Proofs.YtfhjejmadhcmnaaDoor
