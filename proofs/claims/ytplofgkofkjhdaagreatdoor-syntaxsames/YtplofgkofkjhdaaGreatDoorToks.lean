/-
  DERIVED. What a row of tokens holds, cell by cell.
-/
import Derived.Test.YtplofgkofkjhdaaGreatDoorScan
namespace Go.Proofs.YtplofgkofkjhdaaGreatDoor
open Go.RowKit Go.IntWalk
set_option linter.unusedVariables false
set_option linter.unusedSimpArgs false

/-- what a slice of tokens holds: cell by cell -/
def HoldsToks (w : World) (g : Nat) (L : List Tk.Tok) : Prop :=
  ∀ i (hi : i < L.length), w.cell? ⟨g, i * 4, none⟩ = some (.int .i64 (L[i]).kind) ∧ w.cell? ⟨g, i * 4 + 1, none⟩ = some (.int .i64 ((L[i]).place : Int)) ∧
    w.cell? ⟨g, i * 4 + 2, none⟩ = some (.string (str (L[i]).text)) ∧ w.cell? ⟨g, i * 4 + 3, none⟩ = some (.int .i64 (L[i]).n)

theorem toksCells_at : ∀ (L : List Tk.Tok) (i : Nat) (hi : i < L.length),
    (toksCells L)[i * 4]? = some (.int .i64 (L[i]).kind) ∧ (toksCells L)[i * 4 + 1]? = some (.int .i64 ((L[i]).place : Int)) ∧
    (toksCells L)[i * 4 + 2]? = some (.string (str (L[i]).text)) ∧ (toksCells L)[i * 4 + 3]? = some (.int .i64 (L[i]).n)
  | [], i, hi => by simp at hi
  | t :: L, 0, _ => by simp [toksCells, tokCells]
  | t :: L, i + 1, hi => by
    have ih := toksCells_at L i (by simpa using hi)
    have e : toksCells (t :: L) = tokCells t ++ toksCells L := by simp [toksCells]
    have hl : (tokCells t).length = 4 := rfl
    rw [e]
    have go : ∀ j, (tokCells t ++ toksCells L)[(i + 1) * 4 + j]? = (toksCells L)[i * 4 + j]? := by
      intro j
      rw [List.getElem?_append_right (by rw [hl]; omega), hl]
      congr 1
      omega
    exact ⟨(go 0).trans ih.1, (go 1).trans ih.2.1, (go 2).trans ih.2.2.1, (go 3).trans ih.2.2.2⟩

theorem owns_toks {w : World} {base : Nat} {v : Value} {L : List Tk.Tok} (h : w.ownsRow base 71 4 v L.length (toksCells L)) :
    (v = .slice none 0 0 ∧ L = []) ∨ ∃ g cap, v = .slice (some ⟨g, 0, none⟩) L.length cap ∧ base ≤ g ∧ g < w.heap.size ∧ L.length ≤ cap ∧ cap ≤ maxLen ∧ HoldsToks w g L := by
  have hcell := @World.ownsRow.cells _ _ _ _ _ _ _ h
  rcases h.2 with ⟨rfl, h0⟩ | ⟨g, cap, cur, rfl, hb, hg, hnc, hcm, hcs, htake⟩
  · exact .inl ⟨rfl, List.length_eq_zero_iff.1 h0⟩
  · refine .inr ⟨g, cap, rfl, hb, (Array.getElem?_eq_some_iff.1 hg).1, hnc, hcm, fun i hi => ?_⟩
    have hc := @hcell g rfl
    have ha := toksCells_at L i hi
    have adds : ∀ j, (⟨g, 0, none⟩ : Addr).add j = ⟨g, j, none⟩ := by intro j; unfold Addr.add; split <;> simp_all
    have k0 := hc _ _ ha.1
    have k1 := hc _ _ ha.2.1
    have k2 := hc _ _ ha.2.2.1
    have k3 := hc _ _ ha.2.2.2
    rw [adds] at k0 k1 k2 k3
    exact ⟨k0, k1, k2, k3⟩

/-- a slice of tokens, nil or not -/
theorem toks_slice {w : World} {base : Nat} {v : Value} {L : List Tk.Tok} (h : w.ownsRow base 71 4 v L.length (toksCells L)) :
    ∃ ao g cap, v = .slice ao L.length cap ∧ L.length ≤ cap ∧ cap ≤ maxLen ∧ (0 < L.length → ao = some ⟨g, 0, none⟩ ∧ base ≤ g ∧ g < w.heap.size ∧ HoldsToks w g L) := by
  rcases owns_toks h with ⟨rfl, rfl⟩ | ⟨g, cap, rfl, h1, h2, h3, h4, h5⟩
  · exact ⟨none, 0, 0, rfl, Nat.le_refl _, Nat.zero_le _, fun h => by simp at h⟩
  · exact ⟨some ⟨g, 0, none⟩, g, cap, rfl, h3, h4, fun _ => ⟨rfl, h1, h2, h5⟩⟩


end Go.Proofs.YtplofgkofkjhdaaGreatDoor
