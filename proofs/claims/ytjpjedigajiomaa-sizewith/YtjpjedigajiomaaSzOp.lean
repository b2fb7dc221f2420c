/-
  DERIVED. Rows of numbers that came in, opened.
-/
import Derived.Test.YtjpjedigajiomaaOp2
import Derived.Test.YtjpjedigajiomaaSzY
namespace Go.Proofs.Ytjpjedigajiomaa
open Go.RowKit Go.IntWalk Go.Deep
set_option linter.unusedVariables false
set_option linter.unusedSimpArgs false
set_option maxRecDepth 100000
section
variable {H : Type} {enc : TypeId × Value → H} {w : World}
theorem open_intsR {cs : List Value} (h : Rd0 enc w 26 cs) : ∃ a n c l, cs = [.slice a n c] ∧ HInts (fun _ => True) w (.slice a n c) l ∧ l.length * 8 ≤ 140737488355328 := by
  obtain ⟨fuel, x, h, hw⟩ := h
  obtain ⟨a, n, c, C, m, D, Pl, rfl, hS, hb, hx⟩ := open_row (bytes := 8) Try.underlying26 c3 (by decide) (by kernel_rfl) h hw
  obtain ⟨f, hf⟩ := choose_lt (n := n) (p := fun i (s : Int) => C i = [.int .i64 s]) (fun i hi => open_num Try.underlying3 ⟨m, _, (hx i hi).1, (hx i hi).2.1⟩)
  obtain ⟨l, hl, hli⟩ := list_of n f
  refine ⟨a, n, c, l, rfl, ⟨C, by rw [hl]; exact hS, fun i hi => by rw [hli i hi]; exact hf i (by omega)⟩, by rw [hl]; exact hb⟩
end
end Go.Proofs.Ytjpjedigajiomaa
