/-
  DERIVED. What came in, opened: a rule.
-/
import Derived.Test.YtfhjejmadhcmnaaDoorSy16
import Derived.Test.YtfhjejmadhcmnaaDoorOp2
namespace Go.Proofs.YtfhjejmadhcmnaaDoor
open Go.RowKit Go.IntWalk Go.Deep
set_option linter.unusedVariables false
set_option linter.unusedSimpArgs false
set_option maxRecDepth 100000
section
variable {H : Type} {enc : TypeId × Value → H} {w : World}

instance : Inhabited Pu := ⟨⟨0, 0, 0, 0⟩⟩
theorem c22 : Tryd.prog.cellsOf 22 = 1 := by kernel_rfl
theorem c23 : Tryd.prog.cellsOf 23 = 1 := by kernel_rfl
theorem c25 : Tryd.prog.cellsOf 25 = 6 := by kernel_rfl
theorem c36 : Tryd.prog.cellsOf 36 = 4 := by kernel_rfl
theorem y3 : Tryd.prog.bytesOf 3 = 8 := by kernel_rfl
theorem y36 : Tryd.prog.bytesOf 36 = 32 := by kernel_rfl
theorem four_of {cs : List Value} (h : cs.length = 4) : ∃ a b c d, cs = [a, b, c, d] := by
  match cs, h with
  | [a, b, c, d], _ => exact ⟨a, b, c, d, rfl⟩
theorem six_of {cs : List Value} (h : cs.length = 6) : ∃ a b c d e f, cs = [a, b, c, d, e, f] := by
  match cs, h with
  | [a, b, c, d, e, f], _ => exact ⟨a, b, c, d, e, f, rfl⟩
theorem num_of {v : Value} {t : TypeId} (ht : Tryd.prog.underlying t = some (.int .i64)) (h : Rd0 enc w t [v]) : ∃ n, v = .int .i64 n := by
  obtain ⟨n, e⟩ := open_num ht h
  injection e with e _
  exact ⟨n, e⟩
theorem open_push {cs : List Value} (h : Rd0 enc w 36 cs) : ∃ p : Pu, cs = p.cs := by
  have hl := len_of Tryd.underlying36 h
  rw [c36] at hl
  obtain ⟨a, b, c, d, rfl⟩ := four_of hl
  obtain ⟨n0, rfl⟩ := num_of Tryd.underlying3 (field_of Tryd.underlying36 h 0 3 0 rfl c3 _ rfl)
  obtain ⟨n1, rfl⟩ := num_of Tryd.underlying3 (field_of Tryd.underlying36 h 1 3 1 rfl c3 _ rfl)
  obtain ⟨n2, rfl⟩ := num_of Tryd.underlying3 (field_of Tryd.underlying36 h 2 3 2 rfl c3 _ rfl)
  obtain ⟨n3, rfl⟩ := num_of Tryd.underlying2 (field_of Tryd.underlying36 h 3 2 3 rfl c2 _ rfl)
  exact ⟨⟨n0, n1, n2, n3⟩, rfl⟩
theorem open_ints {v : Value} (h : Rd0 enc w 22 [v]) : ∃ a n c L, v = .slice a n c ∧ HInts (fun _ => True) w (.slice a n c) L := by
  obtain ⟨fuel, x, h, hw⟩ := h
  obtain ⟨a, n, c, C, m, D, Pl, e, hs, _, hi⟩ := open_row Tryd.underlying22 c3 (by decide) y3 h hw
  injection e with e _
  obtain ⟨f, hf⟩ := choose_lt (α := Int) (p := fun i x => C i = [.int .i64 x]) (fun i h => by
    obtain ⟨q, e⟩ := open_num (enc := enc) (w := w) Tryd.underlying3 ⟨m, _, (hi i h).1, (hi i h).2.1⟩
    exact ⟨q, e⟩)
  obtain ⟨l, hl, hg⟩ := list_of n f
  refine ⟨a, n, c, l, e, C, by rw [hl]; exact hs, fun i h => ?_⟩
  rw [hg i h]
  exact hf i (by omega)
theorem open_pushes {v : Value} (h : Rd0 enc w 23 [v]) : ∃ a n c L, v = .slice a n c ∧ HPu (fun _ => True) w (.slice a n c) L := by
  obtain ⟨fuel, x, h, hw⟩ := h
  obtain ⟨a, n, c, C, m, D, Pl, e, hs, _, hi⟩ := open_row Tryd.underlying23 c36 (by decide) y36 h hw
  injection e with e _
  obtain ⟨f, hf⟩ := choose_lt (α := Pu) (p := fun i x => C i = x.cs) (fun i h => open_push (enc := enc) (w := w) ⟨m, _, (hi i h).1, (hi i h).2.1⟩)
  obtain ⟨l, hl, hg⟩ := list_of n f
  refine ⟨a, n, c, l, e, C, by rw [hl]; exact hs, fun i h => ?_⟩
  rw [hg i h]
  exact hf i (by omega)
theorem open_rule {cs : List Value} (h : Rd0 enc w 25 cs) : ∃ op k out n a na ca b nb cb A E, cs = [.int .i64 op, .int .i64 k, .int .i64 out, .int .i64 n, .slice a na ca, .slice b nb cb] ∧ HInts (fun _ => True) w (.slice a na ca) A ∧ HPu (fun _ => True) w (.slice b nb cb) E := by
  have hl := len_of Tryd.underlying25 h
  rw [c25] at hl
  obtain ⟨v0, v1, v2, v3, v4, v5, rfl⟩ := six_of hl
  obtain ⟨n0, rfl⟩ := num_of Tryd.underlying3 (field_of Tryd.underlying25 h 0 3 0 rfl c3 _ rfl)
  obtain ⟨n1, rfl⟩ := num_of Tryd.underlying3 (field_of Tryd.underlying25 h 1 3 1 rfl c3 _ rfl)
  obtain ⟨n2, rfl⟩ := num_of Tryd.underlying3 (field_of Tryd.underlying25 h 2 3 2 rfl c3 _ rfl)
  obtain ⟨n3, rfl⟩ := num_of Tryd.underlying2 (field_of Tryd.underlying25 h 3 2 3 rfl c2 _ rfl)
  obtain ⟨a, na, ca, A, rfl, hA⟩ := open_ints (field_of Tryd.underlying25 h 4 22 4 rfl c22 _ rfl)
  obtain ⟨b, nb, cb, E, rfl, hE⟩ := open_pushes (field_of Tryd.underlying25 h 5 23 5 rfl c23 _ rfl)
  exact ⟨_, _, _, _, _, _, _, _, _, _, A, E, rfl, hA, hE⟩
end
end Go.Proofs.YtfhjejmadhcmnaaDoor
