
/-
  DERIVED. THE WALKS of what package token calls of Go's library (strings.HasPrefix, strings.IndexByte, strings.Clone), and of Word, signLength, makeToken.
-/
import Derived.Test.YtfhjejmadhcmnaaDoorLeaf
import Derived.Lib.Slices
import Derived.Lib.Bytealg
import Derived.Lib.BufferWrite
import Derived.Lib.UnsafeStr
import Derived.Lib.Hide
import Derived.Laws.MakeOwn
namespace Go.Proofs.YtfhjejmadhcmnaaDoor
open Go.RowKit
set_option linter.unusedVariables false

theorem indexByte_nonneg (c : UInt8) : ∀ l : List UInt8, decide (0 ≤ Lib.indexByte l c) = l.any fun x => x == c
  | [] => by simp [Lib.indexByte]
  | b :: l => by
    have ih := indexByte_nonneg c l
    have hg := Lib.indexByte_ge l c
    unfold Lib.indexByte
    by_cases hb : (b == c) = true
    · simp [hb]
    · have hb' : (b == c) = false := by simpa using hb
      rw [List.any_cons, hb', Bool.false_or, ← ih]
      simp only [Bool.false_eq_true, if_false]
      by_cases h1 : Lib.indexByte l c = -1
      · simp [h1]
      · have h2 : (Lib.indexByte l c == -1) = false := by simpa using h1
        simp only [h2, Bool.false_eq_true, if_false]
        rw [Bool.eq_iff_iff]; simp; omega

theorem signLen_of (l : List UInt8) : Tk.signLen l = if Lib.hasPrefix l [61, 61] then 2 else if Lib.hasPrefix l [45, 62] then 2 else if l ≠ [] ∧ Tk.isS (l.headD 0) = true then 1 else 0 := by
  match l with
  | [] => simp [Tk.signLen, Lib.hasPrefix]
  | [c] => simp [Tk.signLen, Lib.hasPrefix]
  | c :: d :: l =>
    simp only [Tk.signLen, Lib.hasPrefix, List.isPrefixOf, List.head?_cons, List.headD_cons]
    by_cases h1 : c = 61 <;> by_cases h2 : d = 61 <;> by_cases h3 : c = 45 <;> by_cases h4 : d = 62 <;> simp [h1, h2, h3, h4, eq_comm (a := (61 : UInt8)), eq_comm (a := (45 : UInt8)), eq_comm (a := (62 : UInt8))]


theorem Tryd.info5 : (Tryd.prog.info? 5).map (fun i => (i.zero, i.size, i.bytes)) = some (some (.int .u8 0), 1, 1) := by kernel_rfl

theorem bcell {W w1 : World} (hb : Below W.heap.size W w1) : (∀ b o, b < W.heap.size → w1.cell? ⟨b, o, none⟩ = W.cell? ⟨b, o, none⟩) ∧ (∀ b o, b < W.heap.size → w1.frozen? ⟨b, o, none⟩ = W.frozen? ⟨b, o, none⟩) :=
  ⟨fun b o h => hb.cell (p := ⟨b, o, none⟩) h, fun b o h => hb.frozen (p := ⟨b, o, none⟩) h⟩


end Go.Proofs.YtfhjejmadhcmnaaDoor
