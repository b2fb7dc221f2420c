
/-
  DERIVED. THE WALKS of the document's own small functions: small, digit, F, long, num, IsWord.
-/
import Derived.Test.YtjpjedigajiomaaM04
namespace Go.Proofs.Ytjpjedigajiomaa
open Go.RowKit Go.IntWalk
set_option linter.unusedVariables false
set_option linter.unusedSimpArgs false

set_option maxHeartbeats 400000 in
theorem fault_any (c a : Int) (w : World) :
    Calls Try.prog 20 #[.int .i64 c, .int .i64 a] w fun e w' => e = .returned (.agg #[.int .i64 c, .int .i64 a]) ∧ Below w.heap.size w w' := by
  go_enter Try.func20, Try.ntmps20
  go_wp2
  exact bodyPost_ret (v := .agg #[.int .i64 c, .int .i64 a]) (by simp [results, Try.results20, go_sem]) rfl ⟨rfl, (Below.refl _ _).alloc (Nat.le_refl _) _⟩

theorem runLen_cons (c : UInt8) (l : List UInt8) : Tk.runLen (c :: l) = if Tk.isR (c.toNat : Int) = true then Tk.runLen l + 1 else 0 := by
  unfold Tk.runLen
  rw [List.takeWhile_cons]
  split <;> simp

/-- what the document's num says -/
def numR (l : List UInt8) : Int := if Tk.badNum l then -1 else if l.all (fun c => Tk.isD (c.toNat : Int)) then Tk.numVal l else -1

def wordsV : Array Value := (Tk.words.map fun l => Value.string (str l)).toArray

theorem wordsV_at (k : Nat) (h : k < 32) : wordsV[k]? = some (.string (str (Tk.words[k]'h))) := by
  unfold wordsV
  rw [List.getElem?_toArray, List.getElem?_map, List.getElem?_eq_getElem (show k < Tk.words.length from h)]
  rfl

theorem cell_new (w : World) (c : Array Value) (t : TypeId) (i : Nat) : (w.alloc (.cells c t)).cell? ⟨w.heap.size, i, none⟩ = c[i]? := by
  simp

theorem runLen_full (l : List UInt8) : (Tk.runLen l == l.length) = l.all (fun c => Tk.isR (c.toNat : Int)) := by
  induction l with
  | nil => rfl
  | cons c l ih =>
    rw [runLen_cons, List.all_cons, ← ih]
    cases hR : Tk.isR (c.toNat : Int)
    · simp
    · rw [Bool.eq_iff_iff]; simp

end Go.Proofs.Ytjpjedigajiomaa
