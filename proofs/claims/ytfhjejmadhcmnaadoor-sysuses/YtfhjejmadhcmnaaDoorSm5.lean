
/-
  DERIVED. THE WALKS of the comparisons of expressions.
-/
import Derived.Test.YtfhjejmadhcmnaaDoorSm4
import Derived.Test.YtfhjejmadhcmnaaDoorRd6
namespace Go.Proofs.YtfhjejmadhcmnaaDoor
open Go.RowKit Go.IntWalk
set_option linter.unusedVariables false
set_option linter.unusedSimpArgs false
set_option maxRecDepth 100000

mutual
def xeq : Ex → Ex → Bool
  | .mk o k n s S L, .mk o' k' n' s' S' L' => (o == o') && (k == k') && (n == n') && seq s s' && eqL (eqL teq) S S' && xeqs L L'
def xeqs : List Ex → List Ex → Bool
  | [], [] => true
  | a :: l, b :: r => xeq a b && xeqs l r
  | _, _ => false
end
theorem xeqs_eq : ∀ l r : List Ex, xeqs l r = eqL xeq l r
  | [], [] => by simp [xeqs, eqL]
  | [], _ :: _ => by simp [xeqs, eqL]
  | _ :: _, [] => by simp [xeqs, eqL]
  | a :: l, b :: r => by simp [xeqs, eqL, xeqs_eq l r]
theorem szeq_refl (S : List (List Tm)) : eqL (eqL teq) S S = true := eqL_refl S fun x _ => eqL_refl x fun y _ => teq_refl y
mutual
theorem xeq_refl : ∀ e : Ex, xeq e e = true
  | .mk o k n s S L => by simp [xeq, seq_refl, szeq_refl, xeqs_refl L]
theorem xeqs_refl : ∀ l : List Ex, xeqs l l = true
  | [] => by simp [xeqs]
  | a :: l => by simp [xeqs, xeq_refl a, xeqs_refl l]
end

/-- a slice of expressions -/
def HExs (ok : Nat → Prop) (w : World) (v : Value) (L : List Ex) : Prop := ∃ C, Sl ok 6 w v L.length C ∧ ∀ i (h : i < L.length), HEx ok w (C i) L[i]
theorem HExs.keep {ok : Nat → Prop} {w w' : World} {v : Value} {l : List Ex} (h : HExs ok w v l) (hs : w.heap.size ≤ w'.heap.size) (hk : ∀ i, ok i → i < w.heap.size → w'.heap[i]? = w.heap[i]?) : HExs ok w' v l := by
  obtain ⟨C, h1, h2⟩ := h
  exact ⟨C, h1.keep hs hk, fun i hi => (h2 i hi).keep hs hk⟩
theorem HExs.under {ok : Nat → Prop} {w w' : World} {v : Value} {l : List Ex} (h : HExs ok w v l) (a : Below w.heap.size w w') : HExs ok w' v l := h.keep a.size fun i _ hl => a.block i hl
theorem HExs.at {ok : Nat → Prop} {w : World} {v : Value} {L : List Ex} (h : HExs ok w v L) :
    ∃ ao cap, v = .slice ao L.length cap ∧ L.length ≤ cap ∧ cap ≤ maxLen ∧ ∀ i (h : i < L.length), ∃ b o y, ao = some ⟨b, o, none⟩ ∧ ok b ∧ b < w.heap.size ∧ ExAt w b (o + i * 6) y ∧ HEx ok w y.cells L[i] := by
  obtain ⟨C, h1, h2⟩ := h
  exact h1.exAt h2
/-- an expression's parts, by its value -/
theorem HEx.parts {ok : Nat → Prop} {w : World} {x : ExV} {e : Ex} (h : HEx ok w x.cells e) : x.op = e.op ∧ x.k = e.k ∧ x.n = e.n ∧ x.name = e.name ∧ HSizes ok w (.slice x.aS x.nS x.cS) e.S ∧ HExs ok w (.slice x.aL x.nL x.cL) e.L := by
  obtain ⟨o, k, n, s, a, b, c, d, f, g⟩ := x
  cases h with
  | mk C hS hL hE => exact ⟨rfl, rfl, rfl, rfl, hS, C, hL, hE⟩

end Go.Proofs.YtfhjejmadhcmnaaDoor
