
/-
  DERIVED. THE WALK of the copy of declarations.
-/
import Derived.Test.YtfhjejmadhcmnaaDoorCp2
namespace Go.Proofs.YtfhjejmadhcmnaaDoor
open Go.RowKit Go.IntWalk
set_option linter.unusedVariables false
set_option linter.unusedSimpArgs false
set_option maxRecDepth 100000

def FitD (l : List De) : Prop := l.length * 48 ≤ 140737488355328 ∧ ∀ i (h : i < l.length), (l[i]).n.length * 24 ≤ 140737488355328
theorem HTerms.set {ok : Nat → Prop} {w : World} {v : Value} {l : List Tm} (h : HTerms ok w v l) {p : Addr} (hp : ¬ ok p.block) (u : Value) : HTerms ok (w.setCell p u) v l :=
  h.keep (by simp [World.setCell]) fun i hi hl => Below.heap_setCell _ _ _ _ (fun e => hp (e ▸ hi))

theorem owns_set {w : World} {base : Nat} {e : TypeId} {size : Nat} {v : Value} {n : Nat} {xs : List Value} (h : w.ownsRow base e size v n xs) {p : Addr} (hp : v.ownBlock ≠ some p.block) (u : Value) : (w.setCell p u).ownsRow base e size v n xs :=
  h.kept (row := some p.block) ⟨rfl, rfl, rfl, by simp [World.setCell], fun k _ hk => Below.heap_setCell _ _ _ _ (fun e => hk (by rw [e]))⟩ (.inr hp)

theorem size_set (w : World) (p : Addr) (u : Value) : (w.setCell p u).heap.size = w.heap.size := by simp [World.setCell]
theorem new3s (w : World) (p : Addr) (q a b c : Value) (t : TypeId) : ∀ j u, [a, b, c][j]? = some u → ((w.setCell p q).alloc (.cells #[a, b, c] t)).cell? ((⟨w.heap.size, 0, none⟩ : Addr).add j) = some u := by
  have := new3 (w.setCell p q) a b c t
  rw [size_set] at this
  exact this

end Go.Proofs.YtfhjejmadhcmnaaDoor
