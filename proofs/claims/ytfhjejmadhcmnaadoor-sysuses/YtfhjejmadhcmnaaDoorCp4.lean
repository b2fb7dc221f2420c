
/-
  DERIVED. THE WALK of the copy of expressions.
-/
import Derived.Test.YtfhjejmadhcmnaaDoorCp3
namespace Go.Proofs.YtfhjejmadhcmnaaDoor
open Go.RowKit Go.IntWalk
set_option linter.unusedVariables false
set_option linter.unusedSimpArgs false
set_option maxRecDepth 100000

inductive FitX : Ex → Prop
  | mk {o k n : Int} {s : ByteArray} {S : List (List Tm)} {L : List Ex} (hS : FitS S) (hL : L.length * 88 ≤ 140737488355328) (hE : ∀ i (h : i < L.length), FitX L[i]) : FitX (.mk o k n s S L)
def FitXs (L : List Ex) : Prop := L.length * 88 ≤ 140737488355328 ∧ ∀ i (h : i < L.length), FitX L[i]
theorem FitX.parts {e : Ex} (h : FitX e) : FitS e.S ∧ FitXs e.L := by
  cases h with
  | mk hS hL hE => exact ⟨hS, hL, hE⟩
theorem HEx.make {ok : Nat → Prop} {w : World} {x : ExV} {e : Ex} (h1 : x.op = e.op) (h2 : x.k = e.k) (h3 : x.n = e.n) (h4 : x.name = e.name) (hS : HSizes ok w (.slice x.aS x.nS x.cS) e.S) (hL : HExs ok w (.slice x.aL x.nL x.cL) e.L) : HEx ok w x.cells e := by
  obtain ⟨o, k, n, s, S, L⟩ := e
  obtain ⟨xo, xk, xn, xs, a, b, c, d, f, g⟩ := x
  simp only [Ex.op, Ex.k, Ex.n, Ex.name, Ex.S, Ex.L] at h1 h2 h3 h4 hS hL
  subst h1 h2 h3 h4
  obtain ⟨C, hl, hE⟩ := hL
  exact .mk C hS hl hE
theorem HExs.wide {ok ok' : Nat → Prop} {w : World} {v : Value} {l : List Ex} (h : HExs ok w v l) (hk : ∀ i, ok i → i < w.heap.size → ok' i) : HExs ok' w v l := by
  obtain ⟨C, h1, h2⟩ := h
  exact ⟨C, h1.wide hk, fun i hi => (h2 i hi).wide hk⟩
theorem HSizes.set {ok : Nat → Prop} {w : World} {v : Value} {l : List (List Tm)} (h : HSizes ok w v l) {p : Addr} (hp : ¬ ok p.block) (u : Value) : HSizes ok (w.setCell p u) v l :=
  h.keep (by simp [World.setCell]) fun i hi hl => Below.heap_setCell _ _ _ _ (fun e => hp (e ▸ hi))
theorem HExs.set {ok : Nat → Prop} {w : World} {v : Value} {l : List Ex} (h : HExs ok w v l) {p : Addr} (hp : ¬ ok p.block) (u : Value) : HExs ok (w.setCell p u) v l :=
  h.keep (by simp [World.setCell]) fun i hi hl => Below.heap_setCell _ _ _ _ (fun e => hp (e ▸ hi))
theorem new6s (w : World) (p : Addr) (q a b c d e f : Value) (t : TypeId) : ∀ j u, [a, b, c, d, e, f][j]? = some u → ((w.setCell p q).alloc (.cells #[a, b, c, d, e, f] t)).cell? ((⟨w.heap.size, 0, none⟩ : Addr).add j) = some u := by
  intro j u hj
  have hn := heap_new (w.setCell p q) (.cells #[a, b, c, d, e, f] t (0, 0))
  rw [size_set] at hn
  have adds : (⟨w.heap.size, 0, none⟩ : Addr).add j = ⟨w.heap.size, j, none⟩ := by unfold Addr.add; split <;> simp_all
  rw [adds, cell_of hn]
  rw [List.getElem?_toArray]
  exact hj
end Go.Proofs.YtfhjejmadhcmnaaDoor
