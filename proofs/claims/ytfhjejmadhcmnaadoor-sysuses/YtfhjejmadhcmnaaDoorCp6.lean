
/-
  DERIVED. THE WALK of the copy of a program: whatever order its two drawn regions are carried out in, the copy is the program anew, in new memory.
-/
import Derived.Test.YtfhjejmadhcmnaaDoorOp2
import Derived.Deep.DeepCutAuto
import Derived.Test.YtfhjejmadhcmnaaDoorLate
namespace Go.Proofs.YtfhjejmadhcmnaaDoor
open Go.RowKit Go.IntWalk
set_option linter.unusedVariables false
set_option linter.unusedSimpArgs false
set_option maxRecDepth 100000

theorem HNames.wide {ok ok' : Nat → Prop} {w : World} {v : Value} {l : List ByteArray} (h : HNames ok w v l) (hk : ∀ i, ok i → i < w.heap.size → ok' i) : HNames ok' w v l := by
  obtain ⟨C, h1, h2⟩ := h
  exact ⟨C, h1.wide hk, h2⟩
theorem HDes.wide {ok ok' : Nat → Prop} {w : World} {v : Value} {l : List De} (h : HDes ok w v l) (hk : ∀ i, ok i → i < w.heap.size → ok' i) : HDes ok' w v l := by
  obtain ⟨C, h1, h2⟩ := h
  refine ⟨C, h1.wide hk, fun i hi => ?_⟩
  obtain ⟨u, e, ht⟩ := h2 i hi
  exact ⟨u, e, ht.wide hk⟩
theorem HNames.set {ok : Nat → Prop} {w : World} {v : Value} {l : List ByteArray} (h : HNames ok w v l) {p : Addr} (hp : ¬ ok p.block) (u : Value) : HNames ok (w.setCell p u) v l :=
  h.keep (by simp [World.setCell]) fun i hi hl => Below.heap_setCell _ _ _ _ (fun e => hp (e ▸ hi))
theorem HDes.set {ok : Nat → Prop} {w : World} {v : Value} {l : List De} (h : HDes ok w v l) {p : Addr} (hp : ¬ ok p.block) (u : Value) : HDes ok (w.setCell p u) v l :=
  h.keep (by simp [World.setCell]) fun i hi hl => Below.heap_setCell _ _ _ _ (fun e => hp (e ▸ hi))


theorem newAt (w : World) (cs : Array Value) (t : TypeId) : ∀ j u, cs.toList[j]? = some u → (w.alloc (.cells cs t (0, 0))).cell? ((⟨w.heap.size, 0, none⟩ : Addr).add j) = some u := by
  intro j u hj
  have hn := heap_new w (.cells cs t (0, 0))
  have adds : (⟨w.heap.size, 0, none⟩ : Addr).add j = ⟨w.heap.size, j, none⟩ := by unfold Addr.add; split <;> simp_all
  rw [adds, cell_of hn]
  simpa using hj
theorem owns_form {w : World} {base : Nat} {e : TypeId} {size : Nat} {v : Value} {n : Nat} {xs : List Value} (h : w.ownsRow base e size v n xs) : ∃ a m c, v = .slice a m c := by
  rcases h.2 with ⟨rfl, _⟩ | ⟨g, cap, cur, rfl, _⟩
  · exact ⟨none, 0, 0, rfl⟩
  · exact ⟨_, _, _, rfl⟩
theorem HEq.wide {ok ok' : Nat → Prop} {w : World} {x : EqV} {q : Eqn} (h : HEq ok w x q) (hk : ∀ i, ok i → i < w.heap.size → ok' i) : HEq ok' w x q :=
  ⟨h.place, h.names.wide hk, h.node, h.S.wide hk, h.E.wide hk⟩
theorem HEqs.wide {ok ok' : Nat → Prop} {w : World} {v : Value} {l : List Eqn} (h : HEqs ok w v l) (hk : ∀ i, ok i → i < w.heap.size → ok' i) : HEqs ok' w v l := by
  obtain ⟨C, h1, h2⟩ := h
  refine ⟨C, h1.wide hk, fun i hi => ?_⟩
  obtain ⟨x, e, hx⟩ := h2 i hi
  exact ⟨x, e, hx.wide hk⟩
theorem HEqs.set {ok : Nat → Prop} {w : World} {v : Value} {l : List Eqn} (h : HEqs ok w v l) {p : Addr} (hp : ¬ ok p.block) (u : Value) : HEqs ok (w.setCell p u) v l :=
  h.keep (by simp [World.setCell]) fun i hi hl => Below.heap_setCell _ _ _ _ (fun e => hp (e ▸ hi))
theorem HNd.wide {ok ok' : Nat → Prop} {w : World} {x : NdV} {n : Nd} (h : HNd ok w x n) (hk : ∀ i, ok i → i < w.heap.size → ok' i) : HNd ok' w x n :=
  ⟨h.name, h.place, h.sizes.wide hk, h.inn.wide hk, h.out.wide hk, h.loc.wide hk, h.eqs.wide hk⟩
theorem HNd.set {ok : Nat → Prop} {w : World} {x : NdV} {n : Nd} (h : HNd ok w x n) {p : Addr} (hp : ¬ ok p.block) (u : Value) : HNd ok (w.setCell p u) x n :=
  h.keep (by simp [World.setCell]) fun i hi hl => Below.heap_setCell _ _ _ _ (fun e => hp (e ▸ hi))

end Go.Proofs.YtfhjejmadhcmnaaDoor
