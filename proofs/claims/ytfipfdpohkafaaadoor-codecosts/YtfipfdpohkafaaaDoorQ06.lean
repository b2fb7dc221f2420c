import Derived.Test.YtfipfdpohkafaaaDoorQ05
set_option linter.unusedVariables false
set_option linter.unusedSimpArgs false
set_option maxHeartbeats 64000000
set_option maxRecDepth 100000
namespace Go.Proofs.YtfipfdpohkafaaaDoor
open Go.RowKit Go.IntWalk
set_option linter.unusedVariables false
set_option linter.unusedSimpArgs false
theorem Aside.alloc {S : List Nat} {B : Nat} {w w' : World} (h : Aside S B w w') (hB : B ≤ w'.heap.size) (o : Obj) : Aside S B w (w'.alloc o) :=
  h.trans (aside ((Below.refl B w').alloc hB o)) (Nat.le_refl _)
theorem Aside.mono {S : List Nat} {B B' : Nat} {w w' : World} (h : Aside S B w w') (hB : B' ≤ B) : Aside S B' w w' := ⟨h.os, h.tape, h.output, h.size, fun k hk => h.block k (Nat.lt_of_lt_of_le hk hB)⟩
section
variable {w : World} {b g cap : Nat} {L : List Tk.Tok} {len nx op : Nat}
end
theorem cell_of {w : World} {k : Nat} {cs : Array Value} {t : TypeId} (h : w.heap[k]? = some (.cells cs t (0, 0))) (o : Nat) : w.cell? ⟨k, o, none⟩ = cs[o]? := by simp [World.cell?, h]
theorem free_of {w : World} {k : Nat} {cs : Array Value} {t : TypeId} (h : w.heap[k]? = some (.cells cs t (0, 0))) (o : Nat) : w.frozen? ⟨k, o, none⟩ = false := by simp [World.frozen?, h]
theorem lt_of {w : World} {k : Nat} {o : Obj} (h : w.heap[k]? = some o) : k < w.heap.size := (Array.getElem?_eq_some_iff.1 h).1
theorem Aside.keep {S : List Nat} {B : Nat} {w w' : World} (a : Aside S B w w') {k : Nat} {x : Obj} (hx : w.heap[k]? = some x) (hk : k < B) (hs : k ∉ S) : w'.heap[k]? = some x := (a.block k hk hs).trans hx
theorem keep_set {w : World} {k : Nat} {x : Obj} (hx : w.heap[k]? = some x) {p : Addr} (hp : p.block ≠ k) (u : Value) : (w.setCell p u).heap[k]? = some x := (Below.heap_setCell _ _ _ _ (fun e => hp e.symm)).trans hx
theorem set_in {w : World} {k : Nat} {cs : Array Value} {t : TypeId} (h : w.heap[k]? = some (.cells cs t (0, 0))) (o : Nat) (u : Value) : (w.setCell ⟨k, o, none⟩ u).heap[k]? = some (.cells (cs.setIfInBounds o u) t (0, 0)) := by
  simp [World.setCell, Array.getElem?_modify, h]
theorem owns_pos {w : World} {base : Nat} {e : TypeId} {size : Nat} {v : Value} {n : Nat} {xs : List Value} (h : w.ownsRow base e size v n xs) (hn : 0 < n) :
    ∃ g cap, v = .slice (some ⟨g, 0, none⟩) n cap ∧ base ≤ g ∧ g < w.heap.size ∧ n ≤ cap ∧ cap ≤ maxLen ∧ ∀ j u, xs[j]? = some u → w.cell? ⟨g, j, none⟩ = some u := by
  have hcell := @World.ownsRow.cells _ _ _ _ _ _ _ h
  rcases h.2 with ⟨rfl, h0⟩ | ⟨g, cap, cur, rfl, hb, hg, hnc, hcm, hcs, htake⟩
  · omega
  · refine ⟨g, cap, rfl, hb, lt_of hg, hnc, hcm, fun j u hj => ?_⟩
    have hc := @hcell g rfl j u hj
    have adds : (⟨g, 0, none⟩ : Addr).add j = ⟨g, j, none⟩ := by unfold Addr.add; split <;> simp_all
    rw [adds] at hc
    exact hc
end Go.Proofs.YtfipfdpohkafaaaDoor
