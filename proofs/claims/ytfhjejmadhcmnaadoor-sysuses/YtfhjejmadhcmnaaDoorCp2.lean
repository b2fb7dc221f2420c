
/-
  DERIVED. THE WALK of the copy of sizes.
-/
import Derived.Test.YtfhjejmadhcmnaaDoorCp1
namespace Go.Proofs.YtfhjejmadhcmnaaDoor
open Go.RowKit Go.IntWalk
set_option linter.unusedVariables false
set_option linter.unusedSimpArgs false
set_option maxRecDepth 100000

/-- the row that v is, or a new block -/
def Moved (W : World) (v v' : Value) : Prop := v'.ownBlock = v.ownBlock ∨ ∃ k, v'.ownBlock = some k ∧ W.heap.size ≤ k
/-- what lies from B on, but not in v's row -/
def Off (B : Nat) (v : Value) (k : Nat) : Prop := B ≤ k ∧ some k ≠ v.ownBlock
theorem Off.moved {B : Nat} {W : World} {v v' : Value} (h : Moved W v v') {k : Nat} (hk : Off B v k) (hl : k < W.heap.size) : Off B v' k := by
  refine ⟨hk.1, fun e => ?_⟩
  rcases h with h | ⟨q, hq, hz⟩
  · exact hk.2 (e.trans h)
  · rw [hq] at e
    injection e with e
    omega
theorem Off.new {B N : Nat} {w : World} {e : TypeId} {size : Nat} {v : Value} {n : Nat} {xs : List Value} (h : w.ownsRow B e size v n xs) (hN : w.heap.size ≤ N) (hB : B ≤ N) {k : Nat} (hk : N ≤ k) : Off B v k := by
  refine ⟨by omega, fun e => ?_⟩
  have := World.ownsRow.lt h k e.symm
  omega
theorem grown_keep {B : Nat} {W W' : World} {v : Value} (h : W.grownBy W' v.ownBlock) : ∀ k, Off B v k → k < W.heap.size → W'.heap[k]? = W.heap[k]? := fun k hk hl => h.block k hl hk.2
theorem Below.push {B : Nat} {w W W' : World} {v : Value} {e : TypeId} {size n : Nat} {xs : List Value} (hb : Below B w W) (hB : B ≤ W.heap.size) (ho : W.ownsRow B e size v n xs) (hg : W.grownBy W' v.ownBlock) : Below B w W' :=
  hb.grown hg hB (fun k hk => (World.ownsRow.lt ho k hk).1)

end Go.Proofs.YtfhjejmadhcmnaaDoor
