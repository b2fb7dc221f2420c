import Derived.Test.YtfipfdpohkafaaaDoorQ04
import Derived.Deep.QuietTactic
import Derived.BigQuiet
import Derived.WalkSmall
set_option linter.unusedVariables false
set_option linter.unusedSimpArgs false
set_option maxHeartbeats 64000000
set_option maxRecDepth 100000
namespace Go.Proofs.YtfipfdpohkafaaaDoor
open Go.RowKit Go.IntWalk
set_option linter.unusedVariables false
set_option linter.unusedSimpArgs false
/-- Of what lay below B nothing has turned but the blocks S. -/
structure Aside (S : List Nat) (B : Nat) (w w' : World) : Prop where
  os : w'.os = w.os
  tape : w'.tape = w.tape
  output : w'.output = w.output
  size : w.heap.size ≤ w'.heap.size
  block : ∀ k, k < B → k ∉ S → w'.heap[k]? = w.heap[k]?
theorem heap_new (w : World) (o : Obj) : (w.alloc o).heap[w.heap.size]? = some o := by
  show (w.heap.push o)[w.heap.size]? = _
  simp
theorem aside {S : List Nat} {B : Nat} {w w' : World} (h : Below B w w') : Aside S B w w' := ⟨h.os, h.tape, h.output, h.size, fun k hk _ => h.block k hk⟩
theorem Aside.refl {S : List Nat} {B : Nat} (w : World) : Aside S B w w := ⟨rfl, rfl, rfl, Nat.le_refl _, fun _ _ _ => rfl⟩
theorem Aside.trans {S : List Nat} {B B' : Nat} {a b c : World} (h : Aside S B a b) (k : Aside S B' b c) (hB : B ≤ B') : Aside S B a c :=
  ⟨k.os.trans h.os, k.tape.trans h.tape, k.output.trans h.output, Nat.le_trans h.size k.size, fun i hi hs => (k.block i (Nat.lt_of_lt_of_le hi hB) hs).trans (h.block i hi hs)⟩
theorem Aside.wide {S S' : List Nat} {B : Nat} {w w' : World} (h : Aside S B w w') (hs : ∀ k, k < B → k ∉ S' → k ∉ S) : Aside S' B w w' := ⟨h.os, h.tape, h.output, h.size, fun k hk hn => h.block k hk (hs k hk hn)⟩
theorem Aside.below {S : List Nat} {B : Nat} {w w' : World} (h : Aside S B w w') (hs : ∀ k, k ∈ S → B ≤ k) : Below B w w' :=
  ⟨h.os, h.tape, h.output, h.size, fun k hk => h.block k hk fun hm => absurd (hs k hm) (by omega)⟩
theorem HoldsToks.keep {w w' : World} {g : Nat} {L : List Tk.Tok} (h : HoldsToks w g L) (hg : w'.heap[g]? = w.heap[g]?) : HoldsToks w' g L := by
  intro i hi
  have hc : ∀ o, w'.cell? ⟨g, o, none⟩ = w.cell? ⟨g, o, none⟩ := fun o => World.cell?_of_block (w := w) hg
  rw [hc, hc, hc, hc]
  exact h i hi
theorem Aside.setCell {S : List Nat} {B : Nat} {w : World} {p : Addr} (hp : p.block ∈ S) (u : Value) : Aside S B w (w.setCell p u) :=
  ⟨rfl, rfl, rfl, by simp [World.setCell], fun k _ hs => Below.heap_setCell _ _ _ _ (fun e => hs (e ▸ hp))⟩
end Go.Proofs.YtfipfdpohkafaaaDoor
