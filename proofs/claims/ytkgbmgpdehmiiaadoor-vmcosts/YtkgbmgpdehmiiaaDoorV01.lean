import Derived.Test.YtkgbmgpdehmiiaaDoorV00
import Derived.Test.YtkgbmgpdehmiiaaDoorRows
import Derived.WalkKit
import Derived.WalkSpells
import Derived.Lib.Strings
import Derived.Lib.Walk
import Derived.Lib.Slices
import Derived.Lib.Bytealg
import Derived.Lib.BufferWrite
import Derived.Lib.UnsafeStr
import Derived.Lib.Hide
import Derived.Laws.MakeOwn
import Derived.RegionTactic
import Derived.Deep.QuietTactic
import Derived.BigQuiet
import Derived.WalkSmall
set_option linter.unusedVariables false
set_option linter.unusedSimpArgs false
set_option maxHeartbeats 64000000
set_option maxRecDepth 100000
namespace Go.Proofs.YtkgbmgpdehmiiaaDoor.Tk
/-- a token -/
structure Tok where
  kind : Int
  place : Nat
  text : List UInt8
  n : Int
end Go.Proofs.YtkgbmgpdehmiiaaDoor.Tk
namespace Go.Proofs.YtkgbmgpdehmiiaaDoor
open Go.RowKit
set_option linter.unusedVariables false
theorem hide {p : Prop} (h : p) : Hid p := h
theorem ret_int {k : IntKind} {a b : Int} (h : a = b) : Ending.returned (.int k a) = .returned (.int k b) := by rw [h]
end Go.Proofs.YtkgbmgpdehmiiaaDoor
namespace Go.Proofs.YtkgbmgpdehmiiaaDoor
open Go.RowKit Go.IntWalk
set_option linter.unusedVariables false
set_option linter.unusedSimpArgs false
def str (l : List UInt8) : ByteArray := ⟨l.toArray⟩
end Go.Proofs.YtkgbmgpdehmiiaaDoor
namespace Go.Proofs.YtkgbmgpdehmiiaaDoor
open Go.RowKit Go.IntWalk
set_option linter.unusedVariables false
set_option linter.unusedSimpArgs false
/-- what a slice of tokens holds: cell by cell -/
def HoldsToks (w : World) (g : Nat) (L : List Tk.Tok) : Prop :=
  ∀ i (hi : i < L.length), w.cell? ⟨g, i * 4, none⟩ = some (.int .i64 (L[i]).kind) ∧ w.cell? ⟨g, i * 4 + 1, none⟩ = some (.int .i64 ((L[i]).place : Int)) ∧
    w.cell? ⟨g, i * 4 + 2, none⟩ = some (.string (str (L[i]).text)) ∧ w.cell? ⟨g, i * 4 + 3, none⟩ = some (.int .i64 (L[i]).n)
end Go.Proofs.YtkgbmgpdehmiiaaDoor
namespace Go.Proofs.YtkgbmgpdehmiiaaDoor
open Go.RowKit Go.IntWalk
set_option linter.unusedVariables false
set_option linter.unusedSimpArgs false
/-- Of what lay below B nothing has turned but the blocks S. -/
structure Aside (S : List Nat) (B : Nat) (w w' : World) : Prop where
  os : w'.os = w.os
  tape : w'.tape = w.tape
  output : w'.output = w.output
  size : w.heap.size ≤ w'.heap.size
  block : ∀ k, k < B → k ∉ S → w'.heap[k]? = w.heap[k]?
theorem heap_new (w : World) (o : Obj) : (w.alloc o).heap[w.heap.size]? = some o := by
  show (w.heap.push o)[w.heap.size]? = _
  simp
theorem aside {S : List Nat} {B : Nat} {w w' : World} (h : Below B w w') : Aside S B w w' := ⟨h.os, h.tape, h.output, h.size, fun k hk _ => h.block k hk⟩
theorem Aside.refl {S : List Nat} {B : Nat} (w : World) : Aside S B w w := ⟨rfl, rfl, rfl, Nat.le_refl _, fun _ _ _ => rfl⟩
theorem Aside.trans {S : List Nat} {B B' : Nat} {a b c : World} (h : Aside S B a b) (k : Aside S B' b c) (hB : B ≤ B') : Aside S B a c :=
  ⟨k.os.trans h.os, k.tape.trans h.tape, k.output.trans h.output, Nat.le_trans h.size k.size, fun i hi hs => (k.block i (Nat.lt_of_lt_of_le hi hB) hs).trans (h.block i hi hs)⟩
theorem Aside.wide {S S' : List Nat} {B : Nat} {w w' : World} (h : Aside S B w w') (hs : ∀ k, k < B → k ∉ S' → k ∉ S) : Aside S' B w w' := ⟨h.os, h.tape, h.output, h.size, fun k hk hn => h.block k hk (hs k hk hn)⟩
theorem Aside.below {S : List Nat} {B : Nat} {w w' : World} (h : Aside S B w w') (hs : ∀ k, k ∈ S → B ≤ k) : Below B w w' :=
  ⟨h.os, h.tape, h.output, h.size, fun k hk => h.block k hk fun hm => absurd (hs k hm) (by omega)⟩
theorem HoldsToks.keep {w w' : World} {g : Nat} {L : List Tk.Tok} (h : HoldsToks w g L) (hg : w'.heap[g]? = w.heap[g]?) : HoldsToks w' g L := by
  intro i hi
  have hc : ∀ o, w'.cell? ⟨g, o, none⟩ = w.cell? ⟨g, o, none⟩ := fun o => World.cell?_of_block (w := w) hg
  rw [hc, hc, hc, hc]
  exact h i hi
theorem Aside.setCell {S : List Nat} {B : Nat} {w : World} {p : Addr} (hp : p.block ∈ S) (u : Value) : Aside S B w (w.setCell p u) :=
  ⟨rfl, rfl, rfl, by simp [World.setCell], fun k _ hs => Below.heap_setCell _ _ _ _ (fun e => hs (e ▸ hp))⟩
end Go.Proofs.YtkgbmgpdehmiiaaDoor
namespace Go.Proofs.YtkgbmgpdehmiiaaDoor
open Go.RowKit Go.IntWalk
set_option linter.unusedVariables false
set_option linter.unusedSimpArgs false
theorem Aside.alloc {S : List Nat} {B : Nat} {w w' : World} (h : Aside S B w w') (hB : B ≤ w'.heap.size) (o : Obj) : Aside S B w (w'.alloc o) :=
  h.trans (aside ((Below.refl B w').alloc hB o)) (Nat.le_refl _)
theorem Aside.set {S : List Nat} {B : Nat} {w w' : World} (h : Aside S B w w') {p : Addr} (hp : B ≤ p.block) (u : Value) : Aside S B w (w'.setCell p u) :=
  h.trans (aside ((Below.refl B w').setCell hp u)) (Nat.le_refl _)
theorem Aside.drew {S : List Nat} {B : Nat} {w w' : World} (h : Aside S B w w') : Aside S B w w'.drew := ⟨h.os, h.tape, h.output, h.size, h.block⟩
theorem Aside.mono {S : List Nat} {B B' : Nat} {w w' : World} (h : Aside S B w w') (hB : B' ≤ B) : Aside S B' w w' := ⟨h.os, h.tape, h.output, h.size, fun k hk => h.block k (Nat.lt_of_lt_of_le hk hB)⟩
section
variable {w : World} {b g cap : Nat} {L : List Tk.Tok} {len nx op : Nat}
end
theorem cell_of {w : World} {k : Nat} {cs : Array Value} {t : TypeId} (h : w.heap[k]? = some (.cells cs t (0, 0))) (o : Nat) : w.cell? ⟨k, o, none⟩ = cs[o]? := by simp [World.cell?, h]
theorem free_of {w : World} {k : Nat} {cs : Array Value} {t : TypeId} (h : w.heap[k]? = some (.cells cs t (0, 0))) (o : Nat) : w.frozen? ⟨k, o, none⟩ = false := by simp [World.frozen?, h]
theorem lt_of {w : World} {k : Nat} {o : Obj} (h : w.heap[k]? = some o) : k < w.heap.size := (Array.getElem?_eq_some_iff.1 h).1
theorem Aside.keep {S : List Nat} {B : Nat} {w w' : World} (a : Aside S B w w') {k : Nat} {x : Obj} (hx : w.heap[k]? = some x) (hk : k < B) (hs : k ∉ S) : w'.heap[k]? = some x := (a.block k hk hs).trans hx
theorem keep_set {w : World} {k : Nat} {x : Obj} (hx : w.heap[k]? = some x) {p : Addr} (hp : p.block ≠ k) (u : Value) : (w.setCell p u).heap[k]? = some x := (Below.heap_setCell _ _ _ _ (fun e => hp e.symm)).trans hx
theorem set_in {w : World} {k : Nat} {cs : Array Value} {t : TypeId} (h : w.heap[k]? = some (.cells cs t (0, 0))) (o : Nat) (u : Value) : (w.setCell ⟨k, o, none⟩ u).heap[k]? = some (.cells (cs.setIfInBounds o u) t (0, 0)) := by
  simp [World.setCell, Array.getElem?_modify, h]
theorem owns_pos {w : World} {base : Nat} {e : TypeId} {size : Nat} {v : Value} {n : Nat} {xs : List Value} (h : w.ownsRow base e size v n xs) (hn : 0 < n) :
    ∃ g cap, v = .slice (some ⟨g, 0, none⟩) n cap ∧ base ≤ g ∧ g < w.heap.size ∧ n ≤ cap ∧ cap ≤ maxLen ∧ ∀ j u, xs[j]? = some u → w.cell? ⟨g, j, none⟩ = some u := by
  have hcell := @World.ownsRow.cells _ _ _ _ _ _ _ h
  rcases h.2 with ⟨rfl, h0⟩ | ⟨g, cap, cur, rfl, hb, hg, hnc, hcm, hcs, htake⟩
  · omega
  · refine ⟨g, cap, rfl, hb, lt_of hg, hnc, hcm, fun j u hj => ?_⟩
    have hc := @hcell g rfl j u hj
    have adds : (⟨g, 0, none⟩ : Addr).add j = ⟨g, j, none⟩ := by unfold Addr.add; split <;> simp_all
    rw [adds] at hc
    exact hc
end Go.Proofs.YtkgbmgpdehmiiaaDoor
