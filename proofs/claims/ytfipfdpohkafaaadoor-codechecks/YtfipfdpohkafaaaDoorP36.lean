import Derived.Test.YtfipfdpohkafaaaDoorP29
import Derived.Test.YtfipfdpohkafaaaDoorP22
import Derived.WalkKit
import Derived.WalkSpells
import Derived.IntWalk
import Derived.Deep.Cut
import Derived.Deep.LoopGhost
import Derived.Ground.NamesProg
import Derived.Laws.Cover1
import Derived.Laws.EntriesVeiled
import Derived.Laws.Externs
import Derived.Lib.Hide
import Derived.Lib.MakeNoZero
import Derived.Lib.SlBuf
import Derived.Shelf.Bytes.SlSmallAll
import Derived.Shelf.Lay
set_option linter.unusedVariables false
set_option linter.unusedSimpArgs false
set_option maxHeartbeats 64000000
set_option maxRecDepth 100000
namespace Go.Proofs.YtfipfdpohkafaaaDoor
open Go Go.RowKit Go.IntWalk
def waits (md : Region.Mode) (o : Oper) : List Nat := (o.after.toList.filter (Region.binds md)).map (·.on)
/-- one more has come up -/
def also (D : Nat → Bool) (i : Nat) : Nat → Bool := fun j => j == i || D j
section
variable {P : Program} {ops : Array Oper} {Q : Exit → Act → World → Prop} {md : Region.Mode} {S : World → Prop} {late : Nat → Bool}
/-- each of these keeps the invariant when it comes up -/
def Keeps (P : Program) (md : Region.Mode) (ops : Array Oper) (Q : Exit → Act → World → Prop) (I : (Nat → Bool) → Act → World → Prop) (rs : List Nat) : Prop :=
  ∀ i ∈ rs, ∀ o, ops[i]? = some o → ∀ D a w, I D a w → D i = false → (∀ d ∈ waits md o, D d = true) → wpOp P ops Q i (fun a' w' => I (also D i) a' w') a w
theorem Keeps.skip {I : (Nat → Bool) → Act → World → Prop} {i : Nat} {rs : List Nat} (h : ∀ D a w, I D a w → D i = true) (hs : Keeps P md ops Q I rs) : Keeps P md ops Q I (i :: rs) := fun j hj => by
  rcases List.mem_cons.1 hj with rfl | hj
  · intro o ho D a w hI hD
    rw [h D a w hI] at hD
    cases hD
  · exact hs j hj
end
/-- a block of one cell, above B, that a slot points to -/
def Blk (w : World) (B : Nat) (t : Value) (ty : TypeId) (v : Value) : Prop := ∃ b, t = .pointer (some ⟨b, 0, none⟩) ∧ B ≤ b ∧ w.heap[b]? = some (.cells #[v] ty (0, 0))
theorem Blk.off {w : World} {B : Nat} {t : Value} {ty : TypeId} {v v' z : Value} {d d' : Bool} (h : Blk w B t ty (if d = true then v else z)) (e : d = false) (e' : d' = false) : Blk w B t ty (if d' = true then v' else z) := by
  subst e e'
  simpa using h
/-- a row of numbers below B in a slot -/
def SlI (B : Nat) (w : World) (t : Value) (l : List Int) : Prop := (∃ p q c, t = .slice p q c) ∧ HInts (fun i => i < B) w t l
theorem SlI.keep {B B1 : Nat} {w w' : World} {t : Value} {l : List Int} (h : SlI B w t l) (hb : Below B1 w w') (hB : B ≤ B1) : SlI B w' t l := ⟨h.1, h.2.keep hb.size (fun i hi _ => hb.block i (Nat.lt_of_lt_of_le hi hB))⟩
end Go.Proofs.YtfipfdpohkafaaaDoor
