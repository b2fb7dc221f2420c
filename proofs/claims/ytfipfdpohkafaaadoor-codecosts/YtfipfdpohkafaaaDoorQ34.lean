import Derived.Test.YtfipfdpohkafaaaDoorQ29
import Derived.WalkKit
import Derived.WalkSpells
import Derived.IntWalk
import Derived.Lib.Hide
import Derived.Deep.Cut
import Derived.Deep.LoopGhost
import Derived.Ground.NamesProg
import Derived.Laws.Cover1
import Derived.Laws.EntriesVeiled
import Derived.Laws.Externs
import Derived.Lib.MakeNoZero
import Derived.Lib.SlBuf
import Derived.Shelf.Bytes.SlSmallAll
import Derived.Shelf.Lay
set_option linter.unusedVariables false
set_option linter.unusedSimpArgs false
set_option maxHeartbeats 64000000
set_option maxRecDepth 100000
namespace Go.Proofs.YtfipfdpohkafaaaDoor
open Go Go.RowKit Go.IntWalk
section
variable {P : Program} {ops : Array Oper} {Q : Exit → Act → World → Prop} {md : Region.Mode} {S : World → Prop} {late : Nat → Bool}
end
/-- a block of one cell, above B, that a slot points to -/
def Blk (w : World) (B : Nat) (t : Value) (ty : TypeId) (v : Value) : Prop := ∃ b, t = .pointer (some ⟨b, 0, none⟩) ∧ B ≤ b ∧ w.heap[b]? = some (.cells #[v] ty (0, 0))
theorem Blk.off {w : World} {B : Nat} {t : Value} {ty : TypeId} {v v' z : Value} {d d' : Bool} (h : Blk w B t ty (if d = true then v else z)) (e : d = false) (e' : d' = false) : Blk w B t ty (if d' = true then v' else z) := by
  subst e e'
  simpa using h
/-- a row of numbers below B in a slot -/
def SlI (B : Nat) (w : World) (t : Value) (l : List Int) : Prop := (∃ p q c, t = .slice p q c) ∧ HInts (fun i => i < B) w t l
theorem SlI.keep {B B1 : Nat} {w w' : World} {t : Value} {l : List Int} (h : SlI B w t l) (hb : Below B1 w w') (hB : B ≤ B1) : SlI B w' t l := ⟨h.1, h.2.keep hb.size (fun i hi _ => hb.block i (Nat.lt_of_lt_of_le hi hB))⟩
end Go.Proofs.YtfipfdpohkafaaaDoor
