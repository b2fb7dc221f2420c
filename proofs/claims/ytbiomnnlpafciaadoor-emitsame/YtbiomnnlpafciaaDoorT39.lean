import Derived.Test.YtbiomnnlpafciaaDoorT09
import Derived.Test.YtbiomnnlpafciaaDoorT08
import Derived.WalkKit
import Derived.WalkSpells
import Derived.IntWalk
import Derived.Deep.Cut
import Derived.Deep.LoopGhost
import Derived.Laws.Cover1
import Derived.Lib.Hide
set_option linter.unusedVariables false
set_option linter.unusedSimpArgs false
set_option maxHeartbeats 64000000
set_option maxRecDepth 100000
namespace Go.Proofs.YtbiomnnlpafciaaDoor
open Go.RowKit Go.IntWalk
set_option linter.unusedVariables false
set_option linter.unusedSimpArgs false
theorem seven_set {w : World} {b : Nat} {ty : TypeId} {v0 v1 v2 v3 v4 v5 v6 : Value} (k : w.heap[b]? = some (.cells #[v0, v1, v2, v3, v4, v5, v6] ty (0, 0))) (u0 u1 u2 u3 u4 u5 u6 : Value) : (((((((w.setCell ⟨b, 0, none⟩ u0).setCell ⟨b, 1, none⟩ u1).setCell ⟨b, 2, none⟩ u2).setCell ⟨b, 3, none⟩ u3).setCell ⟨b, 4, none⟩ u4).setCell ⟨b, 5, none⟩ u5).setCell ⟨b, 6, none⟩ u6).heap[b]? = some (.cells #[u0, u1, u2, u3, u4, u5, u6] ty (0, 0)) := by
  have h := set_in (set_in (set_in (set_in (set_in (set_in (set_in k 0 u0) 1 u1) 2 u2) 3 u3) 4 u4) 5 u5) 6 u6
  simpa using h
theorem two_set {w : World} {b : Nat} {ty : TypeId} {v0 v1 : Value} (k : w.heap[b]? = some (.cells #[v0, v1] ty (0, 0))) (u0 u1 : Value) : ((w.setCell ⟨b, 0, none⟩ u0).setCell ⟨b, 1, none⟩ u1).heap[b]? = some (.cells #[u0, u1] ty (0, 0)) := by
  have h := set_in (set_in k 0 u0) 1 u1
  simpa using h
theorem aside_seven {S : List Nat} {B : Nat} {w : World} {b : Nat} (hb : b ∈ S) (u0 u1 u2 u3 u4 u5 u6 : Value) : Aside S B w (((((((w.setCell ⟨b, 0, none⟩ u0).setCell ⟨b, 1, none⟩ u1).setCell ⟨b, 2, none⟩ u2).setCell ⟨b, 3, none⟩ u3).setCell ⟨b, 4, none⟩ u4).setCell ⟨b, 5, none⟩ u5).setCell ⟨b, 6, none⟩ u6) :=
  ((((((Aside.setCell (p := ⟨b, 0, none⟩) hb u0).trans (Aside.setCell (B := B) (p := ⟨b, 1, none⟩) hb u1) (Nat.le_refl _)).trans (Aside.setCell (B := B) (p := ⟨b, 2, none⟩) hb u2) (Nat.le_refl _)).trans (Aside.setCell (B := B) (p := ⟨b, 3, none⟩) hb u3) (Nat.le_refl _)).trans (Aside.setCell (B := B) (p := ⟨b, 4, none⟩) hb u4) (Nat.le_refl _)).trans (Aside.setCell (B := B) (p := ⟨b, 5, none⟩) hb u5) (Nat.le_refl _)).trans (Aside.setCell (B := B) (p := ⟨b, 6, none⟩) hb u6) (Nat.le_refl _)
theorem aside_two {S : List Nat} {B : Nat} {w : World} {b : Nat} (hb : b ∈ S) (u0 u1 : Value) : Aside S B w ((w.setCell ⟨b, 0, none⟩ u0).setCell ⟨b, 1, none⟩ u1) :=
  (Aside.setCell (p := ⟨b, 0, none⟩) hb u0).trans (Aside.setCell (B := B) (p := ⟨b, 1, none⟩) hb u1) (Nat.le_refl _)
def imgV (m : Cd.Im) (aP aB aG aL : Option Addr) (cP cB cG cL : Nat) : Value := .agg #[.int .i64 m.c, .int .i64 m.R, .int .i64 m.cost, .slice aP m.P.length cP, .slice aB m.B.length cB, .slice aG m.G.length cG, .slice aL m.l.length cL]
/-- what a making of an image answers -/
structure MakeP (ok : Nat → Prop) (w : World) (L : Lo.Lp) (B : List Int) (e : Ending) (w' : World) : Prop where
  out : ∃ aP aB aG aL cP cB cG cL, e = .returned (.tuple #[imgV (Em.make L B).2 aP aB aG aL cP cB cG cL, .agg #[.int .i64 (Em.make L B).1.1, .int .i64 (Em.make L B).1.2]]) ∧ HIm ok w' aP aB aG aL cP cB cG cL (Em.make L B).2
  b : Below w.heap.size w w'
theorem im_none {ok : Nat → Prop} {w : World} : HIm ok w none none none none 0 0 0 0 Em.noIm := ⟨by
  refine ⟨fun _ => [], ⟨none, 0, rfl, Nat.le_refl _, by unfold maxLen; omega, fun h => by cases h⟩, fun i h => by cases h⟩, by
  refine ⟨fun _ => [], ⟨none, 0, rfl, Nat.le_refl _, by unfold maxLen; omega, fun h => by cases h⟩, fun i h => by cases h⟩, by
  refine ⟨fun _ => [], ⟨none, 0, rfl, Nat.le_refl _, by unfold maxLen; omega, fun h => by cases h⟩, fun i h => by cases h⟩, by
  refine ⟨fun _ => [], ⟨none, 0, rfl, Nat.le_refl _, by unfold maxLen; omega, fun h => by cases h⟩, fun i h => by cases h⟩, fun i h => by cases h⟩
/-- with a fault -/
theorem MakeP.bad {ok : Nat → Prop} {w w' : World} {L : Lo.Lp} {B : List Int} {f1 f2 : Int} (h : Em.make L B = ((f1, f2), Em.noIm)) (b : Below w.heap.size w w') : MakeP ok w L B (.returned (.tuple #[.agg #[.int .i64 0, .int .i64 0, .int .i64 0, .slice none 0 0, .slice none 0 0, .slice none 0 0, .slice none 0 0], .agg #[.int .i64 f1, .int .i64 f2]])) w' := by
  refine ⟨⟨none, none, none, none, 0, 0, 0, 0, ?_, ?_⟩, b⟩
  · rw [h]; rfl
  · rw [h]; exact im_none
/-- without one -/
theorem MakeP.good {ok : Nat → Prop} {w w' : World} {L : Lo.Lp} {B : List Int} {m : Cd.Im} (h : Em.make L B = ((0, 0), m)) (b : Below w.heap.size w w') {aP aB aG aL : Option Addr} {cP cB cG cL : Nat} (hm : HIm ok w' aP aB aG aL cP cB cG cL m) : MakeP ok w L B (.returned (.tuple #[imgV m aP aB aG aL cP cB cG cL, .agg #[.int .i64 0, .int .i64 0]])) w' := by
  refine ⟨⟨aP, aB, aG, aL, cP, cB, cG, cL, ?_, ?_⟩, b⟩
  · rw [h]
  · rw [h]; exact hm
end Go.Proofs.YtbiomnnlpafciaaDoor
