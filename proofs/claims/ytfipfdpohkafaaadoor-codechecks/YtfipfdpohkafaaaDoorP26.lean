import Derived.Test.YtfipfdpohkafaaaDoorP23
import Derived.WalkKit
import Derived.WalkSpells
import Derived.IntWalk
import Derived.Deep.Cut
import Derived.Deep.LoopGhost
import Derived.Laws.Cover1
import Derived.Lib.Hide
set_option linter.unusedVariables false
set_option linter.unusedSimpArgs false
set_option maxHeartbeats 64000000
set_option maxRecDepth 100000
namespace Go.Proofs.YtfipfdpohkafaaaDoor
open Go.RowKit Go.IntWalk
set_option linter.unusedVariables false
set_option linter.unusedSimpArgs false
namespace Cd
/-- an instruction: six numbers -/
structure In where
  op : Int
  k : Int
  r : Int
  a : Int
  b : Int
  n : Int
/-- is it the head of a loop, or its end? (the codes of the two Ops are letters here) -/
def step (L E : Int) (o : Option Int) (x : In) : Option (Int × Option Int) :=
  match o with
  | none => if x.op = E then none else if x.op = L then (if 1 ≤ x.n ∧ x.n ≤ 300 then some (1, some x.n) else none) else some (1, none)
  | some m => if x.op = E then some (m, none) else if x.op = L then none else some (m, some m)
/-- what code costs from here on, with a loop open or not -/
def go (L E : Int) : Option Int → List In → Option Int
  | none, [] => some 0
  | some _, [] => none
  | o, x :: r => (step L E o x).bind fun q => (go L E q.2 r).map fun y => q.1 + y
def cost (L E : Int) (l : List In) : Int := (go L E none l).getD 0
theorem go_cons {L E : Int} (o : Option Int) (x : In) (r : List In) : go L E o (x :: r) = (step L E o x).bind fun q => (go L E q.2 r).map fun y => q.1 + y := by cases o <;> rfl
def has (c f n : Int) : Bool := decide (0 ≤ f) && decide (f ≤ c - n)
def lk (R x : Int) : Bool := decide (x < 0) || decide (R ≤ x)
def lacks (R : Int) (l : List Int) : Bool := l.any (lk R)
def turn (n : Int) : Bool := decide (1 ≤ n) && decide (n ≤ 300)
def bars (c R : Int) (i : In) : Bool :=
  if i.op = 1 then lacks R [i.r]
  else if i.op = 2 ∨ i.op = 4 then lacks R [i.r] || !has c i.n 1
  else if i.op = 3 ∨ i.op = 5 then lacks R [i.r, i.a] || decide (i.b < 1) || !has c i.n i.b
  else if i.op = 6 then lacks R [i.r, i.a] || ((Kd.opT i.k).2.2 != 1)
  else if i.op = 7 then lacks R [i.r, i.a, i.b] || ((Kd.opT i.k).2.2 != 2)
  else if i.op = 8 then lacks R [i.r, i.a, i.b]
  else if i.op = 9 then lacks R [i.r, i.a]
  else if i.op = 10 then lacks R [i.r] || !turn i.n
  else if i.op = 11 then false
  else true
/-- where the first is of which it is so, or -1 -/
def idx {α : Type} (p : α → Bool) : Nat → List α → Int
  | _, [] => -1
  | i, x :: r => if p x = true then (i : Int) else idx p (i + 1) r
theorem idx_neg {α : Type} (p : α → Bool) : ∀ (l : List α) (i : Nat), (0 ≤ idx p i l ↔ l.any p = true) ∧ (l.any p = false → idx p i l = -1)
  | [], i => by simp [idx]
  | x :: r, i => by
    have h := idx_neg p r (i + 1)
    unfold idx
    cases hx : p x
    · simp only [Bool.false_eq_true, if_false, List.any_cons, hx, Bool.false_or]
      exact h
    · simp only [if_true, List.any_cons, hx, Bool.true_or]
      exact ⟨⟨fun _ => trivial, fun _ => by omega⟩, fun e => by cases e⟩
/-- an image -/
structure Im where
  c : Int
  R : Int
  cost : Int
  P : List Int
  B : List Int
  G : List Int
  l : List In
def fault (m : Im) : Int × Int :=
  if m.c < 1 ∨ 6000 < m.c ∨ m.R < 1 ∨ 40 < m.R then (13, -1)
  else if 6000 < m.P.length ∨ 6000 < m.B.length ∨ 120000 < m.G.length ∨ 200000 < m.l.length then (7, -1)
  else if ([m.P, m.B, m.G].any fun z => z.any fun x => !has m.c x 1) = true then (16, -1)
  else if 0 ≤ idx (bars m.c m.R) 0 m.l then (4, idx (bars m.c m.R) 0 m.l)
  else if m.cost ≠ cost 10 11 m.l ∨ (cost 10 11 m.l = 0 ∧ 0 < m.l.length) then (18, -1)
  else (0, 0)
end Cd
end Go.Proofs.YtfipfdpohkafaaaDoor
