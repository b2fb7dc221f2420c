import Derived.Test.YtfipfdpohkafaaaDoorQ25
import Derived.WalkKit
import Derived.WalkSpells
import Derived.IntWalk
import Derived.Deep.Cut
import Derived.Deep.LoopGhost
import Derived.Laws.Cover1
import Derived.Lib.Hide
set_option linter.unusedVariables false
set_option linter.unusedSimpArgs false
set_option maxHeartbeats 64000000
set_option maxRecDepth 100000
namespace Go.Proofs.YtfipfdpohkafaaaDoor
open Go.RowKit Go.IntWalk
set_option linter.unusedVariables false
set_option linter.unusedSimpArgs false
namespace Cd
/-- an instruction: six numbers -/
structure In where
  op : Int
  k : Int
  r : Int
  a : Int
  b : Int
  n : Int
/-- is it the head of a loop, or its end? (the codes of the two Ops are letters here) -/
def step (L E : Int) (o : Option Int) (x : In) : Option (Int × Option Int) :=
  match o with
  | none => if x.op = E then none else if x.op = L then (if 1 ≤ x.n ∧ x.n ≤ 300 then some (1, some x.n) else none) else some (1, none)
  | some m => if x.op = E then some (m, none) else if x.op = L then none else some (m, some m)
/-- what code costs from here on, with a loop open or not -/
def go (L E : Int) : Option Int → List In → Option Int
  | none, [] => some 0
  | some _, [] => none
  | o, x :: r => (step L E o x).bind fun q => (go L E q.2 r).map fun y => q.1 + y
def cost (L E : Int) (l : List In) : Int := (go L E none l).getD 0
theorem go_cons {L E : Int} (o : Option Int) (x : In) (r : List In) : go L E o (x :: r) = (step L E o x).bind fun q => (go L E q.2 r).map fun y => q.1 + y := by cases o <;> rfl
theorem step_pos {L E : Int} {o : Option Int} (ho : ∀ m, o = some m → 1 ≤ m) {x : In} {q : Int × Option Int} (h : step L E o x = some q) : 1 ≤ q.1 ∧ ∀ m, q.2 = some m → 1 ≤ m := by
  unfold step at h
  cases o with
  | none =>
    dsimp only at h
    split at h
    · cases h
    · split at h
      · split at h
        · rename_i h3
          injection h with h
          subst h
          exact ⟨Int.le_refl _, fun m e => by injection e with e; omega⟩
        · cases h
      · injection h with h
        subst h
        exact ⟨Int.le_refl _, fun m e => by cases e⟩
  | some m =>
    have hm := ho m rfl
    dsimp only at h
    split at h
    · injection h with h
      subst h
      exact ⟨hm, fun m e => by cases e⟩
    · split at h
      · cases h
      · injection h with h
        subst h
        exact ⟨hm, fun m' e => by injection e with e; omega⟩
theorem go_nonneg {L E : Int} : ∀ (l : List In) (o : Option Int), (∀ m, o = some m → 1 ≤ m) → ∀ {x : Int}, go L E o l = some x → 0 ≤ x
  | [], none, _, x, h => by
    unfold go at h
    injection h with h
    omega
  | [], some _, _, x, h => by
    unfold go at h
    cases h
  | a :: r, o, ho, x, h => by
    rw [go_cons] at h
    cases hs : step L E o a with
    | none => rw [hs] at h; cases h
    | some q =>
      rw [hs] at h
      simp only [Option.bind_some] at h
      obtain ⟨p1, p2⟩ := step_pos ho hs
      cases hg : go L E q.2 r with
      | none => rw [hg] at h; cases h
      | some y =>
        rw [hg] at h
        simp only [Option.map_some] at h
        injection h with h
        have := go_nonneg r q.2 p2 hg
        omega
theorem cost_nonneg (L E : Int) (l : List In) : 0 ≤ cost L E l := by
  unfold cost
  cases h : go L E none l with
  | none => exact Int.le_refl _
  | some x => exact go_nonneg l none (fun m e => by cases e) h
/-- code that may be run, and other code behind it -/
theorem go_append {L E : Int} : ∀ (a b : List In) (o : Option Int) {x : Int}, go L E o a = some x → go L E o (a ++ b) = (go L E none b).map fun y => x + y
  | [], b, none, x, h => by
    unfold go at h
    injection h with h
    subst h
    simp
  | [], b, some _, x, h => by
    unfold go at h
    cases h
  | i :: r, b, o, x, h => by
    rw [go_cons] at h
    rw [List.cons_append]
    cases hs : step L E o i with
    | none => rw [hs] at h; cases h
    | some q =>
      rw [hs] at h
      simp only [Option.bind_some] at h
      cases hg : go L E q.2 r with
      | none => rw [hg] at h; cases h
      | some y =>
        rw [hg] at h
        simp only [Option.map_some] at h
        injection h with h
        subst h
        have ih := go_append r b q.2 hg
        rw [go_cons, hs]
        simp only [Option.bind_some]
        rw [ih]
        cases go L E none b with
        | none => rfl
        | some z => simp; omega
theorem cost_append {L E : Int} {a b : List In} (ha : 0 < cost L E a) (hb : 0 < cost L E b) : cost L E (a ++ b) = cost L E a + cost L E b := by
  unfold cost at *
  cases h : go L E none a with
  | none => rw [h] at ha; exact absurd ha (by decide)
  | some x =>
    cases h2 : go L E none b with
    | none => rw [h2] at hb; exact absurd hb (by decide)
    | some y => rw [go_append a b none h, h2]; rfl
def plain (L E : Int) (l : List In) : Prop := ∀ x ∈ l, x.op ≠ L ∧ x.op ≠ E
theorem go_plain {L E : Int} : ∀ (l : List In), plain L E l → go L E none l = some (l.length : Int)
  | [], _ => rfl
  | x :: r, h => by
    have hx := h x (by simp)
    rw [go_cons, step]
    try dsimp only
    rw [if_neg hx.2, if_neg hx.1]
    simp only [Option.bind_some]
    rw [go_plain r fun y hy => h y (by simp [hy])]
    simp
    omega
theorem go_inner {L E : Int} {m : Int} : ∀ (l t : List In), plain L E l → go L E (some m) (l ++ t) = (go L E (some m) t).map fun y => m * l.length + y
  | [], t, _ => by simp
  | x :: r, t, h => by
    have hx := h x (by simp)
    rw [List.cons_append, go_cons, step]
    try dsimp only
    rw [if_neg hx.2, if_neg hx.1]
    simp only [Option.bind_some]
    rw [go_inner r t fun y hy => h y (by simp [hy])]
    cases go L E (some m) t with
    | none => rfl
    | some z =>
      simp only [Option.map_some, List.length_cons]
      congr 1
      rw [show ((r.length + 1 : Nat) : Int) = (r.length : Int) + 1 by omega, Int.mul_add]
      omega
theorem cost_plain {L E : Int} {l : List In} (h : plain L E l) : cost L E l = l.length := by
  unfold cost
  rw [go_plain l h]
  rfl
theorem cost_around {L E : Int} {l : List In} (h : plain L E l) {x y : In} (hx : x.op = L) (hy : y.op = E) (hLE : L ≠ E) (hn : 1 ≤ x.n ∧ x.n ≤ 300) : cost L E (x :: (l ++ [y])) = 1 + x.n * (l.length + 1) := by
  unfold cost
  rw [go_cons, step]
  try dsimp only
  rw [if_neg (by rw [hx]; exact hLE), if_pos hx, if_pos hn]
  simp only [Option.bind_some]
  rw [go_inner l [y] h]
  have : go L E (some x.n) [y] = some x.n := by
    rw [go_cons, step]
    try dsimp only
    rw [if_pos hy]
    simp [go]
  rw [this]
  simp only [Option.map_some, Option.getD_some]
  rw [Int.mul_add]
  omega
def has (c f n : Int) : Bool := decide (0 ≤ f) && decide (f ≤ c - n)
def lk (R x : Int) : Bool := decide (x < 0) || decide (R ≤ x)
def lacks (R : Int) (l : List Int) : Bool := l.any (lk R)
def turn (n : Int) : Bool := decide (1 ≤ n) && decide (n ≤ 300)
def bars (c R : Int) (i : In) : Bool :=
  if i.op = 1 then lacks R [i.r]
  else if i.op = 2 ∨ i.op = 4 then lacks R [i.r] || !has c i.n 1
  else if i.op = 3 ∨ i.op = 5 then lacks R [i.r, i.a] || decide (i.b < 1) || !has c i.n i.b
  else if i.op = 6 then lacks R [i.r, i.a] || ((Kd.opT i.k).2.2 != 1)
  else if i.op = 7 then lacks R [i.r, i.a, i.b] || ((Kd.opT i.k).2.2 != 2)
  else if i.op = 8 then lacks R [i.r, i.a, i.b]
  else if i.op = 9 then lacks R [i.r, i.a]
  else if i.op = 10 then lacks R [i.r] || !turn i.n
  else if i.op = 11 then false
  else true
/-- where the first is of which it is so, or -1 -/
def idx {α : Type} (p : α → Bool) : Nat → List α → Int
  | _, [] => -1
  | i, x :: r => if p x = true then (i : Int) else idx p (i + 1) r
theorem idx_neg {α : Type} (p : α → Bool) : ∀ (l : List α) (i : Nat), (0 ≤ idx p i l ↔ l.any p = true) ∧ (l.any p = false → idx p i l = -1)
  | [], i => by simp [idx]
  | x :: r, i => by
    have h := idx_neg p r (i + 1)
    unfold idx
    cases hx : p x
    · simp only [Bool.false_eq_true, if_false, List.any_cons, hx, Bool.false_or]
      exact h
    · simp only [if_true, List.any_cons, hx, Bool.true_or]
      exact ⟨⟨fun _ => trivial, fun _ => by omega⟩, fun e => by cases e⟩
/-- an image -/
structure Im where
  c : Int
  R : Int
  cost : Int
  P : List Int
  B : List Int
  G : List Int
  l : List In
def fault (m : Im) : Int × Int :=
  if m.c < 1 ∨ 6000 < m.c ∨ m.R < 1 ∨ 40 < m.R then (13, -1)
  else if 6000 < m.P.length ∨ 6000 < m.B.length ∨ 120000 < m.G.length ∨ 200000 < m.l.length then (7, -1)
  else if ([m.P, m.B, m.G].any fun z => z.any fun x => !has m.c x 1) = true then (16, -1)
  else if 0 ≤ idx (bars m.c m.R) 0 m.l then (4, idx (bars m.c m.R) 0 m.l)
  else if m.cost ≠ cost 10 11 m.l ∨ (cost 10 11 m.l = 0 ∧ 0 < m.l.length) then (18, -1)
  else (0, 0)
/-- how much it costs at most -/
theorem go_le : ∀ (l : List In) (o : Option Int) (x : Int), (∀ m, o = some m → m ≤ 300) → go 10 11 o l = some x → x ≤ 300 * l.length
  | [], none, x, _, h => by
    unfold go at h
    injection h with h
    simp
    omega
  | [], some _, x, _, h => by
    unfold go at h
    cases h
  | i :: r, o, x, ho, h => by
    rw [go_cons] at h
    cases hs : step 10 11 o i with
    | none => rw [hs] at h; cases h
    | some q =>
      rw [hs] at h
      simp only [Option.bind_some] at h
      have hq : q.1 ≤ 300 ∧ ∀ m, q.2 = some m → m ≤ 300 := by
        unfold step at hs
        cases o with
        | none =>
          dsimp only at hs
          split at hs
          · cases hs
          · split at hs
            · split at hs
              · rename_i h3
                injection hs with hs
                subst hs
                exact ⟨(show (1 : Int) ≤ 300 by decide), fun m e => by injection e with e; omega⟩
              · cases hs
            · injection hs with hs
              subst hs
              exact ⟨(show (1 : Int) ≤ 300 by decide), fun m e => by cases e⟩
        | some m =>
          have hm := ho m rfl
          dsimp only at hs
          split at hs
          · injection hs with hs
            subst hs
            exact ⟨hm, fun m e => by cases e⟩
          · split at hs
            · cases hs
            · injection hs with hs
              subst hs
              exact ⟨hm, fun m' e => by injection e with e; omega⟩
      cases hg : go 10 11 q.2 r with
      | none => rw [hg] at h; cases h
      | some y =>
        rw [hg] at h
        simp only [Option.map_some] at h
        injection h with h
        have := go_le r q.2 y hq.2 hg
        simp only [List.length_cons]
        omega
end Cd
end Go.Proofs.YtfipfdpohkafaaaDoor
