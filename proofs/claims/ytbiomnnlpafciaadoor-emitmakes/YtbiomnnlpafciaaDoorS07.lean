import Derived.Test.YtbiomnnlpafciaaDoorS06
import Derived.WalkKit
import Derived.WalkSpells
import Derived.IntWalk
import Derived.Deep.Cut
import Derived.Deep.LoopGhost
import Derived.Laws.Cover1
import Derived.Lib.Hide
set_option linter.unusedVariables false
set_option linter.unusedSimpArgs false
set_option maxHeartbeats 64000000
set_option maxRecDepth 100000
namespace Go.Proofs.YtbiomnnlpafciaaDoor
open Go.RowKit Go.IntWalk
set_option linter.unusedVariables false
set_option linter.unusedSimpArgs false
namespace Cd
/-- an instruction: six numbers -/
structure In where
  op : Int
  k : Int
  r : Int
  a : Int
  b : Int
  n : Int
/-- is it the head of a loop, or its end? (the codes of the two Ops are letters here) -/
def step (L E : Int) (o : Option Int) (x : In) : Option (Int × Option Int) :=
  match o with
  | none => if x.op = E then none else if x.op = L then (if 1 ≤ x.n ∧ x.n ≤ 300 then some (1, some x.n) else none) else some (1, none)
  | some m => if x.op = E then some (m, none) else if x.op = L then none else some (m, some m)
/-- what code costs from here on, with a loop open or not -/
def go (L E : Int) : Option Int → List In → Option Int
  | none, [] => some 0
  | some _, [] => none
  | o, x :: r => (step L E o x).bind fun q => (go L E q.2 r).map fun y => q.1 + y
def cost (L E : Int) (l : List In) : Int := (go L E none l).getD 0
theorem go_cons {L E : Int} (o : Option Int) (x : In) (r : List In) : go L E o (x :: r) = (step L E o x).bind fun q => (go L E q.2 r).map fun y => q.1 + y := by cases o <;> rfl
theorem step_pos {L E : Int} {o : Option Int} (ho : ∀ m, o = some m → 1 ≤ m) {x : In} {q : Int × Option Int} (h : step L E o x = some q) : 1 ≤ q.1 ∧ ∀ m, q.2 = some m → 1 ≤ m := by
  unfold step at h
  cases o with
  | none =>
    dsimp only at h
    split at h
    · cases h
    · split at h
      · split at h
        · rename_i h3
          injection h with h
          subst h
          exact ⟨Int.le_refl _, fun m e => by injection e with e; omega⟩
        · cases h
      · injection h with h
        subst h
        exact ⟨Int.le_refl _, fun m e => by cases e⟩
  | some m =>
    have hm := ho m rfl
    dsimp only at h
    split at h
    · injection h with h
      subst h
      exact ⟨hm, fun m e => by cases e⟩
    · split at h
      · cases h
      · injection h with h
        subst h
        exact ⟨hm, fun m' e => by injection e with e; omega⟩
theorem go_nonneg {L E : Int} : ∀ (l : List In) (o : Option Int), (∀ m, o = some m → 1 ≤ m) → ∀ {x : Int}, go L E o l = some x → 0 ≤ x
  | [], none, _, x, h => by
    unfold go at h
    injection h with h
    omega
  | [], some _, _, x, h => by
    unfold go at h
    cases h
  | a :: r, o, ho, x, h => by
    rw [go_cons] at h
    cases hs : step L E o a with
    | none => rw [hs] at h; cases h
    | some q =>
      rw [hs] at h
      simp only [Option.bind_some] at h
      obtain ⟨p1, p2⟩ := step_pos ho hs
      cases hg : go L E q.2 r with
      | none => rw [hg] at h; cases h
      | some y =>
        rw [hg] at h
        simp only [Option.map_some] at h
        injection h with h
        have := go_nonneg r q.2 p2 hg
        omega
/-- code that may be run, and other code behind it -/
theorem go_append {L E : Int} : ∀ (a b : List In) (o : Option Int) {x : Int}, go L E o a = some x → go L E o (a ++ b) = (go L E none b).map fun y => x + y
  | [], b, none, x, h => by
    unfold go at h
    injection h with h
    subst h
    simp
  | [], b, some _, x, h => by
    unfold go at h
    cases h
  | i :: r, b, o, x, h => by
    rw [go_cons] at h
    rw [List.cons_append]
    cases hs : step L E o i with
    | none => rw [hs] at h; cases h
    | some q =>
      rw [hs] at h
      simp only [Option.bind_some] at h
      cases hg : go L E q.2 r with
      | none => rw [hg] at h; cases h
      | some y =>
        rw [hg] at h
        simp only [Option.map_some] at h
        injection h with h
        subst h
        have ih := go_append r b q.2 hg
        rw [go_cons, hs]
        simp only [Option.bind_some]
        rw [ih]
        cases go L E none b with
        | none => rfl
        | some z => simp; omega
def plain (L E : Int) (l : List In) : Prop := ∀ x ∈ l, x.op ≠ L ∧ x.op ≠ E
theorem go_plain {L E : Int} : ∀ (l : List In), plain L E l → go L E none l = some (l.length : Int)
  | [], _ => rfl
  | x :: r, h => by
    have hx := h x (by simp)
    rw [go_cons, step]
    try dsimp only
    rw [if_neg hx.2, if_neg hx.1]
    simp only [Option.bind_some]
    rw [go_plain r fun y hy => h y (by simp [hy])]
    simp
    omega
theorem go_inner {L E : Int} {m : Int} : ∀ (l t : List In), plain L E l → go L E (some m) (l ++ t) = (go L E (some m) t).map fun y => m * l.length + y
  | [], t, _ => by simp
  | x :: r, t, h => by
    have hx := h x (by simp)
    rw [List.cons_append, go_cons, step]
    try dsimp only
    rw [if_neg hx.2, if_neg hx.1]
    simp only [Option.bind_some]
    rw [go_inner r t fun y hy => h y (by simp [hy])]
    cases go L E (some m) t with
    | none => rfl
    | some z =>
      simp only [Option.map_some, List.length_cons]
      congr 1
      rw [show ((r.length + 1 : Nat) : Int) = (r.length : Int) + 1 by omega, Int.mul_add]
      omega
theorem cost_around {L E : Int} {l : List In} (h : plain L E l) {x y : In} (hx : x.op = L) (hy : y.op = E) (hLE : L ≠ E) (hn : 1 ≤ x.n ∧ x.n ≤ 300) : cost L E (x :: (l ++ [y])) = 1 + x.n * (l.length + 1) := by
  unfold cost
  rw [go_cons, step]
  try dsimp only
  rw [if_neg (by rw [hx]; exact hLE), if_pos hx, if_pos hn]
  simp only [Option.bind_some]
  rw [go_inner l [y] h]
  have : go L E (some x.n) [y] = some x.n := by
    rw [go_cons, step]
    try dsimp only
    rw [if_pos hy]
    simp [go]
  rw [this]
  simp only [Option.map_some, Option.getD_some]
  rw [Int.mul_add]
  omega
def has (c f n : Int) : Bool := decide (0 ≤ f) && decide (f ≤ c - n)
def lk (R x : Int) : Bool := decide (x < 0) || decide (R ≤ x)
def lacks (R : Int) (l : List Int) : Bool := l.any (lk R)
def turn (n : Int) : Bool := decide (1 ≤ n) && decide (n ≤ 300)
def bars (c R : Int) (i : In) : Bool :=
  if i.op = 1 then lacks R [i.r]
  else if i.op = 2 ∨ i.op = 4 then lacks R [i.r] || !has c i.n 1
  else if i.op = 3 ∨ i.op = 5 then lacks R [i.r, i.a] || decide (i.b < 1) || !has c i.n i.b
  else if i.op = 6 then lacks R [i.r, i.a] || ((Kd.opT i.k).2.2 != 1)
  else if i.op = 7 then lacks R [i.r, i.a, i.b] || ((Kd.opT i.k).2.2 != 2)
  else if i.op = 8 then lacks R [i.r, i.a, i.b]
  else if i.op = 9 then lacks R [i.r, i.a]
  else if i.op = 10 then lacks R [i.r] || !turn i.n
  else if i.op = 11 then false
  else true
/-- where the first is of which it is so, or -1 -/
def idx {α : Type} (p : α → Bool) : Nat → List α → Int
  | _, [] => -1
  | i, x :: r => if p x = true then (i : Int) else idx p (i + 1) r
theorem idx_neg {α : Type} (p : α → Bool) : ∀ (l : List α) (i : Nat), (0 ≤ idx p i l ↔ l.any p = true) ∧ (l.any p = false → idx p i l = -1)
  | [], i => by simp [idx]
  | x :: r, i => by
    have h := idx_neg p r (i + 1)
    unfold idx
    cases hx : p x
    · simp only [Bool.false_eq_true, if_false, List.any_cons, hx, Bool.false_or]
      exact h
    · simp only [if_true, List.any_cons, hx, Bool.true_or]
      exact ⟨⟨fun _ => trivial, fun _ => by omega⟩, fun e => by cases e⟩
/-- an image -/
structure Im where
  c : Int
  R : Int
  cost : Int
  P : List Int
  B : List Int
  G : List Int
  l : List In
def fault (m : Im) : Int × Int :=
  if m.c < 1 ∨ 6000 < m.c ∨ m.R < 1 ∨ 40 < m.R then (13, -1)
  else if 6000 < m.P.length ∨ 6000 < m.B.length ∨ 120000 < m.G.length ∨ 200000 < m.l.length then (7, -1)
  else if ([m.P, m.B, m.G].any fun z => z.any fun x => !has m.c x 1) = true then (16, -1)
  else if 0 ≤ idx (bars m.c m.R) 0 m.l then (4, idx (bars m.c m.R) 0 m.l)
  else if m.cost ≠ cost 10 11 m.l ∨ (cost 10 11 m.l = 0 ∧ 0 < m.l.length) then (18, -1)
  else (0, 0)
end Cd
end Go.Proofs.YtbiomnnlpafciaaDoor
namespace Go.Proofs.YtbiomnnlpafciaaDoor
open Go.RowKit Go.IntWalk
set_option linter.unusedVariables false
set_option linter.unusedSimpArgs false
namespace Em
open Lo Cd
/-- registers and cells -/
structure St where
  R : Int → Int
  M : List Int
def upd (f : Int → Int) (x v : Int) : Int → Int := fun y => if y = x then v else f y
/-- an instruction, no loop's; none: it cannot be done -/
def one (x : In) (s : St) : Option St :=
  if x.op = 1 then some ⟨upd s.R x.r x.n, s.M⟩
  else if x.op = 2 then some ⟨upd s.R x.r (rd s.M x.n), s.M⟩
  else if x.op = 4 then some ⟨s.R, s.M.set x.n.toNat (s.R x.r)⟩
  else if x.op = 3 then (if s.R x.a < 0 ∨ x.b ≤ s.R x.a then none else some ⟨upd s.R x.r (rd s.M (x.n + s.R x.a)), s.M⟩)
  else if x.op = 5 then (if s.R x.a < 0 ∨ x.b ≤ s.R x.a then none else some ⟨s.R, s.M.set (x.n + s.R x.a).toNat (s.R x.r)⟩)
  else if x.op = 6 then some ⟨upd s.R x.r (apT x.k (s.R x.a) 0), s.M⟩
  else if x.op = 7 then some ⟨upd s.R x.r (apT x.k (s.R x.a) (s.R x.b)), s.M⟩
  else if x.op = 8 then some ⟨upd s.R x.r (if s.R x.r = 0 then s.R x.b else s.R x.a), s.M⟩
  else if x.op = 9 then some ⟨upd s.R x.r (s.R x.a), s.M⟩
  else some s
/-- the code of a step of a tree, r being the stack's next free register, t how many turns the loop has (0: none) -/
def ep (p : Pu) (r t : Int) : List In :=
  if p.op = 1 then [⟨1, 0, r, 0, 0, p.n⟩]
  else if p.op = 2 then [⟨2, 0, r, 0, 0, p.v⟩]
  else if p.op = 3 then (if t = 0 then [⟨2, 0, r, 0, 0, p.v⟩] else [⟨3, 0, r, 0, t, p.v⟩])
  else if p.op = 4 then (if 0 < t then [⟨1, 0, r, 0, 0, p.n⟩, ⟨7, 1, r, r, 0, 0⟩] else [⟨1, 0, r, 0, 0, p.n⟩])
  else if p.op = 5 then [⟨6, p.k, r - 1, r - 1, 0, 0⟩]
  else if p.op = 6 then [⟨7, p.k, r - 2, r - 2, r - 1, 0⟩]
  else if p.op = 7 then [⟨8, 0, r - 3, r - 2, r - 1, 0⟩]
  else if p.op = 8 then [⟨1, 0, r, 0, 0, 0⟩, ⟨7, 8, r + 1, r - 2, r, 0⟩, ⟨6, 14, r + 1, r + 1, 0, 0⟩, ⟨1, 0, r + 2, 0, 0, p.n⟩, ⟨7, 8, r + 2, r - 2, r + 2, 0⟩, ⟨7, 10, r + 1, r + 1, r + 2, 0⟩, ⟨9, 0, r + 2, r + 1, 0, 0⟩, ⟨8, 0, r + 2, r - 2, r, 0⟩, ⟨3, 0, r + 2, r + 2, p.n, p.v⟩, ⟨8, 0, r + 1, r + 2, r - 1, 0⟩, ⟨9, 0, r - 2, r + 1, 0, 0⟩]
  else []
/-- where the stack's next free register is behind it -/
def er (p : Pu) (r : Int) : Int := r - tk p.op + 1
def et : List Pu → Int → Int → List In
  | [], _, _ => []
  | p :: l, r, t => ep p r t ++ et l (er p r) t
theorem small64 {x : Int} (h : -1000000000000000000 ≤ x ∧ x ≤ 1000000000000000000) : wrap64 x = x := by
  unfold wrap64
  omega
theorem stp_len {M st : List Int} {k : Int} {p : Pu} (ht : tk p.op ≤ st.length) : ((stp M k st p).length : Int) = st.length - tk p.op + 1 := by
  have := tk_nonneg p.op
  unfold stp rest
  rw [List.length_append, List.length_take]
  simp
  omega
def plain (l : List In) : Prop := ∀ x ∈ l, x.op ≠ 10 ∧ x.op ≠ 11
theorem ep_plain (p : Pu) (r t : Int) : plain (ep p r t) := by
  intro x hx
  unfold ep at hx
  repeat' split at hx
  all_goals
    simp at hx
    try (rcases hx with rfl | rfl | rfl | rfl | rfl | rfl | rfl | rfl | rfl | rfl | rfl <;> simp)
    try (rcases hx with rfl | rfl <;> simp)
    try (subst hx; simp)
theorem et_plain : ∀ (l : List Pu) (r t : Int), plain (et l r t)
  | [], r, t => fun x hx => by simp [et] at hx
  | p :: l, r, t => fun x hx => by
    rw [et, List.mem_append] at hx
    rcases hx with h | h
    · exact ep_plain p r t x h
    · exact et_plain l _ t x h
theorem plain_app {a b : List In} (ha : plain a) (hb : plain b) : plain (a ++ b) := fun x hx => (List.mem_append.1 hx).elim (ha x) (hb x)
/-- up to the first IEnd, and what comes behind it -/
def cutEnd : List In → List In × List In
  | [] => ([], [])
  | x :: l => if x.op = 11 then ([], l) else (x :: (cutEnd l).1, (cutEnd l).2)
theorem cutEnd_len : ∀ l : List In, (cutEnd l).2.length ≤ l.length
  | [] => by simp [cutEnd]
  | x :: l => by
    unfold cutEnd
    split
    · simp
    · have := cutEnd_len l
      simp
      omega
def mid (x : Sp) : List In := if x.op = 2 then [⟨5, 0, 2, 0, x.n, x.tgt⟩] else if x.op = 3 then [⟨7, x.k, 1, 1, 2, 0⟩] else [⟨7, x.k, 1, 1, 2, 0⟩, ⟨5, 0, 1, 0, x.n, x.tgt⟩]
/-- the code of a step -/
def es (x : Sp) : List In :=
  if x.op = 1 then et x.E 2 0 ++ [⟨4, 0, 2, 0, 0, x.tgt⟩]
  else (if x.op = 3 ∨ x.op = 4 then et x.F 2 0 ++ [⟨9, 0, 1, 2, 0, 0⟩] else []) ++ (⟨10, 0, 0, 0, 0, x.n⟩ :: ((et x.E 2 x.n ++ mid x) ++ ⟨11, 0, 0, 0, 0, 0⟩ :: (if x.op = 3 then [⟨4, 0, 1, 0, 0, x.tgt⟩] else [])))
theorem mid_plain (x : Sp) : plain (mid x) := by
  intro y hy
  unfold mid at hy
  repeat' split at hy
  all_goals
    simp at hy
    try (rcases hy with rfl | rfl <;> simp)
    try (subst hy; simp)
end Em
end Go.Proofs.YtbiomnnlpafciaaDoor
