import Derived.Test.YtkgbmgpdehmiiaaDoorY06
import Derived.Shelf.Lay
import Derived.Ground.NamesProg
import Derived.WalkKit
import Derived.WalkSpells
import Derived.IntWalk
import Derived.Deep.Cut
import Derived.Deep.LoopGhost
import Derived.Laws.Cover1
import Derived.Lib.Hide
set_option linter.unusedVariables false
set_option linter.unusedSimpArgs false
set_option maxHeartbeats 64000000
set_option maxRecDepth 100000
namespace Go.Proofs.YtkgbmgpdehmiiaaDoor
open Go.Shelf Go.RowKit Go.Lib Go.IntWalk
set_option linter.unusedVariables false
set_option linter.unusedSimpArgs false
/-- v is a row of numbers -/
def HInts (ok : Nat → Prop) (w : World) (v : Value) (L : List Int) : Prop := ∃ C, Sl ok 1 w v L.length C ∧ ∀ i (h : i < L.length), C i = [.int .i64 L[i]]
theorem HInts.at {ok : Nat → Prop} {w : World} {v : Value} {l : List Int} (h : HInts ok w v l) :
    ∃ ao cap, v = .slice ao l.length cap ∧ l.length ≤ cap ∧ cap ≤ maxLen ∧ ∀ i (h : i < l.length), ∃ b o, ao = some ⟨b, o, none⟩ ∧ b < w.heap.size ∧ w.cell? ⟨b, o + i, none⟩ = some (.int .i64 l[i]) := by
  obtain ⟨C, ⟨ao, cap, hv, h1, h2, h3⟩, hC⟩ := h
  refine ⟨ao, cap, hv, h1, h2, fun i hi => ?_⟩
  obtain ⟨b, o, ha, hob, hb, hc⟩ := h3 (by omega)
  have := (hc i hi).2 0 (by decide)
  rw [hC i hi] at this
  exact ⟨b, o, ha, hb, by simpa using this⟩
theorem HInts.keep {ok : Nat → Prop} {w w' : World} {v : Value} {l : List Int} (h : HInts ok w v l) (h1 : w.heap.size ≤ w'.heap.size) (h2 : ∀ i, ok i → i < w.heap.size → w'.heap[i]? = w.heap[i]?) : HInts ok w' v l := by
  obtain ⟨C, h3, h4⟩ := h
  exact ⟨C, h3.keep h1 h2, h4⟩
theorem HInts.under {ok : Nat → Prop} {w w' : World} {v : Value} {l : List Int} (h : HInts ok w v l) (b : Below w.heap.size w w') : HInts ok w' v l := h.keep b.size fun i _ hl => b.block i hl
theorem HInts.wide {ok ok' : Nat → Prop} {w : World} {v : Value} {l : List Int} (h : HInts ok w v l) (hk : ∀ i, ok i → i < w.heap.size → ok' i) : HInts ok' w v l := by
  obtain ⟨C, h3, h4⟩ := h
  exact ⟨C, h3.wide hk, h4⟩
theorem Tryd.infoI : (Tryd.prog.info? 3).map (fun i => (i.zero, i.size, i.bytes)) = some (some (.int .i64 0), 1, 8) := by kernel_rfl
def kInt : Kind Int where
  ty := 3
  k := 1
  bytes := 8
  zero := .int .i64 0
  E := fun _ _ cs x => cs = [.int .i64 x]
  pos := by decide
  zs := rfl
  info := Tryd.infoI
  len := by rintro _ _ _ _ rfl; rfl
  one := by rintro _ _ _ _ rfl; simp; rfl
  keep := by rintro _ _ _ _ _ rfl _ _; rfl
  wide := by rintro _ _ _ _ _ rfl _; rfl
theorem ints_row {ok : Nat → Prop} {w : World} {v : Value} {l : List Int} (h : HRow kInt ok w v l) : HInts ok w v l := h
def ics (l : List Int) : List Value := l.map (Value.int .i64)
theorem ics_len (l : List Int) : (ics l).length = l.length := by simp [ics]
theorem ics_append (a b : List Int) : ics (a ++ b) = ics a ++ ics b := by simp [ics]
theorem ics_flat {l : List Int} {D : Nat → List Value} (hD : ∀ j (h : j < l.length), D j = [.int .i64 l[j]]) : ∀ n, n ≤ l.length → flat D n = ics (l.take n)
  | 0, _ => by simp [flat, ics]
  | n + 1, h => by
    rw [flat, ics_flat hD n (by omega), hD n (by omega), List.take_succ_eq_append_getElem (by omega), ics_append]
    rfl
/-- a block of numbers, and what lies behind them -/
def IBlk (w : World) (g : Nat) (l : List Int) (sp : List Value) : Prop := w.heap[g]? = some (.cells (ics l ++ sp).toArray 3 (0, 0))
theorem IBlk.cell {w : World} {g : Nat} {l : List Int} {sp : List Value} (h : IBlk w g l sp) {i : Nat} (hi : i < l.length) : w.cell? ⟨g, i, none⟩ = some (.int .i64 l[i]) := by
  have := cell_of h i
  rw [this, List.getElem?_toArray, List.getElem?_append_left (by rw [ics_len]; exact hi)]
  simp [ics, hi]
end Go.Proofs.YtkgbmgpdehmiiaaDoor
namespace Go.Proofs.YtkgbmgpdehmiiaaDoor
open Go.Shelf Go.RowKit Go.Lib Go.IntWalk
set_option linter.unusedVariables false
set_option linter.unusedSimpArgs false
/-- a step of a tree -/
structure Pu where
  op : Int
  k : Int
  v : Int
  n : Int
def Pu.cs (p : Pu) : List Value := [.int .i64 p.op, .int .i64 p.k, .int .i64 p.v, .int .i64 p.n]
def HPu (ok : Nat → Prop) (w : World) (v : Value) (L : List Pu) : Prop := ∃ C, Sl ok 4 w v L.length C ∧ ∀ i (h : i < L.length), C i = (L[i]).cs
theorem HPu.at {ok : Nat → Prop} {w : World} {v : Value} {l : List Pu} (h : HPu ok w v l) :
    ∃ ao cap, v = .slice ao l.length cap ∧ l.length ≤ cap ∧ cap ≤ maxLen ∧ ∀ i (h : i < l.length), ∃ b o, ao = some ⟨b, o, none⟩ ∧ b < w.heap.size ∧ w.cell? ⟨b, o + i * 4, none⟩ = some (.int .i64 (l[i]).op) ∧ w.cell? ⟨b, o + i * 4 + 1, none⟩ = some (.int .i64 (l[i]).k) ∧ w.cell? ⟨b, o + i * 4 + 2, none⟩ = some (.int .i64 (l[i]).v) ∧ w.cell? ⟨b, o + i * 4 + 3, none⟩ = some (.int .i64 (l[i]).n) := by
  obtain ⟨C, ⟨ao, cap, hv, h1, h2, h3⟩, hC⟩ := h
  refine ⟨ao, cap, hv, h1, h2, fun i hi => ?_⟩
  obtain ⟨b, o, ha, hob, hb, hc⟩ := h3 (by omega)
  have hcc := (hc i hi).2
  rw [hC i hi] at hcc
  exact ⟨b, o, ha, hb, hcc 0 (by decide), hcc 1 (by decide), hcc 2 (by decide), hcc 3 (by decide)⟩
theorem HPu.keep {ok : Nat → Prop} {w w' : World} {v : Value} {l : List Pu} (h : HPu ok w v l) (h1 : w.heap.size ≤ w'.heap.size) (h2 : ∀ i, ok i → i < w.heap.size → w'.heap[i]? = w.heap[i]?) : HPu ok w' v l := by
  obtain ⟨C, h3, h4⟩ := h
  exact ⟨C, h3.keep h1 h2, h4⟩
theorem HPu.under {ok : Nat → Prop} {w w' : World} {v : Value} {l : List Pu} (h : HPu ok w v l) (b : Below w.heap.size w w') : HPu ok w' v l := h.keep b.size fun i _ hl => b.block i hl
/-! ### sorting, and each once -/
end Go.Proofs.YtkgbmgpdehmiiaaDoor
namespace Go.Proofs.YtkgbmgpdehmiiaaDoor
open Go.RowKit Go.IntWalk
set_option linter.unusedVariables false
set_option linter.unusedSimpArgs false
theorem tmod_I64 {a b : Int} (ha : I64 a) : I64 (a.tmod b) := by
  have h := Int.natAbs_tmod a b
  have h2 := Nat.mod_le a.natAbs b.natAbs
  have h3 : 0 ≤ a → 0 ≤ a.tmod b := fun h => Int.tmod_nonneg b h
  unfold I64 at *
  by_cases h0 : 0 ≤ a
  · have := h3 h0
    omega
  · by_cases h4 : a = -9223372036854775808
    · subst h4
      have e : (-9223372036854775808 : Int).tmod b = -((9223372036854775808 : Int).tmod b) := by rw [← Int.neg_tmod]
      have := Int.tmod_nonneg b (show (0 : Int) ≤ 9223372036854775808 by omega)
      omega
    · omega
theorem tr_I64 (b : Bool) : I64 (tr b) := by unfold tr I64; split <;> omega
theorem ite_I64 {c : Prop} [Decidable c] {x y : Int} (hx : I64 x) (hy : I64 y) : I64 (if c then x else y) := by
  by_cases h : c
  · rw [if_pos h]; exact hx
  · rw [if_neg h]; exact hy
theorem apT_I64 {k a b : Int} (ha : I64 a) (hb : I64 b) : I64 (apT k a b) := by
  have h0 : I64 0 := by unfold I64; omega
  have hmin : I64 (min a b) := by unfold I64 at *; omega
  have hmax : I64 (max a b) := by unfold I64 at *; omega
  have hm : I64 (a.tmod b) := tmod_I64 ha
  unfold apT
  repeat' (with_reducible apply ite_I64)
  all_goals first | exact h0 | assumption | apply tr_I64 | apply w64_I64
namespace Lo
/-- a step over cells -/
structure Sp where
  op : Int
  k : Int
  n : Int
  tgt : Int
  F : List Pu
  E : List Pu
/-- loops -/
structure Lp where
  c : Int
  P : List Int
  G : List Int
  S : List Sp
def hasN (c f n : Int) : Bool := decide (0 ≤ f) && decide (f ≤ c - n)
def tk (op : Int) : Int := if op = 5 then 1 else if op = 6 ∨ op = 8 then 2 else if op = 7 then 3 else 0
def pushOK (c n : Int) (p : Pu) : Bool :=
  if p.op = 1 ∨ p.op = 7 then true
  else if p.op = 2 then hasN c p.v 1
  else if p.op = 3 then hasN c p.v n
  else if p.op = 4 then decide (-1000000000000000000 ≤ p.n) && decide (p.n ≤ 1000000000000000000)
  else if p.op = 5 then (Kd.opT p.k).2.2 == 1
  else if p.op = 6 then (Kd.opT p.k).2.2 == 2
  else if p.op = 8 then decide (1 ≤ p.n) && hasN c p.v p.n
  else false
/-- from a height on: does a tree come of the steps? -/
def hgt (c n : Int) : Int → List Pu → Bool
  | h, [] => h == 1
  | h, p :: r => if h - tk p.op < 0 ∨ pushOK c n p = false then false else hgt c n (h - tk p.op + 1) r
def treeOK (c n : Int) (E : List Pu) : Bool := decide (E.length ≤ 24) && hgt c n 0 E
def folds (s : Sp) : Bool := s.op == 3 || s.op == 4
def turns (s : Sp) : Int := if s.op = 1 then 1 else s.n
def made (s : Sp) : Int := if s.op = 3 then 1 else turns s
def bars (c : Int) (s : Sp) : Bool :=
  if s.op < 1 ∨ 4 < s.op then true
  else if turns s < 1 ∨ 300 < turns s then true
  else if hasN c s.tgt (made s) = false ∨ treeOK c (turns s) s.E = false then true
  else folds s && !(treeOK c 1 s.F && (Kd.opT s.k).2.2 == 2)
/-- where the first is of which it is so, or -1 -/
def idx {α : Type} (p : α → Bool) : Nat → List α → Int
  | _, [] => -1
  | i, x :: r => if p x = true then (i : Int) else idx p (i + 1) r
/-- cells -/
def rd (M : List Int) (i : Int) : Int := M.getD i.toNat 0
def stepV (M : List Int) (p : Pu) (t : List Int) (k : Int) : Int :=
  if p.op = 2 then rd M p.v
  else if p.op = 3 then rd M (p.v + k)
  else if p.op = 4 then wrap64 (k + p.n)
  else if p.op = 5 then apT p.k (t.getD 0 0) 0
  else if p.op = 6 then apT p.k (t.getD 0 0) (t.getD 1 0)
  else if p.op = 7 then (if t.getD 0 0 ≠ 0 then t.getD 1 0 else t.getD 2 0)
  else if p.op = 8 then (if t.getD 0 0 < 0 ∨ p.n ≤ t.getD 0 0 then t.getD 1 0 else rd M (p.v + t.getD 0 0))
  else p.n
def rest (st : List Int) (p : Pu) : Nat := st.length - (tk p.op).toNat
def stp (M : List Int) (k : Int) (st : List Int) (p : Pu) : List Int := st.take (rest st p) ++ [stepV M p (st.drop (rest st p)) k]
/-- the stack behind so many steps -/
def stk (M : List Int) (k : Int) (E : List Pu) (i : Nat) : List Int := (E.take i).foldl (stp M k) []
def tree (M : List Int) (k : Int) (E : List Pu) : Int := (stk M k E E.length).getD 0 0
/-- what lies in cells is an int64 -/
def Wd (M : List Int) : Prop := ∀ x ∈ M, I64 x
def PW (E : List Pu) : Prop := ∀ p ∈ E, I64 p.n
theorem Wd.set {M : List Int} (h : Wd M) {x : Int} (hx : I64 x) (i : Nat) : Wd (M.set i x) := by
  intro y hy
  rcases List.mem_or_eq_of_mem_set hy with h1 | rfl
  · exact h y h1
  · exact hx
/-- what is given lies where it is put -/
def putL : List Int → List Int → List Int → List Int
  | M, [], _ => M
  | M, _ :: _, [] => M
  | M, p :: ps, x :: xs => putL (M.set p.toNat x) ps xs
/-- each of so many cells from the i-th on -/
def eachL (tgt : Int) (E : List Pu) : Nat → Nat → List Int → List Int
  | 0, _, M => M
  | m + 1, i, M => eachL tgt E m (i + 1) (M.set (tgt + i).toNat (tree M i E))
def foldL (K : Int) (E : List Pu) (M : List Int) : Nat → Nat → Int → Int
  | 0, _, v => v
  | m + 1, i, v => foldL K E M m (i + 1) (apT K v (tree M i E))
def scanL (K tgt : Int) (E : List Pu) : Nat → Nat → Int → List Int → List Int
  | 0, _, _, M => M
  | m + 1, i, v, M => scanL K tgt E m (i + 1) (apT K v (tree M i E)) (M.set (tgt + i).toNat (apT K v (tree M i E)))
def doS (M : List Int) (s : Sp) : List Int :=
  if s.op = 1 then M.set s.tgt.toNat (tree M 0 s.E)
  else if s.op = 2 then eachL s.tgt s.E s.n.toNat 0 M
  else if s.op = 3 then M.set s.tgt.toNat (foldL s.k s.E M s.n.toNat 0 (tree M 0 s.F))
  else scanL s.k s.tgt s.E s.n.toNat 0 (tree M 0 s.F) M
def row (L : Lp) (M : List Int) (inp : List Int) : List Int := L.S.foldl doS (putL M L.P inp)
theorem putL_len : ∀ (P X M : List Int), (putL M P X).length = M.length
  | [], _, _ => by simp [putL]
  | _ :: _, [], _ => by simp [putL]
  | p :: ps, x :: xs, M => by rw [putL, putL_len]; simp
theorem putL_wide : ∀ (P X M : List Int), Wd M → Wd X → Wd (putL M P X)
  | [], _, _, h, _ => by simpa [putL] using h
  | _ :: _, [], _, h, _ => by simpa [putL] using h
  | p :: ps, x :: xs, M, h, hx => by
    rw [putL]
    exact putL_wide ps xs _ (h.set (hx x (by simp)) _) fun y hy => hx y (by simp [hy])
def SW (s : Sp) : Prop := PW s.F ∧ PW s.E
end Lo
end Go.Proofs.YtkgbmgpdehmiiaaDoor
namespace Go.Proofs.YtkgbmgpdehmiiaaDoor
open Go.RowKit Go.IntWalk
set_option linter.unusedVariables false
set_option linter.unusedSimpArgs false
namespace Cd
/-- an instruction: six numbers -/
structure In where
  op : Int
  k : Int
  r : Int
  a : Int
  b : Int
  n : Int
/-- is it the head of a loop, or its end? (the codes of the two Ops are letters here) -/
def step (L E : Int) (o : Option Int) (x : In) : Option (Int × Option Int) :=
  match o with
  | none => if x.op = E then none else if x.op = L then (if 1 ≤ x.n ∧ x.n ≤ 300 then some (1, some x.n) else none) else some (1, none)
  | some m => if x.op = E then some (m, none) else if x.op = L then none else some (m, some m)
/-- what code costs from here on, with a loop open or not -/
def go (L E : Int) : Option Int → List In → Option Int
  | none, [] => some 0
  | some _, [] => none
  | o, x :: r => (step L E o x).bind fun q => (go L E q.2 r).map fun y => q.1 + y
def cost (L E : Int) (l : List In) : Int := (go L E none l).getD 0
theorem go_cons {L E : Int} (o : Option Int) (x : In) (r : List In) : go L E o (x :: r) = (step L E o x).bind fun q => (go L E q.2 r).map fun y => q.1 + y := by cases o <;> rfl
def plain (L E : Int) (l : List In) : Prop := ∀ x ∈ l, x.op ≠ L ∧ x.op ≠ E
theorem go_inner {L E : Int} {m : Int} : ∀ (l t : List In), plain L E l → go L E (some m) (l ++ t) = (go L E (some m) t).map fun y => m * l.length + y
  | [], t, _ => by simp
  | x :: r, t, h => by
    have hx := h x (by simp)
    rw [List.cons_append, go_cons, step]
    try dsimp only
    rw [if_neg hx.2, if_neg hx.1]
    simp only [Option.bind_some]
    rw [go_inner r t fun y hy => h y (by simp [hy])]
    cases go L E (some m) t with
    | none => rfl
    | some z =>
      simp only [Option.map_some, List.length_cons]
      congr 1
      rw [show ((r.length + 1 : Nat) : Int) = (r.length : Int) + 1 by omega, Int.mul_add]
      omega
def has (c f n : Int) : Bool := decide (0 ≤ f) && decide (f ≤ c - n)
def lk (R x : Int) : Bool := decide (x < 0) || decide (R ≤ x)
def lacks (R : Int) (l : List Int) : Bool := l.any (lk R)
def turn (n : Int) : Bool := decide (1 ≤ n) && decide (n ≤ 300)
def bars (c R : Int) (i : In) : Bool :=
  if i.op = 1 then lacks R [i.r]
  else if i.op = 2 ∨ i.op = 4 then lacks R [i.r] || !has c i.n 1
  else if i.op = 3 ∨ i.op = 5 then lacks R [i.r, i.a] || decide (i.b < 1) || !has c i.n i.b
  else if i.op = 6 then lacks R [i.r, i.a] || ((Kd.opT i.k).2.2 != 1)
  else if i.op = 7 then lacks R [i.r, i.a, i.b] || ((Kd.opT i.k).2.2 != 2)
  else if i.op = 8 then lacks R [i.r, i.a, i.b]
  else if i.op = 9 then lacks R [i.r, i.a]
  else if i.op = 10 then lacks R [i.r] || !turn i.n
  else if i.op = 11 then false
  else true
/-- where the first is of which it is so, or -1 -/
def idx {α : Type} (p : α → Bool) : Nat → List α → Int
  | _, [] => -1
  | i, x :: r => if p x = true then (i : Int) else idx p (i + 1) r
theorem idx_neg {α : Type} (p : α → Bool) : ∀ (l : List α) (i : Nat), (0 ≤ idx p i l ↔ l.any p = true) ∧ (l.any p = false → idx p i l = -1)
  | [], i => by simp [idx]
  | x :: r, i => by
    have h := idx_neg p r (i + 1)
    unfold idx
    cases hx : p x
    · simp only [Bool.false_eq_true, if_false, List.any_cons, hx, Bool.false_or]
      exact h
    · simp only [if_true, List.any_cons, hx, Bool.true_or]
      exact ⟨⟨fun _ => trivial, fun _ => by omega⟩, fun e => by cases e⟩
/-- an image -/
structure Im where
  c : Int
  R : Int
  cost : Int
  P : List Int
  B : List Int
  G : List Int
  l : List In
def fault (m : Im) : Int × Int :=
  if m.c < 1 ∨ 6000 < m.c ∨ m.R < 1 ∨ 40 < m.R then (13, -1)
  else if 6000 < m.P.length ∨ 6000 < m.B.length ∨ 120000 < m.G.length ∨ 200000 < m.l.length then (7, -1)
  else if ([m.P, m.B, m.G].any fun z => z.any fun x => !has m.c x 1) = true then (16, -1)
  else if 0 ≤ idx (bars m.c m.R) 0 m.l then (4, idx (bars m.c m.R) 0 m.l)
  else if m.cost ≠ cost 10 11 m.l ∨ (cost 10 11 m.l = 0 ∧ 0 < m.l.length) then (18, -1)
  else (0, 0)
end Cd
end Go.Proofs.YtkgbmgpdehmiiaaDoor
