import Derived.Test.YtkgbmgpdehmiiaaDoorY00
import Derived.Deep.QuietTactic
import Derived.BigQuiet
import Derived.Deep.LoopGhost
import Derived.Deep.RegionWith
set_option linter.unusedVariables false
set_option linter.unusedSimpArgs false
set_option maxHeartbeats 64000000
set_option maxRecDepth 100000
namespace Go.Proofs.YtkgbmgpdehmiiaaDoor
open Go.RowKit Go.IntWalk
set_option linter.unusedVariables false
set_option linter.unusedSimpArgs false
/-- a term of a size; a size is a list of them -/
abbrev Tm := Int × ByteArray
inductive Ex where
  | mk (op k n : Int) (name : ByteArray) (S : List (List Tm)) (L : List Ex)
structure De where
  name : ByteArray
  elem : Int
  n : List Tm
structure Eqn where
  place : Int
  names : List ByteArray
  node : ByteArray
  S : List (List Tm)
  E : List Ex
structure Nd where
  name : ByteArray
  place : Int
  sizes : List ByteArray
  inn : List De
  out : List De
  loc : List De
  eqs : List Eqn
def Ex.op : Ex → Int | .mk o _ _ _ _ _ => o
def Ex.k : Ex → Int | .mk _ k _ _ _ _ => k
def Ex.n : Ex → Int | .mk _ _ n _ _ _ => n
def Ex.name : Ex → ByteArray | .mk _ _ _ s _ _ => s
def Ex.S : Ex → List (List Tm) | .mk _ _ _ _ S _ => S
def Ex.L : Ex → List Ex | .mk _ _ _ _ _ L => L
/-- A slice of n things of k cells each: thing i has the cells C i. All of it lies in blocks that 'ok' lets by. -/
def Sl (ok : Nat → Prop) (k : Nat) (w : World) (v : Value) (n : Nat) (C : Nat → List Value) : Prop :=
  ∃ ao cap, v = .slice ao n cap ∧ n ≤ cap ∧ cap ≤ maxLen ∧
    (0 < n → ∃ b o, ao = some ⟨b, o, none⟩ ∧ ok b ∧ b < w.heap.size ∧ ∀ i, i < n → (C i).length = k ∧ ∀ j, j < k → w.cell? ⟨b, o + i * k + j, none⟩ = (C i)[j]?)
theorem Sl.keep {ok : Nat → Prop} {k : Nat} {w w' : World} {v : Value} {n : Nat} {C : Nat → List Value} (h : Sl ok k w v n C)
    (hs : w.heap.size ≤ w'.heap.size) (hk : ∀ i, ok i → i < w.heap.size → w'.heap[i]? = w.heap[i]?) : Sl ok k w' v n C := by
  obtain ⟨ao, cap, hv, h1, h2, h3⟩ := h
  refine ⟨ao, cap, hv, h1, h2, fun hn => ?_⟩
  obtain ⟨b, o, ha, hob, hb, hc⟩ := h3 hn
  refine ⟨b, o, ha, hob, Nat.lt_of_lt_of_le hb hs, fun i hi => ⟨(hc i hi).1, fun j hj => ?_⟩⟩
  rw [← (hc i hi).2 j hj]
  exact World.cell?_of_block (w := w) (hk b hob hb)
theorem Sl.wide {ok ok' : Nat → Prop} {k : Nat} {w : World} {v : Value} {n : Nat} {C : Nat → List Value} (h : Sl ok k w v n C) (hk : ∀ i, ok i → i < w.heap.size → ok' i) : Sl ok' k w v n C := by
  obtain ⟨ao, cap, hv, h1, h2, h3⟩ := h
  refine ⟨ao, cap, hv, h1, h2, fun hn => ?_⟩
  obtain ⟨b, o, ha, hob, hb, hc⟩ := h3 hn
  exact ⟨b, o, ha, hk b hob hb, hb, hc⟩
theorem Sl.nil {ok : Nat → Prop} {k : Nat} {w : World} {C : Nat → List Value} : Sl ok k w (.slice none 0 0) 0 C := ⟨none, 0, rfl, Nat.le_refl _, Nat.zero_le _, fun h => absurd h (Nat.lt_irrefl _)⟩
/-- .. of strings, of terms, of sizes -/
def HNames (ok : Nat → Prop) (w : World) (v : Value) (l : List ByteArray) : Prop := ∃ C, Sl ok 1 w v l.length C ∧ ∀ i (h : i < l.length), C i = [.string l[i]]
def HTerms (ok : Nat → Prop) (w : World) (v : Value) (l : List Tm) : Prop := ∃ C, Sl ok 2 w v l.length C ∧ ∀ i (h : i < l.length), C i = [.int .i64 (l[i]).1, .string (l[i]).2]
def HSizes (ok : Nat → Prop) (w : World) (v : Value) (l : List (List Tm)) : Prop := ∃ C, Sl ok 1 w v l.length C ∧ ∀ i (h : i < l.length), ∃ u, C i = [u] ∧ HTerms ok w u l[i]
/-- .. an expression's six cells -/
inductive HEx (ok : Nat → Prop) (w : World) : List Value → Ex → Prop
  | mk {op k n : Int} {name : ByteArray} {S : List (List Tm)} {L : List Ex} {vS vL : Value} (C : Nat → List Value)
      (hS : HSizes ok w vS S) (hL : Sl ok 6 w vL L.length C) (hE : ∀ i (h : i < L.length), HEx ok w (C i) L[i]) :
      HEx ok w [.int .i64 op, .int .i64 k, .int .i64 n, .string name, vS, vL] (.mk op k n name S L)
theorem HNames.keep {ok : Nat → Prop} {w w' : World} {v : Value} {l : List ByteArray} (h : HNames ok w v l) (hs : w.heap.size ≤ w'.heap.size) (hk : ∀ i, ok i → i < w.heap.size → w'.heap[i]? = w.heap[i]?) : HNames ok w' v l := by
  obtain ⟨C, h1, h2⟩ := h
  exact ⟨C, h1.keep hs hk, h2⟩
theorem HTerms.keep {ok : Nat → Prop} {w w' : World} {v : Value} {l : List Tm} (h : HTerms ok w v l) (hs : w.heap.size ≤ w'.heap.size) (hk : ∀ i, ok i → i < w.heap.size → w'.heap[i]? = w.heap[i]?) : HTerms ok w' v l := by
  obtain ⟨C, h1, h2⟩ := h
  exact ⟨C, h1.keep hs hk, h2⟩
theorem HSizes.keep {ok : Nat → Prop} {w w' : World} {v : Value} {l : List (List Tm)} (h : HSizes ok w v l) (hs : w.heap.size ≤ w'.heap.size) (hk : ∀ i, ok i → i < w.heap.size → w'.heap[i]? = w.heap[i]?) : HSizes ok w' v l := by
  obtain ⟨C, h1, h2⟩ := h
  refine ⟨C, h1.keep hs hk, fun i hi => ?_⟩
  obtain ⟨u, e, ht⟩ := h2 i hi
  exact ⟨u, e, ht.keep hs hk⟩
theorem HEx.keep {ok : Nat → Prop} {w w' : World} {cs : List Value} {e : Ex} (h : HEx ok w cs e) (hs : w.heap.size ≤ w'.heap.size) (hk : ∀ i, ok i → i < w.heap.size → w'.heap[i]? = w.heap[i]?) : HEx ok w' cs e := by
  induction h with
  | mk C hS hL hE ih => exact .mk C (hS.keep hs hk) (hL.keep hs hk) ih
theorem HTerms.wide {ok ok' : Nat → Prop} {w : World} {v : Value} {l : List Tm} (h : HTerms ok w v l) (hk : ∀ i, ok i → i < w.heap.size → ok' i) : HTerms ok' w v l := by
  obtain ⟨C, h1, h2⟩ := h
  exact ⟨C, h1.wide hk, h2⟩
theorem HSizes.wide {ok ok' : Nat → Prop} {w : World} {v : Value} {l : List (List Tm)} (h : HSizes ok w v l) (hk : ∀ i, ok i → i < w.heap.size → ok' i) : HSizes ok' w v l := by
  obtain ⟨C, h1, h2⟩ := h
  refine ⟨C, h1.wide hk, fun i hi => ?_⟩
  obtain ⟨u, e, ht⟩ := h2 i hi
  exact ⟨u, e, ht.wide hk⟩
theorem HEx.wide {ok ok' : Nat → Prop} {w : World} {cs : List Value} {e : Ex} (h : HEx ok w cs e) (hk : ∀ i, ok i → i < w.heap.size → ok' i) : HEx ok' w cs e := by
  induction h with
  | mk C hS hL hE ih => exact .mk C (hS.wide hk) (hL.wide hk) ih
theorem HEx.aside {S : List Nat} {w w' : World} {cs : List Value} {e : Ex} (h : HEx (· ∉ S) w cs e) (a : Aside S w.heap.size w w') : HEx (· ∉ S) w' cs e := h.keep a.size fun i hi hl => a.block i hl hi
theorem HEx.under {ok : Nat → Prop} {w w' : World} {cs : List Value} {e : Ex} (h : HEx ok w cs e) (a : Below w.heap.size w w') : HEx ok w' cs e := h.keep a.size fun i _ hl => a.block i hl
theorem HEx.set {ok : Nat → Prop} {w : World} {cs : List Value} {e : Ex} (h : HEx ok w cs e) {p : Addr} (hp : ¬ ok p.block) (u : Value) : HEx ok (w.setCell p u) cs e :=
  h.keep (by simp [World.setCell]) fun i hi hl => Below.heap_setCell _ _ _ _ (fun e => hp (e ▸ hi))
/-- an expression's value -/
structure ExV where
  op : Int
  k : Int
  n : Int
  name : ByteArray
  aS : Option Addr
  nS : Nat
  cS : Nat
  aL : Option Addr
  nL : Nat
  cL : Nat
def ExV.cells (x : ExV) : List Value := [.int .i64 x.op, .int .i64 x.k, .int .i64 x.n, .string x.name, .slice x.aS x.nS x.cS, .slice x.aL x.nL x.cL]
theorem HEx.toV {ok : Nat → Prop} {w : World} {cs : List Value} {e : Ex} (h : HEx ok w cs e) : ∃ x : ExV, cs = x.cells ∧ HEx ok w x.cells e := by
  have h0 := h
  cases h with
  | @mk op k n name S L vS vL C hS hL hE =>
    obtain ⟨CS, ⟨aS, cS, rfl, _⟩, _⟩ := hS
    obtain ⟨aL, cL, rfl, _⟩ := hL
    exact ⟨⟨op, k, n, name, aS, S.length, cS, aL, L.length, cL⟩, rfl, h0⟩
end Go.Proofs.YtkgbmgpdehmiiaaDoor
namespace Go.Proofs.YtkgbmgpdehmiiaaDoor
open Go.RowKit Go.IntWalk
set_option linter.unusedVariables false
set_option linter.unusedSimpArgs false
/-- two lists, part by part -/
def eqL {α : Type} (f : α → α → Bool) : List α → List α → Bool
  | [], [] => true
  | a :: l, b :: r => f a b && eqL f l r
  | _, _ => false
theorem eqL_len {α : Type} {f : α → α → Bool} : ∀ {l r : List α}, l.length ≠ r.length → eqL f l r = false
  | [], [], h => by simp at h
  | [], _ :: _, _ => rfl
  | _ :: _, [], _ => rfl
  | a :: l, b :: r, h => by
    have : eqL f l r = false := eqL_len (by simpa using h)
    simp [eqL, this]
theorem eqL_all {α : Type} {f : α → α → Bool} : ∀ {l r : List α}, l.length = r.length → (∀ i (h : i < l.length) (h' : i < r.length), f l[i] r[i] = true) → eqL f l r = true
  | [], [], _, _ => rfl
  | [], _ :: _, h, _ => by simp at h
  | _ :: _, [], h, _ => by simp at h
  | a :: l, b :: r, h, hf => by
    have h1 := hf 0 (by simp) (by simp)
    have h2 : eqL f l r = true := eqL_all (by simpa using h) (fun i hi hi' => hf (i + 1) (by simpa using hi) (by simpa using hi'))
    simp at h1
    simp [eqL, h1, h2]
theorem eqL_bad {α : Type} {f : α → α → Bool} : ∀ {l r : List α} (i : Nat) (h : i < l.length) (h' : i < r.length), f l[i] r[i] = false → eqL f l r = false
  | [], _, i, h, _, _ => by simp at h
  | _ :: _, [], i, _, h', _ => by simp at h'
  | a :: l, b :: r, 0, _, _, hf => by simp at hf; simp [eqL, hf]
  | a :: l, b :: r, i + 1, h, h', hf => by
    have : eqL f l r = false := eqL_bad i (by simpa using h) (by simpa using h') (by simpa using hf)
    simp [eqL, this]
theorem HNames.at {ok : Nat → Prop} {w : World} {v : Value} {l : List ByteArray} (h : HNames ok w v l) :
    ∃ ao cap, v = .slice ao l.length cap ∧ l.length ≤ cap ∧ cap ≤ maxLen ∧ ∀ i (h : i < l.length), ∃ b o, ao = some ⟨b, o, none⟩ ∧ b < w.heap.size ∧ w.cell? ⟨b, o + i, none⟩ = some (.string l[i]) := by
  obtain ⟨C, ⟨ao, cap, hv, h1, h2, h3⟩, hC⟩ := h
  refine ⟨ao, cap, hv, h1, h2, fun i hi => ?_⟩
  obtain ⟨b, o, ha, hob, hb, hc⟩ := h3 (by omega)
  have := (hc i hi).2 0 (by decide)
  rw [hC i hi] at this
  exact ⟨b, o, ha, hb, by simpa using this⟩
theorem HTerms.at {ok : Nat → Prop} {w : World} {v : Value} {l : List Tm} (h : HTerms ok w v l) :
    ∃ ao cap, v = .slice ao l.length cap ∧ l.length ≤ cap ∧ cap ≤ maxLen ∧ ∀ i (h : i < l.length), ∃ b o, ao = some ⟨b, o, none⟩ ∧ b < w.heap.size ∧ w.cell? ⟨b, o + i * 2, none⟩ = some (.int .i64 (l[i]).1) ∧ w.cell? ⟨b, o + i * 2 + 1, none⟩ = some (.string (l[i]).2) := by
  obtain ⟨C, ⟨ao, cap, hv, h1, h2, h3⟩, hC⟩ := h
  refine ⟨ao, cap, hv, h1, h2, fun i hi => ?_⟩
  obtain ⟨b, o, ha, hob, hb, hc⟩ := h3 (by omega)
  have t0 := (hc i hi).2 0 (by decide)
  have t1 := (hc i hi).2 1 (by decide)
  rw [hC i hi] at t0 t1
  exact ⟨b, o, ha, hb, by simpa using t0, by simpa using t1⟩
end Go.Proofs.YtkgbmgpdehmiiaaDoor
namespace Go.Proofs.YtkgbmgpdehmiiaaDoor
open Go.RowKit Go.IntWalk
set_option linter.unusedVariables false
set_option linter.unusedSimpArgs false
theorem HSizes.at {ok : Nat → Prop} {w : World} {v : Value} {l : List (List Tm)} (h : HSizes ok w v l) :
    ∃ ao cap, v = .slice ao l.length cap ∧ l.length ≤ cap ∧ cap ≤ maxLen ∧ ∀ i (h : i < l.length), ∃ b o au nu cu, ao = some ⟨b, o, none⟩ ∧ b < w.heap.size ∧ w.cell? ⟨b, o + i, none⟩ = some (.slice au nu cu) ∧ HTerms ok w (.slice au nu cu) l[i] := by
  obtain ⟨C, ⟨ao, cap, hv, h1, h2, h3⟩, hC⟩ := h
  refine ⟨ao, cap, hv, h1, h2, fun i hi => ?_⟩
  obtain ⟨b, o, ha, hob, hb, hc⟩ := h3 (by omega)
  have := (hc i hi).2 0 (by decide)
  obtain ⟨u, hu, ht⟩ := hC i hi
  rw [hu] at this
  have ht0 := ht
  obtain ⟨_, ⟨au, cu, rfl, _⟩, _⟩ := ht0
  exact ⟨b, o, au, _, cu, ha, hb, by simpa using this, ht⟩
theorem HTerms.under {ok : Nat → Prop} {w w' : World} {v : Value} {l : List Tm} (h : HTerms ok w v l) (a : Below w.heap.size w w') : HTerms ok w' v l := h.keep a.size fun i _ hl => a.block i hl
theorem HSizes.under {ok : Nat → Prop} {w w' : World} {v : Value} {l : List (List Tm)} (h : HSizes ok w v l) (a : Below w.heap.size w w') : HSizes ok w' v l := h.keep a.size fun i _ hl => a.block i hl
theorem HNames.under {ok : Nat → Prop} {w w' : World} {v : Value} {l : List ByteArray} (h : HNames ok w v l) (a : Below w.heap.size w w') : HNames ok w' v l := h.keep a.size fun i _ hl => a.block i hl
end Go.Proofs.YtkgbmgpdehmiiaaDoor
namespace Go.Proofs.YtkgbmgpdehmiiaaDoor
open Go.RowKit Go.IntWalk
set_option linter.unusedVariables false
set_option linter.unusedSimpArgs false
/-- a slice of declarations -/
def HDes (ok : Nat → Prop) (w : World) (v : Value) (l : List De) : Prop := ∃ C, Sl ok 3 w v l.length C ∧ ∀ i (h : i < l.length), ∃ u, C i = [.string (l[i]).name, .int .u8 (l[i]).elem, u] ∧ HTerms ok w u (l[i]).n
theorem HDes.keep {ok : Nat → Prop} {w w' : World} {v : Value} {l : List De} (h : HDes ok w v l) (hs : w.heap.size ≤ w'.heap.size) (hk : ∀ i, ok i → i < w.heap.size → w'.heap[i]? = w.heap[i]?) : HDes ok w' v l := by
  obtain ⟨C, h1, h2⟩ := h
  refine ⟨C, h1.keep hs hk, fun i hi => ?_⟩
  obtain ⟨u, e, ht⟩ := h2 i hi
  exact ⟨u, e, ht.keep hs hk⟩
theorem HDes.under {ok : Nat → Prop} {w w' : World} {v : Value} {l : List De} (h : HDes ok w v l) (a : Below w.heap.size w w') : HDes ok w' v l := h.keep a.size fun i _ hl => a.block i hl
theorem HTerms.form {ok : Nat → Prop} {w : World} {v : Value} {l : List Tm} (h : HTerms ok w v l) : ∃ a n c, v = .slice a n c := by
  obtain ⟨_, ⟨au, cu, rfl, _⟩, _⟩ := h
  exact ⟨_, _, _, rfl⟩
theorem HDes.at {ok : Nat → Prop} {w : World} {v : Value} {l : List De} (h : HDes ok w v l) :
    ∃ ao cap, v = .slice ao l.length cap ∧ l.length ≤ cap ∧ cap ≤ maxLen ∧ ∀ i (h : i < l.length), ∃ b o au nu cu, ao = some ⟨b, o, none⟩ ∧ b < w.heap.size ∧ w.cell? ⟨b, o + i * 3, none⟩ = some (.string (l[i]).name) ∧ w.cell? ⟨b, o + i * 3 + 1, none⟩ = some (.int .u8 (l[i]).elem) ∧ w.cell? ⟨b, o + i * 3 + 2, none⟩ = some (.slice au nu cu) ∧ HTerms ok w (.slice au nu cu) (l[i]).n := by
  obtain ⟨C, ⟨ao, cap, hv, h1, h2, h3⟩, hC⟩ := h
  refine ⟨ao, cap, hv, h1, h2, fun i hi => ?_⟩
  obtain ⟨b, o, ha, hob, hb, hc⟩ := h3 (by omega)
  obtain ⟨u, hu, ht⟩ := hC i hi
  have t0 := (hc i hi).2 0 (by decide)
  have t1 := (hc i hi).2 1 (by decide)
  have t2 := (hc i hi).2 2 (by decide)
  rw [hu] at t0 t1 t2
  obtain ⟨au, nu, cu, rfl⟩ := ht.form
  exact ⟨b, o, au, nu, cu, ha, hb, by simpa using t0, by simpa using t1, by simpa using t2, ht⟩
end Go.Proofs.YtkgbmgpdehmiiaaDoor
