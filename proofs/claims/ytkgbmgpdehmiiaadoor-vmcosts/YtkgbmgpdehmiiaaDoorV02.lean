import Derived.Test.YtkgbmgpdehmiiaaDoorV01
set_option linter.unusedVariables false
set_option linter.unusedSimpArgs false
set_option maxHeartbeats 64000000
set_option maxRecDepth 100000
namespace Go.Proofs.YtkgbmgpdehmiiaaDoor
open Go.RowKit Go.IntWalk
set_option linter.unusedVariables false
set_option linter.unusedSimpArgs false
/-- a term of a size; a size is a list of them -/
abbrev Tm := Int × ByteArray
inductive Ex where
  | mk (op k n : Int) (name : ByteArray) (S : List (List Tm)) (L : List Ex)
structure De where
  name : ByteArray
  elem : Int
  n : List Tm
structure Eqn where
  place : Int
  names : List ByteArray
  node : ByteArray
  S : List (List Tm)
  E : List Ex
structure Nd where
  name : ByteArray
  place : Int
  sizes : List ByteArray
  inn : List De
  out : List De
  loc : List De
  eqs : List Eqn
def Ex.op : Ex → Int | .mk o _ _ _ _ _ => o
def Ex.k : Ex → Int | .mk _ k _ _ _ _ => k
def Ex.n : Ex → Int | .mk _ _ n _ _ _ => n
def Ex.name : Ex → ByteArray | .mk _ _ _ s _ _ => s
def Ex.S : Ex → List (List Tm) | .mk _ _ _ _ S _ => S
def Ex.L : Ex → List Ex | .mk _ _ _ _ _ L => L
/-- A slice of n things of k cells each: thing i has the cells C i. All of it lies in blocks that 'ok' lets by. -/
def Sl (ok : Nat → Prop) (k : Nat) (w : World) (v : Value) (n : Nat) (C : Nat → List Value) : Prop :=
  ∃ ao cap, v = .slice ao n cap ∧ n ≤ cap ∧ cap ≤ maxLen ∧
    (0 < n → ∃ b o, ao = some ⟨b, o, none⟩ ∧ ok b ∧ b < w.heap.size ∧ ∀ i, i < n → (C i).length = k ∧ ∀ j, j < k → w.cell? ⟨b, o + i * k + j, none⟩ = (C i)[j]?)
theorem Sl.keep {ok : Nat → Prop} {k : Nat} {w w' : World} {v : Value} {n : Nat} {C : Nat → List Value} (h : Sl ok k w v n C)
    (hs : w.heap.size ≤ w'.heap.size) (hk : ∀ i, ok i → i < w.heap.size → w'.heap[i]? = w.heap[i]?) : Sl ok k w' v n C := by
  obtain ⟨ao, cap, hv, h1, h2, h3⟩ := h
  refine ⟨ao, cap, hv, h1, h2, fun hn => ?_⟩
  obtain ⟨b, o, ha, hob, hb, hc⟩ := h3 hn
  refine ⟨b, o, ha, hob, Nat.lt_of_lt_of_le hb hs, fun i hi => ⟨(hc i hi).1, fun j hj => ?_⟩⟩
  rw [← (hc i hi).2 j hj]
  exact World.cell?_of_block (w := w) (hk b hob hb)
theorem Sl.wide {ok ok' : Nat → Prop} {k : Nat} {w : World} {v : Value} {n : Nat} {C : Nat → List Value} (h : Sl ok k w v n C) (hk : ∀ i, ok i → i < w.heap.size → ok' i) : Sl ok' k w v n C := by
  obtain ⟨ao, cap, hv, h1, h2, h3⟩ := h
  refine ⟨ao, cap, hv, h1, h2, fun hn => ?_⟩
  obtain ⟨b, o, ha, hob, hb, hc⟩ := h3 hn
  exact ⟨b, o, ha, hk b hob hb, hb, hc⟩
theorem Sl.nil {ok : Nat → Prop} {k : Nat} {w : World} {C : Nat → List Value} : Sl ok k w (.slice none 0 0) 0 C := ⟨none, 0, rfl, Nat.le_refl _, Nat.zero_le _, fun h => absurd h (Nat.lt_irrefl _)⟩
/-- .. of strings, of terms, of sizes -/
def HNames (ok : Nat → Prop) (w : World) (v : Value) (l : List ByteArray) : Prop := ∃ C, Sl ok 1 w v l.length C ∧ ∀ i (h : i < l.length), C i = [.string l[i]]
def HTerms (ok : Nat → Prop) (w : World) (v : Value) (l : List Tm) : Prop := ∃ C, Sl ok 2 w v l.length C ∧ ∀ i (h : i < l.length), C i = [.int .i64 (l[i]).1, .string (l[i]).2]
def HSizes (ok : Nat → Prop) (w : World) (v : Value) (l : List (List Tm)) : Prop := ∃ C, Sl ok 1 w v l.length C ∧ ∀ i (h : i < l.length), ∃ u, C i = [u] ∧ HTerms ok w u l[i]
/-- .. an expression's six cells -/
inductive HEx (ok : Nat → Prop) (w : World) : List Value → Ex → Prop
  | mk {op k n : Int} {name : ByteArray} {S : List (List Tm)} {L : List Ex} {vS vL : Value} (C : Nat → List Value)
      (hS : HSizes ok w vS S) (hL : Sl ok 6 w vL L.length C) (hE : ∀ i (h : i < L.length), HEx ok w (C i) L[i]) :
      HEx ok w [.int .i64 op, .int .i64 k, .int .i64 n, .string name, vS, vL] (.mk op k n name S L)
theorem HNames.keep {ok : Nat → Prop} {w w' : World} {v : Value} {l : List ByteArray} (h : HNames ok w v l) (hs : w.heap.size ≤ w'.heap.size) (hk : ∀ i, ok i → i < w.heap.size → w'.heap[i]? = w.heap[i]?) : HNames ok w' v l := by
  obtain ⟨C, h1, h2⟩ := h
  exact ⟨C, h1.keep hs hk, h2⟩
theorem HTerms.keep {ok : Nat → Prop} {w w' : World} {v : Value} {l : List Tm} (h : HTerms ok w v l) (hs : w.heap.size ≤ w'.heap.size) (hk : ∀ i, ok i → i < w.heap.size → w'.heap[i]? = w.heap[i]?) : HTerms ok w' v l := by
  obtain ⟨C, h1, h2⟩ := h
  exact ⟨C, h1.keep hs hk, h2⟩
theorem HSizes.keep {ok : Nat → Prop} {w w' : World} {v : Value} {l : List (List Tm)} (h : HSizes ok w v l) (hs : w.heap.size ≤ w'.heap.size) (hk : ∀ i, ok i → i < w.heap.size → w'.heap[i]? = w.heap[i]?) : HSizes ok w' v l := by
  obtain ⟨C, h1, h2⟩ := h
  refine ⟨C, h1.keep hs hk, fun i hi => ?_⟩
  obtain ⟨u, e, ht⟩ := h2 i hi
  exact ⟨u, e, ht.keep hs hk⟩
theorem HEx.keep {ok : Nat → Prop} {w w' : World} {cs : List Value} {e : Ex} (h : HEx ok w cs e) (hs : w.heap.size ≤ w'.heap.size) (hk : ∀ i, ok i → i < w.heap.size → w'.heap[i]? = w.heap[i]?) : HEx ok w' cs e := by
  induction h with
  | mk C hS hL hE ih => exact .mk C (hS.keep hs hk) (hL.keep hs hk) ih
theorem HTerms.wide {ok ok' : Nat → Prop} {w : World} {v : Value} {l : List Tm} (h : HTerms ok w v l) (hk : ∀ i, ok i → i < w.heap.size → ok' i) : HTerms ok' w v l := by
  obtain ⟨C, h1, h2⟩ := h
  exact ⟨C, h1.wide hk, h2⟩
theorem HSizes.wide {ok ok' : Nat → Prop} {w : World} {v : Value} {l : List (List Tm)} (h : HSizes ok w v l) (hk : ∀ i, ok i → i < w.heap.size → ok' i) : HSizes ok' w v l := by
  obtain ⟨C, h1, h2⟩ := h
  refine ⟨C, h1.wide hk, fun i hi => ?_⟩
  obtain ⟨u, e, ht⟩ := h2 i hi
  exact ⟨u, e, ht.wide hk⟩
theorem HEx.wide {ok ok' : Nat → Prop} {w : World} {cs : List Value} {e : Ex} (h : HEx ok w cs e) (hk : ∀ i, ok i → i < w.heap.size → ok' i) : HEx ok' w cs e := by
  induction h with
  | mk C hS hL hE ih => exact .mk C (hS.wide hk) (hL.wide hk) ih
theorem HEx.aside {S : List Nat} {w w' : World} {cs : List Value} {e : Ex} (h : HEx (· ∉ S) w cs e) (a : Aside S w.heap.size w w') : HEx (· ∉ S) w' cs e := h.keep a.size fun i hi hl => a.block i hl hi
theorem HEx.under {ok : Nat → Prop} {w w' : World} {cs : List Value} {e : Ex} (h : HEx ok w cs e) (a : Below w.heap.size w w') : HEx ok w' cs e := h.keep a.size fun i _ hl => a.block i hl
theorem HEx.set {ok : Nat → Prop} {w : World} {cs : List Value} {e : Ex} (h : HEx ok w cs e) {p : Addr} (hp : ¬ ok p.block) (u : Value) : HEx ok (w.setCell p u) cs e :=
  h.keep (by simp [World.setCell]) fun i hi hl => Below.heap_setCell _ _ _ _ (fun e => hp (e ▸ hi))
/-- an expression's value -/
structure ExV where
  op : Int
  k : Int
  n : Int
  name : ByteArray
  aS : Option Addr
  nS : Nat
  cS : Nat
  aL : Option Addr
  nL : Nat
  cL : Nat
def ExV.cells (x : ExV) : List Value := [.int .i64 x.op, .int .i64 x.k, .int .i64 x.n, .string x.name, .slice x.aS x.nS x.cS, .slice x.aL x.nL x.cL]
theorem HEx.toV {ok : Nat → Prop} {w : World} {cs : List Value} {e : Ex} (h : HEx ok w cs e) : ∃ x : ExV, cs = x.cells ∧ HEx ok w x.cells e := by
  have h0 := h
  cases h with
  | @mk op k n name S L vS vL C hS hL hE =>
    obtain ⟨CS, ⟨aS, cS, rfl, _⟩, _⟩ := hS
    obtain ⟨aL, cL, rfl, _⟩ := hL
    exact ⟨⟨op, k, n, name, aS, S.length, cS, aL, L.length, cL⟩, rfl, h0⟩
end Go.Proofs.YtkgbmgpdehmiiaaDoor
