import Derived.Test.YtfipfdpohkafaaaDoorQ12
set_option linter.unusedVariables false
set_option linter.unusedSimpArgs false
set_option maxHeartbeats 64000000
set_option maxRecDepth 100000
namespace Go.Proofs.YtfipfdpohkafaaaDoor
open Go.RowKit Go.IntWalk
set_option linter.unusedVariables false
set_option linter.unusedSimpArgs false
structure EqV where
  place : Int
  aN : Option Addr
  nN : Nat
  cN : Nat
  node : ByteArray
  aS : Option Addr
  nS : Nat
  cS : Nat
  aE : Option Addr
  nE : Nat
  cE : Nat
def EqV.cells (x : EqV) : List Value := [.int .i64 x.place, .slice x.aN x.nN x.cN, .string x.node, .slice x.aS x.nS x.cS, .slice x.aE x.nE x.cE]
/-- an equation's five cells -/
structure HEq (ok : Nat → Prop) (w : World) (x : EqV) (q : Eqn) : Prop where
  place : x.place = q.place
  names : HNames ok w (.slice x.aN x.nN x.cN) q.names
  node : x.node = q.node
  S : HSizes ok w (.slice x.aS x.nS x.cS) q.S
  E : HExs ok w (.slice x.aE x.nE x.cE) q.E
theorem HEq.keep {ok : Nat → Prop} {w w' : World} {x : EqV} {q : Eqn} (h : HEq ok w x q) (hs : w.heap.size ≤ w'.heap.size) (hk : ∀ i, ok i → i < w.heap.size → w'.heap[i]? = w.heap[i]?) : HEq ok w' x q :=
  ⟨h.place, h.names.keep hs hk, h.node, h.S.keep hs hk, h.E.keep hs hk⟩
/-- five cells of an equation at a place -/
def EqAt (w : World) (b o : Nat) (y : EqV) : Prop :=
  w.cell? ⟨b, o, none⟩ = some (.int .i64 y.place) ∧ w.cell? ⟨b, o + 1, none⟩ = some (.slice y.aN y.nN y.cN) ∧ w.cell? ⟨b, o + 2, none⟩ = some (.string y.node) ∧
  w.cell? ⟨b, o + 3, none⟩ = some (.slice y.aS y.nS y.cS) ∧ w.cell? ⟨b, o + 4, none⟩ = some (.slice y.aE y.nE y.cE)
theorem EqAt.keep {w w' : World} {b o : Nat} {y : EqV} (h : EqAt w b o y) (hb : w'.heap[b]? = w.heap[b]?) : EqAt w' b o y := by
  have hc : ∀ q, w'.cell? ⟨b, q, none⟩ = w.cell? ⟨b, q, none⟩ := fun q => World.cell?_of_block (w := w) hb
  obtain ⟨h0, h1, h2, h3, h4⟩ := h
  exact ⟨(hc _).trans h0, (hc _).trans h1, (hc _).trans h2, (hc _).trans h3, (hc _).trans h4⟩
/-- a slice of equations -/
def HEqs (ok : Nat → Prop) (w : World) (v : Value) (l : List Eqn) : Prop := ∃ C, Sl ok 5 w v l.length C ∧ ∀ i (h : i < l.length), ∃ x, C i = x.cells ∧ HEq ok w x l[i]
theorem HEqs.keep {ok : Nat → Prop} {w w' : World} {v : Value} {l : List Eqn} (h : HEqs ok w v l) (hs : w.heap.size ≤ w'.heap.size) (hk : ∀ i, ok i → i < w.heap.size → w'.heap[i]? = w.heap[i]?) : HEqs ok w' v l := by
  obtain ⟨C, h1, h2⟩ := h
  refine ⟨C, h1.keep hs hk, fun i hi => ?_⟩
  obtain ⟨x, e, hx⟩ := h2 i hi
  exact ⟨x, e, hx.keep hs hk⟩
theorem HEqs.at {ok : Nat → Prop} {w : World} {v : Value} {l : List Eqn} (h : HEqs ok w v l) :
    ∃ ao cap, v = .slice ao l.length cap ∧ l.length ≤ cap ∧ cap ≤ maxLen ∧ ∀ i (h : i < l.length), ∃ b o y, ao = some ⟨b, o, none⟩ ∧ b < w.heap.size ∧ EqAt w b (o + i * 5) y ∧ HEq ok w y l[i] := by
  obtain ⟨C, ⟨ao, cap, hv, h1, h2, h3⟩, hC⟩ := h
  refine ⟨ao, cap, hv, h1, h2, fun i hi => ?_⟩
  obtain ⟨b, o, ha, hob, hb, hc⟩ := h3 (by omega)
  obtain ⟨x, hx, hq⟩ := hC i hi
  have hcc := (hc i hi).2
  rw [hx] at hcc
  exact ⟨b, o, x, ha, hb, ⟨hcc 0 (by decide), hcc 1 (by decide), hcc 2 (by decide), hcc 3 (by decide), hcc 4 (by decide)⟩, hq⟩
end Go.Proofs.YtfipfdpohkafaaaDoor
