import Derived.Test.YtkgbmgpdehmiiaaDoorV03
import Derived.Deep.RegionWith
import Derived.Deep.LoopGhost
set_option linter.unusedVariables false
set_option linter.unusedSimpArgs false
set_option maxHeartbeats 64000000
set_option maxRecDepth 100000
namespace Go.Proofs.YtkgbmgpdehmiiaaDoor
open Go.RowKit Go.IntWalk
set_option linter.unusedVariables false
set_option linter.unusedSimpArgs false
/-- six cells of an expression at a place -/
def ExAt (w : World) (b o : Nat) (y : ExV) : Prop :=
  w.cell? ⟨b, o, none⟩ = some (.int .i64 y.op) ∧ w.cell? ⟨b, o + 1, none⟩ = some (.int .i64 y.k) ∧ w.cell? ⟨b, o + 2, none⟩ = some (.int .i64 y.n) ∧
  w.cell? ⟨b, o + 3, none⟩ = some (.string y.name) ∧ w.cell? ⟨b, o + 4, none⟩ = some (.slice y.aS y.nS y.cS) ∧ w.cell? ⟨b, o + 5, none⟩ = some (.slice y.aL y.nL y.cL)
theorem ExAt.keep {w w' : World} {b o : Nat} {y : ExV} (h : ExAt w b o y) (hb : w'.heap[b]? = w.heap[b]?) : ExAt w' b o y := by
  have hc : ∀ q, w'.cell? ⟨b, q, none⟩ = w.cell? ⟨b, q, none⟩ := fun q => World.cell?_of_block (w := w) hb
  obtain ⟨h0, h1, h2, h3, h4, h5⟩ := h
  exact ⟨(hc _).trans h0, (hc _).trans h1, (hc _).trans h2, (hc _).trans h3, (hc _).trans h4, (hc _).trans h5⟩
theorem Sl.exAt {ok : Nat → Prop} {w : World} {v : Value} {L : List Ex} {C : Nat → List Value} (hL : Sl ok 6 w v L.length C) (hE : ∀ i (h : i < L.length), HEx ok w (C i) L[i]) :
    ∃ ao cap, v = .slice ao L.length cap ∧ L.length ≤ cap ∧ cap ≤ maxLen ∧ ∀ i (h : i < L.length), ∃ b o y, ao = some ⟨b, o, none⟩ ∧ ok b ∧ b < w.heap.size ∧ ExAt w b (o + i * 6) y ∧ HEx ok w y.cells L[i] := by
  obtain ⟨ao, cap, hv, h1, h2, h3⟩ := hL
  refine ⟨ao, cap, hv, h1, h2, fun i hi => ?_⟩
  obtain ⟨b, o, ha, hob, hb, hc⟩ := h3 (by omega)
  obtain ⟨y, hy, hex⟩ := (hE i hi).toV
  have hcc := (hc i hi).2
  rw [hy] at hcc
  exact ⟨b, o, y, ha, hob, hb, ⟨hcc 0 (by decide), hcc 1 (by decide), hcc 2 (by decide), hcc 3 (by decide), hcc 4 (by decide), hcc 5 (by decide)⟩, hex⟩
end Go.Proofs.YtkgbmgpdehmiiaaDoor
namespace Go.Proofs.YtkgbmgpdehmiiaaDoor
open Go.RowKit Go.IntWalk
set_option linter.unusedVariables false
set_option linter.unusedSimpArgs false
/-- a slice of expressions -/
def HExs (ok : Nat → Prop) (w : World) (v : Value) (L : List Ex) : Prop := ∃ C, Sl ok 6 w v L.length C ∧ ∀ i (h : i < L.length), HEx ok w (C i) L[i]
theorem HExs.keep {ok : Nat → Prop} {w w' : World} {v : Value} {l : List Ex} (h : HExs ok w v l) (hs : w.heap.size ≤ w'.heap.size) (hk : ∀ i, ok i → i < w.heap.size → w'.heap[i]? = w.heap[i]?) : HExs ok w' v l := by
  obtain ⟨C, h1, h2⟩ := h
  exact ⟨C, h1.keep hs hk, fun i hi => (h2 i hi).keep hs hk⟩
theorem HExs.under {ok : Nat → Prop} {w w' : World} {v : Value} {l : List Ex} (h : HExs ok w v l) (a : Below w.heap.size w w') : HExs ok w' v l := h.keep a.size fun i _ hl => a.block i hl
theorem HExs.at {ok : Nat → Prop} {w : World} {v : Value} {L : List Ex} (h : HExs ok w v L) :
    ∃ ao cap, v = .slice ao L.length cap ∧ L.length ≤ cap ∧ cap ≤ maxLen ∧ ∀ i (h : i < L.length), ∃ b o y, ao = some ⟨b, o, none⟩ ∧ ok b ∧ b < w.heap.size ∧ ExAt w b (o + i * 6) y ∧ HEx ok w y.cells L[i] := by
  obtain ⟨C, h1, h2⟩ := h
  exact h1.exAt h2
end Go.Proofs.YtkgbmgpdehmiiaaDoor
namespace Go.Proofs.YtkgbmgpdehmiiaaDoor
open Go.RowKit Go.IntWalk
set_option linter.unusedVariables false
set_option linter.unusedSimpArgs false
structure EqV where
  place : Int
  aN : Option Addr
  nN : Nat
  cN : Nat
  node : ByteArray
  aS : Option Addr
  nS : Nat
  cS : Nat
  aE : Option Addr
  nE : Nat
  cE : Nat
def EqV.cells (x : EqV) : List Value := [.int .i64 x.place, .slice x.aN x.nN x.cN, .string x.node, .slice x.aS x.nS x.cS, .slice x.aE x.nE x.cE]
/-- an equation's five cells -/
structure HEq (ok : Nat → Prop) (w : World) (x : EqV) (q : Eqn) : Prop where
  place : x.place = q.place
  names : HNames ok w (.slice x.aN x.nN x.cN) q.names
  node : x.node = q.node
  S : HSizes ok w (.slice x.aS x.nS x.cS) q.S
  E : HExs ok w (.slice x.aE x.nE x.cE) q.E
theorem HEq.keep {ok : Nat → Prop} {w w' : World} {x : EqV} {q : Eqn} (h : HEq ok w x q) (hs : w.heap.size ≤ w'.heap.size) (hk : ∀ i, ok i → i < w.heap.size → w'.heap[i]? = w.heap[i]?) : HEq ok w' x q :=
  ⟨h.place, h.names.keep hs hk, h.node, h.S.keep hs hk, h.E.keep hs hk⟩
theorem HEq.under {ok : Nat → Prop} {w w' : World} {x : EqV} {q : Eqn} (h : HEq ok w x q) (a : Below w.heap.size w w') : HEq ok w' x q := h.keep a.size fun i _ hl => a.block i hl
/-- five cells of an equation at a place -/
def EqAt (w : World) (b o : Nat) (y : EqV) : Prop :=
  w.cell? ⟨b, o, none⟩ = some (.int .i64 y.place) ∧ w.cell? ⟨b, o + 1, none⟩ = some (.slice y.aN y.nN y.cN) ∧ w.cell? ⟨b, o + 2, none⟩ = some (.string y.node) ∧
  w.cell? ⟨b, o + 3, none⟩ = some (.slice y.aS y.nS y.cS) ∧ w.cell? ⟨b, o + 4, none⟩ = some (.slice y.aE y.nE y.cE)
theorem EqAt.keep {w w' : World} {b o : Nat} {y : EqV} (h : EqAt w b o y) (hb : w'.heap[b]? = w.heap[b]?) : EqAt w' b o y := by
  have hc : ∀ q, w'.cell? ⟨b, q, none⟩ = w.cell? ⟨b, q, none⟩ := fun q => World.cell?_of_block (w := w) hb
  obtain ⟨h0, h1, h2, h3, h4⟩ := h
  exact ⟨(hc _).trans h0, (hc _).trans h1, (hc _).trans h2, (hc _).trans h3, (hc _).trans h4⟩
/-- a slice of equations -/
def HEqs (ok : Nat → Prop) (w : World) (v : Value) (l : List Eqn) : Prop := ∃ C, Sl ok 5 w v l.length C ∧ ∀ i (h : i < l.length), ∃ x, C i = x.cells ∧ HEq ok w x l[i]
theorem HEqs.keep {ok : Nat → Prop} {w w' : World} {v : Value} {l : List Eqn} (h : HEqs ok w v l) (hs : w.heap.size ≤ w'.heap.size) (hk : ∀ i, ok i → i < w.heap.size → w'.heap[i]? = w.heap[i]?) : HEqs ok w' v l := by
  obtain ⟨C, h1, h2⟩ := h
  refine ⟨C, h1.keep hs hk, fun i hi => ?_⟩
  obtain ⟨x, e, hx⟩ := h2 i hi
  exact ⟨x, e, hx.keep hs hk⟩
theorem HEqs.under {ok : Nat → Prop} {w w' : World} {v : Value} {l : List Eqn} (h : HEqs ok w v l) (a : Below w.heap.size w w') : HEqs ok w' v l := h.keep a.size fun i _ hl => a.block i hl
theorem HEqs.at {ok : Nat → Prop} {w : World} {v : Value} {l : List Eqn} (h : HEqs ok w v l) :
    ∃ ao cap, v = .slice ao l.length cap ∧ l.length ≤ cap ∧ cap ≤ maxLen ∧ ∀ i (h : i < l.length), ∃ b o y, ao = some ⟨b, o, none⟩ ∧ b < w.heap.size ∧ EqAt w b (o + i * 5) y ∧ HEq ok w y l[i] := by
  obtain ⟨C, ⟨ao, cap, hv, h1, h2, h3⟩, hC⟩ := h
  refine ⟨ao, cap, hv, h1, h2, fun i hi => ?_⟩
  obtain ⟨b, o, ha, hob, hb, hc⟩ := h3 (by omega)
  obtain ⟨x, hx, hq⟩ := hC i hi
  have hcc := (hc i hi).2
  rw [hx] at hcc
  exact ⟨b, o, x, ha, hb, ⟨hcc 0 (by decide), hcc 1 (by decide), hcc 2 (by decide), hcc 3 (by decide), hcc 4 (by decide)⟩, hq⟩
end Go.Proofs.YtkgbmgpdehmiiaaDoor
namespace Go.Proofs.YtkgbmgpdehmiiaaDoor
open Go.RowKit Go.IntWalk
set_option linter.unusedVariables false
set_option linter.unusedSimpArgs false
structure NdV where
  name : ByteArray
  place : Int
  a2 : Option Addr
  n2 : Nat
  c2 : Nat
  a3 : Option Addr
  n3 : Nat
  c3 : Nat
  a4 : Option Addr
  n4 : Nat
  c4 : Nat
  a5 : Option Addr
  n5 : Nat
  c5 : Nat
  a6 : Option Addr
  n6 : Nat
  c6 : Nat
def NdV.cells (x : NdV) : List Value := [.string x.name, .int .i64 x.place, .slice x.a2 x.n2 x.c2, .slice x.a3 x.n3 x.c3, .slice x.a4 x.n4 x.c4, .slice x.a5 x.n5 x.c5, .slice x.a6 x.n6 x.c6]
/-- a node's seven cells -/
structure HNd (ok : Nat → Prop) (w : World) (x : NdV) (n : Nd) : Prop where
  name : x.name = n.name
  place : x.place = n.place
  sizes : HNames ok w (.slice x.a2 x.n2 x.c2) n.sizes
  inn : HDes ok w (.slice x.a3 x.n3 x.c3) n.inn
  out : HDes ok w (.slice x.a4 x.n4 x.c4) n.out
  loc : HDes ok w (.slice x.a5 x.n5 x.c5) n.loc
  eqs : HEqs ok w (.slice x.a6 x.n6 x.c6) n.eqs
theorem HNd.keep {ok : Nat → Prop} {w w' : World} {x : NdV} {n : Nd} (h : HNd ok w x n) (hs : w.heap.size ≤ w'.heap.size) (hk : ∀ i, ok i → i < w.heap.size → w'.heap[i]? = w.heap[i]?) : HNd ok w' x n :=
  ⟨h.name, h.place, h.sizes.keep hs hk, h.inn.keep hs hk, h.out.keep hs hk, h.loc.keep hs hk, h.eqs.keep hs hk⟩
theorem HNd.under {ok : Nat → Prop} {w w' : World} {x : NdV} {n : Nd} (h : HNd ok w x n) (a : Below w.heap.size w w') : HNd ok w' x n := h.keep a.size fun i _ hl => a.block i hl
/-- seven cells of a node at a place -/
def NdAt (w : World) (b o : Nat) (y : NdV) : Prop :=
  w.cell? ⟨b, o, none⟩ = some (.string y.name) ∧ w.cell? ⟨b, o + 1, none⟩ = some (.int .i64 y.place) ∧ w.cell? ⟨b, o + 2, none⟩ = some (.slice y.a2 y.n2 y.c2) ∧ w.cell? ⟨b, o + 3, none⟩ = some (.slice y.a3 y.n3 y.c3) ∧
  w.cell? ⟨b, o + 4, none⟩ = some (.slice y.a4 y.n4 y.c4) ∧ w.cell? ⟨b, o + 5, none⟩ = some (.slice y.a5 y.n5 y.c5) ∧ w.cell? ⟨b, o + 6, none⟩ = some (.slice y.a6 y.n6 y.c6)
theorem NdAt.keep {w w' : World} {b o : Nat} {y : NdV} (h : NdAt w b o y) (hb : w'.heap[b]? = w.heap[b]?) : NdAt w' b o y := by
  have hc : ∀ q, w'.cell? ⟨b, q, none⟩ = w.cell? ⟨b, q, none⟩ := fun q => World.cell?_of_block (w := w) hb
  obtain ⟨h0, h1, h2, h3, h4, h5, h6⟩ := h
  exact ⟨(hc _).trans h0, (hc _).trans h1, (hc _).trans h2, (hc _).trans h3, (hc _).trans h4, (hc _).trans h5, (hc _).trans h6⟩
/-- a slice of nodes -/
def HNds (ok : Nat → Prop) (w : World) (v : Value) (l : List Nd) : Prop := ∃ C, Sl ok 7 w v l.length C ∧ ∀ i (h : i < l.length), ∃ x, C i = x.cells ∧ HNd ok w x l[i]
theorem HNds.keep {ok : Nat → Prop} {w w' : World} {v : Value} {l : List Nd} (h : HNds ok w v l) (hs : w.heap.size ≤ w'.heap.size) (hk : ∀ i, ok i → i < w.heap.size → w'.heap[i]? = w.heap[i]?) : HNds ok w' v l := by
  obtain ⟨C, h1, h2⟩ := h
  refine ⟨C, h1.keep hs hk, fun i hi => ?_⟩
  obtain ⟨x, e, hx⟩ := h2 i hi
  exact ⟨x, e, hx.keep hs hk⟩
theorem HNds.under {ok : Nat → Prop} {w w' : World} {v : Value} {l : List Nd} (h : HNds ok w v l) (a : Below w.heap.size w w') : HNds ok w' v l := h.keep a.size fun i _ hl => a.block i hl
theorem HNds.at {ok : Nat → Prop} {w : World} {v : Value} {l : List Nd} (h : HNds ok w v l) :
    ∃ ao cap, v = .slice ao l.length cap ∧ l.length ≤ cap ∧ cap ≤ maxLen ∧ ∀ i (h : i < l.length), ∃ b o y, ao = some ⟨b, o, none⟩ ∧ b < w.heap.size ∧ NdAt w b (o + i * 7) y ∧ HNd ok w y l[i] := by
  obtain ⟨C, ⟨ao, cap, hv, h1, h2, h3⟩, hC⟩ := h
  refine ⟨ao, cap, hv, h1, h2, fun i hi => ?_⟩
  obtain ⟨b, o, ha, hob, hb, hc⟩ := h3 (by omega)
  obtain ⟨x, hx, hq⟩ := hC i hi
  have hcc := (hc i hi).2
  rw [hx] at hcc
  exact ⟨b, o, x, ha, hb, ⟨hcc 0 (by decide), hcc 1 (by decide), hcc 2 (by decide), hcc 3 (by decide), hcc 4 (by decide), hcc 5 (by decide), hcc 6 (by decide)⟩, hq⟩
end Go.Proofs.YtkgbmgpdehmiiaaDoor
