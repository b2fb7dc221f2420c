import Derived.Test.YtfipfdpohkafaaaDoorQ20
import Derived.Test.YtfipfdpohkafaaaDoorQ16
import Derived.Test.YtfipfdpohkafaaaDoorQ15
set_option linter.unusedVariables false
set_option linter.unusedSimpArgs false
set_option maxHeartbeats 64000000
set_option maxRecDepth 100000
namespace Go.Proofs.YtfipfdpohkafaaaDoor
open Go.RowKit Go.IntWalk
set_option linter.unusedVariables false
set_option linter.unusedSimpArgs false
/-- a kind of thing that lies in rows: its type, its cells, its bytes, its zero; what its cells say -/
structure Kind (α : Type) where
  ty : TypeId
  k : Nat
  bytes : Nat
  zero : Value
  E : (Nat → Prop) → World → List Value → α → Prop
  pos : 0 < k
  zs : zero.cells.size = k
  info : (Tryd.prog.info? ty).map (fun i => (i.zero, i.size, i.bytes)) = some (some zero, k, bytes)
  len : ∀ {ok w cs a}, E ok w cs a → cs.length = k
  one : ∀ {ok w cs a}, E ok w cs a → ∀ u ∈ cs, u.oneCell' = true
  keep : ∀ {ok w w' cs a}, E ok w cs a → w.heap.size ≤ w'.heap.size → (∀ i, ok i → i < w.heap.size → w'.heap[i]? = w.heap[i]?) → E ok w' cs a
  wide : ∀ {ok ok' w cs a}, E ok w cs a → (∀ i, ok i → i < w.heap.size → ok' i) → E ok' w cs a
/-- v is a row of the call's own, from block B on, that holds l -/
def OwnL {α : Type} (T : Kind α) (B : Nat) (w : World) (v : Value) (l : List α) : Prop :=
  ∃ D, w.ownsRow B T.ty T.k v l.length (flat D l.length) ∧ ∀ j (h : j < l.length), T.E (Off B v) w (D j) l[j]
/-- v is a row that holds l -/
def HRow {α : Type} (T : Kind α) (ok : Nat → Prop) (w : World) (v : Value) (l : List α) : Prop :=
  ∃ C, Sl ok T.k w v l.length C ∧ ∀ j (h : j < l.length), T.E ok w (C j) l[j]
theorem OwnL.lt {α : Type} {T : Kind α} {B : Nat} {w : World} {v : Value} {l : List α} (h : OwnL T B w v l) : ∀ k, v.ownBlock = some k → B ≤ k ∧ k < w.heap.size := by
  obtain ⟨D, h1, h2⟩ := h
  exact fun k hk => World.ownsRow.lt h1 k hk
theorem OwnL.form {α : Type} {T : Kind α} {B : Nat} {w : World} {v : Value} {l : List α} (h : OwnL T B w v l) : ∃ a c, v = .slice a l.length c ∧ l.length ≤ c ∧ c ≤ maxLen := by
  obtain ⟨D, h1, h2⟩ := h
  rcases h1.2 with ⟨rfl, h0⟩ | ⟨g, cap, cur, rfl, hb, hg, hnc, hcm, _⟩
  · exact ⟨none, 0, by rw [h0], by omega, by unfold maxLen; omega⟩
  · exact ⟨_, _, rfl, hnc, hcm⟩
theorem OwnL.keep {α : Type} {T : Kind α} {B : Nat} {w w' : World} {v : Value} {l : List α} (h : OwnL T B w v l) (hs : w.heap.size ≤ w'.heap.size) (hk : ∀ i, B ≤ i → i < w.heap.size → w'.heap[i]? = w.heap[i]?) : OwnL T B w' v l := by
  obtain ⟨D, h1, h2⟩ := h
  refine ⟨D, ⟨h1.1, ?_⟩, fun j hj => T.keep (h2 j hj) hs fun i hi hl => hk i hi.1 hl⟩
  rcases h1.2 with h0 | ⟨g, cap, cur, hv, hb, hg, hr⟩
  · exact .inl h0
  · exact .inr ⟨g, cap, cur, hv, hb, (hk g hb (lt_of hg)).trans hg, hr⟩
theorem OwnL.below {α : Type} {T : Kind α} {B : Nat} {w w' : World} {v : Value} {l : List α} (h : OwnL T B w v l) (hb : Below w.heap.size w w') : OwnL T B w' v l := h.keep hb.size fun i _ hl => hb.block i hl
theorem OwnL.row {α : Type} {T : Kind α} {B : Nat} {w : World} {v : Value} {l : List α} (h : OwnL T B w v l) : HRow T (fun i => B ≤ i) w v l := by
  obtain ⟨D, h1, h2⟩ := h
  exact ⟨D, owns_sl h1 (fun i hi => T.len (h2 i hi)), fun j hj => T.wide (h2 j hj) fun i hi _ => hi.1⟩
theorem HRow.form {α : Type} {T : Kind α} {ok : Nat → Prop} {w : World} {v : Value} {l : List α} (h : HRow T ok w v l) : ∃ a c, v = .slice a l.length c ∧ l.length ≤ c ∧ c ≤ maxLen := by
  obtain ⟨C, ⟨a, c, hv, h1, h2, _⟩, _⟩ := h
  exact ⟨a, c, hv, h1, h2⟩
theorem HRow.keep {α : Type} {T : Kind α} {ok : Nat → Prop} {w w' : World} {v : Value} {l : List α} (h : HRow T ok w v l) (hs : w.heap.size ≤ w'.heap.size) (hk : ∀ i, ok i → i < w.heap.size → w'.heap[i]? = w.heap[i]?) : HRow T ok w' v l := by
  obtain ⟨C, h1, h2⟩ := h
  exact ⟨C, h1.keep hs hk, fun j hj => T.keep (h2 j hj) hs hk⟩
theorem HRow.wide {α : Type} {T : Kind α} {ok ok' : Nat → Prop} {w : World} {v : Value} {l : List α} (h : HRow T ok w v l) (hk : ∀ i, ok i → i < w.heap.size → ok' i) : HRow T ok' w v l := by
  obtain ⟨C, h1, h2⟩ := h
  exact ⟨C, h1.wide hk, fun j hj => T.wide (h2 j hj) hk⟩
/-! ### The kinds -/
theorem HTerms.slice {ok : Nat → Prop} {w : World} {v : Value} {l : List Tm} (h : HTerms ok w v l) : ∃ a n c, v = .slice a n c := by
  obtain ⟨C, ⟨a, c, hv, _⟩, _⟩ := h
  exact ⟨a, _, c, hv⟩
end Go.Proofs.YtfipfdpohkafaaaDoor
