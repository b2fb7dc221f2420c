import Derived.Test.YtbiomnnlpafciaaDoorT02
import Derived.Deep.DeepCutAuto
set_option linter.unusedVariables false
set_option linter.unusedSimpArgs false
set_option maxHeartbeats 64000000
set_option maxRecDepth 100000
namespace Go.Proofs.YtbiomnnlpafciaaDoor
open Go.RowKit Go.IntWalk Go.Deep
set_option linter.unusedVariables false
set_option linter.unusedSimpArgs false
section
variable {H : Type} {enc : TypeId × Value → H} {w : World}
/-- what is read of type t: the cells cs, weighed -/
def Rd0 (enc : TypeId × Value → H) (w : World) (t : TypeId) (cs : List Value) : Prop :=
  ∃ fuel x, DataW.trod enc Tryd.prog w 0 (fun _ => true) true fuel t cs = some x ∧ (x.1.weights Tryd.prog t).all (· ≤ reachBytes) = true
theorem open_struct {t : TypeId} {fs : Array Field} {fuel : Nat} {cs : List Value} {x : DataW H × List MemPlace} (ht : Tryd.prog.underlying t = some (.struct fs)) (h : DataW.trod enc Tryd.prog w 0 (fun _ => true) true fuel t cs = some x) (hw : (x.1.weights Tryd.prog t).all (· ≤ reachBytes) = true) :
    ∃ n, fuel = n + 1 ∧ cs.length = Tryd.prog.cellsOf t ∧ ∀ (i : Nat) (f : Field), fs[i]? = some f → ∃ y, DataW.trod enc Tryd.prog w 0 (fun _ => true) true n f.type ((cs.drop f.offset).take (Tryd.prog.cellsOf f.type)) = some y ∧ (y.1.weights Tryd.prog f.type).all (· ≤ reachBytes) = true ∧ SizeOf.sizeOf y.1 < SizeOf.sizeOf x.1 := by
  obtain ⟨xs, n, hn, rfl, hl, hxl, hx⟩ := DataW.trod_struct ht h
  refine ⟨n, hn, hl, fun i f hf => ?_⟩
  have hi : i < fs.size := (Array.getElem?_eq_some_iff.1 hf).1
  have hxi : xs[i]? = some (xs[i]'(by omega)) := List.getElem?_eq_getElem (by omega)
  refine ⟨xs[i]'(by omega), (hx i f hf).trans hxi, ?_, ?_⟩
  rotate_left
  · have h1 : (xs[i]'(by omega)).1 ∈ xs.map (·.1) := List.mem_map.2 ⟨_, List.getElem_mem (by omega), rfl⟩
    have h2 := List.sizeOf_lt_of_mem h1
    simp only [DataW.agg.sizeOf_spec]
    omega
  rw [DataW.weights] at hw
  simp only [ht] at hw
  refine weightsEach_at _ _ hw i f.type _ ?_ (by rw [List.getElem?_map, hxi]; rfl)
  rw [List.getElem?_map]
  have : fs.toList[i]? = some f := by simpa using hf
  rw [this]
  rfl
theorem open_num {cs : List Value} {t : TypeId} {k : IntKind} (ht : Tryd.prog.underlying t = some (.int k)) (h : Rd0 enc w t cs) : ∃ n, cs = [.int k n] := by
  obtain ⟨fuel, x, h, _⟩ := h
  obtain ⟨n, hs, _⟩ := DataW.trod_int ht h
  exact ⟨n, hs⟩
theorem cells1 (t : TypeId) (h : Tryd.prog.cellsOf t = 1) (cs : List Value) (i : Nat) (v : Value) (hv : cs[i]? = some v) : (cs.drop i).take (Tryd.prog.cellsOf t) = [v] := by
  obtain ⟨hi, he⟩ := List.getElem?_eq_some_iff.1 hv
  rw [h, List.drop_eq_getElem_cons hi, List.take_succ_cons, List.take_zero, he]
/-- a field of one cell -/
theorem field_of {t : TypeId} {fs : Array Field} {cs : List Value} (ht : Tryd.prog.underlying t = some (.struct fs)) (h : Rd0 enc w t cs) (i : Nat) (ft off : Nat) (hfi : (fs[i]?).map (fun f => (f.type, f.offset)) = some (ft, off)) (hc : Tryd.prog.cellsOf ft = 1) (v : Value) (hv : cs[off]? = some v) : Rd0 enc w ft [v] := by
  obtain ⟨fuel, x, h, hw⟩ := h
  obtain ⟨n, rfl, hl, hf⟩ := open_struct ht h hw
  cases hfe : fs[i]? with
  | none => rw [hfe] at hfi; cases hfi
  | some f =>
    rw [hfe] at hfi
    simp only [Option.map_some, Option.some.injEq, Prod.mk.injEq] at hfi
    obtain ⟨y, a0, b0, _⟩ := hf i f hfe
    rw [hfi.1, hfi.2, cells1 ft hc cs off v hv] at a0
    rw [hfi.1] at b0
    exact ⟨n, y, a0, b0⟩
theorem len_of {t : TypeId} {fs : Array Field} {cs : List Value} (ht : Tryd.prog.underlying t = some (.struct fs)) (h : Rd0 enc w t cs) : cs.length = Tryd.prog.cellsOf t := by
  obtain ⟨fuel, x, h, hw⟩ := h
  obtain ⟨n, rfl, hl, hf⟩ := open_struct ht h hw
  exact hl
theorem c2 : Tryd.prog.cellsOf 2 = 1 := by kernel_rfl
theorem c3 : Tryd.prog.cellsOf 3 = 1 := by kernel_rfl
theorem c5 : Tryd.prog.cellsOf 5 = 1 := by kernel_rfl
/-- a list out of a family -/
theorem list_of {α : Type} [Inhabited α] (n : Nat) (f : Nat → α) : ∃ l : List α, l.length = n ∧ ∀ i (h : i < l.length), l[i] = f i :=
  ⟨(List.range n).map f, by simp, fun i h => by simp⟩
instance : Inhabited Tm := ⟨(0, ⟨#[]⟩)⟩
instance : Inhabited De := ⟨⟨⟨#[]⟩, 0, []⟩⟩
instance : Inhabited Ex := ⟨.mk 0 0 0 ⟨#[]⟩ [] []⟩
instance : Inhabited Eqn := ⟨⟨0, [], ⟨#[]⟩, [], []⟩⟩
instance : Inhabited Nd := ⟨⟨⟨#[]⟩, 0, [], [], [], [], []⟩⟩
end
end Go.Proofs.YtbiomnnlpafciaaDoor
namespace Go.Proofs.YtbiomnnlpafciaaDoor
open Go.RowKit Go.IntWalk
set_option linter.unusedVariables false
set_option linter.unusedSimpArgs false
theorem HNames.wide {ok ok' : Nat → Prop} {w : World} {v : Value} {l : List ByteArray} (h : HNames ok w v l) (hk : ∀ i, ok i → i < w.heap.size → ok' i) : HNames ok' w v l := by
  obtain ⟨C, h1, h2⟩ := h
  exact ⟨C, h1.wide hk, h2⟩
theorem HDes.wide {ok ok' : Nat → Prop} {w : World} {v : Value} {l : List De} (h : HDes ok w v l) (hk : ∀ i, ok i → i < w.heap.size → ok' i) : HDes ok' w v l := by
  obtain ⟨C, h1, h2⟩ := h
  refine ⟨C, h1.wide hk, fun i hi => ?_⟩
  obtain ⟨u, e, ht⟩ := h2 i hi
  exact ⟨u, e, ht.wide hk⟩
theorem HEq.wide {ok ok' : Nat → Prop} {w : World} {x : EqV} {q : Eqn} (h : HEq ok w x q) (hk : ∀ i, ok i → i < w.heap.size → ok' i) : HEq ok' w x q :=
  ⟨h.place, h.names.wide hk, h.node, h.S.wide hk, h.E.wide hk⟩
theorem HEqs.wide {ok ok' : Nat → Prop} {w : World} {v : Value} {l : List Eqn} (h : HEqs ok w v l) (hk : ∀ i, ok i → i < w.heap.size → ok' i) : HEqs ok' w v l := by
  obtain ⟨C, h1, h2⟩ := h
  refine ⟨C, h1.wide hk, fun i hi => ?_⟩
  obtain ⟨x, e, hx⟩ := h2 i hi
  exact ⟨x, e, hx.wide hk⟩
theorem HNd.wide {ok ok' : Nat → Prop} {w : World} {x : NdV} {n : Nd} (h : HNd ok w x n) (hk : ∀ i, ok i → i < w.heap.size → ok' i) : HNd ok' w x n :=
  ⟨h.name, h.place, h.sizes.wide hk, h.inn.wide hk, h.out.wide hk, h.loc.wide hk, h.eqs.wide hk⟩
end Go.Proofs.YtbiomnnlpafciaaDoor
namespace Go.Proofs.YtbiomnnlpafciaaDoor
open Go.RowKit Go.IntWalk
set_option linter.unusedVariables false
set_option linter.unusedSimpArgs false
/-- a kind of thing that lies in rows: its type, its cells, its bytes, its zero; what its cells say -/
structure Kind (α : Type) where
  ty : TypeId
  k : Nat
  bytes : Nat
  zero : Value
  E : (Nat → Prop) → World → List Value → α → Prop
  pos : 0 < k
  zs : zero.cells.size = k
  info : (Tryd.prog.info? ty).map (fun i => (i.zero, i.size, i.bytes)) = some (some zero, k, bytes)
  len : ∀ {ok w cs a}, E ok w cs a → cs.length = k
  one : ∀ {ok w cs a}, E ok w cs a → ∀ u ∈ cs, u.oneCell' = true
  keep : ∀ {ok w w' cs a}, E ok w cs a → w.heap.size ≤ w'.heap.size → (∀ i, ok i → i < w.heap.size → w'.heap[i]? = w.heap[i]?) → E ok w' cs a
  wide : ∀ {ok ok' w cs a}, E ok w cs a → (∀ i, ok i → i < w.heap.size → ok' i) → E ok' w cs a
/-- v is a row of the call's own, from block B on, that holds l -/
def OwnL {α : Type} (T : Kind α) (B : Nat) (w : World) (v : Value) (l : List α) : Prop :=
  ∃ D, w.ownsRow B T.ty T.k v l.length (flat D l.length) ∧ ∀ j (h : j < l.length), T.E (Off B v) w (D j) l[j]
/-- v is a row that holds l -/
def HRow {α : Type} (T : Kind α) (ok : Nat → Prop) (w : World) (v : Value) (l : List α) : Prop :=
  ∃ C, Sl ok T.k w v l.length C ∧ ∀ j (h : j < l.length), T.E ok w (C j) l[j]
theorem OwnL.nil {α : Type} {T : Kind α} {B : Nat} {w : World} : OwnL T B w (.slice none 0 0) [] :=
  ⟨fun _ => [], World.ownsRow_nil _ _ _ _, fun j h => absurd h (Nat.not_lt_zero _)⟩
theorem OwnL.lt {α : Type} {T : Kind α} {B : Nat} {w : World} {v : Value} {l : List α} (h : OwnL T B w v l) : ∀ k, v.ownBlock = some k → B ≤ k ∧ k < w.heap.size := by
  obtain ⟨D, h1, h2⟩ := h
  exact fun k hk => World.ownsRow.lt h1 k hk
theorem OwnL.form {α : Type} {T : Kind α} {B : Nat} {w : World} {v : Value} {l : List α} (h : OwnL T B w v l) : ∃ a c, v = .slice a l.length c ∧ l.length ≤ c ∧ c ≤ maxLen := by
  obtain ⟨D, h1, h2⟩ := h
  rcases h1.2 with ⟨rfl, h0⟩ | ⟨g, cap, cur, rfl, hb, hg, hnc, hcm, _⟩
  · exact ⟨none, 0, by rw [h0], by omega, by unfold maxLen; omega⟩
  · exact ⟨_, _, rfl, hnc, hcm⟩
theorem OwnL.keep {α : Type} {T : Kind α} {B : Nat} {w w' : World} {v : Value} {l : List α} (h : OwnL T B w v l) (hs : w.heap.size ≤ w'.heap.size) (hk : ∀ i, B ≤ i → i < w.heap.size → w'.heap[i]? = w.heap[i]?) : OwnL T B w' v l := by
  obtain ⟨D, h1, h2⟩ := h
  refine ⟨D, ⟨h1.1, ?_⟩, fun j hj => T.keep (h2 j hj) hs fun i hi hl => hk i hi.1 hl⟩
  rcases h1.2 with h0 | ⟨g, cap, cur, hv, hb, hg, hr⟩
  · exact .inl h0
  · exact .inr ⟨g, cap, cur, hv, hb, (hk g hb (lt_of hg)).trans hg, hr⟩
theorem OwnL.row {α : Type} {T : Kind α} {B : Nat} {w : World} {v : Value} {l : List α} (h : OwnL T B w v l) : HRow T (fun i => B ≤ i) w v l := by
  obtain ⟨D, h1, h2⟩ := h
  exact ⟨D, owns_sl h1 (fun i hi => T.len (h2 i hi)), fun j hj => T.wide (h2 j hj) fun i hi _ => hi.1⟩
theorem HRow.form {α : Type} {T : Kind α} {ok : Nat → Prop} {w : World} {v : Value} {l : List α} (h : HRow T ok w v l) : ∃ a c, v = .slice a l.length c ∧ l.length ≤ c ∧ c ≤ maxLen := by
  obtain ⟨C, ⟨a, c, hv, h1, h2, _⟩, _⟩ := h
  exact ⟨a, c, hv, h1, h2⟩
theorem HRow.keep {α : Type} {T : Kind α} {ok : Nat → Prop} {w w' : World} {v : Value} {l : List α} (h : HRow T ok w v l) (hs : w.heap.size ≤ w'.heap.size) (hk : ∀ i, ok i → i < w.heap.size → w'.heap[i]? = w.heap[i]?) : HRow T ok w' v l := by
  obtain ⟨C, h1, h2⟩ := h
  exact ⟨C, h1.keep hs hk, fun j hj => T.keep (h2 j hj) hs hk⟩
theorem HRow.wide {α : Type} {T : Kind α} {ok ok' : Nat → Prop} {w : World} {v : Value} {l : List α} (h : HRow T ok w v l) (hk : ∀ i, ok i → i < w.heap.size → ok' i) : HRow T ok' w v l := by
  obtain ⟨C, h1, h2⟩ := h
  exact ⟨C, h1.wide hk, fun j hj => T.wide (h2 j hj) hk⟩
theorem cells_new (w : World) (cs : List Value) (t : TypeId) : ∀ j u, cs[j]? = some u → (w.alloc (.cells cs.toArray t (0, 0))).cell? ((⟨w.heap.size, 0, none⟩ : Addr).add j) = some u := by
  intro j u hj
  have hn := heap_new w (.cells cs.toArray t (0, 0))
  have adds : (⟨w.heap.size, 0, none⟩ : Addr).add j = ⟨w.heap.size, j, none⟩ := by unfold Addr.add; split <;> simp_all
  rw [adds, cell_of hn]
  simpa using hj
/-! ### The kinds -/
theorem HTerms.slice {ok : Nat → Prop} {w : World} {v : Value} {l : List Tm} (h : HTerms ok w v l) : ∃ a n c, v = .slice a n c := by
  obtain ⟨C, ⟨a, c, hv, _⟩, _⟩ := h
  exact ⟨a, _, c, hv⟩
end Go.Proofs.YtbiomnnlpafciaaDoor
