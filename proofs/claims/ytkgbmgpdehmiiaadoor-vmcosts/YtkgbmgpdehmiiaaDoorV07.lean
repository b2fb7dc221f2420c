import Derived.Test.YtkgbmgpdehmiiaaDoorV06
import Derived.Deep.DeepCutAuto
set_option linter.unusedVariables false
set_option linter.unusedSimpArgs false
set_option maxHeartbeats 64000000
set_option maxRecDepth 100000
namespace Go.Proofs.YtkgbmgpdehmiiaaDoor
open Go.RowKit Go.IntWalk Go.Deep
set_option linter.unusedVariables false
set_option linter.unusedSimpArgs false
section
variable {H : Type} {enc : TypeId × Value → H} {w : World}
/-- what is read of type t: the cells cs, weighed -/
def Rd0 (enc : TypeId × Value → H) (w : World) (t : TypeId) (cs : List Value) : Prop :=
  ∃ fuel x, DataW.trod enc Tryd.prog w 0 (fun _ => true) true fuel t cs = some x ∧ (x.1.weights Tryd.prog t).all (· ≤ reachBytes) = true
theorem open_struct {t : TypeId} {fs : Array Field} {fuel : Nat} {cs : List Value} {x : DataW H × List MemPlace} (ht : Tryd.prog.underlying t = some (.struct fs)) (h : DataW.trod enc Tryd.prog w 0 (fun _ => true) true fuel t cs = some x) (hw : (x.1.weights Tryd.prog t).all (· ≤ reachBytes) = true) :
    ∃ n, fuel = n + 1 ∧ cs.length = Tryd.prog.cellsOf t ∧ ∀ (i : Nat) (f : Field), fs[i]? = some f → ∃ y, DataW.trod enc Tryd.prog w 0 (fun _ => true) true n f.type ((cs.drop f.offset).take (Tryd.prog.cellsOf f.type)) = some y ∧ (y.1.weights Tryd.prog f.type).all (· ≤ reachBytes) = true ∧ SizeOf.sizeOf y.1 < SizeOf.sizeOf x.1 := by
  obtain ⟨xs, n, hn, rfl, hl, hxl, hx⟩ := DataW.trod_struct ht h
  refine ⟨n, hn, hl, fun i f hf => ?_⟩
  have hi : i < fs.size := (Array.getElem?_eq_some_iff.1 hf).1
  have hxi : xs[i]? = some (xs[i]'(by omega)) := List.getElem?_eq_getElem (by omega)
  refine ⟨xs[i]'(by omega), (hx i f hf).trans hxi, ?_, ?_⟩
  rotate_left
  · have h1 : (xs[i]'(by omega)).1 ∈ xs.map (·.1) := List.mem_map.2 ⟨_, List.getElem_mem (by omega), rfl⟩
    have h2 := List.sizeOf_lt_of_mem h1
    simp only [DataW.agg.sizeOf_spec]
    omega
  rw [DataW.weights] at hw
  simp only [ht] at hw
  refine weightsEach_at _ _ hw i f.type _ ?_ (by rw [List.getElem?_map, hxi]; rfl)
  rw [List.getElem?_map]
  have : fs.toList[i]? = some f := by simpa using hf
  rw [this]
  rfl
theorem open_num {cs : List Value} {t : TypeId} {k : IntKind} (ht : Tryd.prog.underlying t = some (.int k)) (h : Rd0 enc w t cs) : ∃ n, cs = [.int k n] := by
  obtain ⟨fuel, x, h, _⟩ := h
  obtain ⟨n, hs, _⟩ := DataW.trod_int ht h
  exact ⟨n, hs⟩
theorem cells1 (t : TypeId) (h : Tryd.prog.cellsOf t = 1) (cs : List Value) (i : Nat) (v : Value) (hv : cs[i]? = some v) : (cs.drop i).take (Tryd.prog.cellsOf t) = [v] := by
  obtain ⟨hi, he⟩ := List.getElem?_eq_some_iff.1 hv
  rw [h, List.drop_eq_getElem_cons hi, List.take_succ_cons, List.take_zero, he]
/-- a field of one cell -/
theorem field_of {t : TypeId} {fs : Array Field} {cs : List Value} (ht : Tryd.prog.underlying t = some (.struct fs)) (h : Rd0 enc w t cs) (i : Nat) (ft off : Nat) (hfi : (fs[i]?).map (fun f => (f.type, f.offset)) = some (ft, off)) (hc : Tryd.prog.cellsOf ft = 1) (v : Value) (hv : cs[off]? = some v) : Rd0 enc w ft [v] := by
  obtain ⟨fuel, x, h, hw⟩ := h
  obtain ⟨n, rfl, hl, hf⟩ := open_struct ht h hw
  cases hfe : fs[i]? with
  | none => rw [hfe] at hfi; cases hfi
  | some f =>
    rw [hfe] at hfi
    simp only [Option.map_some, Option.some.injEq, Prod.mk.injEq] at hfi
    obtain ⟨y, a0, b0, _⟩ := hf i f hfe
    rw [hfi.1, hfi.2, cells1 ft hc cs off v hv] at a0
    rw [hfi.1] at b0
    exact ⟨n, y, a0, b0⟩
theorem len_of {t : TypeId} {fs : Array Field} {cs : List Value} (ht : Tryd.prog.underlying t = some (.struct fs)) (h : Rd0 enc w t cs) : cs.length = Tryd.prog.cellsOf t := by
  obtain ⟨fuel, x, h, hw⟩ := h
  obtain ⟨n, rfl, hl, hf⟩ := open_struct ht h hw
  exact hl
theorem c2 : Tryd.prog.cellsOf 2 = 1 := by kernel_rfl
theorem c3 : Tryd.prog.cellsOf 3 = 1 := by kernel_rfl
theorem c5 : Tryd.prog.cellsOf 5 = 1 := by kernel_rfl
/-- a list out of a family -/
theorem list_of {α : Type} [Inhabited α] (n : Nat) (f : Nat → α) : ∃ l : List α, l.length = n ∧ ∀ i (h : i < l.length), l[i] = f i :=
  ⟨(List.range n).map f, by simp, fun i h => by simp⟩
instance : Inhabited Tm := ⟨(0, ⟨#[]⟩)⟩
instance : Inhabited De := ⟨⟨⟨#[]⟩, 0, []⟩⟩
instance : Inhabited Ex := ⟨.mk 0 0 0 ⟨#[]⟩ [] []⟩
instance : Inhabited Eqn := ⟨⟨0, [], ⟨#[]⟩, [], []⟩⟩
instance : Inhabited Nd := ⟨⟨⟨#[]⟩, 0, [], [], [], [], []⟩⟩
end
end Go.Proofs.YtkgbmgpdehmiiaaDoor
namespace Go.Proofs.YtkgbmgpdehmiiaaDoor
open Go.RowKit Go.IntWalk
set_option linter.unusedVariables false
set_option linter.unusedSimpArgs false
theorem HNames.wide {ok ok' : Nat → Prop} {w : World} {v : Value} {l : List ByteArray} (h : HNames ok w v l) (hk : ∀ i, ok i → i < w.heap.size → ok' i) : HNames ok' w v l := by
  obtain ⟨C, h1, h2⟩ := h
  exact ⟨C, h1.wide hk, h2⟩
theorem HDes.wide {ok ok' : Nat → Prop} {w : World} {v : Value} {l : List De} (h : HDes ok w v l) (hk : ∀ i, ok i → i < w.heap.size → ok' i) : HDes ok' w v l := by
  obtain ⟨C, h1, h2⟩ := h
  refine ⟨C, h1.wide hk, fun i hi => ?_⟩
  obtain ⟨u, e, ht⟩ := h2 i hi
  exact ⟨u, e, ht.wide hk⟩
theorem HNames.set {ok : Nat → Prop} {w : World} {v : Value} {l : List ByteArray} (h : HNames ok w v l) {p : Addr} (hp : ¬ ok p.block) (u : Value) : HNames ok (w.setCell p u) v l :=
  h.keep (by simp [World.setCell]) fun i hi hl => Below.heap_setCell _ _ _ _ (fun e => hp (e ▸ hi))
theorem HDes.set {ok : Nat → Prop} {w : World} {v : Value} {l : List De} (h : HDes ok w v l) {p : Addr} (hp : ¬ ok p.block) (u : Value) : HDes ok (w.setCell p u) v l :=
  h.keep (by simp [World.setCell]) fun i hi hl => Below.heap_setCell _ _ _ _ (fun e => hp (e ▸ hi))
theorem HEq.wide {ok ok' : Nat → Prop} {w : World} {x : EqV} {q : Eqn} (h : HEq ok w x q) (hk : ∀ i, ok i → i < w.heap.size → ok' i) : HEq ok' w x q :=
  ⟨h.place, h.names.wide hk, h.node, h.S.wide hk, h.E.wide hk⟩
theorem HEqs.wide {ok ok' : Nat → Prop} {w : World} {v : Value} {l : List Eqn} (h : HEqs ok w v l) (hk : ∀ i, ok i → i < w.heap.size → ok' i) : HEqs ok' w v l := by
  obtain ⟨C, h1, h2⟩ := h
  refine ⟨C, h1.wide hk, fun i hi => ?_⟩
  obtain ⟨x, e, hx⟩ := h2 i hi
  exact ⟨x, e, hx.wide hk⟩
theorem HEqs.set {ok : Nat → Prop} {w : World} {v : Value} {l : List Eqn} (h : HEqs ok w v l) {p : Addr} (hp : ¬ ok p.block) (u : Value) : HEqs ok (w.setCell p u) v l :=
  h.keep (by simp [World.setCell]) fun i hi hl => Below.heap_setCell _ _ _ _ (fun e => hp (e ▸ hi))
theorem HNd.wide {ok ok' : Nat → Prop} {w : World} {x : NdV} {n : Nd} (h : HNd ok w x n) (hk : ∀ i, ok i → i < w.heap.size → ok' i) : HNd ok' w x n :=
  ⟨h.name, h.place, h.sizes.wide hk, h.inn.wide hk, h.out.wide hk, h.loc.wide hk, h.eqs.wide hk⟩
theorem HNd.set {ok : Nat → Prop} {w : World} {x : NdV} {n : Nd} (h : HNd ok w x n) {p : Addr} (hp : ¬ ok p.block) (u : Value) : HNd ok (w.setCell p u) x n :=
  h.keep (by simp [World.setCell]) fun i hi hl => Below.heap_setCell _ _ _ _ (fun e => hp (e ▸ hi))
end Go.Proofs.YtkgbmgpdehmiiaaDoor
