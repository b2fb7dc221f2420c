import Derived.Test.YtkgbmgpdehmiiaaDoorY02
import Derived.Deep.Slices
import GoSem.ClaimJoined
import Derived.Deep.DeepCutAuto
set_option linter.unusedVariables false
set_option linter.unusedSimpArgs false
set_option maxHeartbeats 64000000
set_option maxRecDepth 100000
namespace Go.Proofs.YtkgbmgpdehmiiaaDoor
open Go.RowKit Go.IntWalk
set_option linter.unusedVariables false
set_option linter.unusedSimpArgs false
/-- the row that v is, or a new block -/
def Moved (W : World) (v v' : Value) : Prop := v'.ownBlock = v.ownBlock ∨ ∃ k, v'.ownBlock = some k ∧ W.heap.size ≤ k
/-- what lies from B on, but not in v's row -/
def Off (B : Nat) (v : Value) (k : Nat) : Prop := B ≤ k ∧ some k ≠ v.ownBlock
theorem Off.moved {B : Nat} {W : World} {v v' : Value} (h : Moved W v v') {k : Nat} (hk : Off B v k) (hl : k < W.heap.size) : Off B v' k := by
  refine ⟨hk.1, fun e => ?_⟩
  rcases h with h | ⟨q, hq, hz⟩
  · exact hk.2 (e.trans h)
  · rw [hq] at e
    injection e with e
    omega
theorem grown_keep {B : Nat} {W W' : World} {v : Value} (h : W.grownBy W' v.ownBlock) : ∀ k, Off B v k → k < W.heap.size → W'.heap[k]? = W.heap[k]? := fun k hk hl => h.block k hl hk.2
theorem Below.push {B : Nat} {w W W' : World} {v : Value} {e : TypeId} {size n : Nat} {xs : List Value} (hb : Below B w W) (hB : B ≤ W.heap.size) (ho : W.ownsRow B e size v n xs) (hg : W.grownBy W' v.ownBlock) : Below B w W' :=
  hb.grown hg hB (fun k hk => (World.ownsRow.lt ho k hk).1)
end Go.Proofs.YtkgbmgpdehmiiaaDoor
namespace Go.Proofs.YtkgbmgpdehmiiaaDoor
open Go.RowKit Go.IntWalk
set_option linter.unusedVariables false
set_option linter.unusedSimpArgs false
theorem HTerms.set {ok : Nat → Prop} {w : World} {v : Value} {l : List Tm} (h : HTerms ok w v l) {p : Addr} (hp : ¬ ok p.block) (u : Value) : HTerms ok (w.setCell p u) v l :=
  h.keep (by simp [World.setCell]) fun i hi hl => Below.heap_setCell _ _ _ _ (fun e => hp (e ▸ hi))
end Go.Proofs.YtkgbmgpdehmiiaaDoor
namespace Go.Proofs.YtkgbmgpdehmiiaaDoor
open Go.RowKit Go.IntWalk
set_option linter.unusedVariables false
set_option linter.unusedSimpArgs false
theorem HExs.wide {ok ok' : Nat → Prop} {w : World} {v : Value} {l : List Ex} (h : HExs ok w v l) (hk : ∀ i, ok i → i < w.heap.size → ok' i) : HExs ok' w v l := by
  obtain ⟨C, h1, h2⟩ := h
  exact ⟨C, h1.wide hk, fun i hi => (h2 i hi).wide hk⟩
theorem HSizes.set {ok : Nat → Prop} {w : World} {v : Value} {l : List (List Tm)} (h : HSizes ok w v l) {p : Addr} (hp : ¬ ok p.block) (u : Value) : HSizes ok (w.setCell p u) v l :=
  h.keep (by simp [World.setCell]) fun i hi hl => Below.heap_setCell _ _ _ _ (fun e => hp (e ▸ hi))
theorem HExs.set {ok : Nat → Prop} {w : World} {v : Value} {l : List Ex} (h : HExs ok w v l) {p : Addr} (hp : ¬ ok p.block) (u : Value) : HExs ok (w.setCell p u) v l :=
  h.keep (by simp [World.setCell]) fun i hi hl => Below.heap_setCell _ _ _ _ (fun e => hp (e ▸ hi))
end Go.Proofs.YtkgbmgpdehmiiaaDoor
namespace Go.Proofs.YtkgbmgpdehmiiaaDoor
open Go.RowKit Go.IntWalk Go.Deep
set_option linter.unusedVariables false
set_option linter.unusedSimpArgs false
section
variable {H : Type} {enc : TypeId × Value → H} {w : World}
theorem all_append {l r : List Nat} (h : (l ++ r).all (· ≤ reachBytes) = true) : l.all (· ≤ reachBytes) = true ∧ r.all (· ≤ reachBytes) = true := by
  simpa [List.all_append] using h
theorem weightsAll_at {P : Program} {e : TypeId} : ∀ (l : List (DataW H)) (h : (DataW.weightsAll P e l).all (· ≤ reachBytes) = true) (i : Nat) (hi : i < l.length), ((l[i]).weights P e).all (· ≤ reachBytes) = true
  | [], _, i, hi => by simp at hi
  | d :: l, h, 0, _ => by rw [DataW.weightsAll] at h; exact (all_append h).1
  | d :: l, h, i + 1, hi => by rw [DataW.weightsAll] at h; exact weightsAll_at l (all_append h).2 i (by simpa using hi)
theorem weightsEach_at {P : Program} : ∀ (ts : List TypeId) (l : List (DataW H)) (h : (DataW.weightsEach P ts l).all (· ≤ reachBytes) = true) (i : Nat) (t : TypeId) (d : DataW H), ts[i]? = some t → l[i]? = some d → (d.weights P t).all (· ≤ reachBytes) = true
  | [], _, _, i, _, _, h1, _ => by simp at h1
  | _ :: _, [], _, i, _, _, _, h2 => by simp at h2
  | a :: ts, d :: l, h, 0, _, _, h1, h2 => by
    rw [DataW.weightsEach] at h
    simp at h1 h2
    subst h1 h2
    exact (all_append h).1
  | a :: ts, d :: l, h, i + 1, t, x, h1, h2 => by
    rw [DataW.weightsEach] at h
    exact weightsEach_at ts l (all_append h).2 i t x (by simpa using h1) (by simpa using h2)
theorem add_none {a : Addr} (h : a.spot = none) (q : Nat) : a.add q = ⟨a.block, a.off + q, none⟩ := by
  obtain ⟨b, o, s⟩ := a
  simp only at h
  subst h
  unfold Addr.add
  split <;> simp_all
theorem spot_none {w : World} {a : Addr} {v : Value} (h : w.cell? a = some v) : a.spot = none ∧ a.block < w.heap.size := by
  unfold World.cell? at h
  split at h
  · rename_i hh
    refine ⟨?_, (Array.getElem?_eq_some_iff.1 hh).1⟩
    cases hs : a.spot with
    | none => rfl
    | some s => rw [hs] at h; simp at h
  · cases h
theorem open_row {t e : TypeId} {k bytes fuel : Nat} {cs : List Value} {x : DataW H × List MemPlace} (ht : Tryd.prog.underlying t = some (.slice e)) (hk : Tryd.prog.cellsOf e = k) (hk0 : 0 < k) (hby : Tryd.prog.bytesOf e = bytes)
    (h : DataW.trod enc Tryd.prog w 0 (fun _ => true) true fuel t cs = some x) (hw : (x.1.weights Tryd.prog t).all (· ≤ reachBytes) = true) :
    ∃ (a : Option Addr) (n c : Nat) (C : Nat → List Value) (m : Nat) (D : Nat → DataW H) (Pl : Nat → List MemPlace), cs = [.slice a n c] ∧ Sl (fun _ => True) k w (.slice a n c) n C ∧ n * bytes ≤ 140737488355328 ∧
      ∀ i, i < n → DataW.trod enc Tryd.prog w 0 (fun _ => true) true m e (C i) = some (D i, Pl i) ∧ ((D i).weights Tryd.prog e).all (· ≤ reachBytes) = true ∧ SizeOf.sizeOf (D i) < SizeOf.sizeOf x.1 := by
  rcases open_slice ht h with ⟨rfl, rfl⟩ | ⟨a, len, cap, m, n, D, Pl, rfl, _, hlc, hcm, hm, rfl, hx⟩
  · exact ⟨none, 0, 0, fun _ => [], 0, fun _ => .nil, fun _ => [], rfl, Sl.nil, by omega, fun i hi => absurd hi (Nat.not_lt_zero _)⟩
  · simp only [if_true] at hm
    subst hm
    rw [DataW.weights] at hw
    simp only [ht] at hw
    rw [List.all_cons, Bool.and_eq_true] at hw
    obtain ⟨hw1, hw2⟩ := hw
    have hwe := (all_append hw2).1
    simp only [List.length_map, List.length_range, hby, decide_eq_true_eq, reachBytes] at hw1
    rw [hk] at hx
    obtain ⟨C, hC⟩ := choose_lt (α := List Value) (p := fun i cs' => w.cells? 0 (a.add (i * k)) k = some cs' ∧ DataW.trod enc Tryd.prog w 0 (fun _ => true) true n e cs' = some (D i, Pl i)) hx
    refine ⟨some a, len, m, C, n, D, Pl, rfl, ⟨some a, m, rfl, hlc, hcm, fun hp => ?_⟩, ?_, fun i hi => ⟨(hC i (by omega)).2, ?_, ?_⟩⟩
    · obtain ⟨_, hl0, hc0⟩ := World.cells?_some (hC 0 (by omega)).1
      have h00 := hc0 0 hk0
      rw [Nat.zero_mul] at h00
      have e0 : (a.add 0).add 0 = a := by simp [Addr.add]
      rw [e0] at h00
      have hsome : ∃ v, (C 0)[0]? = some v := ⟨(C 0)[0]'(by omega), List.getElem?_eq_getElem (by omega)⟩
      obtain ⟨v, hv⟩ := hsome
      rw [hv] at h00
      obtain ⟨hs, hb⟩ := spot_none h00
      refine ⟨a.block, a.off, ?_, trivial, hb, fun i hi => ?_⟩
      · obtain ⟨b, o, s⟩ := a
        simp only at hs
        subst hs
        rfl
      · obtain ⟨_, hl, hc⟩ := World.cells?_some (hC i (by omega)).1
        refine ⟨hl, fun j hj => ?_⟩
        rw [← hc j hj, Deep.add_add, add_none hs, Nat.add_assoc]
    · have : len * bytes ≤ (len + (m - len)) * bytes := Nat.mul_le_mul_right _ (by omega)
      omega
    · have := weightsAll_at _ hwe i (by simpa using hi)
      simpa using this
    · have h1 : D i ∈ (List.range len).map D := List.mem_map.2 ⟨i, List.mem_range.2 hi, rfl⟩
      have h2 := List.sizeOf_lt_of_mem h1
      simp only [DataW.slice.sizeOf_spec]
      omega
end
end Go.Proofs.YtkgbmgpdehmiiaaDoor
namespace Go.Proofs.YtkgbmgpdehmiiaaDoor
open Go.RowKit Go.IntWalk Go.Deep
set_option linter.unusedVariables false
set_option linter.unusedSimpArgs false
section
variable {H : Type} {enc : TypeId × Value → H} {w : World}
/-- what is read of type t: the cells cs, weighed -/
def Rd0 (enc : TypeId × Value → H) (w : World) (t : TypeId) (cs : List Value) : Prop :=
  ∃ fuel x, DataW.trod enc Tryd.prog w 0 (fun _ => true) true fuel t cs = some x ∧ (x.1.weights Tryd.prog t).all (· ≤ reachBytes) = true
theorem open_struct {t : TypeId} {fs : Array Field} {fuel : Nat} {cs : List Value} {x : DataW H × List MemPlace} (ht : Tryd.prog.underlying t = some (.struct fs)) (h : DataW.trod enc Tryd.prog w 0 (fun _ => true) true fuel t cs = some x) (hw : (x.1.weights Tryd.prog t).all (· ≤ reachBytes) = true) :
    ∃ n, fuel = n + 1 ∧ cs.length = Tryd.prog.cellsOf t ∧ ∀ (i : Nat) (f : Field), fs[i]? = some f → ∃ y, DataW.trod enc Tryd.prog w 0 (fun _ => true) true n f.type ((cs.drop f.offset).take (Tryd.prog.cellsOf f.type)) = some y ∧ (y.1.weights Tryd.prog f.type).all (· ≤ reachBytes) = true ∧ SizeOf.sizeOf y.1 < SizeOf.sizeOf x.1 := by
  obtain ⟨xs, n, hn, rfl, hl, hxl, hx⟩ := DataW.trod_struct ht h
  refine ⟨n, hn, hl, fun i f hf => ?_⟩
  have hi : i < fs.size := (Array.getElem?_eq_some_iff.1 hf).1
  have hxi : xs[i]? = some (xs[i]'(by omega)) := List.getElem?_eq_getElem (by omega)
  refine ⟨xs[i]'(by omega), (hx i f hf).trans hxi, ?_, ?_⟩
  rotate_left
  · have h1 : (xs[i]'(by omega)).1 ∈ xs.map (·.1) := List.mem_map.2 ⟨_, List.getElem_mem (by omega), rfl⟩
    have h2 := List.sizeOf_lt_of_mem h1
    simp only [DataW.agg.sizeOf_spec]
    omega
  rw [DataW.weights] at hw
  simp only [ht] at hw
  refine weightsEach_at _ _ hw i f.type _ ?_ (by rw [List.getElem?_map, hxi]; rfl)
  rw [List.getElem?_map]
  have : fs.toList[i]? = some f := by simpa using hf
  rw [this]
  rfl
theorem open_num {cs : List Value} {t : TypeId} {k : IntKind} (ht : Tryd.prog.underlying t = some (.int k)) (h : Rd0 enc w t cs) : ∃ n, cs = [.int k n] := by
  obtain ⟨fuel, x, h, _⟩ := h
  obtain ⟨n, hs, _⟩ := DataW.trod_int ht h
  exact ⟨n, hs⟩
theorem cells1 (t : TypeId) (h : Tryd.prog.cellsOf t = 1) (cs : List Value) (i : Nat) (v : Value) (hv : cs[i]? = some v) : (cs.drop i).take (Tryd.prog.cellsOf t) = [v] := by
  obtain ⟨hi, he⟩ := List.getElem?_eq_some_iff.1 hv
  rw [h, List.drop_eq_getElem_cons hi, List.take_succ_cons, List.take_zero, he]
/-- a field of one cell -/
theorem field_of {t : TypeId} {fs : Array Field} {cs : List Value} (ht : Tryd.prog.underlying t = some (.struct fs)) (h : Rd0 enc w t cs) (i : Nat) (ft off : Nat) (hfi : (fs[i]?).map (fun f => (f.type, f.offset)) = some (ft, off)) (hc : Tryd.prog.cellsOf ft = 1) (v : Value) (hv : cs[off]? = some v) : Rd0 enc w ft [v] := by
  obtain ⟨fuel, x, h, hw⟩ := h
  obtain ⟨n, rfl, hl, hf⟩ := open_struct ht h hw
  cases hfe : fs[i]? with
  | none => rw [hfe] at hfi; cases hfi
  | some f =>
    rw [hfe] at hfi
    simp only [Option.map_some, Option.some.injEq, Prod.mk.injEq] at hfi
    obtain ⟨y, a0, b0, _⟩ := hf i f hfe
    rw [hfi.1, hfi.2, cells1 ft hc cs off v hv] at a0
    rw [hfi.1] at b0
    exact ⟨n, y, a0, b0⟩
theorem len_of {t : TypeId} {fs : Array Field} {cs : List Value} (ht : Tryd.prog.underlying t = some (.struct fs)) (h : Rd0 enc w t cs) : cs.length = Tryd.prog.cellsOf t := by
  obtain ⟨fuel, x, h, hw⟩ := h
  obtain ⟨n, rfl, hl, hf⟩ := open_struct ht h hw
  exact hl
theorem c2 : Tryd.prog.cellsOf 2 = 1 := by kernel_rfl
theorem c3 : Tryd.prog.cellsOf 3 = 1 := by kernel_rfl
theorem c5 : Tryd.prog.cellsOf 5 = 1 := by kernel_rfl
/-- a list out of a family -/
theorem list_of {α : Type} [Inhabited α] (n : Nat) (f : Nat → α) : ∃ l : List α, l.length = n ∧ ∀ i (h : i < l.length), l[i] = f i :=
  ⟨(List.range n).map f, by simp, fun i h => by simp⟩
instance : Inhabited Tm := ⟨(0, ⟨#[]⟩)⟩
instance : Inhabited De := ⟨⟨⟨#[]⟩, 0, []⟩⟩
instance : Inhabited Ex := ⟨.mk 0 0 0 ⟨#[]⟩ [] []⟩
instance : Inhabited Eqn := ⟨⟨0, [], ⟨#[]⟩, [], []⟩⟩
instance : Inhabited Nd := ⟨⟨⟨#[]⟩, 0, [], [], [], [], []⟩⟩
end
end Go.Proofs.YtkgbmgpdehmiiaaDoor
namespace Go.Proofs.YtkgbmgpdehmiiaaDoor
open Go.RowKit Go.IntWalk
set_option linter.unusedVariables false
set_option linter.unusedSimpArgs false
theorem HNames.wide {ok ok' : Nat → Prop} {w : World} {v : Value} {l : List ByteArray} (h : HNames ok w v l) (hk : ∀ i, ok i → i < w.heap.size → ok' i) : HNames ok' w v l := by
  obtain ⟨C, h1, h2⟩ := h
  exact ⟨C, h1.wide hk, h2⟩
theorem HDes.wide {ok ok' : Nat → Prop} {w : World} {v : Value} {l : List De} (h : HDes ok w v l) (hk : ∀ i, ok i → i < w.heap.size → ok' i) : HDes ok' w v l := by
  obtain ⟨C, h1, h2⟩ := h
  refine ⟨C, h1.wide hk, fun i hi => ?_⟩
  obtain ⟨u, e, ht⟩ := h2 i hi
  exact ⟨u, e, ht.wide hk⟩
theorem HNames.set {ok : Nat → Prop} {w : World} {v : Value} {l : List ByteArray} (h : HNames ok w v l) {p : Addr} (hp : ¬ ok p.block) (u : Value) : HNames ok (w.setCell p u) v l :=
  h.keep (by simp [World.setCell]) fun i hi hl => Below.heap_setCell _ _ _ _ (fun e => hp (e ▸ hi))
theorem HDes.set {ok : Nat → Prop} {w : World} {v : Value} {l : List De} (h : HDes ok w v l) {p : Addr} (hp : ¬ ok p.block) (u : Value) : HDes ok (w.setCell p u) v l :=
  h.keep (by simp [World.setCell]) fun i hi hl => Below.heap_setCell _ _ _ _ (fun e => hp (e ▸ hi))
theorem HEq.wide {ok ok' : Nat → Prop} {w : World} {x : EqV} {q : Eqn} (h : HEq ok w x q) (hk : ∀ i, ok i → i < w.heap.size → ok' i) : HEq ok' w x q :=
  ⟨h.place, h.names.wide hk, h.node, h.S.wide hk, h.E.wide hk⟩
theorem HEqs.wide {ok ok' : Nat → Prop} {w : World} {v : Value} {l : List Eqn} (h : HEqs ok w v l) (hk : ∀ i, ok i → i < w.heap.size → ok' i) : HEqs ok' w v l := by
  obtain ⟨C, h1, h2⟩ := h
  refine ⟨C, h1.wide hk, fun i hi => ?_⟩
  obtain ⟨x, e, hx⟩ := h2 i hi
  exact ⟨x, e, hx.wide hk⟩
theorem HEqs.set {ok : Nat → Prop} {w : World} {v : Value} {l : List Eqn} (h : HEqs ok w v l) {p : Addr} (hp : ¬ ok p.block) (u : Value) : HEqs ok (w.setCell p u) v l :=
  h.keep (by simp [World.setCell]) fun i hi hl => Below.heap_setCell _ _ _ _ (fun e => hp (e ▸ hi))
theorem HNd.wide {ok ok' : Nat → Prop} {w : World} {x : NdV} {n : Nd} (h : HNd ok w x n) (hk : ∀ i, ok i → i < w.heap.size → ok' i) : HNd ok' w x n :=
  ⟨h.name, h.place, h.sizes.wide hk, h.inn.wide hk, h.out.wide hk, h.loc.wide hk, h.eqs.wide hk⟩
theorem HNd.set {ok : Nat → Prop} {w : World} {x : NdV} {n : Nd} (h : HNd ok w x n) {p : Addr} (hp : ¬ ok p.block) (u : Value) : HNd ok (w.setCell p u) x n :=
  h.keep (by simp [World.setCell]) fun i hi hl => Below.heap_setCell _ _ _ _ (fun e => hp (e ▸ hi))
end Go.Proofs.YtkgbmgpdehmiiaaDoor
