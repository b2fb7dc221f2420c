/-
  DERIVED. THE WALK of sys.Uses.
-/
import Derived.Test.YtfhjejmadhcmnaaDoorSy3
namespace Go.Proofs.YtfhjejmadhcmnaaDoor
open Go.Shelf Go.RowKit Go.Lib Go.IntWalk
set_option linter.unusedVariables false
set_option linter.unusedSimpArgs false
set_option maxRecDepth 100000

/-- a step of a tree -/
structure Pu where
  op : Int
  k : Int
  v : Int
  n : Int
def Pu.cs (p : Pu) : List Value := [.int .i64 p.op, .int .i64 p.k, .int .i64 p.v, .int .i64 p.n]
def nmd (p : Pu) : Bool := p.op == 2 || p.op == 3 || p.op == 8
def HPu (ok : Nat → Prop) (w : World) (v : Value) (L : List Pu) : Prop := ∃ C, Sl ok 4 w v L.length C ∧ ∀ i (h : i < L.length), C i = (L[i]).cs
theorem HPu.at {ok : Nat → Prop} {w : World} {v : Value} {l : List Pu} (h : HPu ok w v l) :
    ∃ ao cap, v = .slice ao l.length cap ∧ l.length ≤ cap ∧ cap ≤ maxLen ∧ ∀ i (h : i < l.length), ∃ b o, ao = some ⟨b, o, none⟩ ∧ b < w.heap.size ∧ w.cell? ⟨b, o + i * 4, none⟩ = some (.int .i64 (l[i]).op) ∧ w.cell? ⟨b, o + i * 4 + 1, none⟩ = some (.int .i64 (l[i]).k) ∧ w.cell? ⟨b, o + i * 4 + 2, none⟩ = some (.int .i64 (l[i]).v) ∧ w.cell? ⟨b, o + i * 4 + 3, none⟩ = some (.int .i64 (l[i]).n) := by
  obtain ⟨C, ⟨ao, cap, hv, h1, h2, h3⟩, hC⟩ := h
  refine ⟨ao, cap, hv, h1, h2, fun i hi => ?_⟩
  obtain ⟨b, o, ha, hob, hb, hc⟩ := h3 (by omega)
  have hcc := (hc i hi).2
  rw [hC i hi] at hcc
  exact ⟨b, o, ha, hb, hcc 0 (by decide), hcc 1 (by decide), hcc 2 (by decide), hcc 3 (by decide)⟩
theorem HPu.keep {ok : Nat → Prop} {w w' : World} {v : Value} {l : List Pu} (h : HPu ok w v l) (h1 : w.heap.size ≤ w'.heap.size) (h2 : ∀ i, ok i → i < w.heap.size → w'.heap[i]? = w.heap[i]?) : HPu ok w' v l := by
  obtain ⟨C, h3, h4⟩ := h
  exact ⟨C, h3.keep h1 h2, h4⟩
theorem HPu.under {ok : Nat → Prop} {w w' : World} {v : Value} {l : List Pu} (h : HPu ok w v l) (b : Below w.heap.size w w') : HPu ok w' v l := h.keep b.size fun i _ hl => b.block i hl

set_option maxHeartbeats 1000000 in
theorem namesVariable_any (p : Pu) (w : World) : Calls Tryd.prog 15 #[.agg #[.int .i64 p.op, .int .i64 p.k, .int .i64 p.v, .int .i64 p.n]] w fun e w' => e = .returned (.bool (nmd p)) ∧ Below w.heap.size w w' := by
  have bA : Below w.heap.size w (w.alloc (.cells #[.int .i64 p.op, .int .i64 p.k, .int .i64 p.v, .int .i64 p.n] 36 (0, 0))) := (Below.refl _ _).alloc (Nat.le_refl _) _
  unfold nmd
  by_cases h2 : (p.op == 2) = true
  · go_enter Tryd.func15, Tryd.ntmps15
    go_wp2
    go_ret
    exact ⟨by simp [h2], bA⟩
  have h2 : (p.op == 2) = false := by simpa using h2
  by_cases h3 : (p.op == 3) = true
  · go_enter Tryd.func15, Tryd.ntmps15
    go_wp2
    go_ret
    exact ⟨by simp [h2, h3], bA⟩
  have h3 : (p.op == 3) = false := by simpa using h3
  go_enter Tryd.func15, Tryd.ntmps15
  go_wp2
  go_ret
  exact ⟨by simp [h2, h3], bA⟩

/-! ### sorting, and each once -/
theorem put_cells (l d : List Int) (sp : List Value) (h : d.length = l.length) : Sort.putCells (Value.int .i64) 0 d.toArray (ics l ++ sp).toArray = (ics d ++ sp).toArray := by
  apply Array.ext_getElem?
  intro k
  unfold Sort.putCells
  rw [Array.getElem?_mapIdx, List.getElem?_toArray, List.getElem?_toArray]
  by_cases hk : k < l.length
  · rw [List.getElem?_append_left (by rw [ics_len]; exact hk), List.getElem?_append_left (by rw [ics_len, h]; exact hk)]
    simp [ics, hk, h]
  · rw [List.getElem?_append_right (by rw [ics_len]; omega), List.getElem?_append_right (by rw [ics_len]; omega), ics_len, ics_len, h]
    cases hx : sp[k - l.length]? with
    | none => rfl
    | some x =>
      simp only [Option.map_some, Nat.zero_add, Nat.zero_le, true_and]
      rw [if_neg (by simp; omega)]
theorem IBlk.put {w : World} {g : Nat} {l d : List Int} {sp : List Value} (h : IBlk w g l sp) (hd : d.length = l.length) (q : Nat) (os : Array Obj) :
    IBlk (Sort.grow (Sort.putRow (Value.int .i64) (Sort.ahead w q) g 0 d.toArray) os) g d sp ∧ Aside [g] w.heap.size w (Sort.grow (Sort.putRow (Value.int .i64) (Sort.ahead w q) g 0 d.toArray) os) := by
  have hh : (Sort.grow (Sort.putRow (Value.int .i64) (Sort.ahead w q) g 0 d.toArray) os).heap = w.heap.modify g (Sort.onCells (Sort.putCells (Value.int .i64) 0 d.toArray)) ++ os := rfl
  have hg := lt_of h
  refine ⟨?_, ⟨rfl, rfl, rfl, ?_, fun k hk hn => ?_⟩⟩
  · unfold IBlk
    rw [hh, Array.getElem?_append_left (by simpa using hg), Array.getElem?_modify, if_pos rfl, h]
    simp only [Option.map_some, Sort.onCells]
    rw [put_cells l d sp hd]
  · rw [hh]; simp
  · rw [hh, Array.getElem?_append_left (by simpa using hk), Array.getElem?_modify, if_neg (fun e => hn (by simp [e]))]

def leB (x y : Int) : Bool := decide (x ≤ y)
set_option maxHeartbeats 1000000 in
theorem sort_any {B : Nat} {w : World} {v : Value} {l : List Int} (h : OwnL kInt B w v l) (hl : l.length ≤ 3000000) :
    Calls Tryd.prog 16 #[v] w fun e w' => e = .returned (.tuple #[]) ∧ OwnL kInt B w' v (l.mergeSort leB) ∧ Below B w w' := by
  rcases own_iblk h with ⟨rfl, rfl⟩ | ⟨g, c, sp, rfl, hB, hb, h1, h2, h3⟩
  · have := Any.slices_Sort_int_none lay16 none 0 w
    change Calls Tryd.prog 16 _ _ _ at this
    refine this.mono ?_
    rintro e w' ⟨rfl, rfl⟩
    exact ⟨rfl, by simpa using h, Below.refl _ _⟩
  · have := Any.slices_Sort_int lay16 g 0 c l w hb.holds (lt_of hb) (by omega)
    change Calls Tryd.prog 16 _ _ _ at this
    refine this.mono ?_
    rintro e w' ⟨rfl, q, os, rfl⟩
    obtain ⟨k1, k2⟩ := hb.put (d := l.mergeSort leB) (by rw [List.length_mergeSort]) q os
    have e1 : (l.mergeSort leB).length = l.length := List.length_mergeSort _
    have ho := iblk_own k1 hB (by rw [e1]; exact h1) h2 (by rw [e1]; exact h3)
    rw [e1] at ho
    exact ⟨rfl, ho, ⟨k2.os, k2.tape, k2.output, k2.size, fun k hk => k2.block k (by have := lt_of hb; omega) (by simp; omega)⟩⟩
theorem compact_len (l : List Int) : (Lib.compact l).length ≤ l.length := by
  unfold Lib.compact Lib.compactUpTo
  rw [List.length_map]
  have := List.length_filter_le (Lib.keeps l.toArray) (List.range l.length)
  simpa using this
set_option maxHeartbeats 1000000 in
theorem compact_any {B : Nat} {w : World} {v : Value} {l : List Int} (h : OwnL kInt B w v l) (hl : l.length ≤ 3000000) :
    Calls Tryd.prog 17 #[v] w fun e w' => ∃ v', e = .returned v' ∧ OwnL kInt B w' v' (Lib.compact l) ∧ Below B w w' := by
  rcases own_iblk h with ⟨rfl, rfl⟩ | ⟨g, c, sp, rfl, hB, hb, h1, h2, h3⟩
  · have := Any.slices_Compact_int_empty lay17 none 0 w
    change Calls Tryd.prog 17 _ _ _ at this
    refine this.mono ?_
    rintro e w' ⟨rfl, rfl⟩
    exact ⟨_, rfl, by simpa [Lib.compact, Lib.compactUpTo] using h, Below.refl _ _⟩
  · have := Any.slices_Compact_int lay17 g 0 c l w hb.holds (by omega) h1
    change Calls Tryd.prog 17 _ _ _ at this
    refine this.mono ?_
    rintro e w' ⟨rfl, q, rfl⟩
    have hn := compact_len l
    obtain ⟨k1, k2⟩ := hb.put (d := Lib.compact l ++ List.replicate (l.length - (Lib.compact l).length) 0) (by rw [List.length_append, List.length_replicate]; omega) q #[]
    rw [Sort.grow_empty] at k1 k2
    unfold IBlk at k1
    rw [ics_append, List.append_assoc] at k1
    have ho := iblk_own (B := B) (l := Lib.compact l) k1 hB (by omega) h2 (by rw [List.length_append, ics_len, List.length_replicate]; omega)
    exact ⟨_, rfl, ho, ⟨k2.os, k2.tape, k2.output, k2.size, fun k hk => k2.block k (by have := lt_of hb; omega) (by simp; omega)⟩⟩
end Go.Proofs.YtfhjejmadhcmnaaDoor
