/-
  DERIVED. Rows of terms in a block of the call's own: cell by cell, put anew, sorted.
-/
import Derived.Test.YtjpjedigajiomaaSzF
import Derived.Shelf.SlSortCmp.WholeK
import Derived.Shelf.Small.Strs
import Derived.Ground.SlsfProg
import Derived.Ground.NamesProg
namespace Go.Proofs.Ytjpjedigajiomaa
open Go.Shelf Go.RowKit Go.Lib Go.IntWalk Go.Sort
set_option linter.unusedVariables false
set_option linter.unusedSimpArgs false
set_option maxRecDepth 100000

/-- the terms' cells, one behind the other -/
def tcs : List Tm → List Value
  | [] => []
  | t :: l => .int .i64 t.1 :: .string t.2 :: tcs l
theorem tcs_len : ∀ l : List Tm, (tcs l).length = l.length * 2
  | [] => rfl
  | t :: l => by simp [tcs, tcs_len l]; omega
theorem tcs_append : ∀ a b : List Tm, tcs (a ++ b) = tcs a ++ tcs b
  | [], b => rfl
  | t :: a, b => by simp [tcs, tcs_append a b]
theorem tcs_get (sp : List Value) : ∀ (l : List Tm) (i : Nat) (h : i < l.length), (tcs l ++ sp)[i * 2]? = some (.int .i64 (l[i]).1) ∧ (tcs l ++ sp)[i * 2 + 1]? = some (.string (l[i]).2)
  | [], i, h => absurd h (Nat.not_lt_zero _)
  | t :: l, 0, _ => by simp [tcs]
  | t :: l, i + 1, h => by
    have ih := tcs_get sp l i (by simpa using h)
    rw [show (i + 1) * 2 = i * 2 + 2 by omega, show i * 2 + 2 + 1 = i * 2 + 1 + 2 by omega]
    simpa [tcs] using ih
theorem tcs_set (sp : List Value) : ∀ (l : List Tm) (i : Nat) (h : i < l.length) (n : Int), (tcs l ++ sp).set (i * 2) (.int .i64 n) = tcs (l.set i (n, (l[i]).2)) ++ sp
  | [], i, h, _ => absurd h (Nat.not_lt_zero _)
  | t :: l, 0, _, n => by simp [tcs]
  | t :: l, i + 1, h, n => by
    have ih := tcs_set sp l i (by simpa using h) n
    rw [show (i + 1) * 2 = i * 2 + 2 by omega]
    simpa [tcs] using ih
theorem tcs_put (sp : List Value) : ∀ (l : List Tm) (i : Nat) (h : i < l.length) (t : Tm), ((tcs l ++ sp).set (i * 2) (.int .i64 t.1)).set (i * 2 + 1) (.string t.2) = tcs (l.set i t) ++ sp
  | [], i, h, _ => absurd h (Nat.not_lt_zero _)
  | x :: l, 0, _, t => by simp [tcs]
  | x :: l, i + 1, h, t => by
    have ih := tcs_put sp l i (by simpa using h) t
    rw [show (i + 1) * 2 = i * 2 + 2 by omega, show i * 2 + 2 + 1 = i * 2 + 1 + 2 by omega]
    simpa [tcs] using ih
theorem tcs_flat {l : List Tm} {D : Nat → List Value} (hD : ∀ j (h : j < l.length), D j = [.int .i64 (l[j]).1, .string (l[j]).2]) : ∀ n, n ≤ l.length → flat D n = tcs (l.take n)
  | 0, _ => by simp [flat, tcs]
  | n + 1, h => by
    rw [flat, tcs_flat hD n (by omega), List.take_succ_eq_append_getElem (by omega : n < l.length), tcs_append, hD n (by omega)]
    rfl

/-- block g holds l, and then what is spare -/
def Blk (w : World) (g : Nat) (l : List Tm) (sp : List Value) : Prop := w.heap[g]? = some (.cells (tcs l ++ sp).toArray 39 (0, 0))
theorem Blk.cell {w : World} {g : Nat} {l : List Tm} {sp : List Value} (h : Blk w g l sp) {i : Nat} (hi : i < l.length) : w.cell? ⟨g, i * 2, none⟩ = some (.int .i64 (l[i]).1) ∧ w.cell? ⟨g, i * 2 + 1, none⟩ = some (.string (l[i]).2) := by
  have t := tcs_get sp l i hi
  rw [cell_of h, cell_of h]
  simpa using t
theorem Blk.free {w : World} {g : Nat} {l : List Tm} {sp : List Value} (h : Blk w g l sp) (o : Nat) : w.frozen? ⟨g, o, none⟩ = false := free_of h o
theorem Blk.lt {w : World} {g : Nat} {l : List Tm} {sp : List Value} (h : Blk w g l sp) : g < w.heap.size := lt_of h
theorem Blk.keep {w w' : World} {g : Nat} {l : List Tm} {sp : List Value} (h : Blk w g l sp) (hk : w'.heap[g]? = w.heap[g]?) : Blk w' g l sp := hk.trans h
theorem Blk.below {w w' : World} {B g : Nat} {l : List Tm} {sp : List Value} (h : Blk w g l sp) (hb : Below B w w') (hg : g < B) : Blk w' g l sp := (hb.block g hg).trans h
theorem Blk.setN {w : World} {g : Nat} {l : List Tm} {sp : List Value} (h : Blk w g l sp) {i : Nat} (hi : i < l.length) (n : Int) : Blk (w.setCell ⟨g, i * 2, none⟩ (.int .i64 n)) g (l.set i (n, (l[i]).2)) sp := by
  unfold Blk
  rw [set_in h, List.setIfInBounds_toArray, tcs_set sp l i hi n]
theorem Blk.put {w : World} {g : Nat} {l : List Tm} {sp : List Value} (h : Blk w g l sp) {i : Nat} (hi : i < l.length) (t : Tm) : Blk ((w.setCell ⟨g, i * 2, none⟩ (.int .i64 t.1)).setCell ⟨g, i * 2 + 1, none⟩ (.string t.2)) g (l.set i t) sp := by
  unfold Blk
  rw [set_in (set_in h _ _), List.setIfInBounds_toArray, List.setIfInBounds_toArray, tcs_put sp l i hi t]

theorem own_blk {B : Nat} {w : World} {v : Value} {l : List Tm} (h : OwnL kTerm B w v l) :
    (v = .slice none 0 0 ∧ l = []) ∨ ∃ g c sp, v = .slice (some ⟨g, 0, none⟩) l.length c ∧ B ≤ g ∧ Blk w g l sp ∧ l.length ≤ c ∧ c ≤ maxLen ∧ l.length * 2 + sp.length = c * 2 := by
  obtain ⟨D, h1, h2⟩ := h
  rcases h1.2 with ⟨hv, h0⟩ | ⟨g, cap, cur, hv, hb, hg, hnc, hcm, hcs, htake⟩
  · exact .inl ⟨hv, List.eq_nil_of_length_eq_zero h0⟩
  · have e1 := tcs_flat (l := l) (D := D) (fun j hj => h2 j hj) l.length (Nat.le_refl _)
    rw [List.take_length] at e1
    have e2 : cur = (tcs l ++ cur.toList.drop (l.length * 2)).toArray := by
      have : cur.toList = tcs l ++ cur.toList.drop (l.length * 2) := by
        have ht : cur.toList.take (l.length * 2) = tcs l := htake.trans e1
        rw [← ht, List.take_append_drop]
      rw [← this]
    refine .inr ⟨g, cap, cur.toList.drop (l.length * 2), hv, hb, ?_, hnc, hcm, ?_⟩
    · unfold Blk
      rw [← e2]
      exact hg
    · have hcs2 : cur.size = cap * 2 := hcs
      simp
      omega
theorem blk_own {B g c : Nat} {w : World} {l : List Tm} {sp : List Value} (h : Blk w g l sp) (hB : B ≤ g) (hc : l.length ≤ c) (hm : c ≤ maxLen) (hs : l.length * 2 + sp.length = c * 2) : OwnL kTerm B w (.slice (some ⟨g, 0, none⟩) l.length c) l := by
  have e1 := tcs_flat (l := l) (D := fun j => [.int .i64 (l[j]!).1, .string (l[j]!).2]) (fun j hj => by simp [hj]) l.length (Nat.le_refl _)
  rw [List.take_length] at e1
  refine ⟨fun j => [.int .i64 (l[j]!).1, .string (l[j]!).2], ⟨?_, .inr ⟨g, c, _, rfl, hB, h, hc, hm, ?_, ?_⟩⟩, fun j hj => ?_⟩
  · rw [e1]; exact tcs_len l
  · have := tcs_len l
    show (tcs l ++ sp).toArray.size = c * 2
    simp
    omega
  · rw [e1]
    show (tcs l ++ sp).toArray.toList.take (l.length * 2) = tcs l
    rw [List.toList_toArray, ← tcs_len l, List.take_left]
  · show [Value.int .i64 (l[j]!).1, .string (l[j]!).2] = [.int .i64 (l[j]).1, .string (l[j]).2]
    simp [hj]
/-- a row cut to what lies ahead -/
theorem blk_cut {B g c : Nat} {w : World} {r x : List Tm} {sp : List Value} (h : Blk w g (r ++ x) sp) (hB : B ≤ g) (hc : (r ++ x).length ≤ c) (hm : c ≤ maxLen) (hs : (r ++ x).length * 2 + sp.length = c * 2) : OwnL kTerm B w (.slice (some ⟨g, 0, none⟩) r.length c) r := by
  have hx := tcs_len x
  rw [List.length_append] at hc hs
  refine blk_own (sp := tcs x ++ sp) ?_ hB (by omega) hm (by rw [List.length_append, hx]; omega)
  unfold Blk at h ⊢
  rw [← List.append_assoc, ← tcs_append]
  exact h

/-! ### The sort -/
theorem Blk.holds {w : World} {g : Nat} {l : List Tm} {sp : List Value} (h : Blk w g l sp) : HoldsK encT 2 w g 0 l.toArray := by
  intro j hj
  rw [size_flatK] at hj
  have hj2 : j < l.length * 2 := by simpa using hj
  rw [get_flatK _ _ _ _ hj, Nat.zero_add]
  refine ⟨?_, h.free j⟩
  have hq : j / 2 < l.length := by omega
  obtain ⟨c0, c1⟩ := h.cell hq
  rcases (by omega : j % 2 = 0 ∨ j % 2 = 1) with e | e
  · rw [show j / 2 * 2 = j by omega] at c0
    rw [c0, e]
    simp [encT, hq]
  · rw [show j / 2 * 2 + 1 = j by omega] at c1
    rw [c1, e]
    simp [encT, hq]

theorem tcs_flatK (l : List Tm) (sp : List Value) (cur : Array Value) (hc : cur.size = (tcs l ++ sp).length) (hsp : ∀ j, l.length * 2 ≤ j → cur[j]? = (tcs l ++ sp)[j]?) : putCells id 0 (flatK encT 2 l.toArray) cur = (tcs l ++ sp).toArray := by
  apply Array.ext_getElem?
  intro k
  unfold putCells
  have e0 : (tcs l ++ sp).toArray[k]? = (tcs l ++ sp)[k]? := by simp
  rw [Array.getElem?_mapIdx, e0]
  by_cases hk : k < l.length * 2
  · have hkc : k < cur.size := by rw [hc, List.length_append, tcs_len]; omega
    have hq : k / 2 < l.length := by omega
    rw [Array.getElem?_eq_getElem hkc]
    simp only [Option.map_some, Nat.zero_add, size_flatK, Nat.zero_le, true_and, Nat.sub_zero, id]
    rw [if_pos (by simpa using hk), get_flatK _ _ _ _ (by simpa using hk)]
    obtain ⟨c0, c1⟩ := tcs_get sp l (k / 2) hq
    rcases (by omega : k % 2 = 0 ∨ k % 2 = 1) with e | e
    · rw [show k / 2 * 2 = k by omega] at c0
      rw [c0, e]
      simp [encT, hq]
    · rw [show k / 2 * 2 + 1 = k by omega] at c1
      rw [c1, e]
      simp [encT, hq]
  · rw [← hsp k (by omega)]
    cases hx : cur[k]? with
    | none => rfl
    | some x =>
      simp only [Option.map_some, Nat.zero_add, size_flatK, Nat.zero_le, true_and]
      rw [if_neg (by simpa using hk)]

theorem sortWorld_block (w : World) (g n : Nat) (d : Array Tm) (os : Array Obj) : (∀ k, k ≠ g → k < w.heap.size → (sortWorldK encT 2 w g 0 n d os).heap[k]? = w.heap[k]?) ∧ (∀ l sp, Blk w g l sp → d.size = l.length → Blk (sortWorldK encT 2 w g 0 n d os) g d.toList sp) ∧ w.heap.size ≤ (sortWorldK encT 2 w g 0 n d os).heap.size := by
  have hh : (sortWorldK encT 2 w g 0 n d os).heap = w.heap.modify g (onCells (putCells id 0 (flatK encT 2 d))) ++ os := rfl
  refine ⟨fun k hk hl => ?_, fun l sp h hs => ?_, ?_⟩
  · rw [hh, Array.getElem?_append_left (by simpa using hl), Array.getElem?_modify, if_neg (fun e => hk e.symm)]
  · unfold Blk
    rw [hh, Array.getElem?_append_left (by simpa using h.lt), Array.getElem?_modify, if_pos rfl, h]
    simp only [Option.map_some, onCells]
    have e := tcs_flatK d.toList sp (tcs l ++ sp).toArray (by simp [tcs_len, hs]) (fun j hj => by
      rw [List.getElem?_toArray]
      have hdl : d.toList.length = l.length := by simpa using hs
      rw [hdl] at hj
      rw [List.getElem?_append_right (by rw [tcs_len]; exact hj), List.getElem?_append_right (by rw [tcs_len, hdl]; exact hj), tcs_len, tcs_len, hdl])
    simp only [Array.toArray_toList] at e
    rw [e]
  · rw [hh]; simp
end Go.Proofs.Ytjpjedigajiomaa
