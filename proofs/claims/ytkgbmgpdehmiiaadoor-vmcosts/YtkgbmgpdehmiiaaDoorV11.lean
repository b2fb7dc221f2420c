import Derived.Test.YtkgbmgpdehmiiaaDoorV08
import Derived.Shelf.Lay
import Derived.Ground.NamesProg
set_option linter.unusedVariables false
set_option linter.unusedSimpArgs false
set_option maxHeartbeats 64000000
set_option maxRecDepth 100000
namespace Go.Proofs.YtkgbmgpdehmiiaaDoor
open Go.Shelf Go.RowKit Go.Lib Go.IntWalk
set_option linter.unusedVariables false
set_option linter.unusedSimpArgs false
/-- v is a row of numbers -/
def HInts (ok : Nat → Prop) (w : World) (v : Value) (L : List Int) : Prop := ∃ C, Sl ok 1 w v L.length C ∧ ∀ i (h : i < L.length), C i = [.int .i64 L[i]]
theorem HInts.at {ok : Nat → Prop} {w : World} {v : Value} {l : List Int} (h : HInts ok w v l) :
    ∃ ao cap, v = .slice ao l.length cap ∧ l.length ≤ cap ∧ cap ≤ maxLen ∧ ∀ i (h : i < l.length), ∃ b o, ao = some ⟨b, o, none⟩ ∧ b < w.heap.size ∧ w.cell? ⟨b, o + i, none⟩ = some (.int .i64 l[i]) := by
  obtain ⟨C, ⟨ao, cap, hv, h1, h2, h3⟩, hC⟩ := h
  refine ⟨ao, cap, hv, h1, h2, fun i hi => ?_⟩
  obtain ⟨b, o, ha, hob, hb, hc⟩ := h3 (by omega)
  have := (hc i hi).2 0 (by decide)
  rw [hC i hi] at this
  exact ⟨b, o, ha, hb, by simpa using this⟩
theorem HInts.keep {ok : Nat → Prop} {w w' : World} {v : Value} {l : List Int} (h : HInts ok w v l) (h1 : w.heap.size ≤ w'.heap.size) (h2 : ∀ i, ok i → i < w.heap.size → w'.heap[i]? = w.heap[i]?) : HInts ok w' v l := by
  obtain ⟨C, h3, h4⟩ := h
  exact ⟨C, h3.keep h1 h2, h4⟩
theorem HInts.under {ok : Nat → Prop} {w w' : World} {v : Value} {l : List Int} (h : HInts ok w v l) (b : Below w.heap.size w w') : HInts ok w' v l := h.keep b.size fun i _ hl => b.block i hl
theorem HInts.wide {ok ok' : Nat → Prop} {w : World} {v : Value} {l : List Int} (h : HInts ok w v l) (hk : ∀ i, ok i → i < w.heap.size → ok' i) : HInts ok' w v l := by
  obtain ⟨C, h3, h4⟩ := h
  exact ⟨C, h3.wide hk, h4⟩
theorem Tryd.infoI : (Tryd.prog.info? 3).map (fun i => (i.zero, i.size, i.bytes)) = some (some (.int .i64 0), 1, 8) := by kernel_rfl
def kInt : Kind Int where
  ty := 3
  k := 1
  bytes := 8
  zero := .int .i64 0
  E := fun _ _ cs x => cs = [.int .i64 x]
  pos := by decide
  zs := rfl
  info := Tryd.infoI
  len := by rintro _ _ _ _ rfl; rfl
  one := by rintro _ _ _ _ rfl; simp; rfl
  keep := by rintro _ _ _ _ _ rfl _ _; rfl
  wide := by rintro _ _ _ _ _ rfl _; rfl
theorem ints_row {ok : Nat → Prop} {w : World} {v : Value} {l : List Int} (h : HRow kInt ok w v l) : HInts ok w v l := h
def ics (l : List Int) : List Value := l.map (Value.int .i64)
theorem ics_len (l : List Int) : (ics l).length = l.length := by simp [ics]
theorem ics_append (a b : List Int) : ics (a ++ b) = ics a ++ ics b := by simp [ics]
theorem ics_flat {l : List Int} {D : Nat → List Value} (hD : ∀ j (h : j < l.length), D j = [.int .i64 l[j]]) : ∀ n, n ≤ l.length → flat D n = ics (l.take n)
  | 0, _ => by simp [flat, ics]
  | n + 1, h => by
    rw [flat, ics_flat hD n (by omega), hD n (by omega), List.take_succ_eq_append_getElem (by omega), ics_append]
    rfl
/-- a block of numbers, and what lies behind them -/
def IBlk (w : World) (g : Nat) (l : List Int) (sp : List Value) : Prop := w.heap[g]? = some (.cells (ics l ++ sp).toArray 3 (0, 0))
theorem IBlk.cell {w : World} {g : Nat} {l : List Int} {sp : List Value} (h : IBlk w g l sp) {i : Nat} (hi : i < l.length) : w.cell? ⟨g, i, none⟩ = some (.int .i64 l[i]) := by
  have := cell_of h i
  rw [this, List.getElem?_toArray, List.getElem?_append_left (by rw [ics_len]; exact hi)]
  simp [ics, hi]
end Go.Proofs.YtkgbmgpdehmiiaaDoor
namespace Go.Proofs.YtkgbmgpdehmiiaaDoor
open Go.Shelf Go.RowKit Go.Lib Go.IntWalk
set_option linter.unusedVariables false
set_option linter.unusedSimpArgs false
/-- a step of a tree -/
structure Pu where
  op : Int
  k : Int
  v : Int
  n : Int
def Pu.cs (p : Pu) : List Value := [.int .i64 p.op, .int .i64 p.k, .int .i64 p.v, .int .i64 p.n]
def HPu (ok : Nat → Prop) (w : World) (v : Value) (L : List Pu) : Prop := ∃ C, Sl ok 4 w v L.length C ∧ ∀ i (h : i < L.length), C i = (L[i]).cs
theorem HPu.at {ok : Nat → Prop} {w : World} {v : Value} {l : List Pu} (h : HPu ok w v l) :
    ∃ ao cap, v = .slice ao l.length cap ∧ l.length ≤ cap ∧ cap ≤ maxLen ∧ ∀ i (h : i < l.length), ∃ b o, ao = some ⟨b, o, none⟩ ∧ b < w.heap.size ∧ w.cell? ⟨b, o + i * 4, none⟩ = some (.int .i64 (l[i]).op) ∧ w.cell? ⟨b, o + i * 4 + 1, none⟩ = some (.int .i64 (l[i]).k) ∧ w.cell? ⟨b, o + i * 4 + 2, none⟩ = some (.int .i64 (l[i]).v) ∧ w.cell? ⟨b, o + i * 4 + 3, none⟩ = some (.int .i64 (l[i]).n) := by
  obtain ⟨C, ⟨ao, cap, hv, h1, h2, h3⟩, hC⟩ := h
  refine ⟨ao, cap, hv, h1, h2, fun i hi => ?_⟩
  obtain ⟨b, o, ha, hob, hb, hc⟩ := h3 (by omega)
  have hcc := (hc i hi).2
  rw [hC i hi] at hcc
  exact ⟨b, o, ha, hb, hcc 0 (by decide), hcc 1 (by decide), hcc 2 (by decide), hcc 3 (by decide)⟩
theorem HPu.keep {ok : Nat → Prop} {w w' : World} {v : Value} {l : List Pu} (h : HPu ok w v l) (h1 : w.heap.size ≤ w'.heap.size) (h2 : ∀ i, ok i → i < w.heap.size → w'.heap[i]? = w.heap[i]?) : HPu ok w' v l := by
  obtain ⟨C, h3, h4⟩ := h
  exact ⟨C, h3.keep h1 h2, h4⟩
theorem HPu.under {ok : Nat → Prop} {w w' : World} {v : Value} {l : List Pu} (h : HPu ok w v l) (b : Below w.heap.size w w') : HPu ok w' v l := h.keep b.size fun i _ hl => b.block i hl
/-! ### sorting, and each once -/
end Go.Proofs.YtkgbmgpdehmiiaaDoor
