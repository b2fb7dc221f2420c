import Derived.Test.YtbiomnnlpafciaaDoorS25
import Derived.WalkKit
import Derived.WalkSpells
import Derived.IntWalk
import Derived.Deep.Cut
import Derived.Deep.LoopGhost
import Derived.Laws.Cover1
import Derived.Lib.Hide
set_option linter.unusedVariables false
set_option linter.unusedSimpArgs false
set_option maxHeartbeats 64000000
set_option maxRecDepth 100000
namespace Go.Proofs.YtbiomnnlpafciaaDoor
open Go.RowKit Go.IntWalk
set_option linter.unusedVariables false
set_option linter.unusedSimpArgs false
theorem hasTooMuch23_any {w : World} {cb k : Nat} {v : Value} {C : List Cd.In} {R : Int} (h : CO w cb k v C R) : Calls Tryd.prog 23 #[.pointer (some ⟨cb, 0, none⟩)] w fun e w' => e = .returned (.bool (decide (200000 < (C.length : Int)) || decide (40 < R))) ∧ w' = w := by
  obtain ⟨av, cv, rfl, -, -⟩ := h.own.form
  have c0 := cell_of h.m 0
  have c1 := cell_of h.m 1
  simp at c0 c1
  generalize C.length = ln at c0 ⊢
  clear h
  by_cases h1 : 200000 < (ln : Int)
  · rw [decide_eq_true h1, Bool.true_or]
    go_enter Tryd.func23, Tryd.ntmps23
    go_wp2
    go_ret
    exact ⟨rfl, rfl⟩
  · rw [decide_eq_false h1, Bool.false_or]
    go_enter Tryd.func23, Tryd.ntmps23
    go_wp2
    go_ret
    exact ⟨rfl, rfl⟩
/-- the eleven instructions at a place -/
def atI (r n v : Int) : List Cd.In := [⟨1, 0, r, 0, 0, 0⟩, ⟨7, 8, r + 1, r - 2, r, 0⟩, ⟨6, 14, r + 1, r + 1, 0, 0⟩, ⟨1, 0, r + 2, 0, 0, n⟩, ⟨7, 8, r + 2, r - 2, r + 2, 0⟩, ⟨7, 10, r + 1, r + 1, r + 2, 0⟩, ⟨9, 0, r + 2, r + 1, 0, 0⟩, ⟨8, 0, r + 2, r - 2, r, 0⟩, ⟨3, 0, r + 2, r + 2, n, v⟩, ⟨8, 0, r + 1, r + 2, r - 1, 0⟩, ⟨9, 0, r - 2, r + 1, 0, 0⟩]
def cellsI (l : List Cd.In) : List Value := l.flatMap Cd.In.cs
theorem cellsI_at : ∀ (l : List Cd.In) (i j : Nat) (hi : i < l.length) (hj : j < 6), (cellsI l)[i * 6 + j]? = (l[i]).cs[j]?
  | [], i, j, hi, hj => by simp at hi
  | x :: l, 0, j, hi, hj => by
    show (x.cs ++ cellsI l)[0 * 6 + j]? = _
    rw [List.getElem?_append_left (by show 0 * 6 + j < 6; omega)]
    simp
  | x :: l, i + 1, j, hi, hj => by
    show (x.cs ++ cellsI l)[(i + 1) * 6 + j]? = _
    rw [List.getElem?_append_right (by show 6 ≤ _; omega), show (i + 1) * 6 + j - x.cs.length = i * 6 + j by show _ - 6 = _; omega]
    exact cellsI_at l i j (by simpa using hi) hj
theorem row_of {ok : Nat → Prop} {w : World} {b : Nat} {l : List Cd.In} {cur : Array Value} {ty : TypeId} (k : w.heap[b]? = some (.cells cur ty (0, 0))) (he : cur = (cellsI l).toArray) (hob : ok b) (hl : l.length ≤ 1000) : HIns ok w (.slice (some ⟨b, 0, none⟩) l.length l.length) l :=
  blk_row kIn k (fun i => (l.getD i ⟨0, 0, 0, 0, 0, 0⟩).cs) (fun i hi => ⟨rfl, fun j hj => by
    subst he
    rw [List.getElem?_toArray]
    rw [show l.getD i ⟨0, 0, 0, 0, 0, 0⟩ = l[i] by simp [hi]]
    exact cellsI_at l i j hi hj⟩) (fun i hi => by show _ = _; simp [hi]) hob (by unfold maxLen; omega)
theorem atI_cells (p n v : Int) : (cellsI (atI (p + 2) n v)).toArray = #[.int .i64 1, .int .i64 0, .int .i64 (p + 2), .int .i64 0, .int .i64 0, .int .i64 0, .int .i64 7, .int .i64 8, .int .i64 (p + 3), .int .i64 p, .int .i64 (p + 2), .int .i64 0, .int .i64 6, .int .i64 14, .int .i64 (p + 3), .int .i64 (p + 3), .int .i64 0, .int .i64 0, .int .i64 1, .int .i64 0, .int .i64 (p + 4), .int .i64 0, .int .i64 0, .int .i64 n, .int .i64 7, .int .i64 8, .int .i64 (p + 4), .int .i64 p, .int .i64 (p + 4), .int .i64 0, .int .i64 7, .int .i64 10, .int .i64 (p + 3), .int .i64 (p + 3), .int .i64 (p + 4), .int .i64 0, .int .i64 9, .int .i64 0, .int .i64 (p + 4), .int .i64 (p + 3), .int .i64 0, .int .i64 0, .int .i64 8, .int .i64 0, .int .i64 (p + 4), .int .i64 p, .int .i64 (p + 2), .int .i64 0, .int .i64 3, .int .i64 0, .int .i64 (p + 4), .int .i64 (p + 4), .int .i64 n, .int .i64 v, .int .i64 8, .int .i64 0, .int .i64 (p + 3), .int .i64 (p + 4), .int .i64 (p + 1), .int .i64 0, .int .i64 9, .int .i64 0, .int .i64 p, .int .i64 (p + 3), .int .i64 0, .int .i64 0] := by
  have e1 : p + 2 + 1 = p + 3 := by omega
  have e2 : p + 2 + 2 = p + 4 := by omega
  have e3 : p + 2 - 2 = p := by omega
  have e4 : p + 2 - 1 = p + 1 := by omega
  unfold atI
  rw [e1, e2, e3, e4]
  rfl
set_option maxHeartbeats 16000000 in
theorem cellAtPlace84_any (op k v n p r : Int) (w : World) (hr : 0 ≤ p ∧ p ≤ 1000) (he : r = p + 2) : Calls Tryd.prog 84 #[.agg #[.int .i64 op, .int .i64 k, .int .i64 v, .int .i64 n], .int .i64 p] w fun e w' => ∃ a, e = .returned (.slice (some ⟨a, 0, none⟩) 11 11) ∧ w'.heap[a]? = some (.cells (cellsI (atI r n v)).toArray 72 (0, 0)) ∧ w.heap.size ≤ a ∧ Below w.heap.size w w' := by
  have b1 : Below w.heap.size w (w.alloc (.cells #[.int .i64 op, .int .i64 k, .int .i64 v, .int .i64 n] 59 (0, 0))) := (Below.refl _ _).alloc (Nat.le_refl _) _
  have kP := heap_new w (.cells #[.int .i64 op, .int .i64 k, .int .i64 v, .int .i64 n] 59 (0, 0))
  go_enter Tryd.func84, Tryd.ntmps84
  go_upto_region 1 with fail
  generalize w.alloc (.cells #[.int .i64 op, .int .i64 k, .int .i64 v, .int .i64 n] 59 (0, 0)) = w1 at b1 kP ⊢
  have p2 := cell_of kP 2
  have p3 := cell_of kP 3
  simp at p2 p3
  have h1 : IntKind.i64.wrap (p + 1) = p + 1 := i64_in (p + 1) (by omega)
  have h2 : IntKind.i64.wrap (p + 2) = p + 2 := i64_in (p + 2) (by omega)
  have h3 : IntKind.i64.wrap (p + 3) = p + 3 := i64_in (p + 3) (by omega)
  have h4 : IntKind.i64.wrap (p + 4) = p + 4 := i64_in (p + 4) (by omega)
  go_wp2
  go_ret
  refine ⟨w1.heap.size, rfl, (heap_new _ _).trans ?_, b1.size, b1.alloc b1.size _⟩
  subst he
  rw [atI_cells]
theorem CP.pre {w w2 : World} {cb k : Nat} {C : List Cd.In} {R : Int} {e : Ending} {w' : World} (b : Below w.heap.size w w2) (h : CP w2 cb k C R e w') : CP w cb k C R e w' := by
  obtain ⟨k', v', h1, h2⟩ := h.o
  exact ⟨h.e, ⟨k', v', h1, h2.imp id (fun h => Nat.le_trans b.size h)⟩, (aside b).trans h.a b.size⟩
theorem CP.next {w w1 : World} {cb k k1 : Nat} {C : List Cd.In} {R : Int} {e : Ending} {w' : World} (a : Aside [cb, k] w.heap.size w w1) (hk : k1 = k ∨ w.heap.size ≤ k1) (h : CP w1 cb k1 C R e w') : CP w cb k C R e w' := by
  obtain ⟨k', v', h1, h2⟩ := h.o
  exact ⟨h.e, ⟨k', v', h1, next_own hk h2 a.size⟩, aside_next a hk h.a⟩
/-- one instruction more -/
theorem addOne {w : World} {cb k : Nat} {v : Value} {C : List Cd.In} {R : Int} (h : CO w cb k v C R) (hlen : C.length ≤ 900000) (W : World) (b : Below w.heap.size w W) (op kk r a bb n : Int) (hr : 0 ≤ r ∧ r ≤ 1000) : Calls Tryd.prog 43 #[.pointer (some ⟨cb, 0, none⟩), .slice (some ⟨W.heap.size, 0, none⟩) 1 1] (W.alloc (.cells #[.int .i64 op, .int .i64 kk, .int .i64 r, .int .i64 a, .int .i64 bb, .int .i64 n] 72 (0, 0))) (CP w cb k (C ++ [⟨op, kk, r, a, bb, n⟩]) (Em.rg R [⟨op, kk, r, a, bb, n⟩])) := by
  have b2 := b.alloc b.size (.cells #[.int .i64 op, .int .i64 kk, .int .i64 r, .int .i64 a, .int .i64 bb, .int .i64 n] 72 (0, 0))
  have ycb := lt_of h.m
  have hl := b.size
  have hr2 := one_row (i := ⟨op, kk, r, a, bb, n⟩) (ok := fun i => i = W.heap.size) (heap_new W _) rfl
  have hk := h.lt
  exact (add43_any (X := [⟨op, kk, r, a, bb, n⟩]) (h.under b2) hr2 (fun i hi => by omega) (by simp; omega) (fun x hx => by simp at hx; subst hx; exact hr)).mono fun e w' hh => hh.pre b2
end Go.Proofs.YtbiomnnlpafciaaDoor
