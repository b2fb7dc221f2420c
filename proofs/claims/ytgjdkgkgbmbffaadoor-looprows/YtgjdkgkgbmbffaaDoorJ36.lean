import Derived.Test.YtgjdkgkgbmbffaaDoorJ31
import Derived.WalkKit
import Derived.WalkSpells
import Derived.IntWalk
import Derived.Deep.Cut
import Derived.Deep.LoopGhost
import Derived.Laws.Cover1
import Derived.Lib.Hide
set_option linter.unusedVariables false
set_option linter.unusedSimpArgs false
set_option maxHeartbeats 64000000
set_option maxRecDepth 100000
namespace Go.Proofs.YtgjdkgkgbmbffaaDoor
open Go.RowKit Go.IntWalk
set_option linter.unusedVariables false
set_option linter.unusedSimpArgs false
namespace Lo
def L1 : Lp := ⟨3, [1], [2], [⟨1, 0, 0, 2, [], [⟨2, 0, 1, 0⟩, ⟨2, 0, 0, 0⟩, ⟨6, 1, 0, 0⟩]⟩, ⟨1, 0, 0, 0, [], [⟨1, 0, 0, 7⟩]⟩]⟩
theorem L1_fault : fault L1 = (0, 0) := by decide
theorem L1_row1 : row (ownL L1) [0, 0, 0] [5] = [7, 5, 5] := by kernel_rfl
theorem L1_row2 : row (ownL L1) [7, 5, 5] [5] = [7, 5, 12] := by kernel_rfl
end Lo
/-- a row in a block -/
theorem blk_row {α : Type} (T : Kind α) {ok : Nat → Prop} {w : World} {b : Nat} {cur : Array Value} {ty : TypeId} {l : List α} (k : w.heap[b]? = some (.cells cur ty (0, 0))) (D : Nat → List Value) (hD : ∀ i, i < l.length → (D i).length = T.k ∧ ∀ j, j < T.k → cur[i * T.k + j]? = (D i)[j]?) (hE : ∀ i (h : i < l.length), T.E ok w (D i) l[i]) (hob : ok b) (hm : l.length ≤ maxLen) : HRow T ok w (.slice (some ⟨b, 0, none⟩) l.length l.length) l :=
  ⟨D, ⟨_, _, rfl, Nat.le_refl _, hm, fun _ => ⟨b, 0, rfl, hob, lt_of k, fun i hi => ⟨(hD i hi).1, fun j hj => by
    have e : 0 + i * T.k + j = i * T.k + j := (by omega)
    rw [e]
    exact (cell_of k _).trans ((hD i hi).2 j hj)⟩⟩⟩, hE⟩
theorem lt3 {i : Nat} (h : i < 3) : i = 0 ∨ i = 1 ∨ i = 2 := by omega
theorem lt4 {i : Nat} (h : i < 4) : i = 0 ∨ i = 1 ∨ i = 2 ∨ i = 3 := by omega
theorem lt6 {i : Nat} (h : i < 6) : i = 0 ∨ i = 1 ∨ i = 2 ∨ i = 3 ∨ i = 4 ∨ i = 5 := by omega
theorem lo_one {ok : Nat → Prop} {w : World} {b : Nat} {x : Int} (k : w.heap[b]? = some (.cells #[.int .i64 x] 3 (0, 0))) (hob : ok b) : HInts ok w (.slice (some ⟨b, 0, none⟩) 1 1) [x] :=
  longs_row (blk_row kLong (l := [x]) k (fun _ => [.int .i64 x]) (fun i hi => ⟨rfl, fun j hj => by
    have h1 : i = 0 := by simpa using hi
    have h2 : j = 0 := by have : j < 1 := hj; omega
    subst h1 h2
    rfl⟩) (fun i hi => by
    have h1 : i = 0 := by simpa using hi
    subst h1
    rfl) hob (show 1 ≤ maxLen by decide))
theorem lo_E1 {ok : Nat → Prop} {w : World} {b : Nat} (k : w.heap[b]? = some (.cells #[.int .i64 2, .int .i64 0, .int .i64 1, .int .i64 0, .int .i64 2, .int .i64 0, .int .i64 0, .int .i64 0, .int .i64 6, .int .i64 1, .int .i64 0, .int .i64 0] 71 (0, 0))) (hob : ok b) : HPu ok w (.slice (some ⟨b, 0, none⟩) 3 3) [⟨2, 0, 1, 0⟩, ⟨2, 0, 0, 0⟩, ⟨6, 1, 0, 0⟩] :=
  pus_row (blk_row kPu (l := [⟨2, 0, 1, 0⟩, ⟨2, 0, 0, 0⟩, ⟨6, 1, 0, 0⟩]) k (fun i => (([⟨2, 0, 1, 0⟩, ⟨2, 0, 0, 0⟩, ⟨6, 1, 0, 0⟩] : List Pu).getD i ⟨0, 0, 0, 0⟩).cs) (fun i hi => by
    rcases lt3 (show i < 3 from hi) with rfl | rfl | rfl
    all_goals (refine ⟨rfl, fun j hj => ?_⟩; rcases lt4 (show j < 4 from hj) with rfl | rfl | rfl | rfl <;> rfl)) (fun i hi => by
    rcases lt3 (show i < 3 from hi) with rfl | rfl | rfl
    all_goals rfl) hob (by decide))
theorem lo_E2 {ok : Nat → Prop} {w : World} {b : Nat} (k : w.heap[b]? = some (.cells #[.int .i64 1, .int .i64 0, .int .i64 0, .int .i64 7] 71 (0, 0))) (hob : ok b) : HPu ok w (.slice (some ⟨b, 0, none⟩) 1 1) [⟨1, 0, 0, 7⟩] :=
  pus_row (blk_row kPu (l := [⟨1, 0, 0, 7⟩]) k (fun i => (([⟨1, 0, 0, 7⟩] : List Pu).getD i ⟨0, 0, 0, 0⟩).cs) (fun i hi => by
    have h1 : i = 0 := by simpa using hi
    subst h1
    refine ⟨rfl, fun j hj => ?_⟩
    rcases lt4 (show j < 4 from hj) with rfl | rfl | rfl | rfl <;> rfl) (fun i hi => by
    have h1 : i = 0 := by simpa using hi
    subst h1
    rfl) hob (by decide))
theorem lo_nilP {ok : Nat → Prop} {w : World} : HPu ok w (.slice none 0 0) [] := ⟨fun _ => [], ⟨none, 0, rfl, Nat.le_refl _, by decide, fun h => absurd h (by decide)⟩, fun j hj => absurd hj (Nat.not_lt_zero _)⟩
theorem lo_S {ok : Nat → Prop} {w : World} {b e1 e2 : Nat} (k : w.heap[b]? = some (.cells #[.int .i64 1, .int .i64 0, .int .i64 0, .int .i64 2, .slice none 0 0, .slice (some ⟨e1, 0, none⟩) 3 3, .int .i64 1, .int .i64 0, .int .i64 0, .int .i64 0, .slice none 0 0, .slice (some ⟨e2, 0, none⟩) 1 1] 54 (0, 0))) (hob : ok b) (h1 : HPu ok w (.slice (some ⟨e1, 0, none⟩) 3 3) [⟨2, 0, 1, 0⟩, ⟨2, 0, 0, 0⟩, ⟨6, 1, 0, 0⟩]) (h2 : HPu ok w (.slice (some ⟨e2, 0, none⟩) 1 1) [⟨1, 0, 0, 7⟩]) : HSps ok w (.slice (some ⟨b, 0, none⟩) 2 2) Lo.L1.S :=
  sps_row (blk_row kSp (l := Lo.L1.S) k (fun i => if i = 0 then scs ⟨1, 0, 0, 2, [], []⟩ ⟨none, 0, 0, some ⟨e1, 0, none⟩, 3, 3⟩ else scs ⟨1, 0, 0, 0, [], []⟩ ⟨none, 0, 0, some ⟨e2, 0, none⟩, 1, 1⟩) (fun i hi => by
    have hi2 : i < 2 := hi
    have h3 : i = 0 ∨ i = 1 := by omega
    rcases h3 with rfl | rfl
    all_goals (refine ⟨rfl, fun j hj => ?_⟩; rcases lt6 (show j < 6 from hj) with rfl | rfl | rfl | rfl | rfl | rfl <;> rfl)) (fun i hi => by
    have hi2 : i < 2 := hi
    have h3 : i = 0 ∨ i = 1 := by omega
    rcases h3 with rfl | rfl
    · exact ⟨⟨none, 0, 0, some ⟨e1, 0, none⟩, 3, 3⟩, rfl, ⟨lo_nilP, h1⟩⟩
    · exact ⟨⟨none, 0, 0, some ⟨e2, 0, none⟩, 1, 1⟩, rfl, ⟨lo_nilP, h2⟩⟩) hob (by decide))
set_option maxHeartbeats 8000000 in
theorem loopsOne20_any (w : World) : Calls Tryd.prog 20 #[] w fun e w' => ∃ aP aG aS cP cG cS, e = .returned (.agg #[.int .i64 3, .slice aP 1 cP, .slice aG 1 cG, .slice aS 2 cS]) ∧ HLp (fun _ => True) w' aP aG aS cP cG cS Lo.L1 ∧ Below w.heap.size w w' := by
  have b1 : Below w.heap.size w (w.alloc (.cells #[.int .i64 0, .slice none 0 0, .slice none 0 0, .slice none 0 0] 25 (0, 0))) := (Below.refl _ _).alloc (Nat.le_refl _) _
  have kF := heap_new w (.cells #[.int .i64 0, .slice none 0 0, .slice none 0 0, .slice none 0 0] 25 (0, 0))
  go_enter Tryd.func20, Tryd.ntmps20
  go_upto_region 1 with fail
  have zs : (w.alloc (.cells #[.int .i64 0, .slice none 0 0, .slice none 0 0, .slice none 0 0] 25 (0, 0))).heap.size = w.heap.size + 1 := by simp
  generalize w.alloc (.cells #[.int .i64 0, .slice none 0 0, .slice none 0 0, .slice none 0 0] 25 (0, 0)) = w1 at b1 kF zs ⊢
  have z1 : w1.heap.size = w.heap.size + 1 := zs
  have q0 : ((w1.alloc (.cells #[.int .i64 1] 3 (0, 0)))).heap.size = w1.heap.size + 1 := by simp
  have n0 : ((w1.alloc (.cells #[.int .i64 1] 3 (0, 0)))).heap[w1.heap.size]? = some (.cells #[.int .i64 1] 3 (0, 0)) := by
    have := heap_new w1 (.cells #[.int .i64 1] 3 (0, 0))
    rw [show (w1).heap.size = w1.heap.size from rfl] at this
    exact this
  have q1 : (((w1.alloc (.cells #[.int .i64 1] 3 (0, 0))).alloc (.cells #[.int .i64 2] 3 (0, 0)))).heap.size = w1.heap.size + 1 + 1 := by rw [show (((w1.alloc (.cells #[.int .i64 1] 3 (0, 0))).alloc (.cells #[.int .i64 2] 3 (0, 0)))).heap.size = ((w1.alloc (.cells #[.int .i64 1] 3 (0, 0)))).heap.size + 1 by simp, q0]
  have n1 : (((w1.alloc (.cells #[.int .i64 1] 3 (0, 0))).alloc (.cells #[.int .i64 2] 3 (0, 0)))).heap[w1.heap.size + 1]? = some (.cells #[.int .i64 2] 3 (0, 0)) := by
    have := heap_new (w1.alloc (.cells #[.int .i64 1] 3 (0, 0))) (.cells #[.int .i64 2] 3 (0, 0))
    rw [show ((w1.alloc (.cells #[.int .i64 1] 3 (0, 0)))).heap.size = w1.heap.size + 1 from q0] at this
    exact this
  have q2 : ((((w1.alloc (.cells #[.int .i64 1] 3 (0, 0))).alloc (.cells #[.int .i64 2] 3 (0, 0))).alloc (.cells #[.int .i64 2, .int .i64 0, .int .i64 1, .int .i64 0, .int .i64 2, .int .i64 0, .int .i64 0, .int .i64 0, .int .i64 6, .int .i64 1, .int .i64 0, .int .i64 0] 71 (0, 0)))).heap.size = w1.heap.size + 1 + 1 + 1 := by rw [show ((((w1.alloc (.cells #[.int .i64 1] 3 (0, 0))).alloc (.cells #[.int .i64 2] 3 (0, 0))).alloc (.cells #[.int .i64 2, .int .i64 0, .int .i64 1, .int .i64 0, .int .i64 2, .int .i64 0, .int .i64 0, .int .i64 0, .int .i64 6, .int .i64 1, .int .i64 0, .int .i64 0] 71 (0, 0)))).heap.size = (((w1.alloc (.cells #[.int .i64 1] 3 (0, 0))).alloc (.cells #[.int .i64 2] 3 (0, 0)))).heap.size + 1 by simp, q1]
  have n2 : ((((w1.alloc (.cells #[.int .i64 1] 3 (0, 0))).alloc (.cells #[.int .i64 2] 3 (0, 0))).alloc (.cells #[.int .i64 2, .int .i64 0, .int .i64 1, .int .i64 0, .int .i64 2, .int .i64 0, .int .i64 0, .int .i64 0, .int .i64 6, .int .i64 1, .int .i64 0, .int .i64 0] 71 (0, 0)))).heap[w1.heap.size + 1 + 1]? = some (.cells #[.int .i64 2, .int .i64 0, .int .i64 1, .int .i64 0, .int .i64 2, .int .i64 0, .int .i64 0, .int .i64 0, .int .i64 6, .int .i64 1, .int .i64 0, .int .i64 0] 71 (0, 0)) := by
    have := heap_new ((w1.alloc (.cells #[.int .i64 1] 3 (0, 0))).alloc (.cells #[.int .i64 2] 3 (0, 0))) (.cells #[.int .i64 2, .int .i64 0, .int .i64 1, .int .i64 0, .int .i64 2, .int .i64 0, .int .i64 0, .int .i64 0, .int .i64 6, .int .i64 1, .int .i64 0, .int .i64 0] 71 (0, 0))
    rw [show (((w1.alloc (.cells #[.int .i64 1] 3 (0, 0))).alloc (.cells #[.int .i64 2] 3 (0, 0)))).heap.size = w1.heap.size + 1 + 1 from q1] at this
    exact this
  have q3 : (((((w1.alloc (.cells #[.int .i64 1] 3 (0, 0))).alloc (.cells #[.int .i64 2] 3 (0, 0))).alloc (.cells #[.int .i64 2, .int .i64 0, .int .i64 1, .int .i64 0, .int .i64 2, .int .i64 0, .int .i64 0, .int .i64 0, .int .i64 6, .int .i64 1, .int .i64 0, .int .i64 0] 71 (0, 0))).alloc (.cells #[.int .i64 1, .int .i64 0, .int .i64 0, .int .i64 7] 71 (0, 0)))).heap.size = w1.heap.size + 1 + 1 + 1 + 1 := by rw [show (((((w1.alloc (.cells #[.int .i64 1] 3 (0, 0))).alloc (.cells #[.int .i64 2] 3 (0, 0))).alloc (.cells #[.int .i64 2, .int .i64 0, .int .i64 1, .int .i64 0, .int .i64 2, .int .i64 0, .int .i64 0, .int .i64 0, .int .i64 6, .int .i64 1, .int .i64 0, .int .i64 0] 71 (0, 0))).alloc (.cells #[.int .i64 1, .int .i64 0, .int .i64 0, .int .i64 7] 71 (0, 0)))).heap.size = ((((w1.alloc (.cells #[.int .i64 1] 3 (0, 0))).alloc (.cells #[.int .i64 2] 3 (0, 0))).alloc (.cells #[.int .i64 2, .int .i64 0, .int .i64 1, .int .i64 0, .int .i64 2, .int .i64 0, .int .i64 0, .int .i64 0, .int .i64 6, .int .i64 1, .int .i64 0, .int .i64 0] 71 (0, 0)))).heap.size + 1 by simp, q2]
  have n3 : (((((w1.alloc (.cells #[.int .i64 1] 3 (0, 0))).alloc (.cells #[.int .i64 2] 3 (0, 0))).alloc (.cells #[.int .i64 2, .int .i64 0, .int .i64 1, .int .i64 0, .int .i64 2, .int .i64 0, .int .i64 0, .int .i64 0, .int .i64 6, .int .i64 1, .int .i64 0, .int .i64 0] 71 (0, 0))).alloc (.cells #[.int .i64 1, .int .i64 0, .int .i64 0, .int .i64 7] 71 (0, 0)))).heap[w1.heap.size + 1 + 1 + 1]? = some (.cells #[.int .i64 1, .int .i64 0, .int .i64 0, .int .i64 7] 71 (0, 0)) := by
    have := heap_new (((w1.alloc (.cells #[.int .i64 1] 3 (0, 0))).alloc (.cells #[.int .i64 2] 3 (0, 0))).alloc (.cells #[.int .i64 2, .int .i64 0, .int .i64 1, .int .i64 0, .int .i64 2, .int .i64 0, .int .i64 0, .int .i64 0, .int .i64 6, .int .i64 1, .int .i64 0, .int .i64 0] 71 (0, 0))) (.cells #[.int .i64 1, .int .i64 0, .int .i64 0, .int .i64 7] 71 (0, 0))
    rw [show ((((w1.alloc (.cells #[.int .i64 1] 3 (0, 0))).alloc (.cells #[.int .i64 2] 3 (0, 0))).alloc (.cells #[.int .i64 2, .int .i64 0, .int .i64 1, .int .i64 0, .int .i64 2, .int .i64 0, .int .i64 0, .int .i64 0, .int .i64 6, .int .i64 1, .int .i64 0, .int .i64 0] 71 (0, 0)))).heap.size = w1.heap.size + 1 + 1 + 1 from q2] at this
    exact this
  have q4 : ((((((w1.alloc (.cells #[.int .i64 1] 3 (0, 0))).alloc (.cells #[.int .i64 2] 3 (0, 0))).alloc (.cells #[.int .i64 2, .int .i64 0, .int .i64 1, .int .i64 0, .int .i64 2, .int .i64 0, .int .i64 0, .int .i64 0, .int .i64 6, .int .i64 1, .int .i64 0, .int .i64 0] 71 (0, 0))).alloc (.cells #[.int .i64 1, .int .i64 0, .int .i64 0, .int .i64 7] 71 (0, 0))).alloc (.cells #[.int .i64 1, .int .i64 0, .int .i64 0, .int .i64 2, .slice none 0 0, .slice (some ⟨w1.heap.size + 1 + 1, 0, none⟩) 3 3, .int .i64 1, .int .i64 0, .int .i64 0, .int .i64 0, .slice none 0 0, .slice (some ⟨w1.heap.size + 1 + 1 + 1, 0, none⟩) 1 1] 54 (0, 0)))).heap.size = w1.heap.size + 1 + 1 + 1 + 1 + 1 := by rw [show ((((((w1.alloc (.cells #[.int .i64 1] 3 (0, 0))).alloc (.cells #[.int .i64 2] 3 (0, 0))).alloc (.cells #[.int .i64 2, .int .i64 0, .int .i64 1, .int .i64 0, .int .i64 2, .int .i64 0, .int .i64 0, .int .i64 0, .int .i64 6, .int .i64 1, .int .i64 0, .int .i64 0] 71 (0, 0))).alloc (.cells #[.int .i64 1, .int .i64 0, .int .i64 0, .int .i64 7] 71 (0, 0))).alloc (.cells #[.int .i64 1, .int .i64 0, .int .i64 0, .int .i64 2, .slice none 0 0, .slice (some ⟨w1.heap.size + 1 + 1, 0, none⟩) 3 3, .int .i64 1, .int .i64 0, .int .i64 0, .int .i64 0, .slice none 0 0, .slice (some ⟨w1.heap.size + 1 + 1 + 1, 0, none⟩) 1 1] 54 (0, 0)))).heap.size = (((((w1.alloc (.cells #[.int .i64 1] 3 (0, 0))).alloc (.cells #[.int .i64 2] 3 (0, 0))).alloc (.cells #[.int .i64 2, .int .i64 0, .int .i64 1, .int .i64 0, .int .i64 2, .int .i64 0, .int .i64 0, .int .i64 0, .int .i64 6, .int .i64 1, .int .i64 0, .int .i64 0] 71 (0, 0))).alloc (.cells #[.int .i64 1, .int .i64 0, .int .i64 0, .int .i64 7] 71 (0, 0)))).heap.size + 1 by simp, q3]
  have n4 : ((((((w1.alloc (.cells #[.int .i64 1] 3 (0, 0))).alloc (.cells #[.int .i64 2] 3 (0, 0))).alloc (.cells #[.int .i64 2, .int .i64 0, .int .i64 1, .int .i64 0, .int .i64 2, .int .i64 0, .int .i64 0, .int .i64 0, .int .i64 6, .int .i64 1, .int .i64 0, .int .i64 0] 71 (0, 0))).alloc (.cells #[.int .i64 1, .int .i64 0, .int .i64 0, .int .i64 7] 71 (0, 0))).alloc (.cells #[.int .i64 1, .int .i64 0, .int .i64 0, .int .i64 2, .slice none 0 0, .slice (some ⟨w1.heap.size + 1 + 1, 0, none⟩) 3 3, .int .i64 1, .int .i64 0, .int .i64 0, .int .i64 0, .slice none 0 0, .slice (some ⟨w1.heap.size + 1 + 1 + 1, 0, none⟩) 1 1] 54 (0, 0)))).heap[w1.heap.size + 1 + 1 + 1 + 1]? = some (.cells #[.int .i64 1, .int .i64 0, .int .i64 0, .int .i64 2, .slice none 0 0, .slice (some ⟨w1.heap.size + 1 + 1, 0, none⟩) 3 3, .int .i64 1, .int .i64 0, .int .i64 0, .int .i64 0, .slice none 0 0, .slice (some ⟨w1.heap.size + 1 + 1 + 1, 0, none⟩) 1 1] 54 (0, 0)) := by
    have := heap_new ((((w1.alloc (.cells #[.int .i64 1] 3 (0, 0))).alloc (.cells #[.int .i64 2] 3 (0, 0))).alloc (.cells #[.int .i64 2, .int .i64 0, .int .i64 1, .int .i64 0, .int .i64 2, .int .i64 0, .int .i64 0, .int .i64 0, .int .i64 6, .int .i64 1, .int .i64 0, .int .i64 0] 71 (0, 0))).alloc (.cells #[.int .i64 1, .int .i64 0, .int .i64 0, .int .i64 7] 71 (0, 0))) (.cells #[.int .i64 1, .int .i64 0, .int .i64 0, .int .i64 2, .slice none 0 0, .slice (some ⟨w1.heap.size + 1 + 1, 0, none⟩) 3 3, .int .i64 1, .int .i64 0, .int .i64 0, .int .i64 0, .slice none 0 0, .slice (some ⟨w1.heap.size + 1 + 1 + 1, 0, none⟩) 1 1] 54 (0, 0))
    rw [show (((((w1.alloc (.cells #[.int .i64 1] 3 (0, 0))).alloc (.cells #[.int .i64 2] 3 (0, 0))).alloc (.cells #[.int .i64 2, .int .i64 0, .int .i64 1, .int .i64 0, .int .i64 2, .int .i64 0, .int .i64 0, .int .i64 0, .int .i64 6, .int .i64 1, .int .i64 0, .int .i64 0] 71 (0, 0))).alloc (.cells #[.int .i64 1, .int .i64 0, .int .i64 0, .int .i64 7] 71 (0, 0)))).heap.size = w1.heap.size + 1 + 1 + 1 + 1 from q3] at this
    exact this
  have hb0 : Below w1.heap.size w1 (w1.alloc (.cells #[.int .i64 1] 3 (0, 0))) := (Below.refl _ _).alloc (Nat.le_refl _) _
  have hb1 : Below w1.heap.size w1 ((w1.alloc (.cells #[.int .i64 1] 3 (0, 0))).alloc (.cells #[.int .i64 2] 3 (0, 0))) := hb0.alloc hb0.size _
  have hb2 : Below w1.heap.size w1 (((w1.alloc (.cells #[.int .i64 1] 3 (0, 0))).alloc (.cells #[.int .i64 2] 3 (0, 0))).alloc (.cells #[.int .i64 2, .int .i64 0, .int .i64 1, .int .i64 0, .int .i64 2, .int .i64 0, .int .i64 0, .int .i64 0, .int .i64 6, .int .i64 1, .int .i64 0, .int .i64 0] 71 (0, 0))) := hb1.alloc hb1.size _
  have hb3 : Below w1.heap.size w1 ((((w1.alloc (.cells #[.int .i64 1] 3 (0, 0))).alloc (.cells #[.int .i64 2] 3 (0, 0))).alloc (.cells #[.int .i64 2, .int .i64 0, .int .i64 1, .int .i64 0, .int .i64 2, .int .i64 0, .int .i64 0, .int .i64 0, .int .i64 6, .int .i64 1, .int .i64 0, .int .i64 0] 71 (0, 0))).alloc (.cells #[.int .i64 1, .int .i64 0, .int .i64 0, .int .i64 7] 71 (0, 0))) := hb2.alloc hb2.size _
  have hb4 : Below w1.heap.size w1 (((((w1.alloc (.cells #[.int .i64 1] 3 (0, 0))).alloc (.cells #[.int .i64 2] 3 (0, 0))).alloc (.cells #[.int .i64 2, .int .i64 0, .int .i64 1, .int .i64 0, .int .i64 2, .int .i64 0, .int .i64 0, .int .i64 0, .int .i64 6, .int .i64 1, .int .i64 0, .int .i64 0] 71 (0, 0))).alloc (.cells #[.int .i64 1, .int .i64 0, .int .i64 0, .int .i64 7] 71 (0, 0))).alloc (.cells #[.int .i64 1, .int .i64 0, .int .i64 0, .int .i64 2, .slice none 0 0, .slice (some ⟨w1.heap.size + 1 + 1, 0, none⟩) 3 3, .int .i64 1, .int .i64 0, .int .i64 0, .int .i64 0, .slice none 0 0, .slice (some ⟨w1.heap.size + 1 + 1 + 1, 0, none⟩) 1 1] 54 (0, 0))) := hb3.alloc hb3.size _
  have n0_1 := (Below.heap_alloc (w1.alloc (.cells #[.int .i64 1] 3 (0, 0))) (.cells #[.int .i64 2] 3 (0, 0)) _ (lt_of n0)).trans n0
  have n0_2 := (Below.heap_alloc ((w1.alloc (.cells #[.int .i64 1] 3 (0, 0))).alloc (.cells #[.int .i64 2] 3 (0, 0))) (.cells #[.int .i64 2, .int .i64 0, .int .i64 1, .int .i64 0, .int .i64 2, .int .i64 0, .int .i64 0, .int .i64 0, .int .i64 6, .int .i64 1, .int .i64 0, .int .i64 0] 71 (0, 0)) _ (lt_of n0_1)).trans n0_1
  have n0_3 := (Below.heap_alloc (((w1.alloc (.cells #[.int .i64 1] 3 (0, 0))).alloc (.cells #[.int .i64 2] 3 (0, 0))).alloc (.cells #[.int .i64 2, .int .i64 0, .int .i64 1, .int .i64 0, .int .i64 2, .int .i64 0, .int .i64 0, .int .i64 0, .int .i64 6, .int .i64 1, .int .i64 0, .int .i64 0] 71 (0, 0))) (.cells #[.int .i64 1, .int .i64 0, .int .i64 0, .int .i64 7] 71 (0, 0)) _ (lt_of n0_2)).trans n0_2
  have n0_4 := (Below.heap_alloc ((((w1.alloc (.cells #[.int .i64 1] 3 (0, 0))).alloc (.cells #[.int .i64 2] 3 (0, 0))).alloc (.cells #[.int .i64 2, .int .i64 0, .int .i64 1, .int .i64 0, .int .i64 2, .int .i64 0, .int .i64 0, .int .i64 0, .int .i64 6, .int .i64 1, .int .i64 0, .int .i64 0] 71 (0, 0))).alloc (.cells #[.int .i64 1, .int .i64 0, .int .i64 0, .int .i64 7] 71 (0, 0))) (.cells #[.int .i64 1, .int .i64 0, .int .i64 0, .int .i64 2, .slice none 0 0, .slice (some ⟨w1.heap.size + 1 + 1, 0, none⟩) 3 3, .int .i64 1, .int .i64 0, .int .i64 0, .int .i64 0, .slice none 0 0, .slice (some ⟨w1.heap.size + 1 + 1 + 1, 0, none⟩) 1 1] 54 (0, 0)) _ (lt_of n0_3)).trans n0_3
  have n1_2 := (Below.heap_alloc ((w1.alloc (.cells #[.int .i64 1] 3 (0, 0))).alloc (.cells #[.int .i64 2] 3 (0, 0))) (.cells #[.int .i64 2, .int .i64 0, .int .i64 1, .int .i64 0, .int .i64 2, .int .i64 0, .int .i64 0, .int .i64 0, .int .i64 6, .int .i64 1, .int .i64 0, .int .i64 0] 71 (0, 0)) _ (lt_of n1)).trans n1
  have n1_3 := (Below.heap_alloc (((w1.alloc (.cells #[.int .i64 1] 3 (0, 0))).alloc (.cells #[.int .i64 2] 3 (0, 0))).alloc (.cells #[.int .i64 2, .int .i64 0, .int .i64 1, .int .i64 0, .int .i64 2, .int .i64 0, .int .i64 0, .int .i64 0, .int .i64 6, .int .i64 1, .int .i64 0, .int .i64 0] 71 (0, 0))) (.cells #[.int .i64 1, .int .i64 0, .int .i64 0, .int .i64 7] 71 (0, 0)) _ (lt_of n1_2)).trans n1_2
  have n1_4 := (Below.heap_alloc ((((w1.alloc (.cells #[.int .i64 1] 3 (0, 0))).alloc (.cells #[.int .i64 2] 3 (0, 0))).alloc (.cells #[.int .i64 2, .int .i64 0, .int .i64 1, .int .i64 0, .int .i64 2, .int .i64 0, .int .i64 0, .int .i64 0, .int .i64 6, .int .i64 1, .int .i64 0, .int .i64 0] 71 (0, 0))).alloc (.cells #[.int .i64 1, .int .i64 0, .int .i64 0, .int .i64 7] 71 (0, 0))) (.cells #[.int .i64 1, .int .i64 0, .int .i64 0, .int .i64 2, .slice none 0 0, .slice (some ⟨w1.heap.size + 1 + 1, 0, none⟩) 3 3, .int .i64 1, .int .i64 0, .int .i64 0, .int .i64 0, .slice none 0 0, .slice (some ⟨w1.heap.size + 1 + 1 + 1, 0, none⟩) 1 1] 54 (0, 0)) _ (lt_of n1_3)).trans n1_3
  have n2_3 := (Below.heap_alloc (((w1.alloc (.cells #[.int .i64 1] 3 (0, 0))).alloc (.cells #[.int .i64 2] 3 (0, 0))).alloc (.cells #[.int .i64 2, .int .i64 0, .int .i64 1, .int .i64 0, .int .i64 2, .int .i64 0, .int .i64 0, .int .i64 0, .int .i64 6, .int .i64 1, .int .i64 0, .int .i64 0] 71 (0, 0))) (.cells #[.int .i64 1, .int .i64 0, .int .i64 0, .int .i64 7] 71 (0, 0)) _ (lt_of n2)).trans n2
  have n2_4 := (Below.heap_alloc ((((w1.alloc (.cells #[.int .i64 1] 3 (0, 0))).alloc (.cells #[.int .i64 2] 3 (0, 0))).alloc (.cells #[.int .i64 2, .int .i64 0, .int .i64 1, .int .i64 0, .int .i64 2, .int .i64 0, .int .i64 0, .int .i64 0, .int .i64 6, .int .i64 1, .int .i64 0, .int .i64 0] 71 (0, 0))).alloc (.cells #[.int .i64 1, .int .i64 0, .int .i64 0, .int .i64 7] 71 (0, 0))) (.cells #[.int .i64 1, .int .i64 0, .int .i64 0, .int .i64 2, .slice none 0 0, .slice (some ⟨w1.heap.size + 1 + 1, 0, none⟩) 3 3, .int .i64 1, .int .i64 0, .int .i64 0, .int .i64 0, .slice none 0 0, .slice (some ⟨w1.heap.size + 1 + 1 + 1, 0, none⟩) 1 1] 54 (0, 0)) _ (lt_of n2_3)).trans n2_3
  have n3_4 := (Below.heap_alloc ((((w1.alloc (.cells #[.int .i64 1] 3 (0, 0))).alloc (.cells #[.int .i64 2] 3 (0, 0))).alloc (.cells #[.int .i64 2, .int .i64 0, .int .i64 1, .int .i64 0, .int .i64 2, .int .i64 0, .int .i64 0, .int .i64 0, .int .i64 6, .int .i64 1, .int .i64 0, .int .i64 0] 71 (0, 0))).alloc (.cells #[.int .i64 1, .int .i64 0, .int .i64 0, .int .i64 7] 71 (0, 0))) (.cells #[.int .i64 1, .int .i64 0, .int .i64 0, .int .i64 2, .slice none 0 0, .slice (some ⟨w1.heap.size + 1 + 1, 0, none⟩) 3 3, .int .i64 1, .int .i64 0, .int .i64 0, .int .i64 0, .slice none 0 0, .slice (some ⟨w1.heap.size + 1 + 1 + 1, 0, none⟩) 1 1] 54 (0, 0)) _ (lt_of n3)).trans n3
  have kF5 := (hb4.block _ (lt_of kF)).trans kF
  have hb := hb4
  obtain ⟨W, hW⟩ : ∃ W, W = (((((w1.alloc (.cells #[.int .i64 1] 3 (0, 0))).alloc (.cells #[.int .i64 2] 3 (0, 0))).alloc (.cells #[.int .i64 2, .int .i64 0, .int .i64 1, .int .i64 0, .int .i64 2, .int .i64 0, .int .i64 0, .int .i64 0, .int .i64 6, .int .i64 1, .int .i64 0, .int .i64 0] 71 (0, 0))).alloc (.cells #[.int .i64 1, .int .i64 0, .int .i64 0, .int .i64 7] 71 (0, 0))).alloc (.cells #[.int .i64 1, .int .i64 0, .int .i64 0, .int .i64 2, .slice none 0 0, .slice (some ⟨w1.heap.size + 1 + 1, 0, none⟩) 3 3, .int .i64 1, .int .i64 0, .int .i64 0, .int .i64 0, .slice none 0 0, .slice (some ⟨w1.heap.size + 1 + 1 + 1, 0, none⟩) 1 1] 54 (0, 0))) := ⟨_, rfl⟩
  have n0w : W.heap[w1.heap.size]? = some (.cells #[.int .i64 1] 3 (0, 0)) := by rw [hW]; exact n0_4
  have N0 := hide n0w
  clear n0w
  have n1w : W.heap[w1.heap.size + 1]? = some (.cells #[.int .i64 2] 3 (0, 0)) := by rw [hW]; exact n1_4
  have N1 := hide n1w
  clear n1w
  have n2w : W.heap[w1.heap.size + 1 + 1]? = some (.cells #[.int .i64 2, .int .i64 0, .int .i64 1, .int .i64 0, .int .i64 2, .int .i64 0, .int .i64 0, .int .i64 0, .int .i64 6, .int .i64 1, .int .i64 0, .int .i64 0] 71 (0, 0)) := by rw [hW]; exact n2_4
  have N2 := hide n2w
  clear n2w
  have n3w : W.heap[w1.heap.size + 1 + 1 + 1]? = some (.cells #[.int .i64 1, .int .i64 0, .int .i64 0, .int .i64 7] 71 (0, 0)) := by rw [hW]; exact n3_4
  have N3 := hide n3w
  clear n3w
  have n4w : W.heap[w1.heap.size + 1 + 1 + 1 + 1]? = some (.cells #[.int .i64 1, .int .i64 0, .int .i64 0, .int .i64 2, .slice none 0 0, .slice (some ⟨w1.heap.size + 1 + 1, 0, none⟩) 3 3, .int .i64 1, .int .i64 0, .int .i64 0, .int .i64 0, .slice none 0 0, .slice (some ⟨w1.heap.size + 1 + 1 + 1, 0, none⟩) 1 1] 54 (0, 0)) := by rw [hW]; exact n4
  have N4 := hide n4w
  clear n4w
  rw [← hW] at hb kF5
  clear q0 n0 q1 n1 q2 n2 q3 n3 q4 n4 n0_1 n0_2 n0_3 n0_4 n1_2 n1_3 n1_4 n2_3 n2_4 n3_4 hb0 hb1 hb2 hb3 hb4
  have HW := hide hW
  clear hW zs
  have s0 := cell_of kF5 0
  have s1 := cell_of kF5 1
  have s2 := cell_of kF5 2
  have s3 := cell_of kF5 3
  have f0 := free_of kF5 0
  have f1 := free_of kF5 1
  have f2 := free_of kF5 2
  have f3 := free_of kF5 3
  simp at s0 s1 s2 s3
  have hWE := HW.out
  rw [hWE] at s0 s1 s2 s3 f0 f1 f2 f3
  clear hWE z1
  go_wp2
  rw [← HW.out]
  have KE := set_in (set_in (set_in (set_in kF5 0 (.int .i64 3)) 1 (.slice (some ⟨w1.heap.size, 0, none⟩) 1 1)) 2 (.slice (some ⟨w1.heap.size + 1, 0, none⟩) 1 1)) 3 (.slice (some ⟨w1.heap.size + 1 + 1 + 1 + 1, 0, none⟩) 2 2)
  have r0 := cell_of KE 0
  have r1 := cell_of KE 1
  have r2 := cell_of KE 2
  have r3 := cell_of KE 3
  simp at r0 r1 r2 r3
  have aE : Aside [w.heap.size] W.heap.size W ((((W.setCell ⟨w.heap.size, 0, none⟩ (.int .i64 3)).setCell ⟨w.heap.size, 1, none⟩ (.slice (some ⟨w1.heap.size, 0, none⟩) 1 1)).setCell ⟨w.heap.size, 2, none⟩ (.slice (some ⟨w1.heap.size + 1, 0, none⟩) 1 1)).setCell ⟨w.heap.size, 3, none⟩ (.slice (some ⟨w1.heap.size + 1 + 1 + 1 + 1, 0, none⟩) 2 2)) :=
    (((Aside.setCell (p := ⟨w.heap.size, 0, none⟩) (by simp) _).trans (Aside.setCell (B := W.heap.size) (p := ⟨w.heap.size, 1, none⟩) (by simp) _) (Nat.le_refl _)).trans (Aside.setCell (B := W.heap.size) (p := ⟨w.heap.size, 2, none⟩) (by simp) _) (Nat.le_refl _)).trans (Aside.setCell (B := W.heap.size) (p := ⟨w.heap.size, 3, none⟩) (by simp) _) (Nat.le_refl _)
  have BE := ((((b1.trans (hb.mono b1.size)).setCell (p := ⟨w.heap.size, 0, none⟩) (Nat.le_refl _) (.int .i64 3)).setCell (p := ⟨w.heap.size, 1, none⟩) (Nat.le_refl _) (.slice (some ⟨w1.heap.size, 0, none⟩) 1 1)).setCell (p := ⟨w.heap.size, 2, none⟩) (Nat.le_refl _) (.slice (some ⟨w1.heap.size + 1, 0, none⟩) 1 1)).setCell (p := ⟨w.heap.size, 3, none⟩) (Nat.le_refl _) (.slice (some ⟨w1.heap.size + 1 + 1 + 1 + 1, 0, none⟩) 2 2)
  have yy := lt_of kF
  have m0 := aE.keep N0.out (lt_of N0.out) (by simp; omega)
  have m1 := aE.keep N1.out (lt_of N1.out) (by simp; omega)
  have m2 := aE.keep N2.out (lt_of N2.out) (by simp; omega)
  have m3 := aE.keep N3.out (lt_of N3.out) (by simp; omega)
  have m4 := aE.keep N4.out (lt_of N4.out) (by simp; omega)
  refine bodyPost_ret (v := .agg #[.int .i64 3, .slice (some ⟨w1.heap.size, 0, none⟩) 1 1, .slice (some ⟨w1.heap.size + 1, 0, none⟩) 1 1, .slice (some ⟨w1.heap.size + 1 + 1 + 1 + 1, 0, none⟩) 2 2]) (by simp [results, Tryd.results20, go_sem, r0, r1, r2, r3]) rfl ⟨_, _, _, _, _, _, rfl, ⟨lo_one m0 trivial, lo_one m1 trivial, lo_S m4 trivial (lo_E1 m2 trivial) (lo_E2 m3 trivial), ?_⟩, BE⟩
  intro s hs
  have hs2 : s = ⟨1, 0, 0, 2, [], [⟨2, 0, 1, 0⟩, ⟨2, 0, 0, 0⟩, ⟨6, 1, 0, 0⟩]⟩ ∨ s = ⟨1, 0, 0, 0, [], [⟨1, 0, 0, 7⟩]⟩ := by simpa [Lo.L1] using hs
  rcases hs2 with rfl | rfl
  · refine ⟨(by intro p hp; cases hp), ?_⟩
    intro p hp
    have hp2 : p = ⟨2, 0, 1, 0⟩ ∨ p = ⟨2, 0, 0, 0⟩ ∨ p = ⟨6, 1, 0, 0⟩ := by simpa using hp
    rcases hp2 with rfl | rfl | rfl <;> (unfold I64; decide)
  · refine ⟨(by intro p hp; cases hp), ?_⟩
    intro p hp
    have hp2 : p = ⟨1, 0, 0, 7⟩ := by simpa using hp
    subst hp2
    unfold I64
    decide
end Go.Proofs.YtgjdkgkgbmbffaaDoor
