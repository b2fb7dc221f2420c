import Derived.Test.YtfipfdpohkafaaaDoorQ40
import Derived.WalkKit
import Derived.WalkSpells
import Derived.IntWalk
import Derived.Lib.Hide
import Derived.Deep.Cut
import Derived.Deep.LoopGhost
import Derived.Laws.Cover1
set_option linter.unusedVariables false
set_option linter.unusedSimpArgs false
set_option maxHeartbeats 64000000
set_option maxRecDepth 100000
namespace Go.Proofs.YtfipfdpohkafaaaDoor
open Go.RowKit Go.IntWalk
set_option linter.unusedVariables false
set_option linter.unusedSimpArgs false
namespace Cd
def L1 : List In := [⟨1, 0, 0, 0, 0, 0⟩, ⟨10, 0, 0, 0, 0, 3⟩, ⟨9, 0, 0, 0, 0, 0⟩, ⟨11, 0, 0, 0, 0, 0⟩, ⟨4, 0, 0, 0, 0, 0⟩]
theorem L1_cost : cost 10 11 L1 = 9 := by decide +kernel
theorem L1_fault : fault ⟨1, 1, 9, [], [], [], L1⟩ = (0, 0) := by decide +kernel
theorem lt5 {i : Nat} (h : i < 5) : i = 0 ∨ i = 1 ∨ i = 2 ∨ i = 3 ∨ i = 4 := by omega
end Cd
theorem l1_row {ok : Nat → Prop} {w : World} {b : Nat} (k : w.heap[b]? = some (.cells #[.int .i64 1, .int .i64 0, .int .i64 0, .int .i64 0, .int .i64 0, .int .i64 0, .int .i64 10, .int .i64 0, .int .i64 0, .int .i64 0, .int .i64 0, .int .i64 3, .int .i64 9, .int .i64 0, .int .i64 0, .int .i64 0, .int .i64 0, .int .i64 0, .int .i64 11, .int .i64 0, .int .i64 0, .int .i64 0, .int .i64 0, .int .i64 0, .int .i64 4, .int .i64 0, .int .i64 0, .int .i64 0, .int .i64 0, .int .i64 0] 35 (0, 0))) (hob : ok b) : HIns ok w (.slice (some ⟨b, 0, none⟩) 5 5) Cd.L1 :=
  blk_row kIn (l := Cd.L1) k (fun i => (Cd.L1.getD i ⟨0, 0, 0, 0, 0, 0⟩).cs) (fun i hi => by
    rcases Cd.lt5 (show i < 5 from hi) with rfl | rfl | rfl | rfl | rfl
    all_goals exact ⟨rfl, fun j hj => by
      rcases lt6 (show j < 6 from hj) with rfl | rfl | rfl | rfl | rfl | rfl <;> rfl⟩) (fun i hi => by
    rcases Cd.lt5 (show i < 5 from hi) with rfl | rfl | rfl | rfl | rfl <;> rfl) hob (show 5 ≤ maxLen by decide)
set_option maxHeartbeats 8000000 in
theorem codeBegun5_any {w : World} (hK : GlobK w) : Calls Tryd.prog 5 #[] w fun e w' => e = .returned (.bool true) ∧ Below w.heap.size w w' := by
  have b1 : Below w.heap.size w (w.alloc (.cells #[.int .i64 1, .int .i64 0, .int .i64 0, .int .i64 0, .int .i64 0, .int .i64 0, .int .i64 10, .int .i64 0, .int .i64 0, .int .i64 0, .int .i64 0, .int .i64 3, .int .i64 9, .int .i64 0, .int .i64 0, .int .i64 0, .int .i64 0, .int .i64 0, .int .i64 11, .int .i64 0, .int .i64 0, .int .i64 0, .int .i64 0, .int .i64 0, .int .i64 4, .int .i64 0, .int .i64 0, .int .i64 0, .int .i64 0, .int .i64 0] 35 (0, 0))) := (Below.refl _ _).alloc (Nat.le_refl _) _
  have k1 := heap_new w (.cells #[.int .i64 1, .int .i64 0, .int .i64 0, .int .i64 0, .int .i64 0, .int .i64 0, .int .i64 10, .int .i64 0, .int .i64 0, .int .i64 0, .int .i64 0, .int .i64 3, .int .i64 9, .int .i64 0, .int .i64 0, .int .i64 0, .int .i64 0, .int .i64 0, .int .i64 11, .int .i64 0, .int .i64 0, .int .i64 0, .int .i64 0, .int .i64 0, .int .i64 4, .int .i64 0, .int .i64 0, .int .i64 0, .int .i64 0, .int .i64 0] 35 (0, 0))
  have HL := hide (l1_row (ok := fun _ => True) k1 trivial)
  have H10 := hide (fun (W : World) (b : Below (w.alloc (.cells #[.int .i64 1, .int .i64 0, .int .i64 0, .int .i64 0, .int .i64 0, .int .i64 0, .int .i64 10, .int .i64 0, .int .i64 0, .int .i64 0, .int .i64 0, .int .i64 3, .int .i64 9, .int .i64 0, .int .i64 0, .int .i64 0, .int .i64 0, .int .i64 0, .int .i64 11, .int .i64 0, .int .i64 0, .int .i64 0, .int .i64 0, .int .i64 0, .int .i64 4, .int .i64 0, .int .i64 0, .int .i64 0, .int .i64 0, .int .i64 0] 35 (0, 0))).heap.size (w.alloc (.cells #[.int .i64 1, .int .i64 0, .int .i64 0, .int .i64 0, .int .i64 0, .int .i64 0, .int .i64 10, .int .i64 0, .int .i64 0, .int .i64 0, .int .i64 0, .int .i64 3, .int .i64 9, .int .i64 0, .int .i64 0, .int .i64 0, .int .i64 0, .int .i64 0, .int .i64 11, .int .i64 0, .int .i64 0, .int .i64 0, .int .i64 0, .int .i64 0, .int .i64 4, .int .i64 0, .int .i64 0, .int .i64 0, .int .i64 0, .int .i64 0] 35 (0, 0))) W) => (show Calls Tryd.prog 10 #[.slice (some ⟨w.heap.size, 0, none⟩) 5 5] W fun e w' => e = .returned (.int .i64 9) ∧ Below W.heap.size W w' by
    have h := cost10_any (ok := fun _ => True) (aL := some ⟨w.heap.size, 0, none⟩) (cL := 5) (l := Cd.L1) (w := W) (HL.out.under b) (by decide)
    rw [Cd.L1_cost] at h
    exact h))
  have nil : ∀ W : World, HInts (fun _ => True) W (.slice none 0 0) [] := fun W => ⟨fun _ => [], ⟨none, 0, rfl, Nat.zero_le _, Nat.zero_le _, fun h => absurd h (by decide)⟩, fun i h => absurd h (Nat.not_lt_zero _)⟩
  have H8 := hide (fun (W : World) (b : Below (w.alloc (.cells #[.int .i64 1, .int .i64 0, .int .i64 0, .int .i64 0, .int .i64 0, .int .i64 0, .int .i64 10, .int .i64 0, .int .i64 0, .int .i64 0, .int .i64 0, .int .i64 3, .int .i64 9, .int .i64 0, .int .i64 0, .int .i64 0, .int .i64 0, .int .i64 0, .int .i64 11, .int .i64 0, .int .i64 0, .int .i64 0, .int .i64 0, .int .i64 0, .int .i64 4, .int .i64 0, .int .i64 0, .int .i64 0, .int .i64 0, .int .i64 0] 35 (0, 0))).heap.size (w.alloc (.cells #[.int .i64 1, .int .i64 0, .int .i64 0, .int .i64 0, .int .i64 0, .int .i64 0, .int .i64 10, .int .i64 0, .int .i64 0, .int .i64 0, .int .i64 0, .int .i64 3, .int .i64 9, .int .i64 0, .int .i64 0, .int .i64 0, .int .i64 0, .int .i64 0, .int .i64 11, .int .i64 0, .int .i64 0, .int .i64 0, .int .i64 0, .int .i64 0, .int .i64 4, .int .i64 0, .int .i64 0, .int .i64 0, .int .i64 0, .int .i64 0] 35 (0, 0))) W) => (show Calls Tryd.prog 8 #[.agg #[.int .i64 1, .int .i64 1, .int .i64 9, .slice none 0 0, .slice none 0 0, .slice none 0 0, .slice (some ⟨w.heap.size, 0, none⟩) 5 5]] W fun e w' => e = .returned (.agg #[.int .i64 0, .int .i64 0]) ∧ Below W.heap.size W w' by
    have h := check8_any (m := ⟨1, 1, 9, [], [], [], Cd.L1⟩) (aP := none) (aB := none) (aG := none) (aL := some ⟨w.heap.size, 0, none⟩) (cP := 0) (cB := 0) (cG := 0) (cL := 5) ((hK.under b1).under b) ⟨nil W, nil W, nil W, HL.out.under b, by
      intro i hi
      simp only [Cd.L1, List.mem_cons, List.not_mem_nil, or_false] at hi
      rcases hi with rfl | rfl | rfl | rfl | rfl <;> exact ⟨by decide, by decide⟩⟩
    rw [Cd.L1_fault] at h
    exact h))
  clear hK HL nil
  go_enter Tryd.func5, Tryd.ntmps5
  go_upto_region 2 with fail
  generalize w.alloc (.cells #[.int .i64 1, .int .i64 0, .int .i64 0, .int .i64 0, .int .i64 0, .int .i64 0, .int .i64 10, .int .i64 0, .int .i64 0, .int .i64 0, .int .i64 0, .int .i64 3, .int .i64 9, .int .i64 0, .int .i64 0, .int .i64 0, .int .i64 0, .int .i64 0, .int .i64 11, .int .i64 0, .int .i64 0, .int .i64 0, .int .i64 0, .int .i64 0, .int .i64 4, .int .i64 0, .int .i64 0, .int .i64 0, .int .i64 0, .int .i64 0] 35 (0, 0)) = w1 at b1 k1 H10 H8 ⊢
  clear k1
  go_wp2_with fail
  refine (H10.out w1 (Below.refl _ _)).mono ?_
  rintro e w2 ⟨rfl, b2⟩
  go_wp2_with fail
  refine (H8.out w2 b2).mono ?_
  rintro e w3 ⟨rfl, b3⟩
  have B3 := (b1.trans (b2.mono b1.size)).trans (b3.mono (b1.trans (b2.mono b1.size)).size)
  have hfld : ∀ W, (Instr.field 30 (.agg #[.int .i64 0, .int .i64 0]) 0).run Tryd.prog W = .ok (.int .i64 0) W := fun W => by kernel_rfl
  go_wp2
  go_ret
  exact ⟨rfl, B3⟩
end Go.Proofs.YtfipfdpohkafaaaDoor
