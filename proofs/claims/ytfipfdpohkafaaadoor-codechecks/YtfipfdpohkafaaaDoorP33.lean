import Derived.Test.YtfipfdpohkafaaaDoorP29
import Derived.Deep.Cut
set_option linter.unusedVariables false
set_option linter.unusedSimpArgs false
set_option maxHeartbeats 64000000
set_option maxRecDepth 100000
namespace Go.Proofs.YtfipfdpohkafaaaDoor
open Go.RowKit Go.IntWalk
set_option linter.unusedVariables false
set_option linter.unusedSimpArgs false
theorem f27_any (c a : Int) (w : World) : Calls Tryd.prog 18 #[.int .i64 c, .int .i64 a] w fun e w' => e = .returned (.agg #[.int .i64 c, .int .i64 a]) ∧ Below w.heap.size w w' := by
  have b1 : Below w.heap.size w (w.alloc (.cells #[.int .i64 0, .int .i64 0] 30 (0, 0))) := (Below.refl _ _).alloc (Nat.le_refl _) _
  have kF := heap_new w (.cells #[.int .i64 0, .int .i64 0] 30 (0, 0))
  go_enter Tryd.func18, Tryd.ntmps18
  go_upto_region 1 with fail
  generalize w.alloc (.cells #[.int .i64 0, .int .i64 0] 30 (0, 0)) = w1 at b1 kF ⊢
  have s0 := cell_of kF 0
  have s1 := cell_of kF 1
  have f0 := free_of kF 0
  have f1 := free_of kF 1
  simp at s0 s1
  have KE := set_in (set_in kF 0 (.int .i64 c)) 1 (.int .i64 a)
  have BE := (b1.setCell (p := ⟨w.heap.size, 0, none⟩) (Nat.le_refl _) (.int .i64 c)).setCell (p := ⟨w.heap.size, 1, none⟩) (Nat.le_refl _) (.int .i64 a)
  have t0 := cell_of KE 0
  have t1 := cell_of KE 1
  simp at t0 t1
  clear KE
  go_wp2
  exact bodyPost_ret (v := .agg #[.int .i64 c, .int .i64 a]) (by simp [results, Tryd.results18, go_sem, t0, t1]) rfl ⟨rfl, BE⟩
namespace Sk
end Sk
end Go.Proofs.YtfipfdpohkafaaaDoor
