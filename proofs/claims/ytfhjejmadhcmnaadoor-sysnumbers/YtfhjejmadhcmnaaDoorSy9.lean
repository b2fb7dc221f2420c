/-
  DERIVED. THE WALK of the law of sys.Apply.
-/
import Derived.Test.YtfhjejmadhcmnaaDoorSy8
namespace Go.Proofs.YtfhjejmadhcmnaaDoor
open Go.RowKit Go.IntWalk
set_option linter.unusedVariables false
set_option linter.unusedSimpArgs false
set_option maxRecDepth 100000

set_option maxHeartbeats 2000000 in
theorem applies_walk (k a b : Int) (w : World) (ha : I64 a) (hb : I64 b) : Calls Tryd.prog 4 #[.int .i64 k, .int .i64 a, .int .i64 b] w fun e w' => e = .returned (.bool true) ∧ Below w.heap.size w w' := by
  have h6 := begun_any w
  have h11 := fun w => apply_any k a b w
  have h12 := fun w => refApply_any k a b w ha hb
  generalize apT k a b = x at h11 h12
  clear ha hb
  go_enter Tryd.func4, Tryd.ntmps4
  go_wp2_with fail
  refine h6.mono ?_
  rintro e w1 ⟨rfl, b1⟩
  go_wp2_with (first | (go_at_call 11; refine (h11 _).mono ?_; rintro e w' ⟨rfl, rfl⟩) | (go_at_call 12; refine (h12 _).mono ?_; rintro e w' ⟨rfl, rfl⟩))
  go_ret
  exact ⟨by simp, b1⟩
end Go.Proofs.YtfhjejmadhcmnaaDoor
