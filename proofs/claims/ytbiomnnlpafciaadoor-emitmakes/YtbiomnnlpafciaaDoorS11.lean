import Derived.Test.YtbiomnnlpafciaaDoorS05
set_option linter.unusedVariables false
set_option linter.unusedSimpArgs false
set_option maxHeartbeats 64000000
set_option maxRecDepth 100000
namespace Go.Proofs.YtbiomnnlpafciaaDoor
open Go.RowKit Go.IntWalk
set_option linter.unusedVariables false
set_option linter.unusedSimpArgs false
set_option maxHeartbeats 16000000 in
theorem refOp_any (k : Int) (w : World) :
    Calls Tryd.prog 59 #[.int .i64 k] w fun r w' => r = .returned (.tuple #[.int .u8 (Kd.opT k).1, .int .u8 (Kd.opT k).2.1, .int .i64 (Kd.opT k).2.2]) ∧ Below w.heap.size w w' := by
  by_cases h1 : k < 1
  · have e : Kd.opT k = (0, 0, 0) := by
      unfold Kd.opT
      by_cases h0 : k < 0
      · rw [if_pos (.inl h0)]
      · have : k = 0 := by omega
        subst this
        rfl
    rw [e]
    go_enter Tryd.func59, Tryd.ntmps59
    go_wp2
    exact bodyPost_ret (v := .tuple #[.int .u8 0, .int .u8 0, .int .i64 0]) (by simp [results, Tryd.results59, go_sem]) rfl ⟨rfl, Below.refl _ _⟩
  · by_cases h2 : 14 < k
    · have e : Kd.opT k = (0, 0, 0) := by
        unfold Kd.opT
        rw [if_pos (.inr (by omega))]
      rw [e]
      go_enter Tryd.func59, Tryd.ntmps59
      go_wp2
      exact bodyPost_ret (v := .tuple #[.int .u8 0, .int .u8 0, .int .i64 0]) (by simp [results, Tryd.results59, go_sem]) rfl ⟨rfl, Below.refl _ _⟩
    · have hk : k = 1 ∨ k = 2 ∨ k = 3 ∨ k = 4 ∨ k = 5 ∨ k = 6 ∨ k = 7 ∨ k = 8 ∨ k = 9 ∨ k = 10 ∨ k = 11 ∨ k = 12 ∨ k = 13 ∨ k = 14 := by omega
      clear h1 h2
      rcases hk with rfl | rfl | rfl | rfl | rfl | rfl | rfl | rfl | rfl | rfl | rfl | rfl | rfl | rfl
      · have e : Kd.opT 1 = (105, 105, 2) := by decide
        rw [e]
        clear e
        go_enter Tryd.func59, Tryd.ntmps59
        go_upto_region 8 with fail
        go_quiet (fail)
        go_wp2
        exact bodyPost_ret (v := .tuple #[.int .u8 105, .int .u8 105, .int .i64 2]) (by simp [results, Tryd.results59, go_sem]; exact ⟨rfl, rfl⟩) rfl ⟨rfl, drewN_below (Below.refl _ _) _⟩
      · have e : Kd.opT 2 = (105, 105, 2) := by decide
        rw [e]
        clear e
        go_enter Tryd.func59, Tryd.ntmps59
        go_upto_region 8 with fail
        go_quiet (fail)
        go_wp2
        exact bodyPost_ret (v := .tuple #[.int .u8 105, .int .u8 105, .int .i64 2]) (by simp [results, Tryd.results59, go_sem]; exact ⟨rfl, rfl⟩) rfl ⟨rfl, drewN_below (Below.refl _ _) _⟩
      · have e : Kd.opT 3 = (105, 105, 2) := by decide
        rw [e]
        clear e
        go_enter Tryd.func59, Tryd.ntmps59
        go_upto_region 8 with fail
        go_quiet (fail)
        go_wp2
        exact bodyPost_ret (v := .tuple #[.int .u8 105, .int .u8 105, .int .i64 2]) (by simp [results, Tryd.results59, go_sem]; exact ⟨rfl, rfl⟩) rfl ⟨rfl, drewN_below (Below.refl _ _) _⟩
      · have e : Kd.opT 4 = (105, 105, 2) := by decide
        rw [e]
        clear e
        go_enter Tryd.func59, Tryd.ntmps59
        go_upto_region 8 with fail
        go_quiet (fail)
        go_wp2
        exact bodyPost_ret (v := .tuple #[.int .u8 105, .int .u8 105, .int .i64 2]) (by simp [results, Tryd.results59, go_sem]; exact ⟨rfl, rfl⟩) rfl ⟨rfl, drewN_below (Below.refl _ _) _⟩
      · have e : Kd.opT 5 = (105, 105, 2) := by decide
        rw [e]
        clear e
        go_enter Tryd.func59, Tryd.ntmps59
        go_upto_region 8 with fail
        go_quiet (fail)
        go_wp2
        exact bodyPost_ret (v := .tuple #[.int .u8 105, .int .u8 105, .int .i64 2]) (by simp [results, Tryd.results59, go_sem]; exact ⟨rfl, rfl⟩) rfl ⟨rfl, drewN_below (Below.refl _ _) _⟩
      · have e : Kd.opT 6 = (105, 105, 2) := by decide
        rw [e]
        clear e
        go_enter Tryd.func59, Tryd.ntmps59
        go_upto_region 8 with fail
        go_quiet (fail)
        go_wp2
        exact bodyPost_ret (v := .tuple #[.int .u8 105, .int .u8 105, .int .i64 2]) (by simp [results, Tryd.results59, go_sem]; exact ⟨rfl, rfl⟩) rfl ⟨rfl, drewN_below (Below.refl _ _) _⟩
      · have e : Kd.opT 7 = (105, 105, 2) := by decide
        rw [e]
        clear e
        go_enter Tryd.func59, Tryd.ntmps59
        go_upto_region 8 with fail
        go_quiet (fail)
        go_wp2
        exact bodyPost_ret (v := .tuple #[.int .u8 105, .int .u8 105, .int .i64 2]) (by simp [results, Tryd.results59, go_sem]; exact ⟨rfl, rfl⟩) rfl ⟨rfl, drewN_below (Below.refl _ _) _⟩
      · have e : Kd.opT 8 = (105, 98, 2) := by decide
        rw [e]
        clear e
        go_enter Tryd.func59, Tryd.ntmps59
        go_upto_region 8 with fail
        go_quiet (fail)
        go_wp2
        exact bodyPost_ret (v := .tuple #[.int .u8 105, .int .u8 98, .int .i64 2]) (by simp [results, Tryd.results59, go_sem]; exact ⟨rfl, rfl⟩) rfl ⟨rfl, drewN_below (Below.refl _ _) _⟩
      · have e : Kd.opT 9 = (105, 98, 2) := by decide
        rw [e]
        clear e
        go_enter Tryd.func59, Tryd.ntmps59
        go_upto_region 8 with fail
        go_quiet (fail)
        go_wp2
        exact bodyPost_ret (v := .tuple #[.int .u8 105, .int .u8 98, .int .i64 2]) (by simp [results, Tryd.results59, go_sem]; exact ⟨rfl, rfl⟩) rfl ⟨rfl, drewN_below (Below.refl _ _) _⟩
      · have e : Kd.opT 10 = (98, 98, 2) := by decide
        rw [e]
        clear e
        go_enter Tryd.func59, Tryd.ntmps59
        go_upto_region 8 with fail
        go_quiet (fail)
        go_wp2
        exact bodyPost_ret (v := .tuple #[.int .u8 98, .int .u8 98, .int .i64 2]) (by simp [results, Tryd.results59, go_sem]; exact ⟨rfl, rfl⟩) rfl ⟨rfl, drewN_below (Below.refl _ _) _⟩
      · have e : Kd.opT 11 = (98, 98, 2) := by decide
        rw [e]
        clear e
        go_enter Tryd.func59, Tryd.ntmps59
        go_upto_region 8 with fail
        go_quiet (fail)
        go_wp2
        exact bodyPost_ret (v := .tuple #[.int .u8 98, .int .u8 98, .int .i64 2]) (by simp [results, Tryd.results59, go_sem]; exact ⟨rfl, rfl⟩) rfl ⟨rfl, drewN_below (Below.refl _ _) _⟩
      · have e : Kd.opT 12 = (98, 98, 2) := by decide
        rw [e]
        clear e
        go_enter Tryd.func59, Tryd.ntmps59
        go_upto_region 8 with fail
        go_quiet (fail)
        go_wp2
        exact bodyPost_ret (v := .tuple #[.int .u8 98, .int .u8 98, .int .i64 2]) (by simp [results, Tryd.results59, go_sem]; exact ⟨rfl, rfl⟩) rfl ⟨rfl, drewN_below (Below.refl _ _) _⟩
      · have e : Kd.opT 13 = (105, 105, 1) := by decide
        rw [e]
        clear e
        go_enter Tryd.func59, Tryd.ntmps59
        go_upto_region 8 with fail
        go_quiet (fail)
        go_wp2
        exact bodyPost_ret (v := .tuple #[.int .u8 105, .int .u8 105, .int .i64 1]) (by simp [results, Tryd.results59, go_sem]; exact ⟨rfl, rfl⟩) rfl ⟨rfl, drewN_below (Below.refl _ _) _⟩
      · have e : Kd.opT 14 = (98, 98, 1) := by decide
        rw [e]
        clear e
        go_enter Tryd.func59, Tryd.ntmps59
        go_upto_region 8 with fail
        go_quiet (fail)
        go_wp2
        exact bodyPost_ret (v := .tuple #[.int .u8 98, .int .u8 98, .int .i64 1]) (by simp [results, Tryd.results59, go_sem]; exact ⟨rfl, rfl⟩) rfl ⟨rfl, drewN_below (Below.refl _ _) _⟩
end Go.Proofs.YtbiomnnlpafciaaDoor
