import Derived.Test.YtfipfdpohkafaaaDoorQ29
import Derived.WalkKit
import Derived.WalkSpells
import Derived.IntWalk
import Derived.Lib.Hide
import Derived.Deep.Cut
import Derived.Deep.LoopGhost
import Derived.Laws.Cover1
set_option linter.unusedVariables false
set_option linter.unusedSimpArgs false
set_option maxHeartbeats 64000000
set_option maxRecDepth 100000
namespace Go.Proofs.YtfipfdpohkafaaaDoor
open Go.RowKit Go.IntWalk
set_option linter.unusedVariables false
set_option linter.unusedSimpArgs false
theorem turn30_any (n : Int) (w : World) : Calls Tryd.prog 30 #[.int .i64 n] w fun e w' => e = .returned (.bool (Cd.turn n)) ∧ w' = w := by
  unfold Cd.turn
  by_cases h1 : 1 ≤ n
  · go_enter Tryd.func30, Tryd.ntmps30
    go_wp2
    go_ret
    exact ⟨by simp [h1], rfl⟩
  · go_enter Tryd.func30, Tryd.ntmps30
    go_wp2
    go_ret
    exact ⟨by simp [h1]; omega, rfl⟩
theorem opnd29_any (k : Int) (w : World) (hG : GlobK w) : Calls Tryd.prog 29 #[.int .i64 k] w fun e w' => e = .returned (.int .i64 (Kd.opT k).2.2) ∧ Below w.heap.size w w' := by
  have hc := op_any k w hG
  generalize Kd.opT k = q at hc ⊢
  obtain ⟨q1, q2, q3⟩ := q
  go_enter Tryd.func29, Tryd.ntmps29
  go_wp2_with (go_at_call 36; refine hc.mono ?_; rintro e w' ⟨rfl, b1⟩)
  go_ret
  exact ⟨rfl, b1⟩
theorem has27_any (c R f n : Int) (w : World) (h : I64 (c - n)) : Calls Tryd.prog 27 #[.agg #[.int .i64 c, .int .i64 R], .int .i64 f, .int .i64 n] w fun e w' => e = .returned (.bool (Cd.has c f n)) ∧ Below w.heap.size w w' := by
  have b1 : Below w.heap.size w (w.alloc (.cells #[.int .i64 c, .int .i64 R] 39 (0, 0))) := (Below.refl _ _).alloc (Nat.le_refl _) _
  have hw := w64_in h
  unfold Cd.has
  by_cases h1 : 0 ≤ f
  · go_enter Tryd.func27, Tryd.ntmps27
    go_wp2
    go_ret
    exact ⟨by simp [h1], b1⟩
  · go_enter Tryd.func27, Tryd.ntmps27
    go_wp2
    go_ret
    exact ⟨by simp [show ¬ 0 ≤ f by omega], b1⟩
theorem cell26_any (b : Nat) (c R x : Int) (w : World) (h : I64 (c - 1)) (k : w.heap[b]? = some (.cells #[.int .i64 c, .int .i64 R] 39 (0, 0))) : Calls Tryd.prog 26 #[.int .i64 x, .pointer (some ⟨b, 0, none⟩)] w fun e w' => e = .returned (.bool (!Cd.has c x 1)) ∧ Below w.heap.size w w' := by
  have hc := has27_any c R x 1 w h
  generalize Cd.has c x 1 = q at hc ⊢
  have s0 := cell_of k 0
  have s1 := cell_of k 1
  simp at s0 s1
  go_enter Tryd.func26, Tryd.ntmps26
  go_wp2_with (go_at_call 27; refine hc.mono ?_; rintro e w' ⟨rfl, b1⟩)
  go_ret
  exact ⟨by simp, b1⟩
theorem reg35_any (b : Nat) (c R x : Int) (w : World) (k : w.heap[b]? = some (.cells #[.int .i64 c, .int .i64 R] 39 (0, 0))) : Calls Tryd.prog 35 #[.int .i64 x, .pointer (some ⟨b, 0, none⟩)] w fun e w' => e = .returned (.bool (Cd.lk R x)) ∧ Below w.heap.size w w' := by
  have s0 := cell_of k 0
  have s1 := cell_of k 1
  simp at s0 s1
  unfold Cd.lk
  by_cases h1 : x < 0
  · go_enter Tryd.func35, Tryd.ntmps35
    go_wp2
    go_ret
    exact ⟨by simp [h1], Below.refl _ _⟩
  · go_enter Tryd.func35, Tryd.ntmps35
    go_wp2
    go_ret
    exact ⟨by simp [h1]; omega, Below.refl _ _⟩
theorem may13_any (c R : Int) (w : World) : Calls Tryd.prog 13 #[.agg #[.int .i64 c, .int .i64 R]] w fun e w' => e = .returned (.bool (decide (1 ≤ c ∧ c ≤ 6000 ∧ 1 ≤ R ∧ R ≤ 40))) ∧ Below w.heap.size w w' := by
  have b1 : Below w.heap.size w (w.alloc (.cells #[.int .i64 c, .int .i64 R] 39 (0, 0))) := (Below.refl _ _).alloc (Nat.le_refl _) _
  by_cases h1 : 1 ≤ c
  case neg =>
    rw [decide_eq_false (by omega)]
    go_enter Tryd.func13, Tryd.ntmps13
    go_wp2
    go_ret
    exact ⟨rfl, b1⟩
  by_cases h2 : c ≤ 6000
  case neg =>
    rw [decide_eq_false (by omega)]
    go_enter Tryd.func13, Tryd.ntmps13
    go_wp2
    go_ret
    exact ⟨rfl, b1⟩
  by_cases h3 : 1 ≤ R
  case neg =>
    rw [decide_eq_false (by omega)]
    go_enter Tryd.func13, Tryd.ntmps13
    go_wp2
    go_ret
    exact ⟨rfl, b1⟩
  by_cases h4 : R ≤ 40
  case neg =>
    rw [decide_eq_false (by omega)]
    go_enter Tryd.func13, Tryd.ntmps13
    go_wp2
    go_ret
    exact ⟨rfl, b1⟩
  rw [decide_eq_true ⟨h1, h2, h3, h4⟩]
  go_enter Tryd.func13, Tryd.ntmps13
  go_wp2
  go_ret
  exact ⟨rfl, b1⟩
theorem many14_any (c R k : Int) {aP aB aG aL : Option Addr} {nP nB nG nL cP cB cG cL : Nat} (w : World) : Calls Tryd.prog 14 #[.agg #[.int .i64 c, .int .i64 R, .int .i64 k, .slice aP nP cP, .slice aB nB cB, .slice aG nG cG, .slice aL nL cL]] w fun e w' => e = .returned (.bool (decide (6000 < (nP : Int)) || decide (6000 < (nB : Int)) || decide (120000 < (nG : Int)) || decide (200000 < (nL : Int)))) ∧ Below w.heap.size w w' := by
  have b1 : Below w.heap.size w (w.alloc (.cells #[.int .i64 c, .int .i64 R, .int .i64 k, .slice aP nP cP, .slice aB nB cB, .slice aG nG cG, .slice aL nL cL] 25 (0, 0))) := (Below.refl _ _).alloc (Nat.le_refl _) _
  by_cases h0 : 6000 < (nP : Int)
  case pos =>
    go_enter Tryd.func14, Tryd.ntmps14
    go_wp2
    go_ret
    exact ⟨by simp [h0], b1⟩
  by_cases h1 : 6000 < (nB : Int)
  case pos =>
    go_enter Tryd.func14, Tryd.ntmps14
    go_wp2
    go_ret
    exact ⟨by simp [h0, h1], b1⟩
  by_cases h2 : 120000 < (nG : Int)
  case pos =>
    go_enter Tryd.func14, Tryd.ntmps14
    go_wp2
    go_ret
    exact ⟨by simp [h0, h1, h2], b1⟩
  by_cases h3 : 200000 < (nL : Int)
  case pos =>
    go_enter Tryd.func14, Tryd.ntmps14
    go_wp2
    go_ret
    exact ⟨by simp [h0, h1, h2, h3], b1⟩
  go_enter Tryd.func14, Tryd.ntmps14
  go_wp2
  go_ret
  exact ⟨by simp [h0, h1, h2, h3], b1⟩
end Go.Proofs.YtfipfdpohkafaaaDoor
