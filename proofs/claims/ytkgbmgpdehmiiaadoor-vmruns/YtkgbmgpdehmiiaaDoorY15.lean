import Derived.Test.YtkgbmgpdehmiiaaDoorY07
import Derived.WalkKit
import Derived.WalkSpells
import Derived.IntWalk
import Derived.Deep.Cut
import Derived.Deep.LoopGhost
import Derived.Laws.Cover1
import Derived.Lib.Hide
set_option linter.unusedVariables false
set_option linter.unusedSimpArgs false
set_option maxHeartbeats 64000000
set_option maxRecDepth 100000
namespace Go.Proofs.YtkgbmgpdehmiiaaDoor
open Go.RowKit Go.IntWalk
set_option linter.unusedVariables false
set_option linter.unusedSimpArgs false
theorem f27_any (c a : Int) (w : World) : Calls Tryd.prog 23 #[.int .i64 c, .int .i64 a] w fun e w' => e = .returned (.agg #[.int .i64 c, .int .i64 a]) ∧ Below w.heap.size w w' := by
  have b1 : Below w.heap.size w (w.alloc (.cells #[.int .i64 0, .int .i64 0] 34 (0, 0))) := (Below.refl _ _).alloc (Nat.le_refl _) _
  have kF := heap_new w (.cells #[.int .i64 0, .int .i64 0] 34 (0, 0))
  go_enter Tryd.func23, Tryd.ntmps23
  go_upto_region 1 with fail
  generalize w.alloc (.cells #[.int .i64 0, .int .i64 0] 34 (0, 0)) = w1 at b1 kF ⊢
  have s0 := cell_of kF 0
  have s1 := cell_of kF 1
  have f0 := free_of kF 0
  have f1 := free_of kF 1
  simp at s0 s1
  have KE := set_in (set_in kF 0 (.int .i64 c)) 1 (.int .i64 a)
  have BE := (b1.setCell (p := ⟨w.heap.size, 0, none⟩) (Nat.le_refl _) (.int .i64 c)).setCell (p := ⟨w.heap.size, 1, none⟩) (Nat.le_refl _) (.int .i64 a)
  have t0 := cell_of KE 0
  have t1 := cell_of KE 1
  simp at t0 t1
  clear KE
  go_wp2
  exact bodyPost_ret (v := .agg #[.int .i64 c, .int .i64 a]) (by simp [results, Tryd.results23, go_sem, t0, t1]) rfl ⟨rfl, BE⟩
namespace Sk
end Sk
end Go.Proofs.YtkgbmgpdehmiiaaDoor
namespace Go.Proofs.YtkgbmgpdehmiiaaDoor
open Go.RowKit Go.IntWalk
set_option linter.unusedVariables false
set_option linter.unusedSimpArgs false
set_option maxHeartbeats 16000000 in
theorem refOp_any (k : Int) (w : World) :
    Calls Tryd.prog 40 #[.int .i64 k] w fun r w' => r = .returned (.tuple #[.int .u8 (Kd.opT k).1, .int .u8 (Kd.opT k).2.1, .int .i64 (Kd.opT k).2.2]) ∧ Below w.heap.size w w' := by
  by_cases h1 : k < 1
  · have e : Kd.opT k = (0, 0, 0) := by
      unfold Kd.opT
      by_cases h0 : k < 0
      · rw [if_pos (.inl h0)]
      · have : k = 0 := by omega
        subst this
        rfl
    rw [e]
    go_enter Tryd.func40, Tryd.ntmps40
    go_wp2
    exact bodyPost_ret (v := .tuple #[.int .u8 0, .int .u8 0, .int .i64 0]) (by simp [results, Tryd.results40, go_sem]) rfl ⟨rfl, Below.refl _ _⟩
  · by_cases h2 : 14 < k
    · have e : Kd.opT k = (0, 0, 0) := by
        unfold Kd.opT
        rw [if_pos (.inr (by omega))]
      rw [e]
      go_enter Tryd.func40, Tryd.ntmps40
      go_wp2
      exact bodyPost_ret (v := .tuple #[.int .u8 0, .int .u8 0, .int .i64 0]) (by simp [results, Tryd.results40, go_sem]) rfl ⟨rfl, Below.refl _ _⟩
    · have hk : k = 1 ∨ k = 2 ∨ k = 3 ∨ k = 4 ∨ k = 5 ∨ k = 6 ∨ k = 7 ∨ k = 8 ∨ k = 9 ∨ k = 10 ∨ k = 11 ∨ k = 12 ∨ k = 13 ∨ k = 14 := by omega
      clear h1 h2
      rcases hk with rfl | rfl | rfl | rfl | rfl | rfl | rfl | rfl | rfl | rfl | rfl | rfl | rfl | rfl
      · have e : Kd.opT 1 = (105, 105, 2) := by decide
        rw [e]
        clear e
        go_enter Tryd.func40, Tryd.ntmps40
        go_upto_region 8 with fail
        go_quiet (fail)
        go_wp2
        exact bodyPost_ret (v := .tuple #[.int .u8 105, .int .u8 105, .int .i64 2]) (by simp [results, Tryd.results40, go_sem]; exact ⟨rfl, rfl⟩) rfl ⟨rfl, drewN_below (Below.refl _ _) _⟩
      · have e : Kd.opT 2 = (105, 105, 2) := by decide
        rw [e]
        clear e
        go_enter Tryd.func40, Tryd.ntmps40
        go_upto_region 8 with fail
        go_quiet (fail)
        go_wp2
        exact bodyPost_ret (v := .tuple #[.int .u8 105, .int .u8 105, .int .i64 2]) (by simp [results, Tryd.results40, go_sem]; exact ⟨rfl, rfl⟩) rfl ⟨rfl, drewN_below (Below.refl _ _) _⟩
      · have e : Kd.opT 3 = (105, 105, 2) := by decide
        rw [e]
        clear e
        go_enter Tryd.func40, Tryd.ntmps40
        go_upto_region 8 with fail
        go_quiet (fail)
        go_wp2
        exact bodyPost_ret (v := .tuple #[.int .u8 105, .int .u8 105, .int .i64 2]) (by simp [results, Tryd.results40, go_sem]; exact ⟨rfl, rfl⟩) rfl ⟨rfl, drewN_below (Below.refl _ _) _⟩
      · have e : Kd.opT 4 = (105, 105, 2) := by decide
        rw [e]
        clear e
        go_enter Tryd.func40, Tryd.ntmps40
        go_upto_region 8 with fail
        go_quiet (fail)
        go_wp2
        exact bodyPost_ret (v := .tuple #[.int .u8 105, .int .u8 105, .int .i64 2]) (by simp [results, Tryd.results40, go_sem]; exact ⟨rfl, rfl⟩) rfl ⟨rfl, drewN_below (Below.refl _ _) _⟩
      · have e : Kd.opT 5 = (105, 105, 2) := by decide
        rw [e]
        clear e
        go_enter Tryd.func40, Tryd.ntmps40
        go_upto_region 8 with fail
        go_quiet (fail)
        go_wp2
        exact bodyPost_ret (v := .tuple #[.int .u8 105, .int .u8 105, .int .i64 2]) (by simp [results, Tryd.results40, go_sem]; exact ⟨rfl, rfl⟩) rfl ⟨rfl, drewN_below (Below.refl _ _) _⟩
      · have e : Kd.opT 6 = (105, 105, 2) := by decide
        rw [e]
        clear e
        go_enter Tryd.func40, Tryd.ntmps40
        go_upto_region 8 with fail
        go_quiet (fail)
        go_wp2
        exact bodyPost_ret (v := .tuple #[.int .u8 105, .int .u8 105, .int .i64 2]) (by simp [results, Tryd.results40, go_sem]; exact ⟨rfl, rfl⟩) rfl ⟨rfl, drewN_below (Below.refl _ _) _⟩
      · have e : Kd.opT 7 = (105, 105, 2) := by decide
        rw [e]
        clear e
        go_enter Tryd.func40, Tryd.ntmps40
        go_upto_region 8 with fail
        go_quiet (fail)
        go_wp2
        exact bodyPost_ret (v := .tuple #[.int .u8 105, .int .u8 105, .int .i64 2]) (by simp [results, Tryd.results40, go_sem]; exact ⟨rfl, rfl⟩) rfl ⟨rfl, drewN_below (Below.refl _ _) _⟩
      · have e : Kd.opT 8 = (105, 98, 2) := by decide
        rw [e]
        clear e
        go_enter Tryd.func40, Tryd.ntmps40
        go_upto_region 8 with fail
        go_quiet (fail)
        go_wp2
        exact bodyPost_ret (v := .tuple #[.int .u8 105, .int .u8 98, .int .i64 2]) (by simp [results, Tryd.results40, go_sem]; exact ⟨rfl, rfl⟩) rfl ⟨rfl, drewN_below (Below.refl _ _) _⟩
      · have e : Kd.opT 9 = (105, 98, 2) := by decide
        rw [e]
        clear e
        go_enter Tryd.func40, Tryd.ntmps40
        go_upto_region 8 with fail
        go_quiet (fail)
        go_wp2
        exact bodyPost_ret (v := .tuple #[.int .u8 105, .int .u8 98, .int .i64 2]) (by simp [results, Tryd.results40, go_sem]; exact ⟨rfl, rfl⟩) rfl ⟨rfl, drewN_below (Below.refl _ _) _⟩
      · have e : Kd.opT 10 = (98, 98, 2) := by decide
        rw [e]
        clear e
        go_enter Tryd.func40, Tryd.ntmps40
        go_upto_region 8 with fail
        go_quiet (fail)
        go_wp2
        exact bodyPost_ret (v := .tuple #[.int .u8 98, .int .u8 98, .int .i64 2]) (by simp [results, Tryd.results40, go_sem]; exact ⟨rfl, rfl⟩) rfl ⟨rfl, drewN_below (Below.refl _ _) _⟩
      · have e : Kd.opT 11 = (98, 98, 2) := by decide
        rw [e]
        clear e
        go_enter Tryd.func40, Tryd.ntmps40
        go_upto_region 8 with fail
        go_quiet (fail)
        go_wp2
        exact bodyPost_ret (v := .tuple #[.int .u8 98, .int .u8 98, .int .i64 2]) (by simp [results, Tryd.results40, go_sem]; exact ⟨rfl, rfl⟩) rfl ⟨rfl, drewN_below (Below.refl _ _) _⟩
      · have e : Kd.opT 12 = (98, 98, 2) := by decide
        rw [e]
        clear e
        go_enter Tryd.func40, Tryd.ntmps40
        go_upto_region 8 with fail
        go_quiet (fail)
        go_wp2
        exact bodyPost_ret (v := .tuple #[.int .u8 98, .int .u8 98, .int .i64 2]) (by simp [results, Tryd.results40, go_sem]; exact ⟨rfl, rfl⟩) rfl ⟨rfl, drewN_below (Below.refl _ _) _⟩
      · have e : Kd.opT 13 = (105, 105, 1) := by decide
        rw [e]
        clear e
        go_enter Tryd.func40, Tryd.ntmps40
        go_upto_region 8 with fail
        go_quiet (fail)
        go_wp2
        exact bodyPost_ret (v := .tuple #[.int .u8 105, .int .u8 105, .int .i64 1]) (by simp [results, Tryd.results40, go_sem]; exact ⟨rfl, rfl⟩) rfl ⟨rfl, drewN_below (Below.refl _ _) _⟩
      · have e : Kd.opT 14 = (98, 98, 1) := by decide
        rw [e]
        clear e
        go_enter Tryd.func40, Tryd.ntmps40
        go_upto_region 8 with fail
        go_quiet (fail)
        go_wp2
        exact bodyPost_ret (v := .tuple #[.int .u8 98, .int .u8 98, .int .i64 1]) (by simp [results, Tryd.results40, go_sem]; exact ⟨rfl, rfl⟩) rfl ⟨rfl, drewN_below (Below.refl _ _) _⟩
end Go.Proofs.YtkgbmgpdehmiiaaDoor
namespace Go.Proofs.YtkgbmgpdehmiiaaDoor
open Go.RowKit Go.IntWalk
set_option linter.unusedVariables false
set_option linter.unusedSimpArgs false
theorem turn30_any (n : Int) (w : World) : Calls Tryd.prog 51 #[.int .i64 n] w fun e w' => e = .returned (.bool (Cd.turn n)) ∧ w' = w := by
  unfold Cd.turn
  by_cases h1 : 1 ≤ n
  · go_enter Tryd.func51, Tryd.ntmps51
    go_wp2
    go_ret
    exact ⟨by simp [h1], rfl⟩
  · go_enter Tryd.func51, Tryd.ntmps51
    go_wp2
    go_ret
    exact ⟨by simp [h1]; omega, rfl⟩
theorem opnd29_any (k : Int) (w : World) (hG : GlobK w) : Calls Tryd.prog 50 #[.int .i64 k] w fun e w' => e = .returned (.int .i64 (Kd.opT k).2.2) ∧ Below w.heap.size w w' := by
  have hc := op_any k w hG
  generalize Kd.opT k = q at hc ⊢
  obtain ⟨q1, q2, q3⟩ := q
  go_enter Tryd.func50, Tryd.ntmps50
  go_wp2_with (go_at_call 62; refine hc.mono ?_; rintro e w' ⟨rfl, b1⟩)
  go_ret
  exact ⟨rfl, b1⟩
theorem has27_any (c R f n : Int) (w : World) (h : I64 (c - n)) : Calls Tryd.prog 48 #[.agg #[.int .i64 c, .int .i64 R], .int .i64 f, .int .i64 n] w fun e w' => e = .returned (.bool (Cd.has c f n)) ∧ Below w.heap.size w w' := by
  have b1 : Below w.heap.size w (w.alloc (.cells #[.int .i64 c, .int .i64 R] 72 (0, 0))) := (Below.refl _ _).alloc (Nat.le_refl _) _
  have hw := w64_in h
  unfold Cd.has
  by_cases h1 : 0 ≤ f
  · go_enter Tryd.func48, Tryd.ntmps48
    go_wp2
    go_ret
    exact ⟨by simp [h1], b1⟩
  · go_enter Tryd.func48, Tryd.ntmps48
    go_wp2
    go_ret
    exact ⟨by simp [show ¬ 0 ≤ f by omega], b1⟩
theorem cell26_any (b : Nat) (c R x : Int) (w : World) (h : I64 (c - 1)) (k : w.heap[b]? = some (.cells #[.int .i64 c, .int .i64 R] 72 (0, 0))) : Calls Tryd.prog 47 #[.int .i64 x, .pointer (some ⟨b, 0, none⟩)] w fun e w' => e = .returned (.bool (!Cd.has c x 1)) ∧ Below w.heap.size w w' := by
  have hc := has27_any c R x 1 w h
  generalize Cd.has c x 1 = q at hc ⊢
  have s0 := cell_of k 0
  have s1 := cell_of k 1
  simp at s0 s1
  go_enter Tryd.func47, Tryd.ntmps47
  go_wp2_with (go_at_call 48; refine hc.mono ?_; rintro e w' ⟨rfl, b1⟩)
  go_ret
  exact ⟨by simp, b1⟩
theorem reg35_any (b : Nat) (c R x : Int) (w : World) (k : w.heap[b]? = some (.cells #[.int .i64 c, .int .i64 R] 72 (0, 0))) : Calls Tryd.prog 61 #[.int .i64 x, .pointer (some ⟨b, 0, none⟩)] w fun e w' => e = .returned (.bool (Cd.lk R x)) ∧ Below w.heap.size w w' := by
  have s0 := cell_of k 0
  have s1 := cell_of k 1
  simp at s0 s1
  unfold Cd.lk
  by_cases h1 : x < 0
  · go_enter Tryd.func61, Tryd.ntmps61
    go_wp2
    go_ret
    exact ⟨by simp [h1], Below.refl _ _⟩
  · go_enter Tryd.func61, Tryd.ntmps61
    go_wp2
    go_ret
    exact ⟨by simp [h1]; omega, Below.refl _ _⟩
theorem may13_any (c R : Int) (w : World) : Calls Tryd.prog 34 #[.agg #[.int .i64 c, .int .i64 R]] w fun e w' => e = .returned (.bool (decide (1 ≤ c ∧ c ≤ 6000 ∧ 1 ≤ R ∧ R ≤ 40))) ∧ Below w.heap.size w w' := by
  have b1 : Below w.heap.size w (w.alloc (.cells #[.int .i64 c, .int .i64 R] 72 (0, 0))) := (Below.refl _ _).alloc (Nat.le_refl _) _
  by_cases h1 : 1 ≤ c
  case neg =>
    rw [decide_eq_false (by omega)]
    go_enter Tryd.func34, Tryd.ntmps34
    go_wp2
    go_ret
    exact ⟨rfl, b1⟩
  by_cases h2 : c ≤ 6000
  case neg =>
    rw [decide_eq_false (by omega)]
    go_enter Tryd.func34, Tryd.ntmps34
    go_wp2
    go_ret
    exact ⟨rfl, b1⟩
  by_cases h3 : 1 ≤ R
  case neg =>
    rw [decide_eq_false (by omega)]
    go_enter Tryd.func34, Tryd.ntmps34
    go_wp2
    go_ret
    exact ⟨rfl, b1⟩
  by_cases h4 : R ≤ 40
  case neg =>
    rw [decide_eq_false (by omega)]
    go_enter Tryd.func34, Tryd.ntmps34
    go_wp2
    go_ret
    exact ⟨rfl, b1⟩
  rw [decide_eq_true ⟨h1, h2, h3, h4⟩]
  go_enter Tryd.func34, Tryd.ntmps34
  go_wp2
  go_ret
  exact ⟨rfl, b1⟩
theorem many14_any (c R k : Int) {aP aB aG aL : Option Addr} {nP nB nG nL cP cB cG cL : Nat} (w : World) : Calls Tryd.prog 35 #[.agg #[.int .i64 c, .int .i64 R, .int .i64 k, .slice aP nP cP, .slice aB nB cB, .slice aG nG cG, .slice aL nL cL]] w fun e w' => e = .returned (.bool (decide (6000 < (nP : Int)) || decide (6000 < (nB : Int)) || decide (120000 < (nG : Int)) || decide (200000 < (nL : Int)))) ∧ Below w.heap.size w w' := by
  have b1 : Below w.heap.size w (w.alloc (.cells #[.int .i64 c, .int .i64 R, .int .i64 k, .slice aP nP cP, .slice aB nB cB, .slice aG nG cG, .slice aL nL cL] 25 (0, 0))) := (Below.refl _ _).alloc (Nat.le_refl _) _
  by_cases h0 : 6000 < (nP : Int)
  case pos =>
    go_enter Tryd.func35, Tryd.ntmps35
    go_wp2
    go_ret
    exact ⟨by simp [h0], b1⟩
  by_cases h1 : 6000 < (nB : Int)
  case pos =>
    go_enter Tryd.func35, Tryd.ntmps35
    go_wp2
    go_ret
    exact ⟨by simp [h0, h1], b1⟩
  by_cases h2 : 120000 < (nG : Int)
  case pos =>
    go_enter Tryd.func35, Tryd.ntmps35
    go_wp2
    go_ret
    exact ⟨by simp [h0, h1, h2], b1⟩
  by_cases h3 : 200000 < (nL : Int)
  case pos =>
    go_enter Tryd.func35, Tryd.ntmps35
    go_wp2
    go_ret
    exact ⟨by simp [h0, h1, h2, h3], b1⟩
  go_enter Tryd.func35, Tryd.ntmps35
  go_wp2
  go_ret
  exact ⟨by simp [h0, h1, h2, h3], b1⟩
end Go.Proofs.YtkgbmgpdehmiiaaDoor
