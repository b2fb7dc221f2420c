import Derived.Test.YtgjdkgkgbmbffaaDoorJ14
import Derived.WalkKit
import Derived.WalkSpells
import Derived.IntWalk
import Derived.Deep.Cut
import Derived.Deep.LoopGhost
import Derived.Laws.Cover1
import Derived.Lib.Hide
set_option linter.unusedVariables false
set_option linter.unusedSimpArgs false
set_option maxHeartbeats 64000000
set_option maxRecDepth 100000
namespace Go.Proofs.YtgjdkgkgbmbffaaDoor
open Go.RowKit Go.IntWalk
set_option linter.unusedVariables false
set_option linter.unusedSimpArgs false
theorem has36_any (c f n : Int) (w : World) (h : I64 (c - n)) : Calls Tryd.prog 36 #[.int .i64 c, .int .i64 f, .int .i64 n] w fun e w' => e = .returned (.bool (Lo.hasN c f n)) ∧ w' = w := by
  have hw := w64_in h
  unfold Lo.hasN
  by_cases h1 : 0 ≤ f
  · go_enter Tryd.func36, Tryd.ntmps36
    go_wp2
    go_ret
    exact ⟨by simp [h1], rfl⟩
  · go_enter Tryd.func36, Tryd.ntmps36
    go_wp2
    go_ret
    exact ⟨by simp [show ¬ 0 ≤ f by omega], rfl⟩
theorem lacks22_any (c x : Int) (w : World) (h : I64 (c - 1)) : Calls Tryd.prog 22 #[.int .i64 c, .int .i64 x] w fun e w' => e = .returned (.bool (!Lo.hasN c x 1)) ∧ w' = w := by
  have hc := has36_any c x 1 w h
  generalize Lo.hasN c x 1 = q at hc ⊢
  go_enter Tryd.func22, Tryd.ntmps22
  go_wp2_with (go_at_call 36; refine hc.mono ?_; rintro e w' ⟨rfl, rfl⟩)
  go_ret
  exact ⟨by simp, rfl⟩
theorem turns37_any (op k n t : Int) (F E : List Pu) (aF aE : Option Addr) (nF cF nE cE : Nat) (w : World) : Calls Tryd.prog 37 #[.agg #[.int .i64 op, .int .i64 k, .int .i64 n, .int .i64 t, .slice aF nF cF, .slice aE nE cE]] w fun e w' => e = .returned (.int .i64 (Lo.turns ⟨op, k, n, t, F, E⟩)) ∧ Below w.heap.size w w' := by
  have b1 : Below w.heap.size w (w.alloc (.cells #[.int .i64 op, .int .i64 k, .int .i64 n, .int .i64 t, .slice aF nF cF, .slice aE nE cE] 54 (0, 0))) := (Below.refl _ _).alloc (Nat.le_refl _) _
  unfold Lo.turns
  dsimp only
  by_cases h1 : op = 1
  · subst h1
    go_enter Tryd.func37, Tryd.ntmps37
    go_wp2
    go_ret
    exact ⟨rfl, b1⟩
  · have h2 : (op == 1) = false := by simpa using h1
    rw [if_neg h1]
    go_enter Tryd.func37, Tryd.ntmps37
    go_wp2
    go_ret
    exact ⟨rfl, b1⟩
theorem made38_any (op k n t : Int) (F E : List Pu) (aF aE : Option Addr) (nF cF nE cE : Nat) (w : World) : Calls Tryd.prog 38 #[.agg #[.int .i64 op, .int .i64 k, .int .i64 n, .int .i64 t, .slice aF nF cF, .slice aE nE cE]] w fun e w' => e = .returned (.int .i64 (Lo.made ⟨op, k, n, t, F, E⟩)) ∧ Below w.heap.size w w' := by
  have b1 : Below w.heap.size w (w.alloc (.cells #[.int .i64 op, .int .i64 k, .int .i64 n, .int .i64 t, .slice aF nF cF, .slice aE nE cE] 54 (0, 0))) := (Below.refl _ _).alloc (Nat.le_refl _) _
  have ht := fun W => turns37_any op k n t F E aF aE nF cF nE cE W
  unfold Lo.made
  dsimp only
  generalize Lo.turns ⟨op, k, n, t, F, E⟩ = r at ht ⊢
  by_cases h1 : op = 3
  · subst h1
    go_enter Tryd.func38, Tryd.ntmps38
    go_wp2
    go_ret
    exact ⟨rfl, b1⟩
  · have h2 : (op == 3) = false := by simpa using h1
    rw [if_neg h1]
    go_enter Tryd.func38, Tryd.ntmps38
    go_wp2_with (go_at_call 37; refine (ht _).mono ?_; rintro e w' ⟨rfl, b2⟩)
    go_ret
    exact ⟨rfl, b1.trans (b2.mono b1.size)⟩
theorem folds40_any (op k n t : Int) (F E : List Pu) (aF aE : Option Addr) (nF cF nE cE : Nat) (w : World) : Calls Tryd.prog 40 #[.agg #[.int .i64 op, .int .i64 k, .int .i64 n, .int .i64 t, .slice aF nF cF, .slice aE nE cE]] w fun e w' => e = .returned (.bool (Lo.folds ⟨op, k, n, t, F, E⟩)) ∧ Below w.heap.size w w' := by
  have b1 : Below w.heap.size w (w.alloc (.cells #[.int .i64 op, .int .i64 k, .int .i64 n, .int .i64 t, .slice aF nF cF, .slice aE nE cE] 54 (0, 0))) := (Below.refl _ _).alloc (Nat.le_refl _) _
  unfold Lo.folds
  dsimp only
  by_cases h1 : (op == 3) = true
  · go_enter Tryd.func40, Tryd.ntmps40
    go_wp2
    go_ret
    exact ⟨by simp [h1], b1⟩
  · have h1 : (op == 3) = false := by simpa using h1
    go_enter Tryd.func40, Tryd.ntmps40
    go_wp2
    go_ret
    exact ⟨by simp [h1], b1⟩
theorem opnd41_any (k : Int) (w : World) (hG : GlobK w) : Calls Tryd.prog 41 #[.int .i64 k] w fun e w' => e = .returned (.int .i64 (Kd.opT k).2.2) ∧ Below w.heap.size w w' := by
  have hc := op_any k w hG
  generalize Kd.opT k = q at hc ⊢
  obtain ⟨q1, q2, q3⟩ := q
  go_enter Tryd.func41, Tryd.ntmps41
  go_wp2_with (go_at_call 52; refine hc.mono ?_; rintro e w' ⟨rfl, b1⟩)
  go_ret
  exact ⟨rfl, b1⟩
theorem taken50_any (op k v n : Int) (w : World) : Calls Tryd.prog 50 #[.agg #[.int .i64 op, .int .i64 k, .int .i64 v, .int .i64 n]] w fun e w' => e = .returned (.int .i64 (Lo.tk op)) ∧ Below w.heap.size w w' := by
  have b1 : Below w.heap.size w (w.alloc (.cells #[.int .i64 op, .int .i64 k, .int .i64 v, .int .i64 n] 71 (0, 0))) := (Below.refl _ _).alloc (Nat.le_refl _) _
  unfold Lo.tk
  by_cases h5 : op = 5
  · subst h5
    go_enter Tryd.func50, Tryd.ntmps50
    go_wp2
    go_ret
    exact ⟨rfl, b1⟩
  rw [if_neg h5]
  have g5 : (op == 5) = false := by simpa using h5
  by_cases h6 : op = 6
  · subst h6
    go_enter Tryd.func50, Tryd.ntmps50
    go_wp2
    go_ret
    exact ⟨rfl, b1⟩
  have g6 : (op == 6) = false := by simpa using h6
  by_cases h8 : op = 8
  · subst h8
    go_enter Tryd.func50, Tryd.ntmps50
    go_wp2
    go_ret
    exact ⟨rfl, b1⟩
  have g8 : (op == 8) = false := by simpa using h8
  rw [if_neg (by omega)]
  by_cases h7 : op = 7
  · subst h7
    go_enter Tryd.func50, Tryd.ntmps50
    go_wp2
    go_ret
    exact ⟨rfl, b1⟩
  have g7 : (op == 7) = false := by simpa using h7
  rw [if_neg h7]
  clear h5 h6 h7 h8
  go_enter Tryd.func50, Tryd.ntmps50
  go_wp2
  go_ret
  exact ⟨rfl, b1⟩
end Go.Proofs.YtgjdkgkgbmbffaaDoor
namespace Go.Proofs.YtgjdkgkgbmbffaaDoor
open Go.RowKit Go.IntWalk
set_option linter.unusedVariables false
set_option linter.unusedSimpArgs false
set_option maxHeartbeats 4000000 in
theorem push51_any (c n0 op k v n : Int) (w : World) (hG : GlobK w) (hc : 1 ≤ c ∧ c ≤ 6000) (hn : 1 ≤ n0 ∧ n0 ≤ 300) (hni : I64 n) : Calls Tryd.prog 51 #[.int .i64 c, .agg #[.int .i64 op, .int .i64 k, .int .i64 v, .int .i64 n], .int .i64 n0] w fun e w' => e = .returned (.bool (Lo.pushOK c n0 ⟨op, k, v, n⟩)) ∧ Below w.heap.size w w' := by
  have b1 : Below w.heap.size w (w.alloc (.cells #[.int .i64 op, .int .i64 k, .int .i64 v, .int .i64 n] 71 (0, 0))) := (Below.refl _ _).alloc (Nat.le_refl _) _
  have hO := opnd41_any k _ (hG.under b1)
  have hA1 := fun W => has36_any c v 1 W (by unfold I64; omega)
  have hA2 := fun W => has36_any c v n0 W (by unfold I64; omega)
  have hA3 := fun (h : 1 ≤ n) W => has36_any c v n W (by unfold I64 at *; omega)
  unfold Lo.pushOK
  dsimp only
  generalize (Kd.opT k).2.2 = kq at hO ⊢
  have HO := hide hO
  have HA1 := hide hA1
  have HA2 := hide hA2
  have HA3 := hide hA3
  clear hO hA1 hA2 hA3 hG hc hn hni
  by_cases h1 : op = 1
  · subst h1
    rw [if_pos (by decide)]
    go_enter Tryd.func51, Tryd.ntmps51
    go_wp2
    go_ret
    exact ⟨rfl, b1⟩
  have g1 : (op == 1) = false := by simpa using h1
  by_cases h7 : op = 7
  · subst h7
    rw [if_pos (by decide)]
    go_enter Tryd.func51, Tryd.ntmps51
    go_wp2
    go_ret
    exact ⟨rfl, b1⟩
  have g7 : (op == 7) = false := by simpa using h7
  rw [if_neg (by omega)]
  by_cases h2 : op = 2
  · subst h2
    rw [if_pos rfl]
    generalize Lo.hasN c v 1 = q at HA1 ⊢
    go_enter Tryd.func51, Tryd.ntmps51
    go_wp2_with (first | (go_at_call 36; refine (HA1.out _).mono ?_; rintro e w' ⟨rfl, rfl⟩) | (go_at_call 41; refine HO.out.mono ?_; rintro e w' ⟨rfl, b2⟩))
    go_ret
    exact ⟨rfl, b1⟩
  have g2 : (op == 2) = false := by simpa using h2
  rw [if_neg h2]
  by_cases h3 : op = 3
  · subst h3
    rw [if_pos rfl]
    generalize Lo.hasN c v n0 = q at HA2 ⊢
    go_enter Tryd.func51, Tryd.ntmps51
    go_wp2_with (first | (go_at_call 36; refine (HA2.out _).mono ?_; rintro e w' ⟨rfl, rfl⟩) | (go_at_call 41; refine HO.out.mono ?_; rintro e w' ⟨rfl, b2⟩))
    go_ret
    exact ⟨rfl, b1⟩
  have g3 : (op == 3) = false := by simpa using h3
  rw [if_neg h3]
  by_cases h4 : op = 4
  · subst h4
    rw [if_pos rfl]
    by_cases z1 : -1000000000000000000 ≤ n
    · go_enter Tryd.func51, Tryd.ntmps51
      go_wp2
      go_ret
      exact ⟨by simp [z1], b1⟩
    · go_enter Tryd.func51, Tryd.ntmps51
      go_wp2
      go_ret
      exact ⟨by simp [show ¬ -1000000000000000000 ≤ n by omega], b1⟩
  have g4 : (op == 4) = false := by simpa using h4
  rw [if_neg h4]
  by_cases h5 : op = 5
  · subst h5
    rw [if_pos rfl]
    go_enter Tryd.func51, Tryd.ntmps51
    go_wp2_with (first | (go_at_call 36; refine (HA1.out _).mono ?_; rintro e w' ⟨rfl, rfl⟩) | (go_at_call 41; refine HO.out.mono ?_; rintro e w' ⟨rfl, b2⟩))
    go_ret
    exact ⟨rfl, b1.trans (b2.mono b1.size)⟩
  have g5 : (op == 5) = false := by simpa using h5
  rw [if_neg h5]
  by_cases h6 : op = 6
  · subst h6
    rw [if_pos rfl]
    go_enter Tryd.func51, Tryd.ntmps51
    go_wp2_with (first | (go_at_call 36; refine (HA1.out _).mono ?_; rintro e w' ⟨rfl, rfl⟩) | (go_at_call 41; refine HO.out.mono ?_; rintro e w' ⟨rfl, b2⟩))
    go_ret
    exact ⟨rfl, b1.trans (b2.mono b1.size)⟩
  have g6 : (op == 6) = false := by simpa using h6
  rw [if_neg h6]
  by_cases h8 : op = 8
  · subst h8
    rw [if_pos rfl]
    by_cases z1 : 1 ≤ n
    · have HA4 := hide (HA3.out z1)
      generalize Lo.hasN c v n = q at HA4 ⊢
      clear HA3
      go_enter Tryd.func51, Tryd.ntmps51
      go_wp2_with (first | (go_at_call 36; refine (HA4.out _).mono ?_; rintro e w' ⟨rfl, rfl⟩) | (go_at_call 41; refine HO.out.mono ?_; rintro e w' ⟨rfl, b2⟩))
      go_ret
      exact ⟨by simp [z1], b1⟩
    · go_enter Tryd.func51, Tryd.ntmps51
      go_wp2
      go_ret
      exact ⟨by simp [show ¬ 1 ≤ n by omega], b1⟩
  have g8 : (op == 8) = false := by simpa using h8
  rw [if_neg h8]
  clear h1 h2 h3 h4 h5 h6 h7 h8
  go_enter Tryd.func51, Tryd.ntmps51
  go_wp2
  go_ret
  exact ⟨rfl, b1⟩
end Go.Proofs.YtgjdkgkgbmbffaaDoor
