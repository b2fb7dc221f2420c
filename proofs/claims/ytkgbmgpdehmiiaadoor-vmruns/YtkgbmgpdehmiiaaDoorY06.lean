import Derived.Test.YtkgbmgpdehmiiaaDoorY05
set_option linter.unusedVariables false
set_option linter.unusedSimpArgs false
set_option maxHeartbeats 64000000
set_option maxRecDepth 100000
namespace Go.Proofs.YtkgbmgpdehmiiaaDoor
open Go.RowKit Go.IntWalk
set_option linter.unusedVariables false
set_option linter.unusedSimpArgs false
def I64 (a : Int) : Prop := -9223372036854775808 ≤ a ∧ a ≤ 9223372036854775807
theorem w64_in {a : Int} (h : I64 a) : wrap64 a = a := by unfold wrap64; unfold I64 at h; omega
theorem w64_I64 (a : Int) : I64 (wrap64 a) := by unfold wrap64 I64; omega
theorem tmod_eq {a b : Int} (ha : I64 a) (hb : I64 b) (h0 : b ≠ 0) (h1 : b ≠ -1) : wrap64 (a - wrap64 (wrap64 (a.tdiv b) * b)) = a.tmod b := by
  have e := Int.mul_tdiv_add_tmod a b
  have hq : I64 (a.tdiv b) := by
    by_cases h2 : b = 1
    · rw [h2, Int.tdiv_one]; exact ha
    · have e2 : (a.tdiv b).natAbs = a.natAbs / b.natAbs := Int.natAbs_tdiv a b
      have := Nat.div_le_div_left (a := a.natAbs) (show 2 ≤ b.natAbs by omega) (by omega)
      unfold I64 at *
      omega
  rw [w64_in hq]
  have hm : (a.tmod b).natAbs ≤ a.natAbs := by
    rw [Int.natAbs_tmod]
    exact Nat.mod_le _ _
  have hq2 : a.tdiv b * b = a - a.tmod b := by rw [Int.mul_comm]; omega
  have hs : 0 ≤ a → 0 ≤ a.tmod b := fun h => Int.tmod_nonneg b h
  have hs2 : a ≤ 0 → a.tmod b ≤ 0 := fun h => by
    have := Int.tmod_nonneg b (a := -a) (by omega)
    rw [Int.neg_tmod] at this
    omega
  have hp : I64 (a.tdiv b * b) := by
    rw [hq2]
    unfold I64 at *
    by_cases h : 0 ≤ a
    · have := hs h; omega
    · have := hs2 (by omega); omega
  rw [w64_in hp, hq2, show a - (a - a.tmod b) = a.tmod b by omega]
  refine w64_in ?_
  unfold I64 at *
  omega
set_option maxHeartbeats 4000000 in
theorem refApply_any (k a b : Int) (w : World) (ha : I64 a) (hb : I64 b) : Calls Tryd.prog 58 #[.int .i64 k, .int .i64 a, .int .i64 b] w fun e w' => e = .returned (.int .i64 (apT k a b)) ∧ w' = w := by
  by_cases h1 : k = 1
  · subst h1
    go_enter Tryd.func58, Tryd.ntmps58
    go_wp2
    all_goals go_ret
    all_goals refine ⟨ret_int ?_, rfl⟩
    all_goals (simp [apT, tr] <;> (first | omega | simp_all))
  by_cases h2 : k = 2
  · subst h2
    go_enter Tryd.func58, Tryd.ntmps58
    go_wp2
    all_goals go_ret
    all_goals refine ⟨ret_int ?_, rfl⟩
    all_goals (simp [apT, tr] <;> (first | omega | simp_all))
  by_cases h3 : k = 3
  · subst h3
    go_enter Tryd.func58, Tryd.ntmps58
    go_wp2
    all_goals go_ret
    all_goals refine ⟨ret_int ?_, rfl⟩
    all_goals (simp [apT, tr] <;> (first | omega | simp_all))
  by_cases h4 : k = 4
  · subst h4
    by_cases h0 : b = 0
    · subst h0
      go_enter Tryd.func58, Tryd.ntmps58
      go_wp2
      all_goals go_ret
      all_goals refine ⟨ret_int ?_, rfl⟩
      all_goals (simp [apT])
    have g0 : (b == 0) = false := by simpa using h0
    by_cases h1 : b = -1
    · subst h1
      have e1 : a.tdiv (-1) = -a := by rw [Int.tdiv_neg, Int.tdiv_one]
      have e2 : a.tmod (-1) = 0 := by rw [Int.tmod_neg, Int.tmod_one]
      go_enter Tryd.func58, Tryd.ntmps58
      go_wp2
      all_goals go_ret
      all_goals refine ⟨ret_int ?_, rfl⟩
      all_goals (simp [apT, e1, e2])
    have g1 : (b == -1) = false := by simpa using h1
    go_enter Tryd.func58, Tryd.ntmps58
    go_wp2
    all_goals go_ret
    all_goals refine ⟨ret_int ?_, rfl⟩
    all_goals (simp [apT, h0])
  by_cases h5 : k = 5
  · subst h5
    by_cases h0 : b = 0
    · subst h0
      go_enter Tryd.func58, Tryd.ntmps58
      go_wp2
      all_goals go_ret
      all_goals refine ⟨ret_int ?_, rfl⟩
      all_goals (simp [apT])
    have g0 : (b == 0) = false := by simpa using h0
    by_cases h1 : b = -1
    · subst h1
      have e1 : a.tdiv (-1) = -a := by rw [Int.tdiv_neg, Int.tdiv_one]
      have e2 : a.tmod (-1) = 0 := by rw [Int.tmod_neg, Int.tmod_one]
      go_enter Tryd.func58, Tryd.ntmps58
      go_wp2
      all_goals go_ret
      all_goals refine ⟨ret_int ?_, rfl⟩
      all_goals (simp [apT, e1, e2])
    have g1 : (b == -1) = false := by simpa using h1
    have et := tmod_eq ha hb h0 h1
    go_enter Tryd.func58, Tryd.ntmps58
    go_wp2
    all_goals go_ret
    all_goals refine ⟨ret_int ?_, rfl⟩
    all_goals (simp [apT, h0, et])
  by_cases h6 : k = 6
  · subst h6
    go_enter Tryd.func58, Tryd.ntmps58
    go_wp2
    all_goals go_ret
    all_goals refine ⟨ret_int ?_, rfl⟩
    all_goals (simp [apT, tr] <;> (first | omega | simp_all))
  by_cases h7 : k = 7
  · subst h7
    go_enter Tryd.func58, Tryd.ntmps58
    go_wp2
    all_goals go_ret
    all_goals refine ⟨ret_int ?_, rfl⟩
    all_goals (simp [apT, tr] <;> (first | omega | simp_all))
  by_cases h8 : k = 8
  · subst h8
    go_enter Tryd.func58, Tryd.ntmps58
    go_wp2
    all_goals go_ret
    all_goals refine ⟨ret_int ?_, rfl⟩
    all_goals (simp [apT, tr] <;> (first | omega | simp_all))
  by_cases h9 : k = 9
  · subst h9
    go_enter Tryd.func58, Tryd.ntmps58
    go_wp2
    all_goals go_ret
    all_goals refine ⟨ret_int ?_, rfl⟩
    all_goals (simp [apT, tr] <;> (first | omega | simp_all))
  by_cases h10 : k = 10
  · subst h10
    by_cases ha0 : a = 0
    · have g0 : (a == 0) = true := by simpa using ha0
      have g1 : (a != 0) = false := by simpa using ha0
      by_cases hb0 : b = 0
      · have g2 : (b == 0) = true := by simpa using hb0
        have g3 : (b != 0) = false := by simpa using hb0
        have e : apT 10 a b = 0 := by simp [apT, tr, ha0, hb0]
        rw [e]
        clear ha0 hb0 e
        go_enter Tryd.func58, Tryd.ntmps58
        go_wp2
        all_goals go_ret
        all_goals refine ⟨ret_int ?_, rfl⟩
        all_goals (rfl)
      · have g2 : (b == 0) = false := by simpa using hb0
        have g3 : (b != 0) = true := by simpa using hb0
        have e : apT 10 a b = 0 := by simp [apT, tr, ha0, hb0]
        rw [e]
        clear ha0 hb0 e
        go_enter Tryd.func58, Tryd.ntmps58
        go_wp2
        all_goals go_ret
        all_goals refine ⟨ret_int ?_, rfl⟩
        all_goals (rfl)
    · have g0 : (a == 0) = false := by simpa using ha0
      have g1 : (a != 0) = true := by simpa using ha0
      by_cases hb0 : b = 0
      · have g2 : (b == 0) = true := by simpa using hb0
        have g3 : (b != 0) = false := by simpa using hb0
        have e : apT 10 a b = 0 := by simp [apT, tr, ha0, hb0]
        rw [e]
        clear ha0 hb0 e
        go_enter Tryd.func58, Tryd.ntmps58
        go_wp2
        all_goals go_ret
        all_goals refine ⟨ret_int ?_, rfl⟩
        all_goals (rfl)
      · have g2 : (b == 0) = false := by simpa using hb0
        have g3 : (b != 0) = true := by simpa using hb0
        have e : apT 10 a b = 1 := by simp [apT, tr, ha0, hb0]
        rw [e]
        clear ha0 hb0 e
        go_enter Tryd.func58, Tryd.ntmps58
        go_wp2
        all_goals go_ret
        all_goals refine ⟨ret_int ?_, rfl⟩
        all_goals (rfl)
  by_cases h11 : k = 11
  · subst h11
    by_cases ha0 : a = 0
    · have g0 : (a == 0) = true := by simpa using ha0
      have g1 : (a != 0) = false := by simpa using ha0
      by_cases hb0 : b = 0
      · have g2 : (b == 0) = true := by simpa using hb0
        have g3 : (b != 0) = false := by simpa using hb0
        have e : apT 11 a b = 0 := by simp [apT, tr, ha0, hb0]
        rw [e]
        clear ha0 hb0 e
        go_enter Tryd.func58, Tryd.ntmps58
        go_wp2
        all_goals go_ret
        all_goals refine ⟨ret_int ?_, rfl⟩
        all_goals (rfl)
      · have g2 : (b == 0) = false := by simpa using hb0
        have g3 : (b != 0) = true := by simpa using hb0
        have e : apT 11 a b = 1 := by simp [apT, tr, ha0, hb0]
        rw [e]
        clear ha0 hb0 e
        go_enter Tryd.func58, Tryd.ntmps58
        go_wp2
        all_goals go_ret
        all_goals refine ⟨ret_int ?_, rfl⟩
        all_goals (rfl)
    · have g0 : (a == 0) = false := by simpa using ha0
      have g1 : (a != 0) = true := by simpa using ha0
      by_cases hb0 : b = 0
      · have g2 : (b == 0) = true := by simpa using hb0
        have g3 : (b != 0) = false := by simpa using hb0
        have e : apT 11 a b = 1 := by simp [apT, tr, ha0, hb0]
        rw [e]
        clear ha0 hb0 e
        go_enter Tryd.func58, Tryd.ntmps58
        go_wp2
        all_goals go_ret
        all_goals refine ⟨ret_int ?_, rfl⟩
        all_goals (rfl)
      · have g2 : (b == 0) = false := by simpa using hb0
        have g3 : (b != 0) = true := by simpa using hb0
        have e : apT 11 a b = 1 := by simp [apT, tr, ha0, hb0]
        rw [e]
        clear ha0 hb0 e
        go_enter Tryd.func58, Tryd.ntmps58
        go_wp2
        all_goals go_ret
        all_goals refine ⟨ret_int ?_, rfl⟩
        all_goals (rfl)
  by_cases h12 : k = 12
  · subst h12
    by_cases ha0 : a = 0
    · have g0 : (a == 0) = true := by simpa using ha0
      have g1 : (a != 0) = false := by simpa using ha0
      by_cases hb0 : b = 0
      · have g2 : (b == 0) = true := by simpa using hb0
        have g3 : (b != 0) = false := by simpa using hb0
        have e : apT 12 a b = 0 := by simp [apT, tr, ha0, hb0]
        rw [e]
        clear ha0 hb0 e
        go_enter Tryd.func58, Tryd.ntmps58
        go_wp2
        all_goals go_ret
        all_goals refine ⟨ret_int ?_, rfl⟩
        all_goals (rfl)
      · have g2 : (b == 0) = false := by simpa using hb0
        have g3 : (b != 0) = true := by simpa using hb0
        have e : apT 12 a b = 1 := by simp [apT, tr, ha0, hb0]
        rw [e]
        clear ha0 hb0 e
        go_enter Tryd.func58, Tryd.ntmps58
        go_wp2
        all_goals go_ret
        all_goals refine ⟨ret_int ?_, rfl⟩
        all_goals (rfl)
    · have g0 : (a == 0) = false := by simpa using ha0
      have g1 : (a != 0) = true := by simpa using ha0
      by_cases hb0 : b = 0
      · have g2 : (b == 0) = true := by simpa using hb0
        have g3 : (b != 0) = false := by simpa using hb0
        have e : apT 12 a b = 1 := by simp [apT, tr, ha0, hb0]
        rw [e]
        clear ha0 hb0 e
        go_enter Tryd.func58, Tryd.ntmps58
        go_wp2
        all_goals go_ret
        all_goals refine ⟨ret_int ?_, rfl⟩
        all_goals (rfl)
      · have g2 : (b == 0) = false := by simpa using hb0
        have g3 : (b != 0) = true := by simpa using hb0
        have e : apT 12 a b = 0 := by simp [apT, tr, ha0, hb0]
        rw [e]
        clear ha0 hb0 e
        go_enter Tryd.func58, Tryd.ntmps58
        go_wp2
        all_goals go_ret
        all_goals refine ⟨ret_int ?_, rfl⟩
        all_goals (rfl)
  by_cases h13 : k = 13
  · subst h13
    go_enter Tryd.func58, Tryd.ntmps58
    go_wp2
    all_goals go_ret
    all_goals refine ⟨ret_int ?_, rfl⟩
    all_goals (simp [apT, tr] <;> (first | omega | simp_all))
  by_cases h14 : k = 14
  · subst h14
    by_cases ha0 : a = 0
    · have g0 : (a == 0) = true := by simpa using ha0
      have g1 : (a != 0) = false := by simpa using ha0
      by_cases hb0 : b = 0
      · have g2 : (b == 0) = true := by simpa using hb0
        have g3 : (b != 0) = false := by simpa using hb0
        have e : apT 14 a b = 1 := by simp [apT, tr, ha0, hb0]
        rw [e]
        clear ha0 hb0 e
        go_enter Tryd.func58, Tryd.ntmps58
        go_wp2
        all_goals go_ret
        all_goals refine ⟨ret_int ?_, rfl⟩
        all_goals (rfl)
      · have g2 : (b == 0) = false := by simpa using hb0
        have g3 : (b != 0) = true := by simpa using hb0
        have e : apT 14 a b = 1 := by simp [apT, tr, ha0, hb0]
        rw [e]
        clear ha0 hb0 e
        go_enter Tryd.func58, Tryd.ntmps58
        go_wp2
        all_goals go_ret
        all_goals refine ⟨ret_int ?_, rfl⟩
        all_goals (rfl)
    · have g0 : (a == 0) = false := by simpa using ha0
      have g1 : (a != 0) = true := by simpa using ha0
      by_cases hb0 : b = 0
      · have g2 : (b == 0) = true := by simpa using hb0
        have g3 : (b != 0) = false := by simpa using hb0
        have e : apT 14 a b = 0 := by simp [apT, tr, ha0, hb0]
        rw [e]
        clear ha0 hb0 e
        go_enter Tryd.func58, Tryd.ntmps58
        go_wp2
        all_goals go_ret
        all_goals refine ⟨ret_int ?_, rfl⟩
        all_goals (rfl)
      · have g2 : (b == 0) = false := by simpa using hb0
        have g3 : (b != 0) = true := by simpa using hb0
        have e : apT 14 a b = 0 := by simp [apT, tr, ha0, hb0]
        rw [e]
        clear ha0 hb0 e
        go_enter Tryd.func58, Tryd.ntmps58
        go_wp2
        all_goals go_ret
        all_goals refine ⟨ret_int ?_, rfl⟩
        all_goals (rfl)
  have hz : apT k a b = 0 := by unfold apT; simp [h1, h2, h3, h4, h5, h6, h7, h8, h9, h10, h11, h12, h13, h14]
  rw [hz]
  have q1 : (k == 1) = false := by simpa using h1
  have q2 : (k == 2) = false := by simpa using h2
  have q3 : (k == 3) = false := by simpa using h3
  have q4 : (k == 4) = false := by simpa using h4
  have q5 : (k == 5) = false := by simpa using h5
  have q6 : (k == 6) = false := by simpa using h6
  have q7 : (k == 7) = false := by simpa using h7
  have q8 : (k == 8) = false := by simpa using h8
  have q9 : (k == 9) = false := by simpa using h9
  have q10 : (k == 10) = false := by simpa using h10
  have q11 : (k == 11) = false := by simpa using h11
  have q12 : (k == 12) = false := by simpa using h12
  have q13 : (k == 13) = false := by simpa using h13
  have q14 : (k == 14) = false := by simpa using h14
  go_enter Tryd.func58, Tryd.ntmps58
  go_wp2
  go_ret
  exact ⟨rfl, rfl⟩
end Go.Proofs.YtkgbmgpdehmiiaaDoor
