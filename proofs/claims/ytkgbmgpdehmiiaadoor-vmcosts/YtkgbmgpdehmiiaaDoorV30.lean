import Derived.Test.YtkgbmgpdehmiiaaDoorV09
import Derived.WalkKit
import Derived.WalkSpells
import Derived.IntWalk
set_option linter.unusedVariables false
set_option linter.unusedSimpArgs false
set_option maxHeartbeats 64000000
set_option maxRecDepth 100000
namespace Go.Proofs.YtkgbmgpdehmiiaaDoor
open Go.RowKit Go.IntWalk
set_option linter.unusedVariables false
set_option linter.unusedSimpArgs false
theorem truth_any (b : Bool) (w : World) : Calls Tryd.prog 64 #[.bool b] w fun e w' => e = .returned (.int .i64 (tr b)) ∧ w' = w := by
  cases b
  all_goals (go_enter Tryd.func64, Tryd.ntmps64; go_wp2; go_ret; exact ⟨rfl, rfl⟩)
set_option maxHeartbeats 1000000 in
theorem divided_any (k a b : Int) (w : World) (hk : k = 4 ∨ k = 5) : Calls Tryd.prog 63 #[.int .i64 k, .int .i64 a, .int .i64 b] w fun e w' => e = .returned (.int .i64 (apT k a b)) ∧ w' = w := by
  by_cases hb : b = 0
  · subst hb
    go_enter Tryd.func63, Tryd.ntmps63
    go_wp2
    go_ret
    refine ⟨ret_int ?_, rfl⟩
    rcases hk with rfl | rfl <;> simp [apT]
  · have h1 : (b == 0) = false := by simpa using hb
    rcases hk with rfl | rfl
    · go_enter Tryd.func63, Tryd.ntmps63
      go_wp2
      go_ret
      refine ⟨ret_int ?_, rfl⟩
      simp [apT, hb]
    · go_enter Tryd.func63, Tryd.ntmps63
      go_wp2
      go_ret
      refine ⟨ret_int ?_, rfl⟩
      simp [apT, hb]
set_option maxHeartbeats 1000000 in
theorem ofTruths_any (k : Int) (a b : Bool) (w : World) : Calls Tryd.prog 65 #[.int .i64 k, .bool a, .bool b] w fun e w' => e = .returned (.int .i64 (if k = 10 then tr (a && b) else if k = 11 then tr (a || b) else if k = 12 then tr (a != b) else if k = 14 then tr (!a) else 0)) ∧ w' = w := by
  have ht := fun b w => truth_any b w
  cases a <;> cases b
  all_goals
    by_cases h10 : k = 10
    · subst h10
      go_enter Tryd.func65, Tryd.ntmps65
      go_wp2_with (go_at_call 64; refine (ht _ _).mono ?_; rintro e w' ⟨rfl, rfl⟩)
      go_ret
      exact ⟨rfl, rfl⟩
    by_cases h11 : k = 11
    · subst h11
      go_enter Tryd.func65, Tryd.ntmps65
      go_wp2_with (go_at_call 64; refine (ht _ _).mono ?_; rintro e w' ⟨rfl, rfl⟩)
      go_ret
      exact ⟨rfl, rfl⟩
    by_cases h12 : k = 12
    · subst h12
      go_enter Tryd.func65, Tryd.ntmps65
      go_wp2_with (go_at_call 64; refine (ht _ _).mono ?_; rintro e w' ⟨rfl, rfl⟩)
      go_ret
      exact ⟨rfl, rfl⟩
    by_cases h14 : k = 14
    · subst h14
      go_enter Tryd.func65, Tryd.ntmps65
      go_wp2_with (go_at_call 64; refine (ht _ _).mono ?_; rintro e w' ⟨rfl, rfl⟩)
      go_ret
      exact ⟨rfl, rfl⟩
    rw [if_neg h10, if_neg h11, if_neg h12, if_neg h14]
    go_enter Tryd.func65, Tryd.ntmps65
    go_wp2_with (go_at_call 64; refine (ht _ _).mono ?_; rintro e w' ⟨rfl, rfl⟩)
    go_ret
    exact ⟨rfl, rfl⟩
set_option maxHeartbeats 4000000 in
theorem apply_any (k a b : Int) (w : World) : Calls Tryd.prog 55 #[.int .i64 k, .int .i64 a, .int .i64 b] w fun e w' => e = .returned (.int .i64 (apT k a b)) ∧ w' = w := by
  have h22 := fun b w => truth_any b w
  have h21 := fun k a b w h => divided_any k a b w h
  have h23 := fun k a b w => ofTruths_any k a b w
  by_cases h1 : k = 1
  · subst h1
    go_enter Tryd.func55, Tryd.ntmps55
    go_wp2_with (first | (go_at_call 64; refine (h22 _ _).mono ?_; rintro e w' ⟨rfl, rfl⟩) | (go_at_call 63; refine (h21 _ _ _ _ (by simp)).mono ?_; rintro e w' ⟨rfl, rfl⟩) | (go_at_call 65; refine (h23 _ _ _ _).mono ?_; rintro e w' ⟨rfl, rfl⟩))
    all_goals go_ret
    all_goals refine ⟨ret_int ?_, rfl⟩
    all_goals (simp [apT, tr, bne] <;> (try omega) <;> (try (by_cases ha : a = 0 <;> by_cases hb : b = 0 <;> simp [ha, hb] <;> (try rw [show (a == 0) = false from by simpa using ha, show (b == 0) = false from by simpa using hb]))))
  by_cases h2 : k = 2
  · subst h2
    go_enter Tryd.func55, Tryd.ntmps55
    go_wp2_with (first | (go_at_call 64; refine (h22 _ _).mono ?_; rintro e w' ⟨rfl, rfl⟩) | (go_at_call 63; refine (h21 _ _ _ _ (by simp)).mono ?_; rintro e w' ⟨rfl, rfl⟩) | (go_at_call 65; refine (h23 _ _ _ _).mono ?_; rintro e w' ⟨rfl, rfl⟩))
    all_goals go_ret
    all_goals refine ⟨ret_int ?_, rfl⟩
    all_goals (simp [apT, tr, bne] <;> (try omega) <;> (try (by_cases ha : a = 0 <;> by_cases hb : b = 0 <;> simp [ha, hb] <;> (try rw [show (a == 0) = false from by simpa using ha, show (b == 0) = false from by simpa using hb]))))
  by_cases h3 : k = 3
  · subst h3
    go_enter Tryd.func55, Tryd.ntmps55
    go_wp2_with (first | (go_at_call 64; refine (h22 _ _).mono ?_; rintro e w' ⟨rfl, rfl⟩) | (go_at_call 63; refine (h21 _ _ _ _ (by simp)).mono ?_; rintro e w' ⟨rfl, rfl⟩) | (go_at_call 65; refine (h23 _ _ _ _).mono ?_; rintro e w' ⟨rfl, rfl⟩))
    all_goals go_ret
    all_goals refine ⟨ret_int ?_, rfl⟩
    all_goals (simp [apT, tr, bne] <;> (try omega) <;> (try (by_cases ha : a = 0 <;> by_cases hb : b = 0 <;> simp [ha, hb] <;> (try rw [show (a == 0) = false from by simpa using ha, show (b == 0) = false from by simpa using hb]))))
  by_cases h4 : k = 4
  · subst h4
    go_enter Tryd.func55, Tryd.ntmps55
    go_wp2_with (first | (go_at_call 64; refine (h22 _ _).mono ?_; rintro e w' ⟨rfl, rfl⟩) | (go_at_call 63; refine (h21 _ _ _ _ (by simp)).mono ?_; rintro e w' ⟨rfl, rfl⟩) | (go_at_call 65; refine (h23 _ _ _ _).mono ?_; rintro e w' ⟨rfl, rfl⟩))
    all_goals go_ret
    all_goals refine ⟨ret_int ?_, rfl⟩
    all_goals (simp [apT, tr, bne] <;> (try omega) <;> (try (by_cases ha : a = 0 <;> by_cases hb : b = 0 <;> simp [ha, hb] <;> (try rw [show (a == 0) = false from by simpa using ha, show (b == 0) = false from by simpa using hb]))))
  by_cases h5 : k = 5
  · subst h5
    go_enter Tryd.func55, Tryd.ntmps55
    go_wp2_with (first | (go_at_call 64; refine (h22 _ _).mono ?_; rintro e w' ⟨rfl, rfl⟩) | (go_at_call 63; refine (h21 _ _ _ _ (by simp)).mono ?_; rintro e w' ⟨rfl, rfl⟩) | (go_at_call 65; refine (h23 _ _ _ _).mono ?_; rintro e w' ⟨rfl, rfl⟩))
    all_goals go_ret
    all_goals refine ⟨ret_int ?_, rfl⟩
    all_goals (simp [apT, tr, bne] <;> (try omega) <;> (try (by_cases ha : a = 0 <;> by_cases hb : b = 0 <;> simp [ha, hb] <;> (try rw [show (a == 0) = false from by simpa using ha, show (b == 0) = false from by simpa using hb]))))
  by_cases h6 : k = 6
  · subst h6
    go_enter Tryd.func55, Tryd.ntmps55
    go_wp2_with (first | (go_at_call 64; refine (h22 _ _).mono ?_; rintro e w' ⟨rfl, rfl⟩) | (go_at_call 63; refine (h21 _ _ _ _ (by simp)).mono ?_; rintro e w' ⟨rfl, rfl⟩) | (go_at_call 65; refine (h23 _ _ _ _).mono ?_; rintro e w' ⟨rfl, rfl⟩))
    all_goals go_ret
    all_goals refine ⟨ret_int ?_, rfl⟩
    all_goals (simp [apT, tr, bne] <;> (try omega) <;> (try (by_cases ha : a = 0 <;> by_cases hb : b = 0 <;> simp [ha, hb] <;> (try rw [show (a == 0) = false from by simpa using ha, show (b == 0) = false from by simpa using hb]))))
  by_cases h7 : k = 7
  · subst h7
    go_enter Tryd.func55, Tryd.ntmps55
    go_wp2_with (first | (go_at_call 64; refine (h22 _ _).mono ?_; rintro e w' ⟨rfl, rfl⟩) | (go_at_call 63; refine (h21 _ _ _ _ (by simp)).mono ?_; rintro e w' ⟨rfl, rfl⟩) | (go_at_call 65; refine (h23 _ _ _ _).mono ?_; rintro e w' ⟨rfl, rfl⟩))
    all_goals go_ret
    all_goals refine ⟨ret_int ?_, rfl⟩
    all_goals (simp [apT, tr, bne] <;> (try omega) <;> (try (by_cases ha : a = 0 <;> by_cases hb : b = 0 <;> simp [ha, hb] <;> (try rw [show (a == 0) = false from by simpa using ha, show (b == 0) = false from by simpa using hb]))))
  by_cases h8 : k = 8
  · subst h8
    go_enter Tryd.func55, Tryd.ntmps55
    go_wp2_with (first | (go_at_call 64; refine (h22 _ _).mono ?_; rintro e w' ⟨rfl, rfl⟩) | (go_at_call 63; refine (h21 _ _ _ _ (by simp)).mono ?_; rintro e w' ⟨rfl, rfl⟩) | (go_at_call 65; refine (h23 _ _ _ _).mono ?_; rintro e w' ⟨rfl, rfl⟩))
    all_goals go_ret
    all_goals refine ⟨ret_int ?_, rfl⟩
    all_goals (simp [apT, tr, bne] <;> (try omega) <;> (try (by_cases ha : a = 0 <;> by_cases hb : b = 0 <;> simp [ha, hb] <;> (try rw [show (a == 0) = false from by simpa using ha, show (b == 0) = false from by simpa using hb]))))
  by_cases h9 : k = 9
  · subst h9
    go_enter Tryd.func55, Tryd.ntmps55
    go_wp2_with (first | (go_at_call 64; refine (h22 _ _).mono ?_; rintro e w' ⟨rfl, rfl⟩) | (go_at_call 63; refine (h21 _ _ _ _ (by simp)).mono ?_; rintro e w' ⟨rfl, rfl⟩) | (go_at_call 65; refine (h23 _ _ _ _).mono ?_; rintro e w' ⟨rfl, rfl⟩))
    all_goals go_ret
    all_goals refine ⟨ret_int ?_, rfl⟩
    all_goals (simp [apT, tr, bne] <;> (try omega) <;> (try (by_cases ha : a = 0 <;> by_cases hb : b = 0 <;> simp [ha, hb] <;> (try rw [show (a == 0) = false from by simpa using ha, show (b == 0) = false from by simpa using hb]))))
  by_cases h10 : k = 10
  · subst h10
    go_enter Tryd.func55, Tryd.ntmps55
    go_wp2_with (first | (go_at_call 64; refine (h22 _ _).mono ?_; rintro e w' ⟨rfl, rfl⟩) | (go_at_call 63; refine (h21 _ _ _ _ (by simp)).mono ?_; rintro e w' ⟨rfl, rfl⟩) | (go_at_call 65; refine (h23 _ _ _ _).mono ?_; rintro e w' ⟨rfl, rfl⟩))
    all_goals go_ret
    all_goals refine ⟨ret_int ?_, rfl⟩
    all_goals (simp [apT, tr, bne] <;> (try omega) <;> (try (by_cases ha : a = 0 <;> by_cases hb : b = 0 <;> simp [ha, hb] <;> (try rw [show (a == 0) = false from by simpa using ha, show (b == 0) = false from by simpa using hb]))))
  by_cases h11 : k = 11
  · subst h11
    go_enter Tryd.func55, Tryd.ntmps55
    go_wp2_with (first | (go_at_call 64; refine (h22 _ _).mono ?_; rintro e w' ⟨rfl, rfl⟩) | (go_at_call 63; refine (h21 _ _ _ _ (by simp)).mono ?_; rintro e w' ⟨rfl, rfl⟩) | (go_at_call 65; refine (h23 _ _ _ _).mono ?_; rintro e w' ⟨rfl, rfl⟩))
    all_goals go_ret
    all_goals refine ⟨ret_int ?_, rfl⟩
    all_goals (simp [apT, tr, bne] <;> (try omega) <;> (try (by_cases ha : a = 0 <;> by_cases hb : b = 0 <;> simp [ha, hb] <;> (try rw [show (a == 0) = false from by simpa using ha, show (b == 0) = false from by simpa using hb]))))
  by_cases h12 : k = 12
  · subst h12
    go_enter Tryd.func55, Tryd.ntmps55
    go_wp2_with (first | (go_at_call 64; refine (h22 _ _).mono ?_; rintro e w' ⟨rfl, rfl⟩) | (go_at_call 63; refine (h21 _ _ _ _ (by simp)).mono ?_; rintro e w' ⟨rfl, rfl⟩) | (go_at_call 65; refine (h23 _ _ _ _).mono ?_; rintro e w' ⟨rfl, rfl⟩))
    all_goals go_ret
    all_goals refine ⟨ret_int ?_, rfl⟩
    all_goals (simp [apT, tr, bne] <;> (try omega) <;> (try (by_cases ha : a = 0 <;> by_cases hb : b = 0 <;> simp [ha, hb] <;> (try rw [show (a == 0) = false from by simpa using ha, show (b == 0) = false from by simpa using hb]))))
  by_cases h13 : k = 13
  · subst h13
    go_enter Tryd.func55, Tryd.ntmps55
    go_wp2_with (first | (go_at_call 64; refine (h22 _ _).mono ?_; rintro e w' ⟨rfl, rfl⟩) | (go_at_call 63; refine (h21 _ _ _ _ (by simp)).mono ?_; rintro e w' ⟨rfl, rfl⟩) | (go_at_call 65; refine (h23 _ _ _ _).mono ?_; rintro e w' ⟨rfl, rfl⟩))
    all_goals go_ret
    all_goals refine ⟨ret_int ?_, rfl⟩
    all_goals (simp [apT, tr, bne] <;> (try omega) <;> (try (by_cases ha : a = 0 <;> by_cases hb : b = 0 <;> simp [ha, hb] <;> (try rw [show (a == 0) = false from by simpa using ha, show (b == 0) = false from by simpa using hb]))))
  by_cases h14 : k = 14
  · subst h14
    go_enter Tryd.func55, Tryd.ntmps55
    go_wp2_with (first | (go_at_call 64; refine (h22 _ _).mono ?_; rintro e w' ⟨rfl, rfl⟩) | (go_at_call 63; refine (h21 _ _ _ _ (by simp)).mono ?_; rintro e w' ⟨rfl, rfl⟩) | (go_at_call 65; refine (h23 _ _ _ _).mono ?_; rintro e w' ⟨rfl, rfl⟩))
    all_goals go_ret
    all_goals refine ⟨ret_int ?_, rfl⟩
    all_goals (simp [apT, tr, bne] <;> (try omega) <;> (try (by_cases ha : a = 0 <;> by_cases hb : b = 0 <;> simp [ha, hb] <;> (try rw [show (a == 0) = false from by simpa using ha, show (b == 0) = false from by simpa using hb]))))
  have hz : apT k a b = 0 := by unfold apT; simp [h1, h2, h3, h4, h5, h6, h7, h8, h9, h10, h11, h12, h13, h14]
  rw [hz]
  have q1 : (k == 1) = false := by simpa using h1
  have q2 : (k == 2) = false := by simpa using h2
  have q3 : (k == 3) = false := by simpa using h3
  have q4 : (k == 4) = false := by simpa using h4
  have q5 : (k == 5) = false := by simpa using h5
  have q6 : (k == 6) = false := by simpa using h6
  have q7 : (k == 7) = false := by simpa using h7
  have q8 : (k == 8) = false := by simpa using h8
  have q9 : (k == 9) = false := by simpa using h9
  have q10 : (k == 10) = false := by simpa using h10
  have q11 : (k == 11) = false := by simpa using h11
  have q12 : (k == 12) = false := by simpa using h12
  have q13 : (k == 13) = false := by simpa using h13
  have q14 : (k == 14) = false := by simpa using h14
  go_enter Tryd.func55, Tryd.ntmps55
  go_wp2_with (go_at_call 65; refine (h23 _ _ _ _).mono ?_; rintro e w' ⟨rfl, rfl⟩)
  go_ret
  refine ⟨ret_int ?_, rfl⟩
  simp [h10, h11, h12, h14]
end Go.Proofs.YtkgbmgpdehmiiaaDoor
