/-
  DERIVED. THE WALKS of sys.Apply and the document's Apply.
-/
import Derived.Test.YtfhjejmadhcmnaaDoorLeaf
import Derived.WalkKit
import Derived.WalkSpells
import Derived.IntWalk
namespace Go.Proofs.YtfhjejmadhcmnaaDoor
open Go.RowKit Go.IntWalk
set_option linter.unusedVariables false
set_option linter.unusedSimpArgs false
set_option maxRecDepth 100000

def tr (b : Bool) : Int := if b = true then 1 else 0
/-- what an operator makes of two numbers -/
def apT (k a b : Int) : Int :=
  if k = 1 then wrap64 (a + b) else if k = 2 then wrap64 (a - b) else if k = 3 then wrap64 (a * b)
  else if k = 4 then (if b = 0 then 0 else wrap64 (a.tdiv b)) else if k = 5 then (if b = 0 then 0 else a.tmod b)
  else if k = 6 then min a b else if k = 7 then max a b else if k = 8 then tr (decide (a < b)) else if k = 9 then tr (decide (a = b))
  else if k = 10 then tr (decide (a ≠ 0 ∧ b ≠ 0)) else if k = 11 then tr (decide (a ≠ 0 ∨ b ≠ 0)) else if k = 12 then tr (decide (¬ (a = 0 ↔ b = 0)))
  else if k = 13 then wrap64 (-a) else if k = 14 then tr (decide (a = 0)) else 0

theorem truth_any (b : Bool) (w : World) : Calls Tryd.prog 22 #[.bool b] w fun e w' => e = .returned (.int .i64 (tr b)) ∧ w' = w := by
  cases b
  all_goals (go_enter Tryd.func22, Tryd.ntmps22; go_wp2; go_ret; exact ⟨rfl, rfl⟩)

set_option maxHeartbeats 1000000 in
theorem divided_any (k a b : Int) (w : World) (hk : k = 4 ∨ k = 5) : Calls Tryd.prog 21 #[.int .i64 k, .int .i64 a, .int .i64 b] w fun e w' => e = .returned (.int .i64 (apT k a b)) ∧ w' = w := by
  by_cases hb : b = 0
  · subst hb
    go_enter Tryd.func21, Tryd.ntmps21
    go_wp2
    go_ret
    refine ⟨ret_int ?_, rfl⟩
    rcases hk with rfl | rfl <;> simp [apT]
  · have h1 : (b == 0) = false := by simpa using hb
    rcases hk with rfl | rfl
    · go_enter Tryd.func21, Tryd.ntmps21
      go_wp2
      go_ret
      refine ⟨ret_int ?_, rfl⟩
      simp [apT, hb]
    · go_enter Tryd.func21, Tryd.ntmps21
      go_wp2
      go_ret
      refine ⟨ret_int ?_, rfl⟩
      simp [apT, hb]

set_option maxHeartbeats 1000000 in
theorem ofTruths_any (k : Int) (a b : Bool) (w : World) : Calls Tryd.prog 23 #[.int .i64 k, .bool a, .bool b] w fun e w' => e = .returned (.int .i64 (if k = 10 then tr (a && b) else if k = 11 then tr (a || b) else if k = 12 then tr (a != b) else if k = 14 then tr (!a) else 0)) ∧ w' = w := by
  have ht := fun b w => truth_any b w
  cases a <;> cases b
  all_goals
    by_cases h10 : k = 10
    · subst h10
      go_enter Tryd.func23, Tryd.ntmps23
      go_wp2_with (go_at_call 22; refine (ht _ _).mono ?_; rintro e w' ⟨rfl, rfl⟩)
      go_ret
      exact ⟨rfl, rfl⟩
    by_cases h11 : k = 11
    · subst h11
      go_enter Tryd.func23, Tryd.ntmps23
      go_wp2_with (go_at_call 22; refine (ht _ _).mono ?_; rintro e w' ⟨rfl, rfl⟩)
      go_ret
      exact ⟨rfl, rfl⟩
    by_cases h12 : k = 12
    · subst h12
      go_enter Tryd.func23, Tryd.ntmps23
      go_wp2_with (go_at_call 22; refine (ht _ _).mono ?_; rintro e w' ⟨rfl, rfl⟩)
      go_ret
      exact ⟨rfl, rfl⟩
    by_cases h14 : k = 14
    · subst h14
      go_enter Tryd.func23, Tryd.ntmps23
      go_wp2_with (go_at_call 22; refine (ht _ _).mono ?_; rintro e w' ⟨rfl, rfl⟩)
      go_ret
      exact ⟨rfl, rfl⟩
    rw [if_neg h10, if_neg h11, if_neg h12, if_neg h14]
    go_enter Tryd.func23, Tryd.ntmps23
    go_wp2_with (go_at_call 22; refine (ht _ _).mono ?_; rintro e w' ⟨rfl, rfl⟩)
    go_ret
    exact ⟨rfl, rfl⟩
end Go.Proofs.YtfhjejmadhcmnaaDoor
