import Derived.Test.YtgjdkgkgbmbffaaDoorH06
import Derived.Test.YtgjdkgkgbmbffaaDoorH00
import Derived.WalkKit
import Derived.WalkSpells
import Derived.IntWalk
import Derived.Lib.Hide
set_option linter.unusedVariables false
set_option linter.unusedSimpArgs false
set_option maxHeartbeats 64000000
set_option maxRecDepth 100000
namespace Go.Proofs.YtgjdkgkgbmbffaaDoor
open Go.RowKit Go.IntWalk
set_option linter.unusedVariables false
set_option linter.unusedSimpArgs false
/-- two may come up -/
theorem wpAnyL_two {P : Program} {ops : Array Oper} {Q : Exit → Act → World → Prop} {md : Region.Mode} {S : World → Prop} {late : Nat → Bool} {i j : Nat} {oi oj : Oper} {fuel : Nat} {listed : Array Bool} {a : Act} {w : World} (hoi : ops[i]? = some oi) (hoj : ops[j]? = some oj) (hr : Region.ready md ops listed = [i, j])
    (hwi : Region.wanted oi (yielded ops a.tmps) = true) (hwj : Region.wanted oj (yielded ops a.tmps) = true)
    (h1 : ∀ K' : Act → World → Prop, Shut (∀ a w, (late i = false → S w) → wpAnyL P md ops Q S late fuel (listed.setIfInBounds i true) a w → K' a w) → Oper.wp P oi a w K' Q)
    (h2 : ∀ K' : Act → World → Prop, Shut (∀ a w, (late j = false → S w) → wpAnyL P md ops Q S late fuel (listed.setIfInBounds j true) a w → K' a w) → Oper.wp P oj a w K' Q) : wpAnyL P md ops Q S late (fuel + 1) listed a w := by
  refine ⟨fun h0 => (by rw [hr] at h0; cases h0), fun q hq => ?_⟩
  rw [hr] at hq
  simp at hq
  rcases hq with rfl | rfl
  · refine wpOp_step hoi (fun K' hK => ?_)
    rw [if_pos hwi]
    exact h1 K' (fun a w hS hW => hK a w ⟨hS, hW⟩)
  · refine wpOp_step hoj (fun K' hK => ?_)
    rw [if_pos hwj]
    exact h2 K' (fun a w hS hW => hK a w ⟨hS, hW⟩)
end Go.Proofs.YtgjdkgkgbmbffaaDoor
namespace Go.Proofs.YtgjdkgkgbmbffaaDoor
open Go.RowKit Go.IntWalk
set_option linter.unusedVariables false
set_option linter.unusedSimpArgs false
def tr (b : Bool) : Int := if b = true then 1 else 0
/-- what an operator makes of two numbers -/
def apT (k a b : Int) : Int :=
  if k = 1 then wrap64 (a + b) else if k = 2 then wrap64 (a - b) else if k = 3 then wrap64 (a * b)
  else if k = 4 then (if b = 0 then 0 else wrap64 (a.tdiv b)) else if k = 5 then (if b = 0 then 0 else a.tmod b)
  else if k = 6 then min a b else if k = 7 then max a b else if k = 8 then tr (decide (a < b)) else if k = 9 then tr (decide (a = b))
  else if k = 10 then tr (decide (a ≠ 0 ∧ b ≠ 0)) else if k = 11 then tr (decide (a ≠ 0 ∨ b ≠ 0)) else if k = 12 then tr (decide (¬ (a = 0 ↔ b = 0)))
  else if k = 13 then wrap64 (-a) else if k = 14 then tr (decide (a = 0)) else 0
theorem truth_any (b : Bool) (w : World) : Calls Tryd.prog 55 #[.bool b] w fun e w' => e = .returned (.int .i64 (tr b)) ∧ w' = w := by
  cases b
  all_goals (go_enter Tryd.func55, Tryd.ntmps55; go_wp2; go_ret; exact ⟨rfl, rfl⟩)
set_option maxHeartbeats 1000000 in
theorem divided_any (k a b : Int) (w : World) (hk : k = 4 ∨ k = 5) : Calls Tryd.prog 54 #[.int .i64 k, .int .i64 a, .int .i64 b] w fun e w' => e = .returned (.int .i64 (apT k a b)) ∧ w' = w := by
  by_cases hb : b = 0
  · subst hb
    go_enter Tryd.func54, Tryd.ntmps54
    go_wp2
    go_ret
    refine ⟨ret_int ?_, rfl⟩
    rcases hk with rfl | rfl <;> simp [apT]
  · have h1 : (b == 0) = false := by simpa using hb
    rcases hk with rfl | rfl
    · go_enter Tryd.func54, Tryd.ntmps54
      go_wp2
      go_ret
      refine ⟨ret_int ?_, rfl⟩
      simp [apT, hb]
    · go_enter Tryd.func54, Tryd.ntmps54
      go_wp2
      go_ret
      refine ⟨ret_int ?_, rfl⟩
      simp [apT, hb]
set_option maxHeartbeats 1000000 in
theorem ofTruths_any (k : Int) (a b : Bool) (w : World) : Calls Tryd.prog 56 #[.int .i64 k, .bool a, .bool b] w fun e w' => e = .returned (.int .i64 (if k = 10 then tr (a && b) else if k = 11 then tr (a || b) else if k = 12 then tr (a != b) else if k = 14 then tr (!a) else 0)) ∧ w' = w := by
  have ht := fun b w => truth_any b w
  cases a <;> cases b
  all_goals
    by_cases h10 : k = 10
    · subst h10
      go_enter Tryd.func56, Tryd.ntmps56
      go_wp2_with (go_at_call 55; refine (ht _ _).mono ?_; rintro e w' ⟨rfl, rfl⟩)
      go_ret
      exact ⟨rfl, rfl⟩
    by_cases h11 : k = 11
    · subst h11
      go_enter Tryd.func56, Tryd.ntmps56
      go_wp2_with (go_at_call 55; refine (ht _ _).mono ?_; rintro e w' ⟨rfl, rfl⟩)
      go_ret
      exact ⟨rfl, rfl⟩
    by_cases h12 : k = 12
    · subst h12
      go_enter Tryd.func56, Tryd.ntmps56
      go_wp2_with (go_at_call 55; refine (ht _ _).mono ?_; rintro e w' ⟨rfl, rfl⟩)
      go_ret
      exact ⟨rfl, rfl⟩
    by_cases h14 : k = 14
    · subst h14
      go_enter Tryd.func56, Tryd.ntmps56
      go_wp2_with (go_at_call 55; refine (ht _ _).mono ?_; rintro e w' ⟨rfl, rfl⟩)
      go_ret
      exact ⟨rfl, rfl⟩
    rw [if_neg h10, if_neg h11, if_neg h12, if_neg h14]
    go_enter Tryd.func56, Tryd.ntmps56
    go_wp2_with (go_at_call 55; refine (ht _ _).mono ?_; rintro e w' ⟨rfl, rfl⟩)
    go_ret
    exact ⟨rfl, rfl⟩
end Go.Proofs.YtgjdkgkgbmbffaaDoor
namespace Go.Proofs.YtgjdkgkgbmbffaaDoor
open Go.RowKit Go.IntWalk
set_option linter.unusedVariables false
set_option linter.unusedSimpArgs false
namespace Sk
end Sk
theorem wpAnyL_skip {P : Program} {ops : Array Oper} {Q : Exit → Act → World → Prop} {md : Region.Mode} {S : World → Prop} {late : Nat → Bool} {i : Nat} {oi : Oper} {fuel : Nat} {listed : Array Bool} {a : Act} {w : World} (hi : ops[i]? = some oi)
    (hs : Region.noSelect ops = true) (hf : Region.free md ops listed i = true) (hr : (Region.ready md ops listed).contains i = true) (hl : waitFor md ops late listed i = true)
    (hQ : ∀ c a w, Q (.panic c) (a.put oi.dst undef) w → Q (.panic c) a w) (hS : S w) (hw : Region.wanted oi (yielded ops a.tmps) = false)
    (h : wpAnyL P md ops Q S late fuel (listed.setIfInBounds i true) (a.put oi.dst undef) w) : wpAnyL P md ops Q S late (fuel + 1) listed a w :=
  wpAnyL_first hi (Region.noSelect_spec hs) hQ fuel listed a w (Region.free_spec hi hf) (waitFor_spec hl) (by simpa using hr) (.inr ⟨hw, rfl⟩) hS h
end Go.Proofs.YtgjdkgkgbmbffaaDoor
