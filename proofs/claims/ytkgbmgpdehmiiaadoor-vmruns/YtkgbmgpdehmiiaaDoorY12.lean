import Derived.Test.YtkgbmgpdehmiiaaDoorY11
import Derived.WalkKit
import Derived.WalkSpells
import Derived.IntWalk
import Derived.Deep.Cut
import Derived.Deep.LoopGhost
import Derived.Laws.Cover1
import Derived.Lib.Hide
set_option linter.unusedVariables false
set_option linter.unusedSimpArgs false
set_option maxHeartbeats 64000000
set_option maxRecDepth 100000
namespace Go.Proofs.YtkgbmgpdehmiiaaDoor
open Go.RowKit Go.IntWalk
set_option linter.unusedVariables false
set_option linter.unusedSimpArgs false
theorem truth_any (b : Bool) (w : World) : Calls Tryd.prog 64 #[.bool b] w fun e w' => e = .returned (.int .i64 (tr b)) ∧ w' = w := by
  cases b
  all_goals (go_enter Tryd.func64, Tryd.ntmps64; go_wp2; go_ret; exact ⟨rfl, rfl⟩)
set_option maxHeartbeats 1000000 in
theorem divided_any (k a b : Int) (w : World) (hk : k = 4 ∨ k = 5) : Calls Tryd.prog 63 #[.int .i64 k, .int .i64 a, .int .i64 b] w fun e w' => e = .returned (.int .i64 (apT k a b)) ∧ w' = w := by
  by_cases hb : b = 0
  · subst hb
    go_enter Tryd.func63, Tryd.ntmps63
    go_wp2
    go_ret
    refine ⟨ret_int ?_, rfl⟩
    rcases hk with rfl | rfl <;> simp [apT]
  · have h1 : (b == 0) = false := by simpa using hb
    rcases hk with rfl | rfl
    · go_enter Tryd.func63, Tryd.ntmps63
      go_wp2
      go_ret
      refine ⟨ret_int ?_, rfl⟩
      simp [apT, hb]
    · go_enter Tryd.func63, Tryd.ntmps63
      go_wp2
      go_ret
      refine ⟨ret_int ?_, rfl⟩
      simp [apT, hb]
set_option maxHeartbeats 1000000 in
theorem ofTruths_any (k : Int) (a b : Bool) (w : World) : Calls Tryd.prog 65 #[.int .i64 k, .bool a, .bool b] w fun e w' => e = .returned (.int .i64 (if k = 10 then tr (a && b) else if k = 11 then tr (a || b) else if k = 12 then tr (a != b) else if k = 14 then tr (!a) else 0)) ∧ w' = w := by
  have ht := fun b w => truth_any b w
  cases a <;> cases b
  all_goals
    by_cases h10 : k = 10
    · subst h10
      go_enter Tryd.func65, Tryd.ntmps65
      go_wp2_with (go_at_call 64; refine (ht _ _).mono ?_; rintro e w' ⟨rfl, rfl⟩)
      go_ret
      exact ⟨rfl, rfl⟩
    by_cases h11 : k = 11
    · subst h11
      go_enter Tryd.func65, Tryd.ntmps65
      go_wp2_with (go_at_call 64; refine (ht _ _).mono ?_; rintro e w' ⟨rfl, rfl⟩)
      go_ret
      exact ⟨rfl, rfl⟩
    by_cases h12 : k = 12
    · subst h12
      go_enter Tryd.func65, Tryd.ntmps65
      go_wp2_with (go_at_call 64; refine (ht _ _).mono ?_; rintro e w' ⟨rfl, rfl⟩)
      go_ret
      exact ⟨rfl, rfl⟩
    by_cases h14 : k = 14
    · subst h14
      go_enter Tryd.func65, Tryd.ntmps65
      go_wp2_with (go_at_call 64; refine (ht _ _).mono ?_; rintro e w' ⟨rfl, rfl⟩)
      go_ret
      exact ⟨rfl, rfl⟩
    rw [if_neg h10, if_neg h11, if_neg h12, if_neg h14]
    go_enter Tryd.func65, Tryd.ntmps65
    go_wp2_with (go_at_call 64; refine (ht _ _).mono ?_; rintro e w' ⟨rfl, rfl⟩)
    go_ret
    exact ⟨rfl, rfl⟩
set_option maxHeartbeats 4000000 in
theorem apply_any (k a b : Int) (w : World) : Calls Tryd.prog 55 #[.int .i64 k, .int .i64 a, .int .i64 b] w fun e w' => e = .returned (.int .i64 (apT k a b)) ∧ w' = w := by
  have h22 := fun b w => truth_any b w
  have h21 := fun k a b w h => divided_any k a b w h
  have h23 := fun k a b w => ofTruths_any k a b w
  by_cases h1 : k = 1
  · subst h1
    go_enter Tryd.func55, Tryd.ntmps55
    go_wp2_with (first | (go_at_call 64; refine (h22 _ _).mono ?_; rintro e w' ⟨rfl, rfl⟩) | (go_at_call 63; refine (h21 _ _ _ _ (by simp)).mono ?_; rintro e w' ⟨rfl, rfl⟩) | (go_at_call 65; refine (h23 _ _ _ _).mono ?_; rintro e w' ⟨rfl, rfl⟩))
    all_goals go_ret
    all_goals refine ⟨ret_int ?_, rfl⟩
    all_goals (simp [apT, tr, bne] <;> (try omega) <;> (try (by_cases ha : a = 0 <;> by_cases hb : b = 0 <;> simp [ha, hb] <;> (try rw [show (a == 0) = false from by simpa using ha, show (b == 0) = false from by simpa using hb]))))
  by_cases h2 : k = 2
  · subst h2
    go_enter Tryd.func55, Tryd.ntmps55
    go_wp2_with (first | (go_at_call 64; refine (h22 _ _).mono ?_; rintro e w' ⟨rfl, rfl⟩) | (go_at_call 63; refine (h21 _ _ _ _ (by simp)).mono ?_; rintro e w' ⟨rfl, rfl⟩) | (go_at_call 65; refine (h23 _ _ _ _).mono ?_; rintro e w' ⟨rfl, rfl⟩))
    all_goals go_ret
    all_goals refine ⟨ret_int ?_, rfl⟩
    all_goals (simp [apT, tr, bne] <;> (try omega) <;> (try (by_cases ha : a = 0 <;> by_cases hb : b = 0 <;> simp [ha, hb] <;> (try rw [show (a == 0) = false from by simpa using ha, show (b == 0) = false from by simpa using hb]))))
  by_cases h3 : k = 3
  · subst h3
    go_enter Tryd.func55, Tryd.ntmps55
    go_wp2_with (first | (go_at_call 64; refine (h22 _ _).mono ?_; rintro e w' ⟨rfl, rfl⟩) | (go_at_call 63; refine (h21 _ _ _ _ (by simp)).mono ?_; rintro e w' ⟨rfl, rfl⟩) | (go_at_call 65; refine (h23 _ _ _ _).mono ?_; rintro e w' ⟨rfl, rfl⟩))
    all_goals go_ret
    all_goals refine ⟨ret_int ?_, rfl⟩
    all_goals (simp [apT, tr, bne] <;> (try omega) <;> (try (by_cases ha : a = 0 <;> by_cases hb : b = 0 <;> simp [ha, hb] <;> (try rw [show (a == 0) = false from by simpa using ha, show (b == 0) = false from by simpa using hb]))))
  by_cases h4 : k = 4
  · subst h4
    go_enter Tryd.func55, Tryd.ntmps55
    go_wp2_with (first | (go_at_call 64; refine (h22 _ _).mono ?_; rintro e w' ⟨rfl, rfl⟩) | (go_at_call 63; refine (h21 _ _ _ _ (by simp)).mono ?_; rintro e w' ⟨rfl, rfl⟩) | (go_at_call 65; refine (h23 _ _ _ _).mono ?_; rintro e w' ⟨rfl, rfl⟩))
    all_goals go_ret
    all_goals refine ⟨ret_int ?_, rfl⟩
    all_goals (simp [apT, tr, bne] <;> (try omega) <;> (try (by_cases ha : a = 0 <;> by_cases hb : b = 0 <;> simp [ha, hb] <;> (try rw [show (a == 0) = false from by simpa using ha, show (b == 0) = false from by simpa using hb]))))
  by_cases h5 : k = 5
  · subst h5
    go_enter Tryd.func55, Tryd.ntmps55
    go_wp2_with (first | (go_at_call 64; refine (h22 _ _).mono ?_; rintro e w' ⟨rfl, rfl⟩) | (go_at_call 63; refine (h21 _ _ _ _ (by simp)).mono ?_; rintro e w' ⟨rfl, rfl⟩) | (go_at_call 65; refine (h23 _ _ _ _).mono ?_; rintro e w' ⟨rfl, rfl⟩))
    all_goals go_ret
    all_goals refine ⟨ret_int ?_, rfl⟩
    all_goals (simp [apT, tr, bne] <;> (try omega) <;> (try (by_cases ha : a = 0 <;> by_cases hb : b = 0 <;> simp [ha, hb] <;> (try rw [show (a == 0) = false from by simpa using ha, show (b == 0) = false from by simpa using hb]))))
  by_cases h6 : k = 6
  · subst h6
    go_enter Tryd.func55, Tryd.ntmps55
    go_wp2_with (first | (go_at_call 64; refine (h22 _ _).mono ?_; rintro e w' ⟨rfl, rfl⟩) | (go_at_call 63; refine (h21 _ _ _ _ (by simp)).mono ?_; rintro e w' ⟨rfl, rfl⟩) | (go_at_call 65; refine (h23 _ _ _ _).mono ?_; rintro e w' ⟨rfl, rfl⟩))
    all_goals go_ret
    all_goals refine ⟨ret_int ?_, rfl⟩
    all_goals (simp [apT, tr, bne] <;> (try omega) <;> (try (by_cases ha : a = 0 <;> by_cases hb : b = 0 <;> simp [ha, hb] <;> (try rw [show (a == 0) = false from by simpa using ha, show (b == 0) = false from by simpa using hb]))))
  by_cases h7 : k = 7
  · subst h7
    go_enter Tryd.func55, Tryd.ntmps55
    go_wp2_with (first | (go_at_call 64; refine (h22 _ _).mono ?_; rintro e w' ⟨rfl, rfl⟩) | (go_at_call 63; refine (h21 _ _ _ _ (by simp)).mono ?_; rintro e w' ⟨rfl, rfl⟩) | (go_at_call 65; refine (h23 _ _ _ _).mono ?_; rintro e w' ⟨rfl, rfl⟩))
    all_goals go_ret
    all_goals refine ⟨ret_int ?_, rfl⟩
    all_goals (simp [apT, tr, bne] <;> (try omega) <;> (try (by_cases ha : a = 0 <;> by_cases hb : b = 0 <;> simp [ha, hb] <;> (try rw [show (a == 0) = false from by simpa using ha, show (b == 0) = false from by simpa using hb]))))
  by_cases h8 : k = 8
  · subst h8
    go_enter Tryd.func55, Tryd.ntmps55
    go_wp2_with (first | (go_at_call 64; refine (h22 _ _).mono ?_; rintro e w' ⟨rfl, rfl⟩) | (go_at_call 63; refine (h21 _ _ _ _ (by simp)).mono ?_; rintro e w' ⟨rfl, rfl⟩) | (go_at_call 65; refine (h23 _ _ _ _).mono ?_; rintro e w' ⟨rfl, rfl⟩))
    all_goals go_ret
    all_goals refine ⟨ret_int ?_, rfl⟩
    all_goals (simp [apT, tr, bne] <;> (try omega) <;> (try (by_cases ha : a = 0 <;> by_cases hb : b = 0 <;> simp [ha, hb] <;> (try rw [show (a == 0) = false from by simpa using ha, show (b == 0) = false from by simpa using hb]))))
  by_cases h9 : k = 9
  · subst h9
    go_enter Tryd.func55, Tryd.ntmps55
    go_wp2_with (first | (go_at_call 64; refine (h22 _ _).mono ?_; rintro e w' ⟨rfl, rfl⟩) | (go_at_call 63; refine (h21 _ _ _ _ (by simp)).mono ?_; rintro e w' ⟨rfl, rfl⟩) | (go_at_call 65; refine (h23 _ _ _ _).mono ?_; rintro e w' ⟨rfl, rfl⟩))
    all_goals go_ret
    all_goals refine ⟨ret_int ?_, rfl⟩
    all_goals (simp [apT, tr, bne] <;> (try omega) <;> (try (by_cases ha : a = 0 <;> by_cases hb : b = 0 <;> simp [ha, hb] <;> (try rw [show (a == 0) = false from by simpa using ha, show (b == 0) = false from by simpa using hb]))))
  by_cases h10 : k = 10
  · subst h10
    go_enter Tryd.func55, Tryd.ntmps55
    go_wp2_with (first | (go_at_call 64; refine (h22 _ _).mono ?_; rintro e w' ⟨rfl, rfl⟩) | (go_at_call 63; refine (h21 _ _ _ _ (by simp)).mono ?_; rintro e w' ⟨rfl, rfl⟩) | (go_at_call 65; refine (h23 _ _ _ _).mono ?_; rintro e w' ⟨rfl, rfl⟩))
    all_goals go_ret
    all_goals refine ⟨ret_int ?_, rfl⟩
    all_goals (simp [apT, tr, bne] <;> (try omega) <;> (try (by_cases ha : a = 0 <;> by_cases hb : b = 0 <;> simp [ha, hb] <;> (try rw [show (a == 0) = false from by simpa using ha, show (b == 0) = false from by simpa using hb]))))
  by_cases h11 : k = 11
  · subst h11
    go_enter Tryd.func55, Tryd.ntmps55
    go_wp2_with (first | (go_at_call 64; refine (h22 _ _).mono ?_; rintro e w' ⟨rfl, rfl⟩) | (go_at_call 63; refine (h21 _ _ _ _ (by simp)).mono ?_; rintro e w' ⟨rfl, rfl⟩) | (go_at_call 65; refine (h23 _ _ _ _).mono ?_; rintro e w' ⟨rfl, rfl⟩))
    all_goals go_ret
    all_goals refine ⟨ret_int ?_, rfl⟩
    all_goals (simp [apT, tr, bne] <;> (try omega) <;> (try (by_cases ha : a = 0 <;> by_cases hb : b = 0 <;> simp [ha, hb] <;> (try rw [show (a == 0) = false from by simpa using ha, show (b == 0) = false from by simpa using hb]))))
  by_cases h12 : k = 12
  · subst h12
    go_enter Tryd.func55, Tryd.ntmps55
    go_wp2_with (first | (go_at_call 64; refine (h22 _ _).mono ?_; rintro e w' ⟨rfl, rfl⟩) | (go_at_call 63; refine (h21 _ _ _ _ (by simp)).mono ?_; rintro e w' ⟨rfl, rfl⟩) | (go_at_call 65; refine (h23 _ _ _ _).mono ?_; rintro e w' ⟨rfl, rfl⟩))
    all_goals go_ret
    all_goals refine ⟨ret_int ?_, rfl⟩
    all_goals (simp [apT, tr, bne] <;> (try omega) <;> (try (by_cases ha : a = 0 <;> by_cases hb : b = 0 <;> simp [ha, hb] <;> (try rw [show (a == 0) = false from by simpa using ha, show (b == 0) = false from by simpa using hb]))))
  by_cases h13 : k = 13
  · subst h13
    go_enter Tryd.func55, Tryd.ntmps55
    go_wp2_with (first | (go_at_call 64; refine (h22 _ _).mono ?_; rintro e w' ⟨rfl, rfl⟩) | (go_at_call 63; refine (h21 _ _ _ _ (by simp)).mono ?_; rintro e w' ⟨rfl, rfl⟩) | (go_at_call 65; refine (h23 _ _ _ _).mono ?_; rintro e w' ⟨rfl, rfl⟩))
    all_goals go_ret
    all_goals refine ⟨ret_int ?_, rfl⟩
    all_goals (simp [apT, tr, bne] <;> (try omega) <;> (try (by_cases ha : a = 0 <;> by_cases hb : b = 0 <;> simp [ha, hb] <;> (try rw [show (a == 0) = false from by simpa using ha, show (b == 0) = false from by simpa using hb]))))
  by_cases h14 : k = 14
  · subst h14
    go_enter Tryd.func55, Tryd.ntmps55
    go_wp2_with (first | (go_at_call 64; refine (h22 _ _).mono ?_; rintro e w' ⟨rfl, rfl⟩) | (go_at_call 63; refine (h21 _ _ _ _ (by simp)).mono ?_; rintro e w' ⟨rfl, rfl⟩) | (go_at_call 65; refine (h23 _ _ _ _).mono ?_; rintro e w' ⟨rfl, rfl⟩))
    all_goals go_ret
    all_goals refine ⟨ret_int ?_, rfl⟩
    all_goals (simp [apT, tr, bne] <;> (try omega) <;> (try (by_cases ha : a = 0 <;> by_cases hb : b = 0 <;> simp [ha, hb] <;> (try rw [show (a == 0) = false from by simpa using ha, show (b == 0) = false from by simpa using hb]))))
  have hz : apT k a b = 0 := by unfold apT; simp [h1, h2, h3, h4, h5, h6, h7, h8, h9, h10, h11, h12, h13, h14]
  rw [hz]
  have q1 : (k == 1) = false := by simpa using h1
  have q2 : (k == 2) = false := by simpa using h2
  have q3 : (k == 3) = false := by simpa using h3
  have q4 : (k == 4) = false := by simpa using h4
  have q5 : (k == 5) = false := by simpa using h5
  have q6 : (k == 6) = false := by simpa using h6
  have q7 : (k == 7) = false := by simpa using h7
  have q8 : (k == 8) = false := by simpa using h8
  have q9 : (k == 9) = false := by simpa using h9
  have q10 : (k == 10) = false := by simpa using h10
  have q11 : (k == 11) = false := by simpa using h11
  have q12 : (k == 12) = false := by simpa using h12
  have q13 : (k == 13) = false := by simpa using h13
  have q14 : (k == 14) = false := by simpa using h14
  go_enter Tryd.func55, Tryd.ntmps55
  go_wp2_with (go_at_call 65; refine (h23 _ _ _ _).mono ?_; rintro e w' ⟨rfl, rfl⟩)
  go_ret
  refine ⟨ret_int ?_, rfl⟩
  simp [h10, h11, h12, h14]
end Go.Proofs.YtkgbmgpdehmiiaaDoor
namespace Go.Proofs.YtkgbmgpdehmiiaaDoor
open Go.RowKit Go.IntWalk
set_option linter.unusedVariables false
set_option linter.unusedSimpArgs false
/-- long numbers at the head of block g; what is behind them may be anything -/
def LX (w : World) (g : Nat) (l : List Int) : Prop := ∃ T : List Value, w.heap[g]? = some (.cells (l.map (Value.int .i64) ++ T).toArray 2 (0, 0))
theorem LX.lt {w : World} {g : Nat} {l : List Int} (h : LX w g l) : g < w.heap.size := by
  obtain ⟨T, h⟩ := h
  exact lt_of h
theorem LX.keep {w w' : World} {g : Nat} {l : List Int} (h : LX w g l) (hk : w'.heap[g]? = w.heap[g]?) : LX w' g l := by
  obtain ⟨T, h⟩ := h
  exact ⟨T, hk.trans h⟩
theorem LX.under {w w' : World} {g : Nat} {l : List Int} (h : LX w g l) (b : Below w.heap.size w w') : LX w' g l := h.keep (b.block _ h.lt)
theorem LX.at {w : World} {g : Nat} {l : List Int} (h : LX w g l) {i : Nat} (hi : i < l.length) : w.cell? ⟨g, i, none⟩ = some (.int .i64 l[i]) := by
  obtain ⟨T, h⟩ := h
  rw [cell_of h i, List.getElem?_toArray, List.getElem?_append_left (by simpa using hi)]
  simp [hi]
theorem LX.free {w : World} {g : Nat} {l : List Int} (h : LX w g l) (o : Nat) : w.frozen? ⟨g, o, none⟩ = false := by
  obtain ⟨T, h⟩ := h
  exact free_of h o
theorem LX.set {w : World} {g : Nat} {l : List Int} (h : LX w g l) {i : Nat} (hi : i < l.length) (x : Int) : LX (w.setCell ⟨g, i, none⟩ (.int .i64 x)) g (l.set i x) := by
  obtain ⟨T, h⟩ := h
  refine ⟨T, ?_⟩
  rw [set_in h i (.int .i64 x), List.setIfInBounds_toArray, List.set_append_left _ _ (by simpa using hi), List.map_set]
/-- the cells of a run -/
def rcs (u0 u1 : Value) (X : List Int) (pc dn lp tu : Int) : List Value := u0 :: u1 :: (X.map (Value.int .i64) ++ [.int .i64 pc, .int .i64 dn, .int .i64 lp, .int .i64 tu])
/-- a run in block rb -/
structure RB (w : World) (rb : Nat) (u0 u1 : Value) (X : List Int) (pc dn lp tu : Int) : Prop where
  l : X.length = 40
  h : w.heap[rb]? = some (.cells (rcs u0 u1 X pc dn lp tu).toArray 66 (0, 0))
theorem RB.lt {w : World} {rb : Nat} {u0 u1 : Value} {X : List Int} {pc dn lp tu : Int} (h : RB w rb u0 u1 X pc dn lp tu) : rb < w.heap.size := lt_of h.h
theorem RB.keep {w w' : World} {rb : Nat} {u0 u1 : Value} {X : List Int} {pc dn lp tu : Int} (h : RB w rb u0 u1 X pc dn lp tu) (hk : w'.heap[rb]? = w.heap[rb]?) : RB w' rb u0 u1 X pc dn lp tu := ⟨h.l, hk.trans h.h⟩
theorem RB.under {w w' : World} {rb : Nat} {u0 u1 : Value} {X : List Int} {pc dn lp tu : Int} (h : RB w rb u0 u1 X pc dn lp tu) (b : Below w.heap.size w w') : RB w' rb u0 u1 X pc dn lp tu := h.keep (b.block _ h.lt)
theorem RB.free {w : World} {rb : Nat} {u0 u1 : Value} {X : List Int} {pc dn lp tu : Int} (h : RB w rb u0 u1 X pc dn lp tu) (o : Nat) : w.frozen? ⟨rb, o, none⟩ = false := free_of h.h o
theorem RB.c0 {w : World} {rb : Nat} {u0 u1 : Value} {X : List Int} {pc dn lp tu : Int} (h : RB w rb u0 u1 X pc dn lp tu) : w.cell? ⟨rb, 0, none⟩ = some u0 := by rw [cell_of h.h 0]; rfl
theorem RB.c1 {w : World} {rb : Nat} {u0 u1 : Value} {X : List Int} {pc dn lp tu : Int} (h : RB w rb u0 u1 X pc dn lp tu) : w.cell? ⟨rb, 1, none⟩ = some u1 := by rw [cell_of h.h 1]; rfl
theorem rcs_end {u0 u1 : Value} {X : List Int} {pc dn lp tu : Int} (hl : X.length = 40) (j : Nat) : (rcs u0 u1 X pc dn lp tu)[42 + j]? = ([Value.int .i64 pc, .int .i64 dn, .int .i64 lp, .int .i64 tu] : List Value)[j]? := by
  have e : 42 + j = 40 + j + 1 + 1 := by omega
  unfold rcs
  rw [e, List.getElem?_cons_succ, List.getElem?_cons_succ, List.getElem?_append_right (by simp [hl])]
  congr 1
  simp [hl]
theorem rcs_reg {u0 u1 : Value} {X : List Int} {pc dn lp tu : Int} {i : Nat} (hi : i < X.length) : (rcs u0 u1 X pc dn lp tu)[2 + i]? = some (.int .i64 X[i]) := by
  have e : 2 + i = i + 1 + 1 := by omega
  unfold rcs
  rw [e, List.getElem?_cons_succ, List.getElem?_cons_succ, List.getElem?_append_left (by simp [hi])]
  simp [hi]
theorem rcs_set {u0 u1 : Value} {X : List Int} {pc dn lp tu : Int} {i : Nat} (hi : i < X.length) (v : Int) : (rcs u0 u1 X pc dn lp tu).set (2 + i) (.int .i64 v) = rcs u0 u1 (X.set i v) pc dn lp tu := by
  have e : 2 + i = i + 1 + 1 := by omega
  unfold rcs
  rw [e, List.set_cons_succ, List.set_cons_succ, List.set_append_left _ _ (by simpa using hi), List.map_set]
theorem rcs_sete {u0 u1 : Value} {X : List Int} {pc dn lp tu : Int} (hl : X.length = 40) (j : Nat) (v : Value) : (rcs u0 u1 X pc dn lp tu).set (42 + j) v = u0 :: u1 :: (X.map (Value.int .i64) ++ ([Value.int .i64 pc, .int .i64 dn, .int .i64 lp, .int .i64 tu] : List Value).set j v) := by
  have e : 42 + j = 40 + j + 1 + 1 := by omega
  have e2 : 40 + j - (X.map (Value.int .i64)).length = j := by rw [List.length_map, hl]; omega
  unfold rcs
  rw [e, List.set_cons_succ, List.set_cons_succ, List.set_append_right _ _ (by simp [hl]), e2]
theorem RB.at {w : World} {rb : Nat} {u0 u1 : Value} {X : List Int} {pc dn lp tu : Int} (h : RB w rb u0 u1 X pc dn lp tu) {i : Nat} (hi : i < X.length) : w.cell? ⟨rb, 2 + i, none⟩ = some (.int .i64 X[i]) := by
  rw [cell_of h.h (2 + i), List.getElem?_toArray, rcs_reg hi]
theorem RB.c42 {w : World} {rb : Nat} {u0 u1 : Value} {X : List Int} {pc dn lp tu : Int} (h : RB w rb u0 u1 X pc dn lp tu) : w.cell? ⟨rb, 42, none⟩ = some (.int .i64 pc) := by rw [cell_of h.h 42, List.getElem?_toArray]; exact rcs_end h.l 0
theorem RB.c43 {w : World} {rb : Nat} {u0 u1 : Value} {X : List Int} {pc dn lp tu : Int} (h : RB w rb u0 u1 X pc dn lp tu) : w.cell? ⟨rb, 43, none⟩ = some (.int .i64 dn) := by rw [cell_of h.h 43, List.getElem?_toArray]; exact rcs_end h.l 1
theorem RB.c44 {w : World} {rb : Nat} {u0 u1 : Value} {X : List Int} {pc dn lp tu : Int} (h : RB w rb u0 u1 X pc dn lp tu) : w.cell? ⟨rb, 44, none⟩ = some (.int .i64 lp) := by rw [cell_of h.h 44, List.getElem?_toArray]; exact rcs_end h.l 2
theorem RB.c45 {w : World} {rb : Nat} {u0 u1 : Value} {X : List Int} {pc dn lp tu : Int} (h : RB w rb u0 u1 X pc dn lp tu) : w.cell? ⟨rb, 45, none⟩ = some (.int .i64 tu) := by rw [cell_of h.h 45, List.getElem?_toArray]; exact rcs_end h.l 3
theorem RB.setR {w : World} {rb : Nat} {u0 u1 : Value} {X : List Int} {pc dn lp tu : Int} (h : RB w rb u0 u1 X pc dn lp tu) {i : Nat} (hi : i < X.length) (v : Int) : RB (w.setCell ⟨rb, 2 + i, none⟩ (.int .i64 v)) rb u0 u1 (X.set i v) pc dn lp tu :=
  ⟨by simp [h.l], by rw [set_in h.h (2 + i) _, List.setIfInBounds_toArray, rcs_set hi]⟩
theorem RB.setP {w : World} {rb : Nat} {u0 u1 : Value} {X : List Int} {pc dn lp tu : Int} (h : RB w rb u0 u1 X pc dn lp tu) (v : Int) : RB (w.setCell ⟨rb, 42, none⟩ (.int .i64 v)) rb u0 u1 X v dn lp tu :=
  ⟨h.l, by rw [set_in h.h 42 _, List.setIfInBounds_toArray, rcs_sete h.l 0]; rfl⟩
theorem RB.setD {w : World} {rb : Nat} {u0 u1 : Value} {X : List Int} {pc dn lp tu : Int} (h : RB w rb u0 u1 X pc dn lp tu) (v : Int) : RB (w.setCell ⟨rb, 43, none⟩ (.int .i64 v)) rb u0 u1 X pc v lp tu :=
  ⟨h.l, by rw [set_in h.h 43 _, List.setIfInBounds_toArray, rcs_sete h.l 1]; rfl⟩
theorem RB.setL {w : World} {rb : Nat} {u0 u1 : Value} {X : List Int} {pc dn lp tu : Int} (h : RB w rb u0 u1 X pc dn lp tu) (v : Int) : RB (w.setCell ⟨rb, 44, none⟩ (.int .i64 v)) rb u0 u1 X pc dn v tu :=
  ⟨h.l, by rw [set_in h.h 44 _, List.setIfInBounds_toArray, rcs_sete h.l 2]; rfl⟩
theorem RB.setT {w : World} {rb : Nat} {u0 u1 : Value} {X : List Int} {pc dn lp tu : Int} (h : RB w rb u0 u1 X pc dn lp tu) (v : Int) : RB (w.setCell ⟨rb, 45, none⟩ (.int .i64 v)) rb u0 u1 X pc dn lp v :=
  ⟨h.l, by rw [set_in h.h 45 _, List.setIfInBounds_toArray, rcs_sete h.l 3]; rfl⟩
theorem lt_cell {w : World} {p : Addr} {v : Value} (h : w.cell? p = some v) : p.block < w.heap.size := by
  by_cases hl : p.block < w.heap.size
  · exact hl
  · have e : w.heap[p.block]? = none := Array.getElem?_eq_none_iff.2 (by omega)
    have e2 : w.cell? p = none := by
      unfold World.cell?
      rw [e]
    rw [e2] at h
    exact absurd h (by simp)
theorem InAt.lt {w : World} {b o : Nat} {x : Cd.In} (h : InAt w b o x) : b < w.heap.size := lt_cell h.1
theorem InAt.keep {w w' : World} {b o : Nat} {x : Cd.In} (h : InAt w b o x) (hk : w'.heap[b]? = w.heap[b]?) : InAt w' b o x := by
  have hc : ∀ j, w'.cell? ⟨b, j, none⟩ = w.cell? ⟨b, j, none⟩ := fun j => World.cell?_of_block hk
  exact ⟨(hc _).trans h.1, (hc _).trans h.2.1, (hc _).trans h.2.2.1, (hc _).trans h.2.2.2.1, (hc _).trans h.2.2.2.2.1, (hc _).trans h.2.2.2.2.2⟩
/-- what an instruction does -/
structure DoP (w : World) (rb cb : Nat) (u0 u1 : Value) (X M : List Int) (pc dn lp tu : Int) (ok : Bool) (e : Ending) (w' : World) : Prop where
  e : e = .returned (.bool ok)
  r : RB w' rb u0 u1 X pc dn lp tu
  m : LX w' cb M
  a : Aside [rb, cb] w.heap.size w w'
end Go.Proofs.YtkgbmgpdehmiiaaDoor
