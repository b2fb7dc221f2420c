import Derived.Test.YtgjdkgkgbmbffaaDoorJ14
import Derived.WalkKit
import Derived.WalkSpells
import Derived.IntWalk
import Derived.Deep.Cut
import Derived.Deep.LoopGhost
import Derived.Laws.Cover1
import Derived.Lib.Hide
set_option linter.unusedVariables false
set_option linter.unusedSimpArgs false
set_option maxHeartbeats 64000000
set_option maxRecDepth 100000
namespace Go.Proofs.YtgjdkgkgbmbffaaDoor
open Go.RowKit Go.IntWalk
set_option linter.unusedVariables false
set_option linter.unusedSimpArgs false
namespace Lo
/-- what lies last behind i steps, and the steps that come ahead of its own -/
def Part (M : List Int) (k : Int) (E : List Pu) (i : Nat) (v : Int) (j : Nat) : Prop := j < i ∧ stk M k E i = stk M k E j ++ [v]
theorem stk_step {M : List Int} {k : Int} {E : List Pu} {i : Nat} (h : i < E.length) {S T : List Int} (hs : stk M k E i = S ++ T) (hT : (T.length : Int) = tk (E[i]).op) : stk M k E (i + 1) = S ++ [stepV M E[i] T k] := by
  rw [stk_succ M k E h]
  unfold stp rest
  have e : (stk M k E i).length - (tk (E[i]).op).toNat = S.length := by rw [hs, List.length_append]; omega
  rw [e, hs, List.take_left, List.drop_left]
theorem part_0 {M : List Int} {k : Int} {E : List Pu} {i : Nat} (h : i < E.length) (ht : tk (E[i]).op = 0) : Part M k E (i + 1) (stepV M E[i] [] k) i :=
  ⟨Nat.lt_succ_self i, stk_step h (by rw [List.append_nil]) (by rw [ht]; rfl)⟩
theorem part_1 {M : List Int} {k : Int} {E : List Pu} {i j : Nat} {a : Int} (h : i < E.length) (ht : tk (E[i]).op = 1) (ha : Part M k E i a j) : Part M k E (i + 1) (stepV M E[i] [a] k) j :=
  ⟨by have := ha.1; omega, stk_step h ha.2 (by rw [ht]; rfl)⟩
theorem part_2 {M : List Int} {k : Int} {E : List Pu} {i m j : Nat} {a b : Int} (h : i < E.length) (ht : tk (E[i]).op = 2) (hb : Part M k E i b m) (ha : Part M k E m a j) : Part M k E (i + 1) (stepV M E[i] [a, b] k) j :=
  ⟨by have := ha.1; have := hb.1; omega, stk_step h (by rw [hb.2, ha.2, List.append_assoc]; rfl) (by rw [ht]; rfl)⟩
theorem part_3 {M : List Int} {k : Int} {E : List Pu} {i m t j : Nat} {c a b : Int} (h : i < E.length) (ht : tk (E[i]).op = 3) (hb : Part M k E i b m) (ha : Part M k E m a t) (hc : Part M k E t c j) : Part M k E (i + 1) (stepV M E[i] [c, a, b] k) j :=
  ⟨by have := ha.1; have := hb.1; have := hc.1; omega, stk_step h (by rw [hb.2, ha.2, hc.2, List.append_assoc, List.append_assoc]; rfl) (by rw [ht]; rfl)⟩
theorem Part.wide {M : List Int} {k : Int} {E : List Pu} {i j : Nat} {v : Int} (h : Part M k E i v j) (hM : Wd M) (hE : PW E) (hi : i ≤ E.length) : I64 v :=
  stk_wide hM hE k i hi v (by rw [h.2]; simp)
theorem Part.tree {M : List Int} {k : Int} {E : List Pu} {j : Nat} {v : Int} {c n : Int} (h : Part M k E E.length v j) (hf : Fit c n E) : v = tree M k E := by
  have h1 := hf.fin M k
  unfold Lo.tree
  rw [h.2] at h1 ⊢
  cases hs : stk M k E j with
  | nil => rfl
  | cons x r => rw [hs] at h1; simp at h1
end Lo
set_option maxHeartbeats 8000000 in
theorem cellAt57_any {w : World} {okC : Nat → Prop} {vC : Value} {M : List Int} (hC : HInts okC w vC M) (i x : Int) : Calls Tryd.prog 57 #[vC, .int .i64 i, .int .i64 x] w fun e w' => e = .returned (.int .i64 (if i < 0 ∨ (M.length : Int) ≤ i then x else Lo.rd M i)) ∧ Below w.heap.size w w' := by
  obtain ⟨aC, cC, rfl, h1, h2, hat⟩ := hC.at
  unfold maxLen at h2
  by_cases hi0 : i < 0
  · rw [if_pos (.inl hi0)]
    clear hat hC
    generalize M.length = nC at *
    have e1 : decide (0 ≤ i) = false := by simp; omega
    go_enter Tryd.func57, Tryd.ntmps57
    go_wp2
    go_ret
    exact ⟨rfl, Below.refl _ _⟩
  · by_cases hi1 : (M.length : Int) ≤ i
    · rw [if_pos (.inr hi1)]
      clear hat hC
      generalize M.length = nC at *
      have e1 : decide (0 ≤ i) = true := by simp; omega
      have e2 : decide (i < (nC : Int)) = false := by simp; omega
      go_enter Tryd.func57, Tryd.ntmps57
      go_wp2
      go_ret
      exact ⟨rfl, Below.refl _ _⟩
    · rw [if_neg (by omega)]
      obtain ⟨n, rfl⟩ : ∃ n : Nat, i = (n : Int) := ⟨i.toNat, by omega⟩
      have hn : n < M.length := by omega
      obtain ⟨b, o, rfl, hb, hc⟩ := hat n hn
      have er : Lo.rd M (n : Int) = M[n] := by unfold Lo.rd; simp [List.getD_eq_getElem?_getD, hn]
      rw [er]
      clear er
      generalize M[n] = y at hc ⊢
      clear hat hC
      generalize M.length = nC at *
      have e1 : decide ((0 : Int) ≤ (n : Int)) = true := by simp
      have e2 : decide ((n : Int) < (nC : Int)) = true := by simp; omega
      go_enter Tryd.func57, Tryd.ntmps57
      go_wp2
      go_ret
      exact ⟨rfl, Below.refl _ _⟩
end Go.Proofs.YtgjdkgkgbmbffaaDoor
