import Derived.Test.YtbiomnnlpafciaaDoorS07
import Derived.WalkKit
import Derived.WalkSpells
import Derived.IntWalk
import Derived.Deep.Cut
import Derived.Deep.LoopGhost
import Derived.Laws.Cover1
import Derived.Lib.Hide
set_option linter.unusedVariables false
set_option linter.unusedSimpArgs false
set_option maxHeartbeats 64000000
set_option maxRecDepth 100000
namespace Go.Proofs.YtbiomnnlpafciaaDoor
open Go.RowKit Go.IntWalk
set_option linter.unusedVariables false
set_option linter.unusedSimpArgs false
theorem ep_r (p : Pu) (r t : Int) : ∀ x ∈ Em.ep p r t, r - Lo.tk p.op ≤ x.r ∧ x.r ≤ r + 2 := by
  intro x hx
  obtain ⟨op, kk, vv, nn⟩ := p
  unfold Em.ep at hx
  dsimp only at hx ⊢
  split at hx
  · rename_i o; subst o; simp at hx; subst hx; simp [Lo.tk]; omega
  split at hx
  · rename_i o; subst o; simp at hx; subst hx; simp [Lo.tk]; omega
  split at hx
  · rename_i o; subst o
    split at hx <;> (simp at hx; subst hx; simp [Lo.tk]; omega)
  split at hx
  · rename_i o; subst o
    split at hx
    · simp at hx; rcases hx with rfl | rfl <;> (simp [Lo.tk]; omega)
    · simp at hx; subst hx; simp [Lo.tk]; omega
  split at hx
  · rename_i o; subst o; simp at hx; subst hx; simp [Lo.tk]; omega
  split at hx
  · rename_i o; subst o; simp at hx; subst hx; simp [Lo.tk]; omega
  split at hx
  · rename_i o; subst o; simp at hx; subst hx; simp [Lo.tk]; omega
  split at hx
  · rename_i o; subst o
    simp only [List.mem_cons, List.not_mem_nil, or_false] at hx
    rcases hx with rfl | rfl | rfl | rfl | rfl | rfl | rfl | rfl | rfl | rfl | rfl <;> (simp [Lo.tk]; omega)
  · cases hx
theorem et_r {c n t : Int} {E : List Pu} (hf : Lo.Fit c n E) : ∀ (m i : Nat), m + i = E.length → ∀ x ∈ Em.et (E.drop i) (2 + ((Lo.stk [] 0 E i).length : Int)) t, 0 ≤ x.r ∧ x.r ≤ 100
  | 0, i, e, x, hx => by
    have : i = E.length := by omega
    subst this
    rw [List.drop_length] at hx
    simp [Em.et] at hx
  | m + 1, i, e, x, hx => by
    have hi : i < E.length := by omega
    obtain ⟨h1, h2, h3⟩ := hf.at' [] 0 i hi
    have hl := Em.stp_len (M := []) (k := 0) h1
    rw [← Lo.stk_succ [] 0 E hi] at hl
    rw [List.drop_eq_getElem_cons hi, Em.et] at hx
    rcases List.mem_append.1 hx with hx | hx
    · have := ep_r _ _ _ x hx
      have := hf.len
      omega
    · have e2 : Em.er E[i] (2 + ((Lo.stk [] 0 E i).length : Int)) = 2 + ((Lo.stk [] 0 E (i + 1)).length : Int) := by unfold Em.er; omega
      rw [e2] at hx
      exact et_r hf m (i + 1) (by omega) x hx
theorem et_r2 {c n : Int} {E : List Pu} (hf : Lo.Fit c n E) (t : Int) : ∀ x ∈ Em.et E 2 t, 0 ≤ x.r ∧ x.r ≤ 100 := by
  have := et_r (t := t) hf E.length 0 (by omega)
  rw [Lo.stk_zero] at this
  simpa using this
theorem es_r {c : Int} {s : Lo.Sp} (h : Lo.Ok c s) : ∀ x ∈ Em.es s, 0 ≤ x.r ∧ x.r ≤ 100 := by
  intro x hx
  unfold Em.es at hx
  have one : ∀ (y : Cd.In), x ∈ [y] → 0 ≤ y.r ∧ y.r ≤ 100 → 0 ≤ x.r ∧ x.r ≤ 100 := fun y hy h => by
    rw [List.mem_singleton] at hy
    subst hy
    exact h
  split at hx
  · rcases List.mem_append.1 hx with hx | hx
    · exact et_r2 h.E 0 x hx
    · exact one _ hx (by dsimp only; omega)
  rcases List.mem_append.1 hx with hx | hx
  · split at hx
    · rename_i hf
      rcases List.mem_append.1 hx with hx | hx
      · exact et_r2 (h.F hf) 0 x hx
      · exact one _ hx (by dsimp only; omega)
    · cases hx
  rcases List.mem_cons.1 hx with rfl | hx
  · dsimp only; omega
  rcases List.mem_append.1 hx with hx | hx
  · rcases List.mem_append.1 hx with hx | hx
    · exact et_r2 h.E s.n x hx
    · unfold Em.mid at hx
      split at hx
      · exact one _ hx (by dsimp only; omega)
      split at hx
      · exact one _ hx (by dsimp only; omega)
      · simp only [List.mem_cons, List.not_mem_nil, or_false] at hx
        rcases hx with rfl | rfl <;> (dsimp only; omega)
  rcases List.mem_cons.1 hx with rfl | hx
  · dsimp only; omega
  split at hx
  · exact one _ hx (by dsimp only; omega)
  · cases hx
end Go.Proofs.YtbiomnnlpafciaaDoor
