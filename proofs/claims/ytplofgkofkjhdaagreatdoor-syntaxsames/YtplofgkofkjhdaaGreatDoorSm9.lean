/-
  DERIVED. The comparisons of expressions, whatever their depth.
-/
import Derived.Test.YtplofgkofkjhdaaGreatDoorSm6
import Derived.Test.YtplofgkofkjhdaaGreatDoorSm7
namespace Go.Proofs.YtplofgkofkjhdaaGreatDoor
open Go.RowKit Go.IntWalk
set_option linter.unusedVariables false
set_option linter.unusedSimpArgs false
set_option maxRecDepth 100000

theorem partsL_zero : ∀ l : List Ex, partsL l ≤ 0 → l = []
  | [], _ => rfl
  | .mk _ _ _ _ _ _ :: _, h => by simp [partsL, parts] at h

theorem compares : ∀ q, ComparesE q ∧ ComparesL q
  | 0 => by
    have hE : ComparesE 0 := fun ok ok' w x y a b h _ _ => by
      obtain ⟨o, k, n, s, S, L⟩ := a
      rw [parts] at h
      omega
    exact ⟨hE, fun ok ok' w v u l r hq hl hr => equalExprs_step 0 hE hq hl hr⟩
  | q + 1 => by
    have hE := sameExpr_step q (compares q).2
    exact ⟨hE, fun ok ok' w v u l r hq hl hr => equalExprs_step (q + 1) hE hq hl hr⟩

theorem equalExprs_any {ok ok' : Nat → Prop} {w : World} {v u : Value} {l r : List Ex} (hl : HExs ok w v l) (hr : HExs ok' w u r) :
    Calls Tryz.prog 72 #[v, u, .func (.func 73) #[] #[]] w fun e w' => e = .returned (.bool (eqL xeq l r)) ∧ Below w.heap.size w w' := (compares (partsL l)).2 _ _ _ _ _ _ _ (Nat.le_refl _) hl hr


end Go.Proofs.YtplofgkofkjhdaaGreatDoor
