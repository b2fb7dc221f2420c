/-
  DERIVED. THE WALK of the comparison of two expressions.
-/
import Derived.Test.YtplofgkofkjhdaaGreatDoorSm5
namespace Go.Proofs.YtplofgkofkjhdaaGreatDoor
open Go.RowKit Go.IntWalk
set_option linter.unusedVariables false
set_option linter.unusedSimpArgs false
set_option maxRecDepth 100000

set_option maxHeartbeats 2000000 in
theorem sameExpr_step (q : Nat) (HL : ComparesL q) : ComparesE (q + 1) := by
  intro ok ok' w x y a b hq hx hy
  obtain ⟨x1, x2, x3, x4, xS, xL⟩ := hx.parts
  obtain ⟨y1, y2, y3, y4, yS, yL⟩ := hy.parts
  obtain ⟨ao, ak, an, am, aS, aL⟩ := a
  obtain ⟨bo, bk, bn, bs, bS, bL⟩ := b
  have hqL : partsL aL ≤ q := by rw [parts] at hq; omega
  simp only [Ex.op, Ex.k, Ex.n, Ex.name, Ex.S, Ex.L] at x1 x2 x3 x4 xS xL y1 y2 y3 y4 yS yL
  rw [x1, x2, x3, x4, y1, y2, y3, y4]
  obtain ⟨R, hR⟩ : ∃ R, R = xeq (.mk ao ak an am aS aL) (.mk bo bk bn bs bS bL) := ⟨_, rfl⟩
  rw [← hR]
  rw [xeq, xeqs_eq] at hR
  unfold seq at hR
  clear x1 x2 x3 x4 y1 y2 y3 y4 hx hy hq
  have hB : ∀ o o', Below w.heap.size w ((w.alloc o).alloc o') := fun o o' => ((Below.refl _ w).alloc (Nat.le_refl _) o).alloc (by simp) o'
  cases h0 : (ao == bo)
  ·
    have : R = false := by rw [hR, h0]; rfl
    subst this
    clear hR
    go_enter Tryz.func73, Tryz.ntmps73
    go_wp2
    go_ret
    exact ⟨rfl, hB _ _⟩
  ·
    cases h1 : (ak == bk)
    ·
      have : R = false := by rw [hR, h0, h1]; rfl
      subst this
      clear hR
      go_enter Tryz.func73, Tryz.ntmps73
      go_wp2
      go_ret
      exact ⟨rfl, hB _ _⟩
    ·
      cases h2 : (an == bn)
      ·
        have : R = false := by rw [hR, h0, h1, h2]; rfl
        subst this
        clear hR
        go_enter Tryz.func73, Tryz.ntmps73
        go_wp2
        go_ret
        exact ⟨rfl, hB _ _⟩
      ·
        cases h3 : (am.toList == bs.toList)
        ·
          have : R = false := by rw [hR, h0, h1, h2, h3]; rfl
          subst this
          clear hR
          go_enter Tryz.func73, Tryz.ntmps73
          go_wp2
          go_ret
          exact ⟨rfl, hB _ _⟩
        ·
          cases h4 : eqL (eqL teq) aS bS
          ·
            have : R = false := by rw [hR, h0, h1, h2, h3, h4]; rfl
            subst this
            clear hR
            go_enter Tryz.func73, Tryz.ntmps73
            go_wp2_with fail
            refine (equalSizes_any (xS.under (hB _ _)) (yS.under (hB _ _))).mono ?_
            rintro e w1 ⟨rfl, b1⟩
            rw [h4]
            have hb1 := (hB _ _).trans (b1.mono (by simp; omega))
            go_wp2
            go_ret
            exact ⟨rfl, hb1⟩
          · have h5 : R = eqL xeq aL bL := by rw [hR, h0, h1, h2, h3, h4]; rfl
            subst h5
            clear hR
            go_enter Tryz.func73, Tryz.ntmps73
            go_wp2_with fail
            refine (equalSizes_any (xS.under (hB _ _)) (yS.under (hB _ _))).mono ?_
            rintro e w1 ⟨rfl, b1⟩
            rw [h4]
            have hb1 := (hB _ _).trans (b1.mono (by simp; omega))
            obtain ⟨N1, hN1⟩ : ∃ N1 : Nat, N1 = w.heap.size + 1 := ⟨_, rfl⟩
            have k1 := (aside b1 (S := [])).keep (keep_alloc (heap_new w _) _) (by simp; omega) (by simp)
            have k2 := (aside b1 (S := [])).keep (heap_new (w.alloc _) _) (by simp) (by simp)
            have c1 := cell_of k1 5
            have c2 := cell_of k2 5
            simp at c1 c2
            clear hN1 N1
            go_wp2_with fail
            refine (HL _ _ _ _ _ _ _ hqL (xL.under hb1) (yL.under hb1)).mono ?_
            rintro e w2 ⟨rfl, b2⟩
            have hb2 := hb1.trans (b2.mono hb1.size)
            go_wp2
            go_ret
            exact ⟨rfl, hb2⟩


end Go.Proofs.YtplofgkofkjhdaaGreatDoor
