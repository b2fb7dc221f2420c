/-
  DERIVED. THE WALK of the comparison of two slices of expressions.
-/
import Derived.Test.YtplofgkofkjhdaaGreatDoorSm5
namespace Go.Proofs.YtplofgkofkjhdaaGreatDoor
open Go.RowKit Go.IntWalk
set_option linter.unusedVariables false
set_option linter.unusedSimpArgs false
set_option maxRecDepth 100000

set_option maxHeartbeats 2000000 in
theorem equalExprs_step (q : Nat) (HE : ComparesE q) {ok ok' : Nat → Prop} {w : World} {v u : Value} {l r : List Ex} (hqq : partsL l ≤ q) (hl : HExs ok w v l) (hr : HExs ok' w u r) :
    Calls Tryz.prog 72 #[v, u, .func (.func 73) #[] #[]] w fun e w' => e = .returned (.bool (eqL xeq l r)) ∧ Below w.heap.size w w' := by
  obtain ⟨ao, cap, rfl, hc1, hc2, hat⟩ := hl.at
  obtain ⟨ao', cap', rfl, hd1, hd2, hat'⟩ := hr.at
  unfold maxLen at hc2 hd2
  have HQ := hide hqq
  clear hqq
  obtain ⟨R, hR⟩ : ∃ R, R = eqL xeq l r := ⟨_, rfl⟩
  rw [← hR]
  have HR := hide hR
  clear hR hl hr
  obtain ⟨n, hn⟩ : ∃ n, n = l.length := ⟨_, rfl⟩
  obtain ⟨m, hm⟩ : ∃ m, m = r.length := ⟨_, rfl⟩
  rw [← hn] at hc1 ⊢
  rw [← hm] at hd1 ⊢
  have HN := hide hn
  have HM := hide hm
  by_cases hlen : n = m
  · subst hlen
    have hq : ((n : Int) != (n : Int)) = false := by simp
    clear hn hm
    go_enter Tryz.func72, Tryz.ntmps72
    go_wp2
    go_loopg [17] n (fun k v wr => ∃ i, i ≤ n ∧ k = n - i ∧ v = .int .i64 (i : Nat) ∧ Hid (∀ j (h : j < l.length) (h' : j < r.length), j < i → xeq l[j] r[j] = true) ∧ Below w.heap.size w wr)
    case atStart => exact ⟨0, Nat.zero_le _, rfl, rfl, fun j _ _ h => absurd h (Nat.not_lt_zero _), Below.refl _ _⟩
    case round =>
      obtain ⟨i, hi, rfl, rfl, H, hbr⟩ := hrel
      by_cases hlt : i < n
      · have hil : i < l.length := by have := HN.out; omega
        have hir : i < r.length := by have := HM.out; omega
        obtain ⟨b, o, x, rfl, _, hb, hxa, hx⟩ := hat i hil
        obtain ⟨b', o', y, rfl, _, hb', hya, hy⟩ := hat' i hir
        obtain ⟨c0, c1, c2, c3, c4, c5⟩ := hxa.keep (hbr.block b hb)
        obtain ⟨d0, d1, d2, d3, d4, d5⟩ := hya.keep (hbr.block b' hb')
        have zb' : b' < wr.heap.size := Nat.lt_of_lt_of_le hb' hbr.size
        have f0 := fun o => ((Below.refl _ wr).alloc (Nat.le_refl _) o).cell (p := ⟨b', o' + i * 6, none⟩) zb' |>.trans d0
        have f1 := fun o => ((Below.refl _ wr).alloc (Nat.le_refl _) o).cell (p := ⟨b', o' + i * 6 + 1, none⟩) zb' |>.trans d1
        have f2 := fun o => ((Below.refl _ wr).alloc (Nat.le_refl _) o).cell (p := ⟨b', o' + i * 6 + 2, none⟩) zb' |>.trans d2
        have f3 := fun o => ((Below.refl _ wr).alloc (Nat.le_refl _) o).cell (p := ⟨b', o' + i * 6 + 3, none⟩) zb' |>.trans d3
        have f4 := fun o => ((Below.refl _ wr).alloc (Nat.le_refl _) o).cell (p := ⟨b', o' + i * 6 + 4, none⟩) zb' |>.trans d4
        have f5 := fun o => ((Below.refl _ wr).alloc (Nat.le_refl _) o).cell (p := ⟨b', o' + i * 6 + 5, none⟩) zb' |>.trans d5
        have hB : ∀ o o', Below wr.heap.size wr ((wr.alloc o).alloc o') := fun o o' => ((Below.refl _ wr).alloc (Nat.le_refl _) o).alloc (by simp) o'
        have g1 := hx.under hbr
        have g2 := hy.under hbr
        have hqi : parts l[i] ≤ q := Nat.le_trans (parts_mem l i hil) HQ.out
        clear hxa hya hx hy
        clear hat hat'
        cases hxy : xeq l[i] r[i]
        ·
          go_wp2_with fail
          refine (HE _ _ _ _ _ _ _ hqi (g1.under (hB _ _)) (g2.under (hB _ _))).mono ?_
          rintro e w1 ⟨rfl, b1⟩
          rw [hxy]
          all_goals
            have hb1 := hbr.trans (((hB _ _).trans (b1.mono (by simp; omega))).mono hbr.size)
            go_wp2
            go_ret
            refine ⟨ret_bool ?_, hb1⟩
            rw [HR.out]
            exact (eqL_bad i hil hir hxy).symm
        ·
          go_wp2_with fail
          refine (HE _ _ _ _ _ _ _ hqi (g1.under (hB _ _)) (g2.under (hB _ _))).mono ?_
          rintro e w1 ⟨rfl, b1⟩
          rw [hxy]
          all_goals
            have hb1 := hbr.trans (((hB _ _).trans (b1.mono (by simp; omega))).mono hbr.size)
            go_wp2
            go_roundg (n - (i + 1))
            case measure => omega
            case rel =>
              refine ⟨i + 1, by omega, rfl, by go_num, fun j hj hj' hji => ?_, hb1⟩
              by_cases e : j = i
              · subst e
                exact hxy
              · exact H.out j hj hj' (by omega)
      · have hie : i = n := by omega
        subst hie
        clear hat hat'
        go_wp2
        go_ret
        refine ⟨ret_bool ?_, hbr⟩
        rw [HR.out]
        exact (eqL_all (by rw [← HN.out, ← HM.out]) (fun j hj hj' => H.out j hj hj' (by rw [HN.out]; exact hj))).symm
  · have hq : ((n : Int) != (m : Int)) = true := by simp; omega
    clear hat hat' hn hm
    go_enter Tryz.func72, Tryz.ntmps72
    go_wp2
    go_ret
    refine ⟨ret_bool ?_, Below.refl _ _⟩
    rw [HR.out]
    exact (eqL_len (by rw [← HN.out, ← HM.out]; exact hlen)).symm


end Go.Proofs.YtplofgkofkjhdaaGreatDoor
