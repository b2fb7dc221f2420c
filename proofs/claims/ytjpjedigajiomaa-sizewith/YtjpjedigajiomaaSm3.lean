
/-
  DERIVED. THE WALKS of the comparisons of the document: names, terms, sizes: they only read.
-/
import Derived.Test.YtjpjedigajiomaaSm2
namespace Go.Proofs.Ytjpjedigajiomaa
open Go.RowKit Go.IntWalk
set_option linter.unusedVariables false
set_option linter.unusedSimpArgs false
set_option maxRecDepth 100000

set_option maxHeartbeats 16000000 in
theorem refTerms_any {ok ok' : Nat → Prop} {w : World} {v u : Value} {l r : List Tm} (hl : HTerms ok w v l) (hr : HTerms ok' w u r) :
    Calls Try.prog 14 #[v, u] w fun e w' => e = .returned (.bool (eqL teq l r)) ∧ ∃ m, w' = w.drewN m := by
  obtain ⟨ao, cap, rfl, hc1, hc2, hat⟩ := hl.at
  obtain ⟨ao', cap', rfl, hd1, hd2, hat'⟩ := hr.at
  unfold maxLen at hc2 hd2
  obtain ⟨R, hR⟩ : ∃ R, R = eqL teq l r := ⟨_, rfl⟩
  rw [← hR]
  have HR := hide hR
  clear hR hl hr
  obtain ⟨n, hn⟩ : ∃ n, n = l.length := ⟨_, rfl⟩
  obtain ⟨m, hm⟩ : ∃ m, m = r.length := ⟨_, rfl⟩
  rw [← hn] at hc1 ⊢
  rw [← hm] at hd1 ⊢
  have HN := hide hn
  have HM := hide hm
  by_cases hlen : n = m
  · subst hlen
    have hq : ((n : Int) != (n : Int)) = false := by simp
    clear hn hm
    go_enter Try.func14, Try.ntmps14
    go_wp2
    go_loopg [5] n (fun k v wr => ∃ i d, i ≤ n ∧ k = n - i ∧ v = .int .i64 (i : Nat) ∧ Hid (∀ j (h : j < l.length) (h' : j < r.length), j < i → teq l[j] r[j] = true) ∧ wr = w.drewN d)
    case atStart => exact ⟨0, 0, Nat.zero_le _, rfl, rfl, fun j _ _ h => absurd h (Nat.not_lt_zero _), rfl⟩
    case round =>
      obtain ⟨i, d, hi, rfl, rfl, H, hW⟩ := hrel
      have HW := hide hW
      clear hW
      by_cases hlt : i < n
      · have hil : i < l.length := by have := HN.out; omega
        have hir : i < r.length := by have := HM.out; omega
        obtain ⟨b, o, rfl, hb, hc, hd⟩ := hat i hil
        obtain ⟨b', o', rfl, hb', hc', hd'⟩ := hat' i hir
        have e1 : wr.cell? ⟨b, o + i * 2, none⟩ = some (.int .i64 (l[i]).1) := by rw [HW.out]; exact hc
        have e2 : wr.cell? ⟨b', o' + i * 2, none⟩ = some (.int .i64 (r[i]).1) := by rw [HW.out]; exact hc'
        have e3 : wr.cell? ⟨b, o + i * 2 + 1, none⟩ = some (.string (l[i]).2) := by rw [HW.out]; exact hd
        have e4 : wr.cell? ⟨b', o' + i * 2 + 1, none⟩ = some (.string (r[i]).2) := by rw [HW.out]; exact hd'
        obtain ⟨x, hx⟩ : ∃ x, x = l[i] := ⟨_, rfl⟩
        obtain ⟨y, hy⟩ : ∃ y, y = r[i] := ⟨_, rfl⟩
        rw [← hx] at e1 e3
        rw [← hy] at e2 e4
        have HX := hide hx
        have HY := hide hy
        clear hc hc' hd hd' hx hy
        obtain ⟨x1, x2⟩ := x
        obtain ⟨y1, y2⟩ := y
        have hne := fun w => neqTerm x1 y1 x2 y2 w
        clear hat hat'
        cases h0 : teq (x1, x2) (y1, y2)
        ·
          have hbad : teq l[i] r[i] = false := by rw [← HX.out, ← HY.out]; exact h0
          have HBAD := hide hbad
          clear hbad
          rw [h0] at hne
          go_wp2_with fail
          go_quiet (fail)
          go_wp2
          go_ret
          refine ⟨ret_bool ?_, _, by rw [HW.out]; exact World.drewN_drewN _ _ _⟩
          rw [HR.out]
          exact (eqL_bad i hil hir HBAD.out).symm
        ·
          rw [h0] at hne
          have hall : teq l[i] r[i] = true := by rw [← HX.out, ← HY.out]; exact h0
          have HALL := hide hall
          clear hall
          go_wp2_with fail
          go_quiet (fail)
          go_wp2
          go_roundg (n - (i + 1))
          case measure => omega
          case rel =>
            refine ⟨i + 1, _, by omega, rfl, by go_num, fun j hj hj' hji => ?_, by rw [HW.out]; exact World.drewN_drewN _ _ _⟩
            by_cases e : j = i
            · subst e
              exact HALL.out
            · exact H.out j hj hj' (by omega)

      · have hie : i = n := by omega
        subst hie
        clear hat hat'
        go_wp2
        go_ret
        refine ⟨ret_bool ?_, _, HW.out⟩
        rw [HR.out]
        exact (eqL_all (by rw [← HN.out, ← HM.out]) (fun j hj hj' => H.out j hj hj' (by rw [HN.out]; exact hj))).symm
  · have hq : ((n : Int) != (m : Int)) = true := by simp; omega
    clear hat hat' hn hm
    go_enter Try.func14, Try.ntmps14
    go_wp2
    go_ret
    refine ⟨ret_bool ?_, 0, rfl⟩
    rw [HR.out]
    exact (eqL_len (by rw [← HN.out, ← HM.out]; exact hlen)).symm

theorem drewN2 {w wr : World} {a : Nat} (h : wr = w.drewN a) (b : Nat) : Below w.heap.size w (wr.drewN b) := by rw [h]; exact ⟨rfl, rfl, rfl, Nat.le_refl _, fun _ _ => rfl⟩

end Go.Proofs.Ytjpjedigajiomaa
