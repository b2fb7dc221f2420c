import Derived.Test.YtgjdkgkgbmbffaaDoorJ26
import Derived.WalkKit
import Derived.WalkSpells
import Derived.IntWalk
import Derived.Deep.Cut
import Derived.Deep.LoopGhost
import Derived.Laws.Cover1
import Derived.Lib.Hide
set_option linter.unusedVariables false
set_option linter.unusedSimpArgs false
set_option maxHeartbeats 64000000
set_option maxRecDepth 100000
namespace Go.Proofs.YtgjdkgkgbmbffaaDoor
open Go.RowKit Go.IntWalk
set_option linter.unusedVariables false
set_option linter.unusedSimpArgs false
theorem f27_any (c a : Int) (w : World) : Calls Tryd.prog 25 #[.int .i64 c, .int .i64 a] w fun e w' => e = .returned (.agg #[.int .i64 c, .int .i64 a]) ∧ Below w.heap.size w w' := by
  have b1 : Below w.heap.size w (w.alloc (.cells #[.int .i64 0, .int .i64 0] 29 (0, 0))) := (Below.refl _ _).alloc (Nat.le_refl _) _
  have kF := heap_new w (.cells #[.int .i64 0, .int .i64 0] 29 (0, 0))
  go_enter Tryd.func25, Tryd.ntmps25
  go_upto_region 1 with fail
  generalize w.alloc (.cells #[.int .i64 0, .int .i64 0] 29 (0, 0)) = w1 at b1 kF ⊢
  have s0 := cell_of kF 0
  have s1 := cell_of kF 1
  have f0 := free_of kF 0
  have f1 := free_of kF 1
  simp at s0 s1
  have KE := set_in (set_in kF 0 (.int .i64 c)) 1 (.int .i64 a)
  have BE := (b1.setCell (p := ⟨w.heap.size, 0, none⟩) (Nat.le_refl _) (.int .i64 c)).setCell (p := ⟨w.heap.size, 1, none⟩) (Nat.le_refl _) (.int .i64 a)
  have t0 := cell_of KE 0
  have t1 := cell_of KE 1
  simp at t0 t1
  clear KE
  go_wp2
  exact bodyPost_ret (v := .agg #[.int .i64 c, .int .i64 a]) (by simp [results, Tryd.results25, go_sem, t0, t1]) rfl ⟨rfl, BE⟩
namespace Sk
end Sk
end Go.Proofs.YtgjdkgkgbmbffaaDoor
namespace Go.Proofs.YtgjdkgkgbmbffaaDoor
open Go.RowKit Go.IntWalk
set_option linter.unusedVariables false
set_option linter.unusedSimpArgs false
namespace Lo
def there (c f n : Int) : Bool := decide (1 ≤ n) && hasN c f n
theorem there_has {c f n : Int} (h : 1 ≤ n) : there c f n = hasN c f n := by simp [there, h]
theorem hgt1 (c n0 h k v n : Int) (r : List Pu) (h0 : 0 ≤ h) : hgt c n0 h (⟨1, k, v, n⟩ :: r) = hgt c n0 (h + 1) r := by
  have e : tk 1 = 0 := rfl
  simp only [hgt, e, pushOK]
  rw [if_neg (by simp; omega)]
  simp
theorem hgt2 (c n0 h k v n : Int) (r : List Pu) (h0 : 0 ≤ h) : hgt c n0 h (⟨2, k, v, n⟩ :: r) = (hasN c v 1 && hgt c n0 (h + 1) r) := by
  have e : tk 2 = 0 := rfl
  have e2 : pushOK c n0 ⟨2, k, v, n⟩ = hasN c v 1 := by simp [pushOK]
  simp only [hgt, e, e2]
  cases hasN c v 1
  · simp
  · rw [if_neg (by simp; omega)]; simp
theorem hgt3 (c n0 h k v n : Int) (r : List Pu) (h0 : 0 ≤ h) : hgt c n0 h (⟨3, k, v, n⟩ :: r) = (hasN c v n0 && hgt c n0 (h + 1) r) := by
  have e : tk 3 = 0 := rfl
  have e2 : pushOK c n0 ⟨3, k, v, n⟩ = hasN c v n0 := by simp [pushOK]
  simp only [hgt, e, e2]
  cases hasN c v n0
  · simp
  · rw [if_neg (by simp; omega)]; simp
theorem hgt4 (c n0 h k v n : Int) (r : List Pu) (h0 : 0 ≤ h) : hgt c n0 h (⟨4, k, v, n⟩ :: r) = (!(decide (n < -1000000000000000000) || decide (1000000000000000000 < n)) && hgt c n0 (h + 1) r) := by
  have e : tk 4 = 0 := rfl
  have e2 : pushOK c n0 ⟨4, k, v, n⟩ = !(decide (n < -1000000000000000000) || decide (1000000000000000000 < n)) := by
    simp only [pushOK, Bool.not_or, ← decide_not]
    rw [if_neg (by decide), if_neg (by decide), if_neg (by decide), if_pos trivial]
    congr 1 <;> exact decide_eq_decide.2 (by omega)
  simp only [hgt, e, e2]
  cases (!(decide (n < -1000000000000000000) || decide (1000000000000000000 < n)))
  · simp
  · rw [if_neg (by simp; omega)]; simp
theorem hgt5 (c n0 h k v n : Int) (r : List Pu) : hgt c n0 h (⟨5, k, v, n⟩ :: r) = (!(((Kd.opT k).2.2 != 1) || decide (h < 1)) && hgt c n0 h r) := by
  have e : tk 5 = 1 := rfl
  have e2 : pushOK c n0 ⟨5, k, v, n⟩ = ((Kd.opT k).2.2 == 1) := by simp [pushOK]
  simp only [hgt, e, e2, bne]
  cases ((Kd.opT k).2.2 == 1)
  · simp
  · by_cases h1 : h < 1
    · rw [if_pos (.inl (by omega))]; simp [h1]
    · rw [if_neg (by simp; omega), show h - 1 + 1 = h by omega]; simp [h1]
theorem hgt6 (c n0 h k v n : Int) (r : List Pu) : hgt c n0 h (⟨6, k, v, n⟩ :: r) = (!(((Kd.opT k).2.2 != 2) || decide (h < 2)) && hgt c n0 (h - 1) r) := by
  have e : tk 6 = 2 := rfl
  have e2 : pushOK c n0 ⟨6, k, v, n⟩ = ((Kd.opT k).2.2 == 2) := by simp [pushOK]
  simp only [hgt, e, e2, bne]
  cases ((Kd.opT k).2.2 == 2)
  · simp
  · by_cases h1 : h < 2
    · rw [if_pos (.inl (by omega))]; simp [h1]
    · rw [if_neg (by simp; omega), show h - 2 + 1 = h - 1 by omega]; simp [h1]
theorem hgt7 (c n0 h k v n : Int) (r : List Pu) : hgt c n0 h (⟨7, k, v, n⟩ :: r) = (!decide (h < 3) && hgt c n0 (h - 2) r) := by
  have e : tk 7 = 3 := rfl
  have e2 : pushOK c n0 ⟨7, k, v, n⟩ = true := by simp [pushOK]
  simp only [hgt, e, e2]
  by_cases h1 : h < 3
  · rw [if_pos (.inl (by omega))]; simp [h1]
  · rw [if_neg (by simp; omega), show h - 3 + 1 = h - 2 by omega]; simp [h1]
theorem hgt8 (c n0 h k v n : Int) (r : List Pu) : hgt c n0 h (⟨8, k, v, n⟩ :: r) = (!(!there c v n || decide (h < 2)) && hgt c n0 (h - 1) r) := by
  have e : tk 8 = 2 := rfl
  have e2 : pushOK c n0 ⟨8, k, v, n⟩ = there c v n := by simp [pushOK, there]
  simp only [hgt, e, e2]
  cases there c v n
  · simp
  · by_cases h1 : h < 2
    · rw [if_pos (.inl (by omega))]; simp [h1]
    · rw [if_neg (by simp; omega), show h - 2 + 1 = h - 1 by omega]; simp [h1]
theorem hgtX (c n0 h op k v n : Int) (r : List Pu) (h1 : op ≠ 1) (h2 : op ≠ 2) (h3 : op ≠ 3) (h4 : op ≠ 4) (h5 : op ≠ 5) (h6 : op ≠ 6) (h7 : op ≠ 7) (h8 : op ≠ 8) : hgt c n0 h (⟨op, k, v, n⟩ :: r) = false := by
  have e2 : pushOK c n0 ⟨op, k, v, n⟩ = false := by simp [pushOK, h1, h2, h3, h4, h5, h6, h7, h8]
  simp only [hgt, e2]
  rw [if_pos (.inr trivial)]
end Lo
set_option maxHeartbeats 4000000 in
theorem there26_any (c f n : Int) {aP aG aS : Option Addr} {nP nG nS cP cG cS : Nat} (w : World) (hc : 1 ≤ c ∧ c ≤ 6000) : Calls Tryd.prog 26 #[Value.agg #[.int .i64 c, .slice aP nP cP, .slice aG nG cG, .slice aS nS cS], .int .i64 f, .int .i64 n] w fun e w' => e = .returned (.bool (Lo.there c f n)) ∧ Below w.heap.size w w' := by
  have b1 : Below w.heap.size w (w.alloc (.cells #[.int .i64 c, .slice aP nP cP, .slice aG nG cG, .slice aS nS cS] 25 (0, 0))) := (Below.refl _ _).alloc (Nat.le_refl _) _
  obtain ⟨R, hR⟩ : ∃ R, R = Lo.there c f n := ⟨_, rfl⟩
  rw [← hR]
  by_cases h1 : 0 ≤ f
  case neg =>
    have HZ := hide (show R = false by rw [hR]; simp [Lo.there, Lo.hasN]; omega)
    clear hR
    go_enter Tryd.func26, Tryd.ntmps26
    go_wp2
    go_ret
    exact ⟨by rw [HZ.out]; rfl, b1⟩
  by_cases h2 : f < c
  case neg =>
    have HZ := hide (show R = false by rw [hR]; simp [Lo.there, Lo.hasN]; omega)
    clear hR
    go_enter Tryd.func26, Tryd.ntmps26
    go_wp2
    go_ret
    exact ⟨by rw [HZ.out]; rfl, b1⟩
  by_cases h3 : 1 ≤ n
  case neg =>
    have HZ := hide (show R = false by rw [hR]; simp [Lo.there, Lo.hasN]; omega)
    clear hR
    go_enter Tryd.func26, Tryd.ntmps26
    go_wp2
    go_ret
    exact ⟨by rw [HZ.out]; rfl, b1⟩
  have hw : wrap64 (c - f) = c - f := w64_in (by unfold I64; omega)
  have HZ := hide (show R = decide (n ≤ c - f) by rw [hR]; simp only [Lo.there, Lo.hasN, decide_eq_true h3, decide_eq_true h1, Bool.true_and]; exact decide_eq_decide.2 (by omega))
  clear hR
  go_enter Tryd.func26, Tryd.ntmps26
  go_wp2
  go_ret
  exact ⟨by rw [HZ.out]; simp, b1⟩
end Go.Proofs.YtgjdkgkgbmbffaaDoor
