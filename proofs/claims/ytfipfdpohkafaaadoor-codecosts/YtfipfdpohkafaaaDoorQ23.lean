import Derived.Test.YtfipfdpohkafaaaDoorQ19
import Derived.WalkKit
import Derived.WalkSpells
import Derived.IntWalk
import Derived.Lib.Hide
import Derived.Deep.Cut
set_option linter.unusedVariables false
set_option linter.unusedSimpArgs false
set_option maxHeartbeats 64000000
set_option maxRecDepth 100000
namespace Go.Proofs.YtfipfdpohkafaaaDoor
open Go.RowKit Go.IntWalk
set_option linter.unusedVariables false
set_option linter.unusedSimpArgs false
theorem drewN_below {B : Nat} {w w' : World} (h : Below B w w') (n : Nat) : Below B w (w'.drewN n) := ⟨h.os, h.tape, h.output, h.size, h.block⟩
namespace Kd
/-- the operators: what each takes, makes, and how many -/
def opsT : List (Int × Int × Int) := [(0, 0, 0), (105, 105, 2), (105, 105, 2), (105, 105, 2), (105, 105, 2), (105, 105, 2), (105, 105, 2), (105, 105, 2), (105, 98, 2), (105, 98, 2), (98, 98, 2), (98, 98, 2), (98, 98, 2), (105, 105, 1), (98, 98, 1)]
def opN (k : Nat) : Int × Int × Int := opsT.getD k (0, 0, 0)
def opT (k : Int) : Int × Int × Int := if k < 0 ∨ 15 ≤ k then (0, 0, 0) else opN k.toNat
end Kd
/-- the table of operators, as the program's text lays it -/
def GlobK (w : World) : Prop := 0 < w.heap.size ∧ ∀ k, k < 15 → w.cell? ⟨0, k * 3, none⟩ = some (.int .u8 (Kd.opN k).1) ∧ w.cell? ⟨0, k * 3 + 1, none⟩ = some (.int .u8 (Kd.opN k).2.1) ∧ w.cell? ⟨0, k * 3 + 2, none⟩ = some (.int .i64 (Kd.opN k).2.2)
theorem GlobK.under {w w' : World} (h : GlobK w) (b : Below w.heap.size w w') : GlobK w' := by
  refine ⟨Nat.lt_of_lt_of_le h.1 b.size, fun k hk => ?_⟩
  obtain ⟨h0, h1, h2⟩ := h.2 k hk
  exact ⟨(b.cell (p := ⟨0, k * 3, none⟩) h.1).trans h0, (b.cell (p := ⟨0, k * 3 + 1, none⟩) h.1).trans h1, (b.cell (p := ⟨0, k * 3 + 2, none⟩) h.1).trans h2⟩
set_option maxHeartbeats 2000000 in
theorem op_any (k : Int) (w : World) (hG : GlobK w) :
    Calls Tryd.prog 36 #[.int .i64 k] w fun r w' => r = .returned (.tuple #[.int .u8 (Kd.opT k).1, .int .u8 (Kd.opT k).2.1, .int .i64 (Kd.opT k).2.2]) ∧ Below w.heap.size w w' := by
  unfold Kd.opT
  by_cases h1 : k < 0
  · rw [if_pos (.inl h1)]
    go_enter Tryd.func36, Tryd.ntmps36
    go_wp2
    exact bodyPost_ret (v := .tuple #[.int .u8 0, .int .u8 0, .int .i64 0]) (by simp [results, Tryd.results36, go_sem]) rfl ⟨rfl, Below.refl _ _⟩
  · by_cases h2 : 15 ≤ k
    · rw [if_pos (.inr h2)]
      have h3 : (15 : Int) ≤ k := h2
      go_enter Tryd.func36, Tryd.ntmps36
      go_wp2
      exact bodyPost_ret (v := .tuple #[.int .u8 0, .int .u8 0, .int .i64 0]) (by simp [results, Tryd.results36, go_sem]) rfl ⟨rfl, Below.refl _ _⟩
    · rw [if_neg (by omega)]
      obtain ⟨q, rfl⟩ : ∃ q : Nat, k = (q : Int) := ⟨k.toNat, by omega⟩
      have hq : q < 15 := by omega
      obtain ⟨c0, c1, c2⟩ := hG.2 q hq
      rw [Int.toNat_natCast]
      generalize Kd.opN q = oq at c0 c1 c2 ⊢
      obtain ⟨tk, mk, n⟩ := oq
      dsimp only at c0 c1 c2 ⊢
      have bA : Below w.heap.size w (w.alloc (.cells #[.int .u8 tk, .int .u8 mk, .int .i64 n] 63 (0, 0))) := (Below.refl _ _).alloc (Nat.le_refl _) _
      have kA := heap_new w (.cells #[.int .u8 tk, .int .u8 mk, .int .i64 n] 63 (0, 0))
      go_enter Tryd.func36, Tryd.ntmps36
      go_upto_region 4 with fail
      generalize w.alloc (.cells #[.int .u8 tk, .int .u8 mk, .int .i64 n] 63 (0, 0)) = w1 at bA kA ⊢
      have d0 := cell_of kA 0
      have d1 := cell_of kA 1
      have d2 := cell_of kA 2
      simp at d0 d1 d2
      clear c0 c1 c2 kA
      go_quiet (fail)
      go_wp2
      exact bodyPost_ret (v := .tuple #[.int .u8 tk, .int .u8 mk, .int .i64 n]) (by simp [results, Tryd.results36, go_sem]) rfl ⟨rfl, drewN_below bA _⟩
end Go.Proofs.YtfipfdpohkafaaaDoor
