/-
  DERIVED. THE WALK of SyntaxSames, over the contract of the copy of a program.
-/
import Derived.Test.YtplofgkofkjhdaaGreatDoorOp2
import Derived.Test.YtplofgkofkjhdaaGreatDoorSp1
import Derived.Test.YtplofgkofkjhdaaGreatDoorWg3
import Derived.Test.YtplofgkofkjhdaaGreatDoorRdB
import Derived.Deep.RegionHeld3
namespace Go.Proofs.YtplofgkofkjhdaaGreatDoor
open Go.RowKit Go.IntWalk
set_option linter.unusedVariables false
set_option linter.unusedSimpArgs false
set_option maxRecDepth 100000

def CopyContract : Prop := ∀ (ok : Nat → Prop) (w : World) (ao : Option Addr) (n cap : Nat) (l : List Nd), HNds ok w (.slice ao n cap) l → FitP l →
  Calls Tryz.prog 11 #[.agg #[.slice ao n cap]] w fun e w' => ∃ a m c, e = .returned (.agg #[.slice a m c]) ∧ HNds (fun i => w.heap.size ≤ i) w' (.slice a m c) l ∧ Below w.heap.size w w'

set_option maxHeartbeats 8000000 in
theorem sames_walk (hcopy : CopyContract) {w : World} {ao ao' : Option Addr} {n n' c c' : Nat} {l r : List Nd} (hl : HNds (fun _ => True) w (.slice ao n c) l) (hr : HNds (fun _ => True) w (.slice ao' n' c') r) (fl : FitP l) :
    Calls Tryz.prog 4 #[.agg #[.slice ao n c], .agg #[.slice ao' n' c']] w fun e w' => e = .returned (.bool true) ∧ Below w.heap.size w w' := by
  obtain ⟨W, hW⟩ : ∃ W, W = (w.alloc (.cells #[.slice ao n c] 25 (0, 0))).alloc (.cells #[.slice ao' n' c'] 25 (0, 0)) := ⟨_, rfl⟩
  have zW : W.heap.size = w.heap.size + 1 + 1 := by rw [hW]; simp
  have bW : Below w.heap.size w W := by rw [hW]; exact ((Below.refl _ w).alloc (Nat.le_refl _) _).alloc (by simp) _
  have pW : W.heap[w.heap.size]? = some (.cells #[.slice ao n c] 25 (0, 0)) := by rw [hW]; exact keep_alloc (heap_new w _) _
  have qW : W.heap[w.heap.size + 1]? = some (.cells #[.slice ao' n' c'] 25 (0, 0)) := by
    have := heap_new (w.alloc (.cells #[.slice ao n c] 25 (0, 0))) (.cells #[.slice ao' n' c'] 25 (0, 0))
    have e : (w.alloc (.cells #[.slice ao n c] 25 (0, 0))).heap.size = w.heap.size + 1 := by simp
    rw [e] at this
    rw [hW]
    exact this
  have zp : w.heap.size < W.heap.size := by omega
  have zq : w.heap.size + 1 < W.heap.size := by omega
  go_enter Tryz.func4, Tryz.ntmps4
  go_wp2_with fail
  rw [← hW]
  clear hW
  refine (begun_any _).mono ?_
  rintro e w1 ⟨rfl, b1⟩
  have P1 := cell_of ((aside b1 (S := [])).keep pW (lt_of pW) (by simp)) 0
  have Q1 := cell_of ((aside b1 (S := [])).keep qW (lt_of qW) (by simp)) 0
  simp at P1 Q1
  have B1 : Below w.heap.size w w1 := bW.trans (b1.mono (by omega))
  have Z1 : W.heap.size ≤ w1.heap.size := b1.size
  clear b1 pW qW
  go_wp2_with fail
  refine (great_any (hl.under B1)).mono ?_
  rintro e w2 ⟨⟨y2, rfl⟩, b2⟩
  have P2 := (b2.cell (p := ⟨w.heap.size, 0, none⟩) (by simp; omega)).trans P1
  have Q2 := (b2.cell (p := ⟨w.heap.size + 1, 0, none⟩) (by simp; omega)).trans Q1
  have B2 := B1.trans (b2.mono B1.size)
  have Z2 := b2.size
  clear b2 P1 Q1
  cases y2
  · go_wp2_with fail
    refine (great_any (hr.under B2)).mono ?_
    rintro e w3 ⟨⟨y3, rfl⟩, b3⟩
    have P3 := (b3.cell (p := ⟨w.heap.size, 0, none⟩) (by simp; omega)).trans P2
    have Q3 := (b3.cell (p := ⟨w.heap.size + 1, 0, none⟩) (by simp; omega)).trans Q2
    have B3 := B2.trans (b3.mono B2.size)
    have Z3 := b3.size
    clear b3 P2 Q2
    cases y3
    · go_wp2
      have HL := hl.under B3
      have HR := hr.under B3
      have B3d : Below w3.heap.size w3 w3.drew := (Below.refl _ w3).drew
      obtain ⟨R, hR⟩ : ∃ R, R = eqL neq l r := ⟨_, rfl⟩
      have hcomp : (R == R) = true := by simp
      have hself : eqL neq l l = true := eqL_refl l fun x _ => neq_refl x
      have HR0 := hide hR
      clear hR
      go_region_held3 (fun w' => w'.cell? ⟨w.heap.size, 0, none⟩ = some (.slice ao n c) ∧ w'.cell? ⟨w.heap.size + 1, 0, none⟩ = some (.slice ao' n' c')) (first | go_keep | exact ⟨by assumption, by assumption⟩)
        (first
          | (go_at_call_of 10 (Value.agg #[Value.slice ao' n' c']); refine (same_any (HL.under B3d) (HR.under B3d)).mono ?_; rintro e w4 ⟨rfl, b4⟩; rw [← HR0.out]; have P4 := (b4.cell (p := ⟨w.heap.size, 0, none⟩) (by show w.heap.size < w3.heap.size; omega)).trans P3; have Q4 := (b4.cell (p := ⟨w.heap.size + 1, 0, none⟩) (by show w.heap.size + 1 < w3.heap.size; omega)).trans Q3; have B4 := B3d.trans (b4.mono (Nat.le_refl _)); have Z4 : w3.heap.size ≤ w4.heap.size := b4.size)
          | (go_at_call 8; refine (sameProgram_any (HL.under B4) (HR.under B4)).mono ?_; rintro e w5 ⟨rfl, b5⟩; rw [← HR0.out]; have P5 := (b5.cell (p := ⟨w.heap.size, 0, none⟩) (by show w.heap.size < w4.heap.size; omega)).trans P4; have Q5 := (b5.cell (p := ⟨w.heap.size + 1, 0, none⟩) (by show w.heap.size + 1 < w4.heap.size; omega)).trans Q4; have B5 := B4.trans (b5.mono B4.size); have Z5 : w4.heap.size ≤ w5.heap.size := b5.size)
          | (go_at_call 11; refine (hcopy _ _ _ _ _ _ (HL.under B5) fl).mono ?_; rintro e w6 ⟨a6, m6, c6, rfl, H6, b6⟩; have P6 := (b6.cell (p := ⟨w.heap.size, 0, none⟩) (by show w.heap.size < w5.heap.size; omega)).trans P5; have Q6 := (b6.cell (p := ⟨w.heap.size + 1, 0, none⟩) (by show w.heap.size + 1 < w5.heap.size; omega)).trans Q5; have B6 := B5.trans (b6.mono B5.size); have Z6 : w5.heap.size ≤ w6.heap.size := b6.size)
          | (go_at_call 10; refine (same_any (HL.under B6) H6).mono ?_; rintro e w7 ⟨rfl, b7⟩; rw [hself]; have P7 := (b7.cell (p := ⟨w.heap.size, 0, none⟩) (by show w.heap.size < w6.heap.size; omega)).trans P6; have Q7 := (b7.cell (p := ⟨w.heap.size + 1, 0, none⟩) (by show w.heap.size + 1 < w6.heap.size; omega)).trans Q6; have B7 := B6.trans (b7.mono B6.size)))
      go_wp2
      go_ret
      exact ⟨rfl, B3.trans (B7.mono B3.size)⟩
    · go_wp2
      go_ret
      exact ⟨rfl, B3⟩
  · go_wp2
    go_ret
    exact ⟨rfl, B2⟩

end Go.Proofs.YtplofgkofkjhdaaGreatDoor
