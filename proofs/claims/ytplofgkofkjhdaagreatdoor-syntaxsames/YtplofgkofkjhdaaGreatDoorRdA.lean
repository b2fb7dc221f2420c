/-
  DERIVED. THE WALKS of the reader's program, of readProgram and of Parse over the text of syntaxBegun, and of syntaxBegun.
-/
import Derived.Test.YtplofgkofkjhdaaGreatDoorRd9
import Derived.Defers
import Derived.Recover
namespace Go.Proofs.YtplofgkofkjhdaaGreatDoor
open Go.RowKit Go.IntWalk
set_option linter.unusedVariables false
set_option linter.unusedSimpArgs false
set_option maxRecDepth 100000

/-- A program of one node, of one equation, whose first expression's operator is 2. -/
def BegunAt (B : Nat) (w : World) (nb : Nat) : Prop := ∃ q cq bk : Nat, B ≤ nb ∧ nb < w.heap.size ∧ B ≤ q ∧ q < w.heap.size ∧ B ≤ bk ∧ bk < w.heap.size ∧ 1 ≤ cq ∧
  w.cell? ⟨nb, 6, none⟩ = some (.slice (some ⟨q, 0, none⟩) 1 cq) ∧ w.cell? ⟨q, 4, none⟩ = some (.slice (some ⟨bk, 0, none⟩) 1 1) ∧ w.cell? ⟨bk, 1, none⟩ = some (.int .i64 2)

theorem BegunAt.keep {B : Nat} {w w' : World} {nb : Nat} (h : BegunAt B w nb) (hz : w.heap.size ≤ w'.heap.size) (hk : ∀ k, B ≤ k → k < w.heap.size → w'.heap[k]? = w.heap[k]?) : BegunAt B w' nb := by
  obtain ⟨q, cq, bk, h1, h2, h3, h4, h5, h6, h7, h8, h9, h10⟩ := h
  exact ⟨q, cq, bk, h1, by omega, h3, by omega, h5, by omega, h7, (World.cell?_of_block (w := w) (a := ⟨nb, 6, none⟩) (hk nb h1 h2)).trans h8, (World.cell?_of_block (w := w) (a := ⟨q, 4, none⟩) (hk q h3 h4)).trans h9, (World.cell?_of_block (w := w) (a := ⟨bk, 1, none⟩) (hk bk h5 h6)).trans h10⟩

set_option maxHeartbeats 8000000 in
theorem program_begun {w : World} {b g cap op : Nat} (h : Rd w b g cap begunL 48 0 op) :
    Calls Tryz.prog 36 #[.pointer (some ⟨b, 0, none⟩)] w fun r w' => ∃ nb, r = .returned (.agg #[.slice (some ⟨nb, 0, none⟩) 1 1]) ∧ BegunAt (w.heap.size + 1) w' nb ∧ Aside [b] w.heap.size w w' := by
  have hb := h.bb
  have hg := h.gb
  have hf := tokG0
  go_enter Tryz.func36, Tryz.ntmps36
  go_wp2_with fail
  refine (node_begun (h.alloc _)).mono ?_
  rintro r w1 ⟨a3, a4, c3, c4, q, cq, bk, y, rfl, hcq, hq1, hq2, hbk1, hq4, hbk, hyk, h1, a1⟩
  have z1 : w.heap.size + 1 ≤ w1.heap.size := by simpa using a1.size
  have hA1 := a1.keep (heap_new w _) (by simp) (by simp; omega)
  have A1 := ((Aside.refl (S := [b]) (B := w.heap.size) w).alloc (Nat.le_refl _) _).trans a1 (by simp)
  have hq1' : w.heap.size + 1 ≤ q := by simpa using hq1
  have hbk1' : w.heap.size + 1 ≤ bk := by simpa using hbk1
  have hbz := lt_of hbk
  have hbc := cell_of hbk 1
  simp at hbc
  rw [hyk] at hbc
  clear a1 hq1 hbk1
  go_wp2
  obtain ⟨W, hW⟩ : ∃ W, W = w1.alloc (Obj.cells #[.string (str [109, 97, 105, 110]), .int .i64 0, .slice none 0 0, .slice a3 1 c3, .slice a4 1 c4, .slice none 0 0, .slice (some ⟨q, 0, none⟩) 1 cq] 39 (0, 0)) := ⟨_, rfl⟩
  have hzW : W.heap.size = w1.heap.size + 1 := by rw [hW]; simp
  have hNW := heap_new w1 (Obj.cells #[.string (str [109, 97, 105, 110]), .int .i64 0, .slice none 0 0, .slice a3 1 c3, .slice a4 1 c4, .slice none 0 0, .slice (some ⟨q, 0, none⟩) 1 cq] 39 (0, 0))
  have hAW := keep_alloc hA1 (Obj.cells #[.string (str [109, 97, 105, 110]), .int .i64 0, .slice none 0 0, .slice a3 1 c3, .slice a4 1 c4, .slice none 0 0, .slice (some ⟨q, 0, none⟩) 1 cq] 39 (0, 0))
  have hbW : Below w1.heap.size w1 W := by rw [hW]; exact (Below.refl _ w1).alloc (Nat.le_refl _) _
  rw [← hW] at hNW hAW ⊢
  clear hW
  go_loopg [3] 0 (fun k v wr => v = .slice (some ⟨w1.heap.size, 0, none⟩) 1 1 ∧ wr = W)
  case atStart => exact ⟨rfl, rfl⟩
  case round =>
    obtain ⟨rfl, rfl⟩ := hrel
    go_wp2_with fail
    refine (peek_any (h1.below hbW)).mono ?_
    unfold tokV
    rintro r w2 ⟨rfl, b2⟩
    have ep : peekT begunL 48 23 = ⟨0, 48, [], 0⟩ := rfl
    rw [ep]
    have z2 := b2.size
    have hA2 := (aside b2 (S := [])).keep hAW (lt_of hAW) (by simp)
    have hN2 := (aside b2 (S := [])).keep hNW (lt_of hNW) (by simp)
    have A2 := (A1.trans (aside hbW) (by omega)).trans (aside b2) (by omega)
    have b12 : Below w1.heap.size w1 w2 := hbW.trans (b2.mono (by omega))
    have hBg : BegunAt (w.heap.size + 1) w2 w1.heap.size := ⟨q, cq, bk, z1, by omega, hq1', by omega, hbk1', by omega, hcq, cell_of hN2 6, (b12.cell (p := ⟨q, 4, none⟩) hq2).trans hq4, (b12.cell (p := ⟨bk, 1, none⟩) hbz).trans hbc⟩
    have ca0 := cell_of hA2 0
    have fa0 := free_of hA2 0
    simp at ca0
    clear b2 hAW hNW
    go_wp2
    refine bodyPost_ret (v := .agg #[.slice (some ⟨w1.heap.size, 0, none⟩) 1 1]) (by simp [results, Tryz.results36, go_sem, ca0]) rfl ⟨w1.heap.size, rfl, hBg.keep (by simp [World.setCell]) (fun k hk _ => Below.heap_setCell _ _ _ _ (by simp; omega)), A2.set (by simp) _⟩

set_option maxHeartbeats 2000000 in
theorem caught_idle (p q : Addr) (w : World) :
    CallsD Tryz.prog 35 #[.pointer (some p), .pointer (some q)] .returning w fun e u' w' => e = .returned (.tuple #[]) ∧ u' = .returning ∧ w' = w := by
  refine callsD_of_wpS Tryz.func35 rfl fun c₀ cs hu => ?_
  apply wpS_seq
  apply wpS_region
  simp [wpOpsS, go_sem, recoverD, hu, Tryz.ntmps35, Exit.thenS]
  refine wpS_of_wp ?_
  go_wp2
  cases c₀
  simp_all [bodyPostS, results, Tryz.results35]

end Go.Proofs.YtplofgkofkjhdaaGreatDoor
