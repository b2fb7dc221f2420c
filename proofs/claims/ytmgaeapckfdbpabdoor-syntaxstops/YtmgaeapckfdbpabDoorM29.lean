/-
  DERIVED. THE WALKS of readProgram and of Parse over the text of syntaxBegun, and of syntaxBegun: it answers true.
-/
import Derived.Test.YtmgaeapckfdbpabDoorM27
import Derived.Test.YtmgaeapckfdbpabDoorPg18
namespace Go.Proofs.YtmgaeapckfdbpabDoor
open Go.RowKit Go.IntWalk
set_option linter.unusedVariables false
set_option linter.unusedSimpArgs false
set_option maxRecDepth 100000

theorem keepB {w : World} {k : Nat} (o : Obj) (h : k < w.heap.size) : (w.alloc o).heap[k]? = w.heap[k]? := Below.heap_alloc _ _ _ h

set_option maxHeartbeats 8000000 in
theorem readProgram_begun {w : World} {g cap : Nat} (ht : HoldsToks w g begunL) (hg : g < w.heap.size) (hc : begunL.length ≤ cap) (hm : cap ≤ maxLen) :
    Calls Tryd.prog 8 #[.slice (some ⟨g, 0, none⟩) begunL.length cap, .int .i64 48] w fun r w' => ∃ nb, r = .returned (.tuple #[.agg #[.slice (some ⟨nb, 0, none⟩) 1 1], .agg #[.int .i64 0, .int .i64 0]]) ∧ BegunAt w.heap.size w' nb ∧ Below w.heap.size w w' := by
  have hmf := makes
  obtain ⟨W1, hW1⟩ : ∃ W, W = w.alloc (.cells #[.slice none 0 0] 25 (0, 0)) := ⟨_, rfl⟩
  obtain ⟨W2, hW2⟩ : ∃ W, W = W1.alloc (.cells #[.int .i64 0, .int .i64 0] 27 (0, 0)) := ⟨_, rfl⟩
  obtain ⟨W3, hW3⟩ : ∃ W, W = W2.alloc (.cells #[.slice (some ⟨g, 0, none⟩) begunL.length cap, .int .i64 0, .int .i64 48, .int .i64 0] 61 (0, 0)) := ⟨_, rfl⟩
  have y1 : W1.heap.size = w.heap.size + 1 := by rw [hW1]; simp
  have y2 : W2.heap.size = w.heap.size + 1 + 1 := by rw [hW2]; simp [y1]
  have y3 : W3.heap.size = w.heap.size + 1 + 1 + 1 := by rw [hW3]; simp [y2]
  have bW : Below w.heap.size w W3 := by rw [hW3, hW2, hW1]; exact (((Below.refl _ w).alloc (Nat.le_refl _) _).alloc (by simp) _).alloc (by simp; omega) _
  have hP : W3.heap[w.heap.size]? = some (.cells #[.slice none 0 0] 25 (0, 0)) := by rw [hW3, hW2, hW1]; exact keep_alloc (keep_alloc (heap_new w _) _) _
  have hF : W3.heap[w.heap.size + 1]? = some (.cells #[.int .i64 0, .int .i64 0] 27 (0, 0)) := by rw [hW3, hW2, ← y1]; exact keep_alloc (heap_new W1 _) _
  have hB : W3.heap[w.heap.size + 1 + 1]? = some (.cells #[.slice (some ⟨g, 0, none⟩) begunL.length cap, .int .i64 0, .int .i64 48, .int .i64 0] 61 (0, 0)) := by rw [hW3, ← y2]; exact heap_new W2 _
  have hR : Rd W3 (w.heap.size + 1 + 1) g cap begunL 48 0 0 := ⟨hB, ht.keep (bW.block g hg), by omega, by omega, by decide, hc, hm⟩
  go_enter_defers Tryd.func8, Tryd.ntmps8
  go_wp2_with fail
  rw [← hW1, ← hW2, ← hW3]
  refine (program_begun hR).mono ?_
  rintro r w4 ⟨nb, rfl, hbg, a4⟩
  have z4 := a4.size
  have hP4 := a4.keep hP (by omega) (by simp; omega)
  have hF4 := a4.keep hF (by omega) (by simp)
  have A4 : Below w.heap.size w w4 := bW.trans ((a4.mono (B' := w.heap.size) (by omega)).below (by simp; omega))
  have cp0 := cell_of hP4 0
  have fp0 := free_of hP4 0
  have cf0 := cell_of hF4 0
  have ff0 := free_of hF4 0
  have cf1 := cell_of hF4 1
  have ff1 := free_of hF4 1
  simp at cp0 cf0 cf1
  clear hR hB hP hF bW a4 hW1 hW2 hW3
  go_wp2
  refine leaves_cons (f := 17) (args := #[.pointer (some ⟨w.heap.size, 0, none⟩), .pointer (some ⟨w.heap.size + 1, 0, none⟩)]) (by simp) (by simp [go_sem]) ?_
  refine (caught_idle ⟨w.heap.size, 0, none⟩ ⟨w.heap.size + 1, 0, none⟩ _).mono ?_
  rintro e u' w'' ⟨rfl, rfl, rfl⟩
  have hbg' : BegunAt w.heap.size (((w4.setCell ⟨w.heap.size, 0, none⟩ (.slice (some ⟨nb, 0, none⟩) 1 1)).setCell ⟨w.heap.size + 1, 0, none⟩ (.int .i64 0)).setCell ⟨w.heap.size + 1, 1, none⟩ (.int .i64 0)) nb := by
    have h0 := hbg.keep (w' := (((w4.setCell ⟨w.heap.size, 0, none⟩ (.slice (some ⟨nb, 0, none⟩) 1 1)).setCell ⟨w.heap.size + 1, 0, none⟩ (.int .i64 0)).setCell ⟨w.heap.size + 1, 1, none⟩ (.int .i64 0))) (by simp [World.setCell]) (fun k hk _ => by
      rw [Below.heap_setCell _ _ _ _ (by simp; omega), Below.heap_setCell _ _ _ _ (by simp; omega), Below.heap_setCell _ _ _ _ (by simp; omega)])
    obtain ⟨q, cq, bk, h1, h2, h3, h4, h5, h6, h7⟩ := h0
    exact ⟨q, cq, bk, by omega, h2, by omega, h4, by omega, h6, h7⟩
  have A5 := ((A4.setCell (p := ⟨w.heap.size, 0, none⟩) (Nat.le_refl _) (.slice (some ⟨nb, 0, none⟩) 1 1)).setCell (p := ⟨w.heap.size + 1, 0, none⟩) (Nat.le_succ _) (.int .i64 0)).setCell (p := ⟨w.heap.size + 1, 1, none⟩) (Nat.le_succ _) (.int .i64 0)
  simp [Leaves, settle, results, Tryd.results8, go_sem, cp0, cf0, cf1]
  exact ⟨hbg', A5⟩

set_option maxHeartbeats 4000000 in
theorem parse_begun (w : World) : Calls Tryd.prog 5 #[.string ⟨#[110, 111, 100, 101, 32, 109, 97, 105, 110, 40, 120, 58, 32, 105, 110, 116, 41, 32, 45, 62, 32, 40, 121, 58, 32, 105, 110, 116, 41, 32, 123, 32, 121, 32, 61, 32, 120, 32, 45, 32, 49, 32, 45, 32, 50, 59, 32, 125]⟩] w fun r w' => ∃ nb, r = .returned (.tuple #[.agg #[.slice (some ⟨nb, 0, none⟩) 1 1], .agg #[.int .i64 0, .int .i64 0]]) ∧ BegunAt w.heap.size w' nb ∧ Below w.heap.size w w' := by
  go_enter Tryd.func5, Tryd.ntmps5
  go_wp2_with fail
  refine (scan_any ⟨#[110, 111, 100, 101, 32, 109, 97, 105, 110, 40, 120, 58, 32, 105, 110, 116, 41, 32, 45, 62, 32, 40, 121, 58, 32, 105, 110, 116, 41, 32, 123, 32, 121, 32, 61, 32, 120, 32, 45, 32, 49, 32, 45, 32, 50, 59, 32, 125]⟩ _ (by decide)).mono ?_
  rintro r w1 ⟨v, he, hown, b1⟩
  have hs : Tk.scan (⟨#[110, 111, 100, 101, 32, 109, 97, 105, 110, 40, 120, 58, 32, 105, 110, 116, 41, 32, 45, 62, 32, 40, 121, 58, 32, 105, 110, 116, 41, 32, 123, 32, 121, 32, 61, 32, 120, 32, 45, 32, 49, 32, 45, 32, 50, 59, 32, 125]⟩ : ByteArray).data.toList = (begunL, 0, 0) := scan_begun
  rw [hs] at he hown
  subst he
  obtain ⟨ao, g, cap, rfl, hc1, hc2, hT⟩ := toks_slice hown
  obtain ⟨rfl, hg1, hg2, hTk⟩ := hT (by decide)
  clear hT hown
  go_wp2_with fail
  refine (readProgram_begun (hTk.keep (keepB _ hg2)) (by simp; omega) hc1 hc2).mono ?_
  rintro r w3 ⟨nb, rfl, hbg, b3⟩
  have z1 : w.heap.size + 1 + 1 ≤ w1.heap.size := by simpa using b1.size
  have z3 : w1.heap.size + 1 ≤ w3.heap.size := by simpa using b3.size
  have hP := (aside b3 (S := [])).keep (keep_alloc ((aside b1 (S := [])).keep (keep_alloc (heap_new w _) _) (by simp; omega) (by simp)) _) (by simp; omega) (by simp)
  have hF0 := heap_new (w.alloc (.cells #[.slice none 0 0] 25 (0, 0))) (.cells #[.int .i64 0, .int .i64 0] 27 (0, 0))
  have e1 : (w.alloc (.cells #[.slice none 0 0] 25 (0, 0))).heap.size = w.heap.size + 1 := by simp
  rw [e1] at hF0
  have hF := (aside b3 (S := [])).keep (keep_alloc ((aside b1 (S := [])).keep hF0 (by simp) (by simp)) (.cells #[.int .i64 0, .int .i64 0] 27 (0, 0))) (by simp; omega) (by simp)
  have B3 : Below w.heap.size w w3 := ((((Below.refl _ w).alloc (Nat.le_refl _) _).alloc (by simp) _).trans (b1.mono (by simp; omega))).alloc (by omega) _ |>.trans (b3.mono (by simp; omega))
  have cp0 := cell_of hP 0
  have fp0 := free_of hP 0
  have cf0 := cell_of hF 0
  have ff0 := free_of hF 0
  have cf1 := cell_of hF 1
  have ff1 := free_of hF 1
  simp at cp0 cf0 cf1
  go_wp2
  have hbg' : BegunAt w.heap.size (((w3.setCell ⟨w.heap.size, 0, none⟩ (.slice (some ⟨nb, 0, none⟩) 1 1)).setCell ⟨w.heap.size + 1, 0, none⟩ (.int .i64 0)).setCell ⟨w.heap.size + 1, 1, none⟩ (.int .i64 0)) nb := by
    have h0 := hbg.keep (w' := (((w3.setCell ⟨w.heap.size, 0, none⟩ (.slice (some ⟨nb, 0, none⟩) 1 1)).setCell ⟨w.heap.size + 1, 0, none⟩ (.int .i64 0)).setCell ⟨w.heap.size + 1, 1, none⟩ (.int .i64 0))) (by simp [World.setCell]) (fun k hk _ => by
      simp at hk
      rw [Below.heap_setCell _ _ _ _ (by simp; omega), Below.heap_setCell _ _ _ _ (by simp; omega), Below.heap_setCell _ _ _ _ (by simp; omega)])
    obtain ⟨q, cq, bk, h1, h2, h3, h4, h5, h6, h7⟩ := h0
    simp at h1 h3 h5
    exact ⟨q, cq, bk, by omega, h2, by omega, h4, by omega, h6, h7⟩
  exact bodyPost_ret (v := .tuple #[.agg #[.slice (some ⟨nb, 0, none⟩) 1 1], .agg #[.int .i64 0, .int .i64 0]]) (by simp [results, Tryd.results5, go_sem, cp0, cf0, cf1]) rfl ⟨nb, rfl, hbg', ((B3.setCell (p := ⟨w.heap.size, 0, none⟩) (Nat.le_refl _) _).setCell (p := ⟨w.heap.size + 1, 0, none⟩) (Nat.le_succ _) _).setCell (p := ⟨w.heap.size + 1, 1, none⟩) (Nat.le_succ _) _⟩

set_option maxHeartbeats 4000000 in
theorem begun_any (w : World) : Calls Tryd.prog 4 #[] w fun e w' => e = .returned (.bool true) ∧ Below w.heap.size w w' := by
  go_enter Tryd.func4, Tryd.ntmps4
  go_wp2_with fail
  refine (parse_begun _).mono ?_
  rintro r w1 ⟨nb, rfl, ⟨q, cq, bk, h1, h2, h3, h4, h5, h6, h7, h8, h9, h10⟩, b1⟩
  have c1 := fun o o' => (((Below.refl w1.heap.size w1).alloc (Nat.le_refl _) o).alloc (by simp) o').cell (p := ⟨nb, 6, none⟩) h2 |>.trans h8
  have c2 := fun o o' => (((Below.refl w1.heap.size w1).alloc (Nat.le_refl _) o).alloc (by simp) o').cell (p := ⟨q, 4, none⟩) h4 |>.trans h9
  have c3 := fun o o' => (((Below.refl w1.heap.size w1).alloc (Nat.le_refl _) o).alloc (by simp) o').cell (p := ⟨bk, 1, none⟩) h6 |>.trans h10
  go_wp2
  go_ret
  exact ⟨rfl, (b1.alloc b1.size _).alloc (by have := b1.size; simp; omega) _⟩

end Go.Proofs.YtmgaeapckfdbpabDoor


/-
  DERIVED. THE WALKS of readProgram and of Parse, whatever comes, over the contract of the reader's forms.
-/
namespace Go.Proofs.YtmgaeapckfdbpabDoor
open Go.RowKit Go.IntWalk
set_option linter.unusedVariables false
set_option linter.unusedSimpArgs false
set_option maxRecDepth 100000

theorem nodes_of {ok : Nat → Prop} {w : World} {v : Value} {l : List Nd} (h : HNds ok w v l) : HRow kNode ok w v l := h
theorem HNds.wide' {ok ok' : Nat → Prop} {w : World} {v : Value} {l : List Nd} (h : HNds ok w v l) (hk : ∀ i, ok i → i < w.heap.size → ok' i) : HNds ok' w v l := HRow.wide (T := kNode) h hk

def RPost (w : World) (res : Res (List Nd)) (r : Ending) (w' : World) : Prop :=
  Below w.heap.size w w' ∧
  match res with
  | .ok l _ => ∃ a n c, r = .returned (.tuple #[.agg #[.slice a n c], .agg #[.int .i64 0, .int .i64 0]]) ∧ HNds (fun i => w.heap.size ≤ i) w' (.slice a n c) l
  | .err c a => r = .returned (.tuple #[.agg #[.slice none 0 0], .agg #[.int .i64 (c : Int), .int .i64 (a : Int)]])

set_option maxHeartbeats 8000000 in
theorem readProgram_any (hform : FormC) {I : Inp} (hL : I.L.length ≤ 1099511627776) {w : World} {g cap : Nat} (ht : HoldsToks w g I.L) (hg : g < w.heap.size) (hc : I.L.length ≤ cap) (hm : cap ≤ maxLen) (hG : GlobT w) :
    Calls Tryd.prog 8 #[.slice (some ⟨g, 0, none⟩) I.L.length cap, .int .i64 (I.len : Int)] w (RPost w (Ps.program I)) := by
  have hmf := makes
  obtain ⟨W1, hW1⟩ : ∃ W, W = w.alloc (.cells #[.slice none 0 0] 25 (0, 0)) := ⟨_, rfl⟩
  obtain ⟨W2, hW2⟩ : ∃ W, W = W1.alloc (.cells #[.int .i64 0, .int .i64 0] 27 (0, 0)) := ⟨_, rfl⟩
  obtain ⟨W3, hW3⟩ : ∃ W, W = W2.alloc (.cells #[.slice (some ⟨g, 0, none⟩) I.L.length cap, .int .i64 0, .int .i64 (I.len : Int), .int .i64 0] 61 (0, 0)) := ⟨_, rfl⟩
  have y1 : W1.heap.size = w.heap.size + 1 := by rw [hW1]; simp
  have y2 : W2.heap.size = w.heap.size + 1 + 1 := by rw [hW2]; simp [y1]
  have y3 : W3.heap.size = w.heap.size + 1 + 1 + 1 := by rw [hW3]; simp [y2]
  have bW : Below w.heap.size w W3 := by rw [hW3, hW2, hW1]; exact (((Below.refl _ w).alloc (Nat.le_refl _) _).alloc (by simp) _).alloc (by simp; omega) _
  have hP : W3.heap[w.heap.size]? = some (.cells #[.slice none 0 0] 25 (0, 0)) := by rw [hW3, hW2, hW1]; exact keep_alloc (keep_alloc (heap_new w _) _) _
  have hF : W3.heap[w.heap.size + 1]? = some (.cells #[.int .i64 0, .int .i64 0] 27 (0, 0)) := by rw [hW3, hW2, ← y1]; exact keep_alloc (heap_new W1 _) _
  have hB : W3.heap[w.heap.size + 1 + 1]? = some (.cells #[.slice (some ⟨g, 0, none⟩) I.L.length cap, .int .i64 0, .int .i64 (I.len : Int), .int .i64 0] 61 (0, 0)) := by rw [hW3, ← y2]; exact heap_new W2 _
  have hR : Rd W3 (w.heap.size + 1 + 1) g cap I.L I.len 0 0 := ⟨hB, ht.keep (bW.block g hg), by omega, by omega, Nat.zero_le _, hc, hm⟩
  go_enter_defers Tryd.func8, Tryd.ntmps8
  go_wp2_with fail
  rw [← hW1, ← hW2, ← hW3]
  refine (program_any hform hL hR ⟨by have := hG.1; omega, hG.keep bW.size (bW.block 1 hG.1)⟩).mono ?_
  rintro r w4 ⟨a4, hres⟩
  have z4 := a4.size
  have hP4 := a4.keep hP (by omega) (by simp; omega)
  have hF4 := a4.keep hF (by omega) (by simp)
  have A4 : Below w.heap.size w w4 := bW.trans ((a4.mono (B' := w.heap.size) (by omega)).below (by simp; omega))
  have cp0 := cell_of hP4 0
  have fp0 := free_of hP4 0
  have cf0 := cell_of hF4 0
  have ff0 := free_of hF4 0
  have cf1 := cell_of hF4 1
  have ff1 := free_of hF4 1
  simp at cp0 cf0 cf1
  clear hR hB hP hF bW a4 hW1 hW2 hW3
  cases hp : Ps.program I with
  | ok l n =>
    rw [hp] at hres
    obtain ⟨_, h4, _, rfl, a, n', c, rfl, hN⟩ := hres
    clear h4
    go_wp2
    refine leaves_cons (f := 17) (args := #[.pointer (some ⟨w.heap.size, 0, none⟩), .pointer (some ⟨w.heap.size + 1, 0, none⟩)]) (by simp) (by simp [go_sem]) ?_
    refine (caught_idle ⟨w.heap.size, 0, none⟩ ⟨w.heap.size + 1, 0, none⟩ _).mono ?_
    rintro e u' w'' ⟨rfl, rfl, rfl⟩
    have A5 := ((A4.setCell (p := ⟨w.heap.size, 0, none⟩) (Nat.le_refl _) (.slice a n' c)).setCell (p := ⟨w.heap.size + 1, 0, none⟩) (Nat.le_succ _) (.int .i64 0)).setCell (p := ⟨w.heap.size + 1, 1, none⟩) (Nat.le_succ _) (.int .i64 0)
    have hN5 := ((nodes_of (hN.wide' (ok' := fun i => w.heap.size + 1 < i) (fun i hi _ => by omega))).set (p := ⟨w.heap.size, 0, none⟩) (by simp) (.slice a n' c) |>.set (p := ⟨w.heap.size + 1, 0, none⟩) (by simp) (.int .i64 0) |>.set (p := ⟨w.heap.size + 1, 1, none⟩) (by simp) (.int .i64 0)).wide (ok' := fun i => w.heap.size ≤ i) (fun i hi _ => by omega)
    simp [Leaves, settle, results, Tryd.results8, go_sem, cp0, cf0, cf1]
    refine ⟨A5, ?_⟩
    rw [hp]
    exact ⟨a, n', c, rfl, nodes_row hN5⟩
  | err c a =>
    rw [hp] at hres
    obtain rfl : r = _ := hres
    unfold upE
    refine leaves_cons (f := 17) (args := #[.pointer (some ⟨w.heap.size, 0, none⟩), .pointer (some ⟨w.heap.size + 1, 0, none⟩)]) (by simp) (by simp [go_sem]) ?_
    refine (caught_up w.heap.size (w.heap.size + 1) c a _ _ _ _ hP4 hF4 (by omega)).mono ?_
    rintro e u' w5 ⟨rfl, rfl, hP5, hF5, a5⟩
    have p0 := cell_of hP5 0
    have f0 := cell_of hF5 0
    have f1 := cell_of hF5 1
    simp at p0 f0 f1
    have A5 : Below w.heap.size w w5 := A4.trans ((a5.mono (B' := w.heap.size) (by have := A4.size; omega)).below (by simp))
    simp [Leaves, settle, results, Tryd.results8, go_sem, p0, f0, f1, upV]
    exact ⟨A5, rfl⟩

end Go.Proofs.YtmgaeapckfdbpabDoor
