/-
  DERIVED. THE WALKS of the reader's expressions, where all goes well: one level after the other.
-/
import Derived.Test.YtplofgkofkjhdaaGreatDoorRd3
namespace Go.Proofs.YtplofgkofkjhdaaGreatDoor
open Go.RowKit Go.IntWalk
set_option linter.unusedVariables false
set_option linter.unusedSimpArgs false
set_option maxRecDepth 100000

theorem enter112 (args : Array Value) (w : World) : (callFunc 112 args).run Tryz.prog w = .ok (.enter 112 args) w := by kernel_rfl
theorem enter115 (args : Array Value) (w : World) : (callFunc 115 args).run Tryz.prog w = .ok (.enter 115 args) w := by kernel_rfl
theorem enter118 (args : Array Value) (w : World) : (callFunc 118 args).run Tryz.prog w = .ok (.enter 118 args) w := by kernel_rfl
theorem enter119 (args : Array Value) (w : World) : (callFunc 119 args).run Tryz.prog w = .ok (.enter 119 args) w := by kernel_rfl

set_option maxHeartbeats 2000000 in
theorem product_ok {b g cap : Nat} {L : List Tk.Tok} {len op nx n1 m : Nat} {e0 x : Ex} (hG : Gives 119 b g cap L len op nx n1 e0) (hR : Rem 119 b g cap L len op 3 5 n1 e0 m x) : Gives 118 b g cap L len op nx m x := by
  refine ⟨Nat.le_trans hG.1 hR.le, fun w h => ?_⟩
  have hb := h.bb
  have hg := h.gb
  have hmf := makes
  go_enter Tryz.func118, Tryz.ntmps118
  go_wp2_with fail
  refine (fromLeft_ok hG hR enter119 (h.alloc _)).mono ?_
  rintro r w1 ⟨y, rfl, he1, h1, a1⟩
  have hA1 := a1.keep (heap_new w _) (by simp) (by simp; omega)
  have fa := fun o => free_of hA1 o
  have ca0 := cell_of hA1 0
  have ca1 := cell_of hA1 1
  have ca2 := cell_of hA1 2
  have ca3 := cell_of hA1 3
  have ca4 := cell_of hA1 4
  have ca5 := cell_of hA1 5
  simp at ca0 ca1 ca2 ca3 ca4 ca5
  have A1 := ((Aside.refl (S := [b]) (B := w.heap.size) w).alloc (Nat.le_refl _) _).trans a1 (by simp)
  have he2 := he1.wide (ok' := fun i => w.heap.size < i) (fun i hi hl => by simp at hi; omega)
  go_wp2
  refine bodyPost_ret (v := .agg #[.int .i64 y.op, .int .i64 y.k, .int .i64 y.n, .string y.name, .slice y.aS y.nS y.cS, .slice y.aL y.nL y.cL]) (by simp [results, Tryz.results118, go_sem, ca0, ca1, ca2, ca3, ca4, ca5]) rfl ⟨y, rfl, ?_, ?_, ?_⟩
  · exact ((((((he2.set (by simp) _).set (by simp) _).set (by simp) _).set (by simp) _).set (by simp) _).set (by simp) _).wide (fun i hi _ => Nat.le_of_lt hi)
  · exact (((((h1.set (by simp; omega) (by simp; omega) _).set (by simp; omega) (by simp; omega) _).set (by simp; omega) (by simp; omega) _).set (by simp; omega) (by simp; omega) _).set (by simp; omega) (by simp; omega) _).set (by simp; omega) (by simp; omega) _
  · exact (((((A1.set (by simp) _).set (by simp) _).set (by simp) _).set (by simp) _).set (by simp) _).set (by simp) _

set_option maxHeartbeats 2000000 in
theorem sum_ok {b g cap : Nat} {L : List Tk.Tok} {len op nx n1 m : Nat} {e0 x : Ex} (hG : Gives 118 b g cap L len op nx n1 e0) (hR : Rem 118 b g cap L len op 1 2 n1 e0 m x) : Gives 117 b g cap L len op nx m x := by
  refine ⟨Nat.le_trans hG.1 hR.le, fun w h => ?_⟩
  have hb := h.bb
  have hg := h.gb
  have hmf := makes
  go_enter Tryz.func117, Tryz.ntmps117
  go_wp2_with fail
  refine (fromLeft_ok hG hR enter118 (h.alloc _)).mono ?_
  rintro r w1 ⟨y, rfl, he1, h1, a1⟩
  have hA1 := a1.keep (heap_new w _) (by simp) (by simp; omega)
  have fa := fun o => free_of hA1 o
  have ca0 := cell_of hA1 0
  have ca1 := cell_of hA1 1
  have ca2 := cell_of hA1 2
  have ca3 := cell_of hA1 3
  have ca4 := cell_of hA1 4
  have ca5 := cell_of hA1 5
  simp at ca0 ca1 ca2 ca3 ca4 ca5
  have A1 := ((Aside.refl (S := [b]) (B := w.heap.size) w).alloc (Nat.le_refl _) _).trans a1 (by simp)
  have he2 := he1.wide (ok' := fun i => w.heap.size < i) (fun i hi hl => by simp at hi; omega)
  go_wp2
  refine bodyPost_ret (v := .agg #[.int .i64 y.op, .int .i64 y.k, .int .i64 y.n, .string y.name, .slice y.aS y.nS y.cS, .slice y.aL y.nL y.cL]) (by simp [results, Tryz.results117, go_sem, ca0, ca1, ca2, ca3, ca4, ca5]) rfl ⟨y, rfl, ?_, ?_, ?_⟩
  · exact ((((((he2.set (by simp) _).set (by simp) _).set (by simp) _).set (by simp) _).set (by simp) _).set (by simp) _).wide (fun i hi _ => Nat.le_of_lt hi)
  · exact (((((h1.set (by simp; omega) (by simp; omega) _).set (by simp; omega) (by simp; omega) _).set (by simp; omega) (by simp; omega) _).set (by simp; omega) (by simp; omega) _).set (by simp; omega) (by simp; omega) _).set (by simp; omega) (by simp; omega) _
  · exact (((((A1.set (by simp) _).set (by simp) _).set (by simp) _).set (by simp) _).set (by simp) _).set (by simp) _

set_option maxHeartbeats 2000000 in
theorem conjunction_ok {b g cap : Nat} {L : List Tk.Tok} {len op nx n1 m : Nat} {e0 x : Ex} (hG : Gives 115 b g cap L len op nx n1 e0) (hR : Rem 115 b g cap L len op 10 10 n1 e0 m x) : Gives 112 b g cap L len op nx m x := by
  refine ⟨Nat.le_trans hG.1 hR.le, fun w h => ?_⟩
  have hb := h.bb
  have hg := h.gb
  have hmf := makes
  go_enter Tryz.func112, Tryz.ntmps112
  go_wp2_with fail
  refine (fromLeft_ok hG hR enter115 (h.alloc _)).mono ?_
  rintro r w1 ⟨y, rfl, he1, h1, a1⟩
  have hA1 := a1.keep (heap_new w _) (by simp) (by simp; omega)
  have fa := fun o => free_of hA1 o
  have ca0 := cell_of hA1 0
  have ca1 := cell_of hA1 1
  have ca2 := cell_of hA1 2
  have ca3 := cell_of hA1 3
  have ca4 := cell_of hA1 4
  have ca5 := cell_of hA1 5
  simp at ca0 ca1 ca2 ca3 ca4 ca5
  have A1 := ((Aside.refl (S := [b]) (B := w.heap.size) w).alloc (Nat.le_refl _) _).trans a1 (by simp)
  have he2 := he1.wide (ok' := fun i => w.heap.size < i) (fun i hi hl => by simp at hi; omega)
  go_wp2
  refine bodyPost_ret (v := .agg #[.int .i64 y.op, .int .i64 y.k, .int .i64 y.n, .string y.name, .slice y.aS y.nS y.cS, .slice y.aL y.nL y.cL]) (by simp [results, Tryz.results112, go_sem, ca0, ca1, ca2, ca3, ca4, ca5]) rfl ⟨y, rfl, ?_, ?_, ?_⟩
  · exact ((((((he2.set (by simp) _).set (by simp) _).set (by simp) _).set (by simp) _).set (by simp) _).set (by simp) _).wide (fun i hi _ => Nat.le_of_lt hi)
  · exact (((((h1.set (by simp; omega) (by simp; omega) _).set (by simp; omega) (by simp; omega) _).set (by simp; omega) (by simp; omega) _).set (by simp; omega) (by simp; omega) _).set (by simp; omega) (by simp; omega) _).set (by simp; omega) (by simp; omega) _
  · exact (((((A1.set (by simp) _).set (by simp) _).set (by simp) _).set (by simp) _).set (by simp) _).set (by simp) _

set_option maxHeartbeats 2000000 in
theorem expr_ok {b g cap : Nat} {L : List Tk.Tok} {len op nx n1 m : Nat} {e0 x : Ex} (hG : Gives 112 b g cap L len op nx n1 e0) (hR : Rem 112 b g cap L len op 11 12 n1 e0 m x) : Gives 108 b g cap L len op nx m x := by
  refine ⟨Nat.le_trans hG.1 hR.le, fun w h => ?_⟩
  have hb := h.bb
  have hg := h.gb
  have hmf := makes
  go_enter Tryz.func108, Tryz.ntmps108
  go_wp2_with fail
  refine (fromLeft_ok hG hR enter112 (h.alloc _)).mono ?_
  rintro r w1 ⟨y, rfl, he1, h1, a1⟩
  have hA1 := a1.keep (heap_new w _) (by simp) (by simp; omega)
  have fa := fun o => free_of hA1 o
  have ca0 := cell_of hA1 0
  have ca1 := cell_of hA1 1
  have ca2 := cell_of hA1 2
  have ca3 := cell_of hA1 3
  have ca4 := cell_of hA1 4
  have ca5 := cell_of hA1 5
  simp at ca0 ca1 ca2 ca3 ca4 ca5
  have A1 := ((Aside.refl (S := [b]) (B := w.heap.size) w).alloc (Nat.le_refl _) _).trans a1 (by simp)
  have he2 := he1.wide (ok' := fun i => w.heap.size < i) (fun i hi hl => by simp at hi; omega)
  go_wp2
  refine bodyPost_ret (v := .agg #[.int .i64 y.op, .int .i64 y.k, .int .i64 y.n, .string y.name, .slice y.aS y.nS y.cS, .slice y.aL y.nL y.cL]) (by simp [results, Tryz.results108, go_sem, ca0, ca1, ca2, ca3, ca4, ca5]) rfl ⟨y, rfl, ?_, ?_, ?_⟩
  · exact ((((((he2.set (by simp) _).set (by simp) _).set (by simp) _).set (by simp) _).set (by simp) _).set (by simp) _).wide (fun i hi _ => Nat.le_of_lt hi)
  · exact (((((h1.set (by simp; omega) (by simp; omega) _).set (by simp; omega) (by simp; omega) _).set (by simp; omega) (by simp; omega) _).set (by simp; omega) (by simp; omega) _).set (by simp; omega) (by simp; omega) _).set (by simp; omega) (by simp; omega) _
  · exact (((((A1.set (by simp) _).set (by simp) _).set (by simp) _).set (by simp) _).set (by simp) _).set (by simp) _

end Go.Proofs.YtplofgkofkjhdaaGreatDoor
