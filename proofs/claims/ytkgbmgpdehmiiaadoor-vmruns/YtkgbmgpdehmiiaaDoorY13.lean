import Derived.Test.YtkgbmgpdehmiiaaDoorY12
import Derived.WalkKit
import Derived.WalkSpells
import Derived.IntWalk
import Derived.Deep.Cut
import Derived.Deep.LoopGhost
import Derived.Laws.Cover1
import Derived.Lib.Hide
set_option linter.unusedVariables false
set_option linter.unusedSimpArgs false
set_option maxHeartbeats 64000000
set_option maxRecDepth 100000
namespace Go.Proofs.YtkgbmgpdehmiiaaDoor
open Go.RowKit Go.IntWalk
set_option linter.unusedVariables false
set_option linter.unusedSimpArgs false
theorem LX.put {w : World} {g : Nat} {l : List Int} (h : LX w g l) (i : Nat) (x : Int) : LX (w.setCell ⟨g, i, none⟩ (.int .i64 x)) g (l.set i x) := by
 by_cases hi : i < l.length
 ·exact h.set hi x
 ·obtain ⟨T, h⟩ := h
  have e1 : l.set i x = l := List.set_eq_of_length_le (by omega)
  have e2 : i - (l.map (Value.int .i64)).length = i - l.length := by rw [List.length_map]
  refine ⟨T.set (i - l.length) (.int .i64 x), ?_⟩
  rw [e1, set_in h i (.int .i64 x), List.setIfInBounds_toArray, List.set_append_right _ _ (by simp; omega), e2]
namespace Dx
/-- what an instruction does -/
structure DOneP (w : World) (gb rb cb nc cc : Nat) (v0 v1 v2 v3 v4 v5 v6 : Value) (st : Int) (X M : List Int) (e : Ending) (w' : World) : Prop where
 e : e = .returned (.bool true)
 g : GAt w' gb cb nc cc v0 v1 v2 v3 v4 v5 v6 (wrap64 (st + 1))
 x : LX w' rb X
 m : LX w' cb M
 a : Aside [gb, rb, cb] w.heap.size w w'
set_option maxHeartbeats 8000000 in
theorem done1_any {w : World} {gb rb cb nc cc nr cr : Nat} {v0 v1 v2 v3 v4 v5 v6 : Value} {X M : List Int} {st : Int} (hg : GAt w gb cb nc cc v0 v1 v2 v3 v4 v5 v6 st) (hx : LX w rb X) (hm : LX w cb M) (hnr : nr = X.length) (hnc : nc ≤ M.length) (hX : X.length ≤ 40) (hM : nc ≤ 6000) (n1 : gb ≠ rb) (n2 : gb ≠ cb) (n3 : rb ≠ cb) (kk : Int) (rn : Nat) (hr : rn < X.length) (aa bq nn : Int) : Calls Tryd.prog 43 #[.pointer (some ⟨gb, 0, none⟩), .agg #[.int .i64 1, .int .i64 kk, .int .i64 (rn : Int), .int .i64 aa, .int .i64 bq, .int .i64 nn], .slice (some ⟨rb, 0, none⟩) nr cr] w (DOneP w gb rb cb nc cc v0 v1 v2 v3 v4 v5 v6 st (X.set rn nn) (M)) := by
 have b1 : Below w.heap.size w (w.alloc (.cells #[.int .i64 1, .int .i64 kk, .int .i64 (rn : Int), .int .i64 aa, .int .i64 bq, .int .i64 nn] 52 (0, 0))) := (Below.refl _ _).alloc (Nat.le_refl _) _
 have kB := heap_new w (.cells #[.int .i64 1, .int .i64 kk, .int .i64 (rn : Int), .int .i64 aa, .int .i64 bq, .int .i64 nn] 52 (0, 0))
 have ygw := lt_of hg
 have yrw := hx.lt
 have ycw := hm.lt
 have HNR := hide hnr
 have HNC := hide hnc
 clear hnr hnc
 have hx1 := hx.under b1
 have hm1 := hm.under b1
 have kg := (b1.block _ ygw).trans (show w.heap[gb]? = some (.cells #[v0, v1, v2, v3, v4, v5, v6, .slice (some ⟨cb, 0, none⟩) nc cc, .int .i64 st] 46 (0, 0)) from hg)
 obtain ⟨XX, hXX⟩ : ∃ z, z = (X.set rn nn) := ⟨_, rfl⟩
 obtain ⟨MM, hMM⟩ : ∃ z, z = (M) := ⟨_, rfl⟩
 suffices hh : Calls Tryd.prog 43 #[.pointer (some ⟨gb, 0, none⟩), .agg #[.int .i64 1, .int .i64 kk, .int .i64 (rn : Int), .int .i64 aa, .int .i64 bq, .int .i64 nn], .slice (some ⟨rb, 0, none⟩) nr cr] w (DOneP w gb rb cb nc cc v0 v1 v2 v3 v4 v5 v6 st XX MM) by
  rw [hXX, hMM] at hh
  exact hh
 have HXX := hide hXX
 have HMM := hide hMM
 clear hg hx hm hXX hMM
 go_enter Tryd.func43, Tryd.ntmps43
 go_upto_region 1 with fail
 generalize w.alloc (.cells #[.int .i64 1, .int .i64 kk, .int .i64 (rn : Int), .int .i64 aa, .int .i64 bq, .int .i64 nn] 52 (0, 0)) = w1 at b1 kB hx1 hm1 kg ⊢
 have s8 := cell_of kg 8
 have f8 := free_of kg 8
 simp at s8
 have y1 := b1.size
 have yB := lt_of kB
 go_cut [] (fun wd => GAt wd gb cb nc cc v0 v1 v2 v3 v4 v5 v6 (wrap64 (st + 1)) ∧ LX wd rb X ∧ LX wd cb M ∧ wd.heap[w.heap.size]? = some (.cells #[.int .i64 1, .int .i64 kk, .int .i64 (rn : Int), .int .i64 aa, .int .i64 bq, .int .i64 nn] 52 (0, 0)) ∧ Aside [gb] w1.heap.size w1 wd)
 case first =>
  go_wp2_with fail
  go_meet
  case rel =>
   have a2 : ∀ u, Aside [gb] w1.heap.size w1 (w1.setCell ⟨gb, 8, none⟩ u) := fun u => Aside.setCell (p := ⟨gb, 8, none⟩) (by simp) u
   exact ⟨by have := set_in kg 8 (.int .i64 (wrap64 (st + 1))); simpa [GAt] using this, hx1.keep ((a2 _).block _ (by omega) (by simpa using n1.symm)), hm1.keep ((a2 _).block _ (by omega) (by simpa using n2.symm)), ((a2 _).block _ yB (by simp; omega)).trans kB, a2 _⟩
 case rest =>
  obtain ⟨hg2, hx2, hm2, kB2, a2⟩ := hcut
  clear kB hx1 hm1 kg s8 f8 yB
  obtain ⟨w2, hw2⟩ : ∃ x, x = wc := ⟨_, rfl⟩
  subst hw2
  have kg2 : w2.heap[gb]? = some (.cells #[v0, v1, v2, v3, v4, v5, v6, .slice (some ⟨cb, 0, none⟩) nc cc, .int .i64 (wrap64 (st + 1))] 46 (0, 0)) := hg2
  have yB := lt_of kB2
  have yg := lt_of kg2
  have yr := hx2.lt
  have yc := hm2.lt
  have i0 := cell_of kB2 0
  have i1 := cell_of kB2 1
  have i2 := cell_of kB2 2
  have i3 := cell_of kB2 3
  have i4 := cell_of kB2 4
  have i5 := cell_of kB2 5
  have g7 := cell_of kg2 7
  simp at i0 i1 i2 i3 i4 i5 g7
  have xr := hx2.at hr
  have A2 : Aside [gb, rb, cb] w.heap.size w w2 := ((aside b1).trans (a2.wide (fun _ _ h => by simp at h ⊢; exact h.1)) b1.size)
  have hnr := HNR.out
  have hnc := HNC.out
  have hrn : (rn : Int) < (nr : Int) := by omega
  clear HNR HNC
  clear kB2 a2 b1 y1 kg2
  have fr := hx2.free rn
  have kE := hx2.put rn nn
  have kM := hm2.keep (w' := w2.setCell ⟨rb, rn, none⟩ (.int .i64 nn)) (heap_set_other w2 ⟨rb, rn, none⟩ _ (by show rb ≠ cb; exact n3))
  have kG := hg2.keep (w' := w2.setCell ⟨rb, rn, none⟩ (.int .i64 nn)) (heap_set_other w2 ⟨rb, rn, none⟩ _ (by show rb ≠ gb; exact n1.symm))
  have hq : Aside [gb, rb, cb] w2.heap.size w2 (w2.setCell ⟨rb, rn, none⟩ (.int .i64 nn)) := Aside.setCell (by simp) _
  have HE := hide kE
  have HM2 := hide kM
  have HG2 := hide kG
  clear kE kM kG
  go_wp2
  go_ret
  exact ⟨rfl, HG2.out, by rw [HXX.out]; exact HE.out, by rw [HMM.out]; exact HM2.out, A2.trans hq A2.size⟩
set_option maxHeartbeats 8000000 in
theorem done2_any {w : World} {gb rb cb nc cc nr cr : Nat} {v0 v1 v2 v3 v4 v5 v6 : Value} {X M : List Int} {st : Int} (hg : GAt w gb cb nc cc v0 v1 v2 v3 v4 v5 v6 st) (hx : LX w rb X) (hm : LX w cb M) (hnr : nr = X.length) (hnc : nc ≤ M.length) (hX : X.length ≤ 40) (hM : nc ≤ 6000) (n1 : gb ≠ rb) (n2 : gb ≠ cb) (n3 : rb ≠ cb) (kk : Int) (rn : Nat) (hr : rn < X.length) (aa bq : Int) (nn : Nat) (hn : nn < M.length) (hn2 : nn < nc) : Calls Tryd.prog 43 #[.pointer (some ⟨gb, 0, none⟩), .agg #[.int .i64 2, .int .i64 kk, .int .i64 (rn : Int), .int .i64 aa, .int .i64 bq, .int .i64 (nn : Int)], .slice (some ⟨rb, 0, none⟩) nr cr] w (DOneP w gb rb cb nc cc v0 v1 v2 v3 v4 v5 v6 st (X.set rn M[nn]) (M)) := by
 have b1 : Below w.heap.size w (w.alloc (.cells #[.int .i64 2, .int .i64 kk, .int .i64 (rn : Int), .int .i64 aa, .int .i64 bq, .int .i64 (nn : Int)] 52 (0, 0))) := (Below.refl _ _).alloc (Nat.le_refl _) _
 have kB := heap_new w (.cells #[.int .i64 2, .int .i64 kk, .int .i64 (rn : Int), .int .i64 aa, .int .i64 bq, .int .i64 (nn : Int)] 52 (0, 0))
 have ygw := lt_of hg
 have yrw := hx.lt
 have ycw := hm.lt
 have HNR := hide hnr
 have HNC := hide hnc
 clear hnr hnc
 have hx1 := hx.under b1
 have hm1 := hm.under b1
 have kg := (b1.block _ ygw).trans (show w.heap[gb]? = some (.cells #[v0, v1, v2, v3, v4, v5, v6, .slice (some ⟨cb, 0, none⟩) nc cc, .int .i64 st] 46 (0, 0)) from hg)
 obtain ⟨XX, hXX⟩ : ∃ z, z = (X.set rn M[nn]) := ⟨_, rfl⟩
 obtain ⟨MM, hMM⟩ : ∃ z, z = (M) := ⟨_, rfl⟩
 suffices hh : Calls Tryd.prog 43 #[.pointer (some ⟨gb, 0, none⟩), .agg #[.int .i64 2, .int .i64 kk, .int .i64 (rn : Int), .int .i64 aa, .int .i64 bq, .int .i64 (nn : Int)], .slice (some ⟨rb, 0, none⟩) nr cr] w (DOneP w gb rb cb nc cc v0 v1 v2 v3 v4 v5 v6 st XX MM) by
  rw [hXX, hMM] at hh
  exact hh
 have HXX := hide hXX
 have HMM := hide hMM
 clear hg hx hm hXX hMM
 go_enter Tryd.func43, Tryd.ntmps43
 go_upto_region 1 with fail
 generalize w.alloc (.cells #[.int .i64 2, .int .i64 kk, .int .i64 (rn : Int), .int .i64 aa, .int .i64 bq, .int .i64 (nn : Int)] 52 (0, 0)) = w1 at b1 kB hx1 hm1 kg ⊢
 have s8 := cell_of kg 8
 have f8 := free_of kg 8
 simp at s8
 have y1 := b1.size
 have yB := lt_of kB
 go_cut [] (fun wd => GAt wd gb cb nc cc v0 v1 v2 v3 v4 v5 v6 (wrap64 (st + 1)) ∧ LX wd rb X ∧ LX wd cb M ∧ wd.heap[w.heap.size]? = some (.cells #[.int .i64 2, .int .i64 kk, .int .i64 (rn : Int), .int .i64 aa, .int .i64 bq, .int .i64 (nn : Int)] 52 (0, 0)) ∧ Aside [gb] w1.heap.size w1 wd)
 case first =>
  go_wp2_with fail
  go_meet
  case rel =>
   have a2 : ∀ u, Aside [gb] w1.heap.size w1 (w1.setCell ⟨gb, 8, none⟩ u) := fun u => Aside.setCell (p := ⟨gb, 8, none⟩) (by simp) u
   exact ⟨by have := set_in kg 8 (.int .i64 (wrap64 (st + 1))); simpa [GAt] using this, hx1.keep ((a2 _).block _ (by omega) (by simpa using n1.symm)), hm1.keep ((a2 _).block _ (by omega) (by simpa using n2.symm)), ((a2 _).block _ yB (by simp; omega)).trans kB, a2 _⟩
 case rest =>
  obtain ⟨hg2, hx2, hm2, kB2, a2⟩ := hcut
  clear kB hx1 hm1 kg s8 f8 yB
  obtain ⟨w2, hw2⟩ : ∃ x, x = wc := ⟨_, rfl⟩
  subst hw2
  have kg2 : w2.heap[gb]? = some (.cells #[v0, v1, v2, v3, v4, v5, v6, .slice (some ⟨cb, 0, none⟩) nc cc, .int .i64 (wrap64 (st + 1))] 46 (0, 0)) := hg2
  have yB := lt_of kB2
  have yg := lt_of kg2
  have yr := hx2.lt
  have yc := hm2.lt
  have i0 := cell_of kB2 0
  have i1 := cell_of kB2 1
  have i2 := cell_of kB2 2
  have i3 := cell_of kB2 3
  have i4 := cell_of kB2 4
  have i5 := cell_of kB2 5
  have g7 := cell_of kg2 7
  simp at i0 i1 i2 i3 i4 i5 g7
  have xr := hx2.at hr
  have A2 : Aside [gb, rb, cb] w.heap.size w w2 := ((aside b1).trans (a2.wide (fun _ _ h => by simp at h ⊢; exact h.1)) b1.size)
  have hnr := HNR.out
  have hnc := HNC.out
  have hrn : (rn : Int) < (nr : Int) := by omega
  clear HNR HNC
  clear kB2 a2 b1 y1 kg2
  have mc := hm2.at hn
  have hnn : (nn : Int) < (nc : Int) := by omega
  generalize M[nn] = y at mc HXX
  go_upto_region 6 with fail
  refine wp_region_late (fun w' => Below w2.heap.size w2 w') (fun i => i == 12) (by kernel_rfl) ?_
  have hH0 : Below w2.heap.size w2 w2.drew := (Below.refl _ _).drew
  generalize w2.drew = wd0 at hH0 ⊢
  refine' wpAnyL_take (i := 0) (oi := ⟨some 26, _, _, _, _, _⟩) (v := _) rfl (by kernel_rfl) (by kernel_rfl) (by kernel_rfl) (by kernel_rfl) (fun _ _ _ h => h) hH0 (by rfl) ?hyv ?o1
  case hyv =>
   intro wz hSw
   go_simp
   try rfl
  try simp only [Act.put, sT, sZ, sS]
  refine' wpAnyL_take (i := 1) (oi := ⟨some 27, _, _, _, _, _⟩) (v := _) rfl (by kernel_rfl) (by kernel_rfl) (by kernel_rfl) (by kernel_rfl) (fun _ _ _ h => h) hH0 (by rfl) ?hyv ?o2
  case hyv =>
   intro wz hSw
   go_simp
   try rfl
  try simp only [Act.put, sT, sZ, sS]
  refine' wpAnyL_take (i := 2) (oi := ⟨some 28, _, _, _, _, _⟩) (v := _) rfl (by kernel_rfl) (by kernel_rfl) (by kernel_rfl) (by kernel_rfl) (fun _ _ _ h => h) hH0 (by rfl) ?hyv ?o3
  case hyv =>
   intro wz hSw
   have zc0 := (hSw.cell (p := ⟨w.heap.size, 0, none⟩) yB).trans i0
   have zc1 := (hSw.cell (p := ⟨w.heap.size, 1, none⟩) yB).trans i1
   have zc2 := (hSw.cell (p := ⟨w.heap.size, 2, none⟩) yB).trans i2
   have zc3 := (hSw.cell (p := ⟨w.heap.size, 3, none⟩) yB).trans i3
   have zc4 := (hSw.cell (p := ⟨w.heap.size, 4, none⟩) yB).trans i4
   have zc5 := (hSw.cell (p := ⟨w.heap.size, 5, none⟩) yB).trans i5
   have zc6 := (hSw.cell (p := ⟨rb, rn, none⟩) yr).trans xr
   have zc7 := (hSw.cell (p := ⟨gb, 7, none⟩) yg).trans g7
   have zc8 := (hSw.cell (p := ⟨cb, nn, none⟩) yc).trans mc
   go_simp
   try rfl
  try simp only [Act.put, sT, sZ, sS]
  refine' wpAnyL_take (i := 3) (oi := ⟨some 29, _, _, _, _, _⟩) (v := _) rfl (by kernel_rfl) (by kernel_rfl) (by kernel_rfl) (by kernel_rfl) (fun _ _ _ h => h) hH0 (by rfl) ?hyv ?o4
  case hyv =>
   intro wz hSw
   go_simp
   try rfl
  try simp only [Act.put, sT, sZ, sS]
  refine' wpAnyL_take (i := 4) (oi := ⟨some 30, _, _, _, _, _⟩) (v := _) rfl (by kernel_rfl) (by kernel_rfl) (by kernel_rfl) (by kernel_rfl) (fun _ _ _ h => h) hH0 (by rfl) ?hyv ?o5
  case hyv =>
   intro wz hSw
   go_simp
   try rfl
  try simp only [Act.put, sT, sZ, sS]
  refine' wpAnyL_take (i := 5) (oi := ⟨some 31, _, _, _, _, _⟩) (v := _) rfl (by kernel_rfl) (by kernel_rfl) (by kernel_rfl) (by kernel_rfl) (fun _ _ _ h => h) hH0 (by rfl) ?hyv ?o6
  case hyv =>
   intro wz hSw
   go_simp
   try rfl
  try simp only [Act.put, sT, sZ, sS]
  refine' wpAnyL_take (i := 6) (oi := ⟨some 32, _, _, _, _, _⟩) (v := _) rfl (by kernel_rfl) (by kernel_rfl) (by kernel_rfl) (by kernel_rfl) (fun _ _ _ h => h) hH0 (by rfl) ?hyv ?o7
  case hyv =>
   intro wz hSw
   have zc0 := (hSw.cell (p := ⟨w.heap.size, 0, none⟩) yB).trans i0
   have zc1 := (hSw.cell (p := ⟨w.heap.size, 1, none⟩) yB).trans i1
   have zc2 := (hSw.cell (p := ⟨w.heap.size, 2, none⟩) yB).trans i2
   have zc3 := (hSw.cell (p := ⟨w.heap.size, 3, none⟩) yB).trans i3
   have zc4 := (hSw.cell (p := ⟨w.heap.size, 4, none⟩) yB).trans i4
   have zc5 := (hSw.cell (p := ⟨w.heap.size, 5, none⟩) yB).trans i5
   have zc6 := (hSw.cell (p := ⟨rb, rn, none⟩) yr).trans xr
   have zc7 := (hSw.cell (p := ⟨gb, 7, none⟩) yg).trans g7
   have zc8 := (hSw.cell (p := ⟨cb, nn, none⟩) yc).trans mc
   go_simp
   try rfl
  try simp only [Act.put, sT, sZ, sS]
  refine' wpAnyL_take (i := 7) (oi := ⟨some 33, _, _, _, _, _⟩) (v := _) rfl (by kernel_rfl) (by kernel_rfl) (by kernel_rfl) (by kernel_rfl) (fun _ _ _ h => h) hH0 (by rfl) ?hyv ?o8
  case hyv =>
   intro wz hSw
   go_simp
   try rfl
  try simp only [Act.put, sT, sZ, sS]
  refine' wpAnyL_take (i := 8) (oi := ⟨some 34, _, _, _, _, _⟩) (v := _) rfl (by kernel_rfl) (by kernel_rfl) (by kernel_rfl) (by kernel_rfl) (fun _ _ _ h => h) hH0 (by rfl) ?hyv ?o9
  case hyv =>
   intro wz hSw
   have zc0 := (hSw.cell (p := ⟨w.heap.size, 0, none⟩) yB).trans i0
   have zc1 := (hSw.cell (p := ⟨w.heap.size, 1, none⟩) yB).trans i1
   have zc2 := (hSw.cell (p := ⟨w.heap.size, 2, none⟩) yB).trans i2
   have zc3 := (hSw.cell (p := ⟨w.heap.size, 3, none⟩) yB).trans i3
   have zc4 := (hSw.cell (p := ⟨w.heap.size, 4, none⟩) yB).trans i4
   have zc5 := (hSw.cell (p := ⟨w.heap.size, 5, none⟩) yB).trans i5
   have zc6 := (hSw.cell (p := ⟨rb, rn, none⟩) yr).trans xr
   have zc7 := (hSw.cell (p := ⟨gb, 7, none⟩) yg).trans g7
   have zc8 := (hSw.cell (p := ⟨cb, nn, none⟩) yc).trans mc
   go_simp
   try rfl
  try simp only [Act.put, sT, sZ, sS]
  refine' wpAnyL_take (i := 9) (oi := ⟨some 35, _, _, _, _, _⟩) (v := _) rfl (by kernel_rfl) (by kernel_rfl) (by kernel_rfl) (by kernel_rfl) (fun _ _ _ h => h) hH0 (by rfl) ?hyv ?o10
  case hyv =>
   intro wz hSw
   go_simp
   try rfl
  try simp only [Act.put, sT, sZ, sS]
  refine' wpAnyL_take (i := 10) (oi := ⟨some 36, _, _, _, _, _⟩) (v := _) rfl (by kernel_rfl) (by kernel_rfl) (by kernel_rfl) (by kernel_rfl) (fun _ _ _ h => h) hH0 (by rfl) ?hyv ?o11
  case hyv =>
   intro wz hSw
   have zc0 := (hSw.cell (p := ⟨w.heap.size, 0, none⟩) yB).trans i0
   have zc1 := (hSw.cell (p := ⟨w.heap.size, 1, none⟩) yB).trans i1
   have zc2 := (hSw.cell (p := ⟨w.heap.size, 2, none⟩) yB).trans i2
   have zc3 := (hSw.cell (p := ⟨w.heap.size, 3, none⟩) yB).trans i3
   have zc4 := (hSw.cell (p := ⟨w.heap.size, 4, none⟩) yB).trans i4
   have zc5 := (hSw.cell (p := ⟨w.heap.size, 5, none⟩) yB).trans i5
   have zc6 := (hSw.cell (p := ⟨rb, rn, none⟩) yr).trans xr
   have zc7 := (hSw.cell (p := ⟨gb, 7, none⟩) yg).trans g7
   have zc8 := (hSw.cell (p := ⟨cb, nn, none⟩) yc).trans mc
   go_simp
   try rfl
  try simp only [Act.put, sT, sZ, sS]
  refine' wpAnyL_take (i := 11) (oi := ⟨some 37, _, _, _, _, _⟩) (v := _) rfl (by kernel_rfl) (by kernel_rfl) (by kernel_rfl) (by kernel_rfl) (fun _ _ _ h => h) hH0 (by rfl) ?hyv ?o12
  case hyv =>
   intro wz hSw
   go_simp
   try rfl
  try simp only [Act.put, sT, sZ, sS]
  refine wpAnyL_one (i := 12) (o := _) rfl (by kernel_rfl) (by rfl) (fun K hK => ?_)
  have kX := hx2.under hH0
  have fr := kX.free rn
  have st0 := kX.at (i := rn) hr
  go_simp
  have hq : Aside [gb, rb, cb] wd0.heap.size wd0 (wd0.setCell ⟨rb, rn, none⟩ (.int .i64 y)) := Aside.setCell (by simp) _
  have hA1 : Aside [gb, rb, cb] w2.heap.size w2 (wd0.setCell ⟨rb, rn, none⟩ (.int .i64 y)) := (aside hH0).trans hq hH0.size
  have kE := kX.put rn y
  have kM := (hm2.under hH0).keep (w' := wd0.setCell ⟨rb, rn, none⟩ (.int .i64 y)) (heap_set_other wd0 ⟨rb, rn, none⟩ _ (by show rb ≠ cb; exact n3))
  have kG := (hg2.keep (hH0.block _ yg)).keep (w' := wd0.setCell ⟨rb, rn, none⟩ (.int .i64 y)) (heap_set_other wd0 ⟨rb, rn, none⟩ _ (by show rb ≠ gb; exact n1.symm))
  refine hK.out _ _ (fun h => absurd h (by decide)) ?_
  clear hK K kX fr st0 hq
  try simp only [Act.put, sT, sZ, sS]
  generalize wd0.setCell ⟨rb, rn, none⟩ (.int .i64 y) = wd1 at hA1 kE kM kG ⊢
  have hH1 := hA1
  refine wpAnyL_done (by kernel_rfl) ?_ _
  rw [← HXX.out] at kE
  rw [← HMM.out] at kM
  go_wp2
  go_ret
  exact ⟨rfl, kG, kE, kM, A2.trans hH1 A2.size⟩
set_option maxHeartbeats 8000000 in
theorem done4_any {w : World} {gb rb cb nc cc nr cr : Nat} {v0 v1 v2 v3 v4 v5 v6 : Value} {X M : List Int} {st : Int} (hg : GAt w gb cb nc cc v0 v1 v2 v3 v4 v5 v6 st) (hx : LX w rb X) (hm : LX w cb M) (hnr : nr = X.length) (hnc : nc ≤ M.length) (hX : X.length ≤ 40) (hM : nc ≤ 6000) (n1 : gb ≠ rb) (n2 : gb ≠ cb) (n3 : rb ≠ cb) (kk : Int) (rn : Nat) (hr : rn < X.length) (aa bq : Int) (nn : Nat) (hn : nn < M.length) (hn2 : nn < nc) : Calls Tryd.prog 43 #[.pointer (some ⟨gb, 0, none⟩), .agg #[.int .i64 4, .int .i64 kk, .int .i64 (rn : Int), .int .i64 aa, .int .i64 bq, .int .i64 (nn : Int)], .slice (some ⟨rb, 0, none⟩) nr cr] w (DOneP w gb rb cb nc cc v0 v1 v2 v3 v4 v5 v6 st (X) (M.set nn X[rn])) := by
 have b1 : Below w.heap.size w (w.alloc (.cells #[.int .i64 4, .int .i64 kk, .int .i64 (rn : Int), .int .i64 aa, .int .i64 bq, .int .i64 (nn : Int)] 52 (0, 0))) := (Below.refl _ _).alloc (Nat.le_refl _) _
 have kB := heap_new w (.cells #[.int .i64 4, .int .i64 kk, .int .i64 (rn : Int), .int .i64 aa, .int .i64 bq, .int .i64 (nn : Int)] 52 (0, 0))
 have ygw := lt_of hg
 have yrw := hx.lt
 have ycw := hm.lt
 have HNR := hide hnr
 have HNC := hide hnc
 clear hnr hnc
 have hx1 := hx.under b1
 have hm1 := hm.under b1
 have kg := (b1.block _ ygw).trans (show w.heap[gb]? = some (.cells #[v0, v1, v2, v3, v4, v5, v6, .slice (some ⟨cb, 0, none⟩) nc cc, .int .i64 st] 46 (0, 0)) from hg)
 obtain ⟨XX, hXX⟩ : ∃ z, z = (X) := ⟨_, rfl⟩
 obtain ⟨MM, hMM⟩ : ∃ z, z = (M.set nn X[rn]) := ⟨_, rfl⟩
 suffices hh : Calls Tryd.prog 43 #[.pointer (some ⟨gb, 0, none⟩), .agg #[.int .i64 4, .int .i64 kk, .int .i64 (rn : Int), .int .i64 aa, .int .i64 bq, .int .i64 (nn : Int)], .slice (some ⟨rb, 0, none⟩) nr cr] w (DOneP w gb rb cb nc cc v0 v1 v2 v3 v4 v5 v6 st XX MM) by
  rw [hXX, hMM] at hh
  exact hh
 have HXX := hide hXX
 have HMM := hide hMM
 clear hg hx hm hXX hMM
 go_enter Tryd.func43, Tryd.ntmps43
 go_upto_region 1 with fail
 generalize w.alloc (.cells #[.int .i64 4, .int .i64 kk, .int .i64 (rn : Int), .int .i64 aa, .int .i64 bq, .int .i64 (nn : Int)] 52 (0, 0)) = w1 at b1 kB hx1 hm1 kg ⊢
 have s8 := cell_of kg 8
 have f8 := free_of kg 8
 simp at s8
 have y1 := b1.size
 have yB := lt_of kB
 go_cut [] (fun wd => GAt wd gb cb nc cc v0 v1 v2 v3 v4 v5 v6 (wrap64 (st + 1)) ∧ LX wd rb X ∧ LX wd cb M ∧ wd.heap[w.heap.size]? = some (.cells #[.int .i64 4, .int .i64 kk, .int .i64 (rn : Int), .int .i64 aa, .int .i64 bq, .int .i64 (nn : Int)] 52 (0, 0)) ∧ Aside [gb] w1.heap.size w1 wd)
 case first =>
  go_wp2_with fail
  go_meet
  case rel =>
   have a2 : ∀ u, Aside [gb] w1.heap.size w1 (w1.setCell ⟨gb, 8, none⟩ u) := fun u => Aside.setCell (p := ⟨gb, 8, none⟩) (by simp) u
   exact ⟨by have := set_in kg 8 (.int .i64 (wrap64 (st + 1))); simpa [GAt] using this, hx1.keep ((a2 _).block _ (by omega) (by simpa using n1.symm)), hm1.keep ((a2 _).block _ (by omega) (by simpa using n2.symm)), ((a2 _).block _ yB (by simp; omega)).trans kB, a2 _⟩
 case rest =>
  obtain ⟨hg2, hx2, hm2, kB2, a2⟩ := hcut
  clear kB hx1 hm1 kg s8 f8 yB
  obtain ⟨w2, hw2⟩ : ∃ x, x = wc := ⟨_, rfl⟩
  subst hw2
  have kg2 : w2.heap[gb]? = some (.cells #[v0, v1, v2, v3, v4, v5, v6, .slice (some ⟨cb, 0, none⟩) nc cc, .int .i64 (wrap64 (st + 1))] 46 (0, 0)) := hg2
  have yB := lt_of kB2
  have yg := lt_of kg2
  have yr := hx2.lt
  have yc := hm2.lt
  have i0 := cell_of kB2 0
  have i1 := cell_of kB2 1
  have i2 := cell_of kB2 2
  have i3 := cell_of kB2 3
  have i4 := cell_of kB2 4
  have i5 := cell_of kB2 5
  have g7 := cell_of kg2 7
  simp at i0 i1 i2 i3 i4 i5 g7
  have xr := hx2.at hr
  have A2 : Aside [gb, rb, cb] w.heap.size w w2 := ((aside b1).trans (a2.wide (fun _ _ h => by simp at h ⊢; exact h.1)) b1.size)
  have hnr := HNR.out
  have hnc := HNC.out
  have hrn : (rn : Int) < (nr : Int) := by omega
  clear HNR HNC
  clear kB2 a2 b1 y1 kg2
  have hnn : (nn : Int) < (nc : Int) := by omega
  generalize X[rn] = y at xr HMM
  go_upto_region 8 with fail
  refine wp_region_late (fun w' => Below w2.heap.size w2 w') (fun i => i == 12) (by kernel_rfl) ?_
  have hH0 : Below w2.heap.size w2 w2.drew := (Below.refl _ _).drew
  generalize w2.drew = wd0 at hH0 ⊢
  refine' wpAnyL_take (i := 0) (oi := ⟨some 40, _, _, _, _, _⟩) (v := _) rfl (by kernel_rfl) (by kernel_rfl) (by kernel_rfl) (by kernel_rfl) (fun _ _ _ h => h) hH0 (by rfl) ?hyv ?o13
  case hyv =>
   intro wz hSw
   go_simp
   try rfl
  try simp only [Act.put, sT, sZ, sS]
  refine' wpAnyL_take (i := 1) (oi := ⟨some 41, _, _, _, _, _⟩) (v := _) rfl (by kernel_rfl) (by kernel_rfl) (by kernel_rfl) (by kernel_rfl) (fun _ _ _ h => h) hH0 (by rfl) ?hyv ?o14
  case hyv =>
   intro wz hSw
   go_simp
   try rfl
  try simp only [Act.put, sT, sZ, sS]
  refine' wpAnyL_take (i := 2) (oi := ⟨some 42, _, _, _, _, _⟩) (v := _) rfl (by kernel_rfl) (by kernel_rfl) (by kernel_rfl) (by kernel_rfl) (fun _ _ _ h => h) hH0 (by rfl) ?hyv ?o15
  case hyv =>
   intro wz hSw
   go_simp
   try rfl
  try simp only [Act.put, sT, sZ, sS]
  refine' wpAnyL_take (i := 3) (oi := ⟨some 43, _, _, _, _, _⟩) (v := _) rfl (by kernel_rfl) (by kernel_rfl) (by kernel_rfl) (by kernel_rfl) (fun _ _ _ h => h) hH0 (by rfl) ?hyv ?o16
  case hyv =>
   intro wz hSw
   have zc0 := (hSw.cell (p := ⟨w.heap.size, 0, none⟩) yB).trans i0
   have zc1 := (hSw.cell (p := ⟨w.heap.size, 1, none⟩) yB).trans i1
   have zc2 := (hSw.cell (p := ⟨w.heap.size, 2, none⟩) yB).trans i2
   have zc3 := (hSw.cell (p := ⟨w.heap.size, 3, none⟩) yB).trans i3
   have zc4 := (hSw.cell (p := ⟨w.heap.size, 4, none⟩) yB).trans i4
   have zc5 := (hSw.cell (p := ⟨w.heap.size, 5, none⟩) yB).trans i5
   have zc6 := (hSw.cell (p := ⟨rb, rn, none⟩) yr).trans xr
   have zc7 := (hSw.cell (p := ⟨gb, 7, none⟩) yg).trans g7
   go_simp
   try rfl
  try simp only [Act.put, sT, sZ, sS]
  refine' wpAnyL_take (i := 4) (oi := ⟨some 44, _, _, _, _, _⟩) (v := _) rfl (by kernel_rfl) (by kernel_rfl) (by kernel_rfl) (by kernel_rfl) (fun _ _ _ h => h) hH0 (by rfl) ?hyv ?o17
  case hyv =>
   intro wz hSw
   go_simp
   try rfl
  try simp only [Act.put, sT, sZ, sS]
  refine' wpAnyL_take (i := 5) (oi := ⟨some 45, _, _, _, _, _⟩) (v := _) rfl (by kernel_rfl) (by kernel_rfl) (by kernel_rfl) (by kernel_rfl) (fun _ _ _ h => h) hH0 (by rfl) ?hyv ?o18
  case hyv =>
   intro wz hSw
   have zc0 := (hSw.cell (p := ⟨w.heap.size, 0, none⟩) yB).trans i0
   have zc1 := (hSw.cell (p := ⟨w.heap.size, 1, none⟩) yB).trans i1
   have zc2 := (hSw.cell (p := ⟨w.heap.size, 2, none⟩) yB).trans i2
   have zc3 := (hSw.cell (p := ⟨w.heap.size, 3, none⟩) yB).trans i3
   have zc4 := (hSw.cell (p := ⟨w.heap.size, 4, none⟩) yB).trans i4
   have zc5 := (hSw.cell (p := ⟨w.heap.size, 5, none⟩) yB).trans i5
   have zc6 := (hSw.cell (p := ⟨rb, rn, none⟩) yr).trans xr
   have zc7 := (hSw.cell (p := ⟨gb, 7, none⟩) yg).trans g7
   go_simp
   try rfl
  try simp only [Act.put, sT, sZ, sS]
  refine' wpAnyL_take (i := 6) (oi := ⟨some 46, _, _, _, _, _⟩) (v := _) rfl (by kernel_rfl) (by kernel_rfl) (by kernel_rfl) (by kernel_rfl) (fun _ _ _ h => h) hH0 (by rfl) ?hyv ?o19
  case hyv =>
   intro wz hSw
   go_simp
   try rfl
  try simp only [Act.put, sT, sZ, sS]
  refine' wpAnyL_take (i := 7) (oi := ⟨some 47, _, _, _, _, _⟩) (v := _) rfl (by kernel_rfl) (by kernel_rfl) (by kernel_rfl) (by kernel_rfl) (fun _ _ _ h => h) hH0 (by rfl) ?hyv ?o20
  case hyv =>
   intro wz hSw
   go_simp
   try rfl
  try simp only [Act.put, sT, sZ, sS]
  refine' wpAnyL_take (i := 8) (oi := ⟨some 48, _, _, _, _, _⟩) (v := _) rfl (by kernel_rfl) (by kernel_rfl) (by kernel_rfl) (by kernel_rfl) (fun _ _ _ h => h) hH0 (by rfl) ?hyv ?o21
  case hyv =>
   intro wz hSw
   have zc0 := (hSw.cell (p := ⟨w.heap.size, 0, none⟩) yB).trans i0
   have zc1 := (hSw.cell (p := ⟨w.heap.size, 1, none⟩) yB).trans i1
   have zc2 := (hSw.cell (p := ⟨w.heap.size, 2, none⟩) yB).trans i2
   have zc3 := (hSw.cell (p := ⟨w.heap.size, 3, none⟩) yB).trans i3
   have zc4 := (hSw.cell (p := ⟨w.heap.size, 4, none⟩) yB).trans i4
   have zc5 := (hSw.cell (p := ⟨w.heap.size, 5, none⟩) yB).trans i5
   have zc6 := (hSw.cell (p := ⟨rb, rn, none⟩) yr).trans xr
   have zc7 := (hSw.cell (p := ⟨gb, 7, none⟩) yg).trans g7
   go_simp
   try rfl
  try simp only [Act.put, sT, sZ, sS]
  refine' wpAnyL_take (i := 9) (oi := ⟨some 49, _, _, _, _, _⟩) (v := _) rfl (by kernel_rfl) (by kernel_rfl) (by kernel_rfl) (by kernel_rfl) (fun _ _ _ h => h) hH0 (by rfl) ?hyv ?o22
  case hyv =>
   intro wz hSw
   go_simp
   try rfl
  try simp only [Act.put, sT, sZ, sS]
  refine' wpAnyL_take (i := 10) (oi := ⟨some 50, _, _, _, _, _⟩) (v := _) rfl (by kernel_rfl) (by kernel_rfl) (by kernel_rfl) (by kernel_rfl) (fun _ _ _ h => h) hH0 (by rfl) ?hyv ?o23
  case hyv =>
   intro wz hSw
   have zc0 := (hSw.cell (p := ⟨w.heap.size, 0, none⟩) yB).trans i0
   have zc1 := (hSw.cell (p := ⟨w.heap.size, 1, none⟩) yB).trans i1
   have zc2 := (hSw.cell (p := ⟨w.heap.size, 2, none⟩) yB).trans i2
   have zc3 := (hSw.cell (p := ⟨w.heap.size, 3, none⟩) yB).trans i3
   have zc4 := (hSw.cell (p := ⟨w.heap.size, 4, none⟩) yB).trans i4
   have zc5 := (hSw.cell (p := ⟨w.heap.size, 5, none⟩) yB).trans i5
   have zc6 := (hSw.cell (p := ⟨rb, rn, none⟩) yr).trans xr
   have zc7 := (hSw.cell (p := ⟨gb, 7, none⟩) yg).trans g7
   go_simp
   try rfl
  try simp only [Act.put, sT, sZ, sS]
  refine' wpAnyL_take (i := 11) (oi := ⟨some 51, _, _, _, _, _⟩) (v := _) rfl (by kernel_rfl) (by kernel_rfl) (by kernel_rfl) (by kernel_rfl) (fun _ _ _ h => h) hH0 (by rfl) ?hyv ?o24
  case hyv =>
   intro wz hSw
   go_simp
   try rfl
  try simp only [Act.put, sT, sZ, sS]
  refine wpAnyL_one (i := 12) (o := _) rfl (by kernel_rfl) (by rfl) (fun K hK => ?_)
  have kX := hm2.under hH0
  have fr := kX.free nn
  have st0 := kX.at (i := nn) hn
  go_simp
  have hq : Aside [gb, rb, cb] wd0.heap.size wd0 (wd0.setCell ⟨cb, nn, none⟩ (.int .i64 y)) := Aside.setCell (by simp) _
  have hA1 : Aside [gb, rb, cb] w2.heap.size w2 (wd0.setCell ⟨cb, nn, none⟩ (.int .i64 y)) := (aside hH0).trans hq hH0.size
  have kE := (hx2.under hH0).keep (w' := wd0.setCell ⟨cb, nn, none⟩ (.int .i64 y)) (heap_set_other wd0 ⟨cb, nn, none⟩ _ (by show cb ≠ rb; exact n3.symm))
  have kM := kX.put nn y
  have kG := (hg2.keep (hH0.block _ yg)).keep (w' := wd0.setCell ⟨cb, nn, none⟩ (.int .i64 y)) (heap_set_other wd0 ⟨cb, nn, none⟩ _ (by show cb ≠ gb; exact n2.symm))
  refine hK.out _ _ (fun h => absurd h (by decide)) ?_
  clear hK K kX fr st0 hq
  try simp only [Act.put, sT, sZ, sS]
  generalize wd0.setCell ⟨cb, nn, none⟩ (.int .i64 y) = wd1 at hA1 kE kM kG ⊢
  have hH1 := hA1
  refine wpAnyL_done (by kernel_rfl) ?_ _
  rw [← HXX.out] at kE
  rw [← HMM.out] at kM
  go_wp2
  go_ret
  exact ⟨rfl, kG, kE, kM, A2.trans hH1 A2.size⟩
set_option maxHeartbeats 8000000 in
theorem done9_any {w : World} {gb rb cb nc cc nr cr : Nat} {v0 v1 v2 v3 v4 v5 v6 : Value} {X M : List Int} {st : Int} (hg : GAt w gb cb nc cc v0 v1 v2 v3 v4 v5 v6 st) (hx : LX w rb X) (hm : LX w cb M) (hnr : nr = X.length) (hnc : nc ≤ M.length) (hX : X.length ≤ 40) (hM : nc ≤ 6000) (n1 : gb ≠ rb) (n2 : gb ≠ cb) (n3 : rb ≠ cb) (kk : Int) (rn : Nat) (hr : rn < X.length) (bq nn : Int) (an : Nat) (ha : an < X.length) : Calls Tryd.prog 43 #[.pointer (some ⟨gb, 0, none⟩), .agg #[.int .i64 9, .int .i64 kk, .int .i64 (rn : Int), .int .i64 (an : Int), .int .i64 bq, .int .i64 nn], .slice (some ⟨rb, 0, none⟩) nr cr] w (DOneP w gb rb cb nc cc v0 v1 v2 v3 v4 v5 v6 st (X.set rn X[an]) (M)) := by
 have b1 : Below w.heap.size w (w.alloc (.cells #[.int .i64 9, .int .i64 kk, .int .i64 (rn : Int), .int .i64 (an : Int), .int .i64 bq, .int .i64 nn] 52 (0, 0))) := (Below.refl _ _).alloc (Nat.le_refl _) _
 have kB := heap_new w (.cells #[.int .i64 9, .int .i64 kk, .int .i64 (rn : Int), .int .i64 (an : Int), .int .i64 bq, .int .i64 nn] 52 (0, 0))
 have ygw := lt_of hg
 have yrw := hx.lt
 have ycw := hm.lt
 have HNR := hide hnr
 have HNC := hide hnc
 clear hnr hnc
 have hx1 := hx.under b1
 have hm1 := hm.under b1
 have kg := (b1.block _ ygw).trans (show w.heap[gb]? = some (.cells #[v0, v1, v2, v3, v4, v5, v6, .slice (some ⟨cb, 0, none⟩) nc cc, .int .i64 st] 46 (0, 0)) from hg)
 obtain ⟨XX, hXX⟩ : ∃ z, z = (X.set rn X[an]) := ⟨_, rfl⟩
 obtain ⟨MM, hMM⟩ : ∃ z, z = (M) := ⟨_, rfl⟩
 suffices hh : Calls Tryd.prog 43 #[.pointer (some ⟨gb, 0, none⟩), .agg #[.int .i64 9, .int .i64 kk, .int .i64 (rn : Int), .int .i64 (an : Int), .int .i64 bq, .int .i64 nn], .slice (some ⟨rb, 0, none⟩) nr cr] w (DOneP w gb rb cb nc cc v0 v1 v2 v3 v4 v5 v6 st XX MM) by
  rw [hXX, hMM] at hh
  exact hh
 have HXX := hide hXX
 have HMM := hide hMM
 clear hg hx hm hXX hMM
 go_enter Tryd.func43, Tryd.ntmps43
 go_upto_region 1 with fail
 generalize w.alloc (.cells #[.int .i64 9, .int .i64 kk, .int .i64 (rn : Int), .int .i64 (an : Int), .int .i64 bq, .int .i64 nn] 52 (0, 0)) = w1 at b1 kB hx1 hm1 kg ⊢
 have s8 := cell_of kg 8
 have f8 := free_of kg 8
 simp at s8
 have y1 := b1.size
 have yB := lt_of kB
 go_cut [] (fun wd => GAt wd gb cb nc cc v0 v1 v2 v3 v4 v5 v6 (wrap64 (st + 1)) ∧ LX wd rb X ∧ LX wd cb M ∧ wd.heap[w.heap.size]? = some (.cells #[.int .i64 9, .int .i64 kk, .int .i64 (rn : Int), .int .i64 (an : Int), .int .i64 bq, .int .i64 nn] 52 (0, 0)) ∧ Aside [gb] w1.heap.size w1 wd)
 case first =>
  go_wp2_with fail
  go_meet
  case rel =>
   have a2 : ∀ u, Aside [gb] w1.heap.size w1 (w1.setCell ⟨gb, 8, none⟩ u) := fun u => Aside.setCell (p := ⟨gb, 8, none⟩) (by simp) u
   exact ⟨by have := set_in kg 8 (.int .i64 (wrap64 (st + 1))); simpa [GAt] using this, hx1.keep ((a2 _).block _ (by omega) (by simpa using n1.symm)), hm1.keep ((a2 _).block _ (by omega) (by simpa using n2.symm)), ((a2 _).block _ yB (by simp; omega)).trans kB, a2 _⟩
 case rest =>
  obtain ⟨hg2, hx2, hm2, kB2, a2⟩ := hcut
  clear kB hx1 hm1 kg s8 f8 yB
  obtain ⟨w2, hw2⟩ : ∃ x, x = wc := ⟨_, rfl⟩
  subst hw2
  have kg2 : w2.heap[gb]? = some (.cells #[v0, v1, v2, v3, v4, v5, v6, .slice (some ⟨cb, 0, none⟩) nc cc, .int .i64 (wrap64 (st + 1))] 46 (0, 0)) := hg2
  have yB := lt_of kB2
  have yg := lt_of kg2
  have yr := hx2.lt
  have yc := hm2.lt
  have i0 := cell_of kB2 0
  have i1 := cell_of kB2 1
  have i2 := cell_of kB2 2
  have i3 := cell_of kB2 3
  have i4 := cell_of kB2 4
  have i5 := cell_of kB2 5
  have g7 := cell_of kg2 7
  simp at i0 i1 i2 i3 i4 i5 g7
  have xr := hx2.at hr
  have A2 : Aside [gb, rb, cb] w.heap.size w w2 := ((aside b1).trans (a2.wide (fun _ _ h => by simp at h ⊢; exact h.1)) b1.size)
  have hnr := HNR.out
  have hnc := HNC.out
  have hrn : (rn : Int) < (nr : Int) := by omega
  clear HNR HNC
  clear kB2 a2 b1 y1 kg2
  have xa := hx2.at ha
  have han : (an : Int) < (nr : Int) := by omega
  generalize X[an] = y at xa HXX
  go_upto_region 26 with fail
  refine wp_region_late (fun w' => Below w2.heap.size w2 w') (fun i => i == 9) (by kernel_rfl) ?_
  have hH0 : Below w2.heap.size w2 w2.drew := (Below.refl _ _).drew
  generalize w2.drew = wd0 at hH0 ⊢
  refine' wpAnyL_take (i := 0) (oi := ⟨some 185, _, _, _, _, _⟩) (v := _) rfl (by kernel_rfl) (by kernel_rfl) (by kernel_rfl) (by kernel_rfl) (fun _ _ _ h => h) hH0 (by rfl) ?hyv ?o25
  case hyv =>
   intro wz hSw
   go_simp
   try rfl
  try simp only [Act.put, sT, sZ, sS]
  refine' wpAnyL_take (i := 1) (oi := ⟨some 186, _, _, _, _, _⟩) (v := _) rfl (by kernel_rfl) (by kernel_rfl) (by kernel_rfl) (by kernel_rfl) (fun _ _ _ h => h) hH0 (by rfl) ?hyv ?o26
  case hyv =>
   intro wz hSw
   go_simp
   try rfl
  try simp only [Act.put, sT, sZ, sS]
  refine' wpAnyL_take (i := 2) (oi := ⟨some 187, _, _, _, _, _⟩) (v := _) rfl (by kernel_rfl) (by kernel_rfl) (by kernel_rfl) (by kernel_rfl) (fun _ _ _ h => h) hH0 (by rfl) ?hyv ?o27
  case hyv =>
   intro wz hSw
   have zc0 := (hSw.cell (p := ⟨w.heap.size, 0, none⟩) yB).trans i0
   have zc1 := (hSw.cell (p := ⟨w.heap.size, 1, none⟩) yB).trans i1
   have zc2 := (hSw.cell (p := ⟨w.heap.size, 2, none⟩) yB).trans i2
   have zc3 := (hSw.cell (p := ⟨w.heap.size, 3, none⟩) yB).trans i3
   have zc4 := (hSw.cell (p := ⟨w.heap.size, 4, none⟩) yB).trans i4
   have zc5 := (hSw.cell (p := ⟨w.heap.size, 5, none⟩) yB).trans i5
   have zc6 := (hSw.cell (p := ⟨rb, rn, none⟩) yr).trans xr
   have zc7 := (hSw.cell (p := ⟨rb, an, none⟩) yr).trans xa
   go_simp
   try rfl
  try simp only [Act.put, sT, sZ, sS]
  refine' wpAnyL_take (i := 3) (oi := ⟨some 188, _, _, _, _, _⟩) (v := _) rfl (by kernel_rfl) (by kernel_rfl) (by kernel_rfl) (by kernel_rfl) (fun _ _ _ h => h) hH0 (by rfl) ?hyv ?o28
  case hyv =>
   intro wz hSw
   go_simp
   try rfl
  try simp only [Act.put, sT, sZ, sS]
  refine' wpAnyL_take (i := 4) (oi := ⟨some 189, _, _, _, _, _⟩) (v := _) rfl (by kernel_rfl) (by kernel_rfl) (by kernel_rfl) (by kernel_rfl) (fun _ _ _ h => h) hH0 (by rfl) ?hyv ?o29
  case hyv =>
   intro wz hSw
   go_simp
   try rfl
  try simp only [Act.put, sT, sZ, sS]
  refine' wpAnyL_take (i := 5) (oi := ⟨some 190, _, _, _, _, _⟩) (v := _) rfl (by kernel_rfl) (by kernel_rfl) (by kernel_rfl) (by kernel_rfl) (fun _ _ _ h => h) hH0 (by rfl) ?hyv ?o30
  case hyv =>
   intro wz hSw
   have zc0 := (hSw.cell (p := ⟨w.heap.size, 0, none⟩) yB).trans i0
   have zc1 := (hSw.cell (p := ⟨w.heap.size, 1, none⟩) yB).trans i1
   have zc2 := (hSw.cell (p := ⟨w.heap.size, 2, none⟩) yB).trans i2
   have zc3 := (hSw.cell (p := ⟨w.heap.size, 3, none⟩) yB).trans i3
   have zc4 := (hSw.cell (p := ⟨w.heap.size, 4, none⟩) yB).trans i4
   have zc5 := (hSw.cell (p := ⟨w.heap.size, 5, none⟩) yB).trans i5
   have zc6 := (hSw.cell (p := ⟨rb, rn, none⟩) yr).trans xr
   have zc7 := (hSw.cell (p := ⟨rb, an, none⟩) yr).trans xa
   go_simp
   try rfl
  try simp only [Act.put, sT, sZ, sS]
  refine' wpAnyL_take (i := 6) (oi := ⟨some 191, _, _, _, _, _⟩) (v := _) rfl (by kernel_rfl) (by kernel_rfl) (by kernel_rfl) (by kernel_rfl) (fun _ _ _ h => h) hH0 (by rfl) ?hyv ?o31
  case hyv =>
   intro wz hSw
   go_simp
   try rfl
  try simp only [Act.put, sT, sZ, sS]
  refine' wpAnyL_take (i := 7) (oi := ⟨some 192, _, _, _, _, _⟩) (v := _) rfl (by kernel_rfl) (by kernel_rfl) (by kernel_rfl) (by kernel_rfl) (fun _ _ _ h => h) hH0 (by rfl) ?hyv ?o32
  case hyv =>
   intro wz hSw
   have zc0 := (hSw.cell (p := ⟨w.heap.size, 0, none⟩) yB).trans i0
   have zc1 := (hSw.cell (p := ⟨w.heap.size, 1, none⟩) yB).trans i1
   have zc2 := (hSw.cell (p := ⟨w.heap.size, 2, none⟩) yB).trans i2
   have zc3 := (hSw.cell (p := ⟨w.heap.size, 3, none⟩) yB).trans i3
   have zc4 := (hSw.cell (p := ⟨w.heap.size, 4, none⟩) yB).trans i4
   have zc5 := (hSw.cell (p := ⟨w.heap.size, 5, none⟩) yB).trans i5
   have zc6 := (hSw.cell (p := ⟨rb, rn, none⟩) yr).trans xr
   have zc7 := (hSw.cell (p := ⟨rb, an, none⟩) yr).trans xa
   go_simp
   try rfl
  try simp only [Act.put, sT, sZ, sS]
  refine' wpAnyL_take (i := 8) (oi := ⟨some 193, _, _, _, _, _⟩) (v := _) rfl (by kernel_rfl) (by kernel_rfl) (by kernel_rfl) (by kernel_rfl) (fun _ _ _ h => h) hH0 (by rfl) ?hyv ?o33
  case hyv =>
   intro wz hSw
   go_simp
   try rfl
  try simp only [Act.put, sT, sZ, sS]
  refine wpAnyL_one (i := 9) (o := _) rfl (by kernel_rfl) (by rfl) (fun K hK => ?_)
  have kX := hx2.under hH0
  have fr := kX.free rn
  have st0 := kX.at (i := rn) hr
  go_simp
  have hq : Aside [gb, rb, cb] wd0.heap.size wd0 (wd0.setCell ⟨rb, rn, none⟩ (.int .i64 y)) := Aside.setCell (by simp) _
  have hA1 : Aside [gb, rb, cb] w2.heap.size w2 (wd0.setCell ⟨rb, rn, none⟩ (.int .i64 y)) := (aside hH0).trans hq hH0.size
  have kE := kX.put rn y
  have kM := (hm2.under hH0).keep (w' := wd0.setCell ⟨rb, rn, none⟩ (.int .i64 y)) (heap_set_other wd0 ⟨rb, rn, none⟩ _ (by show rb ≠ cb; exact n3))
  have kG := (hg2.keep (hH0.block _ yg)).keep (w' := wd0.setCell ⟨rb, rn, none⟩ (.int .i64 y)) (heap_set_other wd0 ⟨rb, rn, none⟩ _ (by show rb ≠ gb; exact n1.symm))
  refine hK.out _ _ (fun h => absurd h (by decide)) ?_
  clear hK K kX fr st0 hq
  try simp only [Act.put, sT, sZ, sS]
  generalize wd0.setCell ⟨rb, rn, none⟩ (.int .i64 y) = wd1 at hA1 kE kM kG ⊢
  have hH1 := hA1
  refine wpAnyL_done (by kernel_rfl) ?_ _
  rw [← HXX.out] at kE
  rw [← HMM.out] at kM
  go_wp2
  go_ret
  exact ⟨rfl, kG, kE, kM, A2.trans hH1 A2.size⟩
set_option maxHeartbeats 8000000 in
theorem done8a_any {w : World} {gb rb cb nc cc nr cr : Nat} {v0 v1 v2 v3 v4 v5 v6 : Value} {X M : List Int} {st : Int} (hg : GAt w gb cb nc cc v0 v1 v2 v3 v4 v5 v6 st) (hx : LX w rb X) (hm : LX w cb M) (hnr : nr = X.length) (hnc : nc ≤ M.length) (hX : X.length ≤ 40) (hM : nc ≤ 6000) (n1 : gb ≠ rb) (n2 : gb ≠ cb) (n3 : rb ≠ cb) (kk : Int) (rn : Nat) (hr : rn < X.length) (nn : Int) (an : Nat) (ha : an < X.length) (bn : Nat) (hb : bn < X.length) (hz : X[rn] = 0) : Calls Tryd.prog 43 #[.pointer (some ⟨gb, 0, none⟩), .agg #[.int .i64 8, .int .i64 kk, .int .i64 (rn : Int), .int .i64 (an : Int), .int .i64 (bn : Int), .int .i64 nn], .slice (some ⟨rb, 0, none⟩) nr cr] w (DOneP w gb rb cb nc cc v0 v1 v2 v3 v4 v5 v6 st (X.set rn X[bn]) (M)) := by
 have b1 : Below w.heap.size w (w.alloc (.cells #[.int .i64 8, .int .i64 kk, .int .i64 (rn : Int), .int .i64 (an : Int), .int .i64 (bn : Int), .int .i64 nn] 52 (0, 0))) := (Below.refl _ _).alloc (Nat.le_refl _) _
 have kB := heap_new w (.cells #[.int .i64 8, .int .i64 kk, .int .i64 (rn : Int), .int .i64 (an : Int), .int .i64 (bn : Int), .int .i64 nn] 52 (0, 0))
 have ygw := lt_of hg
 have yrw := hx.lt
 have ycw := hm.lt
 have HNR := hide hnr
 have HNC := hide hnc
 clear hnr hnc
 have hx1 := hx.under b1
 have hm1 := hm.under b1
 have kg := (b1.block _ ygw).trans (show w.heap[gb]? = some (.cells #[v0, v1, v2, v3, v4, v5, v6, .slice (some ⟨cb, 0, none⟩) nc cc, .int .i64 st] 46 (0, 0)) from hg)
 obtain ⟨XX, hXX⟩ : ∃ z, z = (X.set rn X[bn]) := ⟨_, rfl⟩
 obtain ⟨MM, hMM⟩ : ∃ z, z = (M) := ⟨_, rfl⟩
 suffices hh : Calls Tryd.prog 43 #[.pointer (some ⟨gb, 0, none⟩), .agg #[.int .i64 8, .int .i64 kk, .int .i64 (rn : Int), .int .i64 (an : Int), .int .i64 (bn : Int), .int .i64 nn], .slice (some ⟨rb, 0, none⟩) nr cr] w (DOneP w gb rb cb nc cc v0 v1 v2 v3 v4 v5 v6 st XX MM) by
  rw [hXX, hMM] at hh
  exact hh
 have HXX := hide hXX
 have HMM := hide hMM
 clear hg hx hm hXX hMM
 go_enter Tryd.func43, Tryd.ntmps43
 go_upto_region 1 with fail
 generalize w.alloc (.cells #[.int .i64 8, .int .i64 kk, .int .i64 (rn : Int), .int .i64 (an : Int), .int .i64 (bn : Int), .int .i64 nn] 52 (0, 0)) = w1 at b1 kB hx1 hm1 kg ⊢
 have s8 := cell_of kg 8
 have f8 := free_of kg 8
 simp at s8
 have y1 := b1.size
 have yB := lt_of kB
 go_cut [] (fun wd => GAt wd gb cb nc cc v0 v1 v2 v3 v4 v5 v6 (wrap64 (st + 1)) ∧ LX wd rb X ∧ LX wd cb M ∧ wd.heap[w.heap.size]? = some (.cells #[.int .i64 8, .int .i64 kk, .int .i64 (rn : Int), .int .i64 (an : Int), .int .i64 (bn : Int), .int .i64 nn] 52 (0, 0)) ∧ Aside [gb] w1.heap.size w1 wd)
 case first =>
  go_wp2_with fail
  go_meet
  case rel =>
   have a2 : ∀ u, Aside [gb] w1.heap.size w1 (w1.setCell ⟨gb, 8, none⟩ u) := fun u => Aside.setCell (p := ⟨gb, 8, none⟩) (by simp) u
   exact ⟨by have := set_in kg 8 (.int .i64 (wrap64 (st + 1))); simpa [GAt] using this, hx1.keep ((a2 _).block _ (by omega) (by simpa using n1.symm)), hm1.keep ((a2 _).block _ (by omega) (by simpa using n2.symm)), ((a2 _).block _ yB (by simp; omega)).trans kB, a2 _⟩
 case rest =>
  obtain ⟨hg2, hx2, hm2, kB2, a2⟩ := hcut
  clear kB hx1 hm1 kg s8 f8 yB
  obtain ⟨w2, hw2⟩ : ∃ x, x = wc := ⟨_, rfl⟩
  subst hw2
  have kg2 : w2.heap[gb]? = some (.cells #[v0, v1, v2, v3, v4, v5, v6, .slice (some ⟨cb, 0, none⟩) nc cc, .int .i64 (wrap64 (st + 1))] 46 (0, 0)) := hg2
  have yB := lt_of kB2
  have yg := lt_of kg2
  have yr := hx2.lt
  have yc := hm2.lt
  have i0 := cell_of kB2 0
  have i1 := cell_of kB2 1
  have i2 := cell_of kB2 2
  have i3 := cell_of kB2 3
  have i4 := cell_of kB2 4
  have i5 := cell_of kB2 5
  have g7 := cell_of kg2 7
  simp at i0 i1 i2 i3 i4 i5 g7
  have xr := hx2.at hr
  have A2 : Aside [gb, rb, cb] w.heap.size w w2 := ((aside b1).trans (a2.wide (fun _ _ h => by simp at h ⊢; exact h.1)) b1.size)
  have hnr := HNR.out
  have hnc := HNC.out
  have hrn : (rn : Int) < (nr : Int) := by omega
  clear HNR HNC
  clear kB2 a2 b1 y1 kg2
  have xa := hx2.at ha
  have han : (an : Int) < (nr : Int) := by omega
  have xb := hx2.at hb
  have hbn : (bn : Int) < (nr : Int) := by omega
  rw [hz] at xr
  generalize X[bn] = y at xb HXX
  go_upto_region 23 with fail
  refine wp_region_late (fun w' => Below w2.heap.size w2 w') (fun i => i == 9) (by kernel_rfl) ?_
  have hH0 : Below w2.heap.size w2 w2.drew := (Below.refl _ _).drew
  generalize w2.drew = wd0 at hH0 ⊢
  refine' wpAnyL_take (i := 0) (oi := ⟨some 165, _, _, _, _, _⟩) (v := _) rfl (by kernel_rfl) (by kernel_rfl) (by kernel_rfl) (by kernel_rfl) (fun _ _ _ h => h) hH0 (by rfl) ?hyv ?o34
  case hyv =>
   intro wz hSw
   go_simp
   try rfl
  try simp only [Act.put, sT, sZ, sS]
  refine' wpAnyL_take (i := 1) (oi := ⟨some 166, _, _, _, _, _⟩) (v := _) rfl (by kernel_rfl) (by kernel_rfl) (by kernel_rfl) (by kernel_rfl) (fun _ _ _ h => h) hH0 (by rfl) ?hyv ?o35
  case hyv =>
   intro wz hSw
   go_simp
   try rfl
  try simp only [Act.put, sT, sZ, sS]
  refine' wpAnyL_take (i := 2) (oi := ⟨some 167, _, _, _, _, _⟩) (v := _) rfl (by kernel_rfl) (by kernel_rfl) (by kernel_rfl) (by kernel_rfl) (fun _ _ _ h => h) hH0 (by rfl) ?hyv ?o36
  case hyv =>
   intro wz hSw
   have zc0 := (hSw.cell (p := ⟨w.heap.size, 0, none⟩) yB).trans i0
   have zc1 := (hSw.cell (p := ⟨w.heap.size, 1, none⟩) yB).trans i1
   have zc2 := (hSw.cell (p := ⟨w.heap.size, 2, none⟩) yB).trans i2
   have zc3 := (hSw.cell (p := ⟨w.heap.size, 3, none⟩) yB).trans i3
   have zc4 := (hSw.cell (p := ⟨w.heap.size, 4, none⟩) yB).trans i4
   have zc5 := (hSw.cell (p := ⟨w.heap.size, 5, none⟩) yB).trans i5
   have zc6 := (hSw.cell (p := ⟨rb, rn, none⟩) yr).trans xr
   have zc7 := (hSw.cell (p := ⟨rb, an, none⟩) yr).trans xa
   have zc8 := (hSw.cell (p := ⟨rb, bn, none⟩) yr).trans xb
   go_simp
   try rfl
  try simp only [Act.put, sT, sZ, sS]
  refine' wpAnyL_take (i := 3) (oi := ⟨some 168, _, _, _, _, _⟩) (v := _) rfl (by kernel_rfl) (by kernel_rfl) (by kernel_rfl) (by kernel_rfl) (fun _ _ _ h => h) hH0 (by rfl) ?hyv ?o37
  case hyv =>
   intro wz hSw
   go_simp
   try rfl
  try simp only [Act.put, sT, sZ, sS]
  refine' wpAnyL_take (i := 4) (oi := ⟨some 169, _, _, _, _, _⟩) (v := _) rfl (by kernel_rfl) (by kernel_rfl) (by kernel_rfl) (by kernel_rfl) (fun _ _ _ h => h) hH0 (by rfl) ?hyv ?o38
  case hyv =>
   intro wz hSw
   go_simp
   try rfl
  try simp only [Act.put, sT, sZ, sS]
  refine' wpAnyL_take (i := 5) (oi := ⟨some 170, _, _, _, _, _⟩) (v := _) rfl (by kernel_rfl) (by kernel_rfl) (by kernel_rfl) (by kernel_rfl) (fun _ _ _ h => h) hH0 (by rfl) ?hyv ?o39
  case hyv =>
   intro wz hSw
   have zc0 := (hSw.cell (p := ⟨w.heap.size, 0, none⟩) yB).trans i0
   have zc1 := (hSw.cell (p := ⟨w.heap.size, 1, none⟩) yB).trans i1
   have zc2 := (hSw.cell (p := ⟨w.heap.size, 2, none⟩) yB).trans i2
   have zc3 := (hSw.cell (p := ⟨w.heap.size, 3, none⟩) yB).trans i3
   have zc4 := (hSw.cell (p := ⟨w.heap.size, 4, none⟩) yB).trans i4
   have zc5 := (hSw.cell (p := ⟨w.heap.size, 5, none⟩) yB).trans i5
   have zc6 := (hSw.cell (p := ⟨rb, rn, none⟩) yr).trans xr
   have zc7 := (hSw.cell (p := ⟨rb, an, none⟩) yr).trans xa
   have zc8 := (hSw.cell (p := ⟨rb, bn, none⟩) yr).trans xb
   go_simp
   try rfl
  try simp only [Act.put, sT, sZ, sS]
  refine' wpAnyL_take (i := 6) (oi := ⟨some 171, _, _, _, _, _⟩) (v := _) rfl (by kernel_rfl) (by kernel_rfl) (by kernel_rfl) (by kernel_rfl) (fun _ _ _ h => h) hH0 (by rfl) ?hyv ?o40
  case hyv =>
   intro wz hSw
   go_simp
   try rfl
  try simp only [Act.put, sT, sZ, sS]
  refine' wpAnyL_take (i := 7) (oi := ⟨some 172, _, _, _, _, _⟩) (v := _) rfl (by kernel_rfl) (by kernel_rfl) (by kernel_rfl) (by kernel_rfl) (fun _ _ _ h => h) hH0 (by rfl) ?hyv ?o41
  case hyv =>
   intro wz hSw
   have zc0 := (hSw.cell (p := ⟨w.heap.size, 0, none⟩) yB).trans i0
   have zc1 := (hSw.cell (p := ⟨w.heap.size, 1, none⟩) yB).trans i1
   have zc2 := (hSw.cell (p := ⟨w.heap.size, 2, none⟩) yB).trans i2
   have zc3 := (hSw.cell (p := ⟨w.heap.size, 3, none⟩) yB).trans i3
   have zc4 := (hSw.cell (p := ⟨w.heap.size, 4, none⟩) yB).trans i4
   have zc5 := (hSw.cell (p := ⟨w.heap.size, 5, none⟩) yB).trans i5
   have zc6 := (hSw.cell (p := ⟨rb, rn, none⟩) yr).trans xr
   have zc7 := (hSw.cell (p := ⟨rb, an, none⟩) yr).trans xa
   have zc8 := (hSw.cell (p := ⟨rb, bn, none⟩) yr).trans xb
   go_simp
   try rfl
  try simp only [Act.put, sT, sZ, sS]
  refine' wpAnyL_take (i := 8) (oi := ⟨some 173, _, _, _, _, _⟩) (v := _) rfl (by kernel_rfl) (by kernel_rfl) (by kernel_rfl) (by kernel_rfl) (fun _ _ _ h => h) hH0 (by rfl) ?hyv ?o42
  case hyv =>
   intro wz hSw
   go_simp
   try rfl
  try simp only [Act.put, sT, sZ, sS]
  refine wpAnyL_one (i := 9) (o := _) rfl (by kernel_rfl) (by rfl) (fun K hK => ?_)
  have kX := hx2.under hH0
  have fr := kX.free rn
  have st0 := kX.at (i := rn) hr
  go_simp
  have hq : Aside [gb, rb, cb] wd0.heap.size wd0 (wd0.setCell ⟨rb, rn, none⟩ (.int .i64 y)) := Aside.setCell (by simp) _
  have hA1 : Aside [gb, rb, cb] w2.heap.size w2 (wd0.setCell ⟨rb, rn, none⟩ (.int .i64 y)) := (aside hH0).trans hq hH0.size
  have kE := kX.put rn y
  have kM := (hm2.under hH0).keep (w' := wd0.setCell ⟨rb, rn, none⟩ (.int .i64 y)) (heap_set_other wd0 ⟨rb, rn, none⟩ _ (by show rb ≠ cb; exact n3))
  have kG := (hg2.keep (hH0.block _ yg)).keep (w' := wd0.setCell ⟨rb, rn, none⟩ (.int .i64 y)) (heap_set_other wd0 ⟨rb, rn, none⟩ _ (by show rb ≠ gb; exact n1.symm))
  refine hK.out _ _ (fun h => absurd h (by decide)) ?_
  clear hK K kX fr st0 hq
  try simp only [Act.put, sT, sZ, sS]
  generalize wd0.setCell ⟨rb, rn, none⟩ (.int .i64 y) = wd1 at hA1 kE kM kG ⊢
  have hH1 := hA1
  refine wpAnyL_done (by kernel_rfl) ?_ _
  rw [← HXX.out] at kE
  rw [← HMM.out] at kM
  go_wp2
  go_ret
  exact ⟨rfl, kG, kE, kM, A2.trans hH1 A2.size⟩
set_option maxHeartbeats 8000000 in
theorem done8b_any {w : World} {gb rb cb nc cc nr cr : Nat} {v0 v1 v2 v3 v4 v5 v6 : Value} {X M : List Int} {st : Int} (hg : GAt w gb cb nc cc v0 v1 v2 v3 v4 v5 v6 st) (hx : LX w rb X) (hm : LX w cb M) (hnr : nr = X.length) (hnc : nc ≤ M.length) (hX : X.length ≤ 40) (hM : nc ≤ 6000) (n1 : gb ≠ rb) (n2 : gb ≠ cb) (n3 : rb ≠ cb) (kk : Int) (rn : Nat) (hr : rn < X.length) (nn : Int) (an : Nat) (ha : an < X.length) (bn : Nat) (hb : bn < X.length) (hz : X[rn] ≠ 0) : Calls Tryd.prog 43 #[.pointer (some ⟨gb, 0, none⟩), .agg #[.int .i64 8, .int .i64 kk, .int .i64 (rn : Int), .int .i64 (an : Int), .int .i64 (bn : Int), .int .i64 nn], .slice (some ⟨rb, 0, none⟩) nr cr] w (DOneP w gb rb cb nc cc v0 v1 v2 v3 v4 v5 v6 st (X.set rn X[an]) (M)) := by
 have b1 : Below w.heap.size w (w.alloc (.cells #[.int .i64 8, .int .i64 kk, .int .i64 (rn : Int), .int .i64 (an : Int), .int .i64 (bn : Int), .int .i64 nn] 52 (0, 0))) := (Below.refl _ _).alloc (Nat.le_refl _) _
 have kB := heap_new w (.cells #[.int .i64 8, .int .i64 kk, .int .i64 (rn : Int), .int .i64 (an : Int), .int .i64 (bn : Int), .int .i64 nn] 52 (0, 0))
 have ygw := lt_of hg
 have yrw := hx.lt
 have ycw := hm.lt
 have HNR := hide hnr
 have HNC := hide hnc
 clear hnr hnc
 have hx1 := hx.under b1
 have hm1 := hm.under b1
 have kg := (b1.block _ ygw).trans (show w.heap[gb]? = some (.cells #[v0, v1, v2, v3, v4, v5, v6, .slice (some ⟨cb, 0, none⟩) nc cc, .int .i64 st] 46 (0, 0)) from hg)
 obtain ⟨XX, hXX⟩ : ∃ z, z = (X.set rn X[an]) := ⟨_, rfl⟩
 obtain ⟨MM, hMM⟩ : ∃ z, z = (M) := ⟨_, rfl⟩
 suffices hh : Calls Tryd.prog 43 #[.pointer (some ⟨gb, 0, none⟩), .agg #[.int .i64 8, .int .i64 kk, .int .i64 (rn : Int), .int .i64 (an : Int), .int .i64 (bn : Int), .int .i64 nn], .slice (some ⟨rb, 0, none⟩) nr cr] w (DOneP w gb rb cb nc cc v0 v1 v2 v3 v4 v5 v6 st XX MM) by
  rw [hXX, hMM] at hh
  exact hh
 have HXX := hide hXX
 have HMM := hide hMM
 clear hg hx hm hXX hMM
 go_enter Tryd.func43, Tryd.ntmps43
 go_upto_region 1 with fail
 generalize w.alloc (.cells #[.int .i64 8, .int .i64 kk, .int .i64 (rn : Int), .int .i64 (an : Int), .int .i64 (bn : Int), .int .i64 nn] 52 (0, 0)) = w1 at b1 kB hx1 hm1 kg ⊢
 have s8 := cell_of kg 8
 have f8 := free_of kg 8
 simp at s8
 have y1 := b1.size
 have yB := lt_of kB
 go_cut [] (fun wd => GAt wd gb cb nc cc v0 v1 v2 v3 v4 v5 v6 (wrap64 (st + 1)) ∧ LX wd rb X ∧ LX wd cb M ∧ wd.heap[w.heap.size]? = some (.cells #[.int .i64 8, .int .i64 kk, .int .i64 (rn : Int), .int .i64 (an : Int), .int .i64 (bn : Int), .int .i64 nn] 52 (0, 0)) ∧ Aside [gb] w1.heap.size w1 wd)
 case first =>
  go_wp2_with fail
  go_meet
  case rel =>
   have a2 : ∀ u, Aside [gb] w1.heap.size w1 (w1.setCell ⟨gb, 8, none⟩ u) := fun u => Aside.setCell (p := ⟨gb, 8, none⟩) (by simp) u
   exact ⟨by have := set_in kg 8 (.int .i64 (wrap64 (st + 1))); simpa [GAt] using this, hx1.keep ((a2 _).block _ (by omega) (by simpa using n1.symm)), hm1.keep ((a2 _).block _ (by omega) (by simpa using n2.symm)), ((a2 _).block _ yB (by simp; omega)).trans kB, a2 _⟩
 case rest =>
  obtain ⟨hg2, hx2, hm2, kB2, a2⟩ := hcut
  clear kB hx1 hm1 kg s8 f8 yB
  obtain ⟨w2, hw2⟩ : ∃ x, x = wc := ⟨_, rfl⟩
  subst hw2
  have kg2 : w2.heap[gb]? = some (.cells #[v0, v1, v2, v3, v4, v5, v6, .slice (some ⟨cb, 0, none⟩) nc cc, .int .i64 (wrap64 (st + 1))] 46 (0, 0)) := hg2
  have yB := lt_of kB2
  have yg := lt_of kg2
  have yr := hx2.lt
  have yc := hm2.lt
  have i0 := cell_of kB2 0
  have i1 := cell_of kB2 1
  have i2 := cell_of kB2 2
  have i3 := cell_of kB2 3
  have i4 := cell_of kB2 4
  have i5 := cell_of kB2 5
  have g7 := cell_of kg2 7
  simp at i0 i1 i2 i3 i4 i5 g7
  have xr := hx2.at hr
  have A2 : Aside [gb, rb, cb] w.heap.size w w2 := ((aside b1).trans (a2.wide (fun _ _ h => by simp at h ⊢; exact h.1)) b1.size)
  have hnr := HNR.out
  have hnc := HNC.out
  have hrn : (rn : Int) < (nr : Int) := by omega
  clear HNR HNC
  clear kB2 a2 b1 y1 kg2
  have xa := hx2.at ha
  have han : (an : Int) < (nr : Int) := by omega
  have xb := hx2.at hb
  have hbn : (bn : Int) < (nr : Int) := by omega
  have hzb : (X[rn] == 0) = false := by simpa using hz
  generalize X[rn] = zr at xr hz hzb
  generalize X[an] = y at xa HXX
  go_upto_region 24 with fail
  refine wp_region_late (fun w' => Below w2.heap.size w2 w') (fun i => i == 9) (by kernel_rfl) ?_
  have hH0 : Below w2.heap.size w2 w2.drew := (Below.refl _ _).drew
  generalize w2.drew = wd0 at hH0 ⊢
  refine' wpAnyL_take (i := 0) (oi := ⟨some 174, _, _, _, _, _⟩) (v := _) rfl (by kernel_rfl) (by kernel_rfl) (by kernel_rfl) (by kernel_rfl) (fun _ _ _ h => h) hH0 (by rfl) ?hyv ?o43
  case hyv =>
   intro wz hSw
   go_simp
   try rfl
  try simp only [Act.put, sT, sZ, sS]
  refine' wpAnyL_take (i := 1) (oi := ⟨some 175, _, _, _, _, _⟩) (v := _) rfl (by kernel_rfl) (by kernel_rfl) (by kernel_rfl) (by kernel_rfl) (fun _ _ _ h => h) hH0 (by rfl) ?hyv ?o44
  case hyv =>
   intro wz hSw
   go_simp
   try rfl
  try simp only [Act.put, sT, sZ, sS]
  refine' wpAnyL_take (i := 2) (oi := ⟨some 176, _, _, _, _, _⟩) (v := _) rfl (by kernel_rfl) (by kernel_rfl) (by kernel_rfl) (by kernel_rfl) (fun _ _ _ h => h) hH0 (by rfl) ?hyv ?o45
  case hyv =>
   intro wz hSw
   have zc0 := (hSw.cell (p := ⟨w.heap.size, 0, none⟩) yB).trans i0
   have zc1 := (hSw.cell (p := ⟨w.heap.size, 1, none⟩) yB).trans i1
   have zc2 := (hSw.cell (p := ⟨w.heap.size, 2, none⟩) yB).trans i2
   have zc3 := (hSw.cell (p := ⟨w.heap.size, 3, none⟩) yB).trans i3
   have zc4 := (hSw.cell (p := ⟨w.heap.size, 4, none⟩) yB).trans i4
   have zc5 := (hSw.cell (p := ⟨w.heap.size, 5, none⟩) yB).trans i5
   have zc6 := (hSw.cell (p := ⟨rb, rn, none⟩) yr).trans xr
   have zc7 := (hSw.cell (p := ⟨rb, an, none⟩) yr).trans xa
   have zc8 := (hSw.cell (p := ⟨rb, bn, none⟩) yr).trans xb
   go_simp
   try rfl
  try simp only [Act.put, sT, sZ, sS]
  refine' wpAnyL_take (i := 3) (oi := ⟨some 177, _, _, _, _, _⟩) (v := _) rfl (by kernel_rfl) (by kernel_rfl) (by kernel_rfl) (by kernel_rfl) (fun _ _ _ h => h) hH0 (by rfl) ?hyv ?o46
  case hyv =>
   intro wz hSw
   go_simp
   try rfl
  try simp only [Act.put, sT, sZ, sS]
  refine' wpAnyL_take (i := 4) (oi := ⟨some 178, _, _, _, _, _⟩) (v := _) rfl (by kernel_rfl) (by kernel_rfl) (by kernel_rfl) (by kernel_rfl) (fun _ _ _ h => h) hH0 (by rfl) ?hyv ?o47
  case hyv =>
   intro wz hSw
   go_simp
   try rfl
  try simp only [Act.put, sT, sZ, sS]
  refine' wpAnyL_take (i := 5) (oi := ⟨some 179, _, _, _, _, _⟩) (v := _) rfl (by kernel_rfl) (by kernel_rfl) (by kernel_rfl) (by kernel_rfl) (fun _ _ _ h => h) hH0 (by rfl) ?hyv ?o48
  case hyv =>
   intro wz hSw
   have zc0 := (hSw.cell (p := ⟨w.heap.size, 0, none⟩) yB).trans i0
   have zc1 := (hSw.cell (p := ⟨w.heap.size, 1, none⟩) yB).trans i1
   have zc2 := (hSw.cell (p := ⟨w.heap.size, 2, none⟩) yB).trans i2
   have zc3 := (hSw.cell (p := ⟨w.heap.size, 3, none⟩) yB).trans i3
   have zc4 := (hSw.cell (p := ⟨w.heap.size, 4, none⟩) yB).trans i4
   have zc5 := (hSw.cell (p := ⟨w.heap.size, 5, none⟩) yB).trans i5
   have zc6 := (hSw.cell (p := ⟨rb, rn, none⟩) yr).trans xr
   have zc7 := (hSw.cell (p := ⟨rb, an, none⟩) yr).trans xa
   have zc8 := (hSw.cell (p := ⟨rb, bn, none⟩) yr).trans xb
   go_simp
   try rfl
  try simp only [Act.put, sT, sZ, sS]
  refine' wpAnyL_take (i := 6) (oi := ⟨some 180, _, _, _, _, _⟩) (v := _) rfl (by kernel_rfl) (by kernel_rfl) (by kernel_rfl) (by kernel_rfl) (fun _ _ _ h => h) hH0 (by rfl) ?hyv ?o49
  case hyv =>
   intro wz hSw
   go_simp
   try rfl
  try simp only [Act.put, sT, sZ, sS]
  refine' wpAnyL_take (i := 7) (oi := ⟨some 181, _, _, _, _, _⟩) (v := _) rfl (by kernel_rfl) (by kernel_rfl) (by kernel_rfl) (by kernel_rfl) (fun _ _ _ h => h) hH0 (by rfl) ?hyv ?o50
  case hyv =>
   intro wz hSw
   have zc0 := (hSw.cell (p := ⟨w.heap.size, 0, none⟩) yB).trans i0
   have zc1 := (hSw.cell (p := ⟨w.heap.size, 1, none⟩) yB).trans i1
   have zc2 := (hSw.cell (p := ⟨w.heap.size, 2, none⟩) yB).trans i2
   have zc3 := (hSw.cell (p := ⟨w.heap.size, 3, none⟩) yB).trans i3
   have zc4 := (hSw.cell (p := ⟨w.heap.size, 4, none⟩) yB).trans i4
   have zc5 := (hSw.cell (p := ⟨w.heap.size, 5, none⟩) yB).trans i5
   have zc6 := (hSw.cell (p := ⟨rb, rn, none⟩) yr).trans xr
   have zc7 := (hSw.cell (p := ⟨rb, an, none⟩) yr).trans xa
   have zc8 := (hSw.cell (p := ⟨rb, bn, none⟩) yr).trans xb
   go_simp
   try rfl
  try simp only [Act.put, sT, sZ, sS]
  refine' wpAnyL_take (i := 8) (oi := ⟨some 182, _, _, _, _, _⟩) (v := _) rfl (by kernel_rfl) (by kernel_rfl) (by kernel_rfl) (by kernel_rfl) (fun _ _ _ h => h) hH0 (by rfl) ?hyv ?o51
  case hyv =>
   intro wz hSw
   go_simp
   try rfl
  try simp only [Act.put, sT, sZ, sS]
  refine wpAnyL_one (i := 9) (o := _) rfl (by kernel_rfl) (by rfl) (fun K hK => ?_)
  have kX := hx2.under hH0
  have fr := kX.free rn
  have st0 := kX.at (i := rn) hr
  go_simp
  have hq : Aside [gb, rb, cb] wd0.heap.size wd0 (wd0.setCell ⟨rb, rn, none⟩ (.int .i64 y)) := Aside.setCell (by simp) _
  have hA1 : Aside [gb, rb, cb] w2.heap.size w2 (wd0.setCell ⟨rb, rn, none⟩ (.int .i64 y)) := (aside hH0).trans hq hH0.size
  have kE := kX.put rn y
  have kM := (hm2.under hH0).keep (w' := wd0.setCell ⟨rb, rn, none⟩ (.int .i64 y)) (heap_set_other wd0 ⟨rb, rn, none⟩ _ (by show rb ≠ cb; exact n3))
  have kG := (hg2.keep (hH0.block _ yg)).keep (w' := wd0.setCell ⟨rb, rn, none⟩ (.int .i64 y)) (heap_set_other wd0 ⟨rb, rn, none⟩ _ (by show rb ≠ gb; exact n1.symm))
  refine hK.out _ _ (fun h => absurd h (by decide)) ?_
  clear hK K kX fr st0 hq
  try simp only [Act.put, sT, sZ, sS]
  generalize wd0.setCell ⟨rb, rn, none⟩ (.int .i64 y) = wd1 at hA1 kE kM kG ⊢
  have hH1 := hA1
  refine wpAnyL_done (by kernel_rfl) ?_ _
  rw [← HXX.out] at kE
  rw [← HMM.out] at kM
  go_wp2
  go_ret
  exact ⟨rfl, kG, kE, kM, A2.trans hH1 A2.size⟩
set_option maxHeartbeats 8000000 in
theorem done6_any {w : World} {gb rb cb nc cc nr cr : Nat} {v0 v1 v2 v3 v4 v5 v6 : Value} {X M : List Int} {st : Int} (hg : GAt w gb cb nc cc v0 v1 v2 v3 v4 v5 v6 st) (hx : LX w rb X) (hm : LX w cb M) (hnr : nr = X.length) (hnc : nc ≤ M.length) (hX : X.length ≤ 40) (hM : nc ≤ 6000) (n1 : gb ≠ rb) (n2 : gb ≠ cb) (n3 : rb ≠ cb) (kk : Int) (rn : Nat) (hr : rn < X.length) (bq nn : Int) (an : Nat) (ha : an < X.length) (hWX : Lo.Wd X) : Calls Tryd.prog 43 #[.pointer (some ⟨gb, 0, none⟩), .agg #[.int .i64 6, .int .i64 kk, .int .i64 (rn : Int), .int .i64 (an : Int), .int .i64 bq, .int .i64 nn], .slice (some ⟨rb, 0, none⟩) nr cr] w (DOneP w gb rb cb nc cc v0 v1 v2 v3 v4 v5 v6 st (X.set rn (apT kk X[an] 0)) (M)) := by
 have b1 : Below w.heap.size w (w.alloc (.cells #[.int .i64 6, .int .i64 kk, .int .i64 (rn : Int), .int .i64 (an : Int), .int .i64 bq, .int .i64 nn] 52 (0, 0))) := (Below.refl _ _).alloc (Nat.le_refl _) _
 have kB := heap_new w (.cells #[.int .i64 6, .int .i64 kk, .int .i64 (rn : Int), .int .i64 (an : Int), .int .i64 bq, .int .i64 nn] 52 (0, 0))
 have ygw := lt_of hg
 have yrw := hx.lt
 have ycw := hm.lt
 have HNR := hide hnr
 have HNC := hide hnc
 clear hnr hnc
 have hx1 := hx.under b1
 have hm1 := hm.under b1
 have kg := (b1.block _ ygw).trans (show w.heap[gb]? = some (.cells #[v0, v1, v2, v3, v4, v5, v6, .slice (some ⟨cb, 0, none⟩) nc cc, .int .i64 st] 46 (0, 0)) from hg)
 obtain ⟨XX, hXX⟩ : ∃ z, z = (X.set rn (apT kk X[an] 0)) := ⟨_, rfl⟩
 obtain ⟨MM, hMM⟩ : ∃ z, z = (M) := ⟨_, rfl⟩
 suffices hh : Calls Tryd.prog 43 #[.pointer (some ⟨gb, 0, none⟩), .agg #[.int .i64 6, .int .i64 kk, .int .i64 (rn : Int), .int .i64 (an : Int), .int .i64 bq, .int .i64 nn], .slice (some ⟨rb, 0, none⟩) nr cr] w (DOneP w gb rb cb nc cc v0 v1 v2 v3 v4 v5 v6 st XX MM) by
  rw [hXX, hMM] at hh
  exact hh
 have HXX := hide hXX
 have HMM := hide hMM
 clear hg hx hm hXX hMM
 go_enter Tryd.func43, Tryd.ntmps43
 go_upto_region 1 with fail
 generalize w.alloc (.cells #[.int .i64 6, .int .i64 kk, .int .i64 (rn : Int), .int .i64 (an : Int), .int .i64 bq, .int .i64 nn] 52 (0, 0)) = w1 at b1 kB hx1 hm1 kg ⊢
 have s8 := cell_of kg 8
 have f8 := free_of kg 8
 simp at s8
 have y1 := b1.size
 have yB := lt_of kB
 go_cut [] (fun wd => GAt wd gb cb nc cc v0 v1 v2 v3 v4 v5 v6 (wrap64 (st + 1)) ∧ LX wd rb X ∧ LX wd cb M ∧ wd.heap[w.heap.size]? = some (.cells #[.int .i64 6, .int .i64 kk, .int .i64 (rn : Int), .int .i64 (an : Int), .int .i64 bq, .int .i64 nn] 52 (0, 0)) ∧ Aside [gb] w1.heap.size w1 wd)
 case first =>
  go_wp2_with fail
  go_meet
  case rel =>
   have a2 : ∀ u, Aside [gb] w1.heap.size w1 (w1.setCell ⟨gb, 8, none⟩ u) := fun u => Aside.setCell (p := ⟨gb, 8, none⟩) (by simp) u
   exact ⟨by have := set_in kg 8 (.int .i64 (wrap64 (st + 1))); simpa [GAt] using this, hx1.keep ((a2 _).block _ (by omega) (by simpa using n1.symm)), hm1.keep ((a2 _).block _ (by omega) (by simpa using n2.symm)), ((a2 _).block _ yB (by simp; omega)).trans kB, a2 _⟩
 case rest =>
  obtain ⟨hg2, hx2, hm2, kB2, a2⟩ := hcut
  clear kB hx1 hm1 kg s8 f8 yB
  obtain ⟨w2, hw2⟩ : ∃ x, x = wc := ⟨_, rfl⟩
  subst hw2
  have kg2 : w2.heap[gb]? = some (.cells #[v0, v1, v2, v3, v4, v5, v6, .slice (some ⟨cb, 0, none⟩) nc cc, .int .i64 (wrap64 (st + 1))] 46 (0, 0)) := hg2
  have yB := lt_of kB2
  have yg := lt_of kg2
  have yr := hx2.lt
  have yc := hm2.lt
  have i0 := cell_of kB2 0
  have i1 := cell_of kB2 1
  have i2 := cell_of kB2 2
  have i3 := cell_of kB2 3
  have i4 := cell_of kB2 4
  have i5 := cell_of kB2 5
  have g7 := cell_of kg2 7
  simp at i0 i1 i2 i3 i4 i5 g7
  have xr := hx2.at hr
  have A2 : Aside [gb, rb, cb] w.heap.size w w2 := ((aside b1).trans (a2.wide (fun _ _ h => by simp at h ⊢; exact h.1)) b1.size)
  have hnr := HNR.out
  have hnc := HNC.out
  have hrn : (rn : Int) < (nr : Int) := by omega
  clear HNR HNC
  clear kB2 a2 b1 y1 kg2
  have xa := hx2.at ha
  have han : (an : Int) < (nr : Int) := by omega
  have hAp := hide (fun W => applyR_any kk X[an] 0 W (hWX _ (List.getElem_mem ha)) (by unfold I64; omega))
  generalize X[an] = y at xa HXX hAp
  generalize apT kk y 0 = z at HXX hAp
  go_upto_region 18 with fail
  refine wp_region_late (fun w' => Below w2.heap.size w2 w') (fun i => i == 12) (by kernel_rfl) ?_
  have hH0 : Below w2.heap.size w2 w2.drew := (Below.refl _ _).drew
  generalize w2.drew = wd0 at hH0 ⊢
  refine' wpAnyL_take (i := 0) (oi := ⟨some 126, _, _, _, _, _⟩) (v := _) rfl (by kernel_rfl) (by kernel_rfl) (by kernel_rfl) (by kernel_rfl) (fun _ _ _ h => h) hH0 (by rfl) ?hyv ?o52
  case hyv =>
   intro wz hSw
   go_simp
   try rfl
  try simp only [Act.put, sT, sZ, sS]
  refine' wpAnyL_take (i := 1) (oi := ⟨some 127, _, _, _, _, _⟩) (v := _) rfl (by kernel_rfl) (by kernel_rfl) (by kernel_rfl) (by kernel_rfl) (fun _ _ _ h => h) hH0 (by rfl) ?hyv ?o53
  case hyv =>
   intro wz hSw
   go_simp
   try rfl
  try simp only [Act.put, sT, sZ, sS]
  refine' wpAnyL_take (i := 2) (oi := ⟨some 128, _, _, _, _, _⟩) (v := _) rfl (by kernel_rfl) (by kernel_rfl) (by kernel_rfl) (by kernel_rfl) (fun _ _ _ h => h) hH0 (by rfl) ?hyv ?o54
  case hyv =>
   intro wz hSw
   have zc0 := (hSw.cell (p := ⟨w.heap.size, 0, none⟩) yB).trans i0
   have zc1 := (hSw.cell (p := ⟨w.heap.size, 1, none⟩) yB).trans i1
   have zc2 := (hSw.cell (p := ⟨w.heap.size, 2, none⟩) yB).trans i2
   have zc3 := (hSw.cell (p := ⟨w.heap.size, 3, none⟩) yB).trans i3
   have zc4 := (hSw.cell (p := ⟨w.heap.size, 4, none⟩) yB).trans i4
   have zc5 := (hSw.cell (p := ⟨w.heap.size, 5, none⟩) yB).trans i5
   have zc6 := (hSw.cell (p := ⟨rb, rn, none⟩) yr).trans xr
   have zc7 := (hSw.cell (p := ⟨rb, an, none⟩) yr).trans xa
   go_simp
   try rfl
  try simp only [Act.put, sT, sZ, sS]
  refine' wpAnyL_take (i := 3) (oi := ⟨some 129, _, _, _, _, _⟩) (v := _) rfl (by kernel_rfl) (by kernel_rfl) (by kernel_rfl) (by kernel_rfl) (fun _ _ _ h => h) hH0 (by rfl) ?hyv ?o55
  case hyv =>
   intro wz hSw
   go_simp
   try rfl
  try simp only [Act.put, sT, sZ, sS]
  refine' wpAnyL_take (i := 4) (oi := ⟨some 130, _, _, _, _, _⟩) (v := _) rfl (by kernel_rfl) (by kernel_rfl) (by kernel_rfl) (by kernel_rfl) (fun _ _ _ h => h) hH0 (by rfl) ?hyv ?o56
  case hyv =>
   intro wz hSw
   have zc0 := (hSw.cell (p := ⟨w.heap.size, 0, none⟩) yB).trans i0
   have zc1 := (hSw.cell (p := ⟨w.heap.size, 1, none⟩) yB).trans i1
   have zc2 := (hSw.cell (p := ⟨w.heap.size, 2, none⟩) yB).trans i2
   have zc3 := (hSw.cell (p := ⟨w.heap.size, 3, none⟩) yB).trans i3
   have zc4 := (hSw.cell (p := ⟨w.heap.size, 4, none⟩) yB).trans i4
   have zc5 := (hSw.cell (p := ⟨w.heap.size, 5, none⟩) yB).trans i5
   have zc6 := (hSw.cell (p := ⟨rb, rn, none⟩) yr).trans xr
   have zc7 := (hSw.cell (p := ⟨rb, an, none⟩) yr).trans xa
   go_simp
   try rfl
  try simp only [Act.put, sT, sZ, sS]
  refine' wpAnyL_take (i := 5) (oi := ⟨some 131, _, _, _, _, _⟩) (v := _) rfl (by kernel_rfl) (by kernel_rfl) (by kernel_rfl) (by kernel_rfl) (fun _ _ _ h => h) hH0 (by rfl) ?hyv ?o57
  case hyv =>
   intro wz hSw
   go_simp
   try rfl
  try simp only [Act.put, sT, sZ, sS]
  refine' wpAnyL_take (i := 6) (oi := ⟨some 132, _, _, _, _, _⟩) (v := _) rfl (by kernel_rfl) (by kernel_rfl) (by kernel_rfl) (by kernel_rfl) (fun _ _ _ h => h) hH0 (by rfl) ?hyv ?o58
  case hyv =>
   intro wz hSw
   go_simp
   try rfl
  try simp only [Act.put, sT, sZ, sS]
  refine' wpAnyL_take (i := 7) (oi := ⟨some 133, _, _, _, _, _⟩) (v := _) rfl (by kernel_rfl) (by kernel_rfl) (by kernel_rfl) (by kernel_rfl) (fun _ _ _ h => h) hH0 (by rfl) ?hyv ?o59
  case hyv =>
   intro wz hSw
   have zc0 := (hSw.cell (p := ⟨w.heap.size, 0, none⟩) yB).trans i0
   have zc1 := (hSw.cell (p := ⟨w.heap.size, 1, none⟩) yB).trans i1
   have zc2 := (hSw.cell (p := ⟨w.heap.size, 2, none⟩) yB).trans i2
   have zc3 := (hSw.cell (p := ⟨w.heap.size, 3, none⟩) yB).trans i3
   have zc4 := (hSw.cell (p := ⟨w.heap.size, 4, none⟩) yB).trans i4
   have zc5 := (hSw.cell (p := ⟨w.heap.size, 5, none⟩) yB).trans i5
   have zc6 := (hSw.cell (p := ⟨rb, rn, none⟩) yr).trans xr
   have zc7 := (hSw.cell (p := ⟨rb, an, none⟩) yr).trans xa
   go_simp
   try rfl
  try simp only [Act.put, sT, sZ, sS]
  refine' wpAnyL_take (i := 8) (oi := ⟨some 134, _, _, _, _, _⟩) (v := _) rfl (by kernel_rfl) (by kernel_rfl) (by kernel_rfl) (by kernel_rfl) (fun _ _ _ h => h) hH0 (by rfl) ?hyv ?o60
  case hyv =>
   intro wz hSw
   go_simp
   try rfl
  try simp only [Act.put, sT, sZ, sS]
  refine' wpAnyL_take (i := 9) (oi := ⟨some 135, _, _, _, _, _⟩) (v := _) rfl (by kernel_rfl) (by kernel_rfl) (by kernel_rfl) (by kernel_rfl) (fun _ _ _ h => h) hH0 (by rfl) ?hyv ?o61
  case hyv =>
   intro wz hSw
   have zc0 := (hSw.cell (p := ⟨w.heap.size, 0, none⟩) yB).trans i0
   have zc1 := (hSw.cell (p := ⟨w.heap.size, 1, none⟩) yB).trans i1
   have zc2 := (hSw.cell (p := ⟨w.heap.size, 2, none⟩) yB).trans i2
   have zc3 := (hSw.cell (p := ⟨w.heap.size, 3, none⟩) yB).trans i3
   have zc4 := (hSw.cell (p := ⟨w.heap.size, 4, none⟩) yB).trans i4
   have zc5 := (hSw.cell (p := ⟨w.heap.size, 5, none⟩) yB).trans i5
   have zc6 := (hSw.cell (p := ⟨rb, rn, none⟩) yr).trans xr
   have zc7 := (hSw.cell (p := ⟨rb, an, none⟩) yr).trans xa
   go_simp
   try rfl
  try simp only [Act.put, sT, sZ, sS]
  refine wpAnyL_one (i := 10) (o := _) rfl (by kernel_rfl) (by rfl) (fun K hK => ?_)
  go_simp
  refine (hAp.out wd0).mono ?_
  rintro eq wd1 ⟨rfl, bq1⟩
  have hH1 : Below w2.heap.size w2 wd1 := hH0.trans (bq1.mono hH0.size)
  refine hK.out _ _ (fun _ => hH1) ?_
  clear hK K
  try simp only [Act.put, sT, sZ, sS]
  refine' wpAnyL_take (i := 11) (oi := ⟨some 137, _, _, _, _, _⟩) (v := _) rfl (by kernel_rfl) (by kernel_rfl) (by kernel_rfl) (by kernel_rfl) (fun _ _ _ h => h) hH1 (by rfl) ?hyv ?o62
  case hyv =>
   intro wz hSw
   go_simp
   try rfl
  try simp only [Act.put, sT, sZ, sS]
  refine wpAnyL_one (i := 12) (o := _) rfl (by kernel_rfl) (by rfl) (fun K hK => ?_)
  have kX := hx2.under hH1
  have fr := kX.free rn
  have st0 := kX.at (i := rn) hr
  go_simp
  have hq : Aside [gb, rb, cb] wd1.heap.size wd1 (wd1.setCell ⟨rb, rn, none⟩ (.int .i64 z)) := Aside.setCell (by simp) _
  have hA2 : Aside [gb, rb, cb] w2.heap.size w2 (wd1.setCell ⟨rb, rn, none⟩ (.int .i64 z)) := (aside hH1).trans hq hH1.size
  have kE := kX.put rn z
  have kM := (hm2.under hH1).keep (w' := wd1.setCell ⟨rb, rn, none⟩ (.int .i64 z)) (heap_set_other wd1 ⟨rb, rn, none⟩ _ (by show rb ≠ cb; exact n3))
  have kG := (hg2.keep (hH1.block _ yg)).keep (w' := wd1.setCell ⟨rb, rn, none⟩ (.int .i64 z)) (heap_set_other wd1 ⟨rb, rn, none⟩ _ (by show rb ≠ gb; exact n1.symm))
  refine hK.out _ _ (fun h => absurd h (by decide)) ?_
  clear hK K kX fr st0 hq
  try simp only [Act.put, sT, sZ, sS]
  generalize wd1.setCell ⟨rb, rn, none⟩ (.int .i64 z) = wd2 at hA2 kE kM kG ⊢
  have hH2 := hA2
  refine wpAnyL_done (by kernel_rfl) ?_ _
  rw [← HXX.out] at kE
  rw [← HMM.out] at kM
  go_wp2
  go_ret
  exact ⟨rfl, kG, kE, kM, A2.trans hH2 A2.size⟩
set_option maxHeartbeats 8000000 in
theorem done7_any {w : World} {gb rb cb nc cc nr cr : Nat} {v0 v1 v2 v3 v4 v5 v6 : Value} {X M : List Int} {st : Int} (hg : GAt w gb cb nc cc v0 v1 v2 v3 v4 v5 v6 st) (hx : LX w rb X) (hm : LX w cb M) (hnr : nr = X.length) (hnc : nc ≤ M.length) (hX : X.length ≤ 40) (hM : nc ≤ 6000) (n1 : gb ≠ rb) (n2 : gb ≠ cb) (n3 : rb ≠ cb) (kk : Int) (rn : Nat) (hr : rn < X.length) (nn : Int) (an : Nat) (ha : an < X.length) (bn : Nat) (hb : bn < X.length) (hWX : Lo.Wd X) : Calls Tryd.prog 43 #[.pointer (some ⟨gb, 0, none⟩), .agg #[.int .i64 7, .int .i64 kk, .int .i64 (rn : Int), .int .i64 (an : Int), .int .i64 (bn : Int), .int .i64 nn], .slice (some ⟨rb, 0, none⟩) nr cr] w (DOneP w gb rb cb nc cc v0 v1 v2 v3 v4 v5 v6 st (X.set rn (apT kk X[an] X[bn])) (M)) := by
 have b1 : Below w.heap.size w (w.alloc (.cells #[.int .i64 7, .int .i64 kk, .int .i64 (rn : Int), .int .i64 (an : Int), .int .i64 (bn : Int), .int .i64 nn] 52 (0, 0))) := (Below.refl _ _).alloc (Nat.le_refl _) _
 have kB := heap_new w (.cells #[.int .i64 7, .int .i64 kk, .int .i64 (rn : Int), .int .i64 (an : Int), .int .i64 (bn : Int), .int .i64 nn] 52 (0, 0))
 have ygw := lt_of hg
 have yrw := hx.lt
 have ycw := hm.lt
 have HNR := hide hnr
 have HNC := hide hnc
 clear hnr hnc
 have hx1 := hx.under b1
 have hm1 := hm.under b1
 have kg := (b1.block _ ygw).trans (show w.heap[gb]? = some (.cells #[v0, v1, v2, v3, v4, v5, v6, .slice (some ⟨cb, 0, none⟩) nc cc, .int .i64 st] 46 (0, 0)) from hg)
 obtain ⟨XX, hXX⟩ : ∃ z, z = (X.set rn (apT kk X[an] X[bn])) := ⟨_, rfl⟩
 obtain ⟨MM, hMM⟩ : ∃ z, z = (M) := ⟨_, rfl⟩
 suffices hh : Calls Tryd.prog 43 #[.pointer (some ⟨gb, 0, none⟩), .agg #[.int .i64 7, .int .i64 kk, .int .i64 (rn : Int), .int .i64 (an : Int), .int .i64 (bn : Int), .int .i64 nn], .slice (some ⟨rb, 0, none⟩) nr cr] w (DOneP w gb rb cb nc cc v0 v1 v2 v3 v4 v5 v6 st XX MM) by
  rw [hXX, hMM] at hh
  exact hh
 have HXX := hide hXX
 have HMM := hide hMM
 clear hg hx hm hXX hMM
 go_enter Tryd.func43, Tryd.ntmps43
 go_upto_region 1 with fail
 generalize w.alloc (.cells #[.int .i64 7, .int .i64 kk, .int .i64 (rn : Int), .int .i64 (an : Int), .int .i64 (bn : Int), .int .i64 nn] 52 (0, 0)) = w1 at b1 kB hx1 hm1 kg ⊢
 have s8 := cell_of kg 8
 have f8 := free_of kg 8
 simp at s8
 have y1 := b1.size
 have yB := lt_of kB
 go_cut [] (fun wd => GAt wd gb cb nc cc v0 v1 v2 v3 v4 v5 v6 (wrap64 (st + 1)) ∧ LX wd rb X ∧ LX wd cb M ∧ wd.heap[w.heap.size]? = some (.cells #[.int .i64 7, .int .i64 kk, .int .i64 (rn : Int), .int .i64 (an : Int), .int .i64 (bn : Int), .int .i64 nn] 52 (0, 0)) ∧ Aside [gb] w1.heap.size w1 wd)
 case first =>
  go_wp2_with fail
  go_meet
  case rel =>
   have a2 : ∀ u, Aside [gb] w1.heap.size w1 (w1.setCell ⟨gb, 8, none⟩ u) := fun u => Aside.setCell (p := ⟨gb, 8, none⟩) (by simp) u
   exact ⟨by have := set_in kg 8 (.int .i64 (wrap64 (st + 1))); simpa [GAt] using this, hx1.keep ((a2 _).block _ (by omega) (by simpa using n1.symm)), hm1.keep ((a2 _).block _ (by omega) (by simpa using n2.symm)), ((a2 _).block _ yB (by simp; omega)).trans kB, a2 _⟩
 case rest =>
  obtain ⟨hg2, hx2, hm2, kB2, a2⟩ := hcut
  clear kB hx1 hm1 kg s8 f8 yB
  obtain ⟨w2, hw2⟩ : ∃ x, x = wc := ⟨_, rfl⟩
  subst hw2
  have kg2 : w2.heap[gb]? = some (.cells #[v0, v1, v2, v3, v4, v5, v6, .slice (some ⟨cb, 0, none⟩) nc cc, .int .i64 (wrap64 (st + 1))] 46 (0, 0)) := hg2
  have yB := lt_of kB2
  have yg := lt_of kg2
  have yr := hx2.lt
  have yc := hm2.lt
  have i0 := cell_of kB2 0
  have i1 := cell_of kB2 1
  have i2 := cell_of kB2 2
  have i3 := cell_of kB2 3
  have i4 := cell_of kB2 4
  have i5 := cell_of kB2 5
  have g7 := cell_of kg2 7
  simp at i0 i1 i2 i3 i4 i5 g7
  have xr := hx2.at hr
  have A2 : Aside [gb, rb, cb] w.heap.size w w2 := ((aside b1).trans (a2.wide (fun _ _ h => by simp at h ⊢; exact h.1)) b1.size)
  have hnr := HNR.out
  have hnc := HNC.out
  have hrn : (rn : Int) < (nr : Int) := by omega
  clear HNR HNC
  clear kB2 a2 b1 y1 kg2
  have xa := hx2.at ha
  have han : (an : Int) < (nr : Int) := by omega
  have xb := hx2.at hb
  have hbn : (bn : Int) < (nr : Int) := by omega
  have hAp := hide (fun W => applyR_any kk X[an] X[bn] W (hWX _ (List.getElem_mem ha)) (hWX _ (List.getElem_mem hb)))
  generalize X[an] = y at xa HXX hAp
  generalize X[bn] = y2 at xb HXX hAp
  generalize apT kk y y2 = z at HXX hAp
  go_upto_region 20 with fail
  refine wp_region_late (fun w' => Below w2.heap.size w2 w') (fun i => i == 17) (by kernel_rfl) ?_
  have hH0 : Below w2.heap.size w2 w2.drew := (Below.refl _ _).drew
  generalize w2.drew = wd0 at hH0 ⊢
  refine' wpAnyL_take (i := 0) (oi := ⟨some 140, _, _, _, _, _⟩) (v := _) rfl (by kernel_rfl) (by kernel_rfl) (by kernel_rfl) (by kernel_rfl) (fun _ _ _ h => h) hH0 (by rfl) ?hyv ?o63
  case hyv =>
   intro wz hSw
   go_simp
   try rfl
  try simp only [Act.put, sT, sZ, sS]
  refine' wpAnyL_take (i := 1) (oi := ⟨some 141, _, _, _, _, _⟩) (v := _) rfl (by kernel_rfl) (by kernel_rfl) (by kernel_rfl) (by kernel_rfl) (fun _ _ _ h => h) hH0 (by rfl) ?hyv ?o64
  case hyv =>
   intro wz hSw
   go_simp
   try rfl
  try simp only [Act.put, sT, sZ, sS]
  refine' wpAnyL_take (i := 2) (oi := ⟨some 142, _, _, _, _, _⟩) (v := _) rfl (by kernel_rfl) (by kernel_rfl) (by kernel_rfl) (by kernel_rfl) (fun _ _ _ h => h) hH0 (by rfl) ?hyv ?o65
  case hyv =>
   intro wz hSw
   have zc0 := (hSw.cell (p := ⟨w.heap.size, 0, none⟩) yB).trans i0
   have zc1 := (hSw.cell (p := ⟨w.heap.size, 1, none⟩) yB).trans i1
   have zc2 := (hSw.cell (p := ⟨w.heap.size, 2, none⟩) yB).trans i2
   have zc3 := (hSw.cell (p := ⟨w.heap.size, 3, none⟩) yB).trans i3
   have zc4 := (hSw.cell (p := ⟨w.heap.size, 4, none⟩) yB).trans i4
   have zc5 := (hSw.cell (p := ⟨w.heap.size, 5, none⟩) yB).trans i5
   have zc6 := (hSw.cell (p := ⟨rb, rn, none⟩) yr).trans xr
   have zc7 := (hSw.cell (p := ⟨rb, an, none⟩) yr).trans xa
   have zc8 := (hSw.cell (p := ⟨rb, bn, none⟩) yr).trans xb
   go_simp
   try rfl
  try simp only [Act.put, sT, sZ, sS]
  refine' wpAnyL_take (i := 3) (oi := ⟨some 143, _, _, _, _, _⟩) (v := _) rfl (by kernel_rfl) (by kernel_rfl) (by kernel_rfl) (by kernel_rfl) (fun _ _ _ h => h) hH0 (by rfl) ?hyv ?o66
  case hyv =>
   intro wz hSw
   go_simp
   try rfl
  try simp only [Act.put, sT, sZ, sS]
  refine' wpAnyL_take (i := 4) (oi := ⟨some 144, _, _, _, _, _⟩) (v := _) rfl (by kernel_rfl) (by kernel_rfl) (by kernel_rfl) (by kernel_rfl) (fun _ _ _ h => h) hH0 (by rfl) ?hyv ?o67
  case hyv =>
   intro wz hSw
   have zc0 := (hSw.cell (p := ⟨w.heap.size, 0, none⟩) yB).trans i0
   have zc1 := (hSw.cell (p := ⟨w.heap.size, 1, none⟩) yB).trans i1
   have zc2 := (hSw.cell (p := ⟨w.heap.size, 2, none⟩) yB).trans i2
   have zc3 := (hSw.cell (p := ⟨w.heap.size, 3, none⟩) yB).trans i3
   have zc4 := (hSw.cell (p := ⟨w.heap.size, 4, none⟩) yB).trans i4
   have zc5 := (hSw.cell (p := ⟨w.heap.size, 5, none⟩) yB).trans i5
   have zc6 := (hSw.cell (p := ⟨rb, rn, none⟩) yr).trans xr
   have zc7 := (hSw.cell (p := ⟨rb, an, none⟩) yr).trans xa
   have zc8 := (hSw.cell (p := ⟨rb, bn, none⟩) yr).trans xb
   go_simp
   try rfl
  try simp only [Act.put, sT, sZ, sS]
  refine' wpAnyL_take (i := 5) (oi := ⟨some 145, _, _, _, _, _⟩) (v := _) rfl (by kernel_rfl) (by kernel_rfl) (by kernel_rfl) (by kernel_rfl) (fun _ _ _ h => h) hH0 (by rfl) ?hyv ?o68
  case hyv =>
   intro wz hSw
   go_simp
   try rfl
  try simp only [Act.put, sT, sZ, sS]
  refine' wpAnyL_take (i := 6) (oi := ⟨some 146, _, _, _, _, _⟩) (v := _) rfl (by kernel_rfl) (by kernel_rfl) (by kernel_rfl) (by kernel_rfl) (fun _ _ _ h => h) hH0 (by rfl) ?hyv ?o69
  case hyv =>
   intro wz hSw
   go_simp
   try rfl
  try simp only [Act.put, sT, sZ, sS]
  refine' wpAnyL_take (i := 7) (oi := ⟨some 147, _, _, _, _, _⟩) (v := _) rfl (by kernel_rfl) (by kernel_rfl) (by kernel_rfl) (by kernel_rfl) (fun _ _ _ h => h) hH0 (by rfl) ?hyv ?o70
  case hyv =>
   intro wz hSw
   have zc0 := (hSw.cell (p := ⟨w.heap.size, 0, none⟩) yB).trans i0
   have zc1 := (hSw.cell (p := ⟨w.heap.size, 1, none⟩) yB).trans i1
   have zc2 := (hSw.cell (p := ⟨w.heap.size, 2, none⟩) yB).trans i2
   have zc3 := (hSw.cell (p := ⟨w.heap.size, 3, none⟩) yB).trans i3
   have zc4 := (hSw.cell (p := ⟨w.heap.size, 4, none⟩) yB).trans i4
   have zc5 := (hSw.cell (p := ⟨w.heap.size, 5, none⟩) yB).trans i5
   have zc6 := (hSw.cell (p := ⟨rb, rn, none⟩) yr).trans xr
   have zc7 := (hSw.cell (p := ⟨rb, an, none⟩) yr).trans xa
   have zc8 := (hSw.cell (p := ⟨rb, bn, none⟩) yr).trans xb
   go_simp
   try rfl
  try simp only [Act.put, sT, sZ, sS]
  refine' wpAnyL_take (i := 8) (oi := ⟨some 148, _, _, _, _, _⟩) (v := _) rfl (by kernel_rfl) (by kernel_rfl) (by kernel_rfl) (by kernel_rfl) (fun _ _ _ h => h) hH0 (by rfl) ?hyv ?o71
  case hyv =>
   intro wz hSw
   go_simp
   try rfl
  try simp only [Act.put, sT, sZ, sS]
  refine' wpAnyL_take (i := 9) (oi := ⟨some 149, _, _, _, _, _⟩) (v := _) rfl (by kernel_rfl) (by kernel_rfl) (by kernel_rfl) (by kernel_rfl) (fun _ _ _ h => h) hH0 (by rfl) ?hyv ?o72
  case hyv =>
   intro wz hSw
   have zc0 := (hSw.cell (p := ⟨w.heap.size, 0, none⟩) yB).trans i0
   have zc1 := (hSw.cell (p := ⟨w.heap.size, 1, none⟩) yB).trans i1
   have zc2 := (hSw.cell (p := ⟨w.heap.size, 2, none⟩) yB).trans i2
   have zc3 := (hSw.cell (p := ⟨w.heap.size, 3, none⟩) yB).trans i3
   have zc4 := (hSw.cell (p := ⟨w.heap.size, 4, none⟩) yB).trans i4
   have zc5 := (hSw.cell (p := ⟨w.heap.size, 5, none⟩) yB).trans i5
   have zc6 := (hSw.cell (p := ⟨rb, rn, none⟩) yr).trans xr
   have zc7 := (hSw.cell (p := ⟨rb, an, none⟩) yr).trans xa
   have zc8 := (hSw.cell (p := ⟨rb, bn, none⟩) yr).trans xb
   go_simp
   try rfl
  try simp only [Act.put, sT, sZ, sS]
  refine' wpAnyL_take (i := 10) (oi := ⟨some 150, _, _, _, _, _⟩) (v := _) rfl (by kernel_rfl) (by kernel_rfl) (by kernel_rfl) (by kernel_rfl) (fun _ _ _ h => h) hH0 (by rfl) ?hyv ?o73
  case hyv =>
   intro wz hSw
   go_simp
   try rfl
  try simp only [Act.put, sT, sZ, sS]
  refine' wpAnyL_take (i := 11) (oi := ⟨some 151, _, _, _, _, _⟩) (v := _) rfl (by kernel_rfl) (by kernel_rfl) (by kernel_rfl) (by kernel_rfl) (fun _ _ _ h => h) hH0 (by rfl) ?hyv ?o74
  case hyv =>
   intro wz hSw
   go_simp
   try rfl
  try simp only [Act.put, sT, sZ, sS]
  refine' wpAnyL_take (i := 12) (oi := ⟨some 152, _, _, _, _, _⟩) (v := _) rfl (by kernel_rfl) (by kernel_rfl) (by kernel_rfl) (by kernel_rfl) (fun _ _ _ h => h) hH0 (by rfl) ?hyv ?o75
  case hyv =>
   intro wz hSw
   have zc0 := (hSw.cell (p := ⟨w.heap.size, 0, none⟩) yB).trans i0
   have zc1 := (hSw.cell (p := ⟨w.heap.size, 1, none⟩) yB).trans i1
   have zc2 := (hSw.cell (p := ⟨w.heap.size, 2, none⟩) yB).trans i2
   have zc3 := (hSw.cell (p := ⟨w.heap.size, 3, none⟩) yB).trans i3
   have zc4 := (hSw.cell (p := ⟨w.heap.size, 4, none⟩) yB).trans i4
   have zc5 := (hSw.cell (p := ⟨w.heap.size, 5, none⟩) yB).trans i5
   have zc6 := (hSw.cell (p := ⟨rb, rn, none⟩) yr).trans xr
   have zc7 := (hSw.cell (p := ⟨rb, an, none⟩) yr).trans xa
   have zc8 := (hSw.cell (p := ⟨rb, bn, none⟩) yr).trans xb
   go_simp
   try rfl
  try simp only [Act.put, sT, sZ, sS]
  refine' wpAnyL_take (i := 13) (oi := ⟨some 153, _, _, _, _, _⟩) (v := _) rfl (by kernel_rfl) (by kernel_rfl) (by kernel_rfl) (by kernel_rfl) (fun _ _ _ h => h) hH0 (by rfl) ?hyv ?o76
  case hyv =>
   intro wz hSw
   go_simp
   try rfl
  try simp only [Act.put, sT, sZ, sS]
  refine' wpAnyL_take (i := 14) (oi := ⟨some 154, _, _, _, _, _⟩) (v := _) rfl (by kernel_rfl) (by kernel_rfl) (by kernel_rfl) (by kernel_rfl) (fun _ _ _ h => h) hH0 (by rfl) ?hyv ?o77
  case hyv =>
   intro wz hSw
   have zc0 := (hSw.cell (p := ⟨w.heap.size, 0, none⟩) yB).trans i0
   have zc1 := (hSw.cell (p := ⟨w.heap.size, 1, none⟩) yB).trans i1
   have zc2 := (hSw.cell (p := ⟨w.heap.size, 2, none⟩) yB).trans i2
   have zc3 := (hSw.cell (p := ⟨w.heap.size, 3, none⟩) yB).trans i3
   have zc4 := (hSw.cell (p := ⟨w.heap.size, 4, none⟩) yB).trans i4
   have zc5 := (hSw.cell (p := ⟨w.heap.size, 5, none⟩) yB).trans i5
   have zc6 := (hSw.cell (p := ⟨rb, rn, none⟩) yr).trans xr
   have zc7 := (hSw.cell (p := ⟨rb, an, none⟩) yr).trans xa
   have zc8 := (hSw.cell (p := ⟨rb, bn, none⟩) yr).trans xb
   go_simp
   try rfl
  try simp only [Act.put, sT, sZ, sS]
  refine wpAnyL_one (i := 15) (o := _) rfl (by kernel_rfl) (by rfl) (fun K hK => ?_)
  go_simp
  refine (hAp.out wd0).mono ?_
  rintro eq wd1 ⟨rfl, bq1⟩
  have hH1 : Below w2.heap.size w2 wd1 := hH0.trans (bq1.mono hH0.size)
  refine hK.out _ _ (fun _ => hH1) ?_
  clear hK K
  try simp only [Act.put, sT, sZ, sS]
  refine' wpAnyL_take (i := 16) (oi := ⟨some 156, _, _, _, _, _⟩) (v := _) rfl (by kernel_rfl) (by kernel_rfl) (by kernel_rfl) (by kernel_rfl) (fun _ _ _ h => h) hH1 (by rfl) ?hyv ?o78
  case hyv =>
   intro wz hSw
   go_simp
   try rfl
  try simp only [Act.put, sT, sZ, sS]
  refine wpAnyL_one (i := 17) (o := _) rfl (by kernel_rfl) (by rfl) (fun K hK => ?_)
  have kX := hx2.under hH1
  have fr := kX.free rn
  have st0 := kX.at (i := rn) hr
  go_simp
  have hq : Aside [gb, rb, cb] wd1.heap.size wd1 (wd1.setCell ⟨rb, rn, none⟩ (.int .i64 z)) := Aside.setCell (by simp) _
  have hA2 : Aside [gb, rb, cb] w2.heap.size w2 (wd1.setCell ⟨rb, rn, none⟩ (.int .i64 z)) := (aside hH1).trans hq hH1.size
  have kE := kX.put rn z
  have kM := (hm2.under hH1).keep (w' := wd1.setCell ⟨rb, rn, none⟩ (.int .i64 z)) (heap_set_other wd1 ⟨rb, rn, none⟩ _ (by show rb ≠ cb; exact n3))
  have kG := (hg2.keep (hH1.block _ yg)).keep (w' := wd1.setCell ⟨rb, rn, none⟩ (.int .i64 z)) (heap_set_other wd1 ⟨rb, rn, none⟩ _ (by show rb ≠ gb; exact n1.symm))
  refine hK.out _ _ (fun h => absurd h (by decide)) ?_
  clear hK K kX fr st0 hq
  try simp only [Act.put, sT, sZ, sS]
  generalize wd1.setCell ⟨rb, rn, none⟩ (.int .i64 z) = wd2 at hA2 kE kM kG ⊢
  have hH2 := hA2
  refine wpAnyL_done (by kernel_rfl) ?_ _
  rw [← HXX.out] at kE
  rw [← HMM.out] at kM
  go_wp2
  go_ret
  exact ⟨rfl, kG, kE, kM, A2.trans hH2 A2.size⟩
end Dx
end Go.Proofs.YtkgbmgpdehmiiaaDoor
