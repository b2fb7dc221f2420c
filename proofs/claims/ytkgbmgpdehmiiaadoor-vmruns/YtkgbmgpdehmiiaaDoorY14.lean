import Derived.Test.YtkgbmgpdehmiiaaDoorY13
import Derived.WalkKit
import Derived.WalkSpells
import Derived.IntWalk
import Derived.Deep.Cut
import Derived.Deep.LoopGhost
import Derived.Laws.Cover1
import Derived.Lib.Hide
set_option linter.unusedVariables false
set_option linter.unusedSimpArgs false
set_option maxHeartbeats 64000000
set_option maxRecDepth 100000
namespace Go.Proofs.YtkgbmgpdehmiiaaDoor
open Go.RowKit Go.IntWalk
set_option linter.unusedVariables false
set_option linter.unusedSimpArgs false
namespace Dx
set_option maxHeartbeats 8000000 in
theorem done3_any {w : World} {gb rb cb nc cc nr cr : Nat} {v0 v1 v2 v3 v4 v5 v6 : Value} {X M : List Int} {st : Int} (hg : GAt w gb cb nc cc v0 v1 v2 v3 v4 v5 v6 st) (hx : LX w rb X) (hm : LX w cb M) (hnr : nr = X.length) (hnc : nc ≤ M.length) (hX : X.length ≤ 40) (hM : nc ≤ 6000) (n1 : gb ≠ rb) (n2 : gb ≠ cb) (n3 : rb ≠ cb) (kk : Int) (rn : Nat) (hr : rn < X.length) (bq : Int) (nn p : Nat) (an : Nat) (ha : an < X.length) (hp : X[an] = (p : Int)) (hpb : (p : Int) < bq) (hpm : nn + p < M.length) (hpm2 : nn + p < nc) : Calls Tryd.prog 43 #[.pointer (some ⟨gb, 0, none⟩), .agg #[.int .i64 3, .int .i64 kk, .int .i64 (rn : Int), .int .i64 (an : Int), .int .i64 bq, .int .i64 (nn : Int)], .slice (some ⟨rb, 0, none⟩) nr cr] w (DOneP w gb rb cb nc cc v0 v1 v2 v3 v4 v5 v6 st (X.set rn M[nn + p]) (M)) := by
 have b1 : Below w.heap.size w (w.alloc (.cells #[.int .i64 3, .int .i64 kk, .int .i64 (rn : Int), .int .i64 (an : Int), .int .i64 bq, .int .i64 (nn : Int)] 52 (0, 0))) := (Below.refl _ _).alloc (Nat.le_refl _) _
 have kB := heap_new w (.cells #[.int .i64 3, .int .i64 kk, .int .i64 (rn : Int), .int .i64 (an : Int), .int .i64 bq, .int .i64 (nn : Int)] 52 (0, 0))
 have ygw := lt_of hg
 have yrw := hx.lt
 have ycw := hm.lt
 have HNR := hide hnr
 have HNC := hide hnc
 clear hnr hnc
 have hx1 := hx.under b1
 have hm1 := hm.under b1
 have kg := (b1.block _ ygw).trans (show w.heap[gb]? = some (.cells #[v0, v1, v2, v3, v4, v5, v6, .slice (some ⟨cb, 0, none⟩) nc cc, .int .i64 st] 46 (0, 0)) from hg)
 obtain ⟨XX, hXX⟩ : ∃ z, z = (X.set rn M[nn + p]) := ⟨_, rfl⟩
 obtain ⟨MM, hMM⟩ : ∃ z, z = (M) := ⟨_, rfl⟩
 suffices hh : Calls Tryd.prog 43 #[.pointer (some ⟨gb, 0, none⟩), .agg #[.int .i64 3, .int .i64 kk, .int .i64 (rn : Int), .int .i64 (an : Int), .int .i64 bq, .int .i64 (nn : Int)], .slice (some ⟨rb, 0, none⟩) nr cr] w (DOneP w gb rb cb nc cc v0 v1 v2 v3 v4 v5 v6 st XX MM) by
  rw [hXX, hMM] at hh
  exact hh
 have HXX := hide hXX
 have HMM := hide hMM
 clear hg hx hm hXX hMM
 go_enter Tryd.func43, Tryd.ntmps43
 go_upto_region 1 with fail
 generalize w.alloc (.cells #[.int .i64 3, .int .i64 kk, .int .i64 (rn : Int), .int .i64 (an : Int), .int .i64 bq, .int .i64 (nn : Int)] 52 (0, 0)) = w1 at b1 kB hx1 hm1 kg ⊢
 have s8 := cell_of kg 8
 have f8 := free_of kg 8
 simp at s8
 have y1 := b1.size
 have yB := lt_of kB
 go_cut [] (fun wd => GAt wd gb cb nc cc v0 v1 v2 v3 v4 v5 v6 (wrap64 (st + 1)) ∧ LX wd rb X ∧ LX wd cb M ∧ wd.heap[w.heap.size]? = some (.cells #[.int .i64 3, .int .i64 kk, .int .i64 (rn : Int), .int .i64 (an : Int), .int .i64 bq, .int .i64 (nn : Int)] 52 (0, 0)) ∧ Aside [gb] w1.heap.size w1 wd)
 case first =>
  go_wp2_with fail
  go_meet
  case rel =>
   have a2 : ∀ u, Aside [gb] w1.heap.size w1 (w1.setCell ⟨gb, 8, none⟩ u) := fun u => Aside.setCell (p := ⟨gb, 8, none⟩) (by simp) u
   exact ⟨by have := set_in kg 8 (.int .i64 (wrap64 (st + 1))); simpa [GAt] using this, hx1.keep ((a2 _).block _ (by omega) (by simpa using n1.symm)), hm1.keep ((a2 _).block _ (by omega) (by simpa using n2.symm)), ((a2 _).block _ yB (by simp; omega)).trans kB, a2 _⟩
 case rest =>
  obtain ⟨hg2, hx2, hm2, kB2, a2⟩ := hcut
  clear kB hx1 hm1 kg s8 f8 yB
  obtain ⟨w2, hw2⟩ : ∃ x, x = wc := ⟨_, rfl⟩
  subst hw2
  have kg2 : w2.heap[gb]? = some (.cells #[v0, v1, v2, v3, v4, v5, v6, .slice (some ⟨cb, 0, none⟩) nc cc, .int .i64 (wrap64 (st + 1))] 46 (0, 0)) := hg2
  have yB := lt_of kB2
  have yg := lt_of kg2
  have yr := hx2.lt
  have yc := hm2.lt
  have i0 := cell_of kB2 0
  have i1 := cell_of kB2 1
  have i2 := cell_of kB2 2
  have i3 := cell_of kB2 3
  have i4 := cell_of kB2 4
  have i5 := cell_of kB2 5
  have g7 := cell_of kg2 7
  simp at i0 i1 i2 i3 i4 i5 g7
  have xr := hx2.at hr
  have A2 : Aside [gb, rb, cb] w.heap.size w w2 := ((aside b1).trans (a2.wide (fun _ _ h => by simp at h ⊢; exact h.1)) b1.size)
  have hnr := HNR.out
  have hnc := HNC.out
  have hrn : (rn : Int) < (nr : Int) := by omega
  clear HNR HNC
  clear kB2 a2 b1 y1 kg2
  have xa := hx2.at ha
  have han : (an : Int) < (nr : Int) := by omega
  rw [hp] at xa
  have hpb2 : ¬ (p : Int) ≥ bq := by omega
  have hpn : ¬ (p : Int) < 0 := by omega
  have hidx : ((nn + p : Nat) : Int) < (nc : Int) := by omega
  have hidx4 : 0 ≤ (nn : Int) + (p : Int) ∧ (nn : Int) + (p : Int) < (nc : Int) := by omega
  have hidx3 : ((nn : Int) + (p : Int)).toNat = nn + p := by omega
  have hw1 : IntKind.i64.wrap ((nn : Int) + (p : Int)) = (nn : Int) + (p : Int) := i64_in _ (by omega)
  have hw2 : wrap64 ((nn : Int) + (p : Int)) = (nn : Int) + (p : Int) := Em.small64 (by omega)
  clear hnr hnc
  have mc := hm2.at hpm
  generalize M[nn + p] = y at mc HXX
  go_upto_region 10 with fail
  refine wp_region_late (fun w' => Below w2.heap.size w2 w') (fun _ => false) (by kernel_rfl) ?_
  have hH0 : Below w2.heap.size w2 w2.drew := (Below.refl _ _).drew
  generalize w2.drew = wd0 at hH0 ⊢
  refine' wpAnyL_take (i := 0) (oi := ⟨some 54, _, _, _, _, _⟩) (v := _) rfl (by kernel_rfl) (by kernel_rfl) (by kernel_rfl) (by kernel_rfl) (fun _ _ _ h => h) hH0 (by rfl) ?hyv ?o1
  case hyv =>
   intro wz hSw
   go_simp
   try rfl
  try simp only [Act.put, sT, sZ, sS]
  refine' wpAnyL_take (i := 1) (oi := ⟨some 55, _, _, _, _, _⟩) (v := _) rfl (by kernel_rfl) (by kernel_rfl) (by kernel_rfl) (by kernel_rfl) (fun _ _ _ h => h) hH0 (by rfl) ?hyv ?o2
  case hyv =>
   intro wz hSw
   go_simp
   try rfl
  try simp only [Act.put, sT, sZ, sS]
  refine' wpAnyL_take (i := 2) (oi := ⟨some 56, _, _, _, _, _⟩) (v := _) rfl (by kernel_rfl) (by kernel_rfl) (by kernel_rfl) (by kernel_rfl) (fun _ _ _ h => h) hH0 (by rfl) ?hyv ?o3
  case hyv =>
   intro wz hSw
   have zc0 := (hSw.cell (p := ⟨w.heap.size, 0, none⟩) yB).trans i0
   have zc1 := (hSw.cell (p := ⟨w.heap.size, 1, none⟩) yB).trans i1
   have zc2 := (hSw.cell (p := ⟨w.heap.size, 2, none⟩) yB).trans i2
   have zc3 := (hSw.cell (p := ⟨w.heap.size, 3, none⟩) yB).trans i3
   have zc4 := (hSw.cell (p := ⟨w.heap.size, 4, none⟩) yB).trans i4
   have zc5 := (hSw.cell (p := ⟨w.heap.size, 5, none⟩) yB).trans i5
   have zc6 := (hSw.cell (p := ⟨rb, rn, none⟩) yr).trans xr
   have zc7 := (hSw.cell (p := ⟨rb, an, none⟩) yr).trans xa
   go_simp
   try rfl
  try simp only [Act.put, sT, sZ, sS]
  refine' wpAnyL_take (i := 3) (oi := ⟨some 57, _, _, _, _, _⟩) (v := _) rfl (by kernel_rfl) (by kernel_rfl) (by kernel_rfl) (by kernel_rfl) (fun _ _ _ h => h) hH0 (by rfl) ?hyv ?o4
  case hyv =>
   intro wz hSw
   go_simp
   try rfl
  try simp only [Act.put, sT, sZ, sS]
  refine' wpAnyL_take (i := 4) (oi := ⟨some 58, _, _, _, _, _⟩) (v := _) rfl (by kernel_rfl) (by kernel_rfl) (by kernel_rfl) (by kernel_rfl) (fun _ _ _ h => h) hH0 (by rfl) ?hyv ?o5
  case hyv =>
   intro wz hSw
   have zc0 := (hSw.cell (p := ⟨w.heap.size, 0, none⟩) yB).trans i0
   have zc1 := (hSw.cell (p := ⟨w.heap.size, 1, none⟩) yB).trans i1
   have zc2 := (hSw.cell (p := ⟨w.heap.size, 2, none⟩) yB).trans i2
   have zc3 := (hSw.cell (p := ⟨w.heap.size, 3, none⟩) yB).trans i3
   have zc4 := (hSw.cell (p := ⟨w.heap.size, 4, none⟩) yB).trans i4
   have zc5 := (hSw.cell (p := ⟨w.heap.size, 5, none⟩) yB).trans i5
   have zc6 := (hSw.cell (p := ⟨rb, rn, none⟩) yr).trans xr
   have zc7 := (hSw.cell (p := ⟨rb, an, none⟩) yr).trans xa
   go_simp
   try rfl
  try simp only [Act.put, sT, sZ, sS]
  refine' wpAnyL_take (i := 5) (oi := ⟨some 59, _, _, _, _, _⟩) (v := _) rfl (by kernel_rfl) (by kernel_rfl) (by kernel_rfl) (by kernel_rfl) (fun _ _ _ h => h) hH0 (by rfl) ?hyv ?o6
  case hyv =>
   intro wz hSw
   go_simp
   try rfl
  try simp only [Act.put, sT, sZ, sS]
  refine' wpAnyL_take (i := 6) (oi := ⟨some 60, _, _, _, _, _⟩) (v := _) rfl (by kernel_rfl) (by kernel_rfl) (by kernel_rfl) (by kernel_rfl) (fun _ _ _ h => h) hH0 (by rfl) ?hyv ?o7
  case hyv =>
   intro wz hSw
   go_simp
   try rfl
  try simp only [Act.put, sT, sZ, sS]
  refine' wpAnyL_take (i := 7) (oi := ⟨some 61, _, _, _, _, _⟩) (v := _) rfl (by kernel_rfl) (by kernel_rfl) (by kernel_rfl) (by kernel_rfl) (fun _ _ _ h => h) hH0 (by rfl) ?hyv ?o8
  case hyv =>
   intro wz hSw
   go_simp
   try rfl
  try simp only [Act.put, sT, sZ, sS]
  refine' wpAnyL_take (i := 8) (oi := ⟨some 62, _, _, _, _, _⟩) (v := _) rfl (by kernel_rfl) (by kernel_rfl) (by kernel_rfl) (by kernel_rfl) (fun _ _ _ h => h) hH0 (by rfl) ?hyv ?o9
  case hyv =>
   intro wz hSw
   go_simp
   try rfl
  try simp only [Act.put, sT, sZ, sS]
  refine' wpAnyL_take (i := 9) (oi := ⟨some 63, _, _, _, _, _⟩) (v := _) rfl (by kernel_rfl) (by kernel_rfl) (by kernel_rfl) (by kernel_rfl) (fun _ _ _ h => h) hH0 (by rfl) ?hyv ?o10
  case hyv =>
   intro wz hSw
   have zc0 := (hSw.cell (p := ⟨w.heap.size, 0, none⟩) yB).trans i0
   have zc1 := (hSw.cell (p := ⟨w.heap.size, 1, none⟩) yB).trans i1
   have zc2 := (hSw.cell (p := ⟨w.heap.size, 2, none⟩) yB).trans i2
   have zc3 := (hSw.cell (p := ⟨w.heap.size, 3, none⟩) yB).trans i3
   have zc4 := (hSw.cell (p := ⟨w.heap.size, 4, none⟩) yB).trans i4
   have zc5 := (hSw.cell (p := ⟨w.heap.size, 5, none⟩) yB).trans i5
   have zc6 := (hSw.cell (p := ⟨rb, rn, none⟩) yr).trans xr
   have zc7 := (hSw.cell (p := ⟨rb, an, none⟩) yr).trans xa
   go_simp
   try rfl
  try simp only [Act.put, sT, sZ, sS]
  refine' wpAnyL_take (i := 10) (oi := ⟨some 64, _, _, _, _, _⟩) (v := _) rfl (by kernel_rfl) (by kernel_rfl) (by kernel_rfl) (by kernel_rfl) (fun _ _ _ h => h) hH0 (by rfl) ?hyv ?o11
  case hyv =>
   intro wz hSw
   go_simp
   try rfl
  try simp only [Act.put, sT, sZ, sS]
  refine' wpAnyL_take (i := 11) (oi := ⟨some 65, _, _, _, _, _⟩) (v := _) rfl (by kernel_rfl) (by kernel_rfl) (by kernel_rfl) (by kernel_rfl) (fun _ _ _ h => h) hH0 (by rfl) ?hyv ?o12
  case hyv =>
   intro wz hSw
   have zc0 := (hSw.cell (p := ⟨w.heap.size, 0, none⟩) yB).trans i0
   have zc1 := (hSw.cell (p := ⟨w.heap.size, 1, none⟩) yB).trans i1
   have zc2 := (hSw.cell (p := ⟨w.heap.size, 2, none⟩) yB).trans i2
   have zc3 := (hSw.cell (p := ⟨w.heap.size, 3, none⟩) yB).trans i3
   have zc4 := (hSw.cell (p := ⟨w.heap.size, 4, none⟩) yB).trans i4
   have zc5 := (hSw.cell (p := ⟨w.heap.size, 5, none⟩) yB).trans i5
   have zc6 := (hSw.cell (p := ⟨rb, rn, none⟩) yr).trans xr
   have zc7 := (hSw.cell (p := ⟨rb, an, none⟩) yr).trans xa
   go_simp
   try rfl
  try simp only [Act.put, sT, sZ, sS]
  refine' wpAnyL_take (i := 12) (oi := ⟨some 66, _, _, _, _, _⟩) (v := _) rfl (by kernel_rfl) (by kernel_rfl) (by kernel_rfl) (by kernel_rfl) (fun _ _ _ h => h) hH0 (by rfl) ?hyv ?o13
  case hyv =>
   intro wz hSw
   go_simp
   try rfl
  try simp only [Act.put, sT, sZ, sS]
  refine' wpAnyL_take (i := 13) (oi := ⟨some 67, _, _, _, _, _⟩) (v := _) rfl (by kernel_rfl) (by kernel_rfl) (by kernel_rfl) (by kernel_rfl) (fun _ _ _ h => h) hH0 (by rfl) ?hyv ?o14
  case hyv =>
   intro wz hSw
   have zc0 := (hSw.cell (p := ⟨w.heap.size, 0, none⟩) yB).trans i0
   have zc1 := (hSw.cell (p := ⟨w.heap.size, 1, none⟩) yB).trans i1
   have zc2 := (hSw.cell (p := ⟨w.heap.size, 2, none⟩) yB).trans i2
   have zc3 := (hSw.cell (p := ⟨w.heap.size, 3, none⟩) yB).trans i3
   have zc4 := (hSw.cell (p := ⟨w.heap.size, 4, none⟩) yB).trans i4
   have zc5 := (hSw.cell (p := ⟨w.heap.size, 5, none⟩) yB).trans i5
   have zc6 := (hSw.cell (p := ⟨rb, rn, none⟩) yr).trans xr
   have zc7 := (hSw.cell (p := ⟨rb, an, none⟩) yr).trans xa
   go_simp
   try rfl
  try simp only [Act.put, sT, sZ, sS]
  refine' wpAnyL_take (i := 14) (oi := ⟨some 68, _, _, _, _, _⟩) (v := _) rfl (by kernel_rfl) (by kernel_rfl) (by kernel_rfl) (by kernel_rfl) (fun _ _ _ h => h) hH0 (by rfl) ?hyv ?o15
  case hyv =>
   intro wz hSw
   go_simp
   try rfl
  try simp only [Act.put, sT, sZ, sS]
  refine' wpAnyL_take (i := 15) (oi := ⟨some 69, _, _, _, _, _⟩) (v := _) rfl (by kernel_rfl) (by kernel_rfl) (by kernel_rfl) (by kernel_rfl) (fun _ _ _ h => h) hH0 (by rfl) ?hyv ?o16
  case hyv =>
   intro wz hSw
   go_simp
   try rfl
  try simp only [Act.put, sT, sZ, sS]
  refine wpAnyL_done (by kernel_rfl) ?_ _
  have bc := hH0
  have hx3 := hx2.under bc
  have hm3 := hm2.under bc
  have hg3 := hg2.keep (bc.block _ yg)
  have A3 := A2.trans (aside (S := [gb, rb, cb]) bc) A2.size
  have i0' := (bc.cell (p := ⟨w.heap.size, 0, none⟩) yB).trans i0
  have i1' := (bc.cell (p := ⟨w.heap.size, 1, none⟩) yB).trans i1
  have i2' := (bc.cell (p := ⟨w.heap.size, 2, none⟩) yB).trans i2
  have i3' := (bc.cell (p := ⟨w.heap.size, 3, none⟩) yB).trans i3
  have i4' := (bc.cell (p := ⟨w.heap.size, 4, none⟩) yB).trans i4
  have i5' := (bc.cell (p := ⟨w.heap.size, 5, none⟩) yB).trans i5
  have g7' := (bc.cell (p := ⟨gb, 7, none⟩) yg).trans g7
  have xr' := (bc.cell (p := ⟨rb, rn, none⟩) yr).trans xr
  have xa' := (bc.cell (p := ⟨rb, an, none⟩) yr).trans xa
  have mc' := (bc.cell (p := ⟨cb, nn + p, none⟩) yc).trans mc
  have yB' := Nat.lt_of_lt_of_le yB bc.size
  have yg' := Nat.lt_of_lt_of_le yg bc.size
  have yr' := Nat.lt_of_lt_of_le yr bc.size
  have yc' := Nat.lt_of_lt_of_le yc bc.size
  clear hx2 hm2 hg2 A2 i0 i1 i2 i3 i4 i5 g7 xr xa mc yB yg yr yc bc
  obtain ⟨w3, hw3⟩ : ∃ x, x = wd0 := ⟨_, rfl⟩
  subst hw3
  go_upto_region 12 with fail
  refine wp_region_late (fun w' => Below w3.heap.size w3 w') (fun i => i == 18) (by kernel_rfl) ?_
  have hH0 : Below w3.heap.size w3 w3.drew := (Below.refl _ _).drew
  generalize w3.drew = wd0 at hH0 ⊢
  refine' wpAnyL_take (i := 0) (oi := ⟨some 70, _, _, _, _, _⟩) (v := _) rfl (by kernel_rfl) (by kernel_rfl) (by kernel_rfl) (by kernel_rfl) (fun _ _ _ h => h) hH0 (by rfl) ?hyv ?o17
  case hyv =>
   intro wz hSw
   go_simp
   try rfl
  try simp only [Act.put, sT, sZ, sS]
  refine' wpAnyL_take (i := 1) (oi := ⟨some 71, _, _, _, _, _⟩) (v := _) rfl (by kernel_rfl) (by kernel_rfl) (by kernel_rfl) (by kernel_rfl) (fun _ _ _ h => h) hH0 (by rfl) ?hyv ?o18
  case hyv =>
   intro wz hSw
   go_simp
   try rfl
  try simp only [Act.put, sT, sZ, sS]
  refine' wpAnyL_take (i := 2) (oi := ⟨some 72, _, _, _, _, _⟩) (v := _) rfl (by kernel_rfl) (by kernel_rfl) (by kernel_rfl) (by kernel_rfl) (fun _ _ _ h => h) hH0 (by rfl) ?hyv ?o19
  case hyv =>
   intro wz hSw
   have zc0 := (hSw.cell (p := ⟨w.heap.size, 0, none⟩) yB').trans i0'
   have zc1 := (hSw.cell (p := ⟨w.heap.size, 1, none⟩) yB').trans i1'
   have zc2 := (hSw.cell (p := ⟨w.heap.size, 2, none⟩) yB').trans i2'
   have zc3 := (hSw.cell (p := ⟨w.heap.size, 3, none⟩) yB').trans i3'
   have zc4 := (hSw.cell (p := ⟨w.heap.size, 4, none⟩) yB').trans i4'
   have zc5 := (hSw.cell (p := ⟨w.heap.size, 5, none⟩) yB').trans i5'
   have zc6 := (hSw.cell (p := ⟨rb, rn, none⟩) yr').trans xr'
   have zc7 := (hSw.cell (p := ⟨rb, an, none⟩) yr').trans xa'
   have zc8 := (hSw.cell (p := ⟨gb, 7, none⟩) yg').trans g7'
   have zc9 := (hSw.cell (p := ⟨cb, nn + p, none⟩) yc').trans mc'
   go_simp
   try rfl
  try simp only [Act.put, sT, sZ, sS]
  refine' wpAnyL_take (i := 3) (oi := ⟨some 73, _, _, _, _, _⟩) (v := _) rfl (by kernel_rfl) (by kernel_rfl) (by kernel_rfl) (by kernel_rfl) (fun _ _ _ h => h) hH0 (by rfl) ?hyv ?o20
  case hyv =>
   intro wz hSw
   go_simp
   try rfl
  try simp only [Act.put, sT, sZ, sS]
  refine' wpAnyL_take (i := 4) (oi := ⟨some 74, _, _, _, _, _⟩) (v := _) rfl (by kernel_rfl) (by kernel_rfl) (by kernel_rfl) (by kernel_rfl) (fun _ _ _ h => h) hH0 (by rfl) ?hyv ?o21
  case hyv =>
   intro wz hSw
   go_simp
   try rfl
  try simp only [Act.put, sT, sZ, sS]
  refine' wpAnyL_take (i := 5) (oi := ⟨some 75, _, _, _, _, _⟩) (v := _) rfl (by kernel_rfl) (by kernel_rfl) (by kernel_rfl) (by kernel_rfl) (fun _ _ _ h => h) hH0 (by rfl) ?hyv ?o22
  case hyv =>
   intro wz hSw
   go_simp
   try rfl
  try simp only [Act.put, sT, sZ, sS]
  refine' wpAnyL_take (i := 6) (oi := ⟨some 76, _, _, _, _, _⟩) (v := _) rfl (by kernel_rfl) (by kernel_rfl) (by kernel_rfl) (by kernel_rfl) (fun _ _ _ h => h) hH0 (by rfl) ?hyv ?o23
  case hyv =>
   intro wz hSw
   have zc0 := (hSw.cell (p := ⟨w.heap.size, 0, none⟩) yB').trans i0'
   have zc1 := (hSw.cell (p := ⟨w.heap.size, 1, none⟩) yB').trans i1'
   have zc2 := (hSw.cell (p := ⟨w.heap.size, 2, none⟩) yB').trans i2'
   have zc3 := (hSw.cell (p := ⟨w.heap.size, 3, none⟩) yB').trans i3'
   have zc4 := (hSw.cell (p := ⟨w.heap.size, 4, none⟩) yB').trans i4'
   have zc5 := (hSw.cell (p := ⟨w.heap.size, 5, none⟩) yB').trans i5'
   have zc6 := (hSw.cell (p := ⟨rb, rn, none⟩) yr').trans xr'
   have zc7 := (hSw.cell (p := ⟨rb, an, none⟩) yr').trans xa'
   have zc8 := (hSw.cell (p := ⟨gb, 7, none⟩) yg').trans g7'
   have zc9 := (hSw.cell (p := ⟨cb, nn + p, none⟩) yc').trans mc'
   go_simp
   try rfl
  try simp only [Act.put, sT, sZ, sS]
  refine' wpAnyL_take (i := 7) (oi := ⟨some 77, _, _, _, _, _⟩) (v := _) rfl (by kernel_rfl) (by kernel_rfl) (by kernel_rfl) (by kernel_rfl) (fun _ _ _ h => h) hH0 (by rfl) ?hyv ?o24
  case hyv =>
   intro wz hSw
   go_simp
   try rfl
  try simp only [Act.put, sT, sZ, sS]
  refine' wpAnyL_take (i := 8) (oi := ⟨some 78, _, _, _, _, _⟩) (v := _) rfl (by kernel_rfl) (by kernel_rfl) (by kernel_rfl) (by kernel_rfl) (fun _ _ _ h => h) hH0 (by rfl) ?hyv ?o25
  case hyv =>
   intro wz hSw
   have zc0 := (hSw.cell (p := ⟨w.heap.size, 0, none⟩) yB').trans i0'
   have zc1 := (hSw.cell (p := ⟨w.heap.size, 1, none⟩) yB').trans i1'
   have zc2 := (hSw.cell (p := ⟨w.heap.size, 2, none⟩) yB').trans i2'
   have zc3 := (hSw.cell (p := ⟨w.heap.size, 3, none⟩) yB').trans i3'
   have zc4 := (hSw.cell (p := ⟨w.heap.size, 4, none⟩) yB').trans i4'
   have zc5 := (hSw.cell (p := ⟨w.heap.size, 5, none⟩) yB').trans i5'
   have zc6 := (hSw.cell (p := ⟨rb, rn, none⟩) yr').trans xr'
   have zc7 := (hSw.cell (p := ⟨rb, an, none⟩) yr').trans xa'
   have zc8 := (hSw.cell (p := ⟨gb, 7, none⟩) yg').trans g7'
   have zc9 := (hSw.cell (p := ⟨cb, nn + p, none⟩) yc').trans mc'
   go_simp
   try rfl
  try simp only [Act.put, sT, sZ, sS]
  refine' wpAnyL_take (i := 9) (oi := ⟨some 79, _, _, _, _, _⟩) (v := _) rfl (by kernel_rfl) (by kernel_rfl) (by kernel_rfl) (by kernel_rfl) (fun _ _ _ h => h) hH0 (by rfl) ?hyv ?o26
  case hyv =>
   intro wz hSw
   go_simp
   try rfl
  try simp only [Act.put, sT, sZ, sS]
  refine' wpAnyL_take (i := 10) (oi := ⟨some 80, _, _, _, _, _⟩) (v := _) rfl (by kernel_rfl) (by kernel_rfl) (by kernel_rfl) (by kernel_rfl) (fun _ _ _ h => h) hH0 (by rfl) ?hyv ?o27
  case hyv =>
   intro wz hSw
   go_simp
   try rfl
  try simp only [Act.put, sT, sZ, sS]
  refine' wpAnyL_take (i := 11) (oi := ⟨some 81, _, _, _, _, _⟩) (v := _) rfl (by kernel_rfl) (by kernel_rfl) (by kernel_rfl) (by kernel_rfl) (fun _ _ _ h => h) hH0 (by rfl) ?hyv ?o28
  case hyv =>
   intro wz hSw
   have zc0 := (hSw.cell (p := ⟨w.heap.size, 0, none⟩) yB').trans i0'
   have zc1 := (hSw.cell (p := ⟨w.heap.size, 1, none⟩) yB').trans i1'
   have zc2 := (hSw.cell (p := ⟨w.heap.size, 2, none⟩) yB').trans i2'
   have zc3 := (hSw.cell (p := ⟨w.heap.size, 3, none⟩) yB').trans i3'
   have zc4 := (hSw.cell (p := ⟨w.heap.size, 4, none⟩) yB').trans i4'
   have zc5 := (hSw.cell (p := ⟨w.heap.size, 5, none⟩) yB').trans i5'
   have zc6 := (hSw.cell (p := ⟨rb, rn, none⟩) yr').trans xr'
   have zc7 := (hSw.cell (p := ⟨rb, an, none⟩) yr').trans xa'
   have zc8 := (hSw.cell (p := ⟨gb, 7, none⟩) yg').trans g7'
   have zc9 := (hSw.cell (p := ⟨cb, nn + p, none⟩) yc').trans mc'
   go_simp
   try rfl
  try simp only [Act.put, sT, sZ, sS]
  refine' wpAnyL_take (i := 12) (oi := ⟨some 82, _, _, _, _, _⟩) (v := _) rfl (by kernel_rfl) (by kernel_rfl) (by kernel_rfl) (by kernel_rfl) (fun _ _ _ h => h) hH0 (by rfl) ?hyv ?o29
  case hyv =>
   intro wz hSw
   go_simp
   try rfl
  try simp only [Act.put, sT, sZ, sS]
  refine' wpAnyL_take (i := 13) (oi := ⟨some 83, _, _, _, _, _⟩) (v := _) rfl (by kernel_rfl) (by kernel_rfl) (by kernel_rfl) (by kernel_rfl) (fun _ _ _ h => h) hH0 (by rfl) ?hyv ?o30
  case hyv =>
   intro wz hSw
   have zc0 := (hSw.cell (p := ⟨w.heap.size, 0, none⟩) yB').trans i0'
   have zc1 := (hSw.cell (p := ⟨w.heap.size, 1, none⟩) yB').trans i1'
   have zc2 := (hSw.cell (p := ⟨w.heap.size, 2, none⟩) yB').trans i2'
   have zc3 := (hSw.cell (p := ⟨w.heap.size, 3, none⟩) yB').trans i3'
   have zc4 := (hSw.cell (p := ⟨w.heap.size, 4, none⟩) yB').trans i4'
   have zc5 := (hSw.cell (p := ⟨w.heap.size, 5, none⟩) yB').trans i5'
   have zc6 := (hSw.cell (p := ⟨rb, rn, none⟩) yr').trans xr'
   have zc7 := (hSw.cell (p := ⟨rb, an, none⟩) yr').trans xa'
   have zc8 := (hSw.cell (p := ⟨gb, 7, none⟩) yg').trans g7'
   have zc9 := (hSw.cell (p := ⟨cb, nn + p, none⟩) yc').trans mc'
   go_simp
   try rfl
  try simp only [Act.put, sT, sZ, sS]
  refine' wpAnyL_take (i := 14) (oi := ⟨some 84, _, _, _, _, _⟩) (v := _) rfl (by kernel_rfl) (by kernel_rfl) (by kernel_rfl) (by kernel_rfl) (fun _ _ _ h => h) hH0 (by rfl) ?hyv ?o31
  case hyv =>
   intro wz hSw
   go_simp
   try rfl
  try simp only [Act.put, sT, sZ, sS]
  refine' wpAnyL_take (i := 15) (oi := ⟨some 85, _, _, _, _, _⟩) (v := _) rfl (by kernel_rfl) (by kernel_rfl) (by kernel_rfl) (by kernel_rfl) (fun _ _ _ h => h) hH0 (by rfl) ?hyv ?o32
  case hyv =>
   intro wz hSw
   go_simp
   try rfl
  try simp only [Act.put, sT, sZ, sS]
  refine' wpAnyL_take (i := 16) (oi := ⟨some 86, _, _, _, _, _⟩) (v := _) rfl (by kernel_rfl) (by kernel_rfl) (by kernel_rfl) (by kernel_rfl) (fun _ _ _ h => h) hH0 (by rfl) ?hyv ?o33
  case hyv =>
   intro wz hSw
   have zc0 := (hSw.cell (p := ⟨w.heap.size, 0, none⟩) yB').trans i0'
   have zc1 := (hSw.cell (p := ⟨w.heap.size, 1, none⟩) yB').trans i1'
   have zc2 := (hSw.cell (p := ⟨w.heap.size, 2, none⟩) yB').trans i2'
   have zc3 := (hSw.cell (p := ⟨w.heap.size, 3, none⟩) yB').trans i3'
   have zc4 := (hSw.cell (p := ⟨w.heap.size, 4, none⟩) yB').trans i4'
   have zc5 := (hSw.cell (p := ⟨w.heap.size, 5, none⟩) yB').trans i5'
   have zc6 := (hSw.cell (p := ⟨rb, rn, none⟩) yr').trans xr'
   have zc7 := (hSw.cell (p := ⟨rb, an, none⟩) yr').trans xa'
   have zc8 := (hSw.cell (p := ⟨gb, 7, none⟩) yg').trans g7'
   have zc9 := (hSw.cell (p := ⟨cb, nn + p, none⟩) yc').trans mc'
   go_simp
   try rfl
  try simp only [Act.put, sT, sZ, sS]
  refine' wpAnyL_take (i := 17) (oi := ⟨some 87, _, _, _, _, _⟩) (v := _) rfl (by kernel_rfl) (by kernel_rfl) (by kernel_rfl) (by kernel_rfl) (fun _ _ _ h => h) hH0 (by rfl) ?hyv ?o34
  case hyv =>
   intro wz hSw
   go_simp
   try rfl
  try simp only [Act.put, sT, sZ, sS]
  refine wpAnyL_one (i := 18) (o := _) rfl (by kernel_rfl) (by rfl) (fun K hK => ?_)
  have kX := hx3.under hH0
  have fr := kX.free rn
  have st0 := kX.at (i := rn) hr
  go_simp
  have hq : Aside [gb, rb, cb] wd0.heap.size wd0 (wd0.setCell ⟨rb, rn, none⟩ (.int .i64 y)) := Aside.setCell (by simp) _
  have hA1 : Aside [gb, rb, cb] w3.heap.size w3 (wd0.setCell ⟨rb, rn, none⟩ (.int .i64 y)) := (aside hH0).trans hq hH0.size
  have kE := kX.put rn y
  have kM := (hm3.under hH0).keep (w' := wd0.setCell ⟨rb, rn, none⟩ (.int .i64 y)) (heap_set_other wd0 ⟨rb, rn, none⟩ _ (by show rb ≠ cb; exact n3))
  have kG := (hg3.keep (hH0.block _ yg')).keep (w' := wd0.setCell ⟨rb, rn, none⟩ (.int .i64 y)) (heap_set_other wd0 ⟨rb, rn, none⟩ _ (by show rb ≠ gb; exact n1.symm))
  refine hK.out _ _ (fun h => absurd h (by decide)) ?_
  clear hK K kX fr st0 hq
  try simp only [Act.put, sT, sZ, sS]
  generalize wd0.setCell ⟨rb, rn, none⟩ (.int .i64 y) = wd1 at hA1 kE kM kG ⊢
  have hH1 := hA1
  refine wpAnyL_done (by kernel_rfl) ?_ _
  rw [← HXX.out] at kE
  rw [← HMM.out] at kM
  go_wp2
  go_ret
  exact ⟨rfl, kG, kE, kM, A3.trans hH1 A3.size⟩
set_option maxHeartbeats 8000000 in
theorem done5_any {w : World} {gb rb cb nc cc nr cr : Nat} {v0 v1 v2 v3 v4 v5 v6 : Value} {X M : List Int} {st : Int} (hg : GAt w gb cb nc cc v0 v1 v2 v3 v4 v5 v6 st) (hx : LX w rb X) (hm : LX w cb M) (hnr : nr = X.length) (hnc : nc ≤ M.length) (hX : X.length ≤ 40) (hM : nc ≤ 6000) (n1 : gb ≠ rb) (n2 : gb ≠ cb) (n3 : rb ≠ cb) (kk : Int) (rn : Nat) (hr : rn < X.length) (bq : Int) (nn p : Nat) (an : Nat) (ha : an < X.length) (hp : X[an] = (p : Int)) (hpb : (p : Int) < bq) (hpm : nn + p < M.length) (hpm2 : nn + p < nc) : Calls Tryd.prog 43 #[.pointer (some ⟨gb, 0, none⟩), .agg #[.int .i64 5, .int .i64 kk, .int .i64 (rn : Int), .int .i64 (an : Int), .int .i64 bq, .int .i64 (nn : Int)], .slice (some ⟨rb, 0, none⟩) nr cr] w (DOneP w gb rb cb nc cc v0 v1 v2 v3 v4 v5 v6 st (X) (M.set (nn + p) X[rn])) := by
 have b1 : Below w.heap.size w (w.alloc (.cells #[.int .i64 5, .int .i64 kk, .int .i64 (rn : Int), .int .i64 (an : Int), .int .i64 bq, .int .i64 (nn : Int)] 52 (0, 0))) := (Below.refl _ _).alloc (Nat.le_refl _) _
 have kB := heap_new w (.cells #[.int .i64 5, .int .i64 kk, .int .i64 (rn : Int), .int .i64 (an : Int), .int .i64 bq, .int .i64 (nn : Int)] 52 (0, 0))
 have ygw := lt_of hg
 have yrw := hx.lt
 have ycw := hm.lt
 have HNR := hide hnr
 have HNC := hide hnc
 clear hnr hnc
 have hx1 := hx.under b1
 have hm1 := hm.under b1
 have kg := (b1.block _ ygw).trans (show w.heap[gb]? = some (.cells #[v0, v1, v2, v3, v4, v5, v6, .slice (some ⟨cb, 0, none⟩) nc cc, .int .i64 st] 46 (0, 0)) from hg)
 obtain ⟨XX, hXX⟩ : ∃ z, z = (X) := ⟨_, rfl⟩
 obtain ⟨MM, hMM⟩ : ∃ z, z = (M.set (nn + p) X[rn]) := ⟨_, rfl⟩
 suffices hh : Calls Tryd.prog 43 #[.pointer (some ⟨gb, 0, none⟩), .agg #[.int .i64 5, .int .i64 kk, .int .i64 (rn : Int), .int .i64 (an : Int), .int .i64 bq, .int .i64 (nn : Int)], .slice (some ⟨rb, 0, none⟩) nr cr] w (DOneP w gb rb cb nc cc v0 v1 v2 v3 v4 v5 v6 st XX MM) by
  rw [hXX, hMM] at hh
  exact hh
 have HXX := hide hXX
 have HMM := hide hMM
 clear hg hx hm hXX hMM
 go_enter Tryd.func43, Tryd.ntmps43
 go_upto_region 1 with fail
 generalize w.alloc (.cells #[.int .i64 5, .int .i64 kk, .int .i64 (rn : Int), .int .i64 (an : Int), .int .i64 bq, .int .i64 (nn : Int)] 52 (0, 0)) = w1 at b1 kB hx1 hm1 kg ⊢
 have s8 := cell_of kg 8
 have f8 := free_of kg 8
 simp at s8
 have y1 := b1.size
 have yB := lt_of kB
 go_cut [] (fun wd => GAt wd gb cb nc cc v0 v1 v2 v3 v4 v5 v6 (wrap64 (st + 1)) ∧ LX wd rb X ∧ LX wd cb M ∧ wd.heap[w.heap.size]? = some (.cells #[.int .i64 5, .int .i64 kk, .int .i64 (rn : Int), .int .i64 (an : Int), .int .i64 bq, .int .i64 (nn : Int)] 52 (0, 0)) ∧ Aside [gb] w1.heap.size w1 wd)
 case first =>
  go_wp2_with fail
  go_meet
  case rel =>
   have a2 : ∀ u, Aside [gb] w1.heap.size w1 (w1.setCell ⟨gb, 8, none⟩ u) := fun u => Aside.setCell (p := ⟨gb, 8, none⟩) (by simp) u
   exact ⟨by have := set_in kg 8 (.int .i64 (wrap64 (st + 1))); simpa [GAt] using this, hx1.keep ((a2 _).block _ (by omega) (by simpa using n1.symm)), hm1.keep ((a2 _).block _ (by omega) (by simpa using n2.symm)), ((a2 _).block _ yB (by simp; omega)).trans kB, a2 _⟩
 case rest =>
  obtain ⟨hg2, hx2, hm2, kB2, a2⟩ := hcut
  clear kB hx1 hm1 kg s8 f8 yB
  obtain ⟨w2, hw2⟩ : ∃ x, x = wc := ⟨_, rfl⟩
  subst hw2
  have kg2 : w2.heap[gb]? = some (.cells #[v0, v1, v2, v3, v4, v5, v6, .slice (some ⟨cb, 0, none⟩) nc cc, .int .i64 (wrap64 (st + 1))] 46 (0, 0)) := hg2
  have yB := lt_of kB2
  have yg := lt_of kg2
  have yr := hx2.lt
  have yc := hm2.lt
  have i0 := cell_of kB2 0
  have i1 := cell_of kB2 1
  have i2 := cell_of kB2 2
  have i3 := cell_of kB2 3
  have i4 := cell_of kB2 4
  have i5 := cell_of kB2 5
  have g7 := cell_of kg2 7
  simp at i0 i1 i2 i3 i4 i5 g7
  have xr := hx2.at hr
  have A2 : Aside [gb, rb, cb] w.heap.size w w2 := ((aside b1).trans (a2.wide (fun _ _ h => by simp at h ⊢; exact h.1)) b1.size)
  have hnr := HNR.out
  have hnc := HNC.out
  have hrn : (rn : Int) < (nr : Int) := by omega
  clear HNR HNC
  clear kB2 a2 b1 y1 kg2
  have xa := hx2.at ha
  have han : (an : Int) < (nr : Int) := by omega
  rw [hp] at xa
  have hpb2 : ¬ (p : Int) ≥ bq := by omega
  have hpn : ¬ (p : Int) < 0 := by omega
  have hidx : ((nn + p : Nat) : Int) < (nc : Int) := by omega
  have hidx4 : 0 ≤ (nn : Int) + (p : Int) ∧ (nn : Int) + (p : Int) < (nc : Int) := by omega
  have hidx3 : ((nn : Int) + (p : Int)).toNat = nn + p := by omega
  have hw1 : IntKind.i64.wrap ((nn : Int) + (p : Int)) = (nn : Int) + (p : Int) := i64_in _ (by omega)
  have hw2 : wrap64 ((nn : Int) + (p : Int)) = (nn : Int) + (p : Int) := Em.small64 (by omega)
  clear hnr hnc
  generalize X[rn] = y at xr HMM
  go_upto_region 14 with fail
  refine wp_region_late (fun w' => Below w2.heap.size w2 w') (fun _ => false) (by kernel_rfl) ?_
  have hH0 : Below w2.heap.size w2 w2.drew := (Below.refl _ _).drew
  generalize w2.drew = wd0 at hH0 ⊢
  refine' wpAnyL_take (i := 0) (oi := ⟨some 90, _, _, _, _, _⟩) (v := _) rfl (by kernel_rfl) (by kernel_rfl) (by kernel_rfl) (by kernel_rfl) (fun _ _ _ h => h) hH0 (by rfl) ?hyv ?o35
  case hyv =>
   intro wz hSw
   go_simp
   try rfl
  try simp only [Act.put, sT, sZ, sS]
  refine' wpAnyL_take (i := 1) (oi := ⟨some 91, _, _, _, _, _⟩) (v := _) rfl (by kernel_rfl) (by kernel_rfl) (by kernel_rfl) (by kernel_rfl) (fun _ _ _ h => h) hH0 (by rfl) ?hyv ?o36
  case hyv =>
   intro wz hSw
   go_simp
   try rfl
  try simp only [Act.put, sT, sZ, sS]
  refine' wpAnyL_take (i := 2) (oi := ⟨some 92, _, _, _, _, _⟩) (v := _) rfl (by kernel_rfl) (by kernel_rfl) (by kernel_rfl) (by kernel_rfl) (fun _ _ _ h => h) hH0 (by rfl) ?hyv ?o37
  case hyv =>
   intro wz hSw
   have zc0 := (hSw.cell (p := ⟨w.heap.size, 0, none⟩) yB).trans i0
   have zc1 := (hSw.cell (p := ⟨w.heap.size, 1, none⟩) yB).trans i1
   have zc2 := (hSw.cell (p := ⟨w.heap.size, 2, none⟩) yB).trans i2
   have zc3 := (hSw.cell (p := ⟨w.heap.size, 3, none⟩) yB).trans i3
   have zc4 := (hSw.cell (p := ⟨w.heap.size, 4, none⟩) yB).trans i4
   have zc5 := (hSw.cell (p := ⟨w.heap.size, 5, none⟩) yB).trans i5
   have zc6 := (hSw.cell (p := ⟨rb, rn, none⟩) yr).trans xr
   have zc7 := (hSw.cell (p := ⟨rb, an, none⟩) yr).trans xa
   go_simp
   try rfl
  try simp only [Act.put, sT, sZ, sS]
  refine' wpAnyL_take (i := 3) (oi := ⟨some 93, _, _, _, _, _⟩) (v := _) rfl (by kernel_rfl) (by kernel_rfl) (by kernel_rfl) (by kernel_rfl) (fun _ _ _ h => h) hH0 (by rfl) ?hyv ?o38
  case hyv =>
   intro wz hSw
   go_simp
   try rfl
  try simp only [Act.put, sT, sZ, sS]
  refine' wpAnyL_take (i := 4) (oi := ⟨some 94, _, _, _, _, _⟩) (v := _) rfl (by kernel_rfl) (by kernel_rfl) (by kernel_rfl) (by kernel_rfl) (fun _ _ _ h => h) hH0 (by rfl) ?hyv ?o39
  case hyv =>
   intro wz hSw
   have zc0 := (hSw.cell (p := ⟨w.heap.size, 0, none⟩) yB).trans i0
   have zc1 := (hSw.cell (p := ⟨w.heap.size, 1, none⟩) yB).trans i1
   have zc2 := (hSw.cell (p := ⟨w.heap.size, 2, none⟩) yB).trans i2
   have zc3 := (hSw.cell (p := ⟨w.heap.size, 3, none⟩) yB).trans i3
   have zc4 := (hSw.cell (p := ⟨w.heap.size, 4, none⟩) yB).trans i4
   have zc5 := (hSw.cell (p := ⟨w.heap.size, 5, none⟩) yB).trans i5
   have zc6 := (hSw.cell (p := ⟨rb, rn, none⟩) yr).trans xr
   have zc7 := (hSw.cell (p := ⟨rb, an, none⟩) yr).trans xa
   go_simp
   try rfl
  try simp only [Act.put, sT, sZ, sS]
  refine' wpAnyL_take (i := 5) (oi := ⟨some 95, _, _, _, _, _⟩) (v := _) rfl (by kernel_rfl) (by kernel_rfl) (by kernel_rfl) (by kernel_rfl) (fun _ _ _ h => h) hH0 (by rfl) ?hyv ?o40
  case hyv =>
   intro wz hSw
   go_simp
   try rfl
  try simp only [Act.put, sT, sZ, sS]
  refine' wpAnyL_take (i := 6) (oi := ⟨some 96, _, _, _, _, _⟩) (v := _) rfl (by kernel_rfl) (by kernel_rfl) (by kernel_rfl) (by kernel_rfl) (fun _ _ _ h => h) hH0 (by rfl) ?hyv ?o41
  case hyv =>
   intro wz hSw
   go_simp
   try rfl
  try simp only [Act.put, sT, sZ, sS]
  refine' wpAnyL_take (i := 7) (oi := ⟨some 97, _, _, _, _, _⟩) (v := _) rfl (by kernel_rfl) (by kernel_rfl) (by kernel_rfl) (by kernel_rfl) (fun _ _ _ h => h) hH0 (by rfl) ?hyv ?o42
  case hyv =>
   intro wz hSw
   go_simp
   try rfl
  try simp only [Act.put, sT, sZ, sS]
  refine' wpAnyL_take (i := 8) (oi := ⟨some 98, _, _, _, _, _⟩) (v := _) rfl (by kernel_rfl) (by kernel_rfl) (by kernel_rfl) (by kernel_rfl) (fun _ _ _ h => h) hH0 (by rfl) ?hyv ?o43
  case hyv =>
   intro wz hSw
   go_simp
   try rfl
  try simp only [Act.put, sT, sZ, sS]
  refine' wpAnyL_take (i := 9) (oi := ⟨some 99, _, _, _, _, _⟩) (v := _) rfl (by kernel_rfl) (by kernel_rfl) (by kernel_rfl) (by kernel_rfl) (fun _ _ _ h => h) hH0 (by rfl) ?hyv ?o44
  case hyv =>
   intro wz hSw
   have zc0 := (hSw.cell (p := ⟨w.heap.size, 0, none⟩) yB).trans i0
   have zc1 := (hSw.cell (p := ⟨w.heap.size, 1, none⟩) yB).trans i1
   have zc2 := (hSw.cell (p := ⟨w.heap.size, 2, none⟩) yB).trans i2
   have zc3 := (hSw.cell (p := ⟨w.heap.size, 3, none⟩) yB).trans i3
   have zc4 := (hSw.cell (p := ⟨w.heap.size, 4, none⟩) yB).trans i4
   have zc5 := (hSw.cell (p := ⟨w.heap.size, 5, none⟩) yB).trans i5
   have zc6 := (hSw.cell (p := ⟨rb, rn, none⟩) yr).trans xr
   have zc7 := (hSw.cell (p := ⟨rb, an, none⟩) yr).trans xa
   go_simp
   try rfl
  try simp only [Act.put, sT, sZ, sS]
  refine' wpAnyL_take (i := 10) (oi := ⟨some 100, _, _, _, _, _⟩) (v := _) rfl (by kernel_rfl) (by kernel_rfl) (by kernel_rfl) (by kernel_rfl) (fun _ _ _ h => h) hH0 (by rfl) ?hyv ?o45
  case hyv =>
   intro wz hSw
   go_simp
   try rfl
  try simp only [Act.put, sT, sZ, sS]
  refine' wpAnyL_take (i := 11) (oi := ⟨some 101, _, _, _, _, _⟩) (v := _) rfl (by kernel_rfl) (by kernel_rfl) (by kernel_rfl) (by kernel_rfl) (fun _ _ _ h => h) hH0 (by rfl) ?hyv ?o46
  case hyv =>
   intro wz hSw
   have zc0 := (hSw.cell (p := ⟨w.heap.size, 0, none⟩) yB).trans i0
   have zc1 := (hSw.cell (p := ⟨w.heap.size, 1, none⟩) yB).trans i1
   have zc2 := (hSw.cell (p := ⟨w.heap.size, 2, none⟩) yB).trans i2
   have zc3 := (hSw.cell (p := ⟨w.heap.size, 3, none⟩) yB).trans i3
   have zc4 := (hSw.cell (p := ⟨w.heap.size, 4, none⟩) yB).trans i4
   have zc5 := (hSw.cell (p := ⟨w.heap.size, 5, none⟩) yB).trans i5
   have zc6 := (hSw.cell (p := ⟨rb, rn, none⟩) yr).trans xr
   have zc7 := (hSw.cell (p := ⟨rb, an, none⟩) yr).trans xa
   go_simp
   try rfl
  try simp only [Act.put, sT, sZ, sS]
  refine' wpAnyL_take (i := 12) (oi := ⟨some 102, _, _, _, _, _⟩) (v := _) rfl (by kernel_rfl) (by kernel_rfl) (by kernel_rfl) (by kernel_rfl) (fun _ _ _ h => h) hH0 (by rfl) ?hyv ?o47
  case hyv =>
   intro wz hSw
   go_simp
   try rfl
  try simp only [Act.put, sT, sZ, sS]
  refine' wpAnyL_take (i := 13) (oi := ⟨some 103, _, _, _, _, _⟩) (v := _) rfl (by kernel_rfl) (by kernel_rfl) (by kernel_rfl) (by kernel_rfl) (fun _ _ _ h => h) hH0 (by rfl) ?hyv ?o48
  case hyv =>
   intro wz hSw
   have zc0 := (hSw.cell (p := ⟨w.heap.size, 0, none⟩) yB).trans i0
   have zc1 := (hSw.cell (p := ⟨w.heap.size, 1, none⟩) yB).trans i1
   have zc2 := (hSw.cell (p := ⟨w.heap.size, 2, none⟩) yB).trans i2
   have zc3 := (hSw.cell (p := ⟨w.heap.size, 3, none⟩) yB).trans i3
   have zc4 := (hSw.cell (p := ⟨w.heap.size, 4, none⟩) yB).trans i4
   have zc5 := (hSw.cell (p := ⟨w.heap.size, 5, none⟩) yB).trans i5
   have zc6 := (hSw.cell (p := ⟨rb, rn, none⟩) yr).trans xr
   have zc7 := (hSw.cell (p := ⟨rb, an, none⟩) yr).trans xa
   go_simp
   try rfl
  try simp only [Act.put, sT, sZ, sS]
  refine' wpAnyL_take (i := 14) (oi := ⟨some 104, _, _, _, _, _⟩) (v := _) rfl (by kernel_rfl) (by kernel_rfl) (by kernel_rfl) (by kernel_rfl) (fun _ _ _ h => h) hH0 (by rfl) ?hyv ?o49
  case hyv =>
   intro wz hSw
   go_simp
   try rfl
  try simp only [Act.put, sT, sZ, sS]
  refine' wpAnyL_take (i := 15) (oi := ⟨some 105, _, _, _, _, _⟩) (v := _) rfl (by kernel_rfl) (by kernel_rfl) (by kernel_rfl) (by kernel_rfl) (fun _ _ _ h => h) hH0 (by rfl) ?hyv ?o50
  case hyv =>
   intro wz hSw
   go_simp
   try rfl
  try simp only [Act.put, sT, sZ, sS]
  refine wpAnyL_done (by kernel_rfl) ?_ _
  have bc := hH0
  have hx3 := hx2.under bc
  have hm3 := hm2.under bc
  have hg3 := hg2.keep (bc.block _ yg)
  have A3 := A2.trans (aside (S := [gb, rb, cb]) bc) A2.size
  have i0' := (bc.cell (p := ⟨w.heap.size, 0, none⟩) yB).trans i0
  have i1' := (bc.cell (p := ⟨w.heap.size, 1, none⟩) yB).trans i1
  have i2' := (bc.cell (p := ⟨w.heap.size, 2, none⟩) yB).trans i2
  have i3' := (bc.cell (p := ⟨w.heap.size, 3, none⟩) yB).trans i3
  have i4' := (bc.cell (p := ⟨w.heap.size, 4, none⟩) yB).trans i4
  have i5' := (bc.cell (p := ⟨w.heap.size, 5, none⟩) yB).trans i5
  have g7' := (bc.cell (p := ⟨gb, 7, none⟩) yg).trans g7
  have xr' := (bc.cell (p := ⟨rb, rn, none⟩) yr).trans xr
  have xa' := (bc.cell (p := ⟨rb, an, none⟩) yr).trans xa
  have yB' := Nat.lt_of_lt_of_le yB bc.size
  have yg' := Nat.lt_of_lt_of_le yg bc.size
  have yr' := Nat.lt_of_lt_of_le yr bc.size
  have yc' := Nat.lt_of_lt_of_le yc bc.size
  clear hx2 hm2 hg2 A2 i0 i1 i2 i3 i4 i5 g7 xr xa  yB yg yr yc bc
  obtain ⟨w3, hw3⟩ : ∃ x, x = wd0 := ⟨_, rfl⟩
  subst hw3
  go_upto_region 16 with fail
  refine wp_region_late (fun w' => Below w3.heap.size w3 w') (fun i => i == 18) (by kernel_rfl) ?_
  have hH0 : Below w3.heap.size w3 w3.drew := (Below.refl _ _).drew
  generalize w3.drew = wd0 at hH0 ⊢
  refine' wpAnyL_take (i := 0) (oi := ⟨some 106, _, _, _, _, _⟩) (v := _) rfl (by kernel_rfl) (by kernel_rfl) (by kernel_rfl) (by kernel_rfl) (fun _ _ _ h => h) hH0 (by rfl) ?hyv ?o51
  case hyv =>
   intro wz hSw
   go_simp
   try rfl
  try simp only [Act.put, sT, sZ, sS]
  refine' wpAnyL_take (i := 1) (oi := ⟨some 107, _, _, _, _, _⟩) (v := _) rfl (by kernel_rfl) (by kernel_rfl) (by kernel_rfl) (by kernel_rfl) (fun _ _ _ h => h) hH0 (by rfl) ?hyv ?o52
  case hyv =>
   intro wz hSw
   go_simp
   try rfl
  try simp only [Act.put, sT, sZ, sS]
  refine' wpAnyL_take (i := 2) (oi := ⟨some 108, _, _, _, _, _⟩) (v := _) rfl (by kernel_rfl) (by kernel_rfl) (by kernel_rfl) (by kernel_rfl) (fun _ _ _ h => h) hH0 (by rfl) ?hyv ?o53
  case hyv =>
   intro wz hSw
   go_simp
   try rfl
  try simp only [Act.put, sT, sZ, sS]
  refine' wpAnyL_take (i := 3) (oi := ⟨some 109, _, _, _, _, _⟩) (v := _) rfl (by kernel_rfl) (by kernel_rfl) (by kernel_rfl) (by kernel_rfl) (fun _ _ _ h => h) hH0 (by rfl) ?hyv ?o54
  case hyv =>
   intro wz hSw
   have zc0 := (hSw.cell (p := ⟨w.heap.size, 0, none⟩) yB').trans i0'
   have zc1 := (hSw.cell (p := ⟨w.heap.size, 1, none⟩) yB').trans i1'
   have zc2 := (hSw.cell (p := ⟨w.heap.size, 2, none⟩) yB').trans i2'
   have zc3 := (hSw.cell (p := ⟨w.heap.size, 3, none⟩) yB').trans i3'
   have zc4 := (hSw.cell (p := ⟨w.heap.size, 4, none⟩) yB').trans i4'
   have zc5 := (hSw.cell (p := ⟨w.heap.size, 5, none⟩) yB').trans i5'
   have zc6 := (hSw.cell (p := ⟨rb, rn, none⟩) yr').trans xr'
   have zc7 := (hSw.cell (p := ⟨rb, an, none⟩) yr').trans xa'
   have zc8 := (hSw.cell (p := ⟨gb, 7, none⟩) yg').trans g7'
   go_simp
   try rfl
  try simp only [Act.put, sT, sZ, sS]
  refine' wpAnyL_take (i := 4) (oi := ⟨some 110, _, _, _, _, _⟩) (v := _) rfl (by kernel_rfl) (by kernel_rfl) (by kernel_rfl) (by kernel_rfl) (fun _ _ _ h => h) hH0 (by rfl) ?hyv ?o55
  case hyv =>
   intro wz hSw
   go_simp
   try rfl
  try simp only [Act.put, sT, sZ, sS]
  refine' wpAnyL_take (i := 5) (oi := ⟨some 111, _, _, _, _, _⟩) (v := _) rfl (by kernel_rfl) (by kernel_rfl) (by kernel_rfl) (by kernel_rfl) (fun _ _ _ h => h) hH0 (by rfl) ?hyv ?o56
  case hyv =>
   intro wz hSw
   have zc0 := (hSw.cell (p := ⟨w.heap.size, 0, none⟩) yB').trans i0'
   have zc1 := (hSw.cell (p := ⟨w.heap.size, 1, none⟩) yB').trans i1'
   have zc2 := (hSw.cell (p := ⟨w.heap.size, 2, none⟩) yB').trans i2'
   have zc3 := (hSw.cell (p := ⟨w.heap.size, 3, none⟩) yB').trans i3'
   have zc4 := (hSw.cell (p := ⟨w.heap.size, 4, none⟩) yB').trans i4'
   have zc5 := (hSw.cell (p := ⟨w.heap.size, 5, none⟩) yB').trans i5'
   have zc6 := (hSw.cell (p := ⟨rb, rn, none⟩) yr').trans xr'
   have zc7 := (hSw.cell (p := ⟨rb, an, none⟩) yr').trans xa'
   have zc8 := (hSw.cell (p := ⟨gb, 7, none⟩) yg').trans g7'
   go_simp
   try rfl
  try simp only [Act.put, sT, sZ, sS]
  refine' wpAnyL_take (i := 6) (oi := ⟨some 112, _, _, _, _, _⟩) (v := _) rfl (by kernel_rfl) (by kernel_rfl) (by kernel_rfl) (by kernel_rfl) (fun _ _ _ h => h) hH0 (by rfl) ?hyv ?o57
  case hyv =>
   intro wz hSw
   go_simp
   try rfl
  try simp only [Act.put, sT, sZ, sS]
  refine' wpAnyL_take (i := 7) (oi := ⟨some 113, _, _, _, _, _⟩) (v := _) rfl (by kernel_rfl) (by kernel_rfl) (by kernel_rfl) (by kernel_rfl) (fun _ _ _ h => h) hH0 (by rfl) ?hyv ?o58
  case hyv =>
   intro wz hSw
   go_simp
   try rfl
  try simp only [Act.put, sT, sZ, sS]
  refine' wpAnyL_take (i := 8) (oi := ⟨some 114, _, _, _, _, _⟩) (v := _) rfl (by kernel_rfl) (by kernel_rfl) (by kernel_rfl) (by kernel_rfl) (fun _ _ _ h => h) hH0 (by rfl) ?hyv ?o59
  case hyv =>
   intro wz hSw
   have zc0 := (hSw.cell (p := ⟨w.heap.size, 0, none⟩) yB').trans i0'
   have zc1 := (hSw.cell (p := ⟨w.heap.size, 1, none⟩) yB').trans i1'
   have zc2 := (hSw.cell (p := ⟨w.heap.size, 2, none⟩) yB').trans i2'
   have zc3 := (hSw.cell (p := ⟨w.heap.size, 3, none⟩) yB').trans i3'
   have zc4 := (hSw.cell (p := ⟨w.heap.size, 4, none⟩) yB').trans i4'
   have zc5 := (hSw.cell (p := ⟨w.heap.size, 5, none⟩) yB').trans i5'
   have zc6 := (hSw.cell (p := ⟨rb, rn, none⟩) yr').trans xr'
   have zc7 := (hSw.cell (p := ⟨rb, an, none⟩) yr').trans xa'
   have zc8 := (hSw.cell (p := ⟨gb, 7, none⟩) yg').trans g7'
   go_simp
   try rfl
  try simp only [Act.put, sT, sZ, sS]
  refine' wpAnyL_take (i := 9) (oi := ⟨some 115, _, _, _, _, _⟩) (v := _) rfl (by kernel_rfl) (by kernel_rfl) (by kernel_rfl) (by kernel_rfl) (fun _ _ _ h => h) hH0 (by rfl) ?hyv ?o60
  case hyv =>
   intro wz hSw
   go_simp
   try rfl
  try simp only [Act.put, sT, sZ, sS]
  refine' wpAnyL_take (i := 10) (oi := ⟨some 116, _, _, _, _, _⟩) (v := _) rfl (by kernel_rfl) (by kernel_rfl) (by kernel_rfl) (by kernel_rfl) (fun _ _ _ h => h) hH0 (by rfl) ?hyv ?o61
  case hyv =>
   intro wz hSw
   have zc0 := (hSw.cell (p := ⟨w.heap.size, 0, none⟩) yB').trans i0'
   have zc1 := (hSw.cell (p := ⟨w.heap.size, 1, none⟩) yB').trans i1'
   have zc2 := (hSw.cell (p := ⟨w.heap.size, 2, none⟩) yB').trans i2'
   have zc3 := (hSw.cell (p := ⟨w.heap.size, 3, none⟩) yB').trans i3'
   have zc4 := (hSw.cell (p := ⟨w.heap.size, 4, none⟩) yB').trans i4'
   have zc5 := (hSw.cell (p := ⟨w.heap.size, 5, none⟩) yB').trans i5'
   have zc6 := (hSw.cell (p := ⟨rb, rn, none⟩) yr').trans xr'
   have zc7 := (hSw.cell (p := ⟨rb, an, none⟩) yr').trans xa'
   have zc8 := (hSw.cell (p := ⟨gb, 7, none⟩) yg').trans g7'
   go_simp
   try rfl
  try simp only [Act.put, sT, sZ, sS]
  refine' wpAnyL_take (i := 11) (oi := ⟨some 117, _, _, _, _, _⟩) (v := _) rfl (by kernel_rfl) (by kernel_rfl) (by kernel_rfl) (by kernel_rfl) (fun _ _ _ h => h) hH0 (by rfl) ?hyv ?o62
  case hyv =>
   intro wz hSw
   go_simp
   try rfl
  try simp only [Act.put, sT, sZ, sS]
  refine' wpAnyL_take (i := 12) (oi := ⟨some 118, _, _, _, _, _⟩) (v := _) rfl (by kernel_rfl) (by kernel_rfl) (by kernel_rfl) (by kernel_rfl) (fun _ _ _ h => h) hH0 (by rfl) ?hyv ?o63
  case hyv =>
   intro wz hSw
   go_simp
   try rfl
  try simp only [Act.put, sT, sZ, sS]
  refine' wpAnyL_take (i := 13) (oi := ⟨some 119, _, _, _, _, _⟩) (v := _) rfl (by kernel_rfl) (by kernel_rfl) (by kernel_rfl) (by kernel_rfl) (fun _ _ _ h => h) hH0 (by rfl) ?hyv ?o64
  case hyv =>
   intro wz hSw
   go_simp
   try rfl
  try simp only [Act.put, sT, sZ, sS]
  refine' wpAnyL_take (i := 14) (oi := ⟨some 120, _, _, _, _, _⟩) (v := _) rfl (by kernel_rfl) (by kernel_rfl) (by kernel_rfl) (by kernel_rfl) (fun _ _ _ h => h) hH0 (by rfl) ?hyv ?o65
  case hyv =>
   intro wz hSw
   have zc0 := (hSw.cell (p := ⟨w.heap.size, 0, none⟩) yB').trans i0'
   have zc1 := (hSw.cell (p := ⟨w.heap.size, 1, none⟩) yB').trans i1'
   have zc2 := (hSw.cell (p := ⟨w.heap.size, 2, none⟩) yB').trans i2'
   have zc3 := (hSw.cell (p := ⟨w.heap.size, 3, none⟩) yB').trans i3'
   have zc4 := (hSw.cell (p := ⟨w.heap.size, 4, none⟩) yB').trans i4'
   have zc5 := (hSw.cell (p := ⟨w.heap.size, 5, none⟩) yB').trans i5'
   have zc6 := (hSw.cell (p := ⟨rb, rn, none⟩) yr').trans xr'
   have zc7 := (hSw.cell (p := ⟨rb, an, none⟩) yr').trans xa'
   have zc8 := (hSw.cell (p := ⟨gb, 7, none⟩) yg').trans g7'
   go_simp
   try rfl
  try simp only [Act.put, sT, sZ, sS]
  refine' wpAnyL_take (i := 15) (oi := ⟨some 121, _, _, _, _, _⟩) (v := _) rfl (by kernel_rfl) (by kernel_rfl) (by kernel_rfl) (by kernel_rfl) (fun _ _ _ h => h) hH0 (by rfl) ?hyv ?o66
  case hyv =>
   intro wz hSw
   go_simp
   try rfl
  try simp only [Act.put, sT, sZ, sS]
  refine' wpAnyL_take (i := 16) (oi := ⟨some 122, _, _, _, _, _⟩) (v := _) rfl (by kernel_rfl) (by kernel_rfl) (by kernel_rfl) (by kernel_rfl) (fun _ _ _ h => h) hH0 (by rfl) ?hyv ?o67
  case hyv =>
   intro wz hSw
   have zc0 := (hSw.cell (p := ⟨w.heap.size, 0, none⟩) yB').trans i0'
   have zc1 := (hSw.cell (p := ⟨w.heap.size, 1, none⟩) yB').trans i1'
   have zc2 := (hSw.cell (p := ⟨w.heap.size, 2, none⟩) yB').trans i2'
   have zc3 := (hSw.cell (p := ⟨w.heap.size, 3, none⟩) yB').trans i3'
   have zc4 := (hSw.cell (p := ⟨w.heap.size, 4, none⟩) yB').trans i4'
   have zc5 := (hSw.cell (p := ⟨w.heap.size, 5, none⟩) yB').trans i5'
   have zc6 := (hSw.cell (p := ⟨rb, rn, none⟩) yr').trans xr'
   have zc7 := (hSw.cell (p := ⟨rb, an, none⟩) yr').trans xa'
   have zc8 := (hSw.cell (p := ⟨gb, 7, none⟩) yg').trans g7'
   go_simp
   try rfl
  try simp only [Act.put, sT, sZ, sS]
  refine' wpAnyL_take (i := 17) (oi := ⟨some 123, _, _, _, _, _⟩) (v := _) rfl (by kernel_rfl) (by kernel_rfl) (by kernel_rfl) (by kernel_rfl) (fun _ _ _ h => h) hH0 (by rfl) ?hyv ?o68
  case hyv =>
   intro wz hSw
   go_simp
   try rfl
  try simp only [Act.put, sT, sZ, sS]
  refine wpAnyL_one (i := 18) (o := _) rfl (by kernel_rfl) (by rfl) (fun K hK => ?_)
  have kX := hm3.under hH0
  have fr := kX.free (nn + p)
  have st0 := kX.at (i := (nn + p)) hpm
  go_simp
  have hq : Aside [gb, rb, cb] wd0.heap.size wd0 (wd0.setCell ⟨cb, (nn + p), none⟩ (.int .i64 y)) := Aside.setCell (by simp) _
  have hA1 : Aside [gb, rb, cb] w3.heap.size w3 (wd0.setCell ⟨cb, (nn + p), none⟩ (.int .i64 y)) := (aside hH0).trans hq hH0.size
  have kE := (hx3.under hH0).keep (w' := wd0.setCell ⟨cb, (nn + p), none⟩ (.int .i64 y)) (heap_set_other wd0 ⟨cb, (nn + p), none⟩ _ (by show cb ≠ rb; exact n3.symm))
  have kM := kX.put (nn + p) y
  have kG := (hg3.keep (hH0.block _ yg')).keep (w' := wd0.setCell ⟨cb, (nn + p), none⟩ (.int .i64 y)) (heap_set_other wd0 ⟨cb, (nn + p), none⟩ _ (by show cb ≠ gb; exact n2.symm))
  refine hK.out _ _ (fun h => absurd h (by decide)) ?_
  clear hK K kX fr st0 hq
  try simp only [Act.put, sT, sZ, sS]
  generalize wd0.setCell ⟨cb, (nn + p), none⟩ (.int .i64 y) = wd1 at hA1 kE kM kG ⊢
  have hH1 := hA1
  refine wpAnyL_done (by kernel_rfl) ?_ _
  rw [← HXX.out] at kE
  rw [← HMM.out] at kM
  go_wp2
  go_ret
  exact ⟨rfl, kG, kE, kM, A3.trans hH1 A3.size⟩
/-- an instruction that goes astray: nothing is other but that it was counted -/
structure DOneN (w : World) (gb rb cb nc cc : Nat) (v0 v1 v2 v3 v4 v5 v6 : Value) (st : Int) (X M : List Int) (e : Ending) (w' : World) : Prop where
 e : e = .returned (.bool false)
 g : GAt w' gb cb nc cc v0 v1 v2 v3 v4 v5 v6 (wrap64 (st + 1))
 x : LX w' rb X
 m : LX w' cb M
 a : Aside [gb, rb, cb] w.heap.size w w'
set_option maxHeartbeats 8000000 in
theorem done3n_any {w : World} {gb rb cb nc cc nr cr : Nat} {v0 v1 v2 v3 v4 v5 v6 : Value} {X M : List Int} {st : Int} (hg : GAt w gb cb nc cc v0 v1 v2 v3 v4 v5 v6 st) (hx : LX w rb X) (hm : LX w cb M) (hnr : nr = X.length) (hnc : nc ≤ M.length) (hX : X.length ≤ 40) (hM : nc ≤ 6000) (n1 : gb ≠ rb) (n2 : gb ≠ cb) (n3 : rb ≠ cb) (kk : Int) (rn : Nat) (hr : rn < X.length) (bq nn : Int) (an : Nat) (ha : an < X.length) (hp : X[an] < 0) : Calls Tryd.prog 43 #[.pointer (some ⟨gb, 0, none⟩), .agg #[.int .i64 3, .int .i64 kk, .int .i64 (rn : Int), .int .i64 (an : Int), .int .i64 bq, .int .i64 nn], .slice (some ⟨rb, 0, none⟩) nr cr] w (DOneN w gb rb cb nc cc v0 v1 v2 v3 v4 v5 v6 st (X) (M)) := by
 have b1 : Below w.heap.size w (w.alloc (.cells #[.int .i64 3, .int .i64 kk, .int .i64 (rn : Int), .int .i64 (an : Int), .int .i64 bq, .int .i64 nn] 52 (0, 0))) := (Below.refl _ _).alloc (Nat.le_refl _) _
 have kB := heap_new w (.cells #[.int .i64 3, .int .i64 kk, .int .i64 (rn : Int), .int .i64 (an : Int), .int .i64 bq, .int .i64 nn] 52 (0, 0))
 have ygw := lt_of hg
 have yrw := hx.lt
 have ycw := hm.lt
 have HNR := hide hnr
 have HNC := hide hnc
 clear hnr hnc
 have hx1 := hx.under b1
 have hm1 := hm.under b1
 have kg := (b1.block _ ygw).trans (show w.heap[gb]? = some (.cells #[v0, v1, v2, v3, v4, v5, v6, .slice (some ⟨cb, 0, none⟩) nc cc, .int .i64 st] 46 (0, 0)) from hg)
 obtain ⟨XX, hXX⟩ : ∃ z, z = (X) := ⟨_, rfl⟩
 obtain ⟨MM, hMM⟩ : ∃ z, z = (M) := ⟨_, rfl⟩
 suffices hh : Calls Tryd.prog 43 #[.pointer (some ⟨gb, 0, none⟩), .agg #[.int .i64 3, .int .i64 kk, .int .i64 (rn : Int), .int .i64 (an : Int), .int .i64 bq, .int .i64 nn], .slice (some ⟨rb, 0, none⟩) nr cr] w (DOneN w gb rb cb nc cc v0 v1 v2 v3 v4 v5 v6 st XX MM) by
  rw [hXX, hMM] at hh
  exact hh
 have HXX := hide hXX
 have HMM := hide hMM
 clear hg hx hm hXX hMM
 go_enter Tryd.func43, Tryd.ntmps43
 go_upto_region 1 with fail
 generalize w.alloc (.cells #[.int .i64 3, .int .i64 kk, .int .i64 (rn : Int), .int .i64 (an : Int), .int .i64 bq, .int .i64 nn] 52 (0, 0)) = w1 at b1 kB hx1 hm1 kg ⊢
 have s8 := cell_of kg 8
 have f8 := free_of kg 8
 simp at s8
 have y1 := b1.size
 have yB := lt_of kB
 go_cut [] (fun wd => GAt wd gb cb nc cc v0 v1 v2 v3 v4 v5 v6 (wrap64 (st + 1)) ∧ LX wd rb X ∧ LX wd cb M ∧ wd.heap[w.heap.size]? = some (.cells #[.int .i64 3, .int .i64 kk, .int .i64 (rn : Int), .int .i64 (an : Int), .int .i64 bq, .int .i64 nn] 52 (0, 0)) ∧ Aside [gb] w1.heap.size w1 wd)
 case first =>
  go_wp2_with fail
  go_meet
  case rel =>
   have a2 : ∀ u, Aside [gb] w1.heap.size w1 (w1.setCell ⟨gb, 8, none⟩ u) := fun u => Aside.setCell (p := ⟨gb, 8, none⟩) (by simp) u
   exact ⟨by have := set_in kg 8 (.int .i64 (wrap64 (st + 1))); simpa [GAt] using this, hx1.keep ((a2 _).block _ (by omega) (by simpa using n1.symm)), hm1.keep ((a2 _).block _ (by omega) (by simpa using n2.symm)), ((a2 _).block _ yB (by simp; omega)).trans kB, a2 _⟩
 case rest =>
  obtain ⟨hg2, hx2, hm2, kB2, a2⟩ := hcut
  clear kB hx1 hm1 kg s8 f8 yB
  obtain ⟨w2, hw2⟩ : ∃ x, x = wc := ⟨_, rfl⟩
  subst hw2
  have kg2 : w2.heap[gb]? = some (.cells #[v0, v1, v2, v3, v4, v5, v6, .slice (some ⟨cb, 0, none⟩) nc cc, .int .i64 (wrap64 (st + 1))] 46 (0, 0)) := hg2
  have yB := lt_of kB2
  have yg := lt_of kg2
  have yr := hx2.lt
  have yc := hm2.lt
  have i0 := cell_of kB2 0
  have i1 := cell_of kB2 1
  have i2 := cell_of kB2 2
  have i3 := cell_of kB2 3
  have i4 := cell_of kB2 4
  have i5 := cell_of kB2 5
  have g7 := cell_of kg2 7
  simp at i0 i1 i2 i3 i4 i5 g7
  have xr := hx2.at hr
  have A2 : Aside [gb, rb, cb] w.heap.size w w2 := ((aside b1).trans (a2.wide (fun _ _ h => by simp at h ⊢; exact h.1)) b1.size)
  have hnr := HNR.out
  have hnc := HNC.out
  have hrn : (rn : Int) < (nr : Int) := by omega
  clear HNR HNC
  clear kB2 a2 b1 y1 kg2
  have xa := hx2.at ha
  have han : (an : Int) < (nr : Int) := by omega
  generalize X[an] = y at xa hp
  clear hnr hnc
  go_upto_region 10 with fail
  refine wp_region_late (fun w' => Below w2.heap.size w2 w') (fun _ => false) (by kernel_rfl) ?_
  have hH0 : Below w2.heap.size w2 w2.drew := (Below.refl _ _).drew
  generalize w2.drew = wd0 at hH0 ⊢
  refine' wpAnyL_take (i := 0) (oi := ⟨some 54, _, _, _, _, _⟩) (v := _) rfl (by kernel_rfl) (by kernel_rfl) (by kernel_rfl) (by kernel_rfl) (fun _ _ _ h => h) hH0 (by rfl) ?hyv ?o69
  case hyv =>
   intro wz hSw
   go_simp
   try rfl
  try simp only [Act.put, sT, sZ, sS]
  refine' wpAnyL_take (i := 1) (oi := ⟨some 55, _, _, _, _, _⟩) (v := _) rfl (by kernel_rfl) (by kernel_rfl) (by kernel_rfl) (by kernel_rfl) (fun _ _ _ h => h) hH0 (by rfl) ?hyv ?o70
  case hyv =>
   intro wz hSw
   go_simp
   try rfl
  try simp only [Act.put, sT, sZ, sS]
  refine' wpAnyL_take (i := 2) (oi := ⟨some 56, _, _, _, _, _⟩) (v := _) rfl (by kernel_rfl) (by kernel_rfl) (by kernel_rfl) (by kernel_rfl) (fun _ _ _ h => h) hH0 (by rfl) ?hyv ?o71
  case hyv =>
   intro wz hSw
   have zc0 := (hSw.cell (p := ⟨w.heap.size, 0, none⟩) yB).trans i0
   have zc1 := (hSw.cell (p := ⟨w.heap.size, 1, none⟩) yB).trans i1
   have zc2 := (hSw.cell (p := ⟨w.heap.size, 2, none⟩) yB).trans i2
   have zc3 := (hSw.cell (p := ⟨w.heap.size, 3, none⟩) yB).trans i3
   have zc4 := (hSw.cell (p := ⟨w.heap.size, 4, none⟩) yB).trans i4
   have zc5 := (hSw.cell (p := ⟨w.heap.size, 5, none⟩) yB).trans i5
   have zc6 := (hSw.cell (p := ⟨rb, rn, none⟩) yr).trans xr
   have zc7 := (hSw.cell (p := ⟨rb, an, none⟩) yr).trans xa
   go_simp
   try rfl
  try simp only [Act.put, sT, sZ, sS]
  refine' wpAnyL_take (i := 3) (oi := ⟨some 57, _, _, _, _, _⟩) (v := _) rfl (by kernel_rfl) (by kernel_rfl) (by kernel_rfl) (by kernel_rfl) (fun _ _ _ h => h) hH0 (by rfl) ?hyv ?o72
  case hyv =>
   intro wz hSw
   go_simp
   try rfl
  try simp only [Act.put, sT, sZ, sS]
  refine' wpAnyL_take (i := 4) (oi := ⟨some 58, _, _, _, _, _⟩) (v := _) rfl (by kernel_rfl) (by kernel_rfl) (by kernel_rfl) (by kernel_rfl) (fun _ _ _ h => h) hH0 (by rfl) ?hyv ?o73
  case hyv =>
   intro wz hSw
   have zc0 := (hSw.cell (p := ⟨w.heap.size, 0, none⟩) yB).trans i0
   have zc1 := (hSw.cell (p := ⟨w.heap.size, 1, none⟩) yB).trans i1
   have zc2 := (hSw.cell (p := ⟨w.heap.size, 2, none⟩) yB).trans i2
   have zc3 := (hSw.cell (p := ⟨w.heap.size, 3, none⟩) yB).trans i3
   have zc4 := (hSw.cell (p := ⟨w.heap.size, 4, none⟩) yB).trans i4
   have zc5 := (hSw.cell (p := ⟨w.heap.size, 5, none⟩) yB).trans i5
   have zc6 := (hSw.cell (p := ⟨rb, rn, none⟩) yr).trans xr
   have zc7 := (hSw.cell (p := ⟨rb, an, none⟩) yr).trans xa
   go_simp
   try rfl
  try simp only [Act.put, sT, sZ, sS]
  refine' wpAnyL_take (i := 5) (oi := ⟨some 59, _, _, _, _, _⟩) (v := _) rfl (by kernel_rfl) (by kernel_rfl) (by kernel_rfl) (by kernel_rfl) (fun _ _ _ h => h) hH0 (by rfl) ?hyv ?o74
  case hyv =>
   intro wz hSw
   go_simp
   try rfl
  try simp only [Act.put, sT, sZ, sS]
  refine' wpAnyL_take (i := 6) (oi := ⟨some 60, _, _, _, _, _⟩) (v := _) rfl (by kernel_rfl) (by kernel_rfl) (by kernel_rfl) (by kernel_rfl) (fun _ _ _ h => h) hH0 (by rfl) ?hyv ?o75
  case hyv =>
   intro wz hSw
   go_simp
   try rfl
  try simp only [Act.put, sT, sZ, sS]
  refine wpAnyL_skip (i := 7) (oi := ⟨some 61, _, _, _, _, _⟩) rfl (by kernel_rfl) (by kernel_rfl) (by kernel_rfl) (by kernel_rfl) (fun _ _ _ h => h) hH0 (by rfl) ?_
  try simp only [Act.put, sT, sZ, sS]
  refine wpAnyL_skip (i := 8) (oi := ⟨some 62, _, _, _, _, _⟩) rfl (by kernel_rfl) (by kernel_rfl) (by kernel_rfl) (by kernel_rfl) (fun _ _ _ h => h) hH0 (by rfl) ?_
  try simp only [Act.put, sT, sZ, sS]
  refine wpAnyL_skip (i := 9) (oi := ⟨some 63, _, _, _, _, _⟩) rfl (by kernel_rfl) (by kernel_rfl) (by kernel_rfl) (by kernel_rfl) (fun _ _ _ h => h) hH0 (by rfl) ?_
  try simp only [Act.put, sT, sZ, sS]
  refine wpAnyL_skip (i := 10) (oi := ⟨some 64, _, _, _, _, _⟩) rfl (by kernel_rfl) (by kernel_rfl) (by kernel_rfl) (by kernel_rfl) (fun _ _ _ h => h) hH0 (by rfl) ?_
  try simp only [Act.put, sT, sZ, sS]
  refine wpAnyL_skip (i := 11) (oi := ⟨some 65, _, _, _, _, _⟩) rfl (by kernel_rfl) (by kernel_rfl) (by kernel_rfl) (by kernel_rfl) (fun _ _ _ h => h) hH0 (by rfl) ?_
  try simp only [Act.put, sT, sZ, sS]
  refine wpAnyL_skip (i := 12) (oi := ⟨some 66, _, _, _, _, _⟩) rfl (by kernel_rfl) (by kernel_rfl) (by kernel_rfl) (by kernel_rfl) (fun _ _ _ h => h) hH0 (by rfl) ?_
  try simp only [Act.put, sT, sZ, sS]
  refine wpAnyL_skip (i := 13) (oi := ⟨some 67, _, _, _, _, _⟩) rfl (by kernel_rfl) (by kernel_rfl) (by kernel_rfl) (by kernel_rfl) (fun _ _ _ h => h) hH0 (by rfl) ?_
  try simp only [Act.put, sT, sZ, sS]
  refine wpAnyL_skip (i := 14) (oi := ⟨some 68, _, _, _, _, _⟩) rfl (by kernel_rfl) (by kernel_rfl) (by kernel_rfl) (by kernel_rfl) (fun _ _ _ h => h) hH0 (by rfl) ?_
  try simp only [Act.put, sT, sZ, sS]
  refine' wpAnyL_take (i := 15) (oi := ⟨some 69, _, _, _, _, _⟩) (v := _) rfl (by kernel_rfl) (by kernel_rfl) (by kernel_rfl) (by kernel_rfl) (fun _ _ _ h => h) hH0 (by rfl) ?hyv ?o76
  case hyv =>
   intro wz hSw
   go_simp
   try rfl
  try simp only [Act.put, sT, sZ, sS]
  refine wpAnyL_done (by kernel_rfl) ?_ _
  have kG := hg2.keep (hH0.block _ yg)
  have kE := hx2.under hH0
  have kM := hm2.under hH0
  clear hg2 hx2 hm2
  rw [← HXX.out] at kE
  rw [← HMM.out] at kM
  go_wp2
  go_ret
  exact ⟨rfl, kG, kE, kM, A2.trans (aside hH0) A2.size⟩
set_option maxHeartbeats 8000000 in
theorem done3m_any {w : World} {gb rb cb nc cc nr cr : Nat} {v0 v1 v2 v3 v4 v5 v6 : Value} {X M : List Int} {st : Int} (hg : GAt w gb cb nc cc v0 v1 v2 v3 v4 v5 v6 st) (hx : LX w rb X) (hm : LX w cb M) (hnr : nr = X.length) (hnc : nc ≤ M.length) (hX : X.length ≤ 40) (hM : nc ≤ 6000) (n1 : gb ≠ rb) (n2 : gb ≠ cb) (n3 : rb ≠ cb) (kk : Int) (rn : Nat) (hr : rn < X.length) (bq nn : Int) (an : Nat) (ha : an < X.length) (hp : ¬ X[an] < 0) (hpb : X[an] ≥ bq) : Calls Tryd.prog 43 #[.pointer (some ⟨gb, 0, none⟩), .agg #[.int .i64 3, .int .i64 kk, .int .i64 (rn : Int), .int .i64 (an : Int), .int .i64 bq, .int .i64 nn], .slice (some ⟨rb, 0, none⟩) nr cr] w (DOneN w gb rb cb nc cc v0 v1 v2 v3 v4 v5 v6 st (X) (M)) := by
 have b1 : Below w.heap.size w (w.alloc (.cells #[.int .i64 3, .int .i64 kk, .int .i64 (rn : Int), .int .i64 (an : Int), .int .i64 bq, .int .i64 nn] 52 (0, 0))) := (Below.refl _ _).alloc (Nat.le_refl _) _
 have kB := heap_new w (.cells #[.int .i64 3, .int .i64 kk, .int .i64 (rn : Int), .int .i64 (an : Int), .int .i64 bq, .int .i64 nn] 52 (0, 0))
 have ygw := lt_of hg
 have yrw := hx.lt
 have ycw := hm.lt
 have HNR := hide hnr
 have HNC := hide hnc
 clear hnr hnc
 have hx1 := hx.under b1
 have hm1 := hm.under b1
 have kg := (b1.block _ ygw).trans (show w.heap[gb]? = some (.cells #[v0, v1, v2, v3, v4, v5, v6, .slice (some ⟨cb, 0, none⟩) nc cc, .int .i64 st] 46 (0, 0)) from hg)
 obtain ⟨XX, hXX⟩ : ∃ z, z = (X) := ⟨_, rfl⟩
 obtain ⟨MM, hMM⟩ : ∃ z, z = (M) := ⟨_, rfl⟩
 suffices hh : Calls Tryd.prog 43 #[.pointer (some ⟨gb, 0, none⟩), .agg #[.int .i64 3, .int .i64 kk, .int .i64 (rn : Int), .int .i64 (an : Int), .int .i64 bq, .int .i64 nn], .slice (some ⟨rb, 0, none⟩) nr cr] w (DOneN w gb rb cb nc cc v0 v1 v2 v3 v4 v5 v6 st XX MM) by
  rw [hXX, hMM] at hh
  exact hh
 have HXX := hide hXX
 have HMM := hide hMM
 clear hg hx hm hXX hMM
 go_enter Tryd.func43, Tryd.ntmps43
 go_upto_region 1 with fail
 generalize w.alloc (.cells #[.int .i64 3, .int .i64 kk, .int .i64 (rn : Int), .int .i64 (an : Int), .int .i64 bq, .int .i64 nn] 52 (0, 0)) = w1 at b1 kB hx1 hm1 kg ⊢
 have s8 := cell_of kg 8
 have f8 := free_of kg 8
 simp at s8
 have y1 := b1.size
 have yB := lt_of kB
 go_cut [] (fun wd => GAt wd gb cb nc cc v0 v1 v2 v3 v4 v5 v6 (wrap64 (st + 1)) ∧ LX wd rb X ∧ LX wd cb M ∧ wd.heap[w.heap.size]? = some (.cells #[.int .i64 3, .int .i64 kk, .int .i64 (rn : Int), .int .i64 (an : Int), .int .i64 bq, .int .i64 nn] 52 (0, 0)) ∧ Aside [gb] w1.heap.size w1 wd)
 case first =>
  go_wp2_with fail
  go_meet
  case rel =>
   have a2 : ∀ u, Aside [gb] w1.heap.size w1 (w1.setCell ⟨gb, 8, none⟩ u) := fun u => Aside.setCell (p := ⟨gb, 8, none⟩) (by simp) u
   exact ⟨by have := set_in kg 8 (.int .i64 (wrap64 (st + 1))); simpa [GAt] using this, hx1.keep ((a2 _).block _ (by omega) (by simpa using n1.symm)), hm1.keep ((a2 _).block _ (by omega) (by simpa using n2.symm)), ((a2 _).block _ yB (by simp; omega)).trans kB, a2 _⟩
 case rest =>
  obtain ⟨hg2, hx2, hm2, kB2, a2⟩ := hcut
  clear kB hx1 hm1 kg s8 f8 yB
  obtain ⟨w2, hw2⟩ : ∃ x, x = wc := ⟨_, rfl⟩
  subst hw2
  have kg2 : w2.heap[gb]? = some (.cells #[v0, v1, v2, v3, v4, v5, v6, .slice (some ⟨cb, 0, none⟩) nc cc, .int .i64 (wrap64 (st + 1))] 46 (0, 0)) := hg2
  have yB := lt_of kB2
  have yg := lt_of kg2
  have yr := hx2.lt
  have yc := hm2.lt
  have i0 := cell_of kB2 0
  have i1 := cell_of kB2 1
  have i2 := cell_of kB2 2
  have i3 := cell_of kB2 3
  have i4 := cell_of kB2 4
  have i5 := cell_of kB2 5
  have g7 := cell_of kg2 7
  simp at i0 i1 i2 i3 i4 i5 g7
  have xr := hx2.at hr
  have A2 : Aside [gb, rb, cb] w.heap.size w w2 := ((aside b1).trans (a2.wide (fun _ _ h => by simp at h ⊢; exact h.1)) b1.size)
  have hnr := HNR.out
  have hnc := HNC.out
  have hrn : (rn : Int) < (nr : Int) := by omega
  clear HNR HNC
  clear kB2 a2 b1 y1 kg2
  have xa := hx2.at ha
  have han : (an : Int) < (nr : Int) := by omega
  generalize X[an] = y at xa hp hpb
  clear hnr hnc
  go_upto_region 10 with fail
  refine wp_region_late (fun w' => Below w2.heap.size w2 w') (fun _ => false) (by kernel_rfl) ?_
  have hH0 : Below w2.heap.size w2 w2.drew := (Below.refl _ _).drew
  generalize w2.drew = wd0 at hH0 ⊢
  refine' wpAnyL_take (i := 0) (oi := ⟨some 54, _, _, _, _, _⟩) (v := _) rfl (by kernel_rfl) (by kernel_rfl) (by kernel_rfl) (by kernel_rfl) (fun _ _ _ h => h) hH0 (by rfl) ?hyv ?o77
  case hyv =>
   intro wz hSw
   go_simp
   try rfl
  try simp only [Act.put, sT, sZ, sS]
  refine' wpAnyL_take (i := 1) (oi := ⟨some 55, _, _, _, _, _⟩) (v := _) rfl (by kernel_rfl) (by kernel_rfl) (by kernel_rfl) (by kernel_rfl) (fun _ _ _ h => h) hH0 (by rfl) ?hyv ?o78
  case hyv =>
   intro wz hSw
   go_simp
   try rfl
  try simp only [Act.put, sT, sZ, sS]
  refine' wpAnyL_take (i := 2) (oi := ⟨some 56, _, _, _, _, _⟩) (v := _) rfl (by kernel_rfl) (by kernel_rfl) (by kernel_rfl) (by kernel_rfl) (fun _ _ _ h => h) hH0 (by rfl) ?hyv ?o79
  case hyv =>
   intro wz hSw
   have zc0 := (hSw.cell (p := ⟨w.heap.size, 0, none⟩) yB).trans i0
   have zc1 := (hSw.cell (p := ⟨w.heap.size, 1, none⟩) yB).trans i1
   have zc2 := (hSw.cell (p := ⟨w.heap.size, 2, none⟩) yB).trans i2
   have zc3 := (hSw.cell (p := ⟨w.heap.size, 3, none⟩) yB).trans i3
   have zc4 := (hSw.cell (p := ⟨w.heap.size, 4, none⟩) yB).trans i4
   have zc5 := (hSw.cell (p := ⟨w.heap.size, 5, none⟩) yB).trans i5
   have zc6 := (hSw.cell (p := ⟨rb, rn, none⟩) yr).trans xr
   have zc7 := (hSw.cell (p := ⟨rb, an, none⟩) yr).trans xa
   go_simp
   try rfl
  try simp only [Act.put, sT, sZ, sS]
  refine' wpAnyL_take (i := 3) (oi := ⟨some 57, _, _, _, _, _⟩) (v := _) rfl (by kernel_rfl) (by kernel_rfl) (by kernel_rfl) (by kernel_rfl) (fun _ _ _ h => h) hH0 (by rfl) ?hyv ?o80
  case hyv =>
   intro wz hSw
   go_simp
   try rfl
  try simp only [Act.put, sT, sZ, sS]
  refine' wpAnyL_take (i := 4) (oi := ⟨some 58, _, _, _, _, _⟩) (v := _) rfl (by kernel_rfl) (by kernel_rfl) (by kernel_rfl) (by kernel_rfl) (fun _ _ _ h => h) hH0 (by rfl) ?hyv ?o81
  case hyv =>
   intro wz hSw
   have zc0 := (hSw.cell (p := ⟨w.heap.size, 0, none⟩) yB).trans i0
   have zc1 := (hSw.cell (p := ⟨w.heap.size, 1, none⟩) yB).trans i1
   have zc2 := (hSw.cell (p := ⟨w.heap.size, 2, none⟩) yB).trans i2
   have zc3 := (hSw.cell (p := ⟨w.heap.size, 3, none⟩) yB).trans i3
   have zc4 := (hSw.cell (p := ⟨w.heap.size, 4, none⟩) yB).trans i4
   have zc5 := (hSw.cell (p := ⟨w.heap.size, 5, none⟩) yB).trans i5
   have zc6 := (hSw.cell (p := ⟨rb, rn, none⟩) yr).trans xr
   have zc7 := (hSw.cell (p := ⟨rb, an, none⟩) yr).trans xa
   go_simp
   try rfl
  try simp only [Act.put, sT, sZ, sS]
  refine' wpAnyL_take (i := 5) (oi := ⟨some 59, _, _, _, _, _⟩) (v := _) rfl (by kernel_rfl) (by kernel_rfl) (by kernel_rfl) (by kernel_rfl) (fun _ _ _ h => h) hH0 (by rfl) ?hyv ?o82
  case hyv =>
   intro wz hSw
   go_simp
   try rfl
  try simp only [Act.put, sT, sZ, sS]
  refine' wpAnyL_take (i := 6) (oi := ⟨some 60, _, _, _, _, _⟩) (v := _) rfl (by kernel_rfl) (by kernel_rfl) (by kernel_rfl) (by kernel_rfl) (fun _ _ _ h => h) hH0 (by rfl) ?hyv ?o83
  case hyv =>
   intro wz hSw
   go_simp
   try rfl
  try simp only [Act.put, sT, sZ, sS]
  refine' wpAnyL_take (i := 7) (oi := ⟨some 61, _, _, _, _, _⟩) (v := _) rfl (by kernel_rfl) (by kernel_rfl) (by kernel_rfl) (by kernel_rfl) (fun _ _ _ h => h) hH0 (by rfl) ?hyv ?o84
  case hyv =>
   intro wz hSw
   go_simp
   try rfl
  try simp only [Act.put, sT, sZ, sS]
  refine' wpAnyL_take (i := 8) (oi := ⟨some 62, _, _, _, _, _⟩) (v := _) rfl (by kernel_rfl) (by kernel_rfl) (by kernel_rfl) (by kernel_rfl) (fun _ _ _ h => h) hH0 (by rfl) ?hyv ?o85
  case hyv =>
   intro wz hSw
   go_simp
   try rfl
  try simp only [Act.put, sT, sZ, sS]
  refine' wpAnyL_take (i := 9) (oi := ⟨some 63, _, _, _, _, _⟩) (v := _) rfl (by kernel_rfl) (by kernel_rfl) (by kernel_rfl) (by kernel_rfl) (fun _ _ _ h => h) hH0 (by rfl) ?hyv ?o86
  case hyv =>
   intro wz hSw
   have zc0 := (hSw.cell (p := ⟨w.heap.size, 0, none⟩) yB).trans i0
   have zc1 := (hSw.cell (p := ⟨w.heap.size, 1, none⟩) yB).trans i1
   have zc2 := (hSw.cell (p := ⟨w.heap.size, 2, none⟩) yB).trans i2
   have zc3 := (hSw.cell (p := ⟨w.heap.size, 3, none⟩) yB).trans i3
   have zc4 := (hSw.cell (p := ⟨w.heap.size, 4, none⟩) yB).trans i4
   have zc5 := (hSw.cell (p := ⟨w.heap.size, 5, none⟩) yB).trans i5
   have zc6 := (hSw.cell (p := ⟨rb, rn, none⟩) yr).trans xr
   have zc7 := (hSw.cell (p := ⟨rb, an, none⟩) yr).trans xa
   go_simp
   try rfl
  try simp only [Act.put, sT, sZ, sS]
  refine' wpAnyL_take (i := 10) (oi := ⟨some 64, _, _, _, _, _⟩) (v := _) rfl (by kernel_rfl) (by kernel_rfl) (by kernel_rfl) (by kernel_rfl) (fun _ _ _ h => h) hH0 (by rfl) ?hyv ?o87
  case hyv =>
   intro wz hSw
   go_simp
   try rfl
  try simp only [Act.put, sT, sZ, sS]
  refine' wpAnyL_take (i := 11) (oi := ⟨some 65, _, _, _, _, _⟩) (v := _) rfl (by kernel_rfl) (by kernel_rfl) (by kernel_rfl) (by kernel_rfl) (fun _ _ _ h => h) hH0 (by rfl) ?hyv ?o88
  case hyv =>
   intro wz hSw
   have zc0 := (hSw.cell (p := ⟨w.heap.size, 0, none⟩) yB).trans i0
   have zc1 := (hSw.cell (p := ⟨w.heap.size, 1, none⟩) yB).trans i1
   have zc2 := (hSw.cell (p := ⟨w.heap.size, 2, none⟩) yB).trans i2
   have zc3 := (hSw.cell (p := ⟨w.heap.size, 3, none⟩) yB).trans i3
   have zc4 := (hSw.cell (p := ⟨w.heap.size, 4, none⟩) yB).trans i4
   have zc5 := (hSw.cell (p := ⟨w.heap.size, 5, none⟩) yB).trans i5
   have zc6 := (hSw.cell (p := ⟨rb, rn, none⟩) yr).trans xr
   have zc7 := (hSw.cell (p := ⟨rb, an, none⟩) yr).trans xa
   go_simp
   try rfl
  try simp only [Act.put, sT, sZ, sS]
  refine' wpAnyL_take (i := 12) (oi := ⟨some 66, _, _, _, _, _⟩) (v := _) rfl (by kernel_rfl) (by kernel_rfl) (by kernel_rfl) (by kernel_rfl) (fun _ _ _ h => h) hH0 (by rfl) ?hyv ?o89
  case hyv =>
   intro wz hSw
   go_simp
   try rfl
  try simp only [Act.put, sT, sZ, sS]
  refine' wpAnyL_take (i := 13) (oi := ⟨some 67, _, _, _, _, _⟩) (v := _) rfl (by kernel_rfl) (by kernel_rfl) (by kernel_rfl) (by kernel_rfl) (fun _ _ _ h => h) hH0 (by rfl) ?hyv ?o90
  case hyv =>
   intro wz hSw
   have zc0 := (hSw.cell (p := ⟨w.heap.size, 0, none⟩) yB).trans i0
   have zc1 := (hSw.cell (p := ⟨w.heap.size, 1, none⟩) yB).trans i1
   have zc2 := (hSw.cell (p := ⟨w.heap.size, 2, none⟩) yB).trans i2
   have zc3 := (hSw.cell (p := ⟨w.heap.size, 3, none⟩) yB).trans i3
   have zc4 := (hSw.cell (p := ⟨w.heap.size, 4, none⟩) yB).trans i4
   have zc5 := (hSw.cell (p := ⟨w.heap.size, 5, none⟩) yB).trans i5
   have zc6 := (hSw.cell (p := ⟨rb, rn, none⟩) yr).trans xr
   have zc7 := (hSw.cell (p := ⟨rb, an, none⟩) yr).trans xa
   go_simp
   try rfl
  try simp only [Act.put, sT, sZ, sS]
  refine' wpAnyL_take (i := 14) (oi := ⟨some 68, _, _, _, _, _⟩) (v := _) rfl (by kernel_rfl) (by kernel_rfl) (by kernel_rfl) (by kernel_rfl) (fun _ _ _ h => h) hH0 (by rfl) ?hyv ?o91
  case hyv =>
   intro wz hSw
   go_simp
   try rfl
  try simp only [Act.put, sT, sZ, sS]
  refine' wpAnyL_take (i := 15) (oi := ⟨some 69, _, _, _, _, _⟩) (v := _) rfl (by kernel_rfl) (by kernel_rfl) (by kernel_rfl) (by kernel_rfl) (fun _ _ _ h => h) hH0 (by rfl) ?hyv ?o92
  case hyv =>
   intro wz hSw
   go_simp
   try rfl
  try simp only [Act.put, sT, sZ, sS]
  refine wpAnyL_done (by kernel_rfl) ?_ _
  have kG := hg2.keep (hH0.block _ yg)
  have kE := hx2.under hH0
  have kM := hm2.under hH0
  clear hg2 hx2 hm2
  rw [← HXX.out] at kE
  rw [← HMM.out] at kM
  go_wp2
  go_ret
  exact ⟨rfl, kG, kE, kM, A2.trans (aside hH0) A2.size⟩
set_option maxHeartbeats 8000000 in
theorem done5n_any {w : World} {gb rb cb nc cc nr cr : Nat} {v0 v1 v2 v3 v4 v5 v6 : Value} {X M : List Int} {st : Int} (hg : GAt w gb cb nc cc v0 v1 v2 v3 v4 v5 v6 st) (hx : LX w rb X) (hm : LX w cb M) (hnr : nr = X.length) (hnc : nc ≤ M.length) (hX : X.length ≤ 40) (hM : nc ≤ 6000) (n1 : gb ≠ rb) (n2 : gb ≠ cb) (n3 : rb ≠ cb) (kk : Int) (rn : Nat) (hr : rn < X.length) (bq nn : Int) (an : Nat) (ha : an < X.length) (hp : X[an] < 0) : Calls Tryd.prog 43 #[.pointer (some ⟨gb, 0, none⟩), .agg #[.int .i64 5, .int .i64 kk, .int .i64 (rn : Int), .int .i64 (an : Int), .int .i64 bq, .int .i64 nn], .slice (some ⟨rb, 0, none⟩) nr cr] w (DOneN w gb rb cb nc cc v0 v1 v2 v3 v4 v5 v6 st (X) (M)) := by
 have b1 : Below w.heap.size w (w.alloc (.cells #[.int .i64 5, .int .i64 kk, .int .i64 (rn : Int), .int .i64 (an : Int), .int .i64 bq, .int .i64 nn] 52 (0, 0))) := (Below.refl _ _).alloc (Nat.le_refl _) _
 have kB := heap_new w (.cells #[.int .i64 5, .int .i64 kk, .int .i64 (rn : Int), .int .i64 (an : Int), .int .i64 bq, .int .i64 nn] 52 (0, 0))
 have ygw := lt_of hg
 have yrw := hx.lt
 have ycw := hm.lt
 have HNR := hide hnr
 have HNC := hide hnc
 clear hnr hnc
 have hx1 := hx.under b1
 have hm1 := hm.under b1
 have kg := (b1.block _ ygw).trans (show w.heap[gb]? = some (.cells #[v0, v1, v2, v3, v4, v5, v6, .slice (some ⟨cb, 0, none⟩) nc cc, .int .i64 st] 46 (0, 0)) from hg)
 obtain ⟨XX, hXX⟩ : ∃ z, z = (X) := ⟨_, rfl⟩
 obtain ⟨MM, hMM⟩ : ∃ z, z = (M) := ⟨_, rfl⟩
 suffices hh : Calls Tryd.prog 43 #[.pointer (some ⟨gb, 0, none⟩), .agg #[.int .i64 5, .int .i64 kk, .int .i64 (rn : Int), .int .i64 (an : Int), .int .i64 bq, .int .i64 nn], .slice (some ⟨rb, 0, none⟩) nr cr] w (DOneN w gb rb cb nc cc v0 v1 v2 v3 v4 v5 v6 st XX MM) by
  rw [hXX, hMM] at hh
  exact hh
 have HXX := hide hXX
 have HMM := hide hMM
 clear hg hx hm hXX hMM
 go_enter Tryd.func43, Tryd.ntmps43
 go_upto_region 1 with fail
 generalize w.alloc (.cells #[.int .i64 5, .int .i64 kk, .int .i64 (rn : Int), .int .i64 (an : Int), .int .i64 bq, .int .i64 nn] 52 (0, 0)) = w1 at b1 kB hx1 hm1 kg ⊢
 have s8 := cell_of kg 8
 have f8 := free_of kg 8
 simp at s8
 have y1 := b1.size
 have yB := lt_of kB
 go_cut [] (fun wd => GAt wd gb cb nc cc v0 v1 v2 v3 v4 v5 v6 (wrap64 (st + 1)) ∧ LX wd rb X ∧ LX wd cb M ∧ wd.heap[w.heap.size]? = some (.cells #[.int .i64 5, .int .i64 kk, .int .i64 (rn : Int), .int .i64 (an : Int), .int .i64 bq, .int .i64 nn] 52 (0, 0)) ∧ Aside [gb] w1.heap.size w1 wd)
 case first =>
  go_wp2_with fail
  go_meet
  case rel =>
   have a2 : ∀ u, Aside [gb] w1.heap.size w1 (w1.setCell ⟨gb, 8, none⟩ u) := fun u => Aside.setCell (p := ⟨gb, 8, none⟩) (by simp) u
   exact ⟨by have := set_in kg 8 (.int .i64 (wrap64 (st + 1))); simpa [GAt] using this, hx1.keep ((a2 _).block _ (by omega) (by simpa using n1.symm)), hm1.keep ((a2 _).block _ (by omega) (by simpa using n2.symm)), ((a2 _).block _ yB (by simp; omega)).trans kB, a2 _⟩
 case rest =>
  obtain ⟨hg2, hx2, hm2, kB2, a2⟩ := hcut
  clear kB hx1 hm1 kg s8 f8 yB
  obtain ⟨w2, hw2⟩ : ∃ x, x = wc := ⟨_, rfl⟩
  subst hw2
  have kg2 : w2.heap[gb]? = some (.cells #[v0, v1, v2, v3, v4, v5, v6, .slice (some ⟨cb, 0, none⟩) nc cc, .int .i64 (wrap64 (st + 1))] 46 (0, 0)) := hg2
  have yB := lt_of kB2
  have yg := lt_of kg2
  have yr := hx2.lt
  have yc := hm2.lt
  have i0 := cell_of kB2 0
  have i1 := cell_of kB2 1
  have i2 := cell_of kB2 2
  have i3 := cell_of kB2 3
  have i4 := cell_of kB2 4
  have i5 := cell_of kB2 5
  have g7 := cell_of kg2 7
  simp at i0 i1 i2 i3 i4 i5 g7
  have xr := hx2.at hr
  have A2 : Aside [gb, rb, cb] w.heap.size w w2 := ((aside b1).trans (a2.wide (fun _ _ h => by simp at h ⊢; exact h.1)) b1.size)
  have hnr := HNR.out
  have hnc := HNC.out
  have hrn : (rn : Int) < (nr : Int) := by omega
  clear HNR HNC
  clear kB2 a2 b1 y1 kg2
  have xa := hx2.at ha
  have han : (an : Int) < (nr : Int) := by omega
  generalize X[an] = y at xa hp
  clear hnr hnc
  go_upto_region 14 with fail
  refine wp_region_late (fun w' => Below w2.heap.size w2 w') (fun _ => false) (by kernel_rfl) ?_
  have hH0 : Below w2.heap.size w2 w2.drew := (Below.refl _ _).drew
  generalize w2.drew = wd0 at hH0 ⊢
  refine' wpAnyL_take (i := 0) (oi := ⟨some 90, _, _, _, _, _⟩) (v := _) rfl (by kernel_rfl) (by kernel_rfl) (by kernel_rfl) (by kernel_rfl) (fun _ _ _ h => h) hH0 (by rfl) ?hyv ?o93
  case hyv =>
   intro wz hSw
   go_simp
   try rfl
  try simp only [Act.put, sT, sZ, sS]
  refine' wpAnyL_take (i := 1) (oi := ⟨some 91, _, _, _, _, _⟩) (v := _) rfl (by kernel_rfl) (by kernel_rfl) (by kernel_rfl) (by kernel_rfl) (fun _ _ _ h => h) hH0 (by rfl) ?hyv ?o94
  case hyv =>
   intro wz hSw
   go_simp
   try rfl
  try simp only [Act.put, sT, sZ, sS]
  refine' wpAnyL_take (i := 2) (oi := ⟨some 92, _, _, _, _, _⟩) (v := _) rfl (by kernel_rfl) (by kernel_rfl) (by kernel_rfl) (by kernel_rfl) (fun _ _ _ h => h) hH0 (by rfl) ?hyv ?o95
  case hyv =>
   intro wz hSw
   have zc0 := (hSw.cell (p := ⟨w.heap.size, 0, none⟩) yB).trans i0
   have zc1 := (hSw.cell (p := ⟨w.heap.size, 1, none⟩) yB).trans i1
   have zc2 := (hSw.cell (p := ⟨w.heap.size, 2, none⟩) yB).trans i2
   have zc3 := (hSw.cell (p := ⟨w.heap.size, 3, none⟩) yB).trans i3
   have zc4 := (hSw.cell (p := ⟨w.heap.size, 4, none⟩) yB).trans i4
   have zc5 := (hSw.cell (p := ⟨w.heap.size, 5, none⟩) yB).trans i5
   have zc6 := (hSw.cell (p := ⟨rb, rn, none⟩) yr).trans xr
   have zc7 := (hSw.cell (p := ⟨rb, an, none⟩) yr).trans xa
   go_simp
   try rfl
  try simp only [Act.put, sT, sZ, sS]
  refine' wpAnyL_take (i := 3) (oi := ⟨some 93, _, _, _, _, _⟩) (v := _) rfl (by kernel_rfl) (by kernel_rfl) (by kernel_rfl) (by kernel_rfl) (fun _ _ _ h => h) hH0 (by rfl) ?hyv ?o96
  case hyv =>
   intro wz hSw
   go_simp
   try rfl
  try simp only [Act.put, sT, sZ, sS]
  refine' wpAnyL_take (i := 4) (oi := ⟨some 94, _, _, _, _, _⟩) (v := _) rfl (by kernel_rfl) (by kernel_rfl) (by kernel_rfl) (by kernel_rfl) (fun _ _ _ h => h) hH0 (by rfl) ?hyv ?o97
  case hyv =>
   intro wz hSw
   have zc0 := (hSw.cell (p := ⟨w.heap.size, 0, none⟩) yB).trans i0
   have zc1 := (hSw.cell (p := ⟨w.heap.size, 1, none⟩) yB).trans i1
   have zc2 := (hSw.cell (p := ⟨w.heap.size, 2, none⟩) yB).trans i2
   have zc3 := (hSw.cell (p := ⟨w.heap.size, 3, none⟩) yB).trans i3
   have zc4 := (hSw.cell (p := ⟨w.heap.size, 4, none⟩) yB).trans i4
   have zc5 := (hSw.cell (p := ⟨w.heap.size, 5, none⟩) yB).trans i5
   have zc6 := (hSw.cell (p := ⟨rb, rn, none⟩) yr).trans xr
   have zc7 := (hSw.cell (p := ⟨rb, an, none⟩) yr).trans xa
   go_simp
   try rfl
  try simp only [Act.put, sT, sZ, sS]
  refine' wpAnyL_take (i := 5) (oi := ⟨some 95, _, _, _, _, _⟩) (v := _) rfl (by kernel_rfl) (by kernel_rfl) (by kernel_rfl) (by kernel_rfl) (fun _ _ _ h => h) hH0 (by rfl) ?hyv ?o98
  case hyv =>
   intro wz hSw
   go_simp
   try rfl
  try simp only [Act.put, sT, sZ, sS]
  refine' wpAnyL_take (i := 6) (oi := ⟨some 96, _, _, _, _, _⟩) (v := _) rfl (by kernel_rfl) (by kernel_rfl) (by kernel_rfl) (by kernel_rfl) (fun _ _ _ h => h) hH0 (by rfl) ?hyv ?o99
  case hyv =>
   intro wz hSw
   go_simp
   try rfl
  try simp only [Act.put, sT, sZ, sS]
  refine wpAnyL_skip (i := 7) (oi := ⟨some 97, _, _, _, _, _⟩) rfl (by kernel_rfl) (by kernel_rfl) (by kernel_rfl) (by kernel_rfl) (fun _ _ _ h => h) hH0 (by rfl) ?_
  try simp only [Act.put, sT, sZ, sS]
  refine wpAnyL_skip (i := 8) (oi := ⟨some 98, _, _, _, _, _⟩) rfl (by kernel_rfl) (by kernel_rfl) (by kernel_rfl) (by kernel_rfl) (fun _ _ _ h => h) hH0 (by rfl) ?_
  try simp only [Act.put, sT, sZ, sS]
  refine wpAnyL_skip (i := 9) (oi := ⟨some 99, _, _, _, _, _⟩) rfl (by kernel_rfl) (by kernel_rfl) (by kernel_rfl) (by kernel_rfl) (fun _ _ _ h => h) hH0 (by rfl) ?_
  try simp only [Act.put, sT, sZ, sS]
  refine wpAnyL_skip (i := 10) (oi := ⟨some 100, _, _, _, _, _⟩) rfl (by kernel_rfl) (by kernel_rfl) (by kernel_rfl) (by kernel_rfl) (fun _ _ _ h => h) hH0 (by rfl) ?_
  try simp only [Act.put, sT, sZ, sS]
  refine wpAnyL_skip (i := 11) (oi := ⟨some 101, _, _, _, _, _⟩) rfl (by kernel_rfl) (by kernel_rfl) (by kernel_rfl) (by kernel_rfl) (fun _ _ _ h => h) hH0 (by rfl) ?_
  try simp only [Act.put, sT, sZ, sS]
  refine wpAnyL_skip (i := 12) (oi := ⟨some 102, _, _, _, _, _⟩) rfl (by kernel_rfl) (by kernel_rfl) (by kernel_rfl) (by kernel_rfl) (fun _ _ _ h => h) hH0 (by rfl) ?_
  try simp only [Act.put, sT, sZ, sS]
  refine wpAnyL_skip (i := 13) (oi := ⟨some 103, _, _, _, _, _⟩) rfl (by kernel_rfl) (by kernel_rfl) (by kernel_rfl) (by kernel_rfl) (fun _ _ _ h => h) hH0 (by rfl) ?_
  try simp only [Act.put, sT, sZ, sS]
  refine wpAnyL_skip (i := 14) (oi := ⟨some 104, _, _, _, _, _⟩) rfl (by kernel_rfl) (by kernel_rfl) (by kernel_rfl) (by kernel_rfl) (fun _ _ _ h => h) hH0 (by rfl) ?_
  try simp only [Act.put, sT, sZ, sS]
  refine' wpAnyL_take (i := 15) (oi := ⟨some 105, _, _, _, _, _⟩) (v := _) rfl (by kernel_rfl) (by kernel_rfl) (by kernel_rfl) (by kernel_rfl) (fun _ _ _ h => h) hH0 (by rfl) ?hyv ?o100
  case hyv =>
   intro wz hSw
   go_simp
   try rfl
  try simp only [Act.put, sT, sZ, sS]
  refine wpAnyL_done (by kernel_rfl) ?_ _
  have kG := hg2.keep (hH0.block _ yg)
  have kE := hx2.under hH0
  have kM := hm2.under hH0
  clear hg2 hx2 hm2
  rw [← HXX.out] at kE
  rw [← HMM.out] at kM
  go_wp2
  go_ret
  exact ⟨rfl, kG, kE, kM, A2.trans (aside hH0) A2.size⟩
set_option maxHeartbeats 8000000 in
theorem done5m_any {w : World} {gb rb cb nc cc nr cr : Nat} {v0 v1 v2 v3 v4 v5 v6 : Value} {X M : List Int} {st : Int} (hg : GAt w gb cb nc cc v0 v1 v2 v3 v4 v5 v6 st) (hx : LX w rb X) (hm : LX w cb M) (hnr : nr = X.length) (hnc : nc ≤ M.length) (hX : X.length ≤ 40) (hM : nc ≤ 6000) (n1 : gb ≠ rb) (n2 : gb ≠ cb) (n3 : rb ≠ cb) (kk : Int) (rn : Nat) (hr : rn < X.length) (bq nn : Int) (an : Nat) (ha : an < X.length) (hp : ¬ X[an] < 0) (hpb : X[an] ≥ bq) : Calls Tryd.prog 43 #[.pointer (some ⟨gb, 0, none⟩), .agg #[.int .i64 5, .int .i64 kk, .int .i64 (rn : Int), .int .i64 (an : Int), .int .i64 bq, .int .i64 nn], .slice (some ⟨rb, 0, none⟩) nr cr] w (DOneN w gb rb cb nc cc v0 v1 v2 v3 v4 v5 v6 st (X) (M)) := by
 have b1 : Below w.heap.size w (w.alloc (.cells #[.int .i64 5, .int .i64 kk, .int .i64 (rn : Int), .int .i64 (an : Int), .int .i64 bq, .int .i64 nn] 52 (0, 0))) := (Below.refl _ _).alloc (Nat.le_refl _) _
 have kB := heap_new w (.cells #[.int .i64 5, .int .i64 kk, .int .i64 (rn : Int), .int .i64 (an : Int), .int .i64 bq, .int .i64 nn] 52 (0, 0))
 have ygw := lt_of hg
 have yrw := hx.lt
 have ycw := hm.lt
 have HNR := hide hnr
 have HNC := hide hnc
 clear hnr hnc
 have hx1 := hx.under b1
 have hm1 := hm.under b1
 have kg := (b1.block _ ygw).trans (show w.heap[gb]? = some (.cells #[v0, v1, v2, v3, v4, v5, v6, .slice (some ⟨cb, 0, none⟩) nc cc, .int .i64 st] 46 (0, 0)) from hg)
 obtain ⟨XX, hXX⟩ : ∃ z, z = (X) := ⟨_, rfl⟩
 obtain ⟨MM, hMM⟩ : ∃ z, z = (M) := ⟨_, rfl⟩
 suffices hh : Calls Tryd.prog 43 #[.pointer (some ⟨gb, 0, none⟩), .agg #[.int .i64 5, .int .i64 kk, .int .i64 (rn : Int), .int .i64 (an : Int), .int .i64 bq, .int .i64 nn], .slice (some ⟨rb, 0, none⟩) nr cr] w (DOneN w gb rb cb nc cc v0 v1 v2 v3 v4 v5 v6 st XX MM) by
  rw [hXX, hMM] at hh
  exact hh
 have HXX := hide hXX
 have HMM := hide hMM
 clear hg hx hm hXX hMM
 go_enter Tryd.func43, Tryd.ntmps43
 go_upto_region 1 with fail
 generalize w.alloc (.cells #[.int .i64 5, .int .i64 kk, .int .i64 (rn : Int), .int .i64 (an : Int), .int .i64 bq, .int .i64 nn] 52 (0, 0)) = w1 at b1 kB hx1 hm1 kg ⊢
 have s8 := cell_of kg 8
 have f8 := free_of kg 8
 simp at s8
 have y1 := b1.size
 have yB := lt_of kB
 go_cut [] (fun wd => GAt wd gb cb nc cc v0 v1 v2 v3 v4 v5 v6 (wrap64 (st + 1)) ∧ LX wd rb X ∧ LX wd cb M ∧ wd.heap[w.heap.size]? = some (.cells #[.int .i64 5, .int .i64 kk, .int .i64 (rn : Int), .int .i64 (an : Int), .int .i64 bq, .int .i64 nn] 52 (0, 0)) ∧ Aside [gb] w1.heap.size w1 wd)
 case first =>
  go_wp2_with fail
  go_meet
  case rel =>
   have a2 : ∀ u, Aside [gb] w1.heap.size w1 (w1.setCell ⟨gb, 8, none⟩ u) := fun u => Aside.setCell (p := ⟨gb, 8, none⟩) (by simp) u
   exact ⟨by have := set_in kg 8 (.int .i64 (wrap64 (st + 1))); simpa [GAt] using this, hx1.keep ((a2 _).block _ (by omega) (by simpa using n1.symm)), hm1.keep ((a2 _).block _ (by omega) (by simpa using n2.symm)), ((a2 _).block _ yB (by simp; omega)).trans kB, a2 _⟩
 case rest =>
  obtain ⟨hg2, hx2, hm2, kB2, a2⟩ := hcut
  clear kB hx1 hm1 kg s8 f8 yB
  obtain ⟨w2, hw2⟩ : ∃ x, x = wc := ⟨_, rfl⟩
  subst hw2
  have kg2 : w2.heap[gb]? = some (.cells #[v0, v1, v2, v3, v4, v5, v6, .slice (some ⟨cb, 0, none⟩) nc cc, .int .i64 (wrap64 (st + 1))] 46 (0, 0)) := hg2
  have yB := lt_of kB2
  have yg := lt_of kg2
  have yr := hx2.lt
  have yc := hm2.lt
  have i0 := cell_of kB2 0
  have i1 := cell_of kB2 1
  have i2 := cell_of kB2 2
  have i3 := cell_of kB2 3
  have i4 := cell_of kB2 4
  have i5 := cell_of kB2 5
  have g7 := cell_of kg2 7
  simp at i0 i1 i2 i3 i4 i5 g7
  have xr := hx2.at hr
  have A2 : Aside [gb, rb, cb] w.heap.size w w2 := ((aside b1).trans (a2.wide (fun _ _ h => by simp at h ⊢; exact h.1)) b1.size)
  have hnr := HNR.out
  have hnc := HNC.out
  have hrn : (rn : Int) < (nr : Int) := by omega
  clear HNR HNC
  clear kB2 a2 b1 y1 kg2
  have xa := hx2.at ha
  have han : (an : Int) < (nr : Int) := by omega
  generalize X[an] = y at xa hp hpb
  clear hnr hnc
  go_upto_region 14 with fail
  refine wp_region_late (fun w' => Below w2.heap.size w2 w') (fun _ => false) (by kernel_rfl) ?_
  have hH0 : Below w2.heap.size w2 w2.drew := (Below.refl _ _).drew
  generalize w2.drew = wd0 at hH0 ⊢
  refine' wpAnyL_take (i := 0) (oi := ⟨some 90, _, _, _, _, _⟩) (v := _) rfl (by kernel_rfl) (by kernel_rfl) (by kernel_rfl) (by kernel_rfl) (fun _ _ _ h => h) hH0 (by rfl) ?hyv ?o101
  case hyv =>
   intro wz hSw
   go_simp
   try rfl
  try simp only [Act.put, sT, sZ, sS]
  refine' wpAnyL_take (i := 1) (oi := ⟨some 91, _, _, _, _, _⟩) (v := _) rfl (by kernel_rfl) (by kernel_rfl) (by kernel_rfl) (by kernel_rfl) (fun _ _ _ h => h) hH0 (by rfl) ?hyv ?o102
  case hyv =>
   intro wz hSw
   go_simp
   try rfl
  try simp only [Act.put, sT, sZ, sS]
  refine' wpAnyL_take (i := 2) (oi := ⟨some 92, _, _, _, _, _⟩) (v := _) rfl (by kernel_rfl) (by kernel_rfl) (by kernel_rfl) (by kernel_rfl) (fun _ _ _ h => h) hH0 (by rfl) ?hyv ?o103
  case hyv =>
   intro wz hSw
   have zc0 := (hSw.cell (p := ⟨w.heap.size, 0, none⟩) yB).trans i0
   have zc1 := (hSw.cell (p := ⟨w.heap.size, 1, none⟩) yB).trans i1
   have zc2 := (hSw.cell (p := ⟨w.heap.size, 2, none⟩) yB).trans i2
   have zc3 := (hSw.cell (p := ⟨w.heap.size, 3, none⟩) yB).trans i3
   have zc4 := (hSw.cell (p := ⟨w.heap.size, 4, none⟩) yB).trans i4
   have zc5 := (hSw.cell (p := ⟨w.heap.size, 5, none⟩) yB).trans i5
   have zc6 := (hSw.cell (p := ⟨rb, rn, none⟩) yr).trans xr
   have zc7 := (hSw.cell (p := ⟨rb, an, none⟩) yr).trans xa
   go_simp
   try rfl
  try simp only [Act.put, sT, sZ, sS]
  refine' wpAnyL_take (i := 3) (oi := ⟨some 93, _, _, _, _, _⟩) (v := _) rfl (by kernel_rfl) (by kernel_rfl) (by kernel_rfl) (by kernel_rfl) (fun _ _ _ h => h) hH0 (by rfl) ?hyv ?o104
  case hyv =>
   intro wz hSw
   go_simp
   try rfl
  try simp only [Act.put, sT, sZ, sS]
  refine' wpAnyL_take (i := 4) (oi := ⟨some 94, _, _, _, _, _⟩) (v := _) rfl (by kernel_rfl) (by kernel_rfl) (by kernel_rfl) (by kernel_rfl) (fun _ _ _ h => h) hH0 (by rfl) ?hyv ?o105
  case hyv =>
   intro wz hSw
   have zc0 := (hSw.cell (p := ⟨w.heap.size, 0, none⟩) yB).trans i0
   have zc1 := (hSw.cell (p := ⟨w.heap.size, 1, none⟩) yB).trans i1
   have zc2 := (hSw.cell (p := ⟨w.heap.size, 2, none⟩) yB).trans i2
   have zc3 := (hSw.cell (p := ⟨w.heap.size, 3, none⟩) yB).trans i3
   have zc4 := (hSw.cell (p := ⟨w.heap.size, 4, none⟩) yB).trans i4
   have zc5 := (hSw.cell (p := ⟨w.heap.size, 5, none⟩) yB).trans i5
   have zc6 := (hSw.cell (p := ⟨rb, rn, none⟩) yr).trans xr
   have zc7 := (hSw.cell (p := ⟨rb, an, none⟩) yr).trans xa
   go_simp
   try rfl
  try simp only [Act.put, sT, sZ, sS]
  refine' wpAnyL_take (i := 5) (oi := ⟨some 95, _, _, _, _, _⟩) (v := _) rfl (by kernel_rfl) (by kernel_rfl) (by kernel_rfl) (by kernel_rfl) (fun _ _ _ h => h) hH0 (by rfl) ?hyv ?o106
  case hyv =>
   intro wz hSw
   go_simp
   try rfl
  try simp only [Act.put, sT, sZ, sS]
  refine' wpAnyL_take (i := 6) (oi := ⟨some 96, _, _, _, _, _⟩) (v := _) rfl (by kernel_rfl) (by kernel_rfl) (by kernel_rfl) (by kernel_rfl) (fun _ _ _ h => h) hH0 (by rfl) ?hyv ?o107
  case hyv =>
   intro wz hSw
   go_simp
   try rfl
  try simp only [Act.put, sT, sZ, sS]
  refine' wpAnyL_take (i := 7) (oi := ⟨some 97, _, _, _, _, _⟩) (v := _) rfl (by kernel_rfl) (by kernel_rfl) (by kernel_rfl) (by kernel_rfl) (fun _ _ _ h => h) hH0 (by rfl) ?hyv ?o108
  case hyv =>
   intro wz hSw
   go_simp
   try rfl
  try simp only [Act.put, sT, sZ, sS]
  refine' wpAnyL_take (i := 8) (oi := ⟨some 98, _, _, _, _, _⟩) (v := _) rfl (by kernel_rfl) (by kernel_rfl) (by kernel_rfl) (by kernel_rfl) (fun _ _ _ h => h) hH0 (by rfl) ?hyv ?o109
  case hyv =>
   intro wz hSw
   go_simp
   try rfl
  try simp only [Act.put, sT, sZ, sS]
  refine' wpAnyL_take (i := 9) (oi := ⟨some 99, _, _, _, _, _⟩) (v := _) rfl (by kernel_rfl) (by kernel_rfl) (by kernel_rfl) (by kernel_rfl) (fun _ _ _ h => h) hH0 (by rfl) ?hyv ?o110
  case hyv =>
   intro wz hSw
   have zc0 := (hSw.cell (p := ⟨w.heap.size, 0, none⟩) yB).trans i0
   have zc1 := (hSw.cell (p := ⟨w.heap.size, 1, none⟩) yB).trans i1
   have zc2 := (hSw.cell (p := ⟨w.heap.size, 2, none⟩) yB).trans i2
   have zc3 := (hSw.cell (p := ⟨w.heap.size, 3, none⟩) yB).trans i3
   have zc4 := (hSw.cell (p := ⟨w.heap.size, 4, none⟩) yB).trans i4
   have zc5 := (hSw.cell (p := ⟨w.heap.size, 5, none⟩) yB).trans i5
   have zc6 := (hSw.cell (p := ⟨rb, rn, none⟩) yr).trans xr
   have zc7 := (hSw.cell (p := ⟨rb, an, none⟩) yr).trans xa
   go_simp
   try rfl
  try simp only [Act.put, sT, sZ, sS]
  refine' wpAnyL_take (i := 10) (oi := ⟨some 100, _, _, _, _, _⟩) (v := _) rfl (by kernel_rfl) (by kernel_rfl) (by kernel_rfl) (by kernel_rfl) (fun _ _ _ h => h) hH0 (by rfl) ?hyv ?o111
  case hyv =>
   intro wz hSw
   go_simp
   try rfl
  try simp only [Act.put, sT, sZ, sS]
  refine' wpAnyL_take (i := 11) (oi := ⟨some 101, _, _, _, _, _⟩) (v := _) rfl (by kernel_rfl) (by kernel_rfl) (by kernel_rfl) (by kernel_rfl) (fun _ _ _ h => h) hH0 (by rfl) ?hyv ?o112
  case hyv =>
   intro wz hSw
   have zc0 := (hSw.cell (p := ⟨w.heap.size, 0, none⟩) yB).trans i0
   have zc1 := (hSw.cell (p := ⟨w.heap.size, 1, none⟩) yB).trans i1
   have zc2 := (hSw.cell (p := ⟨w.heap.size, 2, none⟩) yB).trans i2
   have zc3 := (hSw.cell (p := ⟨w.heap.size, 3, none⟩) yB).trans i3
   have zc4 := (hSw.cell (p := ⟨w.heap.size, 4, none⟩) yB).trans i4
   have zc5 := (hSw.cell (p := ⟨w.heap.size, 5, none⟩) yB).trans i5
   have zc6 := (hSw.cell (p := ⟨rb, rn, none⟩) yr).trans xr
   have zc7 := (hSw.cell (p := ⟨rb, an, none⟩) yr).trans xa
   go_simp
   try rfl
  try simp only [Act.put, sT, sZ, sS]
  refine' wpAnyL_take (i := 12) (oi := ⟨some 102, _, _, _, _, _⟩) (v := _) rfl (by kernel_rfl) (by kernel_rfl) (by kernel_rfl) (by kernel_rfl) (fun _ _ _ h => h) hH0 (by rfl) ?hyv ?o113
  case hyv =>
   intro wz hSw
   go_simp
   try rfl
  try simp only [Act.put, sT, sZ, sS]
  refine' wpAnyL_take (i := 13) (oi := ⟨some 103, _, _, _, _, _⟩) (v := _) rfl (by kernel_rfl) (by kernel_rfl) (by kernel_rfl) (by kernel_rfl) (fun _ _ _ h => h) hH0 (by rfl) ?hyv ?o114
  case hyv =>
   intro wz hSw
   have zc0 := (hSw.cell (p := ⟨w.heap.size, 0, none⟩) yB).trans i0
   have zc1 := (hSw.cell (p := ⟨w.heap.size, 1, none⟩) yB).trans i1
   have zc2 := (hSw.cell (p := ⟨w.heap.size, 2, none⟩) yB).trans i2
   have zc3 := (hSw.cell (p := ⟨w.heap.size, 3, none⟩) yB).trans i3
   have zc4 := (hSw.cell (p := ⟨w.heap.size, 4, none⟩) yB).trans i4
   have zc5 := (hSw.cell (p := ⟨w.heap.size, 5, none⟩) yB).trans i5
   have zc6 := (hSw.cell (p := ⟨rb, rn, none⟩) yr).trans xr
   have zc7 := (hSw.cell (p := ⟨rb, an, none⟩) yr).trans xa
   go_simp
   try rfl
  try simp only [Act.put, sT, sZ, sS]
  refine' wpAnyL_take (i := 14) (oi := ⟨some 104, _, _, _, _, _⟩) (v := _) rfl (by kernel_rfl) (by kernel_rfl) (by kernel_rfl) (by kernel_rfl) (fun _ _ _ h => h) hH0 (by rfl) ?hyv ?o115
  case hyv =>
   intro wz hSw
   go_simp
   try rfl
  try simp only [Act.put, sT, sZ, sS]
  refine' wpAnyL_take (i := 15) (oi := ⟨some 105, _, _, _, _, _⟩) (v := _) rfl (by kernel_rfl) (by kernel_rfl) (by kernel_rfl) (by kernel_rfl) (fun _ _ _ h => h) hH0 (by rfl) ?hyv ?o116
  case hyv =>
   intro wz hSw
   go_simp
   try rfl
  try simp only [Act.put, sT, sZ, sS]
  refine wpAnyL_done (by kernel_rfl) ?_ _
  have kG := hg2.keep (hH0.block _ yg)
  have kE := hx2.under hH0
  have kM := hm2.under hH0
  clear hg2 hx2 hm2
  rw [← HXX.out] at kE
  rw [← HMM.out] at kM
  go_wp2
  go_ret
  exact ⟨rfl, kG, kE, kM, A2.trans (aside hH0) A2.size⟩
end Dx
end Go.Proofs.YtkgbmgpdehmiiaaDoor
