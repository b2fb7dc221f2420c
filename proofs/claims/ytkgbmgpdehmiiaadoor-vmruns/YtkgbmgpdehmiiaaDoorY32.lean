import Derived.Test.YtkgbmgpdehmiiaaDoorY12
import Derived.WalkKit
import Derived.WalkSpells
import Derived.IntWalk
import Derived.Deep.Cut
import Derived.Deep.LoopGhost
import Derived.Laws.Cover1
import Derived.Lib.Hide
set_option linter.unusedVariables false
set_option linter.unusedSimpArgs false
set_option maxHeartbeats 64000000
set_option maxRecDepth 100000
namespace Go.Proofs.YtkgbmgpdehmiiaaDoor
open Go.RowKit Go.IntWalk
set_option linter.unusedVariables false
set_option linter.unusedSimpArgs false
theorem applyP_any (k a b : Int) (w : World) : Calls Tryd.prog 55 #[.int .i64 k, .int .i64 a, .int .i64 b] w fun e w' => e = .returned (.int .i64 (apT k a b)) ∧ Below w.heap.size w w' := (apply_any k a b w).mono (by rintro e w' ⟨rfl, rfl⟩; exact ⟨rfl, Below.refl _ _⟩)
set_option maxHeartbeats 8000000 in
theorem do1_any {w : World} {rb cb nc cc bi o : Nat} {u0 : Value} {X M : List Int} {pc dn lp tu : Int} (hr : RB w rb u0 (.slice (some ⟨cb, 0, none⟩) nc cc) X pc dn lp tu) (hm : LX w cb M) (hnc : nc ≤ M.length) (hM : nc ≤ 6000) (n1 : rb ≠ cb) (rn : Nat) (hrn : rn < X.length) {kk aa bq nn : Int} (hi : InAt w bi o ⟨1, kk, (rn : Int), aa, bq, nn⟩) : Calls Tryd.prog 42 #[.pointer (some ⟨rb, 0, none⟩), .pointer (some ⟨bi, o, none⟩)] w (DoP w rb cb u0 (.slice (some ⟨cb, 0, none⟩) nc cc) (X.set rn nn) (M) pc dn lp tu true) := by
 obtain ⟨zr, hzr⟩ : ∃ z, z = X[rn] := ⟨_, rfl⟩
 have HZr := hide hzr
 have h40r : (rn : Int) < 40 := by have := hr.l; omega
 have ezr : X[rn] = zr := hzr.symm
 obtain ⟨XX, hXX⟩ : ∃ z, z = (X.set rn nn) := ⟨_, rfl⟩
 obtain ⟨MM, hMM⟩ : ∃ z, z = (M) := ⟨_, rfl⟩
 suffices hh : Calls Tryd.prog 42 #[.pointer (some ⟨rb, 0, none⟩), .pointer (some ⟨bi, o, none⟩)] w (DoP w rb cb u0 (.slice (some ⟨cb, 0, none⟩) nc cc) XX MM pc dn lp tu true) by
  rw [hXX, hMM] at hh
  exact hh
 try simp only [ezr] at hXX hMM
 have HXX := hide hXX
 have HMM := hide hMM
 clear hXX hMM
 clear hzr ezr
 have i0 := hi.1
 have i1 := hi.2.1
 have i2 := hi.2.2.1
 have i3 := hi.2.2.2.1
 have i4 := hi.2.2.2.2.1
 have i5 := hi.2.2.2.2.2
 have yB := hi.lt
 have yr := hr.lt
 have yc := hm.lt
 have c1 := hr.c1
 have xr := hr.at hrn
 rw [← HZr.out] at xr
 go_enter Tryd.func42, Tryd.ntmps42
 go_upto_region 4 with fail
 refine wp_region_late (fun w' => Below w.heap.size w w') (fun i => i == 11) (by kernel_rfl) ?_
 have hH0 : Below w.heap.size w w.drew := (Below.refl _ _).drew
 generalize w.drew = wd0 at hH0 ⊢
 refine' wpAnyL_take (i := 0) (oi := ⟨some 15, _, _, _, _, _⟩) (v := _) rfl (by kernel_rfl) (by kernel_rfl) (by kernel_rfl) (by kernel_rfl) (fun _ _ _ h => h) hH0 (by rfl) ?hyv ?o1
 case hyv =>
  intro wz hSw
  go_simp
  try rfl
 try simp only [Act.put, sT, sZ, sS]
 refine' wpAnyL_take (i := 1) (oi := ⟨some 16, _, _, _, _, _⟩) (v := _) rfl (by kernel_rfl) (by kernel_rfl) (by kernel_rfl) (by kernel_rfl) (fun _ _ _ h => h) hH0 (by rfl) ?hyv ?o2
 case hyv =>
  intro wz hSw
  go_simp
  try rfl
 try simp only [Act.put, sT, sZ, sS]
 refine' wpAnyL_take (i := 2) (oi := ⟨some 17, _, _, _, _, _⟩) (v := _) rfl (by kernel_rfl) (by kernel_rfl) (by kernel_rfl) (by kernel_rfl) (fun _ _ _ h => h) hH0 (by rfl) ?hyv ?o3
 case hyv =>
  intro wz hSw
  go_simp
  try rfl
 try simp only [Act.put, sT, sZ, sS]
 refine' wpAnyL_take (i := 3) (oi := ⟨some 18, _, _, _, _, _⟩) (v := _) rfl (by kernel_rfl) (by kernel_rfl) (by kernel_rfl) (by kernel_rfl) (fun _ _ _ h => h) hH0 (by rfl) ?hyv ?o4
 case hyv =>
  intro wz hSw
  go_simp
  try rfl
 try simp only [Act.put, sT, sZ, sS]
 refine' wpAnyL_take (i := 4) (oi := ⟨some 19, _, _, _, _, _⟩) (v := _) rfl (by kernel_rfl) (by kernel_rfl) (by kernel_rfl) (by kernel_rfl) (fun _ _ _ h => h) hH0 (by rfl) ?hyv ?o5
 case hyv =>
  intro wz hSw
  have zc0 := (hSw.cell (p := ⟨bi, o, none⟩) yB).trans i0
  have zc1 := (hSw.cell (p := ⟨bi, o + 1, none⟩) yB).trans i1
  have zc2 := (hSw.cell (p := ⟨bi, o + 2, none⟩) yB).trans i2
  have zc3 := (hSw.cell (p := ⟨bi, o + 3, none⟩) yB).trans i3
  have zc4 := (hSw.cell (p := ⟨bi, o + 4, none⟩) yB).trans i4
  have zc5 := (hSw.cell (p := ⟨bi, o + 5, none⟩) yB).trans i5
  have zc6 := (hSw.cell (p := ⟨rb, 1, none⟩) yr).trans c1
  have zc7 := (hSw.cell (p := ⟨rb, 2 + rn, none⟩) yr).trans xr
  go_simp
  try rfl
 try simp only [Act.put, sT, sZ, sS]
 refine' wpAnyL_take (i := 5) (oi := ⟨some 20, _, _, _, _, _⟩) (v := _) rfl (by kernel_rfl) (by kernel_rfl) (by kernel_rfl) (by kernel_rfl) (fun _ _ _ h => h) hH0 (by rfl) ?hyv ?o6
 case hyv =>
  intro wz hSw
  go_simp
  try rfl
 try simp only [Act.put, sT, sZ, sS]
 refine' wpAnyL_take (i := 6) (oi := ⟨some 21, _, _, _, _, _⟩) (v := _) rfl (by kernel_rfl) (by kernel_rfl) (by kernel_rfl) (by kernel_rfl) (fun _ _ _ h => h) hH0 (by rfl) ?hyv ?o7
 case hyv =>
  intro wz hSw
  go_simp
  try rfl
 try simp only [Act.put, sT, sZ, sS]
 refine' wpAnyL_take (i := 7) (oi := ⟨some 22, _, _, _, _, _⟩) (v := _) rfl (by kernel_rfl) (by kernel_rfl) (by kernel_rfl) (by kernel_rfl) (fun _ _ _ h => h) hH0 (by rfl) ?hyv ?o8
 case hyv =>
  intro wz hSw
  go_simp
  try rfl
 try simp only [Act.put, sT, sZ, sS]
 refine' wpAnyL_take (i := 8) (oi := ⟨some 23, _, _, _, _, _⟩) (v := _) rfl (by kernel_rfl) (by kernel_rfl) (by kernel_rfl) (by kernel_rfl) (fun _ _ _ h => h) hH0 (by rfl) ?hyv ?o9
 case hyv =>
  intro wz hSw
  have zc0 := (hSw.cell (p := ⟨bi, o, none⟩) yB).trans i0
  have zc1 := (hSw.cell (p := ⟨bi, o + 1, none⟩) yB).trans i1
  have zc2 := (hSw.cell (p := ⟨bi, o + 2, none⟩) yB).trans i2
  have zc3 := (hSw.cell (p := ⟨bi, o + 3, none⟩) yB).trans i3
  have zc4 := (hSw.cell (p := ⟨bi, o + 4, none⟩) yB).trans i4
  have zc5 := (hSw.cell (p := ⟨bi, o + 5, none⟩) yB).trans i5
  have zc6 := (hSw.cell (p := ⟨rb, 1, none⟩) yr).trans c1
  have zc7 := (hSw.cell (p := ⟨rb, 2 + rn, none⟩) yr).trans xr
  go_simp
  try rfl
 try simp only [Act.put, sT, sZ, sS]
 refine wpAnyL_one (i := 9) (o := _) rfl (by kernel_rfl) (by rfl) (fun K hK => ?_)
 go_simp
 refine hK.out _ _ (fun _ => hH0) ?_
 clear hK K
 try simp only [Act.put, sT, sZ, sS]
 have hH1 := hH0
 rename World => wd1
 refine' wpAnyL_take (i := 10) (oi := ⟨some 25, _, _, _, _, _⟩) (v := _) rfl (by kernel_rfl) (by kernel_rfl) (by kernel_rfl) (by kernel_rfl) (fun _ _ _ h => h) hH1 (by rfl) ?hyv ?o10
 case hyv =>
  intro wz hSw
  go_simp
  try rfl
 try simp only [Act.put, sT, sZ, sS]
 refine wpAnyL_one (i := 11) (o := _) rfl (by kernel_rfl) (by rfl) (fun K hK => ?_)
 have kX := hr.under hH1
 have fr := kX.free (2 + rn)
 have st0 := kX.at hrn
 go_simp
 have hq : Aside [rb, cb] wd1.heap.size wd1 (wd1.setCell ⟨rb, 2 + rn, none⟩ (.int .i64 nn)) := Aside.setCell (by simp) _
 have hA2 : Aside [rb, cb] w.heap.size w (wd1.setCell ⟨rb, 2 + rn, none⟩ (.int .i64 nn)) := (aside hH1).trans hq hH1.size
 have kE := kX.setR hrn nn
 have kM := (hm.under hH1).keep (w' := wd1.setCell ⟨rb, 2 + rn, none⟩ (.int .i64 nn)) (heap_set_other wd1 ⟨rb, 2 + rn, none⟩ _ (by show rb ≠ cb; exact n1))
 refine hK.out _ _ (fun h => absurd h (by decide)) ?_
 clear hK K kX fr st0 hq
 try simp only [Act.put, sT, sZ, sS]
 generalize wd1.setCell ⟨rb, 2 + rn, none⟩ (.int .i64 nn) = wd2 at hA2 kE kM ⊢
 have hH2 := hA2
 refine wpAnyL_done (by kernel_rfl) ?_ _
 rw [← HXX.out] at kE
 rw [← HMM.out] at kM
 go_wp2
 go_ret
 exact ⟨rfl, kE, kM, hH2⟩
set_option maxHeartbeats 8000000 in
theorem do2_any {w : World} {rb cb nc cc bi o : Nat} {u0 : Value} {X M : List Int} {pc dn lp tu : Int} (hr : RB w rb u0 (.slice (some ⟨cb, 0, none⟩) nc cc) X pc dn lp tu) (hm : LX w cb M) (hnc : nc ≤ M.length) (hM : nc ≤ 6000) (n1 : rb ≠ cb) (rn : Nat) (hrn : rn < X.length) {kk aa bq : Int} {nn : Nat} (hn : nn < M.length) (hn2 : nn < nc) (hi : InAt w bi o ⟨2, kk, (rn : Int), aa, bq, (nn : Int)⟩) : Calls Tryd.prog 42 #[.pointer (some ⟨rb, 0, none⟩), .pointer (some ⟨bi, o, none⟩)] w (DoP w rb cb u0 (.slice (some ⟨cb, 0, none⟩) nc cc) (X.set rn M[nn]) (M) pc dn lp tu true) := by
 obtain ⟨zr, hzr⟩ : ∃ z, z = X[rn] := ⟨_, rfl⟩
 have HZr := hide hzr
 have h40r : (rn : Int) < 40 := by have := hr.l; omega
 have ezr : X[rn] = zr := hzr.symm
 obtain ⟨zm, hzm⟩ : ∃ z, z = M[nn]'hn := ⟨_, rfl⟩
 have HZm := hide hzm
 have ezm : M[nn]'hn = zm := hzm.symm
 obtain ⟨XX, hXX⟩ : ∃ z, z = (X.set rn M[nn]) := ⟨_, rfl⟩
 obtain ⟨MM, hMM⟩ : ∃ z, z = (M) := ⟨_, rfl⟩
 suffices hh : Calls Tryd.prog 42 #[.pointer (some ⟨rb, 0, none⟩), .pointer (some ⟨bi, o, none⟩)] w (DoP w rb cb u0 (.slice (some ⟨cb, 0, none⟩) nc cc) XX MM pc dn lp tu true) by
  rw [hXX, hMM] at hh
  exact hh
 try simp only [ezr, ezm] at hXX hMM
 have HXX := hide hXX
 have HMM := hide hMM
 clear hXX hMM
 clear hzr ezr hzm ezm
 have i0 := hi.1
 have i1 := hi.2.1
 have i2 := hi.2.2.1
 have i3 := hi.2.2.2.1
 have i4 := hi.2.2.2.2.1
 have i5 := hi.2.2.2.2.2
 have yB := hi.lt
 have yr := hr.lt
 have yc := hm.lt
 have c1 := hr.c1
 have xr := hr.at hrn
 rw [← HZr.out] at xr
 have mc := hm.at (i := nn) hn
 rw [← HZm.out] at mc
 have hnn : (nn : Int) < (nc : Int) := by omega
 go_enter Tryd.func42, Tryd.ntmps42
 go_upto_region 6 with fail
 refine wp_region_late (fun w' => Below w.heap.size w w') (fun i => i == 17) (by kernel_rfl) ?_
 have hH0 : Below w.heap.size w w.drew := (Below.refl _ _).drew
 generalize w.drew = wd0 at hH0 ⊢
 refine' wpAnyL_take (i := 0) (oi := ⟨some 28, _, _, _, _, _⟩) (v := _) rfl (by kernel_rfl) (by kernel_rfl) (by kernel_rfl) (by kernel_rfl) (fun _ _ _ h => h) hH0 (by rfl) ?hyv ?o11
 case hyv =>
  intro wz hSw
  go_simp
  try rfl
 try simp only [Act.put, sT, sZ, sS]
 refine' wpAnyL_take (i := 1) (oi := ⟨some 29, _, _, _, _, _⟩) (v := _) rfl (by kernel_rfl) (by kernel_rfl) (by kernel_rfl) (by kernel_rfl) (fun _ _ _ h => h) hH0 (by rfl) ?hyv ?o12
 case hyv =>
  intro wz hSw
  go_simp
  try rfl
 try simp only [Act.put, sT, sZ, sS]
 refine' wpAnyL_take (i := 2) (oi := ⟨some 30, _, _, _, _, _⟩) (v := _) rfl (by kernel_rfl) (by kernel_rfl) (by kernel_rfl) (by kernel_rfl) (fun _ _ _ h => h) hH0 (by rfl) ?hyv ?o13
 case hyv =>
  intro wz hSw
  go_simp
  try rfl
 try simp only [Act.put, sT, sZ, sS]
 refine' wpAnyL_take (i := 3) (oi := ⟨some 31, _, _, _, _, _⟩) (v := _) rfl (by kernel_rfl) (by kernel_rfl) (by kernel_rfl) (by kernel_rfl) (fun _ _ _ h => h) hH0 (by rfl) ?hyv ?o14
 case hyv =>
  intro wz hSw
  go_simp
  try rfl
 try simp only [Act.put, sT, sZ, sS]
 refine' wpAnyL_take (i := 4) (oi := ⟨some 32, _, _, _, _, _⟩) (v := _) rfl (by kernel_rfl) (by kernel_rfl) (by kernel_rfl) (by kernel_rfl) (fun _ _ _ h => h) hH0 (by rfl) ?hyv ?o15
 case hyv =>
  intro wz hSw
  have zc0 := (hSw.cell (p := ⟨bi, o, none⟩) yB).trans i0
  have zc1 := (hSw.cell (p := ⟨bi, o + 1, none⟩) yB).trans i1
  have zc2 := (hSw.cell (p := ⟨bi, o + 2, none⟩) yB).trans i2
  have zc3 := (hSw.cell (p := ⟨bi, o + 3, none⟩) yB).trans i3
  have zc4 := (hSw.cell (p := ⟨bi, o + 4, none⟩) yB).trans i4
  have zc5 := (hSw.cell (p := ⟨bi, o + 5, none⟩) yB).trans i5
  have zc6 := (hSw.cell (p := ⟨rb, 1, none⟩) yr).trans c1
  have zc7 := (hSw.cell (p := ⟨rb, 2 + rn, none⟩) yr).trans xr
  have zc8 := (hSw.cell (p := ⟨cb, nn, none⟩) yc).trans mc
  go_simp
  try rfl
 try simp only [Act.put, sT, sZ, sS]
 refine' wpAnyL_take (i := 5) (oi := ⟨some 33, _, _, _, _, _⟩) (v := _) rfl (by kernel_rfl) (by kernel_rfl) (by kernel_rfl) (by kernel_rfl) (fun _ _ _ h => h) hH0 (by rfl) ?hyv ?o16
 case hyv =>
  intro wz hSw
  go_simp
  try rfl
 try simp only [Act.put, sT, sZ, sS]
 refine' wpAnyL_take (i := 6) (oi := ⟨some 34, _, _, _, _, _⟩) (v := _) rfl (by kernel_rfl) (by kernel_rfl) (by kernel_rfl) (by kernel_rfl) (fun _ _ _ h => h) hH0 (by rfl) ?hyv ?o17
 case hyv =>
  intro wz hSw
  go_simp
  try rfl
 try simp only [Act.put, sT, sZ, sS]
 refine' wpAnyL_take (i := 7) (oi := ⟨some 35, _, _, _, _, _⟩) (v := _) rfl (by kernel_rfl) (by kernel_rfl) (by kernel_rfl) (by kernel_rfl) (fun _ _ _ h => h) hH0 (by rfl) ?hyv ?o18
 case hyv =>
  intro wz hSw
  go_simp
  try rfl
 try simp only [Act.put, sT, sZ, sS]
 refine' wpAnyL_take (i := 8) (oi := ⟨some 36, _, _, _, _, _⟩) (v := _) rfl (by kernel_rfl) (by kernel_rfl) (by kernel_rfl) (by kernel_rfl) (fun _ _ _ h => h) hH0 (by rfl) ?hyv ?o19
 case hyv =>
  intro wz hSw
  have zc0 := (hSw.cell (p := ⟨bi, o, none⟩) yB).trans i0
  have zc1 := (hSw.cell (p := ⟨bi, o + 1, none⟩) yB).trans i1
  have zc2 := (hSw.cell (p := ⟨bi, o + 2, none⟩) yB).trans i2
  have zc3 := (hSw.cell (p := ⟨bi, o + 3, none⟩) yB).trans i3
  have zc4 := (hSw.cell (p := ⟨bi, o + 4, none⟩) yB).trans i4
  have zc5 := (hSw.cell (p := ⟨bi, o + 5, none⟩) yB).trans i5
  have zc6 := (hSw.cell (p := ⟨rb, 1, none⟩) yr).trans c1
  have zc7 := (hSw.cell (p := ⟨rb, 2 + rn, none⟩) yr).trans xr
  have zc8 := (hSw.cell (p := ⟨cb, nn, none⟩) yc).trans mc
  go_simp
  try rfl
 try simp only [Act.put, sT, sZ, sS]
 refine' wpAnyL_take (i := 9) (oi := ⟨some 37, _, _, _, _, _⟩) (v := _) rfl (by kernel_rfl) (by kernel_rfl) (by kernel_rfl) (by kernel_rfl) (fun _ _ _ h => h) hH0 (by rfl) ?hyv ?o20
 case hyv =>
  intro wz hSw
  go_simp
  try rfl
 try simp only [Act.put, sT, sZ, sS]
 refine' wpAnyL_take (i := 10) (oi := ⟨some 38, _, _, _, _, _⟩) (v := _) rfl (by kernel_rfl) (by kernel_rfl) (by kernel_rfl) (by kernel_rfl) (fun _ _ _ h => h) hH0 (by rfl) ?hyv ?o21
 case hyv =>
  intro wz hSw
  go_simp
  try rfl
 try simp only [Act.put, sT, sZ, sS]
 refine' wpAnyL_take (i := 11) (oi := ⟨some 39, _, _, _, _, _⟩) (v := _) rfl (by kernel_rfl) (by kernel_rfl) (by kernel_rfl) (by kernel_rfl) (fun _ _ _ h => h) hH0 (by rfl) ?hyv ?o22
 case hyv =>
  intro wz hSw
  go_simp
  try rfl
 try simp only [Act.put, sT, sZ, sS]
 refine' wpAnyL_take (i := 12) (oi := ⟨some 40, _, _, _, _, _⟩) (v := _) rfl (by kernel_rfl) (by kernel_rfl) (by kernel_rfl) (by kernel_rfl) (fun _ _ _ h => h) hH0 (by rfl) ?hyv ?o23
 case hyv =>
  intro wz hSw
  have zc0 := (hSw.cell (p := ⟨bi, o, none⟩) yB).trans i0
  have zc1 := (hSw.cell (p := ⟨bi, o + 1, none⟩) yB).trans i1
  have zc2 := (hSw.cell (p := ⟨bi, o + 2, none⟩) yB).trans i2
  have zc3 := (hSw.cell (p := ⟨bi, o + 3, none⟩) yB).trans i3
  have zc4 := (hSw.cell (p := ⟨bi, o + 4, none⟩) yB).trans i4
  have zc5 := (hSw.cell (p := ⟨bi, o + 5, none⟩) yB).trans i5
  have zc6 := (hSw.cell (p := ⟨rb, 1, none⟩) yr).trans c1
  have zc7 := (hSw.cell (p := ⟨rb, 2 + rn, none⟩) yr).trans xr
  have zc8 := (hSw.cell (p := ⟨cb, nn, none⟩) yc).trans mc
  go_simp
  try rfl
 try simp only [Act.put, sT, sZ, sS]
 refine' wpAnyL_take (i := 13) (oi := ⟨some 41, _, _, _, _, _⟩) (v := _) rfl (by kernel_rfl) (by kernel_rfl) (by kernel_rfl) (by kernel_rfl) (fun _ _ _ h => h) hH0 (by rfl) ?hyv ?o24
 case hyv =>
  intro wz hSw
  go_simp
  try rfl
 try simp only [Act.put, sT, sZ, sS]
 refine' wpAnyL_take (i := 14) (oi := ⟨some 42, _, _, _, _, _⟩) (v := _) rfl (by kernel_rfl) (by kernel_rfl) (by kernel_rfl) (by kernel_rfl) (fun _ _ _ h => h) hH0 (by rfl) ?hyv ?o25
 case hyv =>
  intro wz hSw
  have zc0 := (hSw.cell (p := ⟨bi, o, none⟩) yB).trans i0
  have zc1 := (hSw.cell (p := ⟨bi, o + 1, none⟩) yB).trans i1
  have zc2 := (hSw.cell (p := ⟨bi, o + 2, none⟩) yB).trans i2
  have zc3 := (hSw.cell (p := ⟨bi, o + 3, none⟩) yB).trans i3
  have zc4 := (hSw.cell (p := ⟨bi, o + 4, none⟩) yB).trans i4
  have zc5 := (hSw.cell (p := ⟨bi, o + 5, none⟩) yB).trans i5
  have zc6 := (hSw.cell (p := ⟨rb, 1, none⟩) yr).trans c1
  have zc7 := (hSw.cell (p := ⟨rb, 2 + rn, none⟩) yr).trans xr
  have zc8 := (hSw.cell (p := ⟨cb, nn, none⟩) yc).trans mc
  go_simp
  try rfl
 try simp only [Act.put, sT, sZ, sS]
 refine wpAnyL_one (i := 15) (o := _) rfl (by kernel_rfl) (by rfl) (fun K hK => ?_)
 go_simp
 refine hK.out _ _ (fun _ => hH0) ?_
 clear hK K
 try simp only [Act.put, sT, sZ, sS]
 have hH1 := hH0
 rename World => wd1
 refine' wpAnyL_take (i := 16) (oi := ⟨some 44, _, _, _, _, _⟩) (v := _) rfl (by kernel_rfl) (by kernel_rfl) (by kernel_rfl) (by kernel_rfl) (fun _ _ _ h => h) hH1 (by rfl) ?hyv ?o26
 case hyv =>
  intro wz hSw
  go_simp
  try rfl
 try simp only [Act.put, sT, sZ, sS]
 refine wpAnyL_one (i := 17) (o := _) rfl (by kernel_rfl) (by rfl) (fun K hK => ?_)
 have kX := hr.under hH1
 have fr := kX.free (2 + rn)
 have st0 := kX.at hrn
 go_simp
 have hq : Aside [rb, cb] wd1.heap.size wd1 (wd1.setCell ⟨rb, 2 + rn, none⟩ (.int .i64 zm)) := Aside.setCell (by simp) _
 have hA2 : Aside [rb, cb] w.heap.size w (wd1.setCell ⟨rb, 2 + rn, none⟩ (.int .i64 zm)) := (aside hH1).trans hq hH1.size
 have kE := kX.setR hrn zm
 have kM := (hm.under hH1).keep (w' := wd1.setCell ⟨rb, 2 + rn, none⟩ (.int .i64 zm)) (heap_set_other wd1 ⟨rb, 2 + rn, none⟩ _ (by show rb ≠ cb; exact n1))
 refine hK.out _ _ (fun h => absurd h (by decide)) ?_
 clear hK K kX fr st0 hq
 try simp only [Act.put, sT, sZ, sS]
 generalize wd1.setCell ⟨rb, 2 + rn, none⟩ (.int .i64 zm) = wd2 at hA2 kE kM ⊢
 have hH2 := hA2
 refine wpAnyL_done (by kernel_rfl) ?_ _
 rw [← HXX.out] at kE
 rw [← HMM.out] at kM
 go_wp2
 go_ret
 exact ⟨rfl, kE, kM, hH2⟩
set_option maxHeartbeats 8000000 in
theorem do4_any {w : World} {rb cb nc cc bi o : Nat} {u0 : Value} {X M : List Int} {pc dn lp tu : Int} (hr : RB w rb u0 (.slice (some ⟨cb, 0, none⟩) nc cc) X pc dn lp tu) (hm : LX w cb M) (hnc : nc ≤ M.length) (hM : nc ≤ 6000) (n1 : rb ≠ cb) (rn : Nat) (hrn : rn < X.length) {kk aa bq : Int} {nn : Nat} (hn : nn < M.length) (hn2 : nn < nc) (hi : InAt w bi o ⟨4, kk, (rn : Int), aa, bq, (nn : Int)⟩) : Calls Tryd.prog 42 #[.pointer (some ⟨rb, 0, none⟩), .pointer (some ⟨bi, o, none⟩)] w (DoP w rb cb u0 (.slice (some ⟨cb, 0, none⟩) nc cc) (X) (M.set nn X[rn]) pc dn lp tu true) := by
 obtain ⟨zr, hzr⟩ : ∃ z, z = X[rn] := ⟨_, rfl⟩
 have HZr := hide hzr
 have h40r : (rn : Int) < 40 := by have := hr.l; omega
 have ezr : X[rn] = zr := hzr.symm
 obtain ⟨XX, hXX⟩ : ∃ z, z = (X) := ⟨_, rfl⟩
 obtain ⟨MM, hMM⟩ : ∃ z, z = (M.set nn X[rn]) := ⟨_, rfl⟩
 suffices hh : Calls Tryd.prog 42 #[.pointer (some ⟨rb, 0, none⟩), .pointer (some ⟨bi, o, none⟩)] w (DoP w rb cb u0 (.slice (some ⟨cb, 0, none⟩) nc cc) XX MM pc dn lp tu true) by
  rw [hXX, hMM] at hh
  exact hh
 try simp only [ezr] at hXX hMM
 have HXX := hide hXX
 have HMM := hide hMM
 clear hXX hMM
 clear hzr ezr
 have i0 := hi.1
 have i1 := hi.2.1
 have i2 := hi.2.2.1
 have i3 := hi.2.2.2.1
 have i4 := hi.2.2.2.2.1
 have i5 := hi.2.2.2.2.2
 have yB := hi.lt
 have yr := hr.lt
 have yc := hm.lt
 have c1 := hr.c1
 have xr := hr.at hrn
 rw [← HZr.out] at xr
 have hnn : (nn : Int) < (nc : Int) := by omega
 go_enter Tryd.func42, Tryd.ntmps42
 go_upto_region 8 with fail
 refine wp_region_late (fun w' => Below w.heap.size w w') (fun i => i == 17) (by kernel_rfl) ?_
 have hH0 : Below w.heap.size w w.drew := (Below.refl _ _).drew
 generalize w.drew = wd0 at hH0 ⊢
 refine' wpAnyL_take (i := 0) (oi := ⟨some 47, _, _, _, _, _⟩) (v := _) rfl (by kernel_rfl) (by kernel_rfl) (by kernel_rfl) (by kernel_rfl) (fun _ _ _ h => h) hH0 (by rfl) ?hyv ?o27
 case hyv =>
  intro wz hSw
  go_simp
  try rfl
 try simp only [Act.put, sT, sZ, sS]
 refine' wpAnyL_take (i := 1) (oi := ⟨some 48, _, _, _, _, _⟩) (v := _) rfl (by kernel_rfl) (by kernel_rfl) (by kernel_rfl) (by kernel_rfl) (fun _ _ _ h => h) hH0 (by rfl) ?hyv ?o28
 case hyv =>
  intro wz hSw
  go_simp
  try rfl
 try simp only [Act.put, sT, sZ, sS]
 refine' wpAnyL_take (i := 2) (oi := ⟨some 49, _, _, _, _, _⟩) (v := _) rfl (by kernel_rfl) (by kernel_rfl) (by kernel_rfl) (by kernel_rfl) (fun _ _ _ h => h) hH0 (by rfl) ?hyv ?o29
 case hyv =>
  intro wz hSw
  go_simp
  try rfl
 try simp only [Act.put, sT, sZ, sS]
 refine' wpAnyL_take (i := 3) (oi := ⟨some 50, _, _, _, _, _⟩) (v := _) rfl (by kernel_rfl) (by kernel_rfl) (by kernel_rfl) (by kernel_rfl) (fun _ _ _ h => h) hH0 (by rfl) ?hyv ?o30
 case hyv =>
  intro wz hSw
  have zc0 := (hSw.cell (p := ⟨bi, o, none⟩) yB).trans i0
  have zc1 := (hSw.cell (p := ⟨bi, o + 1, none⟩) yB).trans i1
  have zc2 := (hSw.cell (p := ⟨bi, o + 2, none⟩) yB).trans i2
  have zc3 := (hSw.cell (p := ⟨bi, o + 3, none⟩) yB).trans i3
  have zc4 := (hSw.cell (p := ⟨bi, o + 4, none⟩) yB).trans i4
  have zc5 := (hSw.cell (p := ⟨bi, o + 5, none⟩) yB).trans i5
  have zc6 := (hSw.cell (p := ⟨rb, 1, none⟩) yr).trans c1
  have zc7 := (hSw.cell (p := ⟨rb, 2 + rn, none⟩) yr).trans xr
  go_simp
  try rfl
 try simp only [Act.put, sT, sZ, sS]
 refine' wpAnyL_take (i := 4) (oi := ⟨some 51, _, _, _, _, _⟩) (v := _) rfl (by kernel_rfl) (by kernel_rfl) (by kernel_rfl) (by kernel_rfl) (fun _ _ _ h => h) hH0 (by rfl) ?hyv ?o31
 case hyv =>
  intro wz hSw
  go_simp
  try rfl
 try simp only [Act.put, sT, sZ, sS]
 refine' wpAnyL_take (i := 5) (oi := ⟨some 52, _, _, _, _, _⟩) (v := _) rfl (by kernel_rfl) (by kernel_rfl) (by kernel_rfl) (by kernel_rfl) (fun _ _ _ h => h) hH0 (by rfl) ?hyv ?o32
 case hyv =>
  intro wz hSw
  go_simp
  try rfl
 try simp only [Act.put, sT, sZ, sS]
 refine' wpAnyL_take (i := 6) (oi := ⟨some 53, _, _, _, _, _⟩) (v := _) rfl (by kernel_rfl) (by kernel_rfl) (by kernel_rfl) (by kernel_rfl) (fun _ _ _ h => h) hH0 (by rfl) ?hyv ?o33
 case hyv =>
  intro wz hSw
  go_simp
  try rfl
 try simp only [Act.put, sT, sZ, sS]
 refine' wpAnyL_take (i := 7) (oi := ⟨some 54, _, _, _, _, _⟩) (v := _) rfl (by kernel_rfl) (by kernel_rfl) (by kernel_rfl) (by kernel_rfl) (fun _ _ _ h => h) hH0 (by rfl) ?hyv ?o34
 case hyv =>
  intro wz hSw
  have zc0 := (hSw.cell (p := ⟨bi, o, none⟩) yB).trans i0
  have zc1 := (hSw.cell (p := ⟨bi, o + 1, none⟩) yB).trans i1
  have zc2 := (hSw.cell (p := ⟨bi, o + 2, none⟩) yB).trans i2
  have zc3 := (hSw.cell (p := ⟨bi, o + 3, none⟩) yB).trans i3
  have zc4 := (hSw.cell (p := ⟨bi, o + 4, none⟩) yB).trans i4
  have zc5 := (hSw.cell (p := ⟨bi, o + 5, none⟩) yB).trans i5
  have zc6 := (hSw.cell (p := ⟨rb, 1, none⟩) yr).trans c1
  have zc7 := (hSw.cell (p := ⟨rb, 2 + rn, none⟩) yr).trans xr
  go_simp
  try rfl
 try simp only [Act.put, sT, sZ, sS]
 refine' wpAnyL_take (i := 8) (oi := ⟨some 55, _, _, _, _, _⟩) (v := _) rfl (by kernel_rfl) (by kernel_rfl) (by kernel_rfl) (by kernel_rfl) (fun _ _ _ h => h) hH0 (by rfl) ?hyv ?o35
 case hyv =>
  intro wz hSw
  go_simp
  try rfl
 try simp only [Act.put, sT, sZ, sS]
 refine' wpAnyL_take (i := 9) (oi := ⟨some 56, _, _, _, _, _⟩) (v := _) rfl (by kernel_rfl) (by kernel_rfl) (by kernel_rfl) (by kernel_rfl) (fun _ _ _ h => h) hH0 (by rfl) ?hyv ?o36
 case hyv =>
  intro wz hSw
  go_simp
  try rfl
 try simp only [Act.put, sT, sZ, sS]
 refine' wpAnyL_take (i := 10) (oi := ⟨some 57, _, _, _, _, _⟩) (v := _) rfl (by kernel_rfl) (by kernel_rfl) (by kernel_rfl) (by kernel_rfl) (fun _ _ _ h => h) hH0 (by rfl) ?hyv ?o37
 case hyv =>
  intro wz hSw
  go_simp
  try rfl
 try simp only [Act.put, sT, sZ, sS]
 refine' wpAnyL_take (i := 11) (oi := ⟨some 58, _, _, _, _, _⟩) (v := _) rfl (by kernel_rfl) (by kernel_rfl) (by kernel_rfl) (by kernel_rfl) (fun _ _ _ h => h) hH0 (by rfl) ?hyv ?o38
 case hyv =>
  intro wz hSw
  go_simp
  try rfl
 try simp only [Act.put, sT, sZ, sS]
 refine' wpAnyL_take (i := 12) (oi := ⟨some 59, _, _, _, _, _⟩) (v := _) rfl (by kernel_rfl) (by kernel_rfl) (by kernel_rfl) (by kernel_rfl) (fun _ _ _ h => h) hH0 (by rfl) ?hyv ?o39
 case hyv =>
  intro wz hSw
  have zc0 := (hSw.cell (p := ⟨bi, o, none⟩) yB).trans i0
  have zc1 := (hSw.cell (p := ⟨bi, o + 1, none⟩) yB).trans i1
  have zc2 := (hSw.cell (p := ⟨bi, o + 2, none⟩) yB).trans i2
  have zc3 := (hSw.cell (p := ⟨bi, o + 3, none⟩) yB).trans i3
  have zc4 := (hSw.cell (p := ⟨bi, o + 4, none⟩) yB).trans i4
  have zc5 := (hSw.cell (p := ⟨bi, o + 5, none⟩) yB).trans i5
  have zc6 := (hSw.cell (p := ⟨rb, 1, none⟩) yr).trans c1
  have zc7 := (hSw.cell (p := ⟨rb, 2 + rn, none⟩) yr).trans xr
  go_simp
  try rfl
 try simp only [Act.put, sT, sZ, sS]
 refine' wpAnyL_take (i := 13) (oi := ⟨some 60, _, _, _, _, _⟩) (v := _) rfl (by kernel_rfl) (by kernel_rfl) (by kernel_rfl) (by kernel_rfl) (fun _ _ _ h => h) hH0 (by rfl) ?hyv ?o40
 case hyv =>
  intro wz hSw
  go_simp
  try rfl
 try simp only [Act.put, sT, sZ, sS]
 refine' wpAnyL_take (i := 14) (oi := ⟨some 61, _, _, _, _, _⟩) (v := _) rfl (by kernel_rfl) (by kernel_rfl) (by kernel_rfl) (by kernel_rfl) (fun _ _ _ h => h) hH0 (by rfl) ?hyv ?o41
 case hyv =>
  intro wz hSw
  go_simp
  try rfl
 try simp only [Act.put, sT, sZ, sS]
 refine' wpAnyL_take (i := 15) (oi := ⟨some 62, _, _, _, _, _⟩) (v := _) rfl (by kernel_rfl) (by kernel_rfl) (by kernel_rfl) (by kernel_rfl) (fun _ _ _ h => h) hH0 (by rfl) ?hyv ?o42
 case hyv =>
  intro wz hSw
  have zc0 := (hSw.cell (p := ⟨bi, o, none⟩) yB).trans i0
  have zc1 := (hSw.cell (p := ⟨bi, o + 1, none⟩) yB).trans i1
  have zc2 := (hSw.cell (p := ⟨bi, o + 2, none⟩) yB).trans i2
  have zc3 := (hSw.cell (p := ⟨bi, o + 3, none⟩) yB).trans i3
  have zc4 := (hSw.cell (p := ⟨bi, o + 4, none⟩) yB).trans i4
  have zc5 := (hSw.cell (p := ⟨bi, o + 5, none⟩) yB).trans i5
  have zc6 := (hSw.cell (p := ⟨rb, 1, none⟩) yr).trans c1
  have zc7 := (hSw.cell (p := ⟨rb, 2 + rn, none⟩) yr).trans xr
  go_simp
  try rfl
 try simp only [Act.put, sT, sZ, sS]
 refine' wpAnyL_take (i := 16) (oi := ⟨some 63, _, _, _, _, _⟩) (v := _) rfl (by kernel_rfl) (by kernel_rfl) (by kernel_rfl) (by kernel_rfl) (fun _ _ _ h => h) hH0 (by rfl) ?hyv ?o43
 case hyv =>
  intro wz hSw
  go_simp
  try rfl
 try simp only [Act.put, sT, sZ, sS]
 refine wpAnyL_one (i := 17) (o := _) rfl (by kernel_rfl) (by rfl) (fun K hK => ?_)
 have kX := hm.under hH0
 have fr := kX.free nn
 have st0 := kX.at (i := nn) hn
 go_simp
 have hq : Aside [rb, cb] wd0.heap.size wd0 (wd0.setCell ⟨cb, nn, none⟩ (.int .i64 zr)) := Aside.setCell (by simp) _
 have hA1 : Aside [rb, cb] w.heap.size w (wd0.setCell ⟨cb, nn, none⟩ (.int .i64 zr)) := (aside hH0).trans hq hH0.size
 have kE := (hr.under hH0).keep (w' := wd0.setCell ⟨cb, nn, none⟩ (.int .i64 zr)) (heap_set_other wd0 ⟨cb, nn, none⟩ _ (by show cb ≠ rb; exact n1.symm))
 have kM := kX.set hn zr
 refine hK.out _ _ (fun h => absurd h (by decide)) ?_
 clear hK K kX fr st0 hq
 try simp only [Act.put, sT, sZ, sS]
 generalize wd0.setCell ⟨cb, nn, none⟩ (.int .i64 zr) = wd1 at hA1 kE kM ⊢
 have hH1 := hA1
 refine wpAnyL_done (by kernel_rfl) ?_ _
 rw [← HXX.out] at kE
 rw [← HMM.out] at kM
 go_wp2
 go_ret
 exact ⟨rfl, kE, kM, hH1⟩
set_option maxHeartbeats 8000000 in
theorem do9_any {w : World} {rb cb nc cc bi o : Nat} {u0 : Value} {X M : List Int} {pc dn lp tu : Int} (hr : RB w rb u0 (.slice (some ⟨cb, 0, none⟩) nc cc) X pc dn lp tu) (hm : LX w cb M) (hnc : nc ≤ M.length) (hM : nc ≤ 6000) (n1 : rb ≠ cb) (rn : Nat) (hrn : rn < X.length) (an : Nat) (han : an < X.length) {kk bq nn : Int} (hi : InAt w bi o ⟨9, kk, (rn : Int), (an : Int), bq, nn⟩) : Calls Tryd.prog 42 #[.pointer (some ⟨rb, 0, none⟩), .pointer (some ⟨bi, o, none⟩)] w (DoP w rb cb u0 (.slice (some ⟨cb, 0, none⟩) nc cc) (X.set rn X[an]) (M) pc dn lp tu true) := by
 obtain ⟨zr, hzr⟩ : ∃ z, z = X[rn] := ⟨_, rfl⟩
 have HZr := hide hzr
 have h40r : (rn : Int) < 40 := by have := hr.l; omega
 have ezr : X[rn] = zr := hzr.symm
 obtain ⟨za, hza⟩ : ∃ z, z = X[an] := ⟨_, rfl⟩
 have HZa := hide hza
 have h40a : (an : Int) < 40 := by have := hr.l; omega
 have eza : X[an] = za := hza.symm
 obtain ⟨XX, hXX⟩ : ∃ z, z = (X.set rn X[an]) := ⟨_, rfl⟩
 obtain ⟨MM, hMM⟩ : ∃ z, z = (M) := ⟨_, rfl⟩
 suffices hh : Calls Tryd.prog 42 #[.pointer (some ⟨rb, 0, none⟩), .pointer (some ⟨bi, o, none⟩)] w (DoP w rb cb u0 (.slice (some ⟨cb, 0, none⟩) nc cc) XX MM pc dn lp tu true) by
  rw [hXX, hMM] at hh
  exact hh
 try simp only [ezr, eza] at hXX hMM
 have HXX := hide hXX
 have HMM := hide hMM
 clear hXX hMM
 clear hzr ezr hza eza
 have i0 := hi.1
 have i1 := hi.2.1
 have i2 := hi.2.2.1
 have i3 := hi.2.2.2.1
 have i4 := hi.2.2.2.2.1
 have i5 := hi.2.2.2.2.2
 have yB := hi.lt
 have yr := hr.lt
 have yc := hm.lt
 have c1 := hr.c1
 have xr := hr.at hrn
 rw [← HZr.out] at xr
 have xa := hr.at han
 rw [← HZa.out] at xa
 go_enter Tryd.func42, Tryd.ntmps42
 go_upto_region 19 with fail
 refine wp_region_late (fun w' => Below w.heap.size w w') (fun i => i == 15) (by kernel_rfl) ?_
 have hH0 : Below w.heap.size w w.drew := (Below.refl _ _).drew
 generalize w.drew = wd0 at hH0 ⊢
 refine' wpAnyL_take (i := 0) (oi := ⟨some 136, _, _, _, _, _⟩) (v := _) rfl (by kernel_rfl) (by kernel_rfl) (by kernel_rfl) (by kernel_rfl) (fun _ _ _ h => h) hH0 (by rfl) ?hyv ?o44
 case hyv =>
  intro wz hSw
  go_simp
  try rfl
 try simp only [Act.put, sT, sZ, sS]
 refine' wpAnyL_take (i := 1) (oi := ⟨some 137, _, _, _, _, _⟩) (v := _) rfl (by kernel_rfl) (by kernel_rfl) (by kernel_rfl) (by kernel_rfl) (fun _ _ _ h => h) hH0 (by rfl) ?hyv ?o45
 case hyv =>
  intro wz hSw
  go_simp
  try rfl
 try simp only [Act.put, sT, sZ, sS]
 refine' wpAnyL_take (i := 2) (oi := ⟨some 138, _, _, _, _, _⟩) (v := _) rfl (by kernel_rfl) (by kernel_rfl) (by kernel_rfl) (by kernel_rfl) (fun _ _ _ h => h) hH0 (by rfl) ?hyv ?o46
 case hyv =>
  intro wz hSw
  go_simp
  try rfl
 try simp only [Act.put, sT, sZ, sS]
 refine' wpAnyL_take (i := 3) (oi := ⟨some 139, _, _, _, _, _⟩) (v := _) rfl (by kernel_rfl) (by kernel_rfl) (by kernel_rfl) (by kernel_rfl) (fun _ _ _ h => h) hH0 (by rfl) ?hyv ?o47
 case hyv =>
  intro wz hSw
  go_simp
  try rfl
 try simp only [Act.put, sT, sZ, sS]
 refine' wpAnyL_take (i := 4) (oi := ⟨some 140, _, _, _, _, _⟩) (v := _) rfl (by kernel_rfl) (by kernel_rfl) (by kernel_rfl) (by kernel_rfl) (fun _ _ _ h => h) hH0 (by rfl) ?hyv ?o48
 case hyv =>
  intro wz hSw
  have zc0 := (hSw.cell (p := ⟨bi, o, none⟩) yB).trans i0
  have zc1 := (hSw.cell (p := ⟨bi, o + 1, none⟩) yB).trans i1
  have zc2 := (hSw.cell (p := ⟨bi, o + 2, none⟩) yB).trans i2
  have zc3 := (hSw.cell (p := ⟨bi, o + 3, none⟩) yB).trans i3
  have zc4 := (hSw.cell (p := ⟨bi, o + 4, none⟩) yB).trans i4
  have zc5 := (hSw.cell (p := ⟨bi, o + 5, none⟩) yB).trans i5
  have zc6 := (hSw.cell (p := ⟨rb, 1, none⟩) yr).trans c1
  have zc7 := (hSw.cell (p := ⟨rb, 2 + rn, none⟩) yr).trans xr
  have zc8 := (hSw.cell (p := ⟨rb, 2 + an, none⟩) yr).trans xa
  go_simp
  try rfl
 try simp only [Act.put, sT, sZ, sS]
 refine' wpAnyL_take (i := 5) (oi := ⟨some 141, _, _, _, _, _⟩) (v := _) rfl (by kernel_rfl) (by kernel_rfl) (by kernel_rfl) (by kernel_rfl) (fun _ _ _ h => h) hH0 (by rfl) ?hyv ?o49
 case hyv =>
  intro wz hSw
  go_simp
  try rfl
 try simp only [Act.put, sT, sZ, sS]
 refine' wpAnyL_take (i := 6) (oi := ⟨some 142, _, _, _, _, _⟩) (v := _) rfl (by kernel_rfl) (by kernel_rfl) (by kernel_rfl) (by kernel_rfl) (fun _ _ _ h => h) hH0 (by rfl) ?hyv ?o50
 case hyv =>
  intro wz hSw
  go_simp
  try rfl
 try simp only [Act.put, sT, sZ, sS]
 refine' wpAnyL_take (i := 7) (oi := ⟨some 143, _, _, _, _, _⟩) (v := _) rfl (by kernel_rfl) (by kernel_rfl) (by kernel_rfl) (by kernel_rfl) (fun _ _ _ h => h) hH0 (by rfl) ?hyv ?o51
 case hyv =>
  intro wz hSw
  go_simp
  try rfl
 try simp only [Act.put, sT, sZ, sS]
 refine' wpAnyL_take (i := 8) (oi := ⟨some 144, _, _, _, _, _⟩) (v := _) rfl (by kernel_rfl) (by kernel_rfl) (by kernel_rfl) (by kernel_rfl) (fun _ _ _ h => h) hH0 (by rfl) ?hyv ?o52
 case hyv =>
  intro wz hSw
  go_simp
  try rfl
 try simp only [Act.put, sT, sZ, sS]
 refine' wpAnyL_take (i := 9) (oi := ⟨some 145, _, _, _, _, _⟩) (v := _) rfl (by kernel_rfl) (by kernel_rfl) (by kernel_rfl) (by kernel_rfl) (fun _ _ _ h => h) hH0 (by rfl) ?hyv ?o53
 case hyv =>
  intro wz hSw
  have zc0 := (hSw.cell (p := ⟨bi, o, none⟩) yB).trans i0
  have zc1 := (hSw.cell (p := ⟨bi, o + 1, none⟩) yB).trans i1
  have zc2 := (hSw.cell (p := ⟨bi, o + 2, none⟩) yB).trans i2
  have zc3 := (hSw.cell (p := ⟨bi, o + 3, none⟩) yB).trans i3
  have zc4 := (hSw.cell (p := ⟨bi, o + 4, none⟩) yB).trans i4
  have zc5 := (hSw.cell (p := ⟨bi, o + 5, none⟩) yB).trans i5
  have zc6 := (hSw.cell (p := ⟨rb, 1, none⟩) yr).trans c1
  have zc7 := (hSw.cell (p := ⟨rb, 2 + rn, none⟩) yr).trans xr
  have zc8 := (hSw.cell (p := ⟨rb, 2 + an, none⟩) yr).trans xa
  go_simp
  try rfl
 try simp only [Act.put, sT, sZ, sS]
 refine' wpAnyL_take (i := 10) (oi := ⟨some 146, _, _, _, _, _⟩) (v := _) rfl (by kernel_rfl) (by kernel_rfl) (by kernel_rfl) (by kernel_rfl) (fun _ _ _ h => h) hH0 (by rfl) ?hyv ?o54
 case hyv =>
  intro wz hSw
  go_simp
  try rfl
 try simp only [Act.put, sT, sZ, sS]
 refine' wpAnyL_take (i := 11) (oi := ⟨some 147, _, _, _, _, _⟩) (v := _) rfl (by kernel_rfl) (by kernel_rfl) (by kernel_rfl) (by kernel_rfl) (fun _ _ _ h => h) hH0 (by rfl) ?hyv ?o55
 case hyv =>
  intro wz hSw
  go_simp
  try rfl
 try simp only [Act.put, sT, sZ, sS]
 refine' wpAnyL_take (i := 12) (oi := ⟨some 148, _, _, _, _, _⟩) (v := _) rfl (by kernel_rfl) (by kernel_rfl) (by kernel_rfl) (by kernel_rfl) (fun _ _ _ h => h) hH0 (by rfl) ?hyv ?o56
 case hyv =>
  intro wz hSw
  have zc0 := (hSw.cell (p := ⟨bi, o, none⟩) yB).trans i0
  have zc1 := (hSw.cell (p := ⟨bi, o + 1, none⟩) yB).trans i1
  have zc2 := (hSw.cell (p := ⟨bi, o + 2, none⟩) yB).trans i2
  have zc3 := (hSw.cell (p := ⟨bi, o + 3, none⟩) yB).trans i3
  have zc4 := (hSw.cell (p := ⟨bi, o + 4, none⟩) yB).trans i4
  have zc5 := (hSw.cell (p := ⟨bi, o + 5, none⟩) yB).trans i5
  have zc6 := (hSw.cell (p := ⟨rb, 1, none⟩) yr).trans c1
  have zc7 := (hSw.cell (p := ⟨rb, 2 + rn, none⟩) yr).trans xr
  have zc8 := (hSw.cell (p := ⟨rb, 2 + an, none⟩) yr).trans xa
  go_simp
  try rfl
 try simp only [Act.put, sT, sZ, sS]
 refine wpAnyL_one (i := 13) (o := _) rfl (by kernel_rfl) (by rfl) (fun K hK => ?_)
 go_simp
 refine hK.out _ _ (fun _ => hH0) ?_
 clear hK K
 try simp only [Act.put, sT, sZ, sS]
 have hH1 := hH0
 rename World => wd1
 refine' wpAnyL_take (i := 14) (oi := ⟨some 150, _, _, _, _, _⟩) (v := _) rfl (by kernel_rfl) (by kernel_rfl) (by kernel_rfl) (by kernel_rfl) (fun _ _ _ h => h) hH1 (by rfl) ?hyv ?o57
 case hyv =>
  intro wz hSw
  go_simp
  try rfl
 try simp only [Act.put, sT, sZ, sS]
 refine wpAnyL_one (i := 15) (o := _) rfl (by kernel_rfl) (by rfl) (fun K hK => ?_)
 have kX := hr.under hH1
 have fr := kX.free (2 + rn)
 have st0 := kX.at hrn
 go_simp
 have hq : Aside [rb, cb] wd1.heap.size wd1 (wd1.setCell ⟨rb, 2 + rn, none⟩ (.int .i64 za)) := Aside.setCell (by simp) _
 have hA2 : Aside [rb, cb] w.heap.size w (wd1.setCell ⟨rb, 2 + rn, none⟩ (.int .i64 za)) := (aside hH1).trans hq hH1.size
 have kE := kX.setR hrn za
 have kM := (hm.under hH1).keep (w' := wd1.setCell ⟨rb, 2 + rn, none⟩ (.int .i64 za)) (heap_set_other wd1 ⟨rb, 2 + rn, none⟩ _ (by show rb ≠ cb; exact n1))
 refine hK.out _ _ (fun h => absurd h (by decide)) ?_
 clear hK K kX fr st0 hq
 try simp only [Act.put, sT, sZ, sS]
 generalize wd1.setCell ⟨rb, 2 + rn, none⟩ (.int .i64 za) = wd2 at hA2 kE kM ⊢
 have hH2 := hA2
 refine wpAnyL_done (by kernel_rfl) ?_ _
 rw [← HXX.out] at kE
 rw [← HMM.out] at kM
 go_wp2
 go_ret
 exact ⟨rfl, kE, kM, hH2⟩
set_option maxHeartbeats 8000000 in
theorem do6_any {w : World} {rb cb nc cc bi o : Nat} {u0 : Value} {X M : List Int} {pc dn lp tu : Int} (hr : RB w rb u0 (.slice (some ⟨cb, 0, none⟩) nc cc) X pc dn lp tu) (hm : LX w cb M) (hnc : nc ≤ M.length) (hM : nc ≤ 6000) (n1 : rb ≠ cb) (rn : Nat) (hrn : rn < X.length) (an : Nat) (han : an < X.length) {kk bq nn : Int} (hi : InAt w bi o ⟨6, kk, (rn : Int), (an : Int), bq, nn⟩) : Calls Tryd.prog 42 #[.pointer (some ⟨rb, 0, none⟩), .pointer (some ⟨bi, o, none⟩)] w (DoP w rb cb u0 (.slice (some ⟨cb, 0, none⟩) nc cc) (X.set rn (apT kk X[an] 0)) (M) pc dn lp tu true) := by
 obtain ⟨zr, hzr⟩ : ∃ z, z = X[rn] := ⟨_, rfl⟩
 have HZr := hide hzr
 have h40r : (rn : Int) < 40 := by have := hr.l; omega
 have ezr : X[rn] = zr := hzr.symm
 obtain ⟨za, hza⟩ : ∃ z, z = X[an] := ⟨_, rfl⟩
 have HZa := hide hza
 have h40a : (an : Int) < 40 := by have := hr.l; omega
 have eza : X[an] = za := hza.symm
 obtain ⟨XX, hXX⟩ : ∃ z, z = (X.set rn (apT kk X[an] 0)) := ⟨_, rfl⟩
 obtain ⟨MM, hMM⟩ : ∃ z, z = (M) := ⟨_, rfl⟩
 suffices hh : Calls Tryd.prog 42 #[.pointer (some ⟨rb, 0, none⟩), .pointer (some ⟨bi, o, none⟩)] w (DoP w rb cb u0 (.slice (some ⟨cb, 0, none⟩) nc cc) XX MM pc dn lp tu true) by
  rw [hXX, hMM] at hh
  exact hh
 try simp only [ezr, eza] at hXX hMM
 have HXX := hide hXX
 have HMM := hide hMM
 clear hXX hMM
 clear hzr ezr hza eza
 have i0 := hi.1
 have i1 := hi.2.1
 have i2 := hi.2.2.1
 have i3 := hi.2.2.2.1
 have i4 := hi.2.2.2.2.1
 have i5 := hi.2.2.2.2.2
 have yB := hi.lt
 have yr := hr.lt
 have yc := hm.lt
 have c1 := hr.c1
 have xr := hr.at hrn
 rw [← HZr.out] at xr
 have xa := hr.at han
 rw [← HZa.out] at xa
 have hAp := hide (fun W => applyP_any kk za 0 W)
 generalize apT kk za 0 = z at HXX hAp
 go_enter Tryd.func42, Tryd.ntmps42
 go_upto_region 13 with fail
 refine wp_region_late (fun w' => Below w.heap.size w w') (fun i => i == 20) (by kernel_rfl) ?_
 have hH0 : Below w.heap.size w w.drew := (Below.refl _ _).drew
 generalize w.drew = wd0 at hH0 ⊢
 refine' wpAnyL_take (i := 0) (oi := ⟨some 72, _, _, _, _, _⟩) (v := _) rfl (by kernel_rfl) (by kernel_rfl) (by kernel_rfl) (by kernel_rfl) (fun _ _ _ h => h) hH0 (by rfl) ?hyv ?o58
 case hyv =>
  intro wz hSw
  go_simp
  try rfl
 try simp only [Act.put, sT, sZ, sS]
 refine' wpAnyL_take (i := 1) (oi := ⟨some 73, _, _, _, _, _⟩) (v := _) rfl (by kernel_rfl) (by kernel_rfl) (by kernel_rfl) (by kernel_rfl) (fun _ _ _ h => h) hH0 (by rfl) ?hyv ?o59
 case hyv =>
  intro wz hSw
  go_simp
  try rfl
 try simp only [Act.put, sT, sZ, sS]
 refine' wpAnyL_take (i := 2) (oi := ⟨some 74, _, _, _, _, _⟩) (v := _) rfl (by kernel_rfl) (by kernel_rfl) (by kernel_rfl) (by kernel_rfl) (fun _ _ _ h => h) hH0 (by rfl) ?hyv ?o60
 case hyv =>
  intro wz hSw
  go_simp
  try rfl
 try simp only [Act.put, sT, sZ, sS]
 refine' wpAnyL_take (i := 3) (oi := ⟨some 75, _, _, _, _, _⟩) (v := _) rfl (by kernel_rfl) (by kernel_rfl) (by kernel_rfl) (by kernel_rfl) (fun _ _ _ h => h) hH0 (by rfl) ?hyv ?o61
 case hyv =>
  intro wz hSw
  go_simp
  try rfl
 try simp only [Act.put, sT, sZ, sS]
 refine' wpAnyL_take (i := 4) (oi := ⟨some 76, _, _, _, _, _⟩) (v := _) rfl (by kernel_rfl) (by kernel_rfl) (by kernel_rfl) (by kernel_rfl) (fun _ _ _ h => h) hH0 (by rfl) ?hyv ?o62
 case hyv =>
  intro wz hSw
  have zc0 := (hSw.cell (p := ⟨bi, o, none⟩) yB).trans i0
  have zc1 := (hSw.cell (p := ⟨bi, o + 1, none⟩) yB).trans i1
  have zc2 := (hSw.cell (p := ⟨bi, o + 2, none⟩) yB).trans i2
  have zc3 := (hSw.cell (p := ⟨bi, o + 3, none⟩) yB).trans i3
  have zc4 := (hSw.cell (p := ⟨bi, o + 4, none⟩) yB).trans i4
  have zc5 := (hSw.cell (p := ⟨bi, o + 5, none⟩) yB).trans i5
  have zc6 := (hSw.cell (p := ⟨rb, 1, none⟩) yr).trans c1
  have zc7 := (hSw.cell (p := ⟨rb, 2 + rn, none⟩) yr).trans xr
  have zc8 := (hSw.cell (p := ⟨rb, 2 + an, none⟩) yr).trans xa
  go_simp
  try rfl
 try simp only [Act.put, sT, sZ, sS]
 refine' wpAnyL_take (i := 5) (oi := ⟨some 77, _, _, _, _, _⟩) (v := _) rfl (by kernel_rfl) (by kernel_rfl) (by kernel_rfl) (by kernel_rfl) (fun _ _ _ h => h) hH0 (by rfl) ?hyv ?o63
 case hyv =>
  intro wz hSw
  go_simp
  try rfl
 try simp only [Act.put, sT, sZ, sS]
 refine' wpAnyL_take (i := 6) (oi := ⟨some 78, _, _, _, _, _⟩) (v := _) rfl (by kernel_rfl) (by kernel_rfl) (by kernel_rfl) (by kernel_rfl) (fun _ _ _ h => h) hH0 (by rfl) ?hyv ?o64
 case hyv =>
  intro wz hSw
  go_simp
  try rfl
 try simp only [Act.put, sT, sZ, sS]
 refine' wpAnyL_take (i := 7) (oi := ⟨some 79, _, _, _, _, _⟩) (v := _) rfl (by kernel_rfl) (by kernel_rfl) (by kernel_rfl) (by kernel_rfl) (fun _ _ _ h => h) hH0 (by rfl) ?hyv ?o65
 case hyv =>
  intro wz hSw
  go_simp
  try rfl
 try simp only [Act.put, sT, sZ, sS]
 refine' wpAnyL_take (i := 8) (oi := ⟨some 80, _, _, _, _, _⟩) (v := _) rfl (by kernel_rfl) (by kernel_rfl) (by kernel_rfl) (by kernel_rfl) (fun _ _ _ h => h) hH0 (by rfl) ?hyv ?o66
 case hyv =>
  intro wz hSw
  have zc0 := (hSw.cell (p := ⟨bi, o, none⟩) yB).trans i0
  have zc1 := (hSw.cell (p := ⟨bi, o + 1, none⟩) yB).trans i1
  have zc2 := (hSw.cell (p := ⟨bi, o + 2, none⟩) yB).trans i2
  have zc3 := (hSw.cell (p := ⟨bi, o + 3, none⟩) yB).trans i3
  have zc4 := (hSw.cell (p := ⟨bi, o + 4, none⟩) yB).trans i4
  have zc5 := (hSw.cell (p := ⟨bi, o + 5, none⟩) yB).trans i5
  have zc6 := (hSw.cell (p := ⟨rb, 1, none⟩) yr).trans c1
  have zc7 := (hSw.cell (p := ⟨rb, 2 + rn, none⟩) yr).trans xr
  have zc8 := (hSw.cell (p := ⟨rb, 2 + an, none⟩) yr).trans xa
  go_simp
  try rfl
 try simp only [Act.put, sT, sZ, sS]
 refine' wpAnyL_take (i := 9) (oi := ⟨some 81, _, _, _, _, _⟩) (v := _) rfl (by kernel_rfl) (by kernel_rfl) (by kernel_rfl) (by kernel_rfl) (fun _ _ _ h => h) hH0 (by rfl) ?hyv ?o67
 case hyv =>
  intro wz hSw
  go_simp
  try rfl
 try simp only [Act.put, sT, sZ, sS]
 refine' wpAnyL_take (i := 10) (oi := ⟨some 82, _, _, _, _, _⟩) (v := _) rfl (by kernel_rfl) (by kernel_rfl) (by kernel_rfl) (by kernel_rfl) (fun _ _ _ h => h) hH0 (by rfl) ?hyv ?o68
 case hyv =>
  intro wz hSw
  go_simp
  try rfl
 try simp only [Act.put, sT, sZ, sS]
 refine' wpAnyL_take (i := 11) (oi := ⟨some 83, _, _, _, _, _⟩) (v := _) rfl (by kernel_rfl) (by kernel_rfl) (by kernel_rfl) (by kernel_rfl) (fun _ _ _ h => h) hH0 (by rfl) ?hyv ?o69
 case hyv =>
  intro wz hSw
  go_simp
  try rfl
 try simp only [Act.put, sT, sZ, sS]
 refine' wpAnyL_take (i := 12) (oi := ⟨some 84, _, _, _, _, _⟩) (v := _) rfl (by kernel_rfl) (by kernel_rfl) (by kernel_rfl) (by kernel_rfl) (fun _ _ _ h => h) hH0 (by rfl) ?hyv ?o70
 case hyv =>
  intro wz hSw
  go_simp
  try rfl
 try simp only [Act.put, sT, sZ, sS]
 refine' wpAnyL_take (i := 13) (oi := ⟨some 85, _, _, _, _, _⟩) (v := _) rfl (by kernel_rfl) (by kernel_rfl) (by kernel_rfl) (by kernel_rfl) (fun _ _ _ h => h) hH0 (by rfl) ?hyv ?o71
 case hyv =>
  intro wz hSw
  have zc0 := (hSw.cell (p := ⟨bi, o, none⟩) yB).trans i0
  have zc1 := (hSw.cell (p := ⟨bi, o + 1, none⟩) yB).trans i1
  have zc2 := (hSw.cell (p := ⟨bi, o + 2, none⟩) yB).trans i2
  have zc3 := (hSw.cell (p := ⟨bi, o + 3, none⟩) yB).trans i3
  have zc4 := (hSw.cell (p := ⟨bi, o + 4, none⟩) yB).trans i4
  have zc5 := (hSw.cell (p := ⟨bi, o + 5, none⟩) yB).trans i5
  have zc6 := (hSw.cell (p := ⟨rb, 1, none⟩) yr).trans c1
  have zc7 := (hSw.cell (p := ⟨rb, 2 + rn, none⟩) yr).trans xr
  have zc8 := (hSw.cell (p := ⟨rb, 2 + an, none⟩) yr).trans xa
  go_simp
  try rfl
 try simp only [Act.put, sT, sZ, sS]
 refine' wpAnyL_take (i := 14) (oi := ⟨some 86, _, _, _, _, _⟩) (v := _) rfl (by kernel_rfl) (by kernel_rfl) (by kernel_rfl) (by kernel_rfl) (fun _ _ _ h => h) hH0 (by rfl) ?hyv ?o72
 case hyv =>
  intro wz hSw
  go_simp
  try rfl
 try simp only [Act.put, sT, sZ, sS]
 refine' wpAnyL_take (i := 15) (oi := ⟨some 87, _, _, _, _, _⟩) (v := _) rfl (by kernel_rfl) (by kernel_rfl) (by kernel_rfl) (by kernel_rfl) (fun _ _ _ h => h) hH0 (by rfl) ?hyv ?o73
 case hyv =>
  intro wz hSw
  go_simp
  try rfl
 try simp only [Act.put, sT, sZ, sS]
 refine' wpAnyL_take (i := 16) (oi := ⟨some 88, _, _, _, _, _⟩) (v := _) rfl (by kernel_rfl) (by kernel_rfl) (by kernel_rfl) (by kernel_rfl) (fun _ _ _ h => h) hH0 (by rfl) ?hyv ?o74
 case hyv =>
  intro wz hSw
  have zc0 := (hSw.cell (p := ⟨bi, o, none⟩) yB).trans i0
  have zc1 := (hSw.cell (p := ⟨bi, o + 1, none⟩) yB).trans i1
  have zc2 := (hSw.cell (p := ⟨bi, o + 2, none⟩) yB).trans i2
  have zc3 := (hSw.cell (p := ⟨bi, o + 3, none⟩) yB).trans i3
  have zc4 := (hSw.cell (p := ⟨bi, o + 4, none⟩) yB).trans i4
  have zc5 := (hSw.cell (p := ⟨bi, o + 5, none⟩) yB).trans i5
  have zc6 := (hSw.cell (p := ⟨rb, 1, none⟩) yr).trans c1
  have zc7 := (hSw.cell (p := ⟨rb, 2 + rn, none⟩) yr).trans xr
  have zc8 := (hSw.cell (p := ⟨rb, 2 + an, none⟩) yr).trans xa
  go_simp
  try rfl
 try simp only [Act.put, sT, sZ, sS]
 refine wpAnyL_two (i := 17) (j := 18) rfl rfl (by kernel_rfl) (by rfl) (by rfl) (fun K hK => ?_) (fun K hK => ?_)
 case _ =>
  go_simp
  refine (hAp.out wd0).mono ?_
  rintro eq wd1 ⟨rfl, bq1⟩
  have hH1 : Below w.heap.size w wd1 := hH0.trans (bq1.mono hH0.size)
  refine hK.out _ _ (fun _ => hH1) ?_
  clear hK K
  try simp only [Act.put, sT, sZ, sS]
  refine wpAnyL_one (i := 18) (o := _) rfl (by kernel_rfl) (by rfl) (fun K hK => ?_)
  go_simp
  refine hK.out _ _ (fun _ => hH1) ?_
  clear hK K
  try simp only [Act.put, sT, sZ, sS]
  have hH2 := hH1
  rename World => wd2
  refine' wpAnyL_take (i := 19) (oi := ⟨some 91, _, _, _, _, _⟩) (v := _) rfl (by kernel_rfl) (by kernel_rfl) (by kernel_rfl) (by kernel_rfl) (fun _ _ _ h => h) hH2 (by rfl) ?hyv ?o75
  case hyv =>
   intro wz hSw
   go_simp
   try rfl
  try simp only [Act.put, sT, sZ, sS]
  refine wpAnyL_one (i := 20) (o := _) rfl (by kernel_rfl) (by rfl) (fun K hK => ?_)
  have kX := hr.under hH2
  have fr := kX.free (2 + rn)
  have st0 := kX.at hrn
  go_simp
  have hq : Aside [rb, cb] wd2.heap.size wd2 (wd2.setCell ⟨rb, 2 + rn, none⟩ (.int .i64 z)) := Aside.setCell (by simp) _
  have hA3 : Aside [rb, cb] w.heap.size w (wd2.setCell ⟨rb, 2 + rn, none⟩ (.int .i64 z)) := (aside hH2).trans hq hH2.size
  have kE := kX.setR hrn z
  have kM := (hm.under hH2).keep (w' := wd2.setCell ⟨rb, 2 + rn, none⟩ (.int .i64 z)) (heap_set_other wd2 ⟨rb, 2 + rn, none⟩ _ (by show rb ≠ cb; exact n1))
  refine hK.out _ _ (fun h => absurd h (by decide)) ?_
  clear hK K kX fr st0 hq
  try simp only [Act.put, sT, sZ, sS]
  generalize wd2.setCell ⟨rb, 2 + rn, none⟩ (.int .i64 z) = wd3 at hA3 kE kM ⊢
  have hH3 := hA3
  refine wpAnyL_done (by kernel_rfl) ?_ _
  rw [← HXX.out] at kE
  rw [← HMM.out] at kM
  go_wp2
  go_ret
  exact ⟨rfl, kE, kM, hH3⟩
 case _ =>
  go_simp
  refine hK.out _ _ (fun _ => hH0) ?_
  clear hK K
  try simp only [Act.put, sT, sZ, sS]
  have hH1 := hH0
  rename World => wd1
  refine wpAnyL_one (i := 17) (o := _) rfl (by kernel_rfl) (by rfl) (fun K hK => ?_)
  go_simp
  refine (hAp.out wd1).mono ?_
  rintro eq wd2 ⟨rfl, bq2⟩
  have hH2 : Below w.heap.size w wd2 := hH1.trans (bq2.mono hH1.size)
  refine hK.out _ _ (fun _ => hH2) ?_
  clear hK K
  try simp only [Act.put, sT, sZ, sS]
  refine' wpAnyL_take (i := 19) (oi := ⟨some 91, _, _, _, _, _⟩) (v := _) rfl (by kernel_rfl) (by kernel_rfl) (by kernel_rfl) (by kernel_rfl) (fun _ _ _ h => h) hH2 (by rfl) ?hyv ?o76
  case hyv =>
   intro wz hSw
   go_simp
   try rfl
  try simp only [Act.put, sT, sZ, sS]
  refine wpAnyL_one (i := 20) (o := _) rfl (by kernel_rfl) (by rfl) (fun K hK => ?_)
  have kX := hr.under hH2
  have fr := kX.free (2 + rn)
  have st0 := kX.at hrn
  go_simp
  have hq : Aside [rb, cb] wd2.heap.size wd2 (wd2.setCell ⟨rb, 2 + rn, none⟩ (.int .i64 z)) := Aside.setCell (by simp) _
  have hA3 : Aside [rb, cb] w.heap.size w (wd2.setCell ⟨rb, 2 + rn, none⟩ (.int .i64 z)) := (aside hH2).trans hq hH2.size
  have kE := kX.setR hrn z
  have kM := (hm.under hH2).keep (w' := wd2.setCell ⟨rb, 2 + rn, none⟩ (.int .i64 z)) (heap_set_other wd2 ⟨rb, 2 + rn, none⟩ _ (by show rb ≠ cb; exact n1))
  refine hK.out _ _ (fun h => absurd h (by decide)) ?_
  clear hK K kX fr st0 hq
  try simp only [Act.put, sT, sZ, sS]
  generalize wd2.setCell ⟨rb, 2 + rn, none⟩ (.int .i64 z) = wd3 at hA3 kE kM ⊢
  have hH3 := hA3
  refine wpAnyL_done (by kernel_rfl) ?_ _
  rw [← HXX.out] at kE
  rw [← HMM.out] at kM
  go_wp2
  go_ret
  exact ⟨rfl, kE, kM, hH3⟩
set_option maxHeartbeats 8000000 in
theorem do7_any {w : World} {rb cb nc cc bi o : Nat} {u0 : Value} {X M : List Int} {pc dn lp tu : Int} (hr : RB w rb u0 (.slice (some ⟨cb, 0, none⟩) nc cc) X pc dn lp tu) (hm : LX w cb M) (hnc : nc ≤ M.length) (hM : nc ≤ 6000) (n1 : rb ≠ cb) (rn : Nat) (hrn : rn < X.length) (an : Nat) (han : an < X.length) (bn : Nat) (hbn : bn < X.length) {kk nn : Int} (hi : InAt w bi o ⟨7, kk, (rn : Int), (an : Int), (bn : Int), nn⟩) : Calls Tryd.prog 42 #[.pointer (some ⟨rb, 0, none⟩), .pointer (some ⟨bi, o, none⟩)] w (DoP w rb cb u0 (.slice (some ⟨cb, 0, none⟩) nc cc) (X.set rn (apT kk X[an] X[bn])) (M) pc dn lp tu true) := by
 obtain ⟨zr, hzr⟩ : ∃ z, z = X[rn] := ⟨_, rfl⟩
 have HZr := hide hzr
 have h40r : (rn : Int) < 40 := by have := hr.l; omega
 have ezr : X[rn] = zr := hzr.symm
 obtain ⟨za, hza⟩ : ∃ z, z = X[an] := ⟨_, rfl⟩
 have HZa := hide hza
 have h40a : (an : Int) < 40 := by have := hr.l; omega
 have eza : X[an] = za := hza.symm
 obtain ⟨zb, hzb⟩ : ∃ z, z = X[bn] := ⟨_, rfl⟩
 have HZb := hide hzb
 have h40b : (bn : Int) < 40 := by have := hr.l; omega
 have ezb : X[bn] = zb := hzb.symm
 obtain ⟨XX, hXX⟩ : ∃ z, z = (X.set rn (apT kk X[an] X[bn])) := ⟨_, rfl⟩
 obtain ⟨MM, hMM⟩ : ∃ z, z = (M) := ⟨_, rfl⟩
 suffices hh : Calls Tryd.prog 42 #[.pointer (some ⟨rb, 0, none⟩), .pointer (some ⟨bi, o, none⟩)] w (DoP w rb cb u0 (.slice (some ⟨cb, 0, none⟩) nc cc) XX MM pc dn lp tu true) by
  rw [hXX, hMM] at hh
  exact hh
 try simp only [ezr, eza, ezb] at hXX hMM
 have HXX := hide hXX
 have HMM := hide hMM
 clear hXX hMM
 clear hzr ezr hza eza hzb ezb
 have i0 := hi.1
 have i1 := hi.2.1
 have i2 := hi.2.2.1
 have i3 := hi.2.2.2.1
 have i4 := hi.2.2.2.2.1
 have i5 := hi.2.2.2.2.2
 have yB := hi.lt
 have yr := hr.lt
 have yc := hm.lt
 have c1 := hr.c1
 have xr := hr.at hrn
 rw [← HZr.out] at xr
 have xa := hr.at han
 rw [← HZa.out] at xa
 have xb := hr.at hbn
 rw [← HZb.out] at xb
 have hAp := hide (fun W => applyP_any kk za zb W)
 generalize apT kk za zb = z at HXX hAp
 go_enter Tryd.func42, Tryd.ntmps42
 go_upto_region 15 with fail
 refine wp_region_late (fun w' => Below w.heap.size w w') (fun i => i == 28) (by kernel_rfl) ?_
 have hH0 : Below w.heap.size w w.drew := (Below.refl _ _).drew
 generalize w.drew = wd0 at hH0 ⊢
 refine' wpAnyL_take (i := 0) (oi := ⟨some 94, _, _, _, _, _⟩) (v := _) rfl (by kernel_rfl) (by kernel_rfl) (by kernel_rfl) (by kernel_rfl) (fun _ _ _ h => h) hH0 (by rfl) ?hyv ?o77
 case hyv =>
  intro wz hSw
  go_simp
  try rfl
 try simp only [Act.put, sT, sZ, sS]
 refine' wpAnyL_take (i := 1) (oi := ⟨some 95, _, _, _, _, _⟩) (v := _) rfl (by kernel_rfl) (by kernel_rfl) (by kernel_rfl) (by kernel_rfl) (fun _ _ _ h => h) hH0 (by rfl) ?hyv ?o78
 case hyv =>
  intro wz hSw
  go_simp
  try rfl
 try simp only [Act.put, sT, sZ, sS]
 refine' wpAnyL_take (i := 2) (oi := ⟨some 96, _, _, _, _, _⟩) (v := _) rfl (by kernel_rfl) (by kernel_rfl) (by kernel_rfl) (by kernel_rfl) (fun _ _ _ h => h) hH0 (by rfl) ?hyv ?o79
 case hyv =>
  intro wz hSw
  go_simp
  try rfl
 try simp only [Act.put, sT, sZ, sS]
 refine' wpAnyL_take (i := 3) (oi := ⟨some 97, _, _, _, _, _⟩) (v := _) rfl (by kernel_rfl) (by kernel_rfl) (by kernel_rfl) (by kernel_rfl) (fun _ _ _ h => h) hH0 (by rfl) ?hyv ?o80
 case hyv =>
  intro wz hSw
  go_simp
  try rfl
 try simp only [Act.put, sT, sZ, sS]
 refine' wpAnyL_take (i := 4) (oi := ⟨some 98, _, _, _, _, _⟩) (v := _) rfl (by kernel_rfl) (by kernel_rfl) (by kernel_rfl) (by kernel_rfl) (fun _ _ _ h => h) hH0 (by rfl) ?hyv ?o81
 case hyv =>
  intro wz hSw
  have zc0 := (hSw.cell (p := ⟨bi, o, none⟩) yB).trans i0
  have zc1 := (hSw.cell (p := ⟨bi, o + 1, none⟩) yB).trans i1
  have zc2 := (hSw.cell (p := ⟨bi, o + 2, none⟩) yB).trans i2
  have zc3 := (hSw.cell (p := ⟨bi, o + 3, none⟩) yB).trans i3
  have zc4 := (hSw.cell (p := ⟨bi, o + 4, none⟩) yB).trans i4
  have zc5 := (hSw.cell (p := ⟨bi, o + 5, none⟩) yB).trans i5
  have zc6 := (hSw.cell (p := ⟨rb, 1, none⟩) yr).trans c1
  have zc7 := (hSw.cell (p := ⟨rb, 2 + rn, none⟩) yr).trans xr
  have zc8 := (hSw.cell (p := ⟨rb, 2 + an, none⟩) yr).trans xa
  have zc9 := (hSw.cell (p := ⟨rb, 2 + bn, none⟩) yr).trans xb
  go_simp
  try rfl
 try simp only [Act.put, sT, sZ, sS]
 refine' wpAnyL_take (i := 5) (oi := ⟨some 99, _, _, _, _, _⟩) (v := _) rfl (by kernel_rfl) (by kernel_rfl) (by kernel_rfl) (by kernel_rfl) (fun _ _ _ h => h) hH0 (by rfl) ?hyv ?o82
 case hyv =>
  intro wz hSw
  go_simp
  try rfl
 try simp only [Act.put, sT, sZ, sS]
 refine' wpAnyL_take (i := 6) (oi := ⟨some 100, _, _, _, _, _⟩) (v := _) rfl (by kernel_rfl) (by kernel_rfl) (by kernel_rfl) (by kernel_rfl) (fun _ _ _ h => h) hH0 (by rfl) ?hyv ?o83
 case hyv =>
  intro wz hSw
  go_simp
  try rfl
 try simp only [Act.put, sT, sZ, sS]
 refine' wpAnyL_take (i := 7) (oi := ⟨some 101, _, _, _, _, _⟩) (v := _) rfl (by kernel_rfl) (by kernel_rfl) (by kernel_rfl) (by kernel_rfl) (fun _ _ _ h => h) hH0 (by rfl) ?hyv ?o84
 case hyv =>
  intro wz hSw
  go_simp
  try rfl
 try simp only [Act.put, sT, sZ, sS]
 refine' wpAnyL_take (i := 8) (oi := ⟨some 102, _, _, _, _, _⟩) (v := _) rfl (by kernel_rfl) (by kernel_rfl) (by kernel_rfl) (by kernel_rfl) (fun _ _ _ h => h) hH0 (by rfl) ?hyv ?o85
 case hyv =>
  intro wz hSw
  have zc0 := (hSw.cell (p := ⟨bi, o, none⟩) yB).trans i0
  have zc1 := (hSw.cell (p := ⟨bi, o + 1, none⟩) yB).trans i1
  have zc2 := (hSw.cell (p := ⟨bi, o + 2, none⟩) yB).trans i2
  have zc3 := (hSw.cell (p := ⟨bi, o + 3, none⟩) yB).trans i3
  have zc4 := (hSw.cell (p := ⟨bi, o + 4, none⟩) yB).trans i4
  have zc5 := (hSw.cell (p := ⟨bi, o + 5, none⟩) yB).trans i5
  have zc6 := (hSw.cell (p := ⟨rb, 1, none⟩) yr).trans c1
  have zc7 := (hSw.cell (p := ⟨rb, 2 + rn, none⟩) yr).trans xr
  have zc8 := (hSw.cell (p := ⟨rb, 2 + an, none⟩) yr).trans xa
  have zc9 := (hSw.cell (p := ⟨rb, 2 + bn, none⟩) yr).trans xb
  go_simp
  try rfl
 try simp only [Act.put, sT, sZ, sS]
 refine' wpAnyL_take (i := 9) (oi := ⟨some 103, _, _, _, _, _⟩) (v := _) rfl (by kernel_rfl) (by kernel_rfl) (by kernel_rfl) (by kernel_rfl) (fun _ _ _ h => h) hH0 (by rfl) ?hyv ?o86
 case hyv =>
  intro wz hSw
  go_simp
  try rfl
 try simp only [Act.put, sT, sZ, sS]
 refine' wpAnyL_take (i := 10) (oi := ⟨some 104, _, _, _, _, _⟩) (v := _) rfl (by kernel_rfl) (by kernel_rfl) (by kernel_rfl) (by kernel_rfl) (fun _ _ _ h => h) hH0 (by rfl) ?hyv ?o87
 case hyv =>
  intro wz hSw
  go_simp
  try rfl
 try simp only [Act.put, sT, sZ, sS]
 refine' wpAnyL_take (i := 11) (oi := ⟨some 105, _, _, _, _, _⟩) (v := _) rfl (by kernel_rfl) (by kernel_rfl) (by kernel_rfl) (by kernel_rfl) (fun _ _ _ h => h) hH0 (by rfl) ?hyv ?o88
 case hyv =>
  intro wz hSw
  go_simp
  try rfl
 try simp only [Act.put, sT, sZ, sS]
 refine' wpAnyL_take (i := 12) (oi := ⟨some 106, _, _, _, _, _⟩) (v := _) rfl (by kernel_rfl) (by kernel_rfl) (by kernel_rfl) (by kernel_rfl) (fun _ _ _ h => h) hH0 (by rfl) ?hyv ?o89
 case hyv =>
  intro wz hSw
  go_simp
  try rfl
 try simp only [Act.put, sT, sZ, sS]
 refine' wpAnyL_take (i := 13) (oi := ⟨some 107, _, _, _, _, _⟩) (v := _) rfl (by kernel_rfl) (by kernel_rfl) (by kernel_rfl) (by kernel_rfl) (fun _ _ _ h => h) hH0 (by rfl) ?hyv ?o90
 case hyv =>
  intro wz hSw
  have zc0 := (hSw.cell (p := ⟨bi, o, none⟩) yB).trans i0
  have zc1 := (hSw.cell (p := ⟨bi, o + 1, none⟩) yB).trans i1
  have zc2 := (hSw.cell (p := ⟨bi, o + 2, none⟩) yB).trans i2
  have zc3 := (hSw.cell (p := ⟨bi, o + 3, none⟩) yB).trans i3
  have zc4 := (hSw.cell (p := ⟨bi, o + 4, none⟩) yB).trans i4
  have zc5 := (hSw.cell (p := ⟨bi, o + 5, none⟩) yB).trans i5
  have zc6 := (hSw.cell (p := ⟨rb, 1, none⟩) yr).trans c1
  have zc7 := (hSw.cell (p := ⟨rb, 2 + rn, none⟩) yr).trans xr
  have zc8 := (hSw.cell (p := ⟨rb, 2 + an, none⟩) yr).trans xa
  have zc9 := (hSw.cell (p := ⟨rb, 2 + bn, none⟩) yr).trans xb
  go_simp
  try rfl
 try simp only [Act.put, sT, sZ, sS]
 refine' wpAnyL_take (i := 14) (oi := ⟨some 108, _, _, _, _, _⟩) (v := _) rfl (by kernel_rfl) (by kernel_rfl) (by kernel_rfl) (by kernel_rfl) (fun _ _ _ h => h) hH0 (by rfl) ?hyv ?o91
 case hyv =>
  intro wz hSw
  go_simp
  try rfl
 try simp only [Act.put, sT, sZ, sS]
 refine' wpAnyL_take (i := 15) (oi := ⟨some 109, _, _, _, _, _⟩) (v := _) rfl (by kernel_rfl) (by kernel_rfl) (by kernel_rfl) (by kernel_rfl) (fun _ _ _ h => h) hH0 (by rfl) ?hyv ?o92
 case hyv =>
  intro wz hSw
  go_simp
  try rfl
 try simp only [Act.put, sT, sZ, sS]
 refine' wpAnyL_take (i := 16) (oi := ⟨some 110, _, _, _, _, _⟩) (v := _) rfl (by kernel_rfl) (by kernel_rfl) (by kernel_rfl) (by kernel_rfl) (fun _ _ _ h => h) hH0 (by rfl) ?hyv ?o93
 case hyv =>
  intro wz hSw
  have zc0 := (hSw.cell (p := ⟨bi, o, none⟩) yB).trans i0
  have zc1 := (hSw.cell (p := ⟨bi, o + 1, none⟩) yB).trans i1
  have zc2 := (hSw.cell (p := ⟨bi, o + 2, none⟩) yB).trans i2
  have zc3 := (hSw.cell (p := ⟨bi, o + 3, none⟩) yB).trans i3
  have zc4 := (hSw.cell (p := ⟨bi, o + 4, none⟩) yB).trans i4
  have zc5 := (hSw.cell (p := ⟨bi, o + 5, none⟩) yB).trans i5
  have zc6 := (hSw.cell (p := ⟨rb, 1, none⟩) yr).trans c1
  have zc7 := (hSw.cell (p := ⟨rb, 2 + rn, none⟩) yr).trans xr
  have zc8 := (hSw.cell (p := ⟨rb, 2 + an, none⟩) yr).trans xa
  have zc9 := (hSw.cell (p := ⟨rb, 2 + bn, none⟩) yr).trans xb
  go_simp
  try rfl
 try simp only [Act.put, sT, sZ, sS]
 refine' wpAnyL_take (i := 17) (oi := ⟨some 111, _, _, _, _, _⟩) (v := _) rfl (by kernel_rfl) (by kernel_rfl) (by kernel_rfl) (by kernel_rfl) (fun _ _ _ h => h) hH0 (by rfl) ?hyv ?o94
 case hyv =>
  intro wz hSw
  go_simp
  try rfl
 try simp only [Act.put, sT, sZ, sS]
 refine' wpAnyL_take (i := 18) (oi := ⟨some 112, _, _, _, _, _⟩) (v := _) rfl (by kernel_rfl) (by kernel_rfl) (by kernel_rfl) (by kernel_rfl) (fun _ _ _ h => h) hH0 (by rfl) ?hyv ?o95
 case hyv =>
  intro wz hSw
  go_simp
  try rfl
 try simp only [Act.put, sT, sZ, sS]
 refine' wpAnyL_take (i := 19) (oi := ⟨some 113, _, _, _, _, _⟩) (v := _) rfl (by kernel_rfl) (by kernel_rfl) (by kernel_rfl) (by kernel_rfl) (fun _ _ _ h => h) hH0 (by rfl) ?hyv ?o96
 case hyv =>
  intro wz hSw
  go_simp
  try rfl
 try simp only [Act.put, sT, sZ, sS]
 refine' wpAnyL_take (i := 20) (oi := ⟨some 114, _, _, _, _, _⟩) (v := _) rfl (by kernel_rfl) (by kernel_rfl) (by kernel_rfl) (by kernel_rfl) (fun _ _ _ h => h) hH0 (by rfl) ?hyv ?o97
 case hyv =>
  intro wz hSw
  go_simp
  try rfl
 try simp only [Act.put, sT, sZ, sS]
 refine' wpAnyL_take (i := 21) (oi := ⟨some 115, _, _, _, _, _⟩) (v := _) rfl (by kernel_rfl) (by kernel_rfl) (by kernel_rfl) (by kernel_rfl) (fun _ _ _ h => h) hH0 (by rfl) ?hyv ?o98
 case hyv =>
  intro wz hSw
  have zc0 := (hSw.cell (p := ⟨bi, o, none⟩) yB).trans i0
  have zc1 := (hSw.cell (p := ⟨bi, o + 1, none⟩) yB).trans i1
  have zc2 := (hSw.cell (p := ⟨bi, o + 2, none⟩) yB).trans i2
  have zc3 := (hSw.cell (p := ⟨bi, o + 3, none⟩) yB).trans i3
  have zc4 := (hSw.cell (p := ⟨bi, o + 4, none⟩) yB).trans i4
  have zc5 := (hSw.cell (p := ⟨bi, o + 5, none⟩) yB).trans i5
  have zc6 := (hSw.cell (p := ⟨rb, 1, none⟩) yr).trans c1
  have zc7 := (hSw.cell (p := ⟨rb, 2 + rn, none⟩) yr).trans xr
  have zc8 := (hSw.cell (p := ⟨rb, 2 + an, none⟩) yr).trans xa
  have zc9 := (hSw.cell (p := ⟨rb, 2 + bn, none⟩) yr).trans xb
  go_simp
  try rfl
 try simp only [Act.put, sT, sZ, sS]
 refine' wpAnyL_take (i := 22) (oi := ⟨some 116, _, _, _, _, _⟩) (v := _) rfl (by kernel_rfl) (by kernel_rfl) (by kernel_rfl) (by kernel_rfl) (fun _ _ _ h => h) hH0 (by rfl) ?hyv ?o99
 case hyv =>
  intro wz hSw
  go_simp
  try rfl
 try simp only [Act.put, sT, sZ, sS]
 refine' wpAnyL_take (i := 23) (oi := ⟨some 117, _, _, _, _, _⟩) (v := _) rfl (by kernel_rfl) (by kernel_rfl) (by kernel_rfl) (by kernel_rfl) (fun _ _ _ h => h) hH0 (by rfl) ?hyv ?o100
 case hyv =>
  intro wz hSw
  go_simp
  try rfl
 try simp only [Act.put, sT, sZ, sS]
 refine' wpAnyL_take (i := 24) (oi := ⟨some 118, _, _, _, _, _⟩) (v := _) rfl (by kernel_rfl) (by kernel_rfl) (by kernel_rfl) (by kernel_rfl) (fun _ _ _ h => h) hH0 (by rfl) ?hyv ?o101
 case hyv =>
  intro wz hSw
  have zc0 := (hSw.cell (p := ⟨bi, o, none⟩) yB).trans i0
  have zc1 := (hSw.cell (p := ⟨bi, o + 1, none⟩) yB).trans i1
  have zc2 := (hSw.cell (p := ⟨bi, o + 2, none⟩) yB).trans i2
  have zc3 := (hSw.cell (p := ⟨bi, o + 3, none⟩) yB).trans i3
  have zc4 := (hSw.cell (p := ⟨bi, o + 4, none⟩) yB).trans i4
  have zc5 := (hSw.cell (p := ⟨bi, o + 5, none⟩) yB).trans i5
  have zc6 := (hSw.cell (p := ⟨rb, 1, none⟩) yr).trans c1
  have zc7 := (hSw.cell (p := ⟨rb, 2 + rn, none⟩) yr).trans xr
  have zc8 := (hSw.cell (p := ⟨rb, 2 + an, none⟩) yr).trans xa
  have zc9 := (hSw.cell (p := ⟨rb, 2 + bn, none⟩) yr).trans xb
  go_simp
  try rfl
 try simp only [Act.put, sT, sZ, sS]
 refine wpAnyL_two (i := 25) (j := 26) rfl rfl (by kernel_rfl) (by rfl) (by rfl) (fun K hK => ?_) (fun K hK => ?_)
 case _ =>
  go_simp
  refine (hAp.out wd0).mono ?_
  rintro eq wd1 ⟨rfl, bq1⟩
  have hH1 : Below w.heap.size w wd1 := hH0.trans (bq1.mono hH0.size)
  refine hK.out _ _ (fun _ => hH1) ?_
  clear hK K
  try simp only [Act.put, sT, sZ, sS]
  refine wpAnyL_one (i := 26) (o := _) rfl (by kernel_rfl) (by rfl) (fun K hK => ?_)
  go_simp
  refine hK.out _ _ (fun _ => hH1) ?_
  clear hK K
  try simp only [Act.put, sT, sZ, sS]
  have hH2 := hH1
  rename World => wd2
  refine' wpAnyL_take (i := 27) (oi := ⟨some 121, _, _, _, _, _⟩) (v := _) rfl (by kernel_rfl) (by kernel_rfl) (by kernel_rfl) (by kernel_rfl) (fun _ _ _ h => h) hH2 (by rfl) ?hyv ?o102
  case hyv =>
   intro wz hSw
   go_simp
   try rfl
  try simp only [Act.put, sT, sZ, sS]
  refine wpAnyL_one (i := 28) (o := _) rfl (by kernel_rfl) (by rfl) (fun K hK => ?_)
  have kX := hr.under hH2
  have fr := kX.free (2 + rn)
  have st0 := kX.at hrn
  go_simp
  have hq : Aside [rb, cb] wd2.heap.size wd2 (wd2.setCell ⟨rb, 2 + rn, none⟩ (.int .i64 z)) := Aside.setCell (by simp) _
  have hA3 : Aside [rb, cb] w.heap.size w (wd2.setCell ⟨rb, 2 + rn, none⟩ (.int .i64 z)) := (aside hH2).trans hq hH2.size
  have kE := kX.setR hrn z
  have kM := (hm.under hH2).keep (w' := wd2.setCell ⟨rb, 2 + rn, none⟩ (.int .i64 z)) (heap_set_other wd2 ⟨rb, 2 + rn, none⟩ _ (by show rb ≠ cb; exact n1))
  refine hK.out _ _ (fun h => absurd h (by decide)) ?_
  clear hK K kX fr st0 hq
  try simp only [Act.put, sT, sZ, sS]
  generalize wd2.setCell ⟨rb, 2 + rn, none⟩ (.int .i64 z) = wd3 at hA3 kE kM ⊢
  have hH3 := hA3
  refine wpAnyL_done (by kernel_rfl) ?_ _
  rw [← HXX.out] at kE
  rw [← HMM.out] at kM
  go_wp2
  go_ret
  exact ⟨rfl, kE, kM, hH3⟩
 case _ =>
  go_simp
  refine hK.out _ _ (fun _ => hH0) ?_
  clear hK K
  try simp only [Act.put, sT, sZ, sS]
  have hH1 := hH0
  rename World => wd1
  refine wpAnyL_one (i := 25) (o := _) rfl (by kernel_rfl) (by rfl) (fun K hK => ?_)
  go_simp
  refine (hAp.out wd1).mono ?_
  rintro eq wd2 ⟨rfl, bq2⟩
  have hH2 : Below w.heap.size w wd2 := hH1.trans (bq2.mono hH1.size)
  refine hK.out _ _ (fun _ => hH2) ?_
  clear hK K
  try simp only [Act.put, sT, sZ, sS]
  refine' wpAnyL_take (i := 27) (oi := ⟨some 121, _, _, _, _, _⟩) (v := _) rfl (by kernel_rfl) (by kernel_rfl) (by kernel_rfl) (by kernel_rfl) (fun _ _ _ h => h) hH2 (by rfl) ?hyv ?o103
  case hyv =>
   intro wz hSw
   go_simp
   try rfl
  try simp only [Act.put, sT, sZ, sS]
  refine wpAnyL_one (i := 28) (o := _) rfl (by kernel_rfl) (by rfl) (fun K hK => ?_)
  have kX := hr.under hH2
  have fr := kX.free (2 + rn)
  have st0 := kX.at hrn
  go_simp
  have hq : Aside [rb, cb] wd2.heap.size wd2 (wd2.setCell ⟨rb, 2 + rn, none⟩ (.int .i64 z)) := Aside.setCell (by simp) _
  have hA3 : Aside [rb, cb] w.heap.size w (wd2.setCell ⟨rb, 2 + rn, none⟩ (.int .i64 z)) := (aside hH2).trans hq hH2.size
  have kE := kX.setR hrn z
  have kM := (hm.under hH2).keep (w' := wd2.setCell ⟨rb, 2 + rn, none⟩ (.int .i64 z)) (heap_set_other wd2 ⟨rb, 2 + rn, none⟩ _ (by show rb ≠ cb; exact n1))
  refine hK.out _ _ (fun h => absurd h (by decide)) ?_
  clear hK K kX fr st0 hq
  try simp only [Act.put, sT, sZ, sS]
  generalize wd2.setCell ⟨rb, 2 + rn, none⟩ (.int .i64 z) = wd3 at hA3 kE kM ⊢
  have hH3 := hA3
  refine wpAnyL_done (by kernel_rfl) ?_ _
  rw [← HXX.out] at kE
  rw [← HMM.out] at kM
  go_wp2
  go_ret
  exact ⟨rfl, kE, kM, hH3⟩
end Go.Proofs.YtkgbmgpdehmiiaaDoor
