import Derived.Test.YtkgbmgpdehmiiaaDoorY12
import Derived.WalkKit
import Derived.WalkSpells
import Derived.IntWalk
import Derived.Deep.Cut
import Derived.Deep.LoopGhost
import Derived.Laws.Cover1
import Derived.Lib.Hide
set_option linter.unusedVariables false
set_option linter.unusedSimpArgs false
set_option maxHeartbeats 64000000
set_option maxRecDepth 100000
namespace Go.Proofs.YtkgbmgpdehmiiaaDoor
open Go.RowKit Go.IntWalk
set_option linter.unusedVariables false
set_option linter.unusedSimpArgs false
set_option maxHeartbeats 8000000 in
theorem chosena {w : World} {rb cb nc cc bi o : Nat} {u0 : Value} {X M : List Int} {pc dn lp tu : Int} (hr : RB w rb u0 (.slice (some ⟨cb, 0, none⟩) nc cc) X pc dn lp tu) (hm : LX w cb M) (hnc : nc ≤ M.length) (hM : nc ≤ 6000) (n1 : rb ≠ cb) (rn : Nat) (hrn : rn < X.length) (an : Nat) (han : an < X.length) (bn : Nat) (hbn : bn < X.length) {kk nn : Int} (hz : X[rn] = 0) (hi : InAt w bi o ⟨8, kk, (rn : Int), (an : Int), (bn : Int), nn⟩) : Calls Tryd.prog 56 #[.pointer (some ⟨rb, 0, none⟩), .pointer (some ⟨bi, o, none⟩)] w (fun e w' => e = .returned (.int .i64 X[bn]) ∧ Below w.heap.size w w') := by
 obtain ⟨zr, hzr⟩ : ∃ z, z = X[rn] := ⟨_, rfl⟩
 have HZr := hide hzr
 have h40r : (rn : Int) < 40 := by have := hr.l; omega
 have ezr : X[rn] = zr := hzr.symm
 obtain ⟨za, hza⟩ : ∃ z, z = X[an] := ⟨_, rfl⟩
 have HZa := hide hza
 have h40a : (an : Int) < 40 := by have := hr.l; omega
 have eza : X[an] = za := hza.symm
 obtain ⟨zb, hzb⟩ : ∃ z, z = X[bn] := ⟨_, rfl⟩
 have HZb := hide hzb
 have h40b : (bn : Int) < 40 := by have := hr.l; omega
 have ezb : X[bn] = zb := hzb.symm
 clear hzr ezr hza eza hzb ezb
 have i0 := hi.1
 have i1 := hi.2.1
 have i2 := hi.2.2.1
 have i3 := hi.2.2.2.1
 have i4 := hi.2.2.2.2.1
 have i5 := hi.2.2.2.2.2
 have yB := hi.lt
 have yr := hr.lt
 have yc := hm.lt
 have c1 := hr.c1
 have xr := hr.at hrn
 rw [← HZr.out] at xr
 have xa := hr.at han
 rw [← HZa.out] at xa
 have xb := hr.at hbn
 rw [← HZb.out] at xb
 have hz0 : zr = 0 := by rw [HZr.out]; exact hz
 subst hz0
 go_enter Tryd.func56, Tryd.ntmps56
 go_upto_region 1 with fail
 refine wp_region_late (fun w' => Below w.heap.size w w') (fun _ => false) (by kernel_rfl) ?_
 have hH0 : Below w.heap.size w w.drew := (Below.refl _ _).drew
 generalize w.drew = wd0 at hH0 ⊢
 refine' wpAnyL_take (i := 0) (oi := ⟨some 5, _, _, _, _, _⟩) (v := _) rfl (by kernel_rfl) (by kernel_rfl) (by kernel_rfl) (by kernel_rfl) (fun _ _ _ h => h) hH0 (by rfl) ?hyv ?o1
 case hyv =>
  intro wz hSw
  go_simp
  try rfl
 try simp only [Act.put, sT, sZ, sS]
 refine' wpAnyL_take (i := 1) (oi := ⟨some 6, _, _, _, _, _⟩) (v := _) rfl (by kernel_rfl) (by kernel_rfl) (by kernel_rfl) (by kernel_rfl) (fun _ _ _ h => h) hH0 (by rfl) ?hyv ?o2
 case hyv =>
  intro wz hSw
  go_simp
  try rfl
 try simp only [Act.put, sT, sZ, sS]
 refine' wpAnyL_take (i := 2) (oi := ⟨some 7, _, _, _, _, _⟩) (v := _) rfl (by kernel_rfl) (by kernel_rfl) (by kernel_rfl) (by kernel_rfl) (fun _ _ _ h => h) hH0 (by rfl) ?hyv ?o3
 case hyv =>
  intro wz hSw
  go_simp
  try rfl
 try simp only [Act.put, sT, sZ, sS]
 refine' wpAnyL_take (i := 3) (oi := ⟨some 8, _, _, _, _, _⟩) (v := _) rfl (by kernel_rfl) (by kernel_rfl) (by kernel_rfl) (by kernel_rfl) (fun _ _ _ h => h) hH0 (by rfl) ?hyv ?o4
 case hyv =>
  intro wz hSw
  go_simp
  try rfl
 try simp only [Act.put, sT, sZ, sS]
 refine' wpAnyL_take (i := 4) (oi := ⟨some 9, _, _, _, _, _⟩) (v := _) rfl (by kernel_rfl) (by kernel_rfl) (by kernel_rfl) (by kernel_rfl) (fun _ _ _ h => h) hH0 (by rfl) ?hyv ?o5
 case hyv =>
  intro wz hSw
  have zc0 := (hSw.cell (p := ⟨bi, o, none⟩) yB).trans i0
  have zc1 := (hSw.cell (p := ⟨bi, o + 1, none⟩) yB).trans i1
  have zc2 := (hSw.cell (p := ⟨bi, o + 2, none⟩) yB).trans i2
  have zc3 := (hSw.cell (p := ⟨bi, o + 3, none⟩) yB).trans i3
  have zc4 := (hSw.cell (p := ⟨bi, o + 4, none⟩) yB).trans i4
  have zc5 := (hSw.cell (p := ⟨bi, o + 5, none⟩) yB).trans i5
  have zc6 := (hSw.cell (p := ⟨rb, 1, none⟩) yr).trans c1
  have zc7 := (hSw.cell (p := ⟨rb, 2 + rn, none⟩) yr).trans xr
  have zc8 := (hSw.cell (p := ⟨rb, 2 + an, none⟩) yr).trans xa
  have zc9 := (hSw.cell (p := ⟨rb, 2 + bn, none⟩) yr).trans xb
  go_simp
  try rfl
 try simp only [Act.put, sT, sZ, sS]
 refine' wpAnyL_take (i := 5) (oi := ⟨some 10, _, _, _, _, _⟩) (v := _) rfl (by kernel_rfl) (by kernel_rfl) (by kernel_rfl) (by kernel_rfl) (fun _ _ _ h => h) hH0 (by rfl) ?hyv ?o6
 case hyv =>
  intro wz hSw
  go_simp
  try rfl
 try simp only [Act.put, sT, sZ, sS]
 refine' wpAnyL_take (i := 6) (oi := ⟨some 11, _, _, _, _, _⟩) (v := _) rfl (by kernel_rfl) (by kernel_rfl) (by kernel_rfl) (by kernel_rfl) (fun _ _ _ h => h) hH0 (by rfl) ?hyv ?o7
 case hyv =>
  intro wz hSw
  go_simp
  try rfl
 try simp only [Act.put, sT, sZ, sS]
 refine' wpAnyL_take (i := 7) (oi := ⟨some 12, _, _, _, _, _⟩) (v := _) rfl (by kernel_rfl) (by kernel_rfl) (by kernel_rfl) (by kernel_rfl) (fun _ _ _ h => h) hH0 (by rfl) ?hyv ?o8
 case hyv =>
  intro wz hSw
  go_simp
  try rfl
 try simp only [Act.put, sT, sZ, sS]
 refine' wpAnyL_take (i := 8) (oi := ⟨some 13, _, _, _, _, _⟩) (v := _) rfl (by kernel_rfl) (by kernel_rfl) (by kernel_rfl) (by kernel_rfl) (fun _ _ _ h => h) hH0 (by rfl) ?hyv ?o9
 case hyv =>
  intro wz hSw
  have zc0 := (hSw.cell (p := ⟨bi, o, none⟩) yB).trans i0
  have zc1 := (hSw.cell (p := ⟨bi, o + 1, none⟩) yB).trans i1
  have zc2 := (hSw.cell (p := ⟨bi, o + 2, none⟩) yB).trans i2
  have zc3 := (hSw.cell (p := ⟨bi, o + 3, none⟩) yB).trans i3
  have zc4 := (hSw.cell (p := ⟨bi, o + 4, none⟩) yB).trans i4
  have zc5 := (hSw.cell (p := ⟨bi, o + 5, none⟩) yB).trans i5
  have zc6 := (hSw.cell (p := ⟨rb, 1, none⟩) yr).trans c1
  have zc7 := (hSw.cell (p := ⟨rb, 2 + rn, none⟩) yr).trans xr
  have zc8 := (hSw.cell (p := ⟨rb, 2 + an, none⟩) yr).trans xa
  have zc9 := (hSw.cell (p := ⟨rb, 2 + bn, none⟩) yr).trans xb
  go_simp
  try rfl
 try simp only [Act.put, sT, sZ, sS]
 refine' wpAnyL_take (i := 9) (oi := ⟨some 14, _, _, _, _, _⟩) (v := _) rfl (by kernel_rfl) (by kernel_rfl) (by kernel_rfl) (by kernel_rfl) (fun _ _ _ h => h) hH0 (by rfl) ?hyv ?o10
 case hyv =>
  intro wz hSw
  go_simp
  try rfl
 try simp only [Act.put, sT, sZ, sS]
 refine wpAnyL_done (by kernel_rfl) ?_ _
 obtain ⟨b1⟩ : Nonempty (Below w.heap.size w wd0) := ⟨hH0⟩
 have hr2 := hr.under hH0
 have hm2 := hm.under hH0
 have hi2 := hi.keep (hH0.block _ hi.lt)
 have i02 := hi2.1
 have i12 := hi2.2.1
 have i22 := hi2.2.2.1
 have i32 := hi2.2.2.2.1
 have i42 := hi2.2.2.2.2.1
 have i52 := hi2.2.2.2.2.2
 have yB2 := hi2.lt
 have yr2 := hr2.lt
 have yc2 := hm2.lt
 have c12 := hr2.c1
 have xr2 := hr2.at hrn
 rw [← HZr.out] at xr2
 have xb2 := hr2.at hbn
 rw [← HZb.out] at xb2
 go_upto_region 3 with fail
 refine wp_region_late (fun w' => Below wd0.heap.size wd0 w') (fun _ => false) (by kernel_rfl) ?_
 have hH0 : Below wd0.heap.size wd0 wd0.drew := (Below.refl _ _).drew
 generalize wd0.drew = wd0 at hH0 ⊢
 refine' wpAnyL_take (i := 0) (oi := ⟨some 24, _, _, _, _, _⟩) (v := _) rfl (by kernel_rfl) (by kernel_rfl) (by kernel_rfl) (by kernel_rfl) (fun _ _ _ h => h) hH0 (by rfl) ?hyv ?o11
 case hyv =>
  intro wz hSw
  go_simp
  try rfl
 try simp only [Act.put, sT, sZ, sS]
 refine' wpAnyL_take (i := 1) (oi := ⟨some 25, _, _, _, _, _⟩) (v := _) rfl (by kernel_rfl) (by kernel_rfl) (by kernel_rfl) (by kernel_rfl) (fun _ _ _ h => h) hH0 (by rfl) ?hyv ?o12
 case hyv =>
  intro wz hSw
  go_simp
  try rfl
 try simp only [Act.put, sT, sZ, sS]
 refine' wpAnyL_take (i := 2) (oi := ⟨some 26, _, _, _, _, _⟩) (v := _) rfl (by kernel_rfl) (by kernel_rfl) (by kernel_rfl) (by kernel_rfl) (fun _ _ _ h => h) hH0 (by rfl) ?hyv ?o13
 case hyv =>
  intro wz hSw
  go_simp
  try rfl
 try simp only [Act.put, sT, sZ, sS]
 refine' wpAnyL_take (i := 3) (oi := ⟨some 27, _, _, _, _, _⟩) (v := _) rfl (by kernel_rfl) (by kernel_rfl) (by kernel_rfl) (by kernel_rfl) (fun _ _ _ h => h) hH0 (by rfl) ?hyv ?o14
 case hyv =>
  intro wz hSw
  go_simp
  try rfl
 try simp only [Act.put, sT, sZ, sS]
 refine' wpAnyL_take (i := 4) (oi := ⟨some 28, _, _, _, _, _⟩) (v := _) rfl (by kernel_rfl) (by kernel_rfl) (by kernel_rfl) (by kernel_rfl) (fun _ _ _ h => h) hH0 (by rfl) ?hyv ?o15
 case hyv =>
  intro wz hSw
  have zc0 := (hSw.cell (p := ⟨bi, o, none⟩) yB2).trans i02
  have zc1 := (hSw.cell (p := ⟨bi, o + 1, none⟩) yB2).trans i12
  have zc2 := (hSw.cell (p := ⟨bi, o + 2, none⟩) yB2).trans i22
  have zc3 := (hSw.cell (p := ⟨bi, o + 3, none⟩) yB2).trans i32
  have zc4 := (hSw.cell (p := ⟨bi, o + 4, none⟩) yB2).trans i42
  have zc5 := (hSw.cell (p := ⟨bi, o + 5, none⟩) yB2).trans i52
  have zc6 := (hSw.cell (p := ⟨rb, 1, none⟩) yr2).trans c12
  have zc7 := (hSw.cell (p := ⟨rb, 2 + rn, none⟩) yr2).trans xr2
  have zc8 := (hSw.cell (p := ⟨rb, 2 + bn, none⟩) yr2).trans xb2
  go_simp
  try rfl
 try simp only [Act.put, sT, sZ, sS]
 refine' wpAnyL_take (i := 5) (oi := ⟨some 29, _, _, _, _, _⟩) (v := _) rfl (by kernel_rfl) (by kernel_rfl) (by kernel_rfl) (by kernel_rfl) (fun _ _ _ h => h) hH0 (by rfl) ?hyv ?o16
 case hyv =>
  intro wz hSw
  go_simp
  try rfl
 try simp only [Act.put, sT, sZ, sS]
 refine' wpAnyL_take (i := 6) (oi := ⟨some 30, _, _, _, _, _⟩) (v := _) rfl (by kernel_rfl) (by kernel_rfl) (by kernel_rfl) (by kernel_rfl) (fun _ _ _ h => h) hH0 (by rfl) ?hyv ?o17
 case hyv =>
  intro wz hSw
  go_simp
  try rfl
 try simp only [Act.put, sT, sZ, sS]
 refine' wpAnyL_take (i := 7) (oi := ⟨some 31, _, _, _, _, _⟩) (v := _) rfl (by kernel_rfl) (by kernel_rfl) (by kernel_rfl) (by kernel_rfl) (fun _ _ _ h => h) hH0 (by rfl) ?hyv ?o18
 case hyv =>
  intro wz hSw
  go_simp
  try rfl
 try simp only [Act.put, sT, sZ, sS]
 refine' wpAnyL_take (i := 8) (oi := ⟨some 32, _, _, _, _, _⟩) (v := _) rfl (by kernel_rfl) (by kernel_rfl) (by kernel_rfl) (by kernel_rfl) (fun _ _ _ h => h) hH0 (by rfl) ?hyv ?o19
 case hyv =>
  intro wz hSw
  have zc0 := (hSw.cell (p := ⟨bi, o, none⟩) yB2).trans i02
  have zc1 := (hSw.cell (p := ⟨bi, o + 1, none⟩) yB2).trans i12
  have zc2 := (hSw.cell (p := ⟨bi, o + 2, none⟩) yB2).trans i22
  have zc3 := (hSw.cell (p := ⟨bi, o + 3, none⟩) yB2).trans i32
  have zc4 := (hSw.cell (p := ⟨bi, o + 4, none⟩) yB2).trans i42
  have zc5 := (hSw.cell (p := ⟨bi, o + 5, none⟩) yB2).trans i52
  have zc6 := (hSw.cell (p := ⟨rb, 1, none⟩) yr2).trans c12
  have zc7 := (hSw.cell (p := ⟨rb, 2 + rn, none⟩) yr2).trans xr2
  have zc8 := (hSw.cell (p := ⟨rb, 2 + bn, none⟩) yr2).trans xb2
  go_simp
  try rfl
 try simp only [Act.put, sT, sZ, sS]
 refine' wpAnyL_take (i := 9) (oi := ⟨some 4, _, _, _, _, _⟩) (v := _) rfl (by kernel_rfl) (by kernel_rfl) (by kernel_rfl) (by kernel_rfl) (fun _ _ _ h => h) hH0 (by rfl) ?hyv ?o20
 case hyv =>
  intro wz hSw
  go_simp
  try rfl
 try simp only [Act.put, sT, sZ, sS]
 refine wpAnyL_done (by kernel_rfl) ?_ _
 go_wp2
 go_ret
 exact ⟨(by rw [HZb.out]; rfl), b1.trans (hH0.mono b1.size)⟩
set_option maxHeartbeats 8000000 in
theorem chosenb {w : World} {rb cb nc cc bi o : Nat} {u0 : Value} {X M : List Int} {pc dn lp tu : Int} (hr : RB w rb u0 (.slice (some ⟨cb, 0, none⟩) nc cc) X pc dn lp tu) (hm : LX w cb M) (hnc : nc ≤ M.length) (hM : nc ≤ 6000) (n1 : rb ≠ cb) (rn : Nat) (hrn : rn < X.length) (an : Nat) (han : an < X.length) (bn : Nat) (hbn : bn < X.length) {kk nn : Int} (hz : X[rn] ≠ 0) (hi : InAt w bi o ⟨8, kk, (rn : Int), (an : Int), (bn : Int), nn⟩) : Calls Tryd.prog 56 #[.pointer (some ⟨rb, 0, none⟩), .pointer (some ⟨bi, o, none⟩)] w (fun e w' => e = .returned (.int .i64 X[an]) ∧ Below w.heap.size w w') := by
 obtain ⟨zr, hzr⟩ : ∃ z, z = X[rn] := ⟨_, rfl⟩
 have HZr := hide hzr
 have h40r : (rn : Int) < 40 := by have := hr.l; omega
 have ezr : X[rn] = zr := hzr.symm
 obtain ⟨za, hza⟩ : ∃ z, z = X[an] := ⟨_, rfl⟩
 have HZa := hide hza
 have h40a : (an : Int) < 40 := by have := hr.l; omega
 have eza : X[an] = za := hza.symm
 obtain ⟨zb, hzb⟩ : ∃ z, z = X[bn] := ⟨_, rfl⟩
 have HZb := hide hzb
 have h40b : (bn : Int) < 40 := by have := hr.l; omega
 have ezb : X[bn] = zb := hzb.symm
 clear hzr ezr hza eza hzb ezb
 have i0 := hi.1
 have i1 := hi.2.1
 have i2 := hi.2.2.1
 have i3 := hi.2.2.2.1
 have i4 := hi.2.2.2.2.1
 have i5 := hi.2.2.2.2.2
 have yB := hi.lt
 have yr := hr.lt
 have yc := hm.lt
 have c1 := hr.c1
 have xr := hr.at hrn
 rw [← HZr.out] at xr
 have xa := hr.at han
 rw [← HZa.out] at xa
 have xb := hr.at hbn
 rw [← HZb.out] at xb
 have hz0 : zr ≠ 0 := by rw [HZr.out]; exact hz
 have hzb : (zr == 0) = false := by simpa using hz0
 go_enter Tryd.func56, Tryd.ntmps56
 go_upto_region 1 with fail
 refine wp_region_late (fun w' => Below w.heap.size w w') (fun _ => false) (by kernel_rfl) ?_
 have hH0 : Below w.heap.size w w.drew := (Below.refl _ _).drew
 generalize w.drew = wd0 at hH0 ⊢
 refine' wpAnyL_take (i := 0) (oi := ⟨some 5, _, _, _, _, _⟩) (v := _) rfl (by kernel_rfl) (by kernel_rfl) (by kernel_rfl) (by kernel_rfl) (fun _ _ _ h => h) hH0 (by rfl) ?hyv ?o21
 case hyv =>
  intro wz hSw
  go_simp
  try rfl
 try simp only [Act.put, sT, sZ, sS]
 refine' wpAnyL_take (i := 1) (oi := ⟨some 6, _, _, _, _, _⟩) (v := _) rfl (by kernel_rfl) (by kernel_rfl) (by kernel_rfl) (by kernel_rfl) (fun _ _ _ h => h) hH0 (by rfl) ?hyv ?o22
 case hyv =>
  intro wz hSw
  go_simp
  try rfl
 try simp only [Act.put, sT, sZ, sS]
 refine' wpAnyL_take (i := 2) (oi := ⟨some 7, _, _, _, _, _⟩) (v := _) rfl (by kernel_rfl) (by kernel_rfl) (by kernel_rfl) (by kernel_rfl) (fun _ _ _ h => h) hH0 (by rfl) ?hyv ?o23
 case hyv =>
  intro wz hSw
  go_simp
  try rfl
 try simp only [Act.put, sT, sZ, sS]
 refine' wpAnyL_take (i := 3) (oi := ⟨some 8, _, _, _, _, _⟩) (v := _) rfl (by kernel_rfl) (by kernel_rfl) (by kernel_rfl) (by kernel_rfl) (fun _ _ _ h => h) hH0 (by rfl) ?hyv ?o24
 case hyv =>
  intro wz hSw
  go_simp
  try rfl
 try simp only [Act.put, sT, sZ, sS]
 refine' wpAnyL_take (i := 4) (oi := ⟨some 9, _, _, _, _, _⟩) (v := _) rfl (by kernel_rfl) (by kernel_rfl) (by kernel_rfl) (by kernel_rfl) (fun _ _ _ h => h) hH0 (by rfl) ?hyv ?o25
 case hyv =>
  intro wz hSw
  have zc0 := (hSw.cell (p := ⟨bi, o, none⟩) yB).trans i0
  have zc1 := (hSw.cell (p := ⟨bi, o + 1, none⟩) yB).trans i1
  have zc2 := (hSw.cell (p := ⟨bi, o + 2, none⟩) yB).trans i2
  have zc3 := (hSw.cell (p := ⟨bi, o + 3, none⟩) yB).trans i3
  have zc4 := (hSw.cell (p := ⟨bi, o + 4, none⟩) yB).trans i4
  have zc5 := (hSw.cell (p := ⟨bi, o + 5, none⟩) yB).trans i5
  have zc6 := (hSw.cell (p := ⟨rb, 1, none⟩) yr).trans c1
  have zc7 := (hSw.cell (p := ⟨rb, 2 + rn, none⟩) yr).trans xr
  have zc8 := (hSw.cell (p := ⟨rb, 2 + an, none⟩) yr).trans xa
  have zc9 := (hSw.cell (p := ⟨rb, 2 + bn, none⟩) yr).trans xb
  go_simp
  try rfl
 try simp only [Act.put, sT, sZ, sS]
 refine' wpAnyL_take (i := 5) (oi := ⟨some 10, _, _, _, _, _⟩) (v := _) rfl (by kernel_rfl) (by kernel_rfl) (by kernel_rfl) (by kernel_rfl) (fun _ _ _ h => h) hH0 (by rfl) ?hyv ?o26
 case hyv =>
  intro wz hSw
  go_simp
  try rfl
 try simp only [Act.put, sT, sZ, sS]
 refine' wpAnyL_take (i := 6) (oi := ⟨some 11, _, _, _, _, _⟩) (v := _) rfl (by kernel_rfl) (by kernel_rfl) (by kernel_rfl) (by kernel_rfl) (fun _ _ _ h => h) hH0 (by rfl) ?hyv ?o27
 case hyv =>
  intro wz hSw
  go_simp
  try rfl
 try simp only [Act.put, sT, sZ, sS]
 refine' wpAnyL_take (i := 7) (oi := ⟨some 12, _, _, _, _, _⟩) (v := _) rfl (by kernel_rfl) (by kernel_rfl) (by kernel_rfl) (by kernel_rfl) (fun _ _ _ h => h) hH0 (by rfl) ?hyv ?o28
 case hyv =>
  intro wz hSw
  go_simp
  try rfl
 try simp only [Act.put, sT, sZ, sS]
 refine' wpAnyL_take (i := 8) (oi := ⟨some 13, _, _, _, _, _⟩) (v := _) rfl (by kernel_rfl) (by kernel_rfl) (by kernel_rfl) (by kernel_rfl) (fun _ _ _ h => h) hH0 (by rfl) ?hyv ?o29
 case hyv =>
  intro wz hSw
  have zc0 := (hSw.cell (p := ⟨bi, o, none⟩) yB).trans i0
  have zc1 := (hSw.cell (p := ⟨bi, o + 1, none⟩) yB).trans i1
  have zc2 := (hSw.cell (p := ⟨bi, o + 2, none⟩) yB).trans i2
  have zc3 := (hSw.cell (p := ⟨bi, o + 3, none⟩) yB).trans i3
  have zc4 := (hSw.cell (p := ⟨bi, o + 4, none⟩) yB).trans i4
  have zc5 := (hSw.cell (p := ⟨bi, o + 5, none⟩) yB).trans i5
  have zc6 := (hSw.cell (p := ⟨rb, 1, none⟩) yr).trans c1
  have zc7 := (hSw.cell (p := ⟨rb, 2 + rn, none⟩) yr).trans xr
  have zc8 := (hSw.cell (p := ⟨rb, 2 + an, none⟩) yr).trans xa
  have zc9 := (hSw.cell (p := ⟨rb, 2 + bn, none⟩) yr).trans xb
  go_simp
  try rfl
 try simp only [Act.put, sT, sZ, sS]
 refine' wpAnyL_take (i := 9) (oi := ⟨some 14, _, _, _, _, _⟩) (v := _) rfl (by kernel_rfl) (by kernel_rfl) (by kernel_rfl) (by kernel_rfl) (fun _ _ _ h => h) hH0 (by rfl) ?hyv ?o30
 case hyv =>
  intro wz hSw
  go_simp
  try rfl
 try simp only [Act.put, sT, sZ, sS]
 refine wpAnyL_done (by kernel_rfl) ?_ _
 obtain ⟨b1⟩ : Nonempty (Below w.heap.size w wd0) := ⟨hH0⟩
 have hr2 := hr.under hH0
 have hm2 := hm.under hH0
 have hi2 := hi.keep (hH0.block _ hi.lt)
 have i02 := hi2.1
 have i12 := hi2.2.1
 have i22 := hi2.2.2.1
 have i32 := hi2.2.2.2.1
 have i42 := hi2.2.2.2.2.1
 have i52 := hi2.2.2.2.2.2
 have yB2 := hi2.lt
 have yr2 := hr2.lt
 have yc2 := hm2.lt
 have c12 := hr2.c1
 have xr2 := hr2.at hrn
 rw [← HZr.out] at xr2
 have xa2 := hr2.at han
 rw [← HZa.out] at xa2
 go_upto_region 2 with fail
 refine wp_region_late (fun w' => Below wd0.heap.size wd0 w') (fun _ => false) (by kernel_rfl) ?_
 have hH0 : Below wd0.heap.size wd0 wd0.drew := (Below.refl _ _).drew
 generalize wd0.drew = wd0 at hH0 ⊢
 refine' wpAnyL_take (i := 0) (oi := ⟨some 15, _, _, _, _, _⟩) (v := _) rfl (by kernel_rfl) (by kernel_rfl) (by kernel_rfl) (by kernel_rfl) (fun _ _ _ h => h) hH0 (by rfl) ?hyv ?o31
 case hyv =>
  intro wz hSw
  go_simp
  try rfl
 try simp only [Act.put, sT, sZ, sS]
 refine' wpAnyL_take (i := 1) (oi := ⟨some 16, _, _, _, _, _⟩) (v := _) rfl (by kernel_rfl) (by kernel_rfl) (by kernel_rfl) (by kernel_rfl) (fun _ _ _ h => h) hH0 (by rfl) ?hyv ?o32
 case hyv =>
  intro wz hSw
  go_simp
  try rfl
 try simp only [Act.put, sT, sZ, sS]
 refine' wpAnyL_take (i := 2) (oi := ⟨some 17, _, _, _, _, _⟩) (v := _) rfl (by kernel_rfl) (by kernel_rfl) (by kernel_rfl) (by kernel_rfl) (fun _ _ _ h => h) hH0 (by rfl) ?hyv ?o33
 case hyv =>
  intro wz hSw
  go_simp
  try rfl
 try simp only [Act.put, sT, sZ, sS]
 refine' wpAnyL_take (i := 3) (oi := ⟨some 18, _, _, _, _, _⟩) (v := _) rfl (by kernel_rfl) (by kernel_rfl) (by kernel_rfl) (by kernel_rfl) (fun _ _ _ h => h) hH0 (by rfl) ?hyv ?o34
 case hyv =>
  intro wz hSw
  go_simp
  try rfl
 try simp only [Act.put, sT, sZ, sS]
 refine' wpAnyL_take (i := 4) (oi := ⟨some 19, _, _, _, _, _⟩) (v := _) rfl (by kernel_rfl) (by kernel_rfl) (by kernel_rfl) (by kernel_rfl) (fun _ _ _ h => h) hH0 (by rfl) ?hyv ?o35
 case hyv =>
  intro wz hSw
  have zc0 := (hSw.cell (p := ⟨bi, o, none⟩) yB2).trans i02
  have zc1 := (hSw.cell (p := ⟨bi, o + 1, none⟩) yB2).trans i12
  have zc2 := (hSw.cell (p := ⟨bi, o + 2, none⟩) yB2).trans i22
  have zc3 := (hSw.cell (p := ⟨bi, o + 3, none⟩) yB2).trans i32
  have zc4 := (hSw.cell (p := ⟨bi, o + 4, none⟩) yB2).trans i42
  have zc5 := (hSw.cell (p := ⟨bi, o + 5, none⟩) yB2).trans i52
  have zc6 := (hSw.cell (p := ⟨rb, 1, none⟩) yr2).trans c12
  have zc7 := (hSw.cell (p := ⟨rb, 2 + rn, none⟩) yr2).trans xr2
  have zc8 := (hSw.cell (p := ⟨rb, 2 + an, none⟩) yr2).trans xa2
  go_simp
  try rfl
 try simp only [Act.put, sT, sZ, sS]
 refine' wpAnyL_take (i := 5) (oi := ⟨some 20, _, _, _, _, _⟩) (v := _) rfl (by kernel_rfl) (by kernel_rfl) (by kernel_rfl) (by kernel_rfl) (fun _ _ _ h => h) hH0 (by rfl) ?hyv ?o36
 case hyv =>
  intro wz hSw
  go_simp
  try rfl
 try simp only [Act.put, sT, sZ, sS]
 refine' wpAnyL_take (i := 6) (oi := ⟨some 21, _, _, _, _, _⟩) (v := _) rfl (by kernel_rfl) (by kernel_rfl) (by kernel_rfl) (by kernel_rfl) (fun _ _ _ h => h) hH0 (by rfl) ?hyv ?o37
 case hyv =>
  intro wz hSw
  go_simp
  try rfl
 try simp only [Act.put, sT, sZ, sS]
 refine' wpAnyL_take (i := 7) (oi := ⟨some 22, _, _, _, _, _⟩) (v := _) rfl (by kernel_rfl) (by kernel_rfl) (by kernel_rfl) (by kernel_rfl) (fun _ _ _ h => h) hH0 (by rfl) ?hyv ?o38
 case hyv =>
  intro wz hSw
  go_simp
  try rfl
 try simp only [Act.put, sT, sZ, sS]
 refine' wpAnyL_take (i := 8) (oi := ⟨some 23, _, _, _, _, _⟩) (v := _) rfl (by kernel_rfl) (by kernel_rfl) (by kernel_rfl) (by kernel_rfl) (fun _ _ _ h => h) hH0 (by rfl) ?hyv ?o39
 case hyv =>
  intro wz hSw
  have zc0 := (hSw.cell (p := ⟨bi, o, none⟩) yB2).trans i02
  have zc1 := (hSw.cell (p := ⟨bi, o + 1, none⟩) yB2).trans i12
  have zc2 := (hSw.cell (p := ⟨bi, o + 2, none⟩) yB2).trans i22
  have zc3 := (hSw.cell (p := ⟨bi, o + 3, none⟩) yB2).trans i32
  have zc4 := (hSw.cell (p := ⟨bi, o + 4, none⟩) yB2).trans i42
  have zc5 := (hSw.cell (p := ⟨bi, o + 5, none⟩) yB2).trans i52
  have zc6 := (hSw.cell (p := ⟨rb, 1, none⟩) yr2).trans c12
  have zc7 := (hSw.cell (p := ⟨rb, 2 + rn, none⟩) yr2).trans xr2
  have zc8 := (hSw.cell (p := ⟨rb, 2 + an, none⟩) yr2).trans xa2
  go_simp
  try rfl
 try simp only [Act.put, sT, sZ, sS]
 refine' wpAnyL_take (i := 9) (oi := ⟨some 4, _, _, _, _, _⟩) (v := _) rfl (by kernel_rfl) (by kernel_rfl) (by kernel_rfl) (by kernel_rfl) (fun _ _ _ h => h) hH0 (by rfl) ?hyv ?o40
 case hyv =>
  intro wz hSw
  go_simp
  try rfl
 try simp only [Act.put, sT, sZ, sS]
 refine wpAnyL_done (by kernel_rfl) ?_ _
 go_wp2
 go_ret
 exact ⟨(by rw [HZa.out]; rfl), b1.trans (hH0.mono b1.size)⟩
set_option maxHeartbeats 8000000 in
theorem do8a {w : World} {rb cb nc cc bi o : Nat} {u0 : Value} {X M : List Int} {pc dn lp tu : Int} (hr : RB w rb u0 (.slice (some ⟨cb, 0, none⟩) nc cc) X pc dn lp tu) (hm : LX w cb M) (hnc : nc ≤ M.length) (hM : nc ≤ 6000) (n1 : rb ≠ cb) (rn : Nat) (hrn : rn < X.length) (an : Nat) (han : an < X.length) (bn : Nat) (hbn : bn < X.length) {kk nn : Int} (hz : X[rn] = 0) (hi : InAt w bi o ⟨8, kk, (rn : Int), (an : Int), (bn : Int), nn⟩) : Calls Tryd.prog 42 #[.pointer (some ⟨rb, 0, none⟩), .pointer (some ⟨bi, o, none⟩)] w (DoP w rb cb u0 (.slice (some ⟨cb, 0, none⟩) nc cc) (X.set rn X[bn]) (M) pc dn lp tu true) := by
 obtain ⟨zr, hzr⟩ : ∃ z, z = X[rn] := ⟨_, rfl⟩
 have HZr := hide hzr
 have h40r : (rn : Int) < 40 := by have := hr.l; omega
 have ezr : X[rn] = zr := hzr.symm
 obtain ⟨za, hza⟩ : ∃ z, z = X[an] := ⟨_, rfl⟩
 have HZa := hide hza
 have h40a : (an : Int) < 40 := by have := hr.l; omega
 have eza : X[an] = za := hza.symm
 obtain ⟨zb, hzb⟩ : ∃ z, z = X[bn] := ⟨_, rfl⟩
 have HZb := hide hzb
 have h40b : (bn : Int) < 40 := by have := hr.l; omega
 have ezb : X[bn] = zb := hzb.symm
 obtain ⟨XX, hXX⟩ : ∃ z, z = (X.set rn X[bn]) := ⟨_, rfl⟩
 obtain ⟨MM, hMM⟩ : ∃ z, z = (M) := ⟨_, rfl⟩
 suffices hh : Calls Tryd.prog 42 #[.pointer (some ⟨rb, 0, none⟩), .pointer (some ⟨bi, o, none⟩)] w (DoP w rb cb u0 (.slice (some ⟨cb, 0, none⟩) nc cc) XX MM pc dn lp tu true) by
  rw [hXX, hMM] at hh
  exact hh
 try simp only [ezr, eza, ezb] at hXX hMM
 have HXX := hide hXX
 have HMM := hide hMM
 clear hXX hMM
 clear hzr ezr hza eza hzb ezb
 have i0 := hi.1
 have i1 := hi.2.1
 have i2 := hi.2.2.1
 have i3 := hi.2.2.2.1
 have i4 := hi.2.2.2.2.1
 have i5 := hi.2.2.2.2.2
 have yB := hi.lt
 have yr := hr.lt
 have yc := hm.lt
 have c1 := hr.c1
 have xr := hr.at hrn
 rw [← HZr.out] at xr
 have xa := hr.at han
 rw [← HZa.out] at xa
 have xb := hr.at hbn
 rw [← HZb.out] at xb
 have hCh := hide (fun W (bb : Below w.heap.size w W) => chosena (hr.under bb) (hm.under bb) hnc hM n1 rn hrn an han bn hbn hz (hi.keep (bb.block _ hi.lt)))
 simp only [← HZb.out] at hCh
 go_enter Tryd.func42, Tryd.ntmps42
 go_upto_region 17 with fail
 refine wp_region_late (fun w' => Below w.heap.size w w') (fun i => i == 10) (by kernel_rfl) ?_
 have hH0 : Below w.heap.size w w.drew := (Below.refl _ _).drew
 generalize w.drew = wd0 at hH0 ⊢
 refine' wpAnyL_take (i := 0) (oi := ⟨some 124, _, _, _, _, _⟩) (v := _) rfl (by kernel_rfl) (by kernel_rfl) (by kernel_rfl) (by kernel_rfl) (fun _ _ _ h => h) hH0 (by rfl) ?hyv ?o41
 case hyv =>
  intro wz hSw
  go_simp
  try rfl
 try simp only [Act.put, sT, sZ, sS]
 refine' wpAnyL_take (i := 1) (oi := ⟨some 125, _, _, _, _, _⟩) (v := _) rfl (by kernel_rfl) (by kernel_rfl) (by kernel_rfl) (by kernel_rfl) (fun _ _ _ h => h) hH0 (by rfl) ?hyv ?o42
 case hyv =>
  intro wz hSw
  go_simp
  try rfl
 try simp only [Act.put, sT, sZ, sS]
 refine' wpAnyL_take (i := 2) (oi := ⟨some 126, _, _, _, _, _⟩) (v := _) rfl (by kernel_rfl) (by kernel_rfl) (by kernel_rfl) (by kernel_rfl) (fun _ _ _ h => h) hH0 (by rfl) ?hyv ?o43
 case hyv =>
  intro wz hSw
  go_simp
  try rfl
 try simp only [Act.put, sT, sZ, sS]
 refine' wpAnyL_take (i := 3) (oi := ⟨some 127, _, _, _, _, _⟩) (v := _) rfl (by kernel_rfl) (by kernel_rfl) (by kernel_rfl) (by kernel_rfl) (fun _ _ _ h => h) hH0 (by rfl) ?hyv ?o44
 case hyv =>
  intro wz hSw
  go_simp
  try rfl
 try simp only [Act.put, sT, sZ, sS]
 refine' wpAnyL_take (i := 4) (oi := ⟨some 128, _, _, _, _, _⟩) (v := _) rfl (by kernel_rfl) (by kernel_rfl) (by kernel_rfl) (by kernel_rfl) (fun _ _ _ h => h) hH0 (by rfl) ?hyv ?o45
 case hyv =>
  intro wz hSw
  have zc0 := (hSw.cell (p := ⟨bi, o, none⟩) yB).trans i0
  have zc1 := (hSw.cell (p := ⟨bi, o + 1, none⟩) yB).trans i1
  have zc2 := (hSw.cell (p := ⟨bi, o + 2, none⟩) yB).trans i2
  have zc3 := (hSw.cell (p := ⟨bi, o + 3, none⟩) yB).trans i3
  have zc4 := (hSw.cell (p := ⟨bi, o + 4, none⟩) yB).trans i4
  have zc5 := (hSw.cell (p := ⟨bi, o + 5, none⟩) yB).trans i5
  have zc6 := (hSw.cell (p := ⟨rb, 1, none⟩) yr).trans c1
  have zc7 := (hSw.cell (p := ⟨rb, 2 + rn, none⟩) yr).trans xr
  have zc8 := (hSw.cell (p := ⟨rb, 2 + an, none⟩) yr).trans xa
  have zc9 := (hSw.cell (p := ⟨rb, 2 + bn, none⟩) yr).trans xb
  go_simp
  try rfl
 try simp only [Act.put, sT, sZ, sS]
 refine' wpAnyL_take (i := 5) (oi := ⟨some 129, _, _, _, _, _⟩) (v := _) rfl (by kernel_rfl) (by kernel_rfl) (by kernel_rfl) (by kernel_rfl) (fun _ _ _ h => h) hH0 (by rfl) ?hyv ?o46
 case hyv =>
  intro wz hSw
  go_simp
  try rfl
 try simp only [Act.put, sT, sZ, sS]
 refine' wpAnyL_take (i := 6) (oi := ⟨some 130, _, _, _, _, _⟩) (v := _) rfl (by kernel_rfl) (by kernel_rfl) (by kernel_rfl) (by kernel_rfl) (fun _ _ _ h => h) hH0 (by rfl) ?hyv ?o47
 case hyv =>
  intro wz hSw
  go_simp
  try rfl
 try simp only [Act.put, sT, sZ, sS]
 refine wpAnyL_two (i := 7) (j := 8) rfl rfl (by kernel_rfl) (by rfl) (by rfl) (fun K hK => ?_) (fun K hK => ?_)
 case _ =>
  go_simp
  refine (hCh.out wd0 hH0).mono ?_
  rintro eq wd1 ⟨rfl, bq1⟩
  have hH1 : Below w.heap.size w wd1 := hH0.trans (bq1.mono hH0.size)
  refine hK.out _ _ (fun _ => hH1) ?_
  clear hK K
  try simp only [Act.put, sT, sZ, sS]
  refine wpAnyL_one (i := 8) (o := _) rfl (by kernel_rfl) (by rfl) (fun K hK => ?_)
  go_simp
  refine hK.out _ _ (fun _ => hH1) ?_
  clear hK K
  try simp only [Act.put, sT, sZ, sS]
  have hH2 := hH1
  rename World => wd2
  refine' wpAnyL_take (i := 9) (oi := ⟨some 133, _, _, _, _, _⟩) (v := _) rfl (by kernel_rfl) (by kernel_rfl) (by kernel_rfl) (by kernel_rfl) (fun _ _ _ h => h) hH2 (by rfl) ?hyv ?o48
  case hyv =>
   intro wz hSw
   go_simp
   try rfl
  try simp only [Act.put, sT, sZ, sS]
  refine wpAnyL_one (i := 10) (o := _) rfl (by kernel_rfl) (by rfl) (fun K hK => ?_)
  have kX := hr.under hH2
  have fr := kX.free (2 + rn)
  have st0 := kX.at hrn
  go_simp
  have hq : Aside [rb, cb] wd2.heap.size wd2 (wd2.setCell ⟨rb, 2 + rn, none⟩ (.int .i64 zb)) := Aside.setCell (by simp) _
  have hA3 : Aside [rb, cb] w.heap.size w (wd2.setCell ⟨rb, 2 + rn, none⟩ (.int .i64 zb)) := (aside hH2).trans hq hH2.size
  have kE := kX.setR hrn zb
  have kM := (hm.under hH2).keep (w' := wd2.setCell ⟨rb, 2 + rn, none⟩ (.int .i64 zb)) (heap_set_other wd2 ⟨rb, 2 + rn, none⟩ _ (by show rb ≠ cb; exact n1))
  refine hK.out _ _ (fun h => absurd h (by decide)) ?_
  clear hK K kX fr st0 hq
  try simp only [Act.put, sT, sZ, sS]
  generalize wd2.setCell ⟨rb, 2 + rn, none⟩ (.int .i64 zb) = wd3 at hA3 kE kM ⊢
  have hH3 := hA3
  refine wpAnyL_done (by kernel_rfl) ?_ _
  rw [← HXX.out] at kE
  rw [← HMM.out] at kM
  go_wp2
  go_ret
  exact ⟨rfl, kE, kM, hH3⟩
 case _ =>
  go_simp
  refine hK.out _ _ (fun _ => hH0) ?_
  clear hK K
  try simp only [Act.put, sT, sZ, sS]
  have hH1 := hH0
  rename World => wd1
  refine wpAnyL_one (i := 7) (o := _) rfl (by kernel_rfl) (by rfl) (fun K hK => ?_)
  go_simp
  refine (hCh.out wd1 hH1).mono ?_
  rintro eq wd2 ⟨rfl, bq2⟩
  have hH2 : Below w.heap.size w wd2 := hH1.trans (bq2.mono hH1.size)
  refine hK.out _ _ (fun _ => hH2) ?_
  clear hK K
  try simp only [Act.put, sT, sZ, sS]
  refine' wpAnyL_take (i := 9) (oi := ⟨some 133, _, _, _, _, _⟩) (v := _) rfl (by kernel_rfl) (by kernel_rfl) (by kernel_rfl) (by kernel_rfl) (fun _ _ _ h => h) hH2 (by rfl) ?hyv ?o49
  case hyv =>
   intro wz hSw
   go_simp
   try rfl
  try simp only [Act.put, sT, sZ, sS]
  refine wpAnyL_one (i := 10) (o := _) rfl (by kernel_rfl) (by rfl) (fun K hK => ?_)
  have kX := hr.under hH2
  have fr := kX.free (2 + rn)
  have st0 := kX.at hrn
  go_simp
  have hq : Aside [rb, cb] wd2.heap.size wd2 (wd2.setCell ⟨rb, 2 + rn, none⟩ (.int .i64 zb)) := Aside.setCell (by simp) _
  have hA3 : Aside [rb, cb] w.heap.size w (wd2.setCell ⟨rb, 2 + rn, none⟩ (.int .i64 zb)) := (aside hH2).trans hq hH2.size
  have kE := kX.setR hrn zb
  have kM := (hm.under hH2).keep (w' := wd2.setCell ⟨rb, 2 + rn, none⟩ (.int .i64 zb)) (heap_set_other wd2 ⟨rb, 2 + rn, none⟩ _ (by show rb ≠ cb; exact n1))
  refine hK.out _ _ (fun h => absurd h (by decide)) ?_
  clear hK K kX fr st0 hq
  try simp only [Act.put, sT, sZ, sS]
  generalize wd2.setCell ⟨rb, 2 + rn, none⟩ (.int .i64 zb) = wd3 at hA3 kE kM ⊢
  have hH3 := hA3
  refine wpAnyL_done (by kernel_rfl) ?_ _
  rw [← HXX.out] at kE
  rw [← HMM.out] at kM
  go_wp2
  go_ret
  exact ⟨rfl, kE, kM, hH3⟩
set_option maxHeartbeats 8000000 in
theorem do8b {w : World} {rb cb nc cc bi o : Nat} {u0 : Value} {X M : List Int} {pc dn lp tu : Int} (hr : RB w rb u0 (.slice (some ⟨cb, 0, none⟩) nc cc) X pc dn lp tu) (hm : LX w cb M) (hnc : nc ≤ M.length) (hM : nc ≤ 6000) (n1 : rb ≠ cb) (rn : Nat) (hrn : rn < X.length) (an : Nat) (han : an < X.length) (bn : Nat) (hbn : bn < X.length) {kk nn : Int} (hz : X[rn] ≠ 0) (hi : InAt w bi o ⟨8, kk, (rn : Int), (an : Int), (bn : Int), nn⟩) : Calls Tryd.prog 42 #[.pointer (some ⟨rb, 0, none⟩), .pointer (some ⟨bi, o, none⟩)] w (DoP w rb cb u0 (.slice (some ⟨cb, 0, none⟩) nc cc) (X.set rn X[an]) (M) pc dn lp tu true) := by
 obtain ⟨zr, hzr⟩ : ∃ z, z = X[rn] := ⟨_, rfl⟩
 have HZr := hide hzr
 have h40r : (rn : Int) < 40 := by have := hr.l; omega
 have ezr : X[rn] = zr := hzr.symm
 obtain ⟨za, hza⟩ : ∃ z, z = X[an] := ⟨_, rfl⟩
 have HZa := hide hza
 have h40a : (an : Int) < 40 := by have := hr.l; omega
 have eza : X[an] = za := hza.symm
 obtain ⟨zb, hzb⟩ : ∃ z, z = X[bn] := ⟨_, rfl⟩
 have HZb := hide hzb
 have h40b : (bn : Int) < 40 := by have := hr.l; omega
 have ezb : X[bn] = zb := hzb.symm
 obtain ⟨XX, hXX⟩ : ∃ z, z = (X.set rn X[an]) := ⟨_, rfl⟩
 obtain ⟨MM, hMM⟩ : ∃ z, z = (M) := ⟨_, rfl⟩
 suffices hh : Calls Tryd.prog 42 #[.pointer (some ⟨rb, 0, none⟩), .pointer (some ⟨bi, o, none⟩)] w (DoP w rb cb u0 (.slice (some ⟨cb, 0, none⟩) nc cc) XX MM pc dn lp tu true) by
  rw [hXX, hMM] at hh
  exact hh
 try simp only [ezr, eza, ezb] at hXX hMM
 have HXX := hide hXX
 have HMM := hide hMM
 clear hXX hMM
 clear hzr ezr hza eza hzb ezb
 have i0 := hi.1
 have i1 := hi.2.1
 have i2 := hi.2.2.1
 have i3 := hi.2.2.2.1
 have i4 := hi.2.2.2.2.1
 have i5 := hi.2.2.2.2.2
 have yB := hi.lt
 have yr := hr.lt
 have yc := hm.lt
 have c1 := hr.c1
 have xr := hr.at hrn
 rw [← HZr.out] at xr
 have xa := hr.at han
 rw [← HZa.out] at xa
 have xb := hr.at hbn
 rw [← HZb.out] at xb
 have hCh := hide (fun W (bb : Below w.heap.size w W) => chosenb (hr.under bb) (hm.under bb) hnc hM n1 rn hrn an han bn hbn hz (hi.keep (bb.block _ hi.lt)))
 simp only [← HZa.out] at hCh
 go_enter Tryd.func42, Tryd.ntmps42
 go_upto_region 17 with fail
 refine wp_region_late (fun w' => Below w.heap.size w w') (fun i => i == 10) (by kernel_rfl) ?_
 have hH0 : Below w.heap.size w w.drew := (Below.refl _ _).drew
 generalize w.drew = wd0 at hH0 ⊢
 refine' wpAnyL_take (i := 0) (oi := ⟨some 124, _, _, _, _, _⟩) (v := _) rfl (by kernel_rfl) (by kernel_rfl) (by kernel_rfl) (by kernel_rfl) (fun _ _ _ h => h) hH0 (by rfl) ?hyv ?o50
 case hyv =>
  intro wz hSw
  go_simp
  try rfl
 try simp only [Act.put, sT, sZ, sS]
 refine' wpAnyL_take (i := 1) (oi := ⟨some 125, _, _, _, _, _⟩) (v := _) rfl (by kernel_rfl) (by kernel_rfl) (by kernel_rfl) (by kernel_rfl) (fun _ _ _ h => h) hH0 (by rfl) ?hyv ?o51
 case hyv =>
  intro wz hSw
  go_simp
  try rfl
 try simp only [Act.put, sT, sZ, sS]
 refine' wpAnyL_take (i := 2) (oi := ⟨some 126, _, _, _, _, _⟩) (v := _) rfl (by kernel_rfl) (by kernel_rfl) (by kernel_rfl) (by kernel_rfl) (fun _ _ _ h => h) hH0 (by rfl) ?hyv ?o52
 case hyv =>
  intro wz hSw
  go_simp
  try rfl
 try simp only [Act.put, sT, sZ, sS]
 refine' wpAnyL_take (i := 3) (oi := ⟨some 127, _, _, _, _, _⟩) (v := _) rfl (by kernel_rfl) (by kernel_rfl) (by kernel_rfl) (by kernel_rfl) (fun _ _ _ h => h) hH0 (by rfl) ?hyv ?o53
 case hyv =>
  intro wz hSw
  go_simp
  try rfl
 try simp only [Act.put, sT, sZ, sS]
 refine' wpAnyL_take (i := 4) (oi := ⟨some 128, _, _, _, _, _⟩) (v := _) rfl (by kernel_rfl) (by kernel_rfl) (by kernel_rfl) (by kernel_rfl) (fun _ _ _ h => h) hH0 (by rfl) ?hyv ?o54
 case hyv =>
  intro wz hSw
  have zc0 := (hSw.cell (p := ⟨bi, o, none⟩) yB).trans i0
  have zc1 := (hSw.cell (p := ⟨bi, o + 1, none⟩) yB).trans i1
  have zc2 := (hSw.cell (p := ⟨bi, o + 2, none⟩) yB).trans i2
  have zc3 := (hSw.cell (p := ⟨bi, o + 3, none⟩) yB).trans i3
  have zc4 := (hSw.cell (p := ⟨bi, o + 4, none⟩) yB).trans i4
  have zc5 := (hSw.cell (p := ⟨bi, o + 5, none⟩) yB).trans i5
  have zc6 := (hSw.cell (p := ⟨rb, 1, none⟩) yr).trans c1
  have zc7 := (hSw.cell (p := ⟨rb, 2 + rn, none⟩) yr).trans xr
  have zc8 := (hSw.cell (p := ⟨rb, 2 + an, none⟩) yr).trans xa
  have zc9 := (hSw.cell (p := ⟨rb, 2 + bn, none⟩) yr).trans xb
  go_simp
  try rfl
 try simp only [Act.put, sT, sZ, sS]
 refine' wpAnyL_take (i := 5) (oi := ⟨some 129, _, _, _, _, _⟩) (v := _) rfl (by kernel_rfl) (by kernel_rfl) (by kernel_rfl) (by kernel_rfl) (fun _ _ _ h => h) hH0 (by rfl) ?hyv ?o55
 case hyv =>
  intro wz hSw
  go_simp
  try rfl
 try simp only [Act.put, sT, sZ, sS]
 refine' wpAnyL_take (i := 6) (oi := ⟨some 130, _, _, _, _, _⟩) (v := _) rfl (by kernel_rfl) (by kernel_rfl) (by kernel_rfl) (by kernel_rfl) (fun _ _ _ h => h) hH0 (by rfl) ?hyv ?o56
 case hyv =>
  intro wz hSw
  go_simp
  try rfl
 try simp only [Act.put, sT, sZ, sS]
 refine wpAnyL_two (i := 7) (j := 8) rfl rfl (by kernel_rfl) (by rfl) (by rfl) (fun K hK => ?_) (fun K hK => ?_)
 case _ =>
  go_simp
  refine (hCh.out wd0 hH0).mono ?_
  rintro eq wd1 ⟨rfl, bq1⟩
  have hH1 : Below w.heap.size w wd1 := hH0.trans (bq1.mono hH0.size)
  refine hK.out _ _ (fun _ => hH1) ?_
  clear hK K
  try simp only [Act.put, sT, sZ, sS]
  refine wpAnyL_one (i := 8) (o := _) rfl (by kernel_rfl) (by rfl) (fun K hK => ?_)
  go_simp
  refine hK.out _ _ (fun _ => hH1) ?_
  clear hK K
  try simp only [Act.put, sT, sZ, sS]
  have hH2 := hH1
  rename World => wd2
  refine' wpAnyL_take (i := 9) (oi := ⟨some 133, _, _, _, _, _⟩) (v := _) rfl (by kernel_rfl) (by kernel_rfl) (by kernel_rfl) (by kernel_rfl) (fun _ _ _ h => h) hH2 (by rfl) ?hyv ?o57
  case hyv =>
   intro wz hSw
   go_simp
   try rfl
  try simp only [Act.put, sT, sZ, sS]
  refine wpAnyL_one (i := 10) (o := _) rfl (by kernel_rfl) (by rfl) (fun K hK => ?_)
  have kX := hr.under hH2
  have fr := kX.free (2 + rn)
  have st0 := kX.at hrn
  go_simp
  have hq : Aside [rb, cb] wd2.heap.size wd2 (wd2.setCell ⟨rb, 2 + rn, none⟩ (.int .i64 za)) := Aside.setCell (by simp) _
  have hA3 : Aside [rb, cb] w.heap.size w (wd2.setCell ⟨rb, 2 + rn, none⟩ (.int .i64 za)) := (aside hH2).trans hq hH2.size
  have kE := kX.setR hrn za
  have kM := (hm.under hH2).keep (w' := wd2.setCell ⟨rb, 2 + rn, none⟩ (.int .i64 za)) (heap_set_other wd2 ⟨rb, 2 + rn, none⟩ _ (by show rb ≠ cb; exact n1))
  refine hK.out _ _ (fun h => absurd h (by decide)) ?_
  clear hK K kX fr st0 hq
  try simp only [Act.put, sT, sZ, sS]
  generalize wd2.setCell ⟨rb, 2 + rn, none⟩ (.int .i64 za) = wd3 at hA3 kE kM ⊢
  have hH3 := hA3
  refine wpAnyL_done (by kernel_rfl) ?_ _
  rw [← HXX.out] at kE
  rw [← HMM.out] at kM
  go_wp2
  go_ret
  exact ⟨rfl, kE, kM, hH3⟩
 case _ =>
  go_simp
  refine hK.out _ _ (fun _ => hH0) ?_
  clear hK K
  try simp only [Act.put, sT, sZ, sS]
  have hH1 := hH0
  rename World => wd1
  refine wpAnyL_one (i := 7) (o := _) rfl (by kernel_rfl) (by rfl) (fun K hK => ?_)
  go_simp
  refine (hCh.out wd1 hH1).mono ?_
  rintro eq wd2 ⟨rfl, bq2⟩
  have hH2 : Below w.heap.size w wd2 := hH1.trans (bq2.mono hH1.size)
  refine hK.out _ _ (fun _ => hH2) ?_
  clear hK K
  try simp only [Act.put, sT, sZ, sS]
  refine' wpAnyL_take (i := 9) (oi := ⟨some 133, _, _, _, _, _⟩) (v := _) rfl (by kernel_rfl) (by kernel_rfl) (by kernel_rfl) (by kernel_rfl) (fun _ _ _ h => h) hH2 (by rfl) ?hyv ?o58
  case hyv =>
   intro wz hSw
   go_simp
   try rfl
  try simp only [Act.put, sT, sZ, sS]
  refine wpAnyL_one (i := 10) (o := _) rfl (by kernel_rfl) (by rfl) (fun K hK => ?_)
  have kX := hr.under hH2
  have fr := kX.free (2 + rn)
  have st0 := kX.at hrn
  go_simp
  have hq : Aside [rb, cb] wd2.heap.size wd2 (wd2.setCell ⟨rb, 2 + rn, none⟩ (.int .i64 za)) := Aside.setCell (by simp) _
  have hA3 : Aside [rb, cb] w.heap.size w (wd2.setCell ⟨rb, 2 + rn, none⟩ (.int .i64 za)) := (aside hH2).trans hq hH2.size
  have kE := kX.setR hrn za
  have kM := (hm.under hH2).keep (w' := wd2.setCell ⟨rb, 2 + rn, none⟩ (.int .i64 za)) (heap_set_other wd2 ⟨rb, 2 + rn, none⟩ _ (by show rb ≠ cb; exact n1))
  refine hK.out _ _ (fun h => absurd h (by decide)) ?_
  clear hK K kX fr st0 hq
  try simp only [Act.put, sT, sZ, sS]
  generalize wd2.setCell ⟨rb, 2 + rn, none⟩ (.int .i64 za) = wd3 at hA3 kE kM ⊢
  have hH3 := hA3
  refine wpAnyL_done (by kernel_rfl) ?_ _
  rw [← HXX.out] at kE
  rw [← HMM.out] at kM
  go_wp2
  go_ret
  exact ⟨rfl, kE, kM, hH3⟩
end Go.Proofs.YtkgbmgpdehmiiaaDoor
