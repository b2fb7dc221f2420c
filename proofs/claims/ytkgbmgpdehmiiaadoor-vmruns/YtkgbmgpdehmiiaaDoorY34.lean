import Derived.Test.YtkgbmgpdehmiiaaDoorY12
import Derived.WalkKit
import Derived.WalkSpells
import Derived.IntWalk
import Derived.Deep.Cut
import Derived.Deep.LoopGhost
import Derived.Laws.Cover1
import Derived.Lib.Hide
set_option linter.unusedVariables false
set_option linter.unusedSimpArgs false
set_option maxHeartbeats 64000000
set_option maxRecDepth 100000
namespace Go.Proofs.YtkgbmgpdehmiiaaDoor
open Go.RowKit Go.IntWalk
set_option linter.unusedVariables false
set_option linter.unusedSimpArgs false
set_option maxHeartbeats 8000000 in
theorem within3_any {w : World} {rb cb nc cc bi o : Nat} {u0 : Value} {X M : List Int} {pc dn lp tu : Int} (hr : RB w rb u0 (.slice (some ⟨cb, 0, none⟩) nc cc) X pc dn lp tu) (hm : LX w cb M) (hnc : nc ≤ M.length) (hM : nc ≤ 6000) (n1 : rb ≠ cb) (rn : Nat) (hrn : rn < X.length) (an : Nat) (han : an < X.length) {kk bq : Int} {nn p : Nat} (hp : X[an] = (p : Int)) (hpb : (p : Int) < bq) (hpm : nn + p < M.length) (hpm2 : nn + p < nc) (hi : InAt w bi o ⟨3, kk, (rn : Int), (an : Int), bq, (nn : Int)⟩) : Calls Tryd.prog 54 #[.pointer (some ⟨rb, 0, none⟩), .pointer (some ⟨bi, o, none⟩)] w (DoP w rb cb u0 (.slice (some ⟨cb, 0, none⟩) nc cc) (X.set rn M[nn + p]) (M) pc dn lp tu true) := by
 obtain ⟨zr, hzr⟩ : ∃ z, z = X[rn] := ⟨_, rfl⟩
 have HZr := hide hzr
 have h40r : (rn : Int) < 40 := by have := hr.l; omega
 have ezr : X[rn] = zr := hzr.symm
 obtain ⟨za, hza⟩ : ∃ z, z = X[an] := ⟨_, rfl⟩
 have HZa := hide hza
 have h40a : (an : Int) < 40 := by have := hr.l; omega
 have eza : X[an] = za := hza.symm
 obtain ⟨zm, hzm⟩ : ∃ z, z = M[nn + p]'hpm := ⟨_, rfl⟩
 have HZm := hide hzm
 have ezm : M[nn + p]'hpm = zm := hzm.symm
 obtain ⟨XX, hXX⟩ : ∃ z, z = (X.set rn M[nn + p]) := ⟨_, rfl⟩
 obtain ⟨MM, hMM⟩ : ∃ z, z = (M) := ⟨_, rfl⟩
 suffices hh : Calls Tryd.prog 54 #[.pointer (some ⟨rb, 0, none⟩), .pointer (some ⟨bi, o, none⟩)] w (DoP w rb cb u0 (.slice (some ⟨cb, 0, none⟩) nc cc) XX MM pc dn lp tu true) by
  rw [hXX, hMM] at hh
  exact hh
 try simp only [ezr, eza, ezm] at hXX hMM
 have HXX := hide hXX
 have HMM := hide hMM
 clear hXX hMM
 clear hzr ezr hza eza hzm ezm
 have i0 := hi.1
 have i1 := hi.2.1
 have i2 := hi.2.2.1
 have i3 := hi.2.2.2.1
 have i4 := hi.2.2.2.2.1
 have i5 := hi.2.2.2.2.2
 have yB := hi.lt
 have yr := hr.lt
 have yc := hm.lt
 have c1 := hr.c1
 have xr := hr.at hrn
 rw [← HZr.out] at xr
 have xa := hr.at han
 rw [← HZa.out] at xa
 have mc := hm.at (i := nn + p) hpm
 rw [← HZm.out] at mc
 have hza : za = (p : Int) := by rw [HZa.out]; exact hp
 subst hza
 have hpb2 : ¬ (p : Int) ≥ bq := by omega
 have hpn : ¬ (p : Int) < 0 := by omega
 have hidx : ((nn + p : Nat) : Int) < (nc : Int) := by omega
 have hidx4 : 0 ≤ (nn : Int) + (p : Int) ∧ (nn : Int) + (p : Int) < (nc : Int) := by omega
 have hidx3 : ((nn : Int) + (p : Int)).toNat = nn + p := by omega
 have hw1 : IntKind.i64.wrap ((nn : Int) + (p : Int)) = (nn : Int) + (p : Int) := i64_in _ (by omega)
 have hw2 : wrap64 ((nn : Int) + (p : Int)) = (nn : Int) + (p : Int) := Em.small64 (by omega)
 go_enter Tryd.func54, Tryd.ntmps54
 go_upto_region 1 with fail
 refine wp_region_late (fun w' => Below w.heap.size w w') (fun _ => false) (by kernel_rfl) ?_
 have hH0 : Below w.heap.size w w.drew := (Below.refl _ _).drew
 generalize w.drew = wd0 at hH0 ⊢
 refine' wpAnyL_take (i := 0) (oi := ⟨some 8, _, _, _, _, _⟩) (v := _) rfl (by kernel_rfl) (by kernel_rfl) (by kernel_rfl) (by kernel_rfl) (fun _ _ _ h => h) hH0 (by rfl) ?hyv ?o1
 case hyv =>
  intro wz hSw
  go_simp
  try rfl
 try simp only [Act.put, sT, sZ, sS]
 refine' wpAnyL_take (i := 1) (oi := ⟨some 9, _, _, _, _, _⟩) (v := _) rfl (by kernel_rfl) (by kernel_rfl) (by kernel_rfl) (by kernel_rfl) (fun _ _ _ h => h) hH0 (by rfl) ?hyv ?o2
 case hyv =>
  intro wz hSw
  go_simp
  try rfl
 try simp only [Act.put, sT, sZ, sS]
 refine' wpAnyL_take (i := 2) (oi := ⟨some 10, _, _, _, _, _⟩) (v := _) rfl (by kernel_rfl) (by kernel_rfl) (by kernel_rfl) (by kernel_rfl) (fun _ _ _ h => h) hH0 (by rfl) ?hyv ?o3
 case hyv =>
  intro wz hSw
  go_simp
  try rfl
 try simp only [Act.put, sT, sZ, sS]
 refine' wpAnyL_take (i := 3) (oi := ⟨some 11, _, _, _, _, _⟩) (v := _) rfl (by kernel_rfl) (by kernel_rfl) (by kernel_rfl) (by kernel_rfl) (fun _ _ _ h => h) hH0 (by rfl) ?hyv ?o4
 case hyv =>
  intro wz hSw
  go_simp
  try rfl
 try simp only [Act.put, sT, sZ, sS]
 refine' wpAnyL_take (i := 4) (oi := ⟨some 12, _, _, _, _, _⟩) (v := _) rfl (by kernel_rfl) (by kernel_rfl) (by kernel_rfl) (by kernel_rfl) (fun _ _ _ h => h) hH0 (by rfl) ?hyv ?o5
 case hyv =>
  intro wz hSw
  have zc0 := (hSw.cell (p := ⟨bi, o, none⟩) yB).trans i0
  have zc1 := (hSw.cell (p := ⟨bi, o + 1, none⟩) yB).trans i1
  have zc2 := (hSw.cell (p := ⟨bi, o + 2, none⟩) yB).trans i2
  have zc3 := (hSw.cell (p := ⟨bi, o + 3, none⟩) yB).trans i3
  have zc4 := (hSw.cell (p := ⟨bi, o + 4, none⟩) yB).trans i4
  have zc5 := (hSw.cell (p := ⟨bi, o + 5, none⟩) yB).trans i5
  have zc6 := (hSw.cell (p := ⟨rb, 1, none⟩) yr).trans c1
  have zc7 := (hSw.cell (p := ⟨rb, 2 + rn, none⟩) yr).trans xr
  have zc8 := (hSw.cell (p := ⟨rb, 2 + an, none⟩) yr).trans xa
  have zc9 := (hSw.cell (p := ⟨cb, nn + p, none⟩) yc).trans mc
  go_simp
  try rfl
 try simp only [Act.put, sT, sZ, sS]
 refine' wpAnyL_take (i := 5) (oi := ⟨some 13, _, _, _, _, _⟩) (v := _) rfl (by kernel_rfl) (by kernel_rfl) (by kernel_rfl) (by kernel_rfl) (fun _ _ _ h => h) hH0 (by rfl) ?hyv ?o6
 case hyv =>
  intro wz hSw
  go_simp
  try rfl
 try simp only [Act.put, sT, sZ, sS]
 refine' wpAnyL_take (i := 6) (oi := ⟨some 14, _, _, _, _, _⟩) (v := _) rfl (by kernel_rfl) (by kernel_rfl) (by kernel_rfl) (by kernel_rfl) (fun _ _ _ h => h) hH0 (by rfl) ?hyv ?o7
 case hyv =>
  intro wz hSw
  go_simp
  try rfl
 try simp only [Act.put, sT, sZ, sS]
 refine' wpAnyL_take (i := 7) (oi := ⟨some 15, _, _, _, _, _⟩) (v := _) rfl (by kernel_rfl) (by kernel_rfl) (by kernel_rfl) (by kernel_rfl) (fun _ _ _ h => h) hH0 (by rfl) ?hyv ?o8
 case hyv =>
  intro wz hSw
  go_simp
  try rfl
 try simp only [Act.put, sT, sZ, sS]
 refine' wpAnyL_take (i := 8) (oi := ⟨some 16, _, _, _, _, _⟩) (v := _) rfl (by kernel_rfl) (by kernel_rfl) (by kernel_rfl) (by kernel_rfl) (fun _ _ _ h => h) hH0 (by rfl) ?hyv ?o9
 case hyv =>
  intro wz hSw
  have zc0 := (hSw.cell (p := ⟨bi, o, none⟩) yB).trans i0
  have zc1 := (hSw.cell (p := ⟨bi, o + 1, none⟩) yB).trans i1
  have zc2 := (hSw.cell (p := ⟨bi, o + 2, none⟩) yB).trans i2
  have zc3 := (hSw.cell (p := ⟨bi, o + 3, none⟩) yB).trans i3
  have zc4 := (hSw.cell (p := ⟨bi, o + 4, none⟩) yB).trans i4
  have zc5 := (hSw.cell (p := ⟨bi, o + 5, none⟩) yB).trans i5
  have zc6 := (hSw.cell (p := ⟨rb, 1, none⟩) yr).trans c1
  have zc7 := (hSw.cell (p := ⟨rb, 2 + rn, none⟩) yr).trans xr
  have zc8 := (hSw.cell (p := ⟨rb, 2 + an, none⟩) yr).trans xa
  have zc9 := (hSw.cell (p := ⟨cb, nn + p, none⟩) yc).trans mc
  go_simp
  try rfl
 try simp only [Act.put, sT, sZ, sS]
 refine' wpAnyL_take (i := 9) (oi := ⟨some 5, _, _, _, _, _⟩) (v := _) rfl (by kernel_rfl) (by kernel_rfl) (by kernel_rfl) (by kernel_rfl) (fun _ _ _ h => h) hH0 (by rfl) ?hyv ?o10
 case hyv =>
  intro wz hSw
  go_simp
  try rfl
 try simp only [Act.put, sT, sZ, sS]
 refine wpAnyL_done (by kernel_rfl) ?_ _
 obtain ⟨b1⟩ : Nonempty (Below w.heap.size w wd0) := ⟨hH0⟩
 have hr2 := hr.under hH0
 have hm2 := hm.under hH0
 have hi2 := hi.keep (hH0.block _ hi.lt)
 have i02 := hi2.1
 have i12 := hi2.2.1
 have i22 := hi2.2.2.1
 have i32 := hi2.2.2.2.1
 have i42 := hi2.2.2.2.2.1
 have i52 := hi2.2.2.2.2.2
 have yB2 := hi2.lt
 have yr2 := hr2.lt
 have yc2 := hm2.lt
 have c12 := hr2.c1
 have xr2 := hr2.at hrn
 rw [← HZr.out] at xr2
 have xa2 := hr2.at han
 rw [← HZa.out] at xa2
 have mc2 := hm2.at (i := nn + p) hpm
 rw [← HZm.out] at mc2
 go_upto_region 4 with fail
 refine wp_region_late (fun w' => Below wd0.heap.size wd0 w') (fun _ => false) (by kernel_rfl) ?_
 have hH0 : Below wd0.heap.size wd0 wd0.drew := (Below.refl _ _).drew
 generalize wd0.drew = wd0 at hH0 ⊢
 refine' wpAnyL_take (i := 0) (oi := ⟨some 27, _, _, _, _, _⟩) (v := _) rfl (by kernel_rfl) (by kernel_rfl) (by kernel_rfl) (by kernel_rfl) (fun _ _ _ h => h) hH0 (by rfl) ?hyv ?o11
 case hyv =>
  intro wz hSw
  go_simp
  try rfl
 try simp only [Act.put, sT, sZ, sS]
 refine' wpAnyL_take (i := 1) (oi := ⟨some 28, _, _, _, _, _⟩) (v := _) rfl (by kernel_rfl) (by kernel_rfl) (by kernel_rfl) (by kernel_rfl) (fun _ _ _ h => h) hH0 (by rfl) ?hyv ?o12
 case hyv =>
  intro wz hSw
  go_simp
  try rfl
 try simp only [Act.put, sT, sZ, sS]
 refine' wpAnyL_take (i := 2) (oi := ⟨some 29, _, _, _, _, _⟩) (v := _) rfl (by kernel_rfl) (by kernel_rfl) (by kernel_rfl) (by kernel_rfl) (fun _ _ _ h => h) hH0 (by rfl) ?hyv ?o13
 case hyv =>
  intro wz hSw
  go_simp
  try rfl
 try simp only [Act.put, sT, sZ, sS]
 refine' wpAnyL_take (i := 3) (oi := ⟨some 30, _, _, _, _, _⟩) (v := _) rfl (by kernel_rfl) (by kernel_rfl) (by kernel_rfl) (by kernel_rfl) (fun _ _ _ h => h) hH0 (by rfl) ?hyv ?o14
 case hyv =>
  intro wz hSw
  go_simp
  try rfl
 try simp only [Act.put, sT, sZ, sS]
 refine' wpAnyL_take (i := 4) (oi := ⟨some 31, _, _, _, _, _⟩) (v := _) rfl (by kernel_rfl) (by kernel_rfl) (by kernel_rfl) (by kernel_rfl) (fun _ _ _ h => h) hH0 (by rfl) ?hyv ?o15
 case hyv =>
  intro wz hSw
  have zc0 := (hSw.cell (p := ⟨bi, o, none⟩) yB2).trans i02
  have zc1 := (hSw.cell (p := ⟨bi, o + 1, none⟩) yB2).trans i12
  have zc2 := (hSw.cell (p := ⟨bi, o + 2, none⟩) yB2).trans i22
  have zc3 := (hSw.cell (p := ⟨bi, o + 3, none⟩) yB2).trans i32
  have zc4 := (hSw.cell (p := ⟨bi, o + 4, none⟩) yB2).trans i42
  have zc5 := (hSw.cell (p := ⟨bi, o + 5, none⟩) yB2).trans i52
  have zc6 := (hSw.cell (p := ⟨rb, 1, none⟩) yr2).trans c12
  have zc7 := (hSw.cell (p := ⟨rb, 2 + rn, none⟩) yr2).trans xr2
  have zc8 := (hSw.cell (p := ⟨rb, 2 + an, none⟩) yr2).trans xa2
  have zc9 := (hSw.cell (p := ⟨cb, nn + p, none⟩) yc2).trans mc2
  go_simp
  try rfl
 try simp only [Act.put, sT, sZ, sS]
 refine' wpAnyL_take (i := 5) (oi := ⟨some 32, _, _, _, _, _⟩) (v := _) rfl (by kernel_rfl) (by kernel_rfl) (by kernel_rfl) (by kernel_rfl) (fun _ _ _ h => h) hH0 (by rfl) ?hyv ?o16
 case hyv =>
  intro wz hSw
  go_simp
  try rfl
 try simp only [Act.put, sT, sZ, sS]
 refine' wpAnyL_take (i := 6) (oi := ⟨some 33, _, _, _, _, _⟩) (v := _) rfl (by kernel_rfl) (by kernel_rfl) (by kernel_rfl) (by kernel_rfl) (fun _ _ _ h => h) hH0 (by rfl) ?hyv ?o17
 case hyv =>
  intro wz hSw
  go_simp
  try rfl
 try simp only [Act.put, sT, sZ, sS]
 refine' wpAnyL_take (i := 7) (oi := ⟨some 34, _, _, _, _, _⟩) (v := _) rfl (by kernel_rfl) (by kernel_rfl) (by kernel_rfl) (by kernel_rfl) (fun _ _ _ h => h) hH0 (by rfl) ?hyv ?o18
 case hyv =>
  intro wz hSw
  go_simp
  try rfl
 try simp only [Act.put, sT, sZ, sS]
 refine' wpAnyL_take (i := 8) (oi := ⟨some 35, _, _, _, _, _⟩) (v := _) rfl (by kernel_rfl) (by kernel_rfl) (by kernel_rfl) (by kernel_rfl) (fun _ _ _ h => h) hH0 (by rfl) ?hyv ?o19
 case hyv =>
  intro wz hSw
  go_simp
  try rfl
 try simp only [Act.put, sT, sZ, sS]
 refine' wpAnyL_take (i := 9) (oi := ⟨some 36, _, _, _, _, _⟩) (v := _) rfl (by kernel_rfl) (by kernel_rfl) (by kernel_rfl) (by kernel_rfl) (fun _ _ _ h => h) hH0 (by rfl) ?hyv ?o20
 case hyv =>
  intro wz hSw
  go_simp
  try rfl
 try simp only [Act.put, sT, sZ, sS]
 refine' wpAnyL_take (i := 10) (oi := ⟨some 37, _, _, _, _, _⟩) (v := _) rfl (by kernel_rfl) (by kernel_rfl) (by kernel_rfl) (by kernel_rfl) (fun _ _ _ h => h) hH0 (by rfl) ?hyv ?o21
 case hyv =>
  intro wz hSw
  go_simp
  try rfl
 try simp only [Act.put, sT, sZ, sS]
 refine' wpAnyL_take (i := 11) (oi := ⟨some 38, _, _, _, _, _⟩) (v := _) rfl (by kernel_rfl) (by kernel_rfl) (by kernel_rfl) (by kernel_rfl) (fun _ _ _ h => h) hH0 (by rfl) ?hyv ?o22
 case hyv =>
  intro wz hSw
  have zc0 := (hSw.cell (p := ⟨bi, o, none⟩) yB2).trans i02
  have zc1 := (hSw.cell (p := ⟨bi, o + 1, none⟩) yB2).trans i12
  have zc2 := (hSw.cell (p := ⟨bi, o + 2, none⟩) yB2).trans i22
  have zc3 := (hSw.cell (p := ⟨bi, o + 3, none⟩) yB2).trans i32
  have zc4 := (hSw.cell (p := ⟨bi, o + 4, none⟩) yB2).trans i42
  have zc5 := (hSw.cell (p := ⟨bi, o + 5, none⟩) yB2).trans i52
  have zc6 := (hSw.cell (p := ⟨rb, 1, none⟩) yr2).trans c12
  have zc7 := (hSw.cell (p := ⟨rb, 2 + rn, none⟩) yr2).trans xr2
  have zc8 := (hSw.cell (p := ⟨rb, 2 + an, none⟩) yr2).trans xa2
  have zc9 := (hSw.cell (p := ⟨cb, nn + p, none⟩) yc2).trans mc2
  go_simp
  try rfl
 try simp only [Act.put, sT, sZ, sS]
 refine' wpAnyL_take (i := 12) (oi := ⟨some 39, _, _, _, _, _⟩) (v := _) rfl (by kernel_rfl) (by kernel_rfl) (by kernel_rfl) (by kernel_rfl) (fun _ _ _ h => h) hH0 (by rfl) ?hyv ?o23
 case hyv =>
  intro wz hSw
  go_simp
  try rfl
 try simp only [Act.put, sT, sZ, sS]
 refine' wpAnyL_take (i := 13) (oi := ⟨some 40, _, _, _, _, _⟩) (v := _) rfl (by kernel_rfl) (by kernel_rfl) (by kernel_rfl) (by kernel_rfl) (fun _ _ _ h => h) hH0 (by rfl) ?hyv ?o24
 case hyv =>
  intro wz hSw
  go_simp
  try rfl
 try simp only [Act.put, sT, sZ, sS]
 refine' wpAnyL_take (i := 14) (oi := ⟨some 41, _, _, _, _, _⟩) (v := _) rfl (by kernel_rfl) (by kernel_rfl) (by kernel_rfl) (by kernel_rfl) (fun _ _ _ h => h) hH0 (by rfl) ?hyv ?o25
 case hyv =>
  intro wz hSw
  go_simp
  try rfl
 try simp only [Act.put, sT, sZ, sS]
 refine' wpAnyL_take (i := 15) (oi := ⟨some 42, _, _, _, _, _⟩) (v := _) rfl (by kernel_rfl) (by kernel_rfl) (by kernel_rfl) (by kernel_rfl) (fun _ _ _ h => h) hH0 (by rfl) ?hyv ?o26
 case hyv =>
  intro wz hSw
  have zc0 := (hSw.cell (p := ⟨bi, o, none⟩) yB2).trans i02
  have zc1 := (hSw.cell (p := ⟨bi, o + 1, none⟩) yB2).trans i12
  have zc2 := (hSw.cell (p := ⟨bi, o + 2, none⟩) yB2).trans i22
  have zc3 := (hSw.cell (p := ⟨bi, o + 3, none⟩) yB2).trans i32
  have zc4 := (hSw.cell (p := ⟨bi, o + 4, none⟩) yB2).trans i42
  have zc5 := (hSw.cell (p := ⟨bi, o + 5, none⟩) yB2).trans i52
  have zc6 := (hSw.cell (p := ⟨rb, 1, none⟩) yr2).trans c12
  have zc7 := (hSw.cell (p := ⟨rb, 2 + rn, none⟩) yr2).trans xr2
  have zc8 := (hSw.cell (p := ⟨rb, 2 + an, none⟩) yr2).trans xa2
  have zc9 := (hSw.cell (p := ⟨cb, nn + p, none⟩) yc2).trans mc2
  go_simp
  try rfl
 try simp only [Act.put, sT, sZ, sS]
 refine' wpAnyL_take (i := 16) (oi := ⟨some 43, _, _, _, _, _⟩) (v := _) rfl (by kernel_rfl) (by kernel_rfl) (by kernel_rfl) (by kernel_rfl) (fun _ _ _ h => h) hH0 (by rfl) ?hyv ?o27
 case hyv =>
  intro wz hSw
  go_simp
  try rfl
 try simp only [Act.put, sT, sZ, sS]
 refine' wpAnyL_take (i := 17) (oi := ⟨some 44, _, _, _, _, _⟩) (v := _) rfl (by kernel_rfl) (by kernel_rfl) (by kernel_rfl) (by kernel_rfl) (fun _ _ _ h => h) hH0 (by rfl) ?hyv ?o28
 case hyv =>
  intro wz hSw
  go_simp
  try rfl
 try simp only [Act.put, sT, sZ, sS]
 refine' wpAnyL_take (i := 18) (oi := ⟨some 45, _, _, _, _, _⟩) (v := _) rfl (by kernel_rfl) (by kernel_rfl) (by kernel_rfl) (by kernel_rfl) (fun _ _ _ h => h) hH0 (by rfl) ?hyv ?o29
 case hyv =>
  intro wz hSw
  go_simp
  try rfl
 try simp only [Act.put, sT, sZ, sS]
 refine' wpAnyL_take (i := 19) (oi := ⟨some 6, _, _, _, _, _⟩) (v := _) rfl (by kernel_rfl) (by kernel_rfl) (by kernel_rfl) (by kernel_rfl) (fun _ _ _ h => h) hH0 (by rfl) ?hyv ?o30
 case hyv =>
  intro wz hSw
  go_simp
  try rfl
 try simp only [Act.put, sT, sZ, sS]
 refine' wpAnyL_take (i := 20) (oi := ⟨some 7, _, _, _, _, _⟩) (v := _) rfl (by kernel_rfl) (by kernel_rfl) (by kernel_rfl) (by kernel_rfl) (fun _ _ _ h => h) hH0 (by rfl) ?hyv ?o31
 case hyv =>
  intro wz hSw
  go_simp
  try rfl
 try simp only [Act.put, sT, sZ, sS]
 refine wpAnyL_done (by kernel_rfl) ?_ _
 have hr3 := hr2.under hH0
 have hm3 := hm2.under hH0
 have hi3 := hi2.keep (hH0.block _ hi2.lt)
 have i03 := hi3.1
 have i13 := hi3.2.1
 have i23 := hi3.2.2.1
 have i33 := hi3.2.2.2.1
 have i43 := hi3.2.2.2.2.1
 have i53 := hi3.2.2.2.2.2
 have yB3 := hi3.lt
 have yr3 := hr3.lt
 have yc3 := hm3.lt
 have c13 := hr3.c1
 have xr3 := hr3.at hrn
 rw [← HZr.out] at xr3
 have xa3 := hr3.at han
 rw [← HZa.out] at xa3
 have mc3 := hm3.at (i := nn + p) hpm
 rw [← HZm.out] at mc3
 have fr := hr3.free (2 + rn)
 have kE := hr3.setR hrn zm
 have kM := hm3.keep (w' := wd0.setCell ⟨rb, 2 + rn, none⟩ (.int .i64 zm)) (heap_set_other wd0 ⟨rb, 2 + rn, none⟩ _ (by show rb ≠ cb; exact n1))
 have hq : Aside [rb, cb] wd0.heap.size wd0 (wd0.setCell ⟨rb, 2 + rn, none⟩ (.int .i64 zm)) := Aside.setCell (by simp) _
 have HE := hide kE
 have HM2 := hide kM
 have HQ := hide hq
 clear kE kM hq
 go_wp2
 go_ret
 exact ⟨rfl, by rw [HXX.out]; exact HE.out, by rw [HMM.out]; exact HM2.out, (aside b1).trans ((aside (S := [rb, cb]) hH0).trans HQ.out hH0.size) b1.size⟩
set_option maxHeartbeats 8000000 in
theorem within5_any {w : World} {rb cb nc cc bi o : Nat} {u0 : Value} {X M : List Int} {pc dn lp tu : Int} (hr : RB w rb u0 (.slice (some ⟨cb, 0, none⟩) nc cc) X pc dn lp tu) (hm : LX w cb M) (hnc : nc ≤ M.length) (hM : nc ≤ 6000) (n1 : rb ≠ cb) (rn : Nat) (hrn : rn < X.length) (an : Nat) (han : an < X.length) {kk bq : Int} {nn p : Nat} (hp : X[an] = (p : Int)) (hpb : (p : Int) < bq) (hpm : nn + p < M.length) (hpm2 : nn + p < nc) (hi : InAt w bi o ⟨5, kk, (rn : Int), (an : Int), bq, (nn : Int)⟩) : Calls Tryd.prog 54 #[.pointer (some ⟨rb, 0, none⟩), .pointer (some ⟨bi, o, none⟩)] w (DoP w rb cb u0 (.slice (some ⟨cb, 0, none⟩) nc cc) (X) (M.set (nn + p) X[rn]) pc dn lp tu true) := by
 obtain ⟨zr, hzr⟩ : ∃ z, z = X[rn] := ⟨_, rfl⟩
 have HZr := hide hzr
 have h40r : (rn : Int) < 40 := by have := hr.l; omega
 have ezr : X[rn] = zr := hzr.symm
 obtain ⟨za, hza⟩ : ∃ z, z = X[an] := ⟨_, rfl⟩
 have HZa := hide hza
 have h40a : (an : Int) < 40 := by have := hr.l; omega
 have eza : X[an] = za := hza.symm
 obtain ⟨XX, hXX⟩ : ∃ z, z = (X) := ⟨_, rfl⟩
 obtain ⟨MM, hMM⟩ : ∃ z, z = (M.set (nn + p) X[rn]) := ⟨_, rfl⟩
 suffices hh : Calls Tryd.prog 54 #[.pointer (some ⟨rb, 0, none⟩), .pointer (some ⟨bi, o, none⟩)] w (DoP w rb cb u0 (.slice (some ⟨cb, 0, none⟩) nc cc) XX MM pc dn lp tu true) by
  rw [hXX, hMM] at hh
  exact hh
 try simp only [ezr, eza] at hXX hMM
 have HXX := hide hXX
 have HMM := hide hMM
 clear hXX hMM
 clear hzr ezr hza eza
 have i0 := hi.1
 have i1 := hi.2.1
 have i2 := hi.2.2.1
 have i3 := hi.2.2.2.1
 have i4 := hi.2.2.2.2.1
 have i5 := hi.2.2.2.2.2
 have yB := hi.lt
 have yr := hr.lt
 have yc := hm.lt
 have c1 := hr.c1
 have xr := hr.at hrn
 rw [← HZr.out] at xr
 have xa := hr.at han
 rw [← HZa.out] at xa
 have hza : za = (p : Int) := by rw [HZa.out]; exact hp
 subst hza
 have hpb2 : ¬ (p : Int) ≥ bq := by omega
 have hpn : ¬ (p : Int) < 0 := by omega
 have hidx : ((nn + p : Nat) : Int) < (nc : Int) := by omega
 have hidx4 : 0 ≤ (nn : Int) + (p : Int) ∧ (nn : Int) + (p : Int) < (nc : Int) := by omega
 have hidx3 : ((nn : Int) + (p : Int)).toNat = nn + p := by omega
 have hw1 : IntKind.i64.wrap ((nn : Int) + (p : Int)) = (nn : Int) + (p : Int) := i64_in _ (by omega)
 have hw2 : wrap64 ((nn : Int) + (p : Int)) = (nn : Int) + (p : Int) := Em.small64 (by omega)
 go_enter Tryd.func54, Tryd.ntmps54
 go_upto_region 1 with fail
 refine wp_region_late (fun w' => Below w.heap.size w w') (fun _ => false) (by kernel_rfl) ?_
 have hH0 : Below w.heap.size w w.drew := (Below.refl _ _).drew
 generalize w.drew = wd0 at hH0 ⊢
 refine' wpAnyL_take (i := 0) (oi := ⟨some 8, _, _, _, _, _⟩) (v := _) rfl (by kernel_rfl) (by kernel_rfl) (by kernel_rfl) (by kernel_rfl) (fun _ _ _ h => h) hH0 (by rfl) ?hyv ?o32
 case hyv =>
  intro wz hSw
  go_simp
  try rfl
 try simp only [Act.put, sT, sZ, sS]
 refine' wpAnyL_take (i := 1) (oi := ⟨some 9, _, _, _, _, _⟩) (v := _) rfl (by kernel_rfl) (by kernel_rfl) (by kernel_rfl) (by kernel_rfl) (fun _ _ _ h => h) hH0 (by rfl) ?hyv ?o33
 case hyv =>
  intro wz hSw
  go_simp
  try rfl
 try simp only [Act.put, sT, sZ, sS]
 refine' wpAnyL_take (i := 2) (oi := ⟨some 10, _, _, _, _, _⟩) (v := _) rfl (by kernel_rfl) (by kernel_rfl) (by kernel_rfl) (by kernel_rfl) (fun _ _ _ h => h) hH0 (by rfl) ?hyv ?o34
 case hyv =>
  intro wz hSw
  go_simp
  try rfl
 try simp only [Act.put, sT, sZ, sS]
 refine' wpAnyL_take (i := 3) (oi := ⟨some 11, _, _, _, _, _⟩) (v := _) rfl (by kernel_rfl) (by kernel_rfl) (by kernel_rfl) (by kernel_rfl) (fun _ _ _ h => h) hH0 (by rfl) ?hyv ?o35
 case hyv =>
  intro wz hSw
  go_simp
  try rfl
 try simp only [Act.put, sT, sZ, sS]
 refine' wpAnyL_take (i := 4) (oi := ⟨some 12, _, _, _, _, _⟩) (v := _) rfl (by kernel_rfl) (by kernel_rfl) (by kernel_rfl) (by kernel_rfl) (fun _ _ _ h => h) hH0 (by rfl) ?hyv ?o36
 case hyv =>
  intro wz hSw
  have zc0 := (hSw.cell (p := ⟨bi, o, none⟩) yB).trans i0
  have zc1 := (hSw.cell (p := ⟨bi, o + 1, none⟩) yB).trans i1
  have zc2 := (hSw.cell (p := ⟨bi, o + 2, none⟩) yB).trans i2
  have zc3 := (hSw.cell (p := ⟨bi, o + 3, none⟩) yB).trans i3
  have zc4 := (hSw.cell (p := ⟨bi, o + 4, none⟩) yB).trans i4
  have zc5 := (hSw.cell (p := ⟨bi, o + 5, none⟩) yB).trans i5
  have zc6 := (hSw.cell (p := ⟨rb, 1, none⟩) yr).trans c1
  have zc7 := (hSw.cell (p := ⟨rb, 2 + rn, none⟩) yr).trans xr
  have zc8 := (hSw.cell (p := ⟨rb, 2 + an, none⟩) yr).trans xa
  go_simp
  try rfl
 try simp only [Act.put, sT, sZ, sS]
 refine' wpAnyL_take (i := 5) (oi := ⟨some 13, _, _, _, _, _⟩) (v := _) rfl (by kernel_rfl) (by kernel_rfl) (by kernel_rfl) (by kernel_rfl) (fun _ _ _ h => h) hH0 (by rfl) ?hyv ?o37
 case hyv =>
  intro wz hSw
  go_simp
  try rfl
 try simp only [Act.put, sT, sZ, sS]
 refine' wpAnyL_take (i := 6) (oi := ⟨some 14, _, _, _, _, _⟩) (v := _) rfl (by kernel_rfl) (by kernel_rfl) (by kernel_rfl) (by kernel_rfl) (fun _ _ _ h => h) hH0 (by rfl) ?hyv ?o38
 case hyv =>
  intro wz hSw
  go_simp
  try rfl
 try simp only [Act.put, sT, sZ, sS]
 refine' wpAnyL_take (i := 7) (oi := ⟨some 15, _, _, _, _, _⟩) (v := _) rfl (by kernel_rfl) (by kernel_rfl) (by kernel_rfl) (by kernel_rfl) (fun _ _ _ h => h) hH0 (by rfl) ?hyv ?o39
 case hyv =>
  intro wz hSw
  go_simp
  try rfl
 try simp only [Act.put, sT, sZ, sS]
 refine' wpAnyL_take (i := 8) (oi := ⟨some 16, _, _, _, _, _⟩) (v := _) rfl (by kernel_rfl) (by kernel_rfl) (by kernel_rfl) (by kernel_rfl) (fun _ _ _ h => h) hH0 (by rfl) ?hyv ?o40
 case hyv =>
  intro wz hSw
  have zc0 := (hSw.cell (p := ⟨bi, o, none⟩) yB).trans i0
  have zc1 := (hSw.cell (p := ⟨bi, o + 1, none⟩) yB).trans i1
  have zc2 := (hSw.cell (p := ⟨bi, o + 2, none⟩) yB).trans i2
  have zc3 := (hSw.cell (p := ⟨bi, o + 3, none⟩) yB).trans i3
  have zc4 := (hSw.cell (p := ⟨bi, o + 4, none⟩) yB).trans i4
  have zc5 := (hSw.cell (p := ⟨bi, o + 5, none⟩) yB).trans i5
  have zc6 := (hSw.cell (p := ⟨rb, 1, none⟩) yr).trans c1
  have zc7 := (hSw.cell (p := ⟨rb, 2 + rn, none⟩) yr).trans xr
  have zc8 := (hSw.cell (p := ⟨rb, 2 + an, none⟩) yr).trans xa
  go_simp
  try rfl
 try simp only [Act.put, sT, sZ, sS]
 refine' wpAnyL_take (i := 9) (oi := ⟨some 5, _, _, _, _, _⟩) (v := _) rfl (by kernel_rfl) (by kernel_rfl) (by kernel_rfl) (by kernel_rfl) (fun _ _ _ h => h) hH0 (by rfl) ?hyv ?o41
 case hyv =>
  intro wz hSw
  go_simp
  try rfl
 try simp only [Act.put, sT, sZ, sS]
 refine wpAnyL_done (by kernel_rfl) ?_ _
 obtain ⟨b1⟩ : Nonempty (Below w.heap.size w wd0) := ⟨hH0⟩
 have hr2 := hr.under hH0
 have hm2 := hm.under hH0
 have hi2 := hi.keep (hH0.block _ hi.lt)
 have i02 := hi2.1
 have i12 := hi2.2.1
 have i22 := hi2.2.2.1
 have i32 := hi2.2.2.2.1
 have i42 := hi2.2.2.2.2.1
 have i52 := hi2.2.2.2.2.2
 have yB2 := hi2.lt
 have yr2 := hr2.lt
 have yc2 := hm2.lt
 have c12 := hr2.c1
 have xr2 := hr2.at hrn
 rw [← HZr.out] at xr2
 have xa2 := hr2.at han
 rw [← HZa.out] at xa2
 go_upto_region 4 with fail
 refine wp_region_late (fun w' => Below wd0.heap.size wd0 w') (fun _ => false) (by kernel_rfl) ?_
 have hH0 : Below wd0.heap.size wd0 wd0.drew := (Below.refl _ _).drew
 generalize wd0.drew = wd0 at hH0 ⊢
 refine' wpAnyL_take (i := 0) (oi := ⟨some 27, _, _, _, _, _⟩) (v := _) rfl (by kernel_rfl) (by kernel_rfl) (by kernel_rfl) (by kernel_rfl) (fun _ _ _ h => h) hH0 (by rfl) ?hyv ?o42
 case hyv =>
  intro wz hSw
  go_simp
  try rfl
 try simp only [Act.put, sT, sZ, sS]
 refine' wpAnyL_take (i := 1) (oi := ⟨some 28, _, _, _, _, _⟩) (v := _) rfl (by kernel_rfl) (by kernel_rfl) (by kernel_rfl) (by kernel_rfl) (fun _ _ _ h => h) hH0 (by rfl) ?hyv ?o43
 case hyv =>
  intro wz hSw
  go_simp
  try rfl
 try simp only [Act.put, sT, sZ, sS]
 refine' wpAnyL_take (i := 2) (oi := ⟨some 29, _, _, _, _, _⟩) (v := _) rfl (by kernel_rfl) (by kernel_rfl) (by kernel_rfl) (by kernel_rfl) (fun _ _ _ h => h) hH0 (by rfl) ?hyv ?o44
 case hyv =>
  intro wz hSw
  go_simp
  try rfl
 try simp only [Act.put, sT, sZ, sS]
 refine' wpAnyL_take (i := 3) (oi := ⟨some 30, _, _, _, _, _⟩) (v := _) rfl (by kernel_rfl) (by kernel_rfl) (by kernel_rfl) (by kernel_rfl) (fun _ _ _ h => h) hH0 (by rfl) ?hyv ?o45
 case hyv =>
  intro wz hSw
  go_simp
  try rfl
 try simp only [Act.put, sT, sZ, sS]
 refine' wpAnyL_take (i := 4) (oi := ⟨some 31, _, _, _, _, _⟩) (v := _) rfl (by kernel_rfl) (by kernel_rfl) (by kernel_rfl) (by kernel_rfl) (fun _ _ _ h => h) hH0 (by rfl) ?hyv ?o46
 case hyv =>
  intro wz hSw
  have zc0 := (hSw.cell (p := ⟨bi, o, none⟩) yB2).trans i02
  have zc1 := (hSw.cell (p := ⟨bi, o + 1, none⟩) yB2).trans i12
  have zc2 := (hSw.cell (p := ⟨bi, o + 2, none⟩) yB2).trans i22
  have zc3 := (hSw.cell (p := ⟨bi, o + 3, none⟩) yB2).trans i32
  have zc4 := (hSw.cell (p := ⟨bi, o + 4, none⟩) yB2).trans i42
  have zc5 := (hSw.cell (p := ⟨bi, o + 5, none⟩) yB2).trans i52
  have zc6 := (hSw.cell (p := ⟨rb, 1, none⟩) yr2).trans c12
  have zc7 := (hSw.cell (p := ⟨rb, 2 + rn, none⟩) yr2).trans xr2
  have zc8 := (hSw.cell (p := ⟨rb, 2 + an, none⟩) yr2).trans xa2
  go_simp
  try rfl
 try simp only [Act.put, sT, sZ, sS]
 refine' wpAnyL_take (i := 5) (oi := ⟨some 32, _, _, _, _, _⟩) (v := _) rfl (by kernel_rfl) (by kernel_rfl) (by kernel_rfl) (by kernel_rfl) (fun _ _ _ h => h) hH0 (by rfl) ?hyv ?o47
 case hyv =>
  intro wz hSw
  go_simp
  try rfl
 try simp only [Act.put, sT, sZ, sS]
 refine' wpAnyL_take (i := 6) (oi := ⟨some 33, _, _, _, _, _⟩) (v := _) rfl (by kernel_rfl) (by kernel_rfl) (by kernel_rfl) (by kernel_rfl) (fun _ _ _ h => h) hH0 (by rfl) ?hyv ?o48
 case hyv =>
  intro wz hSw
  go_simp
  try rfl
 try simp only [Act.put, sT, sZ, sS]
 refine' wpAnyL_take (i := 7) (oi := ⟨some 34, _, _, _, _, _⟩) (v := _) rfl (by kernel_rfl) (by kernel_rfl) (by kernel_rfl) (by kernel_rfl) (fun _ _ _ h => h) hH0 (by rfl) ?hyv ?o49
 case hyv =>
  intro wz hSw
  go_simp
  try rfl
 try simp only [Act.put, sT, sZ, sS]
 refine' wpAnyL_take (i := 8) (oi := ⟨some 35, _, _, _, _, _⟩) (v := _) rfl (by kernel_rfl) (by kernel_rfl) (by kernel_rfl) (by kernel_rfl) (fun _ _ _ h => h) hH0 (by rfl) ?hyv ?o50
 case hyv =>
  intro wz hSw
  go_simp
  try rfl
 try simp only [Act.put, sT, sZ, sS]
 refine' wpAnyL_take (i := 9) (oi := ⟨some 36, _, _, _, _, _⟩) (v := _) rfl (by kernel_rfl) (by kernel_rfl) (by kernel_rfl) (by kernel_rfl) (fun _ _ _ h => h) hH0 (by rfl) ?hyv ?o51
 case hyv =>
  intro wz hSw
  go_simp
  try rfl
 try simp only [Act.put, sT, sZ, sS]
 refine' wpAnyL_take (i := 10) (oi := ⟨some 37, _, _, _, _, _⟩) (v := _) rfl (by kernel_rfl) (by kernel_rfl) (by kernel_rfl) (by kernel_rfl) (fun _ _ _ h => h) hH0 (by rfl) ?hyv ?o52
 case hyv =>
  intro wz hSw
  go_simp
  try rfl
 try simp only [Act.put, sT, sZ, sS]
 refine' wpAnyL_take (i := 11) (oi := ⟨some 38, _, _, _, _, _⟩) (v := _) rfl (by kernel_rfl) (by kernel_rfl) (by kernel_rfl) (by kernel_rfl) (fun _ _ _ h => h) hH0 (by rfl) ?hyv ?o53
 case hyv =>
  intro wz hSw
  have zc0 := (hSw.cell (p := ⟨bi, o, none⟩) yB2).trans i02
  have zc1 := (hSw.cell (p := ⟨bi, o + 1, none⟩) yB2).trans i12
  have zc2 := (hSw.cell (p := ⟨bi, o + 2, none⟩) yB2).trans i22
  have zc3 := (hSw.cell (p := ⟨bi, o + 3, none⟩) yB2).trans i32
  have zc4 := (hSw.cell (p := ⟨bi, o + 4, none⟩) yB2).trans i42
  have zc5 := (hSw.cell (p := ⟨bi, o + 5, none⟩) yB2).trans i52
  have zc6 := (hSw.cell (p := ⟨rb, 1, none⟩) yr2).trans c12
  have zc7 := (hSw.cell (p := ⟨rb, 2 + rn, none⟩) yr2).trans xr2
  have zc8 := (hSw.cell (p := ⟨rb, 2 + an, none⟩) yr2).trans xa2
  go_simp
  try rfl
 try simp only [Act.put, sT, sZ, sS]
 refine' wpAnyL_take (i := 12) (oi := ⟨some 39, _, _, _, _, _⟩) (v := _) rfl (by kernel_rfl) (by kernel_rfl) (by kernel_rfl) (by kernel_rfl) (fun _ _ _ h => h) hH0 (by rfl) ?hyv ?o54
 case hyv =>
  intro wz hSw
  go_simp
  try rfl
 try simp only [Act.put, sT, sZ, sS]
 refine' wpAnyL_take (i := 13) (oi := ⟨some 40, _, _, _, _, _⟩) (v := _) rfl (by kernel_rfl) (by kernel_rfl) (by kernel_rfl) (by kernel_rfl) (fun _ _ _ h => h) hH0 (by rfl) ?hyv ?o55
 case hyv =>
  intro wz hSw
  go_simp
  try rfl
 try simp only [Act.put, sT, sZ, sS]
 refine' wpAnyL_take (i := 14) (oi := ⟨some 41, _, _, _, _, _⟩) (v := _) rfl (by kernel_rfl) (by kernel_rfl) (by kernel_rfl) (by kernel_rfl) (fun _ _ _ h => h) hH0 (by rfl) ?hyv ?o56
 case hyv =>
  intro wz hSw
  go_simp
  try rfl
 try simp only [Act.put, sT, sZ, sS]
 refine' wpAnyL_take (i := 15) (oi := ⟨some 42, _, _, _, _, _⟩) (v := _) rfl (by kernel_rfl) (by kernel_rfl) (by kernel_rfl) (by kernel_rfl) (fun _ _ _ h => h) hH0 (by rfl) ?hyv ?o57
 case hyv =>
  intro wz hSw
  have zc0 := (hSw.cell (p := ⟨bi, o, none⟩) yB2).trans i02
  have zc1 := (hSw.cell (p := ⟨bi, o + 1, none⟩) yB2).trans i12
  have zc2 := (hSw.cell (p := ⟨bi, o + 2, none⟩) yB2).trans i22
  have zc3 := (hSw.cell (p := ⟨bi, o + 3, none⟩) yB2).trans i32
  have zc4 := (hSw.cell (p := ⟨bi, o + 4, none⟩) yB2).trans i42
  have zc5 := (hSw.cell (p := ⟨bi, o + 5, none⟩) yB2).trans i52
  have zc6 := (hSw.cell (p := ⟨rb, 1, none⟩) yr2).trans c12
  have zc7 := (hSw.cell (p := ⟨rb, 2 + rn, none⟩) yr2).trans xr2
  have zc8 := (hSw.cell (p := ⟨rb, 2 + an, none⟩) yr2).trans xa2
  go_simp
  try rfl
 try simp only [Act.put, sT, sZ, sS]
 refine' wpAnyL_take (i := 16) (oi := ⟨some 43, _, _, _, _, _⟩) (v := _) rfl (by kernel_rfl) (by kernel_rfl) (by kernel_rfl) (by kernel_rfl) (fun _ _ _ h => h) hH0 (by rfl) ?hyv ?o58
 case hyv =>
  intro wz hSw
  go_simp
  try rfl
 try simp only [Act.put, sT, sZ, sS]
 refine' wpAnyL_take (i := 17) (oi := ⟨some 44, _, _, _, _, _⟩) (v := _) rfl (by kernel_rfl) (by kernel_rfl) (by kernel_rfl) (by kernel_rfl) (fun _ _ _ h => h) hH0 (by rfl) ?hyv ?o59
 case hyv =>
  intro wz hSw
  go_simp
  try rfl
 try simp only [Act.put, sT, sZ, sS]
 refine' wpAnyL_take (i := 18) (oi := ⟨some 45, _, _, _, _, _⟩) (v := _) rfl (by kernel_rfl) (by kernel_rfl) (by kernel_rfl) (by kernel_rfl) (fun _ _ _ h => h) hH0 (by rfl) ?hyv ?o60
 case hyv =>
  intro wz hSw
  go_simp
  try rfl
 try simp only [Act.put, sT, sZ, sS]
 refine' wpAnyL_take (i := 19) (oi := ⟨some 6, _, _, _, _, _⟩) (v := _) rfl (by kernel_rfl) (by kernel_rfl) (by kernel_rfl) (by kernel_rfl) (fun _ _ _ h => h) hH0 (by rfl) ?hyv ?o61
 case hyv =>
  intro wz hSw
  go_simp
  try rfl
 try simp only [Act.put, sT, sZ, sS]
 refine' wpAnyL_take (i := 20) (oi := ⟨some 7, _, _, _, _, _⟩) (v := _) rfl (by kernel_rfl) (by kernel_rfl) (by kernel_rfl) (by kernel_rfl) (fun _ _ _ h => h) hH0 (by rfl) ?hyv ?o62
 case hyv =>
  intro wz hSw
  go_simp
  try rfl
 try simp only [Act.put, sT, sZ, sS]
 refine wpAnyL_done (by kernel_rfl) ?_ _
 have hr3 := hr2.under hH0
 have hm3 := hm2.under hH0
 have hi3 := hi2.keep (hH0.block _ hi2.lt)
 have i03 := hi3.1
 have i13 := hi3.2.1
 have i23 := hi3.2.2.1
 have i33 := hi3.2.2.2.1
 have i43 := hi3.2.2.2.2.1
 have i53 := hi3.2.2.2.2.2
 have yB3 := hi3.lt
 have yr3 := hr3.lt
 have yc3 := hm3.lt
 have c13 := hr3.c1
 have xr3 := hr3.at hrn
 rw [← HZr.out] at xr3
 have xa3 := hr3.at han
 rw [← HZa.out] at xa3
 have fr := hm3.free (nn + p)
 have mc3 := hm3.at (i := nn + p) hpm
 have kE := hr3.keep (w' := wd0.setCell ⟨cb, nn + p, none⟩ (.int .i64 zr)) (heap_set_other wd0 ⟨cb, nn + p, none⟩ _ (by show cb ≠ rb; exact n1.symm))
 have kM := hm3.set (i := nn + p) hpm zr
 have hq : Aside [rb, cb] wd0.heap.size wd0 (wd0.setCell ⟨cb, nn + p, none⟩ (.int .i64 zr)) := Aside.setCell (by simp) _
 have HE := hide kE
 have HM2 := hide kM
 have HQ := hide hq
 clear kE kM hq
 go_wp2
 go_ret
 exact ⟨rfl, by rw [HXX.out]; exact HE.out, by rw [HMM.out]; exact HM2.out, (aside b1).trans ((aside (S := [rb, cb]) hH0).trans HQ.out hH0.size) b1.size⟩
set_option maxHeartbeats 8000000 in
theorem within3n {w : World} {rb cb nc cc bi o : Nat} {u0 : Value} {X M : List Int} {pc dn lp tu : Int} (hr : RB w rb u0 (.slice (some ⟨cb, 0, none⟩) nc cc) X pc dn lp tu) (hm : LX w cb M) (hnc : nc ≤ M.length) (hM : nc ≤ 6000) (n1 : rb ≠ cb) (rn : Nat) (hrn : rn < X.length) (an : Nat) (han : an < X.length) {kk bq nn : Int} (hp : X[an] < 0) (hi : InAt w bi o ⟨3, kk, (rn : Int), (an : Int), bq, nn⟩) : Calls Tryd.prog 54 #[.pointer (some ⟨rb, 0, none⟩), .pointer (some ⟨bi, o, none⟩)] w (DoP w rb cb u0 (.slice (some ⟨cb, 0, none⟩) nc cc) (X) (M) pc dn lp tu false) := by
 obtain ⟨zr, hzr⟩ : ∃ z, z = X[rn] := ⟨_, rfl⟩
 have HZr := hide hzr
 have h40r : (rn : Int) < 40 := by have := hr.l; omega
 have ezr : X[rn] = zr := hzr.symm
 obtain ⟨za, hza⟩ : ∃ z, z = X[an] := ⟨_, rfl⟩
 have HZa := hide hza
 have h40a : (an : Int) < 40 := by have := hr.l; omega
 have eza : X[an] = za := hza.symm
 obtain ⟨XX, hXX⟩ : ∃ z, z = (X) := ⟨_, rfl⟩
 obtain ⟨MM, hMM⟩ : ∃ z, z = (M) := ⟨_, rfl⟩
 suffices hh : Calls Tryd.prog 54 #[.pointer (some ⟨rb, 0, none⟩), .pointer (some ⟨bi, o, none⟩)] w (DoP w rb cb u0 (.slice (some ⟨cb, 0, none⟩) nc cc) XX MM pc dn lp tu false) by
  rw [hXX, hMM] at hh
  exact hh
 try simp only [ezr, eza] at hXX hMM
 have HXX := hide hXX
 have HMM := hide hMM
 clear hXX hMM
 clear hzr ezr hza eza
 have i0 := hi.1
 have i1 := hi.2.1
 have i2 := hi.2.2.1
 have i3 := hi.2.2.2.1
 have i4 := hi.2.2.2.2.1
 have i5 := hi.2.2.2.2.2
 have yB := hi.lt
 have yr := hr.lt
 have yc := hm.lt
 have c1 := hr.c1
 have xr := hr.at hrn
 rw [← HZr.out] at xr
 have xa := hr.at han
 rw [← HZa.out] at xa
 have hza : za < 0 := by rw [HZa.out]; exact hp
 go_enter Tryd.func54, Tryd.ntmps54
 go_upto_region 1 with fail
 refine wp_region_late (fun w' => Below w.heap.size w w') (fun _ => false) (by kernel_rfl) ?_
 have hH0 : Below w.heap.size w w.drew := (Below.refl _ _).drew
 generalize w.drew = wd0 at hH0 ⊢
 refine' wpAnyL_take (i := 0) (oi := ⟨some 8, _, _, _, _, _⟩) (v := _) rfl (by kernel_rfl) (by kernel_rfl) (by kernel_rfl) (by kernel_rfl) (fun _ _ _ h => h) hH0 (by rfl) ?hyv ?o63
 case hyv =>
  intro wz hSw
  go_simp
  try rfl
 try simp only [Act.put, sT, sZ, sS]
 refine' wpAnyL_take (i := 1) (oi := ⟨some 9, _, _, _, _, _⟩) (v := _) rfl (by kernel_rfl) (by kernel_rfl) (by kernel_rfl) (by kernel_rfl) (fun _ _ _ h => h) hH0 (by rfl) ?hyv ?o64
 case hyv =>
  intro wz hSw
  go_simp
  try rfl
 try simp only [Act.put, sT, sZ, sS]
 refine' wpAnyL_take (i := 2) (oi := ⟨some 10, _, _, _, _, _⟩) (v := _) rfl (by kernel_rfl) (by kernel_rfl) (by kernel_rfl) (by kernel_rfl) (fun _ _ _ h => h) hH0 (by rfl) ?hyv ?o65
 case hyv =>
  intro wz hSw
  go_simp
  try rfl
 try simp only [Act.put, sT, sZ, sS]
 refine' wpAnyL_take (i := 3) (oi := ⟨some 11, _, _, _, _, _⟩) (v := _) rfl (by kernel_rfl) (by kernel_rfl) (by kernel_rfl) (by kernel_rfl) (fun _ _ _ h => h) hH0 (by rfl) ?hyv ?o66
 case hyv =>
  intro wz hSw
  go_simp
  try rfl
 try simp only [Act.put, sT, sZ, sS]
 refine' wpAnyL_take (i := 4) (oi := ⟨some 12, _, _, _, _, _⟩) (v := _) rfl (by kernel_rfl) (by kernel_rfl) (by kernel_rfl) (by kernel_rfl) (fun _ _ _ h => h) hH0 (by rfl) ?hyv ?o67
 case hyv =>
  intro wz hSw
  have zc0 := (hSw.cell (p := ⟨bi, o, none⟩) yB).trans i0
  have zc1 := (hSw.cell (p := ⟨bi, o + 1, none⟩) yB).trans i1
  have zc2 := (hSw.cell (p := ⟨bi, o + 2, none⟩) yB).trans i2
  have zc3 := (hSw.cell (p := ⟨bi, o + 3, none⟩) yB).trans i3
  have zc4 := (hSw.cell (p := ⟨bi, o + 4, none⟩) yB).trans i4
  have zc5 := (hSw.cell (p := ⟨bi, o + 5, none⟩) yB).trans i5
  have zc6 := (hSw.cell (p := ⟨rb, 1, none⟩) yr).trans c1
  have zc7 := (hSw.cell (p := ⟨rb, 2 + rn, none⟩) yr).trans xr
  have zc8 := (hSw.cell (p := ⟨rb, 2 + an, none⟩) yr).trans xa
  go_simp
  try rfl
 try simp only [Act.put, sT, sZ, sS]
 refine' wpAnyL_take (i := 5) (oi := ⟨some 13, _, _, _, _, _⟩) (v := _) rfl (by kernel_rfl) (by kernel_rfl) (by kernel_rfl) (by kernel_rfl) (fun _ _ _ h => h) hH0 (by rfl) ?hyv ?o68
 case hyv =>
  intro wz hSw
  go_simp
  try rfl
 try simp only [Act.put, sT, sZ, sS]
 refine' wpAnyL_take (i := 6) (oi := ⟨some 14, _, _, _, _, _⟩) (v := _) rfl (by kernel_rfl) (by kernel_rfl) (by kernel_rfl) (by kernel_rfl) (fun _ _ _ h => h) hH0 (by rfl) ?hyv ?o69
 case hyv =>
  intro wz hSw
  go_simp
  try rfl
 try simp only [Act.put, sT, sZ, sS]
 refine' wpAnyL_take (i := 7) (oi := ⟨some 15, _, _, _, _, _⟩) (v := _) rfl (by kernel_rfl) (by kernel_rfl) (by kernel_rfl) (by kernel_rfl) (fun _ _ _ h => h) hH0 (by rfl) ?hyv ?o70
 case hyv =>
  intro wz hSw
  go_simp
  try rfl
 try simp only [Act.put, sT, sZ, sS]
 refine' wpAnyL_take (i := 8) (oi := ⟨some 16, _, _, _, _, _⟩) (v := _) rfl (by kernel_rfl) (by kernel_rfl) (by kernel_rfl) (by kernel_rfl) (fun _ _ _ h => h) hH0 (by rfl) ?hyv ?o71
 case hyv =>
  intro wz hSw
  have zc0 := (hSw.cell (p := ⟨bi, o, none⟩) yB).trans i0
  have zc1 := (hSw.cell (p := ⟨bi, o + 1, none⟩) yB).trans i1
  have zc2 := (hSw.cell (p := ⟨bi, o + 2, none⟩) yB).trans i2
  have zc3 := (hSw.cell (p := ⟨bi, o + 3, none⟩) yB).trans i3
  have zc4 := (hSw.cell (p := ⟨bi, o + 4, none⟩) yB).trans i4
  have zc5 := (hSw.cell (p := ⟨bi, o + 5, none⟩) yB).trans i5
  have zc6 := (hSw.cell (p := ⟨rb, 1, none⟩) yr).trans c1
  have zc7 := (hSw.cell (p := ⟨rb, 2 + rn, none⟩) yr).trans xr
  have zc8 := (hSw.cell (p := ⟨rb, 2 + an, none⟩) yr).trans xa
  go_simp
  try rfl
 try simp only [Act.put, sT, sZ, sS]
 refine' wpAnyL_take (i := 9) (oi := ⟨some 5, _, _, _, _, _⟩) (v := _) rfl (by kernel_rfl) (by kernel_rfl) (by kernel_rfl) (by kernel_rfl) (fun _ _ _ h => h) hH0 (by rfl) ?hyv ?o72
 case hyv =>
  intro wz hSw
  go_simp
  try rfl
 try simp only [Act.put, sT, sZ, sS]
 refine wpAnyL_done (by kernel_rfl) ?_ _
 have hr2 := hr.under hH0
 have hm2 := hm.under hH0
 have hi2 := hi.keep (hH0.block _ hi.lt)
 have i02 := hi2.1
 have i12 := hi2.2.1
 have i22 := hi2.2.2.1
 have i32 := hi2.2.2.2.1
 have i42 := hi2.2.2.2.2.1
 have i52 := hi2.2.2.2.2.2
 have yB2 := hi2.lt
 have yr2 := hr2.lt
 have yc2 := hm2.lt
 have c12 := hr2.c1
 have xr2 := hr2.at hrn
 rw [← HZr.out] at xr2
 have xa2 := hr2.at han
 rw [← HZa.out] at xa2
 go_wp2
 go_ret
 exact ⟨rfl, by rw [HXX.out]; exact hr2, by rw [HMM.out]; exact hm2, aside hH0⟩
set_option maxHeartbeats 8000000 in
theorem within3m {w : World} {rb cb nc cc bi o : Nat} {u0 : Value} {X M : List Int} {pc dn lp tu : Int} (hr : RB w rb u0 (.slice (some ⟨cb, 0, none⟩) nc cc) X pc dn lp tu) (hm : LX w cb M) (hnc : nc ≤ M.length) (hM : nc ≤ 6000) (n1 : rb ≠ cb) (rn : Nat) (hrn : rn < X.length) (an : Nat) (han : an < X.length) {kk bq nn : Int} (hp : ¬ X[an] < 0) (hpb : X[an] ≥ bq) (hi : InAt w bi o ⟨3, kk, (rn : Int), (an : Int), bq, nn⟩) : Calls Tryd.prog 54 #[.pointer (some ⟨rb, 0, none⟩), .pointer (some ⟨bi, o, none⟩)] w (DoP w rb cb u0 (.slice (some ⟨cb, 0, none⟩) nc cc) (X) (M) pc dn lp tu false) := by
 obtain ⟨zr, hzr⟩ : ∃ z, z = X[rn] := ⟨_, rfl⟩
 have HZr := hide hzr
 have h40r : (rn : Int) < 40 := by have := hr.l; omega
 have ezr : X[rn] = zr := hzr.symm
 obtain ⟨za, hza⟩ : ∃ z, z = X[an] := ⟨_, rfl⟩
 have HZa := hide hza
 have h40a : (an : Int) < 40 := by have := hr.l; omega
 have eza : X[an] = za := hza.symm
 obtain ⟨XX, hXX⟩ : ∃ z, z = (X) := ⟨_, rfl⟩
 obtain ⟨MM, hMM⟩ : ∃ z, z = (M) := ⟨_, rfl⟩
 suffices hh : Calls Tryd.prog 54 #[.pointer (some ⟨rb, 0, none⟩), .pointer (some ⟨bi, o, none⟩)] w (DoP w rb cb u0 (.slice (some ⟨cb, 0, none⟩) nc cc) XX MM pc dn lp tu false) by
  rw [hXX, hMM] at hh
  exact hh
 try simp only [ezr, eza] at hXX hMM
 have HXX := hide hXX
 have HMM := hide hMM
 clear hXX hMM
 clear hzr ezr hza eza
 have i0 := hi.1
 have i1 := hi.2.1
 have i2 := hi.2.2.1
 have i3 := hi.2.2.2.1
 have i4 := hi.2.2.2.2.1
 have i5 := hi.2.2.2.2.2
 have yB := hi.lt
 have yr := hr.lt
 have yc := hm.lt
 have c1 := hr.c1
 have xr := hr.at hrn
 rw [← HZr.out] at xr
 have xa := hr.at han
 rw [← HZa.out] at xa
 have hza : ¬ za < 0 := by rw [HZa.out]; exact hp
 have hzb : za ≥ bq := by rw [HZa.out]; exact hpb
 go_enter Tryd.func54, Tryd.ntmps54
 go_upto_region 1 with fail
 refine wp_region_late (fun w' => Below w.heap.size w w') (fun _ => false) (by kernel_rfl) ?_
 have hH0 : Below w.heap.size w w.drew := (Below.refl _ _).drew
 generalize w.drew = wd0 at hH0 ⊢
 refine' wpAnyL_take (i := 0) (oi := ⟨some 8, _, _, _, _, _⟩) (v := _) rfl (by kernel_rfl) (by kernel_rfl) (by kernel_rfl) (by kernel_rfl) (fun _ _ _ h => h) hH0 (by rfl) ?hyv ?o73
 case hyv =>
  intro wz hSw
  go_simp
  try rfl
 try simp only [Act.put, sT, sZ, sS]
 refine' wpAnyL_take (i := 1) (oi := ⟨some 9, _, _, _, _, _⟩) (v := _) rfl (by kernel_rfl) (by kernel_rfl) (by kernel_rfl) (by kernel_rfl) (fun _ _ _ h => h) hH0 (by rfl) ?hyv ?o74
 case hyv =>
  intro wz hSw
  go_simp
  try rfl
 try simp only [Act.put, sT, sZ, sS]
 refine' wpAnyL_take (i := 2) (oi := ⟨some 10, _, _, _, _, _⟩) (v := _) rfl (by kernel_rfl) (by kernel_rfl) (by kernel_rfl) (by kernel_rfl) (fun _ _ _ h => h) hH0 (by rfl) ?hyv ?o75
 case hyv =>
  intro wz hSw
  go_simp
  try rfl
 try simp only [Act.put, sT, sZ, sS]
 refine' wpAnyL_take (i := 3) (oi := ⟨some 11, _, _, _, _, _⟩) (v := _) rfl (by kernel_rfl) (by kernel_rfl) (by kernel_rfl) (by kernel_rfl) (fun _ _ _ h => h) hH0 (by rfl) ?hyv ?o76
 case hyv =>
  intro wz hSw
  go_simp
  try rfl
 try simp only [Act.put, sT, sZ, sS]
 refine' wpAnyL_take (i := 4) (oi := ⟨some 12, _, _, _, _, _⟩) (v := _) rfl (by kernel_rfl) (by kernel_rfl) (by kernel_rfl) (by kernel_rfl) (fun _ _ _ h => h) hH0 (by rfl) ?hyv ?o77
 case hyv =>
  intro wz hSw
  have zc0 := (hSw.cell (p := ⟨bi, o, none⟩) yB).trans i0
  have zc1 := (hSw.cell (p := ⟨bi, o + 1, none⟩) yB).trans i1
  have zc2 := (hSw.cell (p := ⟨bi, o + 2, none⟩) yB).trans i2
  have zc3 := (hSw.cell (p := ⟨bi, o + 3, none⟩) yB).trans i3
  have zc4 := (hSw.cell (p := ⟨bi, o + 4, none⟩) yB).trans i4
  have zc5 := (hSw.cell (p := ⟨bi, o + 5, none⟩) yB).trans i5
  have zc6 := (hSw.cell (p := ⟨rb, 1, none⟩) yr).trans c1
  have zc7 := (hSw.cell (p := ⟨rb, 2 + rn, none⟩) yr).trans xr
  have zc8 := (hSw.cell (p := ⟨rb, 2 + an, none⟩) yr).trans xa
  go_simp
  try rfl
 try simp only [Act.put, sT, sZ, sS]
 refine' wpAnyL_take (i := 5) (oi := ⟨some 13, _, _, _, _, _⟩) (v := _) rfl (by kernel_rfl) (by kernel_rfl) (by kernel_rfl) (by kernel_rfl) (fun _ _ _ h => h) hH0 (by rfl) ?hyv ?o78
 case hyv =>
  intro wz hSw
  go_simp
  try rfl
 try simp only [Act.put, sT, sZ, sS]
 refine' wpAnyL_take (i := 6) (oi := ⟨some 14, _, _, _, _, _⟩) (v := _) rfl (by kernel_rfl) (by kernel_rfl) (by kernel_rfl) (by kernel_rfl) (fun _ _ _ h => h) hH0 (by rfl) ?hyv ?o79
 case hyv =>
  intro wz hSw
  go_simp
  try rfl
 try simp only [Act.put, sT, sZ, sS]
 refine' wpAnyL_take (i := 7) (oi := ⟨some 15, _, _, _, _, _⟩) (v := _) rfl (by kernel_rfl) (by kernel_rfl) (by kernel_rfl) (by kernel_rfl) (fun _ _ _ h => h) hH0 (by rfl) ?hyv ?o80
 case hyv =>
  intro wz hSw
  go_simp
  try rfl
 try simp only [Act.put, sT, sZ, sS]
 refine' wpAnyL_take (i := 8) (oi := ⟨some 16, _, _, _, _, _⟩) (v := _) rfl (by kernel_rfl) (by kernel_rfl) (by kernel_rfl) (by kernel_rfl) (fun _ _ _ h => h) hH0 (by rfl) ?hyv ?o81
 case hyv =>
  intro wz hSw
  have zc0 := (hSw.cell (p := ⟨bi, o, none⟩) yB).trans i0
  have zc1 := (hSw.cell (p := ⟨bi, o + 1, none⟩) yB).trans i1
  have zc2 := (hSw.cell (p := ⟨bi, o + 2, none⟩) yB).trans i2
  have zc3 := (hSw.cell (p := ⟨bi, o + 3, none⟩) yB).trans i3
  have zc4 := (hSw.cell (p := ⟨bi, o + 4, none⟩) yB).trans i4
  have zc5 := (hSw.cell (p := ⟨bi, o + 5, none⟩) yB).trans i5
  have zc6 := (hSw.cell (p := ⟨rb, 1, none⟩) yr).trans c1
  have zc7 := (hSw.cell (p := ⟨rb, 2 + rn, none⟩) yr).trans xr
  have zc8 := (hSw.cell (p := ⟨rb, 2 + an, none⟩) yr).trans xa
  go_simp
  try rfl
 try simp only [Act.put, sT, sZ, sS]
 refine' wpAnyL_take (i := 9) (oi := ⟨some 5, _, _, _, _, _⟩) (v := _) rfl (by kernel_rfl) (by kernel_rfl) (by kernel_rfl) (by kernel_rfl) (fun _ _ _ h => h) hH0 (by rfl) ?hyv ?o82
 case hyv =>
  intro wz hSw
  go_simp
  try rfl
 try simp only [Act.put, sT, sZ, sS]
 refine wpAnyL_done (by kernel_rfl) ?_ _
 have hr2 := hr.under hH0
 have hm2 := hm.under hH0
 have hi2 := hi.keep (hH0.block _ hi.lt)
 have i02 := hi2.1
 have i12 := hi2.2.1
 have i22 := hi2.2.2.1
 have i32 := hi2.2.2.2.1
 have i42 := hi2.2.2.2.2.1
 have i52 := hi2.2.2.2.2.2
 have yB2 := hi2.lt
 have yr2 := hr2.lt
 have yc2 := hm2.lt
 have c12 := hr2.c1
 have xr2 := hr2.at hrn
 rw [← HZr.out] at xr2
 have xa2 := hr2.at han
 rw [← HZa.out] at xa2
 go_wp2
 go_ret
 exact ⟨rfl, by rw [HXX.out]; exact hr2, by rw [HMM.out]; exact hm2, aside hH0⟩
set_option maxHeartbeats 8000000 in
theorem within5n {w : World} {rb cb nc cc bi o : Nat} {u0 : Value} {X M : List Int} {pc dn lp tu : Int} (hr : RB w rb u0 (.slice (some ⟨cb, 0, none⟩) nc cc) X pc dn lp tu) (hm : LX w cb M) (hnc : nc ≤ M.length) (hM : nc ≤ 6000) (n1 : rb ≠ cb) (rn : Nat) (hrn : rn < X.length) (an : Nat) (han : an < X.length) {kk bq nn : Int} (hp : X[an] < 0) (hi : InAt w bi o ⟨5, kk, (rn : Int), (an : Int), bq, nn⟩) : Calls Tryd.prog 54 #[.pointer (some ⟨rb, 0, none⟩), .pointer (some ⟨bi, o, none⟩)] w (DoP w rb cb u0 (.slice (some ⟨cb, 0, none⟩) nc cc) (X) (M) pc dn lp tu false) := by
 obtain ⟨zr, hzr⟩ : ∃ z, z = X[rn] := ⟨_, rfl⟩
 have HZr := hide hzr
 have h40r : (rn : Int) < 40 := by have := hr.l; omega
 have ezr : X[rn] = zr := hzr.symm
 obtain ⟨za, hza⟩ : ∃ z, z = X[an] := ⟨_, rfl⟩
 have HZa := hide hza
 have h40a : (an : Int) < 40 := by have := hr.l; omega
 have eza : X[an] = za := hza.symm
 obtain ⟨XX, hXX⟩ : ∃ z, z = (X) := ⟨_, rfl⟩
 obtain ⟨MM, hMM⟩ : ∃ z, z = (M) := ⟨_, rfl⟩
 suffices hh : Calls Tryd.prog 54 #[.pointer (some ⟨rb, 0, none⟩), .pointer (some ⟨bi, o, none⟩)] w (DoP w rb cb u0 (.slice (some ⟨cb, 0, none⟩) nc cc) XX MM pc dn lp tu false) by
  rw [hXX, hMM] at hh
  exact hh
 try simp only [ezr, eza] at hXX hMM
 have HXX := hide hXX
 have HMM := hide hMM
 clear hXX hMM
 clear hzr ezr hza eza
 have i0 := hi.1
 have i1 := hi.2.1
 have i2 := hi.2.2.1
 have i3 := hi.2.2.2.1
 have i4 := hi.2.2.2.2.1
 have i5 := hi.2.2.2.2.2
 have yB := hi.lt
 have yr := hr.lt
 have yc := hm.lt
 have c1 := hr.c1
 have xr := hr.at hrn
 rw [← HZr.out] at xr
 have xa := hr.at han
 rw [← HZa.out] at xa
 have hza : za < 0 := by rw [HZa.out]; exact hp
 go_enter Tryd.func54, Tryd.ntmps54
 go_upto_region 1 with fail
 refine wp_region_late (fun w' => Below w.heap.size w w') (fun _ => false) (by kernel_rfl) ?_
 have hH0 : Below w.heap.size w w.drew := (Below.refl _ _).drew
 generalize w.drew = wd0 at hH0 ⊢
 refine' wpAnyL_take (i := 0) (oi := ⟨some 8, _, _, _, _, _⟩) (v := _) rfl (by kernel_rfl) (by kernel_rfl) (by kernel_rfl) (by kernel_rfl) (fun _ _ _ h => h) hH0 (by rfl) ?hyv ?o83
 case hyv =>
  intro wz hSw
  go_simp
  try rfl
 try simp only [Act.put, sT, sZ, sS]
 refine' wpAnyL_take (i := 1) (oi := ⟨some 9, _, _, _, _, _⟩) (v := _) rfl (by kernel_rfl) (by kernel_rfl) (by kernel_rfl) (by kernel_rfl) (fun _ _ _ h => h) hH0 (by rfl) ?hyv ?o84
 case hyv =>
  intro wz hSw
  go_simp
  try rfl
 try simp only [Act.put, sT, sZ, sS]
 refine' wpAnyL_take (i := 2) (oi := ⟨some 10, _, _, _, _, _⟩) (v := _) rfl (by kernel_rfl) (by kernel_rfl) (by kernel_rfl) (by kernel_rfl) (fun _ _ _ h => h) hH0 (by rfl) ?hyv ?o85
 case hyv =>
  intro wz hSw
  go_simp
  try rfl
 try simp only [Act.put, sT, sZ, sS]
 refine' wpAnyL_take (i := 3) (oi := ⟨some 11, _, _, _, _, _⟩) (v := _) rfl (by kernel_rfl) (by kernel_rfl) (by kernel_rfl) (by kernel_rfl) (fun _ _ _ h => h) hH0 (by rfl) ?hyv ?o86
 case hyv =>
  intro wz hSw
  go_simp
  try rfl
 try simp only [Act.put, sT, sZ, sS]
 refine' wpAnyL_take (i := 4) (oi := ⟨some 12, _, _, _, _, _⟩) (v := _) rfl (by kernel_rfl) (by kernel_rfl) (by kernel_rfl) (by kernel_rfl) (fun _ _ _ h => h) hH0 (by rfl) ?hyv ?o87
 case hyv =>
  intro wz hSw
  have zc0 := (hSw.cell (p := ⟨bi, o, none⟩) yB).trans i0
  have zc1 := (hSw.cell (p := ⟨bi, o + 1, none⟩) yB).trans i1
  have zc2 := (hSw.cell (p := ⟨bi, o + 2, none⟩) yB).trans i2
  have zc3 := (hSw.cell (p := ⟨bi, o + 3, none⟩) yB).trans i3
  have zc4 := (hSw.cell (p := ⟨bi, o + 4, none⟩) yB).trans i4
  have zc5 := (hSw.cell (p := ⟨bi, o + 5, none⟩) yB).trans i5
  have zc6 := (hSw.cell (p := ⟨rb, 1, none⟩) yr).trans c1
  have zc7 := (hSw.cell (p := ⟨rb, 2 + rn, none⟩) yr).trans xr
  have zc8 := (hSw.cell (p := ⟨rb, 2 + an, none⟩) yr).trans xa
  go_simp
  try rfl
 try simp only [Act.put, sT, sZ, sS]
 refine' wpAnyL_take (i := 5) (oi := ⟨some 13, _, _, _, _, _⟩) (v := _) rfl (by kernel_rfl) (by kernel_rfl) (by kernel_rfl) (by kernel_rfl) (fun _ _ _ h => h) hH0 (by rfl) ?hyv ?o88
 case hyv =>
  intro wz hSw
  go_simp
  try rfl
 try simp only [Act.put, sT, sZ, sS]
 refine' wpAnyL_take (i := 6) (oi := ⟨some 14, _, _, _, _, _⟩) (v := _) rfl (by kernel_rfl) (by kernel_rfl) (by kernel_rfl) (by kernel_rfl) (fun _ _ _ h => h) hH0 (by rfl) ?hyv ?o89
 case hyv =>
  intro wz hSw
  go_simp
  try rfl
 try simp only [Act.put, sT, sZ, sS]
 refine' wpAnyL_take (i := 7) (oi := ⟨some 15, _, _, _, _, _⟩) (v := _) rfl (by kernel_rfl) (by kernel_rfl) (by kernel_rfl) (by kernel_rfl) (fun _ _ _ h => h) hH0 (by rfl) ?hyv ?o90
 case hyv =>
  intro wz hSw
  go_simp
  try rfl
 try simp only [Act.put, sT, sZ, sS]
 refine' wpAnyL_take (i := 8) (oi := ⟨some 16, _, _, _, _, _⟩) (v := _) rfl (by kernel_rfl) (by kernel_rfl) (by kernel_rfl) (by kernel_rfl) (fun _ _ _ h => h) hH0 (by rfl) ?hyv ?o91
 case hyv =>
  intro wz hSw
  have zc0 := (hSw.cell (p := ⟨bi, o, none⟩) yB).trans i0
  have zc1 := (hSw.cell (p := ⟨bi, o + 1, none⟩) yB).trans i1
  have zc2 := (hSw.cell (p := ⟨bi, o + 2, none⟩) yB).trans i2
  have zc3 := (hSw.cell (p := ⟨bi, o + 3, none⟩) yB).trans i3
  have zc4 := (hSw.cell (p := ⟨bi, o + 4, none⟩) yB).trans i4
  have zc5 := (hSw.cell (p := ⟨bi, o + 5, none⟩) yB).trans i5
  have zc6 := (hSw.cell (p := ⟨rb, 1, none⟩) yr).trans c1
  have zc7 := (hSw.cell (p := ⟨rb, 2 + rn, none⟩) yr).trans xr
  have zc8 := (hSw.cell (p := ⟨rb, 2 + an, none⟩) yr).trans xa
  go_simp
  try rfl
 try simp only [Act.put, sT, sZ, sS]
 refine' wpAnyL_take (i := 9) (oi := ⟨some 5, _, _, _, _, _⟩) (v := _) rfl (by kernel_rfl) (by kernel_rfl) (by kernel_rfl) (by kernel_rfl) (fun _ _ _ h => h) hH0 (by rfl) ?hyv ?o92
 case hyv =>
  intro wz hSw
  go_simp
  try rfl
 try simp only [Act.put, sT, sZ, sS]
 refine wpAnyL_done (by kernel_rfl) ?_ _
 have hr2 := hr.under hH0
 have hm2 := hm.under hH0
 have hi2 := hi.keep (hH0.block _ hi.lt)
 have i02 := hi2.1
 have i12 := hi2.2.1
 have i22 := hi2.2.2.1
 have i32 := hi2.2.2.2.1
 have i42 := hi2.2.2.2.2.1
 have i52 := hi2.2.2.2.2.2
 have yB2 := hi2.lt
 have yr2 := hr2.lt
 have yc2 := hm2.lt
 have c12 := hr2.c1
 have xr2 := hr2.at hrn
 rw [← HZr.out] at xr2
 have xa2 := hr2.at han
 rw [← HZa.out] at xa2
 go_wp2
 go_ret
 exact ⟨rfl, by rw [HXX.out]; exact hr2, by rw [HMM.out]; exact hm2, aside hH0⟩
set_option maxHeartbeats 8000000 in
theorem within5m {w : World} {rb cb nc cc bi o : Nat} {u0 : Value} {X M : List Int} {pc dn lp tu : Int} (hr : RB w rb u0 (.slice (some ⟨cb, 0, none⟩) nc cc) X pc dn lp tu) (hm : LX w cb M) (hnc : nc ≤ M.length) (hM : nc ≤ 6000) (n1 : rb ≠ cb) (rn : Nat) (hrn : rn < X.length) (an : Nat) (han : an < X.length) {kk bq nn : Int} (hp : ¬ X[an] < 0) (hpb : X[an] ≥ bq) (hi : InAt w bi o ⟨5, kk, (rn : Int), (an : Int), bq, nn⟩) : Calls Tryd.prog 54 #[.pointer (some ⟨rb, 0, none⟩), .pointer (some ⟨bi, o, none⟩)] w (DoP w rb cb u0 (.slice (some ⟨cb, 0, none⟩) nc cc) (X) (M) pc dn lp tu false) := by
 obtain ⟨zr, hzr⟩ : ∃ z, z = X[rn] := ⟨_, rfl⟩
 have HZr := hide hzr
 have h40r : (rn : Int) < 40 := by have := hr.l; omega
 have ezr : X[rn] = zr := hzr.symm
 obtain ⟨za, hza⟩ : ∃ z, z = X[an] := ⟨_, rfl⟩
 have HZa := hide hza
 have h40a : (an : Int) < 40 := by have := hr.l; omega
 have eza : X[an] = za := hza.symm
 obtain ⟨XX, hXX⟩ : ∃ z, z = (X) := ⟨_, rfl⟩
 obtain ⟨MM, hMM⟩ : ∃ z, z = (M) := ⟨_, rfl⟩
 suffices hh : Calls Tryd.prog 54 #[.pointer (some ⟨rb, 0, none⟩), .pointer (some ⟨bi, o, none⟩)] w (DoP w rb cb u0 (.slice (some ⟨cb, 0, none⟩) nc cc) XX MM pc dn lp tu false) by
  rw [hXX, hMM] at hh
  exact hh
 try simp only [ezr, eza] at hXX hMM
 have HXX := hide hXX
 have HMM := hide hMM
 clear hXX hMM
 clear hzr ezr hza eza
 have i0 := hi.1
 have i1 := hi.2.1
 have i2 := hi.2.2.1
 have i3 := hi.2.2.2.1
 have i4 := hi.2.2.2.2.1
 have i5 := hi.2.2.2.2.2
 have yB := hi.lt
 have yr := hr.lt
 have yc := hm.lt
 have c1 := hr.c1
 have xr := hr.at hrn
 rw [← HZr.out] at xr
 have xa := hr.at han
 rw [← HZa.out] at xa
 have hza : ¬ za < 0 := by rw [HZa.out]; exact hp
 have hzb : za ≥ bq := by rw [HZa.out]; exact hpb
 go_enter Tryd.func54, Tryd.ntmps54
 go_upto_region 1 with fail
 refine wp_region_late (fun w' => Below w.heap.size w w') (fun _ => false) (by kernel_rfl) ?_
 have hH0 : Below w.heap.size w w.drew := (Below.refl _ _).drew
 generalize w.drew = wd0 at hH0 ⊢
 refine' wpAnyL_take (i := 0) (oi := ⟨some 8, _, _, _, _, _⟩) (v := _) rfl (by kernel_rfl) (by kernel_rfl) (by kernel_rfl) (by kernel_rfl) (fun _ _ _ h => h) hH0 (by rfl) ?hyv ?o93
 case hyv =>
  intro wz hSw
  go_simp
  try rfl
 try simp only [Act.put, sT, sZ, sS]
 refine' wpAnyL_take (i := 1) (oi := ⟨some 9, _, _, _, _, _⟩) (v := _) rfl (by kernel_rfl) (by kernel_rfl) (by kernel_rfl) (by kernel_rfl) (fun _ _ _ h => h) hH0 (by rfl) ?hyv ?o94
 case hyv =>
  intro wz hSw
  go_simp
  try rfl
 try simp only [Act.put, sT, sZ, sS]
 refine' wpAnyL_take (i := 2) (oi := ⟨some 10, _, _, _, _, _⟩) (v := _) rfl (by kernel_rfl) (by kernel_rfl) (by kernel_rfl) (by kernel_rfl) (fun _ _ _ h => h) hH0 (by rfl) ?hyv ?o95
 case hyv =>
  intro wz hSw
  go_simp
  try rfl
 try simp only [Act.put, sT, sZ, sS]
 refine' wpAnyL_take (i := 3) (oi := ⟨some 11, _, _, _, _, _⟩) (v := _) rfl (by kernel_rfl) (by kernel_rfl) (by kernel_rfl) (by kernel_rfl) (fun _ _ _ h => h) hH0 (by rfl) ?hyv ?o96
 case hyv =>
  intro wz hSw
  go_simp
  try rfl
 try simp only [Act.put, sT, sZ, sS]
 refine' wpAnyL_take (i := 4) (oi := ⟨some 12, _, _, _, _, _⟩) (v := _) rfl (by kernel_rfl) (by kernel_rfl) (by kernel_rfl) (by kernel_rfl) (fun _ _ _ h => h) hH0 (by rfl) ?hyv ?o97
 case hyv =>
  intro wz hSw
  have zc0 := (hSw.cell (p := ⟨bi, o, none⟩) yB).trans i0
  have zc1 := (hSw.cell (p := ⟨bi, o + 1, none⟩) yB).trans i1
  have zc2 := (hSw.cell (p := ⟨bi, o + 2, none⟩) yB).trans i2
  have zc3 := (hSw.cell (p := ⟨bi, o + 3, none⟩) yB).trans i3
  have zc4 := (hSw.cell (p := ⟨bi, o + 4, none⟩) yB).trans i4
  have zc5 := (hSw.cell (p := ⟨bi, o + 5, none⟩) yB).trans i5
  have zc6 := (hSw.cell (p := ⟨rb, 1, none⟩) yr).trans c1
  have zc7 := (hSw.cell (p := ⟨rb, 2 + rn, none⟩) yr).trans xr
  have zc8 := (hSw.cell (p := ⟨rb, 2 + an, none⟩) yr).trans xa
  go_simp
  try rfl
 try simp only [Act.put, sT, sZ, sS]
 refine' wpAnyL_take (i := 5) (oi := ⟨some 13, _, _, _, _, _⟩) (v := _) rfl (by kernel_rfl) (by kernel_rfl) (by kernel_rfl) (by kernel_rfl) (fun _ _ _ h => h) hH0 (by rfl) ?hyv ?o98
 case hyv =>
  intro wz hSw
  go_simp
  try rfl
 try simp only [Act.put, sT, sZ, sS]
 refine' wpAnyL_take (i := 6) (oi := ⟨some 14, _, _, _, _, _⟩) (v := _) rfl (by kernel_rfl) (by kernel_rfl) (by kernel_rfl) (by kernel_rfl) (fun _ _ _ h => h) hH0 (by rfl) ?hyv ?o99
 case hyv =>
  intro wz hSw
  go_simp
  try rfl
 try simp only [Act.put, sT, sZ, sS]
 refine' wpAnyL_take (i := 7) (oi := ⟨some 15, _, _, _, _, _⟩) (v := _) rfl (by kernel_rfl) (by kernel_rfl) (by kernel_rfl) (by kernel_rfl) (fun _ _ _ h => h) hH0 (by rfl) ?hyv ?o100
 case hyv =>
  intro wz hSw
  go_simp
  try rfl
 try simp only [Act.put, sT, sZ, sS]
 refine' wpAnyL_take (i := 8) (oi := ⟨some 16, _, _, _, _, _⟩) (v := _) rfl (by kernel_rfl) (by kernel_rfl) (by kernel_rfl) (by kernel_rfl) (fun _ _ _ h => h) hH0 (by rfl) ?hyv ?o101
 case hyv =>
  intro wz hSw
  have zc0 := (hSw.cell (p := ⟨bi, o, none⟩) yB).trans i0
  have zc1 := (hSw.cell (p := ⟨bi, o + 1, none⟩) yB).trans i1
  have zc2 := (hSw.cell (p := ⟨bi, o + 2, none⟩) yB).trans i2
  have zc3 := (hSw.cell (p := ⟨bi, o + 3, none⟩) yB).trans i3
  have zc4 := (hSw.cell (p := ⟨bi, o + 4, none⟩) yB).trans i4
  have zc5 := (hSw.cell (p := ⟨bi, o + 5, none⟩) yB).trans i5
  have zc6 := (hSw.cell (p := ⟨rb, 1, none⟩) yr).trans c1
  have zc7 := (hSw.cell (p := ⟨rb, 2 + rn, none⟩) yr).trans xr
  have zc8 := (hSw.cell (p := ⟨rb, 2 + an, none⟩) yr).trans xa
  go_simp
  try rfl
 try simp only [Act.put, sT, sZ, sS]
 refine' wpAnyL_take (i := 9) (oi := ⟨some 5, _, _, _, _, _⟩) (v := _) rfl (by kernel_rfl) (by kernel_rfl) (by kernel_rfl) (by kernel_rfl) (fun _ _ _ h => h) hH0 (by rfl) ?hyv ?o102
 case hyv =>
  intro wz hSw
  go_simp
  try rfl
 try simp only [Act.put, sT, sZ, sS]
 refine wpAnyL_done (by kernel_rfl) ?_ _
 have hr2 := hr.under hH0
 have hm2 := hm.under hH0
 have hi2 := hi.keep (hH0.block _ hi.lt)
 have i02 := hi2.1
 have i12 := hi2.2.1
 have i22 := hi2.2.2.1
 have i32 := hi2.2.2.2.1
 have i42 := hi2.2.2.2.2.1
 have i52 := hi2.2.2.2.2.2
 have yB2 := hi2.lt
 have yr2 := hr2.lt
 have yc2 := hm2.lt
 have c12 := hr2.c1
 have xr2 := hr2.at hrn
 rw [← HZr.out] at xr2
 have xa2 := hr2.at han
 rw [← HZa.out] at xa2
 go_wp2
 go_ret
 exact ⟨rfl, by rw [HXX.out]; exact hr2, by rw [HMM.out]; exact hm2, aside hH0⟩
end Go.Proofs.YtkgbmgpdehmiiaaDoor
