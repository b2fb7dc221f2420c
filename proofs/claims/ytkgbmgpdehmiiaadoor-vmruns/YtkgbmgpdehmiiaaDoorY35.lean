import Derived.Test.YtkgbmgpdehmiiaaDoorY12
import Derived.WalkKit
import Derived.WalkSpells
import Derived.IntWalk
import Derived.Deep.Cut
import Derived.Deep.LoopGhost
import Derived.Laws.Cover1
import Derived.Lib.Hide
set_option linter.unusedVariables false
set_option linter.unusedSimpArgs false
set_option maxHeartbeats 64000000
set_option maxRecDepth 100000
namespace Go.Proofs.YtkgbmgpdehmiiaaDoor
open Go.RowKit Go.IntWalk
set_option linter.unusedVariables false
set_option linter.unusedSimpArgs false
/-- what a loop's end does -/
structure TurnP (w : World) (rb : Nat) (u0 u1 : Value) (X : List Int) (pc dn lp tu : Int) (e : Ending) (w' : World) : Prop where
 e : e = .returned (.tuple #[])
 r : RB w' rb u0 u1 X pc dn lp tu
 a : Aside [rb] w.heap.size w w'
set_option maxHeartbeats 8000000 in
theorem turn57_b {w : World} {rb kb ko nl cl j : Nat} {u1 : Value} {X : List Int} {pc dn tu : Int} (hr : RB w rb (.slice (some ⟨kb, ko, none⟩) nl cl) u1 X pc dn (j : Int) tu) (m1 : kb ≠ rb) (hj : j < nl) (ht : 0 ≤ tu ∧ tu < 300) {op kk rr aa bq nn : Int} (hlt : ¬ tu + 1 < nn) (hi : InAt w kb (ko + j * 6) ⟨op, kk, rr, aa, bq, nn⟩) : Calls Tryd.prog 57 #[.pointer (some ⟨rb, 0, none⟩)] w (TurnP w rb (.slice (some ⟨kb, ko, none⟩) nl cl) u1 X pc dn (j : Int) (tu + 1)) := by
 have hjn : (j : Int) < (nl : Int) := by omega
 have hwt : wrap64 (tu + 1) = tu + 1 := Em.small64 (by omega)
 have i0 := hi.1
 have i1 := hi.2.1
 have i2 := hi.2.2.1
 have i3 := hi.2.2.2.1
 have i4 := hi.2.2.2.2.1
 have i5 := hi.2.2.2.2.2
 have yB := hi.lt
 have yr := hr.lt
 have c0 := hr.c0
 have c42 := hr.c42
 have c44 := hr.c44
 have c45 := hr.c45
 go_enter Tryd.func57, Tryd.ntmps57
 go_upto_region 0 with fail
 refine wp_region_late (fun w' => Below w.heap.size w w') (fun _ => false) (by kernel_rfl) ?_
 have hH0 : Below w.heap.size w w.drew := (Below.refl _ _).drew
 generalize w.drew = wd0 at hH0 ⊢
 refine' wpAnyL_take (i := 0) (oi := ⟨some 3, _, _, _, _, _⟩) (v := _) rfl (by kernel_rfl) (by kernel_rfl) (by kernel_rfl) (by kernel_rfl) (fun _ _ _ h => h) hH0 (by rfl) ?hyv ?o1
 case hyv =>
  intro wz hSw
  go_simp
  try rfl
 try simp only [Act.put, sT, sZ, sS]
 refine' wpAnyL_take (i := 1) (oi := ⟨some 4, _, _, _, _, _⟩) (v := _) rfl (by kernel_rfl) (by kernel_rfl) (by kernel_rfl) (by kernel_rfl) (fun _ _ _ h => h) hH0 (by rfl) ?hyv ?o2
 case hyv =>
  intro wz hSw
  go_simp
  try rfl
 try simp only [Act.put, sT, sZ, sS]
 refine' wpAnyL_take (i := 2) (oi := ⟨some 5, _, _, _, _, _⟩) (v := _) rfl (by kernel_rfl) (by kernel_rfl) (by kernel_rfl) (by kernel_rfl) (fun _ _ _ h => h) hH0 (by rfl) ?hyv ?o3
 case hyv =>
  intro wz hSw
  go_simp
  try rfl
 try simp only [Act.put, sT, sZ, sS]
 refine' wpAnyL_take (i := 3) (oi := ⟨some 6, _, _, _, _, _⟩) (v := _) rfl (by kernel_rfl) (by kernel_rfl) (by kernel_rfl) (by kernel_rfl) (fun _ _ _ h => h) hH0 (by rfl) ?hyv ?o4
 case hyv =>
  intro wz hSw
  have zc0 := (hSw.cell (p := ⟨rb, 0, none⟩) yr).trans c0
  have zc1 := (hSw.cell (p := ⟨rb, 44, none⟩) yr).trans c44
  have zc2 := (hSw.cell (p := ⟨rb, 45, none⟩) yr).trans c45
  have zc3 := (hSw.cell (p := ⟨kb, ko + j * 6, none⟩) yB).trans i0
  have zc4 := (hSw.cell (p := ⟨kb, ko + j * 6 + 1, none⟩) yB).trans i1
  have zc5 := (hSw.cell (p := ⟨kb, ko + j * 6 + 2, none⟩) yB).trans i2
  have zc6 := (hSw.cell (p := ⟨kb, ko + j * 6 + 3, none⟩) yB).trans i3
  have zc7 := (hSw.cell (p := ⟨kb, ko + j * 6 + 4, none⟩) yB).trans i4
  have zc8 := (hSw.cell (p := ⟨kb, ko + j * 6 + 5, none⟩) yB).trans i5
  go_simp
  try rfl
 try simp only [Act.put, sT, sZ, sS]
 refine' wpAnyL_take (i := 4) (oi := ⟨some 7, _, _, _, _, _⟩) (v := _) rfl (by kernel_rfl) (by kernel_rfl) (by kernel_rfl) (by kernel_rfl) (fun _ _ _ h => h) hH0 (by rfl) ?hyv ?o5
 case hyv =>
  intro wz hSw
  go_simp
  try rfl
 try simp only [Act.put, sT, sZ, sS]
 refine' wpAnyL_take (i := 5) (oi := ⟨some 8, _, _, _, _, _⟩) (v := _) rfl (by kernel_rfl) (by kernel_rfl) (by kernel_rfl) (by kernel_rfl) (fun _ _ _ h => h) hH0 (by rfl) ?hyv ?o6
 case hyv =>
  intro wz hSw
  go_simp
  try rfl
 try simp only [Act.put, sT, sZ, sS]
 refine' wpAnyL_take (i := 6) (oi := ⟨some 9, _, _, _, _, _⟩) (v := _) rfl (by kernel_rfl) (by kernel_rfl) (by kernel_rfl) (by kernel_rfl) (fun _ _ _ h => h) hH0 (by rfl) ?hyv ?o7
 case hyv =>
  intro wz hSw
  go_simp
  try rfl
 try simp only [Act.put, sT, sZ, sS]
 refine' wpAnyL_take (i := 7) (oi := ⟨some 10, _, _, _, _, _⟩) (v := _) rfl (by kernel_rfl) (by kernel_rfl) (by kernel_rfl) (by kernel_rfl) (fun _ _ _ h => h) hH0 (by rfl) ?hyv ?o8
 case hyv =>
  intro wz hSw
  have zc0 := (hSw.cell (p := ⟨rb, 0, none⟩) yr).trans c0
  have zc1 := (hSw.cell (p := ⟨rb, 44, none⟩) yr).trans c44
  have zc2 := (hSw.cell (p := ⟨rb, 45, none⟩) yr).trans c45
  have zc3 := (hSw.cell (p := ⟨kb, ko + j * 6, none⟩) yB).trans i0
  have zc4 := (hSw.cell (p := ⟨kb, ko + j * 6 + 1, none⟩) yB).trans i1
  have zc5 := (hSw.cell (p := ⟨kb, ko + j * 6 + 2, none⟩) yB).trans i2
  have zc6 := (hSw.cell (p := ⟨kb, ko + j * 6 + 3, none⟩) yB).trans i3
  have zc7 := (hSw.cell (p := ⟨kb, ko + j * 6 + 4, none⟩) yB).trans i4
  have zc8 := (hSw.cell (p := ⟨kb, ko + j * 6 + 5, none⟩) yB).trans i5
  go_simp
  try rfl
 try simp only [Act.put, sT, sZ, sS]
 refine' wpAnyL_take (i := 8) (oi := ⟨some 11, _, _, _, _, _⟩) (v := _) rfl (by kernel_rfl) (by kernel_rfl) (by kernel_rfl) (by kernel_rfl) (fun _ _ _ h => h) hH0 (by rfl) ?hyv ?o9
 case hyv =>
  intro wz hSw
  go_simp
  try rfl
 try simp only [Act.put, sT, sZ, sS]
 refine' wpAnyL_take (i := 9) (oi := ⟨some 2, _, _, _, _, _⟩) (v := _) rfl (by kernel_rfl) (by kernel_rfl) (by kernel_rfl) (by kernel_rfl) (fun _ _ _ h => h) hH0 (by rfl) ?hyv ?o10
 case hyv =>
  intro wz hSw
  go_simp
  try rfl
 try simp only [Act.put, sT, sZ, sS]
 refine wpAnyL_done (by kernel_rfl) ?_ _
 have hr2 := hr.under hH0
 have hi2 := hi.keep (hH0.block _ hi.lt)
 have i02 := hi2.1
 have i12 := hi2.2.1
 have i22 := hi2.2.2.1
 have i32 := hi2.2.2.2.1
 have i42 := hi2.2.2.2.2.1
 have i52 := hi2.2.2.2.2.2
 have yB2 := hi2.lt
 have yr2 := hr2.lt
 have c02 := hr2.c0
 have c422 := hr2.c42
 have c442 := hr2.c44
 have c452 := hr2.c45
 have fr2 := hr2.free 45
 have hr3 := hr2.setT (tu + 1)
 have hi3 := hi2.keep (w' := (wd0.setCell ⟨rb, 45, none⟩ (.int .i64 (tu + 1)))) (heap_set_other wd0 ⟨rb, 45, none⟩ _ (by show rb ≠ kb; exact m1.symm))
 have hq : Aside [rb] wd0.heap.size wd0 (wd0.setCell ⟨rb, 45, none⟩ (.int .i64 (tu + 1))) := Aside.setCell (by simp) _
 have a3 := (aside (S := [rb]) hH0).trans hq hH0.size
 have HR3 := hide hr3
 have HI3 := hide hi3
 have HA3 := hide a3
 clear hr3 hi3 a3 hq
 go_upto_region 2 with fail
 generalize (wd0.setCell ⟨rb, 45, none⟩ (.int .i64 (tu + 1))) = w3 at HR3 HI3 HA3 ⊢
 have hr3 := HR3.out
 have hi3 := HI3.out
 have a3 := HA3.out
 clear HR3 HI3 HA3
 have i03 := hi3.1
 have i13 := hi3.2.1
 have i23 := hi3.2.2.1
 have i33 := hi3.2.2.2.1
 have i43 := hi3.2.2.2.2.1
 have i53 := hi3.2.2.2.2.2
 have yB3 := hi3.lt
 have yr3 := hr3.lt
 have c03 := hr3.c0
 have c423 := hr3.c42
 have c443 := hr3.c44
 have c453 := hr3.c45
 go_upto_region 2 with fail
 refine wp_region_late (fun w' => Below w3.heap.size w3 w') (fun _ => false) (by kernel_rfl) ?_
 have hH0 : Below w3.heap.size w3 w3.drew := (Below.refl _ _).drew
 generalize w3.drew = wd0 at hH0 ⊢
 refine' wpAnyL_take (i := 0) (oi := ⟨some 19, _, _, _, _, _⟩) (v := _) rfl (by kernel_rfl) (by kernel_rfl) (by kernel_rfl) (by kernel_rfl) (fun _ _ _ h => h) hH0 (by rfl) ?hyv ?o11
 case hyv =>
  intro wz hSw
  go_simp
  try rfl
 try simp only [Act.put, sT, sZ, sS]
 refine' wpAnyL_take (i := 1) (oi := ⟨some 20, _, _, _, _, _⟩) (v := _) rfl (by kernel_rfl) (by kernel_rfl) (by kernel_rfl) (by kernel_rfl) (fun _ _ _ h => h) hH0 (by rfl) ?hyv ?o12
 case hyv =>
  intro wz hSw
  go_simp
  try rfl
 try simp only [Act.put, sT, sZ, sS]
 refine' wpAnyL_take (i := 2) (oi := ⟨some 21, _, _, _, _, _⟩) (v := _) rfl (by kernel_rfl) (by kernel_rfl) (by kernel_rfl) (by kernel_rfl) (fun _ _ _ h => h) hH0 (by rfl) ?hyv ?o13
 case hyv =>
  intro wz hSw
  go_simp
  try rfl
 try simp only [Act.put, sT, sZ, sS]
 refine' wpAnyL_take (i := 3) (oi := ⟨some 22, _, _, _, _, _⟩) (v := _) rfl (by kernel_rfl) (by kernel_rfl) (by kernel_rfl) (by kernel_rfl) (fun _ _ _ h => h) hH0 (by rfl) ?hyv ?o14
 case hyv =>
  intro wz hSw
  have zc0 := (hSw.cell (p := ⟨rb, 0, none⟩) yr3).trans c03
  have zc1 := (hSw.cell (p := ⟨rb, 44, none⟩) yr3).trans c443
  have zc2 := (hSw.cell (p := ⟨rb, 45, none⟩) yr3).trans c453
  have zc3 := (hSw.cell (p := ⟨kb, ko + j * 6, none⟩) yB3).trans i03
  have zc4 := (hSw.cell (p := ⟨kb, ko + j * 6 + 1, none⟩) yB3).trans i13
  have zc5 := (hSw.cell (p := ⟨kb, ko + j * 6 + 2, none⟩) yB3).trans i23
  have zc6 := (hSw.cell (p := ⟨kb, ko + j * 6 + 3, none⟩) yB3).trans i33
  have zc7 := (hSw.cell (p := ⟨kb, ko + j * 6 + 4, none⟩) yB3).trans i43
  have zc8 := (hSw.cell (p := ⟨kb, ko + j * 6 + 5, none⟩) yB3).trans i53
  go_simp
  try rfl
 try simp only [Act.put, sT, sZ, sS]
 refine' wpAnyL_take (i := 4) (oi := ⟨some 23, _, _, _, _, _⟩) (v := _) rfl (by kernel_rfl) (by kernel_rfl) (by kernel_rfl) (by kernel_rfl) (fun _ _ _ h => h) hH0 (by rfl) ?hyv ?o15
 case hyv =>
  intro wz hSw
  go_simp
  try rfl
 try simp only [Act.put, sT, sZ, sS]
 refine' wpAnyL_take (i := 5) (oi := ⟨some 24, _, _, _, _, _⟩) (v := _) rfl (by kernel_rfl) (by kernel_rfl) (by kernel_rfl) (by kernel_rfl) (fun _ _ _ h => h) hH0 (by rfl) ?hyv ?o16
 case hyv =>
  intro wz hSw
  go_simp
  try rfl
 try simp only [Act.put, sT, sZ, sS]
 refine' wpAnyL_take (i := 6) (oi := ⟨some 25, _, _, _, _, _⟩) (v := _) rfl (by kernel_rfl) (by kernel_rfl) (by kernel_rfl) (by kernel_rfl) (fun _ _ _ h => h) hH0 (by rfl) ?hyv ?o17
 case hyv =>
  intro wz hSw
  go_simp
  try rfl
 try simp only [Act.put, sT, sZ, sS]
 refine' wpAnyL_take (i := 7) (oi := ⟨some 26, _, _, _, _, _⟩) (v := _) rfl (by kernel_rfl) (by kernel_rfl) (by kernel_rfl) (by kernel_rfl) (fun _ _ _ h => h) hH0 (by rfl) ?hyv ?o18
 case hyv =>
  intro wz hSw
  have zc0 := (hSw.cell (p := ⟨rb, 0, none⟩) yr3).trans c03
  have zc1 := (hSw.cell (p := ⟨rb, 44, none⟩) yr3).trans c443
  have zc2 := (hSw.cell (p := ⟨rb, 45, none⟩) yr3).trans c453
  have zc3 := (hSw.cell (p := ⟨kb, ko + j * 6, none⟩) yB3).trans i03
  have zc4 := (hSw.cell (p := ⟨kb, ko + j * 6 + 1, none⟩) yB3).trans i13
  have zc5 := (hSw.cell (p := ⟨kb, ko + j * 6 + 2, none⟩) yB3).trans i23
  have zc6 := (hSw.cell (p := ⟨kb, ko + j * 6 + 3, none⟩) yB3).trans i33
  have zc7 := (hSw.cell (p := ⟨kb, ko + j * 6 + 4, none⟩) yB3).trans i43
  have zc8 := (hSw.cell (p := ⟨kb, ko + j * 6 + 5, none⟩) yB3).trans i53
  go_simp
  try rfl
 try simp only [Act.put, sT, sZ, sS]
 refine' wpAnyL_take (i := 8) (oi := ⟨some 27, _, _, _, _, _⟩) (v := _) rfl (by kernel_rfl) (by kernel_rfl) (by kernel_rfl) (by kernel_rfl) (fun _ _ _ h => h) hH0 (by rfl) ?hyv ?o19
 case hyv =>
  intro wz hSw
  go_simp
  try rfl
 try simp only [Act.put, sT, sZ, sS]
 refine wpAnyL_done (by kernel_rfl) ?_ _
 have hr4 := hr3.under hH0
 go_wp2
 exact bodyPost_end (v := .tuple #[]) (by simp [results, Tryd.results57, go_sem]) rfl ⟨rfl, hr4, a3.trans (aside hH0) a3.size⟩
set_option maxHeartbeats 8000000 in
theorem turn57_a {w : World} {rb kb ko nl cl j : Nat} {u1 : Value} {X : List Int} {pc dn tu : Int} (hr : RB w rb (.slice (some ⟨kb, ko, none⟩) nl cl) u1 X pc dn (j : Int) tu) (m1 : kb ≠ rb) (hj : j < nl) (ht : 0 ≤ tu ∧ tu < 300) {op kk aa bq nn : Int} (rn : Nat) (hrn : rn < X.length) (hlt : tu + 1 < nn) (hi : InAt w kb (ko + j * 6) ⟨op, kk, (rn : Int), aa, bq, nn⟩) : Calls Tryd.prog 57 #[.pointer (some ⟨rb, 0, none⟩)] w (TurnP w rb (.slice (some ⟨kb, ko, none⟩) nl cl) u1 (X.set rn (tu + 1)) (j : Int) dn (j : Int) (tu + 1)) := by
 have hjn : (j : Int) < (nl : Int) := by omega
 have hwt : wrap64 (tu + 1) = tu + 1 := Em.small64 (by omega)
 have h40r : (rn : Int) < 40 := by have := hr.l; omega
 have i0 := hi.1
 have i1 := hi.2.1
 have i2 := hi.2.2.1
 have i3 := hi.2.2.2.1
 have i4 := hi.2.2.2.2.1
 have i5 := hi.2.2.2.2.2
 have yB := hi.lt
 have yr := hr.lt
 have c0 := hr.c0
 have c42 := hr.c42
 have c44 := hr.c44
 have c45 := hr.c45
 go_enter Tryd.func57, Tryd.ntmps57
 go_upto_region 0 with fail
 refine wp_region_late (fun w' => Below w.heap.size w w') (fun _ => false) (by kernel_rfl) ?_
 have hH0 : Below w.heap.size w w.drew := (Below.refl _ _).drew
 generalize w.drew = wd0 at hH0 ⊢
 refine' wpAnyL_take (i := 0) (oi := ⟨some 3, _, _, _, _, _⟩) (v := _) rfl (by kernel_rfl) (by kernel_rfl) (by kernel_rfl) (by kernel_rfl) (fun _ _ _ h => h) hH0 (by rfl) ?hyv ?o20
 case hyv =>
  intro wz hSw
  go_simp
  try rfl
 try simp only [Act.put, sT, sZ, sS]
 refine' wpAnyL_take (i := 1) (oi := ⟨some 4, _, _, _, _, _⟩) (v := _) rfl (by kernel_rfl) (by kernel_rfl) (by kernel_rfl) (by kernel_rfl) (fun _ _ _ h => h) hH0 (by rfl) ?hyv ?o21
 case hyv =>
  intro wz hSw
  go_simp
  try rfl
 try simp only [Act.put, sT, sZ, sS]
 refine' wpAnyL_take (i := 2) (oi := ⟨some 5, _, _, _, _, _⟩) (v := _) rfl (by kernel_rfl) (by kernel_rfl) (by kernel_rfl) (by kernel_rfl) (fun _ _ _ h => h) hH0 (by rfl) ?hyv ?o22
 case hyv =>
  intro wz hSw
  go_simp
  try rfl
 try simp only [Act.put, sT, sZ, sS]
 refine' wpAnyL_take (i := 3) (oi := ⟨some 6, _, _, _, _, _⟩) (v := _) rfl (by kernel_rfl) (by kernel_rfl) (by kernel_rfl) (by kernel_rfl) (fun _ _ _ h => h) hH0 (by rfl) ?hyv ?o23
 case hyv =>
  intro wz hSw
  have zc0 := (hSw.cell (p := ⟨rb, 0, none⟩) yr).trans c0
  have zc1 := (hSw.cell (p := ⟨rb, 44, none⟩) yr).trans c44
  have zc2 := (hSw.cell (p := ⟨rb, 45, none⟩) yr).trans c45
  have zc3 := (hSw.cell (p := ⟨kb, ko + j * 6, none⟩) yB).trans i0
  have zc4 := (hSw.cell (p := ⟨kb, ko + j * 6 + 1, none⟩) yB).trans i1
  have zc5 := (hSw.cell (p := ⟨kb, ko + j * 6 + 2, none⟩) yB).trans i2
  have zc6 := (hSw.cell (p := ⟨kb, ko + j * 6 + 3, none⟩) yB).trans i3
  have zc7 := (hSw.cell (p := ⟨kb, ko + j * 6 + 4, none⟩) yB).trans i4
  have zc8 := (hSw.cell (p := ⟨kb, ko + j * 6 + 5, none⟩) yB).trans i5
  go_simp
  try rfl
 try simp only [Act.put, sT, sZ, sS]
 refine' wpAnyL_take (i := 4) (oi := ⟨some 7, _, _, _, _, _⟩) (v := _) rfl (by kernel_rfl) (by kernel_rfl) (by kernel_rfl) (by kernel_rfl) (fun _ _ _ h => h) hH0 (by rfl) ?hyv ?o24
 case hyv =>
  intro wz hSw
  go_simp
  try rfl
 try simp only [Act.put, sT, sZ, sS]
 refine' wpAnyL_take (i := 5) (oi := ⟨some 8, _, _, _, _, _⟩) (v := _) rfl (by kernel_rfl) (by kernel_rfl) (by kernel_rfl) (by kernel_rfl) (fun _ _ _ h => h) hH0 (by rfl) ?hyv ?o25
 case hyv =>
  intro wz hSw
  go_simp
  try rfl
 try simp only [Act.put, sT, sZ, sS]
 refine' wpAnyL_take (i := 6) (oi := ⟨some 9, _, _, _, _, _⟩) (v := _) rfl (by kernel_rfl) (by kernel_rfl) (by kernel_rfl) (by kernel_rfl) (fun _ _ _ h => h) hH0 (by rfl) ?hyv ?o26
 case hyv =>
  intro wz hSw
  go_simp
  try rfl
 try simp only [Act.put, sT, sZ, sS]
 refine' wpAnyL_take (i := 7) (oi := ⟨some 10, _, _, _, _, _⟩) (v := _) rfl (by kernel_rfl) (by kernel_rfl) (by kernel_rfl) (by kernel_rfl) (fun _ _ _ h => h) hH0 (by rfl) ?hyv ?o27
 case hyv =>
  intro wz hSw
  have zc0 := (hSw.cell (p := ⟨rb, 0, none⟩) yr).trans c0
  have zc1 := (hSw.cell (p := ⟨rb, 44, none⟩) yr).trans c44
  have zc2 := (hSw.cell (p := ⟨rb, 45, none⟩) yr).trans c45
  have zc3 := (hSw.cell (p := ⟨kb, ko + j * 6, none⟩) yB).trans i0
  have zc4 := (hSw.cell (p := ⟨kb, ko + j * 6 + 1, none⟩) yB).trans i1
  have zc5 := (hSw.cell (p := ⟨kb, ko + j * 6 + 2, none⟩) yB).trans i2
  have zc6 := (hSw.cell (p := ⟨kb, ko + j * 6 + 3, none⟩) yB).trans i3
  have zc7 := (hSw.cell (p := ⟨kb, ko + j * 6 + 4, none⟩) yB).trans i4
  have zc8 := (hSw.cell (p := ⟨kb, ko + j * 6 + 5, none⟩) yB).trans i5
  go_simp
  try rfl
 try simp only [Act.put, sT, sZ, sS]
 refine' wpAnyL_take (i := 8) (oi := ⟨some 11, _, _, _, _, _⟩) (v := _) rfl (by kernel_rfl) (by kernel_rfl) (by kernel_rfl) (by kernel_rfl) (fun _ _ _ h => h) hH0 (by rfl) ?hyv ?o28
 case hyv =>
  intro wz hSw
  go_simp
  try rfl
 try simp only [Act.put, sT, sZ, sS]
 refine' wpAnyL_take (i := 9) (oi := ⟨some 2, _, _, _, _, _⟩) (v := _) rfl (by kernel_rfl) (by kernel_rfl) (by kernel_rfl) (by kernel_rfl) (fun _ _ _ h => h) hH0 (by rfl) ?hyv ?o29
 case hyv =>
  intro wz hSw
  go_simp
  try rfl
 try simp only [Act.put, sT, sZ, sS]
 refine wpAnyL_done (by kernel_rfl) ?_ _
 have hr2 := hr.under hH0
 have hi2 := hi.keep (hH0.block _ hi.lt)
 have i02 := hi2.1
 have i12 := hi2.2.1
 have i22 := hi2.2.2.1
 have i32 := hi2.2.2.2.1
 have i42 := hi2.2.2.2.2.1
 have i52 := hi2.2.2.2.2.2
 have yB2 := hi2.lt
 have yr2 := hr2.lt
 have c02 := hr2.c0
 have c422 := hr2.c42
 have c442 := hr2.c44
 have c452 := hr2.c45
 have fr2 := hr2.free 45
 have hr3 := hr2.setT (tu + 1)
 have hi3 := hi2.keep (w' := (wd0.setCell ⟨rb, 45, none⟩ (.int .i64 (tu + 1)))) (heap_set_other wd0 ⟨rb, 45, none⟩ _ (by show rb ≠ kb; exact m1.symm))
 have hq : Aside [rb] wd0.heap.size wd0 (wd0.setCell ⟨rb, 45, none⟩ (.int .i64 (tu + 1))) := Aside.setCell (by simp) _
 have a3 := (aside (S := [rb]) hH0).trans hq hH0.size
 have HR3 := hide hr3
 have HI3 := hide hi3
 have HA3 := hide a3
 clear hr3 hi3 a3 hq
 go_upto_region 2 with fail
 generalize (wd0.setCell ⟨rb, 45, none⟩ (.int .i64 (tu + 1))) = w3 at HR3 HI3 HA3 ⊢
 have hr3 := HR3.out
 have hi3 := HI3.out
 have a3 := HA3.out
 clear HR3 HI3 HA3
 have i03 := hi3.1
 have i13 := hi3.2.1
 have i23 := hi3.2.2.1
 have i33 := hi3.2.2.2.1
 have i43 := hi3.2.2.2.2.1
 have i53 := hi3.2.2.2.2.2
 have yB3 := hi3.lt
 have yr3 := hr3.lt
 have c03 := hr3.c0
 have c423 := hr3.c42
 have c443 := hr3.c44
 have c453 := hr3.c45
 go_upto_region 2 with fail
 refine wp_region_late (fun w' => Below w3.heap.size w3 w') (fun _ => false) (by kernel_rfl) ?_
 have hH0 : Below w3.heap.size w3 w3.drew := (Below.refl _ _).drew
 generalize w3.drew = wd0 at hH0 ⊢
 refine' wpAnyL_take (i := 0) (oi := ⟨some 19, _, _, _, _, _⟩) (v := _) rfl (by kernel_rfl) (by kernel_rfl) (by kernel_rfl) (by kernel_rfl) (fun _ _ _ h => h) hH0 (by rfl) ?hyv ?o30
 case hyv =>
  intro wz hSw
  go_simp
  try rfl
 try simp only [Act.put, sT, sZ, sS]
 refine' wpAnyL_take (i := 1) (oi := ⟨some 20, _, _, _, _, _⟩) (v := _) rfl (by kernel_rfl) (by kernel_rfl) (by kernel_rfl) (by kernel_rfl) (fun _ _ _ h => h) hH0 (by rfl) ?hyv ?o31
 case hyv =>
  intro wz hSw
  go_simp
  try rfl
 try simp only [Act.put, sT, sZ, sS]
 refine' wpAnyL_take (i := 2) (oi := ⟨some 21, _, _, _, _, _⟩) (v := _) rfl (by kernel_rfl) (by kernel_rfl) (by kernel_rfl) (by kernel_rfl) (fun _ _ _ h => h) hH0 (by rfl) ?hyv ?o32
 case hyv =>
  intro wz hSw
  go_simp
  try rfl
 try simp only [Act.put, sT, sZ, sS]
 refine' wpAnyL_take (i := 3) (oi := ⟨some 22, _, _, _, _, _⟩) (v := _) rfl (by kernel_rfl) (by kernel_rfl) (by kernel_rfl) (by kernel_rfl) (fun _ _ _ h => h) hH0 (by rfl) ?hyv ?o33
 case hyv =>
  intro wz hSw
  have zc0 := (hSw.cell (p := ⟨rb, 0, none⟩) yr3).trans c03
  have zc1 := (hSw.cell (p := ⟨rb, 44, none⟩) yr3).trans c443
  have zc2 := (hSw.cell (p := ⟨rb, 45, none⟩) yr3).trans c453
  have zc3 := (hSw.cell (p := ⟨kb, ko + j * 6, none⟩) yB3).trans i03
  have zc4 := (hSw.cell (p := ⟨kb, ko + j * 6 + 1, none⟩) yB3).trans i13
  have zc5 := (hSw.cell (p := ⟨kb, ko + j * 6 + 2, none⟩) yB3).trans i23
  have zc6 := (hSw.cell (p := ⟨kb, ko + j * 6 + 3, none⟩) yB3).trans i33
  have zc7 := (hSw.cell (p := ⟨kb, ko + j * 6 + 4, none⟩) yB3).trans i43
  have zc8 := (hSw.cell (p := ⟨kb, ko + j * 6 + 5, none⟩) yB3).trans i53
  go_simp
  try rfl
 try simp only [Act.put, sT, sZ, sS]
 refine' wpAnyL_take (i := 4) (oi := ⟨some 23, _, _, _, _, _⟩) (v := _) rfl (by kernel_rfl) (by kernel_rfl) (by kernel_rfl) (by kernel_rfl) (fun _ _ _ h => h) hH0 (by rfl) ?hyv ?o34
 case hyv =>
  intro wz hSw
  go_simp
  try rfl
 try simp only [Act.put, sT, sZ, sS]
 refine' wpAnyL_take (i := 5) (oi := ⟨some 24, _, _, _, _, _⟩) (v := _) rfl (by kernel_rfl) (by kernel_rfl) (by kernel_rfl) (by kernel_rfl) (fun _ _ _ h => h) hH0 (by rfl) ?hyv ?o35
 case hyv =>
  intro wz hSw
  go_simp
  try rfl
 try simp only [Act.put, sT, sZ, sS]
 refine' wpAnyL_take (i := 6) (oi := ⟨some 25, _, _, _, _, _⟩) (v := _) rfl (by kernel_rfl) (by kernel_rfl) (by kernel_rfl) (by kernel_rfl) (fun _ _ _ h => h) hH0 (by rfl) ?hyv ?o36
 case hyv =>
  intro wz hSw
  go_simp
  try rfl
 try simp only [Act.put, sT, sZ, sS]
 refine' wpAnyL_take (i := 7) (oi := ⟨some 26, _, _, _, _, _⟩) (v := _) rfl (by kernel_rfl) (by kernel_rfl) (by kernel_rfl) (by kernel_rfl) (fun _ _ _ h => h) hH0 (by rfl) ?hyv ?o37
 case hyv =>
  intro wz hSw
  have zc0 := (hSw.cell (p := ⟨rb, 0, none⟩) yr3).trans c03
  have zc1 := (hSw.cell (p := ⟨rb, 44, none⟩) yr3).trans c443
  have zc2 := (hSw.cell (p := ⟨rb, 45, none⟩) yr3).trans c453
  have zc3 := (hSw.cell (p := ⟨kb, ko + j * 6, none⟩) yB3).trans i03
  have zc4 := (hSw.cell (p := ⟨kb, ko + j * 6 + 1, none⟩) yB3).trans i13
  have zc5 := (hSw.cell (p := ⟨kb, ko + j * 6 + 2, none⟩) yB3).trans i23
  have zc6 := (hSw.cell (p := ⟨kb, ko + j * 6 + 3, none⟩) yB3).trans i33
  have zc7 := (hSw.cell (p := ⟨kb, ko + j * 6 + 4, none⟩) yB3).trans i43
  have zc8 := (hSw.cell (p := ⟨kb, ko + j * 6 + 5, none⟩) yB3).trans i53
  go_simp
  try rfl
 try simp only [Act.put, sT, sZ, sS]
 refine' wpAnyL_take (i := 8) (oi := ⟨some 27, _, _, _, _, _⟩) (v := _) rfl (by kernel_rfl) (by kernel_rfl) (by kernel_rfl) (by kernel_rfl) (fun _ _ _ h => h) hH0 (by rfl) ?hyv ?o38
 case hyv =>
  intro wz hSw
  go_simp
  try rfl
 try simp only [Act.put, sT, sZ, sS]
 refine wpAnyL_done (by kernel_rfl) ?_ _
 obtain ⟨b3⟩ : Nonempty (Below w3.heap.size w3 wd0) := ⟨hH0⟩
 have hr4 := hr3.under hH0
 have hi4 := hi3.keep (hH0.block _ hi3.lt)
 clear hr3 hi3
 have hr3 := hr4
 have hi3 := hi4
 have a4 := a3.trans (aside (S := [rb]) hH0) a3.size
 clear a3
 have a3 := a4
 clear hr4 hi4 a4
 have i05 := hi3.1
 have i15 := hi3.2.1
 have i25 := hi3.2.2.1
 have i35 := hi3.2.2.2.1
 have i45 := hi3.2.2.2.2.1
 have i55 := hi3.2.2.2.2.2
 have yB5 := hi3.lt
 have yr5 := hr3.lt
 have c05 := hr3.c0
 have c425 := hr3.c42
 have c445 := hr3.c44
 have c455 := hr3.c45
 obtain ⟨w4, hw4⟩ : ∃ x, x = wd0 := ⟨_, rfl⟩
 subst hw4
 go_upto_region 3 with fail
 refine wp_region_late (fun w' => Below w4.heap.size w4 w') (fun i => i == 12) (by kernel_rfl) ?_
 have hH0 : Below w4.heap.size w4 w4.drew := (Below.refl _ _).drew
 generalize w4.drew = wd0 at hH0 ⊢
 refine' wpAnyL_take (i := 0) (oi := ⟨some 28, _, _, _, _, _⟩) (v := _) rfl (by kernel_rfl) (by kernel_rfl) (by kernel_rfl) (by kernel_rfl) (fun _ _ _ h => h) hH0 (by rfl) ?hyv ?o39
 case hyv =>
  intro wz hSw
  go_simp
  try rfl
 try simp only [Act.put, sT, sZ, sS]
 refine' wpAnyL_take (i := 1) (oi := ⟨some 29, _, _, _, _, _⟩) (v := _) rfl (by kernel_rfl) (by kernel_rfl) (by kernel_rfl) (by kernel_rfl) (fun _ _ _ h => h) hH0 (by rfl) ?hyv ?o40
 case hyv =>
  intro wz hSw
  go_simp
  try rfl
 try simp only [Act.put, sT, sZ, sS]
 refine' wpAnyL_take (i := 2) (oi := ⟨some 30, _, _, _, _, _⟩) (v := _) rfl (by kernel_rfl) (by kernel_rfl) (by kernel_rfl) (by kernel_rfl) (fun _ _ _ h => h) hH0 (by rfl) ?hyv ?o41
 case hyv =>
  intro wz hSw
  go_simp
  try rfl
 try simp only [Act.put, sT, sZ, sS]
 refine' wpAnyL_take (i := 3) (oi := ⟨some 31, _, _, _, _, _⟩) (v := _) rfl (by kernel_rfl) (by kernel_rfl) (by kernel_rfl) (by kernel_rfl) (fun _ _ _ h => h) hH0 (by rfl) ?hyv ?o42
 case hyv =>
  intro wz hSw
  go_simp
  try rfl
 try simp only [Act.put, sT, sZ, sS]
 refine' wpAnyL_take (i := 4) (oi := ⟨some 32, _, _, _, _, _⟩) (v := _) rfl (by kernel_rfl) (by kernel_rfl) (by kernel_rfl) (by kernel_rfl) (fun _ _ _ h => h) hH0 (by rfl) ?hyv ?o43
 case hyv =>
  intro wz hSw
  have zc0 := (hSw.cell (p := ⟨rb, 0, none⟩) yr5).trans c05
  have zc1 := (hSw.cell (p := ⟨rb, 44, none⟩) yr5).trans c445
  have zc2 := (hSw.cell (p := ⟨rb, 45, none⟩) yr5).trans c455
  have zc3 := (hSw.cell (p := ⟨kb, ko + j * 6, none⟩) yB5).trans i05
  have zc4 := (hSw.cell (p := ⟨kb, ko + j * 6 + 1, none⟩) yB5).trans i15
  have zc5 := (hSw.cell (p := ⟨kb, ko + j * 6 + 2, none⟩) yB5).trans i25
  have zc6 := (hSw.cell (p := ⟨kb, ko + j * 6 + 3, none⟩) yB5).trans i35
  have zc7 := (hSw.cell (p := ⟨kb, ko + j * 6 + 4, none⟩) yB5).trans i45
  have zc8 := (hSw.cell (p := ⟨kb, ko + j * 6 + 5, none⟩) yB5).trans i55
  go_simp
  try rfl
 try simp only [Act.put, sT, sZ, sS]
 refine' wpAnyL_take (i := 5) (oi := ⟨some 33, _, _, _, _, _⟩) (v := _) rfl (by kernel_rfl) (by kernel_rfl) (by kernel_rfl) (by kernel_rfl) (fun _ _ _ h => h) hH0 (by rfl) ?hyv ?o44
 case hyv =>
  intro wz hSw
  go_simp
  try rfl
 try simp only [Act.put, sT, sZ, sS]
 refine' wpAnyL_take (i := 6) (oi := ⟨some 34, _, _, _, _, _⟩) (v := _) rfl (by kernel_rfl) (by kernel_rfl) (by kernel_rfl) (by kernel_rfl) (fun _ _ _ h => h) hH0 (by rfl) ?hyv ?o45
 case hyv =>
  intro wz hSw
  go_simp
  try rfl
 try simp only [Act.put, sT, sZ, sS]
 refine' wpAnyL_take (i := 7) (oi := ⟨some 35, _, _, _, _, _⟩) (v := _) rfl (by kernel_rfl) (by kernel_rfl) (by kernel_rfl) (by kernel_rfl) (fun _ _ _ h => h) hH0 (by rfl) ?hyv ?o46
 case hyv =>
  intro wz hSw
  go_simp
  try rfl
 try simp only [Act.put, sT, sZ, sS]
 refine' wpAnyL_take (i := 8) (oi := ⟨some 36, _, _, _, _, _⟩) (v := _) rfl (by kernel_rfl) (by kernel_rfl) (by kernel_rfl) (by kernel_rfl) (fun _ _ _ h => h) hH0 (by rfl) ?hyv ?o47
 case hyv =>
  intro wz hSw
  have zc0 := (hSw.cell (p := ⟨rb, 0, none⟩) yr5).trans c05
  have zc1 := (hSw.cell (p := ⟨rb, 44, none⟩) yr5).trans c445
  have zc2 := (hSw.cell (p := ⟨rb, 45, none⟩) yr5).trans c455
  have zc3 := (hSw.cell (p := ⟨kb, ko + j * 6, none⟩) yB5).trans i05
  have zc4 := (hSw.cell (p := ⟨kb, ko + j * 6 + 1, none⟩) yB5).trans i15
  have zc5 := (hSw.cell (p := ⟨kb, ko + j * 6 + 2, none⟩) yB5).trans i25
  have zc6 := (hSw.cell (p := ⟨kb, ko + j * 6 + 3, none⟩) yB5).trans i35
  have zc7 := (hSw.cell (p := ⟨kb, ko + j * 6 + 4, none⟩) yB5).trans i45
  have zc8 := (hSw.cell (p := ⟨kb, ko + j * 6 + 5, none⟩) yB5).trans i55
  go_simp
  try rfl
 try simp only [Act.put, sT, sZ, sS]
 refine wpAnyL_one (i := 9) (o := _) rfl (by kernel_rfl) (by rfl) (fun K hK => ?_)
 go_simp
 refine hK.out _ _ (fun _ => hH0) ?_
 clear hK K
 try simp only [Act.put, sT, sZ, sS]
 have hH1 := hH0
 rename World => wd1
 refine wpAnyL_one (i := 10) (o := _) rfl (by kernel_rfl) (by rfl) (fun K hK => ?_)
 go_simp
 refine hK.out _ _ (fun _ => hH1) ?_
 clear hK K
 try simp only [Act.put, sT, sZ, sS]
 have hH2 := hH1
 rename World => wd2
 refine' wpAnyL_take (i := 11) (oi := ⟨some 39, _, _, _, _, _⟩) (v := _) rfl (by kernel_rfl) (by kernel_rfl) (by kernel_rfl) (by kernel_rfl) (fun _ _ _ h => h) hH2 (by rfl) ?hyv ?o48
 case hyv =>
  intro wz hSw
  go_simp
  try rfl
 try simp only [Act.put, sT, sZ, sS]
 refine wpAnyL_one (i := 12) (o := _) rfl (by kernel_rfl) (by rfl) (fun K hK => ?_)
 have kX := hr3.under hH2
 have fr := kX.free (2 + rn)
 have st0 := kX.at hrn
 go_simp
 have hq : Aside [rb] wd2.heap.size wd2 (wd2.setCell ⟨rb, 2 + rn, none⟩ (.int .i64 (tu + 1))) := Aside.setCell (by simp) _
 have hA3 : Aside [rb] w4.heap.size w4 (wd2.setCell ⟨rb, 2 + rn, none⟩ (.int .i64 (tu + 1))) := (aside hH2).trans hq hH2.size
 have kE := kX.setR hrn (tu + 1)
 refine hK.out _ _ (fun h => absurd h (by decide)) ?_
 clear hK K kX fr st0 hq
 try simp only [Act.put, sT, sZ, sS]
 generalize wd2.setCell ⟨rb, 2 + rn, none⟩ (.int .i64 (tu + 1)) = wd3 at hA3 kE ⊢
 have hH3 := hA3
 refine wpAnyL_done (by kernel_rfl) ?_ _
 have hr4 := kE
 have c44z := hr4.c44
 have c42z := hr4.c42
 have frz := hr4.free 42
 have kP := hr4.setP (j : Int)
 have hqz : Aside [rb] wd3.heap.size wd3 (wd3.setCell ⟨rb, 42, none⟩ (.int .i64 (j : Int))) := Aside.setCell (by simp) _
 have HP := hide kP
 have HQZ := hide hqz
 clear kP hqz kE
 go_wp2
 exact bodyPost_end (v := .tuple #[]) (by simp [results, Tryd.results57, go_sem]) rfl ⟨rfl, HP.out, a3.trans ((hH3).trans HQZ.out hH3.size) a3.size⟩
set_option maxHeartbeats 4000000 in
theorem doW_any {w : World} {rb bi o : Nat} {op kk rr aa bq nn : Int} (h35 : op = 3 ∨ op = 5) (hi : InAt w bi o ⟨op, kk, rr, aa, bq, nn⟩) {Q : Ending → World → Prop} (hc : Calls Tryd.prog 54 #[.pointer (some ⟨rb, 0, none⟩), .pointer (some ⟨bi, o, none⟩)] w Q) (hQ : ∀ e w', Q e w' → ∃ ok, e = .returned (.bool ok)) : Calls Tryd.prog 42 #[.pointer (some ⟨rb, 0, none⟩), .pointer (some ⟨bi, o, none⟩)] w Q := by
 have i0 := hi.1
 have HC := hide hc
 have HQ := hide hQ
 clear hc hQ hi
 rcases h35 with rfl | rfl
 all_goals
  go_enter Tryd.func42, Tryd.ntmps42
  go_wp2_with fail
  refine HC.out.mono ?_
  intro e w' h
  obtain ⟨ok, rfl⟩ := HQ.out e w' h
  have HH := hide h
  clear h HC HQ
  go_wp2
  exact HH.out
set_option maxHeartbeats 4000000 in
theorem do11_any {w : World} {rb bi o : Nat} {kk rr aa bq nn : Int} (hi : InAt w bi o ⟨11, kk, rr, aa, bq, nn⟩) {Q : Ending → World → Prop} (hc : Calls Tryd.prog 57 #[.pointer (some ⟨rb, 0, none⟩)] w Q) (hQ : ∀ e w', Q e w' → e = .returned (.tuple #[])) : Calls Tryd.prog 42 #[.pointer (some ⟨rb, 0, none⟩), .pointer (some ⟨bi, o, none⟩)] w fun e w' => e = .returned (.bool true) ∧ Q (.returned (.tuple #[])) w' := by
 have i0 := hi.1
 have HC := hide hc
 have HQ := hide hQ
 clear hc hQ hi
 go_enter Tryd.func42, Tryd.ntmps42
 go_wp2_with fail
 refine HC.out.mono ?_
 intro e w' h
 obtain rfl := HQ.out e w' h
 have HH := hide h
 clear h HC HQ
 go_wp2
 go_ret
 exact ⟨rfl, HH.out⟩
set_option maxHeartbeats 8000000 in
theorem do10_any {w : World} {rb cb bi o : Nat} {u0 u1 : Value} {X M : List Int} {pc dn lp tu : Int} (hr : RB w rb u0 u1 X pc dn lp tu) (hm : LX w cb M) (n1 : rb ≠ cb) (m1 : bi ≠ rb) {kk aa bq nn : Int} (rn : Nat) (hrn : rn < X.length) (hi : InAt w bi o ⟨10, kk, (rn : Int), aa, bq, nn⟩) : Calls Tryd.prog 42 #[.pointer (some ⟨rb, 0, none⟩), .pointer (some ⟨bi, o, none⟩)] w (DoP w rb cb u0 u1 (X.set rn 0) M pc dn pc 0 true) := by
 have h40r : (rn : Int) < 40 := by have := hr.l; omega
 have i0 := hi.1
 have c42 := hr.c42
 have c44 := hr.c44
 have f44 := hr.free 44
 have hr1 := hr.setL pc
 have c45 := hr1.c45
 have f45 := hr1.free 45
 have hr2 := hr1.setT 0
 have hm1 := hm.keep (w' := (w.setCell ⟨rb, 44, none⟩ (.int .i64 pc))) (heap_set_other w ⟨rb, 44, none⟩ _ (by show rb ≠ cb; exact n1))
 have hm2 := hm1.keep (w' := ((w.setCell ⟨rb, 44, none⟩ (.int .i64 pc)).setCell ⟨rb, 45, none⟩ (.int .i64 0))) (heap_set_other (w.setCell ⟨rb, 44, none⟩ (.int .i64 pc)) ⟨rb, 45, none⟩ _ (by show rb ≠ cb; exact n1))
 have hi1 := hi.keep (w' := (w.setCell ⟨rb, 44, none⟩ (.int .i64 pc))) (heap_set_other w ⟨rb, 44, none⟩ _ (by show rb ≠ bi; exact m1.symm))
 have hi2 := hi1.keep (w' := ((w.setCell ⟨rb, 44, none⟩ (.int .i64 pc)).setCell ⟨rb, 45, none⟩ (.int .i64 0))) (heap_set_other (w.setCell ⟨rb, 44, none⟩ (.int .i64 pc)) ⟨rb, 45, none⟩ _ (by show rb ≠ bi; exact m1.symm))
 have q1 : Aside [rb, cb] w.heap.size w (w.setCell ⟨rb, 44, none⟩ (.int .i64 pc)) := Aside.setCell (by simp) _
 have q2 : Aside [rb, cb] (w.setCell ⟨rb, 44, none⟩ (.int .i64 pc)).heap.size (w.setCell ⟨rb, 44, none⟩ (.int .i64 pc)) ((w.setCell ⟨rb, 44, none⟩ (.int .i64 pc)).setCell ⟨rb, 45, none⟩ (.int .i64 0)) := Aside.setCell (by simp) _
 have a2 := q1.trans q2 q1.size
 have HR2 := hide hr2
 have HM2 := hide hm2
 have HI2 := hide hi2
 have HA2 := hide a2
 clear hr hm hr1 hr2 hm1 hm2 hi hi1 hi2 q1 q2 a2
 go_enter Tryd.func42, Tryd.ntmps42
 go_upto_region 22 with fail
 generalize ((w.setCell ⟨rb, 44, none⟩ (.int .i64 pc)).setCell ⟨rb, 45, none⟩ (.int .i64 0)) = w3 at HR2 HM2 HI2 HA2 ⊢
 have hr3 := HR2.out
 have hm3 := HM2.out
 have hi3 := HI2.out
 have a3 := HA2.out
 clear HR2 HM2 HI2 HA2 i0 c42 c44 f44 c45 f45
 have i2 := hi3.2.2.1
 have yB := hi3.lt
 go_upto_region 22 with fail
 refine wp_region_late (fun w' => Below w3.heap.size w3 w') (fun i => i == 7) (by kernel_rfl) ?_
 have hH0 : Below w3.heap.size w3 w3.drew := (Below.refl _ _).drew
 generalize w3.drew = wd0 at hH0 ⊢
 refine' wpAnyL_take (i := 0) (oi := ⟨some 163, _, _, _, _, _⟩) (v := _) rfl (by kernel_rfl) (by kernel_rfl) (by kernel_rfl) (by kernel_rfl) (fun _ _ _ h => h) hH0 (by rfl) ?hyv ?o49
 case hyv =>
  intro wz hSw
  go_simp
  try rfl
 try simp only [Act.put, sT, sZ, sS]
 refine' wpAnyL_take (i := 1) (oi := ⟨some 164, _, _, _, _, _⟩) (v := _) rfl (by kernel_rfl) (by kernel_rfl) (by kernel_rfl) (by kernel_rfl) (fun _ _ _ h => h) hH0 (by rfl) ?hyv ?o50
 case hyv =>
  intro wz hSw
  go_simp
  try rfl
 try simp only [Act.put, sT, sZ, sS]
 refine' wpAnyL_take (i := 2) (oi := ⟨some 165, _, _, _, _, _⟩) (v := _) rfl (by kernel_rfl) (by kernel_rfl) (by kernel_rfl) (by kernel_rfl) (fun _ _ _ h => h) hH0 (by rfl) ?hyv ?o51
 case hyv =>
  intro wz hSw
  go_simp
  try rfl
 try simp only [Act.put, sT, sZ, sS]
 refine' wpAnyL_take (i := 3) (oi := ⟨some 166, _, _, _, _, _⟩) (v := _) rfl (by kernel_rfl) (by kernel_rfl) (by kernel_rfl) (by kernel_rfl) (fun _ _ _ h => h) hH0 (by rfl) ?hyv ?o52
 case hyv =>
  intro wz hSw
  go_simp
  try rfl
 try simp only [Act.put, sT, sZ, sS]
 refine' wpAnyL_take (i := 4) (oi := ⟨some 167, _, _, _, _, _⟩) (v := _) rfl (by kernel_rfl) (by kernel_rfl) (by kernel_rfl) (by kernel_rfl) (fun _ _ _ h => h) hH0 (by rfl) ?hyv ?o53
 case hyv =>
  intro wz hSw
  have zc0 := (hSw.cell (p := ⟨bi, o + 2, none⟩) yB).trans i2
  go_simp
  try rfl
 try simp only [Act.put, sT, sZ, sS]
 refine wpAnyL_one (i := 5) (o := _) rfl (by kernel_rfl) (by rfl) (fun K hK => ?_)
 go_simp
 refine hK.out _ _ (fun _ => hH0) ?_
 clear hK K
 try simp only [Act.put, sT, sZ, sS]
 have hH1 := hH0
 rename World => wd1
 refine' wpAnyL_take (i := 6) (oi := ⟨some 169, _, _, _, _, _⟩) (v := _) rfl (by kernel_rfl) (by kernel_rfl) (by kernel_rfl) (by kernel_rfl) (fun _ _ _ h => h) hH1 (by rfl) ?hyv ?o54
 case hyv =>
  intro wz hSw
  go_simp
  try rfl
 try simp only [Act.put, sT, sZ, sS]
 refine wpAnyL_one (i := 7) (o := _) rfl (by kernel_rfl) (by rfl) (fun K hK => ?_)
 have kX := hr3.under hH1
 have fr := kX.free (2 + rn)
 have st0 := kX.at hrn
 go_simp
 have hq : Aside [rb, cb] wd1.heap.size wd1 (wd1.setCell ⟨rb, 2 + rn, none⟩ (.int .i64 0)) := Aside.setCell (by simp) _
 have hA2 : Aside [rb, cb] w3.heap.size w3 (wd1.setCell ⟨rb, 2 + rn, none⟩ (.int .i64 0)) := (aside hH1).trans hq hH1.size
 have kE := kX.setR hrn 0
 have kM := (hm3.under hH1).keep (w' := wd1.setCell ⟨rb, 2 + rn, none⟩ (.int .i64 0)) (heap_set_other wd1 ⟨rb, 2 + rn, none⟩ _ (by show rb ≠ cb; exact n1))
 refine hK.out _ _ (fun h => absurd h (by decide)) ?_
 clear hK K kX fr st0 hq
 try simp only [Act.put, sT, sZ, sS]
 generalize wd1.setCell ⟨rb, 2 + rn, none⟩ (.int .i64 0) = wd2 at hA2 kE kM ⊢
 have hH2 := hA2
 refine wpAnyL_done (by kernel_rfl) ?_ _
 go_wp2
 go_ret
 exact ⟨rfl, kE, kM, a3.trans hH2 a3.size⟩
end Go.Proofs.YtkgbmgpdehmiiaaDoor
