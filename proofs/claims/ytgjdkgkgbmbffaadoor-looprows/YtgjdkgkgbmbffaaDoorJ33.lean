import Derived.Test.YtgjdkgkgbmbffaaDoorJ26
import Derived.WalkKit
import Derived.WalkSpells
import Derived.IntWalk
import Derived.Deep.Cut
import Derived.Deep.LoopGhost
import Derived.Laws.Cover1
import Derived.Lib.Hide
set_option linter.unusedVariables false
set_option linter.unusedSimpArgs false
set_option maxHeartbeats 64000000
set_option maxRecDepth 100000
namespace Go.Proofs.YtgjdkgkgbmbffaaDoor
open Go.RowKit Go.IntWalk
set_option linter.unusedVariables false
set_option linter.unusedSimpArgs false
set_option maxHeartbeats 8000000 in
theorem cells17_any {w : World} {mb cb nc : Nat} {c : Int} {vP vG vS : Value} {M : List Int} (hm : MaAt w mb cb c vP vG vS nc) (hl : LB w cb M) (hn : nc = M.length) (h6 : nc ≤ 6000) :
    Calls Tryd.prog 17 #[.pointer (some ⟨mb, 0, none⟩)] w fun e w' => ∃ v', e = .returned v' ∧ OwnL kLong w.heap.size w' v' M ∧ Below w.heap.size w w' := by
  have hL := hl.ints (ok := fun _ => True) (by unfold maxLen; omega) trivial
  rw [← hn] at hL
  have HC := hide (clone66_any (show HRow kLong (fun _ => True) w (.slice (some ⟨cb, 0, none⟩) nc nc) M from hL) (by omega))
  have m4 := cell_of hm.m 4
  simp at m4
  clear hL hl hm hn
  go_enter Tryd.func17, Tryd.ntmps17
  go_wp2_with fail
  refine HC.out.mono ?_
  rintro e w' ⟨v', rfl, hO, hB⟩
  have HO := hide hO
  have HB := hide hB
  clear hO hB HC
  go_wp2
  go_ret
  exact ⟨v', rfl, HO.out, HB.out⟩
set_option maxHeartbeats 8000000 in
theorem begin13_any {w : World} {nc : Nat} {aP aG aS : Option Addr} {nP nG nS cP cG cS : Nat} (h6 : nc ≤ 6000) :
    Calls Tryd.prog 13 #[.agg #[.int .i64 (nc : Int), .slice aP nP cP, .slice aG nG cG, .slice aS nS cS]] w fun e w' => ∃ mb cb, e = .returned (.pointer (some ⟨mb, 0, none⟩)) ∧ w'.heap[mb]? = some (.cells #[.int .i64 (nc : Int), .slice aP nP cP, .slice aG nG cG, .slice aS nS cS, .slice (some ⟨cb, 0, none⟩) nc nc] 47 (0, 0)) ∧ LB w' cb (List.replicate nc 0) ∧ w.heap.size ≤ cb ∧ cb < mb ∧ Below w.heap.size w w' := by
  have b1 : Below w.heap.size w (w.alloc (.cells #[.int .i64 (nc : Int), .slice aP nP cP, .slice aG nG cG, .slice aS nS cS] 25 (0, 0))) := (Below.refl _ _).alloc (Nat.le_refl _) _
  have kR := heap_new w (.cells #[.int .i64 (nc : Int), .slice aP nP cP, .slice aG nG cG, .slice aS nS cS] 25 (0, 0))
  obtain ⟨LZ, hLZ⟩ : ∃ LZ, LZ = ((List.replicate nc (0 : Int)).map (Value.int .i64)).toArray := ⟨_, rfl⟩
  have HLZ := hide hLZ
  have HMK := hide (fun V => make_longs nc nc (Nat.le_refl _) (by omega) V)
  clear hLZ
  go_enter Tryd.func13, Tryd.ntmps13
  go_upto_region 1 with fail
  generalize w.alloc (.cells #[.int .i64 (nc : Int), .slice aP nP cP, .slice aG nG cG, .slice aS nS cS] 25 (0, 0)) = w1 at b1 kR ⊢
  have c0 := cell_of kR 0
  have c1 := cell_of kR 1
  have c2 := cell_of kR 2
  have c3 := cell_of kR 3
  simp at c0 c1 c2 c3
  have yR := lt_of kR
  refine wp_region_late (fun w' => Below w1.heap.size w1 w') (fun _ => false) (by kernel_rfl) ?_
  have hH0 : Below w1.heap.size w1 w1.drew := (Below.refl _ _).drew
  generalize w1.drew = wd0 at hH0 ⊢
  refine' wpAnyL_take (i := 0) (oi := ⟨some 3, _, _, _, _, _⟩) (v := _) rfl (by kernel_rfl) (by kernel_rfl) (by kernel_rfl) (by kernel_rfl) (fun _ _ _ h => h) hH0 (by rfl) ?hyv ?onw
  case hyv =>
    intro wz hSw
    have zc0 := (hSw.cell (p := ⟨w.heap.size, 0, none⟩) yR).trans c0
    have zc1 := (hSw.cell (p := ⟨w.heap.size, 1, none⟩) yR).trans c1
    have zc2 := (hSw.cell (p := ⟨w.heap.size, 2, none⟩) yR).trans c2
    have zc3 := (hSw.cell (p := ⟨w.heap.size, 3, none⟩) yR).trans c3
    go_simp
    try rfl
  case onw =>
    try simp only [Act.put, List.setIfInBounds_toArray, List.set_cons_zero, List.set_cons_succ]
    refine' wpAnyL_take (i := 1) (oi := ⟨some 4, _, _, _, _, _⟩) (v := _) rfl (by kernel_rfl) (by kernel_rfl) (by kernel_rfl) (by kernel_rfl) (fun _ _ _ h => h) hH0 (by rfl) ?hyv ?onw
    case hyv =>
      intro wz hSw
      go_simp
      try rfl
    case onw =>
      try simp only [Act.put, List.setIfInBounds_toArray, List.set_cons_zero, List.set_cons_succ]
      refine' wpAnyL_take (i := 2) (oi := ⟨some 5, _, _, _, _, _⟩) (v := _) rfl (by kernel_rfl) (by kernel_rfl) (by kernel_rfl) (by kernel_rfl) (fun _ _ _ h => h) hH0 (by rfl) ?hyv ?onw
      case hyv =>
        intro wz hSw
        have zc0 := (hSw.cell (p := ⟨w.heap.size, 0, none⟩) yR).trans c0
        have zc1 := (hSw.cell (p := ⟨w.heap.size, 1, none⟩) yR).trans c1
        have zc2 := (hSw.cell (p := ⟨w.heap.size, 2, none⟩) yR).trans c2
        have zc3 := (hSw.cell (p := ⟨w.heap.size, 3, none⟩) yR).trans c3
        go_simp
        try rfl
      case onw =>
        try simp only [Act.put, List.setIfInBounds_toArray, List.set_cons_zero, List.set_cons_succ]
        refine wpAnyL_one (i := 3) (o := _) rfl (by kernel_rfl) (by rfl) (fun K hK => ?_)
        have hmk1 := HMK.out wd0; rw [← HLZ.out] at hmk1; go_simp
        have hH1 : Below w1.heap.size w1 (wd0.alloc (.cells LZ 2 (0, 0))) := hH0.alloc hH0.size _
        have kn1 := heap_new wd0 (.cells LZ 2 (0, 0))
        have zn1 := hH0.size
        refine hK.out _ _ (fun _ => hH1) ?_
        clear hK K
        try simp only [Act.put, List.setIfInBounds_toArray, List.set_cons_zero, List.set_cons_succ]
        generalize wd0.alloc (.cells LZ 2 (0, 0)) = wd1 at hH1 kn1 ⊢
        clear hmk1
        refine' wpAnyL_take (i := 4) (oi := ⟨some 7, _, _, _, _, _⟩) (v := _) rfl (by kernel_rfl) (by kernel_rfl) (by kernel_rfl) (by kernel_rfl) (fun _ _ _ h => h) hH1 (by rfl) ?hyv ?onw
        case hyv =>
          intro wz hSw
          go_simp
          try rfl
        case onw =>
          try simp only [Act.put, List.setIfInBounds_toArray, List.set_cons_zero, List.set_cons_succ]
          refine wpAnyL_one (i := 5) (o := _) rfl (by kernel_rfl) (by rfl) (fun K hK => ?_)
          go_simp
          have hH2 : Below w1.heap.size w1 (wd1.alloc (.cells #[.int .i64 (nc : Int), .slice aP nP cP, .slice aG nG cG, .slice aS nS cS, .slice (some ⟨wd0.heap.size, 0, none⟩) nc nc] 47 (0, 0))) := hH1.alloc hH1.size _
          have kn2 := heap_new wd1 (.cells #[.int .i64 (nc : Int), .slice aP nP cP, .slice aG nG cG, .slice aS nS cS, .slice (some ⟨wd0.heap.size, 0, none⟩) nc nc] 47 (0, 0))
          have zn2 := hH1.size
          refine hK.out _ _ (fun _ => hH2) ?_
          clear hK K
          try simp only [Act.put, List.setIfInBounds_toArray, List.set_cons_zero, List.set_cons_succ]
          have ne2_kn1 := lt_of kn1
          have kn1_2 := (Below.heap_alloc wd1 (.cells #[.int .i64 (nc : Int), .slice aP nP cP, .slice aG nG cG, .slice aS nS cS, .slice (some ⟨wd0.heap.size, 0, none⟩) nc nc] 47 (0, 0)) _ (lt_of kn1)).trans kn1
          generalize wd1.alloc (.cells #[.int .i64 (nc : Int), .slice aP nP cP, .slice aG nG cG, .slice aS nS cS, .slice (some ⟨wd0.heap.size, 0, none⟩) nc nc] 47 (0, 0)) = wd2 at hH2 kn2 kn1_2 ⊢
          refine' wpAnyL_take (i := 6) (oi := ⟨some 2, _, _, _, _, _⟩) (v := _) rfl (by kernel_rfl) (by kernel_rfl) (by kernel_rfl) (by kernel_rfl) (fun _ _ _ h => h) hH2 (by rfl) ?hyv ?onw
          case hyv =>
            intro wz hSw
            go_simp
            try rfl
          case onw =>
            try simp only [Act.put, List.setIfInBounds_toArray, List.set_cons_zero, List.set_cons_succ]
            refine wpAnyL_done (by kernel_rfl) ?_ _
            have hlx : LB wd2 wd0.heap.size (List.replicate nc 0) := by
              unfold LB
              rw [kn1_2, HLZ.out]
            have HLX := hide hlx
            have KM := hide kn2
            have lt1 : wd0.heap.size < wd1.heap.size := lt_of kn1
            have z0 : w.heap.size ≤ wd0.heap.size := Nat.le_trans b1.size (by omega)
            have BE := b1.trans (hH2.mono b1.size)
            clear hlx
            go_wp2
            go_ret
            exact ⟨_, _, rfl, KM.out, HLX.out, z0, lt1, BE⟩
end Go.Proofs.YtgjdkgkgbmbffaaDoor
