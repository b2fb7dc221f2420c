import Derived.Test.YtbiomnnlpafciaaDoorT41
import Derived.WalkKit
import Derived.WalkSpells
import Derived.IntWalk
import Derived.Deep.Cut
import Derived.Deep.LoopGhost
import Derived.Laws.Cover1
import Derived.Lib.Hide
set_option linter.unusedVariables false
set_option linter.unusedSimpArgs false
set_option maxHeartbeats 64000000
set_option maxRecDepth 100000
namespace Go.Proofs.YtbiomnnlpafciaaDoor
open Go.RowKit Go.IntWalk
set_option linter.unusedVariables false
set_option linter.unusedSimpArgs false
theorem in36_nil (a : Option Addr) (c : Nat) (x : Int) (w : World) : Calls Tryd.prog 36 #[.slice a 0 c, .int .i64 x] w fun e w' => e = .returned (.bool false) ∧ w' = w := by
  go_enter Tryd.func36, Tryd.ntmps36
  go_wp2_with fail
  go_loopg [5] 1 (fun kz v5 wr => v5 = .int .i64 0 ∧ wr = w)
  case atStart => exact ⟨rfl, rfl⟩
  case round =>
    obtain ⟨rfl, rfl⟩ := hrel
    go_wp2
    go_ret
    exact ⟨rfl, rfl⟩
set_option maxHeartbeats 8000000 in
theorem begin17_any {w : World} {nc : Nat} {R ko : Int} {aP aB aG aL : Option Addr} {np nb ng nl cP cB cG cL : Nat} (h6 : nc ≤ 6000) :
    Calls Tryd.prog 17 #[.agg #[.int .i64 (nc : Int), .int .i64 R, .int .i64 ko, .slice aP np cP, .slice aB nb cB, .slice aG ng cG, .slice aL nl cL]] w fun e w' => ∃ gb cb, e = .returned (.pointer (some ⟨gb, 0, none⟩)) ∧ GAt w' gb cb nc nc (.int .i64 (nc : Int)) (.int .i64 R) (.int .i64 ko) (.slice aP np cP) (.slice aB nb cB) (.slice aG ng cG) (.slice aL nl cL) 0 ∧ LB w' cb (List.replicate nc 0) ∧ w.heap.size ≤ cb ∧ cb < gb ∧ Below w.heap.size w w' := by
  have b1 : Below w.heap.size w (w.alloc (.cells #[.int .i64 (nc : Int), .int .i64 R, .int .i64 ko, .slice aP np cP, .slice aB nb cB, .slice aG ng cG, .slice aL nl cL] 31 (0, 0))) := (Below.refl _ _).alloc (Nat.le_refl _) _
  have kR := heap_new w (.cells #[.int .i64 (nc : Int), .int .i64 R, .int .i64 ko, .slice aP np cP, .slice aB nb cB, .slice aG ng cG, .slice aL nl cL] 31 (0, 0))
  obtain ⟨LZ, hLZ⟩ : ∃ LZ, LZ = ((List.replicate nc (0 : Int)).map (Value.int .i64)).toArray := ⟨_, rfl⟩
  have HLZ := hide hLZ
  have HMK := hide (fun V => make_longs nc nc (Nat.le_refl _) (by omega) V)
  clear hLZ
  go_enter Tryd.func17, Tryd.ntmps17
  go_upto_region 1 with fail
  generalize w.alloc (.cells #[.int .i64 (nc : Int), .int .i64 R, .int .i64 ko, .slice aP np cP, .slice aB nb cB, .slice aG ng cG, .slice aL nl cL] 31 (0, 0)) = w1 at b1 kR ⊢
  have c0 := cell_of kR 0
  have c1 := cell_of kR 1
  have c2 := cell_of kR 2
  have c3 := cell_of kR 3
  have c4 := cell_of kR 4
  have c5 := cell_of kR 5
  have c6 := cell_of kR 6
  simp at c0 c1 c2 c3 c4 c5 c6
  have yR := lt_of kR
  refine wp_region_late (fun w' => Below w1.heap.size w1 w') (fun _ => false) (by kernel_rfl) ?_
  have hH0 : Below w1.heap.size w1 w1.drew := (Below.refl _ _).drew
  generalize w1.drew = wd0 at hH0 ⊢
  refine' wpAnyL_take (i := 0) (oi := ⟨some 3, _, _, _, _, _⟩) (v := _) rfl (by kernel_rfl) (by kernel_rfl) (by kernel_rfl) (by kernel_rfl) (fun _ _ _ h => h) hH0 (by rfl) ?hyv ?onw
  case hyv =>
    intro wz hSw
    have zc0 := (hSw.cell (p := ⟨w.heap.size, 0, none⟩) yR).trans c0
    have zc1 := (hSw.cell (p := ⟨w.heap.size, 1, none⟩) yR).trans c1
    have zc2 := (hSw.cell (p := ⟨w.heap.size, 2, none⟩) yR).trans c2
    have zc3 := (hSw.cell (p := ⟨w.heap.size, 3, none⟩) yR).trans c3
    have zc4 := (hSw.cell (p := ⟨w.heap.size, 4, none⟩) yR).trans c4
    have zc5 := (hSw.cell (p := ⟨w.heap.size, 5, none⟩) yR).trans c5
    have zc6 := (hSw.cell (p := ⟨w.heap.size, 6, none⟩) yR).trans c6
    go_simp
    try rfl
  case onw =>
    try simp only [Act.put, List.setIfInBounds_toArray, List.set_cons_zero, List.set_cons_succ]
    refine' wpAnyL_take (i := 1) (oi := ⟨some 4, _, _, _, _, _⟩) (v := _) rfl (by kernel_rfl) (by kernel_rfl) (by kernel_rfl) (by kernel_rfl) (fun _ _ _ h => h) hH0 (by rfl) ?hyv ?onw
    case hyv =>
      intro wz hSw
      go_simp
      try rfl
    case onw =>
      try simp only [Act.put, List.setIfInBounds_toArray, List.set_cons_zero, List.set_cons_succ]
      refine' wpAnyL_take (i := 2) (oi := ⟨some 5, _, _, _, _, _⟩) (v := _) rfl (by kernel_rfl) (by kernel_rfl) (by kernel_rfl) (by kernel_rfl) (fun _ _ _ h => h) hH0 (by rfl) ?hyv ?onw
      case hyv =>
        intro wz hSw
        have zc0 := (hSw.cell (p := ⟨w.heap.size, 0, none⟩) yR).trans c0
        have zc1 := (hSw.cell (p := ⟨w.heap.size, 1, none⟩) yR).trans c1
        have zc2 := (hSw.cell (p := ⟨w.heap.size, 2, none⟩) yR).trans c2
        have zc3 := (hSw.cell (p := ⟨w.heap.size, 3, none⟩) yR).trans c3
        have zc4 := (hSw.cell (p := ⟨w.heap.size, 4, none⟩) yR).trans c4
        have zc5 := (hSw.cell (p := ⟨w.heap.size, 5, none⟩) yR).trans c5
        have zc6 := (hSw.cell (p := ⟨w.heap.size, 6, none⟩) yR).trans c6
        go_simp
        try rfl
      case onw =>
        try simp only [Act.put, List.setIfInBounds_toArray, List.set_cons_zero, List.set_cons_succ]
        refine wpAnyL_one (i := 3) (o := _) rfl (by kernel_rfl) (by rfl) (fun K hK => ?_)
        have hmk1 := HMK.out wd0; rw [← HLZ.out] at hmk1; go_simp
        have hH1 : Below w1.heap.size w1 (wd0.alloc (.cells LZ 2 (0, 0))) := hH0.alloc hH0.size _
        have kn1 := heap_new wd0 (.cells LZ 2 (0, 0))
        have zn1 := hH0.size
        refine hK.out _ _ (fun _ => hH1) ?_
        clear hK K
        try simp only [Act.put, List.setIfInBounds_toArray, List.set_cons_zero, List.set_cons_succ]
        generalize wd0.alloc (.cells LZ 2 (0, 0)) = wd1 at hH1 kn1 ⊢
        clear hmk1
        refine' wpAnyL_take (i := 4) (oi := ⟨some 7, _, _, _, _, _⟩) (v := _) rfl (by kernel_rfl) (by kernel_rfl) (by kernel_rfl) (by kernel_rfl) (fun _ _ _ h => h) hH1 (by rfl) ?hyv ?onw
        case hyv =>
          intro wz hSw
          go_simp
          try rfl
        case onw =>
          try simp only [Act.put, List.setIfInBounds_toArray, List.set_cons_zero, List.set_cons_succ]
          refine wpAnyL_one (i := 5) (o := _) rfl (by kernel_rfl) (by rfl) (fun K hK => ?_)
          go_simp
          have hH2 : Below w1.heap.size w1 (wd1.alloc (.cells #[.int .i64 (nc : Int), .int .i64 R, .int .i64 ko, .slice aP np cP, .slice aB nb cB, .slice aG ng cG, .slice aL nl cL, .slice (some ⟨wd0.heap.size, 0, none⟩) nc nc, .int .i64 0] 56 (0, 0))) := hH1.alloc hH1.size _
          have kn2 := heap_new wd1 (.cells #[.int .i64 (nc : Int), .int .i64 R, .int .i64 ko, .slice aP np cP, .slice aB nb cB, .slice aG ng cG, .slice aL nl cL, .slice (some ⟨wd0.heap.size, 0, none⟩) nc nc, .int .i64 0] 56 (0, 0))
          have zn2 := hH1.size
          refine hK.out _ _ (fun _ => hH2) ?_
          clear hK K
          try simp only [Act.put, List.setIfInBounds_toArray, List.set_cons_zero, List.set_cons_succ]
          have ne2_kn1 := lt_of kn1
          have kn1_2 := (Below.heap_alloc wd1 (.cells #[.int .i64 (nc : Int), .int .i64 R, .int .i64 ko, .slice aP np cP, .slice aB nb cB, .slice aG ng cG, .slice aL nl cL, .slice (some ⟨wd0.heap.size, 0, none⟩) nc nc, .int .i64 0] 56 (0, 0)) _ (lt_of kn1)).trans kn1
          generalize wd1.alloc (.cells #[.int .i64 (nc : Int), .int .i64 R, .int .i64 ko, .slice aP np cP, .slice aB nb cB, .slice aG ng cG, .slice aL nl cL, .slice (some ⟨wd0.heap.size, 0, none⟩) nc nc, .int .i64 0] 56 (0, 0)) = wd2 at hH2 kn2 kn1_2 ⊢
          refine' wpAnyL_take (i := 6) (oi := ⟨some 2, _, _, _, _, _⟩) (v := _) rfl (by kernel_rfl) (by kernel_rfl) (by kernel_rfl) (by kernel_rfl) (fun _ _ _ h => h) hH2 (by rfl) ?hyv ?onw
          case hyv =>
            intro wz hSw
            go_simp
            try rfl
          case onw =>
            try simp only [Act.put, List.setIfInBounds_toArray, List.set_cons_zero, List.set_cons_succ]
            refine wpAnyL_done (by kernel_rfl) ?_ _
            have hlx : LB wd2 wd0.heap.size (List.replicate nc 0) := by
              unfold LB
              rw [kn1_2, HLZ.out]
            have HLX := hide hlx
            have KM := hide kn2
            have lt1 : wd0.heap.size < wd1.heap.size := lt_of kn1
            have z0 : w.heap.size ≤ wd0.heap.size := Nat.le_trans b1.size (by omega)
            have BE := b1.trans (hH2.mono b1.size)
            clear hlx
            go_wp2
            go_ret
            exact ⟨_, _, rfl, KM.out, HLX.out, z0, lt1, BE⟩
end Go.Proofs.YtbiomnnlpafciaaDoor
