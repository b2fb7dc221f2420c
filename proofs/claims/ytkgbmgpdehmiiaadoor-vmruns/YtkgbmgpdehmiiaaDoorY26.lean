import Derived.Test.YtkgbmgpdehmiiaaDoorY15
import Derived.Test.YtkgbmgpdehmiiaaDoorY11
import Derived.WalkKit
import Derived.WalkSpells
import Derived.IntWalk
import Derived.Deep.Cut
import Derived.Deep.LoopGhost
import Derived.Laws.Cover1
import Derived.Lib.Hide
set_option linter.unusedVariables false
set_option linter.unusedSimpArgs false
set_option maxHeartbeats 64000000
set_option maxRecDepth 100000
namespace Go.Proofs.YtkgbmgpdehmiiaaDoor
open Go.RowKit Go.IntWalk
set_option linter.unusedVariables false
set_option linter.unusedSimpArgs false
set_option maxHeartbeats 8000000 in
theorem regs32_any {ok : Nat → Prop} (c R kc : Int) {aP aB aG aL : Option Addr} {nP nB nG nL cP cB cG cL : Nat} {v : Value} {l : List Int} {w : World} (hl : HInts ok w v l) : Calls Tryd.prog 41 #[.agg #[.int .i64 c, .int .i64 R, .int .i64 kc, .slice aP nP cP, .slice aB nB cB, .slice aG nG cG, .slice aL nL cL], v] w fun e w' => e = .returned (.bool (!Cd.lacks R l)) ∧ Below w.heap.size w w' := by
  obtain ⟨ao, cap, rfl, hc1, hc2, -⟩ := hl.at
  unfold maxLen at hc2
  have b1 : Below w.heap.size w (w.alloc (.cells #[.int .i64 c, .int .i64 R, .int .i64 kc, .slice aP nP cP, .slice aB nB cB, .slice aG nG cG, .slice aL nL cL] 25 (0, 0))) := (Below.refl _ _).alloc (Nat.le_refl _) _
  have kM := heap_new w (.cells #[.int .i64 c, .int .i64 R, .int .i64 kc, .slice aP nP cP, .slice aB nB cB, .slice aG nG cG, .slice aL nL cL] 25 (0, 0))
  obtain ⟨Q, hQ⟩ : ∃ Q, Q = !Cd.lacks R l := ⟨_, rfl⟩
  rw [← hQ]
  have HR := hide (show Q = !Cd.lacks R (l.drop 0) by rw [List.drop_zero]; exact hQ)
  have HL := hide (hl.under b1)
  clear hQ hl
  obtain ⟨N, hn⟩ : ∃ n, n = l.length := ⟨_, rfl⟩
  rw [← hn] at hc1 ⊢
  have HN := hide hn
  clear hn
  go_enter Tryd.func41, Tryd.ntmps41
  go_upto_region 1 with fail
  generalize (w.alloc (.cells #[.int .i64 c, .int .i64 R, .int .i64 kc, .slice aP nP cP, .slice aB nB cB, .slice aG nG cG, .slice aL nL cL] 25 (0, 0))) = w1 at b1 kM HL ⊢
  go_wp2_with fail
  go_loopg [5] N (fun k v wr => ∃ i, i ≤ N ∧ k = N - i ∧ v = .int .i64 (i : Nat) ∧ Hid (Q = !Cd.lacks R (l.drop i)) ∧ Below w1.heap.size w1 wr)
  case atStart => exact ⟨0, Nat.zero_le _, rfl, rfl, HR, Below.refl _ _⟩
  case round =>
    clear HR
    obtain ⟨i, hi, rfl, rfl, H, hbr⟩ := hrel
    have Br := b1.trans (hbr.mono b1.size)
    have kr := (hbr.block _ (lt_of kM)).trans kM
    have s1 := cell_of kr 1
    simp at s1
    have yr := lt_of kr
    by_cases hlt : i < N
    case neg =>
      have hin : i = N := by omega
      subst hin
      have e1 : l.drop i = [] := List.drop_of_length_le (by have := HN.out; omega)
      have HZ := hide (show Q = true by rw [H.out, e1]; rfl)
      clear e1
      go_wp2
      go_ret
      exact ⟨by rw [HZ.out]; rfl, Br⟩
    case pos =>
      have hil : i < l.length := by have := HN.out; omega
      have hdr : l.drop i = l[i] :: l.drop (i + 1) := List.drop_eq_getElem_cons hil
      have hR1 := H.out
      rw [hdr] at hR1
      obtain ⟨ao', cap', eqs, -, -, hat2⟩ := (HL.out.under hbr).at
      injection eqs with q1 q2 q3
      subst q1
      obtain ⟨bb, o, rfl, hb, e0⟩ := hat2 i hil
      obtain ⟨y, hy⟩ : ∃ y, y = l[i] := ⟨_, rfl⟩
      rw [← hy] at e0 hR1
      have HR1 := hide (show Q = !(Cd.lk R y || Cd.lacks R (l.drop (i + 1))) from hR1)
      clear hat2 q2 q3 hy hdr hR1 H
      go_upto_region 4 with fail
      by_cases h1 : y < 0
      case pos =>
        have HZ := hide (show Q = false by rw [HR1.out]; simp [Cd.lk, h1])
        clear HR1
        refine wp_region_late (fun w' => Below wr.heap.size wr w') (fun _ => false) (by kernel_rfl) ?_
        have hH0 : Below wr.heap.size wr wr.drew := (Below.refl _ _).drew
        generalize wr.drew = wd0 at hH0 ⊢
        refine' wpAnyL_take (i := 0) (oi := ⟨some 12, _, _, _, _, _⟩) (v := _) rfl (by kernel_rfl) (by kernel_rfl) (by kernel_rfl) (by kernel_rfl) (fun _ _ _ h => h) hH0 (by rfl) ?hyv ?o1
        case hyv =>
          intro wz hSw
          go_simp
          try rfl
        try simp only [Act.put, sT, sZ, sS]
        refine' wpAnyL_take (i := 1) (oi := ⟨some 13, _, _, _, _, _⟩) (v := _) rfl (by kernel_rfl) (by kernel_rfl) (by kernel_rfl) (by kernel_rfl) (fun _ _ _ h => h) hH0 (by rfl) ?hyv ?o2
        case hyv =>
          intro wz hSw
          go_simp
          try rfl
        try simp only [Act.put, sT, sZ, sS]
        refine' wpAnyL_take (i := 2) (oi := ⟨some 14, _, _, _, _, _⟩) (v := _) rfl (by kernel_rfl) (by kernel_rfl) (by kernel_rfl) (by kernel_rfl) (fun _ _ _ h => h) hH0 (by rfl) ?hyv ?o3
        case hyv =>
          intro wz hSw
          go_simp
          try rfl
        try simp only [Act.put, sT, sZ, sS]
        refine' wpAnyL_take (i := 3) (oi := ⟨some 15, _, _, _, _, _⟩) (v := _) rfl (by kernel_rfl) (by kernel_rfl) (by kernel_rfl) (by kernel_rfl) (fun _ _ _ h => h) hH0 (by rfl) ?hyv ?o4
        case hyv =>
          intro wz hSw
          have zc0 := (hSw.cell (p := ⟨w.heap.size, 1, none⟩) yr).trans s1
          have zc1 := (hSw.cell (p := ⟨bb, o + i, none⟩) hb).trans e0
          go_simp
          try rfl
        try simp only [Act.put, sT, sZ, sS]
        refine' wpAnyL_take (i := 4) (oi := ⟨some 16, _, _, _, _, _⟩) (v := _) rfl (by kernel_rfl) (by kernel_rfl) (by kernel_rfl) (by kernel_rfl) (fun _ _ _ h => h) hH0 (by rfl) ?hyv ?o5
        case hyv =>
          intro wz hSw
          go_simp
          try rfl
        try simp only [Act.put, sT, sZ, sS]
        refine' wpAnyL_take (i := 5) (oi := ⟨some 17, _, _, _, _, _⟩) (v := _) rfl (by kernel_rfl) (by kernel_rfl) (by kernel_rfl) (by kernel_rfl) (fun _ _ _ h => h) hH0 (by rfl) ?hyv ?o6
        case hyv =>
          intro wz hSw
          go_simp
          try rfl
        try simp only [Act.put, sT, sZ, sS]
        refine wpAnyL_skip (i := 6) (oi := ⟨some 18, _, _, _, _, _⟩) rfl (by kernel_rfl) (by kernel_rfl) (by kernel_rfl) (by kernel_rfl) (fun _ _ _ h => h) hH0 (by rfl) ?_
        try simp only [Act.put, sT, sZ, sS]
        refine wpAnyL_skip (i := 7) (oi := ⟨some 19, _, _, _, _, _⟩) rfl (by kernel_rfl) (by kernel_rfl) (by kernel_rfl) (by kernel_rfl) (fun _ _ _ h => h) hH0 (by rfl) ?_
        try simp only [Act.put, sT, sZ, sS]
        refine wpAnyL_skip (i := 8) (oi := ⟨some 20, _, _, _, _, _⟩) rfl (by kernel_rfl) (by kernel_rfl) (by kernel_rfl) (by kernel_rfl) (fun _ _ _ h => h) hH0 (by rfl) ?_
        try simp only [Act.put, sT, sZ, sS]
        refine wpAnyL_skip (i := 9) (oi := ⟨some 21, _, _, _, _, _⟩) rfl (by kernel_rfl) (by kernel_rfl) (by kernel_rfl) (by kernel_rfl) (fun _ _ _ h => h) hH0 (by rfl) ?_
        try simp only [Act.put, sT, sZ, sS]
        refine wpAnyL_skip (i := 10) (oi := ⟨some 22, _, _, _, _, _⟩) rfl (by kernel_rfl) (by kernel_rfl) (by kernel_rfl) (by kernel_rfl) (fun _ _ _ h => h) hH0 (by rfl) ?_
        try simp only [Act.put, sT, sZ, sS]
        refine wpAnyL_skip (i := 11) (oi := ⟨some 23, _, _, _, _, _⟩) rfl (by kernel_rfl) (by kernel_rfl) (by kernel_rfl) (by kernel_rfl) (fun _ _ _ h => h) hH0 (by rfl) ?_
        try simp only [Act.put, sT, sZ, sS]
        refine wpAnyL_skip (i := 12) (oi := ⟨some 24, _, _, _, _, _⟩) rfl (by kernel_rfl) (by kernel_rfl) (by kernel_rfl) (by kernel_rfl) (fun _ _ _ h => h) hH0 (by rfl) ?_
        try simp only [Act.put, sT, sZ, sS]
        refine' wpAnyL_take (i := 13) (oi := ⟨some 25, _, _, _, _, _⟩) (v := _) rfl (by kernel_rfl) (by kernel_rfl) (by kernel_rfl) (by kernel_rfl) (fun _ _ _ h => h) hH0 (by rfl) ?hyv ?o7
        case hyv =>
          intro wz hSw
          go_simp
          try rfl
        try simp only [Act.put, sT, sZ, sS]
        refine wpAnyL_done (by kernel_rfl) ?_ _
        go_wp2
        go_ret
        exact ⟨by rw [HZ.out]; rfl, Br.trans (hH0.mono Br.size)⟩
      case neg =>
        by_cases h2 : R ≤ y
        case pos =>
          have HZ := hide (show Q = false by rw [HR1.out]; simp [Cd.lk, h2])
          clear HR1
          refine wp_region_late (fun w' => Below wr.heap.size wr w') (fun _ => false) (by kernel_rfl) ?_
          have hH0 : Below wr.heap.size wr wr.drew := (Below.refl _ _).drew
          generalize wr.drew = wd0 at hH0 ⊢
          refine' wpAnyL_take (i := 0) (oi := ⟨some 12, _, _, _, _, _⟩) (v := _) rfl (by kernel_rfl) (by kernel_rfl) (by kernel_rfl) (by kernel_rfl) (fun _ _ _ h => h) hH0 (by rfl) ?hyv ?o8
          case hyv =>
            intro wz hSw
            go_simp
            try rfl
          try simp only [Act.put, sT, sZ, sS]
          refine' wpAnyL_take (i := 1) (oi := ⟨some 13, _, _, _, _, _⟩) (v := _) rfl (by kernel_rfl) (by kernel_rfl) (by kernel_rfl) (by kernel_rfl) (fun _ _ _ h => h) hH0 (by rfl) ?hyv ?o9
          case hyv =>
            intro wz hSw
            go_simp
            try rfl
          try simp only [Act.put, sT, sZ, sS]
          refine' wpAnyL_take (i := 2) (oi := ⟨some 14, _, _, _, _, _⟩) (v := _) rfl (by kernel_rfl) (by kernel_rfl) (by kernel_rfl) (by kernel_rfl) (fun _ _ _ h => h) hH0 (by rfl) ?hyv ?o10
          case hyv =>
            intro wz hSw
            go_simp
            try rfl
          try simp only [Act.put, sT, sZ, sS]
          refine' wpAnyL_take (i := 3) (oi := ⟨some 15, _, _, _, _, _⟩) (v := _) rfl (by kernel_rfl) (by kernel_rfl) (by kernel_rfl) (by kernel_rfl) (fun _ _ _ h => h) hH0 (by rfl) ?hyv ?o11
          case hyv =>
            intro wz hSw
            have zc0 := (hSw.cell (p := ⟨w.heap.size, 1, none⟩) yr).trans s1
            have zc1 := (hSw.cell (p := ⟨bb, o + i, none⟩) hb).trans e0
            go_simp
            try rfl
          try simp only [Act.put, sT, sZ, sS]
          refine' wpAnyL_take (i := 4) (oi := ⟨some 16, _, _, _, _, _⟩) (v := _) rfl (by kernel_rfl) (by kernel_rfl) (by kernel_rfl) (by kernel_rfl) (fun _ _ _ h => h) hH0 (by rfl) ?hyv ?o12
          case hyv =>
            intro wz hSw
            go_simp
            try rfl
          try simp only [Act.put, sT, sZ, sS]
          refine' wpAnyL_take (i := 5) (oi := ⟨some 17, _, _, _, _, _⟩) (v := _) rfl (by kernel_rfl) (by kernel_rfl) (by kernel_rfl) (by kernel_rfl) (fun _ _ _ h => h) hH0 (by rfl) ?hyv ?o13
          case hyv =>
            intro wz hSw
            go_simp
            try rfl
          try simp only [Act.put, sT, sZ, sS]
          refine' wpAnyL_take (i := 6) (oi := ⟨some 18, _, _, _, _, _⟩) (v := _) rfl (by kernel_rfl) (by kernel_rfl) (by kernel_rfl) (by kernel_rfl) (fun _ _ _ h => h) hH0 (by rfl) ?hyv ?o14
          case hyv =>
            intro wz hSw
            go_simp
            try rfl
          try simp only [Act.put, sT, sZ, sS]
          refine' wpAnyL_take (i := 7) (oi := ⟨some 19, _, _, _, _, _⟩) (v := _) rfl (by kernel_rfl) (by kernel_rfl) (by kernel_rfl) (by kernel_rfl) (fun _ _ _ h => h) hH0 (by rfl) ?hyv ?o15
          case hyv =>
            intro wz hSw
            go_simp
            try rfl
          try simp only [Act.put, sT, sZ, sS]
          refine' wpAnyL_take (i := 8) (oi := ⟨some 20, _, _, _, _, _⟩) (v := _) rfl (by kernel_rfl) (by kernel_rfl) (by kernel_rfl) (by kernel_rfl) (fun _ _ _ h => h) hH0 (by rfl) ?hyv ?o16
          case hyv =>
            intro wz hSw
            go_simp
            try rfl
          try simp only [Act.put, sT, sZ, sS]
          refine' wpAnyL_take (i := 9) (oi := ⟨some 21, _, _, _, _, _⟩) (v := _) rfl (by kernel_rfl) (by kernel_rfl) (by kernel_rfl) (by kernel_rfl) (fun _ _ _ h => h) hH0 (by rfl) ?hyv ?o17
          case hyv =>
            intro wz hSw
            have zc0 := (hSw.cell (p := ⟨w.heap.size, 1, none⟩) yr).trans s1
            have zc1 := (hSw.cell (p := ⟨bb, o + i, none⟩) hb).trans e0
            go_simp
            try rfl
          try simp only [Act.put, sT, sZ, sS]
          refine' wpAnyL_take (i := 10) (oi := ⟨some 22, _, _, _, _, _⟩) (v := _) rfl (by kernel_rfl) (by kernel_rfl) (by kernel_rfl) (by kernel_rfl) (fun _ _ _ h => h) hH0 (by rfl) ?hyv ?o18
          case hyv =>
            intro wz hSw
            go_simp
            try rfl
          try simp only [Act.put, sT, sZ, sS]
          refine' wpAnyL_take (i := 11) (oi := ⟨some 23, _, _, _, _, _⟩) (v := _) rfl (by kernel_rfl) (by kernel_rfl) (by kernel_rfl) (by kernel_rfl) (fun _ _ _ h => h) hH0 (by rfl) ?hyv ?o19
          case hyv =>
            intro wz hSw
            have zc0 := (hSw.cell (p := ⟨w.heap.size, 1, none⟩) yr).trans s1
            have zc1 := (hSw.cell (p := ⟨bb, o + i, none⟩) hb).trans e0
            go_simp
            try rfl
          try simp only [Act.put, sT, sZ, sS]
          refine' wpAnyL_take (i := 12) (oi := ⟨some 24, _, _, _, _, _⟩) (v := _) rfl (by kernel_rfl) (by kernel_rfl) (by kernel_rfl) (by kernel_rfl) (fun _ _ _ h => h) hH0 (by rfl) ?hyv ?o20
          case hyv =>
            intro wz hSw
            go_simp
            try rfl
          try simp only [Act.put, sT, sZ, sS]
          refine' wpAnyL_take (i := 13) (oi := ⟨some 25, _, _, _, _, _⟩) (v := _) rfl (by kernel_rfl) (by kernel_rfl) (by kernel_rfl) (by kernel_rfl) (fun _ _ _ h => h) hH0 (by rfl) ?hyv ?o21
          case hyv =>
            intro wz hSw
            go_simp
            try rfl
          try simp only [Act.put, sT, sZ, sS]
          refine wpAnyL_done (by kernel_rfl) ?_ _
          go_wp2
          go_ret
          exact ⟨by rw [HZ.out]; rfl, Br.trans (hH0.mono Br.size)⟩
        case neg =>
          have HZ := hide (show Q = !Cd.lacks R (l.drop (i + 1)) by rw [HR1.out]; simp [Cd.lk, h1, h2])
          clear HR1
          refine wp_region_late (fun w' => Below wr.heap.size wr w') (fun _ => false) (by kernel_rfl) ?_
          have hH0 : Below wr.heap.size wr wr.drew := (Below.refl _ _).drew
          generalize wr.drew = wd0 at hH0 ⊢
          refine' wpAnyL_take (i := 0) (oi := ⟨some 12, _, _, _, _, _⟩) (v := _) rfl (by kernel_rfl) (by kernel_rfl) (by kernel_rfl) (by kernel_rfl) (fun _ _ _ h => h) hH0 (by rfl) ?hyv ?o22
          case hyv =>
            intro wz hSw
            go_simp
            try rfl
          try simp only [Act.put, sT, sZ, sS]
          refine' wpAnyL_take (i := 1) (oi := ⟨some 13, _, _, _, _, _⟩) (v := _) rfl (by kernel_rfl) (by kernel_rfl) (by kernel_rfl) (by kernel_rfl) (fun _ _ _ h => h) hH0 (by rfl) ?hyv ?o23
          case hyv =>
            intro wz hSw
            go_simp
            try rfl
          try simp only [Act.put, sT, sZ, sS]
          refine' wpAnyL_take (i := 2) (oi := ⟨some 14, _, _, _, _, _⟩) (v := _) rfl (by kernel_rfl) (by kernel_rfl) (by kernel_rfl) (by kernel_rfl) (fun _ _ _ h => h) hH0 (by rfl) ?hyv ?o24
          case hyv =>
            intro wz hSw
            go_simp
            try rfl
          try simp only [Act.put, sT, sZ, sS]
          refine' wpAnyL_take (i := 3) (oi := ⟨some 15, _, _, _, _, _⟩) (v := _) rfl (by kernel_rfl) (by kernel_rfl) (by kernel_rfl) (by kernel_rfl) (fun _ _ _ h => h) hH0 (by rfl) ?hyv ?o25
          case hyv =>
            intro wz hSw
            have zc0 := (hSw.cell (p := ⟨w.heap.size, 1, none⟩) yr).trans s1
            have zc1 := (hSw.cell (p := ⟨bb, o + i, none⟩) hb).trans e0
            go_simp
            try rfl
          try simp only [Act.put, sT, sZ, sS]
          refine' wpAnyL_take (i := 4) (oi := ⟨some 16, _, _, _, _, _⟩) (v := _) rfl (by kernel_rfl) (by kernel_rfl) (by kernel_rfl) (by kernel_rfl) (fun _ _ _ h => h) hH0 (by rfl) ?hyv ?o26
          case hyv =>
            intro wz hSw
            go_simp
            try rfl
          try simp only [Act.put, sT, sZ, sS]
          refine' wpAnyL_take (i := 5) (oi := ⟨some 17, _, _, _, _, _⟩) (v := _) rfl (by kernel_rfl) (by kernel_rfl) (by kernel_rfl) (by kernel_rfl) (fun _ _ _ h => h) hH0 (by rfl) ?hyv ?o27
          case hyv =>
            intro wz hSw
            go_simp
            try rfl
          try simp only [Act.put, sT, sZ, sS]
          refine' wpAnyL_take (i := 6) (oi := ⟨some 18, _, _, _, _, _⟩) (v := _) rfl (by kernel_rfl) (by kernel_rfl) (by kernel_rfl) (by kernel_rfl) (fun _ _ _ h => h) hH0 (by rfl) ?hyv ?o28
          case hyv =>
            intro wz hSw
            go_simp
            try rfl
          try simp only [Act.put, sT, sZ, sS]
          refine' wpAnyL_take (i := 7) (oi := ⟨some 19, _, _, _, _, _⟩) (v := _) rfl (by kernel_rfl) (by kernel_rfl) (by kernel_rfl) (by kernel_rfl) (fun _ _ _ h => h) hH0 (by rfl) ?hyv ?o29
          case hyv =>
            intro wz hSw
            go_simp
            try rfl
          try simp only [Act.put, sT, sZ, sS]
          refine' wpAnyL_take (i := 8) (oi := ⟨some 20, _, _, _, _, _⟩) (v := _) rfl (by kernel_rfl) (by kernel_rfl) (by kernel_rfl) (by kernel_rfl) (fun _ _ _ h => h) hH0 (by rfl) ?hyv ?o30
          case hyv =>
            intro wz hSw
            go_simp
            try rfl
          try simp only [Act.put, sT, sZ, sS]
          refine' wpAnyL_take (i := 9) (oi := ⟨some 21, _, _, _, _, _⟩) (v := _) rfl (by kernel_rfl) (by kernel_rfl) (by kernel_rfl) (by kernel_rfl) (fun _ _ _ h => h) hH0 (by rfl) ?hyv ?o31
          case hyv =>
            intro wz hSw
            have zc0 := (hSw.cell (p := ⟨w.heap.size, 1, none⟩) yr).trans s1
            have zc1 := (hSw.cell (p := ⟨bb, o + i, none⟩) hb).trans e0
            go_simp
            try rfl
          try simp only [Act.put, sT, sZ, sS]
          refine' wpAnyL_take (i := 10) (oi := ⟨some 22, _, _, _, _, _⟩) (v := _) rfl (by kernel_rfl) (by kernel_rfl) (by kernel_rfl) (by kernel_rfl) (fun _ _ _ h => h) hH0 (by rfl) ?hyv ?o32
          case hyv =>
            intro wz hSw
            go_simp
            try rfl
          try simp only [Act.put, sT, sZ, sS]
          refine' wpAnyL_take (i := 11) (oi := ⟨some 23, _, _, _, _, _⟩) (v := _) rfl (by kernel_rfl) (by kernel_rfl) (by kernel_rfl) (by kernel_rfl) (fun _ _ _ h => h) hH0 (by rfl) ?hyv ?o33
          case hyv =>
            intro wz hSw
            have zc0 := (hSw.cell (p := ⟨w.heap.size, 1, none⟩) yr).trans s1
            have zc1 := (hSw.cell (p := ⟨bb, o + i, none⟩) hb).trans e0
            go_simp
            try rfl
          try simp only [Act.put, sT, sZ, sS]
          refine' wpAnyL_take (i := 12) (oi := ⟨some 24, _, _, _, _, _⟩) (v := _) rfl (by kernel_rfl) (by kernel_rfl) (by kernel_rfl) (by kernel_rfl) (fun _ _ _ h => h) hH0 (by rfl) ?hyv ?o34
          case hyv =>
            intro wz hSw
            go_simp
            try rfl
          try simp only [Act.put, sT, sZ, sS]
          refine' wpAnyL_take (i := 13) (oi := ⟨some 25, _, _, _, _, _⟩) (v := _) rfl (by kernel_rfl) (by kernel_rfl) (by kernel_rfl) (by kernel_rfl) (fun _ _ _ h => h) hH0 (by rfl) ?hyv ?o35
          case hyv =>
            intro wz hSw
            go_simp
            try rfl
          try simp only [Act.put, sT, sZ, sS]
          refine wpAnyL_done (by kernel_rfl) ?_ _
          go_wp2_with fail
          go_roundg (N - (i + 1))
          case measure => omega
          case rel => exact ⟨i + 1, by omega, rfl, by go_num, HZ, hbr.trans (hH0.mono hbr.size)⟩
theorem regsLit (c R kc : Int) {aP aB aG aL : Option Addr} {nP nB nG nL cP cB cG cL : Nat} (L : List Int) (hL : L.length ≤ 4) (w : World) : Calls Tryd.prog 41 #[.agg #[.int .i64 c, .int .i64 R, .int .i64 kc, .slice aP nP cP, .slice aB nB cB, .slice aG nG cG, .slice aL nL cL], .slice (some ⟨w.heap.size, 0, none⟩) L.length L.length] (w.alloc (.cells (L.map (Value.int .i64)).toArray 3 (0, 0))) fun e w' => e = .returned (.bool (!Cd.lacks R L)) ∧ Below w.heap.size w w' := by
  have b1 : Below w.heap.size w (w.alloc (.cells (L.map (Value.int .i64)).toArray 3 (0, 0))) := (Below.refl _ _).alloc (Nat.le_refl _) _
  have h := blk_ints (heap_new w (.cells (L.map (Value.int .i64)).toArray 3 (0, 0))) (by unfold maxLen; omega)
  refine (regs32_any c R kc h).mono fun e w' ⟨h1, h2⟩ => ⟨h1, b1.trans (h2.mono b1.size)⟩
set_option maxHeartbeats 32000000 in
theorem ins19_any (c R kc : Int) {aP aB aG aL : Option Addr} {nP nB nG nL cP cB cG cL : Nat} (i : Cd.In) (w : World) (hc : 1 ≤ c ∧ c ≤ 6000) : Calls Tryd.prog 24 #[.agg #[.int .i64 c, .int .i64 R, .int .i64 kc, .slice aP nP cP, .slice aB nB cB, .slice aG nG cG, .slice aL nL cL], .agg #[.int .i64 i.op, .int .i64 i.k, .int .i64 i.r, .int .i64 i.a, .int .i64 i.b, .int .i64 i.n]] w fun e w' => e = .returned (.bool (!Cd.bars c R i)) ∧ Below w.heap.size w w' := by
  obtain ⟨op, k, r, a, b, n⟩ := i
  dsimp only
  have b1 : Below w.heap.size w ((w.alloc (.cells #[.int .i64 c, .int .i64 R, .int .i64 kc, .slice aP nP cP, .slice aB nB cB, .slice aG nG cG, .slice aL nL cL] 25 (0, 0))).alloc (.cells #[.int .i64 op, .int .i64 k, .int .i64 r, .int .i64 a, .int .i64 b, .int .i64 n] 52 (0, 0))) := ((Below.refl _ _).alloc (Nat.le_refl _) _).alloc (by simp) _
  have kR : (((w.alloc (.cells #[.int .i64 c, .int .i64 R, .int .i64 kc, .slice aP nP cP, .slice aB nB cB, .slice aG nG cG, .slice aL nL cL] 25 (0, 0))).alloc (.cells #[.int .i64 op, .int .i64 k, .int .i64 r, .int .i64 a, .int .i64 b, .int .i64 n] 52 (0, 0)))).heap[w.heap.size]? = some (.cells #[.int .i64 c, .int .i64 R, .int .i64 kc, .slice aP nP cP, .slice aB nB cB, .slice aG nG cG, .slice aL nL cL] 25 (0, 0)) := (Below.heap_alloc _ _ _ (by simp)).trans (heap_new w _)
  have kI : (((w.alloc (.cells #[.int .i64 c, .int .i64 R, .int .i64 kc, .slice aP nP cP, .slice aB nB cB, .slice aG nG cG, .slice aL nL cL] 25 (0, 0))).alloc (.cells #[.int .i64 op, .int .i64 k, .int .i64 r, .int .i64 a, .int .i64 b, .int .i64 n] 52 (0, 0)))).heap[w.heap.size + 1]? = some (.cells #[.int .i64 op, .int .i64 k, .int .i64 r, .int .i64 a, .int .i64 b, .int .i64 n] 52 (0, 0)) := by
    have := heap_new (w.alloc (.cells #[.int .i64 c, .int .i64 R, .int .i64 kc, .slice aP nP cP, .slice aB nB cB, .slice aG nG cG, .slice aL nL cL] 25 (0, 0))) (.cells #[.int .i64 op, .int .i64 k, .int .i64 r, .int .i64 a, .int .i64 b, .int .i64 n] 52 (0, 0))
    simpa using this
  have HG := hide (fun W => refOp_any k W)
  have HC := hide hc
  obtain ⟨Q, hQ⟩ : ∃ Q, Q = !Cd.bars c R ⟨op, k, r, a, b, n⟩ := ⟨_, rfl⟩
  rw [← hQ]
  have H1 := hide (fun W : World => (show Calls Tryd.prog 41 #[.agg #[.int .i64 c, .int .i64 R, .int .i64 kc, .slice aP nP cP, .slice aB nB cB, .slice aG nG cG, .slice aL nL cL], .slice (some ⟨W.heap.size, 0, none⟩) 1 1] (W.alloc (.cells #[.int .i64 r] 3 (0, 0))) fun e w' => e = .returned (.bool (!Cd.lacks R [r])) ∧ Below W.heap.size W w' from regsLit c R kc [r] (by simp) W))
  have H2 := hide (fun W : World => (show Calls Tryd.prog 41 #[.agg #[.int .i64 c, .int .i64 R, .int .i64 kc, .slice aP nP cP, .slice aB nB cB, .slice aG nG cG, .slice aL nL cL], .slice (some ⟨W.heap.size, 0, none⟩) 2 2] (W.alloc (.cells #[.int .i64 r, .int .i64 a] 3 (0, 0))) fun e w' => e = .returned (.bool (!Cd.lacks R [r, a])) ∧ Below W.heap.size W w' from regsLit c R kc [r, a] (by simp) W))
  have H3 := hide (fun W : World => (show Calls Tryd.prog 41 #[.agg #[.int .i64 c, .int .i64 R, .int .i64 kc, .slice aP nP cP, .slice aB nB cB, .slice aG nG cG, .slice aL nL cL], .slice (some ⟨W.heap.size, 0, none⟩) 3 3] (W.alloc (.cells #[.int .i64 r, .int .i64 a, .int .i64 b] 3 (0, 0))) fun e w' => e = .returned (.bool (!Cd.lacks R [r, a, b])) ∧ Below W.heap.size W w' from regsLit c R kc [r, a, b] (by simp) W))
  have hcall := HG.out
  have hQ3 : Q = !Cd.bars c R ⟨op, k, r, a, b, n⟩ := hQ
  unfold Cd.bars at hQ3
  dsimp only at hQ3
  generalize Kd.opT k = y at hcall hQ3
  obtain ⟨y1, y2, y3⟩ := y
  dsimp only at hcall hQ3
  have HQ := hide hQ3
  have HO := hide hcall
  clear hc hQ hQ3 hcall HG
  go_enter Tryd.func24, Tryd.ntmps24
  go_upto_region 1 with fail
  generalize ((w.alloc (.cells #[.int .i64 c, .int .i64 R, .int .i64 kc, .slice aP nP cP, .slice aB nB cB, .slice aG nG cG, .slice aL nL cL] 25 (0, 0))).alloc (.cells #[.int .i64 op, .int .i64 k, .int .i64 r, .int .i64 a, .int .i64 b, .int .i64 n] 52 (0, 0))) = w0 at b1 kR kI ⊢
  have i0 := cell_of kI 0
  have i1 := cell_of kI 1
  simp at i0 i1
  go_wp2_with fail
  refine (HO.out w0).mono ?_
  rintro e w1 ⟨rfl, b2⟩
  have kR1 := (b2.block _ (lt_of kR)).trans kR
  have kI1 := (b2.block _ (lt_of kI)).trans kI
  have b11 := b1.trans (b2.mono b1.size)
  clear HO i0 i1 kR kI b1
  have kR := kR1
  have kI := kI1
  have b1 := b11
  clear kR1 kI1 b11 b2
  have r0 := cell_of kR 0
  have r1 := cell_of kR 1
  have r2 := cell_of kR 2
  have r3 := cell_of kR 3
  have r4 := cell_of kR 4
  have r5 := cell_of kR 5
  have r6 := cell_of kR 6
  have i0 := cell_of kI 0
  have i1 := cell_of kI 1
  have i2 := cell_of kI 2
  have i3 := cell_of kI 3
  have i4 := cell_of kI 4
  have i5 := cell_of kI 5
  simp at r0 r1 r2 r3 r4 r5 r6 i0 i1 i2 i3 i4 i5
  by_cases h1 : op = 1
  case pos =>
    subst h1
    have hz : Q = !(Cd.lacks R [r]) := by rw [HQ.out]; simp
    have hl := H1.out w1
    obtain ⟨q, hq⟩ : ∃ q, q = Cd.lacks R [r] := ⟨_, rfl⟩
    rw [← hq] at hl
    rw [← hq] at hz
    have HZ := hide hz
    have HL := hide hl
    clear hz hl hq HQ H1 H2 H3
    go_wp2_with fail
    refine HL.out.mono ?_
    rintro e w2 ⟨rfl, b2⟩
    have B2 := b1.trans (b2.mono b1.size)
    have kR2 := (b2.block _ (lt_of kR)).trans kR
    have kI2 := (b2.block _ (lt_of kI)).trans kI
    clear r0 r1 r2 r3 r4 r5 r6 i0 i1 i2 i3 i4 i5
    clear kR kI HL
    have r0 := cell_of kR2 0
    have r1 := cell_of kR2 1
    have r2 := cell_of kR2 2
    have r3 := cell_of kR2 3
    have r4 := cell_of kR2 4
    have r5 := cell_of kR2 5
    have r6 := cell_of kR2 6
    have i0 := cell_of kI2 0
    have i1 := cell_of kI2 1
    have i2 := cell_of kI2 2
    have i3 := cell_of kI2 3
    have i4 := cell_of kI2 4
    have i5 := cell_of kI2 5
    simp at r0 r1 r2 r3 r4 r5 r6 i0 i1 i2 i3 i4 i5
    go_wp2
    go_ret
    exact ⟨by rw [HZ.out]; simp [bne], B2⟩
  by_cases h2 : op = 2
  case pos =>
    subst h2
    have hz : Q = !(Cd.lacks R [r] || !Cd.has c n 1) := by rw [HQ.out]; simp
    have hl := H1.out w1
    obtain ⟨q, hq⟩ : ∃ q, q = Cd.lacks R [r] := ⟨_, rfl⟩
    rw [← hq] at hl
    rw [← hq] at hz
    have HZ := hide hz
    have HL := hide hl
    clear hz hl hq HQ H1 H2 H3
    go_wp2_with fail
    refine HL.out.mono ?_
    rintro e w2 ⟨rfl, b2⟩
    have B2 := b1.trans (b2.mono b1.size)
    have kR2 := (b2.block _ (lt_of kR)).trans kR
    have kI2 := (b2.block _ (lt_of kI)).trans kI
    clear r0 r1 r2 r3 r4 r5 r6 i0 i1 i2 i3 i4 i5
    clear kR kI HL
    have r0 := cell_of kR2 0
    have r1 := cell_of kR2 1
    have r2 := cell_of kR2 2
    have r3 := cell_of kR2 3
    have r4 := cell_of kR2 4
    have r5 := cell_of kR2 5
    have r6 := cell_of kR2 6
    have i0 := cell_of kI2 0
    have i1 := cell_of kI2 1
    have i2 := cell_of kI2 2
    have i3 := cell_of kI2 3
    have i4 := cell_of kI2 4
    have i5 := cell_of kI2 5
    simp at r0 r1 r2 r3 r4 r5 r6 i0 i1 i2 i3 i4 i5
    cases q
    case true =>
      have HZ2 := hide (show Q = false by rw [HZ.out]; simp)
      clear HZ
      go_wp2
      go_ret
      exact ⟨by rw [HZ2.out]; (try simp); (try omega), B2⟩
    case false =>
      by_cases g1 : 0 ≤ n
      case neg =>
        have HZ2 := hide (show Q = false by rw [HZ.out]; simp [Cd.has, g1])
        clear HZ
        go_wp2
        go_ret
        exact ⟨by rw [HZ2.out]; (try simp); (try omega), B2⟩
      by_cases g2 : n < c
      case neg =>
        have HZ2 := hide (show Q = false by rw [HZ.out]; simp [Cd.has]; omega)
        clear HZ
        go_wp2
        go_ret
        exact ⟨by rw [HZ2.out]; (try simp); (try omega), B2⟩
      have HZ2 := hide (show Q = true by rw [HZ.out]; simp [Cd.has]; omega)
      clear HZ
      go_wp2
      go_ret
      exact ⟨by rw [HZ2.out]; (try simp); (try omega), B2⟩
  by_cases h4 : op = 4
  case pos =>
    subst h4
    have hz : Q = !(Cd.lacks R [r] || !Cd.has c n 1) := by rw [HQ.out]; simp
    have hl := H1.out w1
    obtain ⟨q, hq⟩ : ∃ q, q = Cd.lacks R [r] := ⟨_, rfl⟩
    rw [← hq] at hl
    rw [← hq] at hz
    have HZ := hide hz
    have HL := hide hl
    clear hz hl hq HQ H1 H2 H3
    go_wp2_with fail
    refine HL.out.mono ?_
    rintro e w2 ⟨rfl, b2⟩
    have B2 := b1.trans (b2.mono b1.size)
    have kR2 := (b2.block _ (lt_of kR)).trans kR
    have kI2 := (b2.block _ (lt_of kI)).trans kI
    clear r0 r1 r2 r3 r4 r5 r6 i0 i1 i2 i3 i4 i5
    clear kR kI HL
    have r0 := cell_of kR2 0
    have r1 := cell_of kR2 1
    have r2 := cell_of kR2 2
    have r3 := cell_of kR2 3
    have r4 := cell_of kR2 4
    have r5 := cell_of kR2 5
    have r6 := cell_of kR2 6
    have i0 := cell_of kI2 0
    have i1 := cell_of kI2 1
    have i2 := cell_of kI2 2
    have i3 := cell_of kI2 3
    have i4 := cell_of kI2 4
    have i5 := cell_of kI2 5
    simp at r0 r1 r2 r3 r4 r5 r6 i0 i1 i2 i3 i4 i5
    cases q
    case true =>
      have HZ2 := hide (show Q = false by rw [HZ.out]; simp)
      clear HZ
      go_wp2
      go_ret
      exact ⟨by rw [HZ2.out]; (try simp); (try omega), B2⟩
    case false =>
      by_cases g1 : 0 ≤ n
      case neg =>
        have HZ2 := hide (show Q = false by rw [HZ.out]; simp [Cd.has, g1])
        clear HZ
        go_wp2
        go_ret
        exact ⟨by rw [HZ2.out]; (try simp); (try omega), B2⟩
      by_cases g2 : n < c
      case neg =>
        have HZ2 := hide (show Q = false by rw [HZ.out]; simp [Cd.has]; omega)
        clear HZ
        go_wp2
        go_ret
        exact ⟨by rw [HZ2.out]; (try simp); (try omega), B2⟩
      have HZ2 := hide (show Q = true by rw [HZ.out]; simp [Cd.has]; omega)
      clear HZ
      go_wp2
      go_ret
      exact ⟨by rw [HZ2.out]; (try simp); (try omega), B2⟩
  by_cases h3 : op = 3
  case pos =>
    subst h3
    have hz : Q = !(Cd.lacks R [r, a] || decide (b < 1) || !Cd.has c n b) := by rw [HQ.out]; simp
    have hl := H2.out w1
    obtain ⟨q, hq⟩ : ∃ q, q = Cd.lacks R [r, a] := ⟨_, rfl⟩
    rw [← hq] at hl
    rw [← hq] at hz
    have HZ := hide hz
    have HL := hide hl
    clear hz hl hq HQ H1 H2 H3
    go_wp2_with fail
    refine HL.out.mono ?_
    rintro e w2 ⟨rfl, b2⟩
    have B2 := b1.trans (b2.mono b1.size)
    have kR2 := (b2.block _ (lt_of kR)).trans kR
    have kI2 := (b2.block _ (lt_of kI)).trans kI
    clear r0 r1 r2 r3 r4 r5 r6 i0 i1 i2 i3 i4 i5
    clear kR kI HL
    have r0 := cell_of kR2 0
    have r1 := cell_of kR2 1
    have r2 := cell_of kR2 2
    have r3 := cell_of kR2 3
    have r4 := cell_of kR2 4
    have r5 := cell_of kR2 5
    have r6 := cell_of kR2 6
    have i0 := cell_of kI2 0
    have i1 := cell_of kI2 1
    have i2 := cell_of kI2 2
    have i3 := cell_of kI2 3
    have i4 := cell_of kI2 4
    have i5 := cell_of kI2 5
    simp at r0 r1 r2 r3 r4 r5 r6 i0 i1 i2 i3 i4 i5
    cases q
    case true =>
      have HZ2 := hide (show Q = false by rw [HZ.out]; simp)
      clear HZ
      go_wp2
      go_ret
      exact ⟨by rw [HZ2.out]; (try simp); (try omega), B2⟩
    case false =>
      by_cases g1 : 0 ≤ n
      case neg =>
        have HZ2 := hide (show Q = false by rw [HZ.out]; simp [Cd.has, g1])
        clear HZ
        go_wp2
        go_ret
        exact ⟨by rw [HZ2.out]; (try simp); (try omega), B2⟩
      by_cases g2 : n < c
      case neg =>
        have HZ2 := hide (show Q = false by rw [HZ.out]; simp [Cd.has]; omega)
        clear HZ
        go_wp2
        go_ret
        exact ⟨by rw [HZ2.out]; (try simp); (try omega), B2⟩
      by_cases g3 : 1 ≤ b
      case neg =>
        have HZ2 := hide (show Q = false by rw [HZ.out]; simp [Cd.has]; omega)
        clear HZ
        go_wp2
        go_ret
        exact ⟨by rw [HZ2.out]; (try simp); (try omega), B2⟩
      have hw : wrap64 (c - n) = c - n := w64_in (by have := HC.out; unfold I64; omega)
      by_cases g4 : b ≤ c - n
      case neg =>
        have HZ2 := hide (show Q = false by rw [HZ.out]; simp [Cd.has]; omega)
        clear HZ
        go_wp2
        go_ret
        exact ⟨by rw [HZ2.out]; (try simp); (try omega), B2⟩
      have HZ2 := hide (show Q = true by rw [HZ.out]; simp [Cd.has]; omega)
      clear HZ
      go_wp2
      go_ret
      exact ⟨by rw [HZ2.out]; (try simp); (try omega), B2⟩
  by_cases h5 : op = 5
  case pos =>
    subst h5
    have hz : Q = !(Cd.lacks R [r, a] || decide (b < 1) || !Cd.has c n b) := by rw [HQ.out]; simp
    have hl := H2.out w1
    obtain ⟨q, hq⟩ : ∃ q, q = Cd.lacks R [r, a] := ⟨_, rfl⟩
    rw [← hq] at hl
    rw [← hq] at hz
    have HZ := hide hz
    have HL := hide hl
    clear hz hl hq HQ H1 H2 H3
    go_wp2_with fail
    refine HL.out.mono ?_
    rintro e w2 ⟨rfl, b2⟩
    have B2 := b1.trans (b2.mono b1.size)
    have kR2 := (b2.block _ (lt_of kR)).trans kR
    have kI2 := (b2.block _ (lt_of kI)).trans kI
    clear r0 r1 r2 r3 r4 r5 r6 i0 i1 i2 i3 i4 i5
    clear kR kI HL
    have r0 := cell_of kR2 0
    have r1 := cell_of kR2 1
    have r2 := cell_of kR2 2
    have r3 := cell_of kR2 3
    have r4 := cell_of kR2 4
    have r5 := cell_of kR2 5
    have r6 := cell_of kR2 6
    have i0 := cell_of kI2 0
    have i1 := cell_of kI2 1
    have i2 := cell_of kI2 2
    have i3 := cell_of kI2 3
    have i4 := cell_of kI2 4
    have i5 := cell_of kI2 5
    simp at r0 r1 r2 r3 r4 r5 r6 i0 i1 i2 i3 i4 i5
    cases q
    case true =>
      have HZ2 := hide (show Q = false by rw [HZ.out]; simp)
      clear HZ
      go_wp2
      go_ret
      exact ⟨by rw [HZ2.out]; (try simp); (try omega), B2⟩
    case false =>
      by_cases g1 : 0 ≤ n
      case neg =>
        have HZ2 := hide (show Q = false by rw [HZ.out]; simp [Cd.has, g1])
        clear HZ
        go_wp2
        go_ret
        exact ⟨by rw [HZ2.out]; (try simp); (try omega), B2⟩
      by_cases g2 : n < c
      case neg =>
        have HZ2 := hide (show Q = false by rw [HZ.out]; simp [Cd.has]; omega)
        clear HZ
        go_wp2
        go_ret
        exact ⟨by rw [HZ2.out]; (try simp); (try omega), B2⟩
      by_cases g3 : 1 ≤ b
      case neg =>
        have HZ2 := hide (show Q = false by rw [HZ.out]; simp [Cd.has]; omega)
        clear HZ
        go_wp2
        go_ret
        exact ⟨by rw [HZ2.out]; (try simp); (try omega), B2⟩
      have hw : wrap64 (c - n) = c - n := w64_in (by have := HC.out; unfold I64; omega)
      by_cases g4 : b ≤ c - n
      case neg =>
        have HZ2 := hide (show Q = false by rw [HZ.out]; simp [Cd.has]; omega)
        clear HZ
        go_wp2
        go_ret
        exact ⟨by rw [HZ2.out]; (try simp); (try omega), B2⟩
      have HZ2 := hide (show Q = true by rw [HZ.out]; simp [Cd.has]; omega)
      clear HZ
      go_wp2
      go_ret
      exact ⟨by rw [HZ2.out]; (try simp); (try omega), B2⟩
  by_cases h6 : op = 6
  case pos =>
    subst h6
    have hz : Q = !(Cd.lacks R [r, a] || (y3 != 1)) := by rw [HQ.out]; simp
    have hl := H2.out w1
    obtain ⟨q, hq⟩ : ∃ q, q = Cd.lacks R [r, a] := ⟨_, rfl⟩
    rw [← hq] at hl
    rw [← hq] at hz
    have HZ := hide hz
    have HL := hide hl
    clear hz hl hq HQ H1 H2 H3
    go_wp2_with fail
    refine HL.out.mono ?_
    rintro e w2 ⟨rfl, b2⟩
    have B2 := b1.trans (b2.mono b1.size)
    have kR2 := (b2.block _ (lt_of kR)).trans kR
    have kI2 := (b2.block _ (lt_of kI)).trans kI
    clear r0 r1 r2 r3 r4 r5 r6 i0 i1 i2 i3 i4 i5
    clear kR kI HL
    have r0 := cell_of kR2 0
    have r1 := cell_of kR2 1
    have r2 := cell_of kR2 2
    have r3 := cell_of kR2 3
    have r4 := cell_of kR2 4
    have r5 := cell_of kR2 5
    have r6 := cell_of kR2 6
    have i0 := cell_of kI2 0
    have i1 := cell_of kI2 1
    have i2 := cell_of kI2 2
    have i3 := cell_of kI2 3
    have i4 := cell_of kI2 4
    have i5 := cell_of kI2 5
    simp at r0 r1 r2 r3 r4 r5 r6 i0 i1 i2 i3 i4 i5
    cases q
    case true =>
      have HZ2 := hide (show Q = false by rw [HZ.out]; simp)
      clear HZ
      go_wp2
      go_ret
      exact ⟨by rw [HZ2.out]; (try simp); (try omega), B2⟩
    case false =>
      go_wp2
      go_ret
      exact ⟨by rw [HZ.out]; simp [bne], B2⟩
  by_cases h7 : op = 7
  case pos =>
    subst h7
    have hz : Q = !(Cd.lacks R [r, a, b] || (y3 != 2)) := by rw [HQ.out]; simp
    have hl := H3.out w1
    obtain ⟨q, hq⟩ : ∃ q, q = Cd.lacks R [r, a, b] := ⟨_, rfl⟩
    rw [← hq] at hl
    rw [← hq] at hz
    have HZ := hide hz
    have HL := hide hl
    clear hz hl hq HQ H1 H2 H3
    go_wp2_with fail
    refine HL.out.mono ?_
    rintro e w2 ⟨rfl, b2⟩
    have B2 := b1.trans (b2.mono b1.size)
    have kR2 := (b2.block _ (lt_of kR)).trans kR
    have kI2 := (b2.block _ (lt_of kI)).trans kI
    clear r0 r1 r2 r3 r4 r5 r6 i0 i1 i2 i3 i4 i5
    clear kR kI HL
    have r0 := cell_of kR2 0
    have r1 := cell_of kR2 1
    have r2 := cell_of kR2 2
    have r3 := cell_of kR2 3
    have r4 := cell_of kR2 4
    have r5 := cell_of kR2 5
    have r6 := cell_of kR2 6
    have i0 := cell_of kI2 0
    have i1 := cell_of kI2 1
    have i2 := cell_of kI2 2
    have i3 := cell_of kI2 3
    have i4 := cell_of kI2 4
    have i5 := cell_of kI2 5
    simp at r0 r1 r2 r3 r4 r5 r6 i0 i1 i2 i3 i4 i5
    cases q
    case true =>
      have HZ2 := hide (show Q = false by rw [HZ.out]; simp)
      clear HZ
      go_wp2
      go_ret
      exact ⟨by rw [HZ2.out]; (try simp); (try omega), B2⟩
    case false =>
      go_wp2
      go_ret
      exact ⟨by rw [HZ.out]; simp [bne], B2⟩
  by_cases h8 : op = 8
  case pos =>
    subst h8
    have hz : Q = !(Cd.lacks R [r, a, b]) := by rw [HQ.out]; simp
    have hl := H3.out w1
    obtain ⟨q, hq⟩ : ∃ q, q = Cd.lacks R [r, a, b] := ⟨_, rfl⟩
    rw [← hq] at hl
    rw [← hq] at hz
    have HZ := hide hz
    have HL := hide hl
    clear hz hl hq HQ H1 H2 H3
    go_wp2_with fail
    refine HL.out.mono ?_
    rintro e w2 ⟨rfl, b2⟩
    have B2 := b1.trans (b2.mono b1.size)
    have kR2 := (b2.block _ (lt_of kR)).trans kR
    have kI2 := (b2.block _ (lt_of kI)).trans kI
    clear r0 r1 r2 r3 r4 r5 r6 i0 i1 i2 i3 i4 i5
    clear kR kI HL
    have r0 := cell_of kR2 0
    have r1 := cell_of kR2 1
    have r2 := cell_of kR2 2
    have r3 := cell_of kR2 3
    have r4 := cell_of kR2 4
    have r5 := cell_of kR2 5
    have r6 := cell_of kR2 6
    have i0 := cell_of kI2 0
    have i1 := cell_of kI2 1
    have i2 := cell_of kI2 2
    have i3 := cell_of kI2 3
    have i4 := cell_of kI2 4
    have i5 := cell_of kI2 5
    simp at r0 r1 r2 r3 r4 r5 r6 i0 i1 i2 i3 i4 i5
    go_wp2
    go_ret
    exact ⟨by rw [HZ.out]; simp [bne], B2⟩
  by_cases h9 : op = 9
  case pos =>
    subst h9
    have hz : Q = !(Cd.lacks R [r, a]) := by rw [HQ.out]; simp
    have hl := H2.out w1
    obtain ⟨q, hq⟩ : ∃ q, q = Cd.lacks R [r, a] := ⟨_, rfl⟩
    rw [← hq] at hl
    rw [← hq] at hz
    have HZ := hide hz
    have HL := hide hl
    clear hz hl hq HQ H1 H2 H3
    go_wp2_with fail
    refine HL.out.mono ?_
    rintro e w2 ⟨rfl, b2⟩
    have B2 := b1.trans (b2.mono b1.size)
    have kR2 := (b2.block _ (lt_of kR)).trans kR
    have kI2 := (b2.block _ (lt_of kI)).trans kI
    clear r0 r1 r2 r3 r4 r5 r6 i0 i1 i2 i3 i4 i5
    clear kR kI HL
    have r0 := cell_of kR2 0
    have r1 := cell_of kR2 1
    have r2 := cell_of kR2 2
    have r3 := cell_of kR2 3
    have r4 := cell_of kR2 4
    have r5 := cell_of kR2 5
    have r6 := cell_of kR2 6
    have i0 := cell_of kI2 0
    have i1 := cell_of kI2 1
    have i2 := cell_of kI2 2
    have i3 := cell_of kI2 3
    have i4 := cell_of kI2 4
    have i5 := cell_of kI2 5
    simp at r0 r1 r2 r3 r4 r5 r6 i0 i1 i2 i3 i4 i5
    go_wp2
    go_ret
    exact ⟨by rw [HZ.out]; simp [bne], B2⟩
  by_cases h10 : op = 10
  case pos =>
    subst h10
    have hz : Q = !(Cd.lacks R [r] || !Cd.turn n) := by rw [HQ.out]; simp
    have hl := H1.out w1
    obtain ⟨q, hq⟩ : ∃ q, q = Cd.lacks R [r] := ⟨_, rfl⟩
    rw [← hq] at hl
    rw [← hq] at hz
    have HZ := hide hz
    have HL := hide hl
    clear hz hl hq HQ H1 H2 H3
    go_wp2_with fail
    refine HL.out.mono ?_
    rintro e w2 ⟨rfl, b2⟩
    have B2 := b1.trans (b2.mono b1.size)
    have kR2 := (b2.block _ (lt_of kR)).trans kR
    have kI2 := (b2.block _ (lt_of kI)).trans kI
    clear r0 r1 r2 r3 r4 r5 r6 i0 i1 i2 i3 i4 i5
    clear kR kI HL
    have r0 := cell_of kR2 0
    have r1 := cell_of kR2 1
    have r2 := cell_of kR2 2
    have r3 := cell_of kR2 3
    have r4 := cell_of kR2 4
    have r5 := cell_of kR2 5
    have r6 := cell_of kR2 6
    have i0 := cell_of kI2 0
    have i1 := cell_of kI2 1
    have i2 := cell_of kI2 2
    have i3 := cell_of kI2 3
    have i4 := cell_of kI2 4
    have i5 := cell_of kI2 5
    simp at r0 r1 r2 r3 r4 r5 r6 i0 i1 i2 i3 i4 i5
    cases q
    case true =>
      have HZ2 := hide (show Q = false by rw [HZ.out]; simp)
      clear HZ
      go_wp2
      go_ret
      exact ⟨by rw [HZ2.out]; (try simp); (try omega), B2⟩
    case false =>
      by_cases g1 : 1 ≤ n
      case neg =>
        have HZ2 := hide (show Q = false by rw [HZ.out]; simp [Cd.turn, g1])
        clear HZ
        go_wp2
        go_ret
        exact ⟨by rw [HZ2.out]; (try simp); (try omega), B2⟩
      by_cases g2 : n ≤ 300
      case neg =>
        have HZ2 := hide (show Q = false by rw [HZ.out]; simp [Cd.turn]; omega)
        clear HZ
        go_wp2
        go_ret
        exact ⟨by rw [HZ2.out]; (try simp); (try omega), B2⟩
      have HZ2 := hide (show Q = true by rw [HZ.out]; simp [Cd.turn]; omega)
      clear HZ
      go_wp2
      go_ret
      exact ⟨by rw [HZ2.out]; (try simp); (try omega), B2⟩
  by_cases h11 : op = 11
  case pos =>
    subst h11
    have HZ := hide (show Q = true by rw [HQ.out]; simp)
    clear HQ H1 H2 H3
    go_wp2
    go_ret
    exact ⟨by rw [HZ.out]; rfl, b1⟩
  have HZ := hide (show Q = false by rw [HQ.out]; simp [h1, h2, h4, h3, h5, h6, h7, h8, h9, h10, h11])
  clear HQ H1 H2 H3
  have g1 : (op == 1) = false := by simpa using h1
  have g2 : (op == 2) = false := by simpa using h2
  have g4 : (op == 4) = false := by simpa using h4
  have g3 : (op == 3) = false := by simpa using h3
  have g5 : (op == 5) = false := by simpa using h5
  have g6 : (op == 6) = false := by simpa using h6
  have g7 : (op == 7) = false := by simpa using h7
  have g8 : (op == 8) = false := by simpa using h8
  have g9 : (op == 9) = false := by simpa using h9
  have g10 : (op == 10) = false := by simpa using h10
  have g11 : (op == 11) = false := by simpa using h11
  clear h1 h2 h4 h3 h5 h6 h7 h8 h9 h10 h11
  go_wp2
  go_ret
  exact ⟨by rw [HZ.out]; rfl, b1⟩
end Go.Proofs.YtkgbmgpdehmiiaaDoor
