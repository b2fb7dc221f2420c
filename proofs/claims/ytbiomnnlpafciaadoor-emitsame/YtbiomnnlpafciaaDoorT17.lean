import Derived.Test.YtbiomnnlpafciaaDoorT16
import Derived.WalkKit
import Derived.WalkSpells
import Derived.IntWalk
import Derived.Deep.Cut
import Derived.Deep.LoopGhost
import Derived.Laws.Cover1
import Derived.Lib.Hide
set_option linter.unusedVariables false
set_option linter.unusedSimpArgs false
set_option maxHeartbeats 64000000
set_option maxRecDepth 100000
namespace Go.Proofs.YtbiomnnlpafciaaDoor
open Go.RowKit Go.IntWalk
set_option linter.unusedVariables false
set_option linter.unusedSimpArgs false
theorem has36_b (c f n : Int) (w : World) (h : I64 (c - n)) : Calls Tryd.prog 64 #[.int .i64 c, .int .i64 f, .int .i64 n] w fun e w' => e = .returned (.bool (Lo.hasN c f n)) ∧ Below w.heap.size w w' := (has36_any c f n w h).mono fun _ _ ⟨h1, h2⟩ => ⟨h1, h2 ▸ Below.refl _ _⟩
set_option maxHeartbeats 8000000 in
theorem bars24_any {ok : Nat → Prop} {w : World} (c op k n t : Int) {F E : List Pu} {aF aE : Option Addr} {nF cF nE cE : Nat} (hG : GlobK w) (hF : HPu ok w (.slice aF nF cF) F) (hE : HPu ok w (.slice aE nE cE) E) (hWF : Lo.PW F) (hWE : Lo.PW E) (hc : 1 ≤ c ∧ c ≤ 6000) : Calls Tryd.prog 41 #[.int .i64 c, .agg #[.int .i64 op, .int .i64 k, .int .i64 n, .int .i64 t, .slice aF nF cF, .slice aE nE cE]] w fun e w' => e = .returned (.bool (Lo.bars c ⟨op, k, n, t, F, E⟩)) ∧ Below w.heap.size w w' := by
  have b1 : Below w.heap.size w (w.alloc (.cells #[.int .i64 op, .int .i64 k, .int .i64 n, .int .i64 t, .slice aF nF cF, .slice aE nE cE] 62 (0, 0))) := (Below.refl _ _).alloc (Nat.le_refl _) _
  have kS := heap_new w (.cells #[.int .i64 op, .int .i64 k, .int .i64 n, .int .i64 t, .slice aF nF cF, .slice aE nE cE] 62 (0, 0))
  have hTu := fun W => turns37_any op k n t F E aF aE nF cF nE cE W
  have hMa := fun W => made38_any op k n t F E aF aE nF cF nE cE W
  have hFo := fun W => folds40_any op k n t F E aF aE nF cF nE cE W
  have hmt : Lo.made ⟨op, k, n, t, F, E⟩ = 1 ∨ Lo.made ⟨op, k, n, t, F, E⟩ = Lo.turns ⟨op, k, n, t, F, E⟩ := by unfold Lo.made; split; exact .inl rfl; exact .inr rfl
  unfold Lo.bars
  dsimp only
  generalize Lo.turns ⟨op, k, n, t, F, E⟩ = tu at hTu hmt ⊢
  generalize Lo.made ⟨op, k, n, t, F, E⟩ = ma at hMa hmt ⊢
  generalize Lo.folds ⟨op, k, n, t, F, E⟩ = fo at hFo ⊢
  have HTu := hide hTu
  have HMa := hide hMa
  have HFo := hide hFo
  have HA := hide (fun (h1 : 1 ≤ tu) (h2 : tu ≤ 300) W => has36_b c t ma W (by unfold I64; omega))
  have HTE := hide (fun (h1 : 1 ≤ tu) (h2 : tu ≤ 300) W (b : Below w.heap.size w W) => hasTree39_any c tu (hG.under b) (hE.under b) hWE hc ⟨h1, h2⟩)
  have HTF := hide (fun W (b : Below w.heap.size w W) => hasTree39_any c 1 (hG.under b) (hF.under b) hWF hc ⟨by decide, by decide⟩)
  have HK := hide (fun W (b : Below w.heap.size w W) => opnd41_any k W (hG.under b))
  clear hTu hMa hFo hmt hG hF hE hWF hWE hc
  generalize Lo.hasN c t ma = ha at HA ⊢
  generalize Lo.treeOK c tu E = te at HTE ⊢
  generalize Lo.treeOK c 1 F = tf at HTF ⊢
  generalize (Kd.opT k).2.2 = kq at HK ⊢
  by_cases h1 : op < 1
  case pos =>
    rw [if_pos (.inl h1)]
    go_enter Tryd.func41, Tryd.ntmps41
    go_wp2
    go_ret
    exact ⟨rfl, b1⟩
  by_cases h4 : 4 < op
  case pos =>
    rw [if_pos (.inr h4)]
    go_enter Tryd.func41, Tryd.ntmps41
    go_wp2
    go_ret
    exact ⟨rfl, b1⟩
  rw [if_neg (by omega)]
  by_cases g1 : tu < 1
  case pos =>
    rw [if_pos (.inl g1)]
    go_enter Tryd.func41, Tryd.ntmps41
    go_wp2_with (go_at_call 65; refine (HTu.out _).mono ?_; rintro e w2 ⟨rfl, b2⟩)
    go_ret
    exact ⟨rfl, b1.trans (b2.mono b1.size)⟩
  by_cases g4 : 300 < tu
  case pos =>
    rw [if_pos (.inr g4)]
    go_enter Tryd.func41, Tryd.ntmps41
    go_wp2_with (go_at_call 65; refine (HTu.out _).mono ?_; rintro e w2 ⟨rfl, b2⟩)
    go_ret
    exact ⟨rfl, b1.trans (b2.mono b1.size)⟩
  rw [if_neg (by omega)]
  have u1 : 1 ≤ tu := by omega
  have u2 : tu ≤ 300 := by omega
  obtain ⟨RR, hRR⟩ : ∃ RR, RR = (if ha = false ∨ te = false then true else fo && !(tf && kq == 2)) := ⟨_, rfl⟩
  rw [← hRR]
  have HRR := hide hRR
  clear hRR
  go_enter Tryd.func41, Tryd.ntmps41
  go_upto_region 6 with (go_at_call 65; refine (HTu.out _).mono ?_; rintro e w2 ⟨rfl, b2⟩)
  have B2 := b1.trans (b2.mono b1.size)
  have kS2 := (b2.block _ (lt_of kS)).trans kS
  clear kS b2
  have s0 := cell_of kS2 0
  have s1 := cell_of kS2 1
  have s2 := cell_of kS2 2
  have s3 := cell_of kS2 3
  have s4 := cell_of kS2 4
  have s5 := cell_of kS2 5
  simp at s0 s1 s2 s3 s4 s5
  have yS := lt_of kS2
  obtain ⟨QQ, hQQ⟩ : ∃ QQ, QQ = (!ha || !te) := ⟨_, rfl⟩
  have HQQ := hide hQQ
  clear hQQ
  go_cut [36] (fun v wd => v = .bool QQ ∧ Below w2.heap.size w2 wd)
  case first =>
    refine wp_region_late (fun w' => Below w2.heap.size w2 w') (fun _ => false) (by kernel_rfl) ?_
    have hH0 : Below w2.heap.size w2 w2.drew := (Below.refl _ _).drew
    generalize w2.drew = wd0 at hH0 ⊢
    refine' wpAnyL_take (i := 0) (oi := ⟨some 22, _, _, _, _, _⟩) (v := _) rfl (by kernel_rfl) (by kernel_rfl) (by kernel_rfl) (by kernel_rfl) (fun _ _ _ h => h) hH0 (by rfl) ?hyv ?onw
    case hyv =>
      intro wz hSw
      go_simp
      try rfl
    case onw =>
      try simp only [Act.put, List.setIfInBounds_toArray, List.set_cons_zero, List.set_cons_succ]
      refine' wpAnyL_take (i := 1) (oi := ⟨some 23, _, _, _, _, _⟩) (v := _) rfl (by kernel_rfl) (by kernel_rfl) (by kernel_rfl) (by kernel_rfl) (fun _ _ _ h => h) hH0 (by rfl) ?hyv ?onw
      case hyv =>
        intro wz hSw
        go_simp
        try rfl
      case onw =>
        try simp only [Act.put, List.setIfInBounds_toArray, List.set_cons_zero, List.set_cons_succ]
        refine' wpAnyL_take (i := 2) (oi := ⟨some 24, _, _, _, _, _⟩) (v := _) rfl (by kernel_rfl) (by kernel_rfl) (by kernel_rfl) (by kernel_rfl) (fun _ _ _ h => h) hH0 (by rfl) ?hyv ?onw
        case hyv =>
          intro wz hSw
          have zc0 := (hSw.cell (p := ⟨w.heap.size, 0, none⟩) yS).trans s0
          have zc1 := (hSw.cell (p := ⟨w.heap.size, 1, none⟩) yS).trans s1
          have zc2 := (hSw.cell (p := ⟨w.heap.size, 2, none⟩) yS).trans s2
          have zc3 := (hSw.cell (p := ⟨w.heap.size, 3, none⟩) yS).trans s3
          have zc4 := (hSw.cell (p := ⟨w.heap.size, 4, none⟩) yS).trans s4
          have zc5 := (hSw.cell (p := ⟨w.heap.size, 5, none⟩) yS).trans s5
          go_simp
          try rfl
        case onw =>
          try simp only [Act.put, List.setIfInBounds_toArray, List.set_cons_zero, List.set_cons_succ]
          refine' wpAnyL_take (i := 3) (oi := ⟨some 25, _, _, _, _, _⟩) (v := _) rfl (by kernel_rfl) (by kernel_rfl) (by kernel_rfl) (by kernel_rfl) (fun _ _ _ h => h) hH0 (by rfl) ?hyv ?onw
          case hyv =>
            intro wz hSw
            have zc0 := (hSw.cell (p := ⟨w.heap.size, 0, none⟩) yS).trans s0
            have zc1 := (hSw.cell (p := ⟨w.heap.size, 1, none⟩) yS).trans s1
            have zc2 := (hSw.cell (p := ⟨w.heap.size, 2, none⟩) yS).trans s2
            have zc3 := (hSw.cell (p := ⟨w.heap.size, 3, none⟩) yS).trans s3
            have zc4 := (hSw.cell (p := ⟨w.heap.size, 4, none⟩) yS).trans s4
            have zc5 := (hSw.cell (p := ⟨w.heap.size, 5, none⟩) yS).trans s5
            go_simp
            try rfl
          case onw =>
            try simp only [Act.put, List.setIfInBounds_toArray, List.set_cons_zero, List.set_cons_succ]
            refine wpAnyL_one (i := 4) (o := _) rfl (by kernel_rfl) (by rfl) (fun K hK => ?_)
            go_simp
            refine (HMa.out _).mono ?_
            rintro eq wd1 ⟨rfl, bq1⟩
            have hH1 : Below w2.heap.size w2 wd1 := hH0.trans (bq1.mono hH0.size)
            refine hK.out _ _ (fun _ => hH1) ?_
            clear hK K
            try simp only [Act.put, List.setIfInBounds_toArray, List.set_cons_zero, List.set_cons_succ]
            refine wpAnyL_one (i := 5) (o := _) rfl (by kernel_rfl) (by rfl) (fun K hK => ?_)
            go_simp
            refine (HA.out u1 u2 _).mono ?_
            rintro eq wd2 ⟨rfl, bq2⟩
            have hH2 : Below w2.heap.size w2 wd2 := hH1.trans (bq2.mono hH1.size)
            refine hK.out _ _ (fun _ => hH2) ?_
            clear hK K
            try simp only [Act.put, List.setIfInBounds_toArray, List.set_cons_zero, List.set_cons_succ]
            refine' wpAnyL_take (i := 6) (oi := ⟨some 28, _, _, _, _, _⟩) (v := _) rfl (by kernel_rfl) (by kernel_rfl) (by kernel_rfl) (by kernel_rfl) (fun _ _ _ h => h) hH2 (by rfl) ?hyv ?onw
            case hyv =>
              intro wz hSw
              go_simp
              try rfl
            case onw =>
              try simp only [Act.put, List.setIfInBounds_toArray, List.set_cons_zero, List.set_cons_succ]
              refine' wpAnyL_take (i := 7) (oi := ⟨some 29, _, _, _, _, _⟩) (v := _) rfl (by kernel_rfl) (by kernel_rfl) (by kernel_rfl) (by kernel_rfl) (fun _ _ _ h => h) hH2 (by rfl) ?hyv ?onw
              case hyv =>
                intro wz hSw
                go_simp
                try rfl
              case onw =>
                try simp only [Act.put, List.setIfInBounds_toArray, List.set_cons_zero, List.set_cons_succ]
                cases ha
                case false =>
                  refine wpAnyL_skip (i := 8) (oi := ⟨some 30, _, _, _, _, _⟩) rfl (by kernel_rfl) (by kernel_rfl) (by kernel_rfl) (by kernel_rfl) (fun _ _ _ h => h) hH2 (by rfl) ?_
                  try simp only [Act.put, List.setIfInBounds_toArray, List.set_cons_zero, List.set_cons_succ]
                  refine wpAnyL_skip (i := 9) (oi := ⟨some 31, _, _, _, _, _⟩) rfl (by kernel_rfl) (by kernel_rfl) (by kernel_rfl) (by kernel_rfl) (fun _ _ _ h => h) hH2 (by rfl) ?_
                  try simp only [Act.put, List.setIfInBounds_toArray, List.set_cons_zero, List.set_cons_succ]
                  refine wpAnyL_skip (i := 10) (oi := ⟨some 32, _, _, _, _, _⟩) rfl (by kernel_rfl) (by kernel_rfl) (by kernel_rfl) (by kernel_rfl) (fun _ _ _ h => h) hH2 (by rfl) ?_
                  try simp only [Act.put, List.setIfInBounds_toArray, List.set_cons_zero, List.set_cons_succ]
                  refine wpAnyL_skip (i := 11) (oi := ⟨some 33, _, _, _, _, _⟩) rfl (by kernel_rfl) (by kernel_rfl) (by kernel_rfl) (by kernel_rfl) (fun _ _ _ h => h) hH2 (by rfl) ?_
                  try simp only [Act.put, List.setIfInBounds_toArray, List.set_cons_zero, List.set_cons_succ]
                  refine wpAnyL_skip (i := 12) (oi := ⟨some 34, _, _, _, _, _⟩) rfl (by kernel_rfl) (by kernel_rfl) (by kernel_rfl) (by kernel_rfl) (fun _ _ _ h => h) hH2 (by rfl) ?_
                  try simp only [Act.put, List.setIfInBounds_toArray, List.set_cons_zero, List.set_cons_succ]
                  refine wpAnyL_skip (i := 13) (oi := ⟨some 35, _, _, _, _, _⟩) rfl (by kernel_rfl) (by kernel_rfl) (by kernel_rfl) (by kernel_rfl) (fun _ _ _ h => h) hH2 (by rfl) ?_
                  try simp only [Act.put, List.setIfInBounds_toArray, List.set_cons_zero, List.set_cons_succ]
                  refine' wpAnyL_take (i := 14) (oi := ⟨some 36, _, _, _, _, _⟩) (v := _) rfl (by kernel_rfl) (by kernel_rfl) (by kernel_rfl) (by kernel_rfl) (fun _ _ _ h => h) hH2 (by rfl) ?hyv ?onw
                  case hyv =>
                    intro wz hSw
                    go_simp
                    try rfl
                  case onw =>
                    try simp only [Act.put, List.setIfInBounds_toArray, List.set_cons_zero, List.set_cons_succ]
                    refine wpAnyL_done (by kernel_rfl) ?_ _
                    go_wp2_with fail
                    go_meet
                    case rel => exact ⟨by rw [HQQ.out]; simp, hH2⟩
                case true =>
                  refine' wpAnyL_take (i := 8) (oi := ⟨some 30, _, _, _, _, _⟩) (v := _) rfl (by kernel_rfl) (by kernel_rfl) (by kernel_rfl) (by kernel_rfl) (fun _ _ _ h => h) hH2 (by rfl) ?hyv ?onw
                  case hyv =>
                    intro wz hSw
                    go_simp
                    try rfl
                  case onw =>
                    try simp only [Act.put, List.setIfInBounds_toArray, List.set_cons_zero, List.set_cons_succ]
                    refine' wpAnyL_take (i := 9) (oi := ⟨some 31, _, _, _, _, _⟩) (v := _) rfl (by kernel_rfl) (by kernel_rfl) (by kernel_rfl) (by kernel_rfl) (fun _ _ _ h => h) hH2 (by rfl) ?hyv ?onw
                    case hyv =>
                      intro wz hSw
                      go_simp
                      try rfl
                    case onw =>
                      try simp only [Act.put, List.setIfInBounds_toArray, List.set_cons_zero, List.set_cons_succ]
                      refine' wpAnyL_take (i := 10) (oi := ⟨some 32, _, _, _, _, _⟩) (v := _) rfl (by kernel_rfl) (by kernel_rfl) (by kernel_rfl) (by kernel_rfl) (fun _ _ _ h => h) hH2 (by rfl) ?hyv ?onw
                      case hyv =>
                        intro wz hSw
                        have zc0 := (hSw.cell (p := ⟨w.heap.size, 0, none⟩) yS).trans s0
                        have zc1 := (hSw.cell (p := ⟨w.heap.size, 1, none⟩) yS).trans s1
                        have zc2 := (hSw.cell (p := ⟨w.heap.size, 2, none⟩) yS).trans s2
                        have zc3 := (hSw.cell (p := ⟨w.heap.size, 3, none⟩) yS).trans s3
                        have zc4 := (hSw.cell (p := ⟨w.heap.size, 4, none⟩) yS).trans s4
                        have zc5 := (hSw.cell (p := ⟨w.heap.size, 5, none⟩) yS).trans s5
                        go_simp
                        try rfl
                      case onw =>
                        try simp only [Act.put, List.setIfInBounds_toArray, List.set_cons_zero, List.set_cons_succ]
                        refine' wpAnyL_take (i := 11) (oi := ⟨some 33, _, _, _, _, _⟩) (v := _) rfl (by kernel_rfl) (by kernel_rfl) (by kernel_rfl) (by kernel_rfl) (fun _ _ _ h => h) hH2 (by rfl) ?hyv ?onw
                        case hyv =>
                          intro wz hSw
                          go_simp
                          try rfl
                        case onw =>
                          try simp only [Act.put, List.setIfInBounds_toArray, List.set_cons_zero, List.set_cons_succ]
                          refine wpAnyL_one (i := 12) (o := _) rfl (by kernel_rfl) (by rfl) (fun K hK => ?_)
                          go_simp
                          refine (HTE.out u1 u2 _ (B2.trans (hH2.mono B2.size))).mono ?_
                          rintro eq wd3 ⟨rfl, bq3⟩
                          have hH3 : Below w2.heap.size w2 wd3 := hH2.trans (bq3.mono hH2.size)
                          refine hK.out _ _ (fun _ => hH3) ?_
                          clear hK K
                          try simp only [Act.put, List.setIfInBounds_toArray, List.set_cons_zero, List.set_cons_succ]
                          refine' wpAnyL_take (i := 13) (oi := ⟨some 35, _, _, _, _, _⟩) (v := _) rfl (by kernel_rfl) (by kernel_rfl) (by kernel_rfl) (by kernel_rfl) (fun _ _ _ h => h) hH3 (by rfl) ?hyv ?onw
                          case hyv =>
                            intro wz hSw
                            go_simp
                            try rfl
                          case onw =>
                            try simp only [Act.put, List.setIfInBounds_toArray, List.set_cons_zero, List.set_cons_succ]
                            refine' wpAnyL_take (i := 14) (oi := ⟨some 36, _, _, _, _, _⟩) (v := _) rfl (by kernel_rfl) (by kernel_rfl) (by kernel_rfl) (by kernel_rfl) (fun _ _ _ h => h) hH3 (by rfl) ?hyv ?onw
                            case hyv =>
                              intro wz hSw
                              go_simp
                              try rfl
                            case onw =>
                              try simp only [Act.put, List.setIfInBounds_toArray, List.set_cons_zero, List.set_cons_succ]
                              refine wpAnyL_done (by kernel_rfl) ?_ _
                              go_wp2_with fail
                              go_meet
                              case rel => exact ⟨by rw [HQQ.out]; simp, hH3⟩
  case rest =>
    obtain ⟨rfl, bc⟩ := hcut
    have Bc := B2.trans (bc.mono B2.size)
    have kSc := (bc.block _ yS).trans kS2
    clear s0 s1 s2 s3 s4 s5 HMa HA HTE HTu bc kS2
    have s0 := cell_of kSc 0
    have s1 := cell_of kSc 1
    have s2 := cell_of kSc 2
    have s3 := cell_of kSc 3
    have s4 := cell_of kSc 4
    have s5 := cell_of kSc 5
    simp at s0 s1 s2 s3 s4 s5
    have e1 : RR = (QQ || (fo && !(tf && kq == 2))) := by rw [HRR.out, HQQ.out]; cases ha <;> cases te <;> simp
    clear HQQ
    cases QQ
    case true =>
      have HZ := hide (show RR = true by rw [e1]; rfl)
      clear HRR e1
      go_wp2
      go_ret
      exact ⟨by rw [HZ.out]; rfl, Bc⟩
    rw [Bool.false_or] at e1
    have HZ := hide e1
    clear HRR e1
    have HTF2 := hide (fun W (b : Below wc.heap.size wc W) => HTF.out W (Bc.trans (b.mono Bc.size)))
    have HK2 := hide (fun W (b : Below wc.heap.size wc W) => HK.out W (Bc.trans (b.mono Bc.size)))
    clear HTF HK
    cases fo
    case false =>
      go_wp2_with (go_at_call 68; refine (HFo.out _).mono ?_; rintro e w3 ⟨rfl, b3⟩)
      go_ret
      exact ⟨by rw [HZ.out]; rfl, Bc.trans (b3.mono Bc.size)⟩
    cases tf
    case false =>
      go_wp2_with (first | (go_at_call 68; refine (HFo.out _).mono ?_; rintro e w3 ⟨rfl, b3⟩; have s1 := (b3.cell (p := ⟨w.heap.size, 1, none⟩) (lt_of kSc)).trans s1; have s4 := (b3.cell (p := ⟨w.heap.size, 4, none⟩) (lt_of kSc)).trans s4) | (go_at_call 67; refine (HTF2.out _ b3).mono ?_; rintro e w4 ⟨rfl, b4⟩))
      go_ret
      exact ⟨by rw [HZ.out]; rfl, Bc.trans ((b3.trans (b4.mono b3.size)).mono Bc.size)⟩
    go_wp2_with (first | (go_at_call 68; refine (HFo.out _).mono ?_; rintro e w3 ⟨rfl, b3⟩; have s1 := (b3.cell (p := ⟨w.heap.size, 1, none⟩) (lt_of kSc)).trans s1; have s4 := (b3.cell (p := ⟨w.heap.size, 4, none⟩) (lt_of kSc)).trans s4) | (go_at_call 67; refine (HTF2.out _ b3).mono ?_; rintro e w4 ⟨rfl, b4⟩; have b5 := b3.trans (b4.mono b3.size); have s1 := (b4.cell (p := ⟨w.heap.size, 1, none⟩) (Nat.lt_of_lt_of_le (lt_of kSc) b3.size)).trans s1) | (go_at_call 69; refine (HK2.out _ b5).mono ?_; rintro e w6 ⟨rfl, b6⟩))
    go_ret
    exact ⟨by rw [HZ.out]; rfl, Bc.trans ((b5.trans (b6.mono b5.size)).mono Bc.size)⟩
end Go.Proofs.YtbiomnnlpafciaaDoor
