import Derived.Test.YtbiomnnlpafciaaDoorS31
import Derived.Test.YtbiomnnlpafciaaDoorS21
import Derived.WalkKit
import Derived.WalkSpells
import Derived.IntWalk
import Derived.Deep.Cut
import Derived.Deep.LoopGhost
import Derived.Laws.Cover1
import Derived.Lib.Hide
set_option linter.unusedVariables false
set_option linter.unusedSimpArgs false
set_option maxHeartbeats 64000000
set_option maxRecDepth 100000
namespace Go.Proofs.YtbiomnnlpafciaaDoor
open Go.RowKit Go.IntWalk
set_option linter.unusedVariables false
set_option linter.unusedSimpArgs false
theorem samePushB_same {ok ok' : Nat → Prop} {w : World} {v u : Value} {l : List Pu} (hl : HPu ok w v l) (hr : HPu ok' w u l) :
    Calls Tryd.prog 30 #[v, u] w fun e w' => e = .returned (.bool true) ∧ Below w.heap.size w w' := (samePush_same hl hr).mono (by rintro e w' ⟨rfl, m, rfl⟩; exact ⟨rfl, drewN_below (Below.refl _ _) _⟩)
theorem sameIntsB_same {ok ok' : Nat → Prop} {w : World} {v u : Value} {l : List Int} (hl : HInts ok w v l) (hr : HInts ok' w u l) :
    Calls Tryd.prog 12 #[v, u] w fun e w' => e = .returned (.bool true) ∧ Below w.heap.size w w' := (sameInts_any hl hr).mono (by rintro e w' ⟨rfl, m, rfl⟩; exact ⟨by rw [(eqL_ieq l l).2 rfl], drewN_below (Below.refl _ _) _⟩)
set_option maxHeartbeats 16000000 in
theorem sameLoops18_same {ok ok' : Nat → Prop} {w : World} {aP aG aS aP' aG' aS' : Option Addr} {cP cG cS cP' cG' cS' : Nat} {L : Lo.Lp} (hL : HLp ok w aP aG aS cP cG cS L) (hR : HLp ok' w aP' aG' aS' cP' cG' cS' L) :
    Calls Tryd.prog 11 #[.agg #[.int .i64 L.c, .slice aP L.P.length cP, .slice aG L.G.length cG, .slice aS L.S.length cS], .agg #[.int .i64 L.c, .slice aP' L.P.length cP', .slice aG' L.G.length cG', .slice aS' L.S.length cS']] w fun e w' => e = .returned (.bool true) ∧ Below w.heap.size w w' := by
  have b1 : Below w.heap.size w ((w.alloc (.cells #[.int .i64 L.c, .slice aP L.P.length cP, .slice aG L.G.length cG, .slice aS L.S.length cS] 25 (0, 0))).alloc (.cells #[.int .i64 L.c, .slice aP' L.P.length cP', .slice aG' L.G.length cG', .slice aS' L.S.length cS'] 25 (0, 0))) := ((Below.refl _ _).alloc (Nat.le_refl _) _).alloc (by simp) _
  have kA : (((w.alloc (.cells #[.int .i64 L.c, .slice aP L.P.length cP, .slice aG L.G.length cG, .slice aS L.S.length cS] 25 (0, 0))).alloc (.cells #[.int .i64 L.c, .slice aP' L.P.length cP', .slice aG' L.G.length cG', .slice aS' L.S.length cS'] 25 (0, 0)))).heap[w.heap.size]? = some (.cells #[.int .i64 L.c, .slice aP L.P.length cP, .slice aG L.G.length cG, .slice aS L.S.length cS] 25 (0, 0)) := (Below.heap_alloc _ _ _ (by simp)).trans (heap_new w _)
  have kB : (((w.alloc (.cells #[.int .i64 L.c, .slice aP L.P.length cP, .slice aG L.G.length cG, .slice aS L.S.length cS] 25 (0, 0))).alloc (.cells #[.int .i64 L.c, .slice aP' L.P.length cP', .slice aG' L.G.length cG', .slice aS' L.S.length cS'] 25 (0, 0)))).heap[w.heap.size + 1]? = some (.cells #[.int .i64 L.c, .slice aP' L.P.length cP', .slice aG' L.G.length cG', .slice aS' L.S.length cS'] 25 (0, 0)) := by
    have := heap_new (w.alloc (.cells #[.int .i64 L.c, .slice aP L.P.length cP, .slice aG L.G.length cG, .slice aS L.S.length cS] 25 (0, 0))) (.cells #[.int .i64 L.c, .slice aP' L.P.length cP', .slice aG' L.G.length cG', .slice aS' L.S.length cS'] 25 (0, 0))
    simpa using this
  have HL := hide (hL.under b1)
  have HR := hide (hR.under b1)
  obtain ⟨-, -, eS0, hs1, hs2, -⟩ := hL.S.at
  obtain ⟨-, -, eS1, hr1, hr2, -⟩ := hR.S.at
  clear hL hR
  go_enter Tryd.func11, Tryd.ntmps11
  go_upto_region 1 with fail
  generalize ((w.alloc (.cells #[.int .i64 L.c, .slice aP L.P.length cP, .slice aG L.G.length cG, .slice aS L.S.length cS] 25 (0, 0))).alloc (.cells #[.int .i64 L.c, .slice aP' L.P.length cP', .slice aG' L.G.length cG', .slice aS' L.S.length cS'] 25 (0, 0))) = w1 at b1 kA kB HL HR ⊢
  have A0 := cell_of kA 0
  have A1 := cell_of kA 1
  have A2 := cell_of kA 2
  have A3 := cell_of kA 3
  have B0 := cell_of kB 0
  have B1 := cell_of kB 1
  have B2 := cell_of kB 2
  have B3 := cell_of kB 3
  simp at A0 A1 A2 A3 B0 B1 B2 B3
  go_wp2_with fail
  refine (sameIntsB_same HL.out.P HR.out.P).mono ?_
  rintro e w2 ⟨rfl, b2⟩
  have a2 := (b2.cell (p := ⟨w.heap.size, 2, none⟩) (lt_of kA)).trans A2
  have a3 := (b2.cell (p := ⟨w.heap.size, 3, none⟩) (lt_of kA)).trans A3
  have c2 := (b2.cell (p := ⟨w.heap.size + 1, 2, none⟩) (lt_of kB)).trans B2
  have c3 := (b2.cell (p := ⟨w.heap.size + 1, 3, none⟩) (lt_of kB)).trans B3
  clear A0 A1 A2 A3 B0 B1 B2 B3
  go_wp2_with fail
  refine (sameIntsB_same (HL.out.G.under b2) (HR.out.G.under b2)).mono ?_
  rintro e w3 ⟨rfl, b3⟩
  have BB := b2.trans (b3.mono b2.size)
  have A3 := (BB.cell (p := ⟨w.heap.size, 3, none⟩) (lt_of kA)).trans (show w1.cell? ⟨w.heap.size, 3, none⟩ = some (.slice aS L.S.length cS) by rw [cell_of kA 3]; rfl)
  have B3 := (BB.cell (p := ⟨w.heap.size + 1, 3, none⟩) (lt_of kB)).trans (show w1.cell? ⟨w.heap.size + 1, 3, none⟩ = some (.slice aS' L.S.length cS') by rw [cell_of kB 3]; rfl)
  clear a2 a3 c2 c3
  obtain ⟨n, hn⟩ : ∃ n, n = L.S.length := ⟨_, rfl⟩
  rw [← hn] at A3 B3
  have HN := hide hn
  clear hn b2 b3
  go_wp2_with fail
  go_loopg [5] n (fun k v wr => ∃ (i : Nat), i ≤ n ∧ k = n - i ∧ v = .int .i64 (i : Nat) ∧ Below w1.heap.size w1 wr)
  case atStart => exact ⟨0, Nat.zero_le _, rfl, rfl, BB⟩
  case round =>
    clear A3 B3 BB
    obtain ⟨i, hi, rfl, rfl, hbr⟩ := hrel
    have kAr := (hbr.block _ (lt_of kA)).trans kA
    have kBr := (hbr.block _ (lt_of kB)).trans kB
    rw [← HN.out] at kAr kBr
    have A3 := cell_of kAr 3
    have B3 := cell_of kBr 3
    simp at A3 B3
    have yA := lt_of kAr
    have yB := lt_of kBr
    have Br := hide (b1.trans (hbr.mono b1.size))
    clear kAr kBr
    by_cases hlt : i < n
    case neg =>
      have hin : i = n := by omega
      subst hin
      go_wp2
      go_ret
      exact ⟨rfl, Br.out⟩
    case pos =>
      have hil : i < L.S.length := by have := HN.out; omega
      obtain ⟨ao1, cp1, e1, g1, g2, hat1⟩ := (HL.out.S.under hbr).at
      injection e1 with q1 q2 q3
      obtain ⟨bS, oS, y, ea1, yS, hatS, hyS⟩ := hat1 i hil
      rw [ea1] at q1
      subst q1 q3
      obtain ⟨ao2, cp2, e2, g3, g4, hat2⟩ := (HR.out.S.under hbr).at
      injection e2 with r1 r2 r3
      obtain ⟨bT, oT, z, ea2, yT, hatT, hyT⟩ := hat2 i hil
      rw [ea2] at r1
      subst r1 r3
      generalize L.S[i] = s at hatS hyS hatT hyT
      obtain ⟨e0, e1, e2, e3, e4, e5⟩ := hatS
      obtain ⟨f0, f1, f2, f3, f4, f5⟩ := hatT
      rw [← HN.out] at g1 g3
      unfold maxLen at g2 g4
      have HYS := hide hyS
      have HYT := hide hyT
      clear hat1 hat2 q2 r2 hyS hyT hil
      go_upto_region 6 with fail
      go_cut [6, 7] (fun v6 v7 wd => ∃ (p q : Nat), v6 = .pointer (some ⟨p, 0, none⟩) ∧ v7 = .pointer (some ⟨q, 0, none⟩) ∧ Hid (wd.heap[p]? = some (.cells #[.int .i64 s.op, .int .i64 s.k, .int .i64 s.n, .int .i64 s.tgt, .slice y.aF y.nF y.cF, .slice y.aE y.nE y.cE] 62 (0, 0)) ∧ wd.heap[q]? = some (.cells #[.int .i64 s.op, .int .i64 s.k, .int .i64 s.n, .int .i64 s.tgt, .slice z.aF z.nF z.cF, .slice z.aE z.nE z.cE] 62 (0, 0))) ∧ Below wr.heap.size wr wd)
      case first =>
        refine wp_region_late (fun w' => Below wr.heap.size wr w') (fun _ => false) (by kernel_rfl) ?_
        have hH0 : Below wr.heap.size wr wr.drew := (Below.refl _ _).drew
        generalize wr.drew = wd0 at hH0 ⊢
        refine' wpAnyL_take (i := 0) (oi := ⟨some 45, _, _, _, _, _⟩) (v := _) rfl (by kernel_rfl) (by kernel_rfl) (by kernel_rfl) (by kernel_rfl) (fun _ _ _ h => h) hH0 (by rfl) ?hyv ?onw
        case hyv =>
          intro wz hSw
          go_simp
          try rfl
        case onw =>
          try simp only [Act.put, List.setIfInBounds_toArray, List.set_cons_zero, List.set_cons_succ]
          refine' wpAnyL_take (i := 1) (oi := ⟨some 46, _, _, _, _, _⟩) (v := _) rfl (by kernel_rfl) (by kernel_rfl) (by kernel_rfl) (by kernel_rfl) (fun _ _ _ h => h) hH0 (by rfl) ?hyv ?onw
          case hyv =>
            intro wz hSw
            have zc0 := (hSw.cell (p := ⟨w.heap.size, 3, none⟩) yA).trans A3
            go_simp
            try rfl
          case onw =>
            try simp only [Act.put, List.setIfInBounds_toArray, List.set_cons_zero, List.set_cons_succ]
            refine' wpAnyL_take (i := 2) (oi := ⟨some 47, _, _, _, _, _⟩) (v := _) rfl (by kernel_rfl) (by kernel_rfl) (by kernel_rfl) (by kernel_rfl) (fun _ _ _ h => h) hH0 (by rfl) ?hyv ?onw
            case hyv =>
              intro wz hSw
              go_simp
              try rfl
            case onw =>
              try simp only [Act.put, List.setIfInBounds_toArray, List.set_cons_zero, List.set_cons_succ]
              refine' wpAnyL_take (i := 3) (oi := ⟨some 48, _, _, _, _, _⟩) (v := _) rfl (by kernel_rfl) (by kernel_rfl) (by kernel_rfl) (by kernel_rfl) (fun _ _ _ h => h) hH0 (by rfl) ?hyv ?onw
              case hyv =>
                intro wz hSw
                go_simp
                try rfl
              case onw =>
                try simp only [Act.put, List.setIfInBounds_toArray, List.set_cons_zero, List.set_cons_succ]
                refine' wpAnyL_take (i := 4) (oi := ⟨some 49, _, _, _, _, _⟩) (v := _) rfl (by kernel_rfl) (by kernel_rfl) (by kernel_rfl) (by kernel_rfl) (fun _ _ _ h => h) hH0 (by rfl) ?hyv ?onw
                case hyv =>
                  intro wz hSw
                  have zc2 := (hSw.cell (p := ⟨bS, oS + i * 6, none⟩) yS).trans e0
                  have zc3 := (hSw.cell (p := ⟨bS, oS + i * 6 + 1, none⟩) yS).trans e1
                  have zc4 := (hSw.cell (p := ⟨bS, oS + i * 6 + 2, none⟩) yS).trans e2
                  have zc5 := (hSw.cell (p := ⟨bS, oS + i * 6 + 3, none⟩) yS).trans e3
                  have zc6 := (hSw.cell (p := ⟨bS, oS + i * 6 + 4, none⟩) yS).trans e4
                  have zc7 := (hSw.cell (p := ⟨bS, oS + i * 6 + 5, none⟩) yS).trans e5
                  go_simp
                  try rfl
                case onw =>
                  try simp only [Act.put, List.setIfInBounds_toArray, List.set_cons_zero, List.set_cons_succ]
                  refine' wpAnyL_take (i := 5) (oi := ⟨some 50, _, _, _, _, _⟩) (v := _) rfl (by kernel_rfl) (by kernel_rfl) (by kernel_rfl) (by kernel_rfl) (fun _ _ _ h => h) hH0 (by rfl) ?hyv ?onw
                  case hyv =>
                    intro wz hSw
                    go_simp
                    try rfl
                  case onw =>
                    try simp only [Act.put, List.setIfInBounds_toArray, List.set_cons_zero, List.set_cons_succ]
                    refine' wpAnyL_take (i := 6) (oi := ⟨some 51, _, _, _, _, _⟩) (v := _) rfl (by kernel_rfl) (by kernel_rfl) (by kernel_rfl) (by kernel_rfl) (fun _ _ _ h => h) hH0 (by rfl) ?hyv ?onw
                    case hyv =>
                      intro wz hSw
                      have zc1 := (hSw.cell (p := ⟨w.heap.size + 1, 3, none⟩) yB).trans B3
                      go_simp
                      try rfl
                    case onw =>
                      try simp only [Act.put, List.setIfInBounds_toArray, List.set_cons_zero, List.set_cons_succ]
                      refine' wpAnyL_take (i := 7) (oi := ⟨some 52, _, _, _, _, _⟩) (v := _) rfl (by kernel_rfl) (by kernel_rfl) (by kernel_rfl) (by kernel_rfl) (fun _ _ _ h => h) hH0 (by rfl) ?hyv ?onw
                      case hyv =>
                        intro wz hSw
                        go_simp
                        try rfl
                      case onw =>
                        try simp only [Act.put, List.setIfInBounds_toArray, List.set_cons_zero, List.set_cons_succ]
                        refine' wpAnyL_take (i := 8) (oi := ⟨some 53, _, _, _, _, _⟩) (v := _) rfl (by kernel_rfl) (by kernel_rfl) (by kernel_rfl) (by kernel_rfl) (fun _ _ _ h => h) hH0 (by rfl) ?hyv ?onw
                        case hyv =>
                          intro wz hSw
                          go_simp
                          try rfl
                        case onw =>
                          try simp only [Act.put, List.setIfInBounds_toArray, List.set_cons_zero, List.set_cons_succ]
                          refine' wpAnyL_take (i := 9) (oi := ⟨some 54, _, _, _, _, _⟩) (v := _) rfl (by kernel_rfl) (by kernel_rfl) (by kernel_rfl) (by kernel_rfl) (fun _ _ _ h => h) hH0 (by rfl) ?hyv ?onw
                          case hyv =>
                            intro wz hSw
                            have zc8 := (hSw.cell (p := ⟨bT, oT + i * 6, none⟩) yT).trans f0
                            have zc9 := (hSw.cell (p := ⟨bT, oT + i * 6 + 1, none⟩) yT).trans f1
                            have zc10 := (hSw.cell (p := ⟨bT, oT + i * 6 + 2, none⟩) yT).trans f2
                            have zc11 := (hSw.cell (p := ⟨bT, oT + i * 6 + 3, none⟩) yT).trans f3
                            have zc12 := (hSw.cell (p := ⟨bT, oT + i * 6 + 4, none⟩) yT).trans f4
                            have zc13 := (hSw.cell (p := ⟨bT, oT + i * 6 + 5, none⟩) yT).trans f5
                            go_simp
                            try rfl
                          case onw =>
                            try simp only [Act.put, List.setIfInBounds_toArray, List.set_cons_zero, List.set_cons_succ]
                            refine wpAnyL_two (i := 10) (j := 11) rfl rfl (by kernel_rfl) (by rfl) (by rfl) (fun K hK => ?_) (fun K hK => ?_)
                            case _ =>
                              go_simp
                              have hH1 : Below wr.heap.size wr (wd0.alloc (.cells #[.int .i64 0, .int .i64 0, .int .i64 0, .int .i64 0, .slice none 0 0, .slice none 0 0] 62 (0, 0))) := hH0.alloc hH0.size _
                              have kn1 := heap_new wd0 (.cells #[.int .i64 0, .int .i64 0, .int .i64 0, .int .i64 0, .slice none 0 0, .slice none 0 0] 62 (0, 0))
                              have zn1 := hH0.size
                              refine hK.out _ _ (fun _ => hH1) ?_
                              clear hK K
                              try simp only [Act.put, List.setIfInBounds_toArray, List.set_cons_zero, List.set_cons_succ]
                              generalize wd0.alloc (.cells #[.int .i64 0, .int .i64 0, .int .i64 0, .int .i64 0, .slice none 0 0, .slice none 0 0] 62 (0, 0)) = wd1 at hH1 kn1 ⊢
                              refine wpAnyL_one (i := 11) (o := _) rfl (by kernel_rfl) (by rfl) (fun K hK => ?_)
                              go_simp
                              have hH2 : Below wr.heap.size wr (wd1.alloc (.cells #[.int .i64 0, .int .i64 0, .int .i64 0, .int .i64 0, .slice none 0 0, .slice none 0 0] 62 (0, 0))) := hH1.alloc hH1.size _
                              have kn2 := heap_new wd1 (.cells #[.int .i64 0, .int .i64 0, .int .i64 0, .int .i64 0, .slice none 0 0, .slice none 0 0] 62 (0, 0))
                              have zn2 := hH1.size
                              refine hK.out _ _ (fun _ => hH2) ?_
                              clear hK K
                              try simp only [Act.put, List.setIfInBounds_toArray, List.set_cons_zero, List.set_cons_succ]
                              have ne2_kn1 := lt_of kn1
                              have kn1_2 := (Below.heap_alloc wd1 (.cells #[.int .i64 0, .int .i64 0, .int .i64 0, .int .i64 0, .slice none 0 0, .slice none 0 0] 62 (0, 0)) _ (lt_of kn1)).trans kn1
                              generalize wd1.alloc (.cells #[.int .i64 0, .int .i64 0, .int .i64 0, .int .i64 0, .slice none 0 0, .slice none 0 0] 62 (0, 0)) = wd2 at hH2 kn2 kn1_2 ⊢
                              refine wpAnyL_one (i := 12) (o := _) rfl (by kernel_rfl) (by rfl) (fun K hK => ?_)
                              have st0 := cell_of kn1_2 0
                              have fr0 := free_of kn1_2 0
                              have st1 := cell_of kn1_2 1
                              have fr1 := free_of kn1_2 1
                              have st2 := cell_of kn1_2 2
                              have fr2 := free_of kn1_2 2
                              have st3 := cell_of kn1_2 3
                              have fr3 := free_of kn1_2 3
                              have st4 := cell_of kn1_2 4
                              have fr4 := free_of kn1_2 4
                              have st5 := cell_of kn1_2 5
                              have fr5 := free_of kn1_2 5
                              simp at st0 st1 st2 st3 st4 st5
                              have KR3 := set_in (set_in (set_in (set_in (set_in (set_in (kn1_2) 0 (.int .i64 s.op)) 1 (.int .i64 s.k)) 2 (.int .i64 s.n)) 3 (.int .i64 s.tgt)) 4 (.slice y.aF y.nF y.cF)) 5 (.slice y.aE y.nE y.cE)
                              simp at KR3
                              have hH3 := ((((((hH2).setCell (p := ⟨wd0.heap.size, 0, none⟩) hH0.size (.int .i64 s.op)).setCell (p := ⟨wd0.heap.size, 1, none⟩) hH0.size (.int .i64 s.k)).setCell (p := ⟨wd0.heap.size, 2, none⟩) hH0.size (.int .i64 s.n)).setCell (p := ⟨wd0.heap.size, 3, none⟩) hH0.size (.int .i64 s.tgt)).setCell (p := ⟨wd0.heap.size, 4, none⟩) hH0.size (.slice y.aF y.nF y.cF)).setCell (p := ⟨wd0.heap.size, 5, none⟩) hH0.size (.slice y.aE y.nE y.cE)
                              have hne3 : wd0.heap.size ≠ wd1.heap.size := by have := lt_of kn1; have := lt_of kn2; have := kn1; omega
                              have KO3 : (((((((wd2).setCell ⟨wd0.heap.size, 0, none⟩ (.int .i64 s.op)).setCell ⟨wd0.heap.size, 1, none⟩ (.int .i64 s.k)).setCell ⟨wd0.heap.size, 2, none⟩ (.int .i64 s.n)).setCell ⟨wd0.heap.size, 3, none⟩ (.int .i64 s.tgt)).setCell ⟨wd0.heap.size, 4, none⟩ (.slice y.aF y.nF y.cF)).setCell ⟨wd0.heap.size, 5, none⟩ (.slice y.aE y.nE y.cE)).heap[wd1.heap.size]? = _ := (heap_set_other _ _ _ hne3).trans ((heap_set_other _ _ _ hne3).trans ((heap_set_other _ _ _ hne3).trans ((heap_set_other _ _ _ hne3).trans ((heap_set_other _ _ _ hne3).trans ((heap_set_other _ _ _ hne3).trans kn2)))))
                              go_simp
                              refine hK.out _ _ (fun _ => hH3) ?_
                              clear hK K st0 st1 st2 st3 st4 st5 fr0 fr1 fr2 fr3 fr4 fr5
                              try simp only [Act.put, List.setIfInBounds_toArray, List.set_cons_zero, List.set_cons_succ]
                              generalize ((((((wd2).setCell ⟨wd0.heap.size, 0, none⟩ (.int .i64 s.op)).setCell ⟨wd0.heap.size, 1, none⟩ (.int .i64 s.k)).setCell ⟨wd0.heap.size, 2, none⟩ (.int .i64 s.n)).setCell ⟨wd0.heap.size, 3, none⟩ (.int .i64 s.tgt)).setCell ⟨wd0.heap.size, 4, none⟩ (.slice y.aF y.nF y.cF)).setCell ⟨wd0.heap.size, 5, none⟩ (.slice y.aE y.nE y.cE) = wd3 at hH3 KR3 KO3 ⊢
                              refine wpAnyL_one (i := 13) (o := _) rfl (by kernel_rfl) (by rfl) (fun K hK => ?_)
                              have st0 := cell_of KO3 0
                              have fr0 := free_of KO3 0
                              have st1 := cell_of KO3 1
                              have fr1 := free_of KO3 1
                              have st2 := cell_of KO3 2
                              have fr2 := free_of KO3 2
                              have st3 := cell_of KO3 3
                              have fr3 := free_of KO3 3
                              have st4 := cell_of KO3 4
                              have fr4 := free_of KO3 4
                              have st5 := cell_of KO3 5
                              have fr5 := free_of KO3 5
                              simp at st0 st1 st2 st3 st4 st5
                              have KR4 := set_in (set_in (set_in (set_in (set_in (set_in (KO3) 0 (.int .i64 s.op)) 1 (.int .i64 s.k)) 2 (.int .i64 s.n)) 3 (.int .i64 s.tgt)) 4 (.slice z.aF z.nF z.cF)) 5 (.slice z.aE z.nE z.cE)
                              simp at KR4
                              have hH4 := ((((((hH3).setCell (p := ⟨wd1.heap.size, 0, none⟩) hH1.size (.int .i64 s.op)).setCell (p := ⟨wd1.heap.size, 1, none⟩) hH1.size (.int .i64 s.k)).setCell (p := ⟨wd1.heap.size, 2, none⟩) hH1.size (.int .i64 s.n)).setCell (p := ⟨wd1.heap.size, 3, none⟩) hH1.size (.int .i64 s.tgt)).setCell (p := ⟨wd1.heap.size, 4, none⟩) hH1.size (.slice z.aF z.nF z.cF)).setCell (p := ⟨wd1.heap.size, 5, none⟩) hH1.size (.slice z.aE z.nE z.cE)
                              have hne4 : wd1.heap.size ≠ wd0.heap.size := by have := lt_of kn2; have := lt_of kn1; have := kn2; omega
                              have KO4 : (((((((wd3).setCell ⟨wd1.heap.size, 0, none⟩ (.int .i64 s.op)).setCell ⟨wd1.heap.size, 1, none⟩ (.int .i64 s.k)).setCell ⟨wd1.heap.size, 2, none⟩ (.int .i64 s.n)).setCell ⟨wd1.heap.size, 3, none⟩ (.int .i64 s.tgt)).setCell ⟨wd1.heap.size, 4, none⟩ (.slice z.aF z.nF z.cF)).setCell ⟨wd1.heap.size, 5, none⟩ (.slice z.aE z.nE z.cE)).heap[wd0.heap.size]? = _ := (heap_set_other _ _ _ hne4).trans ((heap_set_other _ _ _ hne4).trans ((heap_set_other _ _ _ hne4).trans ((heap_set_other _ _ _ hne4).trans ((heap_set_other _ _ _ hne4).trans ((heap_set_other _ _ _ hne4).trans KR3)))))
                              go_simp
                              refine hK.out _ _ (fun _ => hH4) ?_
                              clear hK K st0 st1 st2 st3 st4 st5 fr0 fr1 fr2 fr3 fr4 fr5
                              try simp only [Act.put, List.setIfInBounds_toArray, List.set_cons_zero, List.set_cons_succ]
                              generalize ((((((wd3).setCell ⟨wd1.heap.size, 0, none⟩ (.int .i64 s.op)).setCell ⟨wd1.heap.size, 1, none⟩ (.int .i64 s.k)).setCell ⟨wd1.heap.size, 2, none⟩ (.int .i64 s.n)).setCell ⟨wd1.heap.size, 3, none⟩ (.int .i64 s.tgt)).setCell ⟨wd1.heap.size, 4, none⟩ (.slice z.aF z.nF z.cF)).setCell ⟨wd1.heap.size, 5, none⟩ (.slice z.aE z.nE z.cE) = wd4 at hH4 KR4 KO4 ⊢
                              refine wpAnyL_done (by kernel_rfl) ?_ _
                              go_wp2_with fail
                              go_meet
                              case rel => exact ⟨wd0.heap.size, wd1.heap.size, rfl, rfl, hide ⟨KO4, KR4⟩, hH4⟩
                            case _ =>
                              go_simp
                              have hH1 : Below wr.heap.size wr (wd0.alloc (.cells #[.int .i64 0, .int .i64 0, .int .i64 0, .int .i64 0, .slice none 0 0, .slice none 0 0] 62 (0, 0))) := hH0.alloc hH0.size _
                              have kn1 := heap_new wd0 (.cells #[.int .i64 0, .int .i64 0, .int .i64 0, .int .i64 0, .slice none 0 0, .slice none 0 0] 62 (0, 0))
                              have zn1 := hH0.size
                              refine hK.out _ _ (fun _ => hH1) ?_
                              clear hK K
                              try simp only [Act.put, List.setIfInBounds_toArray, List.set_cons_zero, List.set_cons_succ]
                              generalize wd0.alloc (.cells #[.int .i64 0, .int .i64 0, .int .i64 0, .int .i64 0, .slice none 0 0, .slice none 0 0] 62 (0, 0)) = wd1 at hH1 kn1 ⊢
                              refine wpAnyL_one (i := 10) (o := _) rfl (by kernel_rfl) (by rfl) (fun K hK => ?_)
                              go_simp
                              have hH2 : Below wr.heap.size wr (wd1.alloc (.cells #[.int .i64 0, .int .i64 0, .int .i64 0, .int .i64 0, .slice none 0 0, .slice none 0 0] 62 (0, 0))) := hH1.alloc hH1.size _
                              have kn2 := heap_new wd1 (.cells #[.int .i64 0, .int .i64 0, .int .i64 0, .int .i64 0, .slice none 0 0, .slice none 0 0] 62 (0, 0))
                              have zn2 := hH1.size
                              refine hK.out _ _ (fun _ => hH2) ?_
                              clear hK K
                              try simp only [Act.put, List.setIfInBounds_toArray, List.set_cons_zero, List.set_cons_succ]
                              have ne2_kn1 := lt_of kn1
                              have kn1_2 := (Below.heap_alloc wd1 (.cells #[.int .i64 0, .int .i64 0, .int .i64 0, .int .i64 0, .slice none 0 0, .slice none 0 0] 62 (0, 0)) _ (lt_of kn1)).trans kn1
                              generalize wd1.alloc (.cells #[.int .i64 0, .int .i64 0, .int .i64 0, .int .i64 0, .slice none 0 0, .slice none 0 0] 62 (0, 0)) = wd2 at hH2 kn2 kn1_2 ⊢
                              refine wpAnyL_one (i := 12) (o := _) rfl (by kernel_rfl) (by rfl) (fun K hK => ?_)
                              have st0 := cell_of kn2 0
                              have fr0 := free_of kn2 0
                              have st1 := cell_of kn2 1
                              have fr1 := free_of kn2 1
                              have st2 := cell_of kn2 2
                              have fr2 := free_of kn2 2
                              have st3 := cell_of kn2 3
                              have fr3 := free_of kn2 3
                              have st4 := cell_of kn2 4
                              have fr4 := free_of kn2 4
                              have st5 := cell_of kn2 5
                              have fr5 := free_of kn2 5
                              simp at st0 st1 st2 st3 st4 st5
                              have KR3 := set_in (set_in (set_in (set_in (set_in (set_in (kn2) 0 (.int .i64 s.op)) 1 (.int .i64 s.k)) 2 (.int .i64 s.n)) 3 (.int .i64 s.tgt)) 4 (.slice y.aF y.nF y.cF)) 5 (.slice y.aE y.nE y.cE)
                              simp at KR3
                              have hH3 := ((((((hH2).setCell (p := ⟨wd1.heap.size, 0, none⟩) hH1.size (.int .i64 s.op)).setCell (p := ⟨wd1.heap.size, 1, none⟩) hH1.size (.int .i64 s.k)).setCell (p := ⟨wd1.heap.size, 2, none⟩) hH1.size (.int .i64 s.n)).setCell (p := ⟨wd1.heap.size, 3, none⟩) hH1.size (.int .i64 s.tgt)).setCell (p := ⟨wd1.heap.size, 4, none⟩) hH1.size (.slice y.aF y.nF y.cF)).setCell (p := ⟨wd1.heap.size, 5, none⟩) hH1.size (.slice y.aE y.nE y.cE)
                              have hne3 : wd1.heap.size ≠ wd0.heap.size := by have := lt_of kn2; have := lt_of kn1; have := kn2; omega
                              have KO3 : (((((((wd2).setCell ⟨wd1.heap.size, 0, none⟩ (.int .i64 s.op)).setCell ⟨wd1.heap.size, 1, none⟩ (.int .i64 s.k)).setCell ⟨wd1.heap.size, 2, none⟩ (.int .i64 s.n)).setCell ⟨wd1.heap.size, 3, none⟩ (.int .i64 s.tgt)).setCell ⟨wd1.heap.size, 4, none⟩ (.slice y.aF y.nF y.cF)).setCell ⟨wd1.heap.size, 5, none⟩ (.slice y.aE y.nE y.cE)).heap[wd0.heap.size]? = _ := (heap_set_other _ _ _ hne3).trans ((heap_set_other _ _ _ hne3).trans ((heap_set_other _ _ _ hne3).trans ((heap_set_other _ _ _ hne3).trans ((heap_set_other _ _ _ hne3).trans ((heap_set_other _ _ _ hne3).trans kn1_2)))))
                              go_simp
                              refine hK.out _ _ (fun _ => hH3) ?_
                              clear hK K st0 st1 st2 st3 st4 st5 fr0 fr1 fr2 fr3 fr4 fr5
                              try simp only [Act.put, List.setIfInBounds_toArray, List.set_cons_zero, List.set_cons_succ]
                              generalize ((((((wd2).setCell ⟨wd1.heap.size, 0, none⟩ (.int .i64 s.op)).setCell ⟨wd1.heap.size, 1, none⟩ (.int .i64 s.k)).setCell ⟨wd1.heap.size, 2, none⟩ (.int .i64 s.n)).setCell ⟨wd1.heap.size, 3, none⟩ (.int .i64 s.tgt)).setCell ⟨wd1.heap.size, 4, none⟩ (.slice y.aF y.nF y.cF)).setCell ⟨wd1.heap.size, 5, none⟩ (.slice y.aE y.nE y.cE) = wd3 at hH3 KR3 KO3 ⊢
                              refine wpAnyL_one (i := 13) (o := _) rfl (by kernel_rfl) (by rfl) (fun K hK => ?_)
                              have st0 := cell_of KO3 0
                              have fr0 := free_of KO3 0
                              have st1 := cell_of KO3 1
                              have fr1 := free_of KO3 1
                              have st2 := cell_of KO3 2
                              have fr2 := free_of KO3 2
                              have st3 := cell_of KO3 3
                              have fr3 := free_of KO3 3
                              have st4 := cell_of KO3 4
                              have fr4 := free_of KO3 4
                              have st5 := cell_of KO3 5
                              have fr5 := free_of KO3 5
                              simp at st0 st1 st2 st3 st4 st5
                              have KR4 := set_in (set_in (set_in (set_in (set_in (set_in (KO3) 0 (.int .i64 s.op)) 1 (.int .i64 s.k)) 2 (.int .i64 s.n)) 3 (.int .i64 s.tgt)) 4 (.slice z.aF z.nF z.cF)) 5 (.slice z.aE z.nE z.cE)
                              simp at KR4
                              have hH4 := ((((((hH3).setCell (p := ⟨wd0.heap.size, 0, none⟩) hH0.size (.int .i64 s.op)).setCell (p := ⟨wd0.heap.size, 1, none⟩) hH0.size (.int .i64 s.k)).setCell (p := ⟨wd0.heap.size, 2, none⟩) hH0.size (.int .i64 s.n)).setCell (p := ⟨wd0.heap.size, 3, none⟩) hH0.size (.int .i64 s.tgt)).setCell (p := ⟨wd0.heap.size, 4, none⟩) hH0.size (.slice z.aF z.nF z.cF)).setCell (p := ⟨wd0.heap.size, 5, none⟩) hH0.size (.slice z.aE z.nE z.cE)
                              have hne4 : wd0.heap.size ≠ wd1.heap.size := by have := lt_of kn1; have := lt_of kn2; have := kn1; omega
                              have KO4 : (((((((wd3).setCell ⟨wd0.heap.size, 0, none⟩ (.int .i64 s.op)).setCell ⟨wd0.heap.size, 1, none⟩ (.int .i64 s.k)).setCell ⟨wd0.heap.size, 2, none⟩ (.int .i64 s.n)).setCell ⟨wd0.heap.size, 3, none⟩ (.int .i64 s.tgt)).setCell ⟨wd0.heap.size, 4, none⟩ (.slice z.aF z.nF z.cF)).setCell ⟨wd0.heap.size, 5, none⟩ (.slice z.aE z.nE z.cE)).heap[wd1.heap.size]? = _ := (heap_set_other _ _ _ hne4).trans ((heap_set_other _ _ _ hne4).trans ((heap_set_other _ _ _ hne4).trans ((heap_set_other _ _ _ hne4).trans ((heap_set_other _ _ _ hne4).trans ((heap_set_other _ _ _ hne4).trans KR3)))))
                              go_simp
                              refine hK.out _ _ (fun _ => hH4) ?_
                              clear hK K st0 st1 st2 st3 st4 st5 fr0 fr1 fr2 fr3 fr4 fr5
                              try simp only [Act.put, List.setIfInBounds_toArray, List.set_cons_zero, List.set_cons_succ]
                              generalize ((((((wd3).setCell ⟨wd0.heap.size, 0, none⟩ (.int .i64 s.op)).setCell ⟨wd0.heap.size, 1, none⟩ (.int .i64 s.k)).setCell ⟨wd0.heap.size, 2, none⟩ (.int .i64 s.n)).setCell ⟨wd0.heap.size, 3, none⟩ (.int .i64 s.tgt)).setCell ⟨wd0.heap.size, 4, none⟩ (.slice z.aF z.nF z.cF)).setCell ⟨wd0.heap.size, 5, none⟩ (.slice z.aE z.nE z.cE) = wd4 at hH4 KR4 KO4 ⊢
                              refine wpAnyL_done (by kernel_rfl) ?_ _
                              go_wp2_with fail
                              go_meet
                              case rel => exact ⟨wd1.heap.size, wd0.heap.size, rfl, rfl, hide ⟨KO4, KR4⟩, hH4⟩
      case rest =>
        obtain ⟨p, q, rfl, rfl, HX, bc⟩ := hcut
        obtain ⟨kp, kq⟩ := HX.out
        have x0 := cell_of kp 0
        have x1 := cell_of kp 1
        have x2 := cell_of kp 2
        have x3 := cell_of kp 3
        have x4 := cell_of kp 4
        have x5 := cell_of kp 5
        have z0 := cell_of kq 0
        have z1 := cell_of kq 1
        have z2 := cell_of kq 2
        have z3 := cell_of kq 3
        have z4 := cell_of kq 4
        have z5 := cell_of kq 5
        simp at x0 x1 x2 x3 x4 x5 z0 z1 z2 z3 z4 z5
        clear e0 e1 e2 e3 e4 e5 f0 f1 f2 f3 f4 f5 A3 B3
        go_wp2_with fail
        refine (samePushB_same (HYS.out.under bc).E (HYT.out.under bc).E).mono ?_
        rintro e w5 ⟨rfl, b5⟩
        have x4' := (b5.cell (p := ⟨p, 4, none⟩) (lt_of kp)).trans x4
        have z4' := (b5.cell (p := ⟨q, 4, none⟩) (lt_of kq)).trans z4
        have B5 := bc.trans (b5.mono bc.size)
        clear x0 x1 x2 x3 x4 x5 z0 z1 z2 z3 z4 z5 kp kq HX
        go_wp2_with fail
        refine (samePushB_same (HYS.out.under B5).F (HYT.out.under B5).F).mono ?_
        rintro e w6 ⟨rfl, b6⟩
        have BE := hbr.trans ((B5.trans (b6.mono B5.size)).mono hbr.size)
        clear x4' z4' b5 b6 B5 HYS HYT
        go_wp2_with fail
        go_roundg (n - (i + 1))
        case measure => omega
        case rel => exact ⟨i + 1, by omega, rfl, by go_num, BE⟩
end Go.Proofs.YtbiomnnlpafciaaDoor
