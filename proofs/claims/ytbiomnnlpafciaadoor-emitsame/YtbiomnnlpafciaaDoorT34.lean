import Derived.Test.YtbiomnnlpafciaaDoorT33
import Derived.Test.YtbiomnnlpafciaaDoorT18
import Derived.WalkKit
import Derived.WalkSpells
import Derived.IntWalk
import Derived.Deep.Cut
import Derived.Deep.LoopGhost
import Derived.Laws.Cover1
import Derived.Lib.Hide
set_option linter.unusedVariables false
set_option linter.unusedSimpArgs false
set_option maxHeartbeats 64000000
set_option maxRecDepth 100000
namespace Go.Proofs.YtbiomnnlpafciaaDoor
open Go.RowKit Go.IntWalk
set_option linter.unusedVariables false
set_option linter.unusedSimpArgs false
set_option maxHeartbeats 32000000 in
theorem loopsFault9_any {ok : Nat → Prop} {w : World} {aP aG aS : Option Addr} {cP cG cS : Nat} {L : Lo.Lp} (hL : HLp ok w aP aG aS cP cG cS L) : Calls Tryd.prog 14 #[Value.agg #[.int .i64 L.c, .slice aP L.P.length cP, .slice aG L.G.length cG, .slice aS L.S.length cS]] w fun e w' => e = .returned (.agg #[.int .i64 (Lo.fault L).1, .int .i64 (Lo.fault L).2]) ∧ Below w.heap.size w w' := by
  obtain ⟨c, P, G, S⟩ := L
  obtain ⟨hP, hG, hS, -⟩ := hL
  dsimp only at hP hG hS ⊢
  have b1 : Below w.heap.size w ((w.alloc (.cells #[.int .i64 c, .slice aP P.length cP, .slice aG G.length cG, .slice aS S.length cS] 25 (0, 0))).alloc (.cells #[.int .i64 0, .int .i64 0] 33 (0, 0))) := ((Below.refl _ _).alloc (Nat.le_refl _) _).alloc (by simp) _
  have kL : (((w.alloc (.cells #[.int .i64 c, .slice aP P.length cP, .slice aG G.length cG, .slice aS S.length cS] 25 (0, 0))).alloc (.cells #[.int .i64 0, .int .i64 0] 33 (0, 0)))).heap[w.heap.size]? = some (.cells #[.int .i64 c, .slice aP P.length cP, .slice aG G.length cG, .slice aS S.length cS] 25 (0, 0)) := (Below.heap_alloc _ _ _ (by simp)).trans (heap_new w _)
  have kF : (((w.alloc (.cells #[.int .i64 c, .slice aP P.length cP, .slice aG G.length cG, .slice aS S.length cS] 25 (0, 0))).alloc (.cells #[.int .i64 0, .int .i64 0] 33 (0, 0)))).heap[w.heap.size + 1]? = some (.cells #[.int .i64 0, .int .i64 0] 33 (0, 0)) := by
    have := heap_new (w.alloc (.cells #[.int .i64 c, .slice aP P.length cP, .slice aG G.length cG, .slice aS S.length cS] 25 (0, 0))) (.cells #[.int .i64 0, .int .i64 0] 33 (0, 0))
    simpa using this
  unfold Lo.fault
  dsimp only
  obtain ⟨R, hR⟩ : ∃ R : Int × Int, R = (if c < 1 ∨ 6000 < c then (13, -1) else if 6000 < P.length ∨ 120000 < G.length ∨ 1200 < S.length then (7, -1) else if (P.any fun x => !Lo.hasN c x 1) = true ∨ (G.any fun x => !Lo.hasN c x 1) = true then (16, -1) else if 0 ≤ Lo.idx (Lo.bars c) 0 S then (4, Lo.idx (Lo.bars c) 0 S) else (0, 0)) := ⟨_, rfl⟩
  rw [← hR]
  obtain ⟨nP, hnP⟩ : ∃ n, n = P.length := ⟨_, rfl⟩
  obtain ⟨nG, hnG⟩ : ∃ n, n = G.length := ⟨_, rfl⟩
  obtain ⟨nS, hnS⟩ : ∃ n, n = S.length := ⟨_, rfl⟩
  have hR2 := hR
  rw [← hnP, ← hnG, ← hnS] at hR2
  rw [← hnP, ← hnG, ← hnS] at b1 kL kF ⊢
  have HR := hide hR2
  have HP := hide hP
  have HG := hide hG
  have HS := hide hS
  have HNP := hide hnP
  have HNG := hide hnG
  have HNS := hide hnS
  clear hP hG hS hR hR2 hnP hnG hnS
  go_enter Tryd.func14, Tryd.ntmps14
  go_upto_region 1 with fail
  generalize ((w.alloc (.cells #[.int .i64 c, .slice aP nP cP, .slice aG nG cG, .slice aS nS cS] 25 (0, 0))).alloc (.cells #[.int .i64 0, .int .i64 0] 33 (0, 0))) = w1 at b1 kL kF ⊢
  have s0 := cell_of kL 0
  have s1 := cell_of kL 1
  have s2 := cell_of kL 2
  have s3 := cell_of kL 3
  simp at s0 s1 s2 s3
  by_cases h1 : c < 1
  case pos =>
    have HZ := hide (show R = (13, -1) by rw [HR.out]; rw [if_pos (.inl h1)])
    clear HR
    go_wp2_with fail
    refine (f27_any _ _ _).mono ?_
    rintro e wf ⟨rfl, bf⟩
    have kFf := (bf.block _ (lt_of kF)).trans kF
    have BFf := b1.trans (bf.mono b1.size)
    have st0 := cell_of kFf 0
    have st1 := cell_of kFf 1
    have fr0 := free_of kFf 0
    have fr1 := free_of kFf 1
    simp at st0 st1
    have KR := set_in (set_in kFf 0 (.int .i64 13)) 1 (.int .i64 (-1))
    have r0 := cell_of KR 0
    have r1 := cell_of KR 1
    simp at r0 r1
    have BR := (BFf.setCell (p := ⟨w.heap.size + 1, 0, none⟩) (by simp) (.int .i64 13)).setCell (p := ⟨w.heap.size + 1, 1, none⟩) (by simp) (.int .i64 (-1))
    clear KR
    go_wp2
    exact bodyPost_ret (v := .agg #[.int .i64 13, .int .i64 (-1)]) (by simp [results, Tryd.results14, go_sem, r0, r1]) rfl ⟨by rw [HZ.out], BR⟩
  by_cases h2 : 6000 < c
  case pos =>
    have HZ := hide (show R = (13, -1) by rw [HR.out]; rw [if_pos (.inr h2)])
    clear HR
    go_wp2_with fail
    refine (f27_any _ _ _).mono ?_
    rintro e wf ⟨rfl, bf⟩
    have kFf := (bf.block _ (lt_of kF)).trans kF
    have BFf := b1.trans (bf.mono b1.size)
    have st0 := cell_of kFf 0
    have st1 := cell_of kFf 1
    have fr0 := free_of kFf 0
    have fr1 := free_of kFf 1
    simp at st0 st1
    have KR := set_in (set_in kFf 0 (.int .i64 13)) 1 (.int .i64 (-1))
    have r0 := cell_of KR 0
    have r1 := cell_of KR 1
    simp at r0 r1
    have BR := (BFf.setCell (p := ⟨w.heap.size + 1, 0, none⟩) (by simp) (.int .i64 13)).setCell (p := ⟨w.heap.size + 1, 1, none⟩) (by simp) (.int .i64 (-1))
    clear KR
    go_wp2
    exact bodyPost_ret (v := .agg #[.int .i64 13, .int .i64 (-1)]) (by simp [results, Tryd.results14, go_sem, r0, r1]) rfl ⟨by rw [HZ.out], BR⟩
  have hcc : 1 ≤ c ∧ c ≤ 6000 := by omega
  have HCC := hide hcc
  have HR1 := hide (HR.out.trans (if_neg (by omega)))
  clear HR hcc
  have HR := HR1
  clear HR1
  by_cases h3 : 6000 < nP
  case pos =>
    have HZ := hide (show R = (7, -1) by rw [HR.out]; rw [if_pos (.inl h3)])
    clear HR
    go_wp2_with fail
    refine (f27_any _ _ _).mono ?_
    rintro e wf ⟨rfl, bf⟩
    have kFf := (bf.block _ (lt_of kF)).trans kF
    have BFf := b1.trans (bf.mono b1.size)
    have st0 := cell_of kFf 0
    have st1 := cell_of kFf 1
    have fr0 := free_of kFf 0
    have fr1 := free_of kFf 1
    simp at st0 st1
    have KR := set_in (set_in kFf 0 (.int .i64 7)) 1 (.int .i64 (-1))
    have r0 := cell_of KR 0
    have r1 := cell_of KR 1
    simp at r0 r1
    have BR := (BFf.setCell (p := ⟨w.heap.size + 1, 0, none⟩) (by simp) (.int .i64 7)).setCell (p := ⟨w.heap.size + 1, 1, none⟩) (by simp) (.int .i64 (-1))
    clear KR
    go_wp2
    exact bodyPost_ret (v := .agg #[.int .i64 7, .int .i64 (-1)]) (by simp [results, Tryd.results14, go_sem, r0, r1]) rfl ⟨by rw [HZ.out], BR⟩
  by_cases h4 : 120000 < nG
  case pos =>
    have HZ := hide (show R = (7, -1) by rw [HR.out]; rw [if_pos (.inr (.inl h4))])
    clear HR
    go_wp2_with fail
    refine (f27_any _ _ _).mono ?_
    rintro e wf ⟨rfl, bf⟩
    have kFf := (bf.block _ (lt_of kF)).trans kF
    have BFf := b1.trans (bf.mono b1.size)
    have st0 := cell_of kFf 0
    have st1 := cell_of kFf 1
    have fr0 := free_of kFf 0
    have fr1 := free_of kFf 1
    simp at st0 st1
    have KR := set_in (set_in kFf 0 (.int .i64 7)) 1 (.int .i64 (-1))
    have r0 := cell_of KR 0
    have r1 := cell_of KR 1
    simp at r0 r1
    have BR := (BFf.setCell (p := ⟨w.heap.size + 1, 0, none⟩) (by simp) (.int .i64 7)).setCell (p := ⟨w.heap.size + 1, 1, none⟩) (by simp) (.int .i64 (-1))
    clear KR
    go_wp2
    exact bodyPost_ret (v := .agg #[.int .i64 7, .int .i64 (-1)]) (by simp [results, Tryd.results14, go_sem, r0, r1]) rfl ⟨by rw [HZ.out], BR⟩
  by_cases h5 : 1200 < nS
  case pos =>
    have HZ := hide (show R = (7, -1) by rw [HR.out]; rw [if_pos (.inr (.inr h5))])
    clear HR
    go_wp2_with fail
    refine (f27_any _ _ _).mono ?_
    rintro e wf ⟨rfl, bf⟩
    have kFf := (bf.block _ (lt_of kF)).trans kF
    have BFf := b1.trans (bf.mono b1.size)
    have st0 := cell_of kFf 0
    have st1 := cell_of kFf 1
    have fr0 := free_of kFf 0
    have fr1 := free_of kFf 1
    simp at st0 st1
    have KR := set_in (set_in kFf 0 (.int .i64 7)) 1 (.int .i64 (-1))
    have r0 := cell_of KR 0
    have r1 := cell_of KR 1
    simp at r0 r1
    have BR := (BFf.setCell (p := ⟨w.heap.size + 1, 0, none⟩) (by simp) (.int .i64 7)).setCell (p := ⟨w.heap.size + 1, 1, none⟩) (by simp) (.int .i64 (-1))
    clear KR
    go_wp2
    exact bodyPost_ret (v := .agg #[.int .i64 7, .int .i64 (-1)]) (by simp [results, Tryd.results14, go_sem, r0, r1]) rfl ⟨by rw [HZ.out], BR⟩
  have HR1 := hide (HR.out.trans (if_neg (by omega)))
  clear HR
  obtain ⟨RS, hRS⟩ : ∃ RS : Int × Int, RS = (if 0 ≤ Lo.idx (Lo.bars c) 0 S then (4, Lo.idx (Lo.bars c) 0 S) else (0, 0)) := ⟨_, rfl⟩
  have HRS := hide (show RS = (if 0 ≤ Lo.idx (Lo.bars c) 0 (S.drop 0) then (4, Lo.idx (Lo.bars c) 0 (S.drop 0)) else (0, 0)) by rw [List.drop_zero]; exact hRS)
  obtain ⟨RG, hRG⟩ : ∃ RG : Int × Int, RG = (if ((G.drop 0).any fun x => !Lo.hasN c x 1) = true then (16, -1) else RS) := ⟨_, rfl⟩
  have HRG := hide hRG
  have HRP := hide (show R = (if ((P.drop 0).any fun x => !Lo.hasN c x 1) = true then (16, -1) else RG) by
    rw [HR1.out, hRG, ← hRS, List.drop_zero, List.drop_zero]
    cases (P.any fun x => !Lo.hasN c x 1) <;> cases (G.any fun x => !Lo.hasN c x 1) <;> simp)
  have HT := hide (fun v W => there26_any c v 1 (aP := aP) (aG := aG) (aS := aS) (nP := nP) (nG := nG) (nS := nS) (cP := cP) (cG := cG) (cS := cS) W HCC.out)
  clear HR1 hRS hRG
  go_wp2_with fail
  go_loopg [3] nP (fun k v wr => ∃ i, i ≤ nP ∧ k = nP - i ∧ v = .int .i64 (i : Nat) ∧ Hid (R = (if ((P.drop i).any fun x => !Lo.hasN c x 1) = true then (16, -1) else RG)) ∧ Below w1.heap.size w1 wr)
  case atStart => exact ⟨0, Nat.zero_le _, rfl, rfl, HRP, Below.refl _ _⟩
  case round =>
    clear HRP s0 s1 s2 s3
    obtain ⟨i, hi, rfl, rfl, H, hbr⟩ := hrel
    have BP := b1.trans (hbr.mono b1.size)
    have kLP := (hbr.block _ (lt_of kL)).trans kL
    have kFP := (hbr.block _ (lt_of kF)).trans kF
    clear kL kF
    have s0 := cell_of kLP 0
    have s1 := cell_of kLP 1
    have s2 := cell_of kLP 2
    have s3 := cell_of kLP 3
    simp at s0 s1 s2 s3
    have ySr := lt_of kLP
    by_cases hlt : i < nP
    case pos =>
      have hil : i < P.length := by have := HNP.out; omega
      have hR1 := H.out
      rw [List.drop_eq_getElem_cons hil, List.any_cons] at hR1
      obtain ⟨ao', cap', eqs, hx1, hx2, hat2⟩ := (HP.out.under BP).at
      injection eqs with z1 z2 z3
      subst z1
      obtain ⟨bb, oo, rfl, hb, e0⟩ := hat2 i hil
      generalize P[i] = x at e0 hR1
      have hq := HT.out x
      rw [Lo.there_has (by decide)] at hq
      generalize Lo.hasN c x 1 = q at hq hR1
      have HQ := hide hq
      have HR2 := hide hR1
      clear hat2 z2 z3 hR1 H hil hq hx1 hx2
      go_upto_region 8 with fail
      go_cut [46] (fun v wd => v = .bool (!q) ∧ Below wr.heap.size wr wd)
      case first =>
        refine wp_region_late (fun w' => Below wr.heap.size wr w') (fun _ => false) (by kernel_rfl) ?_
        have hH0 : Below wr.heap.size wr wr.drew := (Below.refl _ _).drew
        generalize wr.drew = wd0 at hH0 ⊢
        refine' wpAnyL_take (i := 0) (oi := ⟨some 39, _, _, _, _, _⟩) (v := _) rfl (by kernel_rfl) (by kernel_rfl) (by kernel_rfl) (by kernel_rfl) (fun _ _ _ h => h) hH0 (by rfl) ?hyv ?onw
        case hyv =>
          intro wz hSw
          have zc0 := (hSw.cell (p := ⟨w.heap.size, 0, none⟩) ySr).trans s0
          have zc1 := (hSw.cell (p := ⟨w.heap.size, 1, none⟩) ySr).trans s1
          have zc2 := (hSw.cell (p := ⟨w.heap.size, 2, none⟩) ySr).trans s2
          have zc3 := (hSw.cell (p := ⟨w.heap.size, 3, none⟩) ySr).trans s3
          have zc4 := (hSw.cell (p := ⟨bb, oo + i, none⟩) hb).trans e0
          go_simp
          try rfl
        case onw =>
          try simp only [Act.put, List.setIfInBounds_toArray, List.set_cons_zero, List.set_cons_succ]
          refine' wpAnyL_take (i := 1) (oi := ⟨some 40, _, _, _, _, _⟩) (v := _) rfl (by kernel_rfl) (by kernel_rfl) (by kernel_rfl) (by kernel_rfl) (fun _ _ _ h => h) hH0 (by rfl) ?hyv ?onw
          case hyv =>
            intro wz hSw
            go_simp
            try rfl
          case onw =>
            try simp only [Act.put, List.setIfInBounds_toArray, List.set_cons_zero, List.set_cons_succ]
            refine' wpAnyL_take (i := 2) (oi := ⟨some 41, _, _, _, _, _⟩) (v := _) rfl (by kernel_rfl) (by kernel_rfl) (by kernel_rfl) (by kernel_rfl) (fun _ _ _ h => h) hH0 (by rfl) ?hyv ?onw
            case hyv =>
              intro wz hSw
              have zc0 := (hSw.cell (p := ⟨w.heap.size, 0, none⟩) ySr).trans s0
              have zc1 := (hSw.cell (p := ⟨w.heap.size, 1, none⟩) ySr).trans s1
              have zc2 := (hSw.cell (p := ⟨w.heap.size, 2, none⟩) ySr).trans s2
              have zc3 := (hSw.cell (p := ⟨w.heap.size, 3, none⟩) ySr).trans s3
              have zc4 := (hSw.cell (p := ⟨bb, oo + i, none⟩) hb).trans e0
              go_simp
              try rfl
            case onw =>
              try simp only [Act.put, List.setIfInBounds_toArray, List.set_cons_zero, List.set_cons_succ]
              refine' wpAnyL_take (i := 3) (oi := ⟨some 42, _, _, _, _, _⟩) (v := _) rfl (by kernel_rfl) (by kernel_rfl) (by kernel_rfl) (by kernel_rfl) (fun _ _ _ h => h) hH0 (by rfl) ?hyv ?onw
              case hyv =>
                intro wz hSw
                go_simp
                try rfl
              case onw =>
                try simp only [Act.put, List.setIfInBounds_toArray, List.set_cons_zero, List.set_cons_succ]
                refine' wpAnyL_take (i := 4) (oi := ⟨some 43, _, _, _, _, _⟩) (v := _) rfl (by kernel_rfl) (by kernel_rfl) (by kernel_rfl) (by kernel_rfl) (fun _ _ _ h => h) hH0 (by rfl) ?hyv ?onw
                case hyv =>
                  intro wz hSw
                  go_simp
                  try rfl
                case onw =>
                  try simp only [Act.put, List.setIfInBounds_toArray, List.set_cons_zero, List.set_cons_succ]
                  refine' wpAnyL_take (i := 5) (oi := ⟨some 44, _, _, _, _, _⟩) (v := _) rfl (by kernel_rfl) (by kernel_rfl) (by kernel_rfl) (by kernel_rfl) (fun _ _ _ h => h) hH0 (by rfl) ?hyv ?onw
                  case hyv =>
                    intro wz hSw
                    have zc0 := (hSw.cell (p := ⟨w.heap.size, 0, none⟩) ySr).trans s0
                    have zc1 := (hSw.cell (p := ⟨w.heap.size, 1, none⟩) ySr).trans s1
                    have zc2 := (hSw.cell (p := ⟨w.heap.size, 2, none⟩) ySr).trans s2
                    have zc3 := (hSw.cell (p := ⟨w.heap.size, 3, none⟩) ySr).trans s3
                    have zc4 := (hSw.cell (p := ⟨bb, oo + i, none⟩) hb).trans e0
                    go_simp
                    try rfl
                  case onw =>
                    try simp only [Act.put, List.setIfInBounds_toArray, List.set_cons_zero, List.set_cons_succ]
                    refine wpAnyL_one (i := 6) (o := _) rfl (by kernel_rfl) (by rfl) (fun K hK => ?_)
                    go_simp
                    refine (HQ.out _).mono ?_
                    rintro eq wd1 ⟨rfl, bq1⟩
                    have hH1 : Below wr.heap.size wr wd1 := hH0.trans (bq1.mono hH0.size)
                    refine hK.out _ _ (fun _ => hH1) ?_
                    clear hK K
                    try simp only [Act.put, List.setIfInBounds_toArray, List.set_cons_zero, List.set_cons_succ]
                    refine' wpAnyL_take (i := 7) (oi := ⟨some 46, _, _, _, _, _⟩) (v := _) rfl (by kernel_rfl) (by kernel_rfl) (by kernel_rfl) (by kernel_rfl) (fun _ _ _ h => h) hH1 (by rfl) ?hyv ?onw
                    case hyv =>
                      intro wz hSw
                      go_simp
                      try rfl
                    case onw =>
                      try simp only [Act.put, List.setIfInBounds_toArray, List.set_cons_zero, List.set_cons_succ]
                      refine wpAnyL_done (by kernel_rfl) ?_ _
                      go_wp2_with fail
                      go_meet
                      case rel => exact ⟨rfl, hH1⟩
      case rest =>
        obtain ⟨rfl, bc⟩ := hcut
        have Bc := BP.trans (bc.mono BP.size)
        have kFc := (bc.block _ (lt_of kFP)).trans kFP
        have Hc := hbr.trans (bc.mono hbr.size)
        clear s0 s1 s2 s3 e0 HQ kLP kFP hbr
        cases q
        case false =>
          have HZ := hide (show R = (16, -1) by rw [HR2.out]; rfl)
          clear HR2
          have HZ0 := HZ
          clear HZ
          have HZ := HZ0
          clear HZ0
          go_wp2_with fail
          refine (f27_any _ _ _).mono ?_
          rintro e wf ⟨rfl, bf⟩
          have kFf := (bf.block _ (lt_of kFc)).trans kFc
          have BFf := Bc.trans (bf.mono Bc.size)
          have st0 := cell_of kFf 0
          have st1 := cell_of kFf 1
          have fr0 := free_of kFf 0
          have fr1 := free_of kFf 1
          simp at st0 st1
          have KR := set_in (set_in kFf 0 (.int .i64 16)) 1 (.int .i64 (-1))
          have r0 := cell_of KR 0
          have r1 := cell_of KR 1
          simp at r0 r1
          have BR := (BFf.setCell (p := ⟨w.heap.size + 1, 0, none⟩) (by simp) (.int .i64 16)).setCell (p := ⟨w.heap.size + 1, 1, none⟩) (by simp) (.int .i64 (-1))
          clear KR
          go_wp2
          exact bodyPost_ret (v := .agg #[.int .i64 16, .int .i64 (-1)]) (by simp [results, Tryd.results14, go_sem, r0, r1]) rfl ⟨by rw [HZ.out], BR⟩
        case true =>
          have HZ := hide (show R = _ from HR2.out)
          clear HR2
          go_wp2_with fail
          go_roundg (nP - (i + 1))
          case measure => omega
          case rel => exact ⟨i + 1, by omega, rfl, by go_num, hide (by rw [HZ.out]; simp), Hc⟩
    case neg =>
      have hin : i = nP := by omega
      have HZ := hide (show R = RG by rw [H.out, List.drop_of_length_le (by have := HNP.out; omega)]; rfl)
      clear H hin
      have HRG2 := hide (HZ.out.trans HRG.out)
      clear HZ HRG
      obtain ⟨w2, hw2⟩ : ∃ w2, w2 = wr := ⟨_, rfl⟩
      subst hw2
      clear hbr
      go_wp2_with fail
      go_loopg [4] nG (fun k v wr => ∃ i, i ≤ nG ∧ k = nG - i ∧ v = .int .i64 (i : Nat) ∧ Hid (R = (if ((G.drop i).any fun x => !Lo.hasN c x 1) = true then (16, -1) else RS)) ∧ Below w2.heap.size w2 wr)
      case atStart => exact ⟨0, Nat.zero_le _, rfl, rfl, HRG2, Below.refl _ _⟩
      case round =>
        clear HRG2 s0 s1 s2 s3
        obtain ⟨i, hi, rfl, rfl, H, hbr⟩ := hrel
        have BG := BP.trans (hbr.mono BP.size)
        have kLG := (hbr.block _ (lt_of kLP)).trans kLP
        have kFG := (hbr.block _ (lt_of kFP)).trans kFP
        clear kLP kFP
        have s0 := cell_of kLG 0
        have s1 := cell_of kLG 1
        have s2 := cell_of kLG 2
        have s3 := cell_of kLG 3
        simp at s0 s1 s2 s3
        have ySr := lt_of kLG
        by_cases hlt : i < nG
        case pos =>
          have hil : i < G.length := by have := HNG.out; omega
          have hR1 := H.out
          rw [List.drop_eq_getElem_cons hil, List.any_cons] at hR1
          obtain ⟨ao', cap', eqs, hx1, hx2, hat2⟩ := (HG.out.under BG).at
          injection eqs with z1 z2 z3
          subst z1
          obtain ⟨bb, oo, rfl, hb, e0⟩ := hat2 i hil
          generalize G[i] = x at e0 hR1
          have hq := HT.out x
          rw [Lo.there_has (by decide)] at hq
          generalize Lo.hasN c x 1 = q at hq hR1
          have HQ := hide hq
          have HR2 := hide hR1
          clear hat2 z2 z3 hR1 H hil hq hx1 hx2
          go_upto_region 13 with fail
          go_cut [62] (fun v wd => v = .bool (!q) ∧ Below wr.heap.size wr wd)
          case first =>
            refine wp_region_late (fun w' => Below wr.heap.size wr w') (fun _ => false) (by kernel_rfl) ?_
            have hH0 : Below wr.heap.size wr wr.drew := (Below.refl _ _).drew
            generalize wr.drew = wd0 at hH0 ⊢
            refine' wpAnyL_take (i := 0) (oi := ⟨some 55, _, _, _, _, _⟩) (v := _) rfl (by kernel_rfl) (by kernel_rfl) (by kernel_rfl) (by kernel_rfl) (fun _ _ _ h => h) hH0 (by rfl) ?hyv ?onw
            case hyv =>
              intro wz hSw
              have zc0 := (hSw.cell (p := ⟨w.heap.size, 0, none⟩) ySr).trans s0
              have zc1 := (hSw.cell (p := ⟨w.heap.size, 1, none⟩) ySr).trans s1
              have zc2 := (hSw.cell (p := ⟨w.heap.size, 2, none⟩) ySr).trans s2
              have zc3 := (hSw.cell (p := ⟨w.heap.size, 3, none⟩) ySr).trans s3
              have zc4 := (hSw.cell (p := ⟨bb, oo + i, none⟩) hb).trans e0
              go_simp
              try rfl
            case onw =>
              try simp only [Act.put, List.setIfInBounds_toArray, List.set_cons_zero, List.set_cons_succ]
              refine' wpAnyL_take (i := 1) (oi := ⟨some 56, _, _, _, _, _⟩) (v := _) rfl (by kernel_rfl) (by kernel_rfl) (by kernel_rfl) (by kernel_rfl) (fun _ _ _ h => h) hH0 (by rfl) ?hyv ?onw
              case hyv =>
                intro wz hSw
                go_simp
                try rfl
              case onw =>
                try simp only [Act.put, List.setIfInBounds_toArray, List.set_cons_zero, List.set_cons_succ]
                refine' wpAnyL_take (i := 2) (oi := ⟨some 57, _, _, _, _, _⟩) (v := _) rfl (by kernel_rfl) (by kernel_rfl) (by kernel_rfl) (by kernel_rfl) (fun _ _ _ h => h) hH0 (by rfl) ?hyv ?onw
                case hyv =>
                  intro wz hSw
                  have zc0 := (hSw.cell (p := ⟨w.heap.size, 0, none⟩) ySr).trans s0
                  have zc1 := (hSw.cell (p := ⟨w.heap.size, 1, none⟩) ySr).trans s1
                  have zc2 := (hSw.cell (p := ⟨w.heap.size, 2, none⟩) ySr).trans s2
                  have zc3 := (hSw.cell (p := ⟨w.heap.size, 3, none⟩) ySr).trans s3
                  have zc4 := (hSw.cell (p := ⟨bb, oo + i, none⟩) hb).trans e0
                  go_simp
                  try rfl
                case onw =>
                  try simp only [Act.put, List.setIfInBounds_toArray, List.set_cons_zero, List.set_cons_succ]
                  refine' wpAnyL_take (i := 3) (oi := ⟨some 58, _, _, _, _, _⟩) (v := _) rfl (by kernel_rfl) (by kernel_rfl) (by kernel_rfl) (by kernel_rfl) (fun _ _ _ h => h) hH0 (by rfl) ?hyv ?onw
                  case hyv =>
                    intro wz hSw
                    go_simp
                    try rfl
                  case onw =>
                    try simp only [Act.put, List.setIfInBounds_toArray, List.set_cons_zero, List.set_cons_succ]
                    refine' wpAnyL_take (i := 4) (oi := ⟨some 59, _, _, _, _, _⟩) (v := _) rfl (by kernel_rfl) (by kernel_rfl) (by kernel_rfl) (by kernel_rfl) (fun _ _ _ h => h) hH0 (by rfl) ?hyv ?onw
                    case hyv =>
                      intro wz hSw
                      go_simp
                      try rfl
                    case onw =>
                      try simp only [Act.put, List.setIfInBounds_toArray, List.set_cons_zero, List.set_cons_succ]
                      refine' wpAnyL_take (i := 5) (oi := ⟨some 60, _, _, _, _, _⟩) (v := _) rfl (by kernel_rfl) (by kernel_rfl) (by kernel_rfl) (by kernel_rfl) (fun _ _ _ h => h) hH0 (by rfl) ?hyv ?onw
                      case hyv =>
                        intro wz hSw
                        have zc0 := (hSw.cell (p := ⟨w.heap.size, 0, none⟩) ySr).trans s0
                        have zc1 := (hSw.cell (p := ⟨w.heap.size, 1, none⟩) ySr).trans s1
                        have zc2 := (hSw.cell (p := ⟨w.heap.size, 2, none⟩) ySr).trans s2
                        have zc3 := (hSw.cell (p := ⟨w.heap.size, 3, none⟩) ySr).trans s3
                        have zc4 := (hSw.cell (p := ⟨bb, oo + i, none⟩) hb).trans e0
                        go_simp
                        try rfl
                      case onw =>
                        try simp only [Act.put, List.setIfInBounds_toArray, List.set_cons_zero, List.set_cons_succ]
                        refine wpAnyL_one (i := 6) (o := _) rfl (by kernel_rfl) (by rfl) (fun K hK => ?_)
                        go_simp
                        refine (HQ.out _).mono ?_
                        rintro eq wd1 ⟨rfl, bq1⟩
                        have hH1 : Below wr.heap.size wr wd1 := hH0.trans (bq1.mono hH0.size)
                        refine hK.out _ _ (fun _ => hH1) ?_
                        clear hK K
                        try simp only [Act.put, List.setIfInBounds_toArray, List.set_cons_zero, List.set_cons_succ]
                        refine' wpAnyL_take (i := 7) (oi := ⟨some 62, _, _, _, _, _⟩) (v := _) rfl (by kernel_rfl) (by kernel_rfl) (by kernel_rfl) (by kernel_rfl) (fun _ _ _ h => h) hH1 (by rfl) ?hyv ?onw
                        case hyv =>
                          intro wz hSw
                          go_simp
                          try rfl
                        case onw =>
                          try simp only [Act.put, List.setIfInBounds_toArray, List.set_cons_zero, List.set_cons_succ]
                          refine wpAnyL_done (by kernel_rfl) ?_ _
                          go_wp2_with fail
                          go_meet
                          case rel => exact ⟨rfl, hH1⟩
          case rest =>
            obtain ⟨rfl, bc⟩ := hcut
            have Bc := BG.trans (bc.mono BG.size)
            have kFc := (bc.block _ (lt_of kFG)).trans kFG
            have Hc := hbr.trans (bc.mono hbr.size)
            clear s0 s1 s2 s3 e0 HQ kLG kFG hbr
            cases q
            case false =>
              have HZ := hide (show R = (16, -1) by rw [HR2.out]; rfl)
              clear HR2
              have HZ0 := HZ
              clear HZ
              have HZ := HZ0
              clear HZ0
              go_wp2_with fail
              refine (f27_any _ _ _).mono ?_
              rintro e wf ⟨rfl, bf⟩
              have kFf := (bf.block _ (lt_of kFc)).trans kFc
              have BFf := Bc.trans (bf.mono Bc.size)
              have st0 := cell_of kFf 0
              have st1 := cell_of kFf 1
              have fr0 := free_of kFf 0
              have fr1 := free_of kFf 1
              simp at st0 st1
              have KR := set_in (set_in kFf 0 (.int .i64 16)) 1 (.int .i64 (-1))
              have r0 := cell_of KR 0
              have r1 := cell_of KR 1
              simp at r0 r1
              have BR := (BFf.setCell (p := ⟨w.heap.size + 1, 0, none⟩) (by simp) (.int .i64 16)).setCell (p := ⟨w.heap.size + 1, 1, none⟩) (by simp) (.int .i64 (-1))
              clear KR
              go_wp2
              exact bodyPost_ret (v := .agg #[.int .i64 16, .int .i64 (-1)]) (by simp [results, Tryd.results14, go_sem, r0, r1]) rfl ⟨by rw [HZ.out], BR⟩
            case true =>
              have HZ := hide (show R = _ from HR2.out)
              clear HR2
              go_wp2_with fail
              go_roundg (nG - (i + 1))
              case measure => omega
              case rel => exact ⟨i + 1, by omega, rfl, by go_num, hide (by rw [HZ.out]; simp), Hc⟩
        case neg =>
          have hin : i = nG := by omega
          have HZ := hide (show R = RS by rw [H.out, List.drop_of_length_le (by have := HNG.out; omega)]; rfl)
          clear H hin
          have HRS2 := hide (HZ.out.trans HRS.out)
          have HR0 := hide HZ.out
          clear HZ HRS
          obtain ⟨w3, hw3⟩ : ∃ w3, w3 = wr := ⟨_, rfl⟩
          subst hw3
          clear hbr
          go_wp2_with fail
          go_loopg [5] nS (fun k v wr => ∃ i, i ≤ nS ∧ k = nS - i ∧ v = .int .i64 (i : Nat) ∧ Hid (R = (if 0 ≤ Lo.idx (Lo.bars c) i (S.drop i) then (4, Lo.idx (Lo.bars c) i (S.drop i)) else (0, 0))) ∧ Below w3.heap.size w3 wr)
          case atStart => exact ⟨0, Nat.zero_le _, rfl, rfl, HRS2, Below.refl _ _⟩
          case round =>
            clear HRS2 s0 s1 s2 s3
            obtain ⟨i, hi, rfl, rfl, H, hbr⟩ := hrel
            have Bq := BG.trans (hbr.mono BG.size)
            have kLq := (hbr.block _ (lt_of kLG)).trans kLG
            have kFq := (hbr.block _ (lt_of kFG)).trans kFG
            clear kLG kFG
            have s0 := cell_of kLq 0
            have s1 := cell_of kLq 1
            have s2 := cell_of kLq 2
            have s3 := cell_of kLq 3
            simp at s0 s1 s2 s3
            have ySr := lt_of kLq
            by_cases hlt : i < nS
            case neg =>
              have hin : i = nS := by omega
              subst hin
              have HZ := hide (show R = (0, 0) by rw [H.out, List.drop_of_length_le (by have := HNS.out; omega)]; rfl)
              clear H
              have st0 := cell_of kFq 0
              have st1 := cell_of kFq 1
              have fr0 := free_of kFq 0
              have fr1 := free_of kFq 1
              simp at st0 st1
              have KR := set_in (set_in kFq 0 (.int .i64 0)) 1 (.int .i64 0)
              have r0 := cell_of KR 0
              have r1 := cell_of KR 1
              simp at r0 r1
              have BR := (Bq.setCell (p := ⟨w.heap.size + 1, 0, none⟩) (by simp) (.int .i64 0)).setCell (p := ⟨w.heap.size + 1, 1, none⟩) (by simp) (.int .i64 0)
              clear KR
              go_wp2
              exact bodyPost_ret (v := .agg #[.int .i64 0, .int .i64 0]) (by simp [results, Tryd.results14, go_sem, r0, r1]) rfl ⟨by rw [HZ.out], BR⟩
            case pos =>
              have hil : i < S.length := by have := HNS.out; omega
              have hR1 := H.out
              rw [List.drop_eq_getElem_cons hil] at hR1
              obtain ⟨ao', cap', eqs, hx1, hx2, hat2⟩ := (HS.out.under Bq).at
              injection eqs with z1 z2 z3
              subst z1
              obtain ⟨bb, oo, y, rfl, hb, ⟨e0, e1, e2, e3, e4, e5⟩, hy⟩ := hat2 i hil
              generalize S[i] = x at e0 e1 e2 e3 hy hR1
              obtain ⟨op, k, n, t, F, E⟩ := x
              dsimp only at e0 e1 e2 e3
              have hq := fun (W : World) (b : Below wr.heap.size wr W) => loopOK27_any c op k n t (aP := aP) (aG := aG) (aS := some ⟨bb, oo, none⟩) (nP := nP) (nG := nG) (nS := nS) (cP := cP) (cG := cG) (cS := cS) (hy.under b).F (hy.under b).E HCC.out
              unfold Lo.idx at hR1
              generalize Lo.bars c ⟨op, k, n, t, F, E⟩ = q at hq hR1
              have HQ := hide hq
              have HR2 := hide hR1
              clear hat2 z2 z3 hR1 H hil hq hx1 hx2 hy
              go_upto_region 18 with fail
              go_cut [78] (fun v wd => v = .bool q ∧ Below wr.heap.size wr wd)
              case first =>
                refine wp_region_late (fun w' => Below wr.heap.size wr w') (fun _ => false) (by kernel_rfl) ?_
                have hH0 : Below wr.heap.size wr wr.drew := (Below.refl _ _).drew
                generalize wr.drew = wd0 at hH0 ⊢
                refine' wpAnyL_take (i := 0) (oi := ⟨some 71, _, _, _, _, _⟩) (v := _) rfl (by kernel_rfl) (by kernel_rfl) (by kernel_rfl) (by kernel_rfl) (fun _ _ _ h => h) hH0 (by rfl) ?hyv ?onw
                case hyv =>
                  intro wz hSw
                  have zc0 := (hSw.cell (p := ⟨w.heap.size, 0, none⟩) ySr).trans s0
                  have zc1 := (hSw.cell (p := ⟨w.heap.size, 1, none⟩) ySr).trans s1
                  have zc2 := (hSw.cell (p := ⟨w.heap.size, 2, none⟩) ySr).trans s2
                  have zc3 := (hSw.cell (p := ⟨w.heap.size, 3, none⟩) ySr).trans s3
                  have zc4 := (hSw.cell (p := ⟨bb, oo + i * 6, none⟩) hb).trans e0
                  have zc5 := (hSw.cell (p := ⟨bb, oo + i * 6 + 1, none⟩) hb).trans e1
                  have zc6 := (hSw.cell (p := ⟨bb, oo + i * 6 + 2, none⟩) hb).trans e2
                  have zc7 := (hSw.cell (p := ⟨bb, oo + i * 6 + 3, none⟩) hb).trans e3
                  have zc8 := (hSw.cell (p := ⟨bb, oo + i * 6 + 4, none⟩) hb).trans e4
                  have zc9 := (hSw.cell (p := ⟨bb, oo + i * 6 + 5, none⟩) hb).trans e5
                  go_simp
                  try rfl
                case onw =>
                  try simp only [Act.put, List.setIfInBounds_toArray, List.set_cons_zero, List.set_cons_succ]
                  refine' wpAnyL_take (i := 1) (oi := ⟨some 72, _, _, _, _, _⟩) (v := _) rfl (by kernel_rfl) (by kernel_rfl) (by kernel_rfl) (by kernel_rfl) (fun _ _ _ h => h) hH0 (by rfl) ?hyv ?onw
                  case hyv =>
                    intro wz hSw
                    go_simp
                    try rfl
                  case onw =>
                    try simp only [Act.put, List.setIfInBounds_toArray, List.set_cons_zero, List.set_cons_succ]
                    refine' wpAnyL_take (i := 2) (oi := ⟨some 73, _, _, _, _, _⟩) (v := _) rfl (by kernel_rfl) (by kernel_rfl) (by kernel_rfl) (by kernel_rfl) (fun _ _ _ h => h) hH0 (by rfl) ?hyv ?onw
                    case hyv =>
                      intro wz hSw
                      have zc0 := (hSw.cell (p := ⟨w.heap.size, 0, none⟩) ySr).trans s0
                      have zc1 := (hSw.cell (p := ⟨w.heap.size, 1, none⟩) ySr).trans s1
                      have zc2 := (hSw.cell (p := ⟨w.heap.size, 2, none⟩) ySr).trans s2
                      have zc3 := (hSw.cell (p := ⟨w.heap.size, 3, none⟩) ySr).trans s3
                      have zc4 := (hSw.cell (p := ⟨bb, oo + i * 6, none⟩) hb).trans e0
                      have zc5 := (hSw.cell (p := ⟨bb, oo + i * 6 + 1, none⟩) hb).trans e1
                      have zc6 := (hSw.cell (p := ⟨bb, oo + i * 6 + 2, none⟩) hb).trans e2
                      have zc7 := (hSw.cell (p := ⟨bb, oo + i * 6 + 3, none⟩) hb).trans e3
                      have zc8 := (hSw.cell (p := ⟨bb, oo + i * 6 + 4, none⟩) hb).trans e4
                      have zc9 := (hSw.cell (p := ⟨bb, oo + i * 6 + 5, none⟩) hb).trans e5
                      go_simp
                      try rfl
                    case onw =>
                      try simp only [Act.put, List.setIfInBounds_toArray, List.set_cons_zero, List.set_cons_succ]
                      refine' wpAnyL_take (i := 3) (oi := ⟨some 74, _, _, _, _, _⟩) (v := _) rfl (by kernel_rfl) (by kernel_rfl) (by kernel_rfl) (by kernel_rfl) (fun _ _ _ h => h) hH0 (by rfl) ?hyv ?onw
                      case hyv =>
                        intro wz hSw
                        go_simp
                        try rfl
                      case onw =>
                        try simp only [Act.put, List.setIfInBounds_toArray, List.set_cons_zero, List.set_cons_succ]
                        refine' wpAnyL_take (i := 4) (oi := ⟨some 75, _, _, _, _, _⟩) (v := _) rfl (by kernel_rfl) (by kernel_rfl) (by kernel_rfl) (by kernel_rfl) (fun _ _ _ h => h) hH0 (by rfl) ?hyv ?onw
                        case hyv =>
                          intro wz hSw
                          go_simp
                          try rfl
                        case onw =>
                          try simp only [Act.put, List.setIfInBounds_toArray, List.set_cons_zero, List.set_cons_succ]
                          refine' wpAnyL_take (i := 5) (oi := ⟨some 76, _, _, _, _, _⟩) (v := _) rfl (by kernel_rfl) (by kernel_rfl) (by kernel_rfl) (by kernel_rfl) (fun _ _ _ h => h) hH0 (by rfl) ?hyv ?onw
                          case hyv =>
                            intro wz hSw
                            have zc0 := (hSw.cell (p := ⟨w.heap.size, 0, none⟩) ySr).trans s0
                            have zc1 := (hSw.cell (p := ⟨w.heap.size, 1, none⟩) ySr).trans s1
                            have zc2 := (hSw.cell (p := ⟨w.heap.size, 2, none⟩) ySr).trans s2
                            have zc3 := (hSw.cell (p := ⟨w.heap.size, 3, none⟩) ySr).trans s3
                            have zc4 := (hSw.cell (p := ⟨bb, oo + i * 6, none⟩) hb).trans e0
                            have zc5 := (hSw.cell (p := ⟨bb, oo + i * 6 + 1, none⟩) hb).trans e1
                            have zc6 := (hSw.cell (p := ⟨bb, oo + i * 6 + 2, none⟩) hb).trans e2
                            have zc7 := (hSw.cell (p := ⟨bb, oo + i * 6 + 3, none⟩) hb).trans e3
                            have zc8 := (hSw.cell (p := ⟨bb, oo + i * 6 + 4, none⟩) hb).trans e4
                            have zc9 := (hSw.cell (p := ⟨bb, oo + i * 6 + 5, none⟩) hb).trans e5
                            go_simp
                            try rfl
                          case onw =>
                            try simp only [Act.put, List.setIfInBounds_toArray, List.set_cons_zero, List.set_cons_succ]
                            refine wpAnyL_one (i := 6) (o := _) rfl (by kernel_rfl) (by rfl) (fun K hK => ?_)
                            go_simp
                            refine (HQ.out _ hH0).mono ?_
                            rintro eq wd1 ⟨rfl, bq1⟩
                            have hH1 : Below wr.heap.size wr wd1 := hH0.trans (bq1.mono hH0.size)
                            refine hK.out _ _ (fun _ => hH1) ?_
                            clear hK K
                            try simp only [Act.put, List.setIfInBounds_toArray, List.set_cons_zero, List.set_cons_succ]
                            refine' wpAnyL_take (i := 7) (oi := ⟨some 78, _, _, _, _, _⟩) (v := _) rfl (by kernel_rfl) (by kernel_rfl) (by kernel_rfl) (by kernel_rfl) (fun _ _ _ h => h) hH1 (by rfl) ?hyv ?onw
                            case hyv =>
                              intro wz hSw
                              go_simp
                              try rfl
                            case onw =>
                              try simp only [Act.put, List.setIfInBounds_toArray, List.set_cons_zero, List.set_cons_succ]
                              refine wpAnyL_done (by kernel_rfl) ?_ _
                              go_wp2_with fail
                              go_meet
                              case rel => exact ⟨by simp, hH1⟩
              case rest =>
                obtain ⟨rfl, bc⟩ := hcut
                have Bc := Bq.trans (bc.mono Bq.size)
                have kFc := (bc.block _ (lt_of kFq)).trans kFq
                have Hc := hbr.trans (bc.mono hbr.size)
                clear s0 s1 s2 s3 e0 e1 e2 e3 e4 e5 HQ kLq kFq hbr
                cases q
                case true =>
                  have HZ := hide (show R = (4, (i : Int)) by rw [HR2.out, if_pos rfl, if_pos (by omega)])
                  clear HR2
                  go_wp2_with fail
                  refine (f27_any _ _ _).mono ?_
                  rintro e wf ⟨rfl, bf⟩
                  have kFf := (bf.block _ (lt_of kFc)).trans kFc
                  have BFf := Bc.trans (bf.mono Bc.size)
                  have st0 := cell_of kFf 0
                  have st1 := cell_of kFf 1
                  have fr0 := free_of kFf 0
                  have fr1 := free_of kFf 1
                  simp at st0 st1
                  have KR := set_in (set_in kFf 0 (.int .i64 4)) 1 (.int .i64 (i : Int))
                  have r0 := cell_of KR 0
                  have r1 := cell_of KR 1
                  simp at r0 r1
                  have BR := (BFf.setCell (p := ⟨w.heap.size + 1, 0, none⟩) (by simp) (.int .i64 4)).setCell (p := ⟨w.heap.size + 1, 1, none⟩) (by simp) (.int .i64 (i : Int))
                  clear KR
                  go_wp2
                  exact bodyPost_ret (v := .agg #[.int .i64 4, .int .i64 (i : Int)]) (by simp [results, Tryd.results14, go_sem, r0, r1]) rfl ⟨by rw [HZ.out], BR⟩
                case false =>
                  have HZ := hide (show R = (if 0 ≤ Lo.idx (Lo.bars c) (i + 1) (S.drop (i + 1)) then (4, Lo.idx (Lo.bars c) (i + 1) (S.drop (i + 1))) else (0, 0)) by rw [HR2.out]; simp only [Bool.false_eq_true, if_false])
                  clear HR2
                  go_wp2_with fail
                  go_roundg (nS - (i + 1))
                  case measure => omega
                  case rel => exact ⟨i + 1, by omega, rfl, by go_num, HZ, Hc⟩
end Go.Proofs.YtbiomnnlpafciaaDoor
