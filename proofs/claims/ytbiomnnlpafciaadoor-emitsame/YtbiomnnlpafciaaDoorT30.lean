import Derived.Test.YtbiomnnlpafciaaDoorT29
import Derived.WalkKit
import Derived.WalkSpells
import Derived.IntWalk
import Derived.Deep.Cut
import Derived.Deep.LoopGhost
import Derived.Laws.Cover1
import Derived.Lib.Hide
set_option linter.unusedVariables false
set_option linter.unusedSimpArgs false
set_option maxHeartbeats 64000000
set_option maxRecDepth 100000
namespace Go.Proofs.YtbiomnnlpafciaaDoor
open Go.RowKit Go.IntWalk
set_option linter.unusedVariables false
set_option linter.unusedSimpArgs false
set_option maxHeartbeats 32000000 in
theorem row15_any {w : World} {mb cb nc : Nat} {aP aG aS : Option Addr} {cP cG cS : Nat} {L : Lo.Lp} {M : List Int} (hM : RMach w mb cb nc aP aG aS cP cG cS L) (hl : LB w cb M) (hc : (M.length : Int) = L.c) (hGd : Lo.Good L) (hGn : L.P.length ≤ 6000 ∧ L.G.length ≤ 120000 ∧ L.S.length ≤ 1200) {okI : Nat → Prop} {aI : Option Addr} {cI : Nat} {inp : List Int} (hI : HInts okI w (.slice aI L.P.length cI) inp) (hok : ∀ i, okI i → i ≠ cb) (hlen : inp.length = L.P.length) (hWM : Lo.Wd M) (hWI : Lo.Wd inp) :
    Calls Tryd.prog 18 #[.pointer (some ⟨mb, 0, none⟩), .slice aI L.P.length cI] w (RRowPost w cb L M inp) := by
  have hcb := hl.lt
  have hML : M.length ≤ 6000 := by have := hGd.c; omega
  obtain ⟨hPn, hGn, hSn⟩ := hGn
  obtain ⟨X, hX⟩ : ∃ X, X = Lo.putL M L.P inp := ⟨_, rfl⟩
  have hXl : X.length = M.length := by rw [hX]; exact Lo.putL_len _ _ _
  have HX := hide (show X = Lo.putL M (L.P.drop 0) (inp.drop 0) by rw [List.drop_zero, List.drop_zero]; exact hX)
  have HWX := hide (show Lo.Wd X by rw [hX]; exact Lo.putL_wide _ _ _ hWM hWI)
  obtain ⟨Y, hY⟩ : ∃ Y, Y = L.S.foldl Lo.doS X := ⟨_, rfl⟩
  have HY := hide (show Y = (L.S.drop 0).foldl Lo.doS X by rw [List.drop_zero]; exact hY)
  have HRow := hide (show Lo.row L M inp = Y by unfold Lo.row; rw [← hX, hY])
  have HGd := hide hGd
  have HC := hide hc
  have HI := hide hI
  have HLen := hide hlen
  have HOK := hide hok
  have HMX := hide hXl
  have HSW := hide hM.h.W
  obtain ⟨ai0, ci0, ei0, hi1, hi2, -⟩ := hI.at
  clear hX hY hI hlen hok hGd hc hXl hWM hWI ei0 hi1 hi2
  go_enter Tryd.func18, Tryd.ntmps18
  have m1 := cell_of hM.m.m 1
  have m2 := cell_of hM.m.m 2
  have m3 := cell_of hM.m.m 3
  have m4 := cell_of hM.m.m 4
  simp at m1 m2 m3 m4
  have yM := lt_of hM.m.m
  have hl1 := hl
  go_wp2_with fail
  go_loopg [5] L.P.length (fun k v wr => ∃ (i : Nat) (M' : List Int), i ≤ L.P.length ∧ k = L.P.length - i ∧ v = .int .i64 (i : Nat) ∧ Hid (X = Lo.putL M' (L.P.drop i) (inp.drop i)) ∧ Hid (LB wr cb M' ∧ M'.length = M.length) ∧ Aside [cb] w.heap.size w wr)
  case atStart => exact ⟨0, M, Nat.zero_le _, rfl, rfl, HX, hide ⟨hl1, rfl⟩, Aside.refl _⟩
  case round =>
    clear HX m1 m2 m3 m4 hl1 yM
    obtain ⟨i, M', hi, rfl, rfl, H, HL, hbr⟩ := hrel
    have hMr := hM.past hbr
    have m1 := cell_of hMr.m.m 1
    have m2 := cell_of hMr.m.m 2
    have m3 := cell_of hMr.m.m 3
    have m4 := cell_of hMr.m.m 4
    simp at m1 m2 m3 m4
    have yM := lt_of hMr.m.m
    by_cases hlt : i < L.P.length
    case pos =>
      obtain ⟨kC0, hM'⟩ := HL.out
      have hpg := HGd.out.P
      obtain ⟨aoP, cpP, eP, -, -, hatP⟩ := hMr.h.P.at2
      injection eP with q1 q2 q3
      obtain ⟨bP, oP, eaP, yP, nP, e0⟩ := hatP i hlt
      rw [eaP] at q1
      obtain ⟨aoI, cpI, eI, -, -, hatI⟩ := (HI.out.past hbr HOK.out).at2
      injection eI with r1 r2 r3
      have hiI : i < inp.length := by have := HLen.out; omega
      obtain ⟨bI, oI, eaI, yI, nI, f0⟩ := hatI i hiI
      have nI2 := HOK.out _ nI
      rw [eaI] at r1
      have hR1 := H.out
      rw [List.drop_eq_getElem_cons hlt, List.drop_eq_getElem_cons hiI, Lo.putL] at hR1
      have hpi := hpg _ (List.getElem_mem hlt)
      generalize (L.P)[i] = p at e0 hR1 hpi
      generalize inp[i] = x at f0 hR1
      obtain ⟨pn, rfl⟩ : ∃ pn : Nat, p = (pn : Int) := ⟨p.toNat, by omega⟩
      rw [Int.toNat_natCast] at hR1
      have hpl : pn < M'.length := by have := HC.out; omega
      have hpc : pn < nc := by have := hM.n; omega
      have HR1 := hide hR1
      have HM' := hide hM'
      subst r1 q1
      clear hatP hatI q2 q3 r2 r3 hR1 H HL hM' hpg hpi
      go_upto_region 4 with fail
      refine wp_region_late (fun w' => Aside [cb] wr.heap.size wr w') (fun _ => false) (by kernel_rfl) ?_
      have hH0 : Aside [cb] wr.heap.size wr wr.drew := (Aside.refl _).drew
      have kC : LB wr.drew cb M' := kC0
      generalize wr.drew = wd0 at hH0 kC ⊢
      refine' wpAnyL_take (i := 0) (oi := ⟨some 19, _, _, _, _, _⟩) (v := _) rfl (by kernel_rfl) (by kernel_rfl) (by kernel_rfl) (by kernel_rfl) (fun _ _ _ h => h) hH0 (by rfl) ?hyv ?onw
      case hyv =>
        intro wz hSw
        go_simp
        try rfl
      case onw =>
        try simp only [Act.put, List.setIfInBounds_toArray, List.set_cons_zero, List.set_cons_succ]
        refine' wpAnyL_take (i := 1) (oi := ⟨some 20, _, _, _, _, _⟩) (v := _) rfl (by kernel_rfl) (by kernel_rfl) (by kernel_rfl) (by kernel_rfl) (fun _ _ _ h => h) hH0 (by rfl) ?hyv ?onw
        case hyv =>
          intro wz hSw
          go_simp
          try rfl
        case onw =>
          try simp only [Act.put, List.setIfInBounds_toArray, List.set_cons_zero, List.set_cons_succ]
          refine' wpAnyL_take (i := 2) (oi := ⟨some 21, _, _, _, _, _⟩) (v := _) rfl (by kernel_rfl) (by kernel_rfl) (by kernel_rfl) (by kernel_rfl) (fun _ _ _ h => h) hH0 (by rfl) ?hyv ?onw
          case hyv =>
            intro wz hSw
            go_simp
            try rfl
          case onw =>
            try simp only [Act.put, List.setIfInBounds_toArray, List.set_cons_zero, List.set_cons_succ]
            refine' wpAnyL_take (i := 3) (oi := ⟨some 22, _, _, _, _, _⟩) (v := _) rfl (by kernel_rfl) (by kernel_rfl) (by kernel_rfl) (by kernel_rfl) (fun _ _ _ h => h) hH0 (by rfl) ?hyv ?onw
            case hyv =>
              intro wz hSw
              have zc0 := (aside_cell hSw (p := ⟨mb, 1, none⟩) yM (by simpa using hMr.m.ne)).trans m1
              have zc1 := (aside_cell hSw (p := ⟨mb, 4, none⟩) yM (by simpa using hMr.m.ne)).trans m4
              have zc2 := (aside_cell hSw (p := ⟨bP, oP + i, none⟩) yP (by simpa using nP)).trans e0
              have zc3 := (aside_cell hSw (p := ⟨bI, oI + i, none⟩) yI (by simpa using nI2)).trans f0
              go_simp
              try rfl
            case onw =>
              try simp only [Act.put, List.setIfInBounds_toArray, List.set_cons_zero, List.set_cons_succ]
              refine' wpAnyL_take (i := 4) (oi := ⟨some 23, _, _, _, _, _⟩) (v := _) rfl (by kernel_rfl) (by kernel_rfl) (by kernel_rfl) (by kernel_rfl) (fun _ _ _ h => h) hH0 (by rfl) ?hyv ?onw
              case hyv =>
                intro wz hSw
                go_simp
                try rfl
              case onw =>
                try simp only [Act.put, List.setIfInBounds_toArray, List.set_cons_zero, List.set_cons_succ]
                refine' wpAnyL_take (i := 5) (oi := ⟨some 24, _, _, _, _, _⟩) (v := _) rfl (by kernel_rfl) (by kernel_rfl) (by kernel_rfl) (by kernel_rfl) (fun _ _ _ h => h) hH0 (by rfl) ?hyv ?onw
                case hyv =>
                  intro wz hSw
                  go_simp
                  try rfl
                case onw =>
                  try simp only [Act.put, List.setIfInBounds_toArray, List.set_cons_zero, List.set_cons_succ]
                  refine' wpAnyL_take (i := 6) (oi := ⟨some 25, _, _, _, _, _⟩) (v := _) rfl (by kernel_rfl) (by kernel_rfl) (by kernel_rfl) (by kernel_rfl) (fun _ _ _ h => h) hH0 (by rfl) ?hyv ?onw
                  case hyv =>
                    intro wz hSw
                    go_simp
                    try rfl
                  case onw =>
                    try simp only [Act.put, List.setIfInBounds_toArray, List.set_cons_zero, List.set_cons_succ]
                    refine' wpAnyL_take (i := 7) (oi := ⟨some 26, _, _, _, _, _⟩) (v := _) rfl (by kernel_rfl) (by kernel_rfl) (by kernel_rfl) (by kernel_rfl) (fun _ _ _ h => h) hH0 (by rfl) ?hyv ?onw
                    case hyv =>
                      intro wz hSw
                      go_simp
                      try rfl
                    case onw =>
                      try simp only [Act.put, List.setIfInBounds_toArray, List.set_cons_zero, List.set_cons_succ]
                      refine' wpAnyL_take (i := 8) (oi := ⟨some 27, _, _, _, _, _⟩) (v := _) rfl (by kernel_rfl) (by kernel_rfl) (by kernel_rfl) (by kernel_rfl) (fun _ _ _ h => h) hH0 (by rfl) ?hyv ?onw
                      case hyv =>
                        intro wz hSw
                        have zc0 := (aside_cell hSw (p := ⟨mb, 1, none⟩) yM (by simpa using hMr.m.ne)).trans m1
                        have zc1 := (aside_cell hSw (p := ⟨mb, 4, none⟩) yM (by simpa using hMr.m.ne)).trans m4
                        have zc2 := (aside_cell hSw (p := ⟨bP, oP + i, none⟩) yP (by simpa using nP)).trans e0
                        have zc3 := (aside_cell hSw (p := ⟨bI, oI + i, none⟩) yI (by simpa using nI2)).trans f0
                        go_simp
                        try rfl
                      case onw =>
                        try simp only [Act.put, List.setIfInBounds_toArray, List.set_cons_zero, List.set_cons_succ]
                        refine' wpAnyL_take (i := 9) (oi := ⟨some 28, _, _, _, _, _⟩) (v := _) rfl (by kernel_rfl) (by kernel_rfl) (by kernel_rfl) (by kernel_rfl) (fun _ _ _ h => h) hH0 (by rfl) ?hyv ?onw
                        case hyv =>
                          intro wz hSw
                          go_simp
                          try rfl
                        case onw =>
                          try simp only [Act.put, List.setIfInBounds_toArray, List.set_cons_zero, List.set_cons_succ]
                          refine' wpAnyL_take (i := 10) (oi := ⟨some 29, _, _, _, _, _⟩) (v := _) rfl (by kernel_rfl) (by kernel_rfl) (by kernel_rfl) (by kernel_rfl) (fun _ _ _ h => h) hH0 (by rfl) ?hyv ?onw
                          case hyv =>
                            intro wz hSw
                            go_simp
                            try rfl
                          case onw =>
                            try simp only [Act.put, List.setIfInBounds_toArray, List.set_cons_zero, List.set_cons_succ]
                            refine' wpAnyL_take (i := 11) (oi := ⟨some 30, _, _, _, _, _⟩) (v := _) rfl (by kernel_rfl) (by kernel_rfl) (by kernel_rfl) (by kernel_rfl) (fun _ _ _ h => h) hH0 (by rfl) ?hyv ?onw
                            case hyv =>
                              intro wz hSw
                              have zc0 := (aside_cell hSw (p := ⟨mb, 1, none⟩) yM (by simpa using hMr.m.ne)).trans m1
                              have zc1 := (aside_cell hSw (p := ⟨mb, 4, none⟩) yM (by simpa using hMr.m.ne)).trans m4
                              have zc2 := (aside_cell hSw (p := ⟨bP, oP + i, none⟩) yP (by simpa using nP)).trans e0
                              have zc3 := (aside_cell hSw (p := ⟨bI, oI + i, none⟩) yI (by simpa using nI2)).trans f0
                              go_simp
                              try rfl
                            case onw =>
                              try simp only [Act.put, List.setIfInBounds_toArray, List.set_cons_zero, List.set_cons_succ]
                              refine' wpAnyL_take (i := 12) (oi := ⟨some 31, _, _, _, _, _⟩) (v := _) rfl (by kernel_rfl) (by kernel_rfl) (by kernel_rfl) (by kernel_rfl) (fun _ _ _ h => h) hH0 (by rfl) ?hyv ?onw
                              case hyv =>
                                intro wz hSw
                                go_simp
                                try rfl
                              case onw =>
                                try simp only [Act.put, List.setIfInBounds_toArray, List.set_cons_zero, List.set_cons_succ]
                                refine' wpAnyL_take (i := 13) (oi := ⟨some 32, _, _, _, _, _⟩) (v := _) rfl (by kernel_rfl) (by kernel_rfl) (by kernel_rfl) (by kernel_rfl) (fun _ _ _ h => h) hH0 (by rfl) ?hyv ?onw
                                case hyv =>
                                  intro wz hSw
                                  go_simp
                                  try rfl
                                case onw =>
                                  try simp only [Act.put, List.setIfInBounds_toArray, List.set_cons_zero, List.set_cons_succ]
                                  refine' wpAnyL_take (i := 14) (oi := ⟨some 33, _, _, _, _, _⟩) (v := _) rfl (by kernel_rfl) (by kernel_rfl) (by kernel_rfl) (by kernel_rfl) (fun _ _ _ h => h) hH0 (by rfl) ?hyv ?onw
                                  case hyv =>
                                    intro wz hSw
                                    go_simp
                                    try rfl
                                  case onw =>
                                    try simp only [Act.put, List.setIfInBounds_toArray, List.set_cons_zero, List.set_cons_succ]
                                    refine' wpAnyL_take (i := 15) (oi := ⟨some 34, _, _, _, _, _⟩) (v := _) rfl (by kernel_rfl) (by kernel_rfl) (by kernel_rfl) (by kernel_rfl) (fun _ _ _ h => h) hH0 (by rfl) ?hyv ?onw
                                    case hyv =>
                                      intro wz hSw
                                      have zc0 := (aside_cell hSw (p := ⟨mb, 1, none⟩) yM (by simpa using hMr.m.ne)).trans m1
                                      have zc1 := (aside_cell hSw (p := ⟨mb, 4, none⟩) yM (by simpa using hMr.m.ne)).trans m4
                                      have zc2 := (aside_cell hSw (p := ⟨bP, oP + i, none⟩) yP (by simpa using nP)).trans e0
                                      have zc3 := (aside_cell hSw (p := ⟨bI, oI + i, none⟩) yI (by simpa using nI2)).trans f0
                                      go_simp
                                      try rfl
                                    case onw =>
                                      try simp only [Act.put, List.setIfInBounds_toArray, List.set_cons_zero, List.set_cons_succ]
                                      refine' wpAnyL_take (i := 16) (oi := ⟨some 35, _, _, _, _, _⟩) (v := _) rfl (by kernel_rfl) (by kernel_rfl) (by kernel_rfl) (by kernel_rfl) (fun _ _ _ h => h) hH0 (by rfl) ?hyv ?onw
                                      case hyv =>
                                        intro wz hSw
                                        go_simp
                                        try rfl
                                      case onw =>
                                        try simp only [Act.put, List.setIfInBounds_toArray, List.set_cons_zero, List.set_cons_succ]
                                        refine wpAnyL_one (i := 17) (o := _) rfl (by kernel_rfl) (by rfl) (fun K hK => ?_)
                                        have fr := kC.free pn
                                        have st0 := kC.at (i := pn) hpl
                                        go_simp
                                        have hH1 : Aside [cb] wr.heap.size wr (wd0.setCell ⟨cb, pn, none⟩ (.int .i64 x)) := hH0.trans (Aside.setCell (B := wd0.heap.size) (by simp) _) hH0.size
                                        refine hK.out _ _ (fun _ => hH1) ?_
                                        clear hK K fr st0
                                        try simp only [Act.put, List.setIfInBounds_toArray, List.set_cons_zero, List.set_cons_succ]
                                        have kE := kC.set pn x
                                        generalize wd0.setCell ⟨cb, pn, none⟩ (.int .i64 x) = wd1 at hH1 kE ⊢
                                        refine wpAnyL_done (by kernel_rfl) ?_ _
                                        go_wp2_with fail
                                        go_roundg (L.P.length - (i + 1))
                                        case measure => omega
                                        case rel => exact ⟨i + 1, M'.set pn x, by omega, rfl, by go_num, HR1, hide ⟨kE, by rw [List.length_set]; exact HM'.out⟩, hbr.trans hH1 hbr.size⟩
    case neg =>
      have HZ := hide (show X = M' by
        rw [H.out, List.drop_of_length_le (show L.P.length ≤ i by omega)]
        cases hd : inp.drop i <;> rfl)
      obtain ⟨kC0, hM'⟩ := HL.out
      rw [← HZ.out] at kC0
      have hcr := kC0.lt
      clear H HL hM' HZ
      obtain ⟨w2, hw2⟩ : ∃ w2, w2 = wr := ⟨_, rfl⟩
      subst hw2
      go_wp2_with fail
      go_loopg [6] L.S.length (fun k v wr => ∃ (i : Nat) (M' : List Int), i ≤ L.S.length ∧ k = L.S.length - i ∧ v = .int .i64 (i : Nat) ∧ Hid (Y = (L.S.drop i).foldl Lo.doS M') ∧ Hid (LB wr cb M' ∧ M'.length = M.length ∧ Lo.Wd M') ∧ Aside [cb] w2.heap.size w2 wr)
      case atStart => exact ⟨0, X, Nat.zero_le _, rfl, rfl, HY, hide ⟨kC0, HMX.out, HWX.out⟩, Aside.refl _⟩
      case round =>
        clear HY m1 m2 m3 m4 kC0 yM
        obtain ⟨j, M', hj, rfl, rfl, H, HL, hbs⟩ := hrel
        have hMs := hMr.past hbs
        have m1 := cell_of hMs.m.m 1
        have m2 := cell_of hMs.m.m 2
        have m3 := cell_of hMs.m.m 3
        have m4 := cell_of hMs.m.m 4
        simp at m1 m2 m3 m4
        have yM := lt_of hMs.m.m
        by_cases hlt : j < L.S.length
        case pos =>
          obtain ⟨wo, hwo⟩ : ∃ x, x = wr := ⟨_, rfl⟩
          subst hwo
          obtain ⟨kC0, hM1, hM2⟩ := HL.out
          obtain ⟨aoS, cpS, eS, -, -, hatS⟩ := hMs.h.S.at
          injection eS with q1 q2 q3
          obtain ⟨bS, oS, y, eaS, yS, hat, hy⟩ := hatS j hlt
          rw [eaS] at q1
          have hok := HGd.out.S _ (List.getElem_mem hlt)
          have hsw := HSW.out _ (List.getElem_mem hlt)
          have hR1 := H.out
          rw [List.drop_eq_getElem_cons hlt, List.foldl_cons] at hR1
          generalize (L.S)[j] = s at hat hok hsw hR1 hy
          obtain ⟨op, k, n, tg, F, E⟩ := s
          obtain ⟨e0, e1, e2, e3, e4, e5⟩ := hat
          obtain ⟨o1, o2, o3, o4, o5⟩ := hok
          obtain ⟨hF, hE⟩ := hy
          obtain ⟨hPF, hPE⟩ := hsw
          dsimp only at e0 e1 e2 e3 e4 e5 o1 o2 o3 o4 o5 hF hE hPF hPE
          subst q1
          have hnc : nc = M'.length := by have := HC.out; have := hM.n; omega
          have hcc : (M'.length : Int) = L.c := by rw [hM1]; exact HC.out
          have hc6 := HGd.out.c.2
          have hdl := Lo.doS_len M' ⟨op, k, n, tg, F, E⟩
          have hdw := Lo.doS_wide (s := ⟨op, k, n, tg, F, E⟩) hM2 ⟨hPF, hPE⟩
          obtain ⟨Z, hZ⟩ : ∃ Z, Z = Lo.doS M' ⟨op, k, n, tg, F, E⟩ := ⟨_, rfl⟩
          rw [← hZ] at hR1 hdl hdw
          have HNEW := hide (And.intro hR1 (And.intro (hdl.trans hM1) hdw))
          have hsz := hbs.size
          have hmo := hMs.m
          obtain ⟨tn, rfl⟩ : ∃ tn : Nat, tg = (tn : Int) := ⟨tg.toNat, by omega⟩
          have HTE := hide (fun W M2 (a : Aside [cb] wo.heap.size wo W) (h : LB W cb M2) (h1 : M2.length = M'.length) (h2 : Lo.Wd M2) (i : Nat) (hi : (i : Int) < Lo.turns ⟨op, k, n, tn, F, E⟩) => tree30_ma (hmo.past a) h (hnc.trans h1.symm) (by rw [h1]; exact hcc) hc6 (hE.past a (fun i h => h)) o4 i hi h2 hPE)
          have HTF := hide (fun (hf : op = 3 ∨ op = 4) W (a : Below wo.heap.size wo W) => tree30_ma (hmo.past (aside a)) (kC0.under a) hnc hcc hc6 (hF.under a) (o5 hf) 0 (by decide) hM2 hPF)
          have hM6 : M'.length ≤ 6000 := by omega
          have o4' := o4
          have HNC := hide hnc
          have HPE := hide hPE
          have HPF := hide hPF
          have HM1 := hide hM1
          clear hatS q2 q3 hR1 hdl hdw H HL hE hF o4 o4' o5 hPF hPE m1 m2 m4
          have hops : op = 1 ∨ op = 2 ∨ op = 3 ∨ op = 4 := by omega
          clear o1
          rcases hops with rfl | rfl | rfl | rfl
          case inl =>
            obtain ⟨yv, hyv⟩ : ∃ yv, yv = Lo.tree M' 0 E := ⟨_, rfl⟩
            have hT := fun W (a : Aside [cb] wo.heap.size wo W) (h : LB W cb M') => HTE.out W M' a h rfl hM2 0 (by simp [Lo.turns])
            have HZ := hide (show Z = M'.set tn yv by rw [hZ, hyv]; rfl)
            have htl : tn < M'.length := by simp [Lo.made, Lo.turns] at o3; omega
            have htc : tn < nc := by omega
            clear hnc hM1 hcc hc6 o2 o3
            have e9 : ((0 : Nat) : Int) = 0 := rfl
            rw [e9, ← hyv] at hT
            have HT := hide hT
            clear hT hyv e9 hZ HTE HTF
            have bA : Below wo.heap.size wo (wo.alloc (.cells #[.int .i64 1, .int .i64 k, .int .i64 n, .int .i64 (tn : Int), .slice y.aF y.nF y.cF, .slice y.aE y.nE y.cE] 62 (0, 0))) := (Below.refl _ _).alloc (Nat.le_refl _) _
            have kS := heap_new wo (.cells #[.int .i64 1, .int .i64 k, .int .i64 n, .int .i64 (tn : Int), .slice y.aF y.nF y.cF, .slice y.aE y.nE y.cE] 62 (0, 0))
            have hm3 := hmo.past (aside bA)
            have kC3 := kC0.under bA
            have BA := hbs.trans (aside (S := [cb]) bA) hsz
            go_upto_region 9 with fail
            generalize (wo.alloc (.cells #[.int .i64 1, .int .i64 k, .int .i64 n, .int .i64 (tn : Int), .slice y.aF y.nF y.cF, .slice y.aE y.nE y.cE] 62 (0, 0))) = w3 at bA kS hm3 kC3 BA ⊢
            have s0 := cell_of kS 0
            have s1 := cell_of kS 1
            have s2 := cell_of kS 2
            have s3 := cell_of kS 3
            have s4 := cell_of kS 4
            have s5 := cell_of kS 5
            have m4 := cell_of hm3.m 4
            simp at s0 s1 s2 s3 s4 s5 m4
            have yS3 := lt_of kS
            have yM3 := lt_of hm3.m
            clear e0 e1 e2 e3 e4 e5 m3
            go_upto_region 20 with fail
            refine wp_region_late (fun w' => Aside [cb] w3.heap.size w3 w') (fun _ => false) (by kernel_rfl) ?_
            have hH0 : Aside [cb] w3.heap.size w3 w3.drew := (Aside.refl _).drew
            have kC : LB w3.drew cb M' := kC3
            generalize w3.drew = wd0 at hH0 kC ⊢
            refine' wpAnyL_take (i := 0) (oi := ⟨some 101, _, _, _, _, _⟩) (v := _) rfl (by kernel_rfl) (by kernel_rfl) (by kernel_rfl) (by kernel_rfl) (fun _ _ _ h => h) hH0 (by rfl) ?hyv ?onw
            case hyv =>
              intro wz hSw
              go_simp
              try rfl
            case onw =>
              try simp only [Act.put, List.setIfInBounds_toArray, List.set_cons_zero, List.set_cons_succ]
              refine' wpAnyL_take (i := 1) (oi := ⟨some 102, _, _, _, _, _⟩) (v := _) rfl (by kernel_rfl) (by kernel_rfl) (by kernel_rfl) (by kernel_rfl) (fun _ _ _ h => h) hH0 (by rfl) ?hyv ?onw
              case hyv =>
                intro wz hSw
                go_simp
                try rfl
              case onw =>
                try simp only [Act.put, List.setIfInBounds_toArray, List.set_cons_zero, List.set_cons_succ]
                refine' wpAnyL_take (i := 2) (oi := ⟨some 103, _, _, _, _, _⟩) (v := _) rfl (by kernel_rfl) (by kernel_rfl) (by kernel_rfl) (by kernel_rfl) (fun _ _ _ h => h) hH0 (by rfl) ?hyv ?onw
                case hyv =>
                  intro wz hSw
                  go_simp
                  try rfl
                case onw =>
                  try simp only [Act.put, List.setIfInBounds_toArray, List.set_cons_zero, List.set_cons_succ]
                  refine' wpAnyL_take (i := 3) (oi := ⟨some 104, _, _, _, _, _⟩) (v := _) rfl (by kernel_rfl) (by kernel_rfl) (by kernel_rfl) (by kernel_rfl) (fun _ _ _ h => h) hH0 (by rfl) ?hyv ?onw
                  case hyv =>
                    intro wz hSw
                    have zc0 := (aside_cell hSw (p := ⟨wo.heap.size, 0, none⟩) yS3 (by simp; omega)).trans s0
                    have zc1 := (aside_cell hSw (p := ⟨wo.heap.size, 1, none⟩) yS3 (by simp; omega)).trans s1
                    have zc2 := (aside_cell hSw (p := ⟨wo.heap.size, 2, none⟩) yS3 (by simp; omega)).trans s2
                    have zc3 := (aside_cell hSw (p := ⟨wo.heap.size, 3, none⟩) yS3 (by simp; omega)).trans s3
                    have zc4 := (aside_cell hSw (p := ⟨wo.heap.size, 4, none⟩) yS3 (by simp; omega)).trans s4
                    have zc5 := (aside_cell hSw (p := ⟨wo.heap.size, 5, none⟩) yS3 (by simp; omega)).trans s5
                    have zc6 := (aside_cell hSw (p := ⟨mb, 4, none⟩) yM3 (by simpa using hmo.ne)).trans m4
                    go_simp
                    try rfl
                  case onw =>
                    try simp only [Act.put, List.setIfInBounds_toArray, List.set_cons_zero, List.set_cons_succ]
                    refine' wpAnyL_take (i := 4) (oi := ⟨some 105, _, _, _, _, _⟩) (v := _) rfl (by kernel_rfl) (by kernel_rfl) (by kernel_rfl) (by kernel_rfl) (fun _ _ _ h => h) hH0 (by rfl) ?hyv ?onw
                    case hyv =>
                      intro wz hSw
                      go_simp
                      try rfl
                    case onw =>
                      try simp only [Act.put, List.setIfInBounds_toArray, List.set_cons_zero, List.set_cons_succ]
                      refine' wpAnyL_take (i := 5) (oi := ⟨some 106, _, _, _, _, _⟩) (v := _) rfl (by kernel_rfl) (by kernel_rfl) (by kernel_rfl) (by kernel_rfl) (fun _ _ _ h => h) hH0 (by rfl) ?hyv ?onw
                      case hyv =>
                        intro wz hSw
                        have zc0 := (aside_cell hSw (p := ⟨wo.heap.size, 0, none⟩) yS3 (by simp; omega)).trans s0
                        have zc1 := (aside_cell hSw (p := ⟨wo.heap.size, 1, none⟩) yS3 (by simp; omega)).trans s1
                        have zc2 := (aside_cell hSw (p := ⟨wo.heap.size, 2, none⟩) yS3 (by simp; omega)).trans s2
                        have zc3 := (aside_cell hSw (p := ⟨wo.heap.size, 3, none⟩) yS3 (by simp; omega)).trans s3
                        have zc4 := (aside_cell hSw (p := ⟨wo.heap.size, 4, none⟩) yS3 (by simp; omega)).trans s4
                        have zc5 := (aside_cell hSw (p := ⟨wo.heap.size, 5, none⟩) yS3 (by simp; omega)).trans s5
                        have zc6 := (aside_cell hSw (p := ⟨mb, 4, none⟩) yM3 (by simpa using hmo.ne)).trans m4
                        go_simp
                        try rfl
                      case onw =>
                        try simp only [Act.put, List.setIfInBounds_toArray, List.set_cons_zero, List.set_cons_succ]
                        refine' wpAnyL_take (i := 6) (oi := ⟨some 107, _, _, _, _, _⟩) (v := _) rfl (by kernel_rfl) (by kernel_rfl) (by kernel_rfl) (by kernel_rfl) (fun _ _ _ h => h) hH0 (by rfl) ?hyv ?onw
                        case hyv =>
                          intro wz hSw
                          go_simp
                          try rfl
                        case onw =>
                          try simp only [Act.put, List.setIfInBounds_toArray, List.set_cons_zero, List.set_cons_succ]
                          refine' wpAnyL_take (i := 7) (oi := ⟨some 108, _, _, _, _, _⟩) (v := _) rfl (by kernel_rfl) (by kernel_rfl) (by kernel_rfl) (by kernel_rfl) (fun _ _ _ h => h) hH0 (by rfl) ?hyv ?onw
                          case hyv =>
                            intro wz hSw
                            go_simp
                            try rfl
                          case onw =>
                            try simp only [Act.put, List.setIfInBounds_toArray, List.set_cons_zero, List.set_cons_succ]
                            refine' wpAnyL_take (i := 8) (oi := ⟨some 109, _, _, _, _, _⟩) (v := _) rfl (by kernel_rfl) (by kernel_rfl) (by kernel_rfl) (by kernel_rfl) (fun _ _ _ h => h) hH0 (by rfl) ?hyv ?onw
                            case hyv =>
                              intro wz hSw
                              have zc0 := (aside_cell hSw (p := ⟨wo.heap.size, 0, none⟩) yS3 (by simp; omega)).trans s0
                              have zc1 := (aside_cell hSw (p := ⟨wo.heap.size, 1, none⟩) yS3 (by simp; omega)).trans s1
                              have zc2 := (aside_cell hSw (p := ⟨wo.heap.size, 2, none⟩) yS3 (by simp; omega)).trans s2
                              have zc3 := (aside_cell hSw (p := ⟨wo.heap.size, 3, none⟩) yS3 (by simp; omega)).trans s3
                              have zc4 := (aside_cell hSw (p := ⟨wo.heap.size, 4, none⟩) yS3 (by simp; omega)).trans s4
                              have zc5 := (aside_cell hSw (p := ⟨wo.heap.size, 5, none⟩) yS3 (by simp; omega)).trans s5
                              have zc6 := (aside_cell hSw (p := ⟨mb, 4, none⟩) yM3 (by simpa using hmo.ne)).trans m4
                              go_simp
                              try rfl
                            case onw =>
                              try simp only [Act.put, List.setIfInBounds_toArray, List.set_cons_zero, List.set_cons_succ]
                              refine wpAnyL_one (i := 9) (o := _) rfl (by kernel_rfl) (by rfl) (fun K hK => ?_)
                              go_simp
                              refine (HT.out wd0 ((aside bA).trans hH0 bA.size) kC).mono ?_
                              rintro eq wd1 ⟨rfl, bq1⟩
                              have hH1 : Aside [cb] w3.heap.size w3 wd1 := hH0.trans (aside bq1) hH0.size
                              have kC2 := kC.under bq1
                              refine hK.out _ _ (fun _ => hH1) ?_
                              clear hK K
                              try simp only [Act.put, List.setIfInBounds_toArray, List.set_cons_zero, List.set_cons_succ]
                              refine' wpAnyL_take (i := 10) (oi := ⟨some 111, _, _, _, _, _⟩) (v := _) rfl (by kernel_rfl) (by kernel_rfl) (by kernel_rfl) (by kernel_rfl) (fun _ _ _ h => h) hH1 (by rfl) ?hyv ?onw
                              case hyv =>
                                intro wz hSw
                                go_simp
                                try rfl
                              case onw =>
                                try simp only [Act.put, List.setIfInBounds_toArray, List.set_cons_zero, List.set_cons_succ]
                                refine wpAnyL_one (i := 11) (o := _) rfl (by kernel_rfl) (by rfl) (fun K hK => ?_)
                                have fr := kC2.free tn
                                have st0 := kC2.at (i := tn) htl
                                go_simp
                                have hH2 : Aside [cb] w3.heap.size w3 (wd1.setCell ⟨cb, tn, none⟩ (.int .i64 yv)) := hH1.trans (Aside.setCell (B := wd1.heap.size) (by simp) _) hH1.size
                                refine hK.out _ _ (fun _ => hH2) ?_
                                clear hK K fr st0
                                try simp only [Act.put, List.setIfInBounds_toArray, List.set_cons_zero, List.set_cons_succ]
                                have kE := kC2.set tn yv
                                generalize wd1.setCell ⟨cb, tn, none⟩ (.int .i64 yv) = wd2 at hH2 kE ⊢
                                refine wpAnyL_done (by kernel_rfl) ?_ _
                                go_wp2_with fail
                                go_roundg (L.S.length - (j + 1))
                                case measure => omega
                                case rel => exact ⟨j + 1, Z, by omega, rfl, by go_num, hide HNEW.out.1, hide ⟨(by rw [HZ.out]; exact kE), HNEW.out.2⟩, BA.trans hH2 BA.size⟩
          case inr.inl =>
            obtain ⟨on1, on2⟩ := o2 (by decide)
            obtain ⟨nn, rfl⟩ : ∃ nn : Nat, n = (nn : Int) := ⟨n.toNat, by omega⟩
            have htn : tn + nn ≤ M'.length := by simp [Lo.made, Lo.turns] at o3; omega
            have HR := hide (show Z = Lo.eachL tn E (nn - 0) 0 M' by rw [hZ]; rfl)
            have hti := fun (i : Nat) (h : i < nn) => (show (i : Int) < Lo.turns ⟨2, k, nn, tn, F, E⟩ by simp [Lo.turns]; omega)
            have HTI := hide hti
            clear hnc hM1 hcc hc6 o2 o3 hZ hti HTF
            have bA : Below wo.heap.size wo (wo.alloc (.cells #[.int .i64 2, .int .i64 k, .int .i64 (nn : Int), .int .i64 (tn : Int), .slice y.aF y.nF y.cF, .slice y.aE y.nE y.cE] 62 (0, 0))) := (Below.refl _ _).alloc (Nat.le_refl _) _
            have kS := heap_new wo (.cells #[.int .i64 2, .int .i64 k, .int .i64 (nn : Int), .int .i64 (tn : Int), .slice y.aF y.nF y.cF, .slice y.aE y.nE y.cE] 62 (0, 0))
            have hm3 := hmo.past (aside bA)
            have kC3 := kC0.under bA
            have BA := hbs.trans (aside (S := [cb]) bA) hsz
            go_upto_region 9 with fail
            generalize (wo.alloc (.cells #[.int .i64 2, .int .i64 k, .int .i64 (nn : Int), .int .i64 (tn : Int), .slice y.aF y.nF y.cF, .slice y.aE y.nE y.cE] 62 (0, 0))) = w3 at bA kS hm3 kC3 BA ⊢
            have s0 := cell_of kS 0
            have s1 := cell_of kS 1
            have s2 := cell_of kS 2
            have s3 := cell_of kS 3
            have s4 := cell_of kS 4
            have s5 := cell_of kS 5
            have m4 := cell_of hm3.m 4
            simp at s0 s1 s2 s3 s4 s5 m4
            have yS3 := lt_of kS
            have yM3 := lt_of hm3.m
            clear e0 e1 e2 e3 e4 e5 m3
            have HM2 := hide hM2
            clear hM2
            go_wp2_with fail
            go_loopg [8] nn (fun kq v wr => ∃ (i : Nat) (M2 : List Int), i ≤ nn ∧ kq = nn - i ∧ v = .int .i64 (i : Nat) ∧ Hid (Z = Lo.eachL tn E (nn - i) i M2) ∧ Hid (LB wr cb M2 ∧ M2.length = M'.length ∧ Lo.Wd M2) ∧ Aside [cb] w3.heap.size w3 wr)
            case atStart => exact ⟨0, M', Nat.zero_le _, rfl, rfl, HR, hide ⟨kC3, rfl, HM2.out⟩, Aside.refl _⟩
            case round =>
              clear HR s0 s1 s2 s3 s4 s5 m4 kC3 yS3 yM3
              obtain ⟨i, M2, hi, rfl, rfl, H, HL, hbi⟩ := hrel
              have Bi := (aside (S := [cb]) bA).trans hbi bA.size
              have kSr := hbi.keep kS (lt_of kS) (by simp; omega)
              have hmr := hm3.past hbi
              have s0 := cell_of kSr 0
              have s1 := cell_of kSr 1
              have s2 := cell_of kSr 2
              have s3 := cell_of kSr 3
              have s4 := cell_of kSr 4
              have s5 := cell_of kSr 5
              have m4 := cell_of hmr.m 4
              simp at s0 s1 s2 s3 s4 s5 m4
              have yS3 := lt_of kSr
              have yM3 := lt_of hmr.m
              by_cases hlt2 : i < nn
              case neg =>
                have hin : i = nn := by omega
                subst hin
                have HZ := hide (show Z = M2 by rw [H.out, Nat.sub_self]; rfl)
                have kE := HL.out.1
                clear H HL
                go_wp2_with fail
                go_roundg (L.S.length - (j + 1))
                case measure => omega
                case rel => exact ⟨j + 1, Z, by omega, rfl, by go_num, hide HNEW.out.1, hide ⟨(by rw [HZ.out]; exact kE), HNEW.out.2⟩, BA.trans hbi BA.size⟩
              case pos =>
                obtain ⟨kC0', hL2, hW2⟩ := HL.out
                have hT := fun W (a : Aside [cb] wo.heap.size wo W) (h : LB W cb M2) => HTE.out W M2 a h hL2 hW2 i (HTI.out i hlt2)
                have hR1 := H.out
                rw [show nn - i = (nn - (i + 1)) + 1 by omega, Lo.eachL] at hR1
                obtain ⟨z, hz⟩ : ∃ z, z = tn + i := ⟨_, rfl⟩
                rw [show ((tn : Int) + (i : Int)).toNat = z by omega] at hR1
                have hyw := Lo.tree_wide hW2 (E := E) HPE.out (i : Int)
                generalize Lo.tree M2 (i : Int) E = yv at hT hR1 hyw
                have HTi := hide hT
                have HR1 := hide hR1
                have HW : Hid (IntKind.i64.wrap ((tn : Int) + (i : Int)) = (z : Int)) := hide (by
                  have h2 : IntKind.i64.wrap ((tn : Int) + (i : Int)) = (tn : Int) + (i : Int) := i64_in _ (by omega)
                  have h3 : ((tn : Int) + (i : Int)) = (z : Int) := by omega
                  exact h2.trans h3)
                have hzl : z < M2.length := by omega
                have hznc : z < nc := by have := HNC.out; omega
                have HL2 := hide hL2
                have HW2 := hide (hW2.set hyw z)
                clear hz hT hR1 H HL hL2 hW2 hyw
                go_upto_region 25 with fail
                refine wp_region_late (fun w' => Aside [cb] wr.heap.size wr w') (fun _ => false) (by kernel_rfl) ?_
                have hH0 : Aside [cb] wr.heap.size wr wr.drew := (Aside.refl _).drew
                have kC : LB wr.drew cb M2 := kC0'
                generalize wr.drew = wd0 at hH0 kC ⊢
                refine' wpAnyL_take (i := 0) (oi := ⟨some 120, _, _, _, _, _⟩) (v := _) rfl (by kernel_rfl) (by kernel_rfl) (by kernel_rfl) (by kernel_rfl) (fun _ _ _ h => h) hH0 (by rfl) ?hyv ?onw
                case hyv =>
                  intro wz hSw
                  go_simp
                  try rfl
                case onw =>
                  try simp only [Act.put, List.setIfInBounds_toArray, List.set_cons_zero, List.set_cons_succ]
                  refine' wpAnyL_take (i := 1) (oi := ⟨some 121, _, _, _, _, _⟩) (v := _) rfl (by kernel_rfl) (by kernel_rfl) (by kernel_rfl) (by kernel_rfl) (fun _ _ _ h => h) hH0 (by rfl) ?hyv ?onw
                  case hyv =>
                    intro wz hSw
                    go_simp
                    try rfl
                  case onw =>
                    try simp only [Act.put, List.setIfInBounds_toArray, List.set_cons_zero, List.set_cons_succ]
                    refine' wpAnyL_take (i := 2) (oi := ⟨some 122, _, _, _, _, _⟩) (v := _) rfl (by kernel_rfl) (by kernel_rfl) (by kernel_rfl) (by kernel_rfl) (fun _ _ _ h => h) hH0 (by rfl) ?hyv ?onw
                    case hyv =>
                      intro wz hSw
                      go_simp
                      try rfl
                    case onw =>
                      try simp only [Act.put, List.setIfInBounds_toArray, List.set_cons_zero, List.set_cons_succ]
                      refine' wpAnyL_take (i := 3) (oi := ⟨some 123, _, _, _, _, _⟩) (v := _) rfl (by kernel_rfl) (by kernel_rfl) (by kernel_rfl) (by kernel_rfl) (fun _ _ _ h => h) hH0 (by rfl) ?hyv ?onw
                      case hyv =>
                        intro wz hSw
                        have zc0 := (aside_cell hSw (p := ⟨wo.heap.size, 0, none⟩) yS3 (by simp; omega)).trans s0
                        have zc1 := (aside_cell hSw (p := ⟨wo.heap.size, 1, none⟩) yS3 (by simp; omega)).trans s1
                        have zc2 := (aside_cell hSw (p := ⟨wo.heap.size, 2, none⟩) yS3 (by simp; omega)).trans s2
                        have zc3 := (aside_cell hSw (p := ⟨wo.heap.size, 3, none⟩) yS3 (by simp; omega)).trans s3
                        have zc4 := (aside_cell hSw (p := ⟨wo.heap.size, 4, none⟩) yS3 (by simp; omega)).trans s4
                        have zc5 := (aside_cell hSw (p := ⟨wo.heap.size, 5, none⟩) yS3 (by simp; omega)).trans s5
                        have zc6 := (aside_cell hSw (p := ⟨mb, 4, none⟩) yM3 (by simpa using hmo.ne)).trans m4
                        go_simp
                        try rfl
                      case onw =>
                        try simp only [Act.put, List.setIfInBounds_toArray, List.set_cons_zero, List.set_cons_succ]
                        refine' wpAnyL_take (i := 4) (oi := ⟨some 124, _, _, _, _, _⟩) (v := _) rfl (by kernel_rfl) (by kernel_rfl) (by kernel_rfl) (by kernel_rfl) (fun _ _ _ h => h) hH0 (by rfl) ?hyv ?onw
                        case hyv =>
                          intro wz hSw
                          go_simp
                          try rfl
                        case onw =>
                          try simp only [Act.put, List.setIfInBounds_toArray, List.set_cons_zero, List.set_cons_succ]
                          refine' wpAnyL_take (i := 5) (oi := ⟨some 125, _, _, _, _, _⟩) (v := _) rfl (by kernel_rfl) (by kernel_rfl) (by kernel_rfl) (by kernel_rfl) (fun _ _ _ h => h) hH0 (by rfl) ?hyv ?onw
                          case hyv =>
                            intro wz hSw
                            have zc0 := (aside_cell hSw (p := ⟨wo.heap.size, 0, none⟩) yS3 (by simp; omega)).trans s0
                            have zc1 := (aside_cell hSw (p := ⟨wo.heap.size, 1, none⟩) yS3 (by simp; omega)).trans s1
                            have zc2 := (aside_cell hSw (p := ⟨wo.heap.size, 2, none⟩) yS3 (by simp; omega)).trans s2
                            have zc3 := (aside_cell hSw (p := ⟨wo.heap.size, 3, none⟩) yS3 (by simp; omega)).trans s3
                            have zc4 := (aside_cell hSw (p := ⟨wo.heap.size, 4, none⟩) yS3 (by simp; omega)).trans s4
                            have zc5 := (aside_cell hSw (p := ⟨wo.heap.size, 5, none⟩) yS3 (by simp; omega)).trans s5
                            have zc6 := (aside_cell hSw (p := ⟨mb, 4, none⟩) yM3 (by simpa using hmo.ne)).trans m4
                            go_simp
                            try rfl
                          case onw =>
                            try simp only [Act.put, List.setIfInBounds_toArray, List.set_cons_zero, List.set_cons_succ]
                            refine' wpAnyL_take (i := 6) (oi := ⟨some 126, _, _, _, _, _⟩) (v := _) rfl (by kernel_rfl) (by kernel_rfl) (by kernel_rfl) (by kernel_rfl) (fun _ _ _ h => h) hH0 (by rfl) ?hyv ?onw
                            case hyv =>
                              intro wz hSw
                              go_simp
                              try rfl
                            case onw =>
                              try simp only [Act.put, List.setIfInBounds_toArray, List.set_cons_zero, List.set_cons_succ]
                              refine' wpAnyL_take (i := 7) (oi := ⟨some 127, _, _, _, _, _⟩) (v := .int .i64 (z : Int)) rfl (by kernel_rfl) (by kernel_rfl) (by kernel_rfl) (by kernel_rfl) (fun _ _ _ h => h) hH0 (by rfl) ?hyv ?onw
                              case hyv =>
                                intro wz hSw
                                go_simp
                                rw [HW.out]
                              case onw =>
                                try simp only [Act.put, List.setIfInBounds_toArray, List.set_cons_zero, List.set_cons_succ]
                                refine' wpAnyL_take (i := 8) (oi := ⟨some 128, _, _, _, _, _⟩) (v := _) rfl (by kernel_rfl) (by kernel_rfl) (by kernel_rfl) (by kernel_rfl) (fun _ _ _ h => h) hH0 (by rfl) ?hyv ?onw
                                case hyv =>
                                  intro wz hSw
                                  go_simp
                                  try rfl
                                case onw =>
                                  try simp only [Act.put, List.setIfInBounds_toArray, List.set_cons_zero, List.set_cons_succ]
                                  refine' wpAnyL_take (i := 9) (oi := ⟨some 129, _, _, _, _, _⟩) (v := _) rfl (by kernel_rfl) (by kernel_rfl) (by kernel_rfl) (by kernel_rfl) (fun _ _ _ h => h) hH0 (by rfl) ?hyv ?onw
                                  case hyv =>
                                    intro wz hSw
                                    go_simp
                                    try rfl
                                  case onw =>
                                    try simp only [Act.put, List.setIfInBounds_toArray, List.set_cons_zero, List.set_cons_succ]
                                    refine' wpAnyL_take (i := 10) (oi := ⟨some 130, _, _, _, _, _⟩) (v := _) rfl (by kernel_rfl) (by kernel_rfl) (by kernel_rfl) (by kernel_rfl) (fun _ _ _ h => h) hH0 (by rfl) ?hyv ?onw
                                    case hyv =>
                                      intro wz hSw
                                      have zc0 := (aside_cell hSw (p := ⟨wo.heap.size, 0, none⟩) yS3 (by simp; omega)).trans s0
                                      have zc1 := (aside_cell hSw (p := ⟨wo.heap.size, 1, none⟩) yS3 (by simp; omega)).trans s1
                                      have zc2 := (aside_cell hSw (p := ⟨wo.heap.size, 2, none⟩) yS3 (by simp; omega)).trans s2
                                      have zc3 := (aside_cell hSw (p := ⟨wo.heap.size, 3, none⟩) yS3 (by simp; omega)).trans s3
                                      have zc4 := (aside_cell hSw (p := ⟨wo.heap.size, 4, none⟩) yS3 (by simp; omega)).trans s4
                                      have zc5 := (aside_cell hSw (p := ⟨wo.heap.size, 5, none⟩) yS3 (by simp; omega)).trans s5
                                      have zc6 := (aside_cell hSw (p := ⟨mb, 4, none⟩) yM3 (by simpa using hmo.ne)).trans m4
                                      go_simp
                                      try rfl
                                    case onw =>
                                      try simp only [Act.put, List.setIfInBounds_toArray, List.set_cons_zero, List.set_cons_succ]
                                      refine' wpAnyL_take (i := 11) (oi := ⟨some 131, _, _, _, _, _⟩) (v := _) rfl (by kernel_rfl) (by kernel_rfl) (by kernel_rfl) (by kernel_rfl) (fun _ _ _ h => h) hH0 (by rfl) ?hyv ?onw
                                      case hyv =>
                                        intro wz hSw
                                        go_simp
                                        try rfl
                                      case onw =>
                                        try simp only [Act.put, List.setIfInBounds_toArray, List.set_cons_zero, List.set_cons_succ]
                                        refine wpAnyL_one (i := 12) (o := _) rfl (by kernel_rfl) (by rfl) (fun K hK => ?_)
                                        go_simp
                                        refine (HTi.out wd0 (Bi.trans hH0 Bi.size) kC).mono ?_
                                        rintro eq wd1 ⟨rfl, bq1⟩
                                        have hH1 : Aside [cb] wr.heap.size wr wd1 := hH0.trans (aside bq1) hH0.size
                                        have kC2 := kC.under bq1
                                        refine hK.out _ _ (fun _ => hH1) ?_
                                        clear hK K
                                        try simp only [Act.put, List.setIfInBounds_toArray, List.set_cons_zero, List.set_cons_succ]
                                        refine' wpAnyL_take (i := 13) (oi := ⟨some 133, _, _, _, _, _⟩) (v := _) rfl (by kernel_rfl) (by kernel_rfl) (by kernel_rfl) (by kernel_rfl) (fun _ _ _ h => h) hH1 (by rfl) ?hyv ?onw
                                        case hyv =>
                                          intro wz hSw
                                          go_simp
                                          try rfl
                                        case onw =>
                                          try simp only [Act.put, List.setIfInBounds_toArray, List.set_cons_zero, List.set_cons_succ]
                                          refine wpAnyL_one (i := 14) (o := _) rfl (by kernel_rfl) (by rfl) (fun K hK => ?_)
                                          have fr := kC2.free z
                                          have st0 := kC2.at (i := z) hzl
                                          go_simp
                                          have hH2 : Aside [cb] wr.heap.size wr (wd1.setCell ⟨cb, z, none⟩ (.int .i64 yv)) := hH1.trans (Aside.setCell (B := wd1.heap.size) (by simp) _) hH1.size
                                          refine hK.out _ _ (fun _ => hH2) ?_
                                          clear hK K fr st0
                                          try simp only [Act.put, List.setIfInBounds_toArray, List.set_cons_zero, List.set_cons_succ]
                                          have kE := kC2.set z yv
                                          generalize wd1.setCell ⟨cb, z, none⟩ (.int .i64 yv) = wd2 at hH2 kE ⊢
                                          refine wpAnyL_done (by kernel_rfl) ?_ _
                                          go_wp2_with fail
                                          go_roundg (nn - (i + 1))
                                          case measure => omega
                                          case rel => exact ⟨i + 1, M2.set z yv, by omega, rfl, by go_num, HR1, hide ⟨kE, by rw [List.length_set]; exact HL2.out, HW2.out⟩, hbi.trans hH2 hbi.size⟩
          case inr.inr.inl =>
            obtain ⟨on1, on2⟩ := o2 (by decide)
            obtain ⟨nn, rfl⟩ : ∃ nn : Nat, n = (nn : Int) := ⟨n.toNat, by omega⟩
            have hti := fun (i : Nat) (h : i < nn) => (show (i : Int) < Lo.turns ⟨3, k, nn, tn, F, E⟩ by simp [Lo.turns]; omega)
            have HTI := hide hti
            obtain ⟨x0, hx0⟩ : ∃ x0, x0 = Lo.tree M' 0 F := ⟨_, rfl⟩
            have hx0w : I64 x0 := by rw [hx0]; exact Lo.tree_wide hM2 HPF.out 0
            have HX0W := hide hx0w
            have htf1 := fun W (a : Below wo.heap.size wo W) => HTF.out (.inl rfl) W a
            have e9 : ((0 : Nat) : Int) = 0 := rfl
            rw [e9, ← hx0] at htf1
            have HTF1 := hide htf1
            have htl : tn < M'.length := by simp [Lo.made, Lo.turns] at o3; omega
            have htc : tn < nc := by omega
            obtain ⟨fv, hfv⟩ : ∃ fv, fv = Lo.foldL k E M' nn 0 x0 := ⟨_, rfl⟩
            have HZ := hide (show Z = M'.set tn fv by rw [hZ, hfv, hx0]; rfl)
            have HR := hide (show fv = Lo.foldL k E M' (nn - 0) 0 x0 from hfv)
            clear hnc hM1 hcc hc6 o2 o3 hZ hti HTF htf1 e9 hx0 hfv hx0w
            have bA : Below wo.heap.size wo (wo.alloc (.cells #[.int .i64 3, .int .i64 k, .int .i64 (nn : Int), .int .i64 (tn : Int), .slice y.aF y.nF y.cF, .slice y.aE y.nE y.cE] 62 (0, 0))) := (Below.refl _ _).alloc (Nat.le_refl _) _
            have kS := heap_new wo (.cells #[.int .i64 3, .int .i64 k, .int .i64 (nn : Int), .int .i64 (tn : Int), .slice y.aF y.nF y.cF, .slice y.aE y.nE y.cE] 62 (0, 0))
            have hm3 := hmo.past (aside bA)
            have kC3 := kC0.under bA
            have BA := hbs.trans (aside (S := [cb]) bA) hsz
            go_upto_region 9 with fail
            generalize (wo.alloc (.cells #[.int .i64 3, .int .i64 k, .int .i64 (nn : Int), .int .i64 (tn : Int), .slice y.aF y.nF y.cF, .slice y.aE y.nE y.cE] 62 (0, 0))) = w3 at bA kS hm3 kC3 BA ⊢
            have s0 := cell_of kS 0
            have s1 := cell_of kS 1
            have s2 := cell_of kS 2
            have s3 := cell_of kS 3
            have s4 := cell_of kS 4
            have s5 := cell_of kS 5
            have m4 := cell_of hm3.m 4
            simp at s0 s1 s2 s3 s4 s5 m4
            have yS3 := lt_of kS
            have yM3 := lt_of hm3.m
            clear e0 e1 e2 e3 e4 e5 m3
            have HM2 := hide hM2
            clear hM2
            go_wp2_with fail
            refine (HTF1.out w3 bA).mono ?_
            rintro e w4 ⟨rfl, b4⟩
            have B4 := bA.trans (b4.mono bA.size)
            have kS4 := (b4.block _ (lt_of kS)).trans kS
            have hm4 := hm3.past (aside b4)
            have kC4 := kC3.under b4
            have BA4 := BA.trans (aside (S := [cb]) b4) BA.size
            clear s0 s1 s2 s3 s4 s5 m4 kC3 yS3 yM3 kS hm3 HTF1
            have s0 := cell_of kS4 0
            have s1 := cell_of kS4 1
            have s2 := cell_of kS4 2
            have s3 := cell_of kS4 3
            have s4 := cell_of kS4 4
            have s5 := cell_of kS4 5
            simp at s0 s1 s2 s3 s4 s5
            go_wp2_with fail
            go_loopg [9, 10] nn (fun kq u9 v wr => ∃ (i : Nat) (x : Int), i ≤ nn ∧ kq = nn - i ∧ u9 = .int .i64 x ∧ v = .int .i64 (i : Nat) ∧ Hid (fv = Lo.foldL k E M' (nn - i) i x) ∧ Hid (I64 x) ∧ Below w4.heap.size w4 wr)
            case atStart => exact ⟨0, x0, Nat.zero_le _, rfl, rfl, rfl, HR, HX0W, Below.refl _ _⟩
            case round =>
              clear HR s0 s1 s2 s3 s4 s5
              obtain ⟨i, x, hi, rfl, rfl, rfl, H, HXW, hbi⟩ := hrel
              have Bi := (aside (S := [cb]) B4).trans (aside hbi) B4.size
              have kCi := kC4.under hbi
              have kSr := (aside (S := [cb]) hbi).keep kS4 (lt_of kS4) (by simp; omega)
              have hmr := hm4.past (aside (S := [cb]) hbi)
              have s0 := cell_of kSr 0
              have s1 := cell_of kSr 1
              have s2 := cell_of kSr 2
              have s3 := cell_of kSr 3
              have s4 := cell_of kSr 4
              have s5 := cell_of kSr 5
              have m4 := cell_of hmr.m 4
              simp at s0 s1 s2 s3 s4 s5 m4
              have yS3 := lt_of kSr
              have yM3 := lt_of hmr.m
              by_cases hlt2 : i < nn
              case neg =>
                have hin : i = nn := by omega
                subst hin
                have HF := hide (show fv = x by rw [H.out, Nat.sub_self]; rfl)
                have Bw := BA4.trans (aside (S := [cb]) hbi) BA4.size
                clear H
                go_upto_region 18 with fail
                refine wp_region_late (fun w' => Aside [cb] wr.heap.size wr w') (fun _ => false) (by kernel_rfl) ?_
                have hH0 : Aside [cb] wr.heap.size wr wr.drew := (Aside.refl _).drew
                have kC : LB wr.drew cb M' := kCi
                generalize wr.drew = wd0 at hH0 kC ⊢
                refine' wpAnyL_take (i := 0) (oi := ⟨some 91, _, _, _, _, _⟩) (v := _) rfl (by kernel_rfl) (by kernel_rfl) (by kernel_rfl) (by kernel_rfl) (fun _ _ _ h => h) hH0 (by rfl) ?hyv ?onw
                case hyv =>
                  intro wz hSw
                  go_simp
                  try rfl
                case onw =>
                  try simp only [Act.put, List.setIfInBounds_toArray, List.set_cons_zero, List.set_cons_succ]
                  refine' wpAnyL_take (i := 1) (oi := ⟨some 92, _, _, _, _, _⟩) (v := _) rfl (by kernel_rfl) (by kernel_rfl) (by kernel_rfl) (by kernel_rfl) (fun _ _ _ h => h) hH0 (by rfl) ?hyv ?onw
                  case hyv =>
                    intro wz hSw
                    go_simp
                    try rfl
                  case onw =>
                    try simp only [Act.put, List.setIfInBounds_toArray, List.set_cons_zero, List.set_cons_succ]
                    refine' wpAnyL_take (i := 2) (oi := ⟨some 93, _, _, _, _, _⟩) (v := _) rfl (by kernel_rfl) (by kernel_rfl) (by kernel_rfl) (by kernel_rfl) (fun _ _ _ h => h) hH0 (by rfl) ?hyv ?onw
                    case hyv =>
                      intro wz hSw
                      go_simp
                      try rfl
                    case onw =>
                      try simp only [Act.put, List.setIfInBounds_toArray, List.set_cons_zero, List.set_cons_succ]
                      refine' wpAnyL_take (i := 3) (oi := ⟨some 94, _, _, _, _, _⟩) (v := _) rfl (by kernel_rfl) (by kernel_rfl) (by kernel_rfl) (by kernel_rfl) (fun _ _ _ h => h) hH0 (by rfl) ?hyv ?onw
                      case hyv =>
                        intro wz hSw
                        have zc0 := (aside_cell hSw (p := ⟨wo.heap.size, 0, none⟩) yS3 (by simp; omega)).trans s0
                        have zc1 := (aside_cell hSw (p := ⟨wo.heap.size, 1, none⟩) yS3 (by simp; omega)).trans s1
                        have zc2 := (aside_cell hSw (p := ⟨wo.heap.size, 2, none⟩) yS3 (by simp; omega)).trans s2
                        have zc3 := (aside_cell hSw (p := ⟨wo.heap.size, 3, none⟩) yS3 (by simp; omega)).trans s3
                        have zc4 := (aside_cell hSw (p := ⟨wo.heap.size, 4, none⟩) yS3 (by simp; omega)).trans s4
                        have zc5 := (aside_cell hSw (p := ⟨wo.heap.size, 5, none⟩) yS3 (by simp; omega)).trans s5
                        have zc6 := (aside_cell hSw (p := ⟨mb, 4, none⟩) yM3 (by simpa using hmo.ne)).trans m4
                        go_simp
                        try rfl
                      case onw =>
                        try simp only [Act.put, List.setIfInBounds_toArray, List.set_cons_zero, List.set_cons_succ]
                        refine' wpAnyL_take (i := 4) (oi := ⟨some 95, _, _, _, _, _⟩) (v := _) rfl (by kernel_rfl) (by kernel_rfl) (by kernel_rfl) (by kernel_rfl) (fun _ _ _ h => h) hH0 (by rfl) ?hyv ?onw
                        case hyv =>
                          intro wz hSw
                          go_simp
                          try rfl
                        case onw =>
                          try simp only [Act.put, List.setIfInBounds_toArray, List.set_cons_zero, List.set_cons_succ]
                          refine' wpAnyL_take (i := 5) (oi := ⟨some 96, _, _, _, _, _⟩) (v := _) rfl (by kernel_rfl) (by kernel_rfl) (by kernel_rfl) (by kernel_rfl) (fun _ _ _ h => h) hH0 (by rfl) ?hyv ?onw
                          case hyv =>
                            intro wz hSw
                            have zc0 := (aside_cell hSw (p := ⟨wo.heap.size, 0, none⟩) yS3 (by simp; omega)).trans s0
                            have zc1 := (aside_cell hSw (p := ⟨wo.heap.size, 1, none⟩) yS3 (by simp; omega)).trans s1
                            have zc2 := (aside_cell hSw (p := ⟨wo.heap.size, 2, none⟩) yS3 (by simp; omega)).trans s2
                            have zc3 := (aside_cell hSw (p := ⟨wo.heap.size, 3, none⟩) yS3 (by simp; omega)).trans s3
                            have zc4 := (aside_cell hSw (p := ⟨wo.heap.size, 4, none⟩) yS3 (by simp; omega)).trans s4
                            have zc5 := (aside_cell hSw (p := ⟨wo.heap.size, 5, none⟩) yS3 (by simp; omega)).trans s5
                            have zc6 := (aside_cell hSw (p := ⟨mb, 4, none⟩) yM3 (by simpa using hmo.ne)).trans m4
                            go_simp
                            try rfl
                          case onw =>
                            try simp only [Act.put, List.setIfInBounds_toArray, List.set_cons_zero, List.set_cons_succ]
                            refine' wpAnyL_take (i := 6) (oi := ⟨some 97, _, _, _, _, _⟩) (v := _) rfl (by kernel_rfl) (by kernel_rfl) (by kernel_rfl) (by kernel_rfl) (fun _ _ _ h => h) hH0 (by rfl) ?hyv ?onw
                            case hyv =>
                              intro wz hSw
                              go_simp
                              try rfl
                            case onw =>
                              try simp only [Act.put, List.setIfInBounds_toArray, List.set_cons_zero, List.set_cons_succ]
                              refine' wpAnyL_take (i := 7) (oi := ⟨some 98, _, _, _, _, _⟩) (v := _) rfl (by kernel_rfl) (by kernel_rfl) (by kernel_rfl) (by kernel_rfl) (fun _ _ _ h => h) hH0 (by rfl) ?hyv ?onw
                              case hyv =>
                                intro wz hSw
                                go_simp
                                try rfl
                              case onw =>
                                try simp only [Act.put, List.setIfInBounds_toArray, List.set_cons_zero, List.set_cons_succ]
                                refine wpAnyL_one (i := 8) (o := _) rfl (by kernel_rfl) (by rfl) (fun K hK => ?_)
                                have fr := kC.free tn
                                have st0 := kC.at (i := tn) htl
                                go_simp
                                have hH1 : Aside [cb] wr.heap.size wr (wd0.setCell ⟨cb, tn, none⟩ (.int .i64 x)) := hH0.trans (Aside.setCell (B := wd0.heap.size) (by simp) _) hH0.size
                                refine hK.out _ _ (fun _ => hH1) ?_
                                clear hK K fr st0
                                try simp only [Act.put, List.setIfInBounds_toArray, List.set_cons_zero, List.set_cons_succ]
                                have kE := kC.set tn x
                                generalize wd0.setCell ⟨cb, tn, none⟩ (.int .i64 x) = wd1 at hH1 kE ⊢
                                refine wpAnyL_done (by kernel_rfl) ?_ _
                                rw [← HF.out] at kE
                                go_wp2_with fail
                                go_roundg (L.S.length - (j + 1))
                                case measure => omega
                                case rel => exact ⟨j + 1, Z, by omega, rfl, by go_num, hide HNEW.out.1, hide ⟨(by rw [HZ.out]; exact kE), HNEW.out.2⟩, Bw.trans hH1 Bw.size⟩
              case pos =>
                have hT := fun W (a : Below wr.heap.size wr W) => HTE.out W M' (Bi.trans (aside a) Bi.size) (kCi.under a) rfl HM2.out i (HTI.out i hlt2)
                have hR1 := H.out
                rw [show nn - i = (nn - (i + 1)) + 1 by omega, Lo.foldL] at hR1
                have hyw := Lo.tree_wide HM2.out (E := E) HPE.out (i : Int)
                generalize Lo.tree M' (i : Int) E = yv at hT hR1 hyw
                have HTi := hide hT
                have HR1 := hide hR1
                have HYW := hide hyw
                have HAW := hide (apT_I64 (k := k) HXW.out hyw)
                clear hT hR1 H hyw
                go_upto_region 14 with fail
                refine wp_region_late (fun w' => Below wr.heap.size wr w') (fun _ => false) (by kernel_rfl) ?_
                have hH0 : Below wr.heap.size wr wr.drew := (Below.refl _ _).drew
                generalize wr.drew = wd0 at hH0 ⊢
                refine' wpAnyL_take (i := 0) (oi := ⟨some 66, _, _, _, _, _⟩) (v := _) rfl (by kernel_rfl) (by kernel_rfl) (by kernel_rfl) (by kernel_rfl) (fun _ _ _ h => h) hH0 (by rfl) ?hyv ?onw
                case hyv =>
                  intro wz hSw
                  go_simp
                  try rfl
                case onw =>
                  try simp only [Act.put, List.setIfInBounds_toArray, List.set_cons_zero, List.set_cons_succ]
                  refine' wpAnyL_take (i := 1) (oi := ⟨some 67, _, _, _, _, _⟩) (v := _) rfl (by kernel_rfl) (by kernel_rfl) (by kernel_rfl) (by kernel_rfl) (fun _ _ _ h => h) hH0 (by rfl) ?hyv ?onw
                  case hyv =>
                    intro wz hSw
                    have zc0 := (hSw.cell (p := ⟨wo.heap.size, 0, none⟩) yS3).trans s0
                    have zc1 := (hSw.cell (p := ⟨wo.heap.size, 1, none⟩) yS3).trans s1
                    have zc2 := (hSw.cell (p := ⟨wo.heap.size, 2, none⟩) yS3).trans s2
                    have zc3 := (hSw.cell (p := ⟨wo.heap.size, 3, none⟩) yS3).trans s3
                    have zc4 := (hSw.cell (p := ⟨wo.heap.size, 4, none⟩) yS3).trans s4
                    have zc5 := (hSw.cell (p := ⟨wo.heap.size, 5, none⟩) yS3).trans s5
                    have zc6 := (hSw.cell (p := ⟨mb, 4, none⟩) yM3).trans m4
                    go_simp
                    try rfl
                  case onw =>
                    try simp only [Act.put, List.setIfInBounds_toArray, List.set_cons_zero, List.set_cons_succ]
                    refine' wpAnyL_take (i := 2) (oi := ⟨some 68, _, _, _, _, _⟩) (v := _) rfl (by kernel_rfl) (by kernel_rfl) (by kernel_rfl) (by kernel_rfl) (fun _ _ _ h => h) hH0 (by rfl) ?hyv ?onw
                    case hyv =>
                      intro wz hSw
                      go_simp
                      try rfl
                    case onw =>
                      try simp only [Act.put, List.setIfInBounds_toArray, List.set_cons_zero, List.set_cons_succ]
                      refine' wpAnyL_take (i := 3) (oi := ⟨some 69, _, _, _, _, _⟩) (v := _) rfl (by kernel_rfl) (by kernel_rfl) (by kernel_rfl) (by kernel_rfl) (fun _ _ _ h => h) hH0 (by rfl) ?hyv ?onw
                      case hyv =>
                        intro wz hSw
                        go_simp
                        try rfl
                      case onw =>
                        try simp only [Act.put, List.setIfInBounds_toArray, List.set_cons_zero, List.set_cons_succ]
                        refine' wpAnyL_take (i := 4) (oi := ⟨some 70, _, _, _, _, _⟩) (v := _) rfl (by kernel_rfl) (by kernel_rfl) (by kernel_rfl) (by kernel_rfl) (fun _ _ _ h => h) hH0 (by rfl) ?hyv ?onw
                        case hyv =>
                          intro wz hSw
                          go_simp
                          try rfl
                        case onw =>
                          try simp only [Act.put, List.setIfInBounds_toArray, List.set_cons_zero, List.set_cons_succ]
                          refine' wpAnyL_take (i := 5) (oi := ⟨some 71, _, _, _, _, _⟩) (v := _) rfl (by kernel_rfl) (by kernel_rfl) (by kernel_rfl) (by kernel_rfl) (fun _ _ _ h => h) hH0 (by rfl) ?hyv ?onw
                          case hyv =>
                            intro wz hSw
                            have zc0 := (hSw.cell (p := ⟨wo.heap.size, 0, none⟩) yS3).trans s0
                            have zc1 := (hSw.cell (p := ⟨wo.heap.size, 1, none⟩) yS3).trans s1
                            have zc2 := (hSw.cell (p := ⟨wo.heap.size, 2, none⟩) yS3).trans s2
                            have zc3 := (hSw.cell (p := ⟨wo.heap.size, 3, none⟩) yS3).trans s3
                            have zc4 := (hSw.cell (p := ⟨wo.heap.size, 4, none⟩) yS3).trans s4
                            have zc5 := (hSw.cell (p := ⟨wo.heap.size, 5, none⟩) yS3).trans s5
                            have zc6 := (hSw.cell (p := ⟨mb, 4, none⟩) yM3).trans m4
                            go_simp
                            try rfl
                          case onw =>
                            try simp only [Act.put, List.setIfInBounds_toArray, List.set_cons_zero, List.set_cons_succ]
                            refine' wpAnyL_take (i := 6) (oi := ⟨some 72, _, _, _, _, _⟩) (v := _) rfl (by kernel_rfl) (by kernel_rfl) (by kernel_rfl) (by kernel_rfl) (fun _ _ _ h => h) hH0 (by rfl) ?hyv ?onw
                            case hyv =>
                              intro wz hSw
                              go_simp
                              try rfl
                            case onw =>
                              try simp only [Act.put, List.setIfInBounds_toArray, List.set_cons_zero, List.set_cons_succ]
                              refine wpAnyL_one (i := 7) (o := _) rfl (by kernel_rfl) (by rfl) (fun K hK => ?_)
                              go_simp
                              refine (HTi.out wd0 hH0).mono ?_
                              rintro eq wd1 ⟨rfl, bq1⟩
                              have hH1 : Below wr.heap.size wr wd1 := hH0.trans (bq1.mono hH0.size)
                              refine hK.out _ _ (fun _ => hH1) ?_
                              clear hK K
                              try simp only [Act.put, List.setIfInBounds_toArray, List.set_cons_zero, List.set_cons_succ]
                              refine wpAnyL_one (i := 8) (o := _) rfl (by kernel_rfl) (by rfl) (fun K hK => ?_)
                              go_simp
                              refine (applyR_any k x yv wd1 HXW.out HYW.out).mono ?_
                              rintro eq wd2 ⟨rfl, bq2⟩
                              have hH2 : Below wr.heap.size wr wd2 := hH1.trans (bq2.mono hH1.size)
                              refine hK.out _ _ (fun _ => hH2) ?_
                              clear hK K
                              try simp only [Act.put, List.setIfInBounds_toArray, List.set_cons_zero, List.set_cons_succ]
                              refine' wpAnyL_take (i := 9) (oi := ⟨some 9, _, _, _, _, _⟩) (v := _) rfl (by kernel_rfl) (by kernel_rfl) (by kernel_rfl) (by kernel_rfl) (fun _ _ _ h => h) hH2 (by rfl) ?hyv ?onw
                              case hyv =>
                                intro wz hSw
                                go_simp
                                try rfl
                              case onw =>
                                try simp only [Act.put, List.setIfInBounds_toArray, List.set_cons_zero, List.set_cons_succ]
                                refine wpAnyL_done (by kernel_rfl) ?_ _
                                have s0' := (hH2.cell (p := ⟨wo.heap.size, 0, none⟩) yS3).trans s0
                                clear s0 s1 s2 s3 s4 s5 m4
                                go_wp2_with fail
                                go_roundg (nn - (i + 1))
                                case measure => omega
                                case rel => exact ⟨i + 1, _, by omega, rfl, rfl, by go_num, HR1, HAW, hbi.trans (hH2.mono hbi.size)⟩
          case inr.inr.inr =>
            obtain ⟨on1, on2⟩ := o2 (by decide)
            obtain ⟨nn, rfl⟩ : ∃ nn : Nat, n = (nn : Int) := ⟨n.toNat, by omega⟩
            have hti := fun (i : Nat) (h : i < nn) => (show (i : Int) < Lo.turns ⟨4, k, nn, tn, F, E⟩ by simp [Lo.turns]; omega)
            have HTI := hide hti
            obtain ⟨x0, hx0⟩ : ∃ x0, x0 = Lo.tree M' 0 F := ⟨_, rfl⟩
            have hx0w : I64 x0 := by rw [hx0]; exact Lo.tree_wide hM2 HPF.out 0
            have HX0W := hide hx0w
            have htf1 := fun W (a : Below wo.heap.size wo W) => HTF.out (.inr rfl) W a
            have e9 : ((0 : Nat) : Int) = 0 := rfl
            rw [e9, ← hx0] at htf1
            have HTF1 := hide htf1
            have htn : tn + nn ≤ M'.length := by simp [Lo.made, Lo.turns] at o3; omega
            have HR := hide (show Z = Lo.scanL k tn E (nn - 0) 0 x0 M' by rw [hZ, hx0]; rfl)
            clear hnc hM1 hcc hc6 o2 o3 hZ hti HTF htf1 e9 hx0 hx0w
            have bA : Below wo.heap.size wo (wo.alloc (.cells #[.int .i64 4, .int .i64 k, .int .i64 (nn : Int), .int .i64 (tn : Int), .slice y.aF y.nF y.cF, .slice y.aE y.nE y.cE] 62 (0, 0))) := (Below.refl _ _).alloc (Nat.le_refl _) _
            have kS := heap_new wo (.cells #[.int .i64 4, .int .i64 k, .int .i64 (nn : Int), .int .i64 (tn : Int), .slice y.aF y.nF y.cF, .slice y.aE y.nE y.cE] 62 (0, 0))
            have hm3 := hmo.past (aside bA)
            have kC3 := kC0.under bA
            have BA := hbs.trans (aside (S := [cb]) bA) hsz
            go_upto_region 9 with fail
            generalize (wo.alloc (.cells #[.int .i64 4, .int .i64 k, .int .i64 (nn : Int), .int .i64 (tn : Int), .slice y.aF y.nF y.cF, .slice y.aE y.nE y.cE] 62 (0, 0))) = w3 at bA kS hm3 kC3 BA ⊢
            have s0 := cell_of kS 0
            have s1 := cell_of kS 1
            have s2 := cell_of kS 2
            have s3 := cell_of kS 3
            have s4 := cell_of kS 4
            have s5 := cell_of kS 5
            have m4 := cell_of hm3.m 4
            simp at s0 s1 s2 s3 s4 s5 m4
            have yS3 := lt_of kS
            have yM3 := lt_of hm3.m
            clear e0 e1 e2 e3 e4 e5 m3
            have HM2 := hide hM2
            clear hM2
            go_wp2_with fail
            refine (HTF1.out w3 bA).mono ?_
            rintro e w4 ⟨rfl, b4⟩
            have B4 := bA.trans (b4.mono bA.size)
            have kS4 := (b4.block _ (lt_of kS)).trans kS
            have hm4 := hm3.past (aside b4)
            have kC4 := kC3.under b4
            have BA4 := BA.trans (aside (S := [cb]) b4) BA.size
            clear s0 s1 s2 s3 s4 s5 m4 kC3 yS3 yM3 kS hm3 HTF1
            have s0 := cell_of kS4 0
            have s1 := cell_of kS4 1
            have s2 := cell_of kS4 2
            have s3 := cell_of kS4 3
            have s4 := cell_of kS4 4
            have s5 := cell_of kS4 5
            simp at s0 s1 s2 s3 s4 s5
            go_wp2_with fail
            go_loopg [9, 10] nn (fun kq u9 v wr => ∃ (i : Nat) (M2 : List Int) (x : Int), i ≤ nn ∧ kq = nn - i ∧ u9 = .int .i64 x ∧ v = .int .i64 (i : Nat) ∧ Hid (Z = Lo.scanL k tn E (nn - i) i x M2) ∧ Hid (I64 x) ∧ Hid (LB wr cb M2 ∧ M2.length = M'.length ∧ Lo.Wd M2) ∧ Aside [cb] w4.heap.size w4 wr)
            case atStart => exact ⟨0, M', x0, Nat.zero_le _, rfl, rfl, rfl, HR, HX0W, hide ⟨kC4, rfl, HM2.out⟩, Aside.refl _⟩
            case round =>
              clear HR s0 s1 s2 s3 s4 s5 kC4
              obtain ⟨i, M2, x, hi, rfl, rfl, rfl, H, HXW, HL, hbi⟩ := hrel
              have Bi := (aside (S := [cb]) B4).trans hbi B4.size
              have kSr := hbi.keep kS4 (lt_of kS4) (by simp; omega)
              have hmr := hm4.past hbi
              have s0 := cell_of kSr 0
              have s1 := cell_of kSr 1
              have s2 := cell_of kSr 2
              have s3 := cell_of kSr 3
              have s4 := cell_of kSr 4
              have s5 := cell_of kSr 5
              have m4 := cell_of hmr.m 4
              simp at s0 s1 s2 s3 s4 s5 m4
              have yS3 := lt_of kSr
              have yM3 := lt_of hmr.m
              by_cases hlt2 : i < nn
              case neg =>
                have hin : i = nn := by omega
                subst hin
                have HZ := hide (show Z = M2 by rw [H.out, Nat.sub_self]; rfl)
                have kE := HL.out.1
                clear H HL
                go_wp2_with fail
                go_roundg (L.S.length - (j + 1))
                case measure => omega
                case rel => exact ⟨j + 1, Z, by omega, rfl, by go_num, hide HNEW.out.1, hide ⟨(by rw [HZ.out]; exact kE), HNEW.out.2⟩, BA4.trans hbi BA4.size⟩
              case pos =>
                obtain ⟨kC0', hL2, hW2⟩ := HL.out
                have hT := fun W (a : Aside [cb] wo.heap.size wo W) (h : LB W cb M2) => HTE.out W M2 a h hL2 hW2 i (HTI.out i hlt2)
                have hR1 := H.out
                rw [show nn - i = (nn - (i + 1)) + 1 by omega, Lo.scanL] at hR1
                obtain ⟨z, hz⟩ : ∃ z, z = tn + i := ⟨_, rfl⟩
                rw [show ((tn : Int) + (i : Int)).toNat = z by omega] at hR1
                have hyw := Lo.tree_wide hW2 (E := E) HPE.out (i : Int)
                generalize Lo.tree M2 (i : Int) E = yv at hT hR1 hyw
                have HTi := hide hT
                have HW : Hid (IntKind.i64.wrap ((tn : Int) + (i : Int)) = (z : Int)) := hide (by
                  have h2 : IntKind.i64.wrap ((tn : Int) + (i : Int)) = (tn : Int) + (i : Int) := i64_in _ (by omega)
                  have h3 : ((tn : Int) + (i : Int)) = (z : Int) := by omega
                  exact h2.trans h3)
                have hzl : z < M2.length := by omega
                have hznc : z < nc := by have := HNC.out; omega
                have haw := apT_I64 (k := k) HXW.out hyw
                obtain ⟨yy, hyy⟩ : ∃ yy, yy = apT k x yv := ⟨_, rfl⟩
                rw [← hyy] at hR1 haw
                have HYY := hide hyy
                have HR1 := hide hR1
                have HYW := hide hyw
                have HAW := hide haw
                have HL2 := hide hL2
                have HW2 := hide (hW2.set haw z)
                clear hz hT hR1 H HL hL2 hW2 hyw haw hyy
                go_upto_region 14 with fail
                go_cut [9] (fun v wd => v = .int .i64 yy ∧ Aside [cb] wr.heap.size wr wd ∧ LB wd cb M2)
                case first =>
                  refine wp_region_late (fun w' => Aside [cb] wr.heap.size wr w') (fun _ => false) (by kernel_rfl) ?_
                  have hH0 : Aside [cb] wr.heap.size wr wr.drew := (Aside.refl _).drew
                  have kC : LB wr.drew cb M2 := kC0'
                  generalize wr.drew = wd0 at hH0 kC ⊢
                  refine' wpAnyL_take (i := 0) (oi := ⟨some 66, _, _, _, _, _⟩) (v := _) rfl (by kernel_rfl) (by kernel_rfl) (by kernel_rfl) (by kernel_rfl) (fun _ _ _ h => h) hH0 (by rfl) ?hyv ?onw
                  case hyv =>
                    intro wz hSw
                    go_simp
                    try rfl
                  case onw =>
                    try simp only [Act.put, List.setIfInBounds_toArray, List.set_cons_zero, List.set_cons_succ]
                    refine' wpAnyL_take (i := 1) (oi := ⟨some 67, _, _, _, _, _⟩) (v := _) rfl (by kernel_rfl) (by kernel_rfl) (by kernel_rfl) (by kernel_rfl) (fun _ _ _ h => h) hH0 (by rfl) ?hyv ?onw
                    case hyv =>
                      intro wz hSw
                      have zc0 := (aside_cell hSw (p := ⟨wo.heap.size, 0, none⟩) yS3 (by simp; omega)).trans s0
                      have zc1 := (aside_cell hSw (p := ⟨wo.heap.size, 1, none⟩) yS3 (by simp; omega)).trans s1
                      have zc2 := (aside_cell hSw (p := ⟨wo.heap.size, 2, none⟩) yS3 (by simp; omega)).trans s2
                      have zc3 := (aside_cell hSw (p := ⟨wo.heap.size, 3, none⟩) yS3 (by simp; omega)).trans s3
                      have zc4 := (aside_cell hSw (p := ⟨wo.heap.size, 4, none⟩) yS3 (by simp; omega)).trans s4
                      have zc5 := (aside_cell hSw (p := ⟨wo.heap.size, 5, none⟩) yS3 (by simp; omega)).trans s5
                      have zc6 := (aside_cell hSw (p := ⟨mb, 4, none⟩) yM3 (by simpa using hmo.ne)).trans m4
                      go_simp
                      try rfl
                    case onw =>
                      try simp only [Act.put, List.setIfInBounds_toArray, List.set_cons_zero, List.set_cons_succ]
                      refine' wpAnyL_take (i := 2) (oi := ⟨some 68, _, _, _, _, _⟩) (v := _) rfl (by kernel_rfl) (by kernel_rfl) (by kernel_rfl) (by kernel_rfl) (fun _ _ _ h => h) hH0 (by rfl) ?hyv ?onw
                      case hyv =>
                        intro wz hSw
                        go_simp
                        try rfl
                      case onw =>
                        try simp only [Act.put, List.setIfInBounds_toArray, List.set_cons_zero, List.set_cons_succ]
                        refine' wpAnyL_take (i := 3) (oi := ⟨some 69, _, _, _, _, _⟩) (v := _) rfl (by kernel_rfl) (by kernel_rfl) (by kernel_rfl) (by kernel_rfl) (fun _ _ _ h => h) hH0 (by rfl) ?hyv ?onw
                        case hyv =>
                          intro wz hSw
                          go_simp
                          try rfl
                        case onw =>
                          try simp only [Act.put, List.setIfInBounds_toArray, List.set_cons_zero, List.set_cons_succ]
                          refine' wpAnyL_take (i := 4) (oi := ⟨some 70, _, _, _, _, _⟩) (v := _) rfl (by kernel_rfl) (by kernel_rfl) (by kernel_rfl) (by kernel_rfl) (fun _ _ _ h => h) hH0 (by rfl) ?hyv ?onw
                          case hyv =>
                            intro wz hSw
                            go_simp
                            try rfl
                          case onw =>
                            try simp only [Act.put, List.setIfInBounds_toArray, List.set_cons_zero, List.set_cons_succ]
                            refine' wpAnyL_take (i := 5) (oi := ⟨some 71, _, _, _, _, _⟩) (v := _) rfl (by kernel_rfl) (by kernel_rfl) (by kernel_rfl) (by kernel_rfl) (fun _ _ _ h => h) hH0 (by rfl) ?hyv ?onw
                            case hyv =>
                              intro wz hSw
                              have zc0 := (aside_cell hSw (p := ⟨wo.heap.size, 0, none⟩) yS3 (by simp; omega)).trans s0
                              have zc1 := (aside_cell hSw (p := ⟨wo.heap.size, 1, none⟩) yS3 (by simp; omega)).trans s1
                              have zc2 := (aside_cell hSw (p := ⟨wo.heap.size, 2, none⟩) yS3 (by simp; omega)).trans s2
                              have zc3 := (aside_cell hSw (p := ⟨wo.heap.size, 3, none⟩) yS3 (by simp; omega)).trans s3
                              have zc4 := (aside_cell hSw (p := ⟨wo.heap.size, 4, none⟩) yS3 (by simp; omega)).trans s4
                              have zc5 := (aside_cell hSw (p := ⟨wo.heap.size, 5, none⟩) yS3 (by simp; omega)).trans s5
                              have zc6 := (aside_cell hSw (p := ⟨mb, 4, none⟩) yM3 (by simpa using hmo.ne)).trans m4
                              go_simp
                              try rfl
                            case onw =>
                              try simp only [Act.put, List.setIfInBounds_toArray, List.set_cons_zero, List.set_cons_succ]
                              refine' wpAnyL_take (i := 6) (oi := ⟨some 72, _, _, _, _, _⟩) (v := _) rfl (by kernel_rfl) (by kernel_rfl) (by kernel_rfl) (by kernel_rfl) (fun _ _ _ h => h) hH0 (by rfl) ?hyv ?onw
                              case hyv =>
                                intro wz hSw
                                go_simp
                                try rfl
                              case onw =>
                                try simp only [Act.put, List.setIfInBounds_toArray, List.set_cons_zero, List.set_cons_succ]
                                refine wpAnyL_one (i := 7) (o := _) rfl (by kernel_rfl) (by rfl) (fun K hK => ?_)
                                go_simp
                                refine (HTi.out wd0 (Bi.trans hH0 Bi.size) kC).mono ?_
                                rintro eq wd1 ⟨rfl, bq1⟩
                                have hH1 : Aside [cb] wr.heap.size wr wd1 := hH0.trans (aside bq1) hH0.size
                                have kC2 := kC.under bq1
                                refine hK.out _ _ (fun _ => hH1) ?_
                                clear hK K
                                try simp only [Act.put, List.setIfInBounds_toArray, List.set_cons_zero, List.set_cons_succ]
                                refine wpAnyL_one (i := 8) (o := _) rfl (by kernel_rfl) (by rfl) (fun K hK => ?_)
                                go_simp
                                refine (applyR_any k x yv wd1 HXW.out HYW.out).mono ?_
                                rintro eq wd2 ⟨rfl, bq2⟩
                                have hH2 : Aside [cb] wr.heap.size wr wd2 := hH1.trans (aside bq2) hH1.size
                                have kC3x := kC2.under bq2
                                refine hK.out _ _ (fun _ => hH2) ?_
                                clear hK K
                                try simp only [Act.put, List.setIfInBounds_toArray, List.set_cons_zero, List.set_cons_succ]
                                refine' wpAnyL_take (i := 9) (oi := ⟨some 9, _, _, _, _, _⟩) (v := _) rfl (by kernel_rfl) (by kernel_rfl) (by kernel_rfl) (by kernel_rfl) (fun _ _ _ h => h) hH2 (by rfl) ?hyv ?onw
                                case hyv =>
                                  intro wz hSw
                                  go_simp
                                  try rfl
                                case onw =>
                                  try simp only [Act.put, List.setIfInBounds_toArray, List.set_cons_zero, List.set_cons_succ]
                                  refine wpAnyL_done (by kernel_rfl) ?_ _
                                  go_wp2_with fail
                                  go_meet
                                  case rel => exact ⟨by rw [HYY.out], hH2, kC3x⟩
                case rest =>
                  obtain ⟨rfl, bc, kCc⟩ := hcut
                  have Bc := hbi.trans bc hbi.size
                  have kSc := bc.keep kSr (lt_of kSr) (by simp; omega)
                  have hmc := hmr.past bc
                  clear s0 s1 s2 s3 s4 s5 m4 HTi HYY kC0' kSr hmr yS3 yM3
                  have s0 := cell_of kSc 0
                  have s1 := cell_of kSc 1
                  have s2 := cell_of kSc 2
                  have s3 := cell_of kSc 3
                  have s4 := cell_of kSc 4
                  have s5 := cell_of kSc 5
                  have m4 := cell_of hmc.m 4
                  simp at s0 s1 s2 s3 s4 s5 m4
                  have yS3 := lt_of kSc
                  have yM3 := lt_of hmc.m
                  go_upto_region 16 with fail
                  refine wp_region_late (fun w' => Aside [cb] wc.heap.size wc w') (fun _ => false) (by kernel_rfl) ?_
                  have hH0 : Aside [cb] wc.heap.size wc wc.drew := (Aside.refl _).drew
                  have kC : LB wc.drew cb M2 := kCc
                  generalize wc.drew = wd0 at hH0 kC ⊢
                  refine' wpAnyL_take (i := 0) (oi := ⟨some 78, _, _, _, _, _⟩) (v := _) rfl (by kernel_rfl) (by kernel_rfl) (by kernel_rfl) (by kernel_rfl) (fun _ _ _ h => h) hH0 (by rfl) ?hyv ?onw
                  case hyv =>
                    intro wz hSw
                    go_simp
                    try rfl
                  case onw =>
                    try simp only [Act.put, List.setIfInBounds_toArray, List.set_cons_zero, List.set_cons_succ]
                    refine' wpAnyL_take (i := 1) (oi := ⟨some 79, _, _, _, _, _⟩) (v := _) rfl (by kernel_rfl) (by kernel_rfl) (by kernel_rfl) (by kernel_rfl) (fun _ _ _ h => h) hH0 (by rfl) ?hyv ?onw
                    case hyv =>
                      intro wz hSw
                      go_simp
                      try rfl
                    case onw =>
                      try simp only [Act.put, List.setIfInBounds_toArray, List.set_cons_zero, List.set_cons_succ]
                      refine' wpAnyL_take (i := 2) (oi := ⟨some 80, _, _, _, _, _⟩) (v := _) rfl (by kernel_rfl) (by kernel_rfl) (by kernel_rfl) (by kernel_rfl) (fun _ _ _ h => h) hH0 (by rfl) ?hyv ?onw
                      case hyv =>
                        intro wz hSw
                        go_simp
                        try rfl
                      case onw =>
                        try simp only [Act.put, List.setIfInBounds_toArray, List.set_cons_zero, List.set_cons_succ]
                        refine' wpAnyL_take (i := 3) (oi := ⟨some 81, _, _, _, _, _⟩) (v := _) rfl (by kernel_rfl) (by kernel_rfl) (by kernel_rfl) (by kernel_rfl) (fun _ _ _ h => h) hH0 (by rfl) ?hyv ?onw
                        case hyv =>
                          intro wz hSw
                          have zc0 := (aside_cell hSw (p := ⟨wo.heap.size, 0, none⟩) yS3 (by simp; omega)).trans s0
                          have zc1 := (aside_cell hSw (p := ⟨wo.heap.size, 1, none⟩) yS3 (by simp; omega)).trans s1
                          have zc2 := (aside_cell hSw (p := ⟨wo.heap.size, 2, none⟩) yS3 (by simp; omega)).trans s2
                          have zc3 := (aside_cell hSw (p := ⟨wo.heap.size, 3, none⟩) yS3 (by simp; omega)).trans s3
                          have zc4 := (aside_cell hSw (p := ⟨wo.heap.size, 4, none⟩) yS3 (by simp; omega)).trans s4
                          have zc5 := (aside_cell hSw (p := ⟨wo.heap.size, 5, none⟩) yS3 (by simp; omega)).trans s5
                          have zc6 := (aside_cell hSw (p := ⟨mb, 4, none⟩) yM3 (by simpa using hmo.ne)).trans m4
                          go_simp
                          try rfl
                        case onw =>
                          try simp only [Act.put, List.setIfInBounds_toArray, List.set_cons_zero, List.set_cons_succ]
                          refine' wpAnyL_take (i := 4) (oi := ⟨some 82, _, _, _, _, _⟩) (v := _) rfl (by kernel_rfl) (by kernel_rfl) (by kernel_rfl) (by kernel_rfl) (fun _ _ _ h => h) hH0 (by rfl) ?hyv ?onw
                          case hyv =>
                            intro wz hSw
                            go_simp
                            try rfl
                          case onw =>
                            try simp only [Act.put, List.setIfInBounds_toArray, List.set_cons_zero, List.set_cons_succ]
                            refine' wpAnyL_take (i := 5) (oi := ⟨some 83, _, _, _, _, _⟩) (v := _) rfl (by kernel_rfl) (by kernel_rfl) (by kernel_rfl) (by kernel_rfl) (fun _ _ _ h => h) hH0 (by rfl) ?hyv ?onw
                            case hyv =>
                              intro wz hSw
                              have zc0 := (aside_cell hSw (p := ⟨wo.heap.size, 0, none⟩) yS3 (by simp; omega)).trans s0
                              have zc1 := (aside_cell hSw (p := ⟨wo.heap.size, 1, none⟩) yS3 (by simp; omega)).trans s1
                              have zc2 := (aside_cell hSw (p := ⟨wo.heap.size, 2, none⟩) yS3 (by simp; omega)).trans s2
                              have zc3 := (aside_cell hSw (p := ⟨wo.heap.size, 3, none⟩) yS3 (by simp; omega)).trans s3
                              have zc4 := (aside_cell hSw (p := ⟨wo.heap.size, 4, none⟩) yS3 (by simp; omega)).trans s4
                              have zc5 := (aside_cell hSw (p := ⟨wo.heap.size, 5, none⟩) yS3 (by simp; omega)).trans s5
                              have zc6 := (aside_cell hSw (p := ⟨mb, 4, none⟩) yM3 (by simpa using hmo.ne)).trans m4
                              go_simp
                              try rfl
                            case onw =>
                              try simp only [Act.put, List.setIfInBounds_toArray, List.set_cons_zero, List.set_cons_succ]
                              refine' wpAnyL_take (i := 6) (oi := ⟨some 84, _, _, _, _, _⟩) (v := _) rfl (by kernel_rfl) (by kernel_rfl) (by kernel_rfl) (by kernel_rfl) (fun _ _ _ h => h) hH0 (by rfl) ?hyv ?onw
                              case hyv =>
                                intro wz hSw
                                go_simp
                                try rfl
                              case onw =>
                                try simp only [Act.put, List.setIfInBounds_toArray, List.set_cons_zero, List.set_cons_succ]
                                refine' wpAnyL_take (i := 7) (oi := ⟨some 85, _, _, _, _, _⟩) (v := .int .i64 (z : Int)) rfl (by kernel_rfl) (by kernel_rfl) (by kernel_rfl) (by kernel_rfl) (fun _ _ _ h => h) hH0 (by rfl) ?hyv ?onw
                                case hyv =>
                                  intro wz hSw
                                  go_simp
                                  rw [HW.out]
                                case onw =>
                                  try simp only [Act.put, List.setIfInBounds_toArray, List.set_cons_zero, List.set_cons_succ]
                                  refine' wpAnyL_take (i := 8) (oi := ⟨some 86, _, _, _, _, _⟩) (v := _) rfl (by kernel_rfl) (by kernel_rfl) (by kernel_rfl) (by kernel_rfl) (fun _ _ _ h => h) hH0 (by rfl) ?hyv ?onw
                                  case hyv =>
                                    intro wz hSw
                                    go_simp
                                    try rfl
                                  case onw =>
                                    try simp only [Act.put, List.setIfInBounds_toArray, List.set_cons_zero, List.set_cons_succ]
                                    refine' wpAnyL_take (i := 9) (oi := ⟨some 87, _, _, _, _, _⟩) (v := _) rfl (by kernel_rfl) (by kernel_rfl) (by kernel_rfl) (by kernel_rfl) (fun _ _ _ h => h) hH0 (by rfl) ?hyv ?onw
                                    case hyv =>
                                      intro wz hSw
                                      go_simp
                                      try rfl
                                    case onw =>
                                      try simp only [Act.put, List.setIfInBounds_toArray, List.set_cons_zero, List.set_cons_succ]
                                      refine wpAnyL_one (i := 10) (o := _) rfl (by kernel_rfl) (by rfl) (fun K hK => ?_)
                                      have fr := kC.free z
                                      have st0 := kC.at (i := z) hzl
                                      go_simp
                                      have hH1 : Aside [cb] wc.heap.size wc (wd0.setCell ⟨cb, z, none⟩ (.int .i64 yy)) := hH0.trans (Aside.setCell (B := wd0.heap.size) (by simp) _) hH0.size
                                      refine hK.out _ _ (fun _ => hH1) ?_
                                      clear hK K fr st0
                                      try simp only [Act.put, List.setIfInBounds_toArray, List.set_cons_zero, List.set_cons_succ]
                                      have kE := kC.set z yy
                                      generalize wd0.setCell ⟨cb, z, none⟩ (.int .i64 yy) = wd1 at hH1 kE ⊢
                                      refine wpAnyL_done (by kernel_rfl) ?_ _
                                      go_wp2_with fail
                                      go_roundg (nn - (i + 1))
                                      case measure => omega
                                      case rel => exact ⟨i + 1, M2.set z yy, yy, by omega, rfl, rfl, by go_num, HR1, HAW, hide ⟨kE, by rw [List.length_set]; exact HL2.out, HW2.out⟩, Bc.trans hH1 Bc.size⟩
        case neg =>
          have HZ := hide (show Y = M' by rw [H.out, List.drop_of_length_le (show L.S.length ≤ j by omega)]; rfl)
          obtain ⟨kC0, hM'⟩ := HL.out
          rw [← HZ.out] at kC0 hM'
          have Bs := hbr.trans hbs hbr.size
          have hcs := kC0.lt
          have HMY := hide hM'.1
          have yM3 := lt_of hMs.m.m
          clear H HL HZ hM'
          obtain ⟨w3, hw3⟩ : ∃ w3, w3 = wr := ⟨_, rfl⟩
          subst hw3
          go_wp2_with fail
          go_loopg [11, 12] L.G.length (fun k sv v wr => ∃ (q : Nat) (aX : Option Addr) (cX : Nat), q ≤ L.G.length ∧ k = L.G.length - q ∧ sv = .slice aX q cX ∧ v = .int .i64 (q : Nat) ∧ Hid (OwnL kLong w3.heap.size wr (.slice aX q cX) ((L.G.take q).map fun g => Lo.rd Y g)) ∧ Below w3.heap.size w3 wr)
          case atStart => exact ⟨0, none, 0, Nat.zero_le _, rfl, rfl, rfl, hide OwnL.nil, Below.refl _ _⟩
          case round =>
            clear m1 m2 m3 m4 yM
            obtain ⟨q, aX, cX, hq, rfl, rfl, rfl, HO, hbt⟩ := hrel
            have hln : ((L.G.take q).map fun g => Lo.rd Y g).length = q := by simp; omega
            have kCt := kC0.under hbt
            have hMt := hMs.past (aside hbt)
            have m1 := cell_of hMt.m.m 1
            have m2 := cell_of hMt.m.m 2
            have m3 := cell_of hMt.m.m 3
            have m4 := cell_of hMt.m.m 4
            simp at m1 m2 m3 m4
            have yM := lt_of hMt.m.m
            by_cases hlt : q < L.G.length
            case neg =>
              have hin : q = L.G.length := by omega
              have HT := hide (show OwnL kLong w3.heap.size wr (.slice aX q cX) (Lo.told L Y) by
                have := HO.out
                rw [hin, List.take_length] at this
                rw [hin]
                exact this)
              have Bt := Bs.trans (aside (S := [cb]) hbt) Bs.size
              have HOE := hide (HT.out.less (B' := w.heap.size) Bs.size)
              have HCE := hide kCt
              have HBt := hide Bt
              clear HT HO hln kCt Bt
              go_wp2
              go_ret
              exact ⟨⟨_, rfl, by rw [HRow.out]; exact HCE.out, by rw [HRow.out]; exact HOE.out, HBt.out⟩⟩
            case pos =>
              obtain ⟨aoG, cpG, eG, -, -, hatG⟩ := hMs.h.G.at2
              injection eG with q1 q2 q3
              obtain ⟨bG, oG, eaG, yG, nG, e0'⟩ := hatG q hlt
              rw [eaG] at q1
              have e0 := (hbt.cell (p := ⟨bG, oG + q, none⟩) yG).trans e0'
              clear e0'
              have hgi := HGd.out.G _ (List.getElem_mem hlt)
              have hts : (L.G.take (q + 1)).map (fun g => Lo.rd Y g) = (L.G.take q).map (fun g => Lo.rd Y g) ++ [Lo.rd Y (L.G)[q]] := by rw [List.take_succ_eq_append_getElem hlt, List.map_append]; rfl
              generalize (L.G)[q] = g at e0 hts hgi
              obtain ⟨gn, rfl⟩ : ∃ gn : Nat, g = (gn : Int) := ⟨g.toNat, by omega⟩
              have hgl : gn < Y.length := by have := HC.out; have := HMY.out; omega
              have hgc : gn < nc := by have := hM.n; omega
              have c0 := kCt.at hgl
              have hrd : Lo.rd Y (gn : Int) = Y[gn] := by unfold Lo.rd; rw [Int.toNat_natCast, List.getD_eq_getElem?_getD, List.getElem?_eq_getElem hgl]; rfl
              rw [hrd] at hts
              generalize Y[gn] = x at c0 hts
              have HTS := hide hts
              have HNb := hide (fun k (e : (Value.slice aX q cX).ownBlock = some k) => (HO.out.lt k e).1)
              have zB := hbt.size
              have qA : (((L.G.take q).map fun g => Lo.rd Y g).length + 1) * 8 ≤ 140737488355328 := by rw [hln]; omega
              have qB : ((L.G.take q).map fun g => Lo.rd Y g).length + 1 ≤ maxLen := by rw [hln]; unfold maxLen; omega
              have HLN := hide hln
              obtain ⟨LST, hLST⟩ : ∃ LST, LST = (L.G.take q).map fun g => Lo.rd Y g := ⟨_, rfl⟩
              rw [← hLST] at qA qB HLN HO HTS
              subst q1
              clear hatG q2 q3 hrd hts hln hgi hLST
              go_upto_region 30 with fail
              refine wp_region_late (fun w' => Below w3.heap.size wr w') (fun _ => false) (by kernel_rfl) ?_
              have hH0 : Below w3.heap.size wr wr.drew := (Below.refl _ _).drew
              have HOX : OwnL kLong w3.heap.size wr.drew (.slice aX q cX) LST := HO.out
              generalize wr.drew = wd0 at hH0 HOX ⊢
              refine' wpAnyL_take (i := 0) (oi := ⟨some 144, _, _, _, _, _⟩) (v := _) rfl (by kernel_rfl) (by kernel_rfl) (by kernel_rfl) (by kernel_rfl) (fun _ _ _ h => h) hH0 (by rfl) ?hyv ?onw
              case hyv =>
                intro wz hSw
                go_simp
                try rfl
              case onw =>
                try simp only [Act.put, List.setIfInBounds_toArray, List.set_cons_zero, List.set_cons_succ]
                refine' wpAnyL_take (i := 1) (oi := ⟨some 145, _, _, _, _, _⟩) (v := _) rfl (by kernel_rfl) (by kernel_rfl) (by kernel_rfl) (by kernel_rfl) (fun _ _ _ h => h) hH0 (by rfl) ?hyv ?onw
                case hyv =>
                  intro wz hSw
                  go_simp
                  try rfl
                case onw =>
                  try simp only [Act.put, List.setIfInBounds_toArray, List.set_cons_zero, List.set_cons_succ]
                  refine' wpAnyL_take (i := 2) (oi := ⟨some 146, _, _, _, _, _⟩) (v := _) rfl (by kernel_rfl) (by kernel_rfl) (by kernel_rfl) (by kernel_rfl) (fun _ _ _ h => h) hH0 (by rfl) ?hyv ?onw
                  case hyv =>
                    intro wz hSw
                    go_simp
                    try rfl
                  case onw =>
                    try simp only [Act.put, List.setIfInBounds_toArray, List.set_cons_zero, List.set_cons_succ]
                    refine' wpAnyL_take (i := 3) (oi := ⟨some 147, _, _, _, _, _⟩) (v := _) rfl (by kernel_rfl) (by kernel_rfl) (by kernel_rfl) (by kernel_rfl) (fun _ _ _ h => h) hH0 (by rfl) ?hyv ?onw
                    case hyv =>
                      intro wz hSw
                      go_simp
                      try rfl
                    case onw =>
                      try simp only [Act.put, List.setIfInBounds_toArray, List.set_cons_zero, List.set_cons_succ]
                      refine' wpAnyL_take (i := 4) (oi := ⟨some 148, _, _, _, _, _⟩) (v := _) rfl (by kernel_rfl) (by kernel_rfl) (by kernel_rfl) (by kernel_rfl) (fun _ _ _ h => h) hH0 (by rfl) ?hyv ?onw
                      case hyv =>
                        intro wz hSw
                        have zc0 := (hSw.cell (p := ⟨mb, 2, none⟩) yM3).trans m2
                        have zc1 := (hSw.cell (p := ⟨mb, 4, none⟩) yM3).trans m4
                        have zc2 := (hSw.cell (p := ⟨bG, oG + q, none⟩) yG).trans e0
                        have zc3 := (hSw.cell (p := ⟨cb, gn, none⟩) hcs).trans c0
                        go_simp
                        try rfl
                      case onw =>
                        try simp only [Act.put, List.setIfInBounds_toArray, List.set_cons_zero, List.set_cons_succ]
                        refine' wpAnyL_take (i := 5) (oi := ⟨some 149, _, _, _, _, _⟩) (v := _) rfl (by kernel_rfl) (by kernel_rfl) (by kernel_rfl) (by kernel_rfl) (fun _ _ _ h => h) hH0 (by rfl) ?hyv ?onw
                        case hyv =>
                          intro wz hSw
                          go_simp
                          try rfl
                        case onw =>
                          try simp only [Act.put, List.setIfInBounds_toArray, List.set_cons_zero, List.set_cons_succ]
                          refine' wpAnyL_take (i := 6) (oi := ⟨some 150, _, _, _, _, _⟩) (v := _) rfl (by kernel_rfl) (by kernel_rfl) (by kernel_rfl) (by kernel_rfl) (fun _ _ _ h => h) hH0 (by rfl) ?hyv ?onw
                          case hyv =>
                            intro wz hSw
                            go_simp
                            try rfl
                          case onw =>
                            try simp only [Act.put, List.setIfInBounds_toArray, List.set_cons_zero, List.set_cons_succ]
                            refine' wpAnyL_take (i := 7) (oi := ⟨some 151, _, _, _, _, _⟩) (v := _) rfl (by kernel_rfl) (by kernel_rfl) (by kernel_rfl) (by kernel_rfl) (fun _ _ _ h => h) hH0 (by rfl) ?hyv ?onw
                            case hyv =>
                              intro wz hSw
                              go_simp
                              try rfl
                            case onw =>
                              try simp only [Act.put, List.setIfInBounds_toArray, List.set_cons_zero, List.set_cons_succ]
                              refine' wpAnyL_take (i := 8) (oi := ⟨some 152, _, _, _, _, _⟩) (v := _) rfl (by kernel_rfl) (by kernel_rfl) (by kernel_rfl) (by kernel_rfl) (fun _ _ _ h => h) hH0 (by rfl) ?hyv ?onw
                              case hyv =>
                                intro wz hSw
                                go_simp
                                try rfl
                              case onw =>
                                try simp only [Act.put, List.setIfInBounds_toArray, List.set_cons_zero, List.set_cons_succ]
                                refine' wpAnyL_take (i := 9) (oi := ⟨some 153, _, _, _, _, _⟩) (v := _) rfl (by kernel_rfl) (by kernel_rfl) (by kernel_rfl) (by kernel_rfl) (fun _ _ _ h => h) hH0 (by rfl) ?hyv ?onw
                                case hyv =>
                                  intro wz hSw
                                  have zc0 := (hSw.cell (p := ⟨mb, 2, none⟩) yM3).trans m2
                                  have zc1 := (hSw.cell (p := ⟨mb, 4, none⟩) yM3).trans m4
                                  have zc2 := (hSw.cell (p := ⟨bG, oG + q, none⟩) yG).trans e0
                                  have zc3 := (hSw.cell (p := ⟨cb, gn, none⟩) hcs).trans c0
                                  go_simp
                                  try rfl
                                case onw =>
                                  try simp only [Act.put, List.setIfInBounds_toArray, List.set_cons_zero, List.set_cons_succ]
                                  refine' wpAnyL_take (i := 10) (oi := ⟨some 154, _, _, _, _, _⟩) (v := _) rfl (by kernel_rfl) (by kernel_rfl) (by kernel_rfl) (by kernel_rfl) (fun _ _ _ h => h) hH0 (by rfl) ?hyv ?onw
                                  case hyv =>
                                    intro wz hSw
                                    go_simp
                                    try rfl
                                  case onw =>
                                    try simp only [Act.put, List.setIfInBounds_toArray, List.set_cons_zero, List.set_cons_succ]
                                    refine' wpAnyL_take (i := 11) (oi := ⟨some 155, _, _, _, _, _⟩) (v := _) rfl (by kernel_rfl) (by kernel_rfl) (by kernel_rfl) (by kernel_rfl) (fun _ _ _ h => h) hH0 (by rfl) ?hyv ?onw
                                    case hyv =>
                                      intro wz hSw
                                      go_simp
                                      try rfl
                                    case onw =>
                                      try simp only [Act.put, List.setIfInBounds_toArray, List.set_cons_zero, List.set_cons_succ]
                                      refine' wpAnyL_take (i := 12) (oi := ⟨some 156, _, _, _, _, _⟩) (v := _) rfl (by kernel_rfl) (by kernel_rfl) (by kernel_rfl) (by kernel_rfl) (fun _ _ _ h => h) hH0 (by rfl) ?hyv ?onw
                                      case hyv =>
                                        intro wz hSw
                                        have zc0 := (hSw.cell (p := ⟨mb, 2, none⟩) yM3).trans m2
                                        have zc1 := (hSw.cell (p := ⟨mb, 4, none⟩) yM3).trans m4
                                        have zc2 := (hSw.cell (p := ⟨bG, oG + q, none⟩) yG).trans e0
                                        have zc3 := (hSw.cell (p := ⟨cb, gn, none⟩) hcs).trans c0
                                        go_simp
                                        try rfl
                                      case onw =>
                                        try simp only [Act.put, List.setIfInBounds_toArray, List.set_cons_zero, List.set_cons_succ]
                                        refine' wpAnyL_take (i := 13) (oi := ⟨some 157, _, _, _, _, _⟩) (v := _) rfl (by kernel_rfl) (by kernel_rfl) (by kernel_rfl) (by kernel_rfl) (fun _ _ _ h => h) hH0 (by rfl) ?hyv ?onw
                                        case hyv =>
                                          intro wz hSw
                                          go_simp
                                          try rfl
                                        case onw =>
                                          try simp only [Act.put, List.setIfInBounds_toArray, List.set_cons_zero, List.set_cons_succ]
                                          refine' wpAnyL_take (i := 14) (oi := ⟨some 158, _, _, _, _, _⟩) (v := _) rfl (by kernel_rfl) (by kernel_rfl) (by kernel_rfl) (by kernel_rfl) (fun _ _ _ h => h) hH0 (by rfl) ?hyv ?onw
                                          case hyv =>
                                            intro wz hSw
                                            have zc0 := (hSw.cell (p := ⟨mb, 2, none⟩) yM3).trans m2
                                            have zc1 := (hSw.cell (p := ⟨mb, 4, none⟩) yM3).trans m4
                                            have zc2 := (hSw.cell (p := ⟨bG, oG + q, none⟩) yG).trans e0
                                            have zc3 := (hSw.cell (p := ⟨cb, gn, none⟩) hcs).trans c0
                                            go_simp
                                            try rfl
                                          case onw =>
                                            try simp only [Act.put, List.setIfInBounds_toArray, List.set_cons_zero, List.set_cons_succ]
                                            refine wpAnyL_one (i := 15) (o := _) rfl (by kernel_rfl) (by rfl) (fun K hK => ?_)
                                            go_simp
                                            have hH1 : Below w3.heap.size wr (wd0.alloc (.cells #[.int .i64 x] 2 (0, 0))) := hH0.alloc (Nat.le_trans zB hH0.size) _
                                            refine hK.out _ _ (fun _ => hH1) ?_
                                            clear hK K
                                            try simp only [Act.put, List.setIfInBounds_toArray, List.set_cons_zero, List.set_cons_succ]
                                            refine wpAnyL_one (i := 16) (o := _) rfl (by kernel_rfl) (by rfl) (fun K hK => ?_)
                                            have zw0 := Nat.le_trans zB hH0.size
                                            refine oper_moreX kLong _ _ 48 2 rfl Tryd.underlying48 wd0.heap.size _ (.slice aX q cX) LST (by rfl) (ownX_of HOX) [.int .i64 x] x rfl (by rfl) (fun j hj => hj.2) (Nat.le_refl _) qA qB ?_
                                            intro v8 wd2 own8 hg8
                                            have hH2 : Below w3.heap.size wr wd2 := hH1.trans (grown_low hg8 HNb.out (Nat.le_trans zB hH1.size))
                                            obtain ⟨a8, c8, e8, -, -⟩ := own8.form
                                            rw [List.length_append, HLN.out, List.length_singleton] at e8
                                            subst e8
                                            rw [← HTS.out] at own8
                                            have HO9 := hide (ownL_of (B := w3.heap.size) own8 (fun k hk => by
                                              rcases hk with hk | hk
                                              · exact hk.1
                                              · exact Nat.le_trans zw0 hk))
                                            clear own8 hg8
                                            refine hK.out _ _ (fun _ => hH2) ?_
                                            clear hK K
                                            try simp only [Act.put, List.setIfInBounds_toArray, List.set_cons_zero, List.set_cons_succ]
                                            refine' wpAnyL_take (i := 17) (oi := ⟨some 11, _, _, _, _, _⟩) (v := _) rfl (by kernel_rfl) (by kernel_rfl) (by kernel_rfl) (by kernel_rfl) (fun _ _ _ h => h) hH2 (by rfl) ?hyv ?onw
                                            case hyv =>
                                              intro wz hSw
                                              go_simp
                                              try rfl
                                            case onw =>
                                              try simp only [Act.put, List.setIfInBounds_toArray, List.set_cons_zero, List.set_cons_succ]
                                              refine wpAnyL_done (by kernel_rfl) ?_ _
                                              have BF := hbt.trans hH2
                                              go_wp2_with fail
                                              go_roundg (L.G.length - (q + 1))
                                              case measure => omega
                                              case rel => exact ⟨q + 1, a8, c8, by omega, rfl, rfl, by go_num, HO9, BF⟩
end Go.Proofs.YtbiomnnlpafciaaDoor
