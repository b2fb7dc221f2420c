import Derived.Test.YtbiomnnlpafciaaDoorT27
import Derived.WalkKit
import Derived.WalkSpells
import Derived.IntWalk
import Derived.Deep.Cut
import Derived.Deep.LoopGhost
import Derived.Laws.Cover1
import Derived.Lib.Hide
set_option linter.unusedVariables false
set_option linter.unusedSimpArgs false
set_option maxHeartbeats 64000000
set_option maxRecDepth 100000
namespace Go.Proofs.YtbiomnnlpafciaaDoor
open Go.RowKit Go.IntWalk
set_option linter.unusedVariables false
set_option linter.unusedSimpArgs false
theorem HInts.cut {ok : Nat → Prop} {w : World} {b o cap : Nat} {M : List Int} (h : HInts ok w (.slice (some ⟨b, o, none⟩) M.length cap) M) {v n : Nat} (hn : 0 < n) (hv : v + n ≤ M.length) : HInts ok w (.slice (some ⟨b, o + v, none⟩) n (cap - v)) ((M.drop v).take n) := by
  obtain ⟨C, ⟨ao, cp, e, h1, h2, h3⟩, hC⟩ := h
  injection e with e1 e2 e3
  subst e1 e3
  have hl : ((M.drop v).take n).length = n := by rw [List.length_take, List.length_drop]; omega
  obtain ⟨b2, o2, hb2, hob, hbl, hcells⟩ := h3 (by omega)
  injection hb2 with hb2
  injection hb2 with q1 q2
  subst q1 q2
  refine ⟨fun i => C (v + i), ⟨_, _, by rw [hl], by rw [hl]; omega, by omega, fun _ => ⟨_, _, rfl, hob, hbl, fun i hi => ⟨(hcells (v + i) (by omega)).1, fun j hj => ?_⟩⟩⟩, fun j hj => ?_⟩
  · rw [← (hcells (v + i) (by omega)).2 j hj]
    congr 2
    omega
  · show C (v + j) = _
    rw [hC (v + j) (by omega), List.getElem_take, List.getElem_drop]
theorem Lo.rd_cut {M : List Int} {v n : Nat} {i : Int} (hv : v + n ≤ M.length) (h0 : 0 ≤ i) (h1 : i < n) : Lo.rd ((M.drop v).take n) i = Lo.rd M ((v : Int) + i) := by
  obtain ⟨m, rfl⟩ : ∃ m : Nat, i = (m : Int) := ⟨i.toNat, by omega⟩
  have hm : m < n := by omega
  have e : ((v : Int) + (m : Int)).toNat = v + m := by omega
  unfold Lo.rd
  rw [e, Int.toNat_natCast, List.getD_eq_getElem?_getD, List.getD_eq_getElem?_getD, List.getElem?_take, if_pos hm, List.getElem?_drop]
set_option maxHeartbeats 16000000 in
theorem partA_any {w : World} {mb : Nat} {c : Int} {vP vG vS : Value} {aC : Option Addr} {nC cC : Nat} {okC okE : Nat → Prop} {M : List Int} {E : List Pu} {aE : Option Addr} {cE i : Nat} {k : Int} (hm : w.heap[mb]? = some (.cells #[.int .i64 c, vP, vG, vS, .slice aC nC cC] 54 (0, 0))) (hC : HInts okC w (.slice aC nC cC) M) (hE : HPu okE w (.slice aE E.length cE) E) (hi : i < E.length) (hlen : E.length ≤ 24) (hM : Lo.Wd M) (hPW : Lo.PW E) {pk : Int} {v n : Nat} (hop : E[i] = ⟨8, pk, (v : Int), (n : Int)⟩) (hn : 0 < n) (hv : v + n ≤ M.length) (hI1 : ∀ W, Below w.heap.size w W → Calls Tryd.prog 61 #[.pointer (some ⟨mb, 0, none⟩), .slice aE E.length cE, .int .i64 ((i : Int) - 1), .int .i64 k] W (PartPost M k E i W)) (hI2 : ∀ (b : Int) (m : Nat), Lo.Part M k E i b m → ∀ W, Below w.heap.size w W → Calls Tryd.prog 61 #[.pointer (some ⟨mb, 0, none⟩), .slice aE E.length cE, .int .i64 ((m : Int) - 1), .int .i64 k] W (PartPost M k E m W)) : Calls Tryd.prog 61 #[.pointer (some ⟨mb, 0, none⟩), .slice aE E.length cE, .int .i64 (i : Int), .int .i64 k] w (PartPost M k E (i + 1) w) := by
  obtain ⟨ao', cap', eqs, hc1, hc2, hat2⟩ := hE.at
  injection eqs with q1 q2 q3
  subst q1 q3
  unfold maxLen at hc2
  obtain ⟨bb, o, rfl, hb, e0, e1, e2, e3⟩ := hat2 i hi
  rw [hop] at e0 e1 e2 e3
  dsimp only at e0 e1 e2 e3
  have b1 : Below w.heap.size w (w.alloc (.cells #[.int .i64 8, .int .i64 pk, .int .i64 (v : Int), .int .i64 (n : Int)] 59 (0, 0))) := (Below.refl _ _).alloc (Nat.le_refl _) _
  have kP := heap_new w (.cells #[.int .i64 8, .int .i64 pk, .int .i64 (v : Int), .int .i64 (n : Int)] 59 (0, 0))
  have HWI := hide (w64_back (i := i) (by omega))
  have HI1 := hide hI1
  have HWD := hide (fun (j : Nat) (v : Int) (m : Nat) (h : Lo.Part M k E j v m) (hj : j ≤ i) => h.wide hM hPW (Nat.le_trans hj (Nat.le_of_lt hi)))
  have HI2 := hide hI2
  have HST := hide (show ∀ b m a j, Lo.Part M k E i b m → Lo.Part M k E m a j → Lo.Part M k E (i + 1) (if a < 0 ∨ (n : Int) ≤ a then b else Lo.rd M ((v : Int) + a)) j from fun b m a j h1 h2 => by
    have := Lo.part_2 hi (by rw [hop]; rfl) h1 h2
    rw [hop] at this
    exact this)
  have kr := (b1.block _ (lt_of hm)).trans hm
  obtain ⟨aC2, cC2, eqc, hd1, hd2, hatC⟩ := hC.at
  injection eqc with q4 q5 q6
  subst q4 q6 q5
  unfold maxLen at hd2
  obtain ⟨bc, oc, rfl, hbc, -⟩ := hatC v (by omega)
  have HCUT := hide (hC.cut hn hv)
  have HVAL := hide (show ∀ a b : Int, (if a < 0 ∨ (((M.drop v).take n).length : Int) ≤ a then b else Lo.rd ((M.drop v).take n) a) = (if a < 0 ∨ (n : Int) ≤ a then b else Lo.rd M ((v : Int) + a)) from fun a b => by
    have hl : ((M.drop v).take n).length = n := by rw [List.length_take, List.length_drop]; omega
    rw [hl]
    by_cases h : a < 0 ∨ (n : Int) ≤ a
    · rw [if_pos h, if_pos h]
    · rw [if_neg h, if_neg h, Lo.rd_cut hv (by omega) (by omega)])
  have HW : Hid (IntKind.i64.wrap ((v : Int) + (n : Int)) = ((v + n : Nat) : Int)) := hide (by
    have h2 : IntKind.i64.wrap ((v : Int) + (n : Int)) = (v : Int) + (n : Int) := i64_in _ (by omega)
    rw [h2]; omega)
  obtain ⟨LU, hLU⟩ : ∃ LU, LU = M.length := ⟨_, rfl⟩
  rw [← hLU] at hd1 hv kr
  obtain ⟨vn, hvn⟩ : ∃ vn, vn = v + n := ⟨_, rfl⟩
  rw [← hvn] at hv HW
  have HVN := hide hvn
  clear hatC hC hm hLU hvn
  clear hat2 hE q2 hop hI1 hM hPW hI2
  generalize E.length = ne at *
  go_enter Tryd.func61, Tryd.ntmps61
  go_upto_region 2 with fail
  clear e0 e1 e2 e3
  generalize w.alloc (.cells #[.int .i64 8, .int .i64 pk, .int .i64 (v : Int), .int .i64 (n : Int)] 59 (0, 0)) = w1 at b1 kP kr ⊢
  have p0 := cell_of kP 0
  have p1 := cell_of kP 1
  have p2 := cell_of kP 2
  have p3 := cell_of kP 3
  simp at p0 p1 p2 p3
  have yP := lt_of kP
  have r4 := cell_of kr 4
  simp at r4
  have yr := lt_of kr
  go_wp2_with fail
  refine (HI1.out _ b1).mono ?_
  rintro e A ⟨b, m, rfl, hPb, bA'⟩
  have HPb := hide hPb
  clear hPb
  have bA := b1.trans (bA'.mono b1.size)
  replace p0 := (bA'.cell (p := ⟨w.heap.size, 0, none⟩) yP).trans p0
  replace p1 := (bA'.cell (p := ⟨w.heap.size, 1, none⟩) yP).trans p1
  replace p2 := (bA'.cell (p := ⟨w.heap.size, 2, none⟩) yP).trans p2
  replace p3 := (bA'.cell (p := ⟨w.heap.size, 3, none⟩) yP).trans p3
  replace yP := Nat.lt_of_lt_of_le yP bA'.size
  go_wp2_with fail
  refine (HI2.out b m HPb.out _ bA).mono ?_
  rintro e B ⟨a, j, rfl, hPa, bB'⟩
  have HPa := hide hPa
  clear hPa
  have bB := bA.trans (bB'.mono bA.size)
  replace p0 := (bB'.cell (p := ⟨w.heap.size, 0, none⟩) yP).trans p0
  replace p1 := (bB'.cell (p := ⟨w.heap.size, 1, none⟩) yP).trans p1
  replace p2 := (bB'.cell (p := ⟨w.heap.size, 2, none⟩) yP).trans p2
  replace p3 := (bB'.cell (p := ⟨w.heap.size, 3, none⟩) yP).trans p3
  replace yP := Nat.lt_of_lt_of_le yP bB'.size
  replace r4 := (((bA'.trans (bB'.mono bA'.size))).cell (p := ⟨mb, 4, none⟩) yr).trans r4
  replace yr := Nat.lt_of_lt_of_le (Nat.lt_of_lt_of_le yr bA'.size) bB'.size
  go_upto_region 20 with fail
  refine wp_region_late (fun w' => Below B.heap.size B w') (fun _ => false) (by kernel_rfl) ?_
  have hH0 : Below B.heap.size B B.drew := (Below.refl _ _).drew
  generalize B.drew = wd0 at hH0 ⊢
  refine' wpAnyL_take (i := 0) (oi := ⟨some 110, _, _, _, _, _⟩) (v := _) rfl (by kernel_rfl) (by kernel_rfl) (by kernel_rfl) (by kernel_rfl) (fun _ _ _ h => h) hH0 (by rfl) ?hyv ?onw
  case hyv =>
    intro wz hSw
    go_simp
    try rfl
  case onw =>
    try simp only [Act.put, List.setIfInBounds_toArray, List.set_cons_zero, List.set_cons_succ]
    refine' wpAnyL_take (i := 1) (oi := ⟨some 111, _, _, _, _, _⟩) (v := _) rfl (by kernel_rfl) (by kernel_rfl) (by kernel_rfl) (by kernel_rfl) (fun _ _ _ h => h) hH0 (by rfl) ?hyv ?onw
    case hyv =>
      intro wz hSw
      go_simp
      try rfl
    case onw =>
      try simp only [Act.put, List.setIfInBounds_toArray, List.set_cons_zero, List.set_cons_succ]
      refine' wpAnyL_take (i := 2) (oi := ⟨some 112, _, _, _, _, _⟩) (v := _) rfl (by kernel_rfl) (by kernel_rfl) (by kernel_rfl) (by kernel_rfl) (fun _ _ _ h => h) hH0 (by rfl) ?hyv ?onw
      case hyv =>
        intro wz hSw
        go_simp
        try rfl
      case onw =>
        try simp only [Act.put, List.setIfInBounds_toArray, List.set_cons_zero, List.set_cons_succ]
        refine' wpAnyL_take (i := 3) (oi := ⟨some 113, _, _, _, _, _⟩) (v := _) rfl (by kernel_rfl) (by kernel_rfl) (by kernel_rfl) (by kernel_rfl) (fun _ _ _ h => h) hH0 (by rfl) ?hyv ?onw
        case hyv =>
          intro wz hSw
          have zc0 := (hSw.cell (p := ⟨w.heap.size, 0, none⟩) yP).trans p0
          have zc1 := (hSw.cell (p := ⟨w.heap.size, 1, none⟩) yP).trans p1
          have zc2 := (hSw.cell (p := ⟨w.heap.size, 2, none⟩) yP).trans p2
          have zc3 := (hSw.cell (p := ⟨w.heap.size, 3, none⟩) yP).trans p3
          have zc4 := (hSw.cell (p := ⟨mb, 4, none⟩) yr).trans r4
          go_simp
          try rfl
        case onw =>
          try simp only [Act.put, List.setIfInBounds_toArray, List.set_cons_zero, List.set_cons_succ]
          refine' wpAnyL_take (i := 4) (oi := ⟨some 114, _, _, _, _, _⟩) (v := _) rfl (by kernel_rfl) (by kernel_rfl) (by kernel_rfl) (by kernel_rfl) (fun _ _ _ h => h) hH0 (by rfl) ?hyv ?onw
          case hyv =>
            intro wz hSw
            go_simp
            try rfl
          case onw =>
            try simp only [Act.put, List.setIfInBounds_toArray, List.set_cons_zero, List.set_cons_succ]
            refine' wpAnyL_take (i := 5) (oi := ⟨some 115, _, _, _, _, _⟩) (v := _) rfl (by kernel_rfl) (by kernel_rfl) (by kernel_rfl) (by kernel_rfl) (fun _ _ _ h => h) hH0 (by rfl) ?hyv ?onw
            case hyv =>
              intro wz hSw
              have zc0 := (hSw.cell (p := ⟨w.heap.size, 0, none⟩) yP).trans p0
              have zc1 := (hSw.cell (p := ⟨w.heap.size, 1, none⟩) yP).trans p1
              have zc2 := (hSw.cell (p := ⟨w.heap.size, 2, none⟩) yP).trans p2
              have zc3 := (hSw.cell (p := ⟨w.heap.size, 3, none⟩) yP).trans p3
              have zc4 := (hSw.cell (p := ⟨mb, 4, none⟩) yr).trans r4
              go_simp
              try rfl
            case onw =>
              try simp only [Act.put, List.setIfInBounds_toArray, List.set_cons_zero, List.set_cons_succ]
              refine' wpAnyL_take (i := 6) (oi := ⟨some 116, _, _, _, _, _⟩) (v := _) rfl (by kernel_rfl) (by kernel_rfl) (by kernel_rfl) (by kernel_rfl) (fun _ _ _ h => h) hH0 (by rfl) ?hyv ?onw
              case hyv =>
                intro wz hSw
                go_simp
                try rfl
              case onw =>
                try simp only [Act.put, List.setIfInBounds_toArray, List.set_cons_zero, List.set_cons_succ]
                refine' wpAnyL_take (i := 7) (oi := ⟨some 117, _, _, _, _, _⟩) (v := _) rfl (by kernel_rfl) (by kernel_rfl) (by kernel_rfl) (by kernel_rfl) (fun _ _ _ h => h) hH0 (by rfl) ?hyv ?onw
                case hyv =>
                  intro wz hSw
                  have zc0 := (hSw.cell (p := ⟨w.heap.size, 0, none⟩) yP).trans p0
                  have zc1 := (hSw.cell (p := ⟨w.heap.size, 1, none⟩) yP).trans p1
                  have zc2 := (hSw.cell (p := ⟨w.heap.size, 2, none⟩) yP).trans p2
                  have zc3 := (hSw.cell (p := ⟨w.heap.size, 3, none⟩) yP).trans p3
                  have zc4 := (hSw.cell (p := ⟨mb, 4, none⟩) yr).trans r4
                  go_simp
                  try rfl
                case onw =>
                  try simp only [Act.put, List.setIfInBounds_toArray, List.set_cons_zero, List.set_cons_succ]
                  refine' wpAnyL_take (i := 8) (oi := ⟨some 118, _, _, _, _, _⟩) (v := _) rfl (by kernel_rfl) (by kernel_rfl) (by kernel_rfl) (by kernel_rfl) (fun _ _ _ h => h) hH0 (by rfl) ?hyv ?onw
                  case hyv =>
                    intro wz hSw
                    go_simp
                    try rfl
                  case onw =>
                    try simp only [Act.put, List.setIfInBounds_toArray, List.set_cons_zero, List.set_cons_succ]
                    refine' wpAnyL_take (i := 9) (oi := ⟨some 119, _, _, _, _, _⟩) (v := _) rfl (by kernel_rfl) (by kernel_rfl) (by kernel_rfl) (by kernel_rfl) (fun _ _ _ h => h) hH0 (by rfl) ?hyv ?onw
                    case hyv =>
                      intro wz hSw
                      have zc0 := (hSw.cell (p := ⟨w.heap.size, 0, none⟩) yP).trans p0
                      have zc1 := (hSw.cell (p := ⟨w.heap.size, 1, none⟩) yP).trans p1
                      have zc2 := (hSw.cell (p := ⟨w.heap.size, 2, none⟩) yP).trans p2
                      have zc3 := (hSw.cell (p := ⟨w.heap.size, 3, none⟩) yP).trans p3
                      have zc4 := (hSw.cell (p := ⟨mb, 4, none⟩) yr).trans r4
                      go_simp
                      try rfl
                    case onw =>
                      try simp only [Act.put, List.setIfInBounds_toArray, List.set_cons_zero, List.set_cons_succ]
                      refine' wpAnyL_take (i := 10) (oi := ⟨some 120, _, _, _, _, _⟩) (v := .int .i64 (vn : Int)) rfl (by kernel_rfl) (by kernel_rfl) (by kernel_rfl) (by kernel_rfl) (fun _ _ _ h => h) hH0 (by rfl) ?hyv ?onw
                      case hyv =>
                        intro wz hSw
                        go_simp
                        rw [HW.out]
                      case onw =>
                        try simp only [Act.put, List.setIfInBounds_toArray, List.set_cons_zero, List.set_cons_succ]
                        refine' wpAnyL_take (i := 11) (oi := ⟨some 121, _, _, _, _, _⟩) (v := .slice (some ⟨bc, oc + v, none⟩) n (cC - v)) rfl (by kernel_rfl) (by kernel_rfl) (by kernel_rfl) (by kernel_rfl) (fun _ _ _ h => h) hH0 (by rfl) ?hyv ?onw
                        case hyv =>
                          intro wz hSw
                          go_simp
                          have hvn := HVN.out
                          rw [if_pos (by omega), if_pos (by omega), if_neg (by omega), show vn - v = n from by omega]
                        case onw =>
                          try simp only [Act.put, List.setIfInBounds_toArray, List.set_cons_zero, List.set_cons_succ]
                          refine' wpAnyL_take (i := 12) (oi := ⟨some 122, _, _, _, _, _⟩) (v := _) rfl (by kernel_rfl) (by kernel_rfl) (by kernel_rfl) (by kernel_rfl) (fun _ _ _ h => h) hH0 (by rfl) ?hyv ?onw
                          case hyv =>
                            intro wz hSw
                            go_simp
                            try rfl
                          case onw =>
                            try simp only [Act.put, List.setIfInBounds_toArray, List.set_cons_zero, List.set_cons_succ]
                            refine' wpAnyL_take (i := 13) (oi := ⟨some 123, _, _, _, _, _⟩) (v := _) rfl (by kernel_rfl) (by kernel_rfl) (by kernel_rfl) (by kernel_rfl) (fun _ _ _ h => h) hH0 (by rfl) ?hyv ?onw
                            case hyv =>
                              intro wz hSw
                              go_simp
                              try rfl
                            case onw =>
                              try simp only [Act.put, List.setIfInBounds_toArray, List.set_cons_zero, List.set_cons_succ]
                              refine' wpAnyL_take (i := 15) (oi := ⟨some 125, _, _, _, _, _⟩) (v := _) rfl (by kernel_rfl) (by kernel_rfl) (by kernel_rfl) (by kernel_rfl) (fun _ _ _ h => h) hH0 (by rfl) ?hyv ?onw
                              case hyv =>
                                intro wz hSw
                                go_simp
                                try rfl
                              case onw =>
                                try simp only [Act.put, List.setIfInBounds_toArray, List.set_cons_zero, List.set_cons_succ]
                                refine wpAnyL_one (i := 14) (o := _) rfl (by kernel_rfl) (by rfl) (fun K hK => ?_)
                                go_simp
                                refine (cellAt57_any ((HCUT.out.under (bB.trans (hH0.mono bB.size)))) a b).mono ?_
                                rintro eq wd1 ⟨rfl, bq1⟩
                                have hH1 : Below B.heap.size B wd1 := hH0.trans (bq1.mono hH0.size)
                                rw [HVAL.out]
                                generalize hyv : (if a < 0 ∨ (n : Int) ≤ a then b else Lo.rd M ((v : Int) + a)) = yv
                                have HYV := hide hyv
                                clear hyv
                                refine hK.out _ _ (fun _ => hH1) ?_
                                clear hK K
                                try simp only [Act.put, List.setIfInBounds_toArray, List.set_cons_zero, List.set_cons_succ]
                                refine' wpAnyL_take (i := 16) (oi := ⟨some 8, _, _, _, _, _⟩) (v := _) rfl (by kernel_rfl) (by kernel_rfl) (by kernel_rfl) (by kernel_rfl) (fun _ _ _ h => h) hH1 (by rfl) ?hyv ?onw
                                case hyv =>
                                  intro wz hSw
                                  go_simp
                                  try rfl
                                case onw =>
                                  try simp only [Act.put, List.setIfInBounds_toArray, List.set_cons_zero, List.set_cons_succ]
                                  refine' wpAnyL_take (i := 17) (oi := ⟨some 9, _, _, _, _, _⟩) (v := _) rfl (by kernel_rfl) (by kernel_rfl) (by kernel_rfl) (by kernel_rfl) (fun _ _ _ h => h) hH1 (by rfl) ?hyv ?onw
                                  case hyv =>
                                    intro wz hSw
                                    go_simp
                                    try rfl
                                  case onw =>
                                    try simp only [Act.put, List.setIfInBounds_toArray, List.set_cons_zero, List.set_cons_succ]
                                    refine wpAnyL_done (by kernel_rfl) ?_ _
                                    go_wp2
                                    exact bodyPost_ret (v := .tuple #[.int .i64 yv, .int .i64 ((j : Int) - 1)]) (by simp [results, Tryd.results61, go_sem]) rfl ⟨_, _, rfl, (by rw [← HYV.out]; exact HST.out _ _ _ _ HPb.out HPa.out), bB.trans (hH1.mono bB.size)⟩
end Go.Proofs.YtbiomnnlpafciaaDoor
