import Derived.Test.YtbiomnnlpafciaaDoorT06
import Derived.WalkKit
import Derived.WalkSpells
import Derived.IntWalk
import Derived.Deep.Cut
import Derived.Deep.LoopGhost
import Derived.Laws.Cover1
import Derived.Lib.Hide
set_option linter.unusedVariables false
set_option linter.unusedSimpArgs false
set_option maxHeartbeats 64000000
set_option maxRecDepth 100000
namespace Go.Proofs.YtbiomnnlpafciaaDoor
open Go.RowKit Go.IntWalk
set_option linter.unusedVariables false
set_option linter.unusedSimpArgs false
set_option maxHeartbeats 8000000 in
theorem partL1_any {w : World} {mb : Nat} {c : Int} {vP vG vS : Value} {aC : Option Addr} {nC cC : Nat} {okC okE : Nat → Prop} {M : List Int} {E : List Pu} {aE : Option Addr} {cE i : Nat} {k : Int} (hE : HPu okE w (.slice aE E.length cE) E) (hi : i < E.length) (hlen : E.length ≤ 24) {pk pv pn : Int} (hop : E[i] = ⟨1, pk, pv, pn⟩) : Calls Tryd.prog 61 #[.pointer (some ⟨mb, 0, none⟩), .slice aE E.length cE, .int .i64 (i : Int), .int .i64 k] w fun e w' => e = .returned (.tuple #[.int .i64 (pn), .int .i64 ((i : Int) - 1)]) ∧ Below w.heap.size w w' := by
  obtain ⟨ao', cap', eqs, hc1, hc2, hat2⟩ := hE.at
  injection eqs with q1 q2 q3
  subst q1 q3
  unfold maxLen at hc2
  obtain ⟨bb, o, rfl, hb, e0, e1, e2, e3⟩ := hat2 i hi
  rw [hop] at e0 e1 e2 e3
  dsimp only at e0 e1 e2 e3
  have b1 : Below w.heap.size w (w.alloc (.cells #[.int .i64 1, .int .i64 pk, .int .i64 pv, .int .i64 pn] 59 (0, 0))) := (Below.refl _ _).alloc (Nat.le_refl _) _
  have kP := heap_new w (.cells #[.int .i64 1, .int .i64 pk, .int .i64 pv, .int .i64 pn] 59 (0, 0))
  clear hat2 hE q2 hop
  generalize E.length = ne at *
  have hi2 : (i : Int) < 24 := by omega
  go_enter Tryd.func61, Tryd.ntmps61
  go_upto_region 2 with fail
  clear e0 e1 e2 e3
  generalize w.alloc (.cells #[.int .i64 1, .int .i64 pk, .int .i64 pv, .int .i64 pn] 59 (0, 0)) = w1 at b1 kP ⊢
  have p0 := cell_of kP 0
  have p1 := cell_of kP 1
  have p2 := cell_of kP 2
  have p3 := cell_of kP 3
  simp at p0 p1 p2 p3
  have yP := lt_of kP
  go_wp2
  exact bodyPost_ret (v := .tuple #[.int .i64 (pn), .int .i64 ((i : Int) - 1)]) (by simp [results, Tryd.results61, go_sem]) rfl ⟨rfl, b1⟩
set_option maxHeartbeats 8000000 in
theorem partL4_any {w : World} {mb : Nat} {c : Int} {vP vG vS : Value} {aC : Option Addr} {nC cC : Nat} {okC okE : Nat → Prop} {M : List Int} {E : List Pu} {aE : Option Addr} {cE i : Nat} {k : Int} (hE : HPu okE w (.slice aE E.length cE) E) (hi : i < E.length) (hlen : E.length ≤ 24) {pk pv pn : Int} (hop : E[i] = ⟨4, pk, pv, pn⟩) : Calls Tryd.prog 61 #[.pointer (some ⟨mb, 0, none⟩), .slice aE E.length cE, .int .i64 (i : Int), .int .i64 k] w fun e w' => e = .returned (.tuple #[.int .i64 (wrap64 (k + pn)), .int .i64 ((i : Int) - 1)]) ∧ Below w.heap.size w w' := by
  obtain ⟨ao', cap', eqs, hc1, hc2, hat2⟩ := hE.at
  injection eqs with q1 q2 q3
  subst q1 q3
  unfold maxLen at hc2
  obtain ⟨bb, o, rfl, hb, e0, e1, e2, e3⟩ := hat2 i hi
  rw [hop] at e0 e1 e2 e3
  dsimp only at e0 e1 e2 e3
  have b1 : Below w.heap.size w (w.alloc (.cells #[.int .i64 4, .int .i64 pk, .int .i64 pv, .int .i64 pn] 59 (0, 0))) := (Below.refl _ _).alloc (Nat.le_refl _) _
  have kP := heap_new w (.cells #[.int .i64 4, .int .i64 pk, .int .i64 pv, .int .i64 pn] 59 (0, 0))
  clear hat2 hE q2 hop
  generalize E.length = ne at *
  have hi2 : (i : Int) < 24 := by omega
  go_enter Tryd.func61, Tryd.ntmps61
  go_upto_region 2 with fail
  clear e0 e1 e2 e3
  generalize w.alloc (.cells #[.int .i64 4, .int .i64 pk, .int .i64 pv, .int .i64 pn] 59 (0, 0)) = w1 at b1 kP ⊢
  have p0 := cell_of kP 0
  have p1 := cell_of kP 1
  have p2 := cell_of kP 2
  have p3 := cell_of kP 3
  simp at p0 p1 p2 p3
  have yP := lt_of kP
  go_wp2
  exact bodyPost_ret (v := .tuple #[.int .i64 (wrap64 (k + pn)), .int .i64 ((i : Int) - 1)]) (by simp [results, Tryd.results61, go_sem]) rfl ⟨rfl, b1⟩
set_option maxHeartbeats 8000000 in
theorem partL2_any {w : World} {mb : Nat} {c : Int} {vP vG vS : Value} {aC : Option Addr} {nC cC : Nat} {okC okE : Nat → Prop} {M : List Int} {E : List Pu} {aE : Option Addr} {cE i k : Nat} (hm : w.heap[mb]? = some (.cells #[.int .i64 c, vP, vG, vS, .slice aC nC cC] 54 (0, 0))) (hC : HInts okC w (.slice aC nC cC) M) (hE : HPu okE w (.slice aE E.length cE) E) (hi : i < E.length) (hlen : E.length ≤ 24) {pk pn : Int} {v : Nat} (hop : E[i] = ⟨2, pk, (v : Int), pn⟩) (hv : v < M.length) : Calls Tryd.prog 61 #[.pointer (some ⟨mb, 0, none⟩), .slice aE E.length cE, .int .i64 (i : Int), .int .i64 (k : Int)] w fun e w' => e = .returned (.tuple #[.int .i64 (Lo.rd M (v : Int)), .int .i64 ((i : Int) - 1)]) ∧ Below w.heap.size w w' := by
  obtain ⟨ao', cap', eqs, hc1, hc2, hat2⟩ := hE.at
  injection eqs with q1 q2 q3
  subst q1 q3
  unfold maxLen at hc2
  obtain ⟨bb, o, rfl, hb, e0, e1, e2, e3⟩ := hat2 i hi
  rw [hop] at e0 e1 e2 e3
  dsimp only at e0 e1 e2 e3
  have b1 : Below w.heap.size w (w.alloc (.cells #[.int .i64 2, .int .i64 pk, .int .i64 (v : Int), .int .i64 pn] 59 (0, 0))) := (Below.refl _ _).alloc (Nat.le_refl _) _
  have kP := heap_new w (.cells #[.int .i64 2, .int .i64 pk, .int .i64 (v : Int), .int .i64 pn] 59 (0, 0))
  have kr := (b1.block _ (lt_of hm)).trans hm
  obtain ⟨aC2, cC2, eqc, hd1, hd2, hatC⟩ := hC.at
  injection eqc with q4 q5 q6
  subst q4 q6 q5
  unfold maxLen at hd2
  obtain ⟨bc, oc, rfl, hbc, hcc⟩ := hatC v hv
  have er : Lo.rd M (v : Int) = M[v] := by
    unfold Lo.rd
    rw [List.getD_eq_getElem?_getD, show ((v : Int)).toNat = v by omega, List.getElem?_eq_getElem hv]
    rfl
  rw [er]
  generalize M[v] = y at hcc ⊢
  have CU := (b1.cell (p := ⟨bc, oc + v, none⟩) hbc).trans hcc
  have yu1 := Nat.lt_of_lt_of_le hbc b1.size
  obtain ⟨LU, hLU⟩ : ∃ LU, LU = M.length := ⟨_, rfl⟩
  rw [← hLU] at hd1 hv kr
  clear hat2 hE q2 hatC hC er hcc hm hop hLU hbc
  generalize E.length = ne at *
  have hi2 : (i : Int) < 24 := by omega
  go_enter Tryd.func61, Tryd.ntmps61
  go_upto_region 2 with fail
  clear e0 e1 e2 e3
  generalize w.alloc (.cells #[.int .i64 2, .int .i64 pk, .int .i64 (v : Int), .int .i64 pn] 59 (0, 0)) = w1 at b1 kP kr CU yu1 ⊢
  have p0 := cell_of kP 0
  have p1 := cell_of kP 1
  have p2 := cell_of kP 2
  have p3 := cell_of kP 3
  simp at p0 p1 p2 p3
  have yP := lt_of kP
  have r4 := cell_of kr 4
  simp at r4
  have yr := lt_of kr
  go_upto_region 6 with fail
  refine wp_region_late (fun w' => Below w1.heap.size w1 w') (fun _ => false) (by kernel_rfl) ?_
  have hH0 : Below w1.heap.size w1 w1.drew := (Below.refl _ _).drew
  generalize w1.drew = wd0 at hH0 ⊢
  refine' wpAnyL_take (i := 0) (oi := ⟨some 33, _, _, _, _, _⟩) (v := _) rfl (by kernel_rfl) (by kernel_rfl) (by kernel_rfl) (by kernel_rfl) (fun _ _ _ h => h) hH0 (by rfl) ?hyv ?onw
  case hyv =>
    intro wz hSw
    go_simp
    try rfl
  case onw =>
    try simp only [Act.put, List.setIfInBounds_toArray, List.set_cons_zero, List.set_cons_succ]
    refine' wpAnyL_take (i := 1) (oi := ⟨some 34, _, _, _, _, _⟩) (v := _) rfl (by kernel_rfl) (by kernel_rfl) (by kernel_rfl) (by kernel_rfl) (fun _ _ _ h => h) hH0 (by rfl) ?hyv ?onw
    case hyv =>
      intro wz hSw
      go_simp
      try rfl
    case onw =>
      try simp only [Act.put, List.setIfInBounds_toArray, List.set_cons_zero, List.set_cons_succ]
      refine' wpAnyL_take (i := 2) (oi := ⟨some 35, _, _, _, _, _⟩) (v := _) rfl (by kernel_rfl) (by kernel_rfl) (by kernel_rfl) (by kernel_rfl) (fun _ _ _ h => h) hH0 (by rfl) ?hyv ?onw
      case hyv =>
        intro wz hSw
        go_simp
        try rfl
      case onw =>
        try simp only [Act.put, List.setIfInBounds_toArray, List.set_cons_zero, List.set_cons_succ]
        refine' wpAnyL_take (i := 3) (oi := ⟨some 36, _, _, _, _, _⟩) (v := _) rfl (by kernel_rfl) (by kernel_rfl) (by kernel_rfl) (by kernel_rfl) (fun _ _ _ h => h) hH0 (by rfl) ?hyv ?onw
        case hyv =>
          intro wz hSw
          have zc0 := (hSw.cell (p := ⟨w.heap.size, 0, none⟩) yP).trans p0
          have zc1 := (hSw.cell (p := ⟨w.heap.size, 1, none⟩) yP).trans p1
          have zc2 := (hSw.cell (p := ⟨w.heap.size, 2, none⟩) yP).trans p2
          have zc3 := (hSw.cell (p := ⟨w.heap.size, 3, none⟩) yP).trans p3
          have zc4 := (hSw.cell (p := ⟨mb, 4, none⟩) yr).trans r4
          have zc5 := (hSw.cell (p := ⟨bc, oc + v, none⟩) yu1).trans CU
          go_simp
          try rfl
        case onw =>
          try simp only [Act.put, List.setIfInBounds_toArray, List.set_cons_zero, List.set_cons_succ]
          refine' wpAnyL_take (i := 4) (oi := ⟨some 37, _, _, _, _, _⟩) (v := _) rfl (by kernel_rfl) (by kernel_rfl) (by kernel_rfl) (by kernel_rfl) (fun _ _ _ h => h) hH0 (by rfl) ?hyv ?onw
          case hyv =>
            intro wz hSw
            go_simp
            try rfl
          case onw =>
            try simp only [Act.put, List.setIfInBounds_toArray, List.set_cons_zero, List.set_cons_succ]
            refine' wpAnyL_take (i := 5) (oi := ⟨some 38, _, _, _, _, _⟩) (v := _) rfl (by kernel_rfl) (by kernel_rfl) (by kernel_rfl) (by kernel_rfl) (fun _ _ _ h => h) hH0 (by rfl) ?hyv ?onw
            case hyv =>
              intro wz hSw
              have zc0 := (hSw.cell (p := ⟨w.heap.size, 0, none⟩) yP).trans p0
              have zc1 := (hSw.cell (p := ⟨w.heap.size, 1, none⟩) yP).trans p1
              have zc2 := (hSw.cell (p := ⟨w.heap.size, 2, none⟩) yP).trans p2
              have zc3 := (hSw.cell (p := ⟨w.heap.size, 3, none⟩) yP).trans p3
              have zc4 := (hSw.cell (p := ⟨mb, 4, none⟩) yr).trans r4
              have zc5 := (hSw.cell (p := ⟨bc, oc + v, none⟩) yu1).trans CU
              go_simp
              try rfl
            case onw =>
              try simp only [Act.put, List.setIfInBounds_toArray, List.set_cons_zero, List.set_cons_succ]
              refine' wpAnyL_take (i := 6) (oi := ⟨some 39, _, _, _, _, _⟩) (v := _) rfl (by kernel_rfl) (by kernel_rfl) (by kernel_rfl) (by kernel_rfl) (fun _ _ _ h => h) hH0 (by rfl) ?hyv ?onw
              case hyv =>
                intro wz hSw
                go_simp
                try rfl
              case onw =>
                try simp only [Act.put, List.setIfInBounds_toArray, List.set_cons_zero, List.set_cons_succ]
                refine' wpAnyL_take (i := 7) (oi := ⟨some 40, _, _, _, _, _⟩) (v := _) rfl (by kernel_rfl) (by kernel_rfl) (by kernel_rfl) (by kernel_rfl) (fun _ _ _ h => h) hH0 (by rfl) ?hyv ?onw
                case hyv =>
                  intro wz hSw
                  have zc0 := (hSw.cell (p := ⟨w.heap.size, 0, none⟩) yP).trans p0
                  have zc1 := (hSw.cell (p := ⟨w.heap.size, 1, none⟩) yP).trans p1
                  have zc2 := (hSw.cell (p := ⟨w.heap.size, 2, none⟩) yP).trans p2
                  have zc3 := (hSw.cell (p := ⟨w.heap.size, 3, none⟩) yP).trans p3
                  have zc4 := (hSw.cell (p := ⟨mb, 4, none⟩) yr).trans r4
                  have zc5 := (hSw.cell (p := ⟨bc, oc + v, none⟩) yu1).trans CU
                  go_simp
                  try rfl
                case onw =>
                  try simp only [Act.put, List.setIfInBounds_toArray, List.set_cons_zero, List.set_cons_succ]
                  refine' wpAnyL_take (i := 8) (oi := ⟨some 41, _, _, _, _, _⟩) (v := _) rfl (by kernel_rfl) (by kernel_rfl) (by kernel_rfl) (by kernel_rfl) (fun _ _ _ h => h) hH0 (by rfl) ?hyv ?onw
                  case hyv =>
                    intro wz hSw
                    go_simp
                    try rfl
                  case onw =>
                    try simp only [Act.put, List.setIfInBounds_toArray, List.set_cons_zero, List.set_cons_succ]
                    refine' wpAnyL_take (i := 9) (oi := ⟨some 42, _, _, _, _, _⟩) (v := _) rfl (by kernel_rfl) (by kernel_rfl) (by kernel_rfl) (by kernel_rfl) (fun _ _ _ h => h) hH0 (by rfl) ?hyv ?onw
                    case hyv =>
                      intro wz hSw
                      go_simp
                      try rfl
                    case onw =>
                      try simp only [Act.put, List.setIfInBounds_toArray, List.set_cons_zero, List.set_cons_succ]
                      refine' wpAnyL_take (i := 10) (oi := ⟨some 8, _, _, _, _, _⟩) (v := _) rfl (by kernel_rfl) (by kernel_rfl) (by kernel_rfl) (by kernel_rfl) (fun _ _ _ h => h) hH0 (by rfl) ?hyv ?onw
                      case hyv =>
                        intro wz hSw
                        go_simp
                        try rfl
                      case onw =>
                        try simp only [Act.put, List.setIfInBounds_toArray, List.set_cons_zero, List.set_cons_succ]
                        refine' wpAnyL_take (i := 11) (oi := ⟨some 9, _, _, _, _, _⟩) (v := _) rfl (by kernel_rfl) (by kernel_rfl) (by kernel_rfl) (by kernel_rfl) (fun _ _ _ h => h) hH0 (by rfl) ?hyv ?onw
                        case hyv =>
                          intro wz hSw
                          go_simp
                          try rfl
                        case onw =>
                          try simp only [Act.put, List.setIfInBounds_toArray, List.set_cons_zero, List.set_cons_succ]
                          refine wpAnyL_done (by kernel_rfl) ?_ _
                          go_wp2
                          exact bodyPost_ret (v := .tuple #[.int .i64 y, .int .i64 ((i : Int) - 1)]) (by simp [results, Tryd.results61, go_sem]; exact i64_in _ (by omega)) rfl ⟨rfl, b1.trans (hH0.mono b1.size)⟩
set_option maxHeartbeats 8000000 in
theorem partL3_any {w : World} {mb : Nat} {c : Int} {vP vG vS : Value} {aC : Option Addr} {nC cC : Nat} {okC okE : Nat → Prop} {M : List Int} {E : List Pu} {aE : Option Addr} {cE i k : Nat} (hm : w.heap[mb]? = some (.cells #[.int .i64 c, vP, vG, vS, .slice aC nC cC] 54 (0, 0))) (hC : HInts okC w (.slice aC nC cC) M) (hE : HPu okE w (.slice aE E.length cE) E) (hi : i < E.length) (hlen : E.length ≤ 24) {pk pn : Int} {v : Nat} (hop : E[i] = ⟨3, pk, (v : Int), pn⟩) (hv : (v + k) < M.length) : Calls Tryd.prog 61 #[.pointer (some ⟨mb, 0, none⟩), .slice aE E.length cE, .int .i64 (i : Int), .int .i64 (k : Int)] w fun e w' => e = .returned (.tuple #[.int .i64 (Lo.rd M ((v : Int) + (k : Int))), .int .i64 ((i : Int) - 1)]) ∧ Below w.heap.size w w' := by
  obtain ⟨ao', cap', eqs, hc1, hc2, hat2⟩ := hE.at
  injection eqs with q1 q2 q3
  subst q1 q3
  unfold maxLen at hc2
  obtain ⟨bb, o, rfl, hb, e0, e1, e2, e3⟩ := hat2 i hi
  rw [hop] at e0 e1 e2 e3
  dsimp only at e0 e1 e2 e3
  have b1 : Below w.heap.size w (w.alloc (.cells #[.int .i64 3, .int .i64 pk, .int .i64 (v : Int), .int .i64 pn] 59 (0, 0))) := (Below.refl _ _).alloc (Nat.le_refl _) _
  have kP := heap_new w (.cells #[.int .i64 3, .int .i64 pk, .int .i64 (v : Int), .int .i64 pn] 59 (0, 0))
  have kr := (b1.block _ (lt_of hm)).trans hm
  obtain ⟨aC2, cC2, eqc, hd1, hd2, hatC⟩ := hC.at
  injection eqc with q4 q5 q6
  subst q4 q6 q5
  unfold maxLen at hd2
  obtain ⟨bc, oc, rfl, hbc, hcc⟩ := hatC (v + k) hv
  have er : Lo.rd M ((v : Int) + (k : Int)) = M[(v + k)] := by
    unfold Lo.rd
    rw [List.getD_eq_getElem?_getD, show ((v : Int) + (k : Int)).toNat = (v + k) by omega, List.getElem?_eq_getElem hv]
    rfl
  rw [er]
  generalize M[(v + k)] = y at hcc ⊢
  obtain ⟨z, hz⟩ : ∃ z, z = v + k := ⟨_, rfl⟩
  have HW : Hid (IntKind.i64.wrap ((v : Int) + (k : Int)) = (z : Int)) := hide (by
    have hI : I64 ((v : Int) + (k : Int)) := by unfold I64; omega
    have h2 : IntKind.i64.wrap ((v : Int) + (k : Int)) = (v : Int) + (k : Int) := i64_in _ hI
    have h3 : ((v : Int) + (k : Int)) = (z : Int) := by omega
    exact h2.trans h3)
  rw [← hz] at hv hcc
  clear hz
  have CU := (b1.cell (p := ⟨bc, oc + z, none⟩) hbc).trans hcc
  have yu1 := Nat.lt_of_lt_of_le hbc b1.size
  obtain ⟨LU, hLU⟩ : ∃ LU, LU = M.length := ⟨_, rfl⟩
  rw [← hLU] at hd1 hv kr
  clear hat2 hE q2 hatC hC er hcc hm hop hLU hbc
  generalize E.length = ne at *
  have hi2 : (i : Int) < 24 := by omega
  go_enter Tryd.func61, Tryd.ntmps61
  go_upto_region 2 with fail
  clear e0 e1 e2 e3
  generalize w.alloc (.cells #[.int .i64 3, .int .i64 pk, .int .i64 (v : Int), .int .i64 pn] 59 (0, 0)) = w1 at b1 kP kr CU yu1 ⊢
  have p0 := cell_of kP 0
  have p1 := cell_of kP 1
  have p2 := cell_of kP 2
  have p3 := cell_of kP 3
  simp at p0 p1 p2 p3
  have yP := lt_of kP
  have r4 := cell_of kr 4
  simp at r4
  have yr := lt_of kr
  go_upto_region 8 with fail
  refine wp_region_late (fun w' => Below w1.heap.size w1 w') (fun _ => false) (by kernel_rfl) ?_
  have hH0 : Below w1.heap.size w1 w1.drew := (Below.refl _ _).drew
  generalize w1.drew = wd0 at hH0 ⊢
  refine' wpAnyL_take (i := 0) (oi := ⟨some 45, _, _, _, _, _⟩) (v := _) rfl (by kernel_rfl) (by kernel_rfl) (by kernel_rfl) (by kernel_rfl) (fun _ _ _ h => h) hH0 (by rfl) ?hyv ?onw
  case hyv =>
    intro wz hSw
    go_simp
    try rfl
  case onw =>
    try simp only [Act.put, List.setIfInBounds_toArray, List.set_cons_zero, List.set_cons_succ]
    refine' wpAnyL_take (i := 1) (oi := ⟨some 46, _, _, _, _, _⟩) (v := _) rfl (by kernel_rfl) (by kernel_rfl) (by kernel_rfl) (by kernel_rfl) (fun _ _ _ h => h) hH0 (by rfl) ?hyv ?onw
    case hyv =>
      intro wz hSw
      go_simp
      try rfl
    case onw =>
      try simp only [Act.put, List.setIfInBounds_toArray, List.set_cons_zero, List.set_cons_succ]
      refine' wpAnyL_take (i := 2) (oi := ⟨some 47, _, _, _, _, _⟩) (v := _) rfl (by kernel_rfl) (by kernel_rfl) (by kernel_rfl) (by kernel_rfl) (fun _ _ _ h => h) hH0 (by rfl) ?hyv ?onw
      case hyv =>
        intro wz hSw
        go_simp
        try rfl
      case onw =>
        try simp only [Act.put, List.setIfInBounds_toArray, List.set_cons_zero, List.set_cons_succ]
        refine' wpAnyL_take (i := 3) (oi := ⟨some 48, _, _, _, _, _⟩) (v := _) rfl (by kernel_rfl) (by kernel_rfl) (by kernel_rfl) (by kernel_rfl) (fun _ _ _ h => h) hH0 (by rfl) ?hyv ?onw
        case hyv =>
          intro wz hSw
          have zc0 := (hSw.cell (p := ⟨w.heap.size, 0, none⟩) yP).trans p0
          have zc1 := (hSw.cell (p := ⟨w.heap.size, 1, none⟩) yP).trans p1
          have zc2 := (hSw.cell (p := ⟨w.heap.size, 2, none⟩) yP).trans p2
          have zc3 := (hSw.cell (p := ⟨w.heap.size, 3, none⟩) yP).trans p3
          have zc4 := (hSw.cell (p := ⟨mb, 4, none⟩) yr).trans r4
          have zc5 := (hSw.cell (p := ⟨bc, oc + z, none⟩) yu1).trans CU
          go_simp
          try rfl
        case onw =>
          try simp only [Act.put, List.setIfInBounds_toArray, List.set_cons_zero, List.set_cons_succ]
          refine' wpAnyL_take (i := 4) (oi := ⟨some 49, _, _, _, _, _⟩) (v := _) rfl (by kernel_rfl) (by kernel_rfl) (by kernel_rfl) (by kernel_rfl) (fun _ _ _ h => h) hH0 (by rfl) ?hyv ?onw
          case hyv =>
            intro wz hSw
            go_simp
            try rfl
          case onw =>
            try simp only [Act.put, List.setIfInBounds_toArray, List.set_cons_zero, List.set_cons_succ]
            refine' wpAnyL_take (i := 5) (oi := ⟨some 50, _, _, _, _, _⟩) (v := _) rfl (by kernel_rfl) (by kernel_rfl) (by kernel_rfl) (by kernel_rfl) (fun _ _ _ h => h) hH0 (by rfl) ?hyv ?onw
            case hyv =>
              intro wz hSw
              have zc0 := (hSw.cell (p := ⟨w.heap.size, 0, none⟩) yP).trans p0
              have zc1 := (hSw.cell (p := ⟨w.heap.size, 1, none⟩) yP).trans p1
              have zc2 := (hSw.cell (p := ⟨w.heap.size, 2, none⟩) yP).trans p2
              have zc3 := (hSw.cell (p := ⟨w.heap.size, 3, none⟩) yP).trans p3
              have zc4 := (hSw.cell (p := ⟨mb, 4, none⟩) yr).trans r4
              have zc5 := (hSw.cell (p := ⟨bc, oc + z, none⟩) yu1).trans CU
              go_simp
              try rfl
            case onw =>
              try simp only [Act.put, List.setIfInBounds_toArray, List.set_cons_zero, List.set_cons_succ]
              refine' wpAnyL_take (i := 6) (oi := ⟨some 51, _, _, _, _, _⟩) (v := _) rfl (by kernel_rfl) (by kernel_rfl) (by kernel_rfl) (by kernel_rfl) (fun _ _ _ h => h) hH0 (by rfl) ?hyv ?onw
              case hyv =>
                intro wz hSw
                go_simp
                try rfl
              case onw =>
                try simp only [Act.put, List.setIfInBounds_toArray, List.set_cons_zero, List.set_cons_succ]
                refine' wpAnyL_take (i := 7) (oi := ⟨some 52, _, _, _, _, _⟩) (v := .int .i64 (z : Int)) rfl (by kernel_rfl) (by kernel_rfl) (by kernel_rfl) (by kernel_rfl) (fun _ _ _ h => h) hH0 (by rfl) ?hyv ?onw
                case hyv =>
                  intro wz hSw
                  go_simp
                  rw [HW.out]
                case onw =>
                  try simp only [Act.put, List.setIfInBounds_toArray, List.set_cons_zero, List.set_cons_succ]
                  refine' wpAnyL_take (i := 8) (oi := ⟨some 53, _, _, _, _, _⟩) (v := _) rfl (by kernel_rfl) (by kernel_rfl) (by kernel_rfl) (by kernel_rfl) (fun _ _ _ h => h) hH0 (by rfl) ?hyv ?onw
                  case hyv =>
                    intro wz hSw
                    go_simp
                    try rfl
                  case onw =>
                    try simp only [Act.put, List.setIfInBounds_toArray, List.set_cons_zero, List.set_cons_succ]
                    refine' wpAnyL_take (i := 9) (oi := ⟨some 54, _, _, _, _, _⟩) (v := _) rfl (by kernel_rfl) (by kernel_rfl) (by kernel_rfl) (by kernel_rfl) (fun _ _ _ h => h) hH0 (by rfl) ?hyv ?onw
                    case hyv =>
                      intro wz hSw
                      have zc0 := (hSw.cell (p := ⟨w.heap.size, 0, none⟩) yP).trans p0
                      have zc1 := (hSw.cell (p := ⟨w.heap.size, 1, none⟩) yP).trans p1
                      have zc2 := (hSw.cell (p := ⟨w.heap.size, 2, none⟩) yP).trans p2
                      have zc3 := (hSw.cell (p := ⟨w.heap.size, 3, none⟩) yP).trans p3
                      have zc4 := (hSw.cell (p := ⟨mb, 4, none⟩) yr).trans r4
                      have zc5 := (hSw.cell (p := ⟨bc, oc + z, none⟩) yu1).trans CU
                      go_simp
                      try rfl
                    case onw =>
                      try simp only [Act.put, List.setIfInBounds_toArray, List.set_cons_zero, List.set_cons_succ]
                      refine' wpAnyL_take (i := 10) (oi := ⟨some 55, _, _, _, _, _⟩) (v := _) rfl (by kernel_rfl) (by kernel_rfl) (by kernel_rfl) (by kernel_rfl) (fun _ _ _ h => h) hH0 (by rfl) ?hyv ?onw
                      case hyv =>
                        intro wz hSw
                        go_simp
                        try rfl
                      case onw =>
                        try simp only [Act.put, List.setIfInBounds_toArray, List.set_cons_zero, List.set_cons_succ]
                        refine' wpAnyL_take (i := 11) (oi := ⟨some 56, _, _, _, _, _⟩) (v := _) rfl (by kernel_rfl) (by kernel_rfl) (by kernel_rfl) (by kernel_rfl) (fun _ _ _ h => h) hH0 (by rfl) ?hyv ?onw
                        case hyv =>
                          intro wz hSw
                          go_simp
                          try rfl
                        case onw =>
                          try simp only [Act.put, List.setIfInBounds_toArray, List.set_cons_zero, List.set_cons_succ]
                          refine' wpAnyL_take (i := 12) (oi := ⟨some 8, _, _, _, _, _⟩) (v := _) rfl (by kernel_rfl) (by kernel_rfl) (by kernel_rfl) (by kernel_rfl) (fun _ _ _ h => h) hH0 (by rfl) ?hyv ?onw
                          case hyv =>
                            intro wz hSw
                            go_simp
                            try rfl
                          case onw =>
                            try simp only [Act.put, List.setIfInBounds_toArray, List.set_cons_zero, List.set_cons_succ]
                            refine' wpAnyL_take (i := 13) (oi := ⟨some 9, _, _, _, _, _⟩) (v := _) rfl (by kernel_rfl) (by kernel_rfl) (by kernel_rfl) (by kernel_rfl) (fun _ _ _ h => h) hH0 (by rfl) ?hyv ?onw
                            case hyv =>
                              intro wz hSw
                              go_simp
                              try rfl
                            case onw =>
                              try simp only [Act.put, List.setIfInBounds_toArray, List.set_cons_zero, List.set_cons_succ]
                              refine wpAnyL_done (by kernel_rfl) ?_ _
                              go_wp2
                              exact bodyPost_ret (v := .tuple #[.int .i64 y, .int .i64 ((i : Int) - 1)]) (by simp [results, Tryd.results61, go_sem]; exact i64_in _ (by omega)) rfl ⟨rfl, b1.trans (hH0.mono b1.size)⟩
end Go.Proofs.YtbiomnnlpafciaaDoor
