import Derived.Test.YtgjdkgkgbmbffaaDoorJ14
import Derived.WalkKit
import Derived.WalkSpells
import Derived.IntWalk
import Derived.Deep.Cut
import Derived.Deep.LoopGhost
import Derived.Laws.Cover1
import Derived.Lib.Hide
set_option linter.unusedVariables false
set_option linter.unusedSimpArgs false
set_option maxHeartbeats 64000000
set_option maxRecDepth 100000
namespace Go.Proofs.YtgjdkgkgbmbffaaDoor
open Go.RowKit Go.IntWalk
set_option linter.unusedVariables false
set_option linter.unusedSimpArgs false
theorem applyB_any (k a b : Int) (w : World) : Calls Tryd.prog 48 #[.int .i64 k, .int .i64 a, .int .i64 b] w fun e w' => e = .returned (.int .i64 (apT k a b)) ∧ Below w.heap.size w w' := (apply_any k a b w).mono (by rintro e w' ⟨rfl, rfl⟩; exact ⟨rfl, Below.refl _ _⟩)
set_option maxHeartbeats 8000000 in
theorem madeByN_any {w : World} {mb : Nat} (po pk v pn : Int) (h : po < 2 ∨ 8 < po) (tv : Value) (k : Int) : Calls Tryd.prog 53 #[.pointer (some ⟨mb, 0, none⟩), .agg #[.int .i64 po, .int .i64 pk, .int .i64 v, .int .i64 pn], tv, .int .i64 k] w fun e w' => e = .returned (.int .i64 (pn)) ∧ Below w.heap.size w w' := by
  have b1 : Below w.heap.size w (w.alloc (.cells #[.int .i64 po, .int .i64 pk, .int .i64 v, .int .i64 pn] 71 (0, 0))) := (Below.refl _ _).alloc (Nat.le_refl _) _
  have kP := heap_new w (.cells #[.int .i64 po, .int .i64 pk, .int .i64 v, .int .i64 pn] 71 (0, 0))
  have e2 : (po == 2) = false := by simp; omega
  have e3 : (po == 3) = false := by simp; omega
  have e4 : (po == 4) = false := by simp; omega
  have e5 : (po == 5) = false := by simp; omega
  have e6 : (po == 6) = false := by simp; omega
  have e7 : (po == 7) = false := by simp; omega
  have e8 : (po == 8) = false := by simp; omega
  clear h
  go_enter Tryd.func53, Tryd.ntmps53
  go_upto_region 1 with fail
  generalize w.alloc (.cells #[.int .i64 po, .int .i64 pk, .int .i64 v, .int .i64 pn] 71 (0, 0)) = w1 at b1 kP ⊢
  have p0 := cell_of kP 0
  have p1 := cell_of kP 1
  have p2 := cell_of kP 2
  have p3 := cell_of kP 3
  simp at p0 p1 p2 p3
  have yP := lt_of kP
  go_wp2
  go_ret
  exact ⟨rfl, b1⟩
set_option maxHeartbeats 8000000 in
theorem madeBy4_any {w : World} {mb : Nat} (pk v pn : Int) (tv : Value) (k : Int) : Calls Tryd.prog 53 #[.pointer (some ⟨mb, 0, none⟩), .agg #[.int .i64 4, .int .i64 pk, .int .i64 v, .int .i64 pn], tv, .int .i64 k] w fun e w' => e = .returned (.int .i64 (wrap64 (k + pn))) ∧ Below w.heap.size w w' := by
  have b1 : Below w.heap.size w (w.alloc (.cells #[.int .i64 4, .int .i64 pk, .int .i64 v, .int .i64 pn] 71 (0, 0))) := (Below.refl _ _).alloc (Nat.le_refl _) _
  have kP := heap_new w (.cells #[.int .i64 4, .int .i64 pk, .int .i64 v, .int .i64 pn] 71 (0, 0))
  go_enter Tryd.func53, Tryd.ntmps53
  go_upto_region 1 with fail
  generalize w.alloc (.cells #[.int .i64 4, .int .i64 pk, .int .i64 v, .int .i64 pn] 71 (0, 0)) = w1 at b1 kP ⊢
  have p0 := cell_of kP 0
  have p1 := cell_of kP 1
  have p2 := cell_of kP 2
  have p3 := cell_of kP 3
  simp at p0 p1 p2 p3
  have yP := lt_of kP
  go_wp2
  go_ret
  exact ⟨rfl, b1⟩
set_option maxHeartbeats 16000000 in
theorem madeBy5_any {w : World} {mb : Nat} {ok : Nat → Prop} {tv : Value} {T : List Int} (ht : HInts ok w tv T) (hT : T.length = 1) (pk v pn : Int) (k : Int) : Calls Tryd.prog 53 #[.pointer (some ⟨mb, 0, none⟩), .agg #[.int .i64 5, .int .i64 pk, .int .i64 v, .int .i64 pn], tv, .int .i64 k] w fun e w' => e = .returned (.int .i64 (apT pk (T.getD 0 0) 0)) ∧ Below w.heap.size w w' := by
  obtain ⟨at_, ct, rfl, ht1, ht2, hatt⟩ := ht.at
  obtain ⟨bt, ot, rfl, yt, t0⟩ := hatt 0 (by omega)
  rw [Nat.add_zero] at t0
  have g0 : T.getD 0 0 = T[0] := by simp [List.getD_eq_getElem?_getD, show 0 < T.length by omega]
  rw [g0]
  have hT0 : 0 < T.length := by omega
  generalize T[0] = x0 at t0 ⊢
  unfold maxLen at ht2
  obtain ⟨tl, htl⟩ : ∃ tl, tl = T.length := ⟨_, rfl⟩
  rw [← htl] at ht1 hT0 ⊢
  clear ht hatt htl hT g0
  have b1 : Below w.heap.size w (w.alloc (.cells #[.int .i64 5, .int .i64 pk, .int .i64 v, .int .i64 pn] 71 (0, 0))) := (Below.refl _ _).alloc (Nat.le_refl _) _
  have kP := heap_new w (.cells #[.int .i64 5, .int .i64 pk, .int .i64 v, .int .i64 pn] 71 (0, 0))
  have T0 := (b1.cell (p := ⟨bt, ot, none⟩) yt).trans t0
  have yt1 := Nat.lt_of_lt_of_le yt b1.size
  clear yt t0
  go_enter Tryd.func53, Tryd.ntmps53
  go_upto_region 1 with fail
  generalize w.alloc (.cells #[.int .i64 5, .int .i64 pk, .int .i64 v, .int .i64 pn] 71 (0, 0)) = w1 at b1 kP T0 yt1 ⊢
  have p0 := cell_of kP 0
  have p1 := cell_of kP 1
  have p2 := cell_of kP 2
  have p3 := cell_of kP 3
  simp at p0 p1 p2 p3
  have yP := lt_of kP
  go_upto_region 9 with fail
  refine wp_region_late (fun w' => Below w1.heap.size w1 w') (fun _ => false) (by kernel_rfl) ?_
  have hH0 : Below w1.heap.size w1 w1.drew := (Below.refl _ _).drew
  generalize w1.drew = wd0 at hH0 ⊢
  refine' wpAnyL_take (i := 0) (oi := ⟨some 41, _, _, _, _, _⟩) (v := _) rfl (by kernel_rfl) (by kernel_rfl) (by kernel_rfl) (by kernel_rfl) (fun _ _ _ h => h) hH0 (by rfl) ?hyv ?onw
  case hyv =>
    intro wz hSw
    go_simp
    try rfl
  case onw =>
    try simp only [Act.put, List.setIfInBounds_toArray, List.set_cons_zero, List.set_cons_succ]
    refine' wpAnyL_take (i := 1) (oi := ⟨some 42, _, _, _, _, _⟩) (v := _) rfl (by kernel_rfl) (by kernel_rfl) (by kernel_rfl) (by kernel_rfl) (fun _ _ _ h => h) hH0 (by rfl) ?hyv ?onw
    case hyv =>
      intro wz hSw
      have zc0 := (hSw.cell (p := ⟨w.heap.size, 0, none⟩) yP).trans p0
      have zc1 := (hSw.cell (p := ⟨w.heap.size, 1, none⟩) yP).trans p1
      have zc2 := (hSw.cell (p := ⟨w.heap.size, 2, none⟩) yP).trans p2
      have zc3 := (hSw.cell (p := ⟨w.heap.size, 3, none⟩) yP).trans p3
      have zc4 := (hSw.cell (p := ⟨bt, ot, none⟩) yt1).trans T0
      go_simp
      try rfl
    case onw =>
      try simp only [Act.put, List.setIfInBounds_toArray, List.set_cons_zero, List.set_cons_succ]
      refine' wpAnyL_take (i := 2) (oi := ⟨some 43, _, _, _, _, _⟩) (v := _) rfl (by kernel_rfl) (by kernel_rfl) (by kernel_rfl) (by kernel_rfl) (fun _ _ _ h => h) hH0 (by rfl) ?hyv ?onw
      case hyv =>
        intro wz hSw
        go_simp
        try rfl
      case onw =>
        try simp only [Act.put, List.setIfInBounds_toArray, List.set_cons_zero, List.set_cons_succ]
        refine' wpAnyL_take (i := 3) (oi := ⟨some 44, _, _, _, _, _⟩) (v := _) rfl (by kernel_rfl) (by kernel_rfl) (by kernel_rfl) (by kernel_rfl) (fun _ _ _ h => h) hH0 (by rfl) ?hyv ?onw
        case hyv =>
          intro wz hSw
          go_simp
          try rfl
        case onw =>
          try simp only [Act.put, List.setIfInBounds_toArray, List.set_cons_zero, List.set_cons_succ]
          refine' wpAnyL_take (i := 4) (oi := ⟨some 45, _, _, _, _, _⟩) (v := _) rfl (by kernel_rfl) (by kernel_rfl) (by kernel_rfl) (by kernel_rfl) (fun _ _ _ h => h) hH0 (by rfl) ?hyv ?onw
          case hyv =>
            intro wz hSw
            have zc0 := (hSw.cell (p := ⟨w.heap.size, 0, none⟩) yP).trans p0
            have zc1 := (hSw.cell (p := ⟨w.heap.size, 1, none⟩) yP).trans p1
            have zc2 := (hSw.cell (p := ⟨w.heap.size, 2, none⟩) yP).trans p2
            have zc3 := (hSw.cell (p := ⟨w.heap.size, 3, none⟩) yP).trans p3
            have zc4 := (hSw.cell (p := ⟨bt, ot, none⟩) yt1).trans T0
            go_simp
            try rfl
          case onw =>
            try simp only [Act.put, List.setIfInBounds_toArray, List.set_cons_zero, List.set_cons_succ]
            refine wpAnyL_one (i := 5) (o := _) rfl (by kernel_rfl) (by rfl) (fun K hK => ?_)
            go_simp
            refine (applyB_any pk x0 0 wd0).mono ?_
            rintro eq wd1 ⟨rfl, bq1⟩
            have hH1 : Below w1.heap.size w1 wd1 := hH0.trans (bq1.mono hH0.size)
            refine hK.out _ _ (fun _ => hH1) ?_
            clear hK K
            try simp only [Act.put, List.setIfInBounds_toArray, List.set_cons_zero, List.set_cons_succ]
            refine' wpAnyL_take (i := 6) (oi := ⟨some 8, _, _, _, _, _⟩) (v := _) rfl (by kernel_rfl) (by kernel_rfl) (by kernel_rfl) (by kernel_rfl) (fun _ _ _ h => h) hH1 (by rfl) ?hyv ?onw
            case hyv =>
              intro wz hSw
              go_simp
              try rfl
            case onw =>
              try simp only [Act.put, List.setIfInBounds_toArray, List.set_cons_zero, List.set_cons_succ]
              refine wpAnyL_done (by kernel_rfl) ?_ _
              go_wp2
              go_ret
              exact ⟨rfl, b1.trans (hH1.mono b1.size)⟩
set_option maxHeartbeats 16000000 in
theorem madeBy6_any {w : World} {mb : Nat} {ok : Nat → Prop} {tv : Value} {T : List Int} (ht : HInts ok w tv T) (hT : T.length = 2) (pk v pn : Int) (k : Int) : Calls Tryd.prog 53 #[.pointer (some ⟨mb, 0, none⟩), .agg #[.int .i64 6, .int .i64 pk, .int .i64 v, .int .i64 pn], tv, .int .i64 k] w fun e w' => e = .returned (.int .i64 (apT pk (T.getD 0 0) (T.getD 1 0))) ∧ Below w.heap.size w w' := by
  obtain ⟨at_, ct, rfl, ht1, ht2, hatt⟩ := ht.at
  obtain ⟨bt, ot, rfl, yt, t0⟩ := hatt 0 (by omega)
  rw [Nat.add_zero] at t0
  obtain ⟨bt1, ot1, eqt, -, t1⟩ := hatt 1 (by omega)
  injection eqt with eqt
  injection eqt with eqt1 eqt2
  subst eqt1 eqt2
  have g0 : T.getD 0 0 = T[0] := by simp [List.getD_eq_getElem?_getD, show 0 < T.length by omega]
  rw [g0]
  have g1 : T.getD 1 0 = T[1] := by simp [List.getD_eq_getElem?_getD, show 1 < T.length by omega]
  rw [g1]
  have hT0 : 0 < T.length := by omega
  have hT1 : 1 < T.length := by omega
  generalize T[0] = x0 at t0 ⊢
  generalize T[1] = x1 at t1 ⊢
  unfold maxLen at ht2
  obtain ⟨tl, htl⟩ : ∃ tl, tl = T.length := ⟨_, rfl⟩
  rw [← htl] at ht1 hT0 hT1 ⊢
  clear ht hatt htl hT g0 g1
  have hTi1 : (1 : Int) < (tl : Int) := by omega
  have b1 : Below w.heap.size w (w.alloc (.cells #[.int .i64 6, .int .i64 pk, .int .i64 v, .int .i64 pn] 71 (0, 0))) := (Below.refl _ _).alloc (Nat.le_refl _) _
  have kP := heap_new w (.cells #[.int .i64 6, .int .i64 pk, .int .i64 v, .int .i64 pn] 71 (0, 0))
  have T0 := (b1.cell (p := ⟨bt, ot, none⟩) yt).trans t0
  have T1 := (b1.cell (p := ⟨bt, ot + 1, none⟩) yt).trans t1
  have yt1 := Nat.lt_of_lt_of_le yt b1.size
  clear yt t0 t1
  go_enter Tryd.func53, Tryd.ntmps53
  go_upto_region 1 with fail
  generalize w.alloc (.cells #[.int .i64 6, .int .i64 pk, .int .i64 v, .int .i64 pn] 71 (0, 0)) = w1 at b1 kP T0 T1 yt1 ⊢
  have p0 := cell_of kP 0
  have p1 := cell_of kP 1
  have p2 := cell_of kP 2
  have p3 := cell_of kP 3
  simp at p0 p1 p2 p3
  have yP := lt_of kP
  go_upto_region 11 with fail
  refine wp_region_late (fun w' => Below w1.heap.size w1 w') (fun _ => false) (by kernel_rfl) ?_
  have hH0 : Below w1.heap.size w1 w1.drew := (Below.refl _ _).drew
  generalize w1.drew = wd0 at hH0 ⊢
  refine' wpAnyL_take (i := 0) (oi := ⟨some 49, _, _, _, _, _⟩) (v := _) rfl (by kernel_rfl) (by kernel_rfl) (by kernel_rfl) (by kernel_rfl) (fun _ _ _ h => h) hH0 (by rfl) ?hyv ?onw
  case hyv =>
    intro wz hSw
    go_simp
    try rfl
  case onw =>
    try simp only [Act.put, List.setIfInBounds_toArray, List.set_cons_zero, List.set_cons_succ]
    refine' wpAnyL_take (i := 1) (oi := ⟨some 50, _, _, _, _, _⟩) (v := _) rfl (by kernel_rfl) (by kernel_rfl) (by kernel_rfl) (by kernel_rfl) (fun _ _ _ h => h) hH0 (by rfl) ?hyv ?onw
    case hyv =>
      intro wz hSw
      have zc0 := (hSw.cell (p := ⟨w.heap.size, 0, none⟩) yP).trans p0
      have zc1 := (hSw.cell (p := ⟨w.heap.size, 1, none⟩) yP).trans p1
      have zc2 := (hSw.cell (p := ⟨w.heap.size, 2, none⟩) yP).trans p2
      have zc3 := (hSw.cell (p := ⟨w.heap.size, 3, none⟩) yP).trans p3
      have zc4 := (hSw.cell (p := ⟨bt, ot, none⟩) yt1).trans T0
      have zc5 := (hSw.cell (p := ⟨bt, ot + 1, none⟩) yt1).trans T1
      go_simp
      try rfl
    case onw =>
      try simp only [Act.put, List.setIfInBounds_toArray, List.set_cons_zero, List.set_cons_succ]
      refine' wpAnyL_take (i := 2) (oi := ⟨some 51, _, _, _, _, _⟩) (v := _) rfl (by kernel_rfl) (by kernel_rfl) (by kernel_rfl) (by kernel_rfl) (fun _ _ _ h => h) hH0 (by rfl) ?hyv ?onw
      case hyv =>
        intro wz hSw
        go_simp
        try rfl
      case onw =>
        try simp only [Act.put, List.setIfInBounds_toArray, List.set_cons_zero, List.set_cons_succ]
        refine' wpAnyL_take (i := 3) (oi := ⟨some 52, _, _, _, _, _⟩) (v := _) rfl (by kernel_rfl) (by kernel_rfl) (by kernel_rfl) (by kernel_rfl) (fun _ _ _ h => h) hH0 (by rfl) ?hyv ?onw
        case hyv =>
          intro wz hSw
          go_simp
          try rfl
        case onw =>
          try simp only [Act.put, List.setIfInBounds_toArray, List.set_cons_zero, List.set_cons_succ]
          refine' wpAnyL_take (i := 4) (oi := ⟨some 53, _, _, _, _, _⟩) (v := _) rfl (by kernel_rfl) (by kernel_rfl) (by kernel_rfl) (by kernel_rfl) (fun _ _ _ h => h) hH0 (by rfl) ?hyv ?onw
          case hyv =>
            intro wz hSw
            have zc0 := (hSw.cell (p := ⟨w.heap.size, 0, none⟩) yP).trans p0
            have zc1 := (hSw.cell (p := ⟨w.heap.size, 1, none⟩) yP).trans p1
            have zc2 := (hSw.cell (p := ⟨w.heap.size, 2, none⟩) yP).trans p2
            have zc3 := (hSw.cell (p := ⟨w.heap.size, 3, none⟩) yP).trans p3
            have zc4 := (hSw.cell (p := ⟨bt, ot, none⟩) yt1).trans T0
            have zc5 := (hSw.cell (p := ⟨bt, ot + 1, none⟩) yt1).trans T1
            go_simp
            try rfl
          case onw =>
            try simp only [Act.put, List.setIfInBounds_toArray, List.set_cons_zero, List.set_cons_succ]
            refine' wpAnyL_take (i := 5) (oi := ⟨some 54, _, _, _, _, _⟩) (v := _) rfl (by kernel_rfl) (by kernel_rfl) (by kernel_rfl) (by kernel_rfl) (fun _ _ _ h => h) hH0 (by rfl) ?hyv ?onw
            case hyv =>
              intro wz hSw
              go_simp
              try rfl
            case onw =>
              try simp only [Act.put, List.setIfInBounds_toArray, List.set_cons_zero, List.set_cons_succ]
              refine' wpAnyL_take (i := 6) (oi := ⟨some 55, _, _, _, _, _⟩) (v := _) rfl (by kernel_rfl) (by kernel_rfl) (by kernel_rfl) (by kernel_rfl) (fun _ _ _ h => h) hH0 (by rfl) ?hyv ?onw
              case hyv =>
                intro wz hSw
                go_simp
                try rfl
              case onw =>
                try simp only [Act.put, List.setIfInBounds_toArray, List.set_cons_zero, List.set_cons_succ]
                refine' wpAnyL_take (i := 7) (oi := ⟨some 56, _, _, _, _, _⟩) (v := _) rfl (by kernel_rfl) (by kernel_rfl) (by kernel_rfl) (by kernel_rfl) (fun _ _ _ h => h) hH0 (by rfl) ?hyv ?onw
                case hyv =>
                  intro wz hSw
                  have zc0 := (hSw.cell (p := ⟨w.heap.size, 0, none⟩) yP).trans p0
                  have zc1 := (hSw.cell (p := ⟨w.heap.size, 1, none⟩) yP).trans p1
                  have zc2 := (hSw.cell (p := ⟨w.heap.size, 2, none⟩) yP).trans p2
                  have zc3 := (hSw.cell (p := ⟨w.heap.size, 3, none⟩) yP).trans p3
                  have zc4 := (hSw.cell (p := ⟨bt, ot, none⟩) yt1).trans T0
                  have zc5 := (hSw.cell (p := ⟨bt, ot + 1, none⟩) yt1).trans T1
                  go_simp
                  try rfl
                case onw =>
                  try simp only [Act.put, List.setIfInBounds_toArray, List.set_cons_zero, List.set_cons_succ]
                  refine wpAnyL_one (i := 8) (o := _) rfl (by kernel_rfl) (by rfl) (fun K hK => ?_)
                  go_simp
                  refine (applyB_any pk x0 x1 wd0).mono ?_
                  rintro eq wd1 ⟨rfl, bq1⟩
                  have hH1 : Below w1.heap.size w1 wd1 := hH0.trans (bq1.mono hH0.size)
                  refine hK.out _ _ (fun _ => hH1) ?_
                  clear hK K
                  try simp only [Act.put, List.setIfInBounds_toArray, List.set_cons_zero, List.set_cons_succ]
                  refine' wpAnyL_take (i := 9) (oi := ⟨some 8, _, _, _, _, _⟩) (v := _) rfl (by kernel_rfl) (by kernel_rfl) (by kernel_rfl) (by kernel_rfl) (fun _ _ _ h => h) hH1 (by rfl) ?hyv ?onw
                  case hyv =>
                    intro wz hSw
                    go_simp
                    try rfl
                  case onw =>
                    try simp only [Act.put, List.setIfInBounds_toArray, List.set_cons_zero, List.set_cons_succ]
                    refine wpAnyL_done (by kernel_rfl) ?_ _
                    go_wp2
                    go_ret
                    exact ⟨rfl, b1.trans (hH1.mono b1.size)⟩
set_option maxHeartbeats 16000000 in
theorem madeBy7_any {w : World} {mb : Nat} {ok : Nat → Prop} {tv : Value} {T : List Int} (ht : HInts ok w tv T) (hT : T.length = 3) (pk v pn : Int) (k : Int) : Calls Tryd.prog 53 #[.pointer (some ⟨mb, 0, none⟩), .agg #[.int .i64 7, .int .i64 pk, .int .i64 v, .int .i64 pn], tv, .int .i64 k] w fun e w' => e = .returned (.int .i64 (if T.getD 0 0 ≠ 0 then T.getD 1 0 else T.getD 2 0)) ∧ Below w.heap.size w w' := by
  obtain ⟨at_, ct, rfl, ht1, ht2, hatt⟩ := ht.at
  obtain ⟨bt, ot, rfl, yt, t0⟩ := hatt 0 (by omega)
  rw [Nat.add_zero] at t0
  obtain ⟨bt1, ot1, eqt, -, t1⟩ := hatt 1 (by omega)
  injection eqt with eqt
  injection eqt with eqt1 eqt2
  subst eqt1 eqt2
  obtain ⟨bt2, ot2, eqt, -, t2⟩ := hatt 2 (by omega)
  injection eqt with eqt
  injection eqt with eqt1 eqt2
  subst eqt1 eqt2
  have g0 : T.getD 0 0 = T[0] := by simp [List.getD_eq_getElem?_getD, show 0 < T.length by omega]
  rw [g0]
  have g1 : T.getD 1 0 = T[1] := by simp [List.getD_eq_getElem?_getD, show 1 < T.length by omega]
  rw [g1]
  have g2 : T.getD 2 0 = T[2] := by simp [List.getD_eq_getElem?_getD, show 2 < T.length by omega]
  rw [g2]
  have hT0 : 0 < T.length := by omega
  have hT1 : 1 < T.length := by omega
  have hT2 : 2 < T.length := by omega
  generalize T[0] = x0 at t0 ⊢
  generalize T[1] = x1 at t1 ⊢
  generalize T[2] = x2 at t2 ⊢
  unfold maxLen at ht2
  obtain ⟨tl, htl⟩ : ∃ tl, tl = T.length := ⟨_, rfl⟩
  rw [← htl] at ht1 hT0 hT1 hT2 ⊢
  clear ht hatt htl hT g0 g1 g2
  have hTi1 : (1 : Int) < (tl : Int) := by omega
  have hTi2 : (2 : Int) < (tl : Int) := by omega
  have b1 : Below w.heap.size w (w.alloc (.cells #[.int .i64 7, .int .i64 pk, .int .i64 v, .int .i64 pn] 71 (0, 0))) := (Below.refl _ _).alloc (Nat.le_refl _) _
  have kP := heap_new w (.cells #[.int .i64 7, .int .i64 pk, .int .i64 v, .int .i64 pn] 71 (0, 0))
  have T0 := (b1.cell (p := ⟨bt, ot, none⟩) yt).trans t0
  have T1 := (b1.cell (p := ⟨bt, ot + 1, none⟩) yt).trans t1
  have T2 := (b1.cell (p := ⟨bt, ot + 2, none⟩) yt).trans t2
  have yt1 := Nat.lt_of_lt_of_le yt b1.size
  clear yt t0 t1 t2
  by_cases h0 : x0 = 0
  · rw [if_neg (by simp [h0])]
    have e0 : (x0 != 0) = false := by simp [h0]
    clear h0
    go_enter Tryd.func53, Tryd.ntmps53
    go_upto_region 1 with fail
    generalize w.alloc (.cells #[.int .i64 7, .int .i64 pk, .int .i64 v, .int .i64 pn] 71 (0, 0)) = w1 at b1 kP T0 T1 T2 yt1 ⊢
    have p0 := cell_of kP 0
    have p1 := cell_of kP 1
    have p2 := cell_of kP 2
    have p3 := cell_of kP 3
    simp at p0 p1 p2 p3
    have yP := lt_of kP
    go_wp2
    go_ret
    exact ⟨rfl, b1⟩
  · rw [if_pos h0]
    have e0 : (x0 != 0) = true := by simp [h0]
    clear h0
    go_enter Tryd.func53, Tryd.ntmps53
    go_upto_region 1 with fail
    generalize w.alloc (.cells #[.int .i64 7, .int .i64 pk, .int .i64 v, .int .i64 pn] 71 (0, 0)) = w1 at b1 kP T0 T1 T2 yt1 ⊢
    have p0 := cell_of kP 0
    have p1 := cell_of kP 1
    have p2 := cell_of kP 2
    have p3 := cell_of kP 3
    simp at p0 p1 p2 p3
    have yP := lt_of kP
    go_wp2
    go_ret
    exact ⟨rfl, b1⟩
set_option maxHeartbeats 16000000 in
theorem madeBy2_any {w : World} {mb : Nat} {c : Int} {vP vG vS : Value} {aC : Option Addr} {nC cC : Nat} {okC : Nat → Prop} {M : List Int} (hm : w.heap[mb]? = some (.cells #[.int .i64 c, vP, vG, vS, .slice aC nC cC] 64 (0, 0))) (hC : HInts okC w (.slice aC nC cC) M) (pk pn : Int) (v : Nat) (tv : Value) (k : Int) (hl : v < M.length) : Calls Tryd.prog 53 #[.pointer (some ⟨mb, 0, none⟩), .agg #[.int .i64 2, .int .i64 pk, .int .i64 (v : Int), .int .i64 pn], tv, .int .i64 k] w fun e w' => e = .returned (.int .i64 (Lo.rd M (v : Int))) ∧ Below w.heap.size w w' := by
  have b1 : Below w.heap.size w (w.alloc (.cells #[.int .i64 2, .int .i64 pk, .int .i64 (v : Int), .int .i64 pn] 71 (0, 0))) := (Below.refl _ _).alloc (Nat.le_refl _) _
  have kP := heap_new w (.cells #[.int .i64 2, .int .i64 pk, .int .i64 (v : Int), .int .i64 pn] 71 (0, 0))
  have kr := (b1.block _ (lt_of hm)).trans hm
  obtain ⟨au, cu, eau, hu1, hu2, hatu⟩ := hC.at
  injection eau with i1 i2 i3
  subst i1 i2 i3
  obtain ⟨bu, ou, rfl, yu, cu0⟩ := hatu v hl
  have eg : Lo.rd M (v : Int) = M[v] := by
    unfold Lo.rd
    rw [List.getD_eq_getElem?_getD, show ((v : Int)).toNat = v by omega, List.getElem?_eq_getElem hl]
    rfl
  rw [eg]
  generalize M[v] = y at cu0 ⊢
  unfold maxLen at hu2
  have CU := (b1.cell (p := ⟨bu, ou + v, none⟩) yu).trans cu0
  have yu1 := Nat.lt_of_lt_of_le yu b1.size
  obtain ⟨LU, hLU⟩ : ∃ LU, LU = M.length := ⟨_, rfl⟩
  rw [← hLU] at hu1 hl kr
  clear hm hC hatu eg hLU cu0 yu
  go_enter Tryd.func53, Tryd.ntmps53
  go_upto_region 1 with fail
  generalize w.alloc (.cells #[.int .i64 2, .int .i64 pk, .int .i64 (v : Int), .int .i64 pn] 71 (0, 0)) = w1 at b1 kP kr CU yu1 ⊢
  have p0 := cell_of kP 0
  have p1 := cell_of kP 1
  have p2 := cell_of kP 2
  have p3 := cell_of kP 3
  simp at p0 p1 p2 p3
  have yP := lt_of kP
  have r4 := cell_of kr 4
  simp at r4
  have yr := lt_of kr
  go_upto_region 3 with fail
  refine wp_region_late (fun w' => Below w1.heap.size w1 w') (fun _ => false) (by kernel_rfl) ?_
  have hH0 : Below w1.heap.size w1 w1.drew := (Below.refl _ _).drew
  generalize w1.drew = wd0 at hH0 ⊢
  refine' wpAnyL_take (i := 0) (oi := ⟨some 13, _, _, _, _, _⟩) (v := _) rfl (by kernel_rfl) (by kernel_rfl) (by kernel_rfl) (by kernel_rfl) (fun _ _ _ h => h) hH0 (by rfl) ?hyv ?onw
  case hyv =>
    intro wz hSw
    go_simp
    try rfl
  case onw =>
    try simp only [Act.put, List.setIfInBounds_toArray, List.set_cons_zero, List.set_cons_succ]
    refine' wpAnyL_take (i := 1) (oi := ⟨some 14, _, _, _, _, _⟩) (v := _) rfl (by kernel_rfl) (by kernel_rfl) (by kernel_rfl) (by kernel_rfl) (fun _ _ _ h => h) hH0 (by rfl) ?hyv ?onw
    case hyv =>
      intro wz hSw
      go_simp
      try rfl
    case onw =>
      try simp only [Act.put, List.setIfInBounds_toArray, List.set_cons_zero, List.set_cons_succ]
      refine' wpAnyL_take (i := 2) (oi := ⟨some 15, _, _, _, _, _⟩) (v := _) rfl (by kernel_rfl) (by kernel_rfl) (by kernel_rfl) (by kernel_rfl) (fun _ _ _ h => h) hH0 (by rfl) ?hyv ?onw
      case hyv =>
        intro wz hSw
        go_simp
        try rfl
      case onw =>
        try simp only [Act.put, List.setIfInBounds_toArray, List.set_cons_zero, List.set_cons_succ]
        refine' wpAnyL_take (i := 3) (oi := ⟨some 16, _, _, _, _, _⟩) (v := _) rfl (by kernel_rfl) (by kernel_rfl) (by kernel_rfl) (by kernel_rfl) (fun _ _ _ h => h) hH0 (by rfl) ?hyv ?onw
        case hyv =>
          intro wz hSw
          have zc0 := (hSw.cell (p := ⟨w.heap.size, 0, none⟩) yP).trans p0
          have zc1 := (hSw.cell (p := ⟨w.heap.size, 1, none⟩) yP).trans p1
          have zc2 := (hSw.cell (p := ⟨w.heap.size, 2, none⟩) yP).trans p2
          have zc3 := (hSw.cell (p := ⟨w.heap.size, 3, none⟩) yP).trans p3
          have zc4 := (hSw.cell (p := ⟨mb, 4, none⟩) yr).trans r4
          have zc5 := (hSw.cell (p := ⟨bu, ou + v, none⟩) yu1).trans CU
          go_simp
          try rfl
        case onw =>
          try simp only [Act.put, List.setIfInBounds_toArray, List.set_cons_zero, List.set_cons_succ]
          refine' wpAnyL_take (i := 4) (oi := ⟨some 17, _, _, _, _, _⟩) (v := _) rfl (by kernel_rfl) (by kernel_rfl) (by kernel_rfl) (by kernel_rfl) (fun _ _ _ h => h) hH0 (by rfl) ?hyv ?onw
          case hyv =>
            intro wz hSw
            go_simp
            try rfl
          case onw =>
            try simp only [Act.put, List.setIfInBounds_toArray, List.set_cons_zero, List.set_cons_succ]
            refine' wpAnyL_take (i := 5) (oi := ⟨some 18, _, _, _, _, _⟩) (v := _) rfl (by kernel_rfl) (by kernel_rfl) (by kernel_rfl) (by kernel_rfl) (fun _ _ _ h => h) hH0 (by rfl) ?hyv ?onw
            case hyv =>
              intro wz hSw
              have zc0 := (hSw.cell (p := ⟨w.heap.size, 0, none⟩) yP).trans p0
              have zc1 := (hSw.cell (p := ⟨w.heap.size, 1, none⟩) yP).trans p1
              have zc2 := (hSw.cell (p := ⟨w.heap.size, 2, none⟩) yP).trans p2
              have zc3 := (hSw.cell (p := ⟨w.heap.size, 3, none⟩) yP).trans p3
              have zc4 := (hSw.cell (p := ⟨mb, 4, none⟩) yr).trans r4
              have zc5 := (hSw.cell (p := ⟨bu, ou + v, none⟩) yu1).trans CU
              go_simp
              try rfl
            case onw =>
              try simp only [Act.put, List.setIfInBounds_toArray, List.set_cons_zero, List.set_cons_succ]
              refine' wpAnyL_take (i := 6) (oi := ⟨some 19, _, _, _, _, _⟩) (v := _) rfl (by kernel_rfl) (by kernel_rfl) (by kernel_rfl) (by kernel_rfl) (fun _ _ _ h => h) hH0 (by rfl) ?hyv ?onw
              case hyv =>
                intro wz hSw
                go_simp
                try rfl
              case onw =>
                try simp only [Act.put, List.setIfInBounds_toArray, List.set_cons_zero, List.set_cons_succ]
                refine' wpAnyL_take (i := 7) (oi := ⟨some 20, _, _, _, _, _⟩) (v := _) rfl (by kernel_rfl) (by kernel_rfl) (by kernel_rfl) (by kernel_rfl) (fun _ _ _ h => h) hH0 (by rfl) ?hyv ?onw
                case hyv =>
                  intro wz hSw
                  have zc0 := (hSw.cell (p := ⟨w.heap.size, 0, none⟩) yP).trans p0
                  have zc1 := (hSw.cell (p := ⟨w.heap.size, 1, none⟩) yP).trans p1
                  have zc2 := (hSw.cell (p := ⟨w.heap.size, 2, none⟩) yP).trans p2
                  have zc3 := (hSw.cell (p := ⟨w.heap.size, 3, none⟩) yP).trans p3
                  have zc4 := (hSw.cell (p := ⟨mb, 4, none⟩) yr).trans r4
                  have zc5 := (hSw.cell (p := ⟨bu, ou + v, none⟩) yu1).trans CU
                  go_simp
                  try rfl
                case onw =>
                  try simp only [Act.put, List.setIfInBounds_toArray, List.set_cons_zero, List.set_cons_succ]
                  refine' wpAnyL_take (i := 8) (oi := ⟨some 8, _, _, _, _, _⟩) (v := _) rfl (by kernel_rfl) (by kernel_rfl) (by kernel_rfl) (by kernel_rfl) (fun _ _ _ h => h) hH0 (by rfl) ?hyv ?onw
                  case hyv =>
                    intro wz hSw
                    go_simp
                    try rfl
                  case onw =>
                    try simp only [Act.put, List.setIfInBounds_toArray, List.set_cons_zero, List.set_cons_succ]
                    refine wpAnyL_done (by kernel_rfl) ?_ _
                    go_wp2
                    go_ret
                    exact ⟨rfl, b1.trans (hH0.mono b1.size)⟩
set_option maxHeartbeats 16000000 in
theorem madeBy3_any {w : World} {mb : Nat} {c : Int} {vP vG vS : Value} {aC : Option Addr} {nC cC : Nat} {okC : Nat → Prop} {M : List Int} (hm : w.heap[mb]? = some (.cells #[.int .i64 c, vP, vG, vS, .slice aC nC cC] 64 (0, 0))) (hC : HInts okC w (.slice aC nC cC) M) (pk pn : Int) (v : Nat) (tv : Value) (k : Nat) (hl : v + k < M.length) : Calls Tryd.prog 53 #[.pointer (some ⟨mb, 0, none⟩), .agg #[.int .i64 3, .int .i64 pk, .int .i64 (v : Int), .int .i64 pn], tv, .int .i64 (k : Int)] w fun e w' => e = .returned (.int .i64 (Lo.rd M ((v : Int) + (k : Int)))) ∧ Below w.heap.size w w' := by
  have b1 : Below w.heap.size w (w.alloc (.cells #[.int .i64 3, .int .i64 pk, .int .i64 (v : Int), .int .i64 pn] 71 (0, 0))) := (Below.refl _ _).alloc (Nat.le_refl _) _
  have kP := heap_new w (.cells #[.int .i64 3, .int .i64 pk, .int .i64 (v : Int), .int .i64 pn] 71 (0, 0))
  have kr := (b1.block _ (lt_of hm)).trans hm
  obtain ⟨au, cu, eau, hu1, hu2, hatu⟩ := hC.at
  injection eau with i1 i2 i3
  subst i1 i2 i3
  obtain ⟨bu, ou, rfl, yu, cu0⟩ := hatu (v + k) hl
  have eg : Lo.rd M ((v : Int) + (k : Int)) = M[(v + k)] := by
    unfold Lo.rd
    rw [List.getD_eq_getElem?_getD, show ((v : Int) + (k : Int)).toNat = (v + k) by omega, List.getElem?_eq_getElem hl]
    rfl
  rw [eg]
  generalize M[(v + k)] = y at cu0 ⊢
  unfold maxLen at hu2
  obtain ⟨z, hz⟩ : ∃ z, z = v + k := ⟨_, rfl⟩
  have HW : Hid (IntKind.i64.wrap ((v : Int) + (k : Int)) = (z : Int)) := hide (by
    have hI : I64 ((v : Int) + (k : Int)) := by unfold I64; omega
    have h2 : IntKind.i64.wrap ((v : Int) + (k : Int)) = (v : Int) + (k : Int) := i64_in _ hI
    have h3 : ((v : Int) + (k : Int)) = (z : Int) := by omega
    exact h2.trans h3)
  rw [← hz] at hl cu0
  clear hz
  have CU := (b1.cell (p := ⟨bu, ou + z, none⟩) yu).trans cu0
  have yu1 := Nat.lt_of_lt_of_le yu b1.size
  obtain ⟨LU, hLU⟩ : ∃ LU, LU = M.length := ⟨_, rfl⟩
  rw [← hLU] at hu1 hl kr
  clear hm hC hatu eg hLU cu0 yu
  go_enter Tryd.func53, Tryd.ntmps53
  go_upto_region 1 with fail
  generalize w.alloc (.cells #[.int .i64 3, .int .i64 pk, .int .i64 (v : Int), .int .i64 pn] 71 (0, 0)) = w1 at b1 kP kr CU yu1 ⊢
  have p0 := cell_of kP 0
  have p1 := cell_of kP 1
  have p2 := cell_of kP 2
  have p3 := cell_of kP 3
  simp at p0 p1 p2 p3
  have yP := lt_of kP
  have r4 := cell_of kr 4
  simp at r4
  have yr := lt_of kr
  go_upto_region 5 with fail
  refine wp_region_late (fun w' => Below w1.heap.size w1 w') (fun _ => false) (by kernel_rfl) ?_
  have hH0 : Below w1.heap.size w1 w1.drew := (Below.refl _ _).drew
  generalize w1.drew = wd0 at hH0 ⊢
  refine' wpAnyL_take (i := 0) (oi := ⟨some 23, _, _, _, _, _⟩) (v := _) rfl (by kernel_rfl) (by kernel_rfl) (by kernel_rfl) (by kernel_rfl) (fun _ _ _ h => h) hH0 (by rfl) ?hyv ?onw
  case hyv =>
    intro wz hSw
    go_simp
    try rfl
  case onw =>
    try simp only [Act.put, List.setIfInBounds_toArray, List.set_cons_zero, List.set_cons_succ]
    refine' wpAnyL_take (i := 1) (oi := ⟨some 24, _, _, _, _, _⟩) (v := _) rfl (by kernel_rfl) (by kernel_rfl) (by kernel_rfl) (by kernel_rfl) (fun _ _ _ h => h) hH0 (by rfl) ?hyv ?onw
    case hyv =>
      intro wz hSw
      go_simp
      try rfl
    case onw =>
      try simp only [Act.put, List.setIfInBounds_toArray, List.set_cons_zero, List.set_cons_succ]
      refine' wpAnyL_take (i := 2) (oi := ⟨some 25, _, _, _, _, _⟩) (v := _) rfl (by kernel_rfl) (by kernel_rfl) (by kernel_rfl) (by kernel_rfl) (fun _ _ _ h => h) hH0 (by rfl) ?hyv ?onw
      case hyv =>
        intro wz hSw
        go_simp
        try rfl
      case onw =>
        try simp only [Act.put, List.setIfInBounds_toArray, List.set_cons_zero, List.set_cons_succ]
        refine' wpAnyL_take (i := 3) (oi := ⟨some 26, _, _, _, _, _⟩) (v := _) rfl (by kernel_rfl) (by kernel_rfl) (by kernel_rfl) (by kernel_rfl) (fun _ _ _ h => h) hH0 (by rfl) ?hyv ?onw
        case hyv =>
          intro wz hSw
          have zc0 := (hSw.cell (p := ⟨w.heap.size, 0, none⟩) yP).trans p0
          have zc1 := (hSw.cell (p := ⟨w.heap.size, 1, none⟩) yP).trans p1
          have zc2 := (hSw.cell (p := ⟨w.heap.size, 2, none⟩) yP).trans p2
          have zc3 := (hSw.cell (p := ⟨w.heap.size, 3, none⟩) yP).trans p3
          have zc4 := (hSw.cell (p := ⟨mb, 4, none⟩) yr).trans r4
          have zc5 := (hSw.cell (p := ⟨bu, ou + z, none⟩) yu1).trans CU
          go_simp
          try rfl
        case onw =>
          try simp only [Act.put, List.setIfInBounds_toArray, List.set_cons_zero, List.set_cons_succ]
          refine' wpAnyL_take (i := 4) (oi := ⟨some 27, _, _, _, _, _⟩) (v := _) rfl (by kernel_rfl) (by kernel_rfl) (by kernel_rfl) (by kernel_rfl) (fun _ _ _ h => h) hH0 (by rfl) ?hyv ?onw
          case hyv =>
            intro wz hSw
            go_simp
            try rfl
          case onw =>
            try simp only [Act.put, List.setIfInBounds_toArray, List.set_cons_zero, List.set_cons_succ]
            refine' wpAnyL_take (i := 5) (oi := ⟨some 28, _, _, _, _, _⟩) (v := _) rfl (by kernel_rfl) (by kernel_rfl) (by kernel_rfl) (by kernel_rfl) (fun _ _ _ h => h) hH0 (by rfl) ?hyv ?onw
            case hyv =>
              intro wz hSw
              have zc0 := (hSw.cell (p := ⟨w.heap.size, 0, none⟩) yP).trans p0
              have zc1 := (hSw.cell (p := ⟨w.heap.size, 1, none⟩) yP).trans p1
              have zc2 := (hSw.cell (p := ⟨w.heap.size, 2, none⟩) yP).trans p2
              have zc3 := (hSw.cell (p := ⟨w.heap.size, 3, none⟩) yP).trans p3
              have zc4 := (hSw.cell (p := ⟨mb, 4, none⟩) yr).trans r4
              have zc5 := (hSw.cell (p := ⟨bu, ou + z, none⟩) yu1).trans CU
              go_simp
              try rfl
            case onw =>
              try simp only [Act.put, List.setIfInBounds_toArray, List.set_cons_zero, List.set_cons_succ]
              refine' wpAnyL_take (i := 6) (oi := ⟨some 29, _, _, _, _, _⟩) (v := _) rfl (by kernel_rfl) (by kernel_rfl) (by kernel_rfl) (by kernel_rfl) (fun _ _ _ h => h) hH0 (by rfl) ?hyv ?onw
              case hyv =>
                intro wz hSw
                go_simp
                try rfl
              case onw =>
                try simp only [Act.put, List.setIfInBounds_toArray, List.set_cons_zero, List.set_cons_succ]
                refine' wpAnyL_take (i := 7) (oi := ⟨some 30, _, _, _, _, _⟩) (v := .int .i64 (z : Int)) rfl (by kernel_rfl) (by kernel_rfl) (by kernel_rfl) (by kernel_rfl) (fun _ _ _ h => h) hH0 (by rfl) ?hyv ?onw
                case hyv =>
                  intro wz hSw
                  go_simp
                  rw [HW.out]
                case onw =>
                  try simp only [Act.put, List.setIfInBounds_toArray, List.set_cons_zero, List.set_cons_succ]
                  refine' wpAnyL_take (i := 8) (oi := ⟨some 31, _, _, _, _, _⟩) (v := _) rfl (by kernel_rfl) (by kernel_rfl) (by kernel_rfl) (by kernel_rfl) (fun _ _ _ h => h) hH0 (by rfl) ?hyv ?onw
                  case hyv =>
                    intro wz hSw
                    go_simp
                    try rfl
                  case onw =>
                    try simp only [Act.put, List.setIfInBounds_toArray, List.set_cons_zero, List.set_cons_succ]
                    refine' wpAnyL_take (i := 9) (oi := ⟨some 32, _, _, _, _, _⟩) (v := _) rfl (by kernel_rfl) (by kernel_rfl) (by kernel_rfl) (by kernel_rfl) (fun _ _ _ h => h) hH0 (by rfl) ?hyv ?onw
                    case hyv =>
                      intro wz hSw
                      have zc0 := (hSw.cell (p := ⟨w.heap.size, 0, none⟩) yP).trans p0
                      have zc1 := (hSw.cell (p := ⟨w.heap.size, 1, none⟩) yP).trans p1
                      have zc2 := (hSw.cell (p := ⟨w.heap.size, 2, none⟩) yP).trans p2
                      have zc3 := (hSw.cell (p := ⟨w.heap.size, 3, none⟩) yP).trans p3
                      have zc4 := (hSw.cell (p := ⟨mb, 4, none⟩) yr).trans r4
                      have zc5 := (hSw.cell (p := ⟨bu, ou + z, none⟩) yu1).trans CU
                      go_simp
                      try rfl
                    case onw =>
                      try simp only [Act.put, List.setIfInBounds_toArray, List.set_cons_zero, List.set_cons_succ]
                      refine' wpAnyL_take (i := 10) (oi := ⟨some 8, _, _, _, _, _⟩) (v := _) rfl (by kernel_rfl) (by kernel_rfl) (by kernel_rfl) (by kernel_rfl) (fun _ _ _ h => h) hH0 (by rfl) ?hyv ?onw
                      case hyv =>
                        intro wz hSw
                        go_simp
                        try rfl
                      case onw =>
                        try simp only [Act.put, List.setIfInBounds_toArray, List.set_cons_zero, List.set_cons_succ]
                        refine wpAnyL_done (by kernel_rfl) ?_ _
                        go_wp2
                        go_ret
                        exact ⟨rfl, b1.trans (hH0.mono b1.size)⟩
set_option maxHeartbeats 16000000 in
theorem madeBy8_any {w : World} {mb : Nat} {c : Int} {vP vG vS : Value} {aC : Option Addr} {nC cC : Nat} {okC : Nat → Prop} {M : List Int} (hm : w.heap[mb]? = some (.cells #[.int .i64 c, vP, vG, vS, .slice aC nC cC] 64 (0, 0))) (hC : HInts okC w (.slice aC nC cC) M) {ok : Nat → Prop} {tv : Value} {T : List Int} (ht : HInts ok w tv T) (hT : T.length = 2) (pk pn : Int) (v : Nat) (hl : (v : Int) + pn ≤ M.length) (k : Int) : Calls Tryd.prog 53 #[.pointer (some ⟨mb, 0, none⟩), .agg #[.int .i64 8, .int .i64 pk, .int .i64 (v : Int), .int .i64 pn], tv, .int .i64 k] w fun e w' => e = .returned (.int .i64 (if T.getD 0 0 < 0 ∨ pn ≤ T.getD 0 0 then T.getD 1 0 else Lo.rd M ((v : Int) + T.getD 0 0))) ∧ Below w.heap.size w w' := by
  obtain ⟨at_, ct, rfl, ht1, ht2, hatt⟩ := ht.at
  obtain ⟨bt, ot, rfl, yt, t0⟩ := hatt 0 (by omega)
  rw [Nat.add_zero] at t0
  obtain ⟨bt1, ot1, eqt, -, t1⟩ := hatt 1 (by omega)
  injection eqt with eqt
  injection eqt with eqt1 eqt2
  subst eqt1 eqt2
  have g0 : T.getD 0 0 = T[0] := by simp [List.getD_eq_getElem?_getD, show 0 < T.length by omega]
  rw [g0]
  have g1 : T.getD 1 0 = T[1] := by simp [List.getD_eq_getElem?_getD, show 1 < T.length by omega]
  rw [g1]
  have hT0 : 0 < T.length := by omega
  have hT1 : 1 < T.length := by omega
  generalize T[0] = x0 at t0 ⊢
  generalize T[1] = x1 at t1 ⊢
  unfold maxLen at ht2
  obtain ⟨tl, htl⟩ : ∃ tl, tl = T.length := ⟨_, rfl⟩
  rw [← htl] at ht1 hT0 hT1 ⊢
  clear ht hatt htl hT g0 g1
  have hTi1 : (1 : Int) < (tl : Int) := by omega
  have b1 : Below w.heap.size w (w.alloc (.cells #[.int .i64 8, .int .i64 pk, .int .i64 (v : Int), .int .i64 pn] 71 (0, 0))) := (Below.refl _ _).alloc (Nat.le_refl _) _
  have kP := heap_new w (.cells #[.int .i64 8, .int .i64 pk, .int .i64 (v : Int), .int .i64 pn] 71 (0, 0))
  have T0 := (b1.cell (p := ⟨bt, ot, none⟩) yt).trans t0
  have T1 := (b1.cell (p := ⟨bt, ot + 1, none⟩) yt).trans t1
  have yt1 := Nat.lt_of_lt_of_le yt b1.size
  clear yt t0 t1
  have kr := (b1.block _ (lt_of hm)).trans hm
  obtain ⟨au, cu, eau, hu1, hu2, hatu⟩ := hC.at
  injection eau with i1 i2 i3
  subst i1 i2 i3
  unfold maxLen at hu2
  obtain ⟨R, hR⟩ : ∃ R, R = (if x0 < 0 ∨ pn ≤ x0 then x1 else Lo.rd M ((v : Int) + x0)) := ⟨_, rfl⟩
  rw [← hR]
  by_cases h0 : x0 < 0
  case pos =>
    have HZ := hide (show R = x1 by rw [hR, if_pos (.inl h0)])
    clear hR hatu hm hC
    go_enter Tryd.func53, Tryd.ntmps53
    go_upto_region 1 with fail
    generalize w.alloc (.cells #[.int .i64 8, .int .i64 pk, .int .i64 (v : Int), .int .i64 pn] 71 (0, 0)) = w1 at b1 kP kr T0 T1 yt1 ⊢
    have p0 := cell_of kP 0
    have p1 := cell_of kP 1
    have p2 := cell_of kP 2
    have p3 := cell_of kP 3
    simp at p0 p1 p2 p3
    have yP := lt_of kP
    go_upto_region 17 with fail
    go_cut [83] (fun v wd => v = .bool true ∧ Below w1.heap.size w1 wd)
    case first =>
      refine wp_region_late (fun w' => Below w1.heap.size w1 w') (fun _ => false) (by kernel_rfl) ?_
      have hH0 : Below w1.heap.size w1 w1.drew := (Below.refl _ _).drew
      generalize w1.drew = wd0 at hH0 ⊢
      refine' wpAnyL_take (i := 0) (oi := ⟨some 72, _, _, _, _, _⟩) (v := _) rfl (by kernel_rfl) (by kernel_rfl) (by kernel_rfl) (by kernel_rfl) (fun _ _ _ h => h) hH0 (by rfl) ?hyv ?onw
      case hyv =>
        intro wz hSw
        go_simp
        try rfl
      case onw =>
        try simp only [Act.put, List.setIfInBounds_toArray, List.set_cons_zero, List.set_cons_succ]
        refine' wpAnyL_take (i := 1) (oi := ⟨some 73, _, _, _, _, _⟩) (v := _) rfl (by kernel_rfl) (by kernel_rfl) (by kernel_rfl) (by kernel_rfl) (fun _ _ _ h => h) hH0 (by rfl) ?hyv ?onw
        case hyv =>
          intro wz hSw
          go_simp
          try rfl
        case onw =>
          try simp only [Act.put, List.setIfInBounds_toArray, List.set_cons_zero, List.set_cons_succ]
          refine' wpAnyL_take (i := 2) (oi := ⟨some 74, _, _, _, _, _⟩) (v := _) rfl (by kernel_rfl) (by kernel_rfl) (by kernel_rfl) (by kernel_rfl) (fun _ _ _ h => h) hH0 (by rfl) ?hyv ?onw
          case hyv =>
            intro wz hSw
            have zc0 := (hSw.cell (p := ⟨w.heap.size, 0, none⟩) yP).trans p0
            have zc1 := (hSw.cell (p := ⟨w.heap.size, 1, none⟩) yP).trans p1
            have zc2 := (hSw.cell (p := ⟨w.heap.size, 2, none⟩) yP).trans p2
            have zc3 := (hSw.cell (p := ⟨w.heap.size, 3, none⟩) yP).trans p3
            have zc4 := (hSw.cell (p := ⟨bt, ot, none⟩) yt1).trans T0
            go_simp
            try rfl
          case onw =>
            try simp only [Act.put, List.setIfInBounds_toArray, List.set_cons_zero, List.set_cons_succ]
            refine' wpAnyL_take (i := 3) (oi := ⟨some 75, _, _, _, _, _⟩) (v := .bool true) rfl (by kernel_rfl) (by kernel_rfl) (by kernel_rfl) (by kernel_rfl) (fun _ _ _ h => h) hH0 (by rfl) ?hyv ?onw
            case hyv =>
              intro wz hSw
              go_simp
              try rfl
            case onw =>
              try simp only [Act.put, List.setIfInBounds_toArray, List.set_cons_zero, List.set_cons_succ]
              refine' wpAnyL_take (i := 4) (oi := ⟨some 76, _, _, _, _, _⟩) (v := _) rfl (by kernel_rfl) (by kernel_rfl) (by kernel_rfl) (by kernel_rfl) (fun _ _ _ h => h) hH0 (by rfl) ?hyv ?onw
              case hyv =>
                intro wz hSw
                go_simp
                try rfl
              case onw =>
                try simp only [Act.put, List.setIfInBounds_toArray, List.set_cons_zero, List.set_cons_succ]
                refine wpAnyL_skip (i := 5) (oi := ⟨some 77, _, _, _, _, _⟩) rfl (by kernel_rfl) (by kernel_rfl) (by kernel_rfl) (by kernel_rfl) (fun _ _ _ h => h) hH0 (by rfl) ?_
                try simp only [Act.put, List.setIfInBounds_toArray, List.set_cons_zero, List.set_cons_succ]
                refine wpAnyL_skip (i := 6) (oi := ⟨some 78, _, _, _, _, _⟩) rfl (by kernel_rfl) (by kernel_rfl) (by kernel_rfl) (by kernel_rfl) (fun _ _ _ h => h) hH0 (by rfl) ?_
                try simp only [Act.put, List.setIfInBounds_toArray, List.set_cons_zero, List.set_cons_succ]
                refine wpAnyL_skip (i := 7) (oi := ⟨some 79, _, _, _, _, _⟩) rfl (by kernel_rfl) (by kernel_rfl) (by kernel_rfl) (by kernel_rfl) (fun _ _ _ h => h) hH0 (by rfl) ?_
                try simp only [Act.put, List.setIfInBounds_toArray, List.set_cons_zero, List.set_cons_succ]
                refine wpAnyL_skip (i := 8) (oi := ⟨some 80, _, _, _, _, _⟩) rfl (by kernel_rfl) (by kernel_rfl) (by kernel_rfl) (by kernel_rfl) (fun _ _ _ h => h) hH0 (by rfl) ?_
                try simp only [Act.put, List.setIfInBounds_toArray, List.set_cons_zero, List.set_cons_succ]
                refine wpAnyL_skip (i := 9) (oi := ⟨some 81, _, _, _, _, _⟩) rfl (by kernel_rfl) (by kernel_rfl) (by kernel_rfl) (by kernel_rfl) (fun _ _ _ h => h) hH0 (by rfl) ?_
                try simp only [Act.put, List.setIfInBounds_toArray, List.set_cons_zero, List.set_cons_succ]
                refine wpAnyL_skip (i := 10) (oi := ⟨some 82, _, _, _, _, _⟩) rfl (by kernel_rfl) (by kernel_rfl) (by kernel_rfl) (by kernel_rfl) (fun _ _ _ h => h) hH0 (by rfl) ?_
                try simp only [Act.put, List.setIfInBounds_toArray, List.set_cons_zero, List.set_cons_succ]
                refine' wpAnyL_take (i := 11) (oi := ⟨some 83, _, _, _, _, _⟩) (v := _) rfl (by kernel_rfl) (by kernel_rfl) (by kernel_rfl) (by kernel_rfl) (fun _ _ _ h => h) hH0 (by rfl) ?hyv ?onw
                case hyv =>
                  intro wz hSw
                  go_simp
                  try rfl
                case onw =>
                  try simp only [Act.put, List.setIfInBounds_toArray, List.set_cons_zero, List.set_cons_succ]
                  refine wpAnyL_done (by kernel_rfl) ?_ _
                  go_wp2_with fail
                  go_meet
                  case rel => exact ⟨by simp [*], hH0⟩
    case rest =>
      obtain ⟨rfl, bc⟩ := hcut
      have T1c := (bc.cell (p := ⟨bt, ot + 1, none⟩) yt1).trans T1
      clear T0 T1 p0 p1 p2 p3 kr kP
      go_wp2
      go_ret
      exact ⟨by rw [HZ.out]; rfl, b1.trans (bc.mono b1.size)⟩
  by_cases h1 : pn ≤ x0
  case pos =>
    have HZ := hide (show R = x1 by rw [hR, if_pos (.inr h1)])
    clear hR hatu hm hC
    go_enter Tryd.func53, Tryd.ntmps53
    go_upto_region 1 with fail
    generalize w.alloc (.cells #[.int .i64 8, .int .i64 pk, .int .i64 (v : Int), .int .i64 pn] 71 (0, 0)) = w1 at b1 kP kr T0 T1 yt1 ⊢
    have p0 := cell_of kP 0
    have p1 := cell_of kP 1
    have p2 := cell_of kP 2
    have p3 := cell_of kP 3
    simp at p0 p1 p2 p3
    have yP := lt_of kP
    go_upto_region 17 with fail
    go_cut [83] (fun v wd => v = .bool true ∧ Below w1.heap.size w1 wd)
    case first =>
      refine wp_region_late (fun w' => Below w1.heap.size w1 w') (fun _ => false) (by kernel_rfl) ?_
      have hH0 : Below w1.heap.size w1 w1.drew := (Below.refl _ _).drew
      generalize w1.drew = wd0 at hH0 ⊢
      refine' wpAnyL_take (i := 0) (oi := ⟨some 72, _, _, _, _, _⟩) (v := _) rfl (by kernel_rfl) (by kernel_rfl) (by kernel_rfl) (by kernel_rfl) (fun _ _ _ h => h) hH0 (by rfl) ?hyv ?onw
      case hyv =>
        intro wz hSw
        go_simp
        try rfl
      case onw =>
        try simp only [Act.put, List.setIfInBounds_toArray, List.set_cons_zero, List.set_cons_succ]
        refine' wpAnyL_take (i := 1) (oi := ⟨some 73, _, _, _, _, _⟩) (v := _) rfl (by kernel_rfl) (by kernel_rfl) (by kernel_rfl) (by kernel_rfl) (fun _ _ _ h => h) hH0 (by rfl) ?hyv ?onw
        case hyv =>
          intro wz hSw
          go_simp
          try rfl
        case onw =>
          try simp only [Act.put, List.setIfInBounds_toArray, List.set_cons_zero, List.set_cons_succ]
          refine' wpAnyL_take (i := 2) (oi := ⟨some 74, _, _, _, _, _⟩) (v := _) rfl (by kernel_rfl) (by kernel_rfl) (by kernel_rfl) (by kernel_rfl) (fun _ _ _ h => h) hH0 (by rfl) ?hyv ?onw
          case hyv =>
            intro wz hSw
            have zc0 := (hSw.cell (p := ⟨w.heap.size, 0, none⟩) yP).trans p0
            have zc1 := (hSw.cell (p := ⟨w.heap.size, 1, none⟩) yP).trans p1
            have zc2 := (hSw.cell (p := ⟨w.heap.size, 2, none⟩) yP).trans p2
            have zc3 := (hSw.cell (p := ⟨w.heap.size, 3, none⟩) yP).trans p3
            have zc4 := (hSw.cell (p := ⟨bt, ot, none⟩) yt1).trans T0
            go_simp
            try rfl
          case onw =>
            try simp only [Act.put, List.setIfInBounds_toArray, List.set_cons_zero, List.set_cons_succ]
            refine' wpAnyL_take (i := 3) (oi := ⟨some 75, _, _, _, _, _⟩) (v := .bool false) rfl (by kernel_rfl) (by kernel_rfl) (by kernel_rfl) (by kernel_rfl) (fun _ _ _ h => h) hH0 (by rfl) ?hyv ?onw
            case hyv =>
              intro wz hSw
              go_simp
              try rfl
            case onw =>
              try simp only [Act.put, List.setIfInBounds_toArray, List.set_cons_zero, List.set_cons_succ]
              refine' wpAnyL_take (i := 4) (oi := ⟨some 76, _, _, _, _, _⟩) (v := _) rfl (by kernel_rfl) (by kernel_rfl) (by kernel_rfl) (by kernel_rfl) (fun _ _ _ h => h) hH0 (by rfl) ?hyv ?onw
              case hyv =>
                intro wz hSw
                go_simp
                try rfl
              case onw =>
                try simp only [Act.put, List.setIfInBounds_toArray, List.set_cons_zero, List.set_cons_succ]
                refine' wpAnyL_take (i := 5) (oi := ⟨some 77, _, _, _, _, _⟩) (v := _) rfl (by kernel_rfl) (by kernel_rfl) (by kernel_rfl) (by kernel_rfl) (fun _ _ _ h => h) hH0 (by rfl) ?hyv ?onw
                case hyv =>
                  intro wz hSw
                  go_simp
                  try rfl
                case onw =>
                  try simp only [Act.put, List.setIfInBounds_toArray, List.set_cons_zero, List.set_cons_succ]
                  refine' wpAnyL_take (i := 6) (oi := ⟨some 78, _, _, _, _, _⟩) (v := _) rfl (by kernel_rfl) (by kernel_rfl) (by kernel_rfl) (by kernel_rfl) (fun _ _ _ h => h) hH0 (by rfl) ?hyv ?onw
                  case hyv =>
                    intro wz hSw
                    go_simp
                    try rfl
                  case onw =>
                    try simp only [Act.put, List.setIfInBounds_toArray, List.set_cons_zero, List.set_cons_succ]
                    refine' wpAnyL_take (i := 7) (oi := ⟨some 79, _, _, _, _, _⟩) (v := _) rfl (by kernel_rfl) (by kernel_rfl) (by kernel_rfl) (by kernel_rfl) (fun _ _ _ h => h) hH0 (by rfl) ?hyv ?onw
                    case hyv =>
                      intro wz hSw
                      have zc0 := (hSw.cell (p := ⟨w.heap.size, 0, none⟩) yP).trans p0
                      have zc1 := (hSw.cell (p := ⟨w.heap.size, 1, none⟩) yP).trans p1
                      have zc2 := (hSw.cell (p := ⟨w.heap.size, 2, none⟩) yP).trans p2
                      have zc3 := (hSw.cell (p := ⟨w.heap.size, 3, none⟩) yP).trans p3
                      have zc4 := (hSw.cell (p := ⟨bt, ot, none⟩) yt1).trans T0
                      go_simp
                      try rfl
                    case onw =>
                      try simp only [Act.put, List.setIfInBounds_toArray, List.set_cons_zero, List.set_cons_succ]
                      refine' wpAnyL_take (i := 8) (oi := ⟨some 80, _, _, _, _, _⟩) (v := _) rfl (by kernel_rfl) (by kernel_rfl) (by kernel_rfl) (by kernel_rfl) (fun _ _ _ h => h) hH0 (by rfl) ?hyv ?onw
                      case hyv =>
                        intro wz hSw
                        go_simp
                        try rfl
                      case onw =>
                        try simp only [Act.put, List.setIfInBounds_toArray, List.set_cons_zero, List.set_cons_succ]
                        refine' wpAnyL_take (i := 9) (oi := ⟨some 81, _, _, _, _, _⟩) (v := _) rfl (by kernel_rfl) (by kernel_rfl) (by kernel_rfl) (by kernel_rfl) (fun _ _ _ h => h) hH0 (by rfl) ?hyv ?onw
                        case hyv =>
                          intro wz hSw
                          have zc0 := (hSw.cell (p := ⟨w.heap.size, 0, none⟩) yP).trans p0
                          have zc1 := (hSw.cell (p := ⟨w.heap.size, 1, none⟩) yP).trans p1
                          have zc2 := (hSw.cell (p := ⟨w.heap.size, 2, none⟩) yP).trans p2
                          have zc3 := (hSw.cell (p := ⟨w.heap.size, 3, none⟩) yP).trans p3
                          have zc4 := (hSw.cell (p := ⟨bt, ot, none⟩) yt1).trans T0
                          go_simp
                          try rfl
                        case onw =>
                          try simp only [Act.put, List.setIfInBounds_toArray, List.set_cons_zero, List.set_cons_succ]
                          refine' wpAnyL_take (i := 10) (oi := ⟨some 82, _, _, _, _, _⟩) (v := .bool true) rfl (by kernel_rfl) (by kernel_rfl) (by kernel_rfl) (by kernel_rfl) (fun _ _ _ h => h) hH0 (by rfl) ?hyv ?onw
                          case hyv =>
                            intro wz hSw
                            go_simp
                            try rfl
                          case onw =>
                            try simp only [Act.put, List.setIfInBounds_toArray, List.set_cons_zero, List.set_cons_succ]
                            refine' wpAnyL_take (i := 11) (oi := ⟨some 83, _, _, _, _, _⟩) (v := _) rfl (by kernel_rfl) (by kernel_rfl) (by kernel_rfl) (by kernel_rfl) (fun _ _ _ h => h) hH0 (by rfl) ?hyv ?onw
                            case hyv =>
                              intro wz hSw
                              go_simp
                              try rfl
                            case onw =>
                              try simp only [Act.put, List.setIfInBounds_toArray, List.set_cons_zero, List.set_cons_succ]
                              refine wpAnyL_done (by kernel_rfl) ?_ _
                              go_wp2_with fail
                              go_meet
                              case rel => exact ⟨by simp [*], hH0⟩
    case rest =>
      obtain ⟨rfl, bc⟩ := hcut
      have T1c := (bc.cell (p := ⟨bt, ot + 1, none⟩) yt1).trans T1
      clear T0 T1 p0 p1 p2 p3 kr kP
      go_wp2
      go_ret
      exact ⟨by rw [HZ.out]; rfl, b1.trans (bc.mono b1.size)⟩
  obtain ⟨z, hz⟩ : ∃ z : Nat, (z : Int) = (v : Int) + x0 := ⟨((v : Int) + x0).toNat, by omega⟩
  have hzl : z < M.length := by omega
  obtain ⟨bu, ou, rfl, yu, cu0⟩ := hatu z hzl
  have hd : Lo.rd M ((v : Int) + x0) = M[z] := by
    unfold Lo.rd
    rw [← hz, Int.toNat_natCast, List.getD_eq_getElem?_getD, List.getElem?_eq_getElem hzl]
    rfl
  have HZ := hide (show R = M[z] by rw [hR, if_neg (by omega), hd])
  clear hd hR
  generalize M[z] = y at cu0 HZ
  have HW : Hid (IntKind.i64.wrap ((v : Int) + x0) = (z : Int)) := hide (by
    have hI : I64 ((v : Int) + x0) := by unfold I64; omega
    have h2 : IntKind.i64.wrap ((v : Int) + x0) = (v : Int) + x0 := i64_in _ hI
    exact h2.trans hz.symm)
  have CU := (b1.cell (p := ⟨bu, ou + z, none⟩) yu).trans cu0
  have yu1 := Nat.lt_of_lt_of_le yu b1.size
  obtain ⟨LU, hLU⟩ : ∃ LU, LU = M.length := ⟨_, rfl⟩
  rw [← hLU] at hu1 hzl hl kr
  clear hm hC hatu hLU cu0 yu hz hl
  go_enter Tryd.func53, Tryd.ntmps53
  go_upto_region 1 with fail
  generalize w.alloc (.cells #[.int .i64 8, .int .i64 pk, .int .i64 (v : Int), .int .i64 pn] 71 (0, 0)) = w1 at b1 kP kr CU yu1 T0 T1 yt1 ⊢
  have p0 := cell_of kP 0
  have p1 := cell_of kP 1
  have p2 := cell_of kP 2
  have p3 := cell_of kP 3
  simp at p0 p1 p2 p3
  have yP := lt_of kP
  go_upto_region 17 with fail
  go_cut [83] (fun v wd => v = .bool false ∧ Below w1.heap.size w1 wd)
  case first =>
    refine wp_region_late (fun w' => Below w1.heap.size w1 w') (fun _ => false) (by kernel_rfl) ?_
    have hH0 : Below w1.heap.size w1 w1.drew := (Below.refl _ _).drew
    generalize w1.drew = wd0 at hH0 ⊢
    refine' wpAnyL_take (i := 0) (oi := ⟨some 72, _, _, _, _, _⟩) (v := _) rfl (by kernel_rfl) (by kernel_rfl) (by kernel_rfl) (by kernel_rfl) (fun _ _ _ h => h) hH0 (by rfl) ?hyv ?onw
    case hyv =>
      intro wz hSw
      go_simp
      try rfl
    case onw =>
      try simp only [Act.put, List.setIfInBounds_toArray, List.set_cons_zero, List.set_cons_succ]
      refine' wpAnyL_take (i := 1) (oi := ⟨some 73, _, _, _, _, _⟩) (v := _) rfl (by kernel_rfl) (by kernel_rfl) (by kernel_rfl) (by kernel_rfl) (fun _ _ _ h => h) hH0 (by rfl) ?hyv ?onw
      case hyv =>
        intro wz hSw
        go_simp
        try rfl
      case onw =>
        try simp only [Act.put, List.setIfInBounds_toArray, List.set_cons_zero, List.set_cons_succ]
        refine' wpAnyL_take (i := 2) (oi := ⟨some 74, _, _, _, _, _⟩) (v := _) rfl (by kernel_rfl) (by kernel_rfl) (by kernel_rfl) (by kernel_rfl) (fun _ _ _ h => h) hH0 (by rfl) ?hyv ?onw
        case hyv =>
          intro wz hSw
          have zc0 := (hSw.cell (p := ⟨w.heap.size, 0, none⟩) yP).trans p0
          have zc1 := (hSw.cell (p := ⟨w.heap.size, 1, none⟩) yP).trans p1
          have zc2 := (hSw.cell (p := ⟨w.heap.size, 2, none⟩) yP).trans p2
          have zc3 := (hSw.cell (p := ⟨w.heap.size, 3, none⟩) yP).trans p3
          have zc4 := (hSw.cell (p := ⟨bt, ot, none⟩) yt1).trans T0
          go_simp
          try rfl
        case onw =>
          try simp only [Act.put, List.setIfInBounds_toArray, List.set_cons_zero, List.set_cons_succ]
          refine' wpAnyL_take (i := 3) (oi := ⟨some 75, _, _, _, _, _⟩) (v := .bool false) rfl (by kernel_rfl) (by kernel_rfl) (by kernel_rfl) (by kernel_rfl) (fun _ _ _ h => h) hH0 (by rfl) ?hyv ?onw
          case hyv =>
            intro wz hSw
            go_simp
            try rfl
          case onw =>
            try simp only [Act.put, List.setIfInBounds_toArray, List.set_cons_zero, List.set_cons_succ]
            refine' wpAnyL_take (i := 4) (oi := ⟨some 76, _, _, _, _, _⟩) (v := _) rfl (by kernel_rfl) (by kernel_rfl) (by kernel_rfl) (by kernel_rfl) (fun _ _ _ h => h) hH0 (by rfl) ?hyv ?onw
            case hyv =>
              intro wz hSw
              go_simp
              try rfl
            case onw =>
              try simp only [Act.put, List.setIfInBounds_toArray, List.set_cons_zero, List.set_cons_succ]
              refine' wpAnyL_take (i := 5) (oi := ⟨some 77, _, _, _, _, _⟩) (v := _) rfl (by kernel_rfl) (by kernel_rfl) (by kernel_rfl) (by kernel_rfl) (fun _ _ _ h => h) hH0 (by rfl) ?hyv ?onw
              case hyv =>
                intro wz hSw
                go_simp
                try rfl
              case onw =>
                try simp only [Act.put, List.setIfInBounds_toArray, List.set_cons_zero, List.set_cons_succ]
                refine' wpAnyL_take (i := 6) (oi := ⟨some 78, _, _, _, _, _⟩) (v := _) rfl (by kernel_rfl) (by kernel_rfl) (by kernel_rfl) (by kernel_rfl) (fun _ _ _ h => h) hH0 (by rfl) ?hyv ?onw
                case hyv =>
                  intro wz hSw
                  go_simp
                  try rfl
                case onw =>
                  try simp only [Act.put, List.setIfInBounds_toArray, List.set_cons_zero, List.set_cons_succ]
                  refine' wpAnyL_take (i := 7) (oi := ⟨some 79, _, _, _, _, _⟩) (v := _) rfl (by kernel_rfl) (by kernel_rfl) (by kernel_rfl) (by kernel_rfl) (fun _ _ _ h => h) hH0 (by rfl) ?hyv ?onw
                  case hyv =>
                    intro wz hSw
                    have zc0 := (hSw.cell (p := ⟨w.heap.size, 0, none⟩) yP).trans p0
                    have zc1 := (hSw.cell (p := ⟨w.heap.size, 1, none⟩) yP).trans p1
                    have zc2 := (hSw.cell (p := ⟨w.heap.size, 2, none⟩) yP).trans p2
                    have zc3 := (hSw.cell (p := ⟨w.heap.size, 3, none⟩) yP).trans p3
                    have zc4 := (hSw.cell (p := ⟨bt, ot, none⟩) yt1).trans T0
                    go_simp
                    try rfl
                  case onw =>
                    try simp only [Act.put, List.setIfInBounds_toArray, List.set_cons_zero, List.set_cons_succ]
                    refine' wpAnyL_take (i := 8) (oi := ⟨some 80, _, _, _, _, _⟩) (v := _) rfl (by kernel_rfl) (by kernel_rfl) (by kernel_rfl) (by kernel_rfl) (fun _ _ _ h => h) hH0 (by rfl) ?hyv ?onw
                    case hyv =>
                      intro wz hSw
                      go_simp
                      try rfl
                    case onw =>
                      try simp only [Act.put, List.setIfInBounds_toArray, List.set_cons_zero, List.set_cons_succ]
                      refine' wpAnyL_take (i := 9) (oi := ⟨some 81, _, _, _, _, _⟩) (v := _) rfl (by kernel_rfl) (by kernel_rfl) (by kernel_rfl) (by kernel_rfl) (fun _ _ _ h => h) hH0 (by rfl) ?hyv ?onw
                      case hyv =>
                        intro wz hSw
                        have zc0 := (hSw.cell (p := ⟨w.heap.size, 0, none⟩) yP).trans p0
                        have zc1 := (hSw.cell (p := ⟨w.heap.size, 1, none⟩) yP).trans p1
                        have zc2 := (hSw.cell (p := ⟨w.heap.size, 2, none⟩) yP).trans p2
                        have zc3 := (hSw.cell (p := ⟨w.heap.size, 3, none⟩) yP).trans p3
                        have zc4 := (hSw.cell (p := ⟨bt, ot, none⟩) yt1).trans T0
                        go_simp
                        try rfl
                      case onw =>
                        try simp only [Act.put, List.setIfInBounds_toArray, List.set_cons_zero, List.set_cons_succ]
                        refine' wpAnyL_take (i := 10) (oi := ⟨some 82, _, _, _, _, _⟩) (v := .bool false) rfl (by kernel_rfl) (by kernel_rfl) (by kernel_rfl) (by kernel_rfl) (fun _ _ _ h => h) hH0 (by rfl) ?hyv ?onw
                        case hyv =>
                          intro wz hSw
                          go_simp
                          try rfl
                        case onw =>
                          try simp only [Act.put, List.setIfInBounds_toArray, List.set_cons_zero, List.set_cons_succ]
                          refine' wpAnyL_take (i := 11) (oi := ⟨some 83, _, _, _, _, _⟩) (v := _) rfl (by kernel_rfl) (by kernel_rfl) (by kernel_rfl) (by kernel_rfl) (fun _ _ _ h => h) hH0 (by rfl) ?hyv ?onw
                          case hyv =>
                            intro wz hSw
                            go_simp
                            try rfl
                          case onw =>
                            try simp only [Act.put, List.setIfInBounds_toArray, List.set_cons_zero, List.set_cons_succ]
                            refine wpAnyL_done (by kernel_rfl) ?_ _
                            go_wp2_with fail
                            go_meet
                            case rel => exact ⟨by simp [*], hH0⟩
  case rest =>
    obtain ⟨rfl, bc⟩ := hcut
    have T0c := (bc.cell (p := ⟨bt, ot, none⟩) yt1).trans T0
    have CUc := (bc.cell (p := ⟨bu, ou + z, none⟩) yu1).trans CU
    have kPc := (bc.block _ yP).trans kP
    have krc := (bc.block _ (lt_of kr)).trans kr
    clear T0 T1 CU p0 p1 p2 p3
    have p2 := cell_of kPc 2
    have r4 := cell_of krc 4
    simp at p2 r4
    have yr := lt_of krc
    have yPc := lt_of kPc
    have ytc := Nat.lt_of_lt_of_le yt1 bc.size
    have yuc := Nat.lt_of_lt_of_le yu1 bc.size
    have Bc := b1.trans (bc.mono b1.size)
    go_upto_region 19 with fail
    refine wp_region_late (fun w' => Below wc.heap.size wc w') (fun _ => false) (by kernel_rfl) ?_
    have hH0 : Below wc.heap.size wc wc.drew := (Below.refl _ _).drew
    generalize wc.drew = wd0 at hH0 ⊢
    refine' wpAnyL_take (i := 0) (oi := ⟨some 87, _, _, _, _, _⟩) (v := _) rfl (by kernel_rfl) (by kernel_rfl) (by kernel_rfl) (by kernel_rfl) (fun _ _ _ h => h) hH0 (by rfl) ?hyv ?onw
    case hyv =>
      intro wz hSw
      go_simp
      try rfl
    case onw =>
      try simp only [Act.put, List.setIfInBounds_toArray, List.set_cons_zero, List.set_cons_succ]
      refine' wpAnyL_take (i := 1) (oi := ⟨some 88, _, _, _, _, _⟩) (v := _) rfl (by kernel_rfl) (by kernel_rfl) (by kernel_rfl) (by kernel_rfl) (fun _ _ _ h => h) hH0 (by rfl) ?hyv ?onw
      case hyv =>
        intro wz hSw
        go_simp
        try rfl
      case onw =>
        try simp only [Act.put, List.setIfInBounds_toArray, List.set_cons_zero, List.set_cons_succ]
        refine' wpAnyL_take (i := 2) (oi := ⟨some 89, _, _, _, _, _⟩) (v := _) rfl (by kernel_rfl) (by kernel_rfl) (by kernel_rfl) (by kernel_rfl) (fun _ _ _ h => h) hH0 (by rfl) ?hyv ?onw
        case hyv =>
          intro wz hSw
          go_simp
          try rfl
        case onw =>
          try simp only [Act.put, List.setIfInBounds_toArray, List.set_cons_zero, List.set_cons_succ]
          refine' wpAnyL_take (i := 3) (oi := ⟨some 90, _, _, _, _, _⟩) (v := _) rfl (by kernel_rfl) (by kernel_rfl) (by kernel_rfl) (by kernel_rfl) (fun _ _ _ h => h) hH0 (by rfl) ?hyv ?onw
          case hyv =>
            intro wz hSw
            have zc0 := (hSw.cell (p := ⟨w.heap.size, 2, none⟩) yPc).trans p2
            have zc1 := (hSw.cell (p := ⟨mb, 4, none⟩) yr).trans r4
            have zc2 := (hSw.cell (p := ⟨bt, ot, none⟩) ytc).trans T0c
            have zc3 := (hSw.cell (p := ⟨bu, ou + z, none⟩) yuc).trans CUc
            go_simp
            try rfl
          case onw =>
            try simp only [Act.put, List.setIfInBounds_toArray, List.set_cons_zero, List.set_cons_succ]
            refine' wpAnyL_take (i := 4) (oi := ⟨some 91, _, _, _, _, _⟩) (v := _) rfl (by kernel_rfl) (by kernel_rfl) (by kernel_rfl) (by kernel_rfl) (fun _ _ _ h => h) hH0 (by rfl) ?hyv ?onw
            case hyv =>
              intro wz hSw
              go_simp
              try rfl
            case onw =>
              try simp only [Act.put, List.setIfInBounds_toArray, List.set_cons_zero, List.set_cons_succ]
              refine' wpAnyL_take (i := 5) (oi := ⟨some 92, _, _, _, _, _⟩) (v := _) rfl (by kernel_rfl) (by kernel_rfl) (by kernel_rfl) (by kernel_rfl) (fun _ _ _ h => h) hH0 (by rfl) ?hyv ?onw
              case hyv =>
                intro wz hSw
                have zc0 := (hSw.cell (p := ⟨w.heap.size, 2, none⟩) yPc).trans p2
                have zc1 := (hSw.cell (p := ⟨mb, 4, none⟩) yr).trans r4
                have zc2 := (hSw.cell (p := ⟨bt, ot, none⟩) ytc).trans T0c
                have zc3 := (hSw.cell (p := ⟨bu, ou + z, none⟩) yuc).trans CUc
                go_simp
                try rfl
              case onw =>
                try simp only [Act.put, List.setIfInBounds_toArray, List.set_cons_zero, List.set_cons_succ]
                refine' wpAnyL_take (i := 6) (oi := ⟨some 93, _, _, _, _, _⟩) (v := _) rfl (by kernel_rfl) (by kernel_rfl) (by kernel_rfl) (by kernel_rfl) (fun _ _ _ h => h) hH0 (by rfl) ?hyv ?onw
                case hyv =>
                  intro wz hSw
                  go_simp
                  try rfl
                case onw =>
                  try simp only [Act.put, List.setIfInBounds_toArray, List.set_cons_zero, List.set_cons_succ]
                  refine' wpAnyL_take (i := 7) (oi := ⟨some 94, _, _, _, _, _⟩) (v := _) rfl (by kernel_rfl) (by kernel_rfl) (by kernel_rfl) (by kernel_rfl) (fun _ _ _ h => h) hH0 (by rfl) ?hyv ?onw
                  case hyv =>
                    intro wz hSw
                    go_simp
                    try rfl
                  case onw =>
                    try simp only [Act.put, List.setIfInBounds_toArray, List.set_cons_zero, List.set_cons_succ]
                    refine' wpAnyL_take (i := 8) (oi := ⟨some 95, _, _, _, _, _⟩) (v := _) rfl (by kernel_rfl) (by kernel_rfl) (by kernel_rfl) (by kernel_rfl) (fun _ _ _ h => h) hH0 (by rfl) ?hyv ?onw
                    case hyv =>
                      intro wz hSw
                      have zc0 := (hSw.cell (p := ⟨w.heap.size, 2, none⟩) yPc).trans p2
                      have zc1 := (hSw.cell (p := ⟨mb, 4, none⟩) yr).trans r4
                      have zc2 := (hSw.cell (p := ⟨bt, ot, none⟩) ytc).trans T0c
                      have zc3 := (hSw.cell (p := ⟨bu, ou + z, none⟩) yuc).trans CUc
                      go_simp
                      try rfl
                    case onw =>
                      try simp only [Act.put, List.setIfInBounds_toArray, List.set_cons_zero, List.set_cons_succ]
                      refine' wpAnyL_take (i := 9) (oi := ⟨some 96, _, _, _, _, _⟩) (v := .int .i64 (z : Int)) rfl (by kernel_rfl) (by kernel_rfl) (by kernel_rfl) (by kernel_rfl) (fun _ _ _ h => h) hH0 (by rfl) ?hyv ?onw
                      case hyv =>
                        intro wz hSw
                        go_simp
                        rw [HW.out]
                      case onw =>
                        try simp only [Act.put, List.setIfInBounds_toArray, List.set_cons_zero, List.set_cons_succ]
                        refine' wpAnyL_take (i := 10) (oi := ⟨some 97, _, _, _, _, _⟩) (v := _) rfl (by kernel_rfl) (by kernel_rfl) (by kernel_rfl) (by kernel_rfl) (fun _ _ _ h => h) hH0 (by rfl) ?hyv ?onw
                        case hyv =>
                          intro wz hSw
                          go_simp
                          try rfl
                        case onw =>
                          try simp only [Act.put, List.setIfInBounds_toArray, List.set_cons_zero, List.set_cons_succ]
                          refine' wpAnyL_take (i := 11) (oi := ⟨some 98, _, _, _, _, _⟩) (v := _) rfl (by kernel_rfl) (by kernel_rfl) (by kernel_rfl) (by kernel_rfl) (fun _ _ _ h => h) hH0 (by rfl) ?hyv ?onw
                          case hyv =>
                            intro wz hSw
                            have zc0 := (hSw.cell (p := ⟨w.heap.size, 2, none⟩) yPc).trans p2
                            have zc1 := (hSw.cell (p := ⟨mb, 4, none⟩) yr).trans r4
                            have zc2 := (hSw.cell (p := ⟨bt, ot, none⟩) ytc).trans T0c
                            have zc3 := (hSw.cell (p := ⟨bu, ou + z, none⟩) yuc).trans CUc
                            go_simp
                            try rfl
                          case onw =>
                            try simp only [Act.put, List.setIfInBounds_toArray, List.set_cons_zero, List.set_cons_succ]
                            refine' wpAnyL_take (i := 12) (oi := ⟨some 8, _, _, _, _, _⟩) (v := _) rfl (by kernel_rfl) (by kernel_rfl) (by kernel_rfl) (by kernel_rfl) (fun _ _ _ h => h) hH0 (by rfl) ?hyv ?onw
                            case hyv =>
                              intro wz hSw
                              go_simp
                              try rfl
                            case onw =>
                              try simp only [Act.put, List.setIfInBounds_toArray, List.set_cons_zero, List.set_cons_succ]
                              refine wpAnyL_done (by kernel_rfl) ?_ _
                              go_wp2
                              go_ret
                              exact ⟨by rw [HZ.out]; rfl, Bc.trans (hH0.mono Bc.size)⟩
theorem madeBy53_any {w : World} {mb : Nat} {c : Int} {vP vG vS : Value} {aC : Option Addr} {nC cC : Nat} {okC : Nat → Prop} {M : List Int} (hm : w.heap[mb]? = some (.cells #[.int .i64 c, vP, vG, vS, .slice aC nC cC] 64 (0, 0))) (hC : HInts okC w (.slice aC nC cC) M) {ok : Nat → Prop} {tv : Value} {T : List Int} (ht : HInts ok w tv T) (p : Pu) (hT : (T.length : Int) = Lo.tk p.op) (n0 : Int) (hf : Lo.pushOK c n0 p = true) (hML : (M.length : Int) = c) (k : Nat) (hk : (k : Int) < n0) (hn : n0 ≤ 300) : Calls Tryd.prog 53 #[.pointer (some ⟨mb, 0, none⟩), .agg #[.int .i64 p.op, .int .i64 p.k, .int .i64 p.v, .int .i64 p.n], tv, .int .i64 (k : Int)] w fun e w' => e = .returned (.int .i64 (Lo.stepV M p T (k : Int))) ∧ Below w.heap.size w w' := by
  obtain ⟨po, pk, v, pn⟩ := p
  dsimp only at hT hf ⊢
  unfold Lo.stepV
  unfold Lo.pushOK at hf
  dsimp only at hf ⊢
  by_cases h2 : po = 2
  · subst h2
    rw [if_neg (by decide), if_pos rfl] at hf
    unfold Lo.hasN at hf
    simp at hf
    obtain ⟨q, rfl⟩ : ∃ q : Nat, v = (q : Int) := ⟨v.toNat, by omega⟩
    rw [if_pos rfl]
    exact madeBy2_any hm hC pk pn q tv (k : Int) (by omega)
  by_cases h3 : po = 3
  · subst h3
    rw [if_neg (by decide), if_neg (by decide), if_pos rfl] at hf
    unfold Lo.hasN at hf
    simp at hf
    obtain ⟨q, rfl⟩ : ∃ q : Nat, v = (q : Int) := ⟨v.toNat, by omega⟩
    rw [if_neg (by decide), if_pos rfl]
    exact madeBy3_any hm hC pk pn q tv k (by omega)
  by_cases h4 : po = 4
  · subst h4
    rw [if_neg (by decide), if_neg (by decide), if_pos rfl]
    exact madeBy4_any pk v pn tv k
  by_cases h5 : po = 5
  · subst h5
    rw [if_neg (by decide), if_neg (by decide), if_neg (by decide), if_pos rfl]
    exact madeBy5_any ht (by have : Lo.tk 5 = 1 := rfl; omega) pk v pn k
  by_cases h6 : po = 6
  · subst h6
    rw [if_neg (by decide), if_neg (by decide), if_neg (by decide), if_neg (by decide), if_pos rfl]
    exact madeBy6_any ht (by have : Lo.tk 6 = 2 := rfl; omega) pk v pn k
  by_cases h7 : po = 7
  · subst h7
    rw [if_neg (by decide), if_neg (by decide), if_neg (by decide), if_neg (by decide), if_neg (by decide), if_pos rfl]
    exact madeBy7_any ht (by have : Lo.tk 7 = 3 := rfl; omega) pk v pn k
  by_cases h8 : po = 8
  · subst h8
    rw [if_neg (by decide), if_neg (by decide), if_neg (by decide), if_neg (by decide), if_neg (by decide), if_neg (by decide), if_pos rfl] at hf
    unfold Lo.hasN at hf
    simp at hf
    obtain ⟨q, rfl⟩ : ∃ q : Nat, v = (q : Int) := ⟨v.toNat, by omega⟩
    rw [if_neg (by decide), if_neg (by decide), if_neg (by decide), if_neg (by decide), if_neg (by decide), if_neg (by decide), if_pos rfl]
    exact madeBy8_any hm hC ht (by have : Lo.tk 8 = 2 := rfl; omega) pk pn q (by omega) k
  rw [if_neg h2, if_neg h3, if_neg h4, if_neg h5, if_neg h6, if_neg h7, if_neg h8]
  have h1 : po = 1 := by
    apply Classical.byContradiction
    intro h1
    simp [h1, h2, h3, h4, h5, h6, h7, h8] at hf
  exact madeByN_any po pk v pn (by omega) tv k
end Go.Proofs.YtgjdkgkgbmbffaaDoor
