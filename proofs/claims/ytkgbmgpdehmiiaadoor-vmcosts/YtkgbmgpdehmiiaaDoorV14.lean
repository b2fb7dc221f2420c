import Derived.Test.YtkgbmgpdehmiiaaDoorV13
import Derived.Deep.Cut
import Derived.Deep.LoopGhost
import Derived.Ground.NamesProg
import Derived.IntWalk
import Derived.Laws.Cover1
import Derived.Laws.EntriesVeiled
import Derived.Laws.Externs
import Derived.Lib.Hide
import Derived.Lib.MakeNoZero
import Derived.Maps.OwnSet
import Derived.Shelf.Lay
import Derived.WalkKit
import Derived.WalkSpells
set_option linter.unusedVariables false
set_option linter.unusedSimpArgs false
set_option maxHeartbeats 64000000
set_option maxRecDepth 100000
namespace Go.Proofs.YtkgbmgpdehmiiaaDoor
open Go.RowKit Go.IntWalk
set_option linter.unusedVariables false
set_option linter.unusedSimpArgs false
set_option maxHeartbeats 16000000 in
theorem sameLongs_same {ok ok' : Nat → Prop} {w : World} {u v : Value} {l : List Int} (hu : HInts ok w u l) (hv : HInts ok' w v l) :
    Calls Tryd.prog 15 #[u, v] w fun e w' => e = .returned (.bool true) ∧ Below w.heap.size w w' := by
  obtain ⟨aU, cU, rfl, hu1, hu2, -⟩ := hu.at
  obtain ⟨aV, cV, rfl, hv1, hv2, -⟩ := hv.at
  unfold maxLen at hu2 hv2
  have HU := hide hu
  have HV := hide hv
  obtain ⟨n, hn⟩ : ∃ n, n = l.length := ⟨_, rfl⟩
  rw [← hn] at hu1 hv1 ⊢
  have HN := hide hn
  clear hu hv hn
  go_enter Tryd.func15, Tryd.ntmps15
  go_wp2_with fail
  go_loopg [5] n (fun k v wr => ∃ (i : Nat), i ≤ n ∧ k = n - i ∧ v = .int .i64 (i : Nat) ∧ Below w.heap.size w wr)
  case atStart => exact ⟨0, Nat.zero_le _, rfl, rfl, Below.refl _ _⟩
  case round =>
    obtain ⟨i, hi, rfl, rfl, hbr⟩ := hrel
    have zr := hbr.size
    by_cases hlt : i < n
    case neg =>
      have hin : i = n := by omega
      subst hin
      go_wp2
      go_ret
      exact ⟨rfl, hbr⟩
    case pos =>
      have hil : i < l.length := by have := HN.out; omega
      obtain ⟨ao, cp, e1, -, -, hat⟩ := (HU.out.under hbr).at
      injection e1 with q1 q2 q3
      obtain ⟨b1, o1, hb1, y1, x1⟩ := hat i hil
      rw [hb1] at q1
      subst q1
      obtain ⟨ao2, cp2, e2, -, -, hat2⟩ := (HV.out.under hbr).at
      injection e2 with z1 z2 z3
      obtain ⟨b2, o2, hb2, y2, x2⟩ := hat2 i hil
      rw [hb2] at z1
      subst z1
      generalize l[i] = y at x1 x2
      clear hat hat2 q2 q3 z2 z3 hb1 hb2 hil
      go_upto_region 6 with fail
      refine wp_region_late (fun w' => Below wr.heap.size wr w') (fun _ => false) (by kernel_rfl) ?_
      have hH0 : Below wr.heap.size wr wr.drew := (Below.refl _ _).drew
      generalize wr.drew = wd0 at hH0 ⊢
      refine' wpAnyL_take (i := 0) (oi := ⟨some 17, _, _, _, _, _⟩) (v := _) rfl (by kernel_rfl) (by kernel_rfl) (by kernel_rfl) (by kernel_rfl) (fun _ _ _ h => h) hH0 (by rfl) ?hyv ?onw
      case hyv =>
        intro wz hSw
        go_simp
        try rfl
      case onw =>
        try simp only [Act.put, List.setIfInBounds_toArray, List.set_cons_zero, List.set_cons_succ]
        refine' wpAnyL_take (i := 1) (oi := ⟨some 18, _, _, _, _, _⟩) (v := _) rfl (by kernel_rfl) (by kernel_rfl) (by kernel_rfl) (by kernel_rfl) (fun _ _ _ h => h) hH0 (by rfl) ?hyv ?onw
        case hyv =>
          intro wz hSw
          go_simp
          try rfl
        case onw =>
          try simp only [Act.put, List.setIfInBounds_toArray, List.set_cons_zero, List.set_cons_succ]
          refine' wpAnyL_take (i := 2) (oi := ⟨some 19, _, _, _, _, _⟩) (v := _) rfl (by kernel_rfl) (by kernel_rfl) (by kernel_rfl) (by kernel_rfl) (fun _ _ _ h => h) hH0 (by rfl) ?hyv ?onw
          case hyv =>
            intro wz hSw
            go_simp
            try rfl
          case onw =>
            try simp only [Act.put, List.setIfInBounds_toArray, List.set_cons_zero, List.set_cons_succ]
            refine' wpAnyL_take (i := 3) (oi := ⟨some 20, _, _, _, _, _⟩) (v := _) rfl (by kernel_rfl) (by kernel_rfl) (by kernel_rfl) (by kernel_rfl) (fun _ _ _ h => h) hH0 (by rfl) ?hyv ?onw
            case hyv =>
              intro wz hSw
              have zc0 := (hSw.cell (p := ⟨b1, o1 + i, none⟩) y1).trans x1
              have zc1 := (hSw.cell (p := ⟨b2, o2 + i, none⟩) y2).trans x2
              go_simp
              try rfl
            case onw =>
              try simp only [Act.put, List.setIfInBounds_toArray, List.set_cons_zero, List.set_cons_succ]
              refine' wpAnyL_take (i := 4) (oi := ⟨some 21, _, _, _, _, _⟩) (v := _) rfl (by kernel_rfl) (by kernel_rfl) (by kernel_rfl) (by kernel_rfl) (fun _ _ _ h => h) hH0 (by rfl) ?hyv ?onw
              case hyv =>
                intro wz hSw
                go_simp
                try rfl
              case onw =>
                try simp only [Act.put, List.setIfInBounds_toArray, List.set_cons_zero, List.set_cons_succ]
                refine' wpAnyL_take (i := 5) (oi := ⟨some 22, _, _, _, _, _⟩) (v := _) rfl (by kernel_rfl) (by kernel_rfl) (by kernel_rfl) (by kernel_rfl) (fun _ _ _ h => h) hH0 (by rfl) ?hyv ?onw
                case hyv =>
                  intro wz hSw
                  go_simp
                  try rfl
                case onw =>
                  try simp only [Act.put, List.setIfInBounds_toArray, List.set_cons_zero, List.set_cons_succ]
                  refine' wpAnyL_take (i := 6) (oi := ⟨some 23, _, _, _, _, _⟩) (v := _) rfl (by kernel_rfl) (by kernel_rfl) (by kernel_rfl) (by kernel_rfl) (fun _ _ _ h => h) hH0 (by rfl) ?hyv ?onw
                  case hyv =>
                    intro wz hSw
                    go_simp
                    try rfl
                  case onw =>
                    try simp only [Act.put, List.setIfInBounds_toArray, List.set_cons_zero, List.set_cons_succ]
                    refine' wpAnyL_take (i := 7) (oi := ⟨some 24, _, _, _, _, _⟩) (v := _) rfl (by kernel_rfl) (by kernel_rfl) (by kernel_rfl) (by kernel_rfl) (fun _ _ _ h => h) hH0 (by rfl) ?hyv ?onw
                    case hyv =>
                      intro wz hSw
                      have zc0 := (hSw.cell (p := ⟨b1, o1 + i, none⟩) y1).trans x1
                      have zc1 := (hSw.cell (p := ⟨b2, o2 + i, none⟩) y2).trans x2
                      go_simp
                      try rfl
                    case onw =>
                      try simp only [Act.put, List.setIfInBounds_toArray, List.set_cons_zero, List.set_cons_succ]
                      refine' wpAnyL_take (i := 8) (oi := ⟨some 25, _, _, _, _, _⟩) (v := _) rfl (by kernel_rfl) (by kernel_rfl) (by kernel_rfl) (by kernel_rfl) (fun _ _ _ h => h) hH0 (by rfl) ?hyv ?onw
                      case hyv =>
                        intro wz hSw
                        go_simp
                        try rfl
                      case onw =>
                        try simp only [Act.put, List.setIfInBounds_toArray, List.set_cons_zero, List.set_cons_succ]
                        refine wpAnyL_done (by kernel_rfl) ?_ _
                        clear x1 x2
                        have BE := hbr.trans (hH0.mono hbr.size)
                        go_wp2_with fail
                        go_roundg (n - (i + 1))
                        case measure => omega
                        case rel => exact ⟨i + 1, by omega, rfl, by go_num, BE⟩
end Go.Proofs.YtkgbmgpdehmiiaaDoor
