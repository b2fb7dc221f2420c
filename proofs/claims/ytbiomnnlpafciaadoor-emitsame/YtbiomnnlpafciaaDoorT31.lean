import Derived.Test.YtbiomnnlpafciaaDoorT25
import Derived.Test.YtbiomnnlpafciaaDoorT18
import Derived.WalkKit
import Derived.WalkSpells
import Derived.IntWalk
import Derived.Deep.Cut
import Derived.Deep.LoopGhost
import Derived.Laws.Cover1
import Derived.Lib.Hide
set_option linter.unusedVariables false
set_option linter.unusedSimpArgs false
set_option maxHeartbeats 64000000
set_option maxRecDepth 100000
namespace Go.Proofs.YtbiomnnlpafciaaDoor
open Go.RowKit Go.IntWalk
set_option linter.unusedVariables false
set_option linter.unusedSimpArgs false
/-- what rowsGreat answers -/
structure RowsR2 (w : World) (L : List (List Int)) (e : Ending) (w' : World) : Prop where
  out : ∃ b, e = .returned (.bool b) ∧ (b = false → L.length ≤ 60 ∧ ∀ r ∈ L, r.length ≤ 10000) ∧ Below w.heap.size w w'
set_option maxHeartbeats 16000000 in
theorem rowsGreat2_any {ok : Nat → Prop} {w : World} {u : Value} {L : List (List Int)} (hu : HRow kLL ok w u L) : Calls Tryd.prog 13 #[u] w (RowsR2 w L) := by
  obtain ⟨aU, cU, rfl, hu1, hu2, -⟩ := hu.llAt
  unfold maxLen at hu2
  have HU := hide hu
  obtain ⟨n, hn⟩ : ∃ n, n = L.length := ⟨_, rfl⟩
  rw [← hn] at hu1 ⊢
  have HN := hide hn
  clear hu hn
  by_cases h60 : 60 < n
  case pos =>
    go_enter Tryd.func13, Tryd.ntmps13
    go_wp2
    go_ret
    exact ⟨⟨true, rfl, fun h => (by cases h), Below.refl _ _⟩⟩
  case neg =>
    have h61 : n ≤ 60 := by omega
    go_enter Tryd.func13, Tryd.ntmps13
    go_wp2_with fail
    go_loopg [3] n (fun k v wr => ∃ (i : Nat), i ≤ n ∧ k = n - i ∧ v = .int .i64 (i : Nat) ∧ Hid (∀ q (h : q < L.length), q < i → (L[q]).length ≤ 10000) ∧ wr = w)
    case atStart => exact ⟨0, Nat.zero_le _, rfl, rfl, hide (fun q _ h => by omega), rfl⟩
    case round =>
      obtain ⟨i, hi, rfl, rfl, HQ, rfl⟩ := hrel
      by_cases hlt : i < n
      case neg =>
        have hin : i = n := by omega
        subst hin
        go_wp2
        go_ret
        exact ⟨⟨false, rfl, fun _ => ⟨by have := HN.out; omega, fun r hr => by
          obtain ⟨q, hq, rfl⟩ := List.getElem_of_mem hr
          exact HQ.out q hq (by have := HN.out; omega)⟩, Below.refl _ _⟩⟩
      case pos =>
        have hil : i < L.length := by have := HN.out; omega
        obtain ⟨ao, cp, e1, -, -, hat⟩ := HU.out.llAt
        injection e1 with q1 q2 q3
        obtain ⟨b1, o1, v1, hb1, y1, x1, hi1⟩ := hat i hil
        rw [hb1] at q1
        subst q1
        obtain ⟨a2, c2, rfl, -, hc2, -⟩ := hi1.at
        unfold maxLen at hc2
        obtain ⟨m, hmm⟩ : ∃ m, m = (L[i]).length := ⟨_, rfl⟩
        rw [← hmm] at x1
        have HMM := hide hmm
        clear hat q2 q3 hb1 hi1 hmm
        by_cases hm : 10000 < m
        case pos =>
          go_wp2
          go_ret
          exact ⟨⟨true, rfl, fun h => (by cases h), Below.refl _ _⟩⟩
        case neg =>
          go_wp2_with fail
          go_roundg (n - (i + 1))
          case measure => omega
          case rel => exact ⟨i + 1, by omega, rfl, by go_num, hide (fun q h hq => by
            by_cases he : q = i
            · subst he
              have := HMM.out
              omega
            · exact HQ.out q h (by omega)), rfl⟩
end Go.Proofs.YtbiomnnlpafciaaDoor
namespace Go.Proofs.YtbiomnnlpafciaaDoor
open Go.RowKit Go.IntWalk
set_option linter.unusedVariables false
set_option linter.unusedSimpArgs false
structure GreatP (w : World) (L : Lo.Lp) (e : Ending) (w' : World) : Prop where
  out : ∃ b, e = .returned (.bool b) ∧ (b = false → (L.P.length ≤ 7000 ∧ L.G.length ≤ 130000 ∧ L.S.length ≤ 1300) ∧ ∀ s ∈ L.S, s.F.length ≤ 1000 ∧ s.E.length ≤ 1000) ∧ Below w.heap.size w w'
theorem pu_len {ok : Nat → Prop} {w : World} {a : Option Addr} {n c : Nat} {l : List Pu} (h : HPu ok w (.slice a n c) l) : n = l.length ∧ n ≤ maxLen := by
  obtain ⟨ao, cap, e, h1, h2, -⟩ := h.at
  injection e with q1 q2 q3
  exact ⟨q2, by rw [q2]; exact Nat.le_trans h1 h2⟩
set_option maxHeartbeats 16000000 in
theorem great6_any {ok : Nat → Prop} {w : World} {aP aG aS : Option Addr} {cP cG cS : Nat} {L : Lo.Lp} (hL : HLp ok w aP aG aS cP cG cS L) : Calls Tryd.prog 6 #[.agg #[.int .i64 L.c, .slice aP L.P.length cP, .slice aG L.G.length cG, .slice aS L.S.length cS]] w (GreatP w L) := by
  have b1 : Below w.heap.size w (w.alloc (.cells #[.int .i64 L.c, .slice aP L.P.length cP, .slice aG L.G.length cG, .slice aS L.S.length cS] 25 (0, 0))) := (Below.refl _ _).alloc (Nat.le_refl _) _
  have kL := heap_new w (.cells #[.int .i64 L.c, .slice aP L.P.length cP, .slice aG L.G.length cG, .slice aS L.S.length cS] 25 (0, 0))
  have HS := hide (hL.S.under b1)
  clear hL
  go_enter Tryd.func6, Tryd.ntmps6
  go_upto_region 1 with fail
  generalize (w.alloc (.cells #[.int .i64 L.c, .slice aP L.P.length cP, .slice aG L.G.length cG, .slice aS L.S.length cS] 25 (0, 0))) = w1 at b1 kL HS ⊢
  have s0 := cell_of kL 0
  have s1 := cell_of kL 1
  have s2 := cell_of kL 2
  have s3 := cell_of kL 3
  simp at s0 s1 s2 s3
  by_cases h1 : 7000 < L.P.length
  case pos =>
    go_wp2
    go_ret
    exact ⟨⟨true, rfl, (fun h => by cases h), b1⟩⟩
  by_cases h2 : 130000 < L.G.length
  case pos =>
    go_wp2
    go_ret
    exact ⟨⟨true, rfl, (fun h => by cases h), b1⟩⟩
  by_cases h3 : 1300 < L.S.length
  case pos =>
    go_wp2
    go_ret
    exact ⟨⟨true, rfl, (fun h => by cases h), b1⟩⟩
  have hPG : L.P.length ≤ 7000 ∧ L.G.length ≤ 130000 ∧ L.S.length ≤ 1300 := by omega
  go_wp2_with fail
  go_loopg [3, 4] L.S.length (fun k v3 v4 wr => ∃ (i : Nat) (x : Int), i ≤ L.S.length ∧ k = L.S.length - i ∧ v4 = .int .i64 (i : Nat) ∧ v3 = .int .i64 x ∧ Hid (∀ j (h : j < L.S.length), j < i → (L.S[j]).F.length ≤ 1000 ∧ (L.S[j]).E.length ≤ 1000) ∧ Below w1.heap.size w1 wr)
  case atStart => exact ⟨0, 0, Nat.zero_le _, rfl, rfl, rfl, hide (fun j h hj => absurd hj (Nat.not_lt_zero _)), Below.refl _ _⟩
  case round =>
    clear s0 s1 s2 s3
    obtain ⟨i, x, hi, rfl, rfl, rfl, H, hbr⟩ := hrel
    have Br := b1.trans (hbr.mono b1.size)
    have kLr := (hbr.block _ (lt_of kL)).trans kL
    have s3 := cell_of kLr 3
    simp at s3
    by_cases hlt : i < L.S.length
    case neg =>
      have HZ := hide (fun (s : Lo.Sp) (hs : s ∈ L.S) => (show s.F.length ≤ 1000 ∧ s.E.length ≤ 1000 by
        obtain ⟨j, hj, rfl⟩ := List.getElem_of_mem hs
        exact H.out j hj (by omega)))
      go_wp2
      go_ret
      exact ⟨⟨_, rfl, fun _ => ⟨hPG, HZ.out⟩, Br⟩⟩
    case pos =>
      obtain ⟨aoS, cpS, eS, -, -, hatS⟩ := (HS.out.under hbr).at
      injection eS with q1 q2 q3
      obtain ⟨bS, oS, y, eaS, yS, ⟨-, -, -, -, e4, e5⟩, hy⟩ := hatS i hlt
      rw [eaS] at q1
      obtain ⟨l4, m4⟩ := pu_len hy.F
      obtain ⟨l5, m5⟩ := pu_len hy.E
      have HN := hide (fun (hE : y.nE ≤ 1000) (hF : y.nF ≤ 1000) j (h : j < L.S.length) (hj : j < i + 1) => (show (L.S[j]).F.length ≤ 1000 ∧ (L.S[j]).E.length ≤ 1000 by
        by_cases e : j = i
        · subst e; exact ⟨by omega, by omega⟩
        · exact H.out j h (by omega)))
      unfold maxLen at m4 m5
      subst q1
      clear hatS q2 q3 hy l4 l5 H kLr
      by_cases hE : 1000 < y.nE
      case pos =>
        go_wp2
        go_ret
        exact ⟨⟨true, rfl, (fun h => by cases h), Br⟩⟩
      by_cases hF : 1000 < y.nF
      case pos =>
        go_wp2
        go_ret
        exact ⟨⟨true, rfl, (fun h => by cases h), Br⟩⟩
      have HN2 := hide (HN.out (by omega) (by omega))
      clear HN
      have ySr : w.heap.size < wr.heap.size := Nat.lt_of_lt_of_le (lt_of kL) hbr.size
      go_upto_region 9 with fail
      refine wp_region_late (fun w' => Below wr.heap.size wr w') (fun _ => false) (by kernel_rfl) ?_
      have hH0 : Below wr.heap.size wr wr.drew := (Below.refl _ _).drew
      generalize wr.drew = wd0 at hH0 ⊢
      refine' wpAnyL_take (i := 0) (oi := ⟨some 46, _, _, _, _, _⟩) (v := _) rfl (by kernel_rfl) (by kernel_rfl) (by kernel_rfl) (by kernel_rfl) (fun _ _ _ h => h) hH0 (by rfl) ?hyv ?onw
      case hyv =>
        intro wz hSw
        go_simp
        try rfl
      case onw =>
        try simp only [Act.put, List.setIfInBounds_toArray, List.set_cons_zero, List.set_cons_succ]
        refine' wpAnyL_take (i := 1) (oi := ⟨some 47, _, _, _, _, _⟩) (v := _) rfl (by kernel_rfl) (by kernel_rfl) (by kernel_rfl) (by kernel_rfl) (fun _ _ _ h => h) hH0 (by rfl) ?hyv ?onw
        case hyv =>
          intro wz hSw
          go_simp
          try rfl
        case onw =>
          try simp only [Act.put, List.setIfInBounds_toArray, List.set_cons_zero, List.set_cons_succ]
          refine' wpAnyL_take (i := 2) (oi := ⟨some 48, _, _, _, _, _⟩) (v := _) rfl (by kernel_rfl) (by kernel_rfl) (by kernel_rfl) (by kernel_rfl) (fun _ _ _ h => h) hH0 (by rfl) ?hyv ?onw
          case hyv =>
            intro wz hSw
            have zc0 := (hSw.cell (p := ⟨w.heap.size, 3, none⟩) ySr).trans s3
            have zc1 := (hSw.cell (p := ⟨bS, oS + i * 6 + 4, none⟩) yS).trans e4
            have zc2 := (hSw.cell (p := ⟨bS, oS + i * 6 + 5, none⟩) yS).trans e5
            go_simp
            try rfl
          case onw =>
            try simp only [Act.put, List.setIfInBounds_toArray, List.set_cons_zero, List.set_cons_succ]
            refine' wpAnyL_take (i := 3) (oi := ⟨some 49, _, _, _, _, _⟩) (v := _) rfl (by kernel_rfl) (by kernel_rfl) (by kernel_rfl) (by kernel_rfl) (fun _ _ _ h => h) hH0 (by rfl) ?hyv ?onw
            case hyv =>
              intro wz hSw
              go_simp
              try rfl
            case onw =>
              try simp only [Act.put, List.setIfInBounds_toArray, List.set_cons_zero, List.set_cons_succ]
              refine' wpAnyL_take (i := 4) (oi := ⟨some 50, _, _, _, _, _⟩) (v := _) rfl (by kernel_rfl) (by kernel_rfl) (by kernel_rfl) (by kernel_rfl) (fun _ _ _ h => h) hH0 (by rfl) ?hyv ?onw
              case hyv =>
                intro wz hSw
                go_simp
                try rfl
              case onw =>
                try simp only [Act.put, List.setIfInBounds_toArray, List.set_cons_zero, List.set_cons_succ]
                refine' wpAnyL_take (i := 5) (oi := ⟨some 51, _, _, _, _, _⟩) (v := _) rfl (by kernel_rfl) (by kernel_rfl) (by kernel_rfl) (by kernel_rfl) (fun _ _ _ h => h) hH0 (by rfl) ?hyv ?onw
                case hyv =>
                  intro wz hSw
                  go_simp
                  try rfl
                case onw =>
                  try simp only [Act.put, List.setIfInBounds_toArray, List.set_cons_zero, List.set_cons_succ]
                  refine' wpAnyL_take (i := 6) (oi := ⟨some 52, _, _, _, _, _⟩) (v := _) rfl (by kernel_rfl) (by kernel_rfl) (by kernel_rfl) (by kernel_rfl) (fun _ _ _ h => h) hH0 (by rfl) ?hyv ?onw
                  case hyv =>
                    intro wz hSw
                    have zc0 := (hSw.cell (p := ⟨w.heap.size, 3, none⟩) ySr).trans s3
                    have zc1 := (hSw.cell (p := ⟨bS, oS + i * 6 + 4, none⟩) yS).trans e4
                    have zc2 := (hSw.cell (p := ⟨bS, oS + i * 6 + 5, none⟩) yS).trans e5
                    go_simp
                    try rfl
                  case onw =>
                    try simp only [Act.put, List.setIfInBounds_toArray, List.set_cons_zero, List.set_cons_succ]
                    refine' wpAnyL_take (i := 7) (oi := ⟨some 53, _, _, _, _, _⟩) (v := _) rfl (by kernel_rfl) (by kernel_rfl) (by kernel_rfl) (by kernel_rfl) (fun _ _ _ h => h) hH0 (by rfl) ?hyv ?onw
                    case hyv =>
                      intro wz hSw
                      go_simp
                      try rfl
                    case onw =>
                      try simp only [Act.put, List.setIfInBounds_toArray, List.set_cons_zero, List.set_cons_succ]
                      refine' wpAnyL_take (i := 8) (oi := ⟨some 54, _, _, _, _, _⟩) (v := _) rfl (by kernel_rfl) (by kernel_rfl) (by kernel_rfl) (by kernel_rfl) (fun _ _ _ h => h) hH0 (by rfl) ?hyv ?onw
                      case hyv =>
                        intro wz hSw
                        go_simp
                        try rfl
                      case onw =>
                        try simp only [Act.put, List.setIfInBounds_toArray, List.set_cons_zero, List.set_cons_succ]
                        refine' wpAnyL_take (i := 9) (oi := ⟨some 55, _, _, _, _, _⟩) (v := _) rfl (by kernel_rfl) (by kernel_rfl) (by kernel_rfl) (by kernel_rfl) (fun _ _ _ h => h) hH0 (by rfl) ?hyv ?onw
                        case hyv =>
                          intro wz hSw
                          have zc0 := (hSw.cell (p := ⟨w.heap.size, 3, none⟩) ySr).trans s3
                          have zc1 := (hSw.cell (p := ⟨bS, oS + i * 6 + 4, none⟩) yS).trans e4
                          have zc2 := (hSw.cell (p := ⟨bS, oS + i * 6 + 5, none⟩) yS).trans e5
                          go_simp
                          try rfl
                        case onw =>
                          try simp only [Act.put, List.setIfInBounds_toArray, List.set_cons_zero, List.set_cons_succ]
                          refine' wpAnyL_take (i := 10) (oi := ⟨some 56, _, _, _, _, _⟩) (v := _) rfl (by kernel_rfl) (by kernel_rfl) (by kernel_rfl) (by kernel_rfl) (fun _ _ _ h => h) hH0 (by rfl) ?hyv ?onw
                          case hyv =>
                            intro wz hSw
                            go_simp
                            try rfl
                          case onw =>
                            try simp only [Act.put, List.setIfInBounds_toArray, List.set_cons_zero, List.set_cons_succ]
                            refine' wpAnyL_take (i := 11) (oi := ⟨some 57, _, _, _, _, _⟩) (v := _) rfl (by kernel_rfl) (by kernel_rfl) (by kernel_rfl) (by kernel_rfl) (fun _ _ _ h => h) hH0 (by rfl) ?hyv ?onw
                            case hyv =>
                              intro wz hSw
                              go_simp
                              try rfl
                            case onw =>
                              try simp only [Act.put, List.setIfInBounds_toArray, List.set_cons_zero, List.set_cons_succ]
                              refine' wpAnyL_take (i := 12) (oi := ⟨some 58, _, _, _, _, _⟩) (v := _) rfl (by kernel_rfl) (by kernel_rfl) (by kernel_rfl) (by kernel_rfl) (fun _ _ _ h => h) hH0 (by rfl) ?hyv ?onw
                              case hyv =>
                                intro wz hSw
                                go_simp
                                try rfl
                              case onw =>
                                try simp only [Act.put, List.setIfInBounds_toArray, List.set_cons_zero, List.set_cons_succ]
                                refine' wpAnyL_take (i := 13) (oi := ⟨some 59, _, _, _, _, _⟩) (v := _) rfl (by kernel_rfl) (by kernel_rfl) (by kernel_rfl) (by kernel_rfl) (fun _ _ _ h => h) hH0 (by rfl) ?hyv ?onw
                                case hyv =>
                                  intro wz hSw
                                  have zc0 := (hSw.cell (p := ⟨w.heap.size, 3, none⟩) ySr).trans s3
                                  have zc1 := (hSw.cell (p := ⟨bS, oS + i * 6 + 4, none⟩) yS).trans e4
                                  have zc2 := (hSw.cell (p := ⟨bS, oS + i * 6 + 5, none⟩) yS).trans e5
                                  go_simp
                                  try rfl
                                case onw =>
                                  try simp only [Act.put, List.setIfInBounds_toArray, List.set_cons_zero, List.set_cons_succ]
                                  refine' wpAnyL_take (i := 14) (oi := ⟨some 60, _, _, _, _, _⟩) (v := _) rfl (by kernel_rfl) (by kernel_rfl) (by kernel_rfl) (by kernel_rfl) (fun _ _ _ h => h) hH0 (by rfl) ?hyv ?onw
                                  case hyv =>
                                    intro wz hSw
                                    go_simp
                                    try rfl
                                  case onw =>
                                    try simp only [Act.put, List.setIfInBounds_toArray, List.set_cons_zero, List.set_cons_succ]
                                    refine' wpAnyL_take (i := 15) (oi := ⟨some 61, _, _, _, _, _⟩) (v := _) rfl (by kernel_rfl) (by kernel_rfl) (by kernel_rfl) (by kernel_rfl) (fun _ _ _ h => h) hH0 (by rfl) ?hyv ?onw
                                    case hyv =>
                                      intro wz hSw
                                      go_simp
                                      try rfl
                                    case onw =>
                                      try simp only [Act.put, List.setIfInBounds_toArray, List.set_cons_zero, List.set_cons_succ]
                                      refine' wpAnyL_take (i := 16) (oi := ⟨some 62, _, _, _, _, _⟩) (v := _) rfl (by kernel_rfl) (by kernel_rfl) (by kernel_rfl) (by kernel_rfl) (fun _ _ _ h => h) hH0 (by rfl) ?hyv ?onw
                                      case hyv =>
                                        intro wz hSw
                                        go_simp
                                        try rfl
                                      case onw =>
                                        try simp only [Act.put, List.setIfInBounds_toArray, List.set_cons_zero, List.set_cons_succ]
                                        refine' wpAnyL_take (i := 17) (oi := ⟨some 3, _, _, _, _, _⟩) (v := _) rfl (by kernel_rfl) (by kernel_rfl) (by kernel_rfl) (by kernel_rfl) (fun _ _ _ h => h) hH0 (by rfl) ?hyv ?onw
                                        case hyv =>
                                          intro wz hSw
                                          go_simp
                                          try rfl
                                        case onw =>
                                          try simp only [Act.put, List.setIfInBounds_toArray, List.set_cons_zero, List.set_cons_succ]
                                          refine wpAnyL_done (by kernel_rfl) ?_ _
                                          go_wp2_with fail
                                          go_roundg (L.S.length - (i + 1))
                                          case measure => omega
                                          case rel => exact ⟨i + 1, _, by omega, rfl, by go_num, rfl, HN2, hbr.trans (hH0.mono hbr.size)⟩
end Go.Proofs.YtbiomnnlpafciaaDoor
