import Derived.Test.YtgjdkgkgbmbffaaDoorJ30
import Derived.WalkKit
import Derived.WalkSpells
import Derived.IntWalk
import Derived.Deep.Cut
import Derived.Deep.LoopGhost
import Derived.Laws.Cover1
import Derived.Lib.Hide
set_option linter.unusedVariables false
set_option linter.unusedSimpArgs false
set_option maxHeartbeats 64000000
set_option maxRecDepth 100000
namespace Go.Proofs.YtgjdkgkgbmbffaaDoor
open Go.RowKit Go.IntWalk
set_option linter.unusedVariables false
set_option linter.unusedSimpArgs false
namespace Lo
/-- a step without the tree that is not looked at -/
def ownS (s : Sp) : Sp := ⟨s.op, s.k, s.n, s.tgt, if folds s then s.F else [], s.E⟩
def ownL (L : Lp) : Lp := ⟨L.c, L.P, L.G, L.S.map ownS⟩
def d0 : Sp := ⟨0, 0, 0, 0, [], []⟩
def Qi (S : List Sp) (i j : Nat) : Sp := if j < i then ownS (S.getD j ⟨0, 0, 0, 0, [], []⟩) else S.getD j ⟨0, 0, 0, 0, [], []⟩
end Lo
structure OwnPost (N0 : Nat) (w : World) (c : Int) (P G : List Int) (S : List Lo.Sp) (e : Ending) (w' : World) : Prop where
  out : ∃ a1 c1 a2 c2 a3 c3, e = .returned (.agg #[.int .i64 c, .slice a1 P.length c1, .slice a2 G.length c2, .slice a3 S.length c3]) ∧ HInts (fun i => i < N0 ∨ w.heap.size ≤ i) w' (.slice a1 P.length c1) P ∧ HInts (fun i => i < N0 ∨ w.heap.size ≤ i) w' (.slice a2 G.length c2) G ∧ HSps (fun i => i < N0 ∨ w.heap.size ≤ i) w' (.slice a3 S.length c3) (S.map Lo.ownS) ∧ Below w.heap.size w w'
set_option maxHeartbeats 32000000 in
theorem own28_core {N0 : Nat} {w : World} (hN0 : N0 ≤ w.heap.size) {c : Int} {aP aG aS : Option Addr} {nP nG nS cP cG cS : Nat} {P G : List Int} {S : List Lo.Sp} (hP : HInts (fun i => i < N0) w (.slice aP nP cP) P) (hG : HInts (fun i => i < N0) w (.slice aG nG cG) G) (hS : HSps (fun i => i < N0) w (.slice aS nS cS) S) (hPl : P.length ≤ 1000000) (hGl : G.length ≤ 1000000) (hSl : S.length ≤ 1000000) (hEl : ∀ s ∈ S, s.E.length ≤ 1000000 ∧ (Lo.folds s = true → s.F.length ≤ 1000000)) :
    Calls Tryd.prog 28 #[.agg #[.int .i64 c, .slice aP nP cP, .slice aG nG cG, .slice aS nS cS]] w (OwnPost N0 w c P G S) := by
  have b1 : Below w.heap.size w ((w.alloc (.cells #[.int .i64 c, .slice aP nP cP, .slice aG nG cG, .slice aS nS cS] 25 (0, 0))).alloc (.cells #[.int .i64 0, .slice none 0 0, .slice none 0 0, .slice none 0 0] 25 (0, 0))) := ((Below.refl _ _).alloc (Nat.le_refl _) _).alloc (by simp) _
  have kR : (((w.alloc (.cells #[.int .i64 c, .slice aP nP cP, .slice aG nG cG, .slice aS nS cS] 25 (0, 0))).alloc (.cells #[.int .i64 0, .slice none 0 0, .slice none 0 0, .slice none 0 0] 25 (0, 0)))).heap[w.heap.size]? = some (.cells #[.int .i64 c, .slice aP nP cP, .slice aG nG cG, .slice aS nS cS] 25 (0, 0)) := (Below.heap_alloc _ _ _ (by simp)).trans (heap_new w _)
  have kZ : (((w.alloc (.cells #[.int .i64 c, .slice aP nP cP, .slice aG nG cG, .slice aS nS cS] 25 (0, 0))).alloc (.cells #[.int .i64 0, .slice none 0 0, .slice none 0 0, .slice none 0 0] 25 (0, 0)))).heap[w.heap.size + 1]? = some (.cells #[.int .i64 0, .slice none 0 0, .slice none 0 0, .slice none 0 0] 25 (0, 0)) := by
    have := heap_new (w.alloc (.cells #[.int .i64 c, .slice aP nP cP, .slice aG nG cG, .slice aS nS cS] 25 (0, 0))) (.cells #[.int .i64 0, .slice none 0 0, .slice none 0 0, .slice none 0 0] 25 (0, 0))
    simpa using this
  have zw : w.heap.size + 2 ≤ (((w.alloc (.cells #[.int .i64 c, .slice aP nP cP, .slice aG nG cG, .slice aS nS cS] 25 (0, 0))).alloc (.cells #[.int .i64 0, .slice none 0 0, .slice none 0 0, .slice none 0 0] 25 (0, 0)))).heap.size := by simp
  have HP := hide (hP.under b1)
  have HG := hide (hG.under b1)
  have HS := hide (hS.under b1)
  have HEL := hide hEl
  have zw0 : w.heap.size ≤ w.heap.size + 2 := by omega
  clear hP hG hS hEl
  go_enter Tryd.func28, Tryd.ntmps28
  go_upto_region 1 with fail
  generalize ((w.alloc (.cells #[.int .i64 c, .slice aP nP cP, .slice aG nG cG, .slice aS nS cS] 25 (0, 0))).alloc (.cells #[.int .i64 0, .slice none 0 0, .slice none 0 0, .slice none 0 0] 25 (0, 0))) = w1 at b1 kR kZ zw HP HG HS ⊢
  have c0 := cell_of kR 0
  have c1 := cell_of kR 1
  have c2 := cell_of kR 2
  have c3 := cell_of kR 3
  simp at c0 c1 c2 c3
  have yR := lt_of kR
  have yZ := lt_of kZ
  go_cut [] (fun w2 => ∃ a1 cc1 a2 cc2 a3 cc3 N, w2.heap[w.heap.size]? = some (.cells #[.int .i64 c, .slice a1 P.length cc1, .slice a2 G.length cc2, .slice a3 S.length cc3] 25 (0, 0)) ∧ w2.heap[w.heap.size + 1]? = some (.cells #[.int .i64 0, .slice none 0 0, .slice none 0 0, .slice none 0 0] 25 (0, 0)) ∧ HInts (fun i => w1.heap.size ≤ i ∧ i < N) w2 (.slice a1 P.length cc1) P ∧ HInts (fun i => w1.heap.size ≤ i ∧ i < N) w2 (.slice a2 G.length cc2) G ∧ OwnX kSp (fun i => i < N0 ∨ N ≤ i) w2 (.slice a3 S.length cc3) S ∧ (∀ k, (Value.slice a3 S.length cc3).ownBlock = some k → N ≤ k) ∧ w1.heap.size ≤ N ∧ N ≤ w2.heap.size ∧ Below w.heap.size w w2)
  case first =>
    refine wp_region_late (fun w' => Below w1.heap.size w1 w') (fun i => i == 10 || i == 11 || i == 12 || i == 13 || i == 14) (by kernel_rfl) ?_
    have hH0 : Below w1.heap.size w1 w1.drew := (Below.refl _ _).drew
    generalize w1.drew = wd0 at hH0 ⊢
    refine' wpAnyL_take (i := 0) (oi := ⟨some 5, _, _, _, _, _⟩) (v := _) rfl (by kernel_rfl) (by kernel_rfl) (by kernel_rfl) (by kernel_rfl) (fun _ _ _ h => h) hH0 (by rfl) ?hyv ?onw
    case hyv =>
      intro wz hSw
      go_simp
      try rfl
    case onw =>
      try simp only [Act.put, List.setIfInBounds_toArray, List.set_cons_zero, List.set_cons_succ]
      refine' wpAnyL_take (i := 1) (oi := ⟨some 6, _, _, _, _, _⟩) (v := _) rfl (by kernel_rfl) (by kernel_rfl) (by kernel_rfl) (by kernel_rfl) (fun _ _ _ h => h) hH0 (by rfl) ?hyv ?onw
      case hyv =>
        intro wz hSw
        have zc0 := (hSw.cell (p := ⟨w.heap.size, 0, none⟩) yR).trans c0
        have zc1 := (hSw.cell (p := ⟨w.heap.size, 1, none⟩) yR).trans c1
        have zc2 := (hSw.cell (p := ⟨w.heap.size, 2, none⟩) yR).trans c2
        have zc3 := (hSw.cell (p := ⟨w.heap.size, 3, none⟩) yR).trans c3
        go_simp
        try rfl
      case onw =>
        try simp only [Act.put, List.setIfInBounds_toArray, List.set_cons_zero, List.set_cons_succ]
        refine' wpAnyL_take (i := 3) (oi := ⟨some 8, _, _, _, _, _⟩) (v := _) rfl (by kernel_rfl) (by kernel_rfl) (by kernel_rfl) (by kernel_rfl) (fun _ _ _ h => h) hH0 (by rfl) ?hyv ?onw
        case hyv =>
          intro wz hSw
          go_simp
          try rfl
        case onw =>
          try simp only [Act.put, List.setIfInBounds_toArray, List.set_cons_zero, List.set_cons_succ]
          refine' wpAnyL_take (i := 4) (oi := ⟨some 9, _, _, _, _, _⟩) (v := _) rfl (by kernel_rfl) (by kernel_rfl) (by kernel_rfl) (by kernel_rfl) (fun _ _ _ h => h) hH0 (by rfl) ?hyv ?onw
          case hyv =>
            intro wz hSw
            have zc0 := (hSw.cell (p := ⟨w.heap.size, 0, none⟩) yR).trans c0
            have zc1 := (hSw.cell (p := ⟨w.heap.size, 1, none⟩) yR).trans c1
            have zc2 := (hSw.cell (p := ⟨w.heap.size, 2, none⟩) yR).trans c2
            have zc3 := (hSw.cell (p := ⟨w.heap.size, 3, none⟩) yR).trans c3
            go_simp
            try rfl
          case onw =>
            try simp only [Act.put, List.setIfInBounds_toArray, List.set_cons_zero, List.set_cons_succ]
            refine' wpAnyL_take (i := 6) (oi := ⟨some 11, _, _, _, _, _⟩) (v := _) rfl (by kernel_rfl) (by kernel_rfl) (by kernel_rfl) (by kernel_rfl) (fun _ _ _ h => h) hH0 (by rfl) ?hyv ?onw
            case hyv =>
              intro wz hSw
              go_simp
              try rfl
            case onw =>
              try simp only [Act.put, List.setIfInBounds_toArray, List.set_cons_zero, List.set_cons_succ]
              refine' wpAnyL_take (i := 7) (oi := ⟨some 12, _, _, _, _, _⟩) (v := _) rfl (by kernel_rfl) (by kernel_rfl) (by kernel_rfl) (by kernel_rfl) (fun _ _ _ h => h) hH0 (by rfl) ?hyv ?onw
              case hyv =>
                intro wz hSw
                have zc0 := (hSw.cell (p := ⟨w.heap.size, 0, none⟩) yR).trans c0
                have zc1 := (hSw.cell (p := ⟨w.heap.size, 1, none⟩) yR).trans c1
                have zc2 := (hSw.cell (p := ⟨w.heap.size, 2, none⟩) yR).trans c2
                have zc3 := (hSw.cell (p := ⟨w.heap.size, 3, none⟩) yR).trans c3
                go_simp
                try rfl
              case onw =>
                try simp only [Act.put, List.setIfInBounds_toArray, List.set_cons_zero, List.set_cons_succ]
                refine wpAnyL_one (i := 2) (o := _) rfl (by kernel_rfl) (by rfl) (fun K hK => ?_)
                go_simp
                refine (clone53_any (l := P) (HP.out.under hH0) hPl).mono ?_
                rintro eq wd1 ⟨v1, rfl, own1, bq1⟩
                obtain ⟨a1, cc1, rfl, -, -⟩ := own1.form
                have hH1 : Below w1.heap.size w1 wd1 := hH0.trans (bq1.mono hH0.size)
                have H1 := hide (show HInts (fun i => w1.heap.size ≤ i ∧ i < wd1.heap.size) wd1 (.slice a1 P.length cc1) P from HInts.wide (longs_row own1.row) (fun i hi hl => ⟨Nat.le_trans hH0.size hi, hl⟩))
                clear own1
                refine hK.out _ _ (fun _ => hH1) ?_
                clear hK K
                try simp only [Act.put, List.setIfInBounds_toArray, List.set_cons_zero, List.set_cons_succ]
                refine' wpAnyL_take (i := 9) (oi := ⟨some 14, _, _, _, _, _⟩) (v := _) rfl (by kernel_rfl) (by kernel_rfl) (by kernel_rfl) (by kernel_rfl) (fun _ _ _ h => h) hH1 (by rfl) ?hyv ?onw
                case hyv =>
                  intro wz hSw
                  go_simp
                  try rfl
                case onw =>
                  try simp only [Act.put, List.setIfInBounds_toArray, List.set_cons_zero, List.set_cons_succ]
                  refine wpAnyL_one (i := 5) (o := _) rfl (by kernel_rfl) (by rfl) (fun K hK => ?_)
                  go_simp
                  refine (clone53_any (l := G) (HG.out.under hH1) hGl).mono ?_
                  rintro eq wd2 ⟨v2, rfl, own2, bq2⟩
                  obtain ⟨a2, cc2, rfl, -, -⟩ := own2.form
                  have hH2 : Below w1.heap.size w1 wd2 := hH1.trans (bq2.mono hH1.size)
                  have H2 := hide (show HInts (fun i => w1.heap.size ≤ i ∧ i < wd2.heap.size) wd2 (.slice a2 G.length cc2) G from HInts.wide (longs_row own2.row) (fun i hi hl => ⟨Nat.le_trans hH1.size hi, hl⟩))
                  have H1b := hide (show HInts (fun i => w1.heap.size ≤ i ∧ i < wd2.heap.size) wd2 (.slice a1 P.length cc1) P from HInts.wide (H1.out.under bq2) (fun i hi _ => ⟨hi.1, Nat.lt_of_lt_of_le hi.2 bq2.size⟩))
                  clear own2 H1
                  refine hK.out _ _ (fun _ => hH2) ?_
                  clear hK K
                  try simp only [Act.put, List.setIfInBounds_toArray, List.set_cons_zero, List.set_cons_succ]
                  refine wpAnyL_one (i := 8) (o := _) rfl (by kernel_rfl) (by rfl) (fun K hK => ?_)
                  go_simp
                  refine (clone45_any (ok := fun i => i < N0) (l := S) (HS.out.under hH2) hSl).mono ?_
                  rintro eq wd3 ⟨v3, rfl, own3, hk3, bq3⟩
                  obtain ⟨a3, cc3, rfl, -, -⟩ := own3.form
                  have hH3 : Below w1.heap.size w1 wd3 := hH2.trans (bq3.mono hH2.size)
                  obtain ⟨NN, hNN⟩ : ∃ NN, NN = wd2.heap.size := ⟨_, rfl⟩
                  have hQ1 : w1.heap.size ≤ NN := by rw [hNN]; exact hH2.size
                  have hN2 : NN ≤ wd3.heap.size := by rw [hNN]; exact bq3.size
                  rw [← hNN] at own3 hk3
                  have H3 := hide own3
                  have HK3 := hide hk3
                  have H1c := hide (show HInts (fun i => w1.heap.size ≤ i ∧ i < NN) wd3 (.slice a1 P.length cc1) P by rw [hNN]; exact H1b.out.under bq3)
                  have H2c := hide (show HInts (fun i => w1.heap.size ≤ i ∧ i < NN) wd3 (.slice a2 G.length cc2) G by rw [hNN]; exact H2.out.under bq3)
                  clear own3 hk3 H1b H2 hNN
                  refine hK.out _ _ (fun _ => hH3) ?_
                  clear hK K
                  try simp only [Act.put, List.setIfInBounds_toArray, List.set_cons_zero, List.set_cons_succ]
                  refine wpAnyL_one (i := 10) (o := _) rfl (by kernel_rfl) (by rfl) (fun K hK => ?_)
                  have kR0 := (hH3.block _ yR).trans kR
                  have kZ0 := (hH3.block _ yZ).trans kZ
                  have B0 := b1.trans (hH3.mono b1.size)
                  have hN2b := hN2
                  have st1 := cell_of kR0 1
                  have ff1 := free_of kR0 1
                  simp at st1
                  have kR1 := set_in kR0 1 (.slice a1 P.length cc1)
                  simp at kR1
                  have kZ1 := keep_set (p := ⟨w.heap.size, 1, none⟩) kZ0 (by show w.heap.size ≠ w.heap.size + 1; omega) (.slice a1 P.length cc1)
                  have B1 := B0.setCell (p := ⟨w.heap.size, 1, none⟩) (Nat.le_refl _) (.slice a1 P.length cc1)
                  have H1_1 := hide (show HInts (fun i => w1.heap.size ≤ i ∧ i < NN) (wd3.setCell ⟨w.heap.size, 1, none⟩ (.slice a1 P.length cc1)) (.slice a1 P.length cc1) P from H1c.out.keep (by simp [World.setCell]) (fun i hi _ => heap_set_other _ _ _ (by show w.heap.size ≠ i; have h1 : w1.heap.size ≤ i := hi.1; omega)))
                  have H2_1 := hide (show HInts (fun i => w1.heap.size ≤ i ∧ i < NN) (wd3.setCell ⟨w.heap.size, 1, none⟩ (.slice a1 P.length cc1)) (.slice a2 G.length cc2) G from H2c.out.keep (by simp [World.setCell]) (fun i hi _ => heap_set_other _ _ _ (by show w.heap.size ≠ i; have h1 : w1.heap.size ≤ i := hi.1; omega)))
                  have H3_1 := hide (show OwnX kSp (fun i => i < N0 ∨ NN ≤ i) (wd3.setCell ⟨w.heap.size, 1, none⟩ (.slice a1 P.length cc1)) (.slice a3 S.length cc3) S from H3.out.set (p := ⟨w.heap.size, 1, none⟩) (by show ¬ (w.heap.size < N0 ∨ NN ≤ w.heap.size); omega) (.slice a1 P.length cc1))
                  have hN1 : NN ≤ (wd3.setCell ⟨w.heap.size, 1, none⟩ (.slice a1 P.length cc1)).heap.size := by simp [World.setCell]; exact hN2b
                  clear H1c H2c H3
                  go_simp
                  refine hK.out _ _ (fun h => absurd h (by decide)) ?_
                  clear hK K 
                  try simp only [Act.put, List.setIfInBounds_toArray, List.set_cons_zero, List.set_cons_succ]
                  clear st1 ff1
                  generalize wd3.setCell ⟨w.heap.size, 1, none⟩ (.slice a1 P.length cc1) = wd4 at kR1 kZ1 B1 H1_1 H2_1 H3_1 hN1 ⊢
                  have hNz := hN1
                  refine wpAnyL_one (i := 11) (o := _) rfl (by kernel_rfl) (by rfl) (fun K hK => ?_)
                  go_simp
                  refine hK.out _ _ (fun h => absurd h (by decide)) ?_
                  clear hK K
                  try simp only [Act.put, List.setIfInBounds_toArray, List.set_cons_zero, List.set_cons_succ]
                  refine wpAnyL_one (i := 12) (o := _) rfl (by kernel_rfl) (by rfl) (fun K hK => ?_)
                  have st2 := cell_of kR1 2
                  have ff2 := free_of kR1 2
                  simp at st2
                  have kR2 := set_in kR1 2 (.slice a2 G.length cc2)
                  simp at kR2
                  have kZ2 := keep_set (p := ⟨w.heap.size, 2, none⟩) kZ1 (by show w.heap.size ≠ w.heap.size + 1; omega) (.slice a2 G.length cc2)
                  have B2 := B1.setCell (p := ⟨w.heap.size, 2, none⟩) (Nat.le_refl _) (.slice a2 G.length cc2)
                  have H1_2 := hide (show HInts (fun i => w1.heap.size ≤ i ∧ i < NN) (wd4.setCell ⟨w.heap.size, 2, none⟩ (.slice a2 G.length cc2)) (.slice a1 P.length cc1) P from H1_1.out.keep (by simp [World.setCell]) (fun i hi _ => heap_set_other _ _ _ (by show w.heap.size ≠ i; have h1 : w1.heap.size ≤ i := hi.1; omega)))
                  have H2_2 := hide (show HInts (fun i => w1.heap.size ≤ i ∧ i < NN) (wd4.setCell ⟨w.heap.size, 2, none⟩ (.slice a2 G.length cc2)) (.slice a2 G.length cc2) G from H2_1.out.keep (by simp [World.setCell]) (fun i hi _ => heap_set_other _ _ _ (by show w.heap.size ≠ i; have h1 : w1.heap.size ≤ i := hi.1; omega)))
                  have H3_2 := hide (show OwnX kSp (fun i => i < N0 ∨ NN ≤ i) (wd4.setCell ⟨w.heap.size, 2, none⟩ (.slice a2 G.length cc2)) (.slice a3 S.length cc3) S from H3_1.out.set (p := ⟨w.heap.size, 2, none⟩) (by show ¬ (w.heap.size < N0 ∨ NN ≤ w.heap.size); omega) (.slice a2 G.length cc2))
                  have hN2 : NN ≤ (wd4.setCell ⟨w.heap.size, 2, none⟩ (.slice a2 G.length cc2)).heap.size := by simp [World.setCell]; exact hNz
                  clear H1_1 H2_1 H3_1
                  go_simp
                  refine hK.out _ _ (fun h => absurd h (by decide)) ?_
                  clear hK K hNz
                  try simp only [Act.put, List.setIfInBounds_toArray, List.set_cons_zero, List.set_cons_succ]
                  clear st2 ff2
                  generalize wd4.setCell ⟨w.heap.size, 2, none⟩ (.slice a2 G.length cc2) = wd6 at kR2 kZ2 B2 H1_2 H2_2 H3_2 hN2 ⊢
                  have hNz := hN2
                  refine wpAnyL_one (i := 13) (o := _) rfl (by kernel_rfl) (by rfl) (fun K hK => ?_)
                  go_simp
                  refine hK.out _ _ (fun h => absurd h (by decide)) ?_
                  clear hK K
                  try simp only [Act.put, List.setIfInBounds_toArray, List.set_cons_zero, List.set_cons_succ]
                  refine wpAnyL_one (i := 14) (o := _) rfl (by kernel_rfl) (by rfl) (fun K hK => ?_)
                  have st3 := cell_of kR2 3
                  have ff3 := free_of kR2 3
                  simp at st3
                  have kR3 := set_in kR2 3 (.slice a3 S.length cc3)
                  simp at kR3
                  have kZ3 := keep_set (p := ⟨w.heap.size, 3, none⟩) kZ2 (by show w.heap.size ≠ w.heap.size + 1; omega) (.slice a3 S.length cc3)
                  have B3 := B2.setCell (p := ⟨w.heap.size, 3, none⟩) (Nat.le_refl _) (.slice a3 S.length cc3)
                  have H1_3 := hide (show HInts (fun i => w1.heap.size ≤ i ∧ i < NN) (wd6.setCell ⟨w.heap.size, 3, none⟩ (.slice a3 S.length cc3)) (.slice a1 P.length cc1) P from H1_2.out.keep (by simp [World.setCell]) (fun i hi _ => heap_set_other _ _ _ (by show w.heap.size ≠ i; have h1 : w1.heap.size ≤ i := hi.1; omega)))
                  have H2_3 := hide (show HInts (fun i => w1.heap.size ≤ i ∧ i < NN) (wd6.setCell ⟨w.heap.size, 3, none⟩ (.slice a3 S.length cc3)) (.slice a2 G.length cc2) G from H2_2.out.keep (by simp [World.setCell]) (fun i hi _ => heap_set_other _ _ _ (by show w.heap.size ≠ i; have h1 : w1.heap.size ≤ i := hi.1; omega)))
                  have H3_3 := hide (show OwnX kSp (fun i => i < N0 ∨ NN ≤ i) (wd6.setCell ⟨w.heap.size, 3, none⟩ (.slice a3 S.length cc3)) (.slice a3 S.length cc3) S from H3_2.out.set (p := ⟨w.heap.size, 3, none⟩) (by show ¬ (w.heap.size < N0 ∨ NN ≤ w.heap.size); omega) (.slice a3 S.length cc3))
                  have hN3 : NN ≤ (wd6.setCell ⟨w.heap.size, 3, none⟩ (.slice a3 S.length cc3)).heap.size := by simp [World.setCell]; exact hNz
                  clear H1_2 H2_2 H3_2
                  go_simp
                  refine hK.out _ _ (fun h => absurd h (by decide)) ?_
                  clear hK K hNz
                  try simp only [Act.put, List.setIfInBounds_toArray, List.set_cons_zero, List.set_cons_succ]
                  clear st3 ff3
                  generalize wd6.setCell ⟨w.heap.size, 3, none⟩ (.slice a3 S.length cc3) = wd8 at kR3 kZ3 B3 H1_3 H2_3 H3_3 hN3 ⊢
                  have hNz := hN3
                  refine wpAnyL_done (by kernel_rfl) ?_ _
                  go_wp2_with fail
                  go_meet
                  case rel => exact ⟨a1, cc1, a2, cc2, a3, cc3, NN, kR3, kZ3, H1_3.out, H2_3.out, H3_3.out, HK3.out, hQ1, hN3, B3⟩
  case rest =>
    obtain ⟨a1, cc1, a2, cc2, a3, cc3, N, kRb, kZb, h1, h2, h3, hk3, hN1, hN2, B2⟩ := hcut
    clear c0 c1 c2 c3 kR kZ HP HG HS
    have yRb := lt_of kRb
    obtain ⟨okz, hokz⟩ : ∃ okz : Nat → Prop, ∀ b, okz b ↔ (b < N0 ∨ w1.heap.size ≤ b) := ⟨fun b => b < N0 ∨ w1.heap.size ≤ b, fun b => Iff.rfl⟩
    have HOKZ := hide hokz
    clear hokz
    have yZb := lt_of kZb
    have hgg : ∃ gg, N ≤ gg ∧ ((S.length = 0) ∨ (a3 = some ⟨gg, 0, none⟩ ∧ S.length ≤ cc3 ∧ cc3 ≤ maxLen ∧ StepsAt wc gg okz S.length (Lo.Qi S 0))) := by
      by_cases h0 : S.length = 0
      · exact ⟨N, Nat.le_refl _, .inl h0⟩
      · obtain ⟨g, cp, e1, e2, e3, e4⟩ := StepsAt.of (z := okz) (fun i hi => (HOKZ.out i).2 (hi.elim .inl fun h => .inr (Nat.le_trans hN1 h))) h3 (by omega)
        injection e1 with q1 q2 q3
        subst q1 q3
        have e5 : Lo.Qi S 0 = fun j => S.getD j ⟨0, 0, 0, 0, [], []⟩ := by
          funext j
          exact if_neg (Nat.not_lt_zero _)
        exact ⟨g, hk3 g rfl, .inr ⟨rfl, e2, e3, by rw [e5]; exact e4⟩⟩
    obtain ⟨gg, hgN, hgg⟩ := hgg
    have H1 := hide h1
    have H2 := hide h2
    have H3 := hide h3
    have HGG := hide hgg
    have HST := hide (show S.length = 0 ∨ StepsAt wc gg okz S.length (Lo.Qi S 0) from hgg.elim .inl fun h => .inr h.2.2.2)
    have r3 := cell_of kRb 3
    simp at r3
    clear h1 h2 h3 hk3 hgg
    obtain ⟨w2, hw2⟩ : ∃ w2, w2 = wc := ⟨_, rfl⟩
    subst hw2
    go_wp2_with fail
    go_loopg [20] S.length (fun k v wr => ∃ i, i ≤ S.length ∧ k = S.length - i ∧ v = .int .i64 (i : Nat) ∧ Hid (S.length = 0 ∨ StepsAt wr gg okz S.length (Lo.Qi S i)) ∧ Aside [gg] w2.heap.size w2 wr)
    case atStart => exact ⟨0, Nat.zero_le _, rfl, rfl, HST, Aside.refl _⟩
    case round =>
      clear HST r3
      obtain ⟨i, hi, rfl, rfl, HST, hbr⟩ := hrel
      have kRr := hbr.keep kRb yRb (by simp; omega)
      have kZr := hbr.keep kZb yZb (by simp; omega)
      have r0 := cell_of kRr 0
      have r1 := cell_of kRr 1
      have r2 := cell_of kRr 2
      have r3 := cell_of kRr 3
      simp at r0 r1 r2 r3
      by_cases hlt : i < S.length
      case neg =>
        have hin : i = S.length := by omega
        have kE := kZr
        have z0 := cell_of kZr 0
        have z1 := cell_of kZr 1
        have z2 := cell_of kZr 2
        have z3 := cell_of kZr 3
        have f0 := free_of kZr 0
        have f1 := free_of kZr 1
        have f2 := free_of kZr 2
        have f3 := free_of kZr 3
        simp at z0 z1 z2 z3
        have KE := set_in (set_in (set_in (set_in kZr 0 (.int .i64 c)) 1 (.slice a1 P.length cc1)) 2 (.slice a2 G.length cc2)) 3 (.slice a3 S.length cc3)
        have e0 := cell_of KE 0
        have e1 := cell_of KE 1
        have e2 := cell_of KE 2
        have e3 := cell_of KE 3
        simp at e0 e1 e2 e3
        have aE : Aside [w.heap.size + 1] wr.heap.size wr ((((wr.setCell ⟨w.heap.size + 1, 0, none⟩ (.int .i64 c)).setCell ⟨w.heap.size + 1, 1, none⟩ (.slice a1 P.length cc1)).setCell ⟨w.heap.size + 1, 2, none⟩ (.slice a2 G.length cc2)).setCell ⟨w.heap.size + 1, 3, none⟩ (.slice a3 S.length cc3)) :=
          (((Aside.setCell (p := ⟨w.heap.size + 1, 0, none⟩) (by simp) _).trans (Aside.setCell (B := wr.heap.size) (p := ⟨w.heap.size + 1, 1, none⟩) (by simp) _) (Nat.le_refl _)).trans (Aside.setCell (B := wr.heap.size) (p := ⟨w.heap.size + 1, 2, none⟩) (by simp) _) (Nat.le_refl _)).trans (Aside.setCell (B := wr.heap.size) (p := ⟨w.heap.size + 1, 3, none⟩) (by simp) _) (Nat.le_refl _)
        have hb1 : ∀ v l, HInts (fun i => w1.heap.size ≤ i ∧ i < N) w2 v l → HInts okz ((((wr.setCell ⟨w.heap.size + 1, 0, none⟩ (.int .i64 c)).setCell ⟨w.heap.size + 1, 1, none⟩ (.slice a1 P.length cc1)).setCell ⟨w.heap.size + 1, 2, none⟩ (.slice a2 G.length cc2)).setCell ⟨w.heap.size + 1, 3, none⟩ (.slice a3 S.length cc3)) v l := fun v l h =>
          ((h.keep hbr.size (fun i hi hl => hbr.block i hl (by simp; omega))).keep aE.size (fun i hi hl => aE.block i hl (by simp; omega))).wide fun i hi _ => (HOKZ.out i).2 (.inr hi.1)
        have hS3 : HSps okz wr (.slice a3 S.length cc3) (S.map Lo.ownS) := by
          by_cases h0 : S.length = 0
          · have hS0 : S = [] := List.length_eq_zero_iff.1 h0
            obtain ⟨qa, qc, q1, q2, q3⟩ := H3.out.form
            injection q1 with y1 y2 y3
            subst y3
            exact ⟨fun _ => [], ⟨a3, cc3, by rw [List.length_map], by rw [List.length_map]; exact q2, q3, fun h => absurd h (by rw [List.length_map]; omega)⟩, fun j hj => absurd hj (by rw [List.length_map]; omega)⟩
          · obtain ⟨q1, q2, q3, -⟩ := HGG.out.resolve_left h0
            have q4 := HST.out.resolve_left h0
            rw [q1]
            refine StepsAt.row q4 (by rw [List.length_map]) (fun j hj => ?_) q2 q3 ((HOKZ.out gg).2 (.inr (Nat.le_trans hN1 hgN)))
            rw [List.length_map] at hj
            unfold Lo.Qi
            rw [if_pos (by omega), List.getElem_map, List.getD_eq_getElem?_getD, List.getElem?_eq_getElem hj]
            rfl
        have HWI := hide (fun i (hi : okz i) (_ : i < ((((wr.setCell ⟨w.heap.size + 1, 0, none⟩ (.int .i64 c)).setCell ⟨w.heap.size + 1, 1, none⟩ (.slice a1 P.length cc1)).setCell ⟨w.heap.size + 1, 2, none⟩ (.slice a2 G.length cc2)).setCell ⟨w.heap.size + 1, 3, none⟩ (.slice a3 S.length cc3)).heap.size) => (show i < N0 ∨ w.heap.size ≤ i from ((HOKZ.out i).1 hi).elim .inl fun h => .inr (Nat.le_trans b1.size h)))
        have HE := hide (And.intro (hb1 _ _ H1.out) (And.intro (hb1 _ _ H2.out) (hS3.keep aE.size (fun i hi hl => aE.block i hl (by have := (HOKZ.out i).1 hi; simp; omega)))))
        have Bw : Below w.heap.size w wr := B2.trans ((hbr.mono (B' := w.heap.size) (by omega)).below (by intro k hk; simp at hk; omega))
        have BE := (((Bw.setCell (p := ⟨w.heap.size + 1, 0, none⟩) (by simp) (.int .i64 c)).setCell (p := ⟨w.heap.size + 1, 1, none⟩) (by simp) (.slice a1 P.length cc1)).setCell (p := ⟨w.heap.size + 1, 2, none⟩) (by simp) (.slice a2 G.length cc2)).setCell (p := ⟨w.heap.size + 1, 3, none⟩) (by simp) (.slice a3 S.length cc3)
        clear KE aE hb1 hS3 H1 H2 H3 HGG HST kE kRr kZr
        go_wp2
        exact bodyPost_ret (v := .agg #[.int .i64 c, .slice a1 P.length cc1, .slice a2 G.length cc2, .slice a3 S.length cc3]) (by simp [results, Tryd.results28, go_sem, e0, e1, e2, e3]) rfl ⟨⟨_, _, _, _, _, _, rfl, HE.out.1.wide HWI.out, HE.out.2.1.wide HWI.out, HE.out.2.2.wide HWI.out, BE⟩⟩
      case pos =>
        obtain ⟨qa, qc1, qc2, -⟩ := HGG.out.resolve_left (by omega)
        subst qa
        have hst := HST.out.resolve_left (by omega)
        have hgl := hst.lt
        have hel := HEL.out _ (List.getElem_mem hlt)
        have hQ : Lo.Qi S i i = S[i] := by
          unfold Lo.Qi
          rw [if_neg (Nat.lt_irrefl _), List.getD_eq_getElem?_getD, List.getElem?_eq_getElem hlt]
          rfl
        have hQ2 : ∀ F', F' = (if Lo.folds S[i] then (S[i]).F else []) → (fun q => if q = i then (⟨(S[i]).op, (S[i]).k, (S[i]).n, (S[i]).tgt, F', (S[i]).E⟩ : Lo.Sp) else Lo.Qi S i q) = Lo.Qi S (i + 1) := by
          intro F' hF'
          funext q
          by_cases e : q = i
          · subst e
            rw [if_pos rfl]
            unfold Lo.Qi
            rw [if_pos (by omega), List.getD_eq_getElem?_getD, List.getElem?_eq_getElem hlt, hF']
            rfl
          · rw [if_neg e]
            unfold Lo.Qi
            by_cases e2 : q < i
            · rw [if_pos e2, if_pos (by omega)]
            · rw [if_neg e2, if_neg (by omega)]
        have hall := hst
        obtain ⟨cur, hcur, hcs, hall⟩ := hall
        obtain ⟨y, hat, hy⟩ := hall i hlt
        rw [hQ] at hat hy
        generalize S[i] = s at hat hy hel hQ hQ2
        obtain ⟨e0, e1, e2, e3, e4, e5⟩ := hat
        have HY := hide hy
        have HSt := hide hst
        have HQ := hide hQ
        have HQ2 := hide hQ2
        have hgz : gg ≠ w.heap.size + 1 := by omega
        have hgw : gg ≠ w.heap.size := by omega
        have hzz : w.heap.size + 1 < wr.heap.size := lt_of kZr
        clear hall hcur hcs hy hst hQ hQ2 HST kRr kZr r0 r1 r2 kRb kZb
        go_wp2_with fail
        refine (clone93_any (l := s.E) HY.out.E hel.1).mono ?_
        rintro e w5 ⟨v5, rfl, own5, b5⟩
        obtain ⟨a5, cc5, rfl, -, -⟩ := own5.form
        have hst5 := HSt.out.under b5
        have hE5 : HPu (fun b => b ≠ gg ∧ okz b) w5 (.slice a5 s.E.length cc5) s.E := (pus_row own5.row).wide fun i hi _ => ⟨by have : wr.heap.size ≤ i := hi; omega, (HOKZ.out i).2 (.inr (by have h1 : wr.heap.size ≤ i := hi; have h2 := hbr.size; omega))⟩
        have hst6 := hst5.sameE hlt (by rw [HQ.out]; exact hE5)
        obtain ⟨cur5, hcur5, -, -⟩ := hst5
        have fr5 := free_of hcur5 (i * 6 + 5)
        have e5b := (b5.cell (p := ⟨gg, i * 6 + 5, none⟩) hgl).trans e5
        have B5 := hbr.trans (aside (S := [gg]) b5) hbr.size
        have B6 := B5.trans (Aside.setCell (S := [gg]) (B := w5.heap.size) (p := ⟨gg, i * 6 + 5, none⟩) (by simp) (.slice a5 s.E.length cc5)) B5.size
        have HS6 := hide hst6
        clear own5 hE5 hst6 hcur5 HSt HY r3 e0 e1 e2 e3 e4 e5
        go_upto_region 7 with fail
        generalize w5.setCell ⟨gg, i * 6 + 5, none⟩ (.slice a5 s.E.length cc5) = w6 at HS6 B6 ⊢
        clear fr5 e5b B5
        obtain ⟨cur6, hcur6, -, hall6⟩ := HS6.out
        obtain ⟨y6, hat6, hy6⟩ := hall6 i hlt
        rw [HQ.out] at hat6 hy6
        obtain ⟨d0, d1, d2, d3, d4, d5⟩ := hat6
        have hg6 := lt_of hcur6
        have HY6 := hide hy6
        clear hall6 hy6 hcur6
        go_wp2_with fail
        refine (folds40_any s.op s.k s.n s.tgt s.F s.E y6.aF y6.aE y6.nF y6.cF y6.nE y6.cE w6).mono ?_
        rintro e w7 ⟨rfl, b7⟩
        have B7 := B6.trans (aside (S := [gg]) b7) B6.size
        have hst7 := HS6.out.under b7
        have HY7 := hide (HY6.out.under b7)
        have d4b := (b7.cell (p := ⟨gg, i * 6 + 4, none⟩) hg6).trans d4
        have hg7 := hst7.lt
        have hef : Lo.folds ⟨s.op, s.k, s.n, s.tgt, s.F, s.E⟩ = Lo.folds s := rfl
        rw [hef]
        have hq2 := HQ2.out
        have hfl := hel.2
        generalize Lo.folds s = fo at hq2 hfl ⊢
        have HQ3 := hide hq2
        have HS7 := hide hst7
        have hz7 : w.heap.size + 1 < w7.heap.size := Nat.lt_of_lt_of_le yZb B7.size
        clear hst7 hef hq2 HQ2 HY6 d0 d1 d2 d3 d4 d5 HS6
        cases fo
        case false =>
          have hst8 := HS7.out.setF hlt (a := none) (m := 0) (c := 0) (F' := []) ⟨fun _ => [], ⟨none, 0, rfl, Nat.le_refl _, by decide, fun h => absurd h (by decide)⟩, fun j hj => absurd hj (Nat.not_lt_zero _)⟩
          rw [HQ.out, HQ3.out [] (by simp)] at hst8
          obtain ⟨cur7, hcur7, -, -⟩ := HS7.out
          have fr7 := free_of hcur7 (i * 6 + 4)
          have B8 := B7.trans (Aside.setCell (S := [gg]) (B := w7.heap.size) (p := ⟨gg, i * 6 + 4, none⟩) (by simp) (.slice none 0 0)) B7.size
          have HS8 := hide hst8
          clear hst8 hcur7 HS7 HQ3
          go_wp2_with fail
          go_roundg (S.length - (i + 1))
          case measure => omega
          case rel => exact ⟨i + 1, by omega, rfl, by go_num, hide (.inr HS8.out), B8⟩
        case true =>
          go_wp2_with fail
          refine (clone93_any (l := s.F) HY7.out.F (hfl trivial)).mono ?_
          rintro e w9 ⟨v9, rfl, own9, b9⟩
          obtain ⟨a9, cc9, rfl, -, -⟩ := own9.form
          have hst9 := HS7.out.under b9
          have hF9 : HPu (fun b => b ≠ gg ∧ okz b) w9 (.slice a9 s.F.length cc9) s.F := (pus_row own9.row).wide fun i hi _ => ⟨by have : w7.heap.size ≤ i := hi; omega, (HOKZ.out i).2 (.inr (by have h1 : w7.heap.size ≤ i := hi; have h2 := B7.size; omega))⟩
          have hst8 := hst9.setF hlt hF9
          rw [HQ.out, HQ3.out s.F (by simp)] at hst8
          obtain ⟨cur9, hcur9, -, -⟩ := hst9
          have fr9 := free_of hcur9 (i * 6 + 4)
          have d4c := (b9.cell (p := ⟨gg, i * 6 + 4, none⟩) hg7).trans d4b
          have B9 := B7.trans (aside (S := [gg]) b9) B7.size
          have B8 := B9.trans (Aside.setCell (S := [gg]) (B := w9.heap.size) (p := ⟨gg, i * 6 + 4, none⟩) (by simp) (.slice a9 s.F.length cc9)) B9.size
          have HS8 := hide hst8
          clear hst8 hcur9 HS7 HQ3 own9 hF9 d4b
          go_wp2_with fail
          go_roundg (S.length - (i + 1))
          case measure => omega
          case rel => exact ⟨i + 1, by omega, rfl, by go_num, hide (.inr HS8.out), B8⟩
end Go.Proofs.YtgjdkgkgbmbffaaDoor
