import Derived.Test.YtbiomnnlpafciaaDoorS21
import Derived.Test.YtbiomnnlpafciaaDoorS09
import Derived.WalkKit
import Derived.WalkSpells
import Derived.IntWalk
import Derived.Deep.Cut
import Derived.Deep.LoopGhost
import Derived.Laws.Cover1
import Derived.Lib.Hide
set_option linter.unusedVariables false
set_option linter.unusedSimpArgs false
set_option maxHeartbeats 64000000
set_option maxRecDepth 100000
namespace Go.Proofs.YtbiomnnlpafciaaDoor
open Go.RowKit Go.IntWalk
set_option linter.unusedVariables false
set_option linter.unusedSimpArgs false
theorem own_only {α : Type} {T : Kind α} {B : Nat} {w : World} {v : Value} {l : List α} {sb : Nat} {cs : Array Value} {t : TypeId} (h : OwnL T B w v l) (hE : ∀ ok ok' w cs a, T.E ok w cs a → T.E ok' w cs a) (hs : w.heap[sb]? = some (.cells cs t (0, 0))) (ht : T.ty ≠ t) : HRow T (fun i => B ≤ i ∧ i < w.heap.size ∧ i ≠ sb) w v l := by
  have hx : OwnX T (fun i => v.ownBlock = some i) w v l := by
    obtain ⟨D, ⟨h1, h2⟩, h3⟩ := h
    refine ⟨D, ⟨h1, ?_⟩, fun k hk => hk, fun j hj => hE _ _ _ _ _ (h3 j hj)⟩
    rcases h2 with h | ⟨g, cap, cur, e1, e2, e3⟩
    · exact .inl h
    · exact .inr ⟨g, cap, cur, e1, Nat.zero_le _, e3⟩
  have hl := h.lt
  refine hx.row.wide fun i hi _ => ⟨(hl i hi).1, (hl i hi).2, ?_⟩
  rintro rfl
  obtain ⟨D, ⟨h1, h2⟩, h3⟩ := h
  rcases h2 with ⟨e, _⟩ | ⟨g, cap, cur, e1, e2, e3, _⟩
  · rw [e] at hi; cases hi
  · rw [e1] at hi
    injection hi with hi
    have hi2 : g = i := hi
    rw [hi2, hs] at e3
    injection e3 with e3
    injection e3 with _ e4
    exact ht e4.symm
theorem own_down2 {α : Type} {T : Kind α} {B B' : Nat} {w : World} {v : Value} {l : List α} (h : OwnL T B w v l) (hb : B' ≤ B) : OwnL T B' w v l := ownL_of (ownX_of h) (fun i hi => Nat.le_trans hb hi.1)
/-- where CopyLoops stands -/
structure ClAt (w6 wr : World) (sb : Nat) (c : Int) (vP vG : Value) (S : List Lo.Sp) (i : Nat) : Prop where
  row : ∃ a cc, wr.heap[sb]? = some (.cells #[.int .i64 c, vP, vG, .slice a i cc] 25 (0, 0)) ∧ OwnL kSp w6.heap.size wr (.slice a i cc) (S.take i)
  frame : Aside [sb] w6.heap.size w6 wr
structure CopyP (w : World) (L : Lo.Lp) (e : Ending) (w' : World) : Prop where
  out : ∃ a1 c1 a2 c2 a3 c3, e = .returned (.agg #[.int .i64 L.c, .slice a1 L.P.length c1, .slice a2 L.G.length c2, .slice a3 L.S.length c3]) ∧ HLp (fun i => w.heap.size ≤ i) w' a1 a2 a3 c1 c2 c3 L ∧ Below w.heap.size w w'
set_option maxHeartbeats 32000000 in
theorem copyLoops8_any {ok : Nat → Prop} {w : World} {aP aG aS : Option Addr} {cP cG cS : Nat} {L : Lo.Lp} (hL : HLp ok w aP aG aS cP cG cS L) (hPl : L.P.length ≤ 1000000) (hGl : L.G.length ≤ 1000000) (hSl : L.S.length ≤ 1000000) (hEl : ∀ s ∈ L.S, s.F.length ≤ 1000000 ∧ s.E.length ≤ 1000000) :
    Calls Tryd.prog 7 #[.agg #[.int .i64 L.c, .slice aP L.P.length cP, .slice aG L.G.length cG, .slice aS L.S.length cS]] w (CopyP w L) := by
  obtain ⟨c, P, G, S⟩ := L
  obtain ⟨hP, hG, hS, hW⟩ := hL
  dsimp only at hP hG hS hW hPl hGl hSl hEl ⊢
  have b1 : Below w.heap.size w ((w.alloc (.cells #[.int .i64 c, .slice aP P.length cP, .slice aG G.length cG, .slice aS S.length cS] 25 (0, 0))).alloc (.cells #[.int .i64 0, .slice none 0 0, .slice none 0 0, .slice none 0 0] 25 (0, 0))) := ((Below.refl _ _).alloc (Nat.le_refl _) _).alloc (by simp) _
  have kS : (((w.alloc (.cells #[.int .i64 c, .slice aP P.length cP, .slice aG G.length cG, .slice aS S.length cS] 25 (0, 0))).alloc (.cells #[.int .i64 0, .slice none 0 0, .slice none 0 0, .slice none 0 0] 25 (0, 0)))).heap[w.heap.size]? = some (.cells #[.int .i64 c, .slice aP P.length cP, .slice aG G.length cG, .slice aS S.length cS] 25 (0, 0)) := (Below.heap_alloc _ _ _ (by simp)).trans (heap_new w _)
  have kZ : (((w.alloc (.cells #[.int .i64 c, .slice aP P.length cP, .slice aG G.length cG, .slice aS S.length cS] 25 (0, 0))).alloc (.cells #[.int .i64 0, .slice none 0 0, .slice none 0 0, .slice none 0 0] 25 (0, 0)))).heap[w.heap.size + 1]? = some (.cells #[.int .i64 0, .slice none 0 0, .slice none 0 0, .slice none 0 0] 25 (0, 0)) := by
    have := heap_new (w.alloc (.cells #[.int .i64 c, .slice aP P.length cP, .slice aG G.length cG, .slice aS S.length cS] 25 (0, 0))) (.cells #[.int .i64 0, .slice none 0 0, .slice none 0 0, .slice none 0 0] 25 (0, 0))
    simpa using this
  have HP := hide (show HInts (fun i => i < w.heap.size) _ (.slice aP P.length cP) P from (hP.wide fun i _ h => h).under b1)
  have HG := hide (show HInts (fun i => i < w.heap.size) _ (.slice aG G.length cG) G from (hG.wide fun i _ h => h).under b1)
  have HS := hide (show HSps (fun i => i < w.heap.size) _ (.slice aS S.length cS) S from (hS.wide fun i _ h => h).under b1)
  have HF := hide hEl
  have HWd := hide hW
  clear hP hG hS hEl hW
  go_enter Tryd.func7, Tryd.ntmps7
  go_upto_region 2 with fail
  generalize ((w.alloc (.cells #[.int .i64 c, .slice aP P.length cP, .slice aG G.length cG, .slice aS S.length cS] 25 (0, 0))).alloc (.cells #[.int .i64 0, .slice none 0 0, .slice none 0 0, .slice none 0 0] 25 (0, 0))) = w1 at b1 kS kZ HP HG HS ⊢
  have k0 := cell_of kS 0
  have k1 := cell_of kS 1
  have k2 := cell_of kS 2
  simp at k0 k1 k2
  have yS := lt_of kS
  go_cut [5] (fun v wd => ∃ (sb : Nat) (a1 a2 : Option Addr) (c1 c2 : Nat), v = .pointer (some ⟨sb, 0, none⟩) ∧ Hid (wd.heap[sb]? = some (.cells #[.int .i64 c, .slice a1 P.length c1, .slice a2 G.length c2, .slice none 0 0] 25 (0, 0)) ∧ HInts (fun i => w1.heap.size ≤ i ∧ i < wd.heap.size ∧ i ≠ sb) wd (.slice a1 P.length c1) P ∧ HInts (fun i => w1.heap.size ≤ i ∧ i < wd.heap.size ∧ i ≠ sb) wd (.slice a2 G.length c2) G ∧ w1.heap.size ≤ sb) ∧ Below w1.heap.size w1 wd)
  case first =>
    refine wp_region_late (fun w' => Below w1.heap.size w1 w') (fun _ => false) (by kernel_rfl) ?_
    have hH0 : Below w1.heap.size w1 w1.drew := (Below.refl _ _).drew
    generalize w1.drew = wd0 at hH0 ⊢
    refine' wpAnyL_take (i := 0) (oi := ⟨some 10, _, _, _, _, _⟩) (v := _) rfl (by kernel_rfl) (by kernel_rfl) (by kernel_rfl) (by kernel_rfl) (fun _ _ _ h => h) hH0 (by rfl) ?hyv ?onw
    case hyv =>
      intro wz hSw
      go_simp
      try rfl
    case onw =>
      try simp only [Act.put, List.setIfInBounds_toArray, List.set_cons_zero, List.set_cons_succ]
      refine' wpAnyL_take (i := 1) (oi := ⟨some 11, _, _, _, _, _⟩) (v := _) rfl (by kernel_rfl) (by kernel_rfl) (by kernel_rfl) (by kernel_rfl) (fun _ _ _ h => h) hH0 (by rfl) ?hyv ?onw
      case hyv =>
        intro wz hSw
        have zc0 := (hSw.cell (p := ⟨w.heap.size, 0, none⟩) yS).trans k0
        have zc1 := (hSw.cell (p := ⟨w.heap.size, 1, none⟩) yS).trans k1
        have zc2 := (hSw.cell (p := ⟨w.heap.size, 2, none⟩) yS).trans k2
        go_simp
        try rfl
      case onw =>
        try simp only [Act.put, List.setIfInBounds_toArray, List.set_cons_zero, List.set_cons_succ]
        refine' wpAnyL_take (i := 2) (oi := ⟨some 12, _, _, _, _, _⟩) (v := _) rfl (by kernel_rfl) (by kernel_rfl) (by kernel_rfl) (by kernel_rfl) (fun _ _ _ h => h) hH0 (by rfl) ?hyv ?onw
        case hyv =>
          intro wz hSw
          go_simp
          try rfl
        case onw =>
          try simp only [Act.put, List.setIfInBounds_toArray, List.set_cons_zero, List.set_cons_succ]
          refine' wpAnyL_take (i := 3) (oi := ⟨some 13, _, _, _, _, _⟩) (v := _) rfl (by kernel_rfl) (by kernel_rfl) (by kernel_rfl) (by kernel_rfl) (fun _ _ _ h => h) hH0 (by rfl) ?hyv ?onw
          case hyv =>
            intro wz hSw
            go_simp
            try rfl
          case onw =>
            try simp only [Act.put, List.setIfInBounds_toArray, List.set_cons_zero, List.set_cons_succ]
            refine' wpAnyL_take (i := 4) (oi := ⟨some 14, _, _, _, _, _⟩) (v := _) rfl (by kernel_rfl) (by kernel_rfl) (by kernel_rfl) (by kernel_rfl) (fun _ _ _ h => h) hH0 (by rfl) ?hyv ?onw
            case hyv =>
              intro wz hSw
              have zc0 := (hSw.cell (p := ⟨w.heap.size, 0, none⟩) yS).trans k0
              have zc1 := (hSw.cell (p := ⟨w.heap.size, 1, none⟩) yS).trans k1
              have zc2 := (hSw.cell (p := ⟨w.heap.size, 2, none⟩) yS).trans k2
              go_simp
              try rfl
            case onw =>
              try simp only [Act.put, List.setIfInBounds_toArray, List.set_cons_zero, List.set_cons_succ]
              refine' wpAnyL_take (i := 6) (oi := ⟨some 16, _, _, _, _, _⟩) (v := _) rfl (by kernel_rfl) (by kernel_rfl) (by kernel_rfl) (by kernel_rfl) (fun _ _ _ h => h) hH0 (by rfl) ?hyv ?onw
              case hyv =>
                intro wz hSw
                go_simp
                try rfl
              case onw =>
                try simp only [Act.put, List.setIfInBounds_toArray, List.set_cons_zero, List.set_cons_succ]
                refine' wpAnyL_take (i := 7) (oi := ⟨some 17, _, _, _, _, _⟩) (v := _) rfl (by kernel_rfl) (by kernel_rfl) (by kernel_rfl) (by kernel_rfl) (fun _ _ _ h => h) hH0 (by rfl) ?hyv ?onw
                case hyv =>
                  intro wz hSw
                  go_simp
                  try rfl
                case onw =>
                  try simp only [Act.put, List.setIfInBounds_toArray, List.set_cons_zero, List.set_cons_succ]
                  refine' wpAnyL_take (i := 8) (oi := ⟨some 18, _, _, _, _, _⟩) (v := _) rfl (by kernel_rfl) (by kernel_rfl) (by kernel_rfl) (by kernel_rfl) (fun _ _ _ h => h) hH0 (by rfl) ?hyv ?onw
                  case hyv =>
                    intro wz hSw
                    have zc0 := (hSw.cell (p := ⟨w.heap.size, 0, none⟩) yS).trans k0
                    have zc1 := (hSw.cell (p := ⟨w.heap.size, 1, none⟩) yS).trans k1
                    have zc2 := (hSw.cell (p := ⟨w.heap.size, 2, none⟩) yS).trans k2
                    go_simp
                    try rfl
                  case onw =>
                    try simp only [Act.put, List.setIfInBounds_toArray, List.set_cons_zero, List.set_cons_succ]
                    refine wpAnyL_two (i := 5) (j := 11) rfl rfl (by kernel_rfl) (by rfl) (by rfl) (fun K hK => ?_) (fun K hK => ?_)
                    case _ =>
                      obtain ⟨aP1, cP1, wd1, rr1, oP1, bq1⟩ := nil_join kInt (w := wd0) 22 22 Tryd.underlying22 (ok := fun i => i < w.heap.size) (HP.out.under hH0) (fun _ _ _ _ _ h => h) (by show P.length * 8 ≤ _; omega) (by unfold maxLen; omega)
                      refine oper_joinO _ _ 22 rfl _ _ _ (by rfl) (by rfl) rr1 ?_
                      have hH1 : Below w1.heap.size w1 wd1 := hH0.trans (bq1.mono hH0.size)
                      have pP1 := own_down2 oP1 hH0.size
                      clear oP1 rr1
                      refine hK.out _ _ (fun _ => hH1) ?_
                      clear hK K
                      try simp only [Act.put, List.setIfInBounds_toArray, List.set_cons_zero, List.set_cons_succ]
                      refine wpAnyL_two (i := 9) (j := 11) rfl rfl (by kernel_rfl) (by rfl) (by rfl) (fun K hK => ?_) (fun K hK => ?_)
                      case _ =>
                        obtain ⟨aG1, cG1, wd2, rr2, oG1, bq2⟩ := nil_join kInt (w := wd1) 22 22 Tryd.underlying22 (ok := fun i => i < w.heap.size) (HG.out.under hH1) (fun _ _ _ _ _ h => h) (by show G.length * 8 ≤ _; omega) (by unfold maxLen; omega)
                        refine oper_joinO _ _ 22 rfl _ _ _ (by rfl) (by rfl) rr2 ?_
                        have hH2 : Below w1.heap.size w1 wd2 := hH1.trans (bq2.mono hH1.size)
                        have pG1 := own_down2 oG1 hH1.size
                        clear oG1 rr2
                        have pP1_2 := pP1.below bq2
                        refine hK.out _ _ (fun _ => hH2) ?_
                        clear hK K
                        try simp only [Act.put, List.setIfInBounds_toArray, List.set_cons_zero, List.set_cons_succ]
                        refine' wpAnyL_take (i := 10) (oi := ⟨some 20, _, _, _, _, _⟩) (v := _) rfl (by kernel_rfl) (by kernel_rfl) (by kernel_rfl) (by kernel_rfl) (fun _ _ _ h => h) hH2 (by rfl) ?hyv ?onw
                        case hyv =>
                          intro wz hSw
                          go_simp
                          try rfl
                        case onw =>
                          try simp only [Act.put, List.setIfInBounds_toArray, List.set_cons_zero, List.set_cons_succ]
                          refine wpAnyL_one (i := 11) (o := _) rfl (by kernel_rfl) (by rfl) (fun K hK => ?_)
                          go_simp
                          have hH3 : Below w1.heap.size w1 (wd2.alloc (.cells #[.int .i64 0, .slice none 0 0, .slice none 0 0, .slice none 0 0] 25 (0, 0))) := hH2.alloc hH2.size _
                          have kn3 := heap_new wd2 (.cells #[.int .i64 0, .slice none 0 0, .slice none 0 0, .slice none 0 0] 25 (0, 0))
                          have zn3 := hH2.size
                          refine hK.out _ _ (fun _ => hH3) ?_
                          clear hK K
                          try simp only [Act.put, List.setIfInBounds_toArray, List.set_cons_zero, List.set_cons_succ]
                          have pP1_3 := pP1_2.below ((Below.refl _ wd2).alloc (Nat.le_refl _) (.cells #[.int .i64 0, .slice none 0 0, .slice none 0 0, .slice none 0 0] 25 (0, 0)))
                          have pG1_3 := pG1.below ((Below.refl _ wd2).alloc (Nat.le_refl _) (.cells #[.int .i64 0, .slice none 0 0, .slice none 0 0, .slice none 0 0] 25 (0, 0)))
                          generalize wd2.alloc (.cells #[.int .i64 0, .slice none 0 0, .slice none 0 0, .slice none 0 0] 25 (0, 0)) = wd3 at pP1_3 pG1_3 hH3 kn3 ⊢
                          refine wpAnyL_one (i := 12) (o := _) rfl (by kernel_rfl) (by rfl) (fun K hK => ?_)
                          have st0 := cell_of kn3 0
                          have fr0 := free_of kn3 0
                          have st1 := cell_of kn3 1
                          have fr1 := free_of kn3 1
                          have st2 := cell_of kn3 2
                          have fr2 := free_of kn3 2
                          have st3 := cell_of kn3 3
                          have fr3 := free_of kn3 3
                          simp at st0 st1 st2 st3
                          have rP := own_only pP1_3 (fun _ _ _ _ _ h => h) kn3 (by decide)
                          have rG := own_only pG1_3 (fun _ _ _ _ _ h => h) kn3 (by decide)
                          have KR := set_in (set_in (set_in (set_in (kn3) 0 (.int .i64 c)) 1 (.slice aP1 P.length cP1)) 2 (.slice aG1 G.length cG1)) 3 (.slice none 0 0)
                          simp at KR
                          have hH4 := ((((hH3).setCell (p := ⟨wd2.heap.size, 0, none⟩) hH2.size (.int .i64 c)).setCell (p := ⟨wd2.heap.size, 1, none⟩) hH2.size (.slice aP1 P.length cP1)).setCell (p := ⟨wd2.heap.size, 2, none⟩) hH2.size (.slice aG1 G.length cG1)).setCell (p := ⟨wd2.heap.size, 3, none⟩) hH2.size (.slice none 0 0)
                          have hsz : (((((wd3).setCell ⟨wd2.heap.size, 0, none⟩ (.int .i64 c)).setCell ⟨wd2.heap.size, 1, none⟩ (.slice aP1 P.length cP1)).setCell ⟨wd2.heap.size, 2, none⟩ (.slice aG1 G.length cG1)).setCell ⟨wd2.heap.size, 3, none⟩ (.slice none 0 0)).heap.size = wd3.heap.size := by simp [World.setCell]
                          have hone : ∀ (X : World) (u : Value) (j i : Nat), i ≠ wd2.heap.size → (X.setCell ⟨wd2.heap.size, j, none⟩ u).heap[i]? = X.heap[i]? := fun X u j i hi => heap_set_other _ _ _ (by show wd2.heap.size ≠ i; omega)
                          have HFIN := hide (And.intro KR (And.intro (rP.keep (w' := ((((wd3).setCell ⟨wd2.heap.size, 0, none⟩ (.int .i64 c)).setCell ⟨wd2.heap.size, 1, none⟩ (.slice aP1 P.length cP1)).setCell ⟨wd2.heap.size, 2, none⟩ (.slice aG1 G.length cG1)).setCell ⟨wd2.heap.size, 3, none⟩ (.slice none 0 0)) (by omega) (fun i hi _ => by rw [hone _ _ _ i hi.2.2, hone _ _ _ i hi.2.2, hone _ _ _ i hi.2.2, hone _ _ _ i hi.2.2])) (And.intro (rG.keep (w' := ((((wd3).setCell ⟨wd2.heap.size, 0, none⟩ (.int .i64 c)).setCell ⟨wd2.heap.size, 1, none⟩ (.slice aP1 P.length cP1)).setCell ⟨wd2.heap.size, 2, none⟩ (.slice aG1 G.length cG1)).setCell ⟨wd2.heap.size, 3, none⟩ (.slice none 0 0)) (by omega) (fun i hi _ => by rw [hone _ _ _ i hi.2.2, hone _ _ _ i hi.2.2, hone _ _ _ i hi.2.2, hone _ _ _ i hi.2.2])) (And.intro hsz hH2.size))))
                          clear KR rP rG hone hsz
                          go_simp
                          refine hK.out _ _ (fun _ => hH4) ?_
                          clear hK K
                          try simp only [Act.put, List.setIfInBounds_toArray, List.set_cons_zero, List.set_cons_succ]
                          generalize ((((wd3).setCell ⟨wd2.heap.size, 0, none⟩ (.int .i64 c)).setCell ⟨wd2.heap.size, 1, none⟩ (.slice aP1 P.length cP1)).setCell ⟨wd2.heap.size, 2, none⟩ (.slice aG1 G.length cG1)).setCell ⟨wd2.heap.size, 3, none⟩ (.slice none 0 0) = wd4 at hH4 HFIN ⊢
                          refine wpAnyL_done (by kernel_rfl) ?_ _
                          go_wp2_with fail
                          go_meet
                          case rel =>
                            obtain ⟨f1, f2, f3, f5, f6⟩ := HFIN.out
                            refine ⟨wd2.heap.size, _, _, _, _, rfl, hide ⟨f1, ?_, ?_, f6⟩, hH4⟩
                            · rw [f5]; exact longs_row f2
                            · rw [f5]; exact longs_row f3
                      case _ =>
                        go_simp
                        have hH2 : Below w1.heap.size w1 (wd1.alloc (.cells #[.int .i64 0, .slice none 0 0, .slice none 0 0, .slice none 0 0] 25 (0, 0))) := hH1.alloc hH1.size _
                        have kn2 := heap_new wd1 (.cells #[.int .i64 0, .slice none 0 0, .slice none 0 0, .slice none 0 0] 25 (0, 0))
                        have zn2 := hH1.size
                        refine hK.out _ _ (fun _ => hH2) ?_
                        clear hK K
                        try simp only [Act.put, List.setIfInBounds_toArray, List.set_cons_zero, List.set_cons_succ]
                        have pP1_2 := pP1.below ((Below.refl _ wd1).alloc (Nat.le_refl _) (.cells #[.int .i64 0, .slice none 0 0, .slice none 0 0, .slice none 0 0] 25 (0, 0)))
                        generalize wd1.alloc (.cells #[.int .i64 0, .slice none 0 0, .slice none 0 0, .slice none 0 0] 25 (0, 0)) = wd2 at pP1_2 hH2 kn2 ⊢
                        refine wpAnyL_one (i := 9) (o := _) rfl (by kernel_rfl) (by rfl) (fun K hK => ?_)
                        obtain ⟨aG1, cG1, wd3, rr3, oG1, bq3⟩ := nil_join kInt (w := wd2) 22 22 Tryd.underlying22 (ok := fun i => i < w.heap.size) (HG.out.under hH2) (fun _ _ _ _ _ h => h) (by show G.length * 8 ≤ _; omega) (by unfold maxLen; omega)
                        refine oper_joinO _ _ 22 rfl _ _ _ (by rfl) (by rfl) rr3 ?_
                        have kn2_3 := (bq3.block _ (lt_of kn2)).trans kn2
                        have hH3 : Below w1.heap.size w1 wd3 := hH2.trans (bq3.mono hH2.size)
                        have pG1 := own_down2 oG1 hH2.size
                        clear oG1 rr3
                        have pP1_3 := pP1_2.below bq3
                        refine hK.out _ _ (fun _ => hH3) ?_
                        clear hK K
                        try simp only [Act.put, List.setIfInBounds_toArray, List.set_cons_zero, List.set_cons_succ]
                        refine' wpAnyL_take (i := 10) (oi := ⟨some 20, _, _, _, _, _⟩) (v := _) rfl (by kernel_rfl) (by kernel_rfl) (by kernel_rfl) (by kernel_rfl) (fun _ _ _ h => h) hH3 (by rfl) ?hyv ?onw
                        case hyv =>
                          intro wz hSw
                          go_simp
                          try rfl
                        case onw =>
                          try simp only [Act.put, List.setIfInBounds_toArray, List.set_cons_zero, List.set_cons_succ]
                          refine wpAnyL_one (i := 12) (o := _) rfl (by kernel_rfl) (by rfl) (fun K hK => ?_)
                          have st0 := cell_of kn2_3 0
                          have fr0 := free_of kn2_3 0
                          have st1 := cell_of kn2_3 1
                          have fr1 := free_of kn2_3 1
                          have st2 := cell_of kn2_3 2
                          have fr2 := free_of kn2_3 2
                          have st3 := cell_of kn2_3 3
                          have fr3 := free_of kn2_3 3
                          simp at st0 st1 st2 st3
                          have rP := own_only pP1_3 (fun _ _ _ _ _ h => h) kn2_3 (by decide)
                          have rG := own_only pG1 (fun _ _ _ _ _ h => h) kn2_3 (by decide)
                          have KR := set_in (set_in (set_in (set_in (kn2_3) 0 (.int .i64 c)) 1 (.slice aP1 P.length cP1)) 2 (.slice aG1 G.length cG1)) 3 (.slice none 0 0)
                          simp at KR
                          have hH4 := ((((hH3).setCell (p := ⟨wd1.heap.size, 0, none⟩) hH1.size (.int .i64 c)).setCell (p := ⟨wd1.heap.size, 1, none⟩) hH1.size (.slice aP1 P.length cP1)).setCell (p := ⟨wd1.heap.size, 2, none⟩) hH1.size (.slice aG1 G.length cG1)).setCell (p := ⟨wd1.heap.size, 3, none⟩) hH1.size (.slice none 0 0)
                          have hsz : (((((wd3).setCell ⟨wd1.heap.size, 0, none⟩ (.int .i64 c)).setCell ⟨wd1.heap.size, 1, none⟩ (.slice aP1 P.length cP1)).setCell ⟨wd1.heap.size, 2, none⟩ (.slice aG1 G.length cG1)).setCell ⟨wd1.heap.size, 3, none⟩ (.slice none 0 0)).heap.size = wd3.heap.size := by simp [World.setCell]
                          have hone : ∀ (X : World) (u : Value) (j i : Nat), i ≠ wd1.heap.size → (X.setCell ⟨wd1.heap.size, j, none⟩ u).heap[i]? = X.heap[i]? := fun X u j i hi => heap_set_other _ _ _ (by show wd1.heap.size ≠ i; omega)
                          have HFIN := hide (And.intro KR (And.intro (rP.keep (w' := ((((wd3).setCell ⟨wd1.heap.size, 0, none⟩ (.int .i64 c)).setCell ⟨wd1.heap.size, 1, none⟩ (.slice aP1 P.length cP1)).setCell ⟨wd1.heap.size, 2, none⟩ (.slice aG1 G.length cG1)).setCell ⟨wd1.heap.size, 3, none⟩ (.slice none 0 0)) (by omega) (fun i hi _ => by rw [hone _ _ _ i hi.2.2, hone _ _ _ i hi.2.2, hone _ _ _ i hi.2.2, hone _ _ _ i hi.2.2])) (And.intro (rG.keep (w' := ((((wd3).setCell ⟨wd1.heap.size, 0, none⟩ (.int .i64 c)).setCell ⟨wd1.heap.size, 1, none⟩ (.slice aP1 P.length cP1)).setCell ⟨wd1.heap.size, 2, none⟩ (.slice aG1 G.length cG1)).setCell ⟨wd1.heap.size, 3, none⟩ (.slice none 0 0)) (by omega) (fun i hi _ => by rw [hone _ _ _ i hi.2.2, hone _ _ _ i hi.2.2, hone _ _ _ i hi.2.2, hone _ _ _ i hi.2.2])) (And.intro hsz hH1.size))))
                          clear KR rP rG hone hsz
                          go_simp
                          refine hK.out _ _ (fun _ => hH4) ?_
                          clear hK K
                          try simp only [Act.put, List.setIfInBounds_toArray, List.set_cons_zero, List.set_cons_succ]
                          generalize ((((wd3).setCell ⟨wd1.heap.size, 0, none⟩ (.int .i64 c)).setCell ⟨wd1.heap.size, 1, none⟩ (.slice aP1 P.length cP1)).setCell ⟨wd1.heap.size, 2, none⟩ (.slice aG1 G.length cG1)).setCell ⟨wd1.heap.size, 3, none⟩ (.slice none 0 0) = wd4 at hH4 HFIN ⊢
                          refine wpAnyL_done (by kernel_rfl) ?_ _
                          go_wp2_with fail
                          go_meet
                          case rel =>
                            obtain ⟨f1, f2, f3, f5, f6⟩ := HFIN.out
                            refine ⟨wd1.heap.size, _, _, _, _, rfl, hide ⟨f1, ?_, ?_, f6⟩, hH4⟩
                            · rw [f5]; exact longs_row f2
                            · rw [f5]; exact longs_row f3
                    case _ =>
                      go_simp
                      have hH1 : Below w1.heap.size w1 (wd0.alloc (.cells #[.int .i64 0, .slice none 0 0, .slice none 0 0, .slice none 0 0] 25 (0, 0))) := hH0.alloc hH0.size _
                      have kn1 := heap_new wd0 (.cells #[.int .i64 0, .slice none 0 0, .slice none 0 0, .slice none 0 0] 25 (0, 0))
                      have zn1 := hH0.size
                      refine hK.out _ _ (fun _ => hH1) ?_
                      clear hK K
                      try simp only [Act.put, List.setIfInBounds_toArray, List.set_cons_zero, List.set_cons_succ]
                      generalize wd0.alloc (.cells #[.int .i64 0, .slice none 0 0, .slice none 0 0, .slice none 0 0] 25 (0, 0)) = wd1 at hH1 kn1 ⊢
                      refine wpAnyL_one (i := 5) (o := _) rfl (by kernel_rfl) (by rfl) (fun K hK => ?_)
                      obtain ⟨aP1, cP1, wd2, rr2, oP1, bq2⟩ := nil_join kInt (w := wd1) 22 22 Tryd.underlying22 (ok := fun i => i < w.heap.size) (HP.out.under hH1) (fun _ _ _ _ _ h => h) (by show P.length * 8 ≤ _; omega) (by unfold maxLen; omega)
                      refine oper_joinO _ _ 22 rfl _ _ _ (by rfl) (by rfl) rr2 ?_
                      have kn1_2 := (bq2.block _ (lt_of kn1)).trans kn1
                      have hH2 : Below w1.heap.size w1 wd2 := hH1.trans (bq2.mono hH1.size)
                      have pP1 := own_down2 oP1 hH1.size
                      clear oP1 rr2
                      refine hK.out _ _ (fun _ => hH2) ?_
                      clear hK K
                      try simp only [Act.put, List.setIfInBounds_toArray, List.set_cons_zero, List.set_cons_succ]
                      refine wpAnyL_one (i := 9) (o := _) rfl (by kernel_rfl) (by rfl) (fun K hK => ?_)
                      obtain ⟨aG1, cG1, wd3, rr3, oG1, bq3⟩ := nil_join kInt (w := wd2) 22 22 Tryd.underlying22 (ok := fun i => i < w.heap.size) (HG.out.under hH2) (fun _ _ _ _ _ h => h) (by show G.length * 8 ≤ _; omega) (by unfold maxLen; omega)
                      refine oper_joinO _ _ 22 rfl _ _ _ (by rfl) (by rfl) rr3 ?_
                      have kn1_3 := (bq3.block _ (lt_of kn1_2)).trans kn1_2
                      have hH3 : Below w1.heap.size w1 wd3 := hH2.trans (bq3.mono hH2.size)
                      have pG1 := own_down2 oG1 hH2.size
                      clear oG1 rr3
                      have pP1_3 := pP1.below bq3
                      refine hK.out _ _ (fun _ => hH3) ?_
                      clear hK K
                      try simp only [Act.put, List.setIfInBounds_toArray, List.set_cons_zero, List.set_cons_succ]
                      refine' wpAnyL_take (i := 10) (oi := ⟨some 20, _, _, _, _, _⟩) (v := _) rfl (by kernel_rfl) (by kernel_rfl) (by kernel_rfl) (by kernel_rfl) (fun _ _ _ h => h) hH3 (by rfl) ?hyv ?onw
                      case hyv =>
                        intro wz hSw
                        go_simp
                        try rfl
                      case onw =>
                        try simp only [Act.put, List.setIfInBounds_toArray, List.set_cons_zero, List.set_cons_succ]
                        refine wpAnyL_one (i := 12) (o := _) rfl (by kernel_rfl) (by rfl) (fun K hK => ?_)
                        have st0 := cell_of kn1_3 0
                        have fr0 := free_of kn1_3 0
                        have st1 := cell_of kn1_3 1
                        have fr1 := free_of kn1_3 1
                        have st2 := cell_of kn1_3 2
                        have fr2 := free_of kn1_3 2
                        have st3 := cell_of kn1_3 3
                        have fr3 := free_of kn1_3 3
                        simp at st0 st1 st2 st3
                        have rP := own_only pP1_3 (fun _ _ _ _ _ h => h) kn1_3 (by decide)
                        have rG := own_only pG1 (fun _ _ _ _ _ h => h) kn1_3 (by decide)
                        have KR := set_in (set_in (set_in (set_in (kn1_3) 0 (.int .i64 c)) 1 (.slice aP1 P.length cP1)) 2 (.slice aG1 G.length cG1)) 3 (.slice none 0 0)
                        simp at KR
                        have hH4 := ((((hH3).setCell (p := ⟨wd0.heap.size, 0, none⟩) hH0.size (.int .i64 c)).setCell (p := ⟨wd0.heap.size, 1, none⟩) hH0.size (.slice aP1 P.length cP1)).setCell (p := ⟨wd0.heap.size, 2, none⟩) hH0.size (.slice aG1 G.length cG1)).setCell (p := ⟨wd0.heap.size, 3, none⟩) hH0.size (.slice none 0 0)
                        have hsz : (((((wd3).setCell ⟨wd0.heap.size, 0, none⟩ (.int .i64 c)).setCell ⟨wd0.heap.size, 1, none⟩ (.slice aP1 P.length cP1)).setCell ⟨wd0.heap.size, 2, none⟩ (.slice aG1 G.length cG1)).setCell ⟨wd0.heap.size, 3, none⟩ (.slice none 0 0)).heap.size = wd3.heap.size := by simp [World.setCell]
                        have hone : ∀ (X : World) (u : Value) (j i : Nat), i ≠ wd0.heap.size → (X.setCell ⟨wd0.heap.size, j, none⟩ u).heap[i]? = X.heap[i]? := fun X u j i hi => heap_set_other _ _ _ (by show wd0.heap.size ≠ i; omega)
                        have HFIN := hide (And.intro KR (And.intro (rP.keep (w' := ((((wd3).setCell ⟨wd0.heap.size, 0, none⟩ (.int .i64 c)).setCell ⟨wd0.heap.size, 1, none⟩ (.slice aP1 P.length cP1)).setCell ⟨wd0.heap.size, 2, none⟩ (.slice aG1 G.length cG1)).setCell ⟨wd0.heap.size, 3, none⟩ (.slice none 0 0)) (by omega) (fun i hi _ => by rw [hone _ _ _ i hi.2.2, hone _ _ _ i hi.2.2, hone _ _ _ i hi.2.2, hone _ _ _ i hi.2.2])) (And.intro (rG.keep (w' := ((((wd3).setCell ⟨wd0.heap.size, 0, none⟩ (.int .i64 c)).setCell ⟨wd0.heap.size, 1, none⟩ (.slice aP1 P.length cP1)).setCell ⟨wd0.heap.size, 2, none⟩ (.slice aG1 G.length cG1)).setCell ⟨wd0.heap.size, 3, none⟩ (.slice none 0 0)) (by omega) (fun i hi _ => by rw [hone _ _ _ i hi.2.2, hone _ _ _ i hi.2.2, hone _ _ _ i hi.2.2, hone _ _ _ i hi.2.2])) (And.intro hsz hH0.size))))
                        clear KR rP rG hone hsz
                        go_simp
                        refine hK.out _ _ (fun _ => hH4) ?_
                        clear hK K
                        try simp only [Act.put, List.setIfInBounds_toArray, List.set_cons_zero, List.set_cons_succ]
                        generalize ((((wd3).setCell ⟨wd0.heap.size, 0, none⟩ (.int .i64 c)).setCell ⟨wd0.heap.size, 1, none⟩ (.slice aP1 P.length cP1)).setCell ⟨wd0.heap.size, 2, none⟩ (.slice aG1 G.length cG1)).setCell ⟨wd0.heap.size, 3, none⟩ (.slice none 0 0) = wd4 at hH4 HFIN ⊢
                        refine wpAnyL_done (by kernel_rfl) ?_ _
                        go_wp2_with fail
                        go_meet
                        case rel =>
                          obtain ⟨f1, f2, f3, f5, f6⟩ := HFIN.out
                          refine ⟨wd0.heap.size, _, _, _, _, rfl, hide ⟨f1, ?_, ?_, f6⟩, hH4⟩
                          · rw [f5]; exact longs_row f2
                          · rw [f5]; exact longs_row f3
  case rest =>
    obtain ⟨sb, a1, a2, c1, c2, rfl, HX, bc⟩ := hcut
    have BC := b1.trans (bc.mono b1.size)
    obtain ⟨hsb, hp', hg', gsb⟩ := HX.out
    have HROWS := hide (And.intro hp' hg')
    have kS2 := (bc.block _ yS).trans kS
    have kZ2 := (bc.block _ (lt_of kZ)).trans kZ
    have sbw : sb < wc.heap.size := lt_of hsb
    have z1 : w.heap.size + 1 < w1.heap.size := lt_of kZ
    have zc := bc.size
    have HSB := hide hsb
    have HS6 := hide (HS.out.under bc)
    obtain ⟨w6, hw6⟩ : ∃ w6, w6 = wc := ⟨_, rfl⟩
    subst hw6
    have k3 := cell_of kS2 3
    simp at k3
    clear HX hsb hp' hg' k0 k1 k2 kS kZ HS
    go_wp2_with fail
    go_loopg [6] S.length (fun kk v wr => ∃ i, i ≤ S.length ∧ kk = S.length - i ∧ v = .int .i64 (i : Nat) ∧ Hid (ClAt w6 wr sb c (.slice a1 P.length c1) (.slice a2 G.length c2) S i))
    case atStart => exact ⟨0, Nat.zero_le _, rfl, rfl, hide ⟨⟨none, 0, HSB.out, OwnL.nil⟩, Aside.refl _⟩⟩
    case round =>
      clear HSB k3
      obtain ⟨i, hi, rfl, rfl, HI⟩ := hrel
      have fr := HI.out.frame
      obtain ⟨aX, cX, hsb, own⟩ := HI.out.row
      have zr := fr.size
      have BW : Below w1.heap.size w1 wr := bc.trans ((fr.mono (by omega)).below (by intro k hk; simp at hk; omega))
      have kSr := fr.keep kS2 (lt_of kS2) (by simp; omega)
      have k3 := cell_of kSr 3
      simp at k3
      have yS3 := lt_of kSr
      by_cases hlt : i < S.length
      case neg =>
        have hin : i = S.length := by omega
        subst hin
        rw [List.take_length] at own
        have kZ3 := fr.keep kZ2 (lt_of kZ2) (by simp; omega)
        have s0 := cell_of kZ3 0
        have f0 := free_of kZ3 0
        have d0 := cell_of hsb 0
        have s1 := cell_of kZ3 1
        have f1 := free_of kZ3 1
        have d1 := cell_of hsb 1
        have s2 := cell_of kZ3 2
        have f2 := free_of kZ3 2
        have d2 := cell_of hsb 2
        have s3 := cell_of kZ3 3
        have f3 := free_of kZ3 3
        have d3 := cell_of hsb 3
        simp at s0 s1 s2 s3 d0 d1 d2 d3
        have BWW : Below w.heap.size w wr := b1.trans (BW.mono (by omega))
        have BE := ((((BWW).setCell (p := ⟨w.heap.size + 1, 0, none⟩) (by simp) (.int .i64 c)).setCell (p := ⟨w.heap.size + 1, 1, none⟩) (by simp) (.slice a1 P.length c1)).setCell (p := ⟨w.heap.size + 1, 2, none⟩) (by simp) (.slice a2 G.length c2)).setCell (p := ⟨w.heap.size + 1, 3, none⟩) (by simp) (.slice aX S.length cX)
        have KE := set_in (set_in (set_in (set_in (kZ3) 0 (.int .i64 c)) 1 (.slice a1 P.length c1)) 2 (.slice a2 G.length c2)) 3 (.slice aX S.length cX)
        have r0 := cell_of KE 0
        have r1 := cell_of KE 1
        have r2 := cell_of KE 2
        have r3 := cell_of KE 3
        simp at r0 r1 r2 r3
        have hone : ∀ (X : World) (u : Value) (j i : Nat), w1.heap.size ≤ i → (X.setCell ⟨w.heap.size + 1, j, none⟩ u).heap[i]? = X.heap[i]? := fun X u j i hi => heap_set_other _ _ _ (by show w.heap.size + 1 ≠ i; omega)
        have hsz : (((((wr).setCell ⟨w.heap.size + 1, 0, none⟩ (.int .i64 c)).setCell ⟨w.heap.size + 1, 1, none⟩ (.slice a1 P.length c1)).setCell ⟨w.heap.size + 1, 2, none⟩ (.slice a2 G.length c2)).setCell ⟨w.heap.size + 1, 3, none⟩ (.slice aX S.length cX)).heap.size = wr.heap.size := by simp [World.setCell]
        have hall : ∀ i, w1.heap.size ≤ i → (((((wr).setCell ⟨w.heap.size + 1, 0, none⟩ (.int .i64 c)).setCell ⟨w.heap.size + 1, 1, none⟩ (.slice a1 P.length c1)).setCell ⟨w.heap.size + 1, 2, none⟩ (.slice a2 G.length c2)).setCell ⟨w.heap.size + 1, 3, none⟩ (.slice aX S.length cX)).heap[i]? = wr.heap[i]? := fun i hi => by rw [hone _ _ _ i hi, hone _ _ _ i hi, hone _ _ _ i hi, hone _ _ _ i hi]
        have hp6 := HROWS.out.1.keep zr (fun i hi hl => fr.block i hl (by simp; exact hi.2.2))
        have hg6 := HROWS.out.2.keep zr (fun i hi hl => fr.block i hl (by simp; exact hi.2.2))
        have HEND := hide (show HLp (fun i => w.heap.size ≤ i) (((((wr).setCell ⟨w.heap.size + 1, 0, none⟩ (.int .i64 c)).setCell ⟨w.heap.size + 1, 1, none⟩ (.slice a1 P.length c1)).setCell ⟨w.heap.size + 1, 2, none⟩ (.slice a2 G.length c2)).setCell ⟨w.heap.size + 1, 3, none⟩ (.slice aX S.length cX)) a1 a2 aX c1 c2 cX ⟨c, P, G, S⟩ from ⟨(hp6.keep (by omega) (fun i hi _ => hall i hi.1)).wide (fun i hi _ => by omega), (hg6.keep (by omega) (fun i hi _ => hall i hi.1)).wide (fun i hi _ => by omega), by
          have hR := sps_row own.row
          exact (hR.keep (w' := ((((wr).setCell ⟨w.heap.size + 1, 0, none⟩ (.int .i64 c)).setCell ⟨w.heap.size + 1, 1, none⟩ (.slice a1 P.length c1)).setCell ⟨w.heap.size + 1, 2, none⟩ (.slice a2 G.length c2)).setCell ⟨w.heap.size + 1, 3, none⟩ (.slice aX S.length cX)) (by omega) (fun i hi _ => hall i (by have h1 : w6.heap.size ≤ i := hi; omega))).wide (ok' := fun i => w.heap.size ≤ i) (fun i hi _ => by have h1 : w6.heap.size ≤ i := hi; omega), HWd.out⟩)
        clear KE hone hall hp6 hg6 own hsz
        go_wp2
        exact bodyPost_ret (v := .agg #[.int .i64 c, .slice a1 P.length c1, .slice a2 G.length c2, .slice aX S.length cX]) (by simp [results, Tryd.results7, go_sem, r0, r1, r2, r3]) rfl ⟨⟨_, _, _, _, _, _, rfl, HEND.out, BE⟩⟩
      case pos =>
        have hSk := HS6.out.keep zr (fun k hk hl => fr.block k hl (by simp; intro e; have h1 : k < w.heap.size := hk; omega))
        obtain ⟨aoS, cpS, eS, -, -, hatS⟩ := hSk.at
        injection eS with f1 f2 f3
        obtain ⟨bS, oS, y, eaS, yS', hat, hy⟩ := hatS i hlt
        rw [eaS] at f1
        subst f1
        obtain ⟨s, hs⟩ : ∃ s, s = S[i] := ⟨_, rfl⟩
        have hfr := HF.out s (by rw [hs]; exact List.getElem_mem hlt)
        have HTN := hide (show S.take (i + 1) = S.take i ++ [s] by rw [List.take_succ_eq_append_getElem hlt, hs])
        rw [← hs] at hat hy
        obtain ⟨e0, e1, e2, e3, e4, e5⟩ := hat
        have hlM : (S.take i).length = i := by rw [List.length_take]; omega
        have hown : ∀ k, (Value.slice aX i cX).ownBlock = some k → w6.heap.size ≤ k ∧ k < wr.heap.size := own.lt
        have HOW := hide own
        have HON := hide hown
        have HLM := hide hlM
        have q5 : ((S.take i).length + 1) * 80 ≤ 140737488355328 := by rw [hlM]; omega
        have q6 : (S.take i).length + 1 ≤ maxLen := by rw [hlM]; unfold maxLen; omega
        obtain ⟨hfl, hel⟩ := hfr
        have bA : Below wr.heap.size wr (wr.alloc (.cells #[.int .i64 s.op, .int .i64 s.k, .int .i64 s.n, .int .i64 s.tgt, .slice y.aF y.nF y.cF, .slice y.aE y.nE y.cE] 62 (0, 0))) := (Below.refl _ _).alloc (Nat.le_refl _) _
        have kV := heap_new wr (.cells #[.int .i64 s.op, .int .i64 s.k, .int .i64 s.n, .int .i64 s.tgt, .slice y.aF y.nF y.cF, .slice y.aE y.nE y.cE] 62 (0, 0))
        have HY := hide (hy.under bA)
        have HSB := hide hsb
        clear hatS f2 f3 eaS hs own hown hlM hy hSk hsb HI
        go_upto_region 8 with fail
        generalize wr.alloc (.cells #[.int .i64 s.op, .int .i64 s.k, .int .i64 s.n, .int .i64 s.tgt, .slice y.aF y.nF y.cF, .slice y.aE y.nE y.cE] 62 (0, 0)) = wa at bA kV HY ⊢
        have v4 := cell_of kV 4
        have v5 := cell_of kV 5
        simp at v4 v5
        have yV := lt_of kV
        clear e0 e1 e2 e3 e4 e5 k3
        go_cut [] (fun wd => ∃ a5 c5 a4 c4, Hid (wd.heap[wr.heap.size]? = some (.cells #[.int .i64 s.op, .int .i64 s.k, .int .i64 s.n, .int .i64 s.tgt, .slice a4 s.F.length c4, .slice a5 s.E.length c5] 62 (0, 0)) ∧ HPu (fun i => wa.heap.size ≤ i) wd (.slice a4 s.F.length c4) s.F ∧ HPu (fun i => wa.heap.size ≤ i) wd (.slice a5 s.E.length c5) s.E) ∧ Hid (wa.heap.size ≤ wd.heap.size) ∧ Below wr.heap.size wr wd)
        case first =>
          refine wp_region_late (fun w' => Below wa.heap.size wa w') (fun i => i == 9 || i == 10 || i == 11) (by kernel_rfl) ?_
          have hH0 : Below wa.heap.size wa wa.drew := (Below.refl _ _).drew
          generalize wa.drew = wd0 at hH0 ⊢
          refine' wpAnyL_take (i := 0) (oi := ⟨some 33, _, _, _, _, _⟩) (v := _) rfl (by kernel_rfl) (by kernel_rfl) (by kernel_rfl) (by kernel_rfl) (fun _ _ _ h => h) hH0 (by rfl) ?hyv ?onw
          case hyv =>
            intro wz hSw
            go_simp
            try rfl
          case onw =>
            try simp only [Act.put, List.setIfInBounds_toArray, List.set_cons_zero, List.set_cons_succ]
            refine' wpAnyL_take (i := 1) (oi := ⟨some 34, _, _, _, _, _⟩) (v := _) rfl (by kernel_rfl) (by kernel_rfl) (by kernel_rfl) (by kernel_rfl) (fun _ _ _ h => h) hH0 (by rfl) ?hyv ?onw
            case hyv =>
              intro wz hSw
              go_simp
              try rfl
            case onw =>
              try simp only [Act.put, List.setIfInBounds_toArray, List.set_cons_zero, List.set_cons_succ]
              refine' wpAnyL_take (i := 2) (oi := ⟨some 35, _, _, _, _, _⟩) (v := _) rfl (by kernel_rfl) (by kernel_rfl) (by kernel_rfl) (by kernel_rfl) (fun _ _ _ h => h) hH0 (by rfl) ?hyv ?onw
              case hyv =>
                intro wz hSw
                have zc0 := (hSw.cell (p := ⟨wr.heap.size, 4, none⟩) yV).trans v4
                have zc1 := (hSw.cell (p := ⟨wr.heap.size, 5, none⟩) yV).trans v5
                go_simp
                try rfl
              case onw =>
                try simp only [Act.put, List.setIfInBounds_toArray, List.set_cons_zero, List.set_cons_succ]
                refine' wpAnyL_take (i := 5) (oi := ⟨some 38, _, _, _, _, _⟩) (v := _) rfl (by kernel_rfl) (by kernel_rfl) (by kernel_rfl) (by kernel_rfl) (fun _ _ _ h => h) hH0 (by rfl) ?hyv ?onw
                case hyv =>
                  intro wz hSw
                  go_simp
                  try rfl
                case onw =>
                  try simp only [Act.put, List.setIfInBounds_toArray, List.set_cons_zero, List.set_cons_succ]
                  refine' wpAnyL_take (i := 6) (oi := ⟨some 39, _, _, _, _, _⟩) (v := _) rfl (by kernel_rfl) (by kernel_rfl) (by kernel_rfl) (by kernel_rfl) (fun _ _ _ h => h) hH0 (by rfl) ?hyv ?onw
                  case hyv =>
                    intro wz hSw
                    have zc0 := (hSw.cell (p := ⟨wr.heap.size, 4, none⟩) yV).trans v4
                    have zc1 := (hSw.cell (p := ⟨wr.heap.size, 5, none⟩) yV).trans v5
                    go_simp
                    try rfl
                  case onw =>
                    try simp only [Act.put, List.setIfInBounds_toArray, List.set_cons_zero, List.set_cons_succ]
                    refine wpAnyL_two (i := 3) (j := 4) rfl rfl (by kernel_rfl) (by rfl) (by rfl) (fun K hK => ?_) (fun K hK => ?_)
                    case _ =>
                      obtain ⟨aE9, cE9, wd1, rr1, oE9, bq1⟩ := nil_join kPu (w := wd0) 60 60 Tryd.underlying60 (ok := fun i => i < w.heap.size) ((HY.out.under hH0).E) (fun _ _ _ _ _ h => h) (by show s.E.length * 32 ≤ _; omega) (by unfold maxLen; omega)
                      refine oper_joinO _ _ 60 rfl _ _ _ (by rfl) (by rfl) rr1 ?_
                      have hH1 : Below wa.heap.size wa wd1 := hH0.trans (bq1.mono hH0.size)
                      have pE9 := own_down2 oE9 hH0.size
                      clear oE9 rr1
                      refine hK.out _ _ (fun _ => hH1) ?_
                      clear hK K
                      try simp only [Act.put, List.setIfInBounds_toArray, List.set_cons_zero, List.set_cons_succ]
                      refine' wpAnyL_take (i := 8) (oi := ⟨some 41, _, _, _, _, _⟩) (v := _) rfl (by kernel_rfl) (by kernel_rfl) (by kernel_rfl) (by kernel_rfl) (fun _ _ _ h => h) hH1 (by rfl) ?hyv ?onw
                      case hyv =>
                        intro wz hSw
                        go_simp
                        try rfl
                      case onw =>
                        try simp only [Act.put, List.setIfInBounds_toArray, List.set_cons_zero, List.set_cons_succ]
                        refine wpAnyL_one (i := 4) (o := _) rfl (by kernel_rfl) (by rfl) (fun K hK => ?_)
                        go_simp
                        refine hK.out _ _ (fun _ => hH1) ?_
                        clear hK K
                        try simp only [Act.put, List.setIfInBounds_toArray, List.set_cons_zero, List.set_cons_succ]
                        generalize wd1 = wd2 at hH1 pE9 ⊢
                        have hH2 := hH1
                        refine wpAnyL_one (i := 7) (o := _) rfl (by kernel_rfl) (by rfl) (fun K hK => ?_)
                        obtain ⟨aF9, cF9, wd3, rr3, oF9, bq3⟩ := nil_join kPu (w := wd2) 60 60 Tryd.underlying60 (ok := fun i => i < w.heap.size) ((HY.out.under hH2).F) (fun _ _ _ _ _ h => h) (by show s.F.length * 32 ≤ _; omega) (by unfold maxLen; omega)
                        refine oper_joinO _ _ 60 rfl _ _ _ (by rfl) (by rfl) rr3 ?_
                        have hH3 : Below wa.heap.size wa wd3 := hH2.trans (bq3.mono hH2.size)
                        have pF9 := own_down2 oF9 hH2.size
                        clear oF9 rr3
                        have pE9_3 := pE9.below bq3
                        refine hK.out _ _ (fun _ => hH3) ?_
                        clear hK K
                        try simp only [Act.put, List.setIfInBounds_toArray, List.set_cons_zero, List.set_cons_succ]
                        refine wpAnyL_one (i := 9) (o := _) rfl (by kernel_rfl) (by rfl) (fun K hK => ?_)
                        have kV9 := (hH3.block _ yV).trans kV
                        have st5 := cell_of kV9 5
                        have ff5 := free_of kV9 5
                        simp at st5
                        have KV := set_in kV9 5 (.slice aE9 s.E.length cE9)
                        simp at KV
                        have B9 := (bA.trans (hH3.mono bA.size)).setCell (p := ⟨wr.heap.size, 5, none⟩) (Nat.le_refl _) (.slice aE9 s.E.length cE9)
                        have hz9 : wa.heap.size ≤ (wd3.setCell ⟨wr.heap.size, 5, none⟩ (.slice aE9 s.E.length cE9)).heap.size := by simp [World.setCell]; exact hH3.size
                        have H1 := hide (show HPu (fun i => wa.heap.size ≤ i) (wd3.setCell ⟨wr.heap.size, 5, none⟩ (.slice aE9 s.E.length cE9)) (.slice aE9 s.E.length cE9) s.E from (pus_row pE9_3.row).keep (by simp [World.setCell]) (fun i hi _ => heap_set_other _ _ _ (by show wr.heap.size ≠ i; have h1 : wa.heap.size ≤ i := hi; omega)))
                        have H2 := hide (show HPu (fun i => wa.heap.size ≤ i) (wd3.setCell ⟨wr.heap.size, 5, none⟩ (.slice aE9 s.E.length cE9)) (.slice aF9 s.F.length cF9) s.F from (pus_row pF9.row).keep (by simp [World.setCell]) (fun i hi _ => heap_set_other _ _ _ (by show wr.heap.size ≠ i; have h1 : wa.heap.size ≤ i := hi; omega)))
                        clear kV9
                        go_simp
                        refine hK.out _ _ (fun h => absurd h (by decide)) ?_
                        clear hK K
                        try simp only [Act.put, List.setIfInBounds_toArray, List.set_cons_zero, List.set_cons_succ]
                        clear st5 ff5
                        generalize wd3.setCell ⟨wr.heap.size, 5, none⟩ (.slice aE9 s.E.length cE9) = wd4 at KV B9 H1 H2 hz9 ⊢
                        refine wpAnyL_one (i := 10) (o := _) rfl (by kernel_rfl) (by rfl) (fun K hK => ?_)
                        go_simp
                        refine hK.out _ _ (fun h => absurd h (by decide)) ?_
                        clear hK K
                        try simp only [Act.put, List.setIfInBounds_toArray, List.set_cons_zero, List.set_cons_succ]
                        refine wpAnyL_one (i := 11) (o := _) rfl (by kernel_rfl) (by rfl) (fun K hK => ?_)
                        have st4 := cell_of KV 4
                        have ff4 := free_of KV 4
                        simp at st4
                        have KV2 := set_in KV 4 (.slice aF9 s.F.length cF9)
                        simp at KV2
                        have B11 := B9.setCell (p := ⟨wr.heap.size, 4, none⟩) (Nat.le_refl _) (.slice aF9 s.F.length cF9)
                        have hz11 : wa.heap.size ≤ (wd4.setCell ⟨wr.heap.size, 4, none⟩ (.slice aF9 s.F.length cF9)).heap.size := by simp [World.setCell]; exact hz9
                        have H1b := hide (show HPu (fun i => wa.heap.size ≤ i) (wd4.setCell ⟨wr.heap.size, 4, none⟩ (.slice aF9 s.F.length cF9)) (.slice aE9 s.E.length cE9) s.E from H1.out.keep (by simp [World.setCell]) (fun i hi _ => heap_set_other _ _ _ (by show wr.heap.size ≠ i; have h1 : wa.heap.size ≤ i := hi; omega)))
                        have H2b := hide (show HPu (fun i => wa.heap.size ≤ i) (wd4.setCell ⟨wr.heap.size, 4, none⟩ (.slice aF9 s.F.length cF9)) (.slice aF9 s.F.length cF9) s.F from H2.out.keep (by simp [World.setCell]) (fun i hi _ => heap_set_other _ _ _ (by show wr.heap.size ≠ i; have h1 : wa.heap.size ≤ i := hi; omega)))
                        clear KV H1 H2
                        go_simp
                        refine hK.out _ _ (fun h => absurd h (by decide)) ?_
                        clear hK K
                        try simp only [Act.put, List.setIfInBounds_toArray, List.set_cons_zero, List.set_cons_succ]
                        clear st4 ff4
                        generalize wd4.setCell ⟨wr.heap.size, 4, none⟩ (.slice aF9 s.F.length cF9) = wd6 at KV2 B11 H1b H2b hz11 ⊢
                        refine wpAnyL_done (by kernel_rfl) ?_ _
                        go_wp2_with fail
                        go_meet
                        case rel => exact ⟨aE9, cE9, aF9, cF9, hide ⟨KV2, H2b.out, H1b.out⟩, hide hz11, B11⟩
                    case _ =>
                      go_simp
                      refine hK.out _ _ (fun _ => hH0) ?_
                      clear hK K
                      try simp only [Act.put, List.setIfInBounds_toArray, List.set_cons_zero, List.set_cons_succ]
                      generalize wd0 = wd1 at hH0  ⊢
                      have hH1 := hH0
                      refine wpAnyL_one (i := 3) (o := _) rfl (by kernel_rfl) (by rfl) (fun K hK => ?_)
                      obtain ⟨aE9, cE9, wd2, rr2, oE9, bq2⟩ := nil_join kPu (w := wd1) 60 60 Tryd.underlying60 (ok := fun i => i < w.heap.size) ((HY.out.under hH1).E) (fun _ _ _ _ _ h => h) (by show s.E.length * 32 ≤ _; omega) (by unfold maxLen; omega)
                      refine oper_joinO _ _ 60 rfl _ _ _ (by rfl) (by rfl) rr2 ?_
                      have hH2 : Below wa.heap.size wa wd2 := hH1.trans (bq2.mono hH1.size)
                      have pE9 := own_down2 oE9 hH1.size
                      clear oE9 rr2
                      refine hK.out _ _ (fun _ => hH2) ?_
                      clear hK K
                      try simp only [Act.put, List.setIfInBounds_toArray, List.set_cons_zero, List.set_cons_succ]
                      refine' wpAnyL_take (i := 8) (oi := ⟨some 41, _, _, _, _, _⟩) (v := _) rfl (by kernel_rfl) (by kernel_rfl) (by kernel_rfl) (by kernel_rfl) (fun _ _ _ h => h) hH2 (by rfl) ?hyv ?onw
                      case hyv =>
                        intro wz hSw
                        go_simp
                        try rfl
                      case onw =>
                        try simp only [Act.put, List.setIfInBounds_toArray, List.set_cons_zero, List.set_cons_succ]
                        refine wpAnyL_one (i := 7) (o := _) rfl (by kernel_rfl) (by rfl) (fun K hK => ?_)
                        obtain ⟨aF9, cF9, wd3, rr3, oF9, bq3⟩ := nil_join kPu (w := wd2) 60 60 Tryd.underlying60 (ok := fun i => i < w.heap.size) ((HY.out.under hH2).F) (fun _ _ _ _ _ h => h) (by show s.F.length * 32 ≤ _; omega) (by unfold maxLen; omega)
                        refine oper_joinO _ _ 60 rfl _ _ _ (by rfl) (by rfl) rr3 ?_
                        have hH3 : Below wa.heap.size wa wd3 := hH2.trans (bq3.mono hH2.size)
                        have pF9 := own_down2 oF9 hH2.size
                        clear oF9 rr3
                        have pE9_3 := pE9.below bq3
                        refine hK.out _ _ (fun _ => hH3) ?_
                        clear hK K
                        try simp only [Act.put, List.setIfInBounds_toArray, List.set_cons_zero, List.set_cons_succ]
                        refine wpAnyL_one (i := 9) (o := _) rfl (by kernel_rfl) (by rfl) (fun K hK => ?_)
                        have kV9 := (hH3.block _ yV).trans kV
                        have st5 := cell_of kV9 5
                        have ff5 := free_of kV9 5
                        simp at st5
                        have KV := set_in kV9 5 (.slice aE9 s.E.length cE9)
                        simp at KV
                        have B9 := (bA.trans (hH3.mono bA.size)).setCell (p := ⟨wr.heap.size, 5, none⟩) (Nat.le_refl _) (.slice aE9 s.E.length cE9)
                        have hz9 : wa.heap.size ≤ (wd3.setCell ⟨wr.heap.size, 5, none⟩ (.slice aE9 s.E.length cE9)).heap.size := by simp [World.setCell]; exact hH3.size
                        have H1 := hide (show HPu (fun i => wa.heap.size ≤ i) (wd3.setCell ⟨wr.heap.size, 5, none⟩ (.slice aE9 s.E.length cE9)) (.slice aE9 s.E.length cE9) s.E from (pus_row pE9_3.row).keep (by simp [World.setCell]) (fun i hi _ => heap_set_other _ _ _ (by show wr.heap.size ≠ i; have h1 : wa.heap.size ≤ i := hi; omega)))
                        have H2 := hide (show HPu (fun i => wa.heap.size ≤ i) (wd3.setCell ⟨wr.heap.size, 5, none⟩ (.slice aE9 s.E.length cE9)) (.slice aF9 s.F.length cF9) s.F from (pus_row pF9.row).keep (by simp [World.setCell]) (fun i hi _ => heap_set_other _ _ _ (by show wr.heap.size ≠ i; have h1 : wa.heap.size ≤ i := hi; omega)))
                        clear kV9
                        go_simp
                        refine hK.out _ _ (fun h => absurd h (by decide)) ?_
                        clear hK K
                        try simp only [Act.put, List.setIfInBounds_toArray, List.set_cons_zero, List.set_cons_succ]
                        clear st5 ff5
                        generalize wd3.setCell ⟨wr.heap.size, 5, none⟩ (.slice aE9 s.E.length cE9) = wd4 at KV B9 H1 H2 hz9 ⊢
                        refine wpAnyL_one (i := 10) (o := _) rfl (by kernel_rfl) (by rfl) (fun K hK => ?_)
                        go_simp
                        refine hK.out _ _ (fun h => absurd h (by decide)) ?_
                        clear hK K
                        try simp only [Act.put, List.setIfInBounds_toArray, List.set_cons_zero, List.set_cons_succ]
                        refine wpAnyL_one (i := 11) (o := _) rfl (by kernel_rfl) (by rfl) (fun K hK => ?_)
                        have st4 := cell_of KV 4
                        have ff4 := free_of KV 4
                        simp at st4
                        have KV2 := set_in KV 4 (.slice aF9 s.F.length cF9)
                        simp at KV2
                        have B11 := B9.setCell (p := ⟨wr.heap.size, 4, none⟩) (Nat.le_refl _) (.slice aF9 s.F.length cF9)
                        have hz11 : wa.heap.size ≤ (wd4.setCell ⟨wr.heap.size, 4, none⟩ (.slice aF9 s.F.length cF9)).heap.size := by simp [World.setCell]; exact hz9
                        have H1b := hide (show HPu (fun i => wa.heap.size ≤ i) (wd4.setCell ⟨wr.heap.size, 4, none⟩ (.slice aF9 s.F.length cF9)) (.slice aE9 s.E.length cE9) s.E from H1.out.keep (by simp [World.setCell]) (fun i hi _ => heap_set_other _ _ _ (by show wr.heap.size ≠ i; have h1 : wa.heap.size ≤ i := hi; omega)))
                        have H2b := hide (show HPu (fun i => wa.heap.size ≤ i) (wd4.setCell ⟨wr.heap.size, 4, none⟩ (.slice aF9 s.F.length cF9)) (.slice aF9 s.F.length cF9) s.F from H2.out.keep (by simp [World.setCell]) (fun i hi _ => heap_set_other _ _ _ (by show wr.heap.size ≠ i; have h1 : wa.heap.size ≤ i := hi; omega)))
                        clear KV H1 H2
                        go_simp
                        refine hK.out _ _ (fun h => absurd h (by decide)) ?_
                        clear hK K
                        try simp only [Act.put, List.setIfInBounds_toArray, List.set_cons_zero, List.set_cons_succ]
                        clear st4 ff4
                        generalize wd4.setCell ⟨wr.heap.size, 4, none⟩ (.slice aF9 s.F.length cF9) = wd6 at KV2 B11 H1b H2b hz11 ⊢
                        refine wpAnyL_done (by kernel_rfl) ?_ _
                        go_wp2_with fail
                        go_meet
                        case rel => exact ⟨aE9, cE9, aF9, cF9, hide ⟨KV2, H2b.out, H1b.out⟩, hide hz11, B11⟩
        case rest =>
          obtain ⟨a5, c5, a4, c4, HX, HZ0, bd⟩ := hcut
          obtain ⟨kW, hF4, hE5⟩ := HX.out
          have zca := HZ0.out
          have zra := bA.size
          have kSc := (bd.block _ (lt_of HSB.out)).trans HSB.out
          have x3 := cell_of kSc 3
          simp at x3
          have u0 := cell_of kW 0
          have u1 := cell_of kW 1
          have u2 := cell_of kW 2
          have u3 := cell_of kW 3
          have u4 := cell_of kW 4
          have u5 := cell_of kW 5
          simp at u0 u1 u2 u3 u4 u5
          have HOWc := hide (HOW.out.below bd)
          have HNb := hide (fun k (e : (Value.slice aX i cX).ownBlock = some k) => (show k < wa.heap.size from Nat.lt_of_lt_of_le (HON.out k e).2 zra))
          have HE := hide (show kSp.E (fun i => wa.heap.size ≤ i) wc [.int .i64 s.op, .int .i64 s.k, .int .i64 s.n, .int .i64 s.tgt, .slice a4 s.F.length c4, .slice a5 s.E.length c5] s from ⟨⟨a4, s.F.length, c4, a5, s.E.length, c5⟩, rfl, ⟨hF4, hE5⟩⟩)
          have zB : w6.heap.size ≤ wa.heap.size := Nat.le_trans zr zra
          have zC : w6.heap.size ≤ wc.heap.size := Nat.le_trans zB zca
          have hsc := (show wc.heap[sb]? = some (.cells #[.int .i64 c, .slice a1 P.length c1, .slice a2 G.length c2, .slice aX i cX] 25 (0, 0)) from kSc)
          have HSC := hide hsc
          have FR := hide (And.intro fr bd)
          clear HX HZ0 kW hF4 hE5 kSc hsc v4 v5 kV HY HSB HOW
          go_wp2_with (at_builtin; refine wpList_more kSp rfl _ _ 23 62 rfl Tryd.underlying23 w6.heap.size wa.heap.size _ (S.take i) (by rfl) HOWc.out [.int .i64 s.op, .int .i64 s.k, .int .i64 s.n, .int .i64 s.tgt, .slice a4 s.F.length c4, .slice a5 s.E.length c5] s HE.out (by rfl) HNb.out zB zC q5 q6 ?_; intro v8 w8 own8 b8 _ _; obtain ⟨a8, c8, e8, -, -⟩ := own8.form; rw [List.length_append, HLM.out, List.length_singleton] at e8; subst e8; rw [← HTN.out] at own8; have ks8 := (b8.block _ sbw).trans HSC.out; have st3 := cell_of ks8 3; have ff3 := free_of ks8 3; simp at st3; have KS8 := hide ks8; have HO8 := hide own8; have HB8 := hide b8; clear own8 ks8 b8 u0 u1 u2 u3 u4 u5 x3 HOWc HNb HE HSC)
          have hks := set_in KS8.out 3 (.slice a8 (i + 1) c8)
          simp at hks
          have f8 : Aside [sb] w6.heap.size w6 (w8.setCell ⟨sb, 3, none⟩ (.slice a8 (i + 1) c8)) := ((FR.out.1.trans (aside (S := [sb]) FR.out.2) zr).trans (aside (S := [sb]) HB8.out) (by have := FR.out.2.size; omega)).trans (Aside.setCell (B := w6.heap.size) (p := ⟨sb, 3, none⟩) (by simp) _) (Nat.le_refl _)
          have HNEW := hide (show ClAt w6 (w8.setCell ⟨sb, 3, none⟩ (.slice a8 (i + 1) c8)) sb c (.slice a1 P.length c1) (.slice a2 G.length c2) S (i + 1) from ⟨⟨a8, c8, hks, HO8.out.set (p := ⟨sb, 3, none⟩) sbw _⟩, f8⟩)
          clear st3 ff3 hks f8
          go_roundg (S.length - (i + 1))
          case measure => omega
          case rel => exact ⟨i + 1, by omega, rfl, by go_num, HNEW⟩
end Go.Proofs.YtbiomnnlpafciaaDoor
