import Derived.Test.YtbiomnnlpafciaaDoorS46
import Derived.Test.YtbiomnnlpafciaaDoorS45
import Derived.Test.YtbiomnnlpafciaaDoorS40
import Derived.Test.YtbiomnnlpafciaaDoorS36
import Derived.WalkKit
import Derived.WalkSpells
import Derived.IntWalk
import Derived.Deep.Cut
import Derived.Deep.LoopGhost
import Derived.Laws.Cover1
import Derived.Lib.Hide
set_option linter.unusedVariables false
set_option linter.unusedSimpArgs false
set_option maxHeartbeats 64000000
set_option maxRecDepth 100000
namespace Go.Proofs.YtbiomnnlpafciaaDoor
open Go.RowKit Go.IntWalk
set_option linter.unusedVariables false
set_option linter.unusedSimpArgs false
set_option maxHeartbeats 64000000 in
theorem emitted9_any {okL okB : Nat → Prop} {w : World} {aP aG aS aB : Option Addr} {cP cG cS cB : Nat} {L : Lo.Lp} {B : List Int} (hL : HLp okL w aP aG aS cP cG cS L) (hB : HInts okB w (.slice aB B.length cB) B) :
    Calls Tryd.prog 9 #[.agg #[.int .i64 L.c, .slice aP L.P.length cP, .slice aG L.G.length cG, .slice aS L.S.length cS], .slice aB B.length cB] w (MakeP (fun _ => True) w L B) := by
  have hL0 : HLp (fun i => i < w.heap.size) w aP aG aS cP cG cS L := ⟨hL.P.wide fun _ _ h => h, hL.G.wide fun _ _ h => h, hL.S.wide fun _ _ h => h, hL.W⟩
  have hB0 := hB.wide (ok' := fun i => i < w.heap.size) fun _ _ h => h
  have b1 : Below w.heap.size w (((w.alloc (.cells #[.int .i64 L.c, .slice aP L.P.length cP, .slice aG L.G.length cG, .slice aS L.S.length cS] 25 (0, 0))).alloc (.cells #[.int .i64 0, .int .i64 0, .int .i64 0, .slice none 0 0, .slice none 0 0, .slice none 0 0, .slice none 0 0] 31 (0, 0))).alloc (.cells #[.int .i64 0, .int .i64 0] 33 (0, 0))) := (((Below.refl _ _).alloc (Nat.le_refl _) _).alloc (by simp) _).alloc (by simp; omega) _
  have kR : ((((w.alloc (.cells #[.int .i64 L.c, .slice aP L.P.length cP, .slice aG L.G.length cG, .slice aS L.S.length cS] 25 (0, 0))).alloc (.cells #[.int .i64 0, .int .i64 0, .int .i64 0, .slice none 0 0, .slice none 0 0, .slice none 0 0, .slice none 0 0] 31 (0, 0))).alloc (.cells #[.int .i64 0, .int .i64 0] 33 (0, 0)))).heap[w.heap.size]? = some (.cells #[.int .i64 L.c, .slice aP L.P.length cP, .slice aG L.G.length cG, .slice aS L.S.length cS] 25 (0, 0)) := (Below.heap_alloc _ _ _ (by simp; omega)).trans ((Below.heap_alloc _ _ _ (by simp)).trans (heap_new w _))
  have kI : ((((w.alloc (.cells #[.int .i64 L.c, .slice aP L.P.length cP, .slice aG L.G.length cG, .slice aS L.S.length cS] 25 (0, 0))).alloc (.cells #[.int .i64 0, .int .i64 0, .int .i64 0, .slice none 0 0, .slice none 0 0, .slice none 0 0, .slice none 0 0] 31 (0, 0))).alloc (.cells #[.int .i64 0, .int .i64 0] 33 (0, 0)))).heap[w.heap.size + 1]? = some (.cells #[.int .i64 0, .int .i64 0, .int .i64 0, .slice none 0 0, .slice none 0 0, .slice none 0 0, .slice none 0 0] 31 (0, 0)) := (Below.heap_alloc _ _ _ (by simp)).trans (by
    have := heap_new (w.alloc (.cells #[.int .i64 L.c, .slice aP L.P.length cP, .slice aG L.G.length cG, .slice aS L.S.length cS] 25 (0, 0))) (.cells #[.int .i64 0, .int .i64 0, .int .i64 0, .slice none 0 0, .slice none 0 0, .slice none 0 0, .slice none 0 0] 31 (0, 0))
    simpa using this)
  have kF : ((((w.alloc (.cells #[.int .i64 L.c, .slice aP L.P.length cP, .slice aG L.G.length cG, .slice aS L.S.length cS] 25 (0, 0))).alloc (.cells #[.int .i64 0, .int .i64 0, .int .i64 0, .slice none 0 0, .slice none 0 0, .slice none 0 0, .slice none 0 0] 31 (0, 0))).alloc (.cells #[.int .i64 0, .int .i64 0] 33 (0, 0)))).heap[w.heap.size + 2]? = some (.cells #[.int .i64 0, .int .i64 0] 33 (0, 0)) := by
    have := heap_new ((w.alloc (.cells #[.int .i64 L.c, .slice aP L.P.length cP, .slice aG L.G.length cG, .slice aS L.S.length cS] 25 (0, 0))).alloc (.cells #[.int .i64 0, .int .i64 0, .int .i64 0, .slice none 0 0, .slice none 0 0, .slice none 0 0, .slice none 0 0] 31 (0, 0))) (.cells #[.int .i64 0, .int .i64 0] 33 (0, 0))
    simpa using this
  have zw : w.heap.size + 3 ≤ ((((w.alloc (.cells #[.int .i64 L.c, .slice aP L.P.length cP, .slice aG L.G.length cG, .slice aS L.S.length cS] 25 (0, 0))).alloc (.cells #[.int .i64 0, .int .i64 0, .int .i64 0, .slice none 0 0, .slice none 0 0, .slice none 0 0, .slice none 0 0] 31 (0, 0))).alloc (.cells #[.int .i64 0, .int .i64 0] 33 (0, 0)))).heap.size := by simp
  have HL := hide (hL0.under b1)
  have HB := hide (hB0.under b1)
  have HC := hide (fun W (b : Below w.heap.size w W) => loopsFault9_any (hL.under b))
  have hgood := fun (h : (Lo.fault L).1 = 0) => Lo.good_of h
  have HGood := hide hgood
  clear hL hL0 hB hB0 hgood
  go_enter Tryd.func9, Tryd.ntmps9
  go_upto_region 1 with fail
  generalize (((w.alloc (.cells #[.int .i64 L.c, .slice aP L.P.length cP, .slice aG L.G.length cG, .slice aS L.S.length cS] 25 (0, 0))).alloc (.cells #[.int .i64 0, .int .i64 0, .int .i64 0, .slice none 0 0, .slice none 0 0, .slice none 0 0, .slice none 0 0] 31 (0, 0))).alloc (.cells #[.int .i64 0, .int .i64 0] 33 (0, 0))) = w1 at b1 kR kI kF zw HL HB ⊢
  have c0 := cell_of kR 0
  have c1 := cell_of kR 1
  have c2 := cell_of kR 2
  have c3 := cell_of kR 3
  simp at c0 c1 c2 c3
  obtain ⟨f1, hf1⟩ : ∃ f1, f1 = (Lo.fault L).1 := ⟨_, rfl⟩
  obtain ⟨f2, hf2⟩ : ∃ f2, f2 = (Lo.fault L).2 := ⟨_, rfl⟩
  have hc1 := HC.out w1 b1
  rw [← hf1, ← hf2] at hc1
  have HC1 := hide hc1
  have HF1 := hide hf1
  have HF2 := hide hf2
  clear HC hc1 hf1 hf2
  go_wp2_with fail
  refine HC1.out.mono ?_
  rintro e w2 ⟨rfl, b2⟩
  have B2 := b1.trans (b2.mono b1.size)
  have kR2 := (b2.block _ (lt_of kR)).trans kR
  have kI2 := (b2.block _ (lt_of kI)).trans kI
  have kF2 := (b2.block _ (lt_of kF)).trans kF
  have HL2 := hide (HL.out.under b2)
  have HB2 := hide (HB.out.under b2)
  have zw2 := Nat.le_trans zw b2.size
  clear c0 c1 c2 c3 kR kI kF HL HB HC1 b1 b2
  have b3 : Below w2.heap.size w2 (w2.alloc (.cells #[.int .i64 f1, .int .i64 f2] 33 (0, 0))) := (Below.refl _ _).alloc (Nat.le_refl _) _
  have k4 := heap_new w2 (.cells #[.int .i64 f1, .int .i64 f2] 33 (0, 0))
  go_upto_region 2 with fail
  generalize w2.alloc (.cells #[.int .i64 f1, .int .i64 f2] 33 (0, 0)) = w3 at b3 k4 ⊢
  have B3 := B2.trans (b3.mono B2.size)
  have kR3 := (b3.block _ (lt_of kR2)).trans kR2
  have kI3 := (b3.block _ (lt_of kI2)).trans kI2
  have kF3 := (b3.block _ (lt_of kF2)).trans kF2
  have HL3 := hide (HL2.out.under b3)
  have HB3 := hide (HB2.out.under b3)
  have zw3 := Nat.le_trans zw2 b3.size
  clear kR2 kI2 kF2 HL2 HB2 b3 B2
  have g0 := cell_of k4 0
  have g1 := cell_of k4 1
  simp at g0 g1
  have c0 := cell_of kR3 0
  have c1 := cell_of kR3 1
  have c2 := cell_of kR3 2
  have c3 := cell_of kR3 3
  simp at c0 c1 c2 c3
  have y4 := lt_of k4
  have yR := lt_of kR3
  have yI := lt_of kI3
  have yF := lt_of kF3
  by_cases hz : f1 = 0
  case neg =>
    have hzb : (f1 != 0) = true := by simpa using hz
    have HMk := hide (show Em.make L B = ((f1, f2), Em.noIm) by rw [HF1.out, HF2.out]; exact make_fault (by rw [← HF1.out]; exact hz))
    have hne : w.heap.size + 2 ≠ w.heap.size + 1 := by omega
    go_upto_region 3 with fail
    refine wp_region_late (fun w' => Aside [w.heap.size + 1, w.heap.size + 2] w3.heap.size w3 w') (fun _ => false) (by kernel_rfl) ?_
    have hH0 : Aside [w.heap.size + 1, w.heap.size + 2] w3.heap.size w3 w3.drew := (Aside.refl _).drew
    have KI0 : w3.drew.heap[w.heap.size + 1]? = some (.cells #[.int .i64 0, .int .i64 0, .int .i64 0, .slice none 0 0, .slice none 0 0, .slice none 0 0, .slice none 0 0] 31 (0, 0)) := kI3
    have KF0 : w3.drew.heap[w.heap.size + 2]? = some (.cells #[.int .i64 0, .int .i64 0] 33 (0, 0)) := kF3
    generalize w3.drew = wd0 at hH0 KI0 KF0 ⊢
    refine' wpAnyL_take (i := 0) (oi := ⟨some 19, _, _, _, _, _⟩) (v := _) rfl (by kernel_rfl) (by kernel_rfl) (by kernel_rfl) (by kernel_rfl) (fun _ _ _ h => h) hH0 (by rfl) ?hyv ?onw
    case hyv =>
      intro wz hSw
      go_simp
      try rfl
    case onw =>
      try simp only [Act.put, List.setIfInBounds_toArray, List.set_cons_zero, List.set_cons_succ]
      refine' wpAnyL_take (i := 1) (oi := ⟨some 20, _, _, _, _, _⟩) (v := _) rfl (by kernel_rfl) (by kernel_rfl) (by kernel_rfl) (by kernel_rfl) (fun _ _ _ h => h) hH0 (by rfl) ?hyv ?onw
      case hyv =>
        intro wz hSw
        have zc0 := (aside_cell hSw (p := ⟨w2.heap.size, 0, none⟩) y4 (by simp; omega)).trans g0
        have zc1 := (aside_cell hSw (p := ⟨w2.heap.size, 1, none⟩) y4 (by simp; omega)).trans g1
        go_simp
        try rfl
      case onw =>
        try simp only [Act.put, List.setIfInBounds_toArray, List.set_cons_zero, List.set_cons_succ]
        refine wpAnyL_one (i := 2) (o := _) rfl (by kernel_rfl) (by rfl) (fun K hK => ?_)
        have kX := KI0
        have st0 := cell_of kX 0
        have st1 := cell_of kX 1
        have st2 := cell_of kX 2
        have st3 := cell_of kX 3
        have st4 := cell_of kX 4
        have st5 := cell_of kX 5
        have st6 := cell_of kX 6
        have fst0 := free_of kX 0
        have fst1 := free_of kX 1
        have fst2 := free_of kX 2
        have fst3 := free_of kX 3
        have fst4 := free_of kX 4
        have fst5 := free_of kX 5
        have fst6 := free_of kX 6
        simp at st0 st1 st2 st3 st4 st5 st6
        have KI := seven_set kX (.int .i64 0) (.int .i64 0) (.int .i64 0) (.slice none 0 0) (.slice none 0 0) (.slice none 0 0) (.slice none 0 0)
        have a0 : Aside [w.heap.size + 1, w.heap.size + 2] wd0.heap.size wd0 (((((((wd0.setCell ⟨w.heap.size + 1, 0, none⟩ (.int .i64 0)).setCell ⟨w.heap.size + 1, 1, none⟩ (.int .i64 0)).setCell ⟨w.heap.size + 1, 2, none⟩ (.int .i64 0)).setCell ⟨w.heap.size + 1, 3, none⟩ (.slice none 0 0)).setCell ⟨w.heap.size + 1, 4, none⟩ (.slice none 0 0)).setCell ⟨w.heap.size + 1, 5, none⟩ (.slice none 0 0)).setCell ⟨w.heap.size + 1, 6, none⟩ (.slice none 0 0)) := aside_seven (by simp) (.int .i64 0) (.int .i64 0) (.int .i64 0) (.slice none 0 0) (.slice none 0 0) (.slice none 0 0) (.slice none 0 0)
        have a7 : Aside [w.heap.size + 1] wd0.heap.size wd0 (((((((wd0.setCell ⟨w.heap.size + 1, 0, none⟩ (.int .i64 0)).setCell ⟨w.heap.size + 1, 1, none⟩ (.int .i64 0)).setCell ⟨w.heap.size + 1, 2, none⟩ (.int .i64 0)).setCell ⟨w.heap.size + 1, 3, none⟩ (.slice none 0 0)).setCell ⟨w.heap.size + 1, 4, none⟩ (.slice none 0 0)).setCell ⟨w.heap.size + 1, 5, none⟩ (.slice none 0 0)).setCell ⟨w.heap.size + 1, 6, none⟩ (.slice none 0 0)) := aside_seven (by simp) (.int .i64 0) (.int .i64 0) (.int .i64 0) (.slice none 0 0) (.slice none 0 0) (.slice none 0 0) (.slice none 0 0)
        have KF0 := (a7.block _ (lt_of KF0) (by simp <;> omega)).trans KF0
        have hH1 : Aside [w.heap.size + 1, w.heap.size + 2] w3.heap.size w3 (((((((wd0.setCell ⟨w.heap.size + 1, 0, none⟩ (.int .i64 0)).setCell ⟨w.heap.size + 1, 1, none⟩ (.int .i64 0)).setCell ⟨w.heap.size + 1, 2, none⟩ (.int .i64 0)).setCell ⟨w.heap.size + 1, 3, none⟩ (.slice none 0 0)).setCell ⟨w.heap.size + 1, 4, none⟩ (.slice none 0 0)).setCell ⟨w.heap.size + 1, 5, none⟩ (.slice none 0 0)).setCell ⟨w.heap.size + 1, 6, none⟩ (.slice none 0 0)) := hH0.trans a0 hH0.size
        go_simp
        refine hK.out _ _ (fun _ => hH1) ?_
        clear hK K a0 a7 kX st0 fst0 st1 fst1 st2 fst2 st3 fst3 st4 fst4 st5 fst5 st6 fst6
        try simp only [Act.put, List.setIfInBounds_toArray, List.set_cons_zero, List.set_cons_succ]
        generalize (((((((wd0.setCell ⟨w.heap.size + 1, 0, none⟩ (.int .i64 0)).setCell ⟨w.heap.size + 1, 1, none⟩ (.int .i64 0)).setCell ⟨w.heap.size + 1, 2, none⟩ (.int .i64 0)).setCell ⟨w.heap.size + 1, 3, none⟩ (.slice none 0 0)).setCell ⟨w.heap.size + 1, 4, none⟩ (.slice none 0 0)).setCell ⟨w.heap.size + 1, 5, none⟩ (.slice none 0 0)).setCell ⟨w.heap.size + 1, 6, none⟩ (.slice none 0 0)) = wd1 at hH1 KI KF0 ⊢
        refine wpAnyL_one (i := 3) (o := _) rfl (by kernel_rfl) (by rfl) (fun K hK => ?_)
        have kX := KF0
        have st0 := cell_of kX 0
        have st1 := cell_of kX 1
        have fst0 := free_of kX 0
        have fst1 := free_of kX 1
        simp at st0 st1
        have KF := two_set kX (.int .i64 f1) (.int .i64 f2)
        have a0 : Aside [w.heap.size + 1, w.heap.size + 2] wd1.heap.size wd1 ((wd1.setCell ⟨w.heap.size + 2, 0, none⟩ (.int .i64 f1)).setCell ⟨w.heap.size + 2, 1, none⟩ (.int .i64 f2)) := aside_two (by simp) (.int .i64 f1) (.int .i64 f2)
        have a7 : Aside [w.heap.size + 2] wd1.heap.size wd1 ((wd1.setCell ⟨w.heap.size + 2, 0, none⟩ (.int .i64 f1)).setCell ⟨w.heap.size + 2, 1, none⟩ (.int .i64 f2)) := aside_two (by simp) (.int .i64 f1) (.int .i64 f2)
        have KI := (a7.block _ (lt_of KI) (by simp <;> omega)).trans KI
        have hH2 : Aside [w.heap.size + 1, w.heap.size + 2] w3.heap.size w3 ((wd1.setCell ⟨w.heap.size + 2, 0, none⟩ (.int .i64 f1)).setCell ⟨w.heap.size + 2, 1, none⟩ (.int .i64 f2)) := hH1.trans a0 hH1.size
        go_simp
        refine hK.out _ _ (fun _ => hH2) ?_
        clear hK K a0 a7 kX st0 fst0 st1 fst1
        try simp only [Act.put, List.setIfInBounds_toArray, List.set_cons_zero, List.set_cons_succ]
        generalize ((wd1.setCell ⟨w.heap.size + 2, 0, none⟩ (.int .i64 f1)).setCell ⟨w.heap.size + 2, 1, none⟩ (.int .i64 f2)) = wd2 at hH2 KF KI ⊢
        refine wpAnyL_done (by kernel_rfl) ?_ _
        have x0 := cell_of KI 0
        have x1 := cell_of KI 1
        have x2 := cell_of KI 2
        have x3 := cell_of KI 3
        have x4 := cell_of KI 4
        have x5 := cell_of KI 5
        have x6 := cell_of KI 6
        simp at x0 x1 x2 x3 x4 x5 x6
        have z0 := cell_of KF 0
        have z1 := cell_of KF 1
        simp at z0 z1
        have BX := aside_low B3 hH2 (Nat.le_refl _) (by simp)
        go_wp2
        exact bodyPost_ret (v := .tuple #[.agg #[.int .i64 0, .int .i64 0, .int .i64 0, .slice none 0 0, .slice none 0 0, .slice none 0 0, .slice none 0 0], .agg #[.int .i64 f1, .int .i64 f2]]) (by simp [results, Tryd.results9, go_sem, x0, x1, x2, x3, x4, x5, x6, z0, z1]) rfl (MakeP.bad HMk.out BX)
  case pos =>
    subst hz
    have hf0 : (Lo.fault L).1 = 0 := HF1.out.symm
    have HGd := hide (HGood.out hf0)
    have HF0 := hide hf0
    clear HGood hf0
    have hlens := Lo.lens_of HF0.out
    have b4 : Below w3.heap.size w3 (w3.alloc (.cells #[.slice none 0 0] 70 (0, 0))) := (Below.refl _ _).alloc (Nat.le_refl _) _
    have k5 := heap_new w3 (.cells #[.slice none 0 0] 70 (0, 0))
    have zcb : w3.heap.size < (w3.alloc (.cells #[.slice none 0 0] 70 (0, 0))).heap.size := by simp
    go_upto_region 5 with fail
    generalize w3.alloc (.cells #[.slice none 0 0] 70 (0, 0)) = w4 at b4 k5 zcb ⊢
    have B4 := B3.trans (b4.mono B3.size)
    have kR4 := (b4.block _ (lt_of kR3)).trans kR3
    have kI4 := (b4.block _ (lt_of kI3)).trans kI3
    have kF4 := (b4.block _ (lt_of kF3)).trans kF3
    have HL4 := hide (HL3.out.under b4)
    have HB4 := hide (HB3.out.under b4)
    have HEO := hide (show EO w4 w3.heap.size w3.heap.size (.slice none 0 0) [] from ⟨k5, OwnX.nil, zcb⟩)
    have HM0 := hide (show Em.mkS L.S 0 [] 3 = Em.mkS (L.S.drop 0) ((0 : Nat) : Int) [] 3 by rw [List.drop_zero]; rfl)
    clear kR3 kI3 kF3 HL3 HB3 b4 k5 g0 g1 k4 y4 c0 c1 c2 c3 yR yI yF
    obtain ⟨ns, hns⟩ : ∃ ns, ns = L.S.length := ⟨_, rfl⟩
    rw [← hns] at kR4 hlens
    have HNS := hide hns
    clear hns
    have c0 := cell_of kR4 0
    have c1 := cell_of kR4 1
    have c2 := cell_of kR4 2
    have c3 := cell_of kR4 3
    simp at c0 c1 c2 c3
    have yR := lt_of kR4
    go_wp2_with fail
    go_loopg [8, 9] ns (fun kz v8 v9 wr => ∃ (i k' : Nat) (v' : Value) (C : List Cd.In) (R : Int), i ≤ ns ∧ kz = ns - i ∧ v9 = .int .i64 (i : Nat) ∧ v8 = .int .i64 R ∧ Hid (Em.mkS L.S 0 [] 3 = Em.mkS (L.S.drop i) (i : Int) C R) ∧ Hid (EO wr w3.heap.size k' v' C ∧ (k' = w3.heap.size ∨ w4.heap.size ≤ k') ∧ C.length ≤ 200000 ∧ 3 ≤ R ∧ R ≤ 40) ∧ Aside [w3.heap.size, w3.heap.size] w4.heap.size w4 wr)
    case atStart => exact ⟨0, w3.heap.size, .slice none 0 0, [], 3, Nat.zero_le _, rfl, rfl, rfl, HM0, hide ⟨HEO.out, .inl rfl, by simp, by decide, by decide⟩, Aside.refl _⟩
    case round =>
      clear HM0 HEO c0 c1 c2 c3
      obtain ⟨i, k', v', C, R, hi, rfl, rfl, rfl, H, HC, abr⟩ := hrel
      have kRr := (abr.block _ yR (by simp; omega)).trans kR4
      have kIr := (abr.block _ (lt_of kI4) (by simp; omega)).trans kI4
      have kFr := (abr.block _ (lt_of kF4) (by simp; omega)).trans kF4
      have c0 := cell_of kRr 0
      have c1 := cell_of kRr 1
      have c2 := cell_of kRr 2
      have c3 := cell_of kRr 3
      simp at c0 c1 c2 c3
      by_cases hlt : i < ns
      case neg =>
        have hin : i = ns := by omega
        subst hin
        obtain ⟨o1, o2, o3, o4, o5⟩ := HC.out
        obtain ⟨av, cv, rfl, -, -⟩ := o1.own.form
        have HMKS := hide (show Em.mkS L.S 0 [] 3 = .inr (C, R) by rw [H.out, List.drop_of_length_le (by have := HNS.out; omega)]; rfl)
        have hcode : HIns (fun j => w.heap.size + 3 ≤ j ∧ j < wr.heap.size) wr (.slice av C.length cv) C := HRow.wide o1.own.row (fun j hj hl => ⟨by rcases o2 with h | h <;> omega, hl⟩)
        have m0 := cell_of o1.m 0
        simp at m0
        have ym := lt_of o1.m
        have HCost := hide (fun W (b : Below wr.heap.size wr W) => costOf11_any (hcode.under b) (by omega))
        obtain ⟨ln, hln⟩ : ∃ ln, ln = C.length := ⟨_, rfl⟩
        have HCode := hide hcode
        have HLn := hide hln
        rw [← hln] at m0 HCost
        obtain ⟨ko, hko⟩ : ∃ ko, ko = Cd.cost 10 11 C := ⟨_, rfl⟩
        rw [← hko] at HCost
        have HKo := hide hko
        have HRs := hide (Em.img_ok HF0.out HMKS.out)
        have BR := aside_low B4 abr (Nat.le_refl _) (by simp; omega)
        have HLr := hide (show HLp (fun i => i < w.heap.size) wr aP aG aS cP cG cS L from HL4.out.keep abr.size (fun j hj hl => abr.block j hl (by simp; omega)))
        have HBr := hide (show HInts (fun i => i < w.heap.size) wr (.slice aB B.length cB) B from HB4.out.keep abr.size (fun j hj hl => abr.block j hl (by simp; omega)))
        have yRr := lt_of kRr
        have HKI := hide (And.intro kIr kFr)
        obtain ⟨np, hnp⟩ : ∃ x, x = L.P.length := ⟨_, rfl⟩
        obtain ⟨ng, hng⟩ : ∃ x, x = L.G.length := ⟨_, rfl⟩
        obtain ⟨nb, hnb⟩ : ∃ x, x = B.length := ⟨_, rfl⟩
        rw [← hnp] at c1
        rw [← hng] at c2
        rw [← hnb]
        have HNP := hide hnp
        have HNG := hide hng
        have HNB := hide hnb
        clear o1 o2 o3 o4 o5 hcode hln hko HC H kIr kFr kR4 kI4 kF4 HL4 HB4 yR HNS HGd hnp hng hnb
        obtain ⟨w5, hw5⟩ : ∃ x, x = wr := ⟨_, rfl⟩
        subst hw5
        go_upto_region 18 with fail
        go_cut [12] (fun v wd => ∃ (mb : Nat), v = .pointer (some ⟨mb, 0, none⟩) ∧ Hid (wd.heap[mb]? = some (.cells #[.int .i64 L.c, .int .i64 R, .int .i64 ko, .slice aP np cP, .slice aB nb cB, .slice aG ng cG, .slice av ln cv] 31 (0, 0)) ∧ w5.heap.size ≤ mb) ∧ Below w5.heap.size w5 wd)
        case first =>
          refine wp_region_late (fun w' => Below w5.heap.size w5 w') (fun i => i == 19) (by kernel_rfl) ?_
          have hH0 : Below w5.heap.size w5 w5.drew := (Below.refl _ _).drew
          generalize w5.drew = wd0 at hH0 ⊢
          refine' wpAnyL_take (i := 0) (oi := ⟨some 85, _, _, _, _, _⟩) (v := _) rfl (by kernel_rfl) (by kernel_rfl) (by kernel_rfl) (by kernel_rfl) (fun _ _ _ h => h) hH0 (by rfl) ?hyv ?onw
          case hyv =>
            intro wz hSw
            go_simp
            try rfl
          case onw =>
            try simp only [Act.put, List.setIfInBounds_toArray, List.set_cons_zero, List.set_cons_succ]
            refine' wpAnyL_take (i := 1) (oi := ⟨some 86, _, _, _, _, _⟩) (v := _) rfl (by kernel_rfl) (by kernel_rfl) (by kernel_rfl) (by kernel_rfl) (fun _ _ _ h => h) hH0 (by rfl) ?hyv ?onw
            case hyv =>
              intro wz hSw
              have zc0 := (hSw.cell (p := ⟨w.heap.size, 0, none⟩) yRr).trans c0
              have zc1 := (hSw.cell (p := ⟨w.heap.size, 1, none⟩) yRr).trans c1
              have zc2 := (hSw.cell (p := ⟨w.heap.size, 2, none⟩) yRr).trans c2
              have zc3 := (hSw.cell (p := ⟨w.heap.size, 3, none⟩) yRr).trans c3
              have zc4 := (hSw.cell (p := ⟨w3.heap.size, 0, none⟩) ym).trans m0
              go_simp
              try rfl
            case onw =>
              try simp only [Act.put, List.setIfInBounds_toArray, List.set_cons_zero, List.set_cons_succ]
              refine' wpAnyL_take (i := 2) (oi := ⟨some 87, _, _, _, _, _⟩) (v := _) rfl (by kernel_rfl) (by kernel_rfl) (by kernel_rfl) (by kernel_rfl) (fun _ _ _ h => h) hH0 (by rfl) ?hyv ?onw
              case hyv =>
                intro wz hSw
                go_simp
                try rfl
              case onw =>
                try simp only [Act.put, List.setIfInBounds_toArray, List.set_cons_zero, List.set_cons_succ]
                refine' wpAnyL_take (i := 3) (oi := ⟨some 88, _, _, _, _, _⟩) (v := _) rfl (by kernel_rfl) (by kernel_rfl) (by kernel_rfl) (by kernel_rfl) (fun _ _ _ h => h) hH0 (by rfl) ?hyv ?onw
                case hyv =>
                  intro wz hSw
                  go_simp
                  try rfl
                case onw =>
                  try simp only [Act.put, List.setIfInBounds_toArray, List.set_cons_zero, List.set_cons_succ]
                  refine' wpAnyL_take (i := 4) (oi := ⟨some 89, _, _, _, _, _⟩) (v := _) rfl (by kernel_rfl) (by kernel_rfl) (by kernel_rfl) (by kernel_rfl) (fun _ _ _ h => h) hH0 (by rfl) ?hyv ?onw
                  case hyv =>
                    intro wz hSw
                    go_simp
                    try rfl
                  case onw =>
                    try simp only [Act.put, List.setIfInBounds_toArray, List.set_cons_zero, List.set_cons_succ]
                    refine' wpAnyL_take (i := 5) (oi := ⟨some 90, _, _, _, _, _⟩) (v := _) rfl (by kernel_rfl) (by kernel_rfl) (by kernel_rfl) (by kernel_rfl) (fun _ _ _ h => h) hH0 (by rfl) ?hyv ?onw
                    case hyv =>
                      intro wz hSw
                      go_simp
                      try rfl
                    case onw =>
                      try simp only [Act.put, List.setIfInBounds_toArray, List.set_cons_zero, List.set_cons_succ]
                      refine' wpAnyL_take (i := 6) (oi := ⟨some 91, _, _, _, _, _⟩) (v := _) rfl (by kernel_rfl) (by kernel_rfl) (by kernel_rfl) (by kernel_rfl) (fun _ _ _ h => h) hH0 (by rfl) ?hyv ?onw
                      case hyv =>
                        intro wz hSw
                        have zc0 := (hSw.cell (p := ⟨w.heap.size, 0, none⟩) yRr).trans c0
                        have zc1 := (hSw.cell (p := ⟨w.heap.size, 1, none⟩) yRr).trans c1
                        have zc2 := (hSw.cell (p := ⟨w.heap.size, 2, none⟩) yRr).trans c2
                        have zc3 := (hSw.cell (p := ⟨w.heap.size, 3, none⟩) yRr).trans c3
                        have zc4 := (hSw.cell (p := ⟨w3.heap.size, 0, none⟩) ym).trans m0
                        go_simp
                        try rfl
                      case onw =>
                        try simp only [Act.put, List.setIfInBounds_toArray, List.set_cons_zero, List.set_cons_succ]
                        refine' wpAnyL_take (i := 8) (oi := ⟨some 93, _, _, _, _, _⟩) (v := _) rfl (by kernel_rfl) (by kernel_rfl) (by kernel_rfl) (by kernel_rfl) (fun _ _ _ h => h) hH0 (by rfl) ?hyv ?onw
                        case hyv =>
                          intro wz hSw
                          go_simp
                          try rfl
                        case onw =>
                          try simp only [Act.put, List.setIfInBounds_toArray, List.set_cons_zero, List.set_cons_succ]
                          refine' wpAnyL_take (i := 9) (oi := ⟨some 94, _, _, _, _, _⟩) (v := _) rfl (by kernel_rfl) (by kernel_rfl) (by kernel_rfl) (by kernel_rfl) (fun _ _ _ h => h) hH0 (by rfl) ?hyv ?onw
                          case hyv =>
                            intro wz hSw
                            have zc0 := (hSw.cell (p := ⟨w.heap.size, 0, none⟩) yRr).trans c0
                            have zc1 := (hSw.cell (p := ⟨w.heap.size, 1, none⟩) yRr).trans c1
                            have zc2 := (hSw.cell (p := ⟨w.heap.size, 2, none⟩) yRr).trans c2
                            have zc3 := (hSw.cell (p := ⟨w.heap.size, 3, none⟩) yRr).trans c3
                            have zc4 := (hSw.cell (p := ⟨w3.heap.size, 0, none⟩) ym).trans m0
                            go_simp
                            try rfl
                          case onw =>
                            try simp only [Act.put, List.setIfInBounds_toArray, List.set_cons_zero, List.set_cons_succ]
                            refine' wpAnyL_take (i := 10) (oi := ⟨some 95, _, _, _, _, _⟩) (v := _) rfl (by kernel_rfl) (by kernel_rfl) (by kernel_rfl) (by kernel_rfl) (fun _ _ _ h => h) hH0 (by rfl) ?hyv ?onw
                            case hyv =>
                              intro wz hSw
                              go_simp
                              try rfl
                            case onw =>
                              try simp only [Act.put, List.setIfInBounds_toArray, List.set_cons_zero, List.set_cons_succ]
                              refine' wpAnyL_take (i := 11) (oi := ⟨some 96, _, _, _, _, _⟩) (v := _) rfl (by kernel_rfl) (by kernel_rfl) (by kernel_rfl) (by kernel_rfl) (fun _ _ _ h => h) hH0 (by rfl) ?hyv ?onw
                              case hyv =>
                                intro wz hSw
                                go_simp
                                try rfl
                              case onw =>
                                try simp only [Act.put, List.setIfInBounds_toArray, List.set_cons_zero, List.set_cons_succ]
                                refine' wpAnyL_take (i := 12) (oi := ⟨some 97, _, _, _, _, _⟩) (v := _) rfl (by kernel_rfl) (by kernel_rfl) (by kernel_rfl) (by kernel_rfl) (fun _ _ _ h => h) hH0 (by rfl) ?hyv ?onw
                                case hyv =>
                                  intro wz hSw
                                  have zc0 := (hSw.cell (p := ⟨w.heap.size, 0, none⟩) yRr).trans c0
                                  have zc1 := (hSw.cell (p := ⟨w.heap.size, 1, none⟩) yRr).trans c1
                                  have zc2 := (hSw.cell (p := ⟨w.heap.size, 2, none⟩) yRr).trans c2
                                  have zc3 := (hSw.cell (p := ⟨w.heap.size, 3, none⟩) yRr).trans c3
                                  have zc4 := (hSw.cell (p := ⟨w3.heap.size, 0, none⟩) ym).trans m0
                                  go_simp
                                  try rfl
                                case onw =>
                                  try simp only [Act.put, List.setIfInBounds_toArray, List.set_cons_zero, List.set_cons_succ]
                                  refine' wpAnyL_take (i := 13) (oi := ⟨some 98, _, _, _, _, _⟩) (v := _) rfl (by kernel_rfl) (by kernel_rfl) (by kernel_rfl) (by kernel_rfl) (fun _ _ _ h => h) hH0 (by rfl) ?hyv ?onw
                                  case hyv =>
                                    intro wz hSw
                                    go_simp
                                    try rfl
                                  case onw =>
                                    try simp only [Act.put, List.setIfInBounds_toArray, List.set_cons_zero, List.set_cons_succ]
                                    refine' wpAnyL_take (i := 14) (oi := ⟨some 99, _, _, _, _, _⟩) (v := _) rfl (by kernel_rfl) (by kernel_rfl) (by kernel_rfl) (by kernel_rfl) (fun _ _ _ h => h) hH0 (by rfl) ?hyv ?onw
                                    case hyv =>
                                      intro wz hSw
                                      go_simp
                                      try rfl
                                    case onw =>
                                      try simp only [Act.put, List.setIfInBounds_toArray, List.set_cons_zero, List.set_cons_succ]
                                      refine' wpAnyL_take (i := 15) (oi := ⟨some 100, _, _, _, _, _⟩) (v := _) rfl (by kernel_rfl) (by kernel_rfl) (by kernel_rfl) (by kernel_rfl) (fun _ _ _ h => h) hH0 (by rfl) ?hyv ?onw
                                      case hyv =>
                                        intro wz hSw
                                        go_simp
                                        try rfl
                                      case onw =>
                                        try simp only [Act.put, List.setIfInBounds_toArray, List.set_cons_zero, List.set_cons_succ]
                                        refine' wpAnyL_take (i := 16) (oi := ⟨some 101, _, _, _, _, _⟩) (v := _) rfl (by kernel_rfl) (by kernel_rfl) (by kernel_rfl) (by kernel_rfl) (fun _ _ _ h => h) hH0 (by rfl) ?hyv ?onw
                                        case hyv =>
                                          intro wz hSw
                                          have zc0 := (hSw.cell (p := ⟨w.heap.size, 0, none⟩) yRr).trans c0
                                          have zc1 := (hSw.cell (p := ⟨w.heap.size, 1, none⟩) yRr).trans c1
                                          have zc2 := (hSw.cell (p := ⟨w.heap.size, 2, none⟩) yRr).trans c2
                                          have zc3 := (hSw.cell (p := ⟨w.heap.size, 3, none⟩) yRr).trans c3
                                          have zc4 := (hSw.cell (p := ⟨w3.heap.size, 0, none⟩) ym).trans m0
                                          go_simp
                                          try rfl
                                        case onw =>
                                          try simp only [Act.put, List.setIfInBounds_toArray, List.set_cons_zero, List.set_cons_succ]
                                          refine wpAnyL_two (i := 7) (j := 18) rfl rfl (by kernel_rfl) (by rfl) (by rfl) (fun K hK => ?_) (fun K hK => ?_)
                                          case _ =>
                                            go_simp
                                            refine (HCost.out wd0 hH0).mono ?_
                                            rintro eq wd1 ⟨rfl, bq1⟩
                                            have hH1 : Below w5.heap.size w5 wd1 := hH0.trans (bq1.mono hH0.size)
                                            refine hK.out _ _ (fun _ => hH1) ?_
                                            clear hK K
                                            try simp only [Act.put, List.setIfInBounds_toArray, List.set_cons_zero, List.set_cons_succ]
                                            refine' wpAnyL_take (i := 17) (oi := ⟨some 102, _, _, _, _, _⟩) (v := _) rfl (by kernel_rfl) (by kernel_rfl) (by kernel_rfl) (by kernel_rfl) (fun _ _ _ h => h) hH1 (by rfl) ?hyv ?onw
                                            case hyv =>
                                              intro wz hSw
                                              go_simp
                                              try rfl
                                            case onw =>
                                              try simp only [Act.put, List.setIfInBounds_toArray, List.set_cons_zero, List.set_cons_succ]
                                              refine wpAnyL_one (i := 18) (o := _) rfl (by kernel_rfl) (by rfl) (fun K hK => ?_)
                                              go_simp
                                              have hH2 : Below w5.heap.size w5 (wd1.alloc (.cells #[.int .i64 0, .int .i64 0, .int .i64 0, .slice none 0 0, .slice none 0 0, .slice none 0 0, .slice none 0 0] 31 (0, 0))) := hH1.alloc hH1.size _
                                              have kn2 := heap_new wd1 (.cells #[.int .i64 0, .int .i64 0, .int .i64 0, .slice none 0 0, .slice none 0 0, .slice none 0 0, .slice none 0 0] 31 (0, 0))
                                              have zn2 := hH1.size
                                              refine hK.out _ _ (fun _ => hH2) ?_
                                              clear hK K
                                              try simp only [Act.put, List.setIfInBounds_toArray, List.set_cons_zero, List.set_cons_succ]
                                              generalize wd1.alloc (.cells #[.int .i64 0, .int .i64 0, .int .i64 0, .slice none 0 0, .slice none 0 0, .slice none 0 0, .slice none 0 0] 31 (0, 0)) = wd2 at hH2 kn2 ⊢
                                              refine wpAnyL_one (i := 19) (o := _) rfl (by kernel_rfl) (by rfl) (fun K hK => ?_)
                                              have st0 := cell_of kn2 0
                                              have st1 := cell_of kn2 1
                                              have st2 := cell_of kn2 2
                                              have st3 := cell_of kn2 3
                                              have st4 := cell_of kn2 4
                                              have st5 := cell_of kn2 5
                                              have st6 := cell_of kn2 6
                                              have fst0 := free_of kn2 0
                                              have fst1 := free_of kn2 1
                                              have fst2 := free_of kn2 2
                                              have fst3 := free_of kn2 3
                                              have fst4 := free_of kn2 4
                                              have fst5 := free_of kn2 5
                                              have fst6 := free_of kn2 6
                                              simp at st0 st1 st2 st3 st4 st5 st6
                                              have KM := seven_set kn2 (.int .i64 L.c) (.int .i64 R) (.int .i64 ko) (.slice aP np cP) (.slice aB nb cB) (.slice aG ng cG) (.slice av ln cv)
                                              have hH3 := (((((((hH2).setCell (p := ⟨wd1.heap.size, 0, none⟩) hH1.size (.int .i64 L.c)).setCell (p := ⟨wd1.heap.size, 1, none⟩) hH1.size (.int .i64 R)).setCell (p := ⟨wd1.heap.size, 2, none⟩) hH1.size (.int .i64 ko)).setCell (p := ⟨wd1.heap.size, 3, none⟩) hH1.size (.slice aP np cP)).setCell (p := ⟨wd1.heap.size, 4, none⟩) hH1.size (.slice aB nb cB)).setCell (p := ⟨wd1.heap.size, 5, none⟩) hH1.size (.slice aG ng cG)).setCell (p := ⟨wd1.heap.size, 6, none⟩) hH1.size (.slice av ln cv)
                                              have HFIN := hide (And.intro KM hH1.size)
                                              clear KM
                                              go_simp
                                              refine hK.out _ _ (fun _ => hH3) ?_
                                              clear hK K
                                              try simp only [Act.put, List.setIfInBounds_toArray, List.set_cons_zero, List.set_cons_succ]
                                              generalize (((((((wd2.setCell ⟨wd1.heap.size, 0, none⟩ (.int .i64 L.c)).setCell ⟨wd1.heap.size, 1, none⟩ (.int .i64 R)).setCell ⟨wd1.heap.size, 2, none⟩ (.int .i64 ko)).setCell ⟨wd1.heap.size, 3, none⟩ (.slice aP np cP)).setCell ⟨wd1.heap.size, 4, none⟩ (.slice aB nb cB)).setCell ⟨wd1.heap.size, 5, none⟩ (.slice aG ng cG)).setCell ⟨wd1.heap.size, 6, none⟩ (.slice av ln cv)) = wd3 at hH3 HFIN ⊢
                                              refine wpAnyL_done (by kernel_rfl) ?_ _
                                              go_wp2_with fail
                                              go_meet
                                              case rel => exact ⟨wd1.heap.size, rfl, HFIN, hH3⟩
                                          case _ =>
                                            go_simp
                                            have hH1 : Below w5.heap.size w5 (wd0.alloc (.cells #[.int .i64 0, .int .i64 0, .int .i64 0, .slice none 0 0, .slice none 0 0, .slice none 0 0, .slice none 0 0] 31 (0, 0))) := hH0.alloc hH0.size _
                                            have kn1 := heap_new wd0 (.cells #[.int .i64 0, .int .i64 0, .int .i64 0, .slice none 0 0, .slice none 0 0, .slice none 0 0, .slice none 0 0] 31 (0, 0))
                                            have zn1 := hH0.size
                                            refine hK.out _ _ (fun _ => hH1) ?_
                                            clear hK K
                                            try simp only [Act.put, List.setIfInBounds_toArray, List.set_cons_zero, List.set_cons_succ]
                                            generalize wd0.alloc (.cells #[.int .i64 0, .int .i64 0, .int .i64 0, .slice none 0 0, .slice none 0 0, .slice none 0 0, .slice none 0 0] 31 (0, 0)) = wd1 at hH1 kn1 ⊢
                                            refine wpAnyL_one (i := 7) (o := _) rfl (by kernel_rfl) (by rfl) (fun K hK => ?_)
                                            go_simp
                                            refine (HCost.out wd1 hH1).mono ?_
                                            rintro eq wd2 ⟨rfl, bq2⟩
                                            have kn1_2 := (bq2.block _ (lt_of kn1)).trans kn1
                                            have hH2 : Below w5.heap.size w5 wd2 := hH1.trans (bq2.mono hH1.size)
                                            refine hK.out _ _ (fun _ => hH2) ?_
                                            clear hK K
                                            try simp only [Act.put, List.setIfInBounds_toArray, List.set_cons_zero, List.set_cons_succ]
                                            refine' wpAnyL_take (i := 17) (oi := ⟨some 102, _, _, _, _, _⟩) (v := _) rfl (by kernel_rfl) (by kernel_rfl) (by kernel_rfl) (by kernel_rfl) (fun _ _ _ h => h) hH2 (by rfl) ?hyv ?onw
                                            case hyv =>
                                              intro wz hSw
                                              go_simp
                                              try rfl
                                            case onw =>
                                              try simp only [Act.put, List.setIfInBounds_toArray, List.set_cons_zero, List.set_cons_succ]
                                              refine wpAnyL_one (i := 19) (o := _) rfl (by kernel_rfl) (by rfl) (fun K hK => ?_)
                                              have st0 := cell_of kn1_2 0
                                              have st1 := cell_of kn1_2 1
                                              have st2 := cell_of kn1_2 2
                                              have st3 := cell_of kn1_2 3
                                              have st4 := cell_of kn1_2 4
                                              have st5 := cell_of kn1_2 5
                                              have st6 := cell_of kn1_2 6
                                              have fst0 := free_of kn1_2 0
                                              have fst1 := free_of kn1_2 1
                                              have fst2 := free_of kn1_2 2
                                              have fst3 := free_of kn1_2 3
                                              have fst4 := free_of kn1_2 4
                                              have fst5 := free_of kn1_2 5
                                              have fst6 := free_of kn1_2 6
                                              simp at st0 st1 st2 st3 st4 st5 st6
                                              have KM := seven_set kn1_2 (.int .i64 L.c) (.int .i64 R) (.int .i64 ko) (.slice aP np cP) (.slice aB nb cB) (.slice aG ng cG) (.slice av ln cv)
                                              have hH3 := (((((((hH2).setCell (p := ⟨wd0.heap.size, 0, none⟩) hH0.size (.int .i64 L.c)).setCell (p := ⟨wd0.heap.size, 1, none⟩) hH0.size (.int .i64 R)).setCell (p := ⟨wd0.heap.size, 2, none⟩) hH0.size (.int .i64 ko)).setCell (p := ⟨wd0.heap.size, 3, none⟩) hH0.size (.slice aP np cP)).setCell (p := ⟨wd0.heap.size, 4, none⟩) hH0.size (.slice aB nb cB)).setCell (p := ⟨wd0.heap.size, 5, none⟩) hH0.size (.slice aG ng cG)).setCell (p := ⟨wd0.heap.size, 6, none⟩) hH0.size (.slice av ln cv)
                                              have HFIN := hide (And.intro KM hH0.size)
                                              clear KM
                                              go_simp
                                              refine hK.out _ _ (fun _ => hH3) ?_
                                              clear hK K
                                              try simp only [Act.put, List.setIfInBounds_toArray, List.set_cons_zero, List.set_cons_succ]
                                              generalize (((((((wd2.setCell ⟨wd0.heap.size, 0, none⟩ (.int .i64 L.c)).setCell ⟨wd0.heap.size, 1, none⟩ (.int .i64 R)).setCell ⟨wd0.heap.size, 2, none⟩ (.int .i64 ko)).setCell ⟨wd0.heap.size, 3, none⟩ (.slice aP np cP)).setCell ⟨wd0.heap.size, 4, none⟩ (.slice aB nb cB)).setCell ⟨wd0.heap.size, 5, none⟩ (.slice aG ng cG)).setCell ⟨wd0.heap.size, 6, none⟩ (.slice av ln cv)) = wd3 at hH3 HFIN ⊢
                                              refine wpAnyL_done (by kernel_rfl) ?_ _
                                              go_wp2_with fail
                                              go_meet
                                              case rel => exact ⟨wd0.heap.size, rfl, HFIN, hH3⟩
        case rest =>
          obtain ⟨mb, rfl, HX, bc⟩ := hcut
          obtain ⟨km, hmb⟩ := HX.out
          have BC := BR.trans (bc.mono BR.size)
          have hmbl := lt_of km
          have kIc := (bc.block _ (lt_of HKI.out.1)).trans HKI.out.1
          have kFc := (bc.block _ (lt_of HKI.out.2)).trans HKI.out.2
          have zc5 : w.heap.size + 3 ≤ w5.heap.size := by have := lt_of HKI.out.2; omega
          have hm : HIm (fun i => i < w.heap.size ∨ w.heap.size + 3 ≤ i) wc aP aB aG av cP cB cG cv (Em.img L B C R) := ⟨(HLr.out.P.under bc).wide (fun i h _ => .inl h), (HBr.out.under bc).wide (fun i h _ => .inl h), (HLr.out.G.under bc).wide (fun i h _ => .inl h), HRow.wide (HCode.out.under bc) (fun i h _ => .inr h.1), fun x hx => (HRs.out.2.2.2.1 x hx).b⟩
          have hck := image9_any hm
          have e1 : (Em.img L B C R).P.length = np := HNP.out.symm
          have e2 : (Em.img L B C R).B.length = nb := HNB.out.symm
          have e3 : (Em.img L B C R).G.length = ng := HNG.out.symm
          have e4 : (Em.img L B C R).l.length = ln := HLn.out.symm
          have e5 : (Em.img L B C R).cost = ko := HKo.out.symm
          rw [e1, e2, e3, e4, e5] at hck
          obtain ⟨g1, hg1⟩ : ∃ x, x = (Cd.fault (Em.img L B C R)).1 := ⟨_, rfl⟩
          obtain ⟨g2, hg2⟩ : ∃ x, x = (Cd.fault (Em.img L B C R)).2 := ⟨_, rfl⟩
          rw [← hg1, ← hg2] at hck
          have HCK := hide hck
          have HG1 := hide hg1
          have HG2 := hide hg2
          have HM := hide hm
          have KM := km
          have m0 := cell_of KM 0
          have m1 := cell_of KM 1
          have m2 := cell_of KM 2
          have m3 := cell_of KM 3
          have m4 := cell_of KM 4
          have m5 := cell_of KM 5
          have m6 := cell_of KM 6
          simp at m0 m1 m2 m3 m4 m5 m6
          clear hck hg1 hg2 hm e1 e2 e3 e4 e5 c0 c1 c2 c3 km kRr yRr HX HCost HLr HBr HCode HKI ym
          obtain ⟨w7, hw7⟩ : ∃ x, x = wc := ⟨_, rfl⟩
          subst hw7
          go_wp2_with fail
          refine HCK.out.mono ?_
          rintro e w8 ⟨rfl, b8⟩
          have KM8 := (b8.block _ (lt_of KM)).trans KM
          have kI8 := (b8.block _ (lt_of kIc)).trans kIc
          have kF8 := (b8.block _ (lt_of kFc)).trans kFc
          have HM8 := hide (HM.out.under b8)
          have B8 := BC.trans (b8.mono BC.size)
          clear m0 m1 m2 m3 m4 m5 m6 KM kIc kFc HM BC HCK bc
          have b9 : Below w8.heap.size w8 (w8.alloc (.cells #[.int .i64 g1, .int .i64 g2] 33 (0, 0))) := (Below.refl _ _).alloc (Nat.le_refl _) _
          have kG := heap_new w8 (.cells #[.int .i64 g1, .int .i64 g2] 33 (0, 0))
          go_upto_region 20 with fail
          generalize w8.alloc (.cells #[.int .i64 g1, .int .i64 g2] 33 (0, 0)) = w9 at b9 kG ⊢
          have KM9 := (b9.block _ (lt_of KM8)).trans KM8
          have kI9 := (b9.block _ (lt_of kI8)).trans kI8
          have kF9 := (b9.block _ (lt_of kF8)).trans kF8
          have HM9 := hide (HM8.out.under b9)
          have B9 := B8.trans (b9.mono B8.size)
          have zc8 : w.heap.size + 3 ≤ w8.heap.size := by have := lt_of kF8; omega
          clear KM8 kI8 kF8 HM8 b8 b9 B8
          have r0 := cell_of kG 0
          have r1 := cell_of kG 1
          simp at r0 r1
          have yr := lt_of kG
          have hne : w.heap.size + 2 ≠ w.heap.size + 1 := by omega
          by_cases hg : g1 = 0
          case neg =>
            have hgb : (g1 != 0) = true := by simpa using hg
            have HMk := hide (show Em.make L B = ((g1, g2), Em.noIm) by
              rw [make_code HF0.out HMKS.out, if_pos (by rw [← HG1.out]; exact hg)]
              exact congrArg (fun x => (x, Em.noIm)) (Prod.ext HG1.out.symm HG2.out.symm))
            go_upto_region 21 with fail
            refine wp_region_late (fun w' => Aside [w.heap.size + 1, w.heap.size + 2] w9.heap.size w9 w') (fun _ => false) (by kernel_rfl) ?_
            have hH0 : Aside [w.heap.size + 1, w.heap.size + 2] w9.heap.size w9 w9.drew := (Aside.refl _).drew
            have KI0 : w9.drew.heap[w.heap.size + 1]? = some (.cells #[.int .i64 0, .int .i64 0, .int .i64 0, .slice none 0 0, .slice none 0 0, .slice none 0 0, .slice none 0 0] 31 (0, 0)) := kI9
            have KF0 : w9.drew.heap[w.heap.size + 2]? = some (.cells #[.int .i64 0, .int .i64 0] 33 (0, 0)) := kF9
            generalize w9.drew = wd0 at hH0 KI0 KF0 ⊢
            refine' wpAnyL_take (i := 0) (oi := ⟨some 108, _, _, _, _, _⟩) (v := _) rfl (by kernel_rfl) (by kernel_rfl) (by kernel_rfl) (by kernel_rfl) (fun _ _ _ h => h) hH0 (by rfl) ?hyv ?onw
            case hyv =>
              intro wz hSw
              go_simp
              try rfl
            case onw =>
              try simp only [Act.put, List.setIfInBounds_toArray, List.set_cons_zero, List.set_cons_succ]
              refine' wpAnyL_take (i := 1) (oi := ⟨some 109, _, _, _, _, _⟩) (v := _) rfl (by kernel_rfl) (by kernel_rfl) (by kernel_rfl) (by kernel_rfl) (fun _ _ _ h => h) hH0 (by rfl) ?hyv ?onw
              case hyv =>
                intro wz hSw
                have zc0 := (aside_cell hSw (p := ⟨w8.heap.size, 0, none⟩) yr (by simp; omega)).trans r0
                have zc1 := (aside_cell hSw (p := ⟨w8.heap.size, 1, none⟩) yr (by simp; omega)).trans r1
                go_simp
                try rfl
              case onw =>
                try simp only [Act.put, List.setIfInBounds_toArray, List.set_cons_zero, List.set_cons_succ]
                refine wpAnyL_one (i := 2) (o := _) rfl (by kernel_rfl) (by rfl) (fun K hK => ?_)
                have kX := KI0
                have st0 := cell_of kX 0
                have st1 := cell_of kX 1
                have st2 := cell_of kX 2
                have st3 := cell_of kX 3
                have st4 := cell_of kX 4
                have st5 := cell_of kX 5
                have st6 := cell_of kX 6
                have fst0 := free_of kX 0
                have fst1 := free_of kX 1
                have fst2 := free_of kX 2
                have fst3 := free_of kX 3
                have fst4 := free_of kX 4
                have fst5 := free_of kX 5
                have fst6 := free_of kX 6
                simp at st0 st1 st2 st3 st4 st5 st6
                have KI := seven_set kX (.int .i64 0) (.int .i64 0) (.int .i64 0) (.slice none 0 0) (.slice none 0 0) (.slice none 0 0) (.slice none 0 0)
                have a0 : Aside [w.heap.size + 1, w.heap.size + 2] wd0.heap.size wd0 (((((((wd0.setCell ⟨w.heap.size + 1, 0, none⟩ (.int .i64 0)).setCell ⟨w.heap.size + 1, 1, none⟩ (.int .i64 0)).setCell ⟨w.heap.size + 1, 2, none⟩ (.int .i64 0)).setCell ⟨w.heap.size + 1, 3, none⟩ (.slice none 0 0)).setCell ⟨w.heap.size + 1, 4, none⟩ (.slice none 0 0)).setCell ⟨w.heap.size + 1, 5, none⟩ (.slice none 0 0)).setCell ⟨w.heap.size + 1, 6, none⟩ (.slice none 0 0)) := aside_seven (by simp) (.int .i64 0) (.int .i64 0) (.int .i64 0) (.slice none 0 0) (.slice none 0 0) (.slice none 0 0) (.slice none 0 0)
                have a7 : Aside [w.heap.size + 1] wd0.heap.size wd0 (((((((wd0.setCell ⟨w.heap.size + 1, 0, none⟩ (.int .i64 0)).setCell ⟨w.heap.size + 1, 1, none⟩ (.int .i64 0)).setCell ⟨w.heap.size + 1, 2, none⟩ (.int .i64 0)).setCell ⟨w.heap.size + 1, 3, none⟩ (.slice none 0 0)).setCell ⟨w.heap.size + 1, 4, none⟩ (.slice none 0 0)).setCell ⟨w.heap.size + 1, 5, none⟩ (.slice none 0 0)).setCell ⟨w.heap.size + 1, 6, none⟩ (.slice none 0 0)) := aside_seven (by simp) (.int .i64 0) (.int .i64 0) (.int .i64 0) (.slice none 0 0) (.slice none 0 0) (.slice none 0 0) (.slice none 0 0)
                have KF0 := (a7.block _ (lt_of KF0) (by simp <;> omega)).trans KF0
                have hH1 : Aside [w.heap.size + 1, w.heap.size + 2] w9.heap.size w9 (((((((wd0.setCell ⟨w.heap.size + 1, 0, none⟩ (.int .i64 0)).setCell ⟨w.heap.size + 1, 1, none⟩ (.int .i64 0)).setCell ⟨w.heap.size + 1, 2, none⟩ (.int .i64 0)).setCell ⟨w.heap.size + 1, 3, none⟩ (.slice none 0 0)).setCell ⟨w.heap.size + 1, 4, none⟩ (.slice none 0 0)).setCell ⟨w.heap.size + 1, 5, none⟩ (.slice none 0 0)).setCell ⟨w.heap.size + 1, 6, none⟩ (.slice none 0 0)) := hH0.trans a0 hH0.size
                go_simp
                refine hK.out _ _ (fun _ => hH1) ?_
                clear hK K a0 a7 kX st0 fst0 st1 fst1 st2 fst2 st3 fst3 st4 fst4 st5 fst5 st6 fst6
                try simp only [Act.put, List.setIfInBounds_toArray, List.set_cons_zero, List.set_cons_succ]
                generalize (((((((wd0.setCell ⟨w.heap.size + 1, 0, none⟩ (.int .i64 0)).setCell ⟨w.heap.size + 1, 1, none⟩ (.int .i64 0)).setCell ⟨w.heap.size + 1, 2, none⟩ (.int .i64 0)).setCell ⟨w.heap.size + 1, 3, none⟩ (.slice none 0 0)).setCell ⟨w.heap.size + 1, 4, none⟩ (.slice none 0 0)).setCell ⟨w.heap.size + 1, 5, none⟩ (.slice none 0 0)).setCell ⟨w.heap.size + 1, 6, none⟩ (.slice none 0 0)) = wd1 at hH1 KI KF0 ⊢
                refine wpAnyL_one (i := 3) (o := _) rfl (by kernel_rfl) (by rfl) (fun K hK => ?_)
                have kX := KF0
                have st0 := cell_of kX 0
                have st1 := cell_of kX 1
                have fst0 := free_of kX 0
                have fst1 := free_of kX 1
                simp at st0 st1
                have KF := two_set kX (.int .i64 g1) (.int .i64 g2)
                have a0 : Aside [w.heap.size + 1, w.heap.size + 2] wd1.heap.size wd1 ((wd1.setCell ⟨w.heap.size + 2, 0, none⟩ (.int .i64 g1)).setCell ⟨w.heap.size + 2, 1, none⟩ (.int .i64 g2)) := aside_two (by simp) (.int .i64 g1) (.int .i64 g2)
                have a7 : Aside [w.heap.size + 2] wd1.heap.size wd1 ((wd1.setCell ⟨w.heap.size + 2, 0, none⟩ (.int .i64 g1)).setCell ⟨w.heap.size + 2, 1, none⟩ (.int .i64 g2)) := aside_two (by simp) (.int .i64 g1) (.int .i64 g2)
                have KI := (a7.block _ (lt_of KI) (by simp <;> omega)).trans KI
                have hH2 : Aside [w.heap.size + 1, w.heap.size + 2] w9.heap.size w9 ((wd1.setCell ⟨w.heap.size + 2, 0, none⟩ (.int .i64 g1)).setCell ⟨w.heap.size + 2, 1, none⟩ (.int .i64 g2)) := hH1.trans a0 hH1.size
                go_simp
                refine hK.out _ _ (fun _ => hH2) ?_
                clear hK K a0 a7 kX st0 fst0 st1 fst1
                try simp only [Act.put, List.setIfInBounds_toArray, List.set_cons_zero, List.set_cons_succ]
                generalize ((wd1.setCell ⟨w.heap.size + 2, 0, none⟩ (.int .i64 g1)).setCell ⟨w.heap.size + 2, 1, none⟩ (.int .i64 g2)) = wd2 at hH2 KF KI ⊢
                refine wpAnyL_done (by kernel_rfl) ?_ _
                have x0 := cell_of KI 0
                have x1 := cell_of KI 1
                have x2 := cell_of KI 2
                have x3 := cell_of KI 3
                have x4 := cell_of KI 4
                have x5 := cell_of KI 5
                have x6 := cell_of KI 6
                simp at x0 x1 x2 x3 x4 x5 x6
                have z0 := cell_of KF 0
                have z1 := cell_of KF 1
                simp at z0 z1
                have BX := aside_low B9 hH2 (Nat.le_refl _) (by simp)
                go_wp2
                exact bodyPost_ret (v := .tuple #[.agg #[.int .i64 0, .int .i64 0, .int .i64 0, .slice none 0 0, .slice none 0 0, .slice none 0 0, .slice none 0 0], .agg #[.int .i64 g1, .int .i64 g2]]) (by simp [results, Tryd.results9, go_sem, x0, x1, x2, x3, x4, x5, x6, z0, z1]) rfl (MakeP.bad HMk.out BX)
          case pos =>
            subst hg
            have hgb : ((0 : Int) != 0) = false := rfl
            have HMk := hide (show Em.make L B = ((0, 0), Em.img L B C R) by
              rw [make_code HF0.out HMKS.out, if_neg (by rw [← HG1.out]; decide)])
            obtain ⟨KI, KF, A9⟩ := nine_set kI9 kF9 hne (.int .i64 L.c) (.int .i64 R) (.int .i64 ko) (.slice aP np cP) (.slice aB nb cB) (.slice aG ng cG) (.slice av ln cv) (.int .i64 0) (.int .i64 0)
            have m0 := cell_of KM9 0
            have m1 := cell_of KM9 1
            have m2 := cell_of KM9 2
            have m3 := cell_of KM9 3
            have m4 := cell_of KM9 4
            have m5 := cell_of KM9 5
            have m6 := cell_of KM9 6
            simp at m0 m1 m2 m3 m4 m5 m6
            have st0 := cell_of kI9 0
            have st1 := cell_of kI9 1
            have st2 := cell_of kI9 2
            have st3 := cell_of kI9 3
            have st4 := cell_of kI9 4
            have st5 := cell_of kI9 5
            have st6 := cell_of kI9 6
            have fst0 := free_of kI9 0
            have fst1 := free_of kI9 1
            have fst2 := free_of kI9 2
            have fst3 := free_of kI9 3
            have fst4 := free_of kI9 4
            have fst5 := free_of kI9 5
            have fst6 := free_of kI9 6
            simp at st0 st1 st2 st3 st4 st5 st6
            have su0 := cell_of kF9 0
            have su1 := cell_of kF9 1
            have fsu0 := free_of kF9 0
            have fsu1 := free_of kF9 1
            simp at su0 su1
            have x0 := cell_of KI 0
            have x1 := cell_of KI 1
            have x2 := cell_of KI 2
            have x3 := cell_of KI 3
            have x4 := cell_of KI 4
            have x5 := cell_of KI 5
            have x6 := cell_of KI 6
            simp at x0 x1 x2 x3 x4 x5 x6
            have z0 := cell_of KF 0
            have z1 := cell_of KF 1
            simp at z0 z1
            have BX := aside_low B9 A9 (Nat.le_refl _) (by simp)
            have HMX := hide ((HM9.out.keep A9.size (fun i hi hl => A9.block i hl (by simp; omega))).wide (ok' := fun _ => True) (fun i h hl => trivial))
            have E1 : L.P.length = np := HNP.out.symm
            have E2 : B.length = nb := HNB.out.symm
            have E3 : L.G.length = ng := HNG.out.symm
            have E4 : C.length = ln := HLn.out.symm
            have E5 : Cd.cost 10 11 C = ko := HKo.out.symm
            have HEND := hide (MakeP.good HMk.out BX HMX.out)
            have HEND2 := hide (show MakeP (fun _ => True) w L B (.returned (.tuple #[.agg #[.int .i64 L.c, .int .i64 R, .int .i64 ko, .slice aP np cP, .slice aB nb cB, .slice aG ng cG, .slice av ln cv], .agg #[.int .i64 0, .int .i64 0]])) _ by
              have := HEND.out
              unfold imgV Em.img at this
              dsimp only at this
              rw [E1, E2, E3, E4, E5] at this
              exact this)
            clear KI KF A9 HM9 HEND E1 E2 E3 E4 E5 BX HMX
            go_wp2
            exact bodyPost_ret (v := .tuple #[.agg #[.int .i64 L.c, .int .i64 R, .int .i64 ko, .slice aP np cP, .slice aB nb cB, .slice aG ng cG, .slice av ln cv], .agg #[.int .i64 0, .int .i64 0]]) (by simp [results, Tryd.results9, go_sem, x0, x1, x2, x3, x4, x5, x6, z0, z1]) rfl HEND2.out
      case pos =>
        obtain ⟨wo, hwo⟩ : ∃ x, x = wr := ⟨_, rfl⟩
        subst hwo
        obtain ⟨o1, o2, o3, o4, o5⟩ := HC.out
        have hil : i < L.S.length := by have := HNS.out; omega
        have hSr := HL4.out.S.keep abr.size (fun j hj hl => abr.block j hl (by simp; omega))
        obtain ⟨ao', cap', eqs, -, -, hat2⟩ := hSr.at
        injection eqs with q1 q2 q3
        subst q1
        obtain ⟨bb, oo, y, rfl, hb, hsp, hy⟩ := hat2 i hil
        obtain ⟨e0, e1, e2, e3, e4, e5⟩ := hsp
        have hok := HGd.out.S _ (List.getElem_mem hil)
        have hR1 := H.out
        rw [List.drop_eq_getElem_cons hil, Em.mkS] at hR1
        have hl1 := es_len hok
        obtain ⟨lF, -⟩ := pu_len hy.F
        obtain ⟨lE, -⟩ := pu_len hy.E
        generalize (L.S)[i] = s at e0 e1 e2 e3 e4 e5 hy hok hR1 hl1 lF lE
        have hyF := hy.F
        have hyE := hy.E
        rw [lF] at hyF e4
        rw [lE] at hyE e5
        have hSt := step27_any o1 (by omega) s hok hyF hyE (fun j hj => by omega)
        have hrs : ∀ x ∈ Em.es s, x.r + 1 ≤ Em.rg R (Em.es s) := Em.rg_mem _ _
        have hrr := es_r hok
        generalize hFn : s.F.length = nF at e4 hSt
        generalize hEn : s.E.length = nE at e5 hSt
        generalize s.op = op at e0 hSt
        generalize s.k = kk at e1 hSt
        generalize s.n = sn at e2 hSt
        generalize s.tgt = st at e3 hSt
        clear hFn hEn
        obtain ⟨X, hX⟩ : ∃ X, X = Em.es s := ⟨_, rfl⟩
        rw [← hX] at hSt hR1 hl1 hrs hrr
        clear hX
        obtain ⟨av, cv, rfl, -, -⟩ := o1.own.form
        have m0 := cell_of o1.m 0
        simp at m0
        have HSt := hide hSt
        have HR1 := hide hR1
        have HO2 := hide o2
        obtain ⟨ln, hln⟩ : ∃ ln, ln = C.length := ⟨_, rfl⟩
        rw [← hln] at m0 o3
        have HLN := hide hln
        have HRR := hide hrr
        clear o1 o2 hSr hat2 q2 q3 hy hok hR1 lF lE hyF hyE hSt HC H hln hrs hrr
        go_wp2_with fail
        refine HSt.out.mono ?_
        rintro e w6 h7
        have ee := h7.e
        obtain ⟨k7, v7, o7, hk7⟩ := h7.o
        have a7 := h7.a
        have A7 := aside_next abr HO2.out a7
        have K7 := next_own HO2.out hk7 abr.size
        have kRx := (A7.block _ yR (by simp; omega)).trans kR4
        have kIx := (A7.block _ (lt_of kI4) (by simp; omega)).trans kI4
        have kFx := (A7.block _ (lt_of kF4) (by simp; omega)).trans kF4
        obtain ⟨a7v, c7v, rfl, -, -⟩ := o7.own.form
        have m0 := cell_of o7.m 0
        simp at m0
        have HRow := hide (show HIns (fun j => True) w6 (.slice a7v (C ++ X).length c7v) (C ++ X) from HRow.wide o7.own.row (fun _ _ _ => trivial))
        have HO7 := hide o7
        obtain ⟨lx, hlx⟩ : ∃ lx, lx = X.length := ⟨_, rfl⟩
        obtain ⟨l2, hl2⟩ : ∃ l2, l2 = C.length + X.length := ⟨_, rfl⟩
        rw [List.length_append] at HRow
        rw [← hl2] at m0 HRow
        rw [← hlx] at hl1
        have hl7 : l2 = ln + lx := by rw [hl2, hlx, HLN.out]
        have HLX := hide hlx
        have HL2 := hide (show l2 = (C ++ X).length by rw [hl2, List.length_append])
        clear h7 o7 a7 HSt kRr kIr kFr e0 e1 e2 e3 e4 e5 c0 c1 c2 c3 hlx hl2
        subst ee
        have HJ0 := hide (show Em.rg R X = Em.rg R (X.drop 0) by rw [List.drop_zero])
        have hlb : ln ≤ 200000 ∧ lx ≤ 1000 := ⟨o3, hl1⟩
        go_wp2_with fail
        go_loopg [8, 11] lx (fun kz v8 v11 wr => ∃ (j : Nat) (R' : Int), j ≤ lx ∧ kz = lx - j ∧ v11 = .int .i64 ((ln + j : Nat) : Int) ∧ v8 = .int .i64 R' ∧ Hid (Em.rg R X = Em.rg R' (X.drop j)) ∧ Hid (3 ≤ R' ∧ R' ≤ 200) ∧ wr = w6)
        case atStart => exact ⟨0, R, Nat.zero_le _, rfl, by rfl, rfl, HJ0, hide (by omega), rfl⟩
        case round =>
          clear HJ0
          obtain ⟨j, R', hj, rfl, rfl, rfl, HJ, HB', rfl⟩ := hrel
          by_cases hjl : j < lx
          case pos =>
            have hjX : j < X.length := by have := HLX.out; omega
            have hjC : ln + j < (C ++ X).length := by have := HL2.out; omega
            have hR2 := HJ.out
            rw [List.drop_eq_getElem_cons hjX] at hR2
            obtain ⟨aq, cq, eqq, -, -, hatq⟩ := HRow.out.at
            injection eqq with z1 z2 z3
            subst z1
            obtain ⟨bq, oq, rfl, hbq, -, -, x2, -, -, -⟩ := hatq (ln + j) hjC
            have hxe : (C ++ X)[ln + j] = X[j] := by
              rw [List.getElem_append_right (by have := HLN.out; omega)]
              congr 1
              have := HLN.out
              omega
            rw [hxe] at x2
            have hxr := HRR.out _ (List.getElem_mem hjX)
            generalize X[j] = x at x2 hxr hR2
            obtain ⟨xo, xk, xr, xa, xb, xn⟩ := x
            dsimp only at x2 hxr
            have HR3 := hide (show Em.rg R X = Em.rg (max R' (xr + 1)) (X.drop (j + 1)) from hR2)
            have hlt2 : ((ln + j : Nat) : Int) < (l2 : Int) := by omega
            have w1' : IntKind.i64.wrap (xr + 1) = xr + 1 := i64_in _ (by omega)
            have hbb := HB'.out
            have w2' : IntKind.i64.wrap ((ln + j : Nat) + 1 : Int) = ((ln + (j + 1) : Nat) : Int) := (i64_in _ (by omega)).trans (by omega)
            clear hatq z2 z3 hxe hR2 HJ HB' hjX hjC
            by_cases hg : xr + 1 > R'
            case pos =>
              have HR4 := hide (show Em.rg R X = Em.rg (xr + 1) (X.drop (j + 1)) by rw [HR3.out, show max R' (xr + 1) = xr + 1 by omega])
              have HB2 := hide (show 3 ≤ xr + 1 ∧ xr + 1 ≤ 200 by omega)
              clear HR3
              go_wp2_with fail
              go_roundg (lx - (j + 1))
              case measure => omega
              case rel => exact ⟨j + 1, xr + 1, by omega, rfl, by go_num, rfl, HR4, HB2, rfl⟩
            case neg =>
              have HR4 := hide (show Em.rg R X = Em.rg R' (X.drop (j + 1)) by rw [HR3.out, show max R' (xr + 1) = R' by omega])
              have HB2 := hide hbb
              clear HR3
              go_wp2_with fail
              go_roundg (lx - (j + 1))
              case measure => omega
              case rel => exact ⟨j + 1, R', by omega, rfl, by go_num, rfl, HR4, HB2, rfl⟩
          case neg =>
            have hjj : j = lx := by omega
            subst hjj
            have hRf : Em.rg R X = R' := by rw [HJ.out, List.drop_of_length_le (by have := HLX.out; omega)]; rfl
            have hnl : ¬ ((ln + j : Nat) : Int) < (l2 : Int) := by omega
            subst hRf
            have HRR2 := HB'.out
            generalize hRg : Em.rg R X = R2 at HB' HRR2 HR1 HJ ⊢
            have hbad : (200000 < (l2 : Int) ∨ 40 < R2) → Em.make L B = ((7, (i : Int)), Em.noIm) := fun h => make_many HF0.out (by
              rw [HR1.out, if_pos]
              have := HL2.out
              rcases h with h | h
              · exact .inl (by omega)
              · exact .inr h)
            have HBad := hide hbad
            have hne : w.heap.size + 2 ≠ w.heap.size + 1 := by omega
            have HRX := hide hRg
            clear hbad HJ HRow HRR hRg
            by_cases g1 : (l2 : Int) > 200000 ∨ R2 > 40
            case pos =>
              have HMk := hide (HBad.out g1)
              clear HBad
              have HQ := hide g1
              by_cases g2 : (l2 : Int) > 200000
              case pos =>
                go_wp2_with fail
                refine (f27_any 7 (i : Int) _).mono ?_
                rintro e w8 ⟨rfl, b8⟩
                have kI8 := (b8.block _ (lt_of kIx)).trans kIx
                have kF8 := (b8.block _ (lt_of kFx)).trans kFx
                obtain ⟨KI, KF, A9⟩ := nine_set kI8 kF8 hne (.int .i64 0) (.int .i64 0) (.int .i64 0) (.slice none 0 0) (.slice none 0 0) (.slice none 0 0) (.slice none 0 0) (.int .i64 7) (.int .i64 (i : Int))
                have st0 := cell_of kI8 0
                have st1 := cell_of kI8 1
                have st2 := cell_of kI8 2
                have st3 := cell_of kI8 3
                have st4 := cell_of kI8 4
                have st5 := cell_of kI8 5
                have st6 := cell_of kI8 6
                have fst0 := free_of kI8 0
                have fst1 := free_of kI8 1
                have fst2 := free_of kI8 2
                have fst3 := free_of kI8 3
                have fst4 := free_of kI8 4
                have fst5 := free_of kI8 5
                have fst6 := free_of kI8 6
                simp at st0 st1 st2 st3 st4 st5 st6
                have su0 := cell_of kF8 0
                have su1 := cell_of kF8 1
                have fsu0 := free_of kF8 0
                have fsu1 := free_of kF8 1
                simp at su0 su1
                have x0 := cell_of KI 0
                have x1 := cell_of KI 1
                have x2 := cell_of KI 2
                have x3 := cell_of KI 3
                have x4 := cell_of KI 4
                have x5 := cell_of KI 5
                have x6 := cell_of KI 6
                simp at x0 x1 x2 x3 x4 x5 x6
                have z0 := cell_of KF 0
                have z1 := cell_of KF 1
                simp at z0 z1
                have BX := aside_low (aside_low B4 (A7.trans (aside b8) A7.size) (Nat.le_refl _) (by simp; omega)) A9 (Nat.le_refl _) (by simp)
                clear KI KF A9 b8 HO7 m0 kRx
                go_wp2
                exact bodyPost_ret (v := .tuple #[.agg #[.int .i64 0, .int .i64 0, .int .i64 0, .slice none 0 0, .slice none 0 0, .slice none 0 0, .slice none 0 0], .agg #[.int .i64 7, .int .i64 (i : Int)]]) (by simp [results, Tryd.results9, go_sem, x0, x1, x2, x3, x4, x5, x6, z0, z1]) rfl (MakeP.bad HMk.out BX)
              case neg =>
                have g3 : R2 > 40 := by omega
                go_wp2_with fail
                refine (f27_any 7 (i : Int) _).mono ?_
                rintro e w8 ⟨rfl, b8⟩
                have kI8 := (b8.block _ (lt_of kIx)).trans kIx
                have kF8 := (b8.block _ (lt_of kFx)).trans kFx
                obtain ⟨KI, KF, A9⟩ := nine_set kI8 kF8 hne (.int .i64 0) (.int .i64 0) (.int .i64 0) (.slice none 0 0) (.slice none 0 0) (.slice none 0 0) (.slice none 0 0) (.int .i64 7) (.int .i64 (i : Int))
                have st0 := cell_of kI8 0
                have st1 := cell_of kI8 1
                have st2 := cell_of kI8 2
                have st3 := cell_of kI8 3
                have st4 := cell_of kI8 4
                have st5 := cell_of kI8 5
                have st6 := cell_of kI8 6
                have fst0 := free_of kI8 0
                have fst1 := free_of kI8 1
                have fst2 := free_of kI8 2
                have fst3 := free_of kI8 3
                have fst4 := free_of kI8 4
                have fst5 := free_of kI8 5
                have fst6 := free_of kI8 6
                simp at st0 st1 st2 st3 st4 st5 st6
                have su0 := cell_of kF8 0
                have su1 := cell_of kF8 1
                have fsu0 := free_of kF8 0
                have fsu1 := free_of kF8 1
                simp at su0 su1
                have x0 := cell_of KI 0
                have x1 := cell_of KI 1
                have x2 := cell_of KI 2
                have x3 := cell_of KI 3
                have x4 := cell_of KI 4
                have x5 := cell_of KI 5
                have x6 := cell_of KI 6
                simp at x0 x1 x2 x3 x4 x5 x6
                have z0 := cell_of KF 0
                have z1 := cell_of KF 1
                simp at z0 z1
                have BX := aside_low (aside_low B4 (A7.trans (aside b8) A7.size) (Nat.le_refl _) (by simp; omega)) A9 (Nat.le_refl _) (by simp)
                clear KI KF A9 b8 HO7 m0 kRx
                go_wp2
                exact bodyPost_ret (v := .tuple #[.agg #[.int .i64 0, .int .i64 0, .int .i64 0, .slice none 0 0, .slice none 0 0, .slice none 0 0, .slice none 0 0], .agg #[.int .i64 7, .int .i64 (i : Int)]]) (by simp [results, Tryd.results9, go_sem, x0, x1, x2, x3, x4, x5, x6, z0, z1]) rfl (MakeP.bad HMk.out BX)
            case neg =>
              have g2 : ¬ (l2 : Int) > 200000 := fun h => g1 (.inl h)
              have g3 : ¬ R2 > 40 := fun h => g1 (.inr h)
              have HRN := hide (show Em.mkS L.S 0 [] 3 = Em.mkS (L.S.drop (i + 1)) ((i + 1 : Nat) : Int) (C ++ X) R2 by
                rw [HR1.out, if_neg]
                · rfl
                · have := HL2.out
                  omega)
              have HC2 := hide (And.intro HO7.out (And.intro K7 (And.intro (show (C ++ X).length ≤ 200000 by have := HL2.out; omega) (And.intro HRR2.1 (show R2 ≤ 40 by omega)))))
              clear g1 HBad HO7 HR1 HRR2 HB' kRx kIx kFx
              go_wp2_with fail
              go_roundg (ns - (i + 1))
              case measure => omega
              case rel => exact ⟨i + 1, k7, _, _, R2, by omega, rfl, by go_num, rfl, HRN, HC2, A7⟩
end Go.Proofs.YtbiomnnlpafciaaDoor
