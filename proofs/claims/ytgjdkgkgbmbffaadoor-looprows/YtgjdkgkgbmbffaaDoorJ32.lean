import Derived.Test.YtgjdkgkgbmbffaaDoorJ31
import Derived.Test.YtgjdkgkgbmbffaaDoorJ28
import Derived.WalkKit
import Derived.WalkSpells
import Derived.IntWalk
import Derived.Deep.Cut
import Derived.Deep.LoopGhost
import Derived.Laws.Cover1
import Derived.Lib.Hide
set_option linter.unusedVariables false
set_option linter.unusedSimpArgs false
set_option maxHeartbeats 64000000
set_option maxRecDepth 100000
namespace Go.Proofs.YtgjdkgkgbmbffaaDoor
open Go.RowKit Go.IntWalk
set_option linter.unusedVariables false
set_option linter.unusedSimpArgs false
namespace Lo
theorem fault_zero {L : Lp} (h : (fault L).1 = 0) : fault L = (0, 0) := by
  unfold fault at h ⊢
  split at h
  · cases h
  rename_i h1
  rw [if_neg h1]
  split at h
  · cases h
  rename_i h2
  rw [if_neg h2]
  split at h
  · cases h
  rename_i h3
  rw [if_neg h3]
  split at h
  · cases h
  rename_i h4
  rw [if_neg h4]
end Lo
structure OwnR (N0 cw hi : Nat) (w : World) (a1 a2 a3 : Option Addr) (c1 c2 c3 : Nat) (P G : List Int) (S : List Lo.Sp) : Prop where
  P : HInts (fun i => i < N0 ∨ (cw ≤ i ∧ i < hi)) w (.slice a1 P.length c1) P
  G : HInts (fun i => i < N0 ∨ (cw ≤ i ∧ i < hi)) w (.slice a2 G.length c2) G
  S : HSps (fun i => i < N0 ∨ (cw ≤ i ∧ i < hi)) w (.slice a3 S.length c3) (S.map Lo.ownS)
theorem OwnR.of {N0 cw : Nat} {w : World} {a1 a2 a3 : Option Addr} {c1 c2 c3 : Nat} {P G : List Int} {S : List Lo.Sp} (o1 : HInts (fun i => i < N0 ∨ cw ≤ i) w (.slice a1 P.length c1) P) (o2 : HInts (fun i => i < N0 ∨ cw ≤ i) w (.slice a2 G.length c2) G) (o3 : HSps (fun i => i < N0 ∨ cw ≤ i) w (.slice a3 S.length c3) (S.map Lo.ownS)) : OwnR N0 cw w.heap.size w a1 a2 a3 c1 c2 c3 P G S :=
  ⟨o1.wide fun i h hl => h.elim .inl fun h => .inr ⟨h, hl⟩, o2.wide fun i h hl => h.elim .inl fun h => .inr ⟨h, hl⟩, o3.wide fun i h hl => h.elim .inl fun h => .inr ⟨h, hl⟩⟩
theorem OwnR.below {N0 cw hi : Nat} {w w' : World} {a1 a2 a3 : Option Addr} {c1 c2 c3 : Nat} {P G : List Int} {S : List Lo.Sp} (h : OwnR N0 cw hi w a1 a2 a3 c1 c2 c3 P G S) (b : Below w.heap.size w w') : OwnR N0 cw hi w' a1 a2 a3 c1 c2 c3 P G S := ⟨h.P.under b, h.G.under b, h.S.under b⟩
theorem OwnR.past {N0 cw hi : Nat} {w w' : World} {a1 a2 a3 : Option Addr} {c1 c2 c3 : Nat} {P G : List Int} {S : List Lo.Sp} (h : OwnR N0 cw hi w a1 a2 a3 c1 c2 c3 P G S) {z : Nat} (a : Aside [z] w.heap.size w w') (hz : N0 ≤ z ∧ z < cw) : OwnR N0 cw hi w' a1 a2 a3 c1 c2 c3 P G S :=
  ⟨h.P.keep a.size fun i hi hl => a.block i hl (by simp; omega), h.G.keep a.size fun i hi hl => a.block i hl (by simp; omega), h.S.keep a.size fun i hi hl => a.block i hl (by simp; omega)⟩
theorem mach_of {N0 cw hi : Nat} {w : World} {mb cb nc : Nat} {a1 a2 a3 : Option Addr} {c1 c2 c3 : Nat} {L : Lo.Lp} (h : OwnR N0 cw hi w a1 a2 a3 c1 c2 c3 L.P L.G L.S) (hc : L.c = (nc : Int)) (hW : ∀ s ∈ L.S, Lo.SW s) (hm : w.heap[mb]? = some (.cells #[.int .i64 (nc : Int), .slice a1 L.P.length c1, .slice a2 L.G.length c2, .slice a3 L.S.length c3, .slice (some ⟨cb, 0, none⟩) nc nc] 64 (0, 0))) (hne : mb ≠ cb) (hcb : N0 ≤ cb ∧ (cb < cw ∨ hi ≤ cb)) : Mach w mb cb nc a1 a2 a3 c1 c2 c3 (Lo.ownL L) := by
  have hk : ∀ i, (i < N0 ∨ (cw ≤ i ∧ i < hi)) → i < w.heap.size → i ≠ cb := fun i h _ => by omega
  refine ⟨⟨?_, hne⟩, hc.symm, ⟨h.P.wide hk, h.G.wide hk, ?_, ?_⟩⟩
  · show w.heap[mb]? = some (.cells #[.int .i64 L.c, .slice a1 L.P.length c1, .slice a2 L.G.length c2, .slice a3 (L.S.map Lo.ownS).length c3, .slice (some ⟨cb, 0, none⟩) nc nc] 64 (0, 0))
    rw [hc, List.length_map]
    exact hm
  · show HSps (fun i => i ≠ cb) w (.slice a3 (L.S.map Lo.ownS).length c3) (L.S.map Lo.ownS)
    have := h.S.wide hk
    rwa [List.length_map]
  · intro s hs
    obtain ⟨s0, hs0, rfl⟩ := List.mem_map.1 hs
    obtain ⟨h1, h2⟩ := hW s0 hs0
    refine ⟨?_, h2⟩
    show Lo.PW (if Lo.folds s0 then s0.F else [])
    by_cases hf : Lo.folds s0 = true
    · rw [if_pos hf]; exact h1
    · rw [if_neg hf]; intro p hp; cases hp
structure NewPost (w : World) (L : Lo.Lp) (e : Ending) (w' : World) : Prop where
  bad : (Lo.fault L).1 ≠ 0 → e = .returned (.tuple #[.pointer none, .agg #[.int .i64 (Lo.fault L).1, .int .i64 (Lo.fault L).2]])
  good : (Lo.fault L).1 = 0 → ∃ mb cb nc a1 c1 a2 c2 a3 c3, e = .returned (.tuple #[.pointer (some ⟨mb, 0, none⟩), .agg #[.int .i64 0, .int .i64 0]]) ∧ Mach w' mb cb nc a1 a2 a3 c1 c2 c3 (Lo.ownL L) ∧ LB w' cb (List.replicate nc 0) ∧ w.heap.size ≤ mb ∧ w.heap.size ≤ cb
  b : Below w.heap.size w w'
set_option maxHeartbeats 32000000 in
theorem new12_any {w : World} {aP aG aS : Option Addr} {cP cG cS : Nat} {L : Lo.Lp} (hK : GlobK w) (hL : HLp (fun i => i < w.heap.size) w aP aG aS cP cG cS L) (hPl : L.P.length ≤ 1000000) (hGl : L.G.length ≤ 1000000) (hSl : L.S.length ≤ 1000000) :
    Calls Tryd.prog 12 #[.agg #[.int .i64 L.c, .slice aP L.P.length cP, .slice aG L.G.length cG, .slice aS L.S.length cS]] w (NewPost w L) := by
  have b1 : Below w.heap.size w ((w.alloc (.cells #[.int .i64 L.c, .slice aP L.P.length cP, .slice aG L.G.length cG, .slice aS L.S.length cS] 25 (0, 0))).alloc (.cells #[.int .i64 0, .int .i64 0] 29 (0, 0))) := ((Below.refl _ _).alloc (Nat.le_refl _) _).alloc (by simp) _
  have kR : (((w.alloc (.cells #[.int .i64 L.c, .slice aP L.P.length cP, .slice aG L.G.length cG, .slice aS L.S.length cS] 25 (0, 0))).alloc (.cells #[.int .i64 0, .int .i64 0] 29 (0, 0)))).heap[w.heap.size]? = some (.cells #[.int .i64 L.c, .slice aP L.P.length cP, .slice aG L.G.length cG, .slice aS L.S.length cS] 25 (0, 0)) := (Below.heap_alloc _ _ _ (by simp)).trans (heap_new w _)
  have kF : (((w.alloc (.cells #[.int .i64 L.c, .slice aP L.P.length cP, .slice aG L.G.length cG, .slice aS L.S.length cS] 25 (0, 0))).alloc (.cells #[.int .i64 0, .int .i64 0] 29 (0, 0)))).heap[w.heap.size + 1]? = some (.cells #[.int .i64 0, .int .i64 0] 29 (0, 0)) := by
    have := heap_new (w.alloc (.cells #[.int .i64 L.c, .slice aP L.P.length cP, .slice aG L.G.length cG, .slice aS L.S.length cS] 25 (0, 0))) (.cells #[.int .i64 0, .int .i64 0] 29 (0, 0))
    simpa using this
  have zw : w.heap.size + 2 ≤ (((w.alloc (.cells #[.int .i64 L.c, .slice aP L.P.length cP, .slice aG L.G.length cG, .slice aS L.S.length cS] 25 (0, 0))).alloc (.cells #[.int .i64 0, .int .i64 0] 29 (0, 0)))).heap.size := by simp
  have HL := hide (hL.under b1)
  have HC := hide (fun W (b : Below w.heap.size w W) => check7_any (hK.under b) (hL.under b))
  have hgood := fun (h : (Lo.fault L).1 = 0) => (⟨Lo.good_of h, Lo.fault_zero h⟩ : Lo.Good L ∧ Lo.fault L = (0, 0))
  have HGood := hide hgood
  clear hL hK hgood
  go_enter Tryd.func12, Tryd.ntmps12
  go_upto_region 1 with fail
  generalize ((w.alloc (.cells #[.int .i64 L.c, .slice aP L.P.length cP, .slice aG L.G.length cG, .slice aS L.S.length cS] 25 (0, 0))).alloc (.cells #[.int .i64 0, .int .i64 0] 29 (0, 0))) = w1 at b1 kR kF zw HL ⊢
  have c0 := cell_of kR 0
  have c1 := cell_of kR 1
  have c2 := cell_of kR 2
  have c3 := cell_of kR 3
  simp at c0 c1 c2 c3
  obtain ⟨f1, hf1⟩ : ∃ f1, f1 = (Lo.fault L).1 := ⟨_, rfl⟩
  obtain ⟨f2, hf2⟩ : ∃ f2, f2 = (Lo.fault L).2 := ⟨_, rfl⟩
  have hc1 := HC.out w1 b1
  rw [← hf1, ← hf2] at hc1
  have HC1 := hide hc1
  have HF1 := hide hf1
  have HF2 := hide hf2
  clear HC hc1 hf1 hf2
  go_wp2_with fail
  refine HC1.out.mono ?_
  rintro e w2 ⟨rfl, b2⟩
  have B2 := b1.trans (b2.mono b1.size)
  have kR2 := (b2.block _ (lt_of kR)).trans kR
  have kF2 := (b2.block _ (lt_of kF)).trans kF
  have HL2 := hide (HL.out.under b2)
  have zw2 := Nat.le_trans zw b2.size
  clear c0 c1 c2 c3 kR kF HL HC1
  have b3 : Below w2.heap.size w2 (w2.alloc (.cells #[.int .i64 f1, .int .i64 f2] 29 (0, 0))) := (Below.refl _ _).alloc (Nat.le_refl _) _
  have k4 := heap_new w2 (.cells #[.int .i64 f1, .int .i64 f2] 29 (0, 0))
  go_upto_region 2 with fail
  generalize w2.alloc (.cells #[.int .i64 f1, .int .i64 f2] 29 (0, 0)) = w3 at b3 k4 ⊢
  have B3 := B2.trans (b3.mono B2.size)
  have kR3 := (b3.block _ (lt_of kR2)).trans kR2
  have kF3 := (b3.block _ (lt_of kF2)).trans kF2
  have HL3 := hide (HL2.out.under b3)
  have zw3 := Nat.le_trans zw2 b3.size
  clear kR2 kF2 HL2 b2 b3 zw zw2
  have g0 := cell_of k4 0
  have g1 := cell_of k4 1
  have c0 := cell_of kR3 0
  have c1 := cell_of kR3 1
  have c2 := cell_of kR3 2
  have c3 := cell_of kR3 3
  simp at g0 g1 c0 c1 c2 c3
  have y4 := lt_of k4
  have yR := lt_of kR3
  have yF := lt_of kF3
  by_cases hz : f1 = 0
  case neg =>
    have hzb : (f1 != 0) = true := by simpa using hz
    go_upto_region 3 with fail
    refine wp_region_late (fun w' => Below w3.heap.size w3 w') (fun i => i == 2) (by kernel_rfl) ?_
    have hH0 : Below w3.heap.size w3 w3.drew := (Below.refl _ _).drew
    generalize w3.drew = wd0 at hH0 ⊢
    refine' wpAnyL_take (i := 0) (oi := ⟨some 10, _, _, _, _, _⟩) (v := _) rfl (by kernel_rfl) (by kernel_rfl) (by kernel_rfl) (by kernel_rfl) (fun _ _ _ h => h) hH0 (by rfl) ?hyv ?onw
    case hyv =>
      intro wz hSw
      have zc0 := (hSw.cell (p := ⟨w2.heap.size, 0, none⟩) y4).trans g0
      have zc1 := (hSw.cell (p := ⟨w2.heap.size, 1, none⟩) y4).trans g1
      go_simp
      try rfl
    case onw =>
      try simp only [Act.put, List.setIfInBounds_toArray, List.set_cons_zero, List.set_cons_succ]
      refine' wpAnyL_take (i := 1) (oi := ⟨some 2, _, _, _, _, _⟩) (v := _) rfl (by kernel_rfl) (by kernel_rfl) (by kernel_rfl) (by kernel_rfl) (fun _ _ _ h => h) hH0 (by rfl) ?hyv ?onw
      case hyv =>
        intro wz hSw
        go_simp
        try rfl
      case onw =>
        try simp only [Act.put, List.setIfInBounds_toArray, List.set_cons_zero, List.set_cons_succ]
        refine wpAnyL_one (i := 2) (o := _) rfl (by kernel_rfl) (by rfl) (fun K hK => ?_)
        have kX := (hH0.block _ yF).trans kF3
        have st0 := cell_of kX 0
        have st1 := cell_of kX 1
        have fr0 := free_of kX 0
        have fr1 := free_of kX 1
        simp at st0 st1
        have KX := set_in (set_in kX 0 (.int .i64 f1)) 1 (.int .i64 f2)
        have x0 := cell_of KX 0
        have x1 := cell_of KX 1
        simp at x0 x1
        have BX := ((B3.trans (hH0.mono B3.size)).setCell (p := ⟨w.heap.size + 1, 0, none⟩) (by simp) (.int .i64 f1)).setCell (p := ⟨w.heap.size + 1, 1, none⟩) (by simp) (.int .i64 f2)
        have aX : Aside [w.heap.size + 1] wd0.heap.size wd0 ((wd0.setCell ⟨w.heap.size + 1, 0, none⟩ (.int .i64 f1)).setCell ⟨w.heap.size + 1, 1, none⟩ (.int .i64 f2)) :=
          (Aside.setCell (p := ⟨w.heap.size + 1, 0, none⟩) (by simp) _).trans (Aside.setCell (B := wd0.heap.size) (p := ⟨w.heap.size + 1, 1, none⟩) (by simp) _) (Nat.le_refl _)
        go_simp
        refine hK.out _ _ (fun h => absurd h (by decide)) ?_
        clear hK K KX kX st0 st1 fr0 fr1
        try simp only [Act.put, List.setIfInBounds_toArray, List.set_cons_zero, List.set_cons_succ]
        generalize ((wd0.setCell ⟨w.heap.size + 1, 0, none⟩ (.int .i64 f1)).setCell ⟨w.heap.size + 1, 1, none⟩ (.int .i64 f2)) = wd1 at x0 x1 BX aX ⊢
        refine wpAnyL_done (by kernel_rfl) ?_ _
        go_wp2
        exact bodyPost_ret (v := .tuple #[.pointer none, .agg #[.int .i64 f1, .int .i64 f2]]) (by simp [results, Tryd.results12, go_sem, x0, x1]) rfl ⟨fun _ => by rw [← HF1.out, ← HF2.out], fun h => absurd (HF1.out.trans h) hz, BX⟩
  case pos =>
    have hzb : (f1 != 0) = false := by simpa using hz
    obtain ⟨hgd, hf0⟩ := HGood.out (by rw [← HF1.out]; exact hz)
    obtain ⟨nc, hnc⟩ : ∃ nc : Nat, L.c = (nc : Int) := ⟨L.c.toNat, by have := hgd.c; omega⟩
    have hnc6 : nc ≤ 6000 := by have := hgd.c; omega
    have HGd := hide hgd
    have HF0 := hide hf0
    have HNC := hide hnc
    rw [hnc] at c0
    obtain ⟨LZ, hLZ⟩ : ∃ LZ, LZ = ((List.replicate nc (0 : Int)).map (Value.int .i64)).toArray := ⟨_, rfl⟩
    have HLZ := hide hLZ
    have HMK := hide (fun V => make_longs nc nc (Nat.le_refl _) (by omega) V)
    have hown := fun (W : World) (h : Below w3.heap.size w3 W) => own28_core (N0 := w.heap.size) (w := W) (Nat.le_trans (Nat.le_trans (by omega) zw3) h.size) (c := (nc : Int)) (HL3.out.under h).P (HL3.out.under h).G (HL3.out.under h).S hPl hGl hSl (fun s hs => ⟨Nat.le_trans (hgd.S s hs).E.len (by decide), fun hf => Nat.le_trans ((hgd.S s hs).F (by unfold Lo.folds at hf; simpa using hf)).len (by decide)⟩)
    have HOwn := hide hown
    have kRn := kR3
    clear hgd hf0 hnc hLZ hown HGood kRn
    go_upto_region 4 with fail
    refine wp_region_late (fun w' => Below w3.heap.size w3 w') (fun i => i == 9) (by kernel_rfl) ?_
    have hH0 : Below w3.heap.size w3 w3.drew := (Below.refl _ _).drew
    generalize w3.drew = wd0 at hH0 ⊢
    refine' wpAnyL_take (i := 0) (oi := ⟨some 11, _, _, _, _, _⟩) (v := _) rfl (by kernel_rfl) (by kernel_rfl) (by kernel_rfl) (by kernel_rfl) (fun _ _ _ h => h) hH0 (by rfl) ?hyv ?onw
    case hyv =>
      intro wz hSw
      have zc0 := (hSw.cell (p := ⟨w.heap.size, 0, none⟩) yR).trans c0
      have zc1 := (hSw.cell (p := ⟨w.heap.size, 1, none⟩) yR).trans c1
      have zc2 := (hSw.cell (p := ⟨w.heap.size, 2, none⟩) yR).trans c2
      have zc3 := (hSw.cell (p := ⟨w.heap.size, 3, none⟩) yR).trans c3
      go_simp
      try rfl
    case onw =>
      try simp only [Act.put, List.setIfInBounds_toArray, List.set_cons_zero, List.set_cons_succ]
      refine' wpAnyL_take (i := 2) (oi := ⟨some 13, _, _, _, _, _⟩) (v := _) rfl (by kernel_rfl) (by kernel_rfl) (by kernel_rfl) (by kernel_rfl) (fun _ _ _ h => h) hH0 (by rfl) ?hyv ?onw
      case hyv =>
        intro wz hSw
        go_simp
        try rfl
      case onw =>
        try simp only [Act.put, List.setIfInBounds_toArray, List.set_cons_zero, List.set_cons_succ]
        refine' wpAnyL_take (i := 3) (oi := ⟨some 14, _, _, _, _, _⟩) (v := _) rfl (by kernel_rfl) (by kernel_rfl) (by kernel_rfl) (by kernel_rfl) (fun _ _ _ h => h) hH0 (by rfl) ?hyv ?onw
        case hyv =>
          intro wz hSw
          have zc0 := (hSw.cell (p := ⟨w.heap.size, 0, none⟩) yR).trans c0
          have zc1 := (hSw.cell (p := ⟨w.heap.size, 1, none⟩) yR).trans c1
          have zc2 := (hSw.cell (p := ⟨w.heap.size, 2, none⟩) yR).trans c2
          have zc3 := (hSw.cell (p := ⟨w.heap.size, 3, none⟩) yR).trans c3
          go_simp
          try rfl
        case onw =>
          try simp only [Act.put, List.setIfInBounds_toArray, List.set_cons_zero, List.set_cons_succ]
          refine' wpAnyL_take (i := 7) (oi := ⟨some 18, _, _, _, _, _⟩) (v := _) rfl (by kernel_rfl) (by kernel_rfl) (by kernel_rfl) (by kernel_rfl) (fun _ _ _ h => h) hH0 (by rfl) ?hyv ?onw
          case hyv =>
            intro wz hSw
            go_simp
            try rfl
          case onw =>
            try simp only [Act.put, List.setIfInBounds_toArray, List.set_cons_zero, List.set_cons_succ]
            refine wpAnyL_two (i := 1) (j := 4) rfl rfl (by kernel_rfl) (by rfl) (by rfl) (fun K hK => ?_) (fun K hK => ?_)
            case _ =>
              go_simp
              refine (HOwn.out wd0 hH0).mono ?_
              rintro eq wd1 ⟨⟨a1, d1, a2, d2, a3, d3, rfl, o1, o2, o3, bq1⟩⟩
              have hH1 : Below w3.heap.size w3 wd1 := hH0.trans (bq1.mono hH0.size)
              have HOW : OwnR w.heap.size wd0.heap.size wd1.heap.size wd1 a1 a2 a3 d1 d2 d3 L.P L.G L.S := OwnR.of o1 o2 o3
              have zc1 := hH0.size
              have zd1 := bq1.size
              clear o1 o2 o3
              refine hK.out _ _ (fun _ => hH1) ?_
              clear hK K
              try simp only [Act.put, List.setIfInBounds_toArray, List.set_cons_zero, List.set_cons_succ]
              refine wpAnyL_one (i := 4) (o := _) rfl (by kernel_rfl) (by rfl) (fun K hK => ?_)
              have hmk2 := HMK.out wd1; rw [← HLZ.out] at hmk2; go_simp
              have hH2 : Below w3.heap.size w3 (wd1.alloc (.cells LZ 2 (0, 0))) := hH1.alloc hH1.size _
              have kn2 := heap_new wd1 (.cells LZ 2 (0, 0))
              have zn2 := hH1.size
              refine hK.out _ _ (fun _ => hH2) ?_
              clear hK K
              try simp only [Act.put, List.setIfInBounds_toArray, List.set_cons_zero, List.set_cons_succ]
              have HOW_2 := HOW.below ((Below.refl _ wd1).alloc (Nat.le_refl _) (.cells LZ 2 (0, 0)))
              generalize wd1.alloc (.cells LZ 2 (0, 0)) = wd2 at HOW_2 hH2 kn2 ⊢
              refine' wpAnyL_take (i := 5) (oi := ⟨some 16, _, _, _, _, _⟩) (v := _) rfl (by kernel_rfl) (by kernel_rfl) (by kernel_rfl) (by kernel_rfl) (fun _ _ _ h => h) hH2 (by rfl) ?hyv ?onw
              case hyv =>
                intro wz hSw
                go_simp
                try rfl
              case onw =>
                try simp only [Act.put, List.setIfInBounds_toArray, List.set_cons_zero, List.set_cons_succ]
                refine wpAnyL_one (i := 6) (o := _) rfl (by kernel_rfl) (by rfl) (fun K hK => ?_)
                go_simp
                have hH3 : Below w3.heap.size w3 (wd2.alloc (.cells #[.int .i64 (nc : Int), .slice a1 L.P.length d1, .slice a2 L.G.length d2, .slice a3 L.S.length d3, .slice (some ⟨wd1.heap.size, 0, none⟩) nc nc] 64 (0, 0))) := hH2.alloc hH2.size _
                have kn3 := heap_new wd2 (.cells #[.int .i64 (nc : Int), .slice a1 L.P.length d1, .slice a2 L.G.length d2, .slice a3 L.S.length d3, .slice (some ⟨wd1.heap.size, 0, none⟩) nc nc] 64 (0, 0))
                have zn3 := hH2.size
                refine hK.out _ _ (fun _ => hH3) ?_
                clear hK K
                try simp only [Act.put, List.setIfInBounds_toArray, List.set_cons_zero, List.set_cons_succ]
                have ne3_kn2 := lt_of kn2
                have kn2_3 := (Below.heap_alloc wd2 (.cells #[.int .i64 (nc : Int), .slice a1 L.P.length d1, .slice a2 L.G.length d2, .slice a3 L.S.length d3, .slice (some ⟨wd1.heap.size, 0, none⟩) nc nc] 64 (0, 0)) _ (lt_of kn2)).trans kn2
                have HOW_3 := HOW_2.below ((Below.refl _ wd2).alloc (Nat.le_refl _) (.cells #[.int .i64 (nc : Int), .slice a1 L.P.length d1, .slice a2 L.G.length d2, .slice a3 L.S.length d3, .slice (some ⟨wd1.heap.size, 0, none⟩) nc nc] 64 (0, 0)))
                generalize wd2.alloc (.cells #[.int .i64 (nc : Int), .slice a1 L.P.length d1, .slice a2 L.G.length d2, .slice a3 L.S.length d3, .slice (some ⟨wd1.heap.size, 0, none⟩) nc nc] 64 (0, 0)) = wd3 at HOW_3 hH3 kn3 kn2_3 ⊢
                refine' wpAnyL_take (i := 8) (oi := ⟨some 2, _, _, _, _, _⟩) (v := _) rfl (by kernel_rfl) (by kernel_rfl) (by kernel_rfl) (by kernel_rfl) (fun _ _ _ h => h) hH3 (by rfl) ?hyv ?onw
                case hyv =>
                  intro wz hSw
                  go_simp
                  try rfl
                case onw =>
                  try simp only [Act.put, List.setIfInBounds_toArray, List.set_cons_zero, List.set_cons_succ]
                  refine wpAnyL_one (i := 9) (o := _) rfl (by kernel_rfl) (by rfl) (fun K hK => ?_)
                  have hzF : w.heap.size + 1 < w3.heap.size := by omega
                  have lc := lt_of kn2_3
                  have lm := lt_of kn3
                  have ow0 := HOW_3
                  have kc0 := kn2_3
                  have km0 := kn3
                  have kX := (hH3.block _ yF).trans kF3
                  have st0 := cell_of kX 0
                  have st1 := cell_of kX 1
                  have fr0 := free_of kX 0
                  have fr1 := free_of kX 1
                  simp at st0 st1
                  have KX := set_in (set_in kX 0 (.int .i64 0)) 1 (.int .i64 0)
                  have x0 := cell_of KX 0
                  have x1 := cell_of KX 1
                  simp at x0 x1
                  have BX := ((B3.trans (hH3.mono B3.size)).setCell (p := ⟨w.heap.size + 1, 0, none⟩) (by simp) (.int .i64 0)).setCell (p := ⟨w.heap.size + 1, 1, none⟩) (by simp) (.int .i64 0)
                  have aX : Aside [w.heap.size + 1] wd3.heap.size wd3 ((wd3.setCell ⟨w.heap.size + 1, 0, none⟩ (.int .i64 0)).setCell ⟨w.heap.size + 1, 1, none⟩ (.int .i64 0)) :=
                    (Aside.setCell (p := ⟨w.heap.size + 1, 0, none⟩) (by simp) _).trans (Aside.setCell (B := wd3.heap.size) (p := ⟨w.heap.size + 1, 1, none⟩) (by simp) _) (Nat.le_refl _)
                  go_simp
                  refine hK.out _ _ (fun h => absurd h (by decide)) ?_
                  clear hK K KX kX st0 st1 fr0 fr1
                  try simp only [Act.put, List.setIfInBounds_toArray, List.set_cons_zero, List.set_cons_succ]
                  generalize ((wd3.setCell ⟨w.heap.size + 1, 0, none⟩ (.int .i64 0)).setCell ⟨w.heap.size + 1, 1, none⟩ (.int .i64 0)) = wd4 at x0 x1 BX aX ⊢
                  refine wpAnyL_done (by kernel_rfl) ?_ _
                  have lk := lt_of kn2
                  have hox := ow0.past aX ⟨by omega, by omega⟩
                  have hmx := (aX.block _ lm (by simp; omega)).trans km0
                  have hlx : LB wd4 wd1.heap.size (List.replicate nc 0) := by
                    unfold LB
                    rw [aX.block _ lc (by simp; omega), kc0, HLZ.out]
                  have hma := mach_of hox HNC.out HL3.out.W hmx (by omega) (by omega)
                  have HMA := hide hma
                  have HLX := hide hlx
                  have hq1 : w.heap.size ≤ wd2.heap.size := by omega
                  have hq2 : w.heap.size ≤ wd1.heap.size := by omega
                  clear hma hlx hmx hox ow0 kc0 km0 aX
                  go_wp2
                  exact bodyPost_ret (v := .tuple #[.pointer (some ⟨wd2.heap.size, 0, none⟩), .agg #[.int .i64 0, .int .i64 0]]) (by simp [results, Tryd.results12, go_sem, x0, x1]) rfl ⟨fun h => absurd (HF1.out.symm.trans hz) h, fun _ => ⟨_, _, nc, a1, d1, a2, d2, a3, d3, rfl, HMA.out, HLX.out, hq1, hq2⟩, BX⟩
            case _ =>
              have hmk1 := HMK.out wd0; rw [← HLZ.out] at hmk1; go_simp
              have hH1 : Below w3.heap.size w3 (wd0.alloc (.cells LZ 2 (0, 0))) := hH0.alloc hH0.size _
              have kn1 := heap_new wd0 (.cells LZ 2 (0, 0))
              have zn1 := hH0.size
              refine hK.out _ _ (fun _ => hH1) ?_
              clear hK K
              try simp only [Act.put, List.setIfInBounds_toArray, List.set_cons_zero, List.set_cons_succ]
              generalize wd0.alloc (.cells LZ 2 (0, 0)) = wd1 at hH1 kn1 ⊢
              refine wpAnyL_one (i := 1) (o := _) rfl (by kernel_rfl) (by rfl) (fun K hK => ?_)
              go_simp
              refine (HOwn.out wd1 hH1).mono ?_
              rintro eq wd2 ⟨⟨a1, d1, a2, d2, a3, d3, rfl, o1, o2, o3, bq2⟩⟩
              have kn1_2 := (bq2.block _ (lt_of kn1)).trans kn1
              have hH2 : Below w3.heap.size w3 wd2 := hH1.trans (bq2.mono hH1.size)
              have HOW : OwnR w.heap.size wd1.heap.size wd2.heap.size wd2 a1 a2 a3 d1 d2 d3 L.P L.G L.S := OwnR.of o1 o2 o3
              have zc2 := hH1.size
              have zd2 := bq2.size
              clear o1 o2 o3
              refine hK.out _ _ (fun _ => hH2) ?_
              clear hK K
              try simp only [Act.put, List.setIfInBounds_toArray, List.set_cons_zero, List.set_cons_succ]
              refine' wpAnyL_take (i := 5) (oi := ⟨some 16, _, _, _, _, _⟩) (v := _) rfl (by kernel_rfl) (by kernel_rfl) (by kernel_rfl) (by kernel_rfl) (fun _ _ _ h => h) hH2 (by rfl) ?hyv ?onw
              case hyv =>
                intro wz hSw
                go_simp
                try rfl
              case onw =>
                try simp only [Act.put, List.setIfInBounds_toArray, List.set_cons_zero, List.set_cons_succ]
                refine wpAnyL_one (i := 6) (o := _) rfl (by kernel_rfl) (by rfl) (fun K hK => ?_)
                go_simp
                have hH3 : Below w3.heap.size w3 (wd2.alloc (.cells #[.int .i64 (nc : Int), .slice a1 L.P.length d1, .slice a2 L.G.length d2, .slice a3 L.S.length d3, .slice (some ⟨wd0.heap.size, 0, none⟩) nc nc] 64 (0, 0))) := hH2.alloc hH2.size _
                have kn3 := heap_new wd2 (.cells #[.int .i64 (nc : Int), .slice a1 L.P.length d1, .slice a2 L.G.length d2, .slice a3 L.S.length d3, .slice (some ⟨wd0.heap.size, 0, none⟩) nc nc] 64 (0, 0))
                have zn3 := hH2.size
                refine hK.out _ _ (fun _ => hH3) ?_
                clear hK K
                try simp only [Act.put, List.setIfInBounds_toArray, List.set_cons_zero, List.set_cons_succ]
                have ne3_kn1 := lt_of kn1_2
                have kn1_3 := (Below.heap_alloc wd2 (.cells #[.int .i64 (nc : Int), .slice a1 L.P.length d1, .slice a2 L.G.length d2, .slice a3 L.S.length d3, .slice (some ⟨wd0.heap.size, 0, none⟩) nc nc] 64 (0, 0)) _ (lt_of kn1_2)).trans kn1_2
                have HOW_3 := HOW.below ((Below.refl _ wd2).alloc (Nat.le_refl _) (.cells #[.int .i64 (nc : Int), .slice a1 L.P.length d1, .slice a2 L.G.length d2, .slice a3 L.S.length d3, .slice (some ⟨wd0.heap.size, 0, none⟩) nc nc] 64 (0, 0)))
                generalize wd2.alloc (.cells #[.int .i64 (nc : Int), .slice a1 L.P.length d1, .slice a2 L.G.length d2, .slice a3 L.S.length d3, .slice (some ⟨wd0.heap.size, 0, none⟩) nc nc] 64 (0, 0)) = wd3 at HOW_3 hH3 kn3 kn1_3 ⊢
                refine' wpAnyL_take (i := 8) (oi := ⟨some 2, _, _, _, _, _⟩) (v := _) rfl (by kernel_rfl) (by kernel_rfl) (by kernel_rfl) (by kernel_rfl) (fun _ _ _ h => h) hH3 (by rfl) ?hyv ?onw
                case hyv =>
                  intro wz hSw
                  go_simp
                  try rfl
                case onw =>
                  try simp only [Act.put, List.setIfInBounds_toArray, List.set_cons_zero, List.set_cons_succ]
                  refine wpAnyL_one (i := 9) (o := _) rfl (by kernel_rfl) (by rfl) (fun K hK => ?_)
                  have hzF : w.heap.size + 1 < w3.heap.size := by omega
                  have lc := lt_of kn1_3
                  have lm := lt_of kn3
                  have ow0 := HOW_3
                  have kc0 := kn1_3
                  have km0 := kn3
                  have kX := (hH3.block _ yF).trans kF3
                  have st0 := cell_of kX 0
                  have st1 := cell_of kX 1
                  have fr0 := free_of kX 0
                  have fr1 := free_of kX 1
                  simp at st0 st1
                  have KX := set_in (set_in kX 0 (.int .i64 0)) 1 (.int .i64 0)
                  have x0 := cell_of KX 0
                  have x1 := cell_of KX 1
                  simp at x0 x1
                  have BX := ((B3.trans (hH3.mono B3.size)).setCell (p := ⟨w.heap.size + 1, 0, none⟩) (by simp) (.int .i64 0)).setCell (p := ⟨w.heap.size + 1, 1, none⟩) (by simp) (.int .i64 0)
                  have aX : Aside [w.heap.size + 1] wd3.heap.size wd3 ((wd3.setCell ⟨w.heap.size + 1, 0, none⟩ (.int .i64 0)).setCell ⟨w.heap.size + 1, 1, none⟩ (.int .i64 0)) :=
                    (Aside.setCell (p := ⟨w.heap.size + 1, 0, none⟩) (by simp) _).trans (Aside.setCell (B := wd3.heap.size) (p := ⟨w.heap.size + 1, 1, none⟩) (by simp) _) (Nat.le_refl _)
                  go_simp
                  refine hK.out _ _ (fun h => absurd h (by decide)) ?_
                  clear hK K KX kX st0 st1 fr0 fr1
                  try simp only [Act.put, List.setIfInBounds_toArray, List.set_cons_zero, List.set_cons_succ]
                  generalize ((wd3.setCell ⟨w.heap.size + 1, 0, none⟩ (.int .i64 0)).setCell ⟨w.heap.size + 1, 1, none⟩ (.int .i64 0)) = wd4 at x0 x1 BX aX ⊢
                  refine wpAnyL_done (by kernel_rfl) ?_ _
                  have lk := lt_of kn1
                  have hox := ow0.past aX ⟨by omega, by omega⟩
                  have hmx := (aX.block _ lm (by simp; omega)).trans km0
                  have hlx : LB wd4 wd0.heap.size (List.replicate nc 0) := by
                    unfold LB
                    rw [aX.block _ lc (by simp; omega), kc0, HLZ.out]
                  have hma := mach_of hox HNC.out HL3.out.W hmx (by omega) (by omega)
                  have HMA := hide hma
                  have HLX := hide hlx
                  have hq1 : w.heap.size ≤ wd2.heap.size := by omega
                  have hq2 : w.heap.size ≤ wd0.heap.size := by omega
                  clear hma hlx hmx hox ow0 kc0 km0 aX
                  go_wp2
                  exact bodyPost_ret (v := .tuple #[.pointer (some ⟨wd2.heap.size, 0, none⟩), .agg #[.int .i64 0, .int .i64 0]]) (by simp [results, Tryd.results12, go_sem, x0, x1]) rfl ⟨fun h => absurd (HF1.out.symm.trans hz) h, fun _ => ⟨_, _, nc, a1, d1, a2, d2, a3, d3, rfl, HMA.out, HLX.out, hq1, hq2⟩, BX⟩
end Go.Proofs.YtgjdkgkgbmbffaaDoor
