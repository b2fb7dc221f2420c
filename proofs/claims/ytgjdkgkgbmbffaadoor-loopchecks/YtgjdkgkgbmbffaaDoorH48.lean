import Derived.Test.YtgjdkgkgbmbffaaDoorH47
import Derived.Test.YtgjdkgkgbmbffaaDoorH42
import Derived.Test.YtgjdkgkgbmbffaaDoorH39
import Derived.Test.YtgjdkgkgbmbffaaDoorH38
import Derived.WalkKit
import Derived.WalkSpells
import Derived.IntWalk
import Derived.Deep.Cut
import Derived.Deep.LoopGhost
import Derived.Laws.Cover1
import Derived.Lib.Hide
set_option linter.unusedVariables false
set_option linter.unusedSimpArgs false
set_option maxHeartbeats 64000000
set_option maxRecDepth 100000
namespace Go.Proofs.YtgjdkgkgbmbffaaDoor
open Go.RowKit Go.IntWalk
set_option linter.unusedVariables false
set_option linter.unusedSimpArgs false
set_option maxHeartbeats 16000000 in
theorem loopChecks_any {ok : Nat → Prop} {w : World} {aP aG aS : Option Addr} {cP cG cS : Nat} {L : Lo.Lp} (hK : GlobK w) (hL : HLp ok w aP aG aS cP cG cS L) : Calls Tryd.prog 3 #[.agg #[.int .i64 L.c, .slice aP L.P.length cP, .slice aG L.G.length cG, .slice aS L.S.length cS]] w fun e w' => e = .returned (.bool true) ∧ Below w.heap.size w w' := by
  have b1 : Below w.heap.size w (w.alloc (.cells #[.int .i64 L.c, .slice aP L.P.length cP, .slice aG L.G.length cG, .slice aS L.S.length cS] 25 (0, 0))) := (Below.refl _ _).alloc (Nat.le_refl _) _
  have kL := heap_new w (.cells #[.int .i64 L.c, .slice aP L.P.length cP, .slice aG L.G.length cG, .slice aS L.S.length cS] 25 (0, 0))
  have HK := hide hK
  have HL := hide hL
  clear hK hL
  go_enter Tryd.func3, Tryd.ntmps3
  go_upto_region 1 with fail
  generalize (w.alloc (.cells #[.int .i64 L.c, .slice aP L.P.length cP, .slice aG L.G.length cG, .slice aS L.S.length cS] 25 (0, 0))) = w1 at b1 kL ⊢
  go_wp2_with fail
  refine (loopBegun5_any (HK.out.under b1)).mono ?_
  rintro e w2 ⟨rfl, b2⟩
  have B2 := b1.trans (b2.mono b1.size)
  have kL2 := (b2.block _ (lt_of kL)).trans kL
  have s0 := cell_of kL2 0
  have s1 := cell_of kL2 1
  have s2 := cell_of kL2 2
  have s3 := cell_of kL2 3
  simp at s0 s1 s2 s3
  go_wp2_with fail
  refine (great6_any (HL.out.under B2)).mono ?_
  intro e w3 hp
  obtain ⟨b, rfl, hb, b3⟩ := hp.out
  have B3 := B2.trans (b3.mono B2.size)
  have kL3 := (b3.block _ (lt_of kL2)).trans kL2
  clear s0 s1 s2 s3 kL kL2 hp
  have s0 := cell_of kL3 0
  have s1 := cell_of kL3 1
  have s2 := cell_of kL3 2
  have s3 := cell_of kL3 3
  simp at s0 s1 s2 s3
  have yL := lt_of kL3
  cases b
  case true =>
    go_wp2
    go_ret
    exact ⟨rfl, B3⟩
  case false =>
    obtain ⟨⟨g1, g2, g3⟩, g4⟩ := hb rfl
    obtain ⟨f1, hf1⟩ : ∃ f1, f1 = (Lo.fault L).1 := ⟨_, rfl⟩
    obtain ⟨f2, hf2⟩ : ∃ f2, f2 = (Lo.fault L).2 := ⟨_, rfl⟩
    have HC7 := hide (fun (ok' : Nat → Prop) (W : World) (a1 a2 a3 : Option Addr) (d1 d2 d3 : Nat) (hW : GlobK W) (h : HLp ok' W a1 a2 a3 d1 d2 d3 L) => (show Calls Tryd.prog 7 #[.agg #[.int .i64 L.c, .slice a1 L.P.length d1, .slice a2 L.G.length d2, .slice a3 L.S.length d3]] W fun e w' => e = .returned (.agg #[.int .i64 f1, .int .i64 f2]) ∧ Below W.heap.size W w' by rw [hf1, hf2]; exact check7_any hW h))
    have HC9 := hide (fun (W : World) (h : HLp ok W aP aG aS cP cG cS L) => (show Calls Tryd.prog 9 #[.agg #[.int .i64 L.c, .slice aP L.P.length cP, .slice aG L.G.length cG, .slice aS L.S.length cS]] W fun e w' => e = .returned (.agg #[.int .i64 f1, .int .i64 f2]) ∧ Below W.heap.size W w' by rw [hf1, hf2]; exact loopsFault9_any h))
    have HC8 := hide (fun (W : World) (h : HLp ok W aP aG aS cP cG cS L) => copyLoops8_any h (by omega) (by omega) (by omega) (fun s hs => by have := g4 s hs; omega))
    have HL3 := hide (HL.out.under B3)
    have HK3 := hide (HK.out.under B3)
    clear hf1 hf2 g4 hb HL HK
    go_upto_region 5 with fail
    refine wp_region_late (fun w' => Below w3.heap.size w3 w') (fun _ => false) (by kernel_rfl) ?_
    have hH0 : Below w3.heap.size w3 w3.drew := (Below.refl _ _).drew
    generalize w3.drew = wd0 at hH0 ⊢
    refine' wpAnyL_take (i := 0) (oi := ⟨some 7, _, _, _, _, _⟩) (v := _) rfl (by kernel_rfl) (by kernel_rfl) (by kernel_rfl) (by kernel_rfl) (fun _ _ _ h => h) hH0 (by rfl) ?hyv ?onw
    case hyv =>
      intro wz hSw
      have zc0 := (hSw.cell (p := ⟨w.heap.size, 0, none⟩) yL).trans s0
      have zc1 := (hSw.cell (p := ⟨w.heap.size, 1, none⟩) yL).trans s1
      have zc2 := (hSw.cell (p := ⟨w.heap.size, 2, none⟩) yL).trans s2
      have zc3 := (hSw.cell (p := ⟨w.heap.size, 3, none⟩) yL).trans s3
      go_simp
      try rfl
    case onw =>
      try simp only [Act.put, List.setIfInBounds_toArray, List.set_cons_zero, List.set_cons_succ]
      refine' wpAnyL_take (i := 3) (oi := ⟨some 10, _, _, _, _, _⟩) (v := _) rfl (by kernel_rfl) (by kernel_rfl) (by kernel_rfl) (by kernel_rfl) (fun _ _ _ h => h) hH0 (by rfl) ?hyv ?onw
      case hyv =>
        intro wz hSw
        have zc0 := (hSw.cell (p := ⟨w.heap.size, 0, none⟩) yL).trans s0
        have zc1 := (hSw.cell (p := ⟨w.heap.size, 1, none⟩) yL).trans s1
        have zc2 := (hSw.cell (p := ⟨w.heap.size, 2, none⟩) yL).trans s2
        have zc3 := (hSw.cell (p := ⟨w.heap.size, 3, none⟩) yL).trans s3
        go_simp
        try rfl
      case onw =>
        try simp only [Act.put, List.setIfInBounds_toArray, List.set_cons_zero, List.set_cons_succ]
        refine wpAnyL_one (i := 1) (o := _) rfl (by kernel_rfl) (by rfl) (fun K hK => ?_)
        go_simp
        refine (HC8.out wd0 (HL3.out.under hH0)).mono ?_
        rintro eq wd1 ⟨⟨a1, d1, a2, d2, a3, d3, rfl, hl8, bq1⟩⟩
        have hH1 : Below w3.heap.size w3 wd1 := hH0.trans (bq1.mono hH0.size)
        have HL8 := hide hl8
        clear hl8
        refine hK.out _ _ (fun _ => hH1) ?_
        clear hK K
        try simp only [Act.put, List.setIfInBounds_toArray, List.set_cons_zero, List.set_cons_succ]
        refine wpAnyL_one (i := 2) (o := _) rfl (by kernel_rfl) (by rfl) (fun K hK => ?_)
        go_simp
        refine (HC7.out _ wd1 _ _ _ _ _ _ (HK3.out.under hH1) HL8.out).mono ?_
        rintro eq wd2 ⟨rfl, bq2⟩
        have hH2 : Below w3.heap.size w3 wd2 := hH1.trans (bq2.mono hH1.size)
        refine hK.out _ _ (fun _ => hH2) ?_
        clear hK K
        try simp only [Act.put, List.setIfInBounds_toArray, List.set_cons_zero, List.set_cons_succ]
        refine wpAnyL_one (i := 4) (o := _) rfl (by kernel_rfl) (by rfl) (fun K hK => ?_)
        go_simp
        refine (HC9.out wd2 (HL3.out.under hH2)).mono ?_
        rintro eq wd3 ⟨rfl, bq3⟩
        have hH3 : Below w3.heap.size w3 wd3 := hH2.trans (bq3.mono hH2.size)
        refine hK.out _ _ (fun _ => hH3) ?_
        clear hK K
        try simp only [Act.put, List.setIfInBounds_toArray, List.set_cons_zero, List.set_cons_succ]
        refine' wpAnyL_take (i := 5) (oi := ⟨some 12, _, _, _, _, _⟩) (v := .bool true) rfl (by kernel_rfl) (by kernel_rfl) (by kernel_rfl) (by kernel_rfl) (fun _ _ _ h => h) hH3 (by rfl) ?hyv ?onw
        case hyv =>
          intro wz hSw
          go_simp
          try rfl
          try simp
        case onw =>
          try simp only [Act.put, List.setIfInBounds_toArray, List.set_cons_zero, List.set_cons_succ]
          refine' wpAnyL_take (i := 6) (oi := ⟨some 2, _, _, _, _, _⟩) (v := _) rfl (by kernel_rfl) (by kernel_rfl) (by kernel_rfl) (by kernel_rfl) (fun _ _ _ h => h) hH3 (by rfl) ?hyv ?onw
          case hyv =>
            intro wz hSw
            go_simp
            try rfl
          case onw =>
            try simp only [Act.put, List.setIfInBounds_toArray, List.set_cons_zero, List.set_cons_succ]
            refine wpAnyL_done (by kernel_rfl) ?_ _
            go_wp2_with fail
            go_ret
            exact ⟨rfl, B3.trans (hH3.mono B3.size)⟩
end Go.Proofs.YtgjdkgkgbmbffaaDoor
