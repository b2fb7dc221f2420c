import Derived.Test.YtbiomnnlpafciaaDoorT47
import Derived.Test.YtbiomnnlpafciaaDoorT46
import Derived.Test.YtbiomnnlpafciaaDoorT38
import Derived.Test.YtbiomnnlpafciaaDoorT34
import Derived.Test.YtbiomnnlpafciaaDoorT30
import Derived.WalkKit
import Derived.WalkSpells
import Derived.IntWalk
import Derived.Deep.Cut
import Derived.Deep.LoopGhost
import Derived.Laws.Cover1
import Derived.Lib.Hide
set_option linter.unusedVariables false
set_option linter.unusedSimpArgs false
set_option maxHeartbeats 64000000
set_option maxRecDepth 100000
namespace Go.Proofs.YtbiomnnlpafciaaDoor
open Go.RowKit Go.IntWalk
set_option linter.unusedVariables false
set_option linter.unusedSimpArgs false
theorem HRow.llAt2 {ok : Nat → Prop} {w : World} {v : Value} {l : List (List Int)} (h : HRow kLL ok w v l) :
    ∃ ao cap, v = .slice ao l.length cap ∧ l.length ≤ cap ∧ cap ≤ maxLen ∧ ∀ i (h : i < l.length), ∃ b o u, ao = some ⟨b, o, none⟩ ∧ b < w.heap.size ∧ ok b ∧ w.cell? ⟨b, o + i, none⟩ = some u ∧ HInts ok w u l[i] := by
  obtain ⟨C, ⟨ao, cap, hv, h1, h2, h3⟩, hC⟩ := h
  refine ⟨ao, cap, hv, h1, h2, fun i hi => ?_⟩
  obtain ⟨b, o, ha, hob, hb, hc⟩ := h3 (by omega)
  obtain ⟨u, e, hu⟩ := hC i hi
  have := (hc i hi).2 0 (by decide)
  rw [e] at this
  exact ⟨b, o, u, ha, hb, hob, by simpa [kLL] using this, hu⟩
theorem HRow.under' {α : Type} {T : Kind α} {ok : Nat → Prop} {w w' : World} {v : Value} {l : List α} (h : HRow T ok w v l) (b : Below w.heap.size w w') : HRow T ok w' v l := HRow.keep h b.size fun i _ hl => b.block i hl
theorem HLp.wide {ok ok' : Nat → Prop} {w : World} {aP aG aS : Option Addr} {cP cG cS : Nat} {L : Lo.Lp} (h : HLp ok w aP aG aS cP cG cS L) (hk : ∀ i, ok i → i < w.heap.size → ok' i) : HLp ok' w aP aG aS cP cG cS L := ⟨h.P.wide hk, h.G.wide hk, h.S.wide hk, h.W⟩
set_option maxHeartbeats 64000000 in
theorem emitSame4_any {okL okR : Nat → Prop} {w : World} {aP aG aS : Option Addr} {cP cG cS : Nat} {L : Lo.Lp} (hK : GlobK w) (hL : HLp okL w aP aG aS cP cG cS L) {aR : Option Addr} {cR : Nat} {R : List (List Int)} (hR : HRow kLL okR w (.slice aR R.length cR) R) (hRw : ∀ r ∈ R, Lo.Wd r) : Calls Tryd.prog 4 #[.agg #[.int .i64 L.c, .slice aP L.P.length cP, .slice aG L.G.length cG, .slice aS L.S.length cS], .slice aR R.length cR] w fun e w' => e = .returned (.bool true) ∧ Below w.heap.size w w' := by
  have hL0 : HLp (fun i => i < w.heap.size) w aP aG aS cP cG cS L := ⟨hL.P.wide fun _ _ h => h, hL.G.wide fun _ _ h => h, hL.S.wide fun _ _ h => h, hL.W⟩
  have hR0 : HRow kLL (fun i => i < w.heap.size) w (.slice aR R.length cR) R := HRow.wide hR fun _ _ h => h
  have b1 : Below w.heap.size w (w.alloc (.cells #[.int .i64 L.c, .slice aP L.P.length cP, .slice aG L.G.length cG, .slice aS L.S.length cS] 25 (0, 0))) := (Below.refl _ _).alloc (Nat.le_refl _) _
  have kL := heap_new w (.cells #[.int .i64 L.c, .slice aP L.P.length cP, .slice aG L.G.length cG, .slice aS L.S.length cS] 25 (0, 0))
  have HK := hide hK
  have HL := hide hL0
  have HR := hide hR0
  have HRw := hide hRw
  clear hK hL hL0 hR hR0 hRw
  go_enter Tryd.func4, Tryd.ntmps4
  go_upto_region 1 with fail
  generalize (w.alloc (.cells #[.int .i64 L.c, .slice aP L.P.length cP, .slice aG L.G.length cG, .slice aS L.S.length cS] 25 (0, 0))) = w1 at b1 kL ⊢
  go_wp2_with fail
  refine (emitBegun5_any (HK.out.under b1)).mono ?_
  rintro e w2 ⟨rfl, b2⟩
  have B2 := b1.trans (b2.mono b1.size)
  have kL2 := (b2.block _ (lt_of kL)).trans kL
  have s0 := cell_of kL2 0
  have s1 := cell_of kL2 1
  have s2 := cell_of kL2 2
  have s3 := cell_of kL2 3
  simp at s0 s1 s2 s3
  go_wp2_with fail
  refine (great6_any (HL.out.under B2)).mono ?_
  intro e w3 hp
  obtain ⟨q, ee, hb, b3⟩ := hp.out
  have B3 := B2.trans (b3.mono B2.size)
  have kL3 := (b3.block _ (lt_of kL2)).trans kL2
  clear s0 s1 s2 s3 kL kL2 hp b1 b2 b3
  subst ee
  have s0 := cell_of kL3 0
  have s1 := cell_of kL3 1
  have s2 := cell_of kL3 2
  have s3 := cell_of kL3 3
  simp at s0 s1 s2 s3
  cases q
  case true =>
    go_wp2
    go_ret
    exact ⟨rfl, B3⟩
  case false =>
    obtain ⟨⟨g1, g2, g3⟩, g4⟩ := hb rfl
    clear hb
    go_wp2_with fail
    refine (rowsGreat2_any (HR.out.under B3)).mono ?_
    intro e w4 hp
    obtain ⟨q, ee, hb, b4⟩ := hp.out
    have B4 := B3.trans (b4.mono B3.size)
    have kL4 := (b4.block _ (lt_of kL3)).trans kL3
    clear s0 s1 s2 s3 kL3 hp b4 B3
    subst ee
    have s0 := cell_of kL4 0
    have s1 := cell_of kL4 1
    have s2 := cell_of kL4 2
    have s3 := cell_of kL4 3
    simp at s0 s1 s2 s3
    cases q
    case true =>
      go_wp2
      go_ret
      exact ⟨rfl, B4⟩
    case false =>
      obtain ⟨h60, hrl0⟩ := hb rfl
      have HRL := hide hrl0
      clear hb hrl0
      have hmk := make8_any (B := []) (okB := fun _ => True) (aB := none) (cB := 0) (HK.out.under B4) (HL.out.under B4) em_nilI (by omega) (by omega) (by omega) (by decide)
      have HMK := hide (show Calls Tryd.prog 8 #[.agg #[.int .i64 L.c, .slice aP L.P.length cP, .slice aG L.G.length cG, .slice aS L.S.length cS], .slice none 0 0] w4 (MakeP (fun i => w4.heap.size ≤ i) w4 L []) from hmk)
      have hsW : ∀ s ∈ L.S, Lo.SW s := HL.out.W
      clear hmk g4
      go_wp2_with fail
      refine HMK.out.mono ?_
      intro e w5 hp
      obtain ⟨⟨uP, uB, uG, uL, up, ub, ug, ul, ee, him⟩, b5⟩ := hp
      have B5 := B4.trans (b5.mono B4.size)
      have kL5 := (b5.block _ (lt_of kL4)).trans kL4
      clear s0 s1 s2 s3 kL4 HMK b5
      rcases Em.make_nil L with ⟨hf, hm⟩ | ⟨hf, i, hm⟩ | ⟨hf, C, RR, hs, hm⟩
      · rw [hm] at ee
        have hfl := fun W (b : Below w.heap.size w W) => loopsFault9_any (HL.out.under b)
        generalize hf1 : (Lo.fault L).1 = f1 at hf ee hfl
        generalize hf2 : (Lo.fault L).2 = f2 at ee hfl
        have HFL := hide hfl
        clear hf1 hf2 hfl hm him
        have hfb : (f1 != 0) = true := by simpa using hf
        have e1 : (f1 == f1) = true := by simp
        have e2 : (f2 == f2) = true := by simp
        have ee2 : e = .returned (.tuple #[.agg #[.int .i64 0, .int .i64 0, .int .i64 0, .slice uP 0 up, .slice uB 0 ub, .slice uG 0 ug, .slice uL 0 ul], .agg #[.int .i64 f1, .int .i64 f2]]) := ee
        clear ee
        subst ee2
        have b6 : Below w5.heap.size w5 ((w5.alloc (.cells #[.int .i64 0, .int .i64 0, .int .i64 0, .slice uP 0 up, .slice uB 0 ub, .slice uG 0 ug, .slice uL 0 ul] 31 (0, 0))).alloc (.cells #[.int .i64 f1, .int .i64 f2] 33 (0, 0))) := ((Below.refl _ _).alloc (Nat.le_refl _) _).alloc (by simp) _
        have kF : ((w5.alloc (.cells #[.int .i64 0, .int .i64 0, .int .i64 0, .slice uP 0 up, .slice uB 0 ub, .slice uG 0 ug, .slice uL 0 ul] 31 (0, 0))).alloc (.cells #[.int .i64 f1, .int .i64 f2] 33 (0, 0))).heap[w5.heap.size + 1]? = some (.cells #[.int .i64 f1, .int .i64 f2] 33 (0, 0)) := by
          have := heap_new (w5.alloc (.cells #[.int .i64 0, .int .i64 0, .int .i64 0, .slice uP 0 up, .slice uB 0 ub, .slice uG 0 ug, .slice uL 0 ul] 31 (0, 0))) (.cells #[.int .i64 f1, .int .i64 f2] 33 (0, 0))
          simpa using this
        go_upto_region 6 with fail
        generalize ((w5.alloc (.cells #[.int .i64 0, .int .i64 0, .int .i64 0, .slice uP 0 up, .slice uB 0 ub, .slice uG 0 ug, .slice uL 0 ul] 31 (0, 0))).alloc (.cells #[.int .i64 f1, .int .i64 f2] 33 (0, 0))) = w6 at b6 kF ⊢
        have B6 := B5.trans (b6.mono B5.size)
        have kL6 := (b6.block _ (lt_of kL5)).trans kL5
        have s0 := cell_of kL6 0
        have s1 := cell_of kL6 1
        have s2 := cell_of kL6 2
        have s3 := cell_of kL6 3
        simp at s0 s1 s2 s3
        have p0 := cell_of kF 0
        have p1 := cell_of kF 1
        simp at p0 p1
        have yL := lt_of kL6
        have yF := lt_of kF
        clear kL5 b6 B5 kL6 kF
        go_upto_region 7 with fail
        refine wp_region_late (fun w' => Below w6.heap.size w6 w') (fun _ => false) (by kernel_rfl) ?_
        have hH0 : Below w6.heap.size w6 w6.drew := (Below.refl _ _).drew
        generalize w6.drew = wd0 at hH0 ⊢
        refine' wpAnyL_take (i := 0) (oi := ⟨some 29, _, _, _, _, _⟩) (v := _) rfl (by kernel_rfl) (by kernel_rfl) (by kernel_rfl) (by kernel_rfl) (fun _ _ _ h => h) hH0 (by rfl) ?hyv ?onw
        case hyv =>
          intro wz hSw
          have zc0 := (hSw.cell (p := ⟨w5.heap.size + 1, 0, none⟩) yF).trans p0
          have zc1 := (hSw.cell (p := ⟨w5.heap.size + 1, 1, none⟩) yF).trans p1
          have zc2 := (hSw.cell (p := ⟨w.heap.size, 0, none⟩) yL).trans s0
          have zc3 := (hSw.cell (p := ⟨w.heap.size, 1, none⟩) yL).trans s1
          have zc4 := (hSw.cell (p := ⟨w.heap.size, 2, none⟩) yL).trans s2
          have zc5 := (hSw.cell (p := ⟨w.heap.size, 3, none⟩) yL).trans s3
          go_simp
          try rfl
        case onw =>
          try simp only [Act.put, List.setIfInBounds_toArray, List.set_cons_zero, List.set_cons_succ]
          refine' wpAnyL_take (i := 1) (oi := ⟨some 30, _, _, _, _, _⟩) (v := _) rfl (by kernel_rfl) (by kernel_rfl) (by kernel_rfl) (by kernel_rfl) (fun _ _ _ h => h) hH0 (by rfl) ?hyv ?onw
          case hyv =>
            intro wz hSw
            have zc0 := (hSw.cell (p := ⟨w5.heap.size + 1, 0, none⟩) yF).trans p0
            have zc1 := (hSw.cell (p := ⟨w5.heap.size + 1, 1, none⟩) yF).trans p1
            have zc2 := (hSw.cell (p := ⟨w.heap.size, 0, none⟩) yL).trans s0
            have zc3 := (hSw.cell (p := ⟨w.heap.size, 1, none⟩) yL).trans s1
            have zc4 := (hSw.cell (p := ⟨w.heap.size, 2, none⟩) yL).trans s2
            have zc5 := (hSw.cell (p := ⟨w.heap.size, 3, none⟩) yL).trans s3
            go_simp
            try rfl
          case onw =>
            try simp only [Act.put, List.setIfInBounds_toArray, List.set_cons_zero, List.set_cons_succ]
            refine wpAnyL_one (i := 2) (o := _) rfl (by kernel_rfl) (by rfl) (fun K hK => ?_)
            go_simp
            refine (HFL.out wd0 (B6.trans (hH0.mono B6.size))).mono ?_
            rintro eq wd1 ⟨rfl, bq1⟩
            have hH1 : Below w6.heap.size w6 wd1 := hH0.trans (bq1.mono hH0.size)
            refine hK.out _ _ (fun _ => hH1) ?_
            clear hK K
            try simp only [Act.put, List.setIfInBounds_toArray, List.set_cons_zero, List.set_cons_succ]
            refine' wpAnyL_take (i := 3) (oi := ⟨some 32, _, _, _, _, _⟩) (v := _) rfl (by kernel_rfl) (by kernel_rfl) (by kernel_rfl) (by kernel_rfl) (fun _ _ _ h => h) hH1 (by rfl) ?hyv ?onw
            case hyv =>
              intro wz hSw
              go_simp
              try rfl
            case onw =>
              try simp only [Act.put, List.setIfInBounds_toArray, List.set_cons_zero, List.set_cons_succ]
              refine' wpAnyL_take (i := 4) (oi := ⟨some 33, _, _, _, _, _⟩) (v := _) rfl (by kernel_rfl) (by kernel_rfl) (by kernel_rfl) (by kernel_rfl) (fun _ _ _ h => h) hH1 (by rfl) ?hyv ?onw
              case hyv =>
                intro wz hSw
                go_simp
                try rfl
              case onw =>
                try simp only [Act.put, List.setIfInBounds_toArray, List.set_cons_zero, List.set_cons_succ]
                refine wpAnyL_skip (i := 5) (oi := ⟨some 34, _, _, _, _, _⟩) rfl (by kernel_rfl) (by kernel_rfl) (by kernel_rfl) (by kernel_rfl) (fun _ _ _ h => h) hH1 (by rfl) ?_
                try simp only [Act.put, List.setIfInBounds_toArray, List.set_cons_zero, List.set_cons_succ]
                refine wpAnyL_skip (i := 6) (oi := ⟨some 35, _, _, _, _, _⟩) rfl (by kernel_rfl) (by kernel_rfl) (by kernel_rfl) (by kernel_rfl) (fun _ _ _ h => h) hH1 (by rfl) ?_
                try simp only [Act.put, List.setIfInBounds_toArray, List.set_cons_zero, List.set_cons_succ]
                refine wpAnyL_skip (i := 7) (oi := ⟨some 36, _, _, _, _, _⟩) rfl (by kernel_rfl) (by kernel_rfl) (by kernel_rfl) (by kernel_rfl) (fun _ _ _ h => h) hH1 (by rfl) ?_
                try simp only [Act.put, List.setIfInBounds_toArray, List.set_cons_zero, List.set_cons_succ]
                refine' wpAnyL_take (i := 8) (oi := ⟨some 37, _, _, _, _, _⟩) (v := _) rfl (by kernel_rfl) (by kernel_rfl) (by kernel_rfl) (by kernel_rfl) (fun _ _ _ h => h) hH1 (by rfl) ?hyv ?onw
                case hyv =>
                  intro wz hSw
                  go_simp
                  try rfl
                case onw =>
                  try simp only [Act.put, List.setIfInBounds_toArray, List.set_cons_zero, List.set_cons_succ]
                  refine' wpAnyL_take (i := 9) (oi := ⟨some 4, _, _, _, _, _⟩) (v := _) rfl (by kernel_rfl) (by kernel_rfl) (by kernel_rfl) (by kernel_rfl) (fun _ _ _ h => h) hH1 (by rfl) ?hyv ?onw
                  case hyv =>
                    intro wz hSw
                    go_simp
                    try rfl
                  case onw =>
                    try simp only [Act.put, List.setIfInBounds_toArray, List.set_cons_zero, List.set_cons_succ]
                    refine wpAnyL_done (by kernel_rfl) ?_ _
                    go_wp2_with fail
                    go_ret
                    exact ⟨rfl, B6.trans (hH1.mono B6.size)⟩
      · rw [hm] at ee
        have hfl := fun W (b : Below w.heap.size w W) => loopsFault9_any (HL.out.under b)
        rw [Lo.fault_zero hf] at hfl
        have HFL := hide hfl
        clear hfl hm him hf
        have ee2 : e = .returned (.tuple #[.agg #[.int .i64 0, .int .i64 0, .int .i64 0, .slice uP 0 up, .slice uB 0 ub, .slice uG 0 ug, .slice uL 0 ul], .agg #[.int .i64 7, .int .i64 i]]) := ee
        clear ee
        subst ee2
        have b6 : Below w5.heap.size w5 ((w5.alloc (.cells #[.int .i64 0, .int .i64 0, .int .i64 0, .slice uP 0 up, .slice uB 0 ub, .slice uG 0 ug, .slice uL 0 ul] 31 (0, 0))).alloc (.cells #[.int .i64 7, .int .i64 i] 33 (0, 0))) := ((Below.refl _ _).alloc (Nat.le_refl _) _).alloc (by simp) _
        have kF : ((w5.alloc (.cells #[.int .i64 0, .int .i64 0, .int .i64 0, .slice uP 0 up, .slice uB 0 ub, .slice uG 0 ug, .slice uL 0 ul] 31 (0, 0))).alloc (.cells #[.int .i64 7, .int .i64 i] 33 (0, 0))).heap[w5.heap.size + 1]? = some (.cells #[.int .i64 7, .int .i64 i] 33 (0, 0)) := by
          have := heap_new (w5.alloc (.cells #[.int .i64 0, .int .i64 0, .int .i64 0, .slice uP 0 up, .slice uB 0 ub, .slice uG 0 ug, .slice uL 0 ul] 31 (0, 0))) (.cells #[.int .i64 7, .int .i64 i] 33 (0, 0))
          simpa using this
        go_upto_region 6 with fail
        generalize ((w5.alloc (.cells #[.int .i64 0, .int .i64 0, .int .i64 0, .slice uP 0 up, .slice uB 0 ub, .slice uG 0 ug, .slice uL 0 ul] 31 (0, 0))).alloc (.cells #[.int .i64 7, .int .i64 i] 33 (0, 0))) = w6 at b6 kF ⊢
        have B6 := B5.trans (b6.mono B5.size)
        have kL6 := (b6.block _ (lt_of kL5)).trans kL5
        have s0 := cell_of kL6 0
        have s1 := cell_of kL6 1
        have s2 := cell_of kL6 2
        have s3 := cell_of kL6 3
        simp at s0 s1 s2 s3
        have p0 := cell_of kF 0
        have p1 := cell_of kF 1
        simp at p0 p1
        have yL := lt_of kL6
        have yF := lt_of kF
        clear kL5 b6 B5 kL6 kF
        go_upto_region 7 with fail
        refine wp_region_late (fun w' => Below w6.heap.size w6 w') (fun _ => false) (by kernel_rfl) ?_
        have hH0 : Below w6.heap.size w6 w6.drew := (Below.refl _ _).drew
        generalize w6.drew = wd0 at hH0 ⊢
        refine' wpAnyL_take (i := 0) (oi := ⟨some 29, _, _, _, _, _⟩) (v := _) rfl (by kernel_rfl) (by kernel_rfl) (by kernel_rfl) (by kernel_rfl) (fun _ _ _ h => h) hH0 (by rfl) ?hyv ?onw
        case hyv =>
          intro wz hSw
          have zc0 := (hSw.cell (p := ⟨w5.heap.size + 1, 0, none⟩) yF).trans p0
          have zc1 := (hSw.cell (p := ⟨w5.heap.size + 1, 1, none⟩) yF).trans p1
          have zc2 := (hSw.cell (p := ⟨w.heap.size, 0, none⟩) yL).trans s0
          have zc3 := (hSw.cell (p := ⟨w.heap.size, 1, none⟩) yL).trans s1
          have zc4 := (hSw.cell (p := ⟨w.heap.size, 2, none⟩) yL).trans s2
          have zc5 := (hSw.cell (p := ⟨w.heap.size, 3, none⟩) yL).trans s3
          go_simp
          try rfl
        case onw =>
          try simp only [Act.put, List.setIfInBounds_toArray, List.set_cons_zero, List.set_cons_succ]
          refine' wpAnyL_take (i := 1) (oi := ⟨some 30, _, _, _, _, _⟩) (v := _) rfl (by kernel_rfl) (by kernel_rfl) (by kernel_rfl) (by kernel_rfl) (fun _ _ _ h => h) hH0 (by rfl) ?hyv ?onw
          case hyv =>
            intro wz hSw
            have zc0 := (hSw.cell (p := ⟨w5.heap.size + 1, 0, none⟩) yF).trans p0
            have zc1 := (hSw.cell (p := ⟨w5.heap.size + 1, 1, none⟩) yF).trans p1
            have zc2 := (hSw.cell (p := ⟨w.heap.size, 0, none⟩) yL).trans s0
            have zc3 := (hSw.cell (p := ⟨w.heap.size, 1, none⟩) yL).trans s1
            have zc4 := (hSw.cell (p := ⟨w.heap.size, 2, none⟩) yL).trans s2
            have zc5 := (hSw.cell (p := ⟨w.heap.size, 3, none⟩) yL).trans s3
            go_simp
            try rfl
          case onw =>
            try simp only [Act.put, List.setIfInBounds_toArray, List.set_cons_zero, List.set_cons_succ]
            refine wpAnyL_one (i := 2) (o := _) rfl (by kernel_rfl) (by rfl) (fun K hK => ?_)
            go_simp
            refine (HFL.out wd0 (B6.trans (hH0.mono B6.size))).mono ?_
            rintro eq wd1 ⟨rfl, bq1⟩
            have hH1 : Below w6.heap.size w6 wd1 := hH0.trans (bq1.mono hH0.size)
            refine hK.out _ _ (fun _ => hH1) ?_
            clear hK K
            try simp only [Act.put, List.setIfInBounds_toArray, List.set_cons_zero, List.set_cons_succ]
            refine' wpAnyL_take (i := 3) (oi := ⟨some 32, _, _, _, _, _⟩) (v := _) rfl (by kernel_rfl) (by kernel_rfl) (by kernel_rfl) (by kernel_rfl) (fun _ _ _ h => h) hH1 (by rfl) ?hyv ?onw
            case hyv =>
              intro wz hSw
              go_simp
              try rfl
            case onw =>
              try simp only [Act.put, List.setIfInBounds_toArray, List.set_cons_zero, List.set_cons_succ]
              refine' wpAnyL_take (i := 4) (oi := ⟨some 33, _, _, _, _, _⟩) (v := _) rfl (by kernel_rfl) (by kernel_rfl) (by kernel_rfl) (by kernel_rfl) (fun _ _ _ h => h) hH1 (by rfl) ?hyv ?onw
              case hyv =>
                intro wz hSw
                go_simp
                try rfl
              case onw =>
                try simp only [Act.put, List.setIfInBounds_toArray, List.set_cons_zero, List.set_cons_succ]
                refine' wpAnyL_take (i := 5) (oi := ⟨some 34, _, _, _, _, _⟩) (v := _) rfl (by kernel_rfl) (by kernel_rfl) (by kernel_rfl) (by kernel_rfl) (fun _ _ _ h => h) hH1 (by rfl) ?hyv ?onw
                case hyv =>
                  intro wz hSw
                  go_simp
                  try rfl
                case onw =>
                  try simp only [Act.put, List.setIfInBounds_toArray, List.set_cons_zero, List.set_cons_succ]
                  refine' wpAnyL_take (i := 6) (oi := ⟨some 35, _, _, _, _, _⟩) (v := _) rfl (by kernel_rfl) (by kernel_rfl) (by kernel_rfl) (by kernel_rfl) (fun _ _ _ h => h) hH1 (by rfl) ?hyv ?onw
                  case hyv =>
                    intro wz hSw
                    have zc0 := (hSw.cell (p := ⟨w5.heap.size + 1, 0, none⟩) yF).trans p0
                    have zc1 := (hSw.cell (p := ⟨w5.heap.size + 1, 1, none⟩) yF).trans p1
                    have zc2 := (hSw.cell (p := ⟨w.heap.size, 0, none⟩) yL).trans s0
                    have zc3 := (hSw.cell (p := ⟨w.heap.size, 1, none⟩) yL).trans s1
                    have zc4 := (hSw.cell (p := ⟨w.heap.size, 2, none⟩) yL).trans s2
                    have zc5 := (hSw.cell (p := ⟨w.heap.size, 3, none⟩) yL).trans s3
                    go_simp
                    try rfl
                  case onw =>
                    try simp only [Act.put, List.setIfInBounds_toArray, List.set_cons_zero, List.set_cons_succ]
                    refine' wpAnyL_take (i := 7) (oi := ⟨some 36, _, _, _, _, _⟩) (v := _) rfl (by kernel_rfl) (by kernel_rfl) (by kernel_rfl) (by kernel_rfl) (fun _ _ _ h => h) hH1 (by rfl) ?hyv ?onw
                    case hyv =>
                      intro wz hSw
                      go_simp
                      try rfl
                    case onw =>
                      try simp only [Act.put, List.setIfInBounds_toArray, List.set_cons_zero, List.set_cons_succ]
                      refine' wpAnyL_take (i := 8) (oi := ⟨some 37, _, _, _, _, _⟩) (v := _) rfl (by kernel_rfl) (by kernel_rfl) (by kernel_rfl) (by kernel_rfl) (fun _ _ _ h => h) hH1 (by rfl) ?hyv ?onw
                      case hyv =>
                        intro wz hSw
                        go_simp
                        try rfl
                      case onw =>
                        try simp only [Act.put, List.setIfInBounds_toArray, List.set_cons_zero, List.set_cons_succ]
                        refine' wpAnyL_take (i := 9) (oi := ⟨some 4, _, _, _, _, _⟩) (v := _) rfl (by kernel_rfl) (by kernel_rfl) (by kernel_rfl) (by kernel_rfl) (fun _ _ _ h => h) hH1 (by rfl) ?hyv ?onw
                        case hyv =>
                          intro wz hSw
                          go_simp
                          try rfl
                        case onw =>
                          try simp only [Act.put, List.setIfInBounds_toArray, List.set_cons_zero, List.set_cons_succ]
                          refine wpAnyL_done (by kernel_rfl) ?_ _
                          go_wp2_with fail
                          go_ret
                          exact ⟨rfl, B6.trans (hH1.mono B6.size)⟩
      · obtain ⟨nc, nr, hnc, hnr, hrn⟩ := Em.rn_of hf hsW hs
        have hgd := Lo.good_of hf
        have hln := Lo.lens_of hf
        have himg := (Em.img_ok hf hs).2.2.2.2
        rw [hm] at ee him
        have him2 : HIm (fun j => j < w5.heap.size) w5 uP uB uG uL up ub ug ul (Em.img L [] C RR) := HIm.wide him (fun j _ hl => hl)
        have hck := fun W (b : Below w5.heap.size w5 W) => image9_any (him2.under b)
        rw [himg] at hck
        obtain ⟨np, hnp⟩ : ∃ x, x = L.P.length := ⟨_, rfl⟩
        obtain ⟨ng, hng⟩ : ∃ x, x = L.G.length := ⟨_, rfl⟩
        obtain ⟨ns, hns⟩ : ∃ x, x = L.S.length := ⟨_, rfl⟩
        obtain ⟨ln, hlnC⟩ : ∃ x, x = C.length := ⟨_, rfl⟩
        obtain ⟨ko, hko⟩ : ∃ x, x = Cd.cost 10 11 C := ⟨_, rfl⟩
        have ee2 : e = .returned (.tuple #[.agg #[.int .i64 (nc : Int), .int .i64 (nr : Int), .int .i64 ko, .slice uP np up, .slice uB 0 ub, .slice uG ng ug, .slice uL ln ul], .agg #[.int .i64 0, .int .i64 0]]) := by rw [ee, hnp, hng, hlnC, hko, ← hnc, ← hnr]; rfl
        have hck2 : ∀ W, Below w5.heap.size w5 W → Calls Tryd.prog 15 #[.agg #[.int .i64 (nc : Int), .int .i64 (nr : Int), .int .i64 ko, .slice uP np up, .slice uB 0 ub, .slice uG ng ug, .slice uL ln ul]] W fun e w' => e = .returned (.agg #[.int .i64 0, .int .i64 0]) ∧ Below W.heap.size W w' := fun W b => by
          rw [hnp, hng, hlnC, hko, ← hnc, ← hnr]
          exact hck W b
        have HCK := hide hck2
        have HIM := hide him2
        have HRN := hide hrn
        have HGD := hide hgd
        have HLENS := hide hln
        have HNC := hide hnc
        have hn6 : nc ≤ 6000 := by have := hgd.c; omega
        have HNP := hide hnp
        have HNG := hide hng
        have HNS := hide hns
        have HLN := hide hlnC
        rw [hnc, ← hnp, ← hng, ← hns] at kL5
        have n5 := lt_of kL5
        clear ee hm him him2 hck hck2 himg hf hs hrn hgd hln hnc hnr hnp hng hns hlnC hko hsW
        subst ee2
        have b6 : Below w5.heap.size w5 ((w5.alloc (.cells #[.int .i64 (nc : Int), .int .i64 (nr : Int), .int .i64 ko, .slice uP np up, .slice uB 0 ub, .slice uG ng ug, .slice uL ln ul] 31 (0, 0))).alloc (.cells #[.int .i64 0, .int .i64 0] 33 (0, 0))) := ((Below.refl _ _).alloc (Nat.le_refl _) _).alloc (by simp) _
        have kM : ((w5.alloc (.cells #[.int .i64 (nc : Int), .int .i64 (nr : Int), .int .i64 ko, .slice uP np up, .slice uB 0 ub, .slice uG ng ug, .slice uL ln ul] 31 (0, 0))).alloc (.cells #[.int .i64 0, .int .i64 0] 33 (0, 0))).heap[w5.heap.size]? = some (.cells #[.int .i64 (nc : Int), .int .i64 (nr : Int), .int .i64 ko, .slice uP np up, .slice uB 0 ub, .slice uG ng ug, .slice uL ln ul] 31 (0, 0)) := (Below.heap_alloc _ _ _ (by simp)).trans (heap_new w5 _)
        have kF : ((w5.alloc (.cells #[.int .i64 (nc : Int), .int .i64 (nr : Int), .int .i64 ko, .slice uP np up, .slice uB 0 ub, .slice uG ng ug, .slice uL ln ul] 31 (0, 0))).alloc (.cells #[.int .i64 0, .int .i64 0] 33 (0, 0))).heap[w5.heap.size + 1]? = some (.cells #[.int .i64 0, .int .i64 0] 33 (0, 0)) := by
          have := heap_new (w5.alloc (.cells #[.int .i64 (nc : Int), .int .i64 (nr : Int), .int .i64 ko, .slice uP np up, .slice uB 0 ub, .slice uG ng ug, .slice uL ln ul] 31 (0, 0))) (.cells #[.int .i64 0, .int .i64 0] 33 (0, 0))
          simpa using this
        go_upto_region 6 with fail
        generalize ((w5.alloc (.cells #[.int .i64 (nc : Int), .int .i64 (nr : Int), .int .i64 ko, .slice uP np up, .slice uB 0 ub, .slice uG ng ug, .slice uL ln ul] 31 (0, 0))).alloc (.cells #[.int .i64 0, .int .i64 0] 33 (0, 0))) = w6 at b6 kM kF ⊢
        have B6 := B5.trans (b6.mono B5.size)
        have kL6 := (b6.block _ (lt_of kL5)).trans kL5
        have HIM6 := hide (HIM.out.under b6)
        have z56 := b6.size
        have m0 := cell_of kM 0
        have m1 := cell_of kM 1
        have m2 := cell_of kM 2
        have m3 := cell_of kM 3
        have m4 := cell_of kM 4
        have m5 := cell_of kM 5
        have m6 := cell_of kM 6
        simp at m0 m1 m2 m3 m4 m5 m6
        have p0 := cell_of kF 0
        have p1 := cell_of kF 1
        simp at p0 p1
        clear HIM
        go_wp2_with fail
        refine (HCK.out _ b6).mono ?_
        rintro e w7 ⟨rfl, b7⟩
        have hfld : ∀ W, (Instr.field 33 (.agg #[.int .i64 0, .int .i64 0]) 0).run Tryd.prog W = .ok (.int .i64 0) W := fun W => by kernel_rfl
        have B7 := B6.trans (b7.mono B6.size)
        have kL7 := (b7.block _ (lt_of kL6)).trans kL6
        have kM7 := (b7.block _ (lt_of kM)).trans kM
        have HIM7 := hide (HIM6.out.under b7)
        have z67 := b7.size
        clear m0 m1 m2 m3 m4 m5 m6 p0 p1 kL5 kL6 kM kF b6 b7 B5 B6 HCK HIM6
        have m0 := cell_of kM7 0
        have m1 := cell_of kM7 1
        have m2 := cell_of kM7 2
        have m3 := cell_of kM7 3
        have m4 := cell_of kM7 4
        have m5 := cell_of kM7 5
        have m6 := cell_of kM7 6
        simp at m0 m1 m2 m3 m4 m5 m6
        have s0 := cell_of kL7 0
        have s1 := cell_of kL7 1
        have s2 := cell_of kL7 2
        have s3 := cell_of kL7 3
        simp at s0 s1 s2 s3
        have yL := lt_of kL7
        have yM := lt_of kM7
        have HB16 := hide (fun W => begin13_any (w := W) (nc := nc) (aP := aP) (aG := aG) (aS := aS) (nP := np) (nG := ng) (nS := ns) (cP := cP) (cG := cG) (cS := cS) hn6)
        have HB17 := hide (fun W => begin17_any (w := W) (nc := nc) (R := (nr : Int)) (ko := ko) (aP := uP) (aB := uB) (aG := uG) (aL := uL) (np := np) (nb := 0) (ng := ng) (nl := ln) (cP := up) (cB := ub) (cG := ug) (cL := ul) hn6)
        go_upto_region 10 with fail
        refine wp_region_late (fun w' => Below w7.heap.size w7 w') (fun _ => false) (by kernel_rfl) ?_
        have hH0 : Below w7.heap.size w7 w7.drew := (Below.refl _ _).drew
        generalize w7.drew = wd0 at hH0 ⊢
        refine' wpAnyL_take (i := 0) (oi := ⟨some 42, _, _, _, _, _⟩) (v := _) rfl (by kernel_rfl) (by kernel_rfl) (by kernel_rfl) (by kernel_rfl) (fun _ _ _ h => h) hH0 (by rfl) ?hyv ?onw
        case hyv =>
          intro wz hSw
          have zc0 := (hSw.cell (p := ⟨w.heap.size, 0, none⟩) yL).trans s0
          have zc1 := (hSw.cell (p := ⟨w.heap.size, 1, none⟩) yL).trans s1
          have zc2 := (hSw.cell (p := ⟨w.heap.size, 2, none⟩) yL).trans s2
          have zc3 := (hSw.cell (p := ⟨w.heap.size, 3, none⟩) yL).trans s3
          have zc4 := (hSw.cell (p := ⟨w5.heap.size, 0, none⟩) yM).trans m0
          have zc5 := (hSw.cell (p := ⟨w5.heap.size, 1, none⟩) yM).trans m1
          have zc6 := (hSw.cell (p := ⟨w5.heap.size, 2, none⟩) yM).trans m2
          have zc7 := (hSw.cell (p := ⟨w5.heap.size, 3, none⟩) yM).trans m3
          have zc8 := (hSw.cell (p := ⟨w5.heap.size, 4, none⟩) yM).trans m4
          have zc9 := (hSw.cell (p := ⟨w5.heap.size, 5, none⟩) yM).trans m5
          have zc10 := (hSw.cell (p := ⟨w5.heap.size, 6, none⟩) yM).trans m6
          go_simp
          try rfl
        case onw =>
          try simp only [Act.put, List.setIfInBounds_toArray, List.set_cons_zero, List.set_cons_succ]
          refine' wpAnyL_take (i := 2) (oi := ⟨some 44, _, _, _, _, _⟩) (v := _) rfl (by kernel_rfl) (by kernel_rfl) (by kernel_rfl) (by kernel_rfl) (fun _ _ _ h => h) hH0 (by rfl) ?hyv ?onw
          case hyv =>
            intro wz hSw
            have zc0 := (hSw.cell (p := ⟨w.heap.size, 0, none⟩) yL).trans s0
            have zc1 := (hSw.cell (p := ⟨w.heap.size, 1, none⟩) yL).trans s1
            have zc2 := (hSw.cell (p := ⟨w.heap.size, 2, none⟩) yL).trans s2
            have zc3 := (hSw.cell (p := ⟨w.heap.size, 3, none⟩) yL).trans s3
            have zc4 := (hSw.cell (p := ⟨w5.heap.size, 0, none⟩) yM).trans m0
            have zc5 := (hSw.cell (p := ⟨w5.heap.size, 1, none⟩) yM).trans m1
            have zc6 := (hSw.cell (p := ⟨w5.heap.size, 2, none⟩) yM).trans m2
            have zc7 := (hSw.cell (p := ⟨w5.heap.size, 3, none⟩) yM).trans m3
            have zc8 := (hSw.cell (p := ⟨w5.heap.size, 4, none⟩) yM).trans m4
            have zc9 := (hSw.cell (p := ⟨w5.heap.size, 5, none⟩) yM).trans m5
            have zc10 := (hSw.cell (p := ⟨w5.heap.size, 6, none⟩) yM).trans m6
            go_simp
            try rfl
          case onw =>
            try simp only [Act.put, List.setIfInBounds_toArray, List.set_cons_zero, List.set_cons_succ]
            refine wpAnyL_one (i := 1) (o := _) rfl (by kernel_rfl) (by rfl) (fun K hK => ?_)
            go_simp
            refine (HB16.out wd0).mono ?_
            rintro eq wd1 ⟨mb, cb, rfl, km, lm, zc1, zc2, bq1⟩
            have hH1 : Below w7.heap.size w7 wd1 := hH0.trans (bq1.mono hH0.size)
            have zz0 := hH0.size
            refine hK.out _ _ (fun _ => hH1) ?_
            clear hK K
            try simp only [Act.put, List.setIfInBounds_toArray, List.set_cons_zero, List.set_cons_succ]
            refine wpAnyL_one (i := 3) (o := _) rfl (by kernel_rfl) (by rfl) (fun K hK => ?_)
            go_simp
            refine (HB17.out wd1).mono ?_
            rintro eq wd2 ⟨gb, cb2, rfl, kg, lg, zc3, zc4, bq2⟩
            have hH2 : Below w7.heap.size w7 wd2 := hH1.trans (bq2.mono hH1.size)
            have zz1 := hH1.size
            have hmb0 := lt_of km
            have km := (bq2.block _ (lt_of km)).trans km
            have lm := lm.under bq2
            refine hK.out _ _ (fun _ => hH2) ?_
            clear hK K
            try simp only [Act.put, List.setIfInBounds_toArray, List.set_cons_zero, List.set_cons_succ]
            refine' wpAnyL_take (i := 4) (oi := ⟨some 7, _, _, _, _, _⟩) (v := _) rfl (by kernel_rfl) (by kernel_rfl) (by kernel_rfl) (by kernel_rfl) (fun _ _ _ h => h) hH2 (by rfl) ?hyv ?onw
            case hyv =>
              intro wz hSw
              go_simp
              try rfl
            case onw =>
              try simp only [Act.put, List.setIfInBounds_toArray, List.set_cons_zero, List.set_cons_succ]
              refine' wpAnyL_take (i := 5) (oi := ⟨some 8, _, _, _, _, _⟩) (v := _) rfl (by kernel_rfl) (by kernel_rfl) (by kernel_rfl) (by kernel_rfl) (fun _ _ _ h => h) hH2 (by rfl) ?hyv ?onw
              case hyv =>
                intro wz hSw
                go_simp
                try rfl
              case onw =>
                try simp only [Act.put, List.setIfInBounds_toArray, List.set_cons_zero, List.set_cons_succ]
                refine wpAnyL_done (by kernel_rfl) ?_ _
                have B8 := B7.trans (hH2.mono B7.size)
                have kL8 := (hH2.block _ yL).trans kL7
                have HIM8 := hide (HIM7.out.under hH2)
                have z78 := hH2.size
                clear s0 s1 s2 s3 m0 m1 m2 m3 m4 m5 m6 kM7 HB16 HB17 HIM7
                obtain ⟨w8, hw8⟩ : ∃ x, x = wd2 := ⟨_, rfl⟩
                subst hw8
                have hmb := lt_of km
                have hgb := lt_of kg
                have hcb := lm.lt
                have hcb2 := lg.lt
                have n1 : mb ≠ cb := by omega
                have n2 : gb ≠ cb2 := by omega
                have n3 : cb ≠ cb2 ∧ cb ≠ gb ∧ mb ≠ cb2 ∧ mb ≠ gb := by omega
                have n4 : w5.heap.size ≤ cb ∧ w5.heap.size ≤ cb2 ∧ w5.heap.size ≤ gb := by omega
                have HRA := hide (fun W (a : Aside [cb, cb2, gb] w8.heap.size w8 W) => (by
                  have hp : HLp (fun j => j < w.heap.size) w8 aP aG aS cP cG cS L := HL.out.under B8
                  refine ⟨⟨?_, n1⟩, HNC.out.symm, (hp.keep a.size (fun j hj hl => a.block j hl (by simp; omega))).wide (fun j h _ => by omega)⟩
                  have := (a.block mb hmb (by simp; omega)).trans km
                  rw [HNC.out, ← HNP.out, ← HNG.out, ← HNS.out]
                  exact this : RMach W mb cb nc aP aG aS cP cG cS L))
                have HIA := hide (fun W (a : Aside [cb, cb2, gb] w8.heap.size w8 W) => HIM8.out.keep a.size (fun j hj hl => a.block j hl (by simp; omega)))
                have HRR := hide (fun W (a : Aside [cb, cb2, gb] w8.heap.size w8 W) => (HRow.keep (HRow.under' HR.out B8) a.size (fun j hj hl => a.block j hl (by simp; omega)) : HRow kLL (fun i => i < w.heap.size) W (.slice aR R.length cR) R))
                have HKL := hide (fun W (a : Aside [cb, cb2, gb] w8.heap.size w8 W) => (a.block w.heap.size (lt_of kL8) (by simp; omega)).trans kL8)
                have HKM := hide (fun W (a : Aside [cb, cb2, gb] w8.heap.size w8 W) => (a.block mb hmb (by simp; omega)).trans km)
                have HLI := hide (And.intro lm (And.intro lg (And.intro (List.length_replicate (n := nc) (a := (0 : Int))) (And.intro (show Lo.Wd (List.replicate nc (0 : Int)) from fun x hx => by rw [List.mem_replicate] at hx; rw [hx.2]; unfold I64; omega) (show ∃ st, GAt w8 gb cb2 nc nc (.int .i64 (nc : Int)) (.int .i64 (nr : Int)) (.int .i64 ko) (.slice uP np up) (.slice uB 0 ub) (.slice uG ng ug) (.slice uL ln ul) st from ⟨_, kg⟩)))))
                have BE : ∀ W, Aside [cb, cb2, gb] w8.heap.size w8 W → Below w.heap.size w W := fun W a => B8.trans ⟨a.os, a.tape, a.output, a.size, fun k hk => a.block k (Nat.lt_of_lt_of_le hk B8.size) (by simp; omega)⟩
                have HBE := hide BE
                obtain ⟨nR, hnR⟩ : ∃ x, x = R.length := ⟨_, rfl⟩
                rw [← hnR] at h60 ⊢
                have HNR := hide hnR
                clear kL7 kL8 km kg lm lg HIM8 hH2 BE hnR B7 z56 z67 z78 HK HL HR
                go_wp2_with fail
                go_loopg [9] nR (fun kz v9 wr => ∃ (i : Nat) (M : List Int), i ≤ nR ∧ kz = nR - i ∧ v9 = .int .i64 (i : Nat) ∧ Hid (LB wr cb M ∧ LB wr cb2 M ∧ M.length = nc ∧ Lo.Wd M ∧ ∃ st, GAt wr gb cb2 nc nc (.int .i64 (nc : Int)) (.int .i64 (nr : Int)) (.int .i64 ko) (.slice uP np up) (.slice uB 0 ub) (.slice uG ng ug) (.slice uL ln ul) st) ∧ Aside [cb, cb2, gb] w8.heap.size w8 wr)
                case atStart => exact ⟨0, _, Nat.zero_le _, rfl, rfl, HLI, Aside.refl _⟩
                case round =>
                  clear HLI
                  obtain ⟨i, M, hi, rfl, rfl, HS, ab⟩ := hrel
                  by_cases hlt : i < nR
                  case neg =>
                    go_wp2
                    go_ret
                    exact ⟨rfl, HBE.out _ ab⟩
                  case pos =>
                    have hiR : i < R.length := by have := HNR.out; omega
                    have hw := (HRL.out _ (List.getElem_mem hiR))
                    have hww := HRw.out _ (List.getElem_mem hiR)
                    obtain ⟨aU, cU, eU, -, -, hatU⟩ := (HRR.out wr ab).llAt2
                    injection eU with q1 q2 q3
                    obtain ⟨bU, oU, u, eaU, yU, hbU, e0, hIu⟩ := hatU i hiR
                    rw [eaU] at q1
                    generalize R[i] = inp at hw hww hIu
                    have hIu2 := hIu
                    obtain ⟨ar, cr, rfl, -, -, -⟩ := hIu2.at
                    have kLr := HKL.out wr ab
                    have s0 := cell_of kLr 0
                    have s1 := cell_of kLr 1
                    have s2 := cell_of kLr 2
                    have s3 := cell_of kLr 3
                    simp at s0 s1 s2 s3
                    have yL := lt_of kLr
                    have hin : (i : Int) < (nR : Int) := by omega
                    obtain ⟨lr, hlr⟩ : ∃ x, x = inp.length := ⟨_, rfl⟩
                    rw [← hlr] at e0
                    have HLR := hide hlr
                    clear hlr
                    subst q1
                    clear hatU q2 q3 eaU hIu2
                    go_upto_region 14 with fail
                    by_cases hnl : lr = np
                    case neg =>
                      have hnb : ((lr : Int) != (np : Int)) = true := by simpa using (fun h : (lr : Int) = (np : Int) => hnl (by omega))
                      refine wp_region_late (fun w' => Below wr.heap.size wr w') (fun _ => false) (by kernel_rfl) ?_
                      have hH0 : Below wr.heap.size wr wr.drew := (Below.refl _ _).drew
                      generalize wr.drew = wd0 at hH0 ⊢
                      refine' wpAnyL_take (i := 0) (oi := ⟨some 52, _, _, _, _, _⟩) (v := _) rfl (by kernel_rfl) (by kernel_rfl) (by kernel_rfl) (by kernel_rfl) (fun _ _ _ h => h) hH0 (by rfl) ?hyv ?onw
                      case hyv =>
                        intro wz hSw
                        go_simp
                        try rfl
                      case onw =>
                        try simp only [Act.put, List.setIfInBounds_toArray, List.set_cons_zero, List.set_cons_succ]
                        refine' wpAnyL_take (i := 1) (oi := ⟨some 53, _, _, _, _, _⟩) (v := _) rfl (by kernel_rfl) (by kernel_rfl) (by kernel_rfl) (by kernel_rfl) (fun _ _ _ h => h) hH0 (by rfl) ?hyv ?onw
                        case hyv =>
                          intro wz hSw
                          go_simp
                          try rfl
                        case onw =>
                          try simp only [Act.put, List.setIfInBounds_toArray, List.set_cons_zero, List.set_cons_succ]
                          refine' wpAnyL_take (i := 2) (oi := ⟨some 54, _, _, _, _, _⟩) (v := _) rfl (by kernel_rfl) (by kernel_rfl) (by kernel_rfl) (by kernel_rfl) (fun _ _ _ h => h) hH0 (by rfl) ?hyv ?onw
                          case hyv =>
                            intro wz hSw
                            go_simp
                            try rfl
                          case onw =>
                            try simp only [Act.put, List.setIfInBounds_toArray, List.set_cons_zero, List.set_cons_succ]
                            refine' wpAnyL_take (i := 3) (oi := ⟨some 55, _, _, _, _, _⟩) (v := _) rfl (by kernel_rfl) (by kernel_rfl) (by kernel_rfl) (by kernel_rfl) (fun _ _ _ h => h) hH0 (by rfl) ?hyv ?onw
                            case hyv =>
                              intro wz hSw
                              have zc0 := (hSw.cell (p := ⟨bU, oU + i, none⟩) yU).trans e0
                              have zc1 := (hSw.cell (p := ⟨w.heap.size, 0, none⟩) yL).trans s0
                              have zc2 := (hSw.cell (p := ⟨w.heap.size, 1, none⟩) yL).trans s1
                              have zc3 := (hSw.cell (p := ⟨w.heap.size, 2, none⟩) yL).trans s2
                              have zc4 := (hSw.cell (p := ⟨w.heap.size, 3, none⟩) yL).trans s3
                              go_simp
                              try rfl
                            case onw =>
                              try simp only [Act.put, List.setIfInBounds_toArray, List.set_cons_zero, List.set_cons_succ]
                              refine' wpAnyL_take (i := 4) (oi := ⟨some 56, _, _, _, _, _⟩) (v := _) rfl (by kernel_rfl) (by kernel_rfl) (by kernel_rfl) (by kernel_rfl) (fun _ _ _ h => h) hH0 (by rfl) ?hyv ?onw
                              case hyv =>
                                intro wz hSw
                                go_simp
                                try rfl
                              case onw =>
                                try simp only [Act.put, List.setIfInBounds_toArray, List.set_cons_zero, List.set_cons_succ]
                                refine' wpAnyL_take (i := 5) (oi := ⟨some 57, _, _, _, _, _⟩) (v := _) rfl (by kernel_rfl) (by kernel_rfl) (by kernel_rfl) (by kernel_rfl) (fun _ _ _ h => h) hH0 (by rfl) ?hyv ?onw
                                case hyv =>
                                  intro wz hSw
                                  go_simp
                                  try rfl
                                case onw =>
                                  try simp only [Act.put, List.setIfInBounds_toArray, List.set_cons_zero, List.set_cons_succ]
                                  refine' wpAnyL_take (i := 6) (oi := ⟨some 58, _, _, _, _, _⟩) (v := _) rfl (by kernel_rfl) (by kernel_rfl) (by kernel_rfl) (by kernel_rfl) (fun _ _ _ h => h) hH0 (by rfl) ?hyv ?onw
                                  case hyv =>
                                    intro wz hSw
                                    have zc0 := (hSw.cell (p := ⟨bU, oU + i, none⟩) yU).trans e0
                                    have zc1 := (hSw.cell (p := ⟨w.heap.size, 0, none⟩) yL).trans s0
                                    have zc2 := (hSw.cell (p := ⟨w.heap.size, 1, none⟩) yL).trans s1
                                    have zc3 := (hSw.cell (p := ⟨w.heap.size, 2, none⟩) yL).trans s2
                                    have zc4 := (hSw.cell (p := ⟨w.heap.size, 3, none⟩) yL).trans s3
                                    go_simp
                                    try rfl
                                  case onw =>
                                    try simp only [Act.put, List.setIfInBounds_toArray, List.set_cons_zero, List.set_cons_succ]
                                    refine' wpAnyL_take (i := 7) (oi := ⟨some 59, _, _, _, _, _⟩) (v := _) rfl (by kernel_rfl) (by kernel_rfl) (by kernel_rfl) (by kernel_rfl) (fun _ _ _ h => h) hH0 (by rfl) ?hyv ?onw
                                    case hyv =>
                                      intro wz hSw
                                      go_simp
                                      try rfl
                                    case onw =>
                                      try simp only [Act.put, List.setIfInBounds_toArray, List.set_cons_zero, List.set_cons_succ]
                                      refine' wpAnyL_take (i := 8) (oi := ⟨some 60, _, _, _, _, _⟩) (v := _) rfl (by kernel_rfl) (by kernel_rfl) (by kernel_rfl) (by kernel_rfl) (fun _ _ _ h => h) hH0 (by rfl) ?hyv ?onw
                                      case hyv =>
                                        intro wz hSw
                                        go_simp
                                        try rfl
                                      case onw =>
                                        try simp only [Act.put, List.setIfInBounds_toArray, List.set_cons_zero, List.set_cons_succ]
                                        refine wpAnyL_done (by kernel_rfl) ?_ _
                                        go_wp2_with fail
                                        go_roundg (nR - (i + 1))
                                        case measure => omega
                                        case rel => exact ⟨i + 1, M, by omega, rfl, by go_num, hide (by
                                          obtain ⟨x1, x2, x3, x4, st, x5⟩ := HS.out
                                          exact ⟨x1.under hH0, x2.under hH0, x3, x4, st, x5.keep (hH0.block _ (lt_of x5))⟩), ab.trans (aside hH0) ab.size⟩
                    case pos =>
                      subst hnl
                      have hnb : ((lr : Int) != (lr : Int)) = false := by simp
                      refine wp_region_late (fun w' => Below wr.heap.size wr w') (fun _ => false) (by kernel_rfl) ?_
                      have hH0 : Below wr.heap.size wr wr.drew := (Below.refl _ _).drew
                      generalize wr.drew = wd0 at hH0 ⊢
                      refine' wpAnyL_take (i := 0) (oi := ⟨some 52, _, _, _, _, _⟩) (v := _) rfl (by kernel_rfl) (by kernel_rfl) (by kernel_rfl) (by kernel_rfl) (fun _ _ _ h => h) hH0 (by rfl) ?hyv ?onw
                      case hyv =>
                        intro wz hSw
                        go_simp
                        try rfl
                      case onw =>
                        try simp only [Act.put, List.setIfInBounds_toArray, List.set_cons_zero, List.set_cons_succ]
                        refine' wpAnyL_take (i := 1) (oi := ⟨some 53, _, _, _, _, _⟩) (v := _) rfl (by kernel_rfl) (by kernel_rfl) (by kernel_rfl) (by kernel_rfl) (fun _ _ _ h => h) hH0 (by rfl) ?hyv ?onw
                        case hyv =>
                          intro wz hSw
                          go_simp
                          try rfl
                        case onw =>
                          try simp only [Act.put, List.setIfInBounds_toArray, List.set_cons_zero, List.set_cons_succ]
                          refine' wpAnyL_take (i := 2) (oi := ⟨some 54, _, _, _, _, _⟩) (v := _) rfl (by kernel_rfl) (by kernel_rfl) (by kernel_rfl) (by kernel_rfl) (fun _ _ _ h => h) hH0 (by rfl) ?hyv ?onw
                          case hyv =>
                            intro wz hSw
                            go_simp
                            try rfl
                          case onw =>
                            try simp only [Act.put, List.setIfInBounds_toArray, List.set_cons_zero, List.set_cons_succ]
                            refine' wpAnyL_take (i := 3) (oi := ⟨some 55, _, _, _, _, _⟩) (v := _) rfl (by kernel_rfl) (by kernel_rfl) (by kernel_rfl) (by kernel_rfl) (fun _ _ _ h => h) hH0 (by rfl) ?hyv ?onw
                            case hyv =>
                              intro wz hSw
                              have zc0 := (hSw.cell (p := ⟨bU, oU + i, none⟩) yU).trans e0
                              have zc1 := (hSw.cell (p := ⟨w.heap.size, 0, none⟩) yL).trans s0
                              have zc2 := (hSw.cell (p := ⟨w.heap.size, 1, none⟩) yL).trans s1
                              have zc3 := (hSw.cell (p := ⟨w.heap.size, 2, none⟩) yL).trans s2
                              have zc4 := (hSw.cell (p := ⟨w.heap.size, 3, none⟩) yL).trans s3
                              go_simp
                              try rfl
                            case onw =>
                              try simp only [Act.put, List.setIfInBounds_toArray, List.set_cons_zero, List.set_cons_succ]
                              refine' wpAnyL_take (i := 4) (oi := ⟨some 56, _, _, _, _, _⟩) (v := _) rfl (by kernel_rfl) (by kernel_rfl) (by kernel_rfl) (by kernel_rfl) (fun _ _ _ h => h) hH0 (by rfl) ?hyv ?onw
                              case hyv =>
                                intro wz hSw
                                go_simp
                                try rfl
                              case onw =>
                                try simp only [Act.put, List.setIfInBounds_toArray, List.set_cons_zero, List.set_cons_succ]
                                refine' wpAnyL_take (i := 5) (oi := ⟨some 57, _, _, _, _, _⟩) (v := _) rfl (by kernel_rfl) (by kernel_rfl) (by kernel_rfl) (by kernel_rfl) (fun _ _ _ h => h) hH0 (by rfl) ?hyv ?onw
                                case hyv =>
                                  intro wz hSw
                                  go_simp
                                  try rfl
                                case onw =>
                                  try simp only [Act.put, List.setIfInBounds_toArray, List.set_cons_zero, List.set_cons_succ]
                                  refine' wpAnyL_take (i := 6) (oi := ⟨some 58, _, _, _, _, _⟩) (v := _) rfl (by kernel_rfl) (by kernel_rfl) (by kernel_rfl) (by kernel_rfl) (fun _ _ _ h => h) hH0 (by rfl) ?hyv ?onw
                                  case hyv =>
                                    intro wz hSw
                                    have zc0 := (hSw.cell (p := ⟨bU, oU + i, none⟩) yU).trans e0
                                    have zc1 := (hSw.cell (p := ⟨w.heap.size, 0, none⟩) yL).trans s0
                                    have zc2 := (hSw.cell (p := ⟨w.heap.size, 1, none⟩) yL).trans s1
                                    have zc3 := (hSw.cell (p := ⟨w.heap.size, 2, none⟩) yL).trans s2
                                    have zc4 := (hSw.cell (p := ⟨w.heap.size, 3, none⟩) yL).trans s3
                                    go_simp
                                    try rfl
                                  case onw =>
                                    try simp only [Act.put, List.setIfInBounds_toArray, List.set_cons_zero, List.set_cons_succ]
                                    refine' wpAnyL_take (i := 7) (oi := ⟨some 59, _, _, _, _, _⟩) (v := _) rfl (by kernel_rfl) (by kernel_rfl) (by kernel_rfl) (by kernel_rfl) (fun _ _ _ h => h) hH0 (by rfl) ?hyv ?onw
                                    case hyv =>
                                      intro wz hSw
                                      go_simp
                                      try rfl
                                    case onw =>
                                      try simp only [Act.put, List.setIfInBounds_toArray, List.set_cons_zero, List.set_cons_succ]
                                      refine' wpAnyL_take (i := 8) (oi := ⟨some 60, _, _, _, _, _⟩) (v := _) rfl (by kernel_rfl) (by kernel_rfl) (by kernel_rfl) (by kernel_rfl) (fun _ _ _ h => h) hH0 (by rfl) ?hyv ?onw
                                      case hyv =>
                                        intro wz hSw
                                        go_simp
                                        try rfl
                                      case onw =>
                                        try simp only [Act.put, List.setIfInBounds_toArray, List.set_cons_zero, List.set_cons_succ]
                                        refine wpAnyL_done (by kernel_rfl) ?_ _
                                        obtain ⟨x1, x2, x3, x4, st, x5⟩ := HS.out
                                        have y1 := x1.under hH0
                                        have y2 := x2.under hH0
                                        have y5 := x5.keep (hH0.block _ (lt_of x5))
                                        have ab2 := ab.trans (aside (S := [cb, cb2, gb]) hH0) ab.size
                                        have hI2 := hIu.under hH0
                                        have e02 := (hH0.cell (p := ⟨bU, oU + i, none⟩) yU).trans e0
                                        have yU2 := Nat.lt_of_lt_of_le yU hH0.size
                                        rw [← HLR.out, HNP.out] at hI2
                                        have h18 := row15_any (HRA.out _ ab2) y1 (by rw [x3]; exact HNC.out.symm) HGD.out HLENS.out hI2 (fun j hj => by omega) (by rw [← HLR.out, HNP.out]) x4 hww
                                        rw [← HNP.out] at h18 hI2
                                        have H18 := hide h18
                                        have HI2 := hide hI2
                                        clear h18 hI2 x1 x2 x5 hIu s0 s1 s2 s3 e0 kLr yL yU HS ab hH0
                                        obtain ⟨w9, hw9⟩ : ∃ x, x = wd0 := ⟨_, rfl⟩
                                        subst hw9
                                        go_wp2_with fail
                                        refine H18.out.mono ?_
                                        intro e w10 hp
                                        obtain ⟨v, ee, m1, o1, a1⟩ := hp.out
                                        obtain ⟨ax, cx, rfl, -, -⟩ := o1.form
                                        obtain ⟨Y, hY⟩ : ∃ Y, Y = Lo.row L M inp := ⟨_, rfl⟩
                                        rw [← hY] at m1 o1 ee
                                        obtain ⟨T, hT⟩ : ∃ T, T = Lo.told L Y := ⟨_, rfl⟩
                                        rw [← hT] at o1 ee
                                        obtain ⟨tl, htl⟩ : ∃ tl, tl = T.length := ⟨_, rfl⟩
                                        rw [← htl] at ee
                                        have o1b : OwnL kLong w9.heap.size w10 (.slice ax tl cx) T := by rw [htl]; exact o1
                                        have y2b := y2.keep (a1.block _ y2.lt (by simp; omega))
                                        have y5b := y5.keep (a1.block _ (lt_of y5) (by simp; omega))
                                        have ab3 := ab2.trans (a1.wide (S' := [cb, cb2, gb]) (fun _ _ h => by simp at h ⊢; exact h.1)) ab2.size
                                        have hI3 := HI2.out.pastS a1 (fun j hj => by simp; omega)
                                        have e03 := (aside_cell a1 (p := ⟨bU, oU + i, none⟩) yU2 (by simp; omega)).trans e02
                                        have yU3 := Nat.lt_of_lt_of_le yU2 a1.size
                                        obtain ⟨s', hs1, hs2⟩ := HRN.out.run (Lo.putL M L.P inp)
                                        have hs3 : s'.M = Y := by rw [hs2, hY]; rfl
                                        have hm3 := HIA.out _ ab3
                                        have hg3 : GAt w10 gb cb2 nc nc (.int .i64 (nc : Int)) (.int .i64 (nr : Int)) (.int .i64 ko) (.slice uP L.P.length up) (.slice uB 0 ub) (.slice uG L.G.length ug) (.slice uL C.length ul) st := by
                                          rw [← HNP.out, ← HNG.out, ← HLN.out]
                                          exact y5b
                                        have h19 := row19_any (okL := fun j => j < w5.heap.size) hg3 y2b hm3.P hm3.G hm3.L (by have h := hI3.wide (ok' := fun j => j < w5.heap.size) (fun j hj _ => by omega); rw [HNP.out] at h; exact h) (fun j hj => by omega) x3 hn6 n2 HRN.out.nr (fun x hx => ⟨(HRN.out.ok x hx).1, (HRN.out.ok x hx).2⟩) HRN.out.go (by rw [← HLR.out, HNP.out]) hs1 x4 hww HRN.out.len (fun p hp => by rw [← HNC.out]; exact HGD.out.P p hp) (fun p hp => by rw [← HNC.out]; exact HGD.out.G p hp) HLENS.out.1 HLENS.out.2.1
                                        rw [hs3, ← HNP.out, ← HNG.out, ← HLN.out] at h19
                                        have HTT := hide (show (L.G.map fun g => Lo.rd Y g) = T by rw [hT]; rfl)
                                        have H19 := hide h19
                                        have HTL := hide htl
                                        clear h19 hg3 hm3 hs1 hs2 hs3 y5b y2 y5 e02 yU2 H18 HI2 o1 hY hT htl hI3
                                        subst ee
                                        go_wp2_with fail
                                        refine H19.out.mono ?_
                                        intro e w11 hp
                                        obtain ⟨v2, ee, o2⟩ := hp.out
                                        obtain ⟨st2, g11⟩ := hp.g
                                        have m11 := hp.m
                                        have l11 := hp.l
                                        have wd11 := hp.wd
                                        have a11 := hp.a
                                        rw [HTT.out] at o2
                                        obtain ⟨ay, cy, rfl, -, -⟩ := o2.form
                                        rw [← HTL.out] at o2 ee
                                        have m1b := m1.keep (a11.block _ m1.lt (by simp; omega))
                                        have ab4 := ab3.trans (a11.wide (S' := [cb, cb2, gb]) (fun _ _ h => by simp at h ⊢; omega)) ab3.size
                                        have o1c := HInts.pastS (longs_row o1b.row) a11 (fun j hj => by have h : w9.heap.size ≤ j := hj; have z9 := ab2.size; simp; omega)
                                        clear hp y2b m1 ab3 o1b e03 yU3 H19 HTT HTL
                                        subst ee
                                        have b12 : Below w11.heap.size w11 (w11.alloc (.cells #[.int .i64 0, .int .i64 0] 33 (0, 0))) := (Below.refl _ _).alloc (Nat.le_refl _) _
                                        have k12 := heap_new w11 (.cells #[.int .i64 0, .int .i64 0] 33 (0, 0))
                                        go_upto_region 17 with fail
                                        generalize w11.alloc (.cells #[.int .i64 0, .int .i64 0] 33 (0, 0)) = w12 at b12 k12 ⊢
                                        have ab5 := ab4.trans (aside (S := [cb, cb2, gb]) b12) ab4.size
                                        have c1 := m1b.under b12
                                        have c2 := m11.under b12
                                        have g12 := g11.keep (b12.block _ (lt_of g11))
                                        have kg12 : w12.heap[gb]? = some (.cells #[.int .i64 (nc : Int), .int .i64 (nr : Int), .int .i64 ko, .slice uP lr up, .slice uB 0 ub, .slice uG ng ug, .slice uL ln ul, .slice (some ⟨cb2, 0, none⟩) nc nc, .int .i64 st2] 56 (0, 0)) := g12
                                        have km12 := HKM.out _ ab5
                                        have d0 := cell_of k12 0
                                        have d1 := cell_of k12 1
                                        have q4 := cell_of km12 4
                                        have g7 := cell_of kg12 7
                                        simp at d0 d1 q4 g7
                                        have yd := lt_of k12
                                        have yq := lt_of km12
                                        have yg := lt_of kg12
                                        have HSL1 := hide (fun W (b : Below w12.heap.size w12 W) => sameLongs_same ((o1c.under b12).under b) (HInts.under (HInts.under (longs_row o2.row) b12) b))
                                        have hY6 : Y.length ≤ maxLen := by rw [l11]; unfold maxLen; omega
                                        have HSL2 := hide (fun W (b : Below w12.heap.size w12 W) => (by
                                          have h := sameLongs_same ((c1.under b).ints (ok := fun _ => True) hY6 trivial) ((c2.under b).ints (ok := fun _ => True) hY6 trivial)
                                          rw [l11] at h
                                          exact h : Calls Tryd.prog 20 #[.slice (some ⟨cb, 0, none⟩) nc nc, .slice (some ⟨cb2, 0, none⟩) nc nc] W fun e w' => e = .returned (.bool true) ∧ Below W.heap.size W w'))
                                        have HSN := hide (And.intro c1 (And.intro c2 (And.intro l11 (And.intro wd11 g12))))
                                        clear m1b m11 g11 kg12 km12 k12 o1c o2 c1 c2 l11 wd11 g12 hY6 ab4 b12 a11 a1
                                        refine wp_region_late (fun w' => Below w12.heap.size w12 w') (fun _ => false) (by kernel_rfl) ?_
                                        have hH0 : Below w12.heap.size w12 w12.drew := (Below.refl _ _).drew
                                        generalize w12.drew = wd0 at hH0 ⊢
                                        refine' wpAnyL_take (i := 0) (oi := ⟨some 76, _, _, _, _, _⟩) (v := _) rfl (by kernel_rfl) (by kernel_rfl) (by kernel_rfl) (by kernel_rfl) (fun _ _ _ h => h) hH0 (by rfl) ?hyv ?onw
                                        case hyv =>
                                          intro wz hSw
                                          go_simp
                                          try rfl
                                        case onw =>
                                          try simp only [Act.put, List.setIfInBounds_toArray, List.set_cons_zero, List.set_cons_succ]
                                          refine' wpAnyL_take (i := 1) (oi := ⟨some 77, _, _, _, _, _⟩) (v := _) rfl (by kernel_rfl) (by kernel_rfl) (by kernel_rfl) (by kernel_rfl) (fun _ _ _ h => h) hH0 (by rfl) ?hyv ?onw
                                          case hyv =>
                                            intro wz hSw
                                            have zc0 := (hSw.cell (p := ⟨w11.heap.size, 0, none⟩) yd).trans d0
                                            have zc1 := (hSw.cell (p := ⟨w11.heap.size, 1, none⟩) yd).trans d1
                                            have zc2 := (hSw.cell (p := ⟨mb, 4, none⟩) yq).trans q4
                                            have zc3 := (hSw.cell (p := ⟨gb, 7, none⟩) yg).trans g7
                                            go_simp
                                            try rfl
                                          case onw =>
                                            try simp only [Act.put, List.setIfInBounds_toArray, List.set_cons_zero, List.set_cons_succ]
                                            refine' wpAnyL_take (i := 2) (oi := ⟨some 78, _, _, _, _, _⟩) (v := _) rfl (by kernel_rfl) (by kernel_rfl) (by kernel_rfl) (by kernel_rfl) (fun _ _ _ h => h) hH0 (by rfl) ?hyv ?onw
                                            case hyv =>
                                              intro wz hSw
                                              go_simp
                                              try rfl
                                            case onw =>
                                              try simp only [Act.put, List.setIfInBounds_toArray, List.set_cons_zero, List.set_cons_succ]
                                              refine' wpAnyL_take (i := 3) (oi := ⟨some 79, _, _, _, _, _⟩) (v := _) rfl (by kernel_rfl) (by kernel_rfl) (by kernel_rfl) (by kernel_rfl) (fun _ _ _ h => h) hH0 (by rfl) ?hyv ?onw
                                              case hyv =>
                                                intro wz hSw
                                                go_simp
                                                try rfl
                                              case onw =>
                                                try simp only [Act.put, List.setIfInBounds_toArray, List.set_cons_zero, List.set_cons_succ]
                                                refine' wpAnyL_take (i := 4) (oi := ⟨some 80, _, _, _, _, _⟩) (v := _) rfl (by kernel_rfl) (by kernel_rfl) (by kernel_rfl) (by kernel_rfl) (fun _ _ _ h => h) hH0 (by rfl) ?hyv ?onw
                                                case hyv =>
                                                  intro wz hSw
                                                  go_simp
                                                  try rfl
                                                case onw =>
                                                  try simp only [Act.put, List.setIfInBounds_toArray, List.set_cons_zero, List.set_cons_succ]
                                                  refine' wpAnyL_take (i := 5) (oi := ⟨some 81, _, _, _, _, _⟩) (v := _) rfl (by kernel_rfl) (by kernel_rfl) (by kernel_rfl) (by kernel_rfl) (fun _ _ _ h => h) hH0 (by rfl) ?hyv ?onw
                                                  case hyv =>
                                                    intro wz hSw
                                                    go_simp
                                                    try rfl
                                                  case onw =>
                                                    try simp only [Act.put, List.setIfInBounds_toArray, List.set_cons_zero, List.set_cons_succ]
                                                    refine wpAnyL_one (i := 6) (o := _) rfl (by kernel_rfl) (by rfl) (fun K hK => ?_)
                                                    go_simp
                                                    refine (HSL1.out wd0 hH0).mono ?_
                                                    rintro eq wd1 ⟨rfl, bq1⟩
                                                    have hH1 : Below w12.heap.size w12 wd1 := hH0.trans (bq1.mono hH0.size)
                                                    refine hK.out _ _ (fun _ => hH1) ?_
                                                    clear hK K
                                                    try simp only [Act.put, List.setIfInBounds_toArray, List.set_cons_zero, List.set_cons_succ]
                                                    refine' wpAnyL_take (i := 7) (oi := ⟨some 83, _, _, _, _, _⟩) (v := _) rfl (by kernel_rfl) (by kernel_rfl) (by kernel_rfl) (by kernel_rfl) (fun _ _ _ h => h) hH1 (by rfl) ?hyv ?onw
                                                    case hyv =>
                                                      intro wz hSw
                                                      go_simp
                                                      try rfl
                                                    case onw =>
                                                      try simp only [Act.put, List.setIfInBounds_toArray, List.set_cons_zero, List.set_cons_succ]
                                                      refine' wpAnyL_take (i := 8) (oi := ⟨some 84, _, _, _, _, _⟩) (v := _) rfl (by kernel_rfl) (by kernel_rfl) (by kernel_rfl) (by kernel_rfl) (fun _ _ _ h => h) hH1 (by rfl) ?hyv ?onw
                                                      case hyv =>
                                                        intro wz hSw
                                                        go_simp
                                                        try rfl
                                                      case onw =>
                                                        try simp only [Act.put, List.setIfInBounds_toArray, List.set_cons_zero, List.set_cons_succ]
                                                        refine' wpAnyL_take (i := 9) (oi := ⟨some 85, _, _, _, _, _⟩) (v := _) rfl (by kernel_rfl) (by kernel_rfl) (by kernel_rfl) (by kernel_rfl) (fun _ _ _ h => h) hH1 (by rfl) ?hyv ?onw
                                                        case hyv =>
                                                          intro wz hSw
                                                          go_simp
                                                          try rfl
                                                        case onw =>
                                                          try simp only [Act.put, List.setIfInBounds_toArray, List.set_cons_zero, List.set_cons_succ]
                                                          refine' wpAnyL_take (i := 10) (oi := ⟨some 86, _, _, _, _, _⟩) (v := _) rfl (by kernel_rfl) (by kernel_rfl) (by kernel_rfl) (by kernel_rfl) (fun _ _ _ h => h) hH1 (by rfl) ?hyv ?onw
                                                          case hyv =>
                                                            intro wz hSw
                                                            go_simp
                                                            try rfl
                                                          case onw =>
                                                            try simp only [Act.put, List.setIfInBounds_toArray, List.set_cons_zero, List.set_cons_succ]
                                                            refine' wpAnyL_take (i := 11) (oi := ⟨some 87, _, _, _, _, _⟩) (v := _) rfl (by kernel_rfl) (by kernel_rfl) (by kernel_rfl) (by kernel_rfl) (fun _ _ _ h => h) hH1 (by rfl) ?hyv ?onw
                                                            case hyv =>
                                                              intro wz hSw
                                                              go_simp
                                                              try rfl
                                                            case onw =>
                                                              try simp only [Act.put, List.setIfInBounds_toArray, List.set_cons_zero, List.set_cons_succ]
                                                              refine' wpAnyL_take (i := 12) (oi := ⟨some 88, _, _, _, _, _⟩) (v := _) rfl (by kernel_rfl) (by kernel_rfl) (by kernel_rfl) (by kernel_rfl) (fun _ _ _ h => h) hH1 (by rfl) ?hyv ?onw
                                                              case hyv =>
                                                                intro wz hSw
                                                                go_simp
                                                                try rfl
                                                              case onw =>
                                                                try simp only [Act.put, List.setIfInBounds_toArray, List.set_cons_zero, List.set_cons_succ]
                                                                refine' wpAnyL_take (i := 13) (oi := ⟨some 89, _, _, _, _, _⟩) (v := _) rfl (by kernel_rfl) (by kernel_rfl) (by kernel_rfl) (by kernel_rfl) (fun _ _ _ h => h) hH1 (by rfl) ?hyv ?onw
                                                                case hyv =>
                                                                  intro wz hSw
                                                                  have zc0 := (hSw.cell (p := ⟨w11.heap.size, 0, none⟩) yd).trans d0
                                                                  have zc1 := (hSw.cell (p := ⟨w11.heap.size, 1, none⟩) yd).trans d1
                                                                  have zc2 := (hSw.cell (p := ⟨mb, 4, none⟩) yq).trans q4
                                                                  have zc3 := (hSw.cell (p := ⟨gb, 7, none⟩) yg).trans g7
                                                                  go_simp
                                                                  try rfl
                                                                case onw =>
                                                                  try simp only [Act.put, List.setIfInBounds_toArray, List.set_cons_zero, List.set_cons_succ]
                                                                  refine' wpAnyL_take (i := 14) (oi := ⟨some 90, _, _, _, _, _⟩) (v := _) rfl (by kernel_rfl) (by kernel_rfl) (by kernel_rfl) (by kernel_rfl) (fun _ _ _ h => h) hH1 (by rfl) ?hyv ?onw
                                                                  case hyv =>
                                                                    intro wz hSw
                                                                    go_simp
                                                                    try rfl
                                                                  case onw =>
                                                                    try simp only [Act.put, List.setIfInBounds_toArray, List.set_cons_zero, List.set_cons_succ]
                                                                    refine' wpAnyL_take (i := 15) (oi := ⟨some 91, _, _, _, _, _⟩) (v := _) rfl (by kernel_rfl) (by kernel_rfl) (by kernel_rfl) (by kernel_rfl) (fun _ _ _ h => h) hH1 (by rfl) ?hyv ?onw
                                                                    case hyv =>
                                                                      intro wz hSw
                                                                      go_simp
                                                                      try rfl
                                                                    case onw =>
                                                                      try simp only [Act.put, List.setIfInBounds_toArray, List.set_cons_zero, List.set_cons_succ]
                                                                      refine' wpAnyL_take (i := 16) (oi := ⟨some 92, _, _, _, _, _⟩) (v := _) rfl (by kernel_rfl) (by kernel_rfl) (by kernel_rfl) (by kernel_rfl) (fun _ _ _ h => h) hH1 (by rfl) ?hyv ?onw
                                                                      case hyv =>
                                                                        intro wz hSw
                                                                        go_simp
                                                                        try rfl
                                                                      case onw =>
                                                                        try simp only [Act.put, List.setIfInBounds_toArray, List.set_cons_zero, List.set_cons_succ]
                                                                        refine' wpAnyL_take (i := 17) (oi := ⟨some 93, _, _, _, _, _⟩) (v := _) rfl (by kernel_rfl) (by kernel_rfl) (by kernel_rfl) (by kernel_rfl) (fun _ _ _ h => h) hH1 (by rfl) ?hyv ?onw
                                                                        case hyv =>
                                                                          intro wz hSw
                                                                          have zc0 := (hSw.cell (p := ⟨w11.heap.size, 0, none⟩) yd).trans d0
                                                                          have zc1 := (hSw.cell (p := ⟨w11.heap.size, 1, none⟩) yd).trans d1
                                                                          have zc2 := (hSw.cell (p := ⟨mb, 4, none⟩) yq).trans q4
                                                                          have zc3 := (hSw.cell (p := ⟨gb, 7, none⟩) yg).trans g7
                                                                          go_simp
                                                                          try rfl
                                                                        case onw =>
                                                                          try simp only [Act.put, List.setIfInBounds_toArray, List.set_cons_zero, List.set_cons_succ]
                                                                          refine wpAnyL_one (i := 18) (o := _) rfl (by kernel_rfl) (by rfl) (fun K hK => ?_)
                                                                          go_simp
                                                                          refine (HSL2.out wd1 hH1).mono ?_
                                                                          rintro eq wd2 ⟨rfl, bq2⟩
                                                                          have hH2 : Below w12.heap.size w12 wd2 := hH1.trans (bq2.mono hH1.size)
                                                                          refine hK.out _ _ (fun _ => hH2) ?_
                                                                          clear hK K
                                                                          try simp only [Act.put, List.setIfInBounds_toArray, List.set_cons_zero, List.set_cons_succ]
                                                                          refine' wpAnyL_take (i := 19) (oi := ⟨some 95, _, _, _, _, _⟩) (v := _) rfl (by kernel_rfl) (by kernel_rfl) (by kernel_rfl) (by kernel_rfl) (fun _ _ _ h => h) hH2 (by rfl) ?hyv ?onw
                                                                          case hyv =>
                                                                            intro wz hSw
                                                                            go_simp
                                                                            try rfl
                                                                          case onw =>
                                                                            try simp only [Act.put, List.setIfInBounds_toArray, List.set_cons_zero, List.set_cons_succ]
                                                                            refine' wpAnyL_take (i := 20) (oi := ⟨some 96, _, _, _, _, _⟩) (v := _) rfl (by kernel_rfl) (by kernel_rfl) (by kernel_rfl) (by kernel_rfl) (fun _ _ _ h => h) hH2 (by rfl) ?hyv ?onw
                                                                            case hyv =>
                                                                              intro wz hSw
                                                                              go_simp
                                                                              try rfl
                                                                            case onw =>
                                                                              try simp only [Act.put, List.setIfInBounds_toArray, List.set_cons_zero, List.set_cons_succ]
                                                                              refine wpAnyL_done (by kernel_rfl) ?_ _
                                                                              go_wp2_with fail
                                                                              go_roundg (nR - (i + 1))
                                                                              case measure => omega
                                                                              case rel => exact ⟨i + 1, Y, by omega, rfl, by go_num, hide (by
                                                                                obtain ⟨u1, u2, u3, u4, u5⟩ := HSN.out
                                                                                exact ⟨u1.under hH2, u2.under hH2, u3, u4, _, u5.keep (hH2.block _ (lt_of u5))⟩), ab5.trans (aside hH2) ab5.size⟩
end Go.Proofs.YtbiomnnlpafciaaDoor
