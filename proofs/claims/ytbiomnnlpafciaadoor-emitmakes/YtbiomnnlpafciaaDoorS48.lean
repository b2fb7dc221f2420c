import Derived.Test.YtbiomnnlpafciaaDoorS47
import Derived.Test.YtbiomnnlpafciaaDoorS32
import Derived.Test.YtbiomnnlpafciaaDoorS23
import Derived.Test.YtbiomnnlpafciaaDoorS17
import Derived.WalkKit
import Derived.WalkSpells
import Derived.IntWalk
import Derived.Deep.Cut
import Derived.Deep.LoopGhost
import Derived.Laws.Cover1
import Derived.Lib.Hide
set_option linter.unusedVariables false
set_option linter.unusedSimpArgs false
set_option maxHeartbeats 64000000
set_option maxRecDepth 100000
namespace Go.Proofs.YtbiomnnlpafciaaDoor
open Go.RowKit Go.IntWalk
set_option linter.unusedVariables false
set_option linter.unusedSimpArgs false
set_option maxHeartbeats 32000000 in
theorem emitMakes3_any {okL okB : Nat → Prop} {w : World} {aP aG aS aB : Option Addr} {cP cG cS cB : Nat} {L : Lo.Lp} {B : List Int} (hK : GlobK w) (hL : HLp okL w aP aG aS cP cG cS L) (hB : HInts okB w (.slice aB B.length cB) B) : Calls Tryd.prog 3 #[.agg #[.int .i64 L.c, .slice aP L.P.length cP, .slice aG L.G.length cG, .slice aS L.S.length cS], .slice aB B.length cB] w fun e w' => e = .returned (.bool true) ∧ Below w.heap.size w w' := by
  have b1 : Below w.heap.size w (w.alloc (.cells #[.int .i64 L.c, .slice aP L.P.length cP, .slice aG L.G.length cG, .slice aS L.S.length cS] 25 (0, 0))) := (Below.refl _ _).alloc (Nat.le_refl _) _
  have kL := heap_new w (.cells #[.int .i64 L.c, .slice aP L.P.length cP, .slice aG L.G.length cG, .slice aS L.S.length cS] 25 (0, 0))
  have HK := hide hK
  have HL := hide hL
  have HB := hide hB
  obtain ⟨zB, zC, -, hBm⟩ := hB.at
  have hBm2 := hBm.2.1
  unfold maxLen at hBm2
  have hBm3 := hBm.1
  obtain ⟨nb, hnb⟩ : ∃ nb, nb = B.length := ⟨_, rfl⟩
  have hnbM : nb ≤ 9223372036854775807 := by rw [hnb]; omega
  rw [← hnb]
  have HNB := hide hnb
  clear hK hL hB hBm hBm2 hBm3 hnb
  go_enter Tryd.func3, Tryd.ntmps3
  go_upto_region 1 with fail
  generalize (w.alloc (.cells #[.int .i64 L.c, .slice aP L.P.length cP, .slice aG L.G.length cG, .slice aS L.S.length cS] 25 (0, 0))) = w1 at b1 kL ⊢
  go_wp2_with fail
  refine (emitBegun5_any (HK.out.under b1)).mono ?_
  rintro e w2 ⟨rfl, b2⟩
  have B2 := b1.trans (b2.mono b1.size)
  have kL2 := (b2.block _ (lt_of kL)).trans kL
  have s0 := cell_of kL2 0
  have s1 := cell_of kL2 1
  have s2 := cell_of kL2 2
  have s3 := cell_of kL2 3
  simp at s0 s1 s2 s3
  go_wp2_with fail
  refine (great6_any (HL.out.under B2)).mono ?_
  intro e w3 hp
  obtain ⟨q, ee, hb, b3⟩ := hp.out
  have B3 := B2.trans (b3.mono B2.size)
  have kL3 := (b3.block _ (lt_of kL2)).trans kL2
  clear s0 s1 s2 s3 kL kL2 hp b1 b2 b3
  subst ee
  have s0 := cell_of kL3 0
  have s1 := cell_of kL3 1
  have s2 := cell_of kL3 2
  have s3 := cell_of kL3 3
  simp at s0 s1 s2 s3
  cases q
  case true =>
    go_wp2
    go_ret
    exact ⟨rfl, B3⟩
  case false =>
    obtain ⟨⟨g1, g2, g3⟩, g4⟩ := hb rfl
    by_cases hbig : (nb : Int) > 7000
    case pos =>
      go_wp2
      go_ret
      exact ⟨rfl, B3⟩
    case neg =>
    have hBl : B.length ≤ 7000 := by have := HNB.out; omega
    have hcp := copyLoops8_any (HL.out.under B3) (by omega) (by omega) (by omega) (fun s hs => by have := g4 s hs; omega)
    have HCP := hide hcp
    have HG := hide (And.intro g1 (And.intro g2 g3))
    clear hcp g4 hb g1 g2 g3
    go_wp2_with fail
    refine HCP.out.mono ?_
    intro e w4 hp
    obtain ⟨a1, d1, a2, d2, a3, d3, ee, hl4, b4⟩ := hp.out
    have B4 := B3.trans (b4.mono B3.size)
    have kL4 := (b4.block _ (lt_of kL3)).trans kL3
    have HL4 := hide hl4
    clear s0 s1 s2 s3 kL3 hp HCP hl4 b4 B3
    subst ee
    have b5 : Below w4.heap.size w4 (w4.alloc (.cells #[.int .i64 L.c, .slice a1 L.P.length d1, .slice a2 L.G.length d2, .slice a3 L.S.length d3] 25 (0, 0))) := (Below.refl _ _).alloc (Nat.le_refl _) _
    have kO := heap_new w4 (.cells #[.int .i64 L.c, .slice a1 L.P.length d1, .slice a2 L.G.length d2, .slice a3 L.S.length d3] 25 (0, 0))
    go_upto_region 6 with fail
    generalize w4.alloc (.cells #[.int .i64 L.c, .slice a1 L.P.length d1, .slice a2 L.G.length d2, .slice a3 L.S.length d3] 25 (0, 0)) = w5 at b5 kO ⊢
    have B5 := B4.trans (b5.mono B4.size)
    have kL5 := (b5.block _ (lt_of kL4)).trans kL4
    obtain ⟨aX, dX, w6, hrun, hown, b6⟩ := nil_join kInt (w := w5) 22 22 Tryd.underlying22 (ok := okB) (show HRow kInt okB w5 (.slice aB B.length cB) B from HB.out.under B5) (fun _ _ _ _ _ h => h) (by show B.length * 8 ≤ _; omega) (by unfold maxLen; omega)
    have B6 := B5.trans (b6.mono B5.size)
    have kL6 := (b6.block _ (lt_of kL5)).trans kL5
    have kO6 := (b6.block _ (lt_of kO)).trans kO
    have HL6 := hide ((HL4.out.under b5).under b6)
    have HX := hide (show HInts (fun _ => True) w6 (.slice aX B.length dX) B from HRow.wide hown.row (fun _ _ _ => trivial))
    have hrun2 := hrun
    rw [← HNB.out] at hrun2
    clear hrun hown kL5 kL4 kO HL4 b5 b6 B4
    go_upto_region 7 with (at_builtin; refine wpList_joinO rfl _ _ 22 rfl _ _ _ (by rfl) (by rfl) hrun2 ?_; clear hrun2)
    have hmk := make8_any (HK.out.under B6) HL6.out HX.out (by have := HG.out.1; omega) (by have := HG.out.2.1; omega) (by have := HG.out.2.2; omega) (by omega)
    rw [← HNB.out] at hmk
    have HMK := hide hmk
    clear hmk
    have o0 := cell_of kO6 0
    have o1 := cell_of kO6 1
    have o2 := cell_of kO6 2
    have o3 := cell_of kO6 3
    simp at o0 o1 o2 o3
    go_wp2_with fail
    refine HMK.out.mono ?_
    intro e w7 hp
    obtain ⟨⟨uP, uB, uG, uL, up, ub, ug, ul, ee, him⟩, b7⟩ := hp
    obtain ⟨m, hm⟩ : ∃ m, m = (Em.make L B).2 := ⟨_, rfl⟩
    obtain ⟨f1, hf1⟩ : ∃ x, x = (Em.make L B).1.1 := ⟨_, rfl⟩
    obtain ⟨f2, hf2⟩ : ∃ x, x = (Em.make L B).1.2 := ⟨_, rfl⟩
    have h9 := fun W (b : Below w.heap.size w W) => emitted9_any (HL.out.under b) (HB.out.under b)
    rw [← hm] at him ee
    rw [← hf1, ← hf2] at ee
    have h9' : ∀ W, Below w.heap.size w W → Calls Tryd.prog 9 #[.agg #[.int .i64 L.c, .slice aP L.P.length cP, .slice aG L.G.length cG, .slice aS L.S.length cS], .slice aB nb cB] W fun e w' => (∃ aP aB aG aL cP cB cG cL, e = .returned (.tuple #[imgV m aP aB aG aL cP cB cG cL, .agg #[.int .i64 f1, .int .i64 f2]]) ∧ HIm (fun _ => True) w' aP aB aG aL cP cB cG cL m) ∧ Below W.heap.size W w' := fun W b => by
      rw [HNB.out]
      refine (h9 W b).mono fun e w' hq => ⟨?_, hq.b⟩
      rw [hm, hf1, hf2]
      exact hq.out
    have H9 := hide h9'
    have HIM := hide him
    clear hm hf1 hf2 h9 h9' him HMK
    obtain ⟨mp, hmp⟩ : ∃ x, x = m.P.length := ⟨_, rfl⟩
    obtain ⟨mb, hmb⟩ : ∃ x, x = m.B.length := ⟨_, rfl⟩
    obtain ⟨mg, hmg⟩ : ∃ x, x = m.G.length := ⟨_, rfl⟩
    obtain ⟨ml, hml⟩ : ∃ x, x = m.l.length := ⟨_, rfl⟩
    have HS := hide (fun W (ok1 : Nat → Prop) (hm1 : HIm ok1 W uP uB uG uL up ub ug ul m) vP vB vG vL vp vb vg vl (hm2 : HIm (fun _ => True) W vP vB vG vL vp vb vg vl m) => (by
      have := sameImage12_any hm1 hm2
      rw [← hmp, ← hmb, ← hmg, ← hml] at this
      exact this : Calls Tryd.prog 10 #[.agg #[.int .i64 m.c, .int .i64 m.R, .int .i64 m.cost, .slice uP mp up, .slice uB mb ub, .slice uG mg ug, .slice uL ml ul], .agg #[.int .i64 m.c, .int .i64 m.R, .int .i64 m.cost, .slice vP mp vp, .slice vB mb vb, .slice vG mg vg, .slice vL ml vl]] W fun e w' => e = .returned (.bool true) ∧ Below W.heap.size W w'))
    have ee2 : e = .returned (.tuple #[.agg #[.int .i64 m.c, .int .i64 m.R, .int .i64 m.cost, .slice uP mp up, .slice uB mb ub, .slice uG mg ug, .slice uL ml ul], .agg #[.int .i64 f1, .int .i64 f2]]) := by rw [ee, hmp, hmb, hmg, hml]; rfl
    have HLM := hide (And.intro hmp (And.intro hmb (And.intro hmg hml)))
    have B7 := B6.trans (b7.mono B6.size)
    have kL7 := (b7.block _ (lt_of kL6)).trans kL6
    have kO7 := (b7.block _ (lt_of kO6)).trans kO6
    have HL7 := hide (HL6.out.under b7)
    have HX7 := hide (HX.out.under b7)
    clear ee hmp hmb hmg hml kL6 kO6 HL6 HX b7 B6 B5 o0 o1 o2 o3
    subst ee2
    have b8 : Below w7.heap.size w7 ((w7.alloc (.cells #[.int .i64 m.c, .int .i64 m.R, .int .i64 m.cost, .slice uP mp up, .slice uB mb ub, .slice uG mg ug, .slice uL ml ul] 31 (0, 0))).alloc (.cells #[.int .i64 f1, .int .i64 f2] 33 (0, 0))) := ((Below.refl _ _).alloc (Nat.le_refl _) _).alloc (by simp) _
    have kM : ((w7.alloc (.cells #[.int .i64 m.c, .int .i64 m.R, .int .i64 m.cost, .slice uP mp up, .slice uB mb ub, .slice uG mg ug, .slice uL ml ul] 31 (0, 0))).alloc (.cells #[.int .i64 f1, .int .i64 f2] 33 (0, 0))).heap[w7.heap.size]? = _ := (Below.heap_alloc _ _ _ (by simp)).trans (heap_new w7 (.cells #[.int .i64 m.c, .int .i64 m.R, .int .i64 m.cost, .slice uP mp up, .slice uB mb ub, .slice uG mg ug, .slice uL ml ul] 31 (0, 0)))
    have kF : ((w7.alloc (.cells #[.int .i64 m.c, .int .i64 m.R, .int .i64 m.cost, .slice uP mp up, .slice uB mb ub, .slice uG mg ug, .slice uL ml ul] 31 (0, 0))).alloc (.cells #[.int .i64 f1, .int .i64 f2] 33 (0, 0))).heap[w7.heap.size + 1]? = some (.cells #[.int .i64 f1, .int .i64 f2] 33 (0, 0)) := by
      have := heap_new (w7.alloc (.cells #[.int .i64 m.c, .int .i64 m.R, .int .i64 m.cost, .slice uP mp up, .slice uB mb ub, .slice uG mg ug, .slice uL ml ul] 31 (0, 0))) (.cells #[.int .i64 f1, .int .i64 f2] 33 (0, 0))
      simpa using this
    go_upto_region 8 with fail
    generalize ((w7.alloc (.cells #[.int .i64 m.c, .int .i64 m.R, .int .i64 m.cost, .slice uP mp up, .slice uB mb ub, .slice uG mg ug, .slice uL ml ul] 31 (0, 0))).alloc (.cells #[.int .i64 f1, .int .i64 f2] 33 (0, 0))) = w8 at b8 kM kF ⊢
    have B8 := B7.trans (b8.mono B7.size)
    have kL8 := (b8.block _ (lt_of kL7)).trans kL7
    have kO8 := (b8.block _ (lt_of kO7)).trans kO7
    have HL8 := hide (HL7.out.under b8)
    have HX8 := hide (HX7.out.under b8)
    have HI8 := hide (HIM.out.under b8)
    clear kL7 kO7 HL7 HX7 HIM b8 B7
    have s0 := cell_of kL8 0
    have s1 := cell_of kL8 1
    have s2 := cell_of kL8 2
    have s3 := cell_of kL8 3
    simp at s0 s1 s2 s3
    go_wp2_with fail
    refine (H9.out _ B8).mono ?_
    intro e w9 hp
    obtain ⟨⟨vP, vB, vG, vL, vp, vb, vg, vl, ee, him⟩, b9⟩ := hp
    have HI9 := hide him
    have ee2 : e = .returned (.tuple #[.agg #[.int .i64 m.c, .int .i64 m.R, .int .i64 m.cost, .slice vP mp vp, .slice vB mb vb, .slice vG mg vg, .slice vL ml vl], .agg #[.int .i64 f1, .int .i64 f2]]) := by rw [ee, HLM.out.1, HLM.out.2.1, HLM.out.2.2.1, HLM.out.2.2.2]; rfl
    have B9 := B8.trans (b9.mono B8.size)
    have kL9 := (b9.block _ (lt_of kL8)).trans kL8
    have kO9 := (b9.block _ (lt_of kO8)).trans kO8
    have kM9 := (b9.block _ (lt_of kM)).trans kM
    have kF9 := (b9.block _ (lt_of kF)).trans kF
    have HL9 := hide (HL8.out.under b9)
    have HX9 := hide (HX8.out.under b9)
    have HJ9 := hide (HI8.out.under b9)
    clear ee him kL8 kO8 kM kF HL8 HX8 HI8 b9 B8 s0 s1 s2 s3 H9 HLM
    subst ee2
    have b10 : Below w9.heap.size w9 ((w9.alloc (.cells #[.int .i64 m.c, .int .i64 m.R, .int .i64 m.cost, .slice vP mp vp, .slice vB mb vb, .slice vG mg vg, .slice vL ml vl] 31 (0, 0))).alloc (.cells #[.int .i64 f1, .int .i64 f2] 33 (0, 0))) := ((Below.refl _ _).alloc (Nat.le_refl _) _).alloc (by simp) _
    have kN : ((w9.alloc (.cells #[.int .i64 m.c, .int .i64 m.R, .int .i64 m.cost, .slice vP mp vp, .slice vB mb vb, .slice vG mg vg, .slice vL ml vl] 31 (0, 0))).alloc (.cells #[.int .i64 f1, .int .i64 f2] 33 (0, 0))).heap[w9.heap.size]? = _ := (Below.heap_alloc _ _ _ (by simp)).trans (heap_new w9 (.cells #[.int .i64 m.c, .int .i64 m.R, .int .i64 m.cost, .slice vP mp vp, .slice vB mb vb, .slice vG mg vg, .slice vL ml vl] 31 (0, 0)))
    have kG : ((w9.alloc (.cells #[.int .i64 m.c, .int .i64 m.R, .int .i64 m.cost, .slice vP mp vp, .slice vB mb vb, .slice vG mg vg, .slice vL ml vl] 31 (0, 0))).alloc (.cells #[.int .i64 f1, .int .i64 f2] 33 (0, 0))).heap[w9.heap.size + 1]? = some (.cells #[.int .i64 f1, .int .i64 f2] 33 (0, 0)) := by
      have := heap_new (w9.alloc (.cells #[.int .i64 m.c, .int .i64 m.R, .int .i64 m.cost, .slice vP mp vp, .slice vB mb vb, .slice vG mg vg, .slice vL ml vl] 31 (0, 0))) (.cells #[.int .i64 f1, .int .i64 f2] 33 (0, 0))
      simpa using this
    go_upto_region 9 with fail
    generalize ((w9.alloc (.cells #[.int .i64 m.c, .int .i64 m.R, .int .i64 m.cost, .slice vP mp vp, .slice vB mb vb, .slice vG mg vg, .slice vL ml vl] 31 (0, 0))).alloc (.cells #[.int .i64 f1, .int .i64 f2] 33 (0, 0))) = wA at b10 kN kG ⊢
    have BA := B9.trans (b10.mono B9.size)
    have kLA := (b10.block _ (lt_of kL9)).trans kL9
    have kOA := (b10.block _ (lt_of kO9)).trans kO9
    have kMA := (b10.block _ (lt_of kM9)).trans kM9
    have kFA := (b10.block _ (lt_of kF9)).trans kF9
    have HLA := hide (HL9.out.under b10)
    have HXA := hide (HX9.out.under b10)
    have HSA := hide (HS.out wA _ (HJ9.out.under b10) _ _ _ _ _ _ _ _ (HI9.out.under b10))
    clear kL9 kO9 kM9 kF9 HL9 HX9 HJ9 HI9 HS b10 B9
    have m0 := cell_of kMA 0
    have m1 := cell_of kMA 1
    have m2 := cell_of kMA 2
    have m3 := cell_of kMA 3
    have m4 := cell_of kMA 4
    have m5 := cell_of kMA 5
    have m6 := cell_of kMA 6
    simp at m0 m1 m2 m3 m4 m5 m6
    have ff0 := cell_of kFA 0
    have ff1 := cell_of kFA 1
    simp at ff0 ff1
    have n0 := cell_of kN 0
    have n1 := cell_of kN 1
    have n2 := cell_of kN 2
    have n3 := cell_of kN 3
    have n4 := cell_of kN 4
    have n5 := cell_of kN 5
    have n6 := cell_of kN 6
    simp at n0 n1 n2 n3 n4 n5 n6
    have g0 := cell_of kG 0
    have g1 := cell_of kG 1
    simp at g0 g1
    have e1 : (f1 == f1) = true := by simp
    have e2 : (f2 == f2) = true := by simp
    go_wp2_with fail
    refine HSA.out.mono ?_
    rintro e wB ⟨rfl, bB⟩
    have BB := BA.trans (bB.mono BA.size)
    have kLB := (bB.block _ (lt_of kLA)).trans kLA
    have kOB := (bB.block _ (lt_of kOA)).trans kOA
    clear m0 m1 m2 m3 m4 m5 m6 n0 n1 n2 n3 n4 n5 n6 g0 g1 ff0 ff1 kLA kOA kMA kFA kN kG HSA
    have s0 := cell_of kLB 0
    have s1 := cell_of kLB 1
    have s2 := cell_of kLB 2
    have s3 := cell_of kLB 3
    simp at s0 s1 s2 s3
    have o0 := cell_of kOB 0
    have o1 := cell_of kOB 1
    have o2 := cell_of kOB 2
    have o3 := cell_of kOB 3
    simp at o0 o1 o2 o3
    go_wp2_with fail
    refine (sameLoops18_same (HLA.out.under bB) (HL.out.under BB)).mono ?_
    rintro e wC ⟨rfl, bC⟩
    have BC := BB.trans (bC.mono BB.size)
    clear s0 s1 s2 s3 o0 o1 o2 o3 kLB kOB
    have hsi := sameIntsB_same ((HXA.out.under bB).under bC) (HB.out.under BC)
    rw [← HNB.out] at hsi
    have HSI := hide hsi
    clear hsi
    go_wp2_with fail
    refine HSI.out.mono ?_
    rintro e wD ⟨rfl, bD⟩
    go_wp2
    go_ret
    exact ⟨rfl, BC.trans (bD.mono BC.size)⟩
end Go.Proofs.YtbiomnnlpafciaaDoor
