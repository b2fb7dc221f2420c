import Derived.Test.YtkgbmgpdehmiiaaDoorY21
import Derived.WalkKit
import Derived.WalkSpells
import Derived.IntWalk
import Derived.Deep.Cut
import Derived.Deep.LoopGhost
import Derived.Laws.Cover1
import Derived.Lib.Hide
set_option linter.unusedVariables false
set_option linter.unusedSimpArgs false
set_option maxHeartbeats 64000000
set_option maxRecDepth 100000
namespace Go.Proofs.YtkgbmgpdehmiiaaDoor
open Go.RowKit Go.IntWalk
set_option linter.unusedVariables false
set_option linter.unusedSimpArgs false
set_option maxHeartbeats 16000000
structure ICopyP (w : World) (m : Cd.Im) (e : Ending) (w' : World) : Prop where
 out : ∃ aP aB aG aL cP cB cG cL, e = .returned (.agg #[.int .i64 m.c, .int .i64 m.R, .int .i64 m.cost, .slice aP m.P.length cP, .slice aB m.B.length cB, .slice aG m.G.length cG, .slice aL m.l.length cL]) ∧ HIm (fun i => w.heap.size ≤ i) w' aP aB aG aL cP cB cG cL m ∧ Below w.heap.size w w'
set_option maxHeartbeats 32000000 in
theorem copy7_any {ok : Nat → Prop} {w : World} {aP aB aG aL : Option Addr} {cP cB cG cL : Nat} {m : Cd.Im} (hm : HIm ok w aP aB aG aL cP cB cG cL m) (h1 : m.P.length ≤ 1000000) (h2 : m.B.length ≤ 1000000) (h3 : m.G.length ≤ 1000000) (h4 : m.l.length ≤ 1000000) : Calls Tryd.prog 8 #[.agg #[.int .i64 m.c, .int .i64 m.R, .int .i64 m.cost, .slice aP m.P.length cP, .slice aB m.B.length cB, .slice aG m.G.length cG, .slice aL m.l.length cL]] w (ICopyP w m) := by
 obtain ⟨c, R, kc, P, B, G, l⟩ := m
 obtain ⟨hP, hB, hG, hL, hW⟩ := hm
 dsimp only at hP hB hG hL hW h1 h2 h3 h4 ⊢
 have b1 : Below w.heap.size w ((w.alloc (.cells #[.int .i64 c, .int .i64 R, .int .i64 kc, .slice aP P.length cP, .slice aB B.length cB, .slice aG G.length cG, .slice aL l.length cL] 25 (0, 0))).alloc (.cells #[.int .i64 0, .int .i64 0, .int .i64 0, .slice none 0 0, .slice none 0 0, .slice none 0 0, .slice none 0 0] 25 (0, 0))) := ((Below.refl _ _).alloc (Nat.le_refl _) _).alloc (by simp) _
 have kM : (((w.alloc (.cells #[.int .i64 c, .int .i64 R, .int .i64 kc, .slice aP P.length cP, .slice aB B.length cB, .slice aG G.length cG, .slice aL l.length cL] 25 (0, 0))).alloc (.cells #[.int .i64 0, .int .i64 0, .int .i64 0, .slice none 0 0, .slice none 0 0, .slice none 0 0, .slice none 0 0] 25 (0, 0)))).heap[w.heap.size]? = some (.cells #[.int .i64 c, .int .i64 R, .int .i64 kc, .slice aP P.length cP, .slice aB B.length cB, .slice aG G.length cG, .slice aL l.length cL] 25 (0, 0)) := (Below.heap_alloc _ _ _ (by simp)).trans (heap_new w _)
 have kZ : (((w.alloc (.cells #[.int .i64 c, .int .i64 R, .int .i64 kc, .slice aP P.length cP, .slice aB B.length cB, .slice aG G.length cG, .slice aL l.length cL] 25 (0, 0))).alloc (.cells #[.int .i64 0, .int .i64 0, .int .i64 0, .slice none 0 0, .slice none 0 0, .slice none 0 0, .slice none 0 0] 25 (0, 0)))).heap[w.heap.size + 1]? = some (.cells #[.int .i64 0, .int .i64 0, .int .i64 0, .slice none 0 0, .slice none 0 0, .slice none 0 0, .slice none 0 0] 25 (0, 0)) := by
  have := heap_new (w.alloc (.cells #[.int .i64 c, .int .i64 R, .int .i64 kc, .slice aP P.length cP, .slice aB B.length cB, .slice aG G.length cG, .slice aL l.length cL] 25 (0, 0))) (.cells #[.int .i64 0, .int .i64 0, .int .i64 0, .slice none 0 0, .slice none 0 0, .slice none 0 0, .slice none 0 0] 25 (0, 0))
  simpa using this
 have hP2 : HRow kInt (fun i => i < w.heap.size) w (.slice aP P.length cP) P := HRow.wide (T := kInt) hP (fun i _ h => h)
 have HP := hide (show HRow kInt (fun i => i < w.heap.size) ((w.alloc (.cells #[.int .i64 c, .int .i64 R, .int .i64 kc, .slice aP P.length cP, .slice aB B.length cB, .slice aG G.length cG, .slice aL l.length cL] 25 (0, 0))).alloc (.cells #[.int .i64 0, .int .i64 0, .int .i64 0, .slice none 0 0, .slice none 0 0, .slice none 0 0, .slice none 0 0] 25 (0, 0))) (.slice aP P.length cP) P from HRow.keep hP2 b1.size (fun i _ h => b1.block i h))
 have hB2 : HRow kInt (fun i => i < w.heap.size) w (.slice aB B.length cB) B := HRow.wide (T := kInt) hB (fun i _ h => h)
 have HB := hide (show HRow kInt (fun i => i < w.heap.size) ((w.alloc (.cells #[.int .i64 c, .int .i64 R, .int .i64 kc, .slice aP P.length cP, .slice aB B.length cB, .slice aG G.length cG, .slice aL l.length cL] 25 (0, 0))).alloc (.cells #[.int .i64 0, .int .i64 0, .int .i64 0, .slice none 0 0, .slice none 0 0, .slice none 0 0, .slice none 0 0] 25 (0, 0))) (.slice aB B.length cB) B from HRow.keep hB2 b1.size (fun i _ h => b1.block i h))
 have hG2 : HRow kInt (fun i => i < w.heap.size) w (.slice aG G.length cG) G := HRow.wide (T := kInt) hG (fun i _ h => h)
 have HG := hide (show HRow kInt (fun i => i < w.heap.size) ((w.alloc (.cells #[.int .i64 c, .int .i64 R, .int .i64 kc, .slice aP P.length cP, .slice aB B.length cB, .slice aG G.length cG, .slice aL l.length cL] 25 (0, 0))).alloc (.cells #[.int .i64 0, .int .i64 0, .int .i64 0, .slice none 0 0, .slice none 0 0, .slice none 0 0, .slice none 0 0] 25 (0, 0))) (.slice aG G.length cG) G from HRow.keep hG2 b1.size (fun i _ h => b1.block i h))
 have hL2 : HRow kIn (fun i => i < w.heap.size) w (.slice aL l.length cL) l := HRow.wide (T := kIn) hL (fun i _ h => h)
 have HL := hide (show HRow kIn (fun i => i < w.heap.size) ((w.alloc (.cells #[.int .i64 c, .int .i64 R, .int .i64 kc, .slice aP P.length cP, .slice aB B.length cB, .slice aG G.length cG, .slice aL l.length cL] 25 (0, 0))).alloc (.cells #[.int .i64 0, .int .i64 0, .int .i64 0, .slice none 0 0, .slice none 0 0, .slice none 0 0, .slice none 0 0] 25 (0, 0))) (.slice aL l.length cL) l from HRow.keep hL2 b1.size (fun i _ h => b1.block i h))
 have HWd := hide hW
 clear hP hB hG hL hP2 hB2 hG2 hL2 hW
 go_enter Tryd.func8, Tryd.ntmps8
 go_upto_region 3 with fail
 generalize ((w.alloc (.cells #[.int .i64 c, .int .i64 R, .int .i64 kc, .slice aP P.length cP, .slice aB B.length cB, .slice aG G.length cG, .slice aL l.length cL] 25 (0, 0))).alloc (.cells #[.int .i64 0, .int .i64 0, .int .i64 0, .slice none 0 0, .slice none 0 0, .slice none 0 0, .slice none 0 0] 25 (0, 0))) = w1 at b1 kM kZ HP HB HG HL ⊢
 have s3 := cell_of kM 3
 have s4 := cell_of kM 4
 have s5 := cell_of kM 5
 have s6 := cell_of kM 6
 simp at s3 s4 s5 s6
 have yM := lt_of kM
 have yZ := lt_of kZ
 refine wp_region_late (fun w' => Below w1.heap.size w1 w') (fun i => i == 4 || i == 8 || i == 12 || i == 17 || i == 18 || i == 19 || i == 20 || i == 21 || i == 22 || i == 23) (by kernel_rfl) ?_
 have hH0 : Below w1.heap.size w1 w1.drew := (Below.refl _ _).drew
 generalize w1.drew = wd0 at hH0 ⊢
 refine' wpAnyL_move (i := 4) (oi := ⟨some 11, _, _, _, _, _⟩) (v := _) rfl (by kernel_rfl) (by kernel_rfl) (by kernel_rfl) (by rfl) (fun _ _ _ h => h) (by rfl) ?hyv ?o1
 case hyv =>
  intro wz
  go_simp
  try rfl
 try simp only [Act.put, sT, sZ, sS]
 refine' wpAnyL_move (i := 8) (oi := ⟨some 15, _, _, _, _, _⟩) (v := _) rfl (by kernel_rfl) (by kernel_rfl) (by kernel_rfl) (by rfl) (fun _ _ _ h => h) (by rfl) ?hyv ?o2
 case hyv =>
  intro wz
  go_simp
  try rfl
 try simp only [Act.put, sT, sZ, sS]
 refine' wpAnyL_move (i := 12) (oi := ⟨some 19, _, _, _, _, _⟩) (v := _) rfl (by kernel_rfl) (by kernel_rfl) (by kernel_rfl) (by rfl) (fun _ _ _ h => h) (by rfl) ?hyv ?o3
 case hyv =>
  intro wz
  go_simp
  try rfl
 try simp only [Act.put, sT, sZ, sS]
 refine' wpAnyL_take (i := 0) (oi := ⟨some 7, _, _, _, _, _⟩) (v := _) rfl (by kernel_rfl) (by kernel_rfl) (by kernel_rfl) (by kernel_rfl) (fun _ _ _ h => h) hH0 (by rfl) ?hyv ?o4
 case hyv =>
  intro wz hSw
  go_simp
  try rfl
 try simp only [Act.put, sT, sZ, sS]
 refine' wpAnyL_take (i := 1) (oi := ⟨some 8, _, _, _, _, _⟩) (v := _) rfl (by kernel_rfl) (by kernel_rfl) (by kernel_rfl) (by kernel_rfl) (fun _ _ _ h => h) hH0 (by rfl) ?hyv ?o5
 case hyv =>
  intro wz hSw
  go_simp
  try rfl
 try simp only [Act.put, sT, sZ, sS]
 refine' wpAnyL_take (i := 2) (oi := ⟨some 9, _, _, _, _, _⟩) (v := _) rfl (by kernel_rfl) (by kernel_rfl) (by kernel_rfl) (by kernel_rfl) (fun _ _ _ h => h) hH0 (by rfl) ?hyv ?o6
 case hyv =>
  intro wz hSw
  have zc0 := (hSw.cell (p := ⟨w.heap.size, 3, none⟩) yM).trans s3
  have zc1 := (hSw.cell (p := ⟨w.heap.size, 4, none⟩) yM).trans s4
  have zc2 := (hSw.cell (p := ⟨w.heap.size, 5, none⟩) yM).trans s5
  have zc3 := (hSw.cell (p := ⟨w.heap.size, 6, none⟩) yM).trans s6
  go_simp
  try rfl
 try simp only [Act.put, sT, sZ, sS]
 refine' wpAnyL_take (i := 5) (oi := ⟨some 12, _, _, _, _, _⟩) (v := _) rfl (by kernel_rfl) (by kernel_rfl) (by kernel_rfl) (by kernel_rfl) (fun _ _ _ h => h) hH0 (by rfl) ?hyv ?o7
 case hyv =>
  intro wz hSw
  go_simp
  try rfl
 try simp only [Act.put, sT, sZ, sS]
 refine' wpAnyL_take (i := 6) (oi := ⟨some 13, _, _, _, _, _⟩) (v := _) rfl (by kernel_rfl) (by kernel_rfl) (by kernel_rfl) (by kernel_rfl) (fun _ _ _ h => h) hH0 (by rfl) ?hyv ?o8
 case hyv =>
  intro wz hSw
  have zc0 := (hSw.cell (p := ⟨w.heap.size, 3, none⟩) yM).trans s3
  have zc1 := (hSw.cell (p := ⟨w.heap.size, 4, none⟩) yM).trans s4
  have zc2 := (hSw.cell (p := ⟨w.heap.size, 5, none⟩) yM).trans s5
  have zc3 := (hSw.cell (p := ⟨w.heap.size, 6, none⟩) yM).trans s6
  go_simp
  try rfl
 try simp only [Act.put, sT, sZ, sS]
 refine' wpAnyL_take (i := 9) (oi := ⟨some 16, _, _, _, _, _⟩) (v := _) rfl (by kernel_rfl) (by kernel_rfl) (by kernel_rfl) (by kernel_rfl) (fun _ _ _ h => h) hH0 (by rfl) ?hyv ?o9
 case hyv =>
  intro wz hSw
  go_simp
  try rfl
 try simp only [Act.put, sT, sZ, sS]
 refine' wpAnyL_take (i := 10) (oi := ⟨some 17, _, _, _, _, _⟩) (v := _) rfl (by kernel_rfl) (by kernel_rfl) (by kernel_rfl) (by kernel_rfl) (fun _ _ _ h => h) hH0 (by rfl) ?hyv ?o10
 case hyv =>
  intro wz hSw
  have zc0 := (hSw.cell (p := ⟨w.heap.size, 3, none⟩) yM).trans s3
  have zc1 := (hSw.cell (p := ⟨w.heap.size, 4, none⟩) yM).trans s4
  have zc2 := (hSw.cell (p := ⟨w.heap.size, 5, none⟩) yM).trans s5
  have zc3 := (hSw.cell (p := ⟨w.heap.size, 6, none⟩) yM).trans s6
  go_simp
  try rfl
 try simp only [Act.put, sT, sZ, sS]
 refine' wpAnyL_take (i := 13) (oi := ⟨some 20, _, _, _, _, _⟩) (v := _) rfl (by kernel_rfl) (by kernel_rfl) (by kernel_rfl) (by kernel_rfl) (fun _ _ _ h => h) hH0 (by rfl) ?hyv ?o11
 case hyv =>
  intro wz hSw
  go_simp
  try rfl
 try simp only [Act.put, sT, sZ, sS]
 refine' wpAnyL_take (i := 14) (oi := ⟨some 21, _, _, _, _, _⟩) (v := _) rfl (by kernel_rfl) (by kernel_rfl) (by kernel_rfl) (by kernel_rfl) (fun _ _ _ h => h) hH0 (by rfl) ?hyv ?o12
 case hyv =>
  intro wz hSw
  have zc0 := (hSw.cell (p := ⟨w.heap.size, 3, none⟩) yM).trans s3
  have zc1 := (hSw.cell (p := ⟨w.heap.size, 4, none⟩) yM).trans s4
  have zc2 := (hSw.cell (p := ⟨w.heap.size, 5, none⟩) yM).trans s5
  have zc3 := (hSw.cell (p := ⟨w.heap.size, 6, none⟩) yM).trans s6
  go_simp
  try rfl
 try simp only [Act.put, sT, sZ, sS]
 refine wpAnyL_one (i := 3) (o := _) rfl (by kernel_rfl) (by rfl) (fun K hK => ?_)
 obtain ⟨aP1, cP1, wd1, rr1, oP1, bq1⟩ := nil_join kInt (w := wd0) 22 22 Tryd.underlying22 (ok := fun i => i < w.heap.size) (HP.out.keep hH0.size (fun i hi h => hH0.block i h)) (fun _ _ _ _ _ h => h) (by show P.length * 8 ≤ _; omega) (by unfold maxLen; omega)
 refine oper_joinO _ _ 22 rfl _ _ _ (by rfl) (by rfl) rr1 ?_
 have hH1 : Below w1.heap.size w1 wd1 := hH0.trans (bq1.mono hH0.size)
 have pP1 := own_down2 oP1 hH0.size
 clear oP1 rr1
 refine hK.out _ _ (fun _ => hH1) ?_
 clear hK K
 try simp only [Act.put, sT, sZ, sS]
 refine' wpAnyL_take (i := 16) (oi := ⟨some 23, _, _, _, _, _⟩) (v := _) rfl (by kernel_rfl) (by kernel_rfl) (by kernel_rfl) (by kernel_rfl) (fun _ _ _ h => h) hH1 (by rfl) ?hyv ?o13
 case hyv =>
  intro wz hSw
  go_simp
  try rfl
 try simp only [Act.put, sT, sZ, sS]
 refine wpAnyL_one (i := 7) (o := _) rfl (by kernel_rfl) (by rfl) (fun K hK => ?_)
 obtain ⟨aB1, cB1, wd2, rr2, oB1, bq2⟩ := nil_join kInt (w := wd1) 22 22 Tryd.underlying22 (ok := fun i => i < w.heap.size) (HB.out.keep hH1.size (fun i hi h => hH1.block i h)) (fun _ _ _ _ _ h => h) (by show B.length * 8 ≤ _; omega) (by unfold maxLen; omega)
 refine oper_joinO _ _ 22 rfl _ _ _ (by rfl) (by rfl) rr2 ?_
 have hH2 : Below w1.heap.size w1 wd2 := hH1.trans (bq2.mono hH1.size)
 have pB1 := own_down2 oB1 hH1.size
 clear oB1 rr2
 have pP1_2 := pP1.below bq2
 refine hK.out _ _ (fun _ => hH2) ?_
 clear hK K
 try simp only [Act.put, sT, sZ, sS]
 refine wpAnyL_one (i := 11) (o := _) rfl (by kernel_rfl) (by rfl) (fun K hK => ?_)
 obtain ⟨aG1, cG1, wd3, rr3, oG1, bq3⟩ := nil_join kInt (w := wd2) 22 22 Tryd.underlying22 (ok := fun i => i < w.heap.size) (HG.out.keep hH2.size (fun i hi h => hH2.block i h)) (fun _ _ _ _ _ h => h) (by show G.length * 8 ≤ _; omega) (by unfold maxLen; omega)
 refine oper_joinO _ _ 22 rfl _ _ _ (by rfl) (by rfl) rr3 ?_
 have hH3 : Below w1.heap.size w1 wd3 := hH2.trans (bq3.mono hH2.size)
 have pG1 := own_down2 oG1 hH2.size
 clear oG1 rr3
 have pP1_3 := pP1_2.below bq3
 have pB1_3 := pB1.below bq3
 refine hK.out _ _ (fun _ => hH3) ?_
 clear hK K
 try simp only [Act.put, sT, sZ, sS]
 refine wpAnyL_one (i := 15) (o := _) rfl (by kernel_rfl) (by rfl) (fun K hK => ?_)
 obtain ⟨aL1, cL1, wd4, rr4, oL1, bq4⟩ := nil_join kIn (w := wd3) 23 23 Tryd.underlying23 (ok := fun i => i < w.heap.size) (HL.out.keep hH3.size (fun i hi h => hH3.block i h)) (fun _ _ _ _ _ h => h) (by show l.length * 48 ≤ _; omega) (by unfold maxLen; omega)
 refine oper_joinO _ _ 23 rfl _ _ _ (by rfl) (by rfl) rr4 ?_
 have hH4 : Below w1.heap.size w1 wd4 := hH3.trans (bq4.mono hH3.size)
 have pL1 := own_down2 oL1 hH3.size
 clear oL1 rr4
 have pP1_4 := pP1_3.below bq4
 have pB1_4 := pB1_3.below bq4
 have pG1_4 := pG1.below bq4
 refine hK.out _ _ (fun _ => hH4) ?_
 clear hK K
 try simp only [Act.put, sT, sZ, sS]
 refine wpAnyL_one (i := 17) (o := _) rfl (by kernel_rfl) (by rfl) (fun K hK => ?_)
 have hm3 := (hH4.block _ (lt_of kM)).trans kM
 have B3x : Below w.heap.size w wd4 := b1.trans (hH4.mono b1.size)
 have hz3 : w1.heap.size ≤ wd4.heap.size := hH4.size
 have kz3 := (hH4.block _ (lt_of kZ)).trans kZ
 have st := cell_of hm3 3
 have fr := free_of hm3 3
 simp at st
 have hm4 := set_in hm3 3 (.slice aP1 P.length cP1)
 simp at hm4
 have B4x := B3x.setCell (p := ⟨w.heap.size, 3, none⟩) (Nat.le_refl _) (.slice aP1 P.length cP1)
 have hz4 : w1.heap.size ≤ (wd4.setCell ⟨w.heap.size, 3, none⟩ (.slice aP1 P.length cP1)).heap.size := by simp [World.setCell]; exact hz3
 have kz4 := (heap_set_other wd4 ⟨w.heap.size, 3, none⟩ (.slice aP1 P.length cP1) (i := w.heap.size + 1) (by show w.heap.size ≠ w.heap.size + 1; omega)).trans kz3
 have pP1_s3 := pP1_4.set (p := ⟨w.heap.size, 3, none⟩) yM (.slice aP1 P.length cP1)
 have pB1_s3 := pB1_4.set (p := ⟨w.heap.size, 3, none⟩) yM (.slice aP1 P.length cP1)
 have pG1_s3 := pG1_4.set (p := ⟨w.heap.size, 3, none⟩) yM (.slice aP1 P.length cP1)
 have pL1_s3 := pL1.set (p := ⟨w.heap.size, 3, none⟩) yM (.slice aP1 P.length cP1)
 clear hm3 B3x hz3 kz3 pP1_4 pB1_4 pG1_4 pL1
 go_simp
 refine hK.out _ _ (fun h => absurd h (by decide)) ?_
 clear hK K
 try simp only [Act.put, sT, sZ, sS]
 clear st fr
 generalize wd4.setCell ⟨w.heap.size, 3, none⟩ (.slice aP1 P.length cP1) = wd5 at hm4 B4x hz4 kz4 pP1_s3 pB1_s3 pG1_s3 pL1_s3 ⊢
 refine wpAnyL_one (i := 18) (o := _) rfl (by kernel_rfl) (by rfl) (fun K hK => ?_)
 go_simp
 refine hK.out _ _ (fun h => absurd h (by decide)) ?_
 clear hK K
 try simp only [Act.put, sT, sZ, sS]
 obtain ⟨wd6, hwd6⟩ : ∃ x, x = wd5 := ⟨_, rfl⟩
 subst hwd6
 refine wpAnyL_one (i := 19) (o := _) rfl (by kernel_rfl) (by rfl) (fun K hK => ?_)
 have st := cell_of hm4 4
 have fr := free_of hm4 4
 simp at st
 have hm5 := set_in hm4 4 (.slice aB1 B.length cB1)
 simp at hm5
 have B5x := B4x.setCell (p := ⟨w.heap.size, 4, none⟩) (Nat.le_refl _) (.slice aB1 B.length cB1)
 have hz5 : w1.heap.size ≤ (wd6.setCell ⟨w.heap.size, 4, none⟩ (.slice aB1 B.length cB1)).heap.size := by simp [World.setCell]; exact hz4
 have kz5 := (heap_set_other wd6 ⟨w.heap.size, 4, none⟩ (.slice aB1 B.length cB1) (i := w.heap.size + 1) (by show w.heap.size ≠ w.heap.size + 1; omega)).trans kz4
 have pP1_s4 := pP1_s3.set (p := ⟨w.heap.size, 4, none⟩) yM (.slice aB1 B.length cB1)
 have pB1_s4 := pB1_s3.set (p := ⟨w.heap.size, 4, none⟩) yM (.slice aB1 B.length cB1)
 have pG1_s4 := pG1_s3.set (p := ⟨w.heap.size, 4, none⟩) yM (.slice aB1 B.length cB1)
 have pL1_s4 := pL1_s3.set (p := ⟨w.heap.size, 4, none⟩) yM (.slice aB1 B.length cB1)
 clear hm4 B4x hz4 kz4 pP1_s3 pB1_s3 pG1_s3 pL1_s3
 go_simp
 refine hK.out _ _ (fun h => absurd h (by decide)) ?_
 clear hK K
 try simp only [Act.put, sT, sZ, sS]
 clear st fr
 generalize wd6.setCell ⟨w.heap.size, 4, none⟩ (.slice aB1 B.length cB1) = wd7 at hm5 B5x hz5 kz5 pP1_s4 pB1_s4 pG1_s4 pL1_s4 ⊢
 refine wpAnyL_one (i := 20) (o := _) rfl (by kernel_rfl) (by rfl) (fun K hK => ?_)
 go_simp
 refine hK.out _ _ (fun h => absurd h (by decide)) ?_
 clear hK K
 try simp only [Act.put, sT, sZ, sS]
 obtain ⟨wd8, hwd8⟩ : ∃ x, x = wd7 := ⟨_, rfl⟩
 subst hwd8
 refine wpAnyL_one (i := 21) (o := _) rfl (by kernel_rfl) (by rfl) (fun K hK => ?_)
 have st := cell_of hm5 5
 have fr := free_of hm5 5
 simp at st
 have hm6 := set_in hm5 5 (.slice aG1 G.length cG1)
 simp at hm6
 have B6x := B5x.setCell (p := ⟨w.heap.size, 5, none⟩) (Nat.le_refl _) (.slice aG1 G.length cG1)
 have hz6 : w1.heap.size ≤ (wd8.setCell ⟨w.heap.size, 5, none⟩ (.slice aG1 G.length cG1)).heap.size := by simp [World.setCell]; exact hz5
 have kz6 := (heap_set_other wd8 ⟨w.heap.size, 5, none⟩ (.slice aG1 G.length cG1) (i := w.heap.size + 1) (by show w.heap.size ≠ w.heap.size + 1; omega)).trans kz5
 have pP1_s5 := pP1_s4.set (p := ⟨w.heap.size, 5, none⟩) yM (.slice aG1 G.length cG1)
 have pB1_s5 := pB1_s4.set (p := ⟨w.heap.size, 5, none⟩) yM (.slice aG1 G.length cG1)
 have pG1_s5 := pG1_s4.set (p := ⟨w.heap.size, 5, none⟩) yM (.slice aG1 G.length cG1)
 have pL1_s5 := pL1_s4.set (p := ⟨w.heap.size, 5, none⟩) yM (.slice aG1 G.length cG1)
 clear hm5 B5x hz5 kz5 pP1_s4 pB1_s4 pG1_s4 pL1_s4
 go_simp
 refine hK.out _ _ (fun h => absurd h (by decide)) ?_
 clear hK K
 try simp only [Act.put, sT, sZ, sS]
 clear st fr
 generalize wd8.setCell ⟨w.heap.size, 5, none⟩ (.slice aG1 G.length cG1) = wd9 at hm6 B6x hz6 kz6 pP1_s5 pB1_s5 pG1_s5 pL1_s5 ⊢
 refine wpAnyL_one (i := 22) (o := _) rfl (by kernel_rfl) (by rfl) (fun K hK => ?_)
 go_simp
 refine hK.out _ _ (fun h => absurd h (by decide)) ?_
 clear hK K
 try simp only [Act.put, sT, sZ, sS]
 obtain ⟨wd10, hwd10⟩ : ∃ x, x = wd9 := ⟨_, rfl⟩
 subst hwd10
 refine wpAnyL_one (i := 23) (o := _) rfl (by kernel_rfl) (by rfl) (fun K hK => ?_)
 have st := cell_of hm6 6
 have fr := free_of hm6 6
 simp at st
 have hm7 := set_in hm6 6 (.slice aL1 l.length cL1)
 simp at hm7
 have B7x := B6x.setCell (p := ⟨w.heap.size, 6, none⟩) (Nat.le_refl _) (.slice aL1 l.length cL1)
 have hz7 : w1.heap.size ≤ (wd10.setCell ⟨w.heap.size, 6, none⟩ (.slice aL1 l.length cL1)).heap.size := by simp [World.setCell]; exact hz6
 have kz7 := (heap_set_other wd10 ⟨w.heap.size, 6, none⟩ (.slice aL1 l.length cL1) (i := w.heap.size + 1) (by show w.heap.size ≠ w.heap.size + 1; omega)).trans kz6
 have pP1_s6 := pP1_s5.set (p := ⟨w.heap.size, 6, none⟩) yM (.slice aL1 l.length cL1)
 have pB1_s6 := pB1_s5.set (p := ⟨w.heap.size, 6, none⟩) yM (.slice aL1 l.length cL1)
 have pG1_s6 := pG1_s5.set (p := ⟨w.heap.size, 6, none⟩) yM (.slice aL1 l.length cL1)
 have pL1_s6 := pL1_s5.set (p := ⟨w.heap.size, 6, none⟩) yM (.slice aL1 l.length cL1)
 clear hm6 B6x hz6 kz6 pP1_s5 pB1_s5 pG1_s5 pL1_s5
 go_simp
 refine hK.out _ _ (fun h => absurd h (by decide)) ?_
 clear hK K
 try simp only [Act.put, sT, sZ, sS]
 clear st fr
 generalize wd10.setCell ⟨w.heap.size, 6, none⟩ (.slice aL1 l.length cL1) = wd11 at hm7 B7x hz7 kz7 pP1_s6 pB1_s6 pG1_s6 pL1_s6 ⊢
 refine wpAnyL_done (by kernel_rfl) ?_ _
 have g0 := cell_of hm7 0
 have g1 := cell_of hm7 1
 have g2 := cell_of hm7 2
 have g3 := cell_of hm7 3
 have g4 := cell_of hm7 4
 have g5 := cell_of hm7 5
 have g6 := cell_of hm7 6
 simp at g0 g1 g2 g3 g4 g5 g6
 have st0 := cell_of kz7 0
 have fr0 := free_of kz7 0
 have st1 := cell_of kz7 1
 have fr1 := free_of kz7 1
 have st2 := cell_of kz7 2
 have fr2 := free_of kz7 2
 have st3 := cell_of kz7 3
 have fr3 := free_of kz7 3
 have st4 := cell_of kz7 4
 have fr4 := free_of kz7 4
 have st5 := cell_of kz7 5
 have fr5 := free_of kz7 5
 have st6 := cell_of kz7 6
 have fr6 := free_of kz7 6
 simp at st0 st1 st2 st3 st4 st5 st6
 have BE := (((((((B7x).setCell (p := ⟨w.heap.size + 1, 0, none⟩) (by simp) (.int .i64 c)).setCell (p := ⟨w.heap.size + 1, 1, none⟩) (by simp) (.int .i64 R)).setCell (p := ⟨w.heap.size + 1, 2, none⟩) (by simp) (.int .i64 kc)).setCell (p := ⟨w.heap.size + 1, 3, none⟩) (by simp) (.slice aP1 P.length cP1)).setCell (p := ⟨w.heap.size + 1, 4, none⟩) (by simp) (.slice aB1 B.length cB1)).setCell (p := ⟨w.heap.size + 1, 5, none⟩) (by simp) (.slice aG1 G.length cG1)).setCell (p := ⟨w.heap.size + 1, 6, none⟩) (by simp) (.slice aL1 l.length cL1)
 have KE := set_in (set_in (set_in (set_in (set_in (set_in (set_in (kz7) 0 (.int .i64 c)) 1 (.int .i64 R)) 2 (.int .i64 kc)) 3 (.slice aP1 P.length cP1)) 4 (.slice aB1 B.length cB1)) 5 (.slice aG1 G.length cG1)) 6 (.slice aL1 l.length cL1)
 have r0 := cell_of KE 0
 have r1 := cell_of KE 1
 have r2 := cell_of KE 2
 have r3 := cell_of KE 3
 have r4 := cell_of KE 4
 have r5 := cell_of KE 5
 have r6 := cell_of KE 6
 simp at r0 r1 r2 r3 r4 r5 r6
 have x1 := (((((((pP1_s6).set (p := ⟨w.heap.size + 1, 0, none⟩) yZ (.int .i64 c)).set (p := ⟨w.heap.size + 1, 1, none⟩) yZ (.int .i64 R)).set (p := ⟨w.heap.size + 1, 2, none⟩) yZ (.int .i64 kc)).set (p := ⟨w.heap.size + 1, 3, none⟩) yZ (.slice aP1 P.length cP1)).set (p := ⟨w.heap.size + 1, 4, none⟩) yZ (.slice aB1 B.length cB1)).set (p := ⟨w.heap.size + 1, 5, none⟩) yZ (.slice aG1 G.length cG1)).set (p := ⟨w.heap.size + 1, 6, none⟩) yZ (.slice aL1 l.length cL1)
 have x2 := (((((((pB1_s6).set (p := ⟨w.heap.size + 1, 0, none⟩) yZ (.int .i64 c)).set (p := ⟨w.heap.size + 1, 1, none⟩) yZ (.int .i64 R)).set (p := ⟨w.heap.size + 1, 2, none⟩) yZ (.int .i64 kc)).set (p := ⟨w.heap.size + 1, 3, none⟩) yZ (.slice aP1 P.length cP1)).set (p := ⟨w.heap.size + 1, 4, none⟩) yZ (.slice aB1 B.length cB1)).set (p := ⟨w.heap.size + 1, 5, none⟩) yZ (.slice aG1 G.length cG1)).set (p := ⟨w.heap.size + 1, 6, none⟩) yZ (.slice aL1 l.length cL1)
 have x3 := (((((((pG1_s6).set (p := ⟨w.heap.size + 1, 0, none⟩) yZ (.int .i64 c)).set (p := ⟨w.heap.size + 1, 1, none⟩) yZ (.int .i64 R)).set (p := ⟨w.heap.size + 1, 2, none⟩) yZ (.int .i64 kc)).set (p := ⟨w.heap.size + 1, 3, none⟩) yZ (.slice aP1 P.length cP1)).set (p := ⟨w.heap.size + 1, 4, none⟩) yZ (.slice aB1 B.length cB1)).set (p := ⟨w.heap.size + 1, 5, none⟩) yZ (.slice aG1 G.length cG1)).set (p := ⟨w.heap.size + 1, 6, none⟩) yZ (.slice aL1 l.length cL1)
 have x4 := (((((((pL1_s6).set (p := ⟨w.heap.size + 1, 0, none⟩) yZ (.int .i64 c)).set (p := ⟨w.heap.size + 1, 1, none⟩) yZ (.int .i64 R)).set (p := ⟨w.heap.size + 1, 2, none⟩) yZ (.int .i64 kc)).set (p := ⟨w.heap.size + 1, 3, none⟩) yZ (.slice aP1 P.length cP1)).set (p := ⟨w.heap.size + 1, 4, none⟩) yZ (.slice aB1 B.length cB1)).set (p := ⟨w.heap.size + 1, 5, none⟩) yZ (.slice aG1 G.length cG1)).set (p := ⟨w.heap.size + 1, 6, none⟩) yZ (.slice aL1 l.length cL1)
 have hle := b1.size
 have HEND := hide (show HIm (fun i => w.heap.size ≤ i) ((((((((wd11).setCell ⟨w.heap.size + 1, 0, none⟩ (.int .i64 c)).setCell ⟨w.heap.size + 1, 1, none⟩ (.int .i64 R)).setCell ⟨w.heap.size + 1, 2, none⟩ (.int .i64 kc)).setCell ⟨w.heap.size + 1, 3, none⟩ (.slice aP1 P.length cP1)).setCell ⟨w.heap.size + 1, 4, none⟩ (.slice aB1 B.length cB1)).setCell ⟨w.heap.size + 1, 5, none⟩ (.slice aG1 G.length cG1)).setCell ⟨w.heap.size + 1, 6, none⟩ (.slice aL1 l.length cL1)) aP1 aB1 aG1 aL1 cP1 cB1 cG1 cL1 ⟨c, R, kc, P, B, G, l⟩ from ⟨HInts.wide (ints_row x1.row) (fun i h _ => Nat.le_trans hle h), HInts.wide (ints_row x2.row) (fun i h _ => Nat.le_trans hle h), HInts.wide (ints_row x3.row) (fun i h _ => Nat.le_trans hle h), HRow.wide x4.row (fun i h _ => Nat.le_trans hle h), HWd.out⟩)
 clear KE x1 x2 x3 x4 hle
 go_wp2
 exact bodyPost_ret (v := .agg #[.int .i64 c, .int .i64 R, .int .i64 kc, .slice aP1 P.length cP1, .slice aB1 B.length cB1, .slice aG1 G.length cG1, .slice aL1 l.length cL1]) (by simp [results, Tryd.results8, go_sem, r0, r1, r2, r3, r4, r5, r6]) rfl ⟨⟨_, _, _, _, _, _, _, _, rfl, HEND.out, BE⟩⟩
set_option maxHeartbeats 16000000 in
theorem sameRows19_same {ok ok' : Nat → Prop} {w : World} {u v : Value} {L : List (List Int)} (hu : HRow kLL ok w u L) (hv : HRow kLL ok' w v L) :
  Calls Tryd.prog 19 #[u, v] w fun e w' => e = .returned (.bool true) ∧ Below w.heap.size w w' := by
 obtain ⟨aU, cU, rfl, hu1, hu2, -⟩ := hu.llAt
 obtain ⟨aV, cV, rfl, hv1, hv2, -⟩ := hv.llAt
 unfold maxLen at hu2 hv2
 have HU := hide hu
 have HV := hide hv
 obtain ⟨n, hn⟩ : ∃ n, n = L.length := ⟨_, rfl⟩
 rw [← hn] at hu1 hv1 ⊢
 have HN := hide hn
 clear hu hv hn
 go_enter Tryd.func19, Tryd.ntmps19
 go_wp2_with fail
 go_loopg [5] n (fun k v wr => ∃ (i : Nat), i ≤ n ∧ k = n - i ∧ v = .int .i64 (i : Nat) ∧ Below w.heap.size w wr)
 case atStart => exact ⟨0, Nat.zero_le _, rfl, rfl, Below.refl _ _⟩
 case round =>
  obtain ⟨i, hi, rfl, rfl, hbr⟩ := hrel
  by_cases hlt : i < n
  case neg =>
   have hin : i = n := by omega
   subst hin
   go_wp2
   go_ret
   exact ⟨rfl, hbr⟩
  case pos =>
   have hil : i < L.length := by have := HN.out; omega
   obtain ⟨ao1, cp1, e1, -, -, hat1⟩ := (HU.out.under hbr).llAt
   injection e1 with q1 q2 q3
   obtain ⟨b1, o1, v1, hb1, y1, x1, hi1⟩ := hat1 i hil
   rw [hb1] at q1
   subst q1
   obtain ⟨ao2, cp2, e2, -, -, hat2⟩ := (HV.out.under hbr).llAt
   injection e2 with r1 r2 r3
   obtain ⟨b2, o2, v2, hb2, y2, x2, hi2⟩ := hat2 i hil
   rw [hb2] at r1
   subst r1
   have HC := hide (fun (W : World) (b : Below wr.heap.size wr W) => sameLongs_same (hi1.under b) (hi2.under b))
   clear hat1 hat2 q2 q3 r2 r3 hb1 hb2 hi1 hi2 hil
   go_upto_region 6 with fail
   refine wp_region_late (fun w' => Below wr.heap.size wr w') (fun _ => false) (by kernel_rfl) ?_
   have hH0 : Below wr.heap.size wr wr.drew := (Below.refl _ _).drew
   generalize wr.drew = wd0 at hH0 ⊢
   refine' wpAnyL_take (i := 0) (oi := ⟨some 17, _, _, _, _, _⟩) (v := _) rfl (by kernel_rfl) (by kernel_rfl) (by kernel_rfl) (by kernel_rfl) (fun _ _ _ h => h) hH0 (by rfl) ?hyv ?o14
   case hyv =>
    intro wz hSw
    go_simp
    try rfl
   try simp only [Act.put, sT, sZ, sS]
   refine' wpAnyL_take (i := 1) (oi := ⟨some 18, _, _, _, _, _⟩) (v := _) rfl (by kernel_rfl) (by kernel_rfl) (by kernel_rfl) (by kernel_rfl) (fun _ _ _ h => h) hH0 (by rfl) ?hyv ?o15
   case hyv =>
    intro wz hSw
    go_simp
    try rfl
   try simp only [Act.put, sT, sZ, sS]
   refine' wpAnyL_take (i := 2) (oi := ⟨some 19, _, _, _, _, _⟩) (v := _) rfl (by kernel_rfl) (by kernel_rfl) (by kernel_rfl) (by kernel_rfl) (fun _ _ _ h => h) hH0 (by rfl) ?hyv ?o16
   case hyv =>
    intro wz hSw
    go_simp
    try rfl
   try simp only [Act.put, sT, sZ, sS]
   refine' wpAnyL_take (i := 3) (oi := ⟨some 20, _, _, _, _, _⟩) (v := _) rfl (by kernel_rfl) (by kernel_rfl) (by kernel_rfl) (by kernel_rfl) (fun _ _ _ h => h) hH0 (by rfl) ?hyv ?o17
   case hyv =>
    intro wz hSw
    have zc0 := (hSw.cell (p := ⟨b1, o1 + i, none⟩) y1).trans x1
    have zc1 := (hSw.cell (p := ⟨b2, o2 + i, none⟩) y2).trans x2
    go_simp
    try rfl
   try simp only [Act.put, sT, sZ, sS]
   refine' wpAnyL_take (i := 4) (oi := ⟨some 21, _, _, _, _, _⟩) (v := _) rfl (by kernel_rfl) (by kernel_rfl) (by kernel_rfl) (by kernel_rfl) (fun _ _ _ h => h) hH0 (by rfl) ?hyv ?o18
   case hyv =>
    intro wz hSw
    go_simp
    try rfl
   try simp only [Act.put, sT, sZ, sS]
   refine' wpAnyL_take (i := 5) (oi := ⟨some 22, _, _, _, _, _⟩) (v := _) rfl (by kernel_rfl) (by kernel_rfl) (by kernel_rfl) (by kernel_rfl) (fun _ _ _ h => h) hH0 (by rfl) ?hyv ?o19
   case hyv =>
    intro wz hSw
    go_simp
    try rfl
   try simp only [Act.put, sT, sZ, sS]
   refine' wpAnyL_take (i := 6) (oi := ⟨some 23, _, _, _, _, _⟩) (v := _) rfl (by kernel_rfl) (by kernel_rfl) (by kernel_rfl) (by kernel_rfl) (fun _ _ _ h => h) hH0 (by rfl) ?hyv ?o20
   case hyv =>
    intro wz hSw
    go_simp
    try rfl
   try simp only [Act.put, sT, sZ, sS]
   refine' wpAnyL_take (i := 7) (oi := ⟨some 24, _, _, _, _, _⟩) (v := _) rfl (by kernel_rfl) (by kernel_rfl) (by kernel_rfl) (by kernel_rfl) (fun _ _ _ h => h) hH0 (by rfl) ?hyv ?o21
   case hyv =>
    intro wz hSw
    have zc0 := (hSw.cell (p := ⟨b1, o1 + i, none⟩) y1).trans x1
    have zc1 := (hSw.cell (p := ⟨b2, o2 + i, none⟩) y2).trans x2
    go_simp
    try rfl
   try simp only [Act.put, sT, sZ, sS]
   refine wpAnyL_one (i := 8) (o := _) rfl (by kernel_rfl) (by rfl) (fun K hK => ?_)
   go_simp
   refine (HC.out wd0 hH0).mono ?_
   rintro eq wd1 ⟨rfl, bq1⟩
   have hH1 : Below wr.heap.size wr wd1 := hH0.trans (bq1.mono hH0.size)
   refine hK.out _ _ (fun _ => hH1) ?_
   clear hK K
   try simp only [Act.put, sT, sZ, sS]
   refine' wpAnyL_take (i := 9) (oi := ⟨some 26, _, _, _, _, _⟩) (v := _) rfl (by kernel_rfl) (by kernel_rfl) (by kernel_rfl) (by kernel_rfl) (fun _ _ _ h => h) hH1 (by rfl) ?hyv ?o22
   case hyv =>
    intro wz hSw
    go_simp
    try rfl
   try simp only [Act.put, sT, sZ, sS]
   refine wpAnyL_done (by kernel_rfl) ?_ _
   clear x1 x2 HC
   have BE := hbr.trans (hH1.mono hbr.size)
   go_wp2_with fail
   go_roundg (n - (i + 1))
   case measure => omega
   case rel => exact ⟨i + 1, by omega, rfl, by go_num, BE⟩
set_option maxHeartbeats 16000000 in
theorem copyRows11_any {ok : Nat → Prop} {w : World} {u : Value} {L : List (List Int)} (hu : HRow kLL ok w u L) (h60 : L.length ≤ 60) (hlen : ∀ l ∈ L, l.length ≤ 1000000) :
  Calls Tryd.prog 9 #[u] w fun e w' => ∃ a c, e = .returned (.slice a L.length c) ∧ HRow kLL (fun i => w.heap.size ≤ i) w' (.slice a L.length c) L ∧ Below w.heap.size w w' := by
 obtain ⟨aU, cU, rfl, hu1, hu2, -⟩ := hu.llAt
 unfold maxLen at hu2
 have HU := hide hu
 have HLen := hide hlen
 obtain ⟨n, hn⟩ : ∃ n, n = L.length := ⟨_, rfl⟩
 rw [← hn] at hu1 h60 ⊢
 have HN := hide hn
 clear hu hn hlen
 go_enter Tryd.func9, Tryd.ntmps9
 go_wp2_with fail
 go_loopg [3, 4] n (fun k v3 v4 wr => ∃ (i : Nat) (a : Option Addr) (c : Nat), i ≤ n ∧ k = n - i ∧ v3 = .slice a i c ∧ v4 = .int .i64 (i : Nat) ∧ Hid (OwnL kLL w.heap.size wr (.slice a i c) (L.take i)) ∧ Below w.heap.size w wr)
 case atStart => exact ⟨0, none, 0, Nat.zero_le _, rfl, rfl, rfl, hide OwnL.nil, Below.refl _ _⟩
 case round =>
  obtain ⟨i, aX, cX, hi, rfl, rfl, rfl, HO, hbr⟩ := hrel
  by_cases hlt : i < n
  case neg =>
   have hin : i = n := by omega
   subst hin
   have HR := hide (show HRow kLL (fun j => w.heap.size ≤ j) wr (.slice aX i cX) L by
    have h := HO.out.row
    rw [List.take_of_length_le (by have := HN.out; omega)] at h
    exact h)
   have HB := hide hbr
   clear HO hbr
   go_wp2
   go_ret
   exact ⟨_, _, rfl, HR.out, HB.out⟩
  case pos =>
   have hil : i < L.length := by have := HN.out; omega
   obtain ⟨ao1, cp1, e1, -, -, hat1⟩ := (HU.out.under hbr).llAt
   injection e1 with q1 q2 q3
   obtain ⟨b1, o1, v1, hb1, y1, x1, hi1⟩ := hat1 i hil
   rw [hb1] at q1
   subst q1
   obtain ⟨s, hs⟩ : ∃ s, s = L[i] := ⟨_, rfl⟩
   have hsl := HLen.out s (by rw [hs]; exact List.getElem_mem hil)
   have HTN := hide (show L.take (i + 1) = L.take i ++ [s] by rw [List.take_succ_eq_append_getElem hil, hs])
   rw [← hs] at hi1
   have hlM : (L.take i).length = i := by rw [List.length_take]; omega
   have HON := hide (show ∀ k, (Value.slice aX i cX).ownBlock = some k → w.heap.size ≤ k ∧ k < wr.heap.size from HO.out.lt)
   have HLM := hide hlM
   have q5 : ((L.take i).length + 1) * 24 ≤ 140737488355328 := by rw [hlM]; omega
   have q6 : (L.take i).length + 1 ≤ maxLen := by rw [hlM]; unfold maxLen; omega
   obtain ⟨a5, c5, w5, r5, o5, b5⟩ := nil_join kLong (w := wr) 40 40 Tryd.underlying40 (show HRow kLong ok wr v1 s from hi1) (fun _ _ _ _ _ h => h) (by show s.length * 8 ≤ _; omega) (by unfold maxLen; omega)
   have HOWc := hide (HO.out.below b5)
   have HE := hide (show kLL.E (fun j => wr.heap.size ≤ j) w5 [.slice a5 s.length c5] s from ⟨_, rfl, longs_row o5.row⟩)
   have zB := hbr.size
   have zC := Nat.le_trans zB b5.size
   have B5 := hide (hbr.trans (b5.mono hbr.size))
   have HNb := hide (fun k (e : (Value.slice aX i cX).ownBlock = some k) => (HON.out k e).2)
   clear hat1 q2 q3 hb1 hs hi1 hlM HON o5 b5 hil HO
   go_wp2_with (at_builtin; first | (refine wpList_joinO rfl _ _ 40 rfl _ _ _ (by rfl) (by rfl) r5 ?_) | (refine wpList_more kLL rfl _ _ 26 40 rfl Tryd.underlying26 w.heap.size wr.heap.size _ (L.take i) (by rfl) HOWc.out [.slice a5 s.length c5] s HE.out (by rfl) HNb.out zB zC q5 q6 ?_; intro v8 w8 own8 b8 _ _; obtain ⟨a8, c8, e8, -, -⟩ := own8.form; rw [List.length_append, HLM.out, List.length_singleton] at e8; subst e8; rw [← HTN.out] at own8; have HO8 := hide own8; have HB8 := hide b8; clear own8 b8))
   have BE := B5.out.trans HB8.out
   go_roundg (n - (i + 1))
   case measure => omega
   case rel => exact ⟨i + 1, a8, c8, by omega, rfl, rfl, by go_num, HO8, BE⟩
set_option maxHeartbeats 8000000 in
theorem begin17_any {w : World} {nc : Nat} {R ko : Int} {aP aB aG aL : Option Addr} {np nb ng nl cP cB cG cL : Nat} (h6 : nc ≤ 6000) :
  Calls Tryd.prog 12 #[.agg #[.int .i64 (nc : Int), .int .i64 R, .int .i64 ko, .slice aP np cP, .slice aB nb cB, .slice aG ng cG, .slice aL nl cL]] w fun e w' => ∃ gb cb, e = .returned (.pointer (some ⟨gb, 0, none⟩)) ∧ GAt w' gb cb nc nc (.int .i64 (nc : Int)) (.int .i64 R) (.int .i64 ko) (.slice aP np cP) (.slice aB nb cB) (.slice aG ng cG) (.slice aL nl cL) 0 ∧ LB w' cb (List.replicate nc 0) ∧ w.heap.size ≤ cb ∧ cb < gb ∧ Below w.heap.size w w' := by
 have b1 : Below w.heap.size w (w.alloc (.cells #[.int .i64 (nc : Int), .int .i64 R, .int .i64 ko, .slice aP np cP, .slice aB nb cB, .slice aG ng cG, .slice aL nl cL] 25 (0, 0))) := (Below.refl _ _).alloc (Nat.le_refl _) _
 have kR := heap_new w (.cells #[.int .i64 (nc : Int), .int .i64 R, .int .i64 ko, .slice aP np cP, .slice aB nb cB, .slice aG ng cG, .slice aL nl cL] 25 (0, 0))
 obtain ⟨LZ, hLZ⟩ : ∃ LZ, LZ = ((List.replicate nc (0 : Int)).map (Value.int .i64)).toArray := ⟨_, rfl⟩
 have HLZ := hide hLZ
 have HMK := hide (fun V => make_longs nc nc (Nat.le_refl _) (by omega) V)
 clear hLZ
 go_enter Tryd.func12, Tryd.ntmps12
 go_upto_region 1 with fail
 generalize w.alloc (.cells #[.int .i64 (nc : Int), .int .i64 R, .int .i64 ko, .slice aP np cP, .slice aB nb cB, .slice aG ng cG, .slice aL nl cL] 25 (0, 0)) = w1 at b1 kR ⊢
 have c0 := cell_of kR 0
 have c1 := cell_of kR 1
 have c2 := cell_of kR 2
 have c3 := cell_of kR 3
 have c4 := cell_of kR 4
 have c5 := cell_of kR 5
 have c6 := cell_of kR 6
 simp at c0 c1 c2 c3 c4 c5 c6
 have yR := lt_of kR
 refine wp_region_late (fun w' => Below w1.heap.size w1 w') (fun _ => false) (by kernel_rfl) ?_
 have hH0 : Below w1.heap.size w1 w1.drew := (Below.refl _ _).drew
 generalize w1.drew = wd0 at hH0 ⊢
 refine' wpAnyL_take (i := 0) (oi := ⟨some 3, _, _, _, _, _⟩) (v := _) rfl (by kernel_rfl) (by kernel_rfl) (by kernel_rfl) (by kernel_rfl) (fun _ _ _ h => h) hH0 (by rfl) ?hyv ?o23
 case hyv =>
  intro wz hSw
  have zc0 := (hSw.cell (p := ⟨w.heap.size, 0, none⟩) yR).trans c0
  have zc1 := (hSw.cell (p := ⟨w.heap.size, 1, none⟩) yR).trans c1
  have zc2 := (hSw.cell (p := ⟨w.heap.size, 2, none⟩) yR).trans c2
  have zc3 := (hSw.cell (p := ⟨w.heap.size, 3, none⟩) yR).trans c3
  have zc4 := (hSw.cell (p := ⟨w.heap.size, 4, none⟩) yR).trans c4
  have zc5 := (hSw.cell (p := ⟨w.heap.size, 5, none⟩) yR).trans c5
  have zc6 := (hSw.cell (p := ⟨w.heap.size, 6, none⟩) yR).trans c6
  go_simp
  try rfl
 try simp only [Act.put, sT, sZ, sS]
 refine' wpAnyL_take (i := 1) (oi := ⟨some 4, _, _, _, _, _⟩) (v := _) rfl (by kernel_rfl) (by kernel_rfl) (by kernel_rfl) (by kernel_rfl) (fun _ _ _ h => h) hH0 (by rfl) ?hyv ?o24
 case hyv =>
  intro wz hSw
  go_simp
  try rfl
 try simp only [Act.put, sT, sZ, sS]
 refine' wpAnyL_take (i := 2) (oi := ⟨some 5, _, _, _, _, _⟩) (v := _) rfl (by kernel_rfl) (by kernel_rfl) (by kernel_rfl) (by kernel_rfl) (fun _ _ _ h => h) hH0 (by rfl) ?hyv ?o25
 case hyv =>
  intro wz hSw
  have zc0 := (hSw.cell (p := ⟨w.heap.size, 0, none⟩) yR).trans c0
  have zc1 := (hSw.cell (p := ⟨w.heap.size, 1, none⟩) yR).trans c1
  have zc2 := (hSw.cell (p := ⟨w.heap.size, 2, none⟩) yR).trans c2
  have zc3 := (hSw.cell (p := ⟨w.heap.size, 3, none⟩) yR).trans c3
  have zc4 := (hSw.cell (p := ⟨w.heap.size, 4, none⟩) yR).trans c4
  have zc5 := (hSw.cell (p := ⟨w.heap.size, 5, none⟩) yR).trans c5
  have zc6 := (hSw.cell (p := ⟨w.heap.size, 6, none⟩) yR).trans c6
  go_simp
  try rfl
 try simp only [Act.put, sT, sZ, sS]
 refine wpAnyL_one (i := 3) (o := _) rfl (by kernel_rfl) (by rfl) (fun K hK => ?_)
 have hmk1 := HMK.out wd0; rw [← HLZ.out] at hmk1; go_simp
 have hH1 : Below w1.heap.size w1 (wd0.alloc (.cells LZ 2 (0, 0))) := hH0.alloc hH0.size _
 have kn1 := heap_new wd0 (.cells LZ 2 (0, 0))
 have zn1 := hH0.size
 refine hK.out _ _ (fun _ => hH1) ?_
 clear hK K
 try simp only [Act.put, sT, sZ, sS]
 generalize wd0.alloc (.cells LZ 2 (0, 0)) = wd1 at hH1 kn1 ⊢
 clear hmk1
 refine' wpAnyL_take (i := 4) (oi := ⟨some 7, _, _, _, _, _⟩) (v := _) rfl (by kernel_rfl) (by kernel_rfl) (by kernel_rfl) (by kernel_rfl) (fun _ _ _ h => h) hH1 (by rfl) ?hyv ?o26
 case hyv =>
  intro wz hSw
  go_simp
  try rfl
 try simp only [Act.put, sT, sZ, sS]
 refine wpAnyL_one (i := 5) (o := _) rfl (by kernel_rfl) (by rfl) (fun K hK => ?_)
 go_simp
 have hH2 : Below w1.heap.size w1 (wd1.alloc (.cells #[.int .i64 (nc : Int), .int .i64 R, .int .i64 ko, .slice aP np cP, .slice aB nb cB, .slice aG ng cG, .slice aL nl cL, .slice (some ⟨wd0.heap.size, 0, none⟩) nc nc, .int .i64 0] 46 (0, 0))) := hH1.alloc hH1.size _
 have kn2 := heap_new wd1 (.cells #[.int .i64 (nc : Int), .int .i64 R, .int .i64 ko, .slice aP np cP, .slice aB nb cB, .slice aG ng cG, .slice aL nl cL, .slice (some ⟨wd0.heap.size, 0, none⟩) nc nc, .int .i64 0] 46 (0, 0))
 have zn2 := hH1.size
 refine hK.out _ _ (fun _ => hH2) ?_
 clear hK K
 try simp only [Act.put, sT, sZ, sS]
 have ne2_kn1 := lt_of kn1
 have kn1_2 := (Below.heap_alloc wd1 (.cells #[.int .i64 (nc : Int), .int .i64 R, .int .i64 ko, .slice aP np cP, .slice aB nb cB, .slice aG ng cG, .slice aL nl cL, .slice (some ⟨wd0.heap.size, 0, none⟩) nc nc, .int .i64 0] 46 (0, 0)) _ (lt_of kn1)).trans kn1
 generalize wd1.alloc (.cells #[.int .i64 (nc : Int), .int .i64 R, .int .i64 ko, .slice aP np cP, .slice aB nb cB, .slice aG ng cG, .slice aL nl cL, .slice (some ⟨wd0.heap.size, 0, none⟩) nc nc, .int .i64 0] 46 (0, 0)) = wd2 at hH2 kn2 kn1_2 ⊢
 refine' wpAnyL_take (i := 6) (oi := ⟨some 2, _, _, _, _, _⟩) (v := _) rfl (by kernel_rfl) (by kernel_rfl) (by kernel_rfl) (by kernel_rfl) (fun _ _ _ h => h) hH2 (by rfl) ?hyv ?o27
 case hyv =>
  intro wz hSw
  go_simp
  try rfl
 try simp only [Act.put, sT, sZ, sS]
 refine wpAnyL_done (by kernel_rfl) ?_ _
 have hlx : LB wd2 wd0.heap.size (List.replicate nc 0) := by
  unfold LB
  rw [kn1_2, HLZ.out]
 have HLX := hide hlx
 have KM := hide kn2
 have lt1 : wd0.heap.size < wd1.heap.size := lt_of kn1
 have z0 : w.heap.size ≤ wd0.heap.size := Nat.le_trans b1.size (by omega)
 have BE := b1.trans (hH2.mono b1.size)
 clear hlx
 go_wp2
 go_ret
 exact ⟨_, _, rfl, KM.out, HLX.out, z0, lt1, BE⟩
end Go.Proofs.YtkgbmgpdehmiiaaDoor
