import Derived.Test.YtkgbmgpdehmiiaaDoorY11
import Derived.WalkKit
import Derived.WalkSpells
import Derived.IntWalk
import Derived.Deep.Cut
import Derived.Deep.LoopGhost
import Derived.Laws.Cover1
import Derived.Lib.Hide
set_option linter.unusedVariables false
set_option linter.unusedSimpArgs false
set_option maxHeartbeats 64000000
set_option maxRecDepth 100000
namespace Go.Proofs.YtkgbmgpdehmiiaaDoor
open Go.RowKit Go.IntWalk
set_option linter.unusedVariables false
set_option linter.unusedSimpArgs false
theorem bne_refl {n : Nat} : ((n : Int) != n) = false := by simp
set_option maxHeartbeats 16000000 in
theorem sameImage12_any {ok ok' : Nat → Prop} {w : World} {aP aB aG aL dP dB dG dL : Option Addr} {ap ab ag al dp db dg dl : Nat} {m : Cd.Im} (hm : HIm ok w aP aB aG aL ap ab ag al m) (hd : HIm ok' w dP dB dG dL dp db dg dl m) : Calls Tryd.prog 18 #[.agg #[.int .i64 m.c, .int .i64 m.R, .int .i64 m.cost, .slice aP m.P.length ap, .slice aB m.B.length ab, .slice aG m.G.length ag, .slice aL m.l.length al], .agg #[.int .i64 m.c, .int .i64 m.R, .int .i64 m.cost, .slice dP m.P.length dp, .slice dB m.B.length db, .slice dG m.G.length dg, .slice dL m.l.length dl]] w fun e w' => e = .returned (.bool true) ∧ Below w.heap.size w w' := by
  obtain ⟨c, R, kc, P, B, G, l⟩ := m
  obtain ⟨hP, hB, hG, hL, -⟩ := hm
  obtain ⟨eP, eB, eG, eL, -⟩ := hd
  dsimp only at hP hB hG hL eP eB eG eL ⊢
  have hs : ∀ {u v : Value} {x : List Int} (h1 : HInts ok w u x) (h2 : HInts ok' w v x) W, Below w.heap.size w W → Calls Tryd.prog 33 #[u, v] W fun e w' => e = .returned (.bool true) ∧ Below W.heap.size W w' := fun {u v x} h1 h2 W b => by
    have h := sameInts_any (h1.under b) (h2.under b)
    exact h.mono fun e w' h => by
      obtain ⟨rfl, m, rfl⟩ := h
      exact ⟨by rw [(eqL_ieq x x).2 rfl], drewN_below (Below.refl _ _) m⟩
  have HsP := hide (hs hP eP)
  have HsB := hide (hs hB eB)
  have HsG := hide (hs hG eG)
  have HL := hide hL
  have EL := hide eL
  obtain ⟨zA, zC, -, zc1, zc2, -⟩ := hL.at
  have hnm : l.length ≤ 9223372036854775807 := by unfold maxLen at zc2; omega
  clear zc1 zc2
  clear hs hP hB hG hL eP eB eG eL
  have b1 : Below w.heap.size w ((w.alloc (.cells #[.int .i64 c, .int .i64 R, .int .i64 kc, .slice aP P.length ap, .slice aB B.length ab, .slice aG G.length ag, .slice aL l.length al] 25 (0, 0))).alloc (.cells #[.int .i64 c, .int .i64 R, .int .i64 kc, .slice dP P.length dp, .slice dB B.length db, .slice dG G.length dg, .slice dL l.length dl] 25 (0, 0))) := ((Below.refl _ _).alloc (Nat.le_refl _) _).alloc (by simp) _
  have kA : (((w.alloc (.cells #[.int .i64 c, .int .i64 R, .int .i64 kc, .slice aP P.length ap, .slice aB B.length ab, .slice aG G.length ag, .slice aL l.length al] 25 (0, 0))).alloc (.cells #[.int .i64 c, .int .i64 R, .int .i64 kc, .slice dP P.length dp, .slice dB B.length db, .slice dG G.length dg, .slice dL l.length dl] 25 (0, 0)))).heap[w.heap.size]? = some (.cells #[.int .i64 c, .int .i64 R, .int .i64 kc, .slice aP P.length ap, .slice aB B.length ab, .slice aG G.length ag, .slice aL l.length al] 25 (0, 0)) := (Below.heap_alloc _ _ _ (by simp)).trans (heap_new w _)
  have kB : (((w.alloc (.cells #[.int .i64 c, .int .i64 R, .int .i64 kc, .slice aP P.length ap, .slice aB B.length ab, .slice aG G.length ag, .slice aL l.length al] 25 (0, 0))).alloc (.cells #[.int .i64 c, .int .i64 R, .int .i64 kc, .slice dP P.length dp, .slice dB B.length db, .slice dG G.length dg, .slice dL l.length dl] 25 (0, 0)))).heap[w.heap.size + 1]? = some (.cells #[.int .i64 c, .int .i64 R, .int .i64 kc, .slice dP P.length dp, .slice dB B.length db, .slice dG G.length dg, .slice dL l.length dl] 25 (0, 0)) := by
    have := heap_new (w.alloc (.cells #[.int .i64 c, .int .i64 R, .int .i64 kc, .slice aP P.length ap, .slice aB B.length ab, .slice aG G.length ag, .slice aL l.length al] 25 (0, 0))) (.cells #[.int .i64 c, .int .i64 R, .int .i64 kc, .slice dP P.length dp, .slice dB B.length db, .slice dG G.length dg, .slice dL l.length dl] 25 (0, 0))
    simpa using this
  obtain ⟨n, hn⟩ : ∃ n, n = l.length := ⟨_, rfl⟩
  rw [← hn] at b1 kA kB hnm ⊢
  have HN := hide hn
  clear hn
  go_enter Tryd.func18, Tryd.ntmps18
  go_upto_region 1 with fail
  generalize ((w.alloc (.cells #[.int .i64 c, .int .i64 R, .int .i64 kc, .slice aP P.length ap, .slice aB B.length ab, .slice aG G.length ag, .slice aL n al] 25 (0, 0))).alloc (.cells #[.int .i64 c, .int .i64 R, .int .i64 kc, .slice dP P.length dp, .slice dB B.length db, .slice dG G.length dg, .slice dL n dl] 25 (0, 0))) = w1 at b1 kA kB ⊢
  have s0 := cell_of kA 0
  have s1 := cell_of kA 1
  have s2 := cell_of kA 2
  have s3 := cell_of kA 3
  have s4 := cell_of kA 4
  have s5 := cell_of kA 5
  have s6 := cell_of kA 6
  have t0 := cell_of kB 0
  have t1 := cell_of kB 1
  have t2 := cell_of kB 2
  have t3 := cell_of kB 3
  have t4 := cell_of kB 4
  have t5 := cell_of kB 5
  have t6 := cell_of kB 6
  simp at s0 t0 s1 t1 s2 t2 s3 t3 s4 t4 s5 t5 s6 t6
  go_wp2_with fail
  refine (HsP.out w1 b1).mono ?_
  rintro e w2 ⟨rfl, b2⟩
  have B2 := b1.trans (b2.mono b1.size)
  have kA2 := (b2.block _ (lt_of kA)).trans kA
  have kB2 := (b2.block _ (lt_of kB)).trans kB
  clear s0 t0 s1 t1 s2 t2 s3 t3 s4 t4 s5 t5 s6 t6
  clear kA kB HsP
  have s0 := cell_of kA2 0
  have s1 := cell_of kA2 1
  have s2 := cell_of kA2 2
  have s3 := cell_of kA2 3
  have s4 := cell_of kA2 4
  have s5 := cell_of kA2 5
  have s6 := cell_of kA2 6
  have t0 := cell_of kB2 0
  have t1 := cell_of kB2 1
  have t2 := cell_of kB2 2
  have t3 := cell_of kB2 3
  have t4 := cell_of kB2 4
  have t5 := cell_of kB2 5
  have t6 := cell_of kB2 6
  simp at s0 t0 s1 t1 s2 t2 s3 t3 s4 t4 s5 t5 s6 t6
  go_wp2_with fail
  refine (HsB.out w2 B2).mono ?_
  rintro e w3 ⟨rfl, b3⟩
  have B3 := B2.trans (b3.mono B2.size)
  have kA3 := (b3.block _ (lt_of kA2)).trans kA2
  have kB3 := (b3.block _ (lt_of kB2)).trans kB2
  clear s0 t0 s1 t1 s2 t2 s3 t3 s4 t4 s5 t5 s6 t6
  clear kA2 kB2 HsB
  have s0 := cell_of kA3 0
  have s1 := cell_of kA3 1
  have s2 := cell_of kA3 2
  have s3 := cell_of kA3 3
  have s4 := cell_of kA3 4
  have s5 := cell_of kA3 5
  have s6 := cell_of kA3 6
  have t0 := cell_of kB3 0
  have t1 := cell_of kB3 1
  have t2 := cell_of kB3 2
  have t3 := cell_of kB3 3
  have t4 := cell_of kB3 4
  have t5 := cell_of kB3 5
  have t6 := cell_of kB3 6
  simp at s0 t0 s1 t1 s2 t2 s3 t3 s4 t4 s5 t5 s6 t6
  go_wp2_with fail
  refine (HsG.out w3 B3).mono ?_
  rintro e w4 ⟨rfl, b4⟩
  have B4 := B3.trans (b4.mono B3.size)
  have kA4 := (b4.block _ (lt_of kA3)).trans kA3
  have kB4 := (b4.block _ (lt_of kB3)).trans kB3
  clear s0 t0 s1 t1 s2 t2 s3 t3 s4 t4 s5 t5 s6 t6
  clear kA3 kB3 HsG
  have s0 := cell_of kA4 0
  have s1 := cell_of kA4 1
  have s2 := cell_of kA4 2
  have s3 := cell_of kA4 3
  have s4 := cell_of kA4 4
  have s5 := cell_of kA4 5
  have s6 := cell_of kA4 6
  have t0 := cell_of kB4 0
  have t1 := cell_of kB4 1
  have t2 := cell_of kB4 2
  have t3 := cell_of kB4 3
  have t4 := cell_of kB4 4
  have t5 := cell_of kB4 5
  have t6 := cell_of kB4 6
  simp at s0 t0 s1 t1 s2 t2 s3 t3 s4 t4 s5 t5 s6 t6
  have hbn : ((n : Int) != n) = false := bne_refl
  go_wp2_with fail
  go_loopg [5] n (fun k v wr => ∃ i, i ≤ n ∧ k = n - i ∧ v = .int .i64 (i : Nat) ∧ Below w4.heap.size w4 wr)
  case atStart => exact ⟨0, Nat.zero_le _, rfl, rfl, Below.refl _ _⟩
  case round =>
    clear s0 t0 s1 t1 s2 t2 s3 t3 s4 t4 s5 t5 s6 t6
    obtain ⟨i, hi, rfl, rfl, hbr⟩ := hrel
    have Br := B4.trans (hbr.mono B4.size)
    have kAr := (hbr.block _ (lt_of kA4)).trans kA4
    have kBr := (hbr.block _ (lt_of kB4)).trans kB4
    have s6 := cell_of kAr 6
    have t6 := cell_of kBr 6
    simp at s6 t6
    have yA := lt_of kAr
    have yB := lt_of kBr
    by_cases hlt : i < n
    case neg =>
      go_wp2
      go_ret
      exact ⟨rfl, Br⟩
    case pos =>
      have hil : i < l.length := by have := HN.out; omega
      obtain ⟨a1, c1, eq1, -, -, hat1⟩ := (HL.out.under Br).at
      injection eq1 with q1 q2 q3
      subst q1
      obtain ⟨bA, oA, rfl, hbA, ⟨e0, e1, e2, e3, e4, e5⟩⟩ := hat1 i hil
      obtain ⟨a2, c2, eq2, -, -, hat2⟩ := (EL.out.under Br).at
      injection eq2 with r1 r2 r3
      subst r1
      obtain ⟨bB, oB, rfl, hbB, ⟨f0, f1, f2, f3, f4, f5⟩⟩ := hat2 i hil
      generalize l[i] = x at e0 e1 e2 e3 e4 e5 f0 f1 f2 f3 f4 f5
      obtain ⟨op, k, r, a, b, m⟩ := x
      dsimp only at e0 e1 e2 e3 e4 e5 f0 f1 f2 f3 f4 f5
      clear hat1 hat2 q2 q3 r2 r3
      go_upto_region 6 with fail
      refine wp_region_late (fun w' => Below wr.heap.size wr w') (fun _ => false) (by kernel_rfl) ?_
      have hH0 : Below wr.heap.size wr wr.drew := (Below.refl _ _).drew
      generalize wr.drew = wd0 at hH0 ⊢
      refine' wpAnyL_take (i := 0) (oi := ⟨some 65, _, _, _, _, _⟩) (v := _) rfl (by kernel_rfl) (by kernel_rfl) (by kernel_rfl) (by kernel_rfl) (fun _ _ _ h => h) hH0 (by rfl) ?hyv ?o1
      case hyv =>
        intro wz hSw
        go_simp
        try rfl
      try simp only [Act.put, sT, sZ, sS]
      refine' wpAnyL_take (i := 1) (oi := ⟨some 66, _, _, _, _, _⟩) (v := _) rfl (by kernel_rfl) (by kernel_rfl) (by kernel_rfl) (by kernel_rfl) (fun _ _ _ h => h) hH0 (by rfl) ?hyv ?o2
      case hyv =>
        intro wz hSw
        have zc0 := (hSw.cell (p := ⟨w.heap.size, 6, none⟩) yA).trans s6
        have zc1 := (hSw.cell (p := ⟨w.heap.size + 1, 6, none⟩) yB).trans t6
        have zc2 := (hSw.cell (p := ⟨bA, oA + i * 6, none⟩) hbA).trans e0
        have zc3 := (hSw.cell (p := ⟨bA, oA + i * 6 + 1, none⟩) hbA).trans e1
        have zc4 := (hSw.cell (p := ⟨bA, oA + i * 6 + 2, none⟩) hbA).trans e2
        have zc5 := (hSw.cell (p := ⟨bA, oA + i * 6 + 3, none⟩) hbA).trans e3
        have zc6 := (hSw.cell (p := ⟨bA, oA + i * 6 + 4, none⟩) hbA).trans e4
        have zc7 := (hSw.cell (p := ⟨bA, oA + i * 6 + 5, none⟩) hbA).trans e5
        have zc8 := (hSw.cell (p := ⟨bB, oB + i * 6, none⟩) hbB).trans f0
        have zc9 := (hSw.cell (p := ⟨bB, oB + i * 6 + 1, none⟩) hbB).trans f1
        have zc10 := (hSw.cell (p := ⟨bB, oB + i * 6 + 2, none⟩) hbB).trans f2
        have zc11 := (hSw.cell (p := ⟨bB, oB + i * 6 + 3, none⟩) hbB).trans f3
        have zc12 := (hSw.cell (p := ⟨bB, oB + i * 6 + 4, none⟩) hbB).trans f4
        have zc13 := (hSw.cell (p := ⟨bB, oB + i * 6 + 5, none⟩) hbB).trans f5
        go_simp
        try rfl
      try simp only [Act.put, sT, sZ, sS]
      refine' wpAnyL_take (i := 2) (oi := ⟨some 67, _, _, _, _, _⟩) (v := _) rfl (by kernel_rfl) (by kernel_rfl) (by kernel_rfl) (by kernel_rfl) (fun _ _ _ h => h) hH0 (by rfl) ?hyv ?o3
      case hyv =>
        intro wz hSw
        go_simp
        try rfl
      try simp only [Act.put, sT, sZ, sS]
      refine' wpAnyL_take (i := 3) (oi := ⟨some 68, _, _, _, _, _⟩) (v := _) rfl (by kernel_rfl) (by kernel_rfl) (by kernel_rfl) (by kernel_rfl) (fun _ _ _ h => h) hH0 (by rfl) ?hyv ?o4
      case hyv =>
        intro wz hSw
        go_simp
        try rfl
      try simp only [Act.put, sT, sZ, sS]
      refine' wpAnyL_take (i := 4) (oi := ⟨some 69, _, _, _, _, _⟩) (v := _) rfl (by kernel_rfl) (by kernel_rfl) (by kernel_rfl) (by kernel_rfl) (fun _ _ _ h => h) hH0 (by rfl) ?hyv ?o5
      case hyv =>
        intro wz hSw
        have zc0 := (hSw.cell (p := ⟨w.heap.size, 6, none⟩) yA).trans s6
        have zc1 := (hSw.cell (p := ⟨w.heap.size + 1, 6, none⟩) yB).trans t6
        have zc2 := (hSw.cell (p := ⟨bA, oA + i * 6, none⟩) hbA).trans e0
        have zc3 := (hSw.cell (p := ⟨bA, oA + i * 6 + 1, none⟩) hbA).trans e1
        have zc4 := (hSw.cell (p := ⟨bA, oA + i * 6 + 2, none⟩) hbA).trans e2
        have zc5 := (hSw.cell (p := ⟨bA, oA + i * 6 + 3, none⟩) hbA).trans e3
        have zc6 := (hSw.cell (p := ⟨bA, oA + i * 6 + 4, none⟩) hbA).trans e4
        have zc7 := (hSw.cell (p := ⟨bA, oA + i * 6 + 5, none⟩) hbA).trans e5
        have zc8 := (hSw.cell (p := ⟨bB, oB + i * 6, none⟩) hbB).trans f0
        have zc9 := (hSw.cell (p := ⟨bB, oB + i * 6 + 1, none⟩) hbB).trans f1
        have zc10 := (hSw.cell (p := ⟨bB, oB + i * 6 + 2, none⟩) hbB).trans f2
        have zc11 := (hSw.cell (p := ⟨bB, oB + i * 6 + 3, none⟩) hbB).trans f3
        have zc12 := (hSw.cell (p := ⟨bB, oB + i * 6 + 4, none⟩) hbB).trans f4
        have zc13 := (hSw.cell (p := ⟨bB, oB + i * 6 + 5, none⟩) hbB).trans f5
        go_simp
        try rfl
      try simp only [Act.put, sT, sZ, sS]
      refine' wpAnyL_take (i := 5) (oi := ⟨some 70, _, _, _, _, _⟩) (v := _) rfl (by kernel_rfl) (by kernel_rfl) (by kernel_rfl) (by kernel_rfl) (fun _ _ _ h => h) hH0 (by rfl) ?hyv ?o6
      case hyv =>
        intro wz hSw
        go_simp
        try rfl
      try simp only [Act.put, sT, sZ, sS]
      refine' wpAnyL_take (i := 6) (oi := ⟨some 71, _, _, _, _, _⟩) (v := _) rfl (by kernel_rfl) (by kernel_rfl) (by kernel_rfl) (by kernel_rfl) (fun _ _ _ h => h) hH0 (by rfl) ?hyv ?o7
      case hyv =>
        intro wz hSw
        have zc0 := (hSw.cell (p := ⟨w.heap.size, 6, none⟩) yA).trans s6
        have zc1 := (hSw.cell (p := ⟨w.heap.size + 1, 6, none⟩) yB).trans t6
        have zc2 := (hSw.cell (p := ⟨bA, oA + i * 6, none⟩) hbA).trans e0
        have zc3 := (hSw.cell (p := ⟨bA, oA + i * 6 + 1, none⟩) hbA).trans e1
        have zc4 := (hSw.cell (p := ⟨bA, oA + i * 6 + 2, none⟩) hbA).trans e2
        have zc5 := (hSw.cell (p := ⟨bA, oA + i * 6 + 3, none⟩) hbA).trans e3
        have zc6 := (hSw.cell (p := ⟨bA, oA + i * 6 + 4, none⟩) hbA).trans e4
        have zc7 := (hSw.cell (p := ⟨bA, oA + i * 6 + 5, none⟩) hbA).trans e5
        have zc8 := (hSw.cell (p := ⟨bB, oB + i * 6, none⟩) hbB).trans f0
        have zc9 := (hSw.cell (p := ⟨bB, oB + i * 6 + 1, none⟩) hbB).trans f1
        have zc10 := (hSw.cell (p := ⟨bB, oB + i * 6 + 2, none⟩) hbB).trans f2
        have zc11 := (hSw.cell (p := ⟨bB, oB + i * 6 + 3, none⟩) hbB).trans f3
        have zc12 := (hSw.cell (p := ⟨bB, oB + i * 6 + 4, none⟩) hbB).trans f4
        have zc13 := (hSw.cell (p := ⟨bB, oB + i * 6 + 5, none⟩) hbB).trans f5
        go_simp
        try rfl
      try simp only [Act.put, sT, sZ, sS]
      refine' wpAnyL_take (i := 7) (oi := ⟨some 72, _, _, _, _, _⟩) (v := _) rfl (by kernel_rfl) (by kernel_rfl) (by kernel_rfl) (by kernel_rfl) (fun _ _ _ h => h) hH0 (by rfl) ?hyv ?o8
      case hyv =>
        intro wz hSw
        go_simp
        try rfl
      try simp only [Act.put, sT, sZ, sS]
      refine' wpAnyL_take (i := 8) (oi := ⟨some 73, _, _, _, _, _⟩) (v := _) rfl (by kernel_rfl) (by kernel_rfl) (by kernel_rfl) (by kernel_rfl) (fun _ _ _ h => h) hH0 (by rfl) ?hyv ?o9
      case hyv =>
        intro wz hSw
        go_simp
        try rfl
      try simp only [Act.put, sT, sZ, sS]
      refine' wpAnyL_take (i := 9) (oi := ⟨some 74, _, _, _, _, _⟩) (v := _) rfl (by kernel_rfl) (by kernel_rfl) (by kernel_rfl) (by kernel_rfl) (fun _ _ _ h => h) hH0 (by rfl) ?hyv ?o10
      case hyv =>
        intro wz hSw
        have zc0 := (hSw.cell (p := ⟨w.heap.size, 6, none⟩) yA).trans s6
        have zc1 := (hSw.cell (p := ⟨w.heap.size + 1, 6, none⟩) yB).trans t6
        have zc2 := (hSw.cell (p := ⟨bA, oA + i * 6, none⟩) hbA).trans e0
        have zc3 := (hSw.cell (p := ⟨bA, oA + i * 6 + 1, none⟩) hbA).trans e1
        have zc4 := (hSw.cell (p := ⟨bA, oA + i * 6 + 2, none⟩) hbA).trans e2
        have zc5 := (hSw.cell (p := ⟨bA, oA + i * 6 + 3, none⟩) hbA).trans e3
        have zc6 := (hSw.cell (p := ⟨bA, oA + i * 6 + 4, none⟩) hbA).trans e4
        have zc7 := (hSw.cell (p := ⟨bA, oA + i * 6 + 5, none⟩) hbA).trans e5
        have zc8 := (hSw.cell (p := ⟨bB, oB + i * 6, none⟩) hbB).trans f0
        have zc9 := (hSw.cell (p := ⟨bB, oB + i * 6 + 1, none⟩) hbB).trans f1
        have zc10 := (hSw.cell (p := ⟨bB, oB + i * 6 + 2, none⟩) hbB).trans f2
        have zc11 := (hSw.cell (p := ⟨bB, oB + i * 6 + 3, none⟩) hbB).trans f3
        have zc12 := (hSw.cell (p := ⟨bB, oB + i * 6 + 4, none⟩) hbB).trans f4
        have zc13 := (hSw.cell (p := ⟨bB, oB + i * 6 + 5, none⟩) hbB).trans f5
        go_simp
        try rfl
      try simp only [Act.put, sT, sZ, sS]
      refine' wpAnyL_take (i := 10) (oi := ⟨some 75, _, _, _, _, _⟩) (v := .bool false) rfl (by kernel_rfl) (by kernel_rfl) (by kernel_rfl) (by kernel_rfl) (fun _ _ _ h => h) hH0 (by rfl) ?hyv ?o11
      case hyv =>
        intro wz hSw
        go_simp
        try rfl
        try simp
      try simp only [Act.put, sT, sZ, sS]
      refine wpAnyL_done (by kernel_rfl) ?_ _
      go_wp2_with fail
      go_roundg (n - (i + 1))
      case measure => omega
      case rel => exact ⟨i + 1, by omega, rfl, by go_num, hbr.trans (hH0.mono hbr.size)⟩
end Go.Proofs.YtkgbmgpdehmiiaaDoor
