import Derived.Test.YtbiomnnlpafciaaDoorT32
import Derived.WalkKit
import Derived.WalkSpells
import Derived.IntWalk
import Derived.Deep.Cut
import Derived.Deep.LoopGhost
import Derived.Laws.Cover1
import Derived.Lib.Hide
set_option linter.unusedVariables false
set_option linter.unusedSimpArgs false
set_option maxHeartbeats 64000000
set_option maxRecDepth 100000
namespace Go.Proofs.YtbiomnnlpafciaaDoor
open Go.RowKit Go.IntWalk
set_option linter.unusedVariables false
set_option linter.unusedSimpArgs false
namespace Lo
theorem bars_one (c k n t : Int) (F E : List Pu) : (!bars c ⟨1, k, n, t, F, E⟩) = (hasN c t 1 && treeOK c 1 E) := by
  have e1 : turns ⟨1, k, n, t, F, E⟩ = 1 := rfl
  have e2 : made ⟨1, k, n, t, F, E⟩ = 1 := rfl
  have e3 : folds ⟨1, k, n, t, F, E⟩ = false := rfl
  unfold bars
  rw [e1, e2, e3]
  dsimp only
  rw [if_neg (by decide), if_neg (by decide)]
  cases hasN c t 1 <;> cases treeOK c 1 E <;> simp
theorem bars_out (c op k n t : Int) (F E : List Pu) (h1 : op ≠ 1) (h : op < 1 ∨ 4 < op ∨ n < 1 ∨ 300 < n) : (!bars c ⟨op, k, n, t, F, E⟩) = false := by
  simp only [bars, turns]
  rw [if_neg h1]
  by_cases h2 : op < 1 ∨ 4 < op
  · rw [if_pos h2]; rfl
  · rw [if_neg h2, if_pos (by omega)]; rfl
theorem bars_in (c op k n t : Int) (F E : List Pu) (h1 : op ≠ 1) (h : 1 ≤ op ∧ op ≤ 4) (hn : 1 ≤ n ∧ n ≤ 300) : (!bars c ⟨op, k, n, t, F, E⟩) = (treeOK c n E && (hasN c t (if op = 3 then 1 else n) && ((op == 2) || (((Kd.opT k).2.2 == 2) && treeOK c 1 F)))) := by
  simp only [bars, turns, made, folds]
  rw [if_neg h1, if_neg (by omega), if_neg (by omega)]
  have e : (op == 2) = !((op == 3) || (op == 4)) := by
    have : op = 2 ∨ op = 3 ∨ op = 4 := by omega
    rcases this with rfl | rfl | rfl <;> rfl
  rw [e]
  cases treeOK c n E <;> cases hasN c t (if op = 3 then 1 else n) <;> cases ((op == 3) || (op == 4)) <;> cases ((Kd.opT k).2.2 == 2) <;> cases treeOK c 1 F <;> rfl
end Lo
set_option maxHeartbeats 32000000 in
theorem loopOK27_any {ok : Nat → Prop} {w : World} (c op k n t : Int) {aP aG aS : Option Addr} {nP nG nS cP cG cS : Nat} {F E : List Pu} {aF aE : Option Addr} {nF cF nE cE : Nat} (hF : HPu ok w (.slice aF nF cF) F) (hE : HPu ok w (.slice aE nE cE) E) (hc : 1 ≤ c ∧ c ≤ 6000) : Calls Tryd.prog 32 #[Value.agg #[.int .i64 c, .slice aP nP cP, .slice aG nG cG, .slice aS nS cS], .agg #[.int .i64 op, .int .i64 k, .int .i64 n, .int .i64 t, .slice aF nF cF, .slice aE nE cE]] w fun e w' => e = .returned (.bool (!Lo.bars c ⟨op, k, n, t, F, E⟩)) ∧ Below w.heap.size w w' := by
  have b1 : Below w.heap.size w ((w.alloc (.cells #[.int .i64 c, .slice aP nP cP, .slice aG nG cG, .slice aS nS cS] 25 (0, 0))).alloc (.cells #[.int .i64 op, .int .i64 k, .int .i64 n, .int .i64 t, .slice aF nF cF, .slice aE nE cE] 62 (0, 0))) := ((Below.refl _ _).alloc (Nat.le_refl _) _).alloc (by simp) _
  have kL : (((w.alloc (.cells #[.int .i64 c, .slice aP nP cP, .slice aG nG cG, .slice aS nS cS] 25 (0, 0))).alloc (.cells #[.int .i64 op, .int .i64 k, .int .i64 n, .int .i64 t, .slice aF nF cF, .slice aE nE cE] 62 (0, 0)))).heap[w.heap.size]? = some (.cells #[.int .i64 c, .slice aP nP cP, .slice aG nG cG, .slice aS nS cS] 25 (0, 0)) := (Below.heap_alloc _ _ _ (by simp)).trans (heap_new w _)
  have kS : (((w.alloc (.cells #[.int .i64 c, .slice aP nP cP, .slice aG nG cG, .slice aS nS cS] 25 (0, 0))).alloc (.cells #[.int .i64 op, .int .i64 k, .int .i64 n, .int .i64 t, .slice aF nF cF, .slice aE nE cE] 62 (0, 0)))).heap[w.heap.size + 1]? = some (.cells #[.int .i64 op, .int .i64 k, .int .i64 n, .int .i64 t, .slice aF nF cF, .slice aE nE cE] 62 (0, 0)) := by
    have := heap_new (w.alloc (.cells #[.int .i64 c, .slice aP nP cP, .slice aG nG cG, .slice aS nS cS] 25 (0, 0))) (.cells #[.int .i64 op, .int .i64 k, .int .i64 n, .int .i64 t, .slice aF nF cF, .slice aE nE cE] 62 (0, 0))
    simpa using this
  obtain ⟨R, hR⟩ : ∃ R, R = (!Lo.bars c ⟨op, k, n, t, F, E⟩) := ⟨_, rfl⟩
  rw [← hR]
  have HT := hide (fun v n W => there26_any c v n (aP := aP) (aG := aG) (aS := aS) (nP := nP) (nG := nG) (nS := nS) (cP := cP) (cG := cG) (cS := cS) W hc)
  have HPE := hide (fun n (h : 1 ≤ n ∧ n ≤ 300) W (b : Below w.heap.size w W) => plainTree42_any c n (aP := aP) (aG := aG) (aS := aS) (nP := nP) (nG := nG) (nS := nS) (cP := cP) (cG := cG) (cS := cS) (hE.under b) hc h)
  have HPF := hide (fun W (b : Below w.heap.size w W) => plainTree42_any c 1 (aP := aP) (aG := aG) (aS := aS) (nP := nP) (nG := nG) (nS := nS) (cP := cP) (cG := cG) (cS := cS) (hF.under b) hc ⟨by decide, by decide⟩)
  have HO := hide (fun W => refOp_any k W)
  clear hF hE hc
  by_cases h1 : op = 1
  case pos =>
    subst h1
    have hq := hR.trans (Lo.bars_one c k n t F E)
    have hc1 := HT.out t 1
    rw [Lo.there_has (by decide)] at hc1
    have hc2 := HPE.out 1 ⟨by decide, by decide⟩
    generalize Lo.hasN c t 1 = qh at hc1 hq
    generalize Lo.treeOK c 1 E = qt at hc2 hq
    have HQ := hide hq
    have HC1 := hide hc1
    have HC2 := hide hc2
    clear hR hq hc1 hc2 HT HPE HPF HO
    go_enter Tryd.func32, Tryd.ntmps32
    go_upto_region 1 with fail
    generalize ((w.alloc (.cells #[.int .i64 c, .slice aP nP cP, .slice aG nG cG, .slice aS nS cS] 25 (0, 0))).alloc (.cells #[.int .i64 1, .int .i64 k, .int .i64 n, .int .i64 t, .slice aF nF cF, .slice aE nE cE] 62 (0, 0))) = w1 at b1 kL kS ⊢
    have s0 := cell_of kS 0
    have s1 := cell_of kS 1
    have s2 := cell_of kS 2
    have s3 := cell_of kS 3
    have s4 := cell_of kS 4
    have s5 := cell_of kS 5
    have l0 := cell_of kL 0
    have l1 := cell_of kL 1
    have l2 := cell_of kL 2
    have l3 := cell_of kL 3
    simp at s0 s1 s2 s3 s4 s5 l0 l1 l2 l3
    cases qh
    case false =>
      have HZ := hide (show R = false by rw [HQ.out]; rfl)
      clear HQ
      go_wp2_with (go_at_call 31; refine (HC1.out _).mono ?_; rintro e w2 ⟨rfl, b2⟩)
      go_ret
      exact ⟨by rw [HZ.out]; rfl, b1.trans (b2.mono b1.size)⟩
    case true =>
      have HZ := hide (show R = qt by rw [HQ.out]; rfl)
      clear HQ
      go_wp2_with (first | (go_at_call 31; refine (HC1.out _).mono ?_; rintro e w2 ⟨rfl, b2⟩; have s0 := (b2.cell (p := ⟨w.heap.size + 1, 0, none⟩) (lt_of kS)).trans s0; have s4 := (b2.cell (p := ⟨w.heap.size + 1, 4, none⟩) (lt_of kS)).trans s4; have s5 := (b2.cell (p := ⟨w.heap.size + 1, 5, none⟩) (lt_of kS)).trans s5; have l0 := (b2.cell (p := ⟨w.heap.size, 0, none⟩) (lt_of kL)).trans l0; have l1 := (b2.cell (p := ⟨w.heap.size, 1, none⟩) (lt_of kL)).trans l1; have l2 := (b2.cell (p := ⟨w.heap.size, 2, none⟩) (lt_of kL)).trans l2; have l3 := (b2.cell (p := ⟨w.heap.size, 3, none⟩) (lt_of kL)).trans l3) | (go_at_call 58; refine (HC2.out _ (b1.trans (b2.mono b1.size))).mono ?_; rintro e w3 ⟨rfl, b3⟩))
      go_ret
      exact ⟨by rw [HZ.out]; rfl, (b1.trans (b2.mono b1.size)).trans (b3.mono (b1.trans (b2.mono b1.size)).size)⟩
  case neg =>
    have f1 : (op == 1) = false := by simpa using h1
    by_cases ho1 : op < 1
    case pos =>
      have HZ := hide (hR.trans (Lo.bars_out c op k n t F E h1 (.inl ho1)))
      clear hR HT HPE HPF HO
      go_enter Tryd.func32, Tryd.ntmps32
      go_wp2
      go_ret
      exact ⟨by rw [HZ.out]; rfl, b1⟩
    by_cases ho4 : 4 < op
    case pos =>
      have HZ := hide (hR.trans (Lo.bars_out c op k n t F E h1 (.inr (.inl ho4))))
      clear hR HT HPE HPF HO
      go_enter Tryd.func32, Tryd.ntmps32
      go_wp2
      go_ret
      exact ⟨by rw [HZ.out]; rfl, b1⟩
    by_cases hn1 : n < 1
    case pos =>
      have HZ := hide (hR.trans (Lo.bars_out c op k n t F E h1 (.inr (.inr (.inl hn1)))))
      clear hR HT HPE HPF HO
      go_enter Tryd.func32, Tryd.ntmps32
      go_wp2
      go_ret
      exact ⟨by rw [HZ.out]; rfl, b1⟩
    by_cases hn3 : 300 < n
    case pos =>
      have HZ := hide (hR.trans (Lo.bars_out c op k n t F E h1 (.inr (.inr (.inr hn3)))))
      clear hR HT HPE HPF HO
      go_enter Tryd.func32, Tryd.ntmps32
      go_wp2
      go_ret
      exact ⟨by rw [HZ.out]; rfl, b1⟩
    have hn : 1 ≤ n ∧ n ≤ 300 := by omega
    have hq := hR.trans (Lo.bars_in c op k n t F E h1 (by omega) hn)
    have hc1 := HT.out t (if op = 3 then 1 else n)
    rw [Lo.there_has (by split <;> omega)] at hc1
    have hc2 := HPE.out n hn
    have hc3 := HPF.out
    have ho := HO.out
    generalize Lo.hasN c t (if op = 3 then 1 else n) = qh at hc1 hq
    generalize Lo.treeOK c n E = qt at hc2 hq
    generalize Lo.treeOK c 1 F = qf at hc3 hq
    generalize Kd.opT k = q at ho hq
    obtain ⟨q1, q2, q3⟩ := q
    dsimp only at hq
    have HQ := hide hq
    have HC1 := hide hc1
    have HC2 := hide hc2
    have HC3 := hide hc3
    have HOk := hide ho
    clear hR hq hc1 hc2 hc3 ho HT HPE HPF HO hn
    go_enter Tryd.func32, Tryd.ntmps32
    go_upto_region 3 with fail
    generalize ((w.alloc (.cells #[.int .i64 c, .slice aP nP cP, .slice aG nG cG, .slice aS nS cS] 25 (0, 0))).alloc (.cells #[.int .i64 op, .int .i64 k, .int .i64 n, .int .i64 t, .slice aF nF cF, .slice aE nE cE] 62 (0, 0))) = w1 at b1 kL kS ⊢
    have s0 := cell_of kS 0
    have s1 := cell_of kS 1
    have s2 := cell_of kS 2
    have s3 := cell_of kS 3
    have s4 := cell_of kS 4
    have s5 := cell_of kS 5
    have l0 := cell_of kL 0
    have l1 := cell_of kL 1
    have l2 := cell_of kL 2
    have l3 := cell_of kL 3
    simp at s0 s1 s2 s3 s4 s5 l0 l1 l2 l3
    cases qt
    case false =>
      have HZ := hide (show R = false by rw [HQ.out]; rfl)
      clear HQ
      go_wp2_with (go_at_call 58; refine (HC2.out _ b1).mono ?_; rintro e w2 ⟨rfl, b2⟩)
      go_ret
      exact ⟨by rw [HZ.out]; rfl, b1.trans (b2.mono b1.size)⟩
    have HQ2 := hide (HQ.out.trans (Bool.true_and _))
    clear HQ
    go_upto_region 5 with (go_at_call 58; refine (HC2.out _ b1).mono ?_; rintro e w2 ⟨rfl, b2⟩)
    have B2 := b1.trans (b2.mono b1.size)
    have kL2 := (b2.block _ (lt_of kL)).trans kL
    have kS2 := (b2.block _ (lt_of kS)).trans kS
    clear HC2 s0 s1 s2 s3 s4 s5 l0 l1 l2 l3 kL kS b1 b2
    have s0 := cell_of kS2 0
    have s1 := cell_of kS2 1
    have s2 := cell_of kS2 2
    have s3 := cell_of kS2 3
    have s4 := cell_of kS2 4
    have s5 := cell_of kS2 5
    have l0 := cell_of kL2 0
    have l1 := cell_of kL2 1
    have l2 := cell_of kL2 2
    have l3 := cell_of kL2 3
    simp at s0 s1 s2 s3 s4 s5 l0 l1 l2 l3
    obtain ⟨m, hm⟩ : ∃ m, m = (if op = 3 then 1 else n) := ⟨_, rfl⟩
    rw [← hm] at HC1
    have HM := hide hm
    clear hm
    go_upto_if 53 with fail
    go_cut [5] (fun v wd => v = .int .i64 m ∧ wd = w2)
    case first =>
      by_cases h3 : op = 3
      case pos =>
        have f3 : (op == 3) = true := by simpa using h3
        have HM2 := hide (show m = 1 by rw [HM.out, if_pos h3])
        clear HM h3
        go_wp2
        go_meet
        case rel => exact ⟨by rw [HM2.out], rfl⟩
      case neg =>
        have f3 : (op == 3) = false := by simpa using h3
        have HM2 := hide (show m = n by rw [HM.out, if_neg h3])
        clear HM h3
        go_wp2
        go_meet
        case rel => exact ⟨by rw [HM2.out], rfl⟩
    case rest =>
      obtain ⟨rfl, rfl⟩ := hcut
      clear HM
      go_upto_region 9 with (go_at_call 59; refine (HOk.out _).mono ?_; rintro e w3 ⟨rfl, b3⟩)
      have B3 := B2.trans (b3.mono B2.size)
      have kL3 := (b3.block _ (lt_of kL2)).trans kL2
      have kS3 := (b3.block _ (lt_of kS2)).trans kS2
      clear HOk s0 s1 s2 s3 s4 s5 l0 l1 l2 l3 kL2 kS2 B2 b3
      have s0 := cell_of kS3 0
      have s1 := cell_of kS3 1
      have s2 := cell_of kS3 2
      have s3 := cell_of kS3 3
      have s4 := cell_of kS3 4
      have s5 := cell_of kS3 5
      have l0 := cell_of kL3 0
      have l1 := cell_of kL3 1
      have l2 := cell_of kL3 2
      have l3 := cell_of kL3 3
      simp at s0 s1 s2 s3 s4 s5 l0 l1 l2 l3
      cases qh
      case false =>
        have HZ := hide (show R = false by rw [HQ2.out]; rfl)
        clear HQ2
        go_wp2_with (go_at_call 31; refine (HC1.out _).mono ?_; rintro e w4 ⟨rfl, b4⟩)
        go_ret
        exact ⟨by rw [HZ.out]; rfl, B3.trans (b4.mono B3.size)⟩
      by_cases h2 : (op == 2) = true
      case pos =>
        have HZ := hide (show R = true by rw [HQ2.out, h2]; rfl)
        clear HQ2
        go_wp2_with (go_at_call 31; refine (HC1.out _).mono ?_; rintro e w4 ⟨rfl, b4⟩; have s0 := (b4.cell (p := ⟨w.heap.size + 1, 0, none⟩) (lt_of kS3)).trans s0; have s4 := (b4.cell (p := ⟨w.heap.size + 1, 4, none⟩) (lt_of kS3)).trans s4; have s5 := (b4.cell (p := ⟨w.heap.size + 1, 5, none⟩) (lt_of kS3)).trans s5; have l0 := (b4.cell (p := ⟨w.heap.size, 0, none⟩) (lt_of kL3)).trans l0; have l1 := (b4.cell (p := ⟨w.heap.size, 1, none⟩) (lt_of kL3)).trans l1; have l2 := (b4.cell (p := ⟨w.heap.size, 2, none⟩) (lt_of kL3)).trans l2; have l3 := (b4.cell (p := ⟨w.heap.size, 3, none⟩) (lt_of kL3)).trans l3)
        go_ret
        exact ⟨by rw [HZ.out]; rfl, B3.trans (b4.mono B3.size)⟩
      have h2 : (op == 2) = false := by simpa using h2
      by_cases hk : (q3 == 2) = true
      case neg =>
        have hk : (q3 == 2) = false := by simpa using hk
        have HZ := hide (show R = false by rw [HQ2.out, h2, hk]; rfl)
        clear HQ2
        go_wp2_with (go_at_call 31; refine (HC1.out _).mono ?_; rintro e w4 ⟨rfl, b4⟩; have s0 := (b4.cell (p := ⟨w.heap.size + 1, 0, none⟩) (lt_of kS3)).trans s0; have s4 := (b4.cell (p := ⟨w.heap.size + 1, 4, none⟩) (lt_of kS3)).trans s4; have s5 := (b4.cell (p := ⟨w.heap.size + 1, 5, none⟩) (lt_of kS3)).trans s5; have l0 := (b4.cell (p := ⟨w.heap.size, 0, none⟩) (lt_of kL3)).trans l0; have l1 := (b4.cell (p := ⟨w.heap.size, 1, none⟩) (lt_of kL3)).trans l1; have l2 := (b4.cell (p := ⟨w.heap.size, 2, none⟩) (lt_of kL3)).trans l2; have l3 := (b4.cell (p := ⟨w.heap.size, 3, none⟩) (lt_of kL3)).trans l3)
        go_ret
        exact ⟨by rw [HZ.out]; rfl, B3.trans (b4.mono B3.size)⟩
      case pos =>
        have HZ := hide (show R = qf by rw [HQ2.out, h2, hk]; rfl)
        clear HQ2
        go_wp2_with (first | (go_at_call 31; refine (HC1.out _).mono ?_; rintro e w4 ⟨rfl, b4⟩; have s0 := (b4.cell (p := ⟨w.heap.size + 1, 0, none⟩) (lt_of kS3)).trans s0; have s4 := (b4.cell (p := ⟨w.heap.size + 1, 4, none⟩) (lt_of kS3)).trans s4; have s5 := (b4.cell (p := ⟨w.heap.size + 1, 5, none⟩) (lt_of kS3)).trans s5; have l0 := (b4.cell (p := ⟨w.heap.size, 0, none⟩) (lt_of kL3)).trans l0; have l1 := (b4.cell (p := ⟨w.heap.size, 1, none⟩) (lt_of kL3)).trans l1; have l2 := (b4.cell (p := ⟨w.heap.size, 2, none⟩) (lt_of kL3)).trans l2; have l3 := (b4.cell (p := ⟨w.heap.size, 3, none⟩) (lt_of kL3)).trans l3) | (go_at_call 58; refine (HC3.out _ (B3.trans (b4.mono B3.size))).mono ?_; rintro e w5 ⟨rfl, b5⟩))
        go_ret
        exact ⟨by rw [HZ.out]; rfl, (B3.trans (b4.mono B3.size)).trans (b5.mono (B3.trans (b4.mono B3.size)).size)⟩
end Go.Proofs.YtbiomnnlpafciaaDoor
