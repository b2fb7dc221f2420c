import Derived.Test.YtkgbmgpdehmiiaaDoorY27
import Derived.Test.YtkgbmgpdehmiiaaDoorY26
import Derived.Test.YtkgbmgpdehmiiaaDoorY19
import Derived.WalkKit
import Derived.WalkSpells
import Derived.IntWalk
import Derived.Deep.Cut
import Derived.Deep.LoopGhost
import Derived.Laws.Cover1
import Derived.Lib.Hide
set_option linter.unusedVariables false
set_option linter.unusedSimpArgs false
set_option maxHeartbeats 64000000
set_option maxRecDepth 100000
namespace Go.Proofs.YtkgbmgpdehmiiaaDoor
open Go.RowKit Go.IntWalk
set_option linter.unusedVariables false
set_option linter.unusedSimpArgs false
set_option maxHeartbeats 32000000 in
theorem image9_any {ok : Nat → Prop} {w : World} {aP aB aG aL : Option Addr} {cP cB cG cL : Nat} {m : Cd.Im} (hm : HIm ok w aP aB aG aL cP cB cG cL m) : Calls Tryd.prog 11 #[.agg #[.int .i64 m.c, .int .i64 m.R, .int .i64 m.cost, .slice aP m.P.length cP, .slice aB m.B.length cB, .slice aG m.G.length cG, .slice aL m.l.length cL]] w fun e w' => e = .returned (.agg #[.int .i64 (Cd.fault m).1, .int .i64 (Cd.fault m).2]) ∧ Below w.heap.size w w' := by
 obtain ⟨c, R, kc, P, B, G, l⟩ := m
 obtain ⟨hP, hB, hG, hL, -⟩ := hm
 dsimp only at hP hB hG hL ⊢
 unfold Cd.fault
 dsimp only
 have h11 := fun (W : World) (hlen : l.length ≤ 1000000) (b : Below w.heap.size w W) => costOf11_any (hL.under b) hlen
 generalize Cd.cost 10 11 l = C at h11 ⊢
 obtain ⟨nP, hnP⟩ : ∃ n, n = P.length := ⟨_, rfl⟩
 obtain ⟨nB, hnB⟩ : ∃ n, n = B.length := ⟨_, rfl⟩
 obtain ⟨nG, hnG⟩ : ∃ n, n = G.length := ⟨_, rfl⟩
 obtain ⟨nL, hnL⟩ : ∃ n, n = l.length := ⟨_, rfl⟩
 rw [← hnL] at h11
 rw [← hnP, ← hnB, ← hnG, ← hnL]
 obtain ⟨Q, hQ⟩ : ∃ Q : Int × Int, Q = (if c < 1 ∨ 6000 < c ∨ R < 1 ∨ 40 < R then (13, -1) else if 6000 < nP ∨ 6000 < nB ∨ 120000 < nG ∨ 200000 < nL then (7, -1) else if ([P, B, G].any fun z => z.any fun x => !Cd.has c x 1) = true then (16, -1) else if 0 ≤ Cd.idx (Cd.bars c R) 0 l then (4, Cd.idx (Cd.bars c R) 0 l) else if kc ≠ C ∨ (C = 0 ∧ 0 < nL) then (18, -1) else (0, 0)) := ⟨_, rfl⟩
 rw [← hQ]
 have HR := hide hQ
 have H11 := hide h11
 have HP := hide (show HInts ok w (.slice aP nP cP) P by rw [hnP]; exact hP)
 have HB := hide (show HInts ok w (.slice aB nB cB) B by rw [hnB]; exact hB)
 have HG := hide (show HInts ok w (.slice aG nG cG) G by rw [hnG]; exact hG)
 have HL := hide (show HIns ok w (.slice aL nL cL) l by rw [hnL]; exact hL)
 have HNP := hide hnP
 have HNB := hide hnB
 have HNG := hide hnG
 have HNL := hide hnL
 have h19 := fun (i : Cd.In) (W : World) (hc : 1 ≤ c ∧ c ≤ 6000) => ins19_any c R kc (aP := aP) (aB := aB) (aG := aG) (aL := aL) (nP := nP) (nB := nB) (nG := nG) (nL := nL) (cP := cP) (cB := cB) (cG := cG) (cL := cL) i W hc
 have H19 := hide h19
 have b1 : Below w.heap.size w ((w.alloc (.cells #[.int .i64 c, .int .i64 R, .int .i64 kc, .slice aP nP cP, .slice aB nB cB, .slice aG nG cG, .slice aL nL cL] 25 (0, 0))).alloc (.cells #[.int .i64 0, .int .i64 0] 34 (0, 0))) := ((Below.refl _ _).alloc (Nat.le_refl _) _).alloc (by simp) _
 have kM : (((w.alloc (.cells #[.int .i64 c, .int .i64 R, .int .i64 kc, .slice aP nP cP, .slice aB nB cB, .slice aG nG cG, .slice aL nL cL] 25 (0, 0))).alloc (.cells #[.int .i64 0, .int .i64 0] 34 (0, 0)))).heap[w.heap.size]? = some (.cells #[.int .i64 c, .int .i64 R, .int .i64 kc, .slice aP nP cP, .slice aB nB cB, .slice aG nG cG, .slice aL nL cL] 25 (0, 0)) := (Below.heap_alloc _ _ _ (by simp)).trans (heap_new w _)
 have kF : (((w.alloc (.cells #[.int .i64 c, .int .i64 R, .int .i64 kc, .slice aP nP cP, .slice aB nB cB, .slice aG nG cG, .slice aL nL cL] 25 (0, 0))).alloc (.cells #[.int .i64 0, .int .i64 0] 34 (0, 0)))).heap[w.heap.size + 1]? = some (.cells #[.int .i64 0, .int .i64 0] 34 (0, 0)) := by
  have := heap_new (w.alloc (.cells #[.int .i64 c, .int .i64 R, .int .i64 kc, .slice aP nP cP, .slice aB nB cB, .slice aG nG cG, .slice aL nL cL] 25 (0, 0))) (.cells #[.int .i64 0, .int .i64 0] 34 (0, 0))
  simpa using this
 clear h11 hQ hP hB hG hL hnP hnB hnG hnL h19
 go_enter Tryd.func11, Tryd.ntmps11
 go_upto_region 1 with fail
 generalize ((w.alloc (.cells #[.int .i64 c, .int .i64 R, .int .i64 kc, .slice aP nP cP, .slice aB nB cB, .slice aG nG cG, .slice aL nL cL] 25 (0, 0))).alloc (.cells #[.int .i64 0, .int .i64 0] 34 (0, 0))) = w1 at b1 kM kF ⊢
 have s0 := cell_of kM 0
 have s1 := cell_of kM 1
 have s2 := cell_of kM 2
 have s3 := cell_of kM 3
 have s4 := cell_of kM 4
 have s5 := cell_of kM 5
 have s6 := cell_of kM 6
 simp at s0 s1 s2 s3 s4 s5 s6
 by_cases h1 : c < 1
 case pos =>
  have HZ := hide (show Q = (13, (-1)) by rw [HR.out]; rw [if_pos (.inl h1)])
  clear HR
  go_wp2_with fail
  refine (f27_any _ _ _).mono ?_
  rintro e wf ⟨rfl, bf⟩
  have kFf := (bf.block _ (lt_of kF)).trans kF
  have BFf := b1.trans (bf.mono b1.size)
  have st0 := cell_of kFf 0
  have st1 := cell_of kFf 1
  have fr0 := free_of kFf 0
  have fr1 := free_of kFf 1
  simp at st0 st1
  have KR := set_in (set_in kFf 0 (.int .i64 13)) 1 (.int .i64 (-1))
  have r0 := cell_of KR 0
  have r1 := cell_of KR 1
  simp at r0 r1
  have BR := (BFf.setCell (p := ⟨w.heap.size + 1, 0, none⟩) (by simp) (.int .i64 13)).setCell (p := ⟨w.heap.size + 1, 1, none⟩) (by simp) (.int .i64 (-1))
  clear KR
  go_wp2
  exact bodyPost_ret (v := .agg #[.int .i64 13, .int .i64 (-1)]) (by simp [results, Tryd.results11, go_sem, r0, r1]) rfl ⟨by rw [HZ.out], BR⟩
 by_cases h2 : 6000 < c
 case pos =>
  have HZ := hide (show Q = (13, (-1)) by rw [HR.out]; rw [if_pos (.inr (.inl h2))])
  clear HR
  go_wp2_with fail
  refine (f27_any _ _ _).mono ?_
  rintro e wf ⟨rfl, bf⟩
  have kFf := (bf.block _ (lt_of kF)).trans kF
  have BFf := b1.trans (bf.mono b1.size)
  have st0 := cell_of kFf 0
  have st1 := cell_of kFf 1
  have fr0 := free_of kFf 0
  have fr1 := free_of kFf 1
  simp at st0 st1
  have KR := set_in (set_in kFf 0 (.int .i64 13)) 1 (.int .i64 (-1))
  have r0 := cell_of KR 0
  have r1 := cell_of KR 1
  simp at r0 r1
  have BR := (BFf.setCell (p := ⟨w.heap.size + 1, 0, none⟩) (by simp) (.int .i64 13)).setCell (p := ⟨w.heap.size + 1, 1, none⟩) (by simp) (.int .i64 (-1))
  clear KR
  go_wp2
  exact bodyPost_ret (v := .agg #[.int .i64 13, .int .i64 (-1)]) (by simp [results, Tryd.results11, go_sem, r0, r1]) rfl ⟨by rw [HZ.out], BR⟩
 by_cases h3 : R < 1
 case pos =>
  have HZ := hide (show Q = (13, (-1)) by rw [HR.out]; rw [if_pos (.inr (.inr (.inl h3)))])
  clear HR
  go_wp2_with fail
  refine (f27_any _ _ _).mono ?_
  rintro e wf ⟨rfl, bf⟩
  have kFf := (bf.block _ (lt_of kF)).trans kF
  have BFf := b1.trans (bf.mono b1.size)
  have st0 := cell_of kFf 0
  have st1 := cell_of kFf 1
  have fr0 := free_of kFf 0
  have fr1 := free_of kFf 1
  simp at st0 st1
  have KR := set_in (set_in kFf 0 (.int .i64 13)) 1 (.int .i64 (-1))
  have r0 := cell_of KR 0
  have r1 := cell_of KR 1
  simp at r0 r1
  have BR := (BFf.setCell (p := ⟨w.heap.size + 1, 0, none⟩) (by simp) (.int .i64 13)).setCell (p := ⟨w.heap.size + 1, 1, none⟩) (by simp) (.int .i64 (-1))
  clear KR
  go_wp2
  exact bodyPost_ret (v := .agg #[.int .i64 13, .int .i64 (-1)]) (by simp [results, Tryd.results11, go_sem, r0, r1]) rfl ⟨by rw [HZ.out], BR⟩
 by_cases h4 : 40 < R
 case pos =>
  have HZ := hide (show Q = (13, (-1)) by rw [HR.out]; rw [if_pos (.inr (.inr (.inr h4)))])
  clear HR
  go_wp2_with fail
  refine (f27_any _ _ _).mono ?_
  rintro e wf ⟨rfl, bf⟩
  have kFf := (bf.block _ (lt_of kF)).trans kF
  have BFf := b1.trans (bf.mono b1.size)
  have st0 := cell_of kFf 0
  have st1 := cell_of kFf 1
  have fr0 := free_of kFf 0
  have fr1 := free_of kFf 1
  simp at st0 st1
  have KR := set_in (set_in kFf 0 (.int .i64 13)) 1 (.int .i64 (-1))
  have r0 := cell_of KR 0
  have r1 := cell_of KR 1
  simp at r0 r1
  have BR := (BFf.setCell (p := ⟨w.heap.size + 1, 0, none⟩) (by simp) (.int .i64 13)).setCell (p := ⟨w.heap.size + 1, 1, none⟩) (by simp) (.int .i64 (-1))
  clear KR
  go_wp2
  exact bodyPost_ret (v := .agg #[.int .i64 13, .int .i64 (-1)]) (by simp [results, Tryd.results11, go_sem, r0, r1]) rfl ⟨by rw [HZ.out], BR⟩
 have hcc : 1 ≤ c ∧ c ≤ 6000 := by omega
 have HCC := hide hcc
 have HR1 := hide (HR.out.trans (if_neg (by omega)))
 clear HR hcc
 have HR := HR1
 clear HR1
 by_cases h5 : 6000 < nP
 case pos =>
  have HZ := hide (show Q = (7, (-1)) by rw [HR.out]; rw [if_pos (by omega)])
  clear HR
  go_wp2_with fail
  refine (f27_any _ _ _).mono ?_
  rintro e wf ⟨rfl, bf⟩
  have kFf := (bf.block _ (lt_of kF)).trans kF
  have BFf := b1.trans (bf.mono b1.size)
  have st0 := cell_of kFf 0
  have st1 := cell_of kFf 1
  have fr0 := free_of kFf 0
  have fr1 := free_of kFf 1
  simp at st0 st1
  have KR := set_in (set_in kFf 0 (.int .i64 7)) 1 (.int .i64 (-1))
  have r0 := cell_of KR 0
  have r1 := cell_of KR 1
  simp at r0 r1
  have BR := (BFf.setCell (p := ⟨w.heap.size + 1, 0, none⟩) (by simp) (.int .i64 7)).setCell (p := ⟨w.heap.size + 1, 1, none⟩) (by simp) (.int .i64 (-1))
  clear KR
  go_wp2
  exact bodyPost_ret (v := .agg #[.int .i64 7, .int .i64 (-1)]) (by simp [results, Tryd.results11, go_sem, r0, r1]) rfl ⟨by rw [HZ.out], BR⟩
 by_cases h6 : 6000 < nB
 case pos =>
  have HZ := hide (show Q = (7, (-1)) by rw [HR.out]; rw [if_pos (by omega)])
  clear HR
  go_wp2_with fail
  refine (f27_any _ _ _).mono ?_
  rintro e wf ⟨rfl, bf⟩
  have kFf := (bf.block _ (lt_of kF)).trans kF
  have BFf := b1.trans (bf.mono b1.size)
  have st0 := cell_of kFf 0
  have st1 := cell_of kFf 1
  have fr0 := free_of kFf 0
  have fr1 := free_of kFf 1
  simp at st0 st1
  have KR := set_in (set_in kFf 0 (.int .i64 7)) 1 (.int .i64 (-1))
  have r0 := cell_of KR 0
  have r1 := cell_of KR 1
  simp at r0 r1
  have BR := (BFf.setCell (p := ⟨w.heap.size + 1, 0, none⟩) (by simp) (.int .i64 7)).setCell (p := ⟨w.heap.size + 1, 1, none⟩) (by simp) (.int .i64 (-1))
  clear KR
  go_wp2
  exact bodyPost_ret (v := .agg #[.int .i64 7, .int .i64 (-1)]) (by simp [results, Tryd.results11, go_sem, r0, r1]) rfl ⟨by rw [HZ.out], BR⟩
 by_cases h7 : 120000 < nG
 case pos =>
  have HZ := hide (show Q = (7, (-1)) by rw [HR.out]; rw [if_pos (by omega)])
  clear HR
  go_wp2_with fail
  refine (f27_any _ _ _).mono ?_
  rintro e wf ⟨rfl, bf⟩
  have kFf := (bf.block _ (lt_of kF)).trans kF
  have BFf := b1.trans (bf.mono b1.size)
  have st0 := cell_of kFf 0
  have st1 := cell_of kFf 1
  have fr0 := free_of kFf 0
  have fr1 := free_of kFf 1
  simp at st0 st1
  have KR := set_in (set_in kFf 0 (.int .i64 7)) 1 (.int .i64 (-1))
  have r0 := cell_of KR 0
  have r1 := cell_of KR 1
  simp at r0 r1
  have BR := (BFf.setCell (p := ⟨w.heap.size + 1, 0, none⟩) (by simp) (.int .i64 7)).setCell (p := ⟨w.heap.size + 1, 1, none⟩) (by simp) (.int .i64 (-1))
  clear KR
  go_wp2
  exact bodyPost_ret (v := .agg #[.int .i64 7, .int .i64 (-1)]) (by simp [results, Tryd.results11, go_sem, r0, r1]) rfl ⟨by rw [HZ.out], BR⟩
 by_cases h8 : 200000 < nL
 case pos =>
  have HZ := hide (show Q = (7, (-1)) by rw [HR.out]; rw [if_pos (by omega)])
  clear HR
  go_wp2_with fail
  refine (f27_any _ _ _).mono ?_
  rintro e wf ⟨rfl, bf⟩
  have kFf := (bf.block _ (lt_of kF)).trans kF
  have BFf := b1.trans (bf.mono b1.size)
  have st0 := cell_of kFf 0
  have st1 := cell_of kFf 1
  have fr0 := free_of kFf 0
  have fr1 := free_of kFf 1
  simp at st0 st1
  have KR := set_in (set_in kFf 0 (.int .i64 7)) 1 (.int .i64 (-1))
  have r0 := cell_of KR 0
  have r1 := cell_of KR 1
  simp at r0 r1
  have BR := (BFf.setCell (p := ⟨w.heap.size + 1, 0, none⟩) (by simp) (.int .i64 7)).setCell (p := ⟨w.heap.size + 1, 1, none⟩) (by simp) (.int .i64 (-1))
  clear KR
  go_wp2
  exact bodyPost_ret (v := .agg #[.int .i64 7, .int .i64 (-1)]) (by simp [results, Tryd.results11, go_sem, r0, r1]) rfl ⟨by rw [HZ.out], BR⟩
 have HR1 := hide (HR.out.trans (if_neg (by omega)))
 have HLN := hide (show nL ≤ 1000000 by omega)
 clear HR
 obtain ⟨RS, hRS⟩ : ∃ RS : Int × Int, RS = (if 0 ≤ Cd.idx (Cd.bars c R) 0 l then (4, Cd.idx (Cd.bars c R) 0 l) else if kc ≠ C ∨ (C = 0 ∧ 0 < nL) then (18, -1) else (0, 0)) := ⟨_, rfl⟩
 rw [← hRS] at HR1
 have HRS := hide hRS
 clear hRS
 have hrow := il3 (ok := fun _ => True) (heap_new w1 (.cells #[.slice aP nP cP, .slice aB nB cB, .slice aG nG cG] 22 (0, 0))) trivial (((HP.out.under b1).under ((Below.refl _ w1).alloc (Nat.le_refl _) (.cells #[.slice aP nP cP, .slice aB nB cB, .slice aG nG cG] 22 (0, 0)))).wide fun _ _ _ => trivial) (((HB.out.under b1).under ((Below.refl _ w1).alloc (Nat.le_refl _) (.cells #[.slice aP nP cP, .slice aB nB cB, .slice aG nG cG] 22 (0, 0)))).wide fun _ _ _ => trivial) (((HG.out.under b1).under ((Below.refl _ w1).alloc (Nat.le_refl _) (.cells #[.slice aP nP cP, .slice aB nB cB, .slice aG nG cG] 22 (0, 0)))).wide fun _ _ _ => trivial)
 have bl : Below w1.heap.size w1 (w1.alloc (.cells #[.slice aP nP cP, .slice aB nB cB, .slice aG nG cG] 22 (0, 0))) := (Below.refl _ _).alloc (Nat.le_refl _) _
 have kMl := (bl.block _ (lt_of kM)).trans kM
 have kFl := (bl.block _ (lt_of kF)).trans kF
 have BL := b1.trans (bl.mono b1.size)
 obtain ⟨LS, hLS⟩ : ∃ LS, LS = [P, B, G] := ⟨_, rfl⟩
 rw [← hLS] at hrow HR1
 have h3 : LS.length = 3 := by rw [hLS]; rfl
 have HLS := hide h3
 have HRW := hide hrow
 have HRO := hide (show Q = if ((LS.drop 0).any fun z => z.any fun x => !Cd.has c x 1) = true then (16, -1) else RS by rw [List.drop_zero]; exact HR1.out)
 clear HR1 hLS h3 hrow HP HB HG
 go_upto_region 6 with fail
 generalize w1.alloc (.cells #[.slice aP nP cP, .slice aB nB cB, .slice aG nG cG] 22 (0, 0)) = wl at bl kMl kFl BL HRW ⊢
 clear s0 s1 s2 s3 s4 s5 s6 kM kF
 go_wp2_with fail
 go_loopg [4] 3 (fun k v wr => ∃ i, i ≤ 3 ∧ k = 3 - i ∧ v = .int .i64 (i : Nat) ∧ Hid (Q = if ((LS.drop i).any fun z => z.any fun x => !Cd.has c x 1) = true then (16, -1) else RS) ∧ Below wl.heap.size wl wr)
 case atStart => exact ⟨0, Nat.zero_le _, rfl, rfl, HRO, Below.refl _ _⟩
 case round =>
  clear HRO
  obtain ⟨i, hi, rfl, rfl, H, hbr⟩ := hrel
  obtain ⟨wq, hwq⟩ : ∃ wq, wq = wr := ⟨_, rfl⟩
  subst hwq
  by_cases hlt : i < 3
  case neg =>
   have hin : i = 3 := by omega
   subst hin
   have HZ := hide (show Q = RS by rw [H.out, List.drop_of_length_le (by have := HLS.out; omega)]; rfl)
   clear H
   have Bq := BL.trans (hbr.mono BL.size)
   have kMq := (hbr.block _ (lt_of kMl)).trans kMl
   have kFq := (hbr.block _ (lt_of kFl)).trans kFl
   have HRS2 := hide (show Q = if 0 ≤ Cd.idx (Cd.bars c R) 0 (l.drop 0) then (4, Cd.idx (Cd.bars c R) 0 (l.drop 0)) else if kc ≠ C ∨ (C = 0 ∧ 0 < nL) then (18, -1) else (0, 0) by rw [List.drop_zero, HZ.out, HRS.out])
   clear HZ HRS kMl kFl BL hbr bl HRW
   have s0 := cell_of kMq 0
   have s1 := cell_of kMq 1
   have s2 := cell_of kMq 2
   have s3 := cell_of kMq 3
   have s4 := cell_of kMq 4
   have s5 := cell_of kMq 5
   have s6 := cell_of kMq 6
   simp at s0 s1 s2 s3 s4 s5 s6
   go_wp2_with fail
   go_loopg [6] nL (fun k v wr => ∃ i, i ≤ nL ∧ k = nL - i ∧ v = .int .i64 (i : Nat) ∧ Hid (Q = if 0 ≤ Cd.idx (Cd.bars c R) i (l.drop i) then (4, Cd.idx (Cd.bars c R) i (l.drop i)) else if kc ≠ C ∨ (C = 0 ∧ 0 < nL) then (18, -1) else (0, 0)) ∧ Below wq.heap.size wq wr)
   case atStart => exact ⟨0, Nat.zero_le _, rfl, rfl, HRS2, Below.refl _ _⟩
   case round =>
    clear HRS2 s0 s1 s2 s3 s4 s5 s6
    obtain ⟨i, hi, rfl, rfl, H, hbr⟩ := hrel
    have Br := Bq.trans (hbr.mono Bq.size)
    have kMr := (hbr.block _ (lt_of kMq)).trans kMq
    have kFr := (hbr.block _ (lt_of kFq)).trans kFq
    have s0 := cell_of kMr 0
    have s1 := cell_of kMr 1
    have s2 := cell_of kMr 2
    have s3 := cell_of kMr 3
    have s4 := cell_of kMr 4
    have s5 := cell_of kMr 5
    have s6 := cell_of kMr 6
    simp at s0 s1 s2 s3 s4 s5 s6
    have yM := lt_of kMr
    by_cases hlt : i < nL
    case pos =>
     have hil : i < l.length := by have := HNL.out; omega
     have hR1 := H.out
     rw [List.drop_eq_getElem_cons hil] at hR1
     obtain ⟨ao', cap', eqs, -, -, hat2⟩ := (HL.out.under Br).at
     injection eqs with q1 q2 q3
     subst q1
     obtain ⟨bb, oo, rfl, hb, ⟨e0, e1, e2, e3, e4, e5⟩⟩ := hat2 i hil
     generalize l[i] = x at e0 e1 e2 e3 e4 e5 hR1
     obtain ⟨op, k, r, a, b, n⟩ := x
     dsimp only at e0 e1 e2 e3 e4 e5
     have hq := fun W => H19.out ⟨op, k, r, a, b, n⟩ W HCC.out
     unfold Cd.idx at hR1
     generalize Cd.bars c R ⟨op, k, r, a, b, n⟩ = q at hq hR1
     have HQ := hide hq
     have HR2 := hide hR1
     clear hat2 q2 q3 hR1 H hil hq
     go_upto_region 17 with fail
     go_cut [105] (fun v wd => v = .bool q ∧ Below wr.heap.size wr wd)
     case first =>
      refine wp_region_late (fun w' => Below wr.heap.size wr w') (fun _ => false) (by kernel_rfl) ?_
      have hH0 : Below wr.heap.size wr wr.drew := (Below.refl _ _).drew
      generalize wr.drew = wd0 at hH0 ⊢
      refine' wpAnyL_take (i := 0) (oi := ⟨some 98, _, _, _, _, _⟩) (v := _) rfl (by kernel_rfl) (by kernel_rfl) (by kernel_rfl) (by kernel_rfl) (fun _ _ _ h => h) hH0 (by rfl) ?hyv ?o1
      case hyv =>
       intro wz hSw
       have zc0 := (hSw.cell (p := ⟨w.heap.size, 0, none⟩) yM).trans s0
       have zc1 := (hSw.cell (p := ⟨w.heap.size, 1, none⟩) yM).trans s1
       have zc2 := (hSw.cell (p := ⟨w.heap.size, 2, none⟩) yM).trans s2
       have zc3 := (hSw.cell (p := ⟨w.heap.size, 3, none⟩) yM).trans s3
       have zc4 := (hSw.cell (p := ⟨w.heap.size, 4, none⟩) yM).trans s4
       have zc5 := (hSw.cell (p := ⟨w.heap.size, 5, none⟩) yM).trans s5
       have zc6 := (hSw.cell (p := ⟨w.heap.size, 6, none⟩) yM).trans s6
       have zc7 := (hSw.cell (p := ⟨bb, oo + i * 6, none⟩) hb).trans e0
       have zc8 := (hSw.cell (p := ⟨bb, oo + i * 6 + 1, none⟩) hb).trans e1
       have zc9 := (hSw.cell (p := ⟨bb, oo + i * 6 + 2, none⟩) hb).trans e2
       have zc10 := (hSw.cell (p := ⟨bb, oo + i * 6 + 3, none⟩) hb).trans e3
       have zc11 := (hSw.cell (p := ⟨bb, oo + i * 6 + 4, none⟩) hb).trans e4
       have zc12 := (hSw.cell (p := ⟨bb, oo + i * 6 + 5, none⟩) hb).trans e5
       go_simp
       try rfl
      try simp only [Act.put, sT, sZ, sS]
      refine' wpAnyL_take (i := 1) (oi := ⟨some 99, _, _, _, _, _⟩) (v := _) rfl (by kernel_rfl) (by kernel_rfl) (by kernel_rfl) (by kernel_rfl) (fun _ _ _ h => h) hH0 (by rfl) ?hyv ?o2
      case hyv =>
       intro wz hSw
       go_simp
       try rfl
      try simp only [Act.put, sT, sZ, sS]
      refine' wpAnyL_take (i := 2) (oi := ⟨some 100, _, _, _, _, _⟩) (v := _) rfl (by kernel_rfl) (by kernel_rfl) (by kernel_rfl) (by kernel_rfl) (fun _ _ _ h => h) hH0 (by rfl) ?hyv ?o3
      case hyv =>
       intro wz hSw
       have zc0 := (hSw.cell (p := ⟨w.heap.size, 0, none⟩) yM).trans s0
       have zc1 := (hSw.cell (p := ⟨w.heap.size, 1, none⟩) yM).trans s1
       have zc2 := (hSw.cell (p := ⟨w.heap.size, 2, none⟩) yM).trans s2
       have zc3 := (hSw.cell (p := ⟨w.heap.size, 3, none⟩) yM).trans s3
       have zc4 := (hSw.cell (p := ⟨w.heap.size, 4, none⟩) yM).trans s4
       have zc5 := (hSw.cell (p := ⟨w.heap.size, 5, none⟩) yM).trans s5
       have zc6 := (hSw.cell (p := ⟨w.heap.size, 6, none⟩) yM).trans s6
       have zc7 := (hSw.cell (p := ⟨bb, oo + i * 6, none⟩) hb).trans e0
       have zc8 := (hSw.cell (p := ⟨bb, oo + i * 6 + 1, none⟩) hb).trans e1
       have zc9 := (hSw.cell (p := ⟨bb, oo + i * 6 + 2, none⟩) hb).trans e2
       have zc10 := (hSw.cell (p := ⟨bb, oo + i * 6 + 3, none⟩) hb).trans e3
       have zc11 := (hSw.cell (p := ⟨bb, oo + i * 6 + 4, none⟩) hb).trans e4
       have zc12 := (hSw.cell (p := ⟨bb, oo + i * 6 + 5, none⟩) hb).trans e5
       go_simp
       try rfl
      try simp only [Act.put, sT, sZ, sS]
      refine' wpAnyL_take (i := 3) (oi := ⟨some 101, _, _, _, _, _⟩) (v := _) rfl (by kernel_rfl) (by kernel_rfl) (by kernel_rfl) (by kernel_rfl) (fun _ _ _ h => h) hH0 (by rfl) ?hyv ?o4
      case hyv =>
       intro wz hSw
       go_simp
       try rfl
      try simp only [Act.put, sT, sZ, sS]
      refine' wpAnyL_take (i := 4) (oi := ⟨some 102, _, _, _, _, _⟩) (v := _) rfl (by kernel_rfl) (by kernel_rfl) (by kernel_rfl) (by kernel_rfl) (fun _ _ _ h => h) hH0 (by rfl) ?hyv ?o5
      case hyv =>
       intro wz hSw
       go_simp
       try rfl
      try simp only [Act.put, sT, sZ, sS]
      refine' wpAnyL_take (i := 5) (oi := ⟨some 103, _, _, _, _, _⟩) (v := _) rfl (by kernel_rfl) (by kernel_rfl) (by kernel_rfl) (by kernel_rfl) (fun _ _ _ h => h) hH0 (by rfl) ?hyv ?o6
      case hyv =>
       intro wz hSw
       have zc0 := (hSw.cell (p := ⟨w.heap.size, 0, none⟩) yM).trans s0
       have zc1 := (hSw.cell (p := ⟨w.heap.size, 1, none⟩) yM).trans s1
       have zc2 := (hSw.cell (p := ⟨w.heap.size, 2, none⟩) yM).trans s2
       have zc3 := (hSw.cell (p := ⟨w.heap.size, 3, none⟩) yM).trans s3
       have zc4 := (hSw.cell (p := ⟨w.heap.size, 4, none⟩) yM).trans s4
       have zc5 := (hSw.cell (p := ⟨w.heap.size, 5, none⟩) yM).trans s5
       have zc6 := (hSw.cell (p := ⟨w.heap.size, 6, none⟩) yM).trans s6
       have zc7 := (hSw.cell (p := ⟨bb, oo + i * 6, none⟩) hb).trans e0
       have zc8 := (hSw.cell (p := ⟨bb, oo + i * 6 + 1, none⟩) hb).trans e1
       have zc9 := (hSw.cell (p := ⟨bb, oo + i * 6 + 2, none⟩) hb).trans e2
       have zc10 := (hSw.cell (p := ⟨bb, oo + i * 6 + 3, none⟩) hb).trans e3
       have zc11 := (hSw.cell (p := ⟨bb, oo + i * 6 + 4, none⟩) hb).trans e4
       have zc12 := (hSw.cell (p := ⟨bb, oo + i * 6 + 5, none⟩) hb).trans e5
       go_simp
       try rfl
      try simp only [Act.put, sT, sZ, sS]
      refine wpAnyL_one (i := 6) (o := _) rfl (by kernel_rfl) (by rfl) (fun K hK => ?_)
      go_simp
      refine (HQ.out _).mono ?_
      rintro eq wd1 ⟨rfl, bq1⟩
      have hH1 : Below wr.heap.size wr wd1 := hH0.trans (bq1.mono hH0.size)
      refine hK.out _ _ (fun _ => hH1) ?_
      clear hK K
      try simp only [Act.put, sT, sZ, sS]
      refine' wpAnyL_take (i := 7) (oi := ⟨some 105, _, _, _, _, _⟩) (v := _) rfl (by kernel_rfl) (by kernel_rfl) (by kernel_rfl) (by kernel_rfl) (fun _ _ _ h => h) hH1 (by rfl) ?hyv ?o7
      case hyv =>
       intro wz hSw
       go_simp
       try rfl
      try simp only [Act.put, sT, sZ, sS]
      refine wpAnyL_done (by kernel_rfl) ?_ _
      go_wp2_with fail
      go_meet
      case rel => exact ⟨by simp, hH1⟩
     case rest =>
      obtain ⟨rfl, bc⟩ := hcut
      have Bc := Br.trans (bc.mono Br.size)
      have kFc := (bc.block _ (lt_of kFr)).trans kFr
      have Hc := hbr.trans (bc.mono hbr.size)
      clear s0 s1 s2 s3 s4 s5 s6 e0 e1 e2 e3 e4 e5 HQ
      cases q
      case true =>
       have HZ0 := hide (show Q = (4, (i : Int)) by rw [HR2.out, if_pos rfl, if_pos (by omega)])
       clear HR2
       have HZ := hide (show Q = (4, (i : Int)) by rw [HZ0.out]; skip)
       clear HZ0
       go_wp2_with fail
       refine (f27_any _ _ _).mono ?_
       rintro e wf ⟨rfl, bf⟩
       have kFf := (bf.block _ (lt_of kFc)).trans kFc
       have BFf := Bc.trans (bf.mono Bc.size)
       have st0 := cell_of kFf 0
       have st1 := cell_of kFf 1
       have fr0 := free_of kFf 0
       have fr1 := free_of kFf 1
       simp at st0 st1
       have KR := set_in (set_in kFf 0 (.int .i64 4)) 1 (.int .i64 (i : Int))
       have r0 := cell_of KR 0
       have r1 := cell_of KR 1
       simp at r0 r1
       have BR := (BFf.setCell (p := ⟨w.heap.size + 1, 0, none⟩) (by simp) (.int .i64 4)).setCell (p := ⟨w.heap.size + 1, 1, none⟩) (by simp) (.int .i64 (i : Int))
       clear KR
       go_wp2
       exact bodyPost_ret (v := .agg #[.int .i64 4, .int .i64 (i : Int)]) (by simp [results, Tryd.results11, go_sem, r0, r1]) rfl ⟨by rw [HZ.out], BR⟩
      case false =>
       have HZ := hide (show Q = if 0 ≤ Cd.idx (Cd.bars c R) (i + 1) (l.drop (i + 1)) then (4, Cd.idx (Cd.bars c R) (i + 1) (l.drop (i + 1))) else if kc ≠ C ∨ (C = 0 ∧ 0 < nL) then (18, -1) else (0, 0) by rw [HR2.out]; simp only [Bool.false_eq_true, if_false])
       clear HR2
       go_wp2_with fail
       go_roundg (nL - (i + 1))
       case measure => omega
       case rel => exact ⟨i + 1, by omega, rfl, by go_num, HZ, Hc⟩
    case neg =>
     have hin : i = nL := by omega
     have HR := hide (show Q = if kc ≠ C ∨ (C = 0 ∧ 0 < nL) then (18, -1) else (0, 0) by rw [H.out, List.drop_of_length_le (by have := HNL.out; omega)]; rfl)
     clear H hin
     go_wp2_with fail
     refine (H11.out wr HLN.out Br).mono ?_
     rintro e w6 ⟨rfl, b6⟩
     have B6 := Br.trans (b6.mono Br.size)
     have kM6 := (b6.block _ (lt_of kMr)).trans kMr
     have kF6 := (b6.block _ (lt_of kFr)).trans kFr
     clear s0 s1 s2 s3 s4 s5 s6
     have s0 := cell_of kM6 0
     have s1 := cell_of kM6 1
     have s2 := cell_of kM6 2
     have s3 := cell_of kM6 3
     have s4 := cell_of kM6 4
     have s5 := cell_of kM6 5
     have s6 := cell_of kM6 6
     simp at s0 s1 s2 s3 s4 s5 s6
     by_cases hk : kc = C
     case neg =>
      have hk2 : (kc != C) = true := by simpa using hk
      have HZ := hide (show Q = (18, (-1)) by rw [HR.out]; rw [if_pos (.inl hk)])
      clear HR
      go_wp2_with fail
      refine (f27_any _ _ _).mono ?_
      rintro e wf ⟨rfl, bf⟩
      have kFf := (bf.block _ (lt_of kF6)).trans kF6
      have BFf := B6.trans (bf.mono B6.size)
      have st0 := cell_of kFf 0
      have st1 := cell_of kFf 1
      have fr0 := free_of kFf 0
      have fr1 := free_of kFf 1
      simp at st0 st1
      have KR := set_in (set_in kFf 0 (.int .i64 18)) 1 (.int .i64 (-1))
      have r0 := cell_of KR 0
      have r1 := cell_of KR 1
      simp at r0 r1
      have BR := (BFf.setCell (p := ⟨w.heap.size + 1, 0, none⟩) (by simp) (.int .i64 18)).setCell (p := ⟨w.heap.size + 1, 1, none⟩) (by simp) (.int .i64 (-1))
      clear KR
      go_wp2
      exact bodyPost_ret (v := .agg #[.int .i64 18, .int .i64 (-1)]) (by simp [results, Tryd.results11, go_sem, r0, r1]) rfl ⟨by rw [HZ.out], BR⟩
     case pos =>
      subst hk
      by_cases h0 : kc = 0
      case pos =>
       subst h0
       by_cases hn : 0 < (nL : Int)
       case pos =>
        have HZ := hide (show Q = (18, (-1)) by rw [HR.out]; rw [if_pos (.inr ⟨rfl, by omega⟩)])
        clear HR
        go_wp2_with fail
        refine (f27_any _ _ _).mono ?_
        rintro e wf ⟨rfl, bf⟩
        have kFf := (bf.block _ (lt_of kF6)).trans kF6
        have BFf := B6.trans (bf.mono B6.size)
        have st0 := cell_of kFf 0
        have st1 := cell_of kFf 1
        have fr0 := free_of kFf 0
        have fr1 := free_of kFf 1
        simp at st0 st1
        have KR := set_in (set_in kFf 0 (.int .i64 18)) 1 (.int .i64 (-1))
        have r0 := cell_of KR 0
        have r1 := cell_of KR 1
        simp at r0 r1
        have BR := (BFf.setCell (p := ⟨w.heap.size + 1, 0, none⟩) (by simp) (.int .i64 18)).setCell (p := ⟨w.heap.size + 1, 1, none⟩) (by simp) (.int .i64 (-1))
        clear KR
        go_wp2
        exact bodyPost_ret (v := .agg #[.int .i64 18, .int .i64 (-1)]) (by simp [results, Tryd.results11, go_sem, r0, r1]) rfl ⟨by rw [HZ.out], BR⟩
       case neg =>
        have HZ := hide (show Q = (0, 0) by rw [HR.out]; rw [if_neg (by rintro (h | ⟨_, h⟩); exact h rfl; omega)])
        clear HR
        have kFf := kF6
        have BFf := B6
        have st0 := cell_of kFf 0
        have st1 := cell_of kFf 1
        have fr0 := free_of kFf 0
        have fr1 := free_of kFf 1
        simp at st0 st1
        have KR := set_in (set_in kFf 0 (.int .i64 0)) 1 (.int .i64 0)
        have r0 := cell_of KR 0
        have r1 := cell_of KR 1
        simp at r0 r1
        have BR := (BFf.setCell (p := ⟨w.heap.size + 1, 0, none⟩) (by simp) (.int .i64 0)).setCell (p := ⟨w.heap.size + 1, 1, none⟩) (by simp) (.int .i64 0)
        clear KR
        go_wp2
        exact bodyPost_ret (v := .agg #[.int .i64 0, .int .i64 0]) (by simp [results, Tryd.results11, go_sem, r0, r1]) rfl ⟨by rw [HZ.out], BR⟩
      case neg =>
       have h2 : (kc == 0) = false := by simpa using h0
       have HZ := hide (show Q = (0, 0) by rw [HR.out]; rw [if_neg (by rintro (h | ⟨h, _⟩); exact h rfl; exact h0 h)])
       clear HR
       have kFf := kF6
       have BFf := B6
       have st0 := cell_of kFf 0
       have st1 := cell_of kFf 1
       have fr0 := free_of kFf 0
       have fr1 := free_of kFf 1
       simp at st0 st1
       have KR := set_in (set_in kFf 0 (.int .i64 0)) 1 (.int .i64 0)
       have r0 := cell_of KR 0
       have r1 := cell_of KR 1
       simp at r0 r1
       have BR := (BFf.setCell (p := ⟨w.heap.size + 1, 0, none⟩) (by simp) (.int .i64 0)).setCell (p := ⟨w.heap.size + 1, 1, none⟩) (by simp) (.int .i64 0)
       clear KR
       go_wp2
       exact bodyPost_ret (v := .agg #[.int .i64 0, .int .i64 0]) (by simp [results, Tryd.results11, go_sem, r0, r1]) rfl ⟨by rw [HZ.out], BR⟩
  case pos =>
   have hil : i < LS.length := by have := HLS.out; omega
   have hR1 := H.out
   rw [List.drop_eq_getElem_cons hil, List.any_cons] at hR1
   obtain ⟨ao', cap', eqs, -, -, hat2⟩ := (HRW.out.keep hbr.size (fun j _ hj => hbr.block j hj)).ilAt
   injection eqs with q1 q2 q3
   obtain ⟨bb, o, u, e1, hb, e0, hu⟩ := hat2 i hil
   rw [e1] at q1
   injection q1 with q1
   injection q1 with q4 q5 _
   subst q4 q5
   rw [Nat.zero_add] at e0
   generalize LS[i] = z at hu hR1
   obtain ⟨aZ, cZ, rfl, hZ1, hZ2, -⟩ := hu.at
   unfold maxLen at hZ2
   obtain ⟨RI, hRI⟩ : ∃ RI : Int × Int, RI = if ((LS.drop (i + 1)).any fun z => z.any fun x => !Cd.has c x 1) = true then (16, -1) else RS := ⟨_, rfl⟩
   have HRI := hide hRI
   have HIN := hide (show Q = if ((z.drop 0).any fun x => !Cd.has c x 1) = true then (16, -1) else RI by
    rw [hR1, hRI, List.drop_zero]
    cases (z.any fun x => !Cd.has c x 1) <;> simp)
   have HU := hide hu
   have Bq := BL.trans (hbr.mono BL.size)
   have kMq := (hbr.block _ (lt_of kMl)).trans kMl
   have kFq := (hbr.block _ (lt_of kFl)).trans kFl
   have E0 := hide e0
   have HB0 := hide hb
   clear hat2 q2 q3 hR1 H hil hRI hu e0 e1 hb
   obtain ⟨nZ, hnZ⟩ : ∃ n, n = z.length := ⟨_, rfl⟩
   rw [← hnZ] at HU E0 hZ1
   have HNZ := hide hnZ
   clear hnZ
   have e0 := E0.out
   have s0 := cell_of kMq 0
   simp at s0
   go_wp2_with fail
   go_loopg [5] nZ (fun k v wr => ∃ j, j ≤ nZ ∧ k = nZ - j ∧ v = .int .i64 (j : Nat) ∧ Hid (Q = if ((z.drop j).any fun x => !Cd.has c x 1) = true then (16, -1) else RI) ∧ Below wq.heap.size wq wr)
   case atStart => exact ⟨0, Nat.zero_le _, rfl, rfl, HIN, Below.refl _ _⟩
   case round =>
    clear HIN
    obtain ⟨j, hj, rfl, rfl, HJ, hbj⟩ := hrel
    have yb := HB0.out
    have f0 := (hbj.cell (p := ⟨w1.heap.size, i, none⟩) yb).trans e0
    have Bj := Bq.trans (hbj.mono Bq.size)
    have kMj := (hbj.block _ (lt_of kMq)).trans kMq
    have kFj := (hbj.block _ (lt_of kFq)).trans kFq
    clear e0 s0
    have t0 := cell_of kMj 0
    simp at t0
    have yM := lt_of kMj
    have ybr : w1.heap.size < wr.heap.size := Nat.lt_of_lt_of_le yb hbj.size
    by_cases hjl : j < nZ
    case neg =>
     have hin : j = nZ := by omega
     have HZ := hide (show Q = if ((LS.drop (i + 1)).any fun z => z.any fun x => !Cd.has c x 1) = true then (16, -1) else RS by rw [HJ.out, List.drop_of_length_le (by have := HNZ.out; omega), ← HRI.out]; rfl)
     clear HJ
     go_wp2_with fail
     go_roundg (3 - (i + 1))
     case measure => omega
     case rel => exact ⟨i + 1, by omega, rfl, by go_num, HZ, hbr.trans (hbj.mono hbr.size)⟩
    case pos =>
     have hjz : j < z.length := by have := HNZ.out; omega
     have hJ := HJ.out
     rw [List.drop_eq_getElem_cons hjz, List.any_cons] at hJ
     obtain ⟨a2, c2, eq2, -, -, hat3⟩ := (HU.out.under hbj).at
     injection eq2 with q1 q2 q3
     subst q1
     obtain ⟨bz, oz, rfl, hbz, x0⟩ := hat3 j hjz
     generalize z[j] = x at x0 hJ
     have HJ2 := hide hJ
     clear hat3 q2 q3 hJ HJ hjz
     go_upto_region 12 with fail
     by_cases g1 : x < 0
     case pos =>
      have HZ := hide (show Q = (16, -1) by rw [HJ2.out]; simp [Cd.has, g1])
      clear HJ2
      refine wp_region_late (fun w' => Below wr.heap.size wr w') (fun _ => false) (by kernel_rfl) ?_
      have hH0 : Below wr.heap.size wr wr.drew := (Below.refl _ _).drew
      generalize wr.drew = wd0 at hH0 ⊢
      refine' wpAnyL_take (i := 0) (oi := ⟨some 70, _, _, _, _, _⟩) (v := _) rfl (by kernel_rfl) (by kernel_rfl) (by kernel_rfl) (by kernel_rfl) (fun _ _ _ h => h) hH0 (by rfl) ?hyv ?o8
      case hyv =>
       intro wz hSw
       go_simp
       try rfl
      try simp only [Act.put, sT, sZ, sS]
      refine' wpAnyL_take (i := 1) (oi := ⟨some 71, _, _, _, _, _⟩) (v := _) rfl (by kernel_rfl) (by kernel_rfl) (by kernel_rfl) (by kernel_rfl) (fun _ _ _ h => h) hH0 (by rfl) ?hyv ?o9
      case hyv =>
       intro wz hSw
       go_simp
       try rfl
      try simp only [Act.put, sT, sZ, sS]
      refine' wpAnyL_take (i := 2) (oi := ⟨some 72, _, _, _, _, _⟩) (v := _) rfl (by kernel_rfl) (by kernel_rfl) (by kernel_rfl) (by kernel_rfl) (fun _ _ _ h => h) hH0 (by rfl) ?hyv ?o10
      case hyv =>
       intro wz hSw
       go_simp
       try rfl
      try simp only [Act.put, sT, sZ, sS]
      refine' wpAnyL_take (i := 3) (oi := ⟨some 73, _, _, _, _, _⟩) (v := _) rfl (by kernel_rfl) (by kernel_rfl) (by kernel_rfl) (by kernel_rfl) (fun _ _ _ h => h) hH0 (by rfl) ?hyv ?o11
      case hyv =>
       intro wz hSw
       have zc0 := (hSw.cell (p := ⟨w1.heap.size, i, none⟩) ybr).trans f0
       have zc1 := (hSw.cell (p := ⟨bz, oz + j, none⟩) hbz).trans x0
       have zc2 := (hSw.cell (p := ⟨w.heap.size, 0, none⟩) yM).trans t0
       go_simp
       try rfl
      try simp only [Act.put, sT, sZ, sS]
      refine' wpAnyL_take (i := 4) (oi := ⟨some 74, _, _, _, _, _⟩) (v := _) rfl (by kernel_rfl) (by kernel_rfl) (by kernel_rfl) (by kernel_rfl) (fun _ _ _ h => h) hH0 (by rfl) ?hyv ?o12
      case hyv =>
       intro wz hSw
       go_simp
       try rfl
      try simp only [Act.put, sT, sZ, sS]
      refine' wpAnyL_take (i := 5) (oi := ⟨some 75, _, _, _, _, _⟩) (v := _) rfl (by kernel_rfl) (by kernel_rfl) (by kernel_rfl) (by kernel_rfl) (fun _ _ _ h => h) hH0 (by rfl) ?hyv ?o13
      case hyv =>
       intro wz hSw
       go_simp
       try rfl
      try simp only [Act.put, sT, sZ, sS]
      refine' wpAnyL_take (i := 6) (oi := ⟨some 76, _, _, _, _, _⟩) (v := _) rfl (by kernel_rfl) (by kernel_rfl) (by kernel_rfl) (by kernel_rfl) (fun _ _ _ h => h) hH0 (by rfl) ?hyv ?o14
      case hyv =>
       intro wz hSw
       have zc0 := (hSw.cell (p := ⟨w1.heap.size, i, none⟩) ybr).trans f0
       have zc1 := (hSw.cell (p := ⟨bz, oz + j, none⟩) hbz).trans x0
       have zc2 := (hSw.cell (p := ⟨w.heap.size, 0, none⟩) yM).trans t0
       go_simp
       try rfl
      try simp only [Act.put, sT, sZ, sS]
      refine' wpAnyL_take (i := 7) (oi := ⟨some 77, _, _, _, _, _⟩) (v := _) rfl (by kernel_rfl) (by kernel_rfl) (by kernel_rfl) (by kernel_rfl) (fun _ _ _ h => h) hH0 (by rfl) ?hyv ?o15
      case hyv =>
       intro wz hSw
       go_simp
       try rfl
      try simp only [Act.put, sT, sZ, sS]
      refine' wpAnyL_take (i := 8) (oi := ⟨some 78, _, _, _, _, _⟩) (v := _) rfl (by kernel_rfl) (by kernel_rfl) (by kernel_rfl) (by kernel_rfl) (fun _ _ _ h => h) hH0 (by rfl) ?hyv ?o16
      case hyv =>
       intro wz hSw
       go_simp
       try rfl
      try simp only [Act.put, sT, sZ, sS]
      refine wpAnyL_skip (i := 9) (oi := ⟨some 79, _, _, _, _, _⟩) rfl (by kernel_rfl) (by kernel_rfl) (by kernel_rfl) (by kernel_rfl) (fun _ _ _ h => h) hH0 (by rfl) ?_
      try simp only [Act.put, sT, sZ, sS]
      refine wpAnyL_skip (i := 10) (oi := ⟨some 80, _, _, _, _, _⟩) rfl (by kernel_rfl) (by kernel_rfl) (by kernel_rfl) (by kernel_rfl) (fun _ _ _ h => h) hH0 (by rfl) ?_
      try simp only [Act.put, sT, sZ, sS]
      refine wpAnyL_skip (i := 11) (oi := ⟨some 81, _, _, _, _, _⟩) rfl (by kernel_rfl) (by kernel_rfl) (by kernel_rfl) (by kernel_rfl) (fun _ _ _ h => h) hH0 (by rfl) ?_
      try simp only [Act.put, sT, sZ, sS]
      refine wpAnyL_skip (i := 12) (oi := ⟨some 82, _, _, _, _, _⟩) rfl (by kernel_rfl) (by kernel_rfl) (by kernel_rfl) (by kernel_rfl) (fun _ _ _ h => h) hH0 (by rfl) ?_
      try simp only [Act.put, sT, sZ, sS]
      refine wpAnyL_skip (i := 13) (oi := ⟨some 83, _, _, _, _, _⟩) rfl (by kernel_rfl) (by kernel_rfl) (by kernel_rfl) (by kernel_rfl) (fun _ _ _ h => h) hH0 (by rfl) ?_
      try simp only [Act.put, sT, sZ, sS]
      refine wpAnyL_skip (i := 14) (oi := ⟨some 84, _, _, _, _, _⟩) rfl (by kernel_rfl) (by kernel_rfl) (by kernel_rfl) (by kernel_rfl) (fun _ _ _ h => h) hH0 (by rfl) ?_
      try simp only [Act.put, sT, sZ, sS]
      refine wpAnyL_skip (i := 15) (oi := ⟨some 85, _, _, _, _, _⟩) rfl (by kernel_rfl) (by kernel_rfl) (by kernel_rfl) (by kernel_rfl) (fun _ _ _ h => h) hH0 (by rfl) ?_
      try simp only [Act.put, sT, sZ, sS]
      refine wpAnyL_skip (i := 16) (oi := ⟨some 86, _, _, _, _, _⟩) rfl (by kernel_rfl) (by kernel_rfl) (by kernel_rfl) (by kernel_rfl) (fun _ _ _ h => h) hH0 (by rfl) ?_
      try simp only [Act.put, sT, sZ, sS]
      refine wpAnyL_skip (i := 17) (oi := ⟨some 87, _, _, _, _, _⟩) rfl (by kernel_rfl) (by kernel_rfl) (by kernel_rfl) (by kernel_rfl) (fun _ _ _ h => h) hH0 (by rfl) ?_
      try simp only [Act.put, sT, sZ, sS]
      refine wpAnyL_skip (i := 18) (oi := ⟨some 88, _, _, _, _, _⟩) rfl (by kernel_rfl) (by kernel_rfl) (by kernel_rfl) (by kernel_rfl) (fun _ _ _ h => h) hH0 (by rfl) ?_
      try simp only [Act.put, sT, sZ, sS]
      refine' wpAnyL_take (i := 19) (oi := ⟨some 89, _, _, _, _, _⟩) (v := _) rfl (by kernel_rfl) (by kernel_rfl) (by kernel_rfl) (by kernel_rfl) (fun _ _ _ h => h) hH0 (by rfl) ?hyv ?o17
      case hyv =>
       intro wz hSw
       go_simp
       try rfl
      try simp only [Act.put, sT, sZ, sS]
      refine wpAnyL_done (by kernel_rfl) ?_ _
      have kFx := (hH0.block _ (lt_of kFj)).trans kFj
      have Bx := Bj.trans (hH0.mono Bj.size)
      have HZ0 := HZ
      clear HZ
      have HZ := hide (show Q = (16, (-1)) by rw [HZ0.out]; skip)
      clear HZ0
      go_wp2_with fail
      refine (f27_any _ _ _).mono ?_
      rintro e wf ⟨rfl, bf⟩
      have kFf := (bf.block _ (lt_of kFx)).trans kFx
      have BFf := Bx.trans (bf.mono Bx.size)
      have st0 := cell_of kFf 0
      have st1 := cell_of kFf 1
      have fr0 := free_of kFf 0
      have fr1 := free_of kFf 1
      simp at st0 st1
      have KR := set_in (set_in kFf 0 (.int .i64 16)) 1 (.int .i64 (-1))
      have r0 := cell_of KR 0
      have r1 := cell_of KR 1
      simp at r0 r1
      have BR := (BFf.setCell (p := ⟨w.heap.size + 1, 0, none⟩) (by simp) (.int .i64 16)).setCell (p := ⟨w.heap.size + 1, 1, none⟩) (by simp) (.int .i64 (-1))
      clear KR
      go_wp2
      exact bodyPost_ret (v := .agg #[.int .i64 16, .int .i64 (-1)]) (by simp [results, Tryd.results11, go_sem, r0, r1]) rfl ⟨by rw [HZ.out], BR⟩
     by_cases g2 : c ≤ x
     case pos =>
      have HZ := hide (show Q = (16, -1) by rw [HJ2.out]; have e : Cd.has c x 1 = false := (by simp [Cd.has]; omega); rw [e]; simp)
      clear HJ2
      refine wp_region_late (fun w' => Below wr.heap.size wr w') (fun _ => false) (by kernel_rfl) ?_
      have hH0 : Below wr.heap.size wr wr.drew := (Below.refl _ _).drew
      generalize wr.drew = wd0 at hH0 ⊢
      refine' wpAnyL_take (i := 0) (oi := ⟨some 70, _, _, _, _, _⟩) (v := _) rfl (by kernel_rfl) (by kernel_rfl) (by kernel_rfl) (by kernel_rfl) (fun _ _ _ h => h) hH0 (by rfl) ?hyv ?o18
      case hyv =>
       intro wz hSw
       go_simp
       try rfl
      try simp only [Act.put, sT, sZ, sS]
      refine' wpAnyL_take (i := 1) (oi := ⟨some 71, _, _, _, _, _⟩) (v := _) rfl (by kernel_rfl) (by kernel_rfl) (by kernel_rfl) (by kernel_rfl) (fun _ _ _ h => h) hH0 (by rfl) ?hyv ?o19
      case hyv =>
       intro wz hSw
       go_simp
       try rfl
      try simp only [Act.put, sT, sZ, sS]
      refine' wpAnyL_take (i := 2) (oi := ⟨some 72, _, _, _, _, _⟩) (v := _) rfl (by kernel_rfl) (by kernel_rfl) (by kernel_rfl) (by kernel_rfl) (fun _ _ _ h => h) hH0 (by rfl) ?hyv ?o20
      case hyv =>
       intro wz hSw
       go_simp
       try rfl
      try simp only [Act.put, sT, sZ, sS]
      refine' wpAnyL_take (i := 3) (oi := ⟨some 73, _, _, _, _, _⟩) (v := _) rfl (by kernel_rfl) (by kernel_rfl) (by kernel_rfl) (by kernel_rfl) (fun _ _ _ h => h) hH0 (by rfl) ?hyv ?o21
      case hyv =>
       intro wz hSw
       have zc0 := (hSw.cell (p := ⟨w1.heap.size, i, none⟩) ybr).trans f0
       have zc1 := (hSw.cell (p := ⟨bz, oz + j, none⟩) hbz).trans x0
       have zc2 := (hSw.cell (p := ⟨w.heap.size, 0, none⟩) yM).trans t0
       go_simp
       try rfl
      try simp only [Act.put, sT, sZ, sS]
      refine' wpAnyL_take (i := 4) (oi := ⟨some 74, _, _, _, _, _⟩) (v := _) rfl (by kernel_rfl) (by kernel_rfl) (by kernel_rfl) (by kernel_rfl) (fun _ _ _ h => h) hH0 (by rfl) ?hyv ?o22
      case hyv =>
       intro wz hSw
       go_simp
       try rfl
      try simp only [Act.put, sT, sZ, sS]
      refine' wpAnyL_take (i := 5) (oi := ⟨some 75, _, _, _, _, _⟩) (v := _) rfl (by kernel_rfl) (by kernel_rfl) (by kernel_rfl) (by kernel_rfl) (fun _ _ _ h => h) hH0 (by rfl) ?hyv ?o23
      case hyv =>
       intro wz hSw
       go_simp
       try rfl
      try simp only [Act.put, sT, sZ, sS]
      refine' wpAnyL_take (i := 6) (oi := ⟨some 76, _, _, _, _, _⟩) (v := _) rfl (by kernel_rfl) (by kernel_rfl) (by kernel_rfl) (by kernel_rfl) (fun _ _ _ h => h) hH0 (by rfl) ?hyv ?o24
      case hyv =>
       intro wz hSw
       have zc0 := (hSw.cell (p := ⟨w1.heap.size, i, none⟩) ybr).trans f0
       have zc1 := (hSw.cell (p := ⟨bz, oz + j, none⟩) hbz).trans x0
       have zc2 := (hSw.cell (p := ⟨w.heap.size, 0, none⟩) yM).trans t0
       go_simp
       try rfl
      try simp only [Act.put, sT, sZ, sS]
      refine' wpAnyL_take (i := 7) (oi := ⟨some 77, _, _, _, _, _⟩) (v := _) rfl (by kernel_rfl) (by kernel_rfl) (by kernel_rfl) (by kernel_rfl) (fun _ _ _ h => h) hH0 (by rfl) ?hyv ?o25
      case hyv =>
       intro wz hSw
       go_simp
       try rfl
      try simp only [Act.put, sT, sZ, sS]
      refine' wpAnyL_take (i := 8) (oi := ⟨some 78, _, _, _, _, _⟩) (v := _) rfl (by kernel_rfl) (by kernel_rfl) (by kernel_rfl) (by kernel_rfl) (fun _ _ _ h => h) hH0 (by rfl) ?hyv ?o26
      case hyv =>
       intro wz hSw
       go_simp
       try rfl
      try simp only [Act.put, sT, sZ, sS]
      refine' wpAnyL_take (i := 9) (oi := ⟨some 79, _, _, _, _, _⟩) (v := _) rfl (by kernel_rfl) (by kernel_rfl) (by kernel_rfl) (by kernel_rfl) (fun _ _ _ h => h) hH0 (by rfl) ?hyv ?o27
      case hyv =>
       intro wz hSw
       go_simp
       try rfl
      try simp only [Act.put, sT, sZ, sS]
      refine' wpAnyL_take (i := 10) (oi := ⟨some 80, _, _, _, _, _⟩) (v := _) rfl (by kernel_rfl) (by kernel_rfl) (by kernel_rfl) (by kernel_rfl) (fun _ _ _ h => h) hH0 (by rfl) ?hyv ?o28
      case hyv =>
       intro wz hSw
       go_simp
       try rfl
      try simp only [Act.put, sT, sZ, sS]
      refine' wpAnyL_take (i := 11) (oi := ⟨some 81, _, _, _, _, _⟩) (v := _) rfl (by kernel_rfl) (by kernel_rfl) (by kernel_rfl) (by kernel_rfl) (fun _ _ _ h => h) hH0 (by rfl) ?hyv ?o29
      case hyv =>
       intro wz hSw
       go_simp
       try rfl
      try simp only [Act.put, sT, sZ, sS]
      refine' wpAnyL_take (i := 12) (oi := ⟨some 82, _, _, _, _, _⟩) (v := _) rfl (by kernel_rfl) (by kernel_rfl) (by kernel_rfl) (by kernel_rfl) (fun _ _ _ h => h) hH0 (by rfl) ?hyv ?o30
      case hyv =>
       intro wz hSw
       have zc0 := (hSw.cell (p := ⟨w1.heap.size, i, none⟩) ybr).trans f0
       have zc1 := (hSw.cell (p := ⟨bz, oz + j, none⟩) hbz).trans x0
       have zc2 := (hSw.cell (p := ⟨w.heap.size, 0, none⟩) yM).trans t0
       go_simp
       try rfl
      try simp only [Act.put, sT, sZ, sS]
      refine' wpAnyL_take (i := 13) (oi := ⟨some 83, _, _, _, _, _⟩) (v := _) rfl (by kernel_rfl) (by kernel_rfl) (by kernel_rfl) (by kernel_rfl) (fun _ _ _ h => h) hH0 (by rfl) ?hyv ?o31
      case hyv =>
       intro wz hSw
       go_simp
       try rfl
      try simp only [Act.put, sT, sZ, sS]
      refine' wpAnyL_take (i := 14) (oi := ⟨some 84, _, _, _, _, _⟩) (v := _) rfl (by kernel_rfl) (by kernel_rfl) (by kernel_rfl) (by kernel_rfl) (fun _ _ _ h => h) hH0 (by rfl) ?hyv ?o32
      case hyv =>
       intro wz hSw
       go_simp
       try rfl
      try simp only [Act.put, sT, sZ, sS]
      refine' wpAnyL_take (i := 15) (oi := ⟨some 85, _, _, _, _, _⟩) (v := _) rfl (by kernel_rfl) (by kernel_rfl) (by kernel_rfl) (by kernel_rfl) (fun _ _ _ h => h) hH0 (by rfl) ?hyv ?o33
      case hyv =>
       intro wz hSw
       have zc0 := (hSw.cell (p := ⟨w1.heap.size, i, none⟩) ybr).trans f0
       have zc1 := (hSw.cell (p := ⟨bz, oz + j, none⟩) hbz).trans x0
       have zc2 := (hSw.cell (p := ⟨w.heap.size, 0, none⟩) yM).trans t0
       go_simp
       try rfl
      try simp only [Act.put, sT, sZ, sS]
      refine' wpAnyL_take (i := 16) (oi := ⟨some 86, _, _, _, _, _⟩) (v := _) rfl (by kernel_rfl) (by kernel_rfl) (by kernel_rfl) (by kernel_rfl) (fun _ _ _ h => h) hH0 (by rfl) ?hyv ?o34
      case hyv =>
       intro wz hSw
       go_simp
       try rfl
      try simp only [Act.put, sT, sZ, sS]
      refine' wpAnyL_take (i := 17) (oi := ⟨some 87, _, _, _, _, _⟩) (v := _) rfl (by kernel_rfl) (by kernel_rfl) (by kernel_rfl) (by kernel_rfl) (fun _ _ _ h => h) hH0 (by rfl) ?hyv ?o35
      case hyv =>
       intro wz hSw
       have zc0 := (hSw.cell (p := ⟨w1.heap.size, i, none⟩) ybr).trans f0
       have zc1 := (hSw.cell (p := ⟨bz, oz + j, none⟩) hbz).trans x0
       have zc2 := (hSw.cell (p := ⟨w.heap.size, 0, none⟩) yM).trans t0
       go_simp
       try rfl
      try simp only [Act.put, sT, sZ, sS]
      refine' wpAnyL_take (i := 18) (oi := ⟨some 88, _, _, _, _, _⟩) (v := _) rfl (by kernel_rfl) (by kernel_rfl) (by kernel_rfl) (by kernel_rfl) (fun _ _ _ h => h) hH0 (by rfl) ?hyv ?o36
      case hyv =>
       intro wz hSw
       go_simp
       try rfl
      try simp only [Act.put, sT, sZ, sS]
      refine' wpAnyL_take (i := 19) (oi := ⟨some 89, _, _, _, _, _⟩) (v := _) rfl (by kernel_rfl) (by kernel_rfl) (by kernel_rfl) (by kernel_rfl) (fun _ _ _ h => h) hH0 (by rfl) ?hyv ?o37
      case hyv =>
       intro wz hSw
       go_simp
       try rfl
      try simp only [Act.put, sT, sZ, sS]
      refine wpAnyL_done (by kernel_rfl) ?_ _
      have kFx := (hH0.block _ (lt_of kFj)).trans kFj
      have Bx := Bj.trans (hH0.mono Bj.size)
      have HZ0 := HZ
      clear HZ
      have HZ := hide (show Q = (16, (-1)) by rw [HZ0.out]; skip)
      clear HZ0
      go_wp2_with fail
      refine (f27_any _ _ _).mono ?_
      rintro e wf ⟨rfl, bf⟩
      have kFf := (bf.block _ (lt_of kFx)).trans kFx
      have BFf := Bx.trans (bf.mono Bx.size)
      have st0 := cell_of kFf 0
      have st1 := cell_of kFf 1
      have fr0 := free_of kFf 0
      have fr1 := free_of kFf 1
      simp at st0 st1
      have KR := set_in (set_in kFf 0 (.int .i64 16)) 1 (.int .i64 (-1))
      have r0 := cell_of KR 0
      have r1 := cell_of KR 1
      simp at r0 r1
      have BR := (BFf.setCell (p := ⟨w.heap.size + 1, 0, none⟩) (by simp) (.int .i64 16)).setCell (p := ⟨w.heap.size + 1, 1, none⟩) (by simp) (.int .i64 (-1))
      clear KR
      go_wp2
      exact bodyPost_ret (v := .agg #[.int .i64 16, .int .i64 (-1)]) (by simp [results, Tryd.results11, go_sem, r0, r1]) rfl ⟨by rw [HZ.out], BR⟩
     have HZ := hide (show Q = if ((z.drop (j + 1)).any fun x => !Cd.has c x 1) = true then (16, -1) else RI by rw [HJ2.out]; have e : Cd.has c x 1 = true := (by simp [Cd.has]; omega); rw [e]; simp)
     clear HJ2
     refine wp_region_late (fun w' => Below wr.heap.size wr w') (fun _ => false) (by kernel_rfl) ?_
     have hH0 : Below wr.heap.size wr wr.drew := (Below.refl _ _).drew
     generalize wr.drew = wd0 at hH0 ⊢
     refine' wpAnyL_take (i := 0) (oi := ⟨some 70, _, _, _, _, _⟩) (v := _) rfl (by kernel_rfl) (by kernel_rfl) (by kernel_rfl) (by kernel_rfl) (fun _ _ _ h => h) hH0 (by rfl) ?hyv ?o38
     case hyv =>
      intro wz hSw
      go_simp
      try rfl
     try simp only [Act.put, sT, sZ, sS]
     refine' wpAnyL_take (i := 1) (oi := ⟨some 71, _, _, _, _, _⟩) (v := _) rfl (by kernel_rfl) (by kernel_rfl) (by kernel_rfl) (by kernel_rfl) (fun _ _ _ h => h) hH0 (by rfl) ?hyv ?o39
     case hyv =>
      intro wz hSw
      go_simp
      try rfl
     try simp only [Act.put, sT, sZ, sS]
     refine' wpAnyL_take (i := 2) (oi := ⟨some 72, _, _, _, _, _⟩) (v := _) rfl (by kernel_rfl) (by kernel_rfl) (by kernel_rfl) (by kernel_rfl) (fun _ _ _ h => h) hH0 (by rfl) ?hyv ?o40
     case hyv =>
      intro wz hSw
      go_simp
      try rfl
     try simp only [Act.put, sT, sZ, sS]
     refine' wpAnyL_take (i := 3) (oi := ⟨some 73, _, _, _, _, _⟩) (v := _) rfl (by kernel_rfl) (by kernel_rfl) (by kernel_rfl) (by kernel_rfl) (fun _ _ _ h => h) hH0 (by rfl) ?hyv ?o41
     case hyv =>
      intro wz hSw
      have zc0 := (hSw.cell (p := ⟨w1.heap.size, i, none⟩) ybr).trans f0
      have zc1 := (hSw.cell (p := ⟨bz, oz + j, none⟩) hbz).trans x0
      have zc2 := (hSw.cell (p := ⟨w.heap.size, 0, none⟩) yM).trans t0
      go_simp
      try rfl
     try simp only [Act.put, sT, sZ, sS]
     refine' wpAnyL_take (i := 4) (oi := ⟨some 74, _, _, _, _, _⟩) (v := _) rfl (by kernel_rfl) (by kernel_rfl) (by kernel_rfl) (by kernel_rfl) (fun _ _ _ h => h) hH0 (by rfl) ?hyv ?o42
     case hyv =>
      intro wz hSw
      go_simp
      try rfl
     try simp only [Act.put, sT, sZ, sS]
     refine' wpAnyL_take (i := 5) (oi := ⟨some 75, _, _, _, _, _⟩) (v := _) rfl (by kernel_rfl) (by kernel_rfl) (by kernel_rfl) (by kernel_rfl) (fun _ _ _ h => h) hH0 (by rfl) ?hyv ?o43
     case hyv =>
      intro wz hSw
      go_simp
      try rfl
     try simp only [Act.put, sT, sZ, sS]
     refine' wpAnyL_take (i := 6) (oi := ⟨some 76, _, _, _, _, _⟩) (v := _) rfl (by kernel_rfl) (by kernel_rfl) (by kernel_rfl) (by kernel_rfl) (fun _ _ _ h => h) hH0 (by rfl) ?hyv ?o44
     case hyv =>
      intro wz hSw
      have zc0 := (hSw.cell (p := ⟨w1.heap.size, i, none⟩) ybr).trans f0
      have zc1 := (hSw.cell (p := ⟨bz, oz + j, none⟩) hbz).trans x0
      have zc2 := (hSw.cell (p := ⟨w.heap.size, 0, none⟩) yM).trans t0
      go_simp
      try rfl
     try simp only [Act.put, sT, sZ, sS]
     refine' wpAnyL_take (i := 7) (oi := ⟨some 77, _, _, _, _, _⟩) (v := _) rfl (by kernel_rfl) (by kernel_rfl) (by kernel_rfl) (by kernel_rfl) (fun _ _ _ h => h) hH0 (by rfl) ?hyv ?o45
     case hyv =>
      intro wz hSw
      go_simp
      try rfl
     try simp only [Act.put, sT, sZ, sS]
     refine' wpAnyL_take (i := 8) (oi := ⟨some 78, _, _, _, _, _⟩) (v := _) rfl (by kernel_rfl) (by kernel_rfl) (by kernel_rfl) (by kernel_rfl) (fun _ _ _ h => h) hH0 (by rfl) ?hyv ?o46
     case hyv =>
      intro wz hSw
      go_simp
      try rfl
     try simp only [Act.put, sT, sZ, sS]
     refine' wpAnyL_take (i := 9) (oi := ⟨some 79, _, _, _, _, _⟩) (v := _) rfl (by kernel_rfl) (by kernel_rfl) (by kernel_rfl) (by kernel_rfl) (fun _ _ _ h => h) hH0 (by rfl) ?hyv ?o47
     case hyv =>
      intro wz hSw
      go_simp
      try rfl
     try simp only [Act.put, sT, sZ, sS]
     refine' wpAnyL_take (i := 10) (oi := ⟨some 80, _, _, _, _, _⟩) (v := _) rfl (by kernel_rfl) (by kernel_rfl) (by kernel_rfl) (by kernel_rfl) (fun _ _ _ h => h) hH0 (by rfl) ?hyv ?o48
     case hyv =>
      intro wz hSw
      go_simp
      try rfl
     try simp only [Act.put, sT, sZ, sS]
     refine' wpAnyL_take (i := 11) (oi := ⟨some 81, _, _, _, _, _⟩) (v := _) rfl (by kernel_rfl) (by kernel_rfl) (by kernel_rfl) (by kernel_rfl) (fun _ _ _ h => h) hH0 (by rfl) ?hyv ?o49
     case hyv =>
      intro wz hSw
      go_simp
      try rfl
     try simp only [Act.put, sT, sZ, sS]
     refine' wpAnyL_take (i := 12) (oi := ⟨some 82, _, _, _, _, _⟩) (v := _) rfl (by kernel_rfl) (by kernel_rfl) (by kernel_rfl) (by kernel_rfl) (fun _ _ _ h => h) hH0 (by rfl) ?hyv ?o50
     case hyv =>
      intro wz hSw
      have zc0 := (hSw.cell (p := ⟨w1.heap.size, i, none⟩) ybr).trans f0
      have zc1 := (hSw.cell (p := ⟨bz, oz + j, none⟩) hbz).trans x0
      have zc2 := (hSw.cell (p := ⟨w.heap.size, 0, none⟩) yM).trans t0
      go_simp
      try rfl
     try simp only [Act.put, sT, sZ, sS]
     refine' wpAnyL_take (i := 13) (oi := ⟨some 83, _, _, _, _, _⟩) (v := _) rfl (by kernel_rfl) (by kernel_rfl) (by kernel_rfl) (by kernel_rfl) (fun _ _ _ h => h) hH0 (by rfl) ?hyv ?o51
     case hyv =>
      intro wz hSw
      go_simp
      try rfl
     try simp only [Act.put, sT, sZ, sS]
     refine' wpAnyL_take (i := 14) (oi := ⟨some 84, _, _, _, _, _⟩) (v := _) rfl (by kernel_rfl) (by kernel_rfl) (by kernel_rfl) (by kernel_rfl) (fun _ _ _ h => h) hH0 (by rfl) ?hyv ?o52
     case hyv =>
      intro wz hSw
      go_simp
      try rfl
     try simp only [Act.put, sT, sZ, sS]
     refine' wpAnyL_take (i := 15) (oi := ⟨some 85, _, _, _, _, _⟩) (v := _) rfl (by kernel_rfl) (by kernel_rfl) (by kernel_rfl) (by kernel_rfl) (fun _ _ _ h => h) hH0 (by rfl) ?hyv ?o53
     case hyv =>
      intro wz hSw
      have zc0 := (hSw.cell (p := ⟨w1.heap.size, i, none⟩) ybr).trans f0
      have zc1 := (hSw.cell (p := ⟨bz, oz + j, none⟩) hbz).trans x0
      have zc2 := (hSw.cell (p := ⟨w.heap.size, 0, none⟩) yM).trans t0
      go_simp
      try rfl
     try simp only [Act.put, sT, sZ, sS]
     refine' wpAnyL_take (i := 16) (oi := ⟨some 86, _, _, _, _, _⟩) (v := _) rfl (by kernel_rfl) (by kernel_rfl) (by kernel_rfl) (by kernel_rfl) (fun _ _ _ h => h) hH0 (by rfl) ?hyv ?o54
     case hyv =>
      intro wz hSw
      go_simp
      try rfl
     try simp only [Act.put, sT, sZ, sS]
     refine' wpAnyL_take (i := 17) (oi := ⟨some 87, _, _, _, _, _⟩) (v := _) rfl (by kernel_rfl) (by kernel_rfl) (by kernel_rfl) (by kernel_rfl) (fun _ _ _ h => h) hH0 (by rfl) ?hyv ?o55
     case hyv =>
      intro wz hSw
      have zc0 := (hSw.cell (p := ⟨w1.heap.size, i, none⟩) ybr).trans f0
      have zc1 := (hSw.cell (p := ⟨bz, oz + j, none⟩) hbz).trans x0
      have zc2 := (hSw.cell (p := ⟨w.heap.size, 0, none⟩) yM).trans t0
      go_simp
      try rfl
     try simp only [Act.put, sT, sZ, sS]
     refine' wpAnyL_take (i := 18) (oi := ⟨some 88, _, _, _, _, _⟩) (v := _) rfl (by kernel_rfl) (by kernel_rfl) (by kernel_rfl) (by kernel_rfl) (fun _ _ _ h => h) hH0 (by rfl) ?hyv ?o56
     case hyv =>
      intro wz hSw
      go_simp
      try rfl
     try simp only [Act.put, sT, sZ, sS]
     refine' wpAnyL_take (i := 19) (oi := ⟨some 89, _, _, _, _, _⟩) (v := _) rfl (by kernel_rfl) (by kernel_rfl) (by kernel_rfl) (by kernel_rfl) (fun _ _ _ h => h) hH0 (by rfl) ?hyv ?o57
     case hyv =>
      intro wz hSw
      go_simp
      try rfl
     try simp only [Act.put, sT, sZ, sS]
     refine wpAnyL_done (by kernel_rfl) ?_ _
     go_wp2_with fail
     go_roundg (nZ - (j + 1))
     case measure => omega
     case rel => exact ⟨j + 1, by omega, rfl, by go_num, HZ, hbj.trans (hH0.mono hbj.size)⟩
end Go.Proofs.YtkgbmgpdehmiiaaDoor
