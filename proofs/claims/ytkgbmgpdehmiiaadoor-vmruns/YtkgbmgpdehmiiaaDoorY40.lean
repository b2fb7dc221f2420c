import Derived.Test.YtkgbmgpdehmiiaaDoorY29
import Derived.WalkKit
import Derived.WalkSpells
import Derived.IntWalk
import Derived.Deep.Cut
import Derived.Deep.LoopGhost
import Derived.Laws.Cover1
import Derived.Lib.Hide
set_option linter.unusedVariables false
set_option linter.unusedSimpArgs false
set_option maxHeartbeats 64000000
set_option maxRecDepth 100000
namespace Go.Proofs.YtkgbmgpdehmiiaaDoor
open Go.RowKit Go.IntWalk
set_option linter.unusedVariables false
set_option linter.unusedSimpArgs false
set_option maxHeartbeats 16000000 in
theorem put28_any {w : World} {rb cb nc cc : Nat} {u0 : Value} {X M : List Int} {pc dn lp tu : Int} {okL : Nat → Prop} {aP aI : Option Addr} {cP cI : Nat} {P inp : List Int} (hr : RB w rb u0 (.slice (some ⟨cb, 0, none⟩) nc cc) X pc dn lp tu) (hm : LX w cb M) (hnc : nc = M.length) (hM : nc ≤ 6000) (n1 : rb ≠ cb) (hP : HInts okL w (.slice aP P.length cP) P) (hI : HInts okL w (.slice aI P.length cI) inp) (hlen : inp.length = P.length) (hok : ∀ i, okL i → i ≠ cb) (hPx : ∀ p ∈ P, 0 ≤ p ∧ p < (nc : Int)) (hPl : P.length ≤ 6000) :
    Calls Tryd.prog 28 #[.pointer (some ⟨rb, 0, none⟩), .slice aI P.length cI, .slice aP P.length cP] w fun e w' => e = .returned (.tuple #[]) ∧ RB w' rb u0 (.slice (some ⟨cb, 0, none⟩) nc cc) X pc dn lp tu ∧ LX w' cb (Lo.putL M P inp) ∧ Aside [cb] w.heap.size w w' := by
  have hok2 : ∀ i, (okL i ∧ i < w.heap.size) → i ≠ cb ∧ i < w.heap.size := fun i h => ⟨hok i h.1, h.2⟩
  have hP0 := hP.wide (ok' := fun i => okL i ∧ i < w.heap.size) (fun i h1 h2 => ⟨h1, h2⟩)
  have hI0 := hI.wide (ok' := fun i => okL i ∧ i < w.heap.size) (fun i h1 h2 => ⟨h1, h2⟩)
  have HP := hide (fun W (a : Aside [cb] w.heap.size w W) => hP0.pastS a (fun i hi => by have := hok2 i hi; simp; omega))
  have HI := hide (fun W (a : Aside [cb] w.heap.size w W) => hI0.pastS a (fun i hi => by have := hok2 i hi; simp; omega))
  have HPX := hide hPx
  have HOK := hide hok
  obtain ⟨np, hnp⟩ : ∃ x, x = P.length := ⟨_, rfl⟩
  rw [← hnp] at HP HI hPl ⊢
  have HNP := hide hnp
  have HLEN := hide hlen
  obtain ⟨XM, hXM⟩ : ∃ x, x = Lo.putL M P inp := ⟨_, rfl⟩
  rw [← hXM]
  have HX0 := hide (show XM = Lo.putL M (P.drop 0) (inp.drop 0) from hXM)
  have HM0 := hide (And.intro hm hnc.symm)
  have hr0 := hr
  have yr0 := hr.lt
  clear hP hI hP0 hI0 hok hok2 hPx hnp hlen hXM hm hnc hr
  go_enter Tryd.func28, Tryd.ntmps28
  go_wp2_with fail
  go_loopg [10] np (fun kz v10 wr => ∃ (q : Nat) (M' : List Int), q ≤ np ∧ kz = np - q ∧ v10 = .int .i64 (q : Nat) ∧ Hid (XM = Lo.putL M' (P.drop q) (inp.drop q)) ∧ Hid (LX wr cb M' ∧ M'.length = nc) ∧ Aside [cb] w.heap.size w wr)
  case atStart => exact ⟨0, M, Nat.zero_le _, rfl, rfl, HX0, HM0, Aside.refl _⟩
  case round =>
    clear HX0 HM0
    obtain ⟨q, M', hq, rfl, rfl, H, HLM, bq⟩ := hrel
    have hrq := hr0.keep (bq.block _ yr0 (by simpa using n1))
    by_cases hlq : q < np
    case pos =>
      obtain ⟨kC0, hM'⟩ := HLM.out
      obtain ⟨aoP, cpP, eP, -, -, hatP⟩ := (HP.out wr bq).at2
      injection eP with q1 q2 q3
      have hqP : q < P.length := by have := HNP.out; omega
      obtain ⟨bP, oP, eaP, yP, nP, e0⟩ := hatP q hqP
      rw [eaP] at q1
      obtain ⟨aoI, cpI, eI, -, -, hatI⟩ := (HI.out wr bq).at2
      injection eI with r1 r2 r3
      have hqI : q < inp.length := by have := HLEN.out; have := HNP.out; omega
      obtain ⟨bI, oI, eaI, yI, nI, f0⟩ := hatI q hqI
      rw [eaI] at r1
      have nP2 := HOK.out _ nP.1
      have nI2 := HOK.out _ nI.1
      have hR1 := H.out
      rw [List.drop_eq_getElem_cons hqP, List.drop_eq_getElem_cons hqI, Lo.putL] at hR1
      have hpi := HPX.out _ (List.getElem_mem hqP)
      generalize P[q] = p at e0 hR1 hpi
      generalize inp[q] = x at f0 hR1
      obtain ⟨pn, rfl⟩ : ∃ pn : Nat, p = (pn : Int) := ⟨p.toNat, by omega⟩
      rw [Int.toNat_natCast] at hR1
      have hpl : pn < M'.length := by omega
      have hpc : (pn : Int) < (nc : Int) := by omega
      have hqi : (q : Int) < (np : Int) := by omega
      have HR1 := hide hR1
      have HM' := hide hM'
      subst r1 q1
      have g1 := hrq.c1
      have yg := hrq.lt
      clear hatP hatI q2 q3 r2 r3 hR1 H HLM hM' hpi nP nI hqP hqI
      go_upto_region 3 with fail
      refine wp_region_late (fun w' => Aside [cb] wr.heap.size wr w') (fun _ => false) (by kernel_rfl) ?_
      have hH0 : Aside [cb] wr.heap.size wr wr.drew := (Aside.refl _).drew
      have kC : LX wr.drew cb M' := kC0
      generalize wr.drew = wd0 at hH0 kC ⊢
      refine' wpAnyL_take (i := 0) (oi := ⟨some 15, _, _, _, _, _⟩) (v := _) rfl (by kernel_rfl) (by kernel_rfl) (by kernel_rfl) (by kernel_rfl) (fun _ _ _ h => h) hH0 (by rfl) ?hyv ?o1
      case hyv =>
        intro wz hSw
        go_simp
        try rfl
      try simp only [Act.put, sT, sZ, sS]
      refine' wpAnyL_take (i := 1) (oi := ⟨some 16, _, _, _, _, _⟩) (v := _) rfl (by kernel_rfl) (by kernel_rfl) (by kernel_rfl) (by kernel_rfl) (fun _ _ _ h => h) hH0 (by rfl) ?hyv ?o2
      case hyv =>
        intro wz hSw
        go_simp
        try rfl
      try simp only [Act.put, sT, sZ, sS]
      refine' wpAnyL_take (i := 2) (oi := ⟨some 17, _, _, _, _, _⟩) (v := _) rfl (by kernel_rfl) (by kernel_rfl) (by kernel_rfl) (by kernel_rfl) (fun _ _ _ h => h) hH0 (by rfl) ?hyv ?o3
      case hyv =>
        intro wz hSw
        go_simp
        try rfl
      try simp only [Act.put, sT, sZ, sS]
      refine' wpAnyL_take (i := 3) (oi := ⟨some 18, _, _, _, _, _⟩) (v := _) rfl (by kernel_rfl) (by kernel_rfl) (by kernel_rfl) (by kernel_rfl) (fun _ _ _ h => h) hH0 (by rfl) ?hyv ?o4
      case hyv =>
        intro wz hSw
        have zc0 := (aside_cell hSw (p := ⟨rb, 1, none⟩) yg (by simpa using n1)).trans g1
        have zc1 := (aside_cell hSw (p := ⟨bP, oP + q, none⟩) yP (by simpa using nP2)).trans e0
        have zc2 := (aside_cell hSw (p := ⟨bI, oI + q, none⟩) yI (by simpa using nI2)).trans f0
        go_simp
        try rfl
      try simp only [Act.put, sT, sZ, sS]
      refine' wpAnyL_take (i := 4) (oi := ⟨some 19, _, _, _, _, _⟩) (v := _) rfl (by kernel_rfl) (by kernel_rfl) (by kernel_rfl) (by kernel_rfl) (fun _ _ _ h => h) hH0 (by rfl) ?hyv ?o5
      case hyv =>
        intro wz hSw
        go_simp
        try rfl
      try simp only [Act.put, sT, sZ, sS]
      refine' wpAnyL_take (i := 5) (oi := ⟨some 20, _, _, _, _, _⟩) (v := _) rfl (by kernel_rfl) (by kernel_rfl) (by kernel_rfl) (by kernel_rfl) (fun _ _ _ h => h) hH0 (by rfl) ?hyv ?o6
      case hyv =>
        intro wz hSw
        go_simp
        try rfl
      try simp only [Act.put, sT, sZ, sS]
      refine' wpAnyL_take (i := 6) (oi := ⟨some 21, _, _, _, _, _⟩) (v := _) rfl (by kernel_rfl) (by kernel_rfl) (by kernel_rfl) (by kernel_rfl) (fun _ _ _ h => h) hH0 (by rfl) ?hyv ?o7
      case hyv =>
        intro wz hSw
        go_simp
        try rfl
      try simp only [Act.put, sT, sZ, sS]
      refine' wpAnyL_take (i := 7) (oi := ⟨some 22, _, _, _, _, _⟩) (v := _) rfl (by kernel_rfl) (by kernel_rfl) (by kernel_rfl) (by kernel_rfl) (fun _ _ _ h => h) hH0 (by rfl) ?hyv ?o8
      case hyv =>
        intro wz hSw
        go_simp
        try rfl
      try simp only [Act.put, sT, sZ, sS]
      refine' wpAnyL_take (i := 8) (oi := ⟨some 23, _, _, _, _, _⟩) (v := _) rfl (by kernel_rfl) (by kernel_rfl) (by kernel_rfl) (by kernel_rfl) (fun _ _ _ h => h) hH0 (by rfl) ?hyv ?o9
      case hyv =>
        intro wz hSw
        have zc0 := (aside_cell hSw (p := ⟨rb, 1, none⟩) yg (by simpa using n1)).trans g1
        have zc1 := (aside_cell hSw (p := ⟨bP, oP + q, none⟩) yP (by simpa using nP2)).trans e0
        have zc2 := (aside_cell hSw (p := ⟨bI, oI + q, none⟩) yI (by simpa using nI2)).trans f0
        go_simp
        try rfl
      try simp only [Act.put, sT, sZ, sS]
      refine' wpAnyL_take (i := 9) (oi := ⟨some 24, _, _, _, _, _⟩) (v := _) rfl (by kernel_rfl) (by kernel_rfl) (by kernel_rfl) (by kernel_rfl) (fun _ _ _ h => h) hH0 (by rfl) ?hyv ?o10
      case hyv =>
        intro wz hSw
        go_simp
        try rfl
      try simp only [Act.put, sT, sZ, sS]
      refine wpAnyL_one (i := 10) (o := _) rfl (by kernel_rfl) (by rfl) (fun K hK => ?_)
      have fr := kC.free pn
      have st0 := kC.at (i := pn) hpl
      go_simp
      have hH1 : Aside [cb] wr.heap.size wr (wd0.setCell ⟨cb, pn, none⟩ (.int .i64 x)) := hH0.trans (Aside.setCell (B := wd0.heap.size) (by simp) _) hH0.size
      refine hK.out _ _ (fun _ => hH1) ?_
      clear hK K fr st0
      try simp only [Act.put, sT, sZ, sS]
      have kE := kC.set hpl x
      generalize wd0.setCell ⟨cb, pn, none⟩ (.int .i64 x) = wd1 at hH1 kE ⊢
      refine wpAnyL_done (by kernel_rfl) ?_ _
      go_wp2_with fail
      go_roundg (np - (q + 1))
      case measure => omega
      case rel => exact ⟨q + 1, M'.set pn x, by omega, rfl, by go_num, HR1, hide ⟨kE, by rw [List.length_set]; exact HM'.out⟩, bq.trans hH1 bq.size⟩
    case neg =>
      have hqi : q = np := by omega
      have HZ := hide (show XM = M' by
        rw [H.out, List.drop_of_length_le (show P.length ≤ q by have := HNP.out; omega)]
        cases hd : inp.drop q <;> rfl)
      obtain ⟨kC0, hM'⟩ := HLM.out
      rw [← HZ.out] at kC0
      have HK := hide kC0
      have HRQ := hide hrq
      have hncs : ¬ (q : Int) < (np : Int) := by omega
      clear kC0 hM' HZ H HLM hrq
      go_wp2_with fail
      exact bodyPost_end (v := .tuple #[]) (by simp [results, Tryd.results28, go_sem]) rfl ⟨rfl, HRQ.out, HK.out, bq⟩
set_option maxHeartbeats 16000000 in
theorem told30_any {w : World} {rb cb nc cc : Nat} {u0 : Value} {X M : List Int} {pc dn lp tu : Int} {okL : Nat → Prop} {aG : Option Addr} {cG : Nat} {G : List Int} (hr : RB w rb u0 (.slice (some ⟨cb, 0, none⟩) nc cc) X pc dn lp tu) (hm : LX w cb M) (hnc : nc = M.length) (hG : HInts okL w (.slice aG G.length cG) G) (hGx : ∀ p ∈ G, 0 ≤ p ∧ p < (nc : Int)) (hGl : G.length ≤ 120000) :
    Calls Tryd.prog 30 #[.pointer (some ⟨rb, 0, none⟩), .slice aG G.length cG] w fun e w' => ∃ v, e = .returned v ∧ OwnL kLong w.heap.size w' v (G.map fun g => Lo.rd M g) ∧ Below w.heap.size w w' := by
  have hG0 := hG.wide (ok' := fun i => i < w.heap.size) (fun i _ h => h)
  have HG := hide (fun W (b : Below w.heap.size w W) => hG0.keep b.size (fun i hi _ => b.block i hi))
  have HGX := hide hGx
  obtain ⟨ng, hng⟩ : ∃ x, x = G.length := ⟨_, rfl⟩
  rw [← hng] at HG hGl ⊢
  have HNG := hide hng
  obtain ⟨LZ, hLZ⟩ : ∃ LZ, LZ = ((List.replicate ng (0 : Int)).map (Value.int .i64)).toArray := ⟨_, rfl⟩
  have hmk : (Instr.makeSlice 40 (.int .i64 0) (.int .i64 (ng : Int))).run Tryd.prog w = .ok (.slice (some ⟨w.heap.size, 0, none⟩) 0 ng) (w.alloc (.cells LZ 2 (0, 0))) := by rw [hLZ]; exact make_longs 0 ng (by omega) (by omega) w
  have b1 : Below w.heap.size w (w.alloc (.cells LZ 2 (0, 0))) := (Below.refl _ _).alloc (Nat.le_refl _) _
  have hO1 : OwnL kLong w.heap.size (w.alloc (.cells LZ 2 (0, 0))) (.slice (some ⟨w.heap.size, 0, none⟩) 0 ng) [] := OwnL.made (Nat.le_refl _) LZ ng (by unfold maxLen; omega) (by rw [hLZ]; simp)
  have HO1 := hide (show OwnL kLong w.heap.size (w.alloc (.cells LZ 2 (0, 0))) (.slice (some ⟨w.heap.size, 0, none⟩) 0 ng) ((G.take 0).map fun g => Lo.rd M g) from hO1)
  clear hG hG0 hGx hng hLZ hO1
  go_enter Tryd.func30, Tryd.ntmps30
  go_wp2_with fail
  go_loopg [5, 13] ng (fun kz sv v wr => ∃ (q : Nat) (aX : Option Addr) (cX : Nat), q ≤ ng ∧ kz = ng - q ∧ sv = .slice aX q cX ∧ v = .int .i64 (q : Nat) ∧ Hid (OwnL kLong w.heap.size wr (.slice aX q cX) ((G.take q).map fun g => Lo.rd M g)) ∧ Below w.heap.size w wr)
  case atStart => exact ⟨0, _, _, Nat.zero_le _, rfl, rfl, rfl, HO1, b1⟩
  case round =>
    clear HO1 hmk b1
    obtain ⟨q, aX, cX, hq, rfl, rfl, rfl, HO, hbt⟩ := hrel
    have hln : ((G.take q).map fun g => Lo.rd M g).length = q := by simp; have := HNG.out; omega
    by_cases hlt : q < ng
    case neg =>
      have hin : q = ng := by omega
      have HT := hide (show OwnL kLong w.heap.size wr (.slice aX q cX) (G.map fun g => Lo.rd M g) by
        have := HO.out
        rw [List.take_of_length_le (by have := HNG.out; omega)] at this
        exact this)
      have hncs : ¬ (q : Int) < (ng : Int) := by omega
      clear HO hln
      go_wp2
      go_ret
      subst hin
      exact ⟨_, rfl, HT.out, hbt⟩
    case pos =>
      have hrt := hr.under hbt
      have kCt := hm.under hbt
      obtain ⟨aoG, cpG, eG, -, -, hatG⟩ := (HG.out wr hbt).at
      injection eG with q1 q2 q3
      have hqG : q < G.length := by have := HNG.out; omega
      obtain ⟨bG, oG, eaG, yG, e0⟩ := hatG q hqG
      rw [eaG] at q1
      have hgi := HGX.out _ (List.getElem_mem hqG)
      have hts : (G.take (q + 1)).map (fun g => Lo.rd M g) = (G.take q).map (fun g => Lo.rd M g) ++ [Lo.rd M G[q]] := by rw [List.take_succ_eq_append_getElem hqG, List.map_append]; rfl
      generalize G[q] = g at e0 hts hgi
      obtain ⟨gn, rfl⟩ : ∃ gn : Nat, g = (gn : Int) := ⟨g.toNat, by omega⟩
      have hgl : gn < M.length := by omega
      have hgc : (gn : Int) < (nc : Int) := by omega
      have hqg : (q : Int) < (ng : Int) := by omega
      have c0 := kCt.at hgl
      have ycb := kCt.lt
      have g1 := hrt.c1
      have yg := hrt.lt
      have hrd : Lo.rd M (gn : Int) = M[gn] := by unfold Lo.rd; rw [Int.toNat_natCast, List.getD_eq_getElem?_getD, List.getElem?_eq_getElem hgl]; rfl
      rw [hrd] at hts
      generalize M[gn] = x at c0 hts
      have HTS := hide hts
      have HNb := hide (fun k (e : (Value.slice aX q cX).ownBlock = some k) => (HO.out.lt k e).2)
      have zB := hbt.size
      have qA : (((G.take q).map fun g => Lo.rd M g).length + 1) * 8 ≤ 140737488355328 := by rw [hln]; omega
      have qB : ((G.take q).map fun g => Lo.rd M g).length + 1 ≤ maxLen := by rw [hln]; unfold maxLen; omega
      subst q1
      have BF := hide hbt
      have HLN := hide hln
      clear hatG q2 q3 hrd hts hln hgi hgl kCt hrt
      go_wp2_with (at_builtin; refine wpList_more kLong rfl _ _ 40 2 rfl Tryd.underlying40 w.heap.size wr.heap.size _ ((G.take q).map fun g => Lo.rd M g) (by rfl) HO.out [.int .i64 x] x rfl (by rfl) HNb.out zB zB qA qB ?_; intro v8 w8 own8 b8 _ _; obtain ⟨a8, c8, e8, -, -⟩ := own8.form; rw [List.length_append, HLN.out, List.length_singleton] at e8; subst e8; have HO8 := hide own8; have HB8 := hide (BF.out.trans b8); clear own8 HO HNb b8)
      go_roundg (ng - (q + 1))
      case measure => omega
      case rel => exact ⟨q + 1, a8, c8, by omega, rfl, rfl, by go_num, hide (by rw [HTS.out]; exact HO8.out), HB8.out⟩
end Go.Proofs.YtkgbmgpdehmiiaaDoor
