import Derived.Test.YtkgbmgpdehmiiaaDoorY41
import Derived.Test.YtkgbmgpdehmiiaaDoorY39
import Derived.Test.YtkgbmgpdehmiiaaDoorY24
import Derived.WalkKit
import Derived.WalkSpells
import Derived.IntWalk
import Derived.Deep.Cut
import Derived.Deep.LoopGhost
import Derived.Laws.Cover1
import Derived.Lib.Hide
set_option linter.unusedVariables false
set_option linter.unusedSimpArgs false
set_option maxHeartbeats 64000000
set_option maxRecDepth 100000
namespace Go.Proofs.YtkgbmgpdehmiiaaDoor
open Go.RowKit Go.IntWalk
set_option linter.unusedVariables false
set_option linter.unusedSimpArgs false
/-- what a row of code that is run answers, if what comes in is right -/
structure GRowQ (w : World) (gb cb nc cc : Nat) (v0 v1 v2 v3 v4 v5 v6 : Value) (st : Int) (G M : List Int) (res : Em.Res) (e : Ending) (w' : World) : Prop where
 far : ¬ res.p < 0 → e = .returned (.tuple #[.slice none 0 0, .agg #[.int .i64 16, .int .i64 res.p]]) ∧ ∃ cb' cc', GAt w' gb cb' nc cc' v0 v1 v2 v3 v4 v5 v6 st ∧ LX w' cb' M ∧ nc ≤ cc' ∧ cc' ≤ maxLen ∧ w.heap.size ≤ cb'
 good : res.p < 0 → ∃ v, e = .returned (.tuple #[v, .agg #[.int .i64 0, .int .i64 0]]) ∧ OwnL kLong w.heap.size w' v (G.map fun g => Lo.rd res.s.M g) ∧ GAt w' gb cb nc cc v0 v1 v2 v3 v4 v5 v6 res.st ∧ LX w' cb res.s.M ∧ res.s.M.length = nc ∧ Lo.Wd res.s.M
 a : Aside [gb, cb] w.heap.size w w'
set_option maxHeartbeats 64000000 in
theorem row14_right {w : World} {gb cb nc cc nr : Nat} {v0 v2 : Value} {st : Int} {okL : Nat → Prop} {aP aB aG aL aI : Option Addr} {cP cB cG cL cI : Nat} {P B G inp M : List Int} {C : List Cd.In} (hg : GAt w gb cb nc cc v0 (.int .i64 (nr : Int)) v2 (.slice aP P.length cP) (.slice aB B.length cB) (.slice aG G.length cG) (.slice aL C.length cL) st) (hm : LX w cb M) (hP : HInts okL w (.slice aP P.length cP) P) (hB : HInts okL w (.slice aB B.length cB) B) (hG : HInts okL w (.slice aG G.length cG) G) (hL : HIns okL w (.slice aL C.length cL) C) (hI : HInts okL w (.slice aI P.length cI) inp) (hok : ∀ i, okL i → i ≠ gb ∧ i ≠ cb) (hnc : M.length = nc) (hn0 : 1 ≤ nc) (hM : nc ≤ 6000) (hcc : nc ≤ cc ∧ cc ≤ maxLen) (n2 : gb ≠ cb) (hR : 1 ≤ nr ∧ nr ≤ 40) (hRs : ∀ x ∈ C, InOk nc nr x) (hgo : Cd.go 10 11 none C ≠ none) (hlen : inp.length = P.length) (hWM : Lo.Wd M) (hWI : Lo.Wd inp) (hCl : C.length ≤ 200000) (hPx : ∀ p ∈ P, 0 ≤ p ∧ p < (nc : Int)) (hGx : ∀ p ∈ G, 0 ≤ p ∧ p < (nc : Int)) (hPl : P.length ≤ 6000) (hGl : G.length ≤ 120000) (hfine : ∀ (j : Nat) (h1 : j < inp.length) (h2 : j < P.length), Fine B P[j] inp[j]) :
  Calls Tryd.prog 14 #[.pointer (some ⟨gb, 0, none⟩), .slice aI P.length cI] w (GRowQ w gb cb nc cc v0 (.int .i64 (nr : Int)) v2 (.slice aP P.length cP) (.slice aB B.length cB) (.slice aG G.length cG) (.slice aL C.length cL) st G M (Em.allF C 0 ⟨fun _ => 0, Lo.putL M P inp⟩ st)) := by
 obtain ⟨res, hres⟩ : ∃ x, x = Em.allF C 0 ⟨fun _ => 0, Lo.putL M P inp⟩ st := ⟨_, rfl⟩
 rw [← hres]
 have HRES := hide hres
 clear hres
 have hok2 : ∀ i, (okL i ∧ i < w.heap.size) → i ≠ gb ∧ i ≠ cb ∧ i < w.heap.size := fun i h => ⟨(hok i h.1).1, (hok i h.1).2, h.2⟩
 have hP0 := hP.wide (ok' := fun i => okL i ∧ i < w.heap.size) (fun i h1 h2 => ⟨h1, h2⟩)
 have hG0 := hG.wide (ok' := fun i => okL i ∧ i < w.heap.size) (fun i h1 h2 => ⟨h1, h2⟩)
 have hI0 := hI.wide (ok' := fun i => okL i ∧ i < w.heap.size) (fun i h1 h2 => ⟨h1, h2⟩)
 have hB0 := hB.wide (ok' := fun i => okL i ∧ i < w.heap.size) (fun i h1 h2 => ⟨h1, h2⟩)
 have hL0 : HIns (fun i => okL i ∧ i < w.heap.size) w (.slice aL C.length cL) C := HRow.wide hL (fun i h1 h2 => ⟨h1, h2⟩)
 have b1 : Below w.heap.size w (w.alloc (.cells #[.int .i64 0, .int .i64 0] 34 (0, 0))) := (Below.refl _ _).alloc (Nat.le_refl _) _
 have kF := heap_new w (.cells #[.int .i64 0, .int .i64 0] 34 (0, 0))
 have ygw := lt_of hg
 have ycw := hm.lt
 have hg1 := hg.keep (b1.block _ ygw)
 have hm1 := hm.under b1
 have HP := hide (fun W (a : Aside [gb, cb] w.heap.size w W) => hP0.pastS a (fun i hi => by have := hok2 i hi; simp; omega))
 have HG := hide (fun W (a : Aside [gb, cb] w.heap.size w W) => hG0.pastS a (fun i hi => by have := hok2 i hi; simp; omega))
 have HI := hide (fun W (a : Aside [gb, cb] w.heap.size w W) => hI0.pastS a (fun i hi => by have := hok2 i hi; simp; omega))
 have HB := hide (fun W (a : Aside [gb, cb] w.heap.size w W) => hB0.pastS a (fun i hi => by have := hok2 i hi; simp; omega))
 have HL := hide (fun W (a : Aside [gb, cb] w.heap.size w W) => hL0.past a (fun i hi => by have := hok2 i hi; simp; omega))
 have HOK := hide (fun i (h : okL i ∧ i < w.heap.size) => (show i ≠ gb ∧ i ≠ cb from hok i h.1))
 have HW := hide (And.intro hnc (And.intro hM (And.intro n2 (And.intro hR (And.intro hRs (And.intro hgo (And.intro hWM (And.intro hWI hCl))))))))
 have HFINE := hide hfine
 have HPX := hide hPx
 have HGX := hide hGx
 obtain ⟨np, hnp⟩ : ∃ x, x = P.length := ⟨_, rfl⟩
 obtain ⟨ng, hng⟩ : ∃ x, x = G.length := ⟨_, rfl⟩
 obtain ⟨nb, hnb⟩ : ∃ x, x = B.length := ⟨_, rfl⟩
 obtain ⟨ln, hln⟩ : ∃ x, x = C.length := ⟨_, rfl⟩
 have hnp6 : np ≤ 6000 := by omega
 have hng6 : ng ≤ 120000 := by omega
 rw [← hnp] at HP HI hg1 ⊢
 rw [← hng] at HG hg1 ⊢
 rw [← hnb] at HB hg1 ⊢
 have HNB := hide hnb
 rw [← hln] at hg1 ⊢
 have HLn := hide hln
 have HNP := hide hnp
 have HNG := hide hng
 have HLEN := hide hlen
 have HN := hide (And.intro hn0 hcc)
 clear hg hm hP hB hG hL hI hok hok2 hP0 hB0 hG0 hI0 hL0 hnc hM n2 hR hRs hgo hWM hWI hCl hPx hGx hPl hGl hnp hng hnb hln hlen hfine hn0
 go_enter Tryd.func14, Tryd.ntmps14
 go_upto_region 1 with fail
 generalize w.alloc (.cells #[.int .i64 0, .int .i64 0] 34 (0, 0)) = w1 at b1 kF hg1 hm1 ⊢
 have A1 : Aside [gb, cb] w.heap.size w w1 := aside b1
 have kg : w1.heap[gb]? = some (.cells #[v0, .int .i64 (nr : Int), v2, .slice aP np cP, .slice aB nb cB, .slice aG ng cG, .slice aL ln cL, .slice (some ⟨cb, 0, none⟩) nc cc, .int .i64 st] 46 (0, 0)) := hg1
 have g3 := cell_of kg 3
 have g4 := cell_of kg 4
 have g5 := cell_of kg 5
 have g7 := cell_of kg 7
 have g8 := cell_of kg 8
 simp at g3 g4 g5 g7 g8
 have yg := lt_of kg
 have hnn : (np != np) = false := by simp
 go_wp2_with fail
 go_loopg [6] np (fun kz v6 wr => ∃ (i : Nat), i ≤ np ∧ kz = np - i ∧ v6 = .int .i64 (i : Nat) ∧ Below w1.heap.size w1 wr)
 case atStart => exact ⟨0, Nat.zero_le _, rfl, rfl, Below.refl _ _⟩
 case round =>
  obtain ⟨i, hi, rfl, rfl, br⟩ := hrel
  have hgr := hg1.keep (br.block _ yg)
  have Ar := A1.trans (aside (S := [gb, cb]) br) A1.size
  clear g3 g4 g5 g7 g8 kg
  have kg : wr.heap[gb]? = some (.cells #[v0, .int .i64 (nr : Int), v2, .slice aP np cP, .slice aB nb cB, .slice aG ng cG, .slice aL ln cL, .slice (some ⟨cb, 0, none⟩) nc cc, .int .i64 st] 46 (0, 0)) := hgr
  have g3 := cell_of kg 3
  have g4 := cell_of kg 4
  have g5 := cell_of kg 5
  have g7 := cell_of kg 7
  have g8 := cell_of kg 8
  simp at g3 g4 g5 g7 g8
  have ygr := lt_of kg
  by_cases hlt : i < np
  case neg =>
   have hin : i = np := by omega
   subst hin
   have kFr := (br.block _ (lt_of kF)).trans kF
   have hmr := hm1.under br
   have hrow := hmr.ints (ok := fun j => j = cb) (by rw [HW.out.1]; exact HN.out.2.1) HN.out.2.2 rfl
   obtain ⟨aX, dX, w6, hrun, hown, b6⟩ := nil_join kLong (w := wr) 40 40 Tryd.underlying40 (ok := fun j => j = cb) (show HRow kLong (fun j => j = cb) wr (.slice (some ⟨cb, 0, none⟩) M.length cc) M from hrow) (fun _ _ _ _ _ h => h) (by show M.length * 8 ≤ _; rw [HW.out.1]; have := HW.out.2.1; omega) (by rw [HW.out.1]; have := HW.out.2.1; unfold maxLen; omega)
   obtain ⟨wb, wk, ew, zw1, zw2, zw3, lw⟩ := LX.of_own hown (fun h => by have h1 := HW.out.1; rw [h] at h1; have h2 := HN.out.1; simp at h1; omega)
   injection ew with ew1 ew2 ew3
   subst ew1 ew3
   rw [HW.out.1] at hrun zw2
   have HWAS := hide lw
   have hwbl := lw.lt
   have hgbl := lt_of hgr
   have hcbl := hmr.lt
   have hnwb : wb ≠ gb ∧ wb ≠ cb := by omega
   have hwbw : w.heap.size < wb := Nat.lt_of_lt_of_le (lt_of kFr) zw1
   have hg6 := hgr.keep (b6.block _ ygr)
   have hm6 := hmr.under b6
   have A6 := Ar.trans (aside (S := [gb, cb]) b6) Ar.size
   have kF6 := (b6.block _ (lt_of kFr)).trans kFr
   clear hown hrow hgr hmr Ar b6 kFr hm1 hg1 kF A1 b1 br lw zw1 ew2 hgbl hcbl
   go_upto_region 10 with (at_builtin; refine wpList_joinO rfl _ _ 40 rfl _ _ _ (by rfl) (by rfl) hrun ?_; clear hrun)
   clear g3 g4 g5 g7 g8 kg
   have yg6 := lt_of hg6
   have n2 : gb ≠ cb := HW.out.2.2.1
   obtain ⟨XM, hXM⟩ : ∃ x, x = Lo.putL M P inp := ⟨_, rfl⟩
   have HXM := hide hXM
   have HX0 := hide (show XM = Lo.putL M (P.drop 0) (inp.drop 0) from hXM)
   have HM0 := hide (And.intro hm6 HW.out.1)
   have HG6 := hide hg6
   clear hXM hm6
   have kg : w6.heap[gb]? = some (.cells #[v0, .int .i64 (nr : Int), v2, .slice aP i cP, .slice aB nb cB, .slice aG ng cG, .slice aL ln cL, .slice (some ⟨cb, 0, none⟩) nc cc, .int .i64 st] 46 (0, 0)) := hg6
   have g3 := cell_of kg 3
   have g4 := cell_of kg 4
   have g5 := cell_of kg 5
   have g7 := cell_of kg 7
   have g8 := cell_of kg 8
   simp at g3 g4 g5 g7 g8
   have yg := lt_of kg
   go_wp2_with fail
   go_loopg [9] i (fun kz v9 wr => ∃ (q : Nat) (M' : List Int), q ≤ i ∧ kz = i - q ∧ v9 = .int .i64 (q : Nat) ∧ Hid (XM = Lo.putL M' (P.drop q) (inp.drop q)) ∧ Hid (LX wr cb M' ∧ M'.length = nc) ∧ Aside [cb] w6.heap.size w6 wr)
   case atStart => exact ⟨0, M, Nat.zero_le _, rfl, rfl, HX0, HM0, Aside.refl _⟩
   case round =>
    clear HX0 HM0 g3 g4 g5 g7 g8 kg hg6 yg
    obtain ⟨q, M', hq, rfl, rfl, H, HLM, bq⟩ := hrel
    have hgq := HG6.out.keep (bq.block _ yg6 (by simpa using n2))
    have Aq := A6.trans (bq.wide (S' := [gb, cb]) (fun _ _ h => by simp at h ⊢; exact h.2)) A6.size
    have kg : wr.heap[gb]? = some (.cells #[v0, .int .i64 (nr : Int), v2, .slice aP i cP, .slice aB nb cB, .slice aG ng cG, .slice aL ln cL, .slice (some ⟨cb, 0, none⟩) nc cc, .int .i64 st] 46 (0, 0)) := hgq
    have g3 := cell_of kg 3
    have g4 := cell_of kg 4
    have g5 := cell_of kg 5
    have g7 := cell_of kg 7
    have g8 := cell_of kg 8
    simp at g3 g4 g5 g7 g8
    have yg := lt_of kg
    by_cases hlq : q < i
    case pos =>
     obtain ⟨kC0, hM'⟩ := HLM.out
     obtain ⟨aoP, cpP, eP, -, -, hatP⟩ := (HP.out wr Aq).at2
     injection eP with q1 q2 q3
     have hqP : q < P.length := by have := HNP.out; omega
     obtain ⟨bP, oP, eaP, yP, nP, e0⟩ := hatP q hqP
     rw [eaP] at q1
     obtain ⟨aoI, cpI, eI, -, -, hatI⟩ := (HI.out wr Aq).at2
     injection eI with r1 r2 r3
     have hqI : q < inp.length := by have := HLEN.out; omega
     obtain ⟨bI, oI, eaI, yI, nI, f0⟩ := hatI q hqI
     rw [eaI] at r1
     have nP2 := (HOK.out _ nP).2
     have nI2 := (HOK.out _ nI).2
     have hR1 := H.out
     rw [List.drop_eq_getElem_cons hqP, List.drop_eq_getElem_cons hqI, Lo.putL] at hR1
     have hpi := HPX.out _ (List.getElem_mem hqP)
     generalize P[q] = p at e0 hR1 hpi
     generalize inp[q] = x at f0 hR1
     obtain ⟨pn, rfl⟩ : ∃ pn : Nat, p = (pn : Int) := ⟨p.toNat, by omega⟩
     rw [Int.toNat_natCast] at hR1
     have hpl : pn < M'.length := by omega
     have hpc : (pn : Int) < (nc : Int) := by omega
     have hqi : (q : Int) < (i : Int) := by omega
     have HR1 := hide hR1
     have HM' := hide hM'
     subst r1 q1
     clear hatP hatI q2 q3 r2 r3 hR1 H HLM hM' hpi nP nI hqP hqI
     go_upto_region 14 with fail
     refine wp_region_late (fun w' => Aside [cb] wr.heap.size wr w') (fun _ => false) (by kernel_rfl) ?_
     have hH0 : Aside [cb] wr.heap.size wr wr.drew := (Aside.refl _).drew
     have kC : LX wr.drew cb M' := kC0
     generalize wr.drew = wd0 at hH0 kC ⊢
     refine' wpAnyL_take (i := 0) (oi := ⟨some 75, _, _, _, _, _⟩) (v := _) rfl (by kernel_rfl) (by kernel_rfl) (by kernel_rfl) (by kernel_rfl) (fun _ _ _ h => h) hH0 (by rfl) ?hyv ?o1
     case hyv =>
      intro wz hSw
      go_simp
      try rfl
     try simp only [Act.put, sT, sZ, sS]
     refine' wpAnyL_take (i := 1) (oi := ⟨some 76, _, _, _, _, _⟩) (v := _) rfl (by kernel_rfl) (by kernel_rfl) (by kernel_rfl) (by kernel_rfl) (fun _ _ _ h => h) hH0 (by rfl) ?hyv ?o2
     case hyv =>
      intro wz hSw
      go_simp
      try rfl
     try simp only [Act.put, sT, sZ, sS]
     refine' wpAnyL_take (i := 2) (oi := ⟨some 77, _, _, _, _, _⟩) (v := _) rfl (by kernel_rfl) (by kernel_rfl) (by kernel_rfl) (by kernel_rfl) (fun _ _ _ h => h) hH0 (by rfl) ?hyv ?o3
     case hyv =>
      intro wz hSw
      go_simp
      try rfl
     try simp only [Act.put, sT, sZ, sS]
     refine' wpAnyL_take (i := 3) (oi := ⟨some 78, _, _, _, _, _⟩) (v := _) rfl (by kernel_rfl) (by kernel_rfl) (by kernel_rfl) (by kernel_rfl) (fun _ _ _ h => h) hH0 (by rfl) ?hyv ?o4
     case hyv =>
      intro wz hSw
      have zc0 := (aside_cell hSw (p := ⟨gb, 7, none⟩) yg (by simpa using n2)).trans g7
      have zc1 := (aside_cell hSw (p := ⟨gb, 3, none⟩) yg (by simpa using n2)).trans g3
      have zc2 := (aside_cell hSw (p := ⟨bP, oP + q, none⟩) yP (by simpa using nP2)).trans e0
      have zc3 := (aside_cell hSw (p := ⟨bI, oI + q, none⟩) yI (by simpa using nI2)).trans f0
      go_simp
      try rfl
     try simp only [Act.put, sT, sZ, sS]
     refine' wpAnyL_take (i := 4) (oi := ⟨some 79, _, _, _, _, _⟩) (v := _) rfl (by kernel_rfl) (by kernel_rfl) (by kernel_rfl) (by kernel_rfl) (fun _ _ _ h => h) hH0 (by rfl) ?hyv ?o5
     case hyv =>
      intro wz hSw
      go_simp
      try rfl
     try simp only [Act.put, sT, sZ, sS]
     refine' wpAnyL_take (i := 5) (oi := ⟨some 80, _, _, _, _, _⟩) (v := _) rfl (by kernel_rfl) (by kernel_rfl) (by kernel_rfl) (by kernel_rfl) (fun _ _ _ h => h) hH0 (by rfl) ?hyv ?o6
     case hyv =>
      intro wz hSw
      go_simp
      try rfl
     try simp only [Act.put, sT, sZ, sS]
     refine' wpAnyL_take (i := 6) (oi := ⟨some 81, _, _, _, _, _⟩) (v := _) rfl (by kernel_rfl) (by kernel_rfl) (by kernel_rfl) (by kernel_rfl) (fun _ _ _ h => h) hH0 (by rfl) ?hyv ?o7
     case hyv =>
      intro wz hSw
      go_simp
      try rfl
     try simp only [Act.put, sT, sZ, sS]
     refine' wpAnyL_take (i := 7) (oi := ⟨some 82, _, _, _, _, _⟩) (v := _) rfl (by kernel_rfl) (by kernel_rfl) (by kernel_rfl) (by kernel_rfl) (fun _ _ _ h => h) hH0 (by rfl) ?hyv ?o8
     case hyv =>
      intro wz hSw
      go_simp
      try rfl
     try simp only [Act.put, sT, sZ, sS]
     refine' wpAnyL_take (i := 8) (oi := ⟨some 83, _, _, _, _, _⟩) (v := _) rfl (by kernel_rfl) (by kernel_rfl) (by kernel_rfl) (by kernel_rfl) (fun _ _ _ h => h) hH0 (by rfl) ?hyv ?o9
     case hyv =>
      intro wz hSw
      have zc0 := (aside_cell hSw (p := ⟨gb, 7, none⟩) yg (by simpa using n2)).trans g7
      have zc1 := (aside_cell hSw (p := ⟨gb, 3, none⟩) yg (by simpa using n2)).trans g3
      have zc2 := (aside_cell hSw (p := ⟨bP, oP + q, none⟩) yP (by simpa using nP2)).trans e0
      have zc3 := (aside_cell hSw (p := ⟨bI, oI + q, none⟩) yI (by simpa using nI2)).trans f0
      go_simp
      try rfl
     try simp only [Act.put, sT, sZ, sS]
     refine' wpAnyL_take (i := 9) (oi := ⟨some 84, _, _, _, _, _⟩) (v := _) rfl (by kernel_rfl) (by kernel_rfl) (by kernel_rfl) (by kernel_rfl) (fun _ _ _ h => h) hH0 (by rfl) ?hyv ?o10
     case hyv =>
      intro wz hSw
      go_simp
      try rfl
     try simp only [Act.put, sT, sZ, sS]
     refine' wpAnyL_take (i := 10) (oi := ⟨some 85, _, _, _, _, _⟩) (v := _) rfl (by kernel_rfl) (by kernel_rfl) (by kernel_rfl) (by kernel_rfl) (fun _ _ _ h => h) hH0 (by rfl) ?hyv ?o11
     case hyv =>
      intro wz hSw
      go_simp
      try rfl
     try simp only [Act.put, sT, sZ, sS]
     refine' wpAnyL_take (i := 11) (oi := ⟨some 86, _, _, _, _, _⟩) (v := _) rfl (by kernel_rfl) (by kernel_rfl) (by kernel_rfl) (by kernel_rfl) (fun _ _ _ h => h) hH0 (by rfl) ?hyv ?o12
     case hyv =>
      intro wz hSw
      have zc0 := (aside_cell hSw (p := ⟨gb, 7, none⟩) yg (by simpa using n2)).trans g7
      have zc1 := (aside_cell hSw (p := ⟨gb, 3, none⟩) yg (by simpa using n2)).trans g3
      have zc2 := (aside_cell hSw (p := ⟨bP, oP + q, none⟩) yP (by simpa using nP2)).trans e0
      have zc3 := (aside_cell hSw (p := ⟨bI, oI + q, none⟩) yI (by simpa using nI2)).trans f0
      go_simp
      try rfl
     try simp only [Act.put, sT, sZ, sS]
     refine' wpAnyL_take (i := 12) (oi := ⟨some 87, _, _, _, _, _⟩) (v := _) rfl (by kernel_rfl) (by kernel_rfl) (by kernel_rfl) (by kernel_rfl) (fun _ _ _ h => h) hH0 (by rfl) ?hyv ?o13
     case hyv =>
      intro wz hSw
      go_simp
      try rfl
     try simp only [Act.put, sT, sZ, sS]
     refine' wpAnyL_take (i := 13) (oi := ⟨some 88, _, _, _, _, _⟩) (v := _) rfl (by kernel_rfl) (by kernel_rfl) (by kernel_rfl) (by kernel_rfl) (fun _ _ _ h => h) hH0 (by rfl) ?hyv ?o14
     case hyv =>
      intro wz hSw
      go_simp
      try rfl
     try simp only [Act.put, sT, sZ, sS]
     refine' wpAnyL_take (i := 14) (oi := ⟨some 89, _, _, _, _, _⟩) (v := _) rfl (by kernel_rfl) (by kernel_rfl) (by kernel_rfl) (by kernel_rfl) (fun _ _ _ h => h) hH0 (by rfl) ?hyv ?o15
     case hyv =>
      intro wz hSw
      go_simp
      try rfl
     try simp only [Act.put, sT, sZ, sS]
     refine' wpAnyL_take (i := 15) (oi := ⟨some 90, _, _, _, _, _⟩) (v := _) rfl (by kernel_rfl) (by kernel_rfl) (by kernel_rfl) (by kernel_rfl) (fun _ _ _ h => h) hH0 (by rfl) ?hyv ?o16
     case hyv =>
      intro wz hSw
      have zc0 := (aside_cell hSw (p := ⟨gb, 7, none⟩) yg (by simpa using n2)).trans g7
      have zc1 := (aside_cell hSw (p := ⟨gb, 3, none⟩) yg (by simpa using n2)).trans g3
      have zc2 := (aside_cell hSw (p := ⟨bP, oP + q, none⟩) yP (by simpa using nP2)).trans e0
      have zc3 := (aside_cell hSw (p := ⟨bI, oI + q, none⟩) yI (by simpa using nI2)).trans f0
      go_simp
      try rfl
     try simp only [Act.put, sT, sZ, sS]
     refine' wpAnyL_take (i := 16) (oi := ⟨some 91, _, _, _, _, _⟩) (v := _) rfl (by kernel_rfl) (by kernel_rfl) (by kernel_rfl) (by kernel_rfl) (fun _ _ _ h => h) hH0 (by rfl) ?hyv ?o17
     case hyv =>
      intro wz hSw
      go_simp
      try rfl
     try simp only [Act.put, sT, sZ, sS]
     refine wpAnyL_one (i := 17) (o := _) rfl (by kernel_rfl) (by rfl) (fun K hK => ?_)
     have fr := kC.free pn
     have st0 := kC.at (i := pn) hpl
     go_simp
     have hH1 : Aside [cb] wr.heap.size wr (wd0.setCell ⟨cb, pn, none⟩ (.int .i64 x)) := hH0.trans (Aside.setCell (B := wd0.heap.size) (by simp) _) hH0.size
     refine hK.out _ _ (fun _ => hH1) ?_
     clear hK K fr st0
     try simp only [Act.put, sT, sZ, sS]
     have kE := kC.set hpl x
     generalize wd0.setCell ⟨cb, pn, none⟩ (.int .i64 x) = wd1 at hH1 kE ⊢
     refine wpAnyL_done (by kernel_rfl) ?_ _
     go_wp2_with fail
     go_roundg (i - (q + 1))
     case measure => omega
     case rel => exact ⟨q + 1, M'.set pn x, by omega, rfl, by go_num, HR1, hide ⟨kE, by rw [List.length_set]; exact HM'.out⟩, bq.trans hH1 bq.size⟩
    case neg =>
     have hqi : q = i := by omega
     have HZ := hide (show XM = M' by
      rw [H.out, List.drop_of_length_le (show P.length ≤ q by have := HNP.out; omega)]
      cases hd : inp.drop q <;> rfl)
     obtain ⟨kC0, hM'⟩ := HLM.out
     rw [← HZ.out] at kC0
     have hgq2 := hgq
     rw [HLn.out] at hgq2
     have hall := Dx.dall37_any hgq2 kC0 (HL.out wr Aq) HOK.out (by rw [HXM.out, Lo.putL_len]; exact Nat.le_of_eq HW.out.1.symm) HW.out.2.1 n2 HW.out.2.2.2.1 HW.out.2.2.2.2.1 HW.out.2.2.2.2.2.1 (by rw [HXM.out]; exact Lo.putL_wide _ _ _ HW.out.2.2.2.2.2.2.1 HW.out.2.2.2.2.2.2.2.1) HW.out.2.2.2.2.2.2.2.2
     rw [show Em.allF C 0 ⟨fun _ => 0, XM⟩ st = res by rw [HXM.out]; exact HRES.out.symm] at hall
     rw [← HLn.out] at hall
     have HALL := hide hall
     have kFq := (bq.block _ (lt_of kF6) (by simp; omega)).trans kF6
     have hncs : ¬ (q : Int) < (i : Int) := by omega
     clear hall hgq2 kC0 hM' HZ H HLM
     go_wp2_with fail
     refine HALL.out.mono ?_
     rintro e w7 hp
     have ee := hp.e
     have hg7 := hp.g
     have hm7 := hp.m
     have hw7 := hp.wd
     have hl7 : res.s.M.length = nc := by
      rw [HRES.out, Em.allF_len (R := (nr : Int))]
      ·show (Lo.putL M P inp).length = nc
       rw [Lo.putL_len, HW.out.1]
      ·intro x hx
       show Em.Rs (((Lo.putL M P inp).length : Nat) : Int) _ x
       rw [Lo.putL_len, HW.out.1]
       exact (HW.out.2.2.2.2.1 x hx).rs
     have A7 := Aq.trans hp.a Aq.size
     have kF7 := (hp.a.block _ (lt_of kFq) (by simp; omega)).trans kFq
     have lq := HWAS.out.keep (bq.block _ hwbl (by simpa using hnwb.2))
     have lw7 := lq.keep (hp.a.block _ lq.lt (by simpa using hnwb))
     have hwsz : w.heap.size ≤ w7.heap.size := A7.size
     have hwlt : w.heap.size < w7.heap.size := lt_of kF7
     clear hp HALL g3 g4 g5 g7 g8 kg yg kF6 kFq Aq hgq lq HWAS
     subst ee
     by_cases hp0 : res.p < 0
     case neg =>
      have hp1 : 0 ≤ res.p := by omega
      have hge : decide (0 ≤ res.p) = true := decide_eq_true hp1
      have kg7 : w7.heap[gb]? = some (.cells #[v0, .int .i64 (nr : Int), v2, .slice aP i cP, .slice aB nb cB, .slice aG ng cG, .slice aL ln cL, .slice (some ⟨cb, 0, none⟩) nc cc, .int .i64 res.st] 46 (0, 0)) := hg7
      have c7 := cell_of kg7 7
      have c8 := cell_of kg7 8
      have f7 := free_of kg7 7
      have f8 := free_of kg7 8
      simp at c7 c8
      have k8 := set_in (set_in kg7 7 (.slice (some ⟨wb, 0, none⟩) nc dX)) 8 (.int .i64 st)
      simp at k8
      have a8 : Aside [gb] w7.heap.size w7 ((w7.setCell ⟨gb, 7, none⟩ (.slice (some ⟨wb, 0, none⟩) nc dX)).setCell ⟨gb, 8, none⟩ (.int .i64 st)) := (Aside.setCell (p := ⟨gb, 7, none⟩) (by simp) _).trans (Aside.setCell (B := w7.heap.size) (p := ⟨gb, 8, none⟩) (by simp) _) (Nat.le_refl _)
      have yg7 := lt_of kg7
      go_upto_region 18 with fail
      generalize (w7.setCell ⟨gb, 7, none⟩ (.slice (some ⟨wb, 0, none⟩) nc dX)).setCell ⟨gb, 8, none⟩ (.int .i64 st) = w8 at k8 a8 ⊢
      have kF8 := (a8.block _ (lt_of kF7) (by simp; omega)).trans kF7
      have lw8 := lw7.keep (a8.block _ lw7.lt (by simpa using hnwb.1))
      have A8 := A7.trans (a8.wide (S' := [gb, cb]) (fun _ _ h => by simp at h ⊢; exact h.1)) A7.size
      clear c7 c8 f7 f8 kg7 a8 lw7 kF7 hg7 hm7 A7
      go_wp2_with fail
      refine (f27_any 16 res.p w8).mono ?_
      rintro e w9 ⟨rfl, b9⟩
      have kF9 := (b9.block _ (lt_of kF8)).trans kF8
      have k9 := (b9.block _ (lt_of k8)).trans k8
      have lw9 := lw8.under b9
      have A9 := A8.trans (aside (S := [gb, cb]) b9) A8.size
      have KF := two_set kF9 (.int .i64 16) (.int .i64 res.p)
      have aF : Aside [w.heap.size] w9.heap.size w9 ((w9.setCell ⟨w.heap.size, 0, none⟩ (.int .i64 16)).setCell ⟨w.heap.size, 1, none⟩ (.int .i64 res.p)) := aside_two (by simp) _ _
      have hgw : gb ≠ w.heap.size := by omega
      have kE := k9
      have gE := (aF.block gb (lt_of k9) (by simpa using hgw)).trans k9
      have lE := lw9.keep (aF.block wb lw9.lt (by simp; omega))
      have AE : Aside [gb, cb] w.heap.size w ((w9.setCell ⟨w.heap.size, 0, none⟩ (.int .i64 16)).setCell ⟨w.heap.size, 1, none⟩ (.int .i64 res.p)) := ⟨aF.os.trans A9.os, aF.tape.trans A9.tape, aF.output.trans A9.output, Nat.le_trans A9.size aF.size, fun j hj hs => (aF.block j (Nat.lt_of_lt_of_le hj A9.size) (by simp; omega)).trans (A9.block j hj hs)⟩
      have gE2 : GAt ((w9.setCell ⟨w.heap.size, 0, none⟩ (.int .i64 16)).setCell ⟨w.heap.size, 1, none⟩ (.int .i64 res.p)) gb wb nc dX v0 (.int .i64 (nr : Int)) v2 (.slice aP i cP) (.slice aB nb cB) (.slice aG ng cG) (.slice aL ln cL) st := gE
      have HEND := hide (And.intro gE2 (And.intro lE AE))
      have z0 := cell_of KF 0
      have z1 := cell_of KF 1
      have sz0 := cell_of kF9 0
      have sz1 := cell_of kF9 1
      have fz0 := free_of kF9 0
      have fz1 := free_of kF9 1
      simp at z0 z1 sz0 sz1
      clear KF aF gE gE2 lE AE kE k9 lw9 kF9 A9 b9 kF8 k8 lw8 A8
      go_wp2
      exact bodyPost_ret (v := .tuple #[.slice none 0 0, .agg #[.int .i64 16, .int .i64 res.p]]) (by simp [results, Tryd.results14, go_sem, z0, z1]) rfl ⟨fun _ => ⟨rfl, wb, dX, HEND.out.1, HEND.out.2.1, zw2, zw3, Nat.le_of_lt hwbw⟩, fun h => absurd h (by omega), HEND.out.2.2⟩
     case pos =>
      have hp1 : ¬ 0 ≤ res.p := by omega
      have hge : decide (0 ≤ res.p) = false := decide_eq_false hp1
      obtain ⟨Y, hY⟩ : ∃ Y, Y = res.s.M := ⟨_, rfl⟩
      rw [← hY] at hm7 hl7 hw7
      have HY := hide hY
      have HML := hide (And.intro hm7 (And.intro hl7 hw7))
      have HG7 := hide hg7
      have hcs7 := hm7.lt
      clear hY lw7
      have kg : w7.heap[gb]? = some (.cells #[v0, .int .i64 (nr : Int), v2, .slice aP i cP, .slice aB nb cB, .slice aG ng cG, .slice aL ln cL, .slice (some ⟨cb, 0, none⟩) nc cc, .int .i64 res.st] 46 (0, 0)) := hg7
      have g3 := cell_of kg 3
      have g4 := cell_of kg 4
      have g5 := cell_of kg 5
      have g7 := cell_of kg 7
      have g8 := cell_of kg 8
      simp at g3 g4 g5 g7 g8
      have yg := lt_of kg
      go_wp2_with fail
      go_loopg [11, 12] ng (fun kz sv v wr => ∃ (q : Nat) (aX : Option Addr) (cX : Nat), q ≤ ng ∧ kz = ng - q ∧ sv = .slice aX q cX ∧ v = .int .i64 (q : Nat) ∧ Hid (OwnL kLong w7.heap.size wr (.slice aX q cX) ((G.take q).map fun g => Lo.rd Y g)) ∧ Below w7.heap.size w7 wr)
      case atStart => exact ⟨0, none, 0, Nat.zero_le _, rfl, rfl, rfl, hide OwnL.nil, Below.refl _ _⟩
      case round =>
       clear g3 g4 g5 g7 g8 kg yg
       obtain ⟨q, aX, cX, hq, rfl, rfl, rfl, HO, hbt⟩ := hrel
       have hln : ((G.take q).map fun g => Lo.rd Y g).length = q := by simp; have := HNG.out; omega
       have kCt := hm7.under hbt
       have hgt := hg7.keep (hbt.block _ (lt_of hg7))
       have At := A7.trans (aside (S := [gb, cb]) hbt) A7.size
       have kg : wr.heap[gb]? = some (.cells #[v0, .int .i64 (nr : Int), v2, .slice aP i cP, .slice aB nb cB, .slice aG ng cG, .slice aL ln cL, .slice (some ⟨cb, 0, none⟩) nc cc, .int .i64 res.st] 46 (0, 0)) := hgt
       have g3 := cell_of kg 3
       have g4 := cell_of kg 4
       have g5 := cell_of kg 5
       have g7 := cell_of kg 7
       have g8 := cell_of kg 8
       simp at g3 g4 g5 g7 g8
       have yg := lt_of kg
       by_cases hlt : q < ng
       case neg =>
        have hin : q = ng := by omega
        have HT := hide (show OwnL kLong w7.heap.size wr (.slice aX q cX) (G.map fun g => Lo.rd Y g) by
         have := HO.out
         rw [List.take_of_length_le (by have := HNG.out; omega)] at this
         exact this)
        have HOE := hide (HT.out.less (B' := w.heap.size) hwsz)
        have HCE := hide kCt
        have HGE := hide hgt
        have kFt := (hbt.block _ (lt_of kF7)).trans kF7
        have aF : Aside [w.heap.size] wr.heap.size wr ((wr.setCell ⟨w.heap.size, 0, none⟩ (.int .i64 0)).setCell ⟨w.heap.size, 1, none⟩ (.int .i64 0)) := aside_two (by simp) _ _
        have KF := two_set kFt (.int .i64 0) (.int .i64 0)
        have z0 := cell_of KF 0
        have z1 := cell_of KF 1
        have sz0 := cell_of kFt 0
        have sz1 := cell_of kFt 1
        have fz0 := free_of kFt 0
        have fz1 := free_of kFt 1
        simp at z0 z1 sz0 sz1
        have hne1 : w.heap.size ≠ gb := by omega
        have hne2 : w.heap.size ≠ cb := by omega
        have Aend : Aside [gb, cb] w.heap.size w ((wr.setCell ⟨w.heap.size, 0, none⟩ (.int .i64 0)).setCell ⟨w.heap.size, 1, none⟩ (.int .i64 0)) := ⟨aF.os.trans At.os, aF.tape.trans At.tape, aF.output.trans At.output, Nat.le_trans At.size aF.size, fun j hj hs => (aF.block j (Nat.lt_of_lt_of_le hj At.size) (by simp; omega)).trans (At.block j hj hs)⟩
        have gE := hgt.keep (aF.block gb (lt_of hgt) (by simpa using hne1.symm))
        have mE := kCt.keep (aF.block cb kCt.lt (by simpa using hne2.symm))
        have oE : OwnL kLong w.heap.size ((wr.setCell ⟨w.heap.size, 0, none⟩ (.int .i64 0)).setCell ⟨w.heap.size, 1, none⟩ (.int .i64 0)) (.slice aX q cX) (G.map fun g => Lo.rd Y g) := (HT.out.keep aF.size (fun j hj hl => aF.block j hl (by simp; omega))).less hwsz
        have HEND := hide (And.intro oE (And.intro gE (And.intro mE Aend)))
        clear HT HO hln kCt At HOE HCE HGE KF aF Aend gE mE oE hgt
        go_wp2
        exact bodyPost_ret (v := .tuple #[.slice aX q cX, .agg #[.int .i64 0, .int .i64 0]]) (by simp [results, Tryd.results14, go_sem, z0, z1]) rfl ⟨fun h => absurd hp0 h, fun _ => ⟨_, rfl, by rw [← HY.out]; exact HEND.out.1, HEND.out.2.1, by rw [← HY.out]; exact HEND.out.2.2.1, by rw [← HY.out]; exact HML.out.2.1, by rw [← HY.out]; exact HML.out.2.2⟩, HEND.out.2.2.2⟩
       case pos =>
        obtain ⟨aoG, cpG, eG, -, -, hatG⟩ := (HG.out w7 A7).at
        injection eG with q1 q2 q3
        have hqG : q < G.length := by have := HNG.out; omega
        obtain ⟨bG, oG, eaG, yG, e0'⟩ := hatG q hqG
        rw [eaG] at q1
        have e0 := (hbt.cell (p := ⟨bG, oG + q, none⟩) yG).trans e0'
        clear e0'
        have yg7 := lt_of hg7
        have hgi := HGX.out _ (List.getElem_mem hqG)
        have hts : (G.take (q + 1)).map (fun g => Lo.rd Y g) = (G.take q).map (fun g => Lo.rd Y g) ++ [Lo.rd Y G[q]] := by rw [List.take_succ_eq_append_getElem hqG, List.map_append]; rfl
        generalize G[q] = g at e0 hts hgi
        obtain ⟨gn, rfl⟩ : ∃ gn : Nat, g = (gn : Int) := ⟨g.toNat, by omega⟩
        have hgl : gn < Y.length := by omega
        have hgc : (gn : Int) < (nc : Int) := by omega
        have hqg : (q : Int) < (ng : Int) := by omega
        have c0 := kCt.at hgl
        have ycb := kCt.lt
        have hrd : Lo.rd Y (gn : Int) = Y[gn] := by unfold Lo.rd; rw [Int.toNat_natCast, List.getD_eq_getElem?_getD, List.getElem?_eq_getElem hgl]; rfl
        rw [hrd] at hts
        generalize Y[gn] = x at c0 hts
        have HTS := hide hts
        have HNb := hide (fun k (e : (Value.slice aX q cX).ownBlock = some k) => (HO.out.lt k e).1)
        have zB := hbt.size
        have qA : (((G.take q).map fun g => Lo.rd Y g).length + 1) * 8 ≤ 140737488355328 := by rw [hln]; omega
        have qB : ((G.take q).map fun g => Lo.rd Y g).length + 1 ≤ maxLen := by rw [hln]; unfold maxLen; omega
        have HLN := hide hln
        obtain ⟨LST, hLST⟩ : ∃ LST, LST = (G.take q).map fun g => Lo.rd Y g := ⟨_, rfl⟩
        rw [← hLST] at qA qB HLN HO HTS
        subst q1
        clear hatG q2 q3 hrd hts hln hgi hLST hl7 hgl kCt hgt
        go_upto_region 23 with fail
        refine wp_region_late (fun w' => Below w7.heap.size wr w') (fun _ => false) (by kernel_rfl) ?_
        have hH0 : Below w7.heap.size wr wr.drew := (Below.refl _ _).drew
        have HOX : OwnL kLong w7.heap.size wr.drew (.slice aX q cX) LST := HO.out
        generalize wr.drew = wd0 at hH0 HOX ⊢
        refine' wpAnyL_take (i := 0) (oi := ⟨some 116, _, _, _, _, _⟩) (v := _) rfl (by kernel_rfl) (by kernel_rfl) (by kernel_rfl) (by kernel_rfl) (fun _ _ _ h => h) hH0 (by rfl) ?hyv ?o18
        case hyv =>
         intro wz hSw
         go_simp
         try rfl
        try simp only [Act.put, sT, sZ, sS]
        refine' wpAnyL_take (i := 1) (oi := ⟨some 117, _, _, _, _, _⟩) (v := _) rfl (by kernel_rfl) (by kernel_rfl) (by kernel_rfl) (by kernel_rfl) (fun _ _ _ h => h) hH0 (by rfl) ?hyv ?o19
        case hyv =>
         intro wz hSw
         go_simp
         try rfl
        try simp only [Act.put, sT, sZ, sS]
        refine' wpAnyL_take (i := 2) (oi := ⟨some 118, _, _, _, _, _⟩) (v := _) rfl (by kernel_rfl) (by kernel_rfl) (by kernel_rfl) (by kernel_rfl) (fun _ _ _ h => h) hH0 (by rfl) ?hyv ?o20
        case hyv =>
         intro wz hSw
         go_simp
         try rfl
        try simp only [Act.put, sT, sZ, sS]
        refine' wpAnyL_take (i := 3) (oi := ⟨some 119, _, _, _, _, _⟩) (v := _) rfl (by kernel_rfl) (by kernel_rfl) (by kernel_rfl) (by kernel_rfl) (fun _ _ _ h => h) hH0 (by rfl) ?hyv ?o21
        case hyv =>
         intro wz hSw
         go_simp
         try rfl
        try simp only [Act.put, sT, sZ, sS]
        refine' wpAnyL_take (i := 4) (oi := ⟨some 120, _, _, _, _, _⟩) (v := _) rfl (by kernel_rfl) (by kernel_rfl) (by kernel_rfl) (by kernel_rfl) (fun _ _ _ h => h) hH0 (by rfl) ?hyv ?o22
        case hyv =>
         intro wz hSw
         have zc0 := (hSw.cell (p := ⟨gb, 5, none⟩) yg7).trans g5
         have zc1 := (hSw.cell (p := ⟨gb, 7, none⟩) yg7).trans g7
         have zc2 := (hSw.cell (p := ⟨bG, oG + q, none⟩) yG).trans e0
         have zc3 := (hSw.cell (p := ⟨cb, gn, none⟩) hcs7).trans c0
         go_simp
         try rfl
        try simp only [Act.put, sT, sZ, sS]
        refine' wpAnyL_take (i := 5) (oi := ⟨some 121, _, _, _, _, _⟩) (v := _) rfl (by kernel_rfl) (by kernel_rfl) (by kernel_rfl) (by kernel_rfl) (fun _ _ _ h => h) hH0 (by rfl) ?hyv ?o23
        case hyv =>
         intro wz hSw
         go_simp
         try rfl
        try simp only [Act.put, sT, sZ, sS]
        refine' wpAnyL_take (i := 6) (oi := ⟨some 122, _, _, _, _, _⟩) (v := _) rfl (by kernel_rfl) (by kernel_rfl) (by kernel_rfl) (by kernel_rfl) (fun _ _ _ h => h) hH0 (by rfl) ?hyv ?o24
        case hyv =>
         intro wz hSw
         go_simp
         try rfl
        try simp only [Act.put, sT, sZ, sS]
        refine' wpAnyL_take (i := 7) (oi := ⟨some 123, _, _, _, _, _⟩) (v := _) rfl (by kernel_rfl) (by kernel_rfl) (by kernel_rfl) (by kernel_rfl) (fun _ _ _ h => h) hH0 (by rfl) ?hyv ?o25
        case hyv =>
         intro wz hSw
         go_simp
         try rfl
        try simp only [Act.put, sT, sZ, sS]
        refine' wpAnyL_take (i := 8) (oi := ⟨some 124, _, _, _, _, _⟩) (v := _) rfl (by kernel_rfl) (by kernel_rfl) (by kernel_rfl) (by kernel_rfl) (fun _ _ _ h => h) hH0 (by rfl) ?hyv ?o26
        case hyv =>
         intro wz hSw
         go_simp
         try rfl
        try simp only [Act.put, sT, sZ, sS]
        refine' wpAnyL_take (i := 9) (oi := ⟨some 125, _, _, _, _, _⟩) (v := _) rfl (by kernel_rfl) (by kernel_rfl) (by kernel_rfl) (by kernel_rfl) (fun _ _ _ h => h) hH0 (by rfl) ?hyv ?o27
        case hyv =>
         intro wz hSw
         have zc0 := (hSw.cell (p := ⟨gb, 5, none⟩) yg7).trans g5
         have zc1 := (hSw.cell (p := ⟨gb, 7, none⟩) yg7).trans g7
         have zc2 := (hSw.cell (p := ⟨bG, oG + q, none⟩) yG).trans e0
         have zc3 := (hSw.cell (p := ⟨cb, gn, none⟩) hcs7).trans c0
         go_simp
         try rfl
        try simp only [Act.put, sT, sZ, sS]
        refine' wpAnyL_take (i := 10) (oi := ⟨some 126, _, _, _, _, _⟩) (v := _) rfl (by kernel_rfl) (by kernel_rfl) (by kernel_rfl) (by kernel_rfl) (fun _ _ _ h => h) hH0 (by rfl) ?hyv ?o28
        case hyv =>
         intro wz hSw
         go_simp
         try rfl
        try simp only [Act.put, sT, sZ, sS]
        refine' wpAnyL_take (i := 11) (oi := ⟨some 127, _, _, _, _, _⟩) (v := _) rfl (by kernel_rfl) (by kernel_rfl) (by kernel_rfl) (by kernel_rfl) (fun _ _ _ h => h) hH0 (by rfl) ?hyv ?o29
        case hyv =>
         intro wz hSw
         go_simp
         try rfl
        try simp only [Act.put, sT, sZ, sS]
        refine' wpAnyL_take (i := 12) (oi := ⟨some 128, _, _, _, _, _⟩) (v := _) rfl (by kernel_rfl) (by kernel_rfl) (by kernel_rfl) (by kernel_rfl) (fun _ _ _ h => h) hH0 (by rfl) ?hyv ?o30
        case hyv =>
         intro wz hSw
         have zc0 := (hSw.cell (p := ⟨gb, 5, none⟩) yg7).trans g5
         have zc1 := (hSw.cell (p := ⟨gb, 7, none⟩) yg7).trans g7
         have zc2 := (hSw.cell (p := ⟨bG, oG + q, none⟩) yG).trans e0
         have zc3 := (hSw.cell (p := ⟨cb, gn, none⟩) hcs7).trans c0
         go_simp
         try rfl
        try simp only [Act.put, sT, sZ, sS]
        refine' wpAnyL_take (i := 13) (oi := ⟨some 129, _, _, _, _, _⟩) (v := _) rfl (by kernel_rfl) (by kernel_rfl) (by kernel_rfl) (by kernel_rfl) (fun _ _ _ h => h) hH0 (by rfl) ?hyv ?o31
        case hyv =>
         intro wz hSw
         go_simp
         try rfl
        try simp only [Act.put, sT, sZ, sS]
        refine' wpAnyL_take (i := 14) (oi := ⟨some 130, _, _, _, _, _⟩) (v := _) rfl (by kernel_rfl) (by kernel_rfl) (by kernel_rfl) (by kernel_rfl) (fun _ _ _ h => h) hH0 (by rfl) ?hyv ?o32
        case hyv =>
         intro wz hSw
         have zc0 := (hSw.cell (p := ⟨gb, 5, none⟩) yg7).trans g5
         have zc1 := (hSw.cell (p := ⟨gb, 7, none⟩) yg7).trans g7
         have zc2 := (hSw.cell (p := ⟨bG, oG + q, none⟩) yG).trans e0
         have zc3 := (hSw.cell (p := ⟨cb, gn, none⟩) hcs7).trans c0
         go_simp
         try rfl
        try simp only [Act.put, sT, sZ, sS]
        refine wpAnyL_one (i := 15) (o := _) rfl (by kernel_rfl) (by rfl) (fun K hK => ?_)
        go_simp
        have hH1 : Below w7.heap.size wr (wd0.alloc (.cells #[.int .i64 x] 2 (0, 0))) := hH0.alloc (Nat.le_trans zB hH0.size) _
        refine hK.out _ _ (fun _ => hH1) ?_
        clear hK K
        try simp only [Act.put, sT, sZ, sS]
        refine wpAnyL_one (i := 16) (o := _) rfl (by kernel_rfl) (by rfl) (fun K hK => ?_)
        have zw0 := Nat.le_trans zB hH0.size
        refine oper_moreX kLong _ _ 40 2 rfl Tryd.underlying40 wd0.heap.size _ (.slice aX q cX) LST (by rfl) (ownX_of HOX) [.int .i64 x] x rfl (by rfl) (fun j hj => hj.2) (Nat.le_refl _) qA qB ?_
        intro v8 wd2 own8 hg8
        have hH2 : Below w7.heap.size wr wd2 := hH1.trans (grown_low hg8 HNb.out (Nat.le_trans zB hH1.size))
        obtain ⟨a8, c8, e8, -, -⟩ := own8.form
        rw [List.length_append, HLN.out, List.length_singleton] at e8
        subst e8
        rw [← HTS.out] at own8
        have HO9 := hide (ownL_of (B := w7.heap.size) own8 (fun k hk => by
         rcases hk with hk | hk
         ·exact hk.1
         ·exact Nat.le_trans zw0 hk))
        clear own8 hg8
        refine hK.out _ _ (fun _ => hH2) ?_
        clear hK K
        try simp only [Act.put, sT, sZ, sS]
        refine' wpAnyL_take (i := 17) (oi := ⟨some 11, _, _, _, _, _⟩) (v := _) rfl (by kernel_rfl) (by kernel_rfl) (by kernel_rfl) (by kernel_rfl) (fun _ _ _ h => h) hH2 (by rfl) ?hyv ?o33
        case hyv =>
         intro wz hSw
         go_simp
         try rfl
        try simp only [Act.put, sT, sZ, sS]
        refine wpAnyL_done (by kernel_rfl) ?_ _
        have BF := hbt.trans hH2
        go_wp2_with fail
        go_roundg (ng - (q + 1))
        case measure => omega
        case rel => exact ⟨q + 1, a8, c8, by omega, rfl, rfl, by go_num, HO9, BF⟩
  case pos =>
   obtain ⟨aoI, cpI, eI, -, -, hatI⟩ := (HI.out wr Ar).at
   injection eI with r1 r2 r3
   have hiI : i < inp.length := by have := HLEN.out; have := HNP.out; omega
   obtain ⟨bI, oI, eaI, yI, f0⟩ := hatI i hiI
   rw [eaI] at r1
   obtain ⟨aoP, cpP, eP, -, -, hatP⟩ := (HP.out wr Ar).at
   injection eP with q1 q2 q3
   have hiP : i < P.length := by have := HNP.out; omega
   obtain ⟨bP, oP, eaP, yP, p0⟩ := hatP i hiP
   rw [eaP] at q1
   have HFi := hide (HFINE.out i hiI hiP)
   generalize inp[i] = x at f0 HFi
   generalize P[i] = p at p0 HFi
   have hil : (i : Int) < (np : Int) := by omega
   subst r1 q1
   clear hatI hatP r2 r3 q2 q3 hiI hiP
   go_upto_region 6 with fail
   by_cases hx0 : x = 0
   case pos =>
    subst hx0
    have hxb : ((0 : Int) != 0) = false := rfl
    refine wp_region_late (fun w' => Below wr.heap.size wr w') (fun _ => false) (by kernel_rfl) ?_
    have hH0 : Below wr.heap.size wr wr.drew := (Below.refl _ _).drew
    generalize wr.drew = wd0 at hH0 ⊢
    refine' wpAnyL_take (i := 0) (oi := ⟨some 29, _, _, _, _, _⟩) (v := _) rfl (by kernel_rfl) (by kernel_rfl) (by kernel_rfl) (by kernel_rfl) (fun _ _ _ h => h) hH0 (by rfl) ?hyv ?o34
    case hyv =>
     intro wz hSw
     go_simp
     try rfl
    try simp only [Act.put, sT, sZ, sS]
    refine' wpAnyL_take (i := 1) (oi := ⟨some 30, _, _, _, _, _⟩) (v := _) rfl (by kernel_rfl) (by kernel_rfl) (by kernel_rfl) (by kernel_rfl) (fun _ _ _ h => h) hH0 (by rfl) ?hyv ?o35
    case hyv =>
     intro wz hSw
     go_simp
     try rfl
    try simp only [Act.put, sT, sZ, sS]
    refine' wpAnyL_take (i := 2) (oi := ⟨some 31, _, _, _, _, _⟩) (v := _) rfl (by kernel_rfl) (by kernel_rfl) (by kernel_rfl) (by kernel_rfl) (fun _ _ _ h => h) hH0 (by rfl) ?hyv ?o36
    case hyv =>
     intro wz hSw
     go_simp
     try rfl
    try simp only [Act.put, sT, sZ, sS]
    refine' wpAnyL_take (i := 3) (oi := ⟨some 32, _, _, _, _, _⟩) (v := _) rfl (by kernel_rfl) (by kernel_rfl) (by kernel_rfl) (by kernel_rfl) (fun _ _ _ h => h) hH0 (by rfl) ?hyv ?o37
    case hyv =>
     intro wz hSw
     have zc0 := (hSw.cell (p := ⟨bI, oI + i, none⟩) yI).trans f0
     have zc1 := (hSw.cell (p := ⟨bP, oP + i, none⟩) yP).trans p0
     have zc2 := (hSw.cell (p := ⟨gb, 3, none⟩) ygr).trans g3
     have zc3 := (hSw.cell (p := ⟨gb, 4, none⟩) ygr).trans g4
     go_simp
     try rfl
    try simp only [Act.put, sT, sZ, sS]
    refine' wpAnyL_take (i := 4) (oi := ⟨some 33, _, _, _, _, _⟩) (v := _) rfl (by kernel_rfl) (by kernel_rfl) (by kernel_rfl) (by kernel_rfl) (fun _ _ _ h => h) hH0 (by rfl) ?hyv ?o38
    case hyv =>
     intro wz hSw
     go_simp
     try rfl
    try simp only [Act.put, sT, sZ, sS]
    refine' wpAnyL_take (i := 5) (oi := ⟨some 34, _, _, _, _, _⟩) (v := _) rfl (by kernel_rfl) (by kernel_rfl) (by kernel_rfl) (by kernel_rfl) (fun _ _ _ h => h) hH0 (by rfl) ?hyv ?o39
    case hyv =>
     intro wz hSw
     go_simp
     try rfl
    try simp only [Act.put, sT, sZ, sS]
    refine wpAnyL_skip (i := 6) (oi := ⟨some 35, _, _, _, _, _⟩) rfl (by kernel_rfl) (by kernel_rfl) (by kernel_rfl) (by kernel_rfl) (fun _ _ _ h => h) hH0 (by rfl) ?_
    try simp only [Act.put, sT, sZ, sS]
    refine wpAnyL_skip (i := 7) (oi := ⟨some 36, _, _, _, _, _⟩) rfl (by kernel_rfl) (by kernel_rfl) (by kernel_rfl) (by kernel_rfl) (fun _ _ _ h => h) hH0 (by rfl) ?_
    try simp only [Act.put, sT, sZ, sS]
    refine wpAnyL_skip (i := 8) (oi := ⟨some 37, _, _, _, _, _⟩) rfl (by kernel_rfl) (by kernel_rfl) (by kernel_rfl) (by kernel_rfl) (fun _ _ _ h => h) hH0 (by rfl) ?_
    try simp only [Act.put, sT, sZ, sS]
    refine wpAnyL_skip (i := 9) (oi := ⟨some 38, _, _, _, _, _⟩) rfl (by kernel_rfl) (by kernel_rfl) (by kernel_rfl) (by kernel_rfl) (fun _ _ _ h => h) hH0 (by rfl) ?_
    try simp only [Act.put, sT, sZ, sS]
    refine wpAnyL_skip (i := 10) (oi := ⟨some 39, _, _, _, _, _⟩) rfl (by kernel_rfl) (by kernel_rfl) (by kernel_rfl) (by kernel_rfl) (fun _ _ _ h => h) hH0 (by rfl) ?_
    try simp only [Act.put, sT, sZ, sS]
    refine' wpAnyL_take (i := 11) (oi := ⟨some 40, _, _, _, _, _⟩) (v := _) rfl (by kernel_rfl) (by kernel_rfl) (by kernel_rfl) (by kernel_rfl) (fun _ _ _ h => h) hH0 (by rfl) ?hyv ?o40
    case hyv =>
     intro wz hSw
     go_simp
     try rfl
    try simp only [Act.put, sT, sZ, sS]
    refine' wpAnyL_take (i := 12) (oi := ⟨some 41, _, _, _, _, _⟩) (v := _) rfl (by kernel_rfl) (by kernel_rfl) (by kernel_rfl) (by kernel_rfl) (fun _ _ _ h => h) hH0 (by rfl) ?hyv ?o41
    case hyv =>
     intro wz hSw
     go_simp
     try rfl
    try simp only [Act.put, sT, sZ, sS]
    refine wpAnyL_skip (i := 13) (oi := ⟨some 42, _, _, _, _, _⟩) rfl (by kernel_rfl) (by kernel_rfl) (by kernel_rfl) (by kernel_rfl) (fun _ _ _ h => h) hH0 (by rfl) ?_
    try simp only [Act.put, sT, sZ, sS]
    refine wpAnyL_skip (i := 14) (oi := ⟨some 43, _, _, _, _, _⟩) rfl (by kernel_rfl) (by kernel_rfl) (by kernel_rfl) (by kernel_rfl) (fun _ _ _ h => h) hH0 (by rfl) ?_
    try simp only [Act.put, sT, sZ, sS]
    refine wpAnyL_skip (i := 15) (oi := ⟨some 44, _, _, _, _, _⟩) rfl (by kernel_rfl) (by kernel_rfl) (by kernel_rfl) (by kernel_rfl) (fun _ _ _ h => h) hH0 (by rfl) ?_
    try simp only [Act.put, sT, sZ, sS]
    refine wpAnyL_skip (i := 16) (oi := ⟨some 45, _, _, _, _, _⟩) rfl (by kernel_rfl) (by kernel_rfl) (by kernel_rfl) (by kernel_rfl) (fun _ _ _ h => h) hH0 (by rfl) ?_
    try simp only [Act.put, sT, sZ, sS]
    refine wpAnyL_skip (i := 17) (oi := ⟨some 46, _, _, _, _, _⟩) rfl (by kernel_rfl) (by kernel_rfl) (by kernel_rfl) (by kernel_rfl) (fun _ _ _ h => h) hH0 (by rfl) ?_
    try simp only [Act.put, sT, sZ, sS]
    refine wpAnyL_skip (i := 18) (oi := ⟨some 47, _, _, _, _, _⟩) rfl (by kernel_rfl) (by kernel_rfl) (by kernel_rfl) (by kernel_rfl) (fun _ _ _ h => h) hH0 (by rfl) ?_
    try simp only [Act.put, sT, sZ, sS]
    refine wpAnyL_skip (i := 19) (oi := ⟨some 48, _, _, _, _, _⟩) rfl (by kernel_rfl) (by kernel_rfl) (by kernel_rfl) (by kernel_rfl) (fun _ _ _ h => h) hH0 (by rfl) ?_
    try simp only [Act.put, sT, sZ, sS]
    refine wpAnyL_skip (i := 20) (oi := ⟨some 49, _, _, _, _, _⟩) rfl (by kernel_rfl) (by kernel_rfl) (by kernel_rfl) (by kernel_rfl) (fun _ _ _ h => h) hH0 (by rfl) ?_
    try simp only [Act.put, sT, sZ, sS]
    refine wpAnyL_skip (i := 21) (oi := ⟨some 50, _, _, _, _, _⟩) rfl (by kernel_rfl) (by kernel_rfl) (by kernel_rfl) (by kernel_rfl) (fun _ _ _ h => h) hH0 (by rfl) ?_
    try simp only [Act.put, sT, sZ, sS]
    refine wpAnyL_skip (i := 22) (oi := ⟨some 51, _, _, _, _, _⟩) rfl (by kernel_rfl) (by kernel_rfl) (by kernel_rfl) (by kernel_rfl) (fun _ _ _ h => h) hH0 (by rfl) ?_
    try simp only [Act.put, sT, sZ, sS]
    refine wpAnyL_skip (i := 23) (oi := ⟨some 52, _, _, _, _, _⟩) rfl (by kernel_rfl) (by kernel_rfl) (by kernel_rfl) (by kernel_rfl) (fun _ _ _ h => h) hH0 (by rfl) ?_
    try simp only [Act.put, sT, sZ, sS]
    refine wpAnyL_skip (i := 24) (oi := ⟨some 53, _, _, _, _, _⟩) rfl (by kernel_rfl) (by kernel_rfl) (by kernel_rfl) (by kernel_rfl) (fun _ _ _ h => h) hH0 (by rfl) ?_
    try simp only [Act.put, sT, sZ, sS]
    refine wpAnyL_skip (i := 25) (oi := ⟨some 54, _, _, _, _, _⟩) rfl (by kernel_rfl) (by kernel_rfl) (by kernel_rfl) (by kernel_rfl) (fun _ _ _ h => h) hH0 (by rfl) ?_
    try simp only [Act.put, sT, sZ, sS]
    refine wpAnyL_skip (i := 26) (oi := ⟨some 55, _, _, _, _, _⟩) rfl (by kernel_rfl) (by kernel_rfl) (by kernel_rfl) (by kernel_rfl) (fun _ _ _ h => h) hH0 (by rfl) ?_
    try simp only [Act.put, sT, sZ, sS]
    refine' wpAnyL_take (i := 27) (oi := ⟨some 56, _, _, _, _, _⟩) (v := _) rfl (by kernel_rfl) (by kernel_rfl) (by kernel_rfl) (by kernel_rfl) (fun _ _ _ h => h) hH0 (by rfl) ?hyv ?o42
    case hyv =>
     intro wz hSw
     go_simp
     try rfl
    try simp only [Act.put, sT, sZ, sS]
    refine wpAnyL_done (by kernel_rfl) ?_ _
    go_wp2_with fail
    go_roundg (np - (i + 1))
    case measure => omega
    case rel => exact ⟨i + 1, by omega, rfl, by go_num, br.trans (hH0.mono br.size)⟩
   case neg =>
    have hxb : (x != 0) = true := by simpa using hx0
    by_cases hx1 : x = 1
    case pos =>
     subst hx1
     have hxc : ((1 : Int) != 1) = false := rfl
     refine wp_region_late (fun w' => Below wr.heap.size wr w') (fun _ => false) (by kernel_rfl) ?_
     have hH0 : Below wr.heap.size wr wr.drew := (Below.refl _ _).drew
     generalize wr.drew = wd0 at hH0 ⊢
     refine' wpAnyL_take (i := 0) (oi := ⟨some 29, _, _, _, _, _⟩) (v := _) rfl (by kernel_rfl) (by kernel_rfl) (by kernel_rfl) (by kernel_rfl) (fun _ _ _ h => h) hH0 (by rfl) ?hyv ?o43
     case hyv =>
      intro wz hSw
      go_simp
      try rfl
     try simp only [Act.put, sT, sZ, sS]
     refine' wpAnyL_take (i := 1) (oi := ⟨some 30, _, _, _, _, _⟩) (v := _) rfl (by kernel_rfl) (by kernel_rfl) (by kernel_rfl) (by kernel_rfl) (fun _ _ _ h => h) hH0 (by rfl) ?hyv ?o44
     case hyv =>
      intro wz hSw
      go_simp
      try rfl
     try simp only [Act.put, sT, sZ, sS]
     refine' wpAnyL_take (i := 2) (oi := ⟨some 31, _, _, _, _, _⟩) (v := _) rfl (by kernel_rfl) (by kernel_rfl) (by kernel_rfl) (by kernel_rfl) (fun _ _ _ h => h) hH0 (by rfl) ?hyv ?o45
     case hyv =>
      intro wz hSw
      go_simp
      try rfl
     try simp only [Act.put, sT, sZ, sS]
     refine' wpAnyL_take (i := 3) (oi := ⟨some 32, _, _, _, _, _⟩) (v := _) rfl (by kernel_rfl) (by kernel_rfl) (by kernel_rfl) (by kernel_rfl) (fun _ _ _ h => h) hH0 (by rfl) ?hyv ?o46
     case hyv =>
      intro wz hSw
      have zc0 := (hSw.cell (p := ⟨bI, oI + i, none⟩) yI).trans f0
      have zc1 := (hSw.cell (p := ⟨bP, oP + i, none⟩) yP).trans p0
      have zc2 := (hSw.cell (p := ⟨gb, 3, none⟩) ygr).trans g3
      have zc3 := (hSw.cell (p := ⟨gb, 4, none⟩) ygr).trans g4
      go_simp
      try rfl
     try simp only [Act.put, sT, sZ, sS]
     refine' wpAnyL_take (i := 4) (oi := ⟨some 33, _, _, _, _, _⟩) (v := _) rfl (by kernel_rfl) (by kernel_rfl) (by kernel_rfl) (by kernel_rfl) (fun _ _ _ h => h) hH0 (by rfl) ?hyv ?o47
     case hyv =>
      intro wz hSw
      go_simp
      try rfl
     try simp only [Act.put, sT, sZ, sS]
     refine' wpAnyL_take (i := 5) (oi := ⟨some 34, _, _, _, _, _⟩) (v := _) rfl (by kernel_rfl) (by kernel_rfl) (by kernel_rfl) (by kernel_rfl) (fun _ _ _ h => h) hH0 (by rfl) ?hyv ?o48
     case hyv =>
      intro wz hSw
      go_simp
      try rfl
     try simp only [Act.put, sT, sZ, sS]
     refine' wpAnyL_take (i := 6) (oi := ⟨some 35, _, _, _, _, _⟩) (v := _) rfl (by kernel_rfl) (by kernel_rfl) (by kernel_rfl) (by kernel_rfl) (fun _ _ _ h => h) hH0 (by rfl) ?hyv ?o49
     case hyv =>
      intro wz hSw
      go_simp
      try rfl
     try simp only [Act.put, sT, sZ, sS]
     refine' wpAnyL_take (i := 7) (oi := ⟨some 36, _, _, _, _, _⟩) (v := _) rfl (by kernel_rfl) (by kernel_rfl) (by kernel_rfl) (by kernel_rfl) (fun _ _ _ h => h) hH0 (by rfl) ?hyv ?o50
     case hyv =>
      intro wz hSw
      go_simp
      try rfl
     try simp only [Act.put, sT, sZ, sS]
     refine' wpAnyL_take (i := 8) (oi := ⟨some 37, _, _, _, _, _⟩) (v := _) rfl (by kernel_rfl) (by kernel_rfl) (by kernel_rfl) (by kernel_rfl) (fun _ _ _ h => h) hH0 (by rfl) ?hyv ?o51
     case hyv =>
      intro wz hSw
      go_simp
      try rfl
     try simp only [Act.put, sT, sZ, sS]
     refine' wpAnyL_take (i := 9) (oi := ⟨some 38, _, _, _, _, _⟩) (v := _) rfl (by kernel_rfl) (by kernel_rfl) (by kernel_rfl) (by kernel_rfl) (fun _ _ _ h => h) hH0 (by rfl) ?hyv ?o52
     case hyv =>
      intro wz hSw
      have zc0 := (hSw.cell (p := ⟨bI, oI + i, none⟩) yI).trans f0
      have zc1 := (hSw.cell (p := ⟨bP, oP + i, none⟩) yP).trans p0
      have zc2 := (hSw.cell (p := ⟨gb, 3, none⟩) ygr).trans g3
      have zc3 := (hSw.cell (p := ⟨gb, 4, none⟩) ygr).trans g4
      go_simp
      try rfl
     try simp only [Act.put, sT, sZ, sS]
     refine' wpAnyL_take (i := 10) (oi := ⟨some 39, _, _, _, _, _⟩) (v := _) rfl (by kernel_rfl) (by kernel_rfl) (by kernel_rfl) (by kernel_rfl) (fun _ _ _ h => h) hH0 (by rfl) ?hyv ?o53
     case hyv =>
      intro wz hSw
      go_simp
      try rfl
     try simp only [Act.put, sT, sZ, sS]
     refine' wpAnyL_take (i := 11) (oi := ⟨some 40, _, _, _, _, _⟩) (v := _) rfl (by kernel_rfl) (by kernel_rfl) (by kernel_rfl) (by kernel_rfl) (fun _ _ _ h => h) hH0 (by rfl) ?hyv ?o54
     case hyv =>
      intro wz hSw
      go_simp
      try rfl
     try simp only [Act.put, sT, sZ, sS]
     refine' wpAnyL_take (i := 12) (oi := ⟨some 41, _, _, _, _, _⟩) (v := _) rfl (by kernel_rfl) (by kernel_rfl) (by kernel_rfl) (by kernel_rfl) (fun _ _ _ h => h) hH0 (by rfl) ?hyv ?o55
     case hyv =>
      intro wz hSw
      go_simp
      try rfl
     try simp only [Act.put, sT, sZ, sS]
     refine wpAnyL_skip (i := 13) (oi := ⟨some 42, _, _, _, _, _⟩) rfl (by kernel_rfl) (by kernel_rfl) (by kernel_rfl) (by kernel_rfl) (fun _ _ _ h => h) hH0 (by rfl) ?_
     try simp only [Act.put, sT, sZ, sS]
     refine wpAnyL_skip (i := 14) (oi := ⟨some 43, _, _, _, _, _⟩) rfl (by kernel_rfl) (by kernel_rfl) (by kernel_rfl) (by kernel_rfl) (fun _ _ _ h => h) hH0 (by rfl) ?_
     try simp only [Act.put, sT, sZ, sS]
     refine wpAnyL_skip (i := 15) (oi := ⟨some 44, _, _, _, _, _⟩) rfl (by kernel_rfl) (by kernel_rfl) (by kernel_rfl) (by kernel_rfl) (fun _ _ _ h => h) hH0 (by rfl) ?_
     try simp only [Act.put, sT, sZ, sS]
     refine wpAnyL_skip (i := 16) (oi := ⟨some 45, _, _, _, _, _⟩) rfl (by kernel_rfl) (by kernel_rfl) (by kernel_rfl) (by kernel_rfl) (fun _ _ _ h => h) hH0 (by rfl) ?_
     try simp only [Act.put, sT, sZ, sS]
     refine wpAnyL_skip (i := 17) (oi := ⟨some 46, _, _, _, _, _⟩) rfl (by kernel_rfl) (by kernel_rfl) (by kernel_rfl) (by kernel_rfl) (fun _ _ _ h => h) hH0 (by rfl) ?_
     try simp only [Act.put, sT, sZ, sS]
     refine wpAnyL_skip (i := 18) (oi := ⟨some 47, _, _, _, _, _⟩) rfl (by kernel_rfl) (by kernel_rfl) (by kernel_rfl) (by kernel_rfl) (fun _ _ _ h => h) hH0 (by rfl) ?_
     try simp only [Act.put, sT, sZ, sS]
     refine wpAnyL_skip (i := 19) (oi := ⟨some 48, _, _, _, _, _⟩) rfl (by kernel_rfl) (by kernel_rfl) (by kernel_rfl) (by kernel_rfl) (fun _ _ _ h => h) hH0 (by rfl) ?_
     try simp only [Act.put, sT, sZ, sS]
     refine wpAnyL_skip (i := 20) (oi := ⟨some 49, _, _, _, _, _⟩) rfl (by kernel_rfl) (by kernel_rfl) (by kernel_rfl) (by kernel_rfl) (fun _ _ _ h => h) hH0 (by rfl) ?_
     try simp only [Act.put, sT, sZ, sS]
     refine wpAnyL_skip (i := 21) (oi := ⟨some 50, _, _, _, _, _⟩) rfl (by kernel_rfl) (by kernel_rfl) (by kernel_rfl) (by kernel_rfl) (fun _ _ _ h => h) hH0 (by rfl) ?_
     try simp only [Act.put, sT, sZ, sS]
     refine wpAnyL_skip (i := 22) (oi := ⟨some 51, _, _, _, _, _⟩) rfl (by kernel_rfl) (by kernel_rfl) (by kernel_rfl) (by kernel_rfl) (fun _ _ _ h => h) hH0 (by rfl) ?_
     try simp only [Act.put, sT, sZ, sS]
     refine wpAnyL_skip (i := 23) (oi := ⟨some 52, _, _, _, _, _⟩) rfl (by kernel_rfl) (by kernel_rfl) (by kernel_rfl) (by kernel_rfl) (fun _ _ _ h => h) hH0 (by rfl) ?_
     try simp only [Act.put, sT, sZ, sS]
     refine wpAnyL_skip (i := 24) (oi := ⟨some 53, _, _, _, _, _⟩) rfl (by kernel_rfl) (by kernel_rfl) (by kernel_rfl) (by kernel_rfl) (fun _ _ _ h => h) hH0 (by rfl) ?_
     try simp only [Act.put, sT, sZ, sS]
     refine wpAnyL_skip (i := 25) (oi := ⟨some 54, _, _, _, _, _⟩) rfl (by kernel_rfl) (by kernel_rfl) (by kernel_rfl) (by kernel_rfl) (fun _ _ _ h => h) hH0 (by rfl) ?_
     try simp only [Act.put, sT, sZ, sS]
     refine wpAnyL_skip (i := 26) (oi := ⟨some 55, _, _, _, _, _⟩) rfl (by kernel_rfl) (by kernel_rfl) (by kernel_rfl) (by kernel_rfl) (fun _ _ _ h => h) hH0 (by rfl) ?_
     try simp only [Act.put, sT, sZ, sS]
     refine' wpAnyL_take (i := 27) (oi := ⟨some 56, _, _, _, _, _⟩) (v := _) rfl (by kernel_rfl) (by kernel_rfl) (by kernel_rfl) (by kernel_rfl) (fun _ _ _ h => h) hH0 (by rfl) ?hyv ?o56
     case hyv =>
      intro wz hSw
      go_simp
      try rfl
     try simp only [Act.put, sT, sZ, sS]
     refine wpAnyL_done (by kernel_rfl) ?_ _
     go_wp2_with fail
     go_roundg (np - (i + 1))
     case measure => omega
     case rel => exact ⟨i + 1, by omega, rfl, by go_num, br.trans (hH0.mono br.size)⟩
    case neg =>
     have hxc : (x != 1) = true := by simpa using hx1
     have hin : p ∉ B := by
      rcases HFi.out with h | h | h
      ·exact absurd h hx0
      ·exact absurd h hx1
      ·exact h
     refine wp_region_late (fun w' => Below wr.heap.size wr w') (fun _ => false) (by kernel_rfl) ?_
     have hH0 : Below wr.heap.size wr wr.drew := (Below.refl _ _).drew
     generalize wr.drew = wd0 at hH0 ⊢
     refine' wpAnyL_take (i := 0) (oi := ⟨some 29, _, _, _, _, _⟩) (v := _) rfl (by kernel_rfl) (by kernel_rfl) (by kernel_rfl) (by kernel_rfl) (fun _ _ _ h => h) hH0 (by rfl) ?hyv ?o57
     case hyv =>
      intro wz hSw
      go_simp
      try rfl
     try simp only [Act.put, sT, sZ, sS]
     refine' wpAnyL_take (i := 1) (oi := ⟨some 30, _, _, _, _, _⟩) (v := _) rfl (by kernel_rfl) (by kernel_rfl) (by kernel_rfl) (by kernel_rfl) (fun _ _ _ h => h) hH0 (by rfl) ?hyv ?o58
     case hyv =>
      intro wz hSw
      go_simp
      try rfl
     try simp only [Act.put, sT, sZ, sS]
     refine' wpAnyL_take (i := 2) (oi := ⟨some 31, _, _, _, _, _⟩) (v := _) rfl (by kernel_rfl) (by kernel_rfl) (by kernel_rfl) (by kernel_rfl) (fun _ _ _ h => h) hH0 (by rfl) ?hyv ?o59
     case hyv =>
      intro wz hSw
      go_simp
      try rfl
     try simp only [Act.put, sT, sZ, sS]
     refine' wpAnyL_take (i := 3) (oi := ⟨some 32, _, _, _, _, _⟩) (v := _) rfl (by kernel_rfl) (by kernel_rfl) (by kernel_rfl) (by kernel_rfl) (fun _ _ _ h => h) hH0 (by rfl) ?hyv ?o60
     case hyv =>
      intro wz hSw
      have zc0 := (hSw.cell (p := ⟨bI, oI + i, none⟩) yI).trans f0
      have zc1 := (hSw.cell (p := ⟨bP, oP + i, none⟩) yP).trans p0
      have zc2 := (hSw.cell (p := ⟨gb, 3, none⟩) ygr).trans g3
      have zc3 := (hSw.cell (p := ⟨gb, 4, none⟩) ygr).trans g4
      go_simp
      try rfl
     try simp only [Act.put, sT, sZ, sS]
     refine' wpAnyL_take (i := 4) (oi := ⟨some 33, _, _, _, _, _⟩) (v := _) rfl (by kernel_rfl) (by kernel_rfl) (by kernel_rfl) (by kernel_rfl) (fun _ _ _ h => h) hH0 (by rfl) ?hyv ?o61
     case hyv =>
      intro wz hSw
      go_simp
      try rfl
     try simp only [Act.put, sT, sZ, sS]
     refine' wpAnyL_take (i := 5) (oi := ⟨some 34, _, _, _, _, _⟩) (v := _) rfl (by kernel_rfl) (by kernel_rfl) (by kernel_rfl) (by kernel_rfl) (fun _ _ _ h => h) hH0 (by rfl) ?hyv ?o62
     case hyv =>
      intro wz hSw
      go_simp
      try rfl
     try simp only [Act.put, sT, sZ, sS]
     refine' wpAnyL_take (i := 6) (oi := ⟨some 35, _, _, _, _, _⟩) (v := _) rfl (by kernel_rfl) (by kernel_rfl) (by kernel_rfl) (by kernel_rfl) (fun _ _ _ h => h) hH0 (by rfl) ?hyv ?o63
     case hyv =>
      intro wz hSw
      go_simp
      try rfl
     try simp only [Act.put, sT, sZ, sS]
     refine' wpAnyL_take (i := 7) (oi := ⟨some 36, _, _, _, _, _⟩) (v := _) rfl (by kernel_rfl) (by kernel_rfl) (by kernel_rfl) (by kernel_rfl) (fun _ _ _ h => h) hH0 (by rfl) ?hyv ?o64
     case hyv =>
      intro wz hSw
      go_simp
      try rfl
     try simp only [Act.put, sT, sZ, sS]
     refine' wpAnyL_take (i := 8) (oi := ⟨some 37, _, _, _, _, _⟩) (v := _) rfl (by kernel_rfl) (by kernel_rfl) (by kernel_rfl) (by kernel_rfl) (fun _ _ _ h => h) hH0 (by rfl) ?hyv ?o65
     case hyv =>
      intro wz hSw
      go_simp
      try rfl
     try simp only [Act.put, sT, sZ, sS]
     refine' wpAnyL_take (i := 9) (oi := ⟨some 38, _, _, _, _, _⟩) (v := _) rfl (by kernel_rfl) (by kernel_rfl) (by kernel_rfl) (by kernel_rfl) (fun _ _ _ h => h) hH0 (by rfl) ?hyv ?o66
     case hyv =>
      intro wz hSw
      have zc0 := (hSw.cell (p := ⟨bI, oI + i, none⟩) yI).trans f0
      have zc1 := (hSw.cell (p := ⟨bP, oP + i, none⟩) yP).trans p0
      have zc2 := (hSw.cell (p := ⟨gb, 3, none⟩) ygr).trans g3
      have zc3 := (hSw.cell (p := ⟨gb, 4, none⟩) ygr).trans g4
      go_simp
      try rfl
     try simp only [Act.put, sT, sZ, sS]
     refine' wpAnyL_take (i := 10) (oi := ⟨some 39, _, _, _, _, _⟩) (v := _) rfl (by kernel_rfl) (by kernel_rfl) (by kernel_rfl) (by kernel_rfl) (fun _ _ _ h => h) hH0 (by rfl) ?hyv ?o67
     case hyv =>
      intro wz hSw
      go_simp
      try rfl
     try simp only [Act.put, sT, sZ, sS]
     refine' wpAnyL_take (i := 11) (oi := ⟨some 40, _, _, _, _, _⟩) (v := _) rfl (by kernel_rfl) (by kernel_rfl) (by kernel_rfl) (by kernel_rfl) (fun _ _ _ h => h) hH0 (by rfl) ?hyv ?o68
     case hyv =>
      intro wz hSw
      go_simp
      try rfl
     try simp only [Act.put, sT, sZ, sS]
     refine' wpAnyL_take (i := 12) (oi := ⟨some 41, _, _, _, _, _⟩) (v := _) rfl (by kernel_rfl) (by kernel_rfl) (by kernel_rfl) (by kernel_rfl) (fun _ _ _ h => h) hH0 (by rfl) ?hyv ?o69
     case hyv =>
      intro wz hSw
      go_simp
      try rfl
     try simp only [Act.put, sT, sZ, sS]
     refine' wpAnyL_take (i := 13) (oi := ⟨some 42, _, _, _, _, _⟩) (v := _) rfl (by kernel_rfl) (by kernel_rfl) (by kernel_rfl) (by kernel_rfl) (fun _ _ _ h => h) hH0 (by rfl) ?hyv ?o70
     case hyv =>
      intro wz hSw
      go_simp
      try rfl
     try simp only [Act.put, sT, sZ, sS]
     refine' wpAnyL_take (i := 14) (oi := ⟨some 43, _, _, _, _, _⟩) (v := _) rfl (by kernel_rfl) (by kernel_rfl) (by kernel_rfl) (by kernel_rfl) (fun _ _ _ h => h) hH0 (by rfl) ?hyv ?o71
     case hyv =>
      intro wz hSw
      go_simp
      try rfl
     try simp only [Act.put, sT, sZ, sS]
     refine' wpAnyL_take (i := 15) (oi := ⟨some 44, _, _, _, _, _⟩) (v := _) rfl (by kernel_rfl) (by kernel_rfl) (by kernel_rfl) (by kernel_rfl) (fun _ _ _ h => h) hH0 (by rfl) ?hyv ?o72
     case hyv =>
      intro wz hSw
      go_simp
      try rfl
     try simp only [Act.put, sT, sZ, sS]
     refine' wpAnyL_take (i := 16) (oi := ⟨some 45, _, _, _, _, _⟩) (v := _) rfl (by kernel_rfl) (by kernel_rfl) (by kernel_rfl) (by kernel_rfl) (fun _ _ _ h => h) hH0 (by rfl) ?hyv ?o73
     case hyv =>
      intro wz hSw
      go_simp
      try rfl
     try simp only [Act.put, sT, sZ, sS]
     refine' wpAnyL_take (i := 17) (oi := ⟨some 46, _, _, _, _, _⟩) (v := _) rfl (by kernel_rfl) (by kernel_rfl) (by kernel_rfl) (by kernel_rfl) (fun _ _ _ h => h) hH0 (by rfl) ?hyv ?o74
     case hyv =>
      intro wz hSw
      have zc0 := (hSw.cell (p := ⟨bI, oI + i, none⟩) yI).trans f0
      have zc1 := (hSw.cell (p := ⟨bP, oP + i, none⟩) yP).trans p0
      have zc2 := (hSw.cell (p := ⟨gb, 3, none⟩) ygr).trans g3
      have zc3 := (hSw.cell (p := ⟨gb, 4, none⟩) ygr).trans g4
      go_simp
      try rfl
     try simp only [Act.put, sT, sZ, sS]
     refine' wpAnyL_take (i := 18) (oi := ⟨some 47, _, _, _, _, _⟩) (v := _) rfl (by kernel_rfl) (by kernel_rfl) (by kernel_rfl) (by kernel_rfl) (fun _ _ _ h => h) hH0 (by rfl) ?hyv ?o75
     case hyv =>
      intro wz hSw
      go_simp
      try rfl
     try simp only [Act.put, sT, sZ, sS]
     refine' wpAnyL_take (i := 19) (oi := ⟨some 48, _, _, _, _, _⟩) (v := _) rfl (by kernel_rfl) (by kernel_rfl) (by kernel_rfl) (by kernel_rfl) (fun _ _ _ h => h) hH0 (by rfl) ?hyv ?o76
     case hyv =>
      intro wz hSw
      go_simp
      try rfl
     try simp only [Act.put, sT, sZ, sS]
     refine' wpAnyL_take (i := 20) (oi := ⟨some 49, _, _, _, _, _⟩) (v := _) rfl (by kernel_rfl) (by kernel_rfl) (by kernel_rfl) (by kernel_rfl) (fun _ _ _ h => h) hH0 (by rfl) ?hyv ?o77
     case hyv =>
      intro wz hSw
      go_simp
      try rfl
     try simp only [Act.put, sT, sZ, sS]
     refine' wpAnyL_take (i := 21) (oi := ⟨some 50, _, _, _, _, _⟩) (v := _) rfl (by kernel_rfl) (by kernel_rfl) (by kernel_rfl) (by kernel_rfl) (fun _ _ _ h => h) hH0 (by rfl) ?hyv ?o78
     case hyv =>
      intro wz hSw
      go_simp
      try rfl
     try simp only [Act.put, sT, sZ, sS]
     refine' wpAnyL_take (i := 22) (oi := ⟨some 51, _, _, _, _, _⟩) (v := _) rfl (by kernel_rfl) (by kernel_rfl) (by kernel_rfl) (by kernel_rfl) (fun _ _ _ h => h) hH0 (by rfl) ?hyv ?o79
     case hyv =>
      intro wz hSw
      have zc0 := (hSw.cell (p := ⟨bI, oI + i, none⟩) yI).trans f0
      have zc1 := (hSw.cell (p := ⟨bP, oP + i, none⟩) yP).trans p0
      have zc2 := (hSw.cell (p := ⟨gb, 3, none⟩) ygr).trans g3
      have zc3 := (hSw.cell (p := ⟨gb, 4, none⟩) ygr).trans g4
      go_simp
      try rfl
     try simp only [Act.put, sT, sZ, sS]
     refine' wpAnyL_take (i := 23) (oi := ⟨some 52, _, _, _, _, _⟩) (v := _) rfl (by kernel_rfl) (by kernel_rfl) (by kernel_rfl) (by kernel_rfl) (fun _ _ _ h => h) hH0 (by rfl) ?hyv ?o80
     case hyv =>
      intro wz hSw
      go_simp
      try rfl
     try simp only [Act.put, sT, sZ, sS]
     refine' wpAnyL_take (i := 24) (oi := ⟨some 53, _, _, _, _, _⟩) (v := _) rfl (by kernel_rfl) (by kernel_rfl) (by kernel_rfl) (by kernel_rfl) (fun _ _ _ h => h) hH0 (by rfl) ?hyv ?o81
     case hyv =>
      intro wz hSw
      go_simp
      try rfl
     try simp only [Act.put, sT, sZ, sS]
     refine' wpAnyL_take (i := 25) (oi := ⟨some 54, _, _, _, _, _⟩) (v := _) rfl (by kernel_rfl) (by kernel_rfl) (by kernel_rfl) (by kernel_rfl) (fun _ _ _ h => h) hH0 (by rfl) ?hyv ?o82
     case hyv =>
      intro wz hSw
      have zc0 := (hSw.cell (p := ⟨bI, oI + i, none⟩) yI).trans f0
      have zc1 := (hSw.cell (p := ⟨bP, oP + i, none⟩) yP).trans p0
      have zc2 := (hSw.cell (p := ⟨gb, 3, none⟩) ygr).trans g3
      have zc3 := (hSw.cell (p := ⟨gb, 4, none⟩) ygr).trans g4
      go_simp
      try rfl
     try simp only [Act.put, sT, sZ, sS]
     refine wpAnyL_one (i := 26) (o := _) rfl (by kernel_rfl) (by rfl) (fun K hK => ?_)
     go_simp
     refine (in36F (HB.out wd0 (Ar.trans (aside (S := [gb, cb]) hH0) Ar.size)) HNB.out p hin).mono ?_
     rintro eq wd1 ⟨rfl, bq1⟩
     have hH1 : Below wr.heap.size wr wd1 := hH0.trans (bq1.mono hH0.size)
     refine hK.out _ _ (fun _ => hH1) ?_
     clear hK K
     try simp only [Act.put, sT, sZ, sS]
     refine' wpAnyL_take (i := 27) (oi := ⟨some 56, _, _, _, _, _⟩) (v := _) rfl (by kernel_rfl) (by kernel_rfl) (by kernel_rfl) (by kernel_rfl) (fun _ _ _ h => h) hH1 (by rfl) ?hyv ?o83
     case hyv =>
      intro wz hSw
      go_simp
      try rfl
     try simp only [Act.put, sT, sZ, sS]
     refine wpAnyL_done (by kernel_rfl) ?_ _
     go_wp2_with fail
     go_roundg (np - (i + 1))
     case measure => omega
     case rel => exact ⟨i + 1, by omega, rfl, by go_num, br.trans (hH1.mono br.size)⟩
end Go.Proofs.YtkgbmgpdehmiiaaDoor
