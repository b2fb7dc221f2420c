import Derived.Test.YtkgbmgpdehmiiaaDoorY29
import Derived.WalkKit
import Derived.WalkSpells
import Derived.IntWalk
import Derived.Deep.Cut
import Derived.Deep.LoopGhost
import Derived.Laws.Cover1
import Derived.Lib.Hide
set_option linter.unusedVariables false
set_option linter.unusedSimpArgs false
set_option maxHeartbeats 64000000
set_option maxRecDepth 100000
namespace Go.Proofs.YtkgbmgpdehmiiaaDoor
open Go.RowKit Go.IntWalk
set_option linter.unusedVariables false
set_option linter.unusedSimpArgs false
namespace Dx
set_option maxHeartbeats 64000000 in
theorem drow19_bool {w : World} {gb cb nc cc : Nat} {v0 v1 v2 v5 v6 : Value} {st : Int} {okL : Nat → Prop} {aP aB aI : Option Addr} {cP cB cI : Nat} {P B inp M : List Int} (hg : GAt w gb cb nc cc v0 v1 v2 (.slice aP P.length cP) (.slice aB B.length cB) v5 v6 st) (hm : LX w cb M) (hP : HInts okL w (.slice aP P.length cP) P) (hB : HInts okL w (.slice aB B.length cB) B) (hI : HInts okL w (.slice aI P.length cI) inp) (hok : ∀ i, okL i → i ≠ gb ∧ i ≠ cb) (hlen : inp.length = P.length) (hPl : P.length ≤ 6000) (i0 : Nat) (h1 : i0 < inp.length) (h2 : i0 < P.length) (hbad : ¬ Fine B P[i0] inp[i0]) (hfine : ∀ (j : Nat) (h1 : j < inp.length) (h2 : j < P.length), j < i0 → Fine B P[j] inp[j]) :
  Calls Tryd.prog 14 #[.pointer (some ⟨gb, 0, none⟩), .slice aI P.length cI] w (DRowNo w gb cb nc cc v0 v1 v2 (.slice aP P.length cP) (.slice aB B.length cB) v5 v6 st M 17 (i0 : Int)) := by
 have hok2 : ∀ i, (okL i ∧ i < w.heap.size) → i ≠ gb ∧ i ≠ cb ∧ i < w.heap.size := fun i h => ⟨(hok i h.1).1, (hok i h.1).2, h.2⟩
 have hP0 := hP.wide (ok' := fun i => okL i ∧ i < w.heap.size) (fun i h1 h2 => ⟨h1, h2⟩)
 have hB0 := hB.wide (ok' := fun i => okL i ∧ i < w.heap.size) (fun i h1 h2 => ⟨h1, h2⟩)
 have hI0 := hI.wide (ok' := fun i => okL i ∧ i < w.heap.size) (fun i h1 h2 => ⟨h1, h2⟩)
 have b1 : Below w.heap.size w (w.alloc (.cells #[.int .i64 0, .int .i64 0] 34 (0, 0))) := (Below.refl _ _).alloc (Nat.le_refl _) _
 have kF := heap_new w (.cells #[.int .i64 0, .int .i64 0] 34 (0, 0))
 have ygw := lt_of hg
 have ycw := hm.lt
 have hg1 := hg.keep (b1.block _ ygw)
 have hm1 := hm.under b1
 have HP := hide (fun W (a : Aside [gb, cb] w.heap.size w W) => hP0.pastS a (fun i hi => by have := hok2 i hi; simp; omega))
 have HB := hide (fun W (a : Aside [gb, cb] w.heap.size w W) => hB0.pastS a (fun i hi => by have := hok2 i hi; simp; omega))
 have HI := hide (fun W (a : Aside [gb, cb] w.heap.size w W) => hI0.pastS a (fun i hi => by have := hok2 i hi; simp; omega))
 have HBAD := hide (show ∀ (j : Nat) (h1 : j < inp.length) (h2 : j < P.length), j = i0 → ¬ Fine B P[j] inp[j] from fun j h1 h2 e => by subst e; exact hbad)
 have HFINE := hide hfine
 obtain ⟨np, hnp⟩ : ∃ x, x = P.length := ⟨_, rfl⟩
 obtain ⟨nb, hnb⟩ : ∃ x, x = B.length := ⟨_, rfl⟩
 have hnp6 : np ≤ 6000 := by omega
 have h0 : i0 < np := by omega
 rw [← hnp] at HP HI hg1 ⊢
 rw [← hnb] at HB hg1 ⊢
 have HNP := hide hnp
 have HNB := hide hnb
 have HLEN := hide hlen
 clear hg hm hP hB hI hok hok2 hP0 hB0 hI0 hPl hnp hnb hlen hbad hfine h1 h2
 go_enter Tryd.func14, Tryd.ntmps14
 go_upto_region 1 with fail
 generalize w.alloc (.cells #[.int .i64 0, .int .i64 0] 34 (0, 0)) = w1 at b1 kF hg1 hm1 ⊢
 have A1 : Aside [gb, cb] w.heap.size w w1 := aside b1
 obtain ⟨stq, hstq⟩ : ∃ x, x = st := ⟨_, rfl⟩
 have kg : w1.heap[gb]? = some (.cells #[v0, v1, v2, .slice aP np cP, .slice aB nb cB, v5, v6, .slice (some ⟨cb, 0, none⟩) nc cc, .int .i64 st] 46 (0, 0)) := hg1
 have g3 := cell_of kg 3
 have g4 := cell_of kg 4
 simp at g3 g4
 have yg := lt_of kg
 have hnn : (np != np) = false := by simp
 go_wp2_with fail
 go_loopg [6] np (fun kz v6 wr => ∃ (i : Nat), i ≤ i0 ∧ kz = np - i ∧ v6 = .int .i64 (i : Nat) ∧ Below w1.heap.size w1 wr)
 case atStart => exact ⟨0, Nat.zero_le _, rfl, rfl, Below.refl _ _⟩
 case round =>
  obtain ⟨i, hi, rfl, rfl, br⟩ := hrel
  have hgr := hg1.keep (br.block _ yg)
  have Ar := A1.trans (aside (S := [gb, cb]) br) A1.size
  clear g3 g4 kg
  have kg : wr.heap[gb]? = some (.cells #[v0, v1, v2, .slice aP np cP, .slice aB nb cB, v5, v6, .slice (some ⟨cb, 0, none⟩) nc cc, .int .i64 st] 46 (0, 0)) := hgr
  have g3 := cell_of kg 3
  have g4 := cell_of kg 4
  simp at g3 g4
  have ygr := lt_of kg
  have hlt : i < np := by omega
  obtain ⟨aoI, cpI, eI, -, -, hatI⟩ := (HI.out wr Ar).at
  injection eI with r1 r2 r3
  have hiI : i < inp.length := by have := HLEN.out; have := HNP.out; omega
  obtain ⟨bI, oI, eaI, yI, f0⟩ := hatI i hiI
  rw [eaI] at r1
  obtain ⟨aoP, cpP, eP, -, -, hatP⟩ := (HP.out wr Ar).at
  injection eP with q1 q2 q3
  have hiP : i < P.length := by have := HNP.out; omega
  obtain ⟨bP, oP, eaP, yP, p0⟩ := hatP i hiP
  rw [eaP] at q1
  have HBi := hide (HBAD.out i hiI hiP)
  have HFi := hide (HFINE.out i hiI hiP)
  generalize inp[i] = x at f0 HBi HFi
  generalize P[i] = p at p0 HBi HFi
  have hil : (i : Int) < (np : Int) := by omega
  subst r1 q1
  clear hatI hatP r2 r3 q2 q3 hiI hiP
  go_upto_region 6 with fail
  by_cases hx0 : x = 0
  case pos =>
   have hne : i ≠ i0 := fun e => HBi.out e (Or.inl hx0)
   subst hx0
   have hxb : ((0 : Int) != 0) = false := rfl
   refine wp_region_late (fun w' => Below wr.heap.size wr w') (fun _ => false) (by kernel_rfl) ?_
   have hH0 : Below wr.heap.size wr wr.drew := (Below.refl _ _).drew
   generalize wr.drew = wd0 at hH0 ⊢
   refine' wpAnyL_take (i := 0) (oi := ⟨some 29, _, _, _, _, _⟩) (v := _) rfl (by kernel_rfl) (by kernel_rfl) (by kernel_rfl) (by kernel_rfl) (fun _ _ _ h => h) hH0 (by rfl) ?hyv ?o1
   case hyv =>
    intro wz hSw
    go_simp
    try rfl
   try simp only [Act.put, sT, sZ, sS]
   refine' wpAnyL_take (i := 1) (oi := ⟨some 30, _, _, _, _, _⟩) (v := _) rfl (by kernel_rfl) (by kernel_rfl) (by kernel_rfl) (by kernel_rfl) (fun _ _ _ h => h) hH0 (by rfl) ?hyv ?o2
   case hyv =>
    intro wz hSw
    go_simp
    try rfl
   try simp only [Act.put, sT, sZ, sS]
   refine' wpAnyL_take (i := 2) (oi := ⟨some 31, _, _, _, _, _⟩) (v := _) rfl (by kernel_rfl) (by kernel_rfl) (by kernel_rfl) (by kernel_rfl) (fun _ _ _ h => h) hH0 (by rfl) ?hyv ?o3
   case hyv =>
    intro wz hSw
    go_simp
    try rfl
   try simp only [Act.put, sT, sZ, sS]
   refine' wpAnyL_take (i := 3) (oi := ⟨some 32, _, _, _, _, _⟩) (v := _) rfl (by kernel_rfl) (by kernel_rfl) (by kernel_rfl) (by kernel_rfl) (fun _ _ _ h => h) hH0 (by rfl) ?hyv ?o4
   case hyv =>
    intro wz hSw
    have zc0 := (hSw.cell (p := ⟨bI, oI + i, none⟩) yI).trans f0
    have zc1 := (hSw.cell (p := ⟨bP, oP + i, none⟩) yP).trans p0
    have zc2 := (hSw.cell (p := ⟨gb, 3, none⟩) ygr).trans g3
    have zc3 := (hSw.cell (p := ⟨gb, 4, none⟩) ygr).trans g4
    go_simp
    try rfl
   try simp only [Act.put, sT, sZ, sS]
   refine' wpAnyL_take (i := 4) (oi := ⟨some 33, _, _, _, _, _⟩) (v := _) rfl (by kernel_rfl) (by kernel_rfl) (by kernel_rfl) (by kernel_rfl) (fun _ _ _ h => h) hH0 (by rfl) ?hyv ?o5
   case hyv =>
    intro wz hSw
    go_simp
    try rfl
   try simp only [Act.put, sT, sZ, sS]
   refine' wpAnyL_take (i := 5) (oi := ⟨some 34, _, _, _, _, _⟩) (v := _) rfl (by kernel_rfl) (by kernel_rfl) (by kernel_rfl) (by kernel_rfl) (fun _ _ _ h => h) hH0 (by rfl) ?hyv ?o6
   case hyv =>
    intro wz hSw
    go_simp
    try rfl
   try simp only [Act.put, sT, sZ, sS]
   refine wpAnyL_skip (i := 6) (oi := ⟨some 35, _, _, _, _, _⟩) rfl (by kernel_rfl) (by kernel_rfl) (by kernel_rfl) (by kernel_rfl) (fun _ _ _ h => h) hH0 (by rfl) ?_
   try simp only [Act.put, sT, sZ, sS]
   refine wpAnyL_skip (i := 7) (oi := ⟨some 36, _, _, _, _, _⟩) rfl (by kernel_rfl) (by kernel_rfl) (by kernel_rfl) (by kernel_rfl) (fun _ _ _ h => h) hH0 (by rfl) ?_
   try simp only [Act.put, sT, sZ, sS]
   refine wpAnyL_skip (i := 8) (oi := ⟨some 37, _, _, _, _, _⟩) rfl (by kernel_rfl) (by kernel_rfl) (by kernel_rfl) (by kernel_rfl) (fun _ _ _ h => h) hH0 (by rfl) ?_
   try simp only [Act.put, sT, sZ, sS]
   refine wpAnyL_skip (i := 9) (oi := ⟨some 38, _, _, _, _, _⟩) rfl (by kernel_rfl) (by kernel_rfl) (by kernel_rfl) (by kernel_rfl) (fun _ _ _ h => h) hH0 (by rfl) ?_
   try simp only [Act.put, sT, sZ, sS]
   refine wpAnyL_skip (i := 10) (oi := ⟨some 39, _, _, _, _, _⟩) rfl (by kernel_rfl) (by kernel_rfl) (by kernel_rfl) (by kernel_rfl) (fun _ _ _ h => h) hH0 (by rfl) ?_
   try simp only [Act.put, sT, sZ, sS]
   refine' wpAnyL_take (i := 11) (oi := ⟨some 40, _, _, _, _, _⟩) (v := _) rfl (by kernel_rfl) (by kernel_rfl) (by kernel_rfl) (by kernel_rfl) (fun _ _ _ h => h) hH0 (by rfl) ?hyv ?o7
   case hyv =>
    intro wz hSw
    go_simp
    try rfl
   try simp only [Act.put, sT, sZ, sS]
   refine' wpAnyL_take (i := 12) (oi := ⟨some 41, _, _, _, _, _⟩) (v := _) rfl (by kernel_rfl) (by kernel_rfl) (by kernel_rfl) (by kernel_rfl) (fun _ _ _ h => h) hH0 (by rfl) ?hyv ?o8
   case hyv =>
    intro wz hSw
    go_simp
    try rfl
   try simp only [Act.put, sT, sZ, sS]
   refine wpAnyL_skip (i := 13) (oi := ⟨some 42, _, _, _, _, _⟩) rfl (by kernel_rfl) (by kernel_rfl) (by kernel_rfl) (by kernel_rfl) (fun _ _ _ h => h) hH0 (by rfl) ?_
   try simp only [Act.put, sT, sZ, sS]
   refine wpAnyL_skip (i := 14) (oi := ⟨some 43, _, _, _, _, _⟩) rfl (by kernel_rfl) (by kernel_rfl) (by kernel_rfl) (by kernel_rfl) (fun _ _ _ h => h) hH0 (by rfl) ?_
   try simp only [Act.put, sT, sZ, sS]
   refine wpAnyL_skip (i := 15) (oi := ⟨some 44, _, _, _, _, _⟩) rfl (by kernel_rfl) (by kernel_rfl) (by kernel_rfl) (by kernel_rfl) (fun _ _ _ h => h) hH0 (by rfl) ?_
   try simp only [Act.put, sT, sZ, sS]
   refine wpAnyL_skip (i := 16) (oi := ⟨some 45, _, _, _, _, _⟩) rfl (by kernel_rfl) (by kernel_rfl) (by kernel_rfl) (by kernel_rfl) (fun _ _ _ h => h) hH0 (by rfl) ?_
   try simp only [Act.put, sT, sZ, sS]
   refine wpAnyL_skip (i := 17) (oi := ⟨some 46, _, _, _, _, _⟩) rfl (by kernel_rfl) (by kernel_rfl) (by kernel_rfl) (by kernel_rfl) (fun _ _ _ h => h) hH0 (by rfl) ?_
   try simp only [Act.put, sT, sZ, sS]
   refine wpAnyL_skip (i := 18) (oi := ⟨some 47, _, _, _, _, _⟩) rfl (by kernel_rfl) (by kernel_rfl) (by kernel_rfl) (by kernel_rfl) (fun _ _ _ h => h) hH0 (by rfl) ?_
   try simp only [Act.put, sT, sZ, sS]
   refine wpAnyL_skip (i := 19) (oi := ⟨some 48, _, _, _, _, _⟩) rfl (by kernel_rfl) (by kernel_rfl) (by kernel_rfl) (by kernel_rfl) (fun _ _ _ h => h) hH0 (by rfl) ?_
   try simp only [Act.put, sT, sZ, sS]
   refine wpAnyL_skip (i := 20) (oi := ⟨some 49, _, _, _, _, _⟩) rfl (by kernel_rfl) (by kernel_rfl) (by kernel_rfl) (by kernel_rfl) (fun _ _ _ h => h) hH0 (by rfl) ?_
   try simp only [Act.put, sT, sZ, sS]
   refine wpAnyL_skip (i := 21) (oi := ⟨some 50, _, _, _, _, _⟩) rfl (by kernel_rfl) (by kernel_rfl) (by kernel_rfl) (by kernel_rfl) (fun _ _ _ h => h) hH0 (by rfl) ?_
   try simp only [Act.put, sT, sZ, sS]
   refine wpAnyL_skip (i := 22) (oi := ⟨some 51, _, _, _, _, _⟩) rfl (by kernel_rfl) (by kernel_rfl) (by kernel_rfl) (by kernel_rfl) (fun _ _ _ h => h) hH0 (by rfl) ?_
   try simp only [Act.put, sT, sZ, sS]
   refine wpAnyL_skip (i := 23) (oi := ⟨some 52, _, _, _, _, _⟩) rfl (by kernel_rfl) (by kernel_rfl) (by kernel_rfl) (by kernel_rfl) (fun _ _ _ h => h) hH0 (by rfl) ?_
   try simp only [Act.put, sT, sZ, sS]
   refine wpAnyL_skip (i := 24) (oi := ⟨some 53, _, _, _, _, _⟩) rfl (by kernel_rfl) (by kernel_rfl) (by kernel_rfl) (by kernel_rfl) (fun _ _ _ h => h) hH0 (by rfl) ?_
   try simp only [Act.put, sT, sZ, sS]
   refine wpAnyL_skip (i := 25) (oi := ⟨some 54, _, _, _, _, _⟩) rfl (by kernel_rfl) (by kernel_rfl) (by kernel_rfl) (by kernel_rfl) (fun _ _ _ h => h) hH0 (by rfl) ?_
   try simp only [Act.put, sT, sZ, sS]
   refine wpAnyL_skip (i := 26) (oi := ⟨some 55, _, _, _, _, _⟩) rfl (by kernel_rfl) (by kernel_rfl) (by kernel_rfl) (by kernel_rfl) (fun _ _ _ h => h) hH0 (by rfl) ?_
   try simp only [Act.put, sT, sZ, sS]
   refine' wpAnyL_take (i := 27) (oi := ⟨some 56, _, _, _, _, _⟩) (v := _) rfl (by kernel_rfl) (by kernel_rfl) (by kernel_rfl) (by kernel_rfl) (fun _ _ _ h => h) hH0 (by rfl) ?hyv ?o9
   case hyv =>
    intro wz hSw
    go_simp
    try rfl
   try simp only [Act.put, sT, sZ, sS]
   refine wpAnyL_done (by kernel_rfl) ?_ _
   go_wp2_with fail
   go_roundg (np - (i + 1))
   case measure => omega
   case rel => exact ⟨i + 1, by omega, rfl, by go_num, br.trans (hH0.mono br.size)⟩
  case neg =>
   have hxb : (x != 0) = true := by simpa using hx0
   by_cases hx1 : x = 1
   case pos =>
    have hne : i ≠ i0 := fun e => HBi.out e (Or.inr (Or.inl hx1))
    subst hx1
    have hxc : ((1 : Int) != 1) = false := rfl
    refine wp_region_late (fun w' => Below wr.heap.size wr w') (fun _ => false) (by kernel_rfl) ?_
    have hH0 : Below wr.heap.size wr wr.drew := (Below.refl _ _).drew
    generalize wr.drew = wd0 at hH0 ⊢
    refine' wpAnyL_take (i := 0) (oi := ⟨some 29, _, _, _, _, _⟩) (v := _) rfl (by kernel_rfl) (by kernel_rfl) (by kernel_rfl) (by kernel_rfl) (fun _ _ _ h => h) hH0 (by rfl) ?hyv ?o10
    case hyv =>
     intro wz hSw
     go_simp
     try rfl
    try simp only [Act.put, sT, sZ, sS]
    refine' wpAnyL_take (i := 1) (oi := ⟨some 30, _, _, _, _, _⟩) (v := _) rfl (by kernel_rfl) (by kernel_rfl) (by kernel_rfl) (by kernel_rfl) (fun _ _ _ h => h) hH0 (by rfl) ?hyv ?o11
    case hyv =>
     intro wz hSw
     go_simp
     try rfl
    try simp only [Act.put, sT, sZ, sS]
    refine' wpAnyL_take (i := 2) (oi := ⟨some 31, _, _, _, _, _⟩) (v := _) rfl (by kernel_rfl) (by kernel_rfl) (by kernel_rfl) (by kernel_rfl) (fun _ _ _ h => h) hH0 (by rfl) ?hyv ?o12
    case hyv =>
     intro wz hSw
     go_simp
     try rfl
    try simp only [Act.put, sT, sZ, sS]
    refine' wpAnyL_take (i := 3) (oi := ⟨some 32, _, _, _, _, _⟩) (v := _) rfl (by kernel_rfl) (by kernel_rfl) (by kernel_rfl) (by kernel_rfl) (fun _ _ _ h => h) hH0 (by rfl) ?hyv ?o13
    case hyv =>
     intro wz hSw
     have zc0 := (hSw.cell (p := ⟨bI, oI + i, none⟩) yI).trans f0
     have zc1 := (hSw.cell (p := ⟨bP, oP + i, none⟩) yP).trans p0
     have zc2 := (hSw.cell (p := ⟨gb, 3, none⟩) ygr).trans g3
     have zc3 := (hSw.cell (p := ⟨gb, 4, none⟩) ygr).trans g4
     go_simp
     try rfl
    try simp only [Act.put, sT, sZ, sS]
    refine' wpAnyL_take (i := 4) (oi := ⟨some 33, _, _, _, _, _⟩) (v := _) rfl (by kernel_rfl) (by kernel_rfl) (by kernel_rfl) (by kernel_rfl) (fun _ _ _ h => h) hH0 (by rfl) ?hyv ?o14
    case hyv =>
     intro wz hSw
     go_simp
     try rfl
    try simp only [Act.put, sT, sZ, sS]
    refine' wpAnyL_take (i := 5) (oi := ⟨some 34, _, _, _, _, _⟩) (v := _) rfl (by kernel_rfl) (by kernel_rfl) (by kernel_rfl) (by kernel_rfl) (fun _ _ _ h => h) hH0 (by rfl) ?hyv ?o15
    case hyv =>
     intro wz hSw
     go_simp
     try rfl
    try simp only [Act.put, sT, sZ, sS]
    refine' wpAnyL_take (i := 6) (oi := ⟨some 35, _, _, _, _, _⟩) (v := _) rfl (by kernel_rfl) (by kernel_rfl) (by kernel_rfl) (by kernel_rfl) (fun _ _ _ h => h) hH0 (by rfl) ?hyv ?o16
    case hyv =>
     intro wz hSw
     go_simp
     try rfl
    try simp only [Act.put, sT, sZ, sS]
    refine' wpAnyL_take (i := 7) (oi := ⟨some 36, _, _, _, _, _⟩) (v := _) rfl (by kernel_rfl) (by kernel_rfl) (by kernel_rfl) (by kernel_rfl) (fun _ _ _ h => h) hH0 (by rfl) ?hyv ?o17
    case hyv =>
     intro wz hSw
     go_simp
     try rfl
    try simp only [Act.put, sT, sZ, sS]
    refine' wpAnyL_take (i := 8) (oi := ⟨some 37, _, _, _, _, _⟩) (v := _) rfl (by kernel_rfl) (by kernel_rfl) (by kernel_rfl) (by kernel_rfl) (fun _ _ _ h => h) hH0 (by rfl) ?hyv ?o18
    case hyv =>
     intro wz hSw
     go_simp
     try rfl
    try simp only [Act.put, sT, sZ, sS]
    refine' wpAnyL_take (i := 9) (oi := ⟨some 38, _, _, _, _, _⟩) (v := _) rfl (by kernel_rfl) (by kernel_rfl) (by kernel_rfl) (by kernel_rfl) (fun _ _ _ h => h) hH0 (by rfl) ?hyv ?o19
    case hyv =>
     intro wz hSw
     have zc0 := (hSw.cell (p := ⟨bI, oI + i, none⟩) yI).trans f0
     have zc1 := (hSw.cell (p := ⟨bP, oP + i, none⟩) yP).trans p0
     have zc2 := (hSw.cell (p := ⟨gb, 3, none⟩) ygr).trans g3
     have zc3 := (hSw.cell (p := ⟨gb, 4, none⟩) ygr).trans g4
     go_simp
     try rfl
    try simp only [Act.put, sT, sZ, sS]
    refine' wpAnyL_take (i := 10) (oi := ⟨some 39, _, _, _, _, _⟩) (v := _) rfl (by kernel_rfl) (by kernel_rfl) (by kernel_rfl) (by kernel_rfl) (fun _ _ _ h => h) hH0 (by rfl) ?hyv ?o20
    case hyv =>
     intro wz hSw
     go_simp
     try rfl
    try simp only [Act.put, sT, sZ, sS]
    refine' wpAnyL_take (i := 11) (oi := ⟨some 40, _, _, _, _, _⟩) (v := _) rfl (by kernel_rfl) (by kernel_rfl) (by kernel_rfl) (by kernel_rfl) (fun _ _ _ h => h) hH0 (by rfl) ?hyv ?o21
    case hyv =>
     intro wz hSw
     go_simp
     try rfl
    try simp only [Act.put, sT, sZ, sS]
    refine' wpAnyL_take (i := 12) (oi := ⟨some 41, _, _, _, _, _⟩) (v := _) rfl (by kernel_rfl) (by kernel_rfl) (by kernel_rfl) (by kernel_rfl) (fun _ _ _ h => h) hH0 (by rfl) ?hyv ?o22
    case hyv =>
     intro wz hSw
     go_simp
     try rfl
    try simp only [Act.put, sT, sZ, sS]
    refine wpAnyL_skip (i := 13) (oi := ⟨some 42, _, _, _, _, _⟩) rfl (by kernel_rfl) (by kernel_rfl) (by kernel_rfl) (by kernel_rfl) (fun _ _ _ h => h) hH0 (by rfl) ?_
    try simp only [Act.put, sT, sZ, sS]
    refine wpAnyL_skip (i := 14) (oi := ⟨some 43, _, _, _, _, _⟩) rfl (by kernel_rfl) (by kernel_rfl) (by kernel_rfl) (by kernel_rfl) (fun _ _ _ h => h) hH0 (by rfl) ?_
    try simp only [Act.put, sT, sZ, sS]
    refine wpAnyL_skip (i := 15) (oi := ⟨some 44, _, _, _, _, _⟩) rfl (by kernel_rfl) (by kernel_rfl) (by kernel_rfl) (by kernel_rfl) (fun _ _ _ h => h) hH0 (by rfl) ?_
    try simp only [Act.put, sT, sZ, sS]
    refine wpAnyL_skip (i := 16) (oi := ⟨some 45, _, _, _, _, _⟩) rfl (by kernel_rfl) (by kernel_rfl) (by kernel_rfl) (by kernel_rfl) (fun _ _ _ h => h) hH0 (by rfl) ?_
    try simp only [Act.put, sT, sZ, sS]
    refine wpAnyL_skip (i := 17) (oi := ⟨some 46, _, _, _, _, _⟩) rfl (by kernel_rfl) (by kernel_rfl) (by kernel_rfl) (by kernel_rfl) (fun _ _ _ h => h) hH0 (by rfl) ?_
    try simp only [Act.put, sT, sZ, sS]
    refine wpAnyL_skip (i := 18) (oi := ⟨some 47, _, _, _, _, _⟩) rfl (by kernel_rfl) (by kernel_rfl) (by kernel_rfl) (by kernel_rfl) (fun _ _ _ h => h) hH0 (by rfl) ?_
    try simp only [Act.put, sT, sZ, sS]
    refine wpAnyL_skip (i := 19) (oi := ⟨some 48, _, _, _, _, _⟩) rfl (by kernel_rfl) (by kernel_rfl) (by kernel_rfl) (by kernel_rfl) (fun _ _ _ h => h) hH0 (by rfl) ?_
    try simp only [Act.put, sT, sZ, sS]
    refine wpAnyL_skip (i := 20) (oi := ⟨some 49, _, _, _, _, _⟩) rfl (by kernel_rfl) (by kernel_rfl) (by kernel_rfl) (by kernel_rfl) (fun _ _ _ h => h) hH0 (by rfl) ?_
    try simp only [Act.put, sT, sZ, sS]
    refine wpAnyL_skip (i := 21) (oi := ⟨some 50, _, _, _, _, _⟩) rfl (by kernel_rfl) (by kernel_rfl) (by kernel_rfl) (by kernel_rfl) (fun _ _ _ h => h) hH0 (by rfl) ?_
    try simp only [Act.put, sT, sZ, sS]
    refine wpAnyL_skip (i := 22) (oi := ⟨some 51, _, _, _, _, _⟩) rfl (by kernel_rfl) (by kernel_rfl) (by kernel_rfl) (by kernel_rfl) (fun _ _ _ h => h) hH0 (by rfl) ?_
    try simp only [Act.put, sT, sZ, sS]
    refine wpAnyL_skip (i := 23) (oi := ⟨some 52, _, _, _, _, _⟩) rfl (by kernel_rfl) (by kernel_rfl) (by kernel_rfl) (by kernel_rfl) (fun _ _ _ h => h) hH0 (by rfl) ?_
    try simp only [Act.put, sT, sZ, sS]
    refine wpAnyL_skip (i := 24) (oi := ⟨some 53, _, _, _, _, _⟩) rfl (by kernel_rfl) (by kernel_rfl) (by kernel_rfl) (by kernel_rfl) (fun _ _ _ h => h) hH0 (by rfl) ?_
    try simp only [Act.put, sT, sZ, sS]
    refine wpAnyL_skip (i := 25) (oi := ⟨some 54, _, _, _, _, _⟩) rfl (by kernel_rfl) (by kernel_rfl) (by kernel_rfl) (by kernel_rfl) (fun _ _ _ h => h) hH0 (by rfl) ?_
    try simp only [Act.put, sT, sZ, sS]
    refine wpAnyL_skip (i := 26) (oi := ⟨some 55, _, _, _, _, _⟩) rfl (by kernel_rfl) (by kernel_rfl) (by kernel_rfl) (by kernel_rfl) (fun _ _ _ h => h) hH0 (by rfl) ?_
    try simp only [Act.put, sT, sZ, sS]
    refine' wpAnyL_take (i := 27) (oi := ⟨some 56, _, _, _, _, _⟩) (v := _) rfl (by kernel_rfl) (by kernel_rfl) (by kernel_rfl) (by kernel_rfl) (fun _ _ _ h => h) hH0 (by rfl) ?hyv ?o23
    case hyv =>
     intro wz hSw
     go_simp
     try rfl
    try simp only [Act.put, sT, sZ, sS]
    refine wpAnyL_done (by kernel_rfl) ?_ _
    go_wp2_with fail
    go_roundg (np - (i + 1))
    case measure => omega
    case rel => exact ⟨i + 1, by omega, rfl, by go_num, br.trans (hH0.mono br.size)⟩
   case neg =>
    have hxc : (x != 1) = true := by simpa using hx1
    by_cases hin : p ∈ B
    case neg =>
     have hne : i ≠ i0 := fun e => HBi.out e (Or.inr (Or.inr hin))
     refine wp_region_late (fun w' => Below wr.heap.size wr w') (fun _ => false) (by kernel_rfl) ?_
     have hH0 : Below wr.heap.size wr wr.drew := (Below.refl _ _).drew
     generalize wr.drew = wd0 at hH0 ⊢
     refine' wpAnyL_take (i := 0) (oi := ⟨some 29, _, _, _, _, _⟩) (v := _) rfl (by kernel_rfl) (by kernel_rfl) (by kernel_rfl) (by kernel_rfl) (fun _ _ _ h => h) hH0 (by rfl) ?hyv ?o24
     case hyv =>
      intro wz hSw
      go_simp
      try rfl
     try simp only [Act.put, sT, sZ, sS]
     refine' wpAnyL_take (i := 1) (oi := ⟨some 30, _, _, _, _, _⟩) (v := _) rfl (by kernel_rfl) (by kernel_rfl) (by kernel_rfl) (by kernel_rfl) (fun _ _ _ h => h) hH0 (by rfl) ?hyv ?o25
     case hyv =>
      intro wz hSw
      go_simp
      try rfl
     try simp only [Act.put, sT, sZ, sS]
     refine' wpAnyL_take (i := 2) (oi := ⟨some 31, _, _, _, _, _⟩) (v := _) rfl (by kernel_rfl) (by kernel_rfl) (by kernel_rfl) (by kernel_rfl) (fun _ _ _ h => h) hH0 (by rfl) ?hyv ?o26
     case hyv =>
      intro wz hSw
      go_simp
      try rfl
     try simp only [Act.put, sT, sZ, sS]
     refine' wpAnyL_take (i := 3) (oi := ⟨some 32, _, _, _, _, _⟩) (v := _) rfl (by kernel_rfl) (by kernel_rfl) (by kernel_rfl) (by kernel_rfl) (fun _ _ _ h => h) hH0 (by rfl) ?hyv ?o27
     case hyv =>
      intro wz hSw
      have zc0 := (hSw.cell (p := ⟨bI, oI + i, none⟩) yI).trans f0
      have zc1 := (hSw.cell (p := ⟨bP, oP + i, none⟩) yP).trans p0
      have zc2 := (hSw.cell (p := ⟨gb, 3, none⟩) ygr).trans g3
      have zc3 := (hSw.cell (p := ⟨gb, 4, none⟩) ygr).trans g4
      go_simp
      try rfl
     try simp only [Act.put, sT, sZ, sS]
     refine' wpAnyL_take (i := 4) (oi := ⟨some 33, _, _, _, _, _⟩) (v := _) rfl (by kernel_rfl) (by kernel_rfl) (by kernel_rfl) (by kernel_rfl) (fun _ _ _ h => h) hH0 (by rfl) ?hyv ?o28
     case hyv =>
      intro wz hSw
      go_simp
      try rfl
     try simp only [Act.put, sT, sZ, sS]
     refine' wpAnyL_take (i := 5) (oi := ⟨some 34, _, _, _, _, _⟩) (v := _) rfl (by kernel_rfl) (by kernel_rfl) (by kernel_rfl) (by kernel_rfl) (fun _ _ _ h => h) hH0 (by rfl) ?hyv ?o29
     case hyv =>
      intro wz hSw
      go_simp
      try rfl
     try simp only [Act.put, sT, sZ, sS]
     refine' wpAnyL_take (i := 6) (oi := ⟨some 35, _, _, _, _, _⟩) (v := _) rfl (by kernel_rfl) (by kernel_rfl) (by kernel_rfl) (by kernel_rfl) (fun _ _ _ h => h) hH0 (by rfl) ?hyv ?o30
     case hyv =>
      intro wz hSw
      go_simp
      try rfl
     try simp only [Act.put, sT, sZ, sS]
     refine' wpAnyL_take (i := 7) (oi := ⟨some 36, _, _, _, _, _⟩) (v := _) rfl (by kernel_rfl) (by kernel_rfl) (by kernel_rfl) (by kernel_rfl) (fun _ _ _ h => h) hH0 (by rfl) ?hyv ?o31
     case hyv =>
      intro wz hSw
      go_simp
      try rfl
     try simp only [Act.put, sT, sZ, sS]
     refine' wpAnyL_take (i := 8) (oi := ⟨some 37, _, _, _, _, _⟩) (v := _) rfl (by kernel_rfl) (by kernel_rfl) (by kernel_rfl) (by kernel_rfl) (fun _ _ _ h => h) hH0 (by rfl) ?hyv ?o32
     case hyv =>
      intro wz hSw
      go_simp
      try rfl
     try simp only [Act.put, sT, sZ, sS]
     refine' wpAnyL_take (i := 9) (oi := ⟨some 38, _, _, _, _, _⟩) (v := _) rfl (by kernel_rfl) (by kernel_rfl) (by kernel_rfl) (by kernel_rfl) (fun _ _ _ h => h) hH0 (by rfl) ?hyv ?o33
     case hyv =>
      intro wz hSw
      have zc0 := (hSw.cell (p := ⟨bI, oI + i, none⟩) yI).trans f0
      have zc1 := (hSw.cell (p := ⟨bP, oP + i, none⟩) yP).trans p0
      have zc2 := (hSw.cell (p := ⟨gb, 3, none⟩) ygr).trans g3
      have zc3 := (hSw.cell (p := ⟨gb, 4, none⟩) ygr).trans g4
      go_simp
      try rfl
     try simp only [Act.put, sT, sZ, sS]
     refine' wpAnyL_take (i := 10) (oi := ⟨some 39, _, _, _, _, _⟩) (v := _) rfl (by kernel_rfl) (by kernel_rfl) (by kernel_rfl) (by kernel_rfl) (fun _ _ _ h => h) hH0 (by rfl) ?hyv ?o34
     case hyv =>
      intro wz hSw
      go_simp
      try rfl
     try simp only [Act.put, sT, sZ, sS]
     refine' wpAnyL_take (i := 11) (oi := ⟨some 40, _, _, _, _, _⟩) (v := _) rfl (by kernel_rfl) (by kernel_rfl) (by kernel_rfl) (by kernel_rfl) (fun _ _ _ h => h) hH0 (by rfl) ?hyv ?o35
     case hyv =>
      intro wz hSw
      go_simp
      try rfl
     try simp only [Act.put, sT, sZ, sS]
     refine' wpAnyL_take (i := 12) (oi := ⟨some 41, _, _, _, _, _⟩) (v := _) rfl (by kernel_rfl) (by kernel_rfl) (by kernel_rfl) (by kernel_rfl) (fun _ _ _ h => h) hH0 (by rfl) ?hyv ?o36
     case hyv =>
      intro wz hSw
      go_simp
      try rfl
     try simp only [Act.put, sT, sZ, sS]
     refine' wpAnyL_take (i := 13) (oi := ⟨some 42, _, _, _, _, _⟩) (v := _) rfl (by kernel_rfl) (by kernel_rfl) (by kernel_rfl) (by kernel_rfl) (fun _ _ _ h => h) hH0 (by rfl) ?hyv ?o37
     case hyv =>
      intro wz hSw
      go_simp
      try rfl
     try simp only [Act.put, sT, sZ, sS]
     refine' wpAnyL_take (i := 14) (oi := ⟨some 43, _, _, _, _, _⟩) (v := _) rfl (by kernel_rfl) (by kernel_rfl) (by kernel_rfl) (by kernel_rfl) (fun _ _ _ h => h) hH0 (by rfl) ?hyv ?o38
     case hyv =>
      intro wz hSw
      go_simp
      try rfl
     try simp only [Act.put, sT, sZ, sS]
     refine' wpAnyL_take (i := 15) (oi := ⟨some 44, _, _, _, _, _⟩) (v := _) rfl (by kernel_rfl) (by kernel_rfl) (by kernel_rfl) (by kernel_rfl) (fun _ _ _ h => h) hH0 (by rfl) ?hyv ?o39
     case hyv =>
      intro wz hSw
      go_simp
      try rfl
     try simp only [Act.put, sT, sZ, sS]
     refine' wpAnyL_take (i := 16) (oi := ⟨some 45, _, _, _, _, _⟩) (v := _) rfl (by kernel_rfl) (by kernel_rfl) (by kernel_rfl) (by kernel_rfl) (fun _ _ _ h => h) hH0 (by rfl) ?hyv ?o40
     case hyv =>
      intro wz hSw
      go_simp
      try rfl
     try simp only [Act.put, sT, sZ, sS]
     refine' wpAnyL_take (i := 17) (oi := ⟨some 46, _, _, _, _, _⟩) (v := _) rfl (by kernel_rfl) (by kernel_rfl) (by kernel_rfl) (by kernel_rfl) (fun _ _ _ h => h) hH0 (by rfl) ?hyv ?o41
     case hyv =>
      intro wz hSw
      have zc0 := (hSw.cell (p := ⟨bI, oI + i, none⟩) yI).trans f0
      have zc1 := (hSw.cell (p := ⟨bP, oP + i, none⟩) yP).trans p0
      have zc2 := (hSw.cell (p := ⟨gb, 3, none⟩) ygr).trans g3
      have zc3 := (hSw.cell (p := ⟨gb, 4, none⟩) ygr).trans g4
      go_simp
      try rfl
     try simp only [Act.put, sT, sZ, sS]
     refine' wpAnyL_take (i := 18) (oi := ⟨some 47, _, _, _, _, _⟩) (v := _) rfl (by kernel_rfl) (by kernel_rfl) (by kernel_rfl) (by kernel_rfl) (fun _ _ _ h => h) hH0 (by rfl) ?hyv ?o42
     case hyv =>
      intro wz hSw
      go_simp
      try rfl
     try simp only [Act.put, sT, sZ, sS]
     refine' wpAnyL_take (i := 19) (oi := ⟨some 48, _, _, _, _, _⟩) (v := _) rfl (by kernel_rfl) (by kernel_rfl) (by kernel_rfl) (by kernel_rfl) (fun _ _ _ h => h) hH0 (by rfl) ?hyv ?o43
     case hyv =>
      intro wz hSw
      go_simp
      try rfl
     try simp only [Act.put, sT, sZ, sS]
     refine' wpAnyL_take (i := 20) (oi := ⟨some 49, _, _, _, _, _⟩) (v := _) rfl (by kernel_rfl) (by kernel_rfl) (by kernel_rfl) (by kernel_rfl) (fun _ _ _ h => h) hH0 (by rfl) ?hyv ?o44
     case hyv =>
      intro wz hSw
      go_simp
      try rfl
     try simp only [Act.put, sT, sZ, sS]
     refine' wpAnyL_take (i := 21) (oi := ⟨some 50, _, _, _, _, _⟩) (v := _) rfl (by kernel_rfl) (by kernel_rfl) (by kernel_rfl) (by kernel_rfl) (fun _ _ _ h => h) hH0 (by rfl) ?hyv ?o45
     case hyv =>
      intro wz hSw
      go_simp
      try rfl
     try simp only [Act.put, sT, sZ, sS]
     refine' wpAnyL_take (i := 22) (oi := ⟨some 51, _, _, _, _, _⟩) (v := _) rfl (by kernel_rfl) (by kernel_rfl) (by kernel_rfl) (by kernel_rfl) (fun _ _ _ h => h) hH0 (by rfl) ?hyv ?o46
     case hyv =>
      intro wz hSw
      have zc0 := (hSw.cell (p := ⟨bI, oI + i, none⟩) yI).trans f0
      have zc1 := (hSw.cell (p := ⟨bP, oP + i, none⟩) yP).trans p0
      have zc2 := (hSw.cell (p := ⟨gb, 3, none⟩) ygr).trans g3
      have zc3 := (hSw.cell (p := ⟨gb, 4, none⟩) ygr).trans g4
      go_simp
      try rfl
     try simp only [Act.put, sT, sZ, sS]
     refine' wpAnyL_take (i := 23) (oi := ⟨some 52, _, _, _, _, _⟩) (v := _) rfl (by kernel_rfl) (by kernel_rfl) (by kernel_rfl) (by kernel_rfl) (fun _ _ _ h => h) hH0 (by rfl) ?hyv ?o47
     case hyv =>
      intro wz hSw
      go_simp
      try rfl
     try simp only [Act.put, sT, sZ, sS]
     refine' wpAnyL_take (i := 24) (oi := ⟨some 53, _, _, _, _, _⟩) (v := _) rfl (by kernel_rfl) (by kernel_rfl) (by kernel_rfl) (by kernel_rfl) (fun _ _ _ h => h) hH0 (by rfl) ?hyv ?o48
     case hyv =>
      intro wz hSw
      go_simp
      try rfl
     try simp only [Act.put, sT, sZ, sS]
     refine' wpAnyL_take (i := 25) (oi := ⟨some 54, _, _, _, _, _⟩) (v := _) rfl (by kernel_rfl) (by kernel_rfl) (by kernel_rfl) (by kernel_rfl) (fun _ _ _ h => h) hH0 (by rfl) ?hyv ?o49
     case hyv =>
      intro wz hSw
      have zc0 := (hSw.cell (p := ⟨bI, oI + i, none⟩) yI).trans f0
      have zc1 := (hSw.cell (p := ⟨bP, oP + i, none⟩) yP).trans p0
      have zc2 := (hSw.cell (p := ⟨gb, 3, none⟩) ygr).trans g3
      have zc3 := (hSw.cell (p := ⟨gb, 4, none⟩) ygr).trans g4
      go_simp
      try rfl
     try simp only [Act.put, sT, sZ, sS]
     refine wpAnyL_one (i := 26) (o := _) rfl (by kernel_rfl) (by rfl) (fun K hK => ?_)
     go_simp
     refine (in36F (HB.out wd0 (Ar.trans (aside (S := [gb, cb]) hH0) Ar.size)) HNB.out p hin).mono ?_
     rintro eq wd1 ⟨rfl, bq1⟩
     have hH1 : Below wr.heap.size wr wd1 := hH0.trans (bq1.mono hH0.size)
     refine hK.out _ _ (fun _ => hH1) ?_
     clear hK K
     try simp only [Act.put, sT, sZ, sS]
     refine' wpAnyL_take (i := 27) (oi := ⟨some 56, _, _, _, _, _⟩) (v := _) rfl (by kernel_rfl) (by kernel_rfl) (by kernel_rfl) (by kernel_rfl) (fun _ _ _ h => h) hH1 (by rfl) ?hyv ?o50
     case hyv =>
      intro wz hSw
      go_simp
      try rfl
     try simp only [Act.put, sT, sZ, sS]
     refine wpAnyL_done (by kernel_rfl) ?_ _
     go_wp2_with fail
     go_roundg (np - (i + 1))
     case measure => omega
     case rel => exact ⟨i + 1, by omega, rfl, by go_num, br.trans (hH1.mono br.size)⟩
    case pos =>
     have hie : i = i0 := by
      by_cases h : i < i0
      ·rcases HFi.out h with h | h | h
       ·exact absurd h hx0
       ·exact absurd h hx1
       ·exact absurd hin h
      ·omega
     subst hie
     refine wp_region_late (fun w' => Below wr.heap.size wr w') (fun _ => false) (by kernel_rfl) ?_
     have hH0 : Below wr.heap.size wr wr.drew := (Below.refl _ _).drew
     generalize wr.drew = wd0 at hH0 ⊢
     refine' wpAnyL_take (i := 0) (oi := ⟨some 29, _, _, _, _, _⟩) (v := _) rfl (by kernel_rfl) (by kernel_rfl) (by kernel_rfl) (by kernel_rfl) (fun _ _ _ h => h) hH0 (by rfl) ?hyv ?o51
     case hyv =>
      intro wz hSw
      go_simp
      try rfl
     try simp only [Act.put, sT, sZ, sS]
     refine' wpAnyL_take (i := 1) (oi := ⟨some 30, _, _, _, _, _⟩) (v := _) rfl (by kernel_rfl) (by kernel_rfl) (by kernel_rfl) (by kernel_rfl) (fun _ _ _ h => h) hH0 (by rfl) ?hyv ?o52
     case hyv =>
      intro wz hSw
      go_simp
      try rfl
     try simp only [Act.put, sT, sZ, sS]
     refine' wpAnyL_take (i := 2) (oi := ⟨some 31, _, _, _, _, _⟩) (v := _) rfl (by kernel_rfl) (by kernel_rfl) (by kernel_rfl) (by kernel_rfl) (fun _ _ _ h => h) hH0 (by rfl) ?hyv ?o53
     case hyv =>
      intro wz hSw
      go_simp
      try rfl
     try simp only [Act.put, sT, sZ, sS]
     refine' wpAnyL_take (i := 3) (oi := ⟨some 32, _, _, _, _, _⟩) (v := _) rfl (by kernel_rfl) (by kernel_rfl) (by kernel_rfl) (by kernel_rfl) (fun _ _ _ h => h) hH0 (by rfl) ?hyv ?o54
     case hyv =>
      intro wz hSw
      have zc0 := (hSw.cell (p := ⟨bI, oI + i, none⟩) yI).trans f0
      have zc1 := (hSw.cell (p := ⟨bP, oP + i, none⟩) yP).trans p0
      have zc2 := (hSw.cell (p := ⟨gb, 3, none⟩) ygr).trans g3
      have zc3 := (hSw.cell (p := ⟨gb, 4, none⟩) ygr).trans g4
      go_simp
      try rfl
     try simp only [Act.put, sT, sZ, sS]
     refine' wpAnyL_take (i := 4) (oi := ⟨some 33, _, _, _, _, _⟩) (v := _) rfl (by kernel_rfl) (by kernel_rfl) (by kernel_rfl) (by kernel_rfl) (fun _ _ _ h => h) hH0 (by rfl) ?hyv ?o55
     case hyv =>
      intro wz hSw
      go_simp
      try rfl
     try simp only [Act.put, sT, sZ, sS]
     refine' wpAnyL_take (i := 5) (oi := ⟨some 34, _, _, _, _, _⟩) (v := _) rfl (by kernel_rfl) (by kernel_rfl) (by kernel_rfl) (by kernel_rfl) (fun _ _ _ h => h) hH0 (by rfl) ?hyv ?o56
     case hyv =>
      intro wz hSw
      go_simp
      try rfl
     try simp only [Act.put, sT, sZ, sS]
     refine' wpAnyL_take (i := 6) (oi := ⟨some 35, _, _, _, _, _⟩) (v := _) rfl (by kernel_rfl) (by kernel_rfl) (by kernel_rfl) (by kernel_rfl) (fun _ _ _ h => h) hH0 (by rfl) ?hyv ?o57
     case hyv =>
      intro wz hSw
      go_simp
      try rfl
     try simp only [Act.put, sT, sZ, sS]
     refine' wpAnyL_take (i := 7) (oi := ⟨some 36, _, _, _, _, _⟩) (v := _) rfl (by kernel_rfl) (by kernel_rfl) (by kernel_rfl) (by kernel_rfl) (fun _ _ _ h => h) hH0 (by rfl) ?hyv ?o58
     case hyv =>
      intro wz hSw
      go_simp
      try rfl
     try simp only [Act.put, sT, sZ, sS]
     refine' wpAnyL_take (i := 8) (oi := ⟨some 37, _, _, _, _, _⟩) (v := _) rfl (by kernel_rfl) (by kernel_rfl) (by kernel_rfl) (by kernel_rfl) (fun _ _ _ h => h) hH0 (by rfl) ?hyv ?o59
     case hyv =>
      intro wz hSw
      go_simp
      try rfl
     try simp only [Act.put, sT, sZ, sS]
     refine' wpAnyL_take (i := 9) (oi := ⟨some 38, _, _, _, _, _⟩) (v := _) rfl (by kernel_rfl) (by kernel_rfl) (by kernel_rfl) (by kernel_rfl) (fun _ _ _ h => h) hH0 (by rfl) ?hyv ?o60
     case hyv =>
      intro wz hSw
      have zc0 := (hSw.cell (p := ⟨bI, oI + i, none⟩) yI).trans f0
      have zc1 := (hSw.cell (p := ⟨bP, oP + i, none⟩) yP).trans p0
      have zc2 := (hSw.cell (p := ⟨gb, 3, none⟩) ygr).trans g3
      have zc3 := (hSw.cell (p := ⟨gb, 4, none⟩) ygr).trans g4
      go_simp
      try rfl
     try simp only [Act.put, sT, sZ, sS]
     refine' wpAnyL_take (i := 10) (oi := ⟨some 39, _, _, _, _, _⟩) (v := _) rfl (by kernel_rfl) (by kernel_rfl) (by kernel_rfl) (by kernel_rfl) (fun _ _ _ h => h) hH0 (by rfl) ?hyv ?o61
     case hyv =>
      intro wz hSw
      go_simp
      try rfl
     try simp only [Act.put, sT, sZ, sS]
     refine' wpAnyL_take (i := 11) (oi := ⟨some 40, _, _, _, _, _⟩) (v := _) rfl (by kernel_rfl) (by kernel_rfl) (by kernel_rfl) (by kernel_rfl) (fun _ _ _ h => h) hH0 (by rfl) ?hyv ?o62
     case hyv =>
      intro wz hSw
      go_simp
      try rfl
     try simp only [Act.put, sT, sZ, sS]
     refine' wpAnyL_take (i := 12) (oi := ⟨some 41, _, _, _, _, _⟩) (v := _) rfl (by kernel_rfl) (by kernel_rfl) (by kernel_rfl) (by kernel_rfl) (fun _ _ _ h => h) hH0 (by rfl) ?hyv ?o63
     case hyv =>
      intro wz hSw
      go_simp
      try rfl
     try simp only [Act.put, sT, sZ, sS]
     refine' wpAnyL_take (i := 13) (oi := ⟨some 42, _, _, _, _, _⟩) (v := _) rfl (by kernel_rfl) (by kernel_rfl) (by kernel_rfl) (by kernel_rfl) (fun _ _ _ h => h) hH0 (by rfl) ?hyv ?o64
     case hyv =>
      intro wz hSw
      go_simp
      try rfl
     try simp only [Act.put, sT, sZ, sS]
     refine' wpAnyL_take (i := 14) (oi := ⟨some 43, _, _, _, _, _⟩) (v := _) rfl (by kernel_rfl) (by kernel_rfl) (by kernel_rfl) (by kernel_rfl) (fun _ _ _ h => h) hH0 (by rfl) ?hyv ?o65
     case hyv =>
      intro wz hSw
      go_simp
      try rfl
     try simp only [Act.put, sT, sZ, sS]
     refine' wpAnyL_take (i := 15) (oi := ⟨some 44, _, _, _, _, _⟩) (v := _) rfl (by kernel_rfl) (by kernel_rfl) (by kernel_rfl) (by kernel_rfl) (fun _ _ _ h => h) hH0 (by rfl) ?hyv ?o66
     case hyv =>
      intro wz hSw
      go_simp
      try rfl
     try simp only [Act.put, sT, sZ, sS]
     refine' wpAnyL_take (i := 16) (oi := ⟨some 45, _, _, _, _, _⟩) (v := _) rfl (by kernel_rfl) (by kernel_rfl) (by kernel_rfl) (by kernel_rfl) (fun _ _ _ h => h) hH0 (by rfl) ?hyv ?o67
     case hyv =>
      intro wz hSw
      go_simp
      try rfl
     try simp only [Act.put, sT, sZ, sS]
     refine' wpAnyL_take (i := 17) (oi := ⟨some 46, _, _, _, _, _⟩) (v := _) rfl (by kernel_rfl) (by kernel_rfl) (by kernel_rfl) (by kernel_rfl) (fun _ _ _ h => h) hH0 (by rfl) ?hyv ?o68
     case hyv =>
      intro wz hSw
      have zc0 := (hSw.cell (p := ⟨bI, oI + i, none⟩) yI).trans f0
      have zc1 := (hSw.cell (p := ⟨bP, oP + i, none⟩) yP).trans p0
      have zc2 := (hSw.cell (p := ⟨gb, 3, none⟩) ygr).trans g3
      have zc3 := (hSw.cell (p := ⟨gb, 4, none⟩) ygr).trans g4
      go_simp
      try rfl
     try simp only [Act.put, sT, sZ, sS]
     refine' wpAnyL_take (i := 18) (oi := ⟨some 47, _, _, _, _, _⟩) (v := _) rfl (by kernel_rfl) (by kernel_rfl) (by kernel_rfl) (by kernel_rfl) (fun _ _ _ h => h) hH0 (by rfl) ?hyv ?o69
     case hyv =>
      intro wz hSw
      go_simp
      try rfl
     try simp only [Act.put, sT, sZ, sS]
     refine' wpAnyL_take (i := 19) (oi := ⟨some 48, _, _, _, _, _⟩) (v := _) rfl (by kernel_rfl) (by kernel_rfl) (by kernel_rfl) (by kernel_rfl) (fun _ _ _ h => h) hH0 (by rfl) ?hyv ?o70
     case hyv =>
      intro wz hSw
      go_simp
      try rfl
     try simp only [Act.put, sT, sZ, sS]
     refine' wpAnyL_take (i := 20) (oi := ⟨some 49, _, _, _, _, _⟩) (v := _) rfl (by kernel_rfl) (by kernel_rfl) (by kernel_rfl) (by kernel_rfl) (fun _ _ _ h => h) hH0 (by rfl) ?hyv ?o71
     case hyv =>
      intro wz hSw
      go_simp
      try rfl
     try simp only [Act.put, sT, sZ, sS]
     refine' wpAnyL_take (i := 21) (oi := ⟨some 50, _, _, _, _, _⟩) (v := _) rfl (by kernel_rfl) (by kernel_rfl) (by kernel_rfl) (by kernel_rfl) (fun _ _ _ h => h) hH0 (by rfl) ?hyv ?o72
     case hyv =>
      intro wz hSw
      go_simp
      try rfl
     try simp only [Act.put, sT, sZ, sS]
     refine' wpAnyL_take (i := 22) (oi := ⟨some 51, _, _, _, _, _⟩) (v := _) rfl (by kernel_rfl) (by kernel_rfl) (by kernel_rfl) (by kernel_rfl) (fun _ _ _ h => h) hH0 (by rfl) ?hyv ?o73
     case hyv =>
      intro wz hSw
      have zc0 := (hSw.cell (p := ⟨bI, oI + i, none⟩) yI).trans f0
      have zc1 := (hSw.cell (p := ⟨bP, oP + i, none⟩) yP).trans p0
      have zc2 := (hSw.cell (p := ⟨gb, 3, none⟩) ygr).trans g3
      have zc3 := (hSw.cell (p := ⟨gb, 4, none⟩) ygr).trans g4
      go_simp
      try rfl
     try simp only [Act.put, sT, sZ, sS]
     refine' wpAnyL_take (i := 23) (oi := ⟨some 52, _, _, _, _, _⟩) (v := _) rfl (by kernel_rfl) (by kernel_rfl) (by kernel_rfl) (by kernel_rfl) (fun _ _ _ h => h) hH0 (by rfl) ?hyv ?o74
     case hyv =>
      intro wz hSw
      go_simp
      try rfl
     try simp only [Act.put, sT, sZ, sS]
     refine' wpAnyL_take (i := 24) (oi := ⟨some 53, _, _, _, _, _⟩) (v := _) rfl (by kernel_rfl) (by kernel_rfl) (by kernel_rfl) (by kernel_rfl) (fun _ _ _ h => h) hH0 (by rfl) ?hyv ?o75
     case hyv =>
      intro wz hSw
      go_simp
      try rfl
     try simp only [Act.put, sT, sZ, sS]
     refine' wpAnyL_take (i := 25) (oi := ⟨some 54, _, _, _, _, _⟩) (v := _) rfl (by kernel_rfl) (by kernel_rfl) (by kernel_rfl) (by kernel_rfl) (fun _ _ _ h => h) hH0 (by rfl) ?hyv ?o76
     case hyv =>
      intro wz hSw
      have zc0 := (hSw.cell (p := ⟨bI, oI + i, none⟩) yI).trans f0
      have zc1 := (hSw.cell (p := ⟨bP, oP + i, none⟩) yP).trans p0
      have zc2 := (hSw.cell (p := ⟨gb, 3, none⟩) ygr).trans g3
      have zc3 := (hSw.cell (p := ⟨gb, 4, none⟩) ygr).trans g4
      go_simp
      try rfl
     try simp only [Act.put, sT, sZ, sS]
     refine wpAnyL_one (i := 26) (o := _) rfl (by kernel_rfl) (by rfl) (fun K hK => ?_)
     go_simp
     refine (in36T (HB.out wd0 (Ar.trans (aside (S := [gb, cb]) hH0) Ar.size)) HNB.out p hin).mono ?_
     rintro eq wd1 ⟨rfl, bq1⟩
     have hH1 : Below wr.heap.size wr wd1 := hH0.trans (bq1.mono hH0.size)
     refine hK.out _ _ (fun _ => hH1) ?_
     clear hK K
     try simp only [Act.put, sT, sZ, sS]
     refine' wpAnyL_take (i := 27) (oi := ⟨some 56, _, _, _, _, _⟩) (v := _) rfl (by kernel_rfl) (by kernel_rfl) (by kernel_rfl) (by kernel_rfl) (fun _ _ _ h => h) hH1 (by rfl) ?hyv ?o77
     case hyv =>
      intro wz hSw
      go_simp
      try rfl
     try simp only [Act.put, sT, sZ, sS]
     refine wpAnyL_done (by kernel_rfl) ?_ _
     have bT := br.trans (hH1.mono br.size)
     clear g3 g4 kg f0 p0
     go_wp2_with fail
     refine (f27_any 17 (i : Int) _).mono ?_
     rintro e wr ⟨rfl, bf⟩
     have hgu := hg1.keep (bT.block _ yg)
     have hmu := hm1.under bT
     have kFu := (bT.block _ (lt_of kF)).trans kF
     have Au : Aside [gb, cb] w.heap.size w _ := A1.trans (aside (S := [gb, cb]) bT) A1.size
     have At : Aside [gb, cb] w.heap.size w wr := Au.trans (aside (S := [gb, cb]) bf) Au.size
     have hgt := hgu.keep (bf.block _ (lt_of hgu))
     have kCt := hmu.under bf
     have kFt := (bf.block _ (lt_of kFu)).trans kFu
     have HEND := hide (drow_end kFt hgt kCt At ygw ycw 17 (i : Int))
     have KF := two_set kFt (.int .i64 17) (.int .i64 (i : Int))
     have z0 := cell_of KF 0
     have z1 := cell_of KF 1
     have sz0 := cell_of kFt 0
     have sz1 := cell_of kFt 1
     have fz0 := free_of kFt 0
     have fz1 := free_of kFt 1
     simp at z0 z1 sz0 sz1
     clear kF kFt KF hgt kCt At A1 bf b1 hg1 hm1 hgu hmu kFu Au
     go_wp2
     exact bodyPost_ret (v := .tuple #[.slice none 0 0, .agg #[.int .i64 17, .int .i64 (i : Int)]]) (by simp [results, Tryd.results14, go_sem, z0, z1]) rfl ⟨rfl, HEND.out.1, HEND.out.2.1, HEND.out.2.2⟩
end Dx
end Go.Proofs.YtkgbmgpdehmiiaaDoor
