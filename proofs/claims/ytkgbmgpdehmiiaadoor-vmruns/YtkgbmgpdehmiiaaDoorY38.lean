import Derived.Test.YtkgbmgpdehmiiaaDoorY37
import Derived.WalkKit
import Derived.WalkSpells
import Derived.IntWalk
import Derived.Deep.Cut
import Derived.Deep.LoopGhost
import Derived.Laws.Cover1
import Derived.Lib.Hide
set_option linter.unusedVariables false
set_option linter.unusedSimpArgs false
set_option maxHeartbeats 64000000
set_option maxRecDepth 100000
namespace Go.Proofs.YtkgbmgpdehmiiaaDoor
open Go.RowKit Go.IntWalk
set_option linter.unusedVariables false
set_option linter.unusedSimpArgs false
theorem ins_at2 {okL : Nat → Prop} {w1 wr : World} {rb cb : Nat} {aL : Option Addr} {cL : Nat} {C : List Cd.In} (hL : HIns okL w1 (.slice aL C.length cL) C) (hok : ∀ i, okL i → i ≠ rb ∧ i ≠ cb) (a : Aside [rb, cb] w1.heap.size w1 wr) {i : Nat} (hi : i < C.length) : ∃ b o, aL = some ⟨b, o, none⟩ ∧ InAt wr b (o + i * 6) C[i] := by
 have h := hL.keep a.size (fun j hj hl => a.block j hl (by have := hok j hj; simp; exact this))
 obtain ⟨ao, cap, e, -, -, hat⟩ := h.at
 injection e with e1 e2 e3
 obtain ⟨b, o, h1, h2, h3⟩ := hat i hi
 exact ⟨b, o, by rw [e1]; exact h1, h3⟩
/-- where the instructions lie -/
theorem ins_where {okL : Nat → Prop} {w1 : World} {rb cb : Nat} {aL : Option Addr} {cL : Nat} {C : List Cd.In} (hL : HIns okL w1 (.slice aL C.length cL) C) (hok : ∀ i, okL i → i ≠ rb ∧ i ≠ cb) (hp : 0 < C.length) : ∃ kb ko, aL = some ⟨kb, ko, none⟩ ∧ kb ≠ rb ∧ ∀ (i : Nat) (hi : i < C.length) W, Aside [rb, cb] w1.heap.size w1 W → InAt W kb (ko + i * 6) C[i] := by
 obtain ⟨kb, ko, rfl, h0⟩ := ins_at2 hL hok (Aside.refl w1) hp
 refine ⟨kb, ko, rfl, ?_, fun i hi W a => ?_⟩
 ·obtain ⟨D, ⟨ao, cap, e, -, -, h3⟩, -⟩ := hL
  injection e with e1 e2 e3
  obtain ⟨b, o, h4, h5, -⟩ := h3 hp
  rw [← e1] at h4
  injection h4 with h4
  injection h4 with h4 h6 h7
  rw [h4]
  exact (hok b h5).1
 ·obtain ⟨b, o, e, h⟩ := ins_at2 hL hok a hi
  injection e with e
  injection e with e1 e2 e3
  rw [e1, e2]
  exact h
/-- what a run answers -/
structure EndP (w1 : World) (rb cb nc cc : Nat) (u0 : Value) (res : Em.Res) (e : Ending) (w' : World) : Prop where
 e : e = .returned (.bool (decide (res.p < 0)))
 r : ∃ X pc dn lp tu, RunS w1 rb cb nc cc u0 X res.s pc dn lp tu w' ∧ (res.p < 0 → dn = res.st) ∧ (¬ res.p < 0 → pc = res.p)
set_option maxHeartbeats 16000000 in
theorem toEnd29_any {w : World} {rb cb nc cc nr : Nat} {okL : Nat → Prop} {aL : Option Addr} {cL : Nat} {C : List Cd.In} {X : List Int} {s : Em.St} {lp tu : Int} (hS : RunS w rb cb nc cc (.slice aL C.length cL) X s 0 0 lp tu w) (hL : HIns okL w (.slice aL C.length cL) C) (hok : ∀ i, okL i → i ≠ rb ∧ i ≠ cb) (hM : nc ≤ 6000) (n1 : rb ≠ cb) (hnr : nr ≤ 40) (hRs : ∀ x ∈ C, InOk nc nr x) (hgo : Cd.go 10 11 none C ≠ none) (hCl : C.length ≤ 200000) :
  Calls Tryd.prog 29 #[.pointer (some ⟨rb, 0, none⟩)] w (EndP w rb cb nc cc (.slice aL C.length cL) (Em.allF C 0 s 0)) := by
 obtain ⟨res, hres⟩ : ∃ x, x = Em.allF C 0 s 0 := ⟨_, rfl⟩
 have hI := Em.Inv.first (s := s) hgo lp tu
 rw [← hres] at hI ⊢
 obtain ⟨ln, hln⟩ : ∃ ln, ln = C.length := ⟨_, rfl⟩
 have HW := hide (fun hp => ins_where hL hok hp)
 obtain ⟨BB, hBB⟩ : ∃ x, x = C.length * Em.bnd C := ⟨_, rfl⟩
 rw [← hBB] at hI
 have HI := hide hI
 rw [← hln] at hS hCl ⊢
 have HS := hide hS
 have HLN := hide hln
 have HRS := hide hRs
 clear hS hI hres hBB hL hok hgo hln hRs
 go_enter Tryd.func29, Tryd.ntmps29
 go_wp2_with fail
 go_loopg [] BB (fun kz wr => ∃ (pc : Nat) (X : List Int) (s : Em.St) (dn lp tu : Int), Hid (Em.Inv C res kz pc s dn lp tu) ∧ Hid (RunS w rb cb nc cc (.slice aL ln cL) X s (pc : Int) dn lp tu wr))
 case atStart => exact ⟨0, _, _, _, _, _, HI, HS⟩
 case round =>
  clear HI HS
  obtain ⟨pc, X, s, dn, lp, tu, HI, HS⟩ := hrel
  have yr := HS.out.r.lt
  have c0 := HS.out.r.c0
  have c42 := HS.out.r.c42
  have hple : pc ≤ ln := by have h1 := HI.out.le; have h2 := HLN.out; omega
  by_cases hlt : pc < ln
  case neg =>
   have hpe : pc = ln := by omega
   subst hpe
   have hlt2 : ¬ (pc : Int) < (pc : Int) := by omega
   go_upto_region 1 with fail
   refine wp_region_late (fun w' => Below wr.heap.size wr w') (fun _ => false) (by kernel_rfl) ?_
   have hH0 : Below wr.heap.size wr wr.drew := (Below.refl _ _).drew
   generalize wr.drew = wd0 at hH0 ⊢
   refine' wpAnyL_take (i := 0) (oi := ⟨some 3, _, _, _, _, _⟩) (v := _) rfl (by kernel_rfl) (by kernel_rfl) (by kernel_rfl) (by kernel_rfl) (fun _ _ _ h => h) hH0 (by rfl) ?hyv ?o1
   case hyv =>
    intro wz hSw
    go_simp
    try rfl
   try simp only [Act.put, sT, sZ, sS]
   refine' wpAnyL_take (i := 1) (oi := ⟨some 4, _, _, _, _, _⟩) (v := _) rfl (by kernel_rfl) (by kernel_rfl) (by kernel_rfl) (by kernel_rfl) (fun _ _ _ h => h) hH0 (by rfl) ?hyv ?o2
   case hyv =>
    intro wz hSw
    go_simp
    try rfl
   try simp only [Act.put, sT, sZ, sS]
   refine' wpAnyL_take (i := 2) (oi := ⟨some 5, _, _, _, _, _⟩) (v := _) rfl (by kernel_rfl) (by kernel_rfl) (by kernel_rfl) (by kernel_rfl) (fun _ _ _ h => h) hH0 (by rfl) ?hyv ?o3
   case hyv =>
    intro wz hSw
    go_simp
    try rfl
   try simp only [Act.put, sT, sZ, sS]
   refine' wpAnyL_take (i := 3) (oi := ⟨some 6, _, _, _, _, _⟩) (v := _) rfl (by kernel_rfl) (by kernel_rfl) (by kernel_rfl) (by kernel_rfl) (fun _ _ _ h => h) hH0 (by rfl) ?hyv ?o4
   case hyv =>
    intro wz hSw
    have zc0 := (hSw.cell (p := ⟨rb, 0, none⟩) yr).trans c0
    have zc1 := (hSw.cell (p := ⟨rb, 42, none⟩) yr).trans c42
    go_simp
    try rfl
   try simp only [Act.put, sT, sZ, sS]
   refine' wpAnyL_take (i := 4) (oi := ⟨some 7, _, _, _, _, _⟩) (v := _) rfl (by kernel_rfl) (by kernel_rfl) (by kernel_rfl) (by kernel_rfl) (fun _ _ _ h => h) hH0 (by rfl) ?hyv ?o5
   case hyv =>
    intro wz hSw
    go_simp
    try rfl
   try simp only [Act.put, sT, sZ, sS]
   refine' wpAnyL_take (i := 5) (oi := ⟨some 8, _, _, _, _, _⟩) (v := _) rfl (by kernel_rfl) (by kernel_rfl) (by kernel_rfl) (by kernel_rfl) (fun _ _ _ h => h) hH0 (by rfl) ?hyv ?o6
   case hyv =>
    intro wz hSw
    go_simp
    try rfl
   try simp only [Act.put, sT, sZ, sS]
   refine' wpAnyL_take (i := 6) (oi := ⟨some 9, _, _, _, _, _⟩) (v := _) rfl (by kernel_rfl) (by kernel_rfl) (by kernel_rfl) (by kernel_rfl) (fun _ _ _ h => h) hH0 (by rfl) ?hyv ?o7
   case hyv =>
    intro wz hSw
    go_simp
    try rfl
   try simp only [Act.put, sT, sZ, sS]
   refine' wpAnyL_take (i := 7) (oi := ⟨some 10, _, _, _, _, _⟩) (v := _) rfl (by kernel_rfl) (by kernel_rfl) (by kernel_rfl) (by kernel_rfl) (fun _ _ _ h => h) hH0 (by rfl) ?hyv ?o8
   case hyv =>
    intro wz hSw
    have zc0 := (hSw.cell (p := ⟨rb, 0, none⟩) yr).trans c0
    have zc1 := (hSw.cell (p := ⟨rb, 42, none⟩) yr).trans c42
    go_simp
    try rfl
   try simp only [Act.put, sT, sZ, sS]
   refine' wpAnyL_take (i := 8) (oi := ⟨some 11, _, _, _, _, _⟩) (v := _) rfl (by kernel_rfl) (by kernel_rfl) (by kernel_rfl) (by kernel_rfl) (fun _ _ _ h => h) hH0 (by rfl) ?hyv ?o9
   case hyv =>
    intro wz hSw
    go_simp
    try rfl
   try simp only [Act.put, sT, sZ, sS]
   refine' wpAnyL_take (i := 9) (oi := ⟨some 12, _, _, _, _, _⟩) (v := _) rfl (by kernel_rfl) (by kernel_rfl) (by kernel_rfl) (by kernel_rfl) (fun _ _ _ h => h) hH0 (by rfl) ?hyv ?o10
   case hyv =>
    intro wz hSw
    go_simp
    try rfl
   try simp only [Act.put, sT, sZ, sS]
   refine wpAnyL_done (by kernel_rfl) ?_ _
   have HS2 := hide (HS.out.under hH0)
   go_wp2
   go_ret
   have hz := HI.out.done (by have h2 := HLN.out; omega)
   subst hz
   exact ⟨rfl, _, _, _, _, _, HS2.out, fun _ => rfl, fun h => absurd (show (-1 : Int) < 0 by decide) h⟩
  case pos =>
   have hlt2 : (pc : Int) < (ln : Int) := by omega
   go_upto_region 1 with fail
   refine wp_region_late (fun w' => Below wr.heap.size wr w') (fun _ => false) (by kernel_rfl) ?_
   have hH0 : Below wr.heap.size wr wr.drew := (Below.refl _ _).drew
   generalize wr.drew = wd0 at hH0 ⊢
   refine' wpAnyL_take (i := 0) (oi := ⟨some 3, _, _, _, _, _⟩) (v := _) rfl (by kernel_rfl) (by kernel_rfl) (by kernel_rfl) (by kernel_rfl) (fun _ _ _ h => h) hH0 (by rfl) ?hyv ?o11
   case hyv =>
    intro wz hSw
    go_simp
    try rfl
   try simp only [Act.put, sT, sZ, sS]
   refine' wpAnyL_take (i := 1) (oi := ⟨some 4, _, _, _, _, _⟩) (v := _) rfl (by kernel_rfl) (by kernel_rfl) (by kernel_rfl) (by kernel_rfl) (fun _ _ _ h => h) hH0 (by rfl) ?hyv ?o12
   case hyv =>
    intro wz hSw
    go_simp
    try rfl
   try simp only [Act.put, sT, sZ, sS]
   refine' wpAnyL_take (i := 2) (oi := ⟨some 5, _, _, _, _, _⟩) (v := _) rfl (by kernel_rfl) (by kernel_rfl) (by kernel_rfl) (by kernel_rfl) (fun _ _ _ h => h) hH0 (by rfl) ?hyv ?o13
   case hyv =>
    intro wz hSw
    go_simp
    try rfl
   try simp only [Act.put, sT, sZ, sS]
   refine' wpAnyL_take (i := 3) (oi := ⟨some 6, _, _, _, _, _⟩) (v := _) rfl (by kernel_rfl) (by kernel_rfl) (by kernel_rfl) (by kernel_rfl) (fun _ _ _ h => h) hH0 (by rfl) ?hyv ?o14
   case hyv =>
    intro wz hSw
    have zc0 := (hSw.cell (p := ⟨rb, 0, none⟩) yr).trans c0
    have zc1 := (hSw.cell (p := ⟨rb, 42, none⟩) yr).trans c42
    go_simp
    try rfl
   try simp only [Act.put, sT, sZ, sS]
   refine' wpAnyL_take (i := 4) (oi := ⟨some 7, _, _, _, _, _⟩) (v := _) rfl (by kernel_rfl) (by kernel_rfl) (by kernel_rfl) (by kernel_rfl) (fun _ _ _ h => h) hH0 (by rfl) ?hyv ?o15
   case hyv =>
    intro wz hSw
    go_simp
    try rfl
   try simp only [Act.put, sT, sZ, sS]
   refine' wpAnyL_take (i := 5) (oi := ⟨some 8, _, _, _, _, _⟩) (v := _) rfl (by kernel_rfl) (by kernel_rfl) (by kernel_rfl) (by kernel_rfl) (fun _ _ _ h => h) hH0 (by rfl) ?hyv ?o16
   case hyv =>
    intro wz hSw
    go_simp
    try rfl
   try simp only [Act.put, sT, sZ, sS]
   refine' wpAnyL_take (i := 6) (oi := ⟨some 9, _, _, _, _, _⟩) (v := _) rfl (by kernel_rfl) (by kernel_rfl) (by kernel_rfl) (by kernel_rfl) (fun _ _ _ h => h) hH0 (by rfl) ?hyv ?o17
   case hyv =>
    intro wz hSw
    go_simp
    try rfl
   try simp only [Act.put, sT, sZ, sS]
   refine' wpAnyL_take (i := 7) (oi := ⟨some 10, _, _, _, _, _⟩) (v := _) rfl (by kernel_rfl) (by kernel_rfl) (by kernel_rfl) (by kernel_rfl) (fun _ _ _ h => h) hH0 (by rfl) ?hyv ?o18
   case hyv =>
    intro wz hSw
    have zc0 := (hSw.cell (p := ⟨rb, 0, none⟩) yr).trans c0
    have zc1 := (hSw.cell (p := ⟨rb, 42, none⟩) yr).trans c42
    go_simp
    try rfl
   try simp only [Act.put, sT, sZ, sS]
   refine' wpAnyL_take (i := 8) (oi := ⟨some 11, _, _, _, _, _⟩) (v := _) rfl (by kernel_rfl) (by kernel_rfl) (by kernel_rfl) (by kernel_rfl) (fun _ _ _ h => h) hH0 (by rfl) ?hyv ?o19
   case hyv =>
    intro wz hSw
    go_simp
    try rfl
   try simp only [Act.put, sT, sZ, sS]
   refine' wpAnyL_take (i := 9) (oi := ⟨some 12, _, _, _, _, _⟩) (v := _) rfl (by kernel_rfl) (by kernel_rfl) (by kernel_rfl) (by kernel_rfl) (fun _ _ _ h => h) hH0 (by rfl) ?hyv ?o20
   case hyv =>
    intro wz hSw
    go_simp
    try rfl
   try simp only [Act.put, sT, sZ, sS]
   refine wpAnyL_done (by kernel_rfl) ?_ _
   have HS2 := hide (HS.out.under hH0)
   have hpC : pc < C.length := by have h2 := HLN.out; omega
   obtain ⟨kb, ko, rfl, m1, hat⟩ := HW.out (by omega)
   have hst := step42 (k := gk) HI.out hpC (by rw [← HLN.out]; exact HS2.out) hat m1 n1 hM hnr HRS.out
   rw [← HLN.out] at hst
   obtain ⟨w2, hw2⟩ : ∃ x, x = wd0 := ⟨_, rfl⟩
   subst hw2
   have yr2 := HS2.out.r.lt
   have c02 := HS2.out.r.c0
   have c422 := HS2.out.r.c42
   clear hat m1 HI HS HW
   rcases hst with hst | hst
   ·have HDO := hide hst
    clear hst HS2
    go_upto_region 2 with fail
    refine wp_region_late (fun w' => Below w2.heap.size w2 w') (fun i => i == 10 || i == 11) (by kernel_rfl) ?_
    have hH0 : Below w2.heap.size w2 w2.drew := (Below.refl _ _).drew
    generalize w2.drew = wd0 at hH0 ⊢
    refine' wpAnyL_take2 (i := 0) [10, 11] (oi := ⟨some 13, _, _, _, _, _⟩) (v := _) rfl (by kernel_rfl) (by kernel_rfl) (by kernel_rfl) (by kernel_rfl) (fun _ _ _ h => h) hH0 (by rfl) ?hyv ?o21
    case hyv =>
     intro wz hSw
     go_simp
     try rfl
    try simp only [Act.put, sT, sZ, sS]
    refine' wpAnyL_take2 (i := 1) [2, 3, 4, 9, 10, 11] (oi := ⟨some 14, _, _, _, _, _⟩) (v := _) rfl (by kernel_rfl) (by kernel_rfl) (by kernel_rfl) (by kernel_rfl) (fun _ _ _ h => h) hH0 (by rfl) ?hyv ?o22
    case hyv =>
     intro wz hSw
     go_simp
     try rfl
    try simp only [Act.put, sT, sZ, sS]
    refine' wpAnyL_take2 (i := 2) [3, 4, 9, 10, 11] (oi := ⟨some 15, _, _, _, _, _⟩) (v := _) rfl (by kernel_rfl) (by kernel_rfl) (by kernel_rfl) (by kernel_rfl) (fun _ _ _ h => h) hH0 (by rfl) ?hyv ?o23
    case hyv =>
     intro wz hSw
     go_simp
     try rfl
    try simp only [Act.put, sT, sZ, sS]
    refine' wpAnyL_take2 (i := 3) [4, 9, 10, 11] (oi := ⟨some 16, _, _, _, _, _⟩) (v := _) rfl (by kernel_rfl) (by kernel_rfl) (by kernel_rfl) (by kernel_rfl) (fun _ _ _ h => h) hH0 (by rfl) ?hyv ?o24
    case hyv =>
     intro wz hSw
     go_simp
     try rfl
    try simp only [Act.put, sT, sZ, sS]
    refine' wpAnyL_take2 (i := 4) [9, 10, 11] (oi := ⟨some 17, _, _, _, _, _⟩) (v := _) rfl (by kernel_rfl) (by kernel_rfl) (by kernel_rfl) (by kernel_rfl) (fun _ _ _ h => h) hH0 (by rfl) ?hyv ?o25
    case hyv =>
     intro wz hSw
     have zc0 := (hSw.cell (p := ⟨rb, 0, none⟩) yr2).trans c02
     have zc1 := (hSw.cell (p := ⟨rb, 42, none⟩) yr2).trans c422
     go_simp
     try rfl
    try simp only [Act.put, sT, sZ, sS]
    refine' wpAnyL_take2 (i := 5) [6, 7, 8, 9, 10, 11] (oi := ⟨some 18, _, _, _, _, _⟩) (v := _) rfl (by kernel_rfl) (by kernel_rfl) (by kernel_rfl) (by kernel_rfl) (fun _ _ _ h => h) hH0 (by rfl) ?hyv ?o26
    case hyv =>
     intro wz hSw
     go_simp
     try rfl
    try simp only [Act.put, sT, sZ, sS]
    refine' wpAnyL_take2 (i := 6) [7, 8, 9, 10, 11] (oi := ⟨some 19, _, _, _, _, _⟩) (v := _) rfl (by kernel_rfl) (by kernel_rfl) (by kernel_rfl) (by kernel_rfl) (fun _ _ _ h => h) hH0 (by rfl) ?hyv ?o27
    case hyv =>
     intro wz hSw
     go_simp
     try rfl
    try simp only [Act.put, sT, sZ, sS]
    refine' wpAnyL_take2 (i := 7) [8, 9, 10, 11] (oi := ⟨some 20, _, _, _, _, _⟩) (v := _) rfl (by kernel_rfl) (by kernel_rfl) (by kernel_rfl) (by kernel_rfl) (fun _ _ _ h => h) hH0 (by rfl) ?hyv ?o28
    case hyv =>
     intro wz hSw
     go_simp
     try rfl
    try simp only [Act.put, sT, sZ, sS]
    refine' wpAnyL_take2 (i := 8) [9, 10, 11] (oi := ⟨some 21, _, _, _, _, _⟩) (v := _) rfl (by kernel_rfl) (by kernel_rfl) (by kernel_rfl) (by kernel_rfl) (fun _ _ _ h => h) hH0 (by rfl) ?hyv ?o29
    case hyv =>
     intro wz hSw
     have zc0 := (hSw.cell (p := ⟨rb, 0, none⟩) yr2).trans c02
     have zc1 := (hSw.cell (p := ⟨rb, 42, none⟩) yr2).trans c422
     go_simp
     try rfl
    try simp only [Act.put, sT, sZ, sS]
    refine' wpAnyL_take2 (i := 9) [10, 11] (oi := ⟨some 22, _, _, _, _, _⟩) (v := _) rfl (by kernel_rfl) (by kernel_rfl) (by kernel_rfl) (by kernel_rfl) (fun _ _ _ h => h) hH0 (by rfl) ?hyv ?o30
    case hyv =>
     intro wz hSw
     go_simp
     try rfl
    try simp only [Act.put, sT, sZ, sS]
    refine wpAnyL_one (i := 10) (o := _) rfl (by kernel_rfl) (by rfl) (fun K hK => ?_)
    go_simp
    refine (HDO.out wd0 hH0).mono ?_
    intro eq wd1 hpost
    obtain ⟨hee, hpp⟩ := hpost
    subst hee
    have HP := hide hpp
    clear hpp HDO
    refine hK.out _ _ (fun h => absurd h (by decide)) ?_
    clear hK K
    try simp only [Act.put, sT, sZ, sS]
    have hH1 := HP
    refine wpAnyL_one (i := 11) (o := _) rfl (by kernel_rfl) (by rfl) (fun K hK => ?_)
    go_simp
    refine hK.out _ _ (fun h => absurd h (by decide)) ?_
    clear hK K
    try simp only [Act.put, sT, sZ, sS]
    have hH2 := hH1
    rename World => wd2
    refine wpAnyL_done (by kernel_rfl) ?_ _
    go_wp2
    go_ret
    have hq := HP.out
    have hnl : ¬ res.p < 0 := by rw [hq.1]; omega
    exact ⟨(by rw [decide_eq_false hnl]; rfl), X, _, _, _, _, hq.2, fun h => absurd h hnl, fun _ => hq.1.symm⟩
   ·have HDO := hide hst
    clear hst HS2
    go_upto_region 2 with fail
    refine wp_region_late (fun w' => Below w2.heap.size w2 w') (fun i => i == 10 || i == 11) (by kernel_rfl) ?_
    have hH0 : Below w2.heap.size w2 w2.drew := (Below.refl _ _).drew
    generalize w2.drew = wd0 at hH0 ⊢
    refine' wpAnyL_take2 (i := 0) [10, 11] (oi := ⟨some 13, _, _, _, _, _⟩) (v := _) rfl (by kernel_rfl) (by kernel_rfl) (by kernel_rfl) (by kernel_rfl) (fun _ _ _ h => h) hH0 (by rfl) ?hyv ?o31
    case hyv =>
     intro wz hSw
     go_simp
     try rfl
    try simp only [Act.put, sT, sZ, sS]
    refine' wpAnyL_take2 (i := 1) [2, 3, 4, 9, 10, 11] (oi := ⟨some 14, _, _, _, _, _⟩) (v := _) rfl (by kernel_rfl) (by kernel_rfl) (by kernel_rfl) (by kernel_rfl) (fun _ _ _ h => h) hH0 (by rfl) ?hyv ?o32
    case hyv =>
     intro wz hSw
     go_simp
     try rfl
    try simp only [Act.put, sT, sZ, sS]
    refine' wpAnyL_take2 (i := 2) [3, 4, 9, 10, 11] (oi := ⟨some 15, _, _, _, _, _⟩) (v := _) rfl (by kernel_rfl) (by kernel_rfl) (by kernel_rfl) (by kernel_rfl) (fun _ _ _ h => h) hH0 (by rfl) ?hyv ?o33
    case hyv =>
     intro wz hSw
     go_simp
     try rfl
    try simp only [Act.put, sT, sZ, sS]
    refine' wpAnyL_take2 (i := 3) [4, 9, 10, 11] (oi := ⟨some 16, _, _, _, _, _⟩) (v := _) rfl (by kernel_rfl) (by kernel_rfl) (by kernel_rfl) (by kernel_rfl) (fun _ _ _ h => h) hH0 (by rfl) ?hyv ?o34
    case hyv =>
     intro wz hSw
     go_simp
     try rfl
    try simp only [Act.put, sT, sZ, sS]
    refine' wpAnyL_take2 (i := 4) [9, 10, 11] (oi := ⟨some 17, _, _, _, _, _⟩) (v := _) rfl (by kernel_rfl) (by kernel_rfl) (by kernel_rfl) (by kernel_rfl) (fun _ _ _ h => h) hH0 (by rfl) ?hyv ?o35
    case hyv =>
     intro wz hSw
     have zc0 := (hSw.cell (p := ⟨rb, 0, none⟩) yr2).trans c02
     have zc1 := (hSw.cell (p := ⟨rb, 42, none⟩) yr2).trans c422
     go_simp
     try rfl
    try simp only [Act.put, sT, sZ, sS]
    refine' wpAnyL_take2 (i := 5) [6, 7, 8, 9, 10, 11] (oi := ⟨some 18, _, _, _, _, _⟩) (v := _) rfl (by kernel_rfl) (by kernel_rfl) (by kernel_rfl) (by kernel_rfl) (fun _ _ _ h => h) hH0 (by rfl) ?hyv ?o36
    case hyv =>
     intro wz hSw
     go_simp
     try rfl
    try simp only [Act.put, sT, sZ, sS]
    refine' wpAnyL_take2 (i := 6) [7, 8, 9, 10, 11] (oi := ⟨some 19, _, _, _, _, _⟩) (v := _) rfl (by kernel_rfl) (by kernel_rfl) (by kernel_rfl) (by kernel_rfl) (fun _ _ _ h => h) hH0 (by rfl) ?hyv ?o37
    case hyv =>
     intro wz hSw
     go_simp
     try rfl
    try simp only [Act.put, sT, sZ, sS]
    refine' wpAnyL_take2 (i := 7) [8, 9, 10, 11] (oi := ⟨some 20, _, _, _, _, _⟩) (v := _) rfl (by kernel_rfl) (by kernel_rfl) (by kernel_rfl) (by kernel_rfl) (fun _ _ _ h => h) hH0 (by rfl) ?hyv ?o38
    case hyv =>
     intro wz hSw
     go_simp
     try rfl
    try simp only [Act.put, sT, sZ, sS]
    refine' wpAnyL_take2 (i := 8) [9, 10, 11] (oi := ⟨some 21, _, _, _, _, _⟩) (v := _) rfl (by kernel_rfl) (by kernel_rfl) (by kernel_rfl) (by kernel_rfl) (fun _ _ _ h => h) hH0 (by rfl) ?hyv ?o39
    case hyv =>
     intro wz hSw
     have zc0 := (hSw.cell (p := ⟨rb, 0, none⟩) yr2).trans c02
     have zc1 := (hSw.cell (p := ⟨rb, 42, none⟩) yr2).trans c422
     go_simp
     try rfl
    try simp only [Act.put, sT, sZ, sS]
    refine' wpAnyL_take2 (i := 9) [10, 11] (oi := ⟨some 22, _, _, _, _, _⟩) (v := _) rfl (by kernel_rfl) (by kernel_rfl) (by kernel_rfl) (by kernel_rfl) (fun _ _ _ h => h) hH0 (by rfl) ?hyv ?o40
    case hyv =>
     intro wz hSw
     go_simp
     try rfl
    try simp only [Act.put, sT, sZ, sS]
    refine wpAnyL_one (i := 10) (o := _) rfl (by kernel_rfl) (by rfl) (fun K hK => ?_)
    go_simp
    refine (HDO.out wd0 hH0).mono ?_
    intro eq wd1 hpost
    obtain ⟨hee, hpp⟩ := hpost
    subst hee
    have HP := hide hpp
    clear hpp HDO
    refine hK.out _ _ (fun h => absurd h (by decide)) ?_
    clear hK K
    try simp only [Act.put, sT, sZ, sS]
    have hH1 := HP
    refine wpAnyL_one (i := 11) (o := _) rfl (by kernel_rfl) (by rfl) (fun K hK => ?_)
    go_simp
    refine hK.out _ _ (fun h => absurd h (by decide)) ?_
    clear hK K
    try simp only [Act.put, sT, sZ, sS]
    have hH2 := hH1
    rename World => wd2
    refine wpAnyL_done (by kernel_rfl) ?_ _
    obtain ⟨k', X', s', pc', lp', tu', hk, hpc, hI', hS'⟩ := HP.out
    have hpl : pc' < ln := hpc
    have HK := hide hk
    have HI2 := hide hI'
    have hr2 := hS'.r
    have c43 := hr2.c43
    have f43 := hr2.free 43
    have hS3 := hS'.next n1 (wrap64 (dn + 1))
    have hr3 := hS3.r
    have c42 := hr3.c42
    have f42 := hr3.free 42
    have hS4 := hS3.step n1 ((pc' + 1 : Nat) : Int)
    have u1 : IntKind.i64.wrap ((pc' : Int) + 1) = ((pc' + 1 : Nat) : Int) := (i64_in _ (by omega)).trans (by omega)
    have u2 : wrap64 ((pc' : Int) + 1) = ((pc' + 1 : Nat) : Int) := (Em.small64 (by omega)).trans (by omega)
    have HS4 := hide hS4
    clear hk hI' hS' hr2 hS3 hr3 hS4 HP hpc
    go_wp2_with fail
    go_roundg k'
    case measure => exact HK.out
    case rel => exact ⟨pc' + 1, X', s', _, lp', tu', HI2, HS4⟩
end Go.Proofs.YtkgbmgpdehmiiaaDoor
