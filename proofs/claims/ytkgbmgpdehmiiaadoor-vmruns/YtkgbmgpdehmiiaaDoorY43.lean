import Derived.Test.YtkgbmgpdehmiiaaDoorY42
import Derived.Test.YtkgbmgpdehmiiaaDoorY40
import Derived.Test.YtkgbmgpdehmiiaaDoorY38
import Derived.WalkKit
import Derived.WalkSpells
import Derived.IntWalk
import Derived.Deep.Cut
import Derived.Deep.LoopGhost
import Derived.Laws.Cover1
import Derived.Lib.Hide
set_option linter.unusedVariables false
set_option linter.unusedSimpArgs false
set_option maxHeartbeats 64000000
set_option maxRecDepth 100000
namespace Go.Proofs.YtkgbmgpdehmiiaaDoor
open Go.RowKit Go.IntWalk
set_option linter.unusedVariables false
set_option linter.unusedSimpArgs false
theorem LX.below {w w' : World} {g : Nat} {l : List Int} (h : LX w g l) (b : Below w.heap.size w w') : LX w' g l := h.under b
/-- what a row answers -/
structure RowP (ok : Nat → Prop) (w : World) (vb : Nat) (P G : List Int) (C : List Cd.In) (f : Int → Bool) (nc : Nat) (M : List Int) (st : Int) (X : List Int) (e : Ending) (w' : World) : Prop where
 bad : (vfault f P X).1 ≠ 0 → e = .returned (.tuple #[.slice none 0 0, .agg #[.int .i64 (vfault f P X).1, .int .i64 (vfault f P X).2]]) ∧ Below w.heap.size w w'
 far : (vfault f P X).1 = 0 → ¬ (Em.allF C 0 ⟨fun _ => 0, Lo.putL M P X⟩ 0).p < 0 → e = .returned (.tuple #[.slice none 0 0, .agg #[.int .i64 16, .int .i64 (Em.allF C 0 ⟨fun _ => 0, Lo.putL M P X⟩ 0).p]]) ∧ Below w.heap.size w w'
 good : (vfault f P X).1 = 0 → (Em.allF C 0 ⟨fun _ => 0, Lo.putL M P X⟩ 0).p < 0 → ∃ v, e = .returned (.tuple #[v, .agg #[.int .i64 0, .int .i64 0]]) ∧ OwnL kLong w.heap.size w' v (G.map fun g => Lo.rd (Em.allF C 0 ⟨fun _ => 0, Lo.putL M P X⟩ 0).s.M g) ∧ VAt ok w' vb P G C f nc (Em.allF C 0 ⟨fun _ => 0, Lo.putL M P X⟩ 0).s.M (wrap64 (st + (Em.allF C 0 ⟨fun _ => 0, Lo.putL M P X⟩ 0).st)) ∧ Lo.Wd (Em.allF C 0 ⟨fun _ => 0, Lo.putL M P X⟩ 0).s.M ∧ Aside [vb] w.heap.size w w'
theorem vfault_len {f : Int → Bool} {P X : List Int} (h : (vfault f P X).1 = 0) : X.length = P.length := by
 unfold vfault at h
 split at h
 ·assumption
 ·exact absurd h (by decide)
theorem run_begun (aL : Option Addr) (ln cL gb nc gc : Nat) : rcs (.slice aL ln cL) (.slice (some ⟨gb, 0, none⟩) nc gc) (List.replicate 40 0) 0 0 0 0 = (#[.slice aL ln cL, .slice (some ⟨gb, 0, none⟩) nc gc, .int .i64 0, .int .i64 0, .int .i64 0, .int .i64 0, .int .i64 0, .int .i64 0, .int .i64 0, .int .i64 0, .int .i64 0, .int .i64 0, .int .i64 0, .int .i64 0, .int .i64 0, .int .i64 0, .int .i64 0, .int .i64 0, .int .i64 0, .int .i64 0, .int .i64 0, .int .i64 0, .int .i64 0, .int .i64 0, .int .i64 0, .int .i64 0, .int .i64 0, .int .i64 0, .int .i64 0, .int .i64 0, .int .i64 0, .int .i64 0, .int .i64 0, .int .i64 0, .int .i64 0, .int .i64 0, .int .i64 0, .int .i64 0, .int .i64 0, .int .i64 0, .int .i64 0, .int .i64 0, .int .i64 0, .int .i64 0, .int .i64 0, .int .i64 0] : Array Value).toList := rfl
theorem rr_one (aL : Option Addr) (ln cL gb nc gc : Nat) : (#[.slice aL ln cL, .slice (some ⟨gb, 0, none⟩) nc gc, .int .i64 0, .int .i64 0, .int .i64 0, .int .i64 0, .int .i64 0, .int .i64 0, .int .i64 0, .int .i64 0, .int .i64 0, .int .i64 0, .int .i64 0, .int .i64 0, .int .i64 0, .int .i64 0, .int .i64 0, .int .i64 0, .int .i64 0, .int .i64 0, .int .i64 0, .int .i64 0, .int .i64 0, .int .i64 0, .int .i64 0, .int .i64 0, .int .i64 0, .int .i64 0, .int .i64 0, .int .i64 0, .int .i64 0, .int .i64 0, .int .i64 0, .int .i64 0, .int .i64 0, .int .i64 0, .int .i64 0, .int .i64 0, .int .i64 0, .int .i64 0, .int .i64 0, .int .i64 0, .int .i64 0, .int .i64 0, .int .i64 0, .int .i64 0] : Array Value).all (·.oneCell') = true := by simp [Value.oneCell']
theorem setRow_below {B g : Nat} {w0 w : World} (hb : Below B w0 w) (hBg : B ≤ g) (cs : Array Value) : Below B w0 (w.setRow g cs) := hb.trans ⟨rfl, rfl, rfl, by simp [World.setRow], fun k hk => setRow_other w g k cs (by omega)⟩
theorem below_aside {S : List Nat} {w w1 w2 : World} (b : Below w.heap.size w w1) (a : Aside S w1.heap.size w1 w2) (h : ∀ i ∈ S, w.heap.size ≤ i) : Below w.heap.size w w2 := aside_low b a (Nat.le_refl _) h
set_option maxHeartbeats 64000000 in
theorem row13_any {okV okI : Nat → Prop} {w : World} {vb nc nr : Nat} {P G M X : List Int} {C : List Cd.In} {f : Int → Bool} {st : Int} {aI : Option Addr} {cI : Nat} (hV : VAt okV w vb P G C f nc M st) (hok : ∀ i, okV i → i ≠ vb) (hnew : ∀ i, w.heap.size ≤ i → okV i) (hI : HInts okI w (.slice aI X.length cI) X) (hnc : 1 ≤ nc ∧ nc ≤ 6000) (hnr : nr ≤ 40) (hRs : ∀ x ∈ C, InOk nc nr x) (hgo : Cd.go 10 11 none C ≠ none) (hWM : Lo.Wd M) (hWX : Lo.Wd X) (hPx : ∀ p ∈ P, 0 ≤ p ∧ p < (nc : Int)) (hGx : ∀ p ∈ G, 0 ≤ p ∧ p < (nc : Int)) (hPl : P.length ≤ 6000) (hGl : G.length ≤ 120000) (hCl : C.length ≤ 200000) :
  Calls Tryd.prog 13 #[.pointer (some ⟨vb, 0, none⟩), .slice aI X.length cI] w (RowP okV w vb P G C f nc M st X) := by
 obtain ⟨aP, cP, aG, cG, tb, tc, aL, cL, cb, cc, kV, oP, oG, kT, ktb, oL, kC, kcb, hcc1, hcc2⟩ := hV.x
 have hMl := hV.l
 have yV := kV.lt
 have yT := kT.lt
 have yC := kC.lt
 have ntb := hok _ ktb
 have ncb := hok _ kcb
 have oP1 := oP.wide (ok' := fun i => i < w.heap.size ∧ i ≠ vb) (fun i h hl => ⟨hl, hok i h⟩)
 have oG1 := oG.wide (ok' := fun i => i < w.heap.size ∧ i ≠ vb) (fun i h hl => ⟨hl, hok i h⟩)
 have oL1 : HIns (fun i => i < w.heap.size ∧ i ≠ vb) w (.slice aL C.length cL) C := HRow.wide oL (fun i h hl => ⟨hl, hok i h⟩)
 have oI1 := hI.wide (ok' := fun i => i < w.heap.size) (fun i _ hl => hl)
 have b1 : Below w.heap.size w (w.alloc (.cells #[.int .i64 0, .int .i64 0] 34 (0, 0))) := (Below.refl _ _).alloc (Nat.le_refl _) _
 have kF := heap_new w (.cells #[.int .i64 0, .int .i64 0] 34 (0, 0))
 obtain ⟨f1, hf1⟩ : ∃ x, x = (vfault f P X).1 := ⟨_, rfl⟩
 obtain ⟨f2, hf2⟩ : ∃ x, x = (vfault f P X).2 := ⟨_, rfl⟩
 obtain ⟨res, hres⟩ : ∃ x, x = Em.allF C 0 ⟨fun _ => 0, Lo.putL M P X⟩ 0 := ⟨_, rfl⟩
 have HOK := hide (And.intro oP1 (And.intro oG1 (And.intro oL1 oI1)))
 have HOV := hide (And.intro oP (And.intro oG (And.intro oL (And.intro ktb hnew))))
 have HOVN := hide hok
 have HW := hide (And.intro hRs (And.intro hgo (And.intro hWM (And.intro hWX (And.intro hPx (And.intro hGx hMl))))))
 have HKC := hide (And.intro kC kT)
 have HCA := hide (fun W (b : Below w.heap.size w W) => faultOf26_any (v0 := .bool true) (v2 := .bool true) (kV.keep (b.block _ yV)) (kT.keep (b.block _ yT)) ((oP1.wide (ok' := fun i => i < w.heap.size) (fun i h _ => h.1)).keep b.size (fun i hi hl => b.block i hl)) (oI1.keep b.size (fun i hi hl => b.block i hl)) hPx hPl)
 obtain ⟨np, hnp⟩ : ∃ x, x = P.length := ⟨_, rfl⟩
 obtain ⟨nx, hnx⟩ : ∃ x, x = X.length := ⟨_, rfl⟩
 obtain ⟨ng, hng⟩ : ∃ x, x = G.length := ⟨_, rfl⟩
 obtain ⟨ln, hln⟩ : ∃ x, x = C.length := ⟨_, rfl⟩
 have hkV : w.heap[vb]? = some (.cells #[.slice aP P.length cP, .slice aG G.length cG, .slice (some ⟨tb, 0, none⟩) nc tc, .slice aL C.length cL, .slice (some ⟨cb, 0, none⟩) nc cc, .int .i64 st] 57 (0, 0)) := kV
 rw [← hnp, ← hng, ← hln] at hkV
 rw [← hf1, ← hf2, ← hnx] at HCA
 rw [← hnx]
 have HNP := hide hnp
 have HNX := hide hnx
 have HNG := hide hng
 have HLN := hide hln
 have HF1 := hide hf1
 have HF2 := hide hf2
 have HRES := hide hres
 clear hV kV oP oG kT ktb oL kC kcb hok hnew hI hRs hgo hWM hWX hPx hGx oP1 oG1 oL1 oI1 hnp hnx hng hln hf1 hf2 hres hMl
 have kv1 := (b1.block _ yV).trans hkV
 go_enter Tryd.func13, Tryd.ntmps13
 go_upto_region 1 with fail
 have HC1 := hide (HCA.out _ b1)
 clear HCA
 generalize w.alloc (.cells #[.int .i64 0, .int .i64 0] 34 (0, 0)) = w1 at b1 kF kv1 HC1 ⊢
 have kv : w1.heap[vb]? = some (.cells #[.slice aP np cP, .slice aG ng cG, .slice (some ⟨tb, 0, none⟩) nc tc, .slice aL ln cL, .slice (some ⟨cb, 0, none⟩) nc cc, .int .i64 st] 57 (0, 0)) := kv1
 have g0 := cell_of kv 0
 have fg0 := free_of kv 0
 have g1 := cell_of kv 1
 have fg1 := free_of kv 1
 have g2 := cell_of kv 2
 have fg2 := free_of kv 2
 have g3 := cell_of kv 3
 have fg3 := free_of kv 3
 have g4 := cell_of kv 4
 have fg4 := free_of kv 4
 have g5 := cell_of kv 5
 have fg5 := free_of kv 5
 simp at g0 g1 g2 g3 g4 g5
 have yv := lt_of kv
 go_wp2_with fail
 refine HC1.out.mono ?_
 rintro e w2 ⟨rfl, b2⟩
 have B2 := b1.trans (b2.mono b1.size)
 have kF2 := (b2.block _ (lt_of kF)).trans kF
 clear g0 fg0 g1 fg1 g2 fg2 g3 fg3 g4 fg4 g5 fg5 kv yv HC1 kv1 kF b1 b2
 have b3 : Below w2.heap.size w2 (w2.alloc (.cells #[.int .i64 f1, .int .i64 f2] 34 (0, 0))) := (Below.refl _ _).alloc (Nat.le_refl _) _
 have k4 := heap_new w2 (.cells #[.int .i64 f1, .int .i64 f2] 34 (0, 0))
 go_upto_region 2 with fail
 generalize w2.alloc (.cells #[.int .i64 f1, .int .i64 f2] 34 (0, 0)) = w3 at b3 k4 ⊢
 have B3 := B2.trans (b3.mono B2.size)
 have kF3 := (b3.block _ (lt_of kF2)).trans kF2
 have zw3 : w.heap.size < w2.heap.size := lt_of kF2
 have zw4 : w2.heap.size < w3.heap.size := lt_of k4
 clear kF2 b3 B2
 have h0 := cell_of k4 0
 have h1 := cell_of k4 1
 simp at h0 h1
 have y4 := lt_of k4
 have yF := lt_of kF3
 have kv3 := (B3.block _ yV).trans hkV
 have kv : w3.heap[vb]? = some (.cells #[.slice aP np cP, .slice aG ng cG, .slice (some ⟨tb, 0, none⟩) nc tc, .slice aL ln cL, .slice (some ⟨cb, 0, none⟩) nc cc, .int .i64 st] 57 (0, 0)) := kv3
 have g0 := cell_of kv 0
 have fg0 := free_of kv 0
 have g1 := cell_of kv 1
 have fg1 := free_of kv 1
 have g2 := cell_of kv 2
 have fg2 := free_of kv 2
 have g3 := cell_of kv 3
 have fg3 := free_of kv 3
 have g4 := cell_of kv 4
 have fg4 := free_of kv 4
 have g5 := cell_of kv 5
 have fg5 := free_of kv 5
 simp at g0 g1 g2 g3 g4 g5
 have yv := lt_of kv
 by_cases hz : f1 = 0
 case neg =>
  have hzb : (f1 != 0) = true := by simpa using hz
  clear g0 fg0 g1 fg1 g2 fg2 g3 fg3 g4 fg4 g5 fg5
  go_upto_region 3 with fail
  refine wp_region_late (fun w' => Aside [w.heap.size] w3.heap.size w3 w') (fun _ => false) (by kernel_rfl) ?_
  have hH0 : Aside [w.heap.size] w3.heap.size w3 w3.drew := (Aside.refl _).drew
  have KF0 : w3.drew.heap[w.heap.size]? = some (.cells #[.int .i64 0, .int .i64 0] 34 (0, 0)) := kF3
  generalize w3.drew = wd0 at hH0 KF0 ⊢
  refine' wpAnyL_take (i := 0) (oi := ⟨some 14, _, _, _, _, _⟩) (v := _) rfl (by kernel_rfl) (by kernel_rfl) (by kernel_rfl) (by kernel_rfl) (fun _ _ _ h => h) hH0 (by rfl) ?hyv ?o1
  case hyv =>
   intro wz hSw
   have zc0 := (aside_cell hSw (p := ⟨w2.heap.size, 0, none⟩) y4 (by simp; omega)).trans h0
   have zc1 := (aside_cell hSw (p := ⟨w2.heap.size, 1, none⟩) y4 (by simp; omega)).trans h1
   go_simp
   try rfl
  try simp only [Act.put, sT, sZ, sS]
  refine' wpAnyL_take (i := 1) (oi := ⟨some 4, _, _, _, _, _⟩) (v := _) rfl (by kernel_rfl) (by kernel_rfl) (by kernel_rfl) (by kernel_rfl) (fun _ _ _ h => h) hH0 (by rfl) ?hyv ?o2
  case hyv =>
   intro wz hSw
   go_simp
   try rfl
  try simp only [Act.put, sT, sZ, sS]
  refine wpAnyL_one (i := 2) (o := _) rfl (by kernel_rfl) (by rfl) (fun K hK => ?_)
  have kX := KF0
  have st0 := cell_of kX 0
  have st1 := cell_of kX 1
  have fst0 := free_of kX 0
  have fst1 := free_of kX 1
  simp at st0 st1
  have KF := two_set kX (.int .i64 f1) (.int .i64 f2)
  have a0 : Aside [w.heap.size] wd0.heap.size wd0 ((wd0.setCell ⟨w.heap.size, 0, none⟩ (.int .i64 f1)).setCell ⟨w.heap.size, 1, none⟩ (.int .i64 f2)) := aside_two (by simp) (.int .i64 f1) (.int .i64 f2)
  have hH1 : Aside [w.heap.size] w3.heap.size w3 ((wd0.setCell ⟨w.heap.size, 0, none⟩ (.int .i64 f1)).setCell ⟨w.heap.size, 1, none⟩ (.int .i64 f2)) := hH0.trans a0 hH0.size
  go_simp
  refine hK.out _ _ (fun _ => hH1) ?_
  clear hK K a0 kX st0 st1 fst0 fst1
  try simp only [Act.put, sT, sZ, sS]
  generalize ((wd0.setCell ⟨w.heap.size, 0, none⟩ (.int .i64 f1)).setCell ⟨w.heap.size, 1, none⟩ (.int .i64 f2)) = wd1 at hH1 KF ⊢
  refine wpAnyL_done (by kernel_rfl) ?_ _
  have q0 := cell_of KF 0
  have q1 := cell_of KF 1
  simp at q0 q1
  have BX := below_aside B3 hH1 (by simp)
  go_wp2
  exact bodyPost_ret (v := .tuple #[.slice none 0 0, .agg #[.int .i64 f1, .int .i64 f2]]) (by simp [results, Tryd.results13, go_sem, q0, q1]) rfl ⟨fun _ => ⟨by rw [← HF1.out, ← HF2.out], BX⟩, fun h => absurd (HF1.out.trans h) hz, fun h => absurd (HF1.out.trans h) hz⟩
 case pos =>
  subst hz
  have hxl := vfault_len HF1.out.symm
  have hnxp : np = nx := by have := HNX.out; have := HNP.out; omega
  subst hnxp
  have hMne : M ≠ [] := fun h => by have h1 := HW.out.2.2.2.2.2.2; rw [h] at h1; simp at h1; omega
  have HCL := hide (fun W (b : Below w.heap.size w W) => cloneLong_any (HKC.out.1.under b) (by rw [HW.out.2.2.2.2.2.2]; exact hcc1) hcc2 hMne (by rw [HW.out.2.2.2.2.2.2]; omega))
  rw [HW.out.2.2.2.2.2.2] at HCL
  have HXL := hide hxl
  clear hxl hMne
  go_upto_region 4 with fail
  clear h0 h1 k4 y4
  go_cut [7] (fun v wd => ∃ (rb gb gc : Nat), v = .pointer (some ⟨rb, 0, none⟩) ∧ Hid (RB wd rb (.slice aL ln cL) (.slice (some ⟨gb, 0, none⟩) nc gc) (List.replicate 40 0) 0 0 0 0 ∧ LX wd gb M ∧ w3.heap.size ≤ rb ∧ w3.heap.size ≤ gb ∧ rb ≠ gb ∧ nc ≤ gc ∧ gc ≤ maxLen) ∧ Below w3.heap.size w3 wd)
  case first =>
   refine wp_region_late (fun w' => Below w3.heap.size w3 w') (fun i => i == 11) (by kernel_rfl) ?_
   have hH0 : Below w3.heap.size w3 w3.drew := (Below.refl _ _).drew
   generalize w3.drew = wd0 at hH0 ⊢
   refine' wpAnyL_take (i := 0) (oi := ⟨some 15, _, _, _, _, _⟩) (v := _) rfl (by kernel_rfl) (by kernel_rfl) (by kernel_rfl) (by kernel_rfl) (fun _ _ _ h => h) hH0 (by rfl) ?hyv ?o3
   case hyv =>
    intro wz hSw
    go_simp
    try rfl
   try simp only [Act.put, sT, sZ, sS]
   refine' wpAnyL_take (i := 1) (oi := ⟨some 16, _, _, _, _, _⟩) (v := _) rfl (by kernel_rfl) (by kernel_rfl) (by kernel_rfl) (by kernel_rfl) (fun _ _ _ h => h) hH0 (by rfl) ?hyv ?o4
   case hyv =>
    intro wz hSw
    go_simp
    try rfl
   try simp only [Act.put, sT, sZ, sS]
   refine' wpAnyL_take (i := 2) (oi := ⟨some 17, _, _, _, _, _⟩) (v := _) rfl (by kernel_rfl) (by kernel_rfl) (by kernel_rfl) (by kernel_rfl) (fun _ _ _ h => h) hH0 (by rfl) ?hyv ?o5
   case hyv =>
    intro wz hSw
    go_simp
    try rfl
   try simp only [Act.put, sT, sZ, sS]
   refine' wpAnyL_take (i := 3) (oi := ⟨some 18, _, _, _, _, _⟩) (v := _) rfl (by kernel_rfl) (by kernel_rfl) (by kernel_rfl) (by kernel_rfl) (fun _ _ _ h => h) hH0 (by rfl) ?hyv ?o6
   case hyv =>
    intro wz hSw
    have zc0 := (hSw.cell (p := ⟨vb, 3, none⟩) yv).trans g3
    have zc1 := (hSw.cell (p := ⟨vb, 4, none⟩) yv).trans g4
    go_simp
    try rfl
   try simp only [Act.put, sT, sZ, sS]
   refine' wpAnyL_take (i := 4) (oi := ⟨some 19, _, _, _, _, _⟩) (v := _) rfl (by kernel_rfl) (by kernel_rfl) (by kernel_rfl) (by kernel_rfl) (fun _ _ _ h => h) hH0 (by rfl) ?hyv ?o7
   case hyv =>
    intro wz hSw
    go_simp
    try rfl
   try simp only [Act.put, sT, sZ, sS]
   refine' wpAnyL_take (i := 5) (oi := ⟨some 20, _, _, _, _, _⟩) (v := _) rfl (by kernel_rfl) (by kernel_rfl) (by kernel_rfl) (by kernel_rfl) (fun _ _ _ h => h) hH0 (by rfl) ?hyv ?o8
   case hyv =>
    intro wz hSw
    go_simp
    try rfl
   try simp only [Act.put, sT, sZ, sS]
   refine' wpAnyL_take (i := 6) (oi := ⟨some 21, _, _, _, _, _⟩) (v := _) rfl (by kernel_rfl) (by kernel_rfl) (by kernel_rfl) (by kernel_rfl) (fun _ _ _ h => h) hH0 (by rfl) ?hyv ?o9
   case hyv =>
    intro wz hSw
    go_simp
    try rfl
   try simp only [Act.put, sT, sZ, sS]
   refine' wpAnyL_take (i := 7) (oi := ⟨some 22, _, _, _, _, _⟩) (v := _) rfl (by kernel_rfl) (by kernel_rfl) (by kernel_rfl) (by kernel_rfl) (fun _ _ _ h => h) hH0 (by rfl) ?hyv ?o10
   case hyv =>
    intro wz hSw
    have zc0 := (hSw.cell (p := ⟨vb, 3, none⟩) yv).trans g3
    have zc1 := (hSw.cell (p := ⟨vb, 4, none⟩) yv).trans g4
    go_simp
    try rfl
   try simp only [Act.put, sT, sZ, sS]
   refine wpAnyL_two (i := 8) (j := 10) rfl rfl (by kernel_rfl) (by rfl) (by rfl) (fun K hK => ?_) (fun K hK => ?_)
   case _ =>
    go_simp
    refine (HCL.out wd0 (B3.trans (hH0.mono B3.size))).mono ?_
    rintro eq wd1 ⟨gb, gc, rfl, zg, zc, zd, pL, bq1⟩
    have hH1 : Below w3.heap.size w3 wd1 := hH0.trans (bq1.mono hH0.size)
    have zs1 := bq1.size
    have zl := pL.lt
    have zu1 := hH0.size
    refine hK.out _ _ (fun _ => hH1) ?_
    clear hK K
    try simp only [Act.put, sT, sZ, sS]
    refine' wpAnyL_take (i := 9) (oi := ⟨some 24, _, _, _, _, _⟩) (v := _) rfl (by kernel_rfl) (by kernel_rfl) (by kernel_rfl) (by kernel_rfl) (fun _ _ _ h => h) hH1 (by rfl) ?hyv ?o11
    case hyv =>
     intro wz hSw
     go_simp
     try rfl
    try simp only [Act.put, sT, sZ, sS]
    refine wpAnyL_one (i := 10) (o := _) rfl (by kernel_rfl) (by rfl) (fun K hK => ?_)
    go_simp
    have hH2 : Below w3.heap.size w3 (wd1.alloc (.cells #[.slice none 0 0, .slice none 0 0, .int .i64 0, .int .i64 0, .int .i64 0, .int .i64 0, .int .i64 0, .int .i64 0, .int .i64 0, .int .i64 0, .int .i64 0, .int .i64 0, .int .i64 0, .int .i64 0, .int .i64 0, .int .i64 0, .int .i64 0, .int .i64 0, .int .i64 0, .int .i64 0, .int .i64 0, .int .i64 0, .int .i64 0, .int .i64 0, .int .i64 0, .int .i64 0, .int .i64 0, .int .i64 0, .int .i64 0, .int .i64 0, .int .i64 0, .int .i64 0, .int .i64 0, .int .i64 0, .int .i64 0, .int .i64 0, .int .i64 0, .int .i64 0, .int .i64 0, .int .i64 0, .int .i64 0, .int .i64 0, .int .i64 0, .int .i64 0, .int .i64 0, .int .i64 0] 66 (0, 0))) := hH1.alloc hH1.size _
    have kn2 := heap_new wd1 (.cells #[.slice none 0 0, .slice none 0 0, .int .i64 0, .int .i64 0, .int .i64 0, .int .i64 0, .int .i64 0, .int .i64 0, .int .i64 0, .int .i64 0, .int .i64 0, .int .i64 0, .int .i64 0, .int .i64 0, .int .i64 0, .int .i64 0, .int .i64 0, .int .i64 0, .int .i64 0, .int .i64 0, .int .i64 0, .int .i64 0, .int .i64 0, .int .i64 0, .int .i64 0, .int .i64 0, .int .i64 0, .int .i64 0, .int .i64 0, .int .i64 0, .int .i64 0, .int .i64 0, .int .i64 0, .int .i64 0, .int .i64 0, .int .i64 0, .int .i64 0, .int .i64 0, .int .i64 0, .int .i64 0, .int .i64 0, .int .i64 0, .int .i64 0, .int .i64 0, .int .i64 0, .int .i64 0] 66 (0, 0))
    have zn2 := hH1.size
    refine hK.out _ _ (fun _ => hH2) ?_
    clear hK K
    try simp only [Act.put, sT, sZ, sS]
    have pL_2 := pL.below ((Below.refl _ wd1).alloc (Nat.le_refl _) (.cells #[.slice none 0 0, .slice none 0 0, .int .i64 0, .int .i64 0, .int .i64 0, .int .i64 0, .int .i64 0, .int .i64 0, .int .i64 0, .int .i64 0, .int .i64 0, .int .i64 0, .int .i64 0, .int .i64 0, .int .i64 0, .int .i64 0, .int .i64 0, .int .i64 0, .int .i64 0, .int .i64 0, .int .i64 0, .int .i64 0, .int .i64 0, .int .i64 0, .int .i64 0, .int .i64 0, .int .i64 0, .int .i64 0, .int .i64 0, .int .i64 0, .int .i64 0, .int .i64 0, .int .i64 0, .int .i64 0, .int .i64 0, .int .i64 0, .int .i64 0, .int .i64 0, .int .i64 0, .int .i64 0, .int .i64 0, .int .i64 0, .int .i64 0, .int .i64 0, .int .i64 0, .int .i64 0] 66 (0, 0)))
    generalize wd1.alloc (.cells #[.slice none 0 0, .slice none 0 0, .int .i64 0, .int .i64 0, .int .i64 0, .int .i64 0, .int .i64 0, .int .i64 0, .int .i64 0, .int .i64 0, .int .i64 0, .int .i64 0, .int .i64 0, .int .i64 0, .int .i64 0, .int .i64 0, .int .i64 0, .int .i64 0, .int .i64 0, .int .i64 0, .int .i64 0, .int .i64 0, .int .i64 0, .int .i64 0, .int .i64 0, .int .i64 0, .int .i64 0, .int .i64 0, .int .i64 0, .int .i64 0, .int .i64 0, .int .i64 0, .int .i64 0, .int .i64 0, .int .i64 0, .int .i64 0, .int .i64 0, .int .i64 0, .int .i64 0, .int .i64 0, .int .i64 0, .int .i64 0, .int .i64 0, .int .i64 0, .int .i64 0, .int .i64 0] 66 (0, 0)) = wd2 at pL_2 hH2 kn2 ⊢
    have zs2 := lt_of kn2
    have zu2 := hH1.size
    refine wpAnyL_one (i := 11) (o := _) rfl (by kernel_rfl) (by rfl) (fun K hK => ?_)
    have kX := kn2
    refine wp_store_row 66 _ _ (by rfl) wd1.heap.size #[.slice aL ln cL, .slice (some ⟨gb, 0, none⟩) nc gc, .int .i64 0, .int .i64 0, .int .i64 0, .int .i64 0, .int .i64 0, .int .i64 0, .int .i64 0, .int .i64 0, .int .i64 0, .int .i64 0, .int .i64 0, .int .i64 0, .int .i64 0, .int .i64 0, .int .i64 0, .int .i64 0, .int .i64 0, .int .i64 0, .int .i64 0, .int .i64 0, .int .i64 0, .int .i64 0, .int .i64 0, .int .i64 0, .int .i64 0, .int .i64 0, .int .i64 0, .int .i64 0, .int .i64 0, .int .i64 0, .int .i64 0, .int .i64 0, .int .i64 0, .int .i64 0, .int .i64 0, .int .i64 0, .int .i64 0, .int .i64 0, .int .i64 0, .int .i64 0, .int .i64 0, .int .i64 0, .int .i64 0, .int .i64 0] (by rfl) (by rfl) 66 #[.slice none 0 0, .slice none 0 0, .int .i64 0, .int .i64 0, .int .i64 0, .int .i64 0, .int .i64 0, .int .i64 0, .int .i64 0, .int .i64 0, .int .i64 0, .int .i64 0, .int .i64 0, .int .i64 0, .int .i64 0, .int .i64 0, .int .i64 0, .int .i64 0, .int .i64 0, .int .i64 0, .int .i64 0, .int .i64 0, .int .i64 0, .int .i64 0, .int .i64 0, .int .i64 0, .int .i64 0, .int .i64 0, .int .i64 0, .int .i64 0, .int .i64 0, .int .i64 0, .int .i64 0, .int .i64 0, .int .i64 0, .int .i64 0, .int .i64 0, .int .i64 0, .int .i64 0, .int .i64 0, .int .i64 0, .int .i64 0, .int .i64 0, .int .i64 0, .int .i64 0, .int .i64 0] kX (by kernel_rfl) (by rfl) (rr_one _ _ _ _ _ _) ?_
    have hH3 : Below w3.heap.size w3 (wd2.setRow wd1.heap.size #[.slice aL ln cL, .slice (some ⟨gb, 0, none⟩) nc gc, .int .i64 0, .int .i64 0, .int .i64 0, .int .i64 0, .int .i64 0, .int .i64 0, .int .i64 0, .int .i64 0, .int .i64 0, .int .i64 0, .int .i64 0, .int .i64 0, .int .i64 0, .int .i64 0, .int .i64 0, .int .i64 0, .int .i64 0, .int .i64 0, .int .i64 0, .int .i64 0, .int .i64 0, .int .i64 0, .int .i64 0, .int .i64 0, .int .i64 0, .int .i64 0, .int .i64 0, .int .i64 0, .int .i64 0, .int .i64 0, .int .i64 0, .int .i64 0, .int .i64 0, .int .i64 0, .int .i64 0, .int .i64 0, .int .i64 0, .int .i64 0, .int .i64 0, .int .i64 0, .int .i64 0, .int .i64 0, .int .i64 0, .int .i64 0]) := setRow_below hH2 (by have := hH1.size; omega) _
    have KR := setRow_heap wd2 wd1.heap.size #[.slice none 0 0, .slice none 0 0, .int .i64 0, .int .i64 0, .int .i64 0, .int .i64 0, .int .i64 0, .int .i64 0, .int .i64 0, .int .i64 0, .int .i64 0, .int .i64 0, .int .i64 0, .int .i64 0, .int .i64 0, .int .i64 0, .int .i64 0, .int .i64 0, .int .i64 0, .int .i64 0, .int .i64 0, .int .i64 0, .int .i64 0, .int .i64 0, .int .i64 0, .int .i64 0, .int .i64 0, .int .i64 0, .int .i64 0, .int .i64 0, .int .i64 0, .int .i64 0, .int .i64 0, .int .i64 0, .int .i64 0, .int .i64 0, .int .i64 0, .int .i64 0, .int .i64 0, .int .i64 0, .int .i64 0, .int .i64 0, .int .i64 0, .int .i64 0, .int .i64 0, .int .i64 0] #[.slice aL ln cL, .slice (some ⟨gb, 0, none⟩) nc gc, .int .i64 0, .int .i64 0, .int .i64 0, .int .i64 0, .int .i64 0, .int .i64 0, .int .i64 0, .int .i64 0, .int .i64 0, .int .i64 0, .int .i64 0, .int .i64 0, .int .i64 0, .int .i64 0, .int .i64 0, .int .i64 0, .int .i64 0, .int .i64 0, .int .i64 0, .int .i64 0, .int .i64 0, .int .i64 0, .int .i64 0, .int .i64 0, .int .i64 0, .int .i64 0, .int .i64 0, .int .i64 0, .int .i64 0, .int .i64 0, .int .i64 0, .int .i64 0, .int .i64 0, .int .i64 0, .int .i64 0, .int .i64 0, .int .i64 0, .int .i64 0, .int .i64 0, .int .i64 0, .int .i64 0, .int .i64 0, .int .i64 0, .int .i64 0] 66 (0, 0) kX
    have KL := pL_2.keep (setRow_other wd2 wd1.heap.size gb #[.slice aL ln cL, .slice (some ⟨gb, 0, none⟩) nc gc, .int .i64 0, .int .i64 0, .int .i64 0, .int .i64 0, .int .i64 0, .int .i64 0, .int .i64 0, .int .i64 0, .int .i64 0, .int .i64 0, .int .i64 0, .int .i64 0, .int .i64 0, .int .i64 0, .int .i64 0, .int .i64 0, .int .i64 0, .int .i64 0, .int .i64 0, .int .i64 0, .int .i64 0, .int .i64 0, .int .i64 0, .int .i64 0, .int .i64 0, .int .i64 0, .int .i64 0, .int .i64 0, .int .i64 0, .int .i64 0, .int .i64 0, .int .i64 0, .int .i64 0, .int .i64 0, .int .i64 0, .int .i64 0, .int .i64 0, .int .i64 0, .int .i64 0, .int .i64 0, .int .i64 0, .int .i64 0, .int .i64 0, .int .i64 0] (by have := pL_2.lt; omega))
    refine hK.out _ _ (fun h => absurd h (by decide)) ?_
    clear hK K kX
    try simp only [Act.put, sT, sZ, sS]
    generalize wd2.setRow wd1.heap.size #[.slice aL ln cL, .slice (some ⟨gb, 0, none⟩) nc gc, .int .i64 0, .int .i64 0, .int .i64 0, .int .i64 0, .int .i64 0, .int .i64 0, .int .i64 0, .int .i64 0, .int .i64 0, .int .i64 0, .int .i64 0, .int .i64 0, .int .i64 0, .int .i64 0, .int .i64 0, .int .i64 0, .int .i64 0, .int .i64 0, .int .i64 0, .int .i64 0, .int .i64 0, .int .i64 0, .int .i64 0, .int .i64 0, .int .i64 0, .int .i64 0, .int .i64 0, .int .i64 0, .int .i64 0, .int .i64 0, .int .i64 0, .int .i64 0, .int .i64 0, .int .i64 0, .int .i64 0, .int .i64 0, .int .i64 0, .int .i64 0, .int .i64 0, .int .i64 0, .int .i64 0, .int .i64 0, .int .i64 0, .int .i64 0] = wd3 at hH3 KR KL ⊢
    refine wpAnyL_done (by kernel_rfl) ?_ _
    have hR : RB wd3 wd1.heap.size (.slice aL ln cL) (.slice (some ⟨gb, 0, none⟩) nc gc) (List.replicate 40 0) 0 0 0 0 := ⟨by simp, by rw [run_begun]; exact KR⟩
    have hzz := hH1.size
    have HX := hide (And.intro hR (And.intro KL (And.intro hzz (And.intro (show w3.heap.size ≤ gb by omega) (And.intro (show wd1.heap.size ≠ gb by omega) (And.intro zc zd))))))
    clear hR KL KR
    go_wp2_with fail
    go_meet
    case rel => exact ⟨_, gb, gc, rfl, HX, hH3⟩
   case _ =>
    go_simp
    have hH1 : Below w3.heap.size w3 (wd0.alloc (.cells #[.slice none 0 0, .slice none 0 0, .int .i64 0, .int .i64 0, .int .i64 0, .int .i64 0, .int .i64 0, .int .i64 0, .int .i64 0, .int .i64 0, .int .i64 0, .int .i64 0, .int .i64 0, .int .i64 0, .int .i64 0, .int .i64 0, .int .i64 0, .int .i64 0, .int .i64 0, .int .i64 0, .int .i64 0, .int .i64 0, .int .i64 0, .int .i64 0, .int .i64 0, .int .i64 0, .int .i64 0, .int .i64 0, .int .i64 0, .int .i64 0, .int .i64 0, .int .i64 0, .int .i64 0, .int .i64 0, .int .i64 0, .int .i64 0, .int .i64 0, .int .i64 0, .int .i64 0, .int .i64 0, .int .i64 0, .int .i64 0, .int .i64 0, .int .i64 0, .int .i64 0, .int .i64 0] 66 (0, 0))) := hH0.alloc hH0.size _
    have kn1 := heap_new wd0 (.cells #[.slice none 0 0, .slice none 0 0, .int .i64 0, .int .i64 0, .int .i64 0, .int .i64 0, .int .i64 0, .int .i64 0, .int .i64 0, .int .i64 0, .int .i64 0, .int .i64 0, .int .i64 0, .int .i64 0, .int .i64 0, .int .i64 0, .int .i64 0, .int .i64 0, .int .i64 0, .int .i64 0, .int .i64 0, .int .i64 0, .int .i64 0, .int .i64 0, .int .i64 0, .int .i64 0, .int .i64 0, .int .i64 0, .int .i64 0, .int .i64 0, .int .i64 0, .int .i64 0, .int .i64 0, .int .i64 0, .int .i64 0, .int .i64 0, .int .i64 0, .int .i64 0, .int .i64 0, .int .i64 0, .int .i64 0, .int .i64 0, .int .i64 0, .int .i64 0, .int .i64 0, .int .i64 0] 66 (0, 0))
    have zn1 := hH0.size
    refine hK.out _ _ (fun _ => hH1) ?_
    clear hK K
    try simp only [Act.put, sT, sZ, sS]
    generalize wd0.alloc (.cells #[.slice none 0 0, .slice none 0 0, .int .i64 0, .int .i64 0, .int .i64 0, .int .i64 0, .int .i64 0, .int .i64 0, .int .i64 0, .int .i64 0, .int .i64 0, .int .i64 0, .int .i64 0, .int .i64 0, .int .i64 0, .int .i64 0, .int .i64 0, .int .i64 0, .int .i64 0, .int .i64 0, .int .i64 0, .int .i64 0, .int .i64 0, .int .i64 0, .int .i64 0, .int .i64 0, .int .i64 0, .int .i64 0, .int .i64 0, .int .i64 0, .int .i64 0, .int .i64 0, .int .i64 0, .int .i64 0, .int .i64 0, .int .i64 0, .int .i64 0, .int .i64 0, .int .i64 0, .int .i64 0, .int .i64 0, .int .i64 0, .int .i64 0, .int .i64 0, .int .i64 0, .int .i64 0] 66 (0, 0)) = wd1 at hH1 kn1 ⊢
    have zs1 := lt_of kn1
    have zu1 := hH0.size
    refine wpAnyL_one (i := 8) (o := _) rfl (by kernel_rfl) (by rfl) (fun K hK => ?_)
    go_simp
    refine (HCL.out wd1 (B3.trans (hH1.mono B3.size))).mono ?_
    rintro eq wd2 ⟨gb, gc, rfl, zg, zc, zd, pL, bq2⟩
    have kn1_2 := (bq2.block _ (lt_of kn1)).trans kn1
    have hH2 : Below w3.heap.size w3 wd2 := hH1.trans (bq2.mono hH1.size)
    have zs2 := bq2.size
    have zl := pL.lt
    have zu2 := hH1.size
    refine hK.out _ _ (fun _ => hH2) ?_
    clear hK K
    try simp only [Act.put, sT, sZ, sS]
    refine' wpAnyL_take (i := 9) (oi := ⟨some 24, _, _, _, _, _⟩) (v := _) rfl (by kernel_rfl) (by kernel_rfl) (by kernel_rfl) (by kernel_rfl) (fun _ _ _ h => h) hH2 (by rfl) ?hyv ?o12
    case hyv =>
     intro wz hSw
     go_simp
     try rfl
    try simp only [Act.put, sT, sZ, sS]
    refine wpAnyL_one (i := 11) (o := _) rfl (by kernel_rfl) (by rfl) (fun K hK => ?_)
    have kX := kn1_2
    refine wp_store_row 66 _ _ (by rfl) wd0.heap.size #[.slice aL ln cL, .slice (some ⟨gb, 0, none⟩) nc gc, .int .i64 0, .int .i64 0, .int .i64 0, .int .i64 0, .int .i64 0, .int .i64 0, .int .i64 0, .int .i64 0, .int .i64 0, .int .i64 0, .int .i64 0, .int .i64 0, .int .i64 0, .int .i64 0, .int .i64 0, .int .i64 0, .int .i64 0, .int .i64 0, .int .i64 0, .int .i64 0, .int .i64 0, .int .i64 0, .int .i64 0, .int .i64 0, .int .i64 0, .int .i64 0, .int .i64 0, .int .i64 0, .int .i64 0, .int .i64 0, .int .i64 0, .int .i64 0, .int .i64 0, .int .i64 0, .int .i64 0, .int .i64 0, .int .i64 0, .int .i64 0, .int .i64 0, .int .i64 0, .int .i64 0, .int .i64 0, .int .i64 0, .int .i64 0] (by rfl) (by rfl) 66 #[.slice none 0 0, .slice none 0 0, .int .i64 0, .int .i64 0, .int .i64 0, .int .i64 0, .int .i64 0, .int .i64 0, .int .i64 0, .int .i64 0, .int .i64 0, .int .i64 0, .int .i64 0, .int .i64 0, .int .i64 0, .int .i64 0, .int .i64 0, .int .i64 0, .int .i64 0, .int .i64 0, .int .i64 0, .int .i64 0, .int .i64 0, .int .i64 0, .int .i64 0, .int .i64 0, .int .i64 0, .int .i64 0, .int .i64 0, .int .i64 0, .int .i64 0, .int .i64 0, .int .i64 0, .int .i64 0, .int .i64 0, .int .i64 0, .int .i64 0, .int .i64 0, .int .i64 0, .int .i64 0, .int .i64 0, .int .i64 0, .int .i64 0, .int .i64 0, .int .i64 0, .int .i64 0] kX (by kernel_rfl) (by rfl) (rr_one _ _ _ _ _ _) ?_
    have hH3 : Below w3.heap.size w3 (wd2.setRow wd0.heap.size #[.slice aL ln cL, .slice (some ⟨gb, 0, none⟩) nc gc, .int .i64 0, .int .i64 0, .int .i64 0, .int .i64 0, .int .i64 0, .int .i64 0, .int .i64 0, .int .i64 0, .int .i64 0, .int .i64 0, .int .i64 0, .int .i64 0, .int .i64 0, .int .i64 0, .int .i64 0, .int .i64 0, .int .i64 0, .int .i64 0, .int .i64 0, .int .i64 0, .int .i64 0, .int .i64 0, .int .i64 0, .int .i64 0, .int .i64 0, .int .i64 0, .int .i64 0, .int .i64 0, .int .i64 0, .int .i64 0, .int .i64 0, .int .i64 0, .int .i64 0, .int .i64 0, .int .i64 0, .int .i64 0, .int .i64 0, .int .i64 0, .int .i64 0, .int .i64 0, .int .i64 0, .int .i64 0, .int .i64 0, .int .i64 0]) := setRow_below hH2 (by have := hH0.size; omega) _
    have KR := setRow_heap wd2 wd0.heap.size #[.slice none 0 0, .slice none 0 0, .int .i64 0, .int .i64 0, .int .i64 0, .int .i64 0, .int .i64 0, .int .i64 0, .int .i64 0, .int .i64 0, .int .i64 0, .int .i64 0, .int .i64 0, .int .i64 0, .int .i64 0, .int .i64 0, .int .i64 0, .int .i64 0, .int .i64 0, .int .i64 0, .int .i64 0, .int .i64 0, .int .i64 0, .int .i64 0, .int .i64 0, .int .i64 0, .int .i64 0, .int .i64 0, .int .i64 0, .int .i64 0, .int .i64 0, .int .i64 0, .int .i64 0, .int .i64 0, .int .i64 0, .int .i64 0, .int .i64 0, .int .i64 0, .int .i64 0, .int .i64 0, .int .i64 0, .int .i64 0, .int .i64 0, .int .i64 0, .int .i64 0, .int .i64 0] #[.slice aL ln cL, .slice (some ⟨gb, 0, none⟩) nc gc, .int .i64 0, .int .i64 0, .int .i64 0, .int .i64 0, .int .i64 0, .int .i64 0, .int .i64 0, .int .i64 0, .int .i64 0, .int .i64 0, .int .i64 0, .int .i64 0, .int .i64 0, .int .i64 0, .int .i64 0, .int .i64 0, .int .i64 0, .int .i64 0, .int .i64 0, .int .i64 0, .int .i64 0, .int .i64 0, .int .i64 0, .int .i64 0, .int .i64 0, .int .i64 0, .int .i64 0, .int .i64 0, .int .i64 0, .int .i64 0, .int .i64 0, .int .i64 0, .int .i64 0, .int .i64 0, .int .i64 0, .int .i64 0, .int .i64 0, .int .i64 0, .int .i64 0, .int .i64 0, .int .i64 0, .int .i64 0, .int .i64 0, .int .i64 0] 66 (0, 0) kX
    have KL := pL.keep (setRow_other wd2 wd0.heap.size gb #[.slice aL ln cL, .slice (some ⟨gb, 0, none⟩) nc gc, .int .i64 0, .int .i64 0, .int .i64 0, .int .i64 0, .int .i64 0, .int .i64 0, .int .i64 0, .int .i64 0, .int .i64 0, .int .i64 0, .int .i64 0, .int .i64 0, .int .i64 0, .int .i64 0, .int .i64 0, .int .i64 0, .int .i64 0, .int .i64 0, .int .i64 0, .int .i64 0, .int .i64 0, .int .i64 0, .int .i64 0, .int .i64 0, .int .i64 0, .int .i64 0, .int .i64 0, .int .i64 0, .int .i64 0, .int .i64 0, .int .i64 0, .int .i64 0, .int .i64 0, .int .i64 0, .int .i64 0, .int .i64 0, .int .i64 0, .int .i64 0, .int .i64 0, .int .i64 0, .int .i64 0, .int .i64 0, .int .i64 0, .int .i64 0] (by have := pL.lt; omega))
    refine hK.out _ _ (fun h => absurd h (by decide)) ?_
    clear hK K kX
    try simp only [Act.put, sT, sZ, sS]
    generalize wd2.setRow wd0.heap.size #[.slice aL ln cL, .slice (some ⟨gb, 0, none⟩) nc gc, .int .i64 0, .int .i64 0, .int .i64 0, .int .i64 0, .int .i64 0, .int .i64 0, .int .i64 0, .int .i64 0, .int .i64 0, .int .i64 0, .int .i64 0, .int .i64 0, .int .i64 0, .int .i64 0, .int .i64 0, .int .i64 0, .int .i64 0, .int .i64 0, .int .i64 0, .int .i64 0, .int .i64 0, .int .i64 0, .int .i64 0, .int .i64 0, .int .i64 0, .int .i64 0, .int .i64 0, .int .i64 0, .int .i64 0, .int .i64 0, .int .i64 0, .int .i64 0, .int .i64 0, .int .i64 0, .int .i64 0, .int .i64 0, .int .i64 0, .int .i64 0, .int .i64 0, .int .i64 0, .int .i64 0, .int .i64 0, .int .i64 0, .int .i64 0] = wd3 at hH3 KR KL ⊢
    refine wpAnyL_done (by kernel_rfl) ?_ _
    have hR : RB wd3 wd0.heap.size (.slice aL ln cL) (.slice (some ⟨gb, 0, none⟩) nc gc) (List.replicate 40 0) 0 0 0 0 := ⟨by simp, by rw [run_begun]; exact KR⟩
    have hzz := hH0.size
    have HX := hide (And.intro hR (And.intro KL (And.intro hzz (And.intro (show w3.heap.size ≤ gb by omega) (And.intro (show wd0.heap.size ≠ gb by omega) (And.intro zc zd))))))
    clear hR KL KR
    go_wp2_with fail
    go_meet
    case rel => exact ⟨_, gb, gc, rfl, HX, hH3⟩
  case rest =>
   obtain ⟨rb, gb, gc, rfl, HX, bc⟩ := hcut
   obtain ⟨w4, hw4⟩ : ∃ x, x = wc := ⟨_, rfl⟩
   subst hw4
   obtain ⟨kR, kL, z1, z2, z3, z4, z5⟩ := HX.out
   have BC := B3.trans (bc.mono B3.size)
   have kFc := (bc.block _ yF).trans kF3
   have kvc := (BC.block _ yV).trans hkV
   have hput := put28_any (okL := fun i => i < w.heap.size) kR kL HW.out.2.2.2.2.2.2.symm hnc.2 z3 (HOK.out.1.keep BC.size (fun i hi hl => BC.block i hl) |>.wide (fun i h _ => h.1)) (HOK.out.2.2.2.keep BC.size (fun i hi hl => BC.block i hl) |> fun h => by rw [HXL.out] at h; exact h) HXL.out (fun i hi => by omega) HW.out.2.2.2.2.1 hPl
   rw [← HNP.out] at hput
   have HPUT := hide hput
   clear hput kR kL HX kv3 kF3 g0 fg0 g1 fg1 g2 fg2 g3 fg3 g4 fg4 g5 fg5 kv yv
   have kv : w4.heap[vb]? = some (.cells #[.slice aP np cP, .slice aG ng cG, .slice (some ⟨tb, 0, none⟩) nc tc, .slice aL ln cL, .slice (some ⟨cb, 0, none⟩) nc cc, .int .i64 st] 57 (0, 0)) := kvc
   have g0 := cell_of kv 0
   have fg0 := free_of kv 0
   have g1 := cell_of kv 1
   have fg1 := free_of kv 1
   have g2 := cell_of kv 2
   have fg2 := free_of kv 2
   have g3 := cell_of kv 3
   have fg3 := free_of kv 3
   have g4 := cell_of kv 4
   have fg4 := free_of kv 4
   have g5 := cell_of kv 5
   have fg5 := free_of kv 5
   simp at g0 g1 g2 g3 g4 g5
   have yv := lt_of kv
   go_wp2_with fail
   refine HPUT.out.mono ?_
   rintro e w5 ⟨rfl, kR5, kL5, a5⟩
   have B5 := below_aside BC a5 (by simp; omega)
   have kF5 := (a5.block _ (lt_of kFc) (by simp; omega)).trans kFc
   have htoe := toEnd29_any (w := w5) (rb := rb) (cb := gb) (nc := nc) (cc := gc) (nr := nr) (okL := fun i => i < w.heap.size) (aL := aL) (cL := cL) (C := C) (X := List.replicate 40 0) (s := ⟨fun _ => 0, Lo.putL M P X⟩) (lp := 0) (tu := 0) ⟨by rw [← HLN.out]; exact kR5, kL5, fun j hj => by rw [List.getElem_replicate], by show nc ≤ (Lo.putL M P X).length; rw [Lo.putL_len, HW.out.2.2.2.2.2.2]; omega, fun x hx => by rw [List.eq_of_mem_replicate hx]; unfold I64; omega, Lo.putL_wide _ _ _ HW.out.2.2.1 HW.out.2.2.2.1, Aside.refl _⟩ (HRow.wide (HRow.keep HOK.out.2.2.1 B5.size (fun i hi hl => B5.block i hl)) (fun i h _ => h.1)) (fun i hi => by omega) hnc.2 z3 hnr HW.out.1 HW.out.2.1 hCl
   rw [← HRES.out, ← HLN.out] at htoe
   have HTOE := hide htoe
   clear htoe kR5 kL5 HPUT g0 fg0 g1 fg1 g2 fg2 g3 fg3 g4 fg4 g5 fg5 kv yv
   go_wp2_with fail
   refine HTOE.out.mono ?_
   rintro e w6 hp
   have ee := hp.e
   obtain ⟨X6, pc6, dn6, lp6, tu6, h6, hdn, hpc⟩ := hp.r
   have a6 := h6.a
   have kR6 := h6.r
   have kL6 := h6.m
   have wm6 := h6.wm
   have B6 := below_aside B5 a6 (by simp; omega)
   have kF6 := (a6.block _ (lt_of kF5) (by simp; omega)).trans kF5
   have kv6 := (B6.block _ yV).trans hkV
   clear hp h6 HTOE
   subst ee
   have yF6 := lt_of kF6
   have yR6 := kR6.lt
   by_cases hp0 : res.p < 0
   case neg =>
    have hdec : decide (res.p < 0) = false := decide_eq_false hp0
    have hpc6 := hpc hp0
    subst hpc6
    have c42 := kR6.c42
    rw [hdec]
    go_upto_region 7 with fail
    refine wp_region_late (fun w' => Aside [w.heap.size] w6.heap.size w6 w') (fun _ => false) (by kernel_rfl) ?_
    have hH0 : Aside [w.heap.size] w6.heap.size w6 w6.drew := (Aside.refl _).drew
    have KF0 : w6.drew.heap[w.heap.size]? = some (.cells #[.int .i64 0, .int .i64 0] 34 (0, 0)) := kF6
    generalize w6.drew = wd0 at hH0 KF0 ⊢
    refine' wpAnyL_take (i := 0) (oi := ⟨some 33, _, _, _, _, _⟩) (v := _) rfl (by kernel_rfl) (by kernel_rfl) (by kernel_rfl) (by kernel_rfl) (fun _ _ _ h => h) hH0 (by rfl) ?hyv ?o13
    case hyv =>
     intro wz hSw
     go_simp
     try rfl
    try simp only [Act.put, sT, sZ, sS]
    refine' wpAnyL_take (i := 1) (oi := ⟨some 34, _, _, _, _, _⟩) (v := _) rfl (by kernel_rfl) (by kernel_rfl) (by kernel_rfl) (by kernel_rfl) (fun _ _ _ h => h) hH0 (by rfl) ?hyv ?o14
    case hyv =>
     intro wz hSw
     have zc0 := (aside_cell hSw (p := ⟨rb, 42, none⟩) yR6 (by simp; omega)).trans c42
     go_simp
     try rfl
    try simp only [Act.put, sT, sZ, sS]
    refine' wpAnyL_take (i := 2) (oi := ⟨some 35, _, _, _, _, _⟩) (v := _) rfl (by kernel_rfl) (by kernel_rfl) (by kernel_rfl) (by kernel_rfl) (fun _ _ _ h => h) hH0 (by rfl) ?hyv ?o15
    case hyv =>
     intro wz hSw
     go_simp
     try rfl
    try simp only [Act.put, sT, sZ, sS]
    refine' wpAnyL_take (i := 3) (oi := ⟨some 4, _, _, _, _, _⟩) (v := _) rfl (by kernel_rfl) (by kernel_rfl) (by kernel_rfl) (by kernel_rfl) (fun _ _ _ h => h) hH0 (by rfl) ?hyv ?o16
    case hyv =>
     intro wz hSw
     go_simp
     try rfl
    try simp only [Act.put, sT, sZ, sS]
    refine wpAnyL_one (i := 4) (o := _) rfl (by kernel_rfl) (by rfl) (fun K hK => ?_)
    have kX := KF0
    have st0 := cell_of kX 0
    have st1 := cell_of kX 1
    have fst0 := free_of kX 0
    have fst1 := free_of kX 1
    simp at st0 st1
    have KF := two_set kX (.int .i64 16) (.int .i64 res.p)
    have a0 : Aside [w.heap.size] wd0.heap.size wd0 ((wd0.setCell ⟨w.heap.size, 0, none⟩ (.int .i64 16)).setCell ⟨w.heap.size, 1, none⟩ (.int .i64 res.p)) := aside_two (by simp) (.int .i64 16) (.int .i64 res.p)
    have hH1 : Aside [w.heap.size] w6.heap.size w6 ((wd0.setCell ⟨w.heap.size, 0, none⟩ (.int .i64 16)).setCell ⟨w.heap.size, 1, none⟩ (.int .i64 res.p)) := hH0.trans a0 hH0.size
    go_simp
    refine hK.out _ _ (fun _ => hH1) ?_
    clear hK K a0 kX st0 st1 fst0 fst1
    try simp only [Act.put, sT, sZ, sS]
    generalize ((wd0.setCell ⟨w.heap.size, 0, none⟩ (.int .i64 16)).setCell ⟨w.heap.size, 1, none⟩ (.int .i64 res.p)) = wd1 at hH1 KF ⊢
    refine wpAnyL_done (by kernel_rfl) ?_ _
    have q0 := cell_of KF 0
    have q1 := cell_of KF 1
    simp at q0 q1
    have BX := below_aside B6 hH1 (by simp)
    go_wp2
    exact bodyPost_ret (v := .tuple #[.slice none 0 0, .agg #[.int .i64 16, .int .i64 res.p]]) (by simp [results, Tryd.results13, go_sem, q0, q1]) rfl ⟨fun h => absurd HF1.out.symm h, fun _ _ => ⟨by rw [← HRES.out], BX⟩, fun _ h => absurd (show res.p < 0 by rw [HRES.out]; exact h) (by omega)⟩
   case pos =>
    have hdec : decide (res.p < 0) = true := decide_eq_true hp0
    have hdn6 := hdn hp0
    subst hdn6
    rw [hdec]
    have c1 := kR6.c1
    have c43 := kR6.c43
    have hsl : res.s.M.length = nc := by
     rw [HRES.out, Em.allF_len (R := (nr : Int))]
     ·show (Lo.putL M P X).length = nc
      rw [Lo.putL_len, HW.out.2.2.2.2.2.2]
     ·intro x hx
      show Em.Rs (((Lo.putL M P X).length : Nat) : Int) _ x
      rw [Lo.putL_len, HW.out.2.2.2.2.2.2]
      exact (HW.out.1 x hx).rs
    have HSL := hide hsl
    clear hsl
    have kv : w6.heap[vb]? = some (.cells #[.slice aP np cP, .slice aG ng cG, .slice (some ⟨tb, 0, none⟩) nc tc, .slice aL ln cL, .slice (some ⟨cb, 0, none⟩) nc cc, .int .i64 st] 57 (0, 0)) := kv6
    have g0 := cell_of kv 0
    have fg0 := free_of kv 0
    have g1 := cell_of kv 1
    have fg1 := free_of kv 1
    have g2 := cell_of kv 2
    have fg2 := free_of kv 2
    have g3 := cell_of kv 3
    have fg3 := free_of kv 3
    have g4 := cell_of kv 4
    have fg4 := free_of kv 4
    have g5 := cell_of kv 5
    have fg5 := free_of kv 5
    simp at g0 g1 g2 g3 g4 g5
    have yv := lt_of kv
    have k7 := set_in kv 4 (.slice (some ⟨gb, 0, none⟩) nc gc)
    have a7 : Aside [vb] w6.heap.size w6 (w6.setCell ⟨vb, 4, none⟩ (.slice (some ⟨gb, 0, none⟩) nc gc)) := Aside.setCell (by simp) _
    go_upto_region 9 with fail
    generalize w6.setCell ⟨vb, 4, none⟩ (.slice (some ⟨gb, 0, none⟩) nc gc) = w7 at a7 k7 ⊢
    have A7 : Aside [vb] w.heap.size w w7 := (aside (S := [vb]) B6).trans a7 B6.size
    have kF7 := (a7.block _ yF6 (by simp; omega)).trans kF6
    have kR7 := kR6.keep (a7.block _ yR6 (by simp; omega))
    have kL7 := kL6.keep (a7.block _ kL6.lt (by simp; omega))
    clear g0 fg0 g1 fg1 g2 fg2 g3 fg3 g4 fg4 g5 fg5 kv yv c1 c43 kF6 kR6 kL6
    simp at k7
    have kv : w7.heap[vb]? = some (.cells #[.slice aP np cP, .slice aG ng cG, .slice (some ⟨tb, 0, none⟩) nc tc, .slice aL ln cL, .slice (some ⟨gb, 0, none⟩) nc gc, .int .i64 st] 57 (0, 0)) := k7
    have g0 := cell_of kv 0
    have fg0 := free_of kv 0
    have g1 := cell_of kv 1
    have fg1 := free_of kv 1
    have g2 := cell_of kv 2
    have fg2 := free_of kv 2
    have g3 := cell_of kv 3
    have fg3 := free_of kv 3
    have g4 := cell_of kv 4
    have fg4 := free_of kv 4
    have g5 := cell_of kv 5
    have fg5 := free_of kv 5
    simp at g0 g1 g2 g3 g4 g5
    have yv := lt_of kv
    have c43 := kR7.c43
    have yR7 := kR7.lt
    have nvr : rb ≠ vb := by omega
    go_cut [] (fun wd => Hid (wd.heap[vb]? = some (.cells #[.slice aP np cP, .slice aG ng cG, .slice (some ⟨tb, 0, none⟩) nc tc, .slice aL ln cL, .slice (some ⟨gb, 0, none⟩) nc gc, .int .i64 (wrap64 (st + res.st))] 57 (0, 0))) ∧ Aside [vb] w7.heap.size w7 wd)
    case first =>
     refine wp_region_late (fun w' => Below w7.heap.size w7 w') (fun i => i == 9) (by kernel_rfl) ?_
     have hH0 : Below w7.heap.size w7 w7.drew := (Below.refl _ _).drew
     generalize w7.drew = wd0 at hH0 ⊢
     refine' wpAnyL_take (i := 0) (oi := ⟨some 41, _, _, _, _, _⟩) (v := _) rfl (by kernel_rfl) (by kernel_rfl) (by kernel_rfl) (by kernel_rfl) (fun _ _ _ h => h) hH0 (by rfl) ?hyv ?o17
     case hyv =>
      intro wz hSw
      go_simp
      try rfl
     try simp only [Act.put, sT, sZ, sS]
     refine' wpAnyL_take (i := 1) (oi := ⟨some 42, _, _, _, _, _⟩) (v := _) rfl (by kernel_rfl) (by kernel_rfl) (by kernel_rfl) (by kernel_rfl) (fun _ _ _ h => h) hH0 (by rfl) ?hyv ?o18
     case hyv =>
      intro wz hSw
      go_simp
      try rfl
     try simp only [Act.put, sT, sZ, sS]
     refine' wpAnyL_take (i := 2) (oi := ⟨some 43, _, _, _, _, _⟩) (v := _) rfl (by kernel_rfl) (by kernel_rfl) (by kernel_rfl) (by kernel_rfl) (fun _ _ _ h => h) hH0 (by rfl) ?hyv ?o19
     case hyv =>
      intro wz hSw
      go_simp
      try rfl
     try simp only [Act.put, sT, sZ, sS]
     refine' wpAnyL_take (i := 3) (oi := ⟨some 44, _, _, _, _, _⟩) (v := _) rfl (by kernel_rfl) (by kernel_rfl) (by kernel_rfl) (by kernel_rfl) (fun _ _ _ h => h) hH0 (by rfl) ?hyv ?o20
     case hyv =>
      intro wz hSw
      have zc0 := (hSw.cell (p := ⟨vb, 5, none⟩) yv).trans g5
      have zc1 := (hSw.cell (p := ⟨rb, 43, none⟩) yR7).trans c43
      go_simp
      try rfl
     try simp only [Act.put, sT, sZ, sS]
     refine' wpAnyL_take (i := 4) (oi := ⟨some 45, _, _, _, _, _⟩) (v := _) rfl (by kernel_rfl) (by kernel_rfl) (by kernel_rfl) (by kernel_rfl) (fun _ _ _ h => h) hH0 (by rfl) ?hyv ?o21
     case hyv =>
      intro wz hSw
      go_simp
      try rfl
     try simp only [Act.put, sT, sZ, sS]
     refine' wpAnyL_take (i := 5) (oi := ⟨some 46, _, _, _, _, _⟩) (v := _) rfl (by kernel_rfl) (by kernel_rfl) (by kernel_rfl) (by kernel_rfl) (fun _ _ _ h => h) hH0 (by rfl) ?hyv ?o22
     case hyv =>
      intro wz hSw
      have zc0 := (hSw.cell (p := ⟨vb, 5, none⟩) yv).trans g5
      have zc1 := (hSw.cell (p := ⟨rb, 43, none⟩) yR7).trans c43
      go_simp
      try rfl
     try simp only [Act.put, sT, sZ, sS]
     refine' wpAnyL_take (i := 6) (oi := ⟨some 47, _, _, _, _, _⟩) (v := _) rfl (by kernel_rfl) (by kernel_rfl) (by kernel_rfl) (by kernel_rfl) (fun _ _ _ h => h) hH0 (by rfl) ?hyv ?o23
     case hyv =>
      intro wz hSw
      go_simp
      try rfl
     try simp only [Act.put, sT, sZ, sS]
     refine wpAnyL_one (i := 7) (o := _) rfl (by kernel_rfl) (by rfl) (fun K hK => ?_)
     go_simp
     refine hK.out _ _ (fun _ => hH0) ?_
     clear hK K
     try simp only [Act.put, sT, sZ, sS]
     have hH1 := hH0
     rename World => wd1
     refine' wpAnyL_take (i := 8) (oi := ⟨some 49, _, _, _, _, _⟩) (v := _) rfl (by kernel_rfl) (by kernel_rfl) (by kernel_rfl) (by kernel_rfl) (fun _ _ _ h => h) hH1 (by rfl) ?hyv ?o24
     case hyv =>
      intro wz hSw
      go_simp
      try rfl
     try simp only [Act.put, sT, sZ, sS]
     refine wpAnyL_one (i := 9) (o := _) rfl (by kernel_rfl) (by rfl) (fun K hK => ?_)
     have kX : wd1.heap[vb]? = some (.cells #[.slice aP np cP, .slice aG ng cG, .slice (some ⟨tb, 0, none⟩) nc tc, .slice aL ln cL, .slice (some ⟨gb, 0, none⟩) nc gc, .int .i64 st] 57 (0, 0)) := (hH1.block _ yv).trans kv
     have st5 := cell_of kX 5
     have fr5 := free_of kX 5
     simp at st5
     go_simp
     have kE := set_in kX 5 (.int .i64 (IntKind.i64.wrap (st + res.st)))
     simp at kE
     have hA2 : Aside [vb] w7.heap.size w7 (wd1.setCell ⟨vb, 5, none⟩ (.int .i64 (IntKind.i64.wrap (st + res.st)))) := (aside hH1).trans (Aside.setCell (B := wd1.heap.size) (by simp) _) hH1.size
     refine hK.out _ _ (fun h => absurd h (by decide)) ?_
     clear hK K kX st5 fr5
     try simp only [Act.put, sT, sZ, sS]
     generalize wd1.setCell ⟨vb, 5, none⟩ (.int .i64 (IntKind.i64.wrap (st + res.st))) = wd2 at hA2 kE ⊢
     have hH2 := hA2
     refine wpAnyL_done (by kernel_rfl) ?_ _
     go_wp2_with fail
     go_meet
     case rel => exact ⟨hide (show wd2.heap[vb]? = some (.cells #[.slice aP np cP, .slice aG ng cG, .slice (some ⟨tb, 0, none⟩) nc tc, .slice aL ln cL, .slice (some ⟨gb, 0, none⟩) nc gc, .int .i64 (wrap64 (st + res.st))] 57 (0, 0)) from by rw [← i64_left]; exact kE), hH2⟩
    case rest =>
     obtain ⟨HV8, a8⟩ := hcut
     obtain ⟨w8, hw8⟩ : ∃ x, x = wc := ⟨_, rfl⟩
     subst hw8
     have A8 := A7.trans a8 A7.size
     have kF8 := (a8.block _ (lt_of kF7) (by simp; omega)).trans kF7
     have kR8 := kR7.keep (a8.block _ yR7 (by simp; omega))
     have kL8 := kL7.keep (a8.block _ kL7.lt (by simp; omega))
     have htold := told30_any kR8 kL8 HSL.out.symm (HOK.out.2.1.keep A8.size (fun i hi hl => A8.block i hl (by simpa using hi.2))) HW.out.2.2.2.2.2.1 hGl
     rw [← HNG.out] at htold
     have HTOLD := hide htold
     clear htold g0 fg0 g1 fg1 g2 fg2 g3 fg3 g4 fg4 g5 fg5 kv yv c43 k7 kF7 kR7
     have kv : w8.heap[vb]? = some (.cells #[.slice aP np cP, .slice aG ng cG, .slice (some ⟨tb, 0, none⟩) nc tc, .slice aL ln cL, .slice (some ⟨gb, 0, none⟩) nc gc, .int .i64 (wrap64 (st + res.st))] 57 (0, 0)) := HV8.out
     have g0 := cell_of kv 0
     have fg0 := free_of kv 0
     have g1 := cell_of kv 1
     have fg1 := free_of kv 1
     have g2 := cell_of kv 2
     have fg2 := free_of kv 2
     have g3 := cell_of kv 3
     have fg3 := free_of kv 3
     have g4 := cell_of kv 4
     have fg4 := free_of kv 4
     have g5 := cell_of kv 5
     have fg5 := free_of kv 5
     simp at g0 g1 g2 g3 g4 g5
     have yv := lt_of kv
     go_wp2_with fail
     refine HTOLD.out.mono ?_
     rintro e w9 ⟨v9, rfl, o9, b9⟩
     have A9 := A8.trans (aside (S := [vb]) b9) A8.size
     have kF9 := (b9.block _ (lt_of kF8)).trans kF8
     have kV9 := (b9.block _ (lt_of HV8.out)).trans HV8.out
     have kL9 := kL8.under b9
     have KF := two_set kF9 (.int .i64 0) (.int .i64 0)
     have aF : Aside [w.heap.size] w9.heap.size w9 ((w9.setCell ⟨w.heap.size, 0, none⟩ (.int .i64 0)).setCell ⟨w.heap.size, 1, none⟩ (.int .i64 0)) := aside_two (by simp) _ _
     have AE : Aside [vb] w.heap.size w ((w9.setCell ⟨w.heap.size, 0, none⟩ (.int .i64 0)).setCell ⟨w.heap.size, 1, none⟩ (.int .i64 0)) := ⟨aF.os.trans A9.os, aF.tape.trans A9.tape, aF.output.trans A9.output, Nat.le_trans A9.size aF.size, fun j hj hs => (aF.block j (Nat.lt_of_lt_of_le hj A9.size) (by simp; omega)).trans (A9.block j hj hs)⟩
     have y8 := lt_of kF8
     have oE := (o9.keep aF.size (fun j hj hl => aF.block j hl (by simp; omega))).less (B' := w.heap.size) A8.size
     have kVE := (aF.block vb (lt_of kV9) (by simp; omega)).trans kV9
     have kLE := kL9.keep (aF.block gb kL9.lt (by simp; omega))
     have HRP := hide (show RowP okV w vb P G C f nc M st X (.returned (.tuple #[v9, .agg #[.int .i64 0, .int .i64 0]])) ((w9.setCell ⟨w.heap.size, 0, none⟩ (.int .i64 0)).setCell ⟨w.heap.size, 1, none⟩ (.int .i64 0)) from by
      have hEP := HOV.out.1.keep AE.size (fun i hi hl => AE.block i hl (by simpa using HOVN.out i hi))
      have hEG := HOV.out.2.1.keep AE.size (fun i hi hl => AE.block i hl (by simpa using HOVN.out i hi))
      have hEL := HRow.keep HOV.out.2.2.1 AE.size (fun i hi hl => AE.block i hl (by simpa using HOVN.out i hi))
      have hET := HKC.out.2.keep (AE.block _ yT (by simpa using ntb))
      refine ⟨fun h => absurd HF1.out.symm h, fun _ h => absurd (show (Em.allF C 0 ⟨fun _ => 0, Lo.putL M P X⟩ 0).p < 0 by rw [← HRES.out]; exact hp0) h, fun _ _ => ?_⟩
      rw [← HRES.out]
      rw [HNP.out, HNG.out, HLN.out] at kVE
      exact ⟨v9, rfl, oE, ⟨⟨_, _, _, _, _, _, _, _, _, _, kVE, hEP, hEG, hET, HOV.out.2.2.2.1, hEL, kLE, HOV.out.2.2.2.2 _ (by omega), z4, z5⟩, HSL.out⟩, wm6, AE⟩)
     have q0 := cell_of KF 0
     have q1 := cell_of KF 1
     have sz0 := cell_of kF9 0
     have sz1 := cell_of kF9 1
     have fz0 := free_of kF9 0
     have fz1 := free_of kF9 1
     simp at q0 q1 sz0 sz1
     clear KF aF AE oE kVE kLE kL9 kV9 kF9 o9 HTOLD g0 fg0 g1 fg1 g2 fg2 g3 fg3 g4 fg4 g5 fg5 kv yv
     go_wp2
     exact bodyPost_ret (v := .tuple #[v9, .agg #[.int .i64 0, .int .i64 0]]) (by simp [results, Tryd.results13, go_sem, q0, q1]) rfl HRP.out
end Go.Proofs.YtkgbmgpdehmiiaaDoor
