import Derived.Test.YtkgbmgpdehmiiaaDoorY41
import Derived.Test.YtkgbmgpdehmiiaaDoorY39
import Derived.Test.YtkgbmgpdehmiiaaDoorY19
import Derived.WalkKit
import Derived.WalkSpells
import Derived.IntWalk
import Derived.Deep.Cut
import Derived.Deep.LoopGhost
import Derived.Laws.Cover1
import Derived.Lib.Hide
set_option linter.unusedVariables false
set_option linter.unusedSimpArgs false
set_option maxHeartbeats 64000000
set_option maxRecDepth 100000
namespace Go.Proofs.YtkgbmgpdehmiiaaDoor
open Go.RowKit Go.IntWalk
set_option linter.unusedVariables false
set_option linter.unusedSimpArgs false
theorem Tryd.infoBl : (Tryd.prog.info? 4).map (fun i => (i.zero, i.size, i.bytes)) = some (some (.bool false), 1, 1) := by kernel_rfl
theorem make_bools (n : Nat) (hn : n ≤ 1000000) (V : World) : (Instr.makeSlice 54 (.int .i64 (n : Int)) (.int .i64 (n : Int))).run Tryd.prog V = .ok (.slice (some ⟨V.heap.size, 0, none⟩) n n) (V.alloc (.cells ((List.range n).map fun (i : Nat) => Value.bool ((fun (_ : Int) => false) (i : Int))).toArray 4 (0, 0))) := by
 obtain ⟨i0, hi, hz0, hz1, hz2⟩ := info_parts Tryd.infoBl
 have h := run_make (P := Tryd.prog) V 54 4 i0 (.bool false) Tryd.underlying54 hi hz0 .i64 .i64 (n : Int) (n : Int) (by omega) (by omega) (by rw [hz2]; simp; omega) (by omega)
 have e : madeCells (Value.bool false).cells (((n : Int)).toNat * i0.size) = ((List.range n).map fun (i : Nat) => Value.bool ((fun (_ : Int) => false) (i : Int))).toArray := by
  rw [hz1]
  apply Array.ext_getElem?
  intro j
  by_cases hj : j < n
  ·simp [madeCells, Value.cells, hj, Nat.mod_one]
  ·simp [madeCells, Value.cells, hj]
 rw [e] at h
 simpa using h
theorem HIns.below {ok : Nat → Prop} {w w' : World} {v : Value} {l : List Cd.In} (h : HIns ok w v l) (b : Below w.heap.size w w') : HIns ok w' v l := HRow.keep h b.size fun i _ hl => b.block i hl
theorem clone21_at {ok : Nat → Prop} {w : World} {v : Value} {l : List Int} (hl : HInts ok w v l) (hlen : l.length ≤ 1000000) : Calls Tryd.prog 21 #[v] w fun e w' => ∃ a c, e = .returned (.slice a l.length c) ∧ HInts (fun i => w.heap.size ≤ i ∧ i < w'.heap.size) w' (.slice a l.length c) l ∧ Below w.heap.size w w' := by
 refine (clone25_any w.heap.size hl hlen (Nat.le_refl _)).mono ?_
 rintro e w' ⟨a, c, rfl, h, b⟩
 exact ⟨a, c, rfl, h.wide (fun i h1 h2 => ⟨h1, h2⟩), b⟩
theorem clone22_at {ok : Nat → Prop} {w : World} {v : Value} {l : List Cd.In} (hl : HIns ok w v l) (hlen : l.length ≤ 1000000) : Calls Tryd.prog 22 #[v] w fun e w' => ∃ a c, e = .returned (.slice a l.length c) ∧ HIns (fun i => w.heap.size ≤ i ∧ i < w'.heap.size) w' (.slice a l.length c) l ∧ Below w.heap.size w w' := by
 refine (cloneIns_any hl hlen).mono ?_
 rintro e w' ⟨a, c, rfl, h, b⟩
 exact ⟨a, c, rfl, HRow.wide h (fun i h1 h2 => ⟨h1, h2⟩), b⟩
/-- a VM, with what it holds -/
structure VAt (ok : Nat → Prop) (w : World) (vb : Nat) (P G : List Int) (C : List Cd.In) (f : Int → Bool) (nc : Nat) (M : List Int) (st : Int) : Prop where
 x : ∃ aP cP aG cG tb tc aL cL cb cc, VB w vb (.slice aP P.length cP) (.slice aG G.length cG) (.slice (some ⟨tb, 0, none⟩) nc tc) (.slice aL C.length cL) cb nc cc st ∧ HInts ok w (.slice aP P.length cP) P ∧ HInts ok w (.slice aG G.length cG) G ∧ BF w tb nc f ∧ ok tb ∧ HIns ok w (.slice aL C.length cL) C ∧ LX w cb M ∧ ok cb ∧ nc ≤ cc ∧ cc ≤ maxLen
 l : M.length = nc
theorem VAt.lt {ok : Nat → Prop} {w : World} {vb : Nat} {P G : List Int} {C : List Cd.In} {f : Int → Bool} {nc : Nat} {M : List Int} {st : Int} (h : VAt ok w vb P G C f nc M st) : vb < w.heap.size := by
 obtain ⟨aP, cP, aG, cG, tb, tc, aL, cL, cb, cc, h, -⟩ := h.x
 exact h.lt
theorem VAt.keep {ok : Nat → Prop} {w w' : World} {vb : Nat} {P G : List Int} {C : List Cd.In} {f : Int → Bool} {nc : Nat} {M : List Int} {st : Int} (h : VAt ok w vb P G C f nc M st) (h1 : w.heap.size ≤ w'.heap.size) (h2 : ∀ i, ok i → i < w.heap.size → w'.heap[i]? = w.heap[i]?) (h3 : w'.heap[vb]? = w.heap[vb]?) : VAt ok w' vb P G C f nc M st := by
 obtain ⟨aP, cP, aG, cG, tb, tc, aL, cL, cb, cc, k1, k2, k3, k4, k5, k6, k7, k8, k9, k10⟩ := h.x
 exact ⟨⟨aP, cP, aG, cG, tb, tc, aL, cL, cb, cc, k1.keep h3, k2.keep h1 h2, k3.keep h1 h2, k4.keep (h2 _ k5 k4.lt), k5, HRow.keep k6 h1 h2, k7.keep (h2 _ k8 k7.lt), k8, k9, k10⟩, h.l⟩
theorem VAt.below {ok : Nat → Prop} {w w' : World} {vb : Nat} {P G : List Int} {C : List Cd.In} {f : Int → Bool} {nc : Nat} {M : List Int} {st : Int} (h : VAt ok w vb P G C f nc M st) (b : Below w.heap.size w w') : VAt ok w' vb P G C f nc M st := h.keep b.size (fun i _ hl => b.block i hl) (b.block _ h.lt)
theorem VAt.wide {ok ok' : Nat → Prop} {w : World} {vb : Nat} {P G : List Int} {C : List Cd.In} {f : Int → Bool} {nc : Nat} {M : List Int} {st : Int} (h : VAt ok w vb P G C f nc M st) (hk : ∀ i, ok i → i < w.heap.size → ok' i) : VAt ok' w vb P G C f nc M st := by
 obtain ⟨aP, cP, aG, cG, tb, tc, aL, cL, cb, cc, k1, k2, k3, k4, k5, k6, k7, k8, k9, k10⟩ := h.x
 exact ⟨⟨aP, cP, aG, cG, tb, tc, aL, cL, cb, cc, k1, k2.wide hk, k3.wide hk, k4, hk _ k5 k4.lt, HRow.wide k6 hk, k7, hk _ k8 k7.lt, k9, k10⟩, h.l⟩
/-- what New answers -/
structure NewP (w : World) (m : Cd.Im) (e : Ending) (w' : World) : Prop where
 bad : (Cd.fault m).1 ≠ 0 → e = .returned (.tuple #[.pointer none, .agg #[.int .i64 (Cd.fault m).1, .int .i64 (Cd.fault m).2]])
 good : (Cd.fault m).1 = 0 → ∃ vb, w.heap.size ≤ vb ∧ e = .returned (.tuple #[.pointer (some ⟨vb, 0, none⟩), .agg #[.int .i64 0, .int .i64 0]]) ∧ VAt (fun i => w.heap.size ≤ i ∧ i ≠ vb) w' vb m.P m.G m.l (fun j => decide (j ∈ m.B)) m.c.toNat (List.replicate m.c.toNat 0) 0
 b : Below w.heap.size w w'
/-- what New has made, ahead of the truths -/
structure NewC (w3 : World) (P G : List Int) (C : List Cd.In) (np ng ln nc : Nat) (v : Value) (wd : World) : Prop where
 x : ∃ vb aP cP aG cG aL cL tb cb, v = .pointer (some ⟨vb, 0, none⟩) ∧ VB wd vb (.slice aP np cP) (.slice aG ng cG) (.slice (some ⟨tb, 0, none⟩) nc nc) (.slice aL ln cL) cb nc nc 0 ∧ HInts (fun i => w3.heap.size ≤ i ∧ i ≠ tb ∧ i ≠ vb) wd (.slice aP np cP) P ∧ HInts (fun i => w3.heap.size ≤ i ∧ i ≠ tb ∧ i ≠ vb) wd (.slice aG ng cG) G ∧ HIns (fun i => w3.heap.size ≤ i ∧ i ≠ tb ∧ i ≠ vb) wd (.slice aL ln cL) C ∧ BF wd tb nc (fun _ => false) ∧ LX wd cb (List.replicate nc 0) ∧ w3.heap.size ≤ tb ∧ w3.heap.size ≤ cb ∧ tb ≠ cb ∧ tb ≠ vb ∧ cb ≠ vb ∧ w3.heap.size ≤ vb
 b : Below w3.heap.size w3 wd
set_option maxHeartbeats 64000000 in
theorem new10_any {okL : Nat → Prop} {w : World} {aP aB aG aL : Option Addr} {cP cB cG cL : Nat} {m : Cd.Im} (hK : GlobK w) (hm : HIm okL w aP aB aG aL cP cB cG cL m) :
  Calls Tryd.prog 10 #[.agg #[.int .i64 m.c, .int .i64 m.R, .int .i64 m.cost, .slice aP m.P.length cP, .slice aB m.B.length cB, .slice aG m.G.length cG, .slice aL m.l.length cL]] w (NewP w m) := by
 have hm0 : HIm (fun i => i < w.heap.size) w aP aB aG aL cP cB cG cL m := hm.wide fun _ _ h => h
 have b1 : Below w.heap.size w ((w.alloc (.cells #[.int .i64 m.c, .int .i64 m.R, .int .i64 m.cost, .slice aP m.P.length cP, .slice aB m.B.length cB, .slice aG m.G.length cG, .slice aL m.l.length cL] 25 (0, 0))).alloc (.cells #[.int .i64 0, .int .i64 0] 34 (0, 0))) := ((Below.refl _ _).alloc (Nat.le_refl _) _).alloc (by simp) _
 have kR : (((w.alloc (.cells #[.int .i64 m.c, .int .i64 m.R, .int .i64 m.cost, .slice aP m.P.length cP, .slice aB m.B.length cB, .slice aG m.G.length cG, .slice aL m.l.length cL] 25 (0, 0))).alloc (.cells #[.int .i64 0, .int .i64 0] 34 (0, 0)))).heap[w.heap.size]? = some (.cells #[.int .i64 m.c, .int .i64 m.R, .int .i64 m.cost, .slice aP m.P.length cP, .slice aB m.B.length cB, .slice aG m.G.length cG, .slice aL m.l.length cL] 25 (0, 0)) := (Below.heap_alloc _ _ _ (by simp)).trans (heap_new w _)
 have kF : (((w.alloc (.cells #[.int .i64 m.c, .int .i64 m.R, .int .i64 m.cost, .slice aP m.P.length cP, .slice aB m.B.length cB, .slice aG m.G.length cG, .slice aL m.l.length cL] 25 (0, 0))).alloc (.cells #[.int .i64 0, .int .i64 0] 34 (0, 0)))).heap[w.heap.size + 1]? = some (.cells #[.int .i64 0, .int .i64 0] 34 (0, 0)) := by
  have := heap_new (w.alloc (.cells #[.int .i64 m.c, .int .i64 m.R, .int .i64 m.cost, .slice aP m.P.length cP, .slice aB m.B.length cB, .slice aG m.G.length cG, .slice aL m.l.length cL] 25 (0, 0))) (.cells #[.int .i64 0, .int .i64 0] 34 (0, 0))
  simpa using this
 have zw : w.heap.size + 2 ≤ (((w.alloc (.cells #[.int .i64 m.c, .int .i64 m.R, .int .i64 m.cost, .slice aP m.P.length cP, .slice aB m.B.length cB, .slice aG m.G.length cG, .slice aL m.l.length cL] 25 (0, 0))).alloc (.cells #[.int .i64 0, .int .i64 0] 34 (0, 0)))).heap.size := by simp
 have HM := hide (fun W (b : Below w.heap.size w W) => hm0.under b)
 have HK := hide (fun W (b : Below w.heap.size w W) => hK.under b)
 have HC := hide (fun W (b : Below w.heap.size w W) => check8_any (hK.under b) (hm0.under b))
 clear hm hm0 hK
 obtain ⟨mc, hmc⟩ : ∃ x, x = m.c := ⟨_, rfl⟩
 obtain ⟨mR, hmR⟩ : ∃ x, x = m.R := ⟨_, rfl⟩
 obtain ⟨mk, hmk⟩ : ∃ x, x = m.cost := ⟨_, rfl⟩
 obtain ⟨np, hnp⟩ : ∃ x, x = m.P.length := ⟨_, rfl⟩
 obtain ⟨nb, hnb⟩ : ∃ x, x = m.B.length := ⟨_, rfl⟩
 obtain ⟨ng, hng⟩ : ∃ x, x = m.G.length := ⟨_, rfl⟩
 obtain ⟨ln, hln⟩ : ∃ x, x = m.l.length := ⟨_, rfl⟩
 rw [← hmc, ← hmR, ← hmk, ← hnp, ← hnb, ← hng, ← hln] at b1 kR kF zw HC ⊢
 have HMC := hide hmc
 have HNP := hide hnp
 have HNB := hide hnb
 have HNG := hide hng
 have HLN := hide hln
 clear hmc hmR hmk hnp hnb hng hln
 obtain ⟨f1, hf1⟩ : ∃ f1, f1 = (Cd.fault m).1 := ⟨_, rfl⟩
 obtain ⟨f2, hf2⟩ : ∃ f2, f2 = (Cd.fault m).2 := ⟨_, rfl⟩
 rw [← hf1, ← hf2] at HC
 have HF1 := hide hf1
 have HF2 := hide hf2
 clear hf1 hf2
 go_enter Tryd.func10, Tryd.ntmps10
 go_upto_region 1 with fail
 generalize ((w.alloc (.cells #[.int .i64 mc, .int .i64 mR, .int .i64 mk, .slice aP np cP, .slice aB nb cB, .slice aG ng cG, .slice aL ln cL] 25 (0, 0))).alloc (.cells #[.int .i64 0, .int .i64 0] 34 (0, 0))) = w1 at b1 kR kF zw ⊢
 have HC1 := hide (HC.out w1 b1)
 have c0 := cell_of kR 0
 have c1 := cell_of kR 1
 have c2 := cell_of kR 2
 have c3 := cell_of kR 3
 have c4 := cell_of kR 4
 have c5 := cell_of kR 5
 have c6 := cell_of kR 6
 simp at c0 c1 c2 c3 c4 c5 c6
 have yR0 := lt_of kR
 clear HC
 go_wp2_with fail
 refine HC1.out.mono ?_
 rintro e w2 ⟨rfl, b2⟩
 have B2 := b1.trans (b2.mono b1.size)
 have kR2 := (b2.block _ (lt_of kR)).trans kR
 have kF2 := (b2.block _ (lt_of kF)).trans kF
 have zw2 := Nat.le_trans zw b2.size
 clear c0 c1 c2 c3 c4 c5 c6 kR kF HC1 b1 b2 yR0
 have b3 : Below w2.heap.size w2 (w2.alloc (.cells #[.int .i64 f1, .int .i64 f2] 34 (0, 0))) := (Below.refl _ _).alloc (Nat.le_refl _) _
 have k4 := heap_new w2 (.cells #[.int .i64 f1, .int .i64 f2] 34 (0, 0))
 go_upto_region 2 with fail
 generalize w2.alloc (.cells #[.int .i64 f1, .int .i64 f2] 34 (0, 0)) = w3 at b3 k4 ⊢
 have B3 := B2.trans (b3.mono B2.size)
 have kR3 := (b3.block _ (lt_of kR2)).trans kR2
 have kF3 := (b3.block _ (lt_of kF2)).trans kF2
 have zw3 := Nat.le_trans zw2 b3.size
 clear kR2 kF2 b3 B2
 have g0 := cell_of k4 0
 have g1 := cell_of k4 1
 simp at g0 g1
 have y4 := lt_of k4
 have yR := lt_of kR3
 have yF := lt_of kF3
 by_cases hz : f1 = 0
 case neg =>
  have hzb : (f1 != 0) = true := by simpa using hz
  go_upto_region 3 with fail
  refine wp_region_late (fun w' => Aside [w.heap.size + 1] w3.heap.size w3 w') (fun _ => false) (by kernel_rfl) ?_
  have hH0 : Aside [w.heap.size + 1] w3.heap.size w3 w3.drew := (Aside.refl _).drew
  have KF0 : w3.drew.heap[w.heap.size + 1]? = some (.cells #[.int .i64 0, .int .i64 0] 34 (0, 0)) := kF3
  generalize w3.drew = wd0 at hH0 KF0 ⊢
  refine' wpAnyL_take (i := 0) (oi := ⟨some 13, _, _, _, _, _⟩) (v := _) rfl (by kernel_rfl) (by kernel_rfl) (by kernel_rfl) (by kernel_rfl) (fun _ _ _ h => h) hH0 (by rfl) ?hyv ?o1
  case hyv =>
   intro wz hSw
   have zc0 := (aside_cell hSw (p := ⟨w2.heap.size, 0, none⟩) y4 (by simp; omega)).trans g0
   have zc1 := (aside_cell hSw (p := ⟨w2.heap.size, 1, none⟩) y4 (by simp; omega)).trans g1
   go_simp
   try rfl
  try simp only [Act.put, sT, sZ, sS]
  refine' wpAnyL_take (i := 1) (oi := ⟨some 2, _, _, _, _, _⟩) (v := _) rfl (by kernel_rfl) (by kernel_rfl) (by kernel_rfl) (by kernel_rfl) (fun _ _ _ h => h) hH0 (by rfl) ?hyv ?o2
  case hyv =>
   intro wz hSw
   go_simp
   try rfl
  try simp only [Act.put, sT, sZ, sS]
  refine wpAnyL_one (i := 2) (o := _) rfl (by kernel_rfl) (by rfl) (fun K hK => ?_)
  have kX := KF0
  have st0 := cell_of kX 0
  have st1 := cell_of kX 1
  have fst0 := free_of kX 0
  have fst1 := free_of kX 1
  simp at st0 st1
  have KF := two_set kX (.int .i64 f1) (.int .i64 f2)
  have a0 : Aside [w.heap.size + 1] wd0.heap.size wd0 ((wd0.setCell ⟨w.heap.size + 1, 0, none⟩ (.int .i64 f1)).setCell ⟨w.heap.size + 1, 1, none⟩ (.int .i64 f2)) := aside_two (by simp) (.int .i64 f1) (.int .i64 f2)
  have hH1 : Aside [w.heap.size + 1] w3.heap.size w3 ((wd0.setCell ⟨w.heap.size + 1, 0, none⟩ (.int .i64 f1)).setCell ⟨w.heap.size + 1, 1, none⟩ (.int .i64 f2)) := hH0.trans a0 hH0.size
  go_simp
  refine hK.out _ _ (fun _ => hH1) ?_
  clear hK K a0 kX st0 st1 fst0 fst1
  try simp only [Act.put, sT, sZ, sS]
  generalize ((wd0.setCell ⟨w.heap.size + 1, 0, none⟩ (.int .i64 f1)).setCell ⟨w.heap.size + 1, 1, none⟩ (.int .i64 f2)) = wd1 at hH1 KF ⊢
  refine wpAnyL_done (by kernel_rfl) ?_ _
  have z0 := cell_of KF 0
  have z1 := cell_of KF 1
  simp at z0 z1
  have BX := aside_low B3 hH1 (Nat.le_refl _) (by simp)
  go_wp2
  exact bodyPost_ret (v := .tuple #[.pointer none, .agg #[.int .i64 f1, .int .i64 f2]]) (by simp [results, Tryd.results10, go_sem, z0, z1]) rfl ⟨fun _ => by rw [← HF1.out, ← HF2.out], fun h => absurd (HF1.out.trans h) hz, BX⟩
 case pos =>
  subst hz
  have hgd := Cd.good_of HF1.out.symm
  obtain ⟨nc, hnc⟩ : ∃ nc : Nat, m.c = (nc : Int) := ⟨m.c.toNat, by have := hgd.1.1; omega⟩
  have hmc2 : mc = (nc : Int) := HMC.out.trans hnc
  subst hmc2
  have HNC := hide hnc
  have HGD := hide hgd
  have hnc6 : nc ≤ 6000 := by have := hgd.1.2.1; omega
  have hB6 : nb ≤ 6000 := by have := hgd.2.1.2.1; have := HNB.out; omega
  have hP6 : np ≤ 1000000 := by have := hgd.2.1.1; have := HNP.out; omega
  have hG6 : ng ≤ 1000000 := by have := hgd.2.1.2.2.1; have := HNG.out; omega
  have hL6 : ln ≤ 1000000 := by have := hgd.2.1.2.2.2; have := HLN.out; omega
  obtain ⟨LZ, hLZ⟩ : ∃ LZ, LZ = ((List.replicate nc (0 : Int)).map (Value.int .i64)).toArray := ⟨_, rfl⟩
  obtain ⟨LB4, hLB⟩ : ∃ LB4, LB4 = ((List.range nc).map fun (i : Nat) => Value.bool ((fun (_ : Int) => false) (i : Int))).toArray := ⟨_, rfl⟩
  have HLZ := hide hLZ
  have HLB := hide hLB
  have HMK := hide (fun V => make_longs nc nc (Nat.le_refl _) (by omega) V)
  have HMB := hide (fun V => make_bools nc (by omega) V)
  have hM3 := HM.out w3 B3
  have hp3 := hM3.P
  have hg3 := hM3.G
  have hl3 := hM3.L
  obtain ⟨P, hPe⟩ : ∃ P, P = m.P := ⟨_, rfl⟩
  obtain ⟨G, hGe⟩ : ∃ G, G = m.G := ⟨_, rfl⟩
  obtain ⟨C, hCe⟩ : ∃ C, C = m.l := ⟨_, rfl⟩
  rw [← hPe] at hp3 HNP
  rw [← hGe] at hg3 HNG
  rw [← hCe] at hl3 HLN
  have HCP := hide (fun W (b : Below w3.heap.size w3 W) => clone21_at (hp3.below b) (by have := HNP.out; omega))
  have HCG := hide (fun W (b : Below w3.heap.size w3 W) => clone21_at (hg3.below b) (by have := HNG.out; omega))
  have HCL := hide (fun W (b : Below w3.heap.size w3 W) => clone22_at (hl3.below b) (by have := HLN.out; omega))
  rw [← HNP.out] at HCP
  rw [← HNG.out] at HCG
  rw [← HLN.out] at HCL
  have HPE := hide hPe
  have HGE := hide hGe
  have HCE := hide hCe
  clear hnc hgd hLZ hLB hM3 hp3 hg3 hl3 hPe hGe hCe
  have c0 := cell_of kR3 0
  have c1 := cell_of kR3 1
  have c2 := cell_of kR3 2
  have c3 := cell_of kR3 3
  have c4 := cell_of kR3 4
  have c5 := cell_of kR3 5
  have c6 := cell_of kR3 6
  simp at c0 c1 c2 c3 c4 c5 c6
  go_upto_region 4 with fail
  clear g0 g1 k4 y4
  go_cut [5] (fun v wd => NewC w3 P G C np ng ln nc v wd)
  case first =>
   refine wp_region_late (fun w' => Below w3.heap.size w3 w') (fun _ => false) (by kernel_rfl) ?_
   have hH0 : Below w3.heap.size w3 w3.drew := (Below.refl _ _).drew
   generalize w3.drew = wd0 at hH0 ⊢
   refine' wpAnyL_take (i := 0) (oi := ⟨some 14, _, _, _, _, _⟩) (v := _) rfl (by kernel_rfl) (by kernel_rfl) (by kernel_rfl) (by kernel_rfl) (fun _ _ _ h => h) hH0 (by rfl) ?hyv ?o3
   case hyv =>
    intro wz hSw
    go_simp
    try rfl
   try simp only [Act.put, sT, sZ, sS]
   refine' wpAnyL_take (i := 1) (oi := ⟨some 15, _, _, _, _, _⟩) (v := _) rfl (by kernel_rfl) (by kernel_rfl) (by kernel_rfl) (by kernel_rfl) (fun _ _ _ h => h) hH0 (by rfl) ?hyv ?o4
   case hyv =>
    intro wz hSw
    have zc0 := (hSw.cell (p := ⟨w.heap.size, 0, none⟩) yR).trans c0
    have zc1 := (hSw.cell (p := ⟨w.heap.size, 3, none⟩) yR).trans c3
    have zc2 := (hSw.cell (p := ⟨w.heap.size, 5, none⟩) yR).trans c5
    have zc3 := (hSw.cell (p := ⟨w.heap.size, 6, none⟩) yR).trans c6
    go_simp
    try rfl
   try simp only [Act.put, sT, sZ, sS]
   refine' wpAnyL_take (i := 3) (oi := ⟨some 17, _, _, _, _, _⟩) (v := _) rfl (by kernel_rfl) (by kernel_rfl) (by kernel_rfl) (by kernel_rfl) (fun _ _ _ h => h) hH0 (by rfl) ?hyv ?o5
   case hyv =>
    intro wz hSw
    go_simp
    try rfl
   try simp only [Act.put, sT, sZ, sS]
   refine' wpAnyL_take (i := 4) (oi := ⟨some 18, _, _, _, _, _⟩) (v := _) rfl (by kernel_rfl) (by kernel_rfl) (by kernel_rfl) (by kernel_rfl) (fun _ _ _ h => h) hH0 (by rfl) ?hyv ?o6
   case hyv =>
    intro wz hSw
    have zc0 := (hSw.cell (p := ⟨w.heap.size, 0, none⟩) yR).trans c0
    have zc1 := (hSw.cell (p := ⟨w.heap.size, 3, none⟩) yR).trans c3
    have zc2 := (hSw.cell (p := ⟨w.heap.size, 5, none⟩) yR).trans c5
    have zc3 := (hSw.cell (p := ⟨w.heap.size, 6, none⟩) yR).trans c6
    go_simp
    try rfl
   try simp only [Act.put, sT, sZ, sS]
   refine' wpAnyL_take (i := 6) (oi := ⟨some 20, _, _, _, _, _⟩) (v := _) rfl (by kernel_rfl) (by kernel_rfl) (by kernel_rfl) (by kernel_rfl) (fun _ _ _ h => h) hH0 (by rfl) ?hyv ?o7
   case hyv =>
    intro wz hSw
    go_simp
    try rfl
   try simp only [Act.put, sT, sZ, sS]
   refine' wpAnyL_take (i := 7) (oi := ⟨some 21, _, _, _, _, _⟩) (v := _) rfl (by kernel_rfl) (by kernel_rfl) (by kernel_rfl) (by kernel_rfl) (fun _ _ _ h => h) hH0 (by rfl) ?hyv ?o8
   case hyv =>
    intro wz hSw
    have zc0 := (hSw.cell (p := ⟨w.heap.size, 0, none⟩) yR).trans c0
    have zc1 := (hSw.cell (p := ⟨w.heap.size, 3, none⟩) yR).trans c3
    have zc2 := (hSw.cell (p := ⟨w.heap.size, 5, none⟩) yR).trans c5
    have zc3 := (hSw.cell (p := ⟨w.heap.size, 6, none⟩) yR).trans c6
    go_simp
    try rfl
   try simp only [Act.put, sT, sZ, sS]
   refine' wpAnyL_take (i := 9) (oi := ⟨some 23, _, _, _, _, _⟩) (v := _) rfl (by kernel_rfl) (by kernel_rfl) (by kernel_rfl) (by kernel_rfl) (fun _ _ _ h => h) hH0 (by rfl) ?hyv ?o9
   case hyv =>
    intro wz hSw
    go_simp
    try rfl
   try simp only [Act.put, sT, sZ, sS]
   refine' wpAnyL_take (i := 10) (oi := ⟨some 24, _, _, _, _, _⟩) (v := _) rfl (by kernel_rfl) (by kernel_rfl) (by kernel_rfl) (by kernel_rfl) (fun _ _ _ h => h) hH0 (by rfl) ?hyv ?o10
   case hyv =>
    intro wz hSw
    have zc0 := (hSw.cell (p := ⟨w.heap.size, 0, none⟩) yR).trans c0
    have zc1 := (hSw.cell (p := ⟨w.heap.size, 3, none⟩) yR).trans c3
    have zc2 := (hSw.cell (p := ⟨w.heap.size, 5, none⟩) yR).trans c5
    have zc3 := (hSw.cell (p := ⟨w.heap.size, 6, none⟩) yR).trans c6
    go_simp
    try rfl
   try simp only [Act.put, sT, sZ, sS]
   refine' wpAnyL_take (i := 12) (oi := ⟨some 26, _, _, _, _, _⟩) (v := _) rfl (by kernel_rfl) (by kernel_rfl) (by kernel_rfl) (by kernel_rfl) (fun _ _ _ h => h) hH0 (by rfl) ?hyv ?o11
   case hyv =>
    intro wz hSw
    go_simp
    try rfl
   try simp only [Act.put, sT, sZ, sS]
   refine' wpAnyL_take (i := 13) (oi := ⟨some 27, _, _, _, _, _⟩) (v := _) rfl (by kernel_rfl) (by kernel_rfl) (by kernel_rfl) (by kernel_rfl) (fun _ _ _ h => h) hH0 (by rfl) ?hyv ?o12
   case hyv =>
    intro wz hSw
    have zc0 := (hSw.cell (p := ⟨w.heap.size, 0, none⟩) yR).trans c0
    have zc1 := (hSw.cell (p := ⟨w.heap.size, 3, none⟩) yR).trans c3
    have zc2 := (hSw.cell (p := ⟨w.heap.size, 5, none⟩) yR).trans c5
    have zc3 := (hSw.cell (p := ⟨w.heap.size, 6, none⟩) yR).trans c6
    go_simp
    try rfl
   try simp only [Act.put, sT, sZ, sS]
   refine wpAnyL_three (i := 2) (j := 8) (k := 14) rfl rfl rfl (by kernel_rfl) (by rfl) (by rfl) (by rfl) (fun K hK => ?_) (fun K hK => ?_) (fun K hK => ?_) 
   case _ =>
    go_simp
    refine (HCP.out wd0 hH0).mono ?_
    rintro eq wd1 ⟨aPq, dPq, rfl, pPq, bq1⟩
    have hH1 : Below w3.heap.size w3 wd1 := hH0.trans (bq1.mono hH0.size)
    have zs1 := bq1.size
    refine hK.out _ _ (fun _ => hH1) ?_
    clear hK K
    try simp only [Act.put, sT, sZ, sS]
    refine wpAnyL_three (i := 5) (j := 8) (k := 14) rfl rfl rfl (by kernel_rfl) (by rfl) (by rfl) (by rfl) (fun K hK => ?_) (fun K hK => ?_) (fun K hK => ?_) 
    case _ =>
     go_simp
     refine (HCG.out wd1 hH1).mono ?_
     rintro eq wd2 ⟨aGq, dGq, rfl, pGq, bq2⟩
     have hH2 : Below w3.heap.size w3 wd2 := hH1.trans (bq2.mono hH1.size)
     have zs2 := bq2.size
     have pPq_2 := pPq.below bq2
     refine hK.out _ _ (fun _ => hH2) ?_
     clear hK K
     try simp only [Act.put, sT, sZ, sS]
     refine wpAnyL_three (i := 8) (j := 11) (k := 14) rfl rfl rfl (by kernel_rfl) (by rfl) (by rfl) (by rfl) (fun K hK => ?_) (fun K hK => ?_) (fun K hK => ?_) 
     case _ =>
      have hmk3 := HMB.out wd2; rw [← HLB.out] at hmk3; go_simp
      have hH3 : Below w3.heap.size w3 (wd2.alloc (.cells LB4 4 (0, 0))) := hH2.alloc hH2.size _
      have kn3 := heap_new wd2 (.cells LB4 4 (0, 0))
      have zn3 := hH2.size
      refine hK.out _ _ (fun _ => hH3) ?_
      clear hK K
      try simp only [Act.put, sT, sZ, sS]
      have pPq_3 := pPq_2.below ((Below.refl _ wd2).alloc (Nat.le_refl _) (.cells LB4 4 (0, 0)))
      have pGq_3 := pGq.below ((Below.refl _ wd2).alloc (Nat.le_refl _) (.cells LB4 4 (0, 0)))
      generalize wd2.alloc (.cells LB4 4 (0, 0)) = wd3 at pPq_3 pGq_3 hH3 kn3 ⊢
      clear hmk3
      have zs3 := lt_of kn3
      refine wpAnyL_two (i := 11) (j := 14) rfl rfl (by kernel_rfl) (by rfl) (by rfl) (fun K hK => ?_) (fun K hK => ?_)
      case _ =>
       go_simp
       refine (HCL.out wd3 hH3).mono ?_
       rintro eq wd4 ⟨aLq, dLq, rfl, pLq, bq4⟩
       have kn3_4 := (bq4.block _ (lt_of kn3)).trans kn3
       have hH4 : Below w3.heap.size w3 wd4 := hH3.trans (bq4.mono hH3.size)
       have zs4 := bq4.size
       have pPq_4 := pPq_3.below bq4
       have pGq_4 := pGq_3.below bq4
       refine hK.out _ _ (fun _ => hH4) ?_
       clear hK K
       try simp only [Act.put, sT, sZ, sS]
       refine wpAnyL_one (i := 14) (o := _) rfl (by kernel_rfl) (by rfl) (fun K hK => ?_)
       have hmk5 := HMK.out wd4; rw [← HLZ.out] at hmk5; go_simp
       have hH5 : Below w3.heap.size w3 (wd4.alloc (.cells LZ 2 (0, 0))) := hH4.alloc hH4.size _
       have kn5 := heap_new wd4 (.cells LZ 2 (0, 0))
       have zn5 := hH4.size
       refine hK.out _ _ (fun _ => hH5) ?_
       clear hK K
       try simp only [Act.put, sT, sZ, sS]
       have ne5_kn3 := lt_of kn3_4
       have kn3_5 := (Below.heap_alloc wd4 (.cells LZ 2 (0, 0)) _ (lt_of kn3_4)).trans kn3_4
       have pPq_5 := pPq_4.below ((Below.refl _ wd4).alloc (Nat.le_refl _) (.cells LZ 2 (0, 0)))
       have pGq_5 := pGq_4.below ((Below.refl _ wd4).alloc (Nat.le_refl _) (.cells LZ 2 (0, 0)))
       have pLq_5 := pLq.below ((Below.refl _ wd4).alloc (Nat.le_refl _) (.cells LZ 2 (0, 0)))
       generalize wd4.alloc (.cells LZ 2 (0, 0)) = wd5 at pPq_5 pGq_5 pLq_5 hH5 kn5 kn3_5 ⊢
       clear hmk5
       have zs5 := lt_of kn5
       refine' wpAnyL_take (i := 15) (oi := ⟨some 29, _, _, _, _, _⟩) (v := _) rfl (by kernel_rfl) (by kernel_rfl) (by kernel_rfl) (by kernel_rfl) (fun _ _ _ h => h) hH5 (by rfl) ?hyv ?o13
       case hyv =>
        intro wz hSw
        go_simp
        try rfl
       try simp only [Act.put, sT, sZ, sS]
       refine wpAnyL_one (i := 16) (o := _) rfl (by kernel_rfl) (by rfl) (fun K hK => ?_)
       go_simp
       have hH6 : Below w3.heap.size w3 (wd5.alloc (.cells #[.slice aPq np dPq, .slice aGq ng dGq, .slice (some ⟨wd2.heap.size, 0, none⟩) nc nc, .slice aLq ln dLq, .slice (some ⟨wd4.heap.size, 0, none⟩) nc nc, .int .i64 0] 57 (0, 0))) := hH5.alloc hH5.size _
       have kn6 := heap_new wd5 (.cells #[.slice aPq np dPq, .slice aGq ng dGq, .slice (some ⟨wd2.heap.size, 0, none⟩) nc nc, .slice aLq ln dLq, .slice (some ⟨wd4.heap.size, 0, none⟩) nc nc, .int .i64 0] 57 (0, 0))
       have zn6 := hH5.size
       refine hK.out _ _ (fun _ => hH6) ?_
       clear hK K
       try simp only [Act.put, sT, sZ, sS]
       have ne6_kn3 := lt_of kn3_5
       have ne6_kn5 := lt_of kn5
       have kn3_6 := (Below.heap_alloc wd5 (.cells #[.slice aPq np dPq, .slice aGq ng dGq, .slice (some ⟨wd2.heap.size, 0, none⟩) nc nc, .slice aLq ln dLq, .slice (some ⟨wd4.heap.size, 0, none⟩) nc nc, .int .i64 0] 57 (0, 0)) _ (lt_of kn3_5)).trans kn3_5
       have kn5_6 := (Below.heap_alloc wd5 (.cells #[.slice aPq np dPq, .slice aGq ng dGq, .slice (some ⟨wd2.heap.size, 0, none⟩) nc nc, .slice aLq ln dLq, .slice (some ⟨wd4.heap.size, 0, none⟩) nc nc, .int .i64 0] 57 (0, 0)) _ (lt_of kn5)).trans kn5
       have pPq_6 := pPq_5.below ((Below.refl _ wd5).alloc (Nat.le_refl _) (.cells #[.slice aPq np dPq, .slice aGq ng dGq, .slice (some ⟨wd2.heap.size, 0, none⟩) nc nc, .slice aLq ln dLq, .slice (some ⟨wd4.heap.size, 0, none⟩) nc nc, .int .i64 0] 57 (0, 0)))
       have pGq_6 := pGq_5.below ((Below.refl _ wd5).alloc (Nat.le_refl _) (.cells #[.slice aPq np dPq, .slice aGq ng dGq, .slice (some ⟨wd2.heap.size, 0, none⟩) nc nc, .slice aLq ln dLq, .slice (some ⟨wd4.heap.size, 0, none⟩) nc nc, .int .i64 0] 57 (0, 0)))
       have pLq_6 := pLq_5.below ((Below.refl _ wd5).alloc (Nat.le_refl _) (.cells #[.slice aPq np dPq, .slice aGq ng dGq, .slice (some ⟨wd2.heap.size, 0, none⟩) nc nc, .slice aLq ln dLq, .slice (some ⟨wd4.heap.size, 0, none⟩) nc nc, .int .i64 0] 57 (0, 0)))
       generalize wd5.alloc (.cells #[.slice aPq np dPq, .slice aGq ng dGq, .slice (some ⟨wd2.heap.size, 0, none⟩) nc nc, .slice aLq ln dLq, .slice (some ⟨wd4.heap.size, 0, none⟩) nc nc, .int .i64 0] 57 (0, 0)) = wd6 at pPq_6 pGq_6 pLq_6 hH6 kn6 kn3_6 kn5_6 ⊢
       have zs6 := lt_of kn6
       refine' wpAnyL_take (i := 17) (oi := ⟨some 5, _, _, _, _, _⟩) (v := _) rfl (by kernel_rfl) (by kernel_rfl) (by kernel_rfl) (by kernel_rfl) (fun _ _ _ h => h) hH6 (by rfl) ?hyv ?o14
       case hyv =>
        intro wz hSw
        go_simp
        try rfl
       try simp only [Act.put, sT, sZ, sS]
       refine wpAnyL_done (by kernel_rfl) ?_ _
       have zs0 := hH0.size
       have hb : BF wd6 wd2.heap.size nc (fun _ => false) := by unfold BF; rw [kn3_6, HLB.out]
       have hc : LX wd6 wd4.heap.size (List.replicate nc 0) := ⟨[], by rw [kn5_6, HLZ.out, List.append_nil]⟩
       have hv : VB wd6 wd5.heap.size (.slice aPq np dPq) (.slice aGq ng dGq) (.slice (some ⟨wd2.heap.size, 0, none⟩) nc nc) (.slice aLq ln dLq) wd4.heap.size nc nc 0 := kn6
       have hP := pPq_6.wide (ok' := fun i => w3.heap.size ≤ i ∧ i ≠ wd2.heap.size ∧ i ≠ wd5.heap.size) (fun i h _ => ⟨by omega, by omega, by omega⟩)
       have hG := pGq_6.wide (ok' := fun i => w3.heap.size ≤ i ∧ i ≠ wd2.heap.size ∧ i ≠ wd5.heap.size) (fun i h _ => ⟨by omega, by omega, by omega⟩)
       have hL := HRow.wide pLq_6 (ok' := fun i => w3.heap.size ≤ i ∧ i ≠ wd2.heap.size ∧ i ≠ wd5.heap.size) (fun i h _ => ⟨by omega, by omega, by omega⟩)
       have HN := hide (show NewC w3 P G C np ng ln nc (.pointer (some ⟨wd5.heap.size, 0, none⟩)) wd6 from ⟨⟨_, _, _, _, _, _, _, _, _, rfl, hv, hP, hG, hL, hb, hc, by omega, by omega, by omega, by omega, by omega, by omega⟩, hH6⟩)
       clear hb hc hv hP hG hL
       go_wp2_with fail
       go_meet
       case rel => exact HN
      case _ =>
       have hmk4 := HMK.out wd3; rw [← HLZ.out] at hmk4; go_simp
       have hH4 : Below w3.heap.size w3 (wd3.alloc (.cells LZ 2 (0, 0))) := hH3.alloc hH3.size _
       have kn4 := heap_new wd3 (.cells LZ 2 (0, 0))
       have zn4 := hH3.size
       refine hK.out _ _ (fun _ => hH4) ?_
       clear hK K
       try simp only [Act.put, sT, sZ, sS]
       have ne4_kn3 := lt_of kn3
       have kn3_4 := (Below.heap_alloc wd3 (.cells LZ 2 (0, 0)) _ (lt_of kn3)).trans kn3
       have pPq_4 := pPq_3.below ((Below.refl _ wd3).alloc (Nat.le_refl _) (.cells LZ 2 (0, 0)))
       have pGq_4 := pGq_3.below ((Below.refl _ wd3).alloc (Nat.le_refl _) (.cells LZ 2 (0, 0)))
       generalize wd3.alloc (.cells LZ 2 (0, 0)) = wd4 at pPq_4 pGq_4 hH4 kn4 kn3_4 ⊢
       clear hmk4
       have zs4 := lt_of kn4
       refine wpAnyL_one (i := 11) (o := _) rfl (by kernel_rfl) (by rfl) (fun K hK => ?_)
       go_simp
       refine (HCL.out wd4 hH4).mono ?_
       rintro eq wd5 ⟨aLq, dLq, rfl, pLq, bq5⟩
       have kn3_5 := (bq5.block _ (lt_of kn3_4)).trans kn3_4
       have kn4_5 := (bq5.block _ (lt_of kn4)).trans kn4
       have hH5 : Below w3.heap.size w3 wd5 := hH4.trans (bq5.mono hH4.size)
       have zs5 := bq5.size
       have pPq_5 := pPq_4.below bq5
       have pGq_5 := pGq_4.below bq5
       refine hK.out _ _ (fun _ => hH5) ?_
       clear hK K
       try simp only [Act.put, sT, sZ, sS]
       refine' wpAnyL_take (i := 15) (oi := ⟨some 29, _, _, _, _, _⟩) (v := _) rfl (by kernel_rfl) (by kernel_rfl) (by kernel_rfl) (by kernel_rfl) (fun _ _ _ h => h) hH5 (by rfl) ?hyv ?o15
       case hyv =>
        intro wz hSw
        go_simp
        try rfl
       try simp only [Act.put, sT, sZ, sS]
       refine wpAnyL_one (i := 16) (o := _) rfl (by kernel_rfl) (by rfl) (fun K hK => ?_)
       go_simp
       have hH6 : Below w3.heap.size w3 (wd5.alloc (.cells #[.slice aPq np dPq, .slice aGq ng dGq, .slice (some ⟨wd2.heap.size, 0, none⟩) nc nc, .slice aLq ln dLq, .slice (some ⟨wd3.heap.size, 0, none⟩) nc nc, .int .i64 0] 57 (0, 0))) := hH5.alloc hH5.size _
       have kn6 := heap_new wd5 (.cells #[.slice aPq np dPq, .slice aGq ng dGq, .slice (some ⟨wd2.heap.size, 0, none⟩) nc nc, .slice aLq ln dLq, .slice (some ⟨wd3.heap.size, 0, none⟩) nc nc, .int .i64 0] 57 (0, 0))
       have zn6 := hH5.size
       refine hK.out _ _ (fun _ => hH6) ?_
       clear hK K
       try simp only [Act.put, sT, sZ, sS]
       have ne6_kn3 := lt_of kn3_5
       have ne6_kn4 := lt_of kn4_5
       have kn3_6 := (Below.heap_alloc wd5 (.cells #[.slice aPq np dPq, .slice aGq ng dGq, .slice (some ⟨wd2.heap.size, 0, none⟩) nc nc, .slice aLq ln dLq, .slice (some ⟨wd3.heap.size, 0, none⟩) nc nc, .int .i64 0] 57 (0, 0)) _ (lt_of kn3_5)).trans kn3_5
       have kn4_6 := (Below.heap_alloc wd5 (.cells #[.slice aPq np dPq, .slice aGq ng dGq, .slice (some ⟨wd2.heap.size, 0, none⟩) nc nc, .slice aLq ln dLq, .slice (some ⟨wd3.heap.size, 0, none⟩) nc nc, .int .i64 0] 57 (0, 0)) _ (lt_of kn4_5)).trans kn4_5
       have pPq_6 := pPq_5.below ((Below.refl _ wd5).alloc (Nat.le_refl _) (.cells #[.slice aPq np dPq, .slice aGq ng dGq, .slice (some ⟨wd2.heap.size, 0, none⟩) nc nc, .slice aLq ln dLq, .slice (some ⟨wd3.heap.size, 0, none⟩) nc nc, .int .i64 0] 57 (0, 0)))
       have pGq_6 := pGq_5.below ((Below.refl _ wd5).alloc (Nat.le_refl _) (.cells #[.slice aPq np dPq, .slice aGq ng dGq, .slice (some ⟨wd2.heap.size, 0, none⟩) nc nc, .slice aLq ln dLq, .slice (some ⟨wd3.heap.size, 0, none⟩) nc nc, .int .i64 0] 57 (0, 0)))
       have pLq_6 := pLq.below ((Below.refl _ wd5).alloc (Nat.le_refl _) (.cells #[.slice aPq np dPq, .slice aGq ng dGq, .slice (some ⟨wd2.heap.size, 0, none⟩) nc nc, .slice aLq ln dLq, .slice (some ⟨wd3.heap.size, 0, none⟩) nc nc, .int .i64 0] 57 (0, 0)))
       generalize wd5.alloc (.cells #[.slice aPq np dPq, .slice aGq ng dGq, .slice (some ⟨wd2.heap.size, 0, none⟩) nc nc, .slice aLq ln dLq, .slice (some ⟨wd3.heap.size, 0, none⟩) nc nc, .int .i64 0] 57 (0, 0)) = wd6 at pPq_6 pGq_6 pLq_6 hH6 kn6 kn3_6 kn4_6 ⊢
       have zs6 := lt_of kn6
       refine' wpAnyL_take (i := 17) (oi := ⟨some 5, _, _, _, _, _⟩) (v := _) rfl (by kernel_rfl) (by kernel_rfl) (by kernel_rfl) (by kernel_rfl) (fun _ _ _ h => h) hH6 (by rfl) ?hyv ?o16
       case hyv =>
        intro wz hSw
        go_simp
        try rfl
       try simp only [Act.put, sT, sZ, sS]
       refine wpAnyL_done (by kernel_rfl) ?_ _
       have zs0 := hH0.size
       have hb : BF wd6 wd2.heap.size nc (fun _ => false) := by unfold BF; rw [kn3_6, HLB.out]
       have hc : LX wd6 wd3.heap.size (List.replicate nc 0) := ⟨[], by rw [kn4_6, HLZ.out, List.append_nil]⟩
       have hv : VB wd6 wd5.heap.size (.slice aPq np dPq) (.slice aGq ng dGq) (.slice (some ⟨wd2.heap.size, 0, none⟩) nc nc) (.slice aLq ln dLq) wd3.heap.size nc nc 0 := kn6
       have hP := pPq_6.wide (ok' := fun i => w3.heap.size ≤ i ∧ i ≠ wd2.heap.size ∧ i ≠ wd5.heap.size) (fun i h _ => ⟨by omega, by omega, by omega⟩)
       have hG := pGq_6.wide (ok' := fun i => w3.heap.size ≤ i ∧ i ≠ wd2.heap.size ∧ i ≠ wd5.heap.size) (fun i h _ => ⟨by omega, by omega, by omega⟩)
       have hL := HRow.wide pLq_6 (ok' := fun i => w3.heap.size ≤ i ∧ i ≠ wd2.heap.size ∧ i ≠ wd5.heap.size) (fun i h _ => ⟨by omega, by omega, by omega⟩)
       have HN := hide (show NewC w3 P G C np ng ln nc (.pointer (some ⟨wd5.heap.size, 0, none⟩)) wd6 from ⟨⟨_, _, _, _, _, _, _, _, _, rfl, hv, hP, hG, hL, hb, hc, by omega, by omega, by omega, by omega, by omega, by omega⟩, hH6⟩)
       clear hb hc hv hP hG hL
       go_wp2_with fail
       go_meet
       case rel => exact HN
     case _ =>
      go_simp
      refine (HCL.out wd2 hH2).mono ?_
      rintro eq wd3 ⟨aLq, dLq, rfl, pLq, bq3⟩
      have hH3 : Below w3.heap.size w3 wd3 := hH2.trans (bq3.mono hH2.size)
      have zs3 := bq3.size
      have pPq_3 := pPq_2.below bq3
      have pGq_3 := pGq.below bq3
      refine hK.out _ _ (fun _ => hH3) ?_
      clear hK K
      try simp only [Act.put, sT, sZ, sS]
      refine wpAnyL_two (i := 8) (j := 14) rfl rfl (by kernel_rfl) (by rfl) (by rfl) (fun K hK => ?_) (fun K hK => ?_)
      case _ =>
       have hmk4 := HMB.out wd3; rw [← HLB.out] at hmk4; go_simp
       have hH4 : Below w3.heap.size w3 (wd3.alloc (.cells LB4 4 (0, 0))) := hH3.alloc hH3.size _
       have kn4 := heap_new wd3 (.cells LB4 4 (0, 0))
       have zn4 := hH3.size
       refine hK.out _ _ (fun _ => hH4) ?_
       clear hK K
       try simp only [Act.put, sT, sZ, sS]
       have pPq_4 := pPq_3.below ((Below.refl _ wd3).alloc (Nat.le_refl _) (.cells LB4 4 (0, 0)))
       have pGq_4 := pGq_3.below ((Below.refl _ wd3).alloc (Nat.le_refl _) (.cells LB4 4 (0, 0)))
       have pLq_4 := pLq.below ((Below.refl _ wd3).alloc (Nat.le_refl _) (.cells LB4 4 (0, 0)))
       generalize wd3.alloc (.cells LB4 4 (0, 0)) = wd4 at pPq_4 pGq_4 pLq_4 hH4 kn4 ⊢
       clear hmk4
       have zs4 := lt_of kn4
       refine wpAnyL_one (i := 14) (o := _) rfl (by kernel_rfl) (by rfl) (fun K hK => ?_)
       have hmk5 := HMK.out wd4; rw [← HLZ.out] at hmk5; go_simp
       have hH5 : Below w3.heap.size w3 (wd4.alloc (.cells LZ 2 (0, 0))) := hH4.alloc hH4.size _
       have kn5 := heap_new wd4 (.cells LZ 2 (0, 0))
       have zn5 := hH4.size
       refine hK.out _ _ (fun _ => hH5) ?_
       clear hK K
       try simp only [Act.put, sT, sZ, sS]
       have ne5_kn4 := lt_of kn4
       have kn4_5 := (Below.heap_alloc wd4 (.cells LZ 2 (0, 0)) _ (lt_of kn4)).trans kn4
       have pPq_5 := pPq_4.below ((Below.refl _ wd4).alloc (Nat.le_refl _) (.cells LZ 2 (0, 0)))
       have pGq_5 := pGq_4.below ((Below.refl _ wd4).alloc (Nat.le_refl _) (.cells LZ 2 (0, 0)))
       have pLq_5 := pLq_4.below ((Below.refl _ wd4).alloc (Nat.le_refl _) (.cells LZ 2 (0, 0)))
       generalize wd4.alloc (.cells LZ 2 (0, 0)) = wd5 at pPq_5 pGq_5 pLq_5 hH5 kn5 kn4_5 ⊢
       clear hmk5
       have zs5 := lt_of kn5
       refine' wpAnyL_take (i := 15) (oi := ⟨some 29, _, _, _, _, _⟩) (v := _) rfl (by kernel_rfl) (by kernel_rfl) (by kernel_rfl) (by kernel_rfl) (fun _ _ _ h => h) hH5 (by rfl) ?hyv ?o17
       case hyv =>
        intro wz hSw
        go_simp
        try rfl
       try simp only [Act.put, sT, sZ, sS]
       refine wpAnyL_one (i := 16) (o := _) rfl (by kernel_rfl) (by rfl) (fun K hK => ?_)
       go_simp
       have hH6 : Below w3.heap.size w3 (wd5.alloc (.cells #[.slice aPq np dPq, .slice aGq ng dGq, .slice (some ⟨wd3.heap.size, 0, none⟩) nc nc, .slice aLq ln dLq, .slice (some ⟨wd4.heap.size, 0, none⟩) nc nc, .int .i64 0] 57 (0, 0))) := hH5.alloc hH5.size _
       have kn6 := heap_new wd5 (.cells #[.slice aPq np dPq, .slice aGq ng dGq, .slice (some ⟨wd3.heap.size, 0, none⟩) nc nc, .slice aLq ln dLq, .slice (some ⟨wd4.heap.size, 0, none⟩) nc nc, .int .i64 0] 57 (0, 0))
       have zn6 := hH5.size
       refine hK.out _ _ (fun _ => hH6) ?_
       clear hK K
       try simp only [Act.put, sT, sZ, sS]
       have ne6_kn4 := lt_of kn4_5
       have ne6_kn5 := lt_of kn5
       have kn4_6 := (Below.heap_alloc wd5 (.cells #[.slice aPq np dPq, .slice aGq ng dGq, .slice (some ⟨wd3.heap.size, 0, none⟩) nc nc, .slice aLq ln dLq, .slice (some ⟨wd4.heap.size, 0, none⟩) nc nc, .int .i64 0] 57 (0, 0)) _ (lt_of kn4_5)).trans kn4_5
       have kn5_6 := (Below.heap_alloc wd5 (.cells #[.slice aPq np dPq, .slice aGq ng dGq, .slice (some ⟨wd3.heap.size, 0, none⟩) nc nc, .slice aLq ln dLq, .slice (some ⟨wd4.heap.size, 0, none⟩) nc nc, .int .i64 0] 57 (0, 0)) _ (lt_of kn5)).trans kn5
       have pPq_6 := pPq_5.below ((Below.refl _ wd5).alloc (Nat.le_refl _) (.cells #[.slice aPq np dPq, .slice aGq ng dGq, .slice (some ⟨wd3.heap.size, 0, none⟩) nc nc, .slice aLq ln dLq, .slice (some ⟨wd4.heap.size, 0, none⟩) nc nc, .int .i64 0] 57 (0, 0)))
       have pGq_6 := pGq_5.below ((Below.refl _ wd5).alloc (Nat.le_refl _) (.cells #[.slice aPq np dPq, .slice aGq ng dGq, .slice (some ⟨wd3.heap.size, 0, none⟩) nc nc, .slice aLq ln dLq, .slice (some ⟨wd4.heap.size, 0, none⟩) nc nc, .int .i64 0] 57 (0, 0)))
       have pLq_6 := pLq_5.below ((Below.refl _ wd5).alloc (Nat.le_refl _) (.cells #[.slice aPq np dPq, .slice aGq ng dGq, .slice (some ⟨wd3.heap.size, 0, none⟩) nc nc, .slice aLq ln dLq, .slice (some ⟨wd4.heap.size, 0, none⟩) nc nc, .int .i64 0] 57 (0, 0)))
       generalize wd5.alloc (.cells #[.slice aPq np dPq, .slice aGq ng dGq, .slice (some ⟨wd3.heap.size, 0, none⟩) nc nc, .slice aLq ln dLq, .slice (some ⟨wd4.heap.size, 0, none⟩) nc nc, .int .i64 0] 57 (0, 0)) = wd6 at pPq_6 pGq_6 pLq_6 hH6 kn6 kn4_6 kn5_6 ⊢
       have zs6 := lt_of kn6
       refine' wpAnyL_take (i := 17) (oi := ⟨some 5, _, _, _, _, _⟩) (v := _) rfl (by kernel_rfl) (by kernel_rfl) (by kernel_rfl) (by kernel_rfl) (fun _ _ _ h => h) hH6 (by rfl) ?hyv ?o18
       case hyv =>
        intro wz hSw
        go_simp
        try rfl
       try simp only [Act.put, sT, sZ, sS]
       refine wpAnyL_done (by kernel_rfl) ?_ _
       have zs0 := hH0.size
       have hb : BF wd6 wd3.heap.size nc (fun _ => false) := by unfold BF; rw [kn4_6, HLB.out]
       have hc : LX wd6 wd4.heap.size (List.replicate nc 0) := ⟨[], by rw [kn5_6, HLZ.out, List.append_nil]⟩
       have hv : VB wd6 wd5.heap.size (.slice aPq np dPq) (.slice aGq ng dGq) (.slice (some ⟨wd3.heap.size, 0, none⟩) nc nc) (.slice aLq ln dLq) wd4.heap.size nc nc 0 := kn6
       have hP := pPq_6.wide (ok' := fun i => w3.heap.size ≤ i ∧ i ≠ wd3.heap.size ∧ i ≠ wd5.heap.size) (fun i h _ => ⟨by omega, by omega, by omega⟩)
       have hG := pGq_6.wide (ok' := fun i => w3.heap.size ≤ i ∧ i ≠ wd3.heap.size ∧ i ≠ wd5.heap.size) (fun i h _ => ⟨by omega, by omega, by omega⟩)
       have hL := HRow.wide pLq_6 (ok' := fun i => w3.heap.size ≤ i ∧ i ≠ wd3.heap.size ∧ i ≠ wd5.heap.size) (fun i h _ => ⟨by omega, by omega, by omega⟩)
       have HN := hide (show NewC w3 P G C np ng ln nc (.pointer (some ⟨wd5.heap.size, 0, none⟩)) wd6 from ⟨⟨_, _, _, _, _, _, _, _, _, rfl, hv, hP, hG, hL, hb, hc, by omega, by omega, by omega, by omega, by omega, by omega⟩, hH6⟩)
       clear hb hc hv hP hG hL
       go_wp2_with fail
       go_meet
       case rel => exact HN
      case _ =>
       have hmk4 := HMK.out wd3; rw [← HLZ.out] at hmk4; go_simp
       have hH4 : Below w3.heap.size w3 (wd3.alloc (.cells LZ 2 (0, 0))) := hH3.alloc hH3.size _
       have kn4 := heap_new wd3 (.cells LZ 2 (0, 0))
       have zn4 := hH3.size
       refine hK.out _ _ (fun _ => hH4) ?_
       clear hK K
       try simp only [Act.put, sT, sZ, sS]
       have pPq_4 := pPq_3.below ((Below.refl _ wd3).alloc (Nat.le_refl _) (.cells LZ 2 (0, 0)))
       have pGq_4 := pGq_3.below ((Below.refl _ wd3).alloc (Nat.le_refl _) (.cells LZ 2 (0, 0)))
       have pLq_4 := pLq.below ((Below.refl _ wd3).alloc (Nat.le_refl _) (.cells LZ 2 (0, 0)))
       generalize wd3.alloc (.cells LZ 2 (0, 0)) = wd4 at pPq_4 pGq_4 pLq_4 hH4 kn4 ⊢
       clear hmk4
       have zs4 := lt_of kn4
       refine wpAnyL_one (i := 8) (o := _) rfl (by kernel_rfl) (by rfl) (fun K hK => ?_)
       have hmk5 := HMB.out wd4; rw [← HLB.out] at hmk5; go_simp
       have hH5 : Below w3.heap.size w3 (wd4.alloc (.cells LB4 4 (0, 0))) := hH4.alloc hH4.size _
       have kn5 := heap_new wd4 (.cells LB4 4 (0, 0))
       have zn5 := hH4.size
       refine hK.out _ _ (fun _ => hH5) ?_
       clear hK K
       try simp only [Act.put, sT, sZ, sS]
       have ne5_kn4 := lt_of kn4
       have kn4_5 := (Below.heap_alloc wd4 (.cells LB4 4 (0, 0)) _ (lt_of kn4)).trans kn4
       have pPq_5 := pPq_4.below ((Below.refl _ wd4).alloc (Nat.le_refl _) (.cells LB4 4 (0, 0)))
       have pGq_5 := pGq_4.below ((Below.refl _ wd4).alloc (Nat.le_refl _) (.cells LB4 4 (0, 0)))
       have pLq_5 := pLq_4.below ((Below.refl _ wd4).alloc (Nat.le_refl _) (.cells LB4 4 (0, 0)))
       generalize wd4.alloc (.cells LB4 4 (0, 0)) = wd5 at pPq_5 pGq_5 pLq_5 hH5 kn5 kn4_5 ⊢
       clear hmk5
       have zs5 := lt_of kn5
       refine' wpAnyL_take (i := 15) (oi := ⟨some 29, _, _, _, _, _⟩) (v := _) rfl (by kernel_rfl) (by kernel_rfl) (by kernel_rfl) (by kernel_rfl) (fun _ _ _ h => h) hH5 (by rfl) ?hyv ?o19
       case hyv =>
        intro wz hSw
        go_simp
        try rfl
       try simp only [Act.put, sT, sZ, sS]
       refine wpAnyL_one (i := 16) (o := _) rfl (by kernel_rfl) (by rfl) (fun K hK => ?_)
       go_simp
       have hH6 : Below w3.heap.size w3 (wd5.alloc (.cells #[.slice aPq np dPq, .slice aGq ng dGq, .slice (some ⟨wd4.heap.size, 0, none⟩) nc nc, .slice aLq ln dLq, .slice (some ⟨wd3.heap.size, 0, none⟩) nc nc, .int .i64 0] 57 (0, 0))) := hH5.alloc hH5.size _
       have kn6 := heap_new wd5 (.cells #[.slice aPq np dPq, .slice aGq ng dGq, .slice (some ⟨wd4.heap.size, 0, none⟩) nc nc, .slice aLq ln dLq, .slice (some ⟨wd3.heap.size, 0, none⟩) nc nc, .int .i64 0] 57 (0, 0))
       have zn6 := hH5.size
       refine hK.out _ _ (fun _ => hH6) ?_
       clear hK K
       try simp only [Act.put, sT, sZ, sS]
       have ne6_kn4 := lt_of kn4_5
       have ne6_kn5 := lt_of kn5
       have kn4_6 := (Below.heap_alloc wd5 (.cells #[.slice aPq np dPq, .slice aGq ng dGq, .slice (some ⟨wd4.heap.size, 0, none⟩) nc nc, .slice aLq ln dLq, .slice (some ⟨wd3.heap.size, 0, none⟩) nc nc, .int .i64 0] 57 (0, 0)) _ (lt_of kn4_5)).trans kn4_5
       have kn5_6 := (Below.heap_alloc wd5 (.cells #[.slice aPq np dPq, .slice aGq ng dGq, .slice (some ⟨wd4.heap.size, 0, none⟩) nc nc, .slice aLq ln dLq, .slice (some ⟨wd3.heap.size, 0, none⟩) nc nc, .int .i64 0] 57 (0, 0)) _ (lt_of kn5)).trans kn5
       have pPq_6 := pPq_5.below ((Below.refl _ wd5).alloc (Nat.le_refl _) (.cells #[.slice aPq np dPq, .slice aGq ng dGq, .slice (some ⟨wd4.heap.size, 0, none⟩) nc nc, .slice aLq ln dLq, .slice (some ⟨wd3.heap.size, 0, none⟩) nc nc, .int .i64 0] 57 (0, 0)))
       have pGq_6 := pGq_5.below ((Below.refl _ wd5).alloc (Nat.le_refl _) (.cells #[.slice aPq np dPq, .slice aGq ng dGq, .slice (some ⟨wd4.heap.size, 0, none⟩) nc nc, .slice aLq ln dLq, .slice (some ⟨wd3.heap.size, 0, none⟩) nc nc, .int .i64 0] 57 (0, 0)))
       have pLq_6 := pLq_5.below ((Below.refl _ wd5).alloc (Nat.le_refl _) (.cells #[.slice aPq np dPq, .slice aGq ng dGq, .slice (some ⟨wd4.heap.size, 0, none⟩) nc nc, .slice aLq ln dLq, .slice (some ⟨wd3.heap.size, 0, none⟩) nc nc, .int .i64 0] 57 (0, 0)))
       generalize wd5.alloc (.cells #[.slice aPq np dPq, .slice aGq ng dGq, .slice (some ⟨wd4.heap.size, 0, none⟩) nc nc, .slice aLq ln dLq, .slice (some ⟨wd3.heap.size, 0, none⟩) nc nc, .int .i64 0] 57 (0, 0)) = wd6 at pPq_6 pGq_6 pLq_6 hH6 kn6 kn4_6 kn5_6 ⊢
       have zs6 := lt_of kn6
       refine' wpAnyL_take (i := 17) (oi := ⟨some 5, _, _, _, _, _⟩) (v := _) rfl (by kernel_rfl) (by kernel_rfl) (by kernel_rfl) (by kernel_rfl) (fun _ _ _ h => h) hH6 (by rfl) ?hyv ?o20
       case hyv =>
        intro wz hSw
        go_simp
        try rfl
       try simp only [Act.put, sT, sZ, sS]
       refine wpAnyL_done (by kernel_rfl) ?_ _
       have zs0 := hH0.size
       have hb : BF wd6 wd4.heap.size nc (fun _ => false) := by unfold BF; rw [kn5_6, HLB.out]
       have hc : LX wd6 wd3.heap.size (List.replicate nc 0) := ⟨[], by rw [kn4_6, HLZ.out, List.append_nil]⟩
       have hv : VB wd6 wd5.heap.size (.slice aPq np dPq) (.slice aGq ng dGq) (.slice (some ⟨wd4.heap.size, 0, none⟩) nc nc) (.slice aLq ln dLq) wd3.heap.size nc nc 0 := kn6
       have hP := pPq_6.wide (ok' := fun i => w3.heap.size ≤ i ∧ i ≠ wd4.heap.size ∧ i ≠ wd5.heap.size) (fun i h _ => ⟨by omega, by omega, by omega⟩)
       have hG := pGq_6.wide (ok' := fun i => w3.heap.size ≤ i ∧ i ≠ wd4.heap.size ∧ i ≠ wd5.heap.size) (fun i h _ => ⟨by omega, by omega, by omega⟩)
       have hL := HRow.wide pLq_6 (ok' := fun i => w3.heap.size ≤ i ∧ i ≠ wd4.heap.size ∧ i ≠ wd5.heap.size) (fun i h _ => ⟨by omega, by omega, by omega⟩)
       have HN := hide (show NewC w3 P G C np ng ln nc (.pointer (some ⟨wd5.heap.size, 0, none⟩)) wd6 from ⟨⟨_, _, _, _, _, _, _, _, _, rfl, hv, hP, hG, hL, hb, hc, by omega, by omega, by omega, by omega, by omega, by omega⟩, hH6⟩)
       clear hb hc hv hP hG hL
       go_wp2_with fail
       go_meet
       case rel => exact HN
     case _ =>
      have hmk3 := HMK.out wd2; rw [← HLZ.out] at hmk3; go_simp
      have hH3 : Below w3.heap.size w3 (wd2.alloc (.cells LZ 2 (0, 0))) := hH2.alloc hH2.size _
      have kn3 := heap_new wd2 (.cells LZ 2 (0, 0))
      have zn3 := hH2.size
      refine hK.out _ _ (fun _ => hH3) ?_
      clear hK K
      try simp only [Act.put, sT, sZ, sS]
      have pPq_3 := pPq_2.below ((Below.refl _ wd2).alloc (Nat.le_refl _) (.cells LZ 2 (0, 0)))
      have pGq_3 := pGq.below ((Below.refl _ wd2).alloc (Nat.le_refl _) (.cells LZ 2 (0, 0)))
      generalize wd2.alloc (.cells LZ 2 (0, 0)) = wd3 at pPq_3 pGq_3 hH3 kn3 ⊢
      clear hmk3
      have zs3 := lt_of kn3
      refine wpAnyL_two (i := 8) (j := 11) rfl rfl (by kernel_rfl) (by rfl) (by rfl) (fun K hK => ?_) (fun K hK => ?_)
      case _ =>
       have hmk4 := HMB.out wd3; rw [← HLB.out] at hmk4; go_simp
       have hH4 : Below w3.heap.size w3 (wd3.alloc (.cells LB4 4 (0, 0))) := hH3.alloc hH3.size _
       have kn4 := heap_new wd3 (.cells LB4 4 (0, 0))
       have zn4 := hH3.size
       refine hK.out _ _ (fun _ => hH4) ?_
       clear hK K
       try simp only [Act.put, sT, sZ, sS]
       have ne4_kn3 := lt_of kn3
       have kn3_4 := (Below.heap_alloc wd3 (.cells LB4 4 (0, 0)) _ (lt_of kn3)).trans kn3
       have pPq_4 := pPq_3.below ((Below.refl _ wd3).alloc (Nat.le_refl _) (.cells LB4 4 (0, 0)))
       have pGq_4 := pGq_3.below ((Below.refl _ wd3).alloc (Nat.le_refl _) (.cells LB4 4 (0, 0)))
       generalize wd3.alloc (.cells LB4 4 (0, 0)) = wd4 at pPq_4 pGq_4 hH4 kn4 kn3_4 ⊢
       clear hmk4
       have zs4 := lt_of kn4
       refine wpAnyL_one (i := 11) (o := _) rfl (by kernel_rfl) (by rfl) (fun K hK => ?_)
       go_simp
       refine (HCL.out wd4 hH4).mono ?_
       rintro eq wd5 ⟨aLq, dLq, rfl, pLq, bq5⟩
       have kn3_5 := (bq5.block _ (lt_of kn3_4)).trans kn3_4
       have kn4_5 := (bq5.block _ (lt_of kn4)).trans kn4
       have hH5 : Below w3.heap.size w3 wd5 := hH4.trans (bq5.mono hH4.size)
       have zs5 := bq5.size
       have pPq_5 := pPq_4.below bq5
       have pGq_5 := pGq_4.below bq5
       refine hK.out _ _ (fun _ => hH5) ?_
       clear hK K
       try simp only [Act.put, sT, sZ, sS]
       refine' wpAnyL_take (i := 15) (oi := ⟨some 29, _, _, _, _, _⟩) (v := _) rfl (by kernel_rfl) (by kernel_rfl) (by kernel_rfl) (by kernel_rfl) (fun _ _ _ h => h) hH5 (by rfl) ?hyv ?o21
       case hyv =>
        intro wz hSw
        go_simp
        try rfl
       try simp only [Act.put, sT, sZ, sS]
       refine wpAnyL_one (i := 16) (o := _) rfl (by kernel_rfl) (by rfl) (fun K hK => ?_)
       go_simp
       have hH6 : Below w3.heap.size w3 (wd5.alloc (.cells #[.slice aPq np dPq, .slice aGq ng dGq, .slice (some ⟨wd3.heap.size, 0, none⟩) nc nc, .slice aLq ln dLq, .slice (some ⟨wd2.heap.size, 0, none⟩) nc nc, .int .i64 0] 57 (0, 0))) := hH5.alloc hH5.size _
       have kn6 := heap_new wd5 (.cells #[.slice aPq np dPq, .slice aGq ng dGq, .slice (some ⟨wd3.heap.size, 0, none⟩) nc nc, .slice aLq ln dLq, .slice (some ⟨wd2.heap.size, 0, none⟩) nc nc, .int .i64 0] 57 (0, 0))
       have zn6 := hH5.size
       refine hK.out _ _ (fun _ => hH6) ?_
       clear hK K
       try simp only [Act.put, sT, sZ, sS]
       have ne6_kn3 := lt_of kn3_5
       have ne6_kn4 := lt_of kn4_5
       have kn3_6 := (Below.heap_alloc wd5 (.cells #[.slice aPq np dPq, .slice aGq ng dGq, .slice (some ⟨wd3.heap.size, 0, none⟩) nc nc, .slice aLq ln dLq, .slice (some ⟨wd2.heap.size, 0, none⟩) nc nc, .int .i64 0] 57 (0, 0)) _ (lt_of kn3_5)).trans kn3_5
       have kn4_6 := (Below.heap_alloc wd5 (.cells #[.slice aPq np dPq, .slice aGq ng dGq, .slice (some ⟨wd3.heap.size, 0, none⟩) nc nc, .slice aLq ln dLq, .slice (some ⟨wd2.heap.size, 0, none⟩) nc nc, .int .i64 0] 57 (0, 0)) _ (lt_of kn4_5)).trans kn4_5
       have pPq_6 := pPq_5.below ((Below.refl _ wd5).alloc (Nat.le_refl _) (.cells #[.slice aPq np dPq, .slice aGq ng dGq, .slice (some ⟨wd3.heap.size, 0, none⟩) nc nc, .slice aLq ln dLq, .slice (some ⟨wd2.heap.size, 0, none⟩) nc nc, .int .i64 0] 57 (0, 0)))
       have pGq_6 := pGq_5.below ((Below.refl _ wd5).alloc (Nat.le_refl _) (.cells #[.slice aPq np dPq, .slice aGq ng dGq, .slice (some ⟨wd3.heap.size, 0, none⟩) nc nc, .slice aLq ln dLq, .slice (some ⟨wd2.heap.size, 0, none⟩) nc nc, .int .i64 0] 57 (0, 0)))
       have pLq_6 := pLq.below ((Below.refl _ wd5).alloc (Nat.le_refl _) (.cells #[.slice aPq np dPq, .slice aGq ng dGq, .slice (some ⟨wd3.heap.size, 0, none⟩) nc nc, .slice aLq ln dLq, .slice (some ⟨wd2.heap.size, 0, none⟩) nc nc, .int .i64 0] 57 (0, 0)))
       generalize wd5.alloc (.cells #[.slice aPq np dPq, .slice aGq ng dGq, .slice (some ⟨wd3.heap.size, 0, none⟩) nc nc, .slice aLq ln dLq, .slice (some ⟨wd2.heap.size, 0, none⟩) nc nc, .int .i64 0] 57 (0, 0)) = wd6 at pPq_6 pGq_6 pLq_6 hH6 kn6 kn3_6 kn4_6 ⊢
       have zs6 := lt_of kn6
       refine' wpAnyL_take (i := 17) (oi := ⟨some 5, _, _, _, _, _⟩) (v := _) rfl (by kernel_rfl) (by kernel_rfl) (by kernel_rfl) (by kernel_rfl) (fun _ _ _ h => h) hH6 (by rfl) ?hyv ?o22
       case hyv =>
        intro wz hSw
        go_simp
        try rfl
       try simp only [Act.put, sT, sZ, sS]
       refine wpAnyL_done (by kernel_rfl) ?_ _
       have zs0 := hH0.size
       have hb : BF wd6 wd3.heap.size nc (fun _ => false) := by unfold BF; rw [kn4_6, HLB.out]
       have hc : LX wd6 wd2.heap.size (List.replicate nc 0) := ⟨[], by rw [kn3_6, HLZ.out, List.append_nil]⟩
       have hv : VB wd6 wd5.heap.size (.slice aPq np dPq) (.slice aGq ng dGq) (.slice (some ⟨wd3.heap.size, 0, none⟩) nc nc) (.slice aLq ln dLq) wd2.heap.size nc nc 0 := kn6
       have hP := pPq_6.wide (ok' := fun i => w3.heap.size ≤ i ∧ i ≠ wd3.heap.size ∧ i ≠ wd5.heap.size) (fun i h _ => ⟨by omega, by omega, by omega⟩)
       have hG := pGq_6.wide (ok' := fun i => w3.heap.size ≤ i ∧ i ≠ wd3.heap.size ∧ i ≠ wd5.heap.size) (fun i h _ => ⟨by omega, by omega, by omega⟩)
       have hL := HRow.wide pLq_6 (ok' := fun i => w3.heap.size ≤ i ∧ i ≠ wd3.heap.size ∧ i ≠ wd5.heap.size) (fun i h _ => ⟨by omega, by omega, by omega⟩)
       have HN := hide (show NewC w3 P G C np ng ln nc (.pointer (some ⟨wd5.heap.size, 0, none⟩)) wd6 from ⟨⟨_, _, _, _, _, _, _, _, _, rfl, hv, hP, hG, hL, hb, hc, by omega, by omega, by omega, by omega, by omega, by omega⟩, hH6⟩)
       clear hb hc hv hP hG hL
       go_wp2_with fail
       go_meet
       case rel => exact HN
      case _ =>
       go_simp
       refine (HCL.out wd3 hH3).mono ?_
       rintro eq wd4 ⟨aLq, dLq, rfl, pLq, bq4⟩
       have kn3_4 := (bq4.block _ (lt_of kn3)).trans kn3
       have hH4 : Below w3.heap.size w3 wd4 := hH3.trans (bq4.mono hH3.size)
       have zs4 := bq4.size
       have pPq_4 := pPq_3.below bq4
       have pGq_4 := pGq_3.below bq4
       refine hK.out _ _ (fun _ => hH4) ?_
       clear hK K
       try simp only [Act.put, sT, sZ, sS]
       refine wpAnyL_one (i := 8) (o := _) rfl (by kernel_rfl) (by rfl) (fun K hK => ?_)
       have hmk5 := HMB.out wd4; rw [← HLB.out] at hmk5; go_simp
       have hH5 : Below w3.heap.size w3 (wd4.alloc (.cells LB4 4 (0, 0))) := hH4.alloc hH4.size _
       have kn5 := heap_new wd4 (.cells LB4 4 (0, 0))
       have zn5 := hH4.size
       refine hK.out _ _ (fun _ => hH5) ?_
       clear hK K
       try simp only [Act.put, sT, sZ, sS]
       have ne5_kn3 := lt_of kn3_4
       have kn3_5 := (Below.heap_alloc wd4 (.cells LB4 4 (0, 0)) _ (lt_of kn3_4)).trans kn3_4
       have pPq_5 := pPq_4.below ((Below.refl _ wd4).alloc (Nat.le_refl _) (.cells LB4 4 (0, 0)))
       have pGq_5 := pGq_4.below ((Below.refl _ wd4).alloc (Nat.le_refl _) (.cells LB4 4 (0, 0)))
       have pLq_5 := pLq.below ((Below.refl _ wd4).alloc (Nat.le_refl _) (.cells LB4 4 (0, 0)))
       generalize wd4.alloc (.cells LB4 4 (0, 0)) = wd5 at pPq_5 pGq_5 pLq_5 hH5 kn5 kn3_5 ⊢
       clear hmk5
       have zs5 := lt_of kn5
       refine' wpAnyL_take (i := 15) (oi := ⟨some 29, _, _, _, _, _⟩) (v := _) rfl (by kernel_rfl) (by kernel_rfl) (by kernel_rfl) (by kernel_rfl) (fun _ _ _ h => h) hH5 (by rfl) ?hyv ?o23
       case hyv =>
        intro wz hSw
        go_simp
        try rfl
       try simp only [Act.put, sT, sZ, sS]
       refine wpAnyL_one (i := 16) (o := _) rfl (by kernel_rfl) (by rfl) (fun K hK => ?_)
       go_simp
       have hH6 : Below w3.heap.size w3 (wd5.alloc (.cells #[.slice aPq np dPq, .slice aGq ng dGq, .slice (some ⟨wd4.heap.size, 0, none⟩) nc nc, .slice aLq ln dLq, .slice (some ⟨wd2.heap.size, 0, none⟩) nc nc, .int .i64 0] 57 (0, 0))) := hH5.alloc hH5.size _
       have kn6 := heap_new wd5 (.cells #[.slice aPq np dPq, .slice aGq ng dGq, .slice (some ⟨wd4.heap.size, 0, none⟩) nc nc, .slice aLq ln dLq, .slice (some ⟨wd2.heap.size, 0, none⟩) nc nc, .int .i64 0] 57 (0, 0))
       have zn6 := hH5.size
       refine hK.out _ _ (fun _ => hH6) ?_
       clear hK K
       try simp only [Act.put, sT, sZ, sS]
       have ne6_kn3 := lt_of kn3_5
       have ne6_kn5 := lt_of kn5
       have kn3_6 := (Below.heap_alloc wd5 (.cells #[.slice aPq np dPq, .slice aGq ng dGq, .slice (some ⟨wd4.heap.size, 0, none⟩) nc nc, .slice aLq ln dLq, .slice (some ⟨wd2.heap.size, 0, none⟩) nc nc, .int .i64 0] 57 (0, 0)) _ (lt_of kn3_5)).trans kn3_5
       have kn5_6 := (Below.heap_alloc wd5 (.cells #[.slice aPq np dPq, .slice aGq ng dGq, .slice (some ⟨wd4.heap.size, 0, none⟩) nc nc, .slice aLq ln dLq, .slice (some ⟨wd2.heap.size, 0, none⟩) nc nc, .int .i64 0] 57 (0, 0)) _ (lt_of kn5)).trans kn5
       have pPq_6 := pPq_5.below ((Below.refl _ wd5).alloc (Nat.le_refl _) (.cells #[.slice aPq np dPq, .slice aGq ng dGq, .slice (some ⟨wd4.heap.size, 0, none⟩) nc nc, .slice aLq ln dLq, .slice (some ⟨wd2.heap.size, 0, none⟩) nc nc, .int .i64 0] 57 (0, 0)))
       have pGq_6 := pGq_5.below ((Below.refl _ wd5).alloc (Nat.le_refl _) (.cells #[.slice aPq np dPq, .slice aGq ng dGq, .slice (some ⟨wd4.heap.size, 0, none⟩) nc nc, .slice aLq ln dLq, .slice (some ⟨wd2.heap.size, 0, none⟩) nc nc, .int .i64 0] 57 (0, 0)))
       have pLq_6 := pLq_5.below ((Below.refl _ wd5).alloc (Nat.le_refl _) (.cells #[.slice aPq np dPq, .slice aGq ng dGq, .slice (some ⟨wd4.heap.size, 0, none⟩) nc nc, .slice aLq ln dLq, .slice (some ⟨wd2.heap.size, 0, none⟩) nc nc, .int .i64 0] 57 (0, 0)))
       generalize wd5.alloc (.cells #[.slice aPq np dPq, .slice aGq ng dGq, .slice (some ⟨wd4.heap.size, 0, none⟩) nc nc, .slice aLq ln dLq, .slice (some ⟨wd2.heap.size, 0, none⟩) nc nc, .int .i64 0] 57 (0, 0)) = wd6 at pPq_6 pGq_6 pLq_6 hH6 kn6 kn3_6 kn5_6 ⊢
       have zs6 := lt_of kn6
       refine' wpAnyL_take (i := 17) (oi := ⟨some 5, _, _, _, _, _⟩) (v := _) rfl (by kernel_rfl) (by kernel_rfl) (by kernel_rfl) (by kernel_rfl) (fun _ _ _ h => h) hH6 (by rfl) ?hyv ?o24
       case hyv =>
        intro wz hSw
        go_simp
        try rfl
       try simp only [Act.put, sT, sZ, sS]
       refine wpAnyL_done (by kernel_rfl) ?_ _
       have zs0 := hH0.size
       have hb : BF wd6 wd4.heap.size nc (fun _ => false) := by unfold BF; rw [kn5_6, HLB.out]
       have hc : LX wd6 wd2.heap.size (List.replicate nc 0) := ⟨[], by rw [kn3_6, HLZ.out, List.append_nil]⟩
       have hv : VB wd6 wd5.heap.size (.slice aPq np dPq) (.slice aGq ng dGq) (.slice (some ⟨wd4.heap.size, 0, none⟩) nc nc) (.slice aLq ln dLq) wd2.heap.size nc nc 0 := kn6
       have hP := pPq_6.wide (ok' := fun i => w3.heap.size ≤ i ∧ i ≠ wd4.heap.size ∧ i ≠ wd5.heap.size) (fun i h _ => ⟨by omega, by omega, by omega⟩)
       have hG := pGq_6.wide (ok' := fun i => w3.heap.size ≤ i ∧ i ≠ wd4.heap.size ∧ i ≠ wd5.heap.size) (fun i h _ => ⟨by omega, by omega, by omega⟩)
       have hL := HRow.wide pLq_6 (ok' := fun i => w3.heap.size ≤ i ∧ i ≠ wd4.heap.size ∧ i ≠ wd5.heap.size) (fun i h _ => ⟨by omega, by omega, by omega⟩)
       have HN := hide (show NewC w3 P G C np ng ln nc (.pointer (some ⟨wd5.heap.size, 0, none⟩)) wd6 from ⟨⟨_, _, _, _, _, _, _, _, _, rfl, hv, hP, hG, hL, hb, hc, by omega, by omega, by omega, by omega, by omega, by omega⟩, hH6⟩)
       clear hb hc hv hP hG hL
       go_wp2_with fail
       go_meet
       case rel => exact HN
    case _ =>
     have hmk2 := HMB.out wd1; rw [← HLB.out] at hmk2; go_simp
     have hH2 : Below w3.heap.size w3 (wd1.alloc (.cells LB4 4 (0, 0))) := hH1.alloc hH1.size _
     have kn2 := heap_new wd1 (.cells LB4 4 (0, 0))
     have zn2 := hH1.size
     refine hK.out _ _ (fun _ => hH2) ?_
     clear hK K
     try simp only [Act.put, sT, sZ, sS]
     have pPq_2 := pPq.below ((Below.refl _ wd1).alloc (Nat.le_refl _) (.cells LB4 4 (0, 0)))
     generalize wd1.alloc (.cells LB4 4 (0, 0)) = wd2 at pPq_2 hH2 kn2 ⊢
     clear hmk2
     have zs2 := lt_of kn2
     refine wpAnyL_two (i := 5) (j := 14) rfl rfl (by kernel_rfl) (by rfl) (by rfl) (fun K hK => ?_) (fun K hK => ?_)
     case _ =>
      go_simp
      refine (HCG.out wd2 hH2).mono ?_
      rintro eq wd3 ⟨aGq, dGq, rfl, pGq, bq3⟩
      have kn2_3 := (bq3.block _ (lt_of kn2)).trans kn2
      have hH3 : Below w3.heap.size w3 wd3 := hH2.trans (bq3.mono hH2.size)
      have zs3 := bq3.size
      have pPq_3 := pPq_2.below bq3
      refine hK.out _ _ (fun _ => hH3) ?_
      clear hK K
      try simp only [Act.put, sT, sZ, sS]
      refine wpAnyL_two (i := 11) (j := 14) rfl rfl (by kernel_rfl) (by rfl) (by rfl) (fun K hK => ?_) (fun K hK => ?_)
      case _ =>
       go_simp
       refine (HCL.out wd3 hH3).mono ?_
       rintro eq wd4 ⟨aLq, dLq, rfl, pLq, bq4⟩
       have kn2_4 := (bq4.block _ (lt_of kn2_3)).trans kn2_3
       have hH4 : Below w3.heap.size w3 wd4 := hH3.trans (bq4.mono hH3.size)
       have zs4 := bq4.size
       have pPq_4 := pPq_3.below bq4
       have pGq_4 := pGq.below bq4
       refine hK.out _ _ (fun _ => hH4) ?_
       clear hK K
       try simp only [Act.put, sT, sZ, sS]
       refine wpAnyL_one (i := 14) (o := _) rfl (by kernel_rfl) (by rfl) (fun K hK => ?_)
       have hmk5 := HMK.out wd4; rw [← HLZ.out] at hmk5; go_simp
       have hH5 : Below w3.heap.size w3 (wd4.alloc (.cells LZ 2 (0, 0))) := hH4.alloc hH4.size _
       have kn5 := heap_new wd4 (.cells LZ 2 (0, 0))
       have zn5 := hH4.size
       refine hK.out _ _ (fun _ => hH5) ?_
       clear hK K
       try simp only [Act.put, sT, sZ, sS]
       have ne5_kn2 := lt_of kn2_4
       have kn2_5 := (Below.heap_alloc wd4 (.cells LZ 2 (0, 0)) _ (lt_of kn2_4)).trans kn2_4
       have pPq_5 := pPq_4.below ((Below.refl _ wd4).alloc (Nat.le_refl _) (.cells LZ 2 (0, 0)))
       have pGq_5 := pGq_4.below ((Below.refl _ wd4).alloc (Nat.le_refl _) (.cells LZ 2 (0, 0)))
       have pLq_5 := pLq.below ((Below.refl _ wd4).alloc (Nat.le_refl _) (.cells LZ 2 (0, 0)))
       generalize wd4.alloc (.cells LZ 2 (0, 0)) = wd5 at pPq_5 pGq_5 pLq_5 hH5 kn5 kn2_5 ⊢
       clear hmk5
       have zs5 := lt_of kn5
       refine' wpAnyL_take (i := 15) (oi := ⟨some 29, _, _, _, _, _⟩) (v := _) rfl (by kernel_rfl) (by kernel_rfl) (by kernel_rfl) (by kernel_rfl) (fun _ _ _ h => h) hH5 (by rfl) ?hyv ?o25
       case hyv =>
        intro wz hSw
        go_simp
        try rfl
       try simp only [Act.put, sT, sZ, sS]
       refine wpAnyL_one (i := 16) (o := _) rfl (by kernel_rfl) (by rfl) (fun K hK => ?_)
       go_simp
       have hH6 : Below w3.heap.size w3 (wd5.alloc (.cells #[.slice aPq np dPq, .slice aGq ng dGq, .slice (some ⟨wd1.heap.size, 0, none⟩) nc nc, .slice aLq ln dLq, .slice (some ⟨wd4.heap.size, 0, none⟩) nc nc, .int .i64 0] 57 (0, 0))) := hH5.alloc hH5.size _
       have kn6 := heap_new wd5 (.cells #[.slice aPq np dPq, .slice aGq ng dGq, .slice (some ⟨wd1.heap.size, 0, none⟩) nc nc, .slice aLq ln dLq, .slice (some ⟨wd4.heap.size, 0, none⟩) nc nc, .int .i64 0] 57 (0, 0))
       have zn6 := hH5.size
       refine hK.out _ _ (fun _ => hH6) ?_
       clear hK K
       try simp only [Act.put, sT, sZ, sS]
       have ne6_kn2 := lt_of kn2_5
       have ne6_kn5 := lt_of kn5
       have kn2_6 := (Below.heap_alloc wd5 (.cells #[.slice aPq np dPq, .slice aGq ng dGq, .slice (some ⟨wd1.heap.size, 0, none⟩) nc nc, .slice aLq ln dLq, .slice (some ⟨wd4.heap.size, 0, none⟩) nc nc, .int .i64 0] 57 (0, 0)) _ (lt_of kn2_5)).trans kn2_5
       have kn5_6 := (Below.heap_alloc wd5 (.cells #[.slice aPq np dPq, .slice aGq ng dGq, .slice (some ⟨wd1.heap.size, 0, none⟩) nc nc, .slice aLq ln dLq, .slice (some ⟨wd4.heap.size, 0, none⟩) nc nc, .int .i64 0] 57 (0, 0)) _ (lt_of kn5)).trans kn5
       have pPq_6 := pPq_5.below ((Below.refl _ wd5).alloc (Nat.le_refl _) (.cells #[.slice aPq np dPq, .slice aGq ng dGq, .slice (some ⟨wd1.heap.size, 0, none⟩) nc nc, .slice aLq ln dLq, .slice (some ⟨wd4.heap.size, 0, none⟩) nc nc, .int .i64 0] 57 (0, 0)))
       have pGq_6 := pGq_5.below ((Below.refl _ wd5).alloc (Nat.le_refl _) (.cells #[.slice aPq np dPq, .slice aGq ng dGq, .slice (some ⟨wd1.heap.size, 0, none⟩) nc nc, .slice aLq ln dLq, .slice (some ⟨wd4.heap.size, 0, none⟩) nc nc, .int .i64 0] 57 (0, 0)))
       have pLq_6 := pLq_5.below ((Below.refl _ wd5).alloc (Nat.le_refl _) (.cells #[.slice aPq np dPq, .slice aGq ng dGq, .slice (some ⟨wd1.heap.size, 0, none⟩) nc nc, .slice aLq ln dLq, .slice (some ⟨wd4.heap.size, 0, none⟩) nc nc, .int .i64 0] 57 (0, 0)))
       generalize wd5.alloc (.cells #[.slice aPq np dPq, .slice aGq ng dGq, .slice (some ⟨wd1.heap.size, 0, none⟩) nc nc, .slice aLq ln dLq, .slice (some ⟨wd4.heap.size, 0, none⟩) nc nc, .int .i64 0] 57 (0, 0)) = wd6 at pPq_6 pGq_6 pLq_6 hH6 kn6 kn2_6 kn5_6 ⊢
       have zs6 := lt_of kn6
       refine' wpAnyL_take (i := 17) (oi := ⟨some 5, _, _, _, _, _⟩) (v := _) rfl (by kernel_rfl) (by kernel_rfl) (by kernel_rfl) (by kernel_rfl) (fun _ _ _ h => h) hH6 (by rfl) ?hyv ?o26
       case hyv =>
        intro wz hSw
        go_simp
        try rfl
       try simp only [Act.put, sT, sZ, sS]
       refine wpAnyL_done (by kernel_rfl) ?_ _
       have zs0 := hH0.size
       have hb : BF wd6 wd1.heap.size nc (fun _ => false) := by unfold BF; rw [kn2_6, HLB.out]
       have hc : LX wd6 wd4.heap.size (List.replicate nc 0) := ⟨[], by rw [kn5_6, HLZ.out, List.append_nil]⟩
       have hv : VB wd6 wd5.heap.size (.slice aPq np dPq) (.slice aGq ng dGq) (.slice (some ⟨wd1.heap.size, 0, none⟩) nc nc) (.slice aLq ln dLq) wd4.heap.size nc nc 0 := kn6
       have hP := pPq_6.wide (ok' := fun i => w3.heap.size ≤ i ∧ i ≠ wd1.heap.size ∧ i ≠ wd5.heap.size) (fun i h _ => ⟨by omega, by omega, by omega⟩)
       have hG := pGq_6.wide (ok' := fun i => w3.heap.size ≤ i ∧ i ≠ wd1.heap.size ∧ i ≠ wd5.heap.size) (fun i h _ => ⟨by omega, by omega, by omega⟩)
       have hL := HRow.wide pLq_6 (ok' := fun i => w3.heap.size ≤ i ∧ i ≠ wd1.heap.size ∧ i ≠ wd5.heap.size) (fun i h _ => ⟨by omega, by omega, by omega⟩)
       have HN := hide (show NewC w3 P G C np ng ln nc (.pointer (some ⟨wd5.heap.size, 0, none⟩)) wd6 from ⟨⟨_, _, _, _, _, _, _, _, _, rfl, hv, hP, hG, hL, hb, hc, by omega, by omega, by omega, by omega, by omega, by omega⟩, hH6⟩)
       clear hb hc hv hP hG hL
       go_wp2_with fail
       go_meet
       case rel => exact HN
      case _ =>
       have hmk4 := HMK.out wd3; rw [← HLZ.out] at hmk4; go_simp
       have hH4 : Below w3.heap.size w3 (wd3.alloc (.cells LZ 2 (0, 0))) := hH3.alloc hH3.size _
       have kn4 := heap_new wd3 (.cells LZ 2 (0, 0))
       have zn4 := hH3.size
       refine hK.out _ _ (fun _ => hH4) ?_
       clear hK K
       try simp only [Act.put, sT, sZ, sS]
       have ne4_kn2 := lt_of kn2_3
       have kn2_4 := (Below.heap_alloc wd3 (.cells LZ 2 (0, 0)) _ (lt_of kn2_3)).trans kn2_3
       have pPq_4 := pPq_3.below ((Below.refl _ wd3).alloc (Nat.le_refl _) (.cells LZ 2 (0, 0)))
       have pGq_4 := pGq.below ((Below.refl _ wd3).alloc (Nat.le_refl _) (.cells LZ 2 (0, 0)))
       generalize wd3.alloc (.cells LZ 2 (0, 0)) = wd4 at pPq_4 pGq_4 hH4 kn4 kn2_4 ⊢
       clear hmk4
       have zs4 := lt_of kn4
       refine wpAnyL_one (i := 11) (o := _) rfl (by kernel_rfl) (by rfl) (fun K hK => ?_)
       go_simp
       refine (HCL.out wd4 hH4).mono ?_
       rintro eq wd5 ⟨aLq, dLq, rfl, pLq, bq5⟩
       have kn2_5 := (bq5.block _ (lt_of kn2_4)).trans kn2_4
       have kn4_5 := (bq5.block _ (lt_of kn4)).trans kn4
       have hH5 : Below w3.heap.size w3 wd5 := hH4.trans (bq5.mono hH4.size)
       have zs5 := bq5.size
       have pPq_5 := pPq_4.below bq5
       have pGq_5 := pGq_4.below bq5
       refine hK.out _ _ (fun _ => hH5) ?_
       clear hK K
       try simp only [Act.put, sT, sZ, sS]
       refine' wpAnyL_take (i := 15) (oi := ⟨some 29, _, _, _, _, _⟩) (v := _) rfl (by kernel_rfl) (by kernel_rfl) (by kernel_rfl) (by kernel_rfl) (fun _ _ _ h => h) hH5 (by rfl) ?hyv ?o27
       case hyv =>
        intro wz hSw
        go_simp
        try rfl
       try simp only [Act.put, sT, sZ, sS]
       refine wpAnyL_one (i := 16) (o := _) rfl (by kernel_rfl) (by rfl) (fun K hK => ?_)
       go_simp
       have hH6 : Below w3.heap.size w3 (wd5.alloc (.cells #[.slice aPq np dPq, .slice aGq ng dGq, .slice (some ⟨wd1.heap.size, 0, none⟩) nc nc, .slice aLq ln dLq, .slice (some ⟨wd3.heap.size, 0, none⟩) nc nc, .int .i64 0] 57 (0, 0))) := hH5.alloc hH5.size _
       have kn6 := heap_new wd5 (.cells #[.slice aPq np dPq, .slice aGq ng dGq, .slice (some ⟨wd1.heap.size, 0, none⟩) nc nc, .slice aLq ln dLq, .slice (some ⟨wd3.heap.size, 0, none⟩) nc nc, .int .i64 0] 57 (0, 0))
       have zn6 := hH5.size
       refine hK.out _ _ (fun _ => hH6) ?_
       clear hK K
       try simp only [Act.put, sT, sZ, sS]
       have ne6_kn2 := lt_of kn2_5
       have ne6_kn4 := lt_of kn4_5
       have kn2_6 := (Below.heap_alloc wd5 (.cells #[.slice aPq np dPq, .slice aGq ng dGq, .slice (some ⟨wd1.heap.size, 0, none⟩) nc nc, .slice aLq ln dLq, .slice (some ⟨wd3.heap.size, 0, none⟩) nc nc, .int .i64 0] 57 (0, 0)) _ (lt_of kn2_5)).trans kn2_5
       have kn4_6 := (Below.heap_alloc wd5 (.cells #[.slice aPq np dPq, .slice aGq ng dGq, .slice (some ⟨wd1.heap.size, 0, none⟩) nc nc, .slice aLq ln dLq, .slice (some ⟨wd3.heap.size, 0, none⟩) nc nc, .int .i64 0] 57 (0, 0)) _ (lt_of kn4_5)).trans kn4_5
       have pPq_6 := pPq_5.below ((Below.refl _ wd5).alloc (Nat.le_refl _) (.cells #[.slice aPq np dPq, .slice aGq ng dGq, .slice (some ⟨wd1.heap.size, 0, none⟩) nc nc, .slice aLq ln dLq, .slice (some ⟨wd3.heap.size, 0, none⟩) nc nc, .int .i64 0] 57 (0, 0)))
       have pGq_6 := pGq_5.below ((Below.refl _ wd5).alloc (Nat.le_refl _) (.cells #[.slice aPq np dPq, .slice aGq ng dGq, .slice (some ⟨wd1.heap.size, 0, none⟩) nc nc, .slice aLq ln dLq, .slice (some ⟨wd3.heap.size, 0, none⟩) nc nc, .int .i64 0] 57 (0, 0)))
       have pLq_6 := pLq.below ((Below.refl _ wd5).alloc (Nat.le_refl _) (.cells #[.slice aPq np dPq, .slice aGq ng dGq, .slice (some ⟨wd1.heap.size, 0, none⟩) nc nc, .slice aLq ln dLq, .slice (some ⟨wd3.heap.size, 0, none⟩) nc nc, .int .i64 0] 57 (0, 0)))
       generalize wd5.alloc (.cells #[.slice aPq np dPq, .slice aGq ng dGq, .slice (some ⟨wd1.heap.size, 0, none⟩) nc nc, .slice aLq ln dLq, .slice (some ⟨wd3.heap.size, 0, none⟩) nc nc, .int .i64 0] 57 (0, 0)) = wd6 at pPq_6 pGq_6 pLq_6 hH6 kn6 kn2_6 kn4_6 ⊢
       have zs6 := lt_of kn6
       refine' wpAnyL_take (i := 17) (oi := ⟨some 5, _, _, _, _, _⟩) (v := _) rfl (by kernel_rfl) (by kernel_rfl) (by kernel_rfl) (by kernel_rfl) (fun _ _ _ h => h) hH6 (by rfl) ?hyv ?o28
       case hyv =>
        intro wz hSw
        go_simp
        try rfl
       try simp only [Act.put, sT, sZ, sS]
       refine wpAnyL_done (by kernel_rfl) ?_ _
       have zs0 := hH0.size
       have hb : BF wd6 wd1.heap.size nc (fun _ => false) := by unfold BF; rw [kn2_6, HLB.out]
       have hc : LX wd6 wd3.heap.size (List.replicate nc 0) := ⟨[], by rw [kn4_6, HLZ.out, List.append_nil]⟩
       have hv : VB wd6 wd5.heap.size (.slice aPq np dPq) (.slice aGq ng dGq) (.slice (some ⟨wd1.heap.size, 0, none⟩) nc nc) (.slice aLq ln dLq) wd3.heap.size nc nc 0 := kn6
       have hP := pPq_6.wide (ok' := fun i => w3.heap.size ≤ i ∧ i ≠ wd1.heap.size ∧ i ≠ wd5.heap.size) (fun i h _ => ⟨by omega, by omega, by omega⟩)
       have hG := pGq_6.wide (ok' := fun i => w3.heap.size ≤ i ∧ i ≠ wd1.heap.size ∧ i ≠ wd5.heap.size) (fun i h _ => ⟨by omega, by omega, by omega⟩)
       have hL := HRow.wide pLq_6 (ok' := fun i => w3.heap.size ≤ i ∧ i ≠ wd1.heap.size ∧ i ≠ wd5.heap.size) (fun i h _ => ⟨by omega, by omega, by omega⟩)
       have HN := hide (show NewC w3 P G C np ng ln nc (.pointer (some ⟨wd5.heap.size, 0, none⟩)) wd6 from ⟨⟨_, _, _, _, _, _, _, _, _, rfl, hv, hP, hG, hL, hb, hc, by omega, by omega, by omega, by omega, by omega, by omega⟩, hH6⟩)
       clear hb hc hv hP hG hL
       go_wp2_with fail
       go_meet
       case rel => exact HN
     case _ =>
      have hmk3 := HMK.out wd2; rw [← HLZ.out] at hmk3; go_simp
      have hH3 : Below w3.heap.size w3 (wd2.alloc (.cells LZ 2 (0, 0))) := hH2.alloc hH2.size _
      have kn3 := heap_new wd2 (.cells LZ 2 (0, 0))
      have zn3 := hH2.size
      refine hK.out _ _ (fun _ => hH3) ?_
      clear hK K
      try simp only [Act.put, sT, sZ, sS]
      have ne3_kn2 := lt_of kn2
      have kn2_3 := (Below.heap_alloc wd2 (.cells LZ 2 (0, 0)) _ (lt_of kn2)).trans kn2
      have pPq_3 := pPq_2.below ((Below.refl _ wd2).alloc (Nat.le_refl _) (.cells LZ 2 (0, 0)))
      generalize wd2.alloc (.cells LZ 2 (0, 0)) = wd3 at pPq_3 hH3 kn3 kn2_3 ⊢
      clear hmk3
      have zs3 := lt_of kn3
      refine wpAnyL_one (i := 5) (o := _) rfl (by kernel_rfl) (by rfl) (fun K hK => ?_)
      go_simp
      refine (HCG.out wd3 hH3).mono ?_
      rintro eq wd4 ⟨aGq, dGq, rfl, pGq, bq4⟩
      have kn2_4 := (bq4.block _ (lt_of kn2_3)).trans kn2_3
      have kn3_4 := (bq4.block _ (lt_of kn3)).trans kn3
      have hH4 : Below w3.heap.size w3 wd4 := hH3.trans (bq4.mono hH3.size)
      have zs4 := bq4.size
      have pPq_4 := pPq_3.below bq4
      refine hK.out _ _ (fun _ => hH4) ?_
      clear hK K
      try simp only [Act.put, sT, sZ, sS]
      refine wpAnyL_one (i := 11) (o := _) rfl (by kernel_rfl) (by rfl) (fun K hK => ?_)
      go_simp
      refine (HCL.out wd4 hH4).mono ?_
      rintro eq wd5 ⟨aLq, dLq, rfl, pLq, bq5⟩
      have kn2_5 := (bq5.block _ (lt_of kn2_4)).trans kn2_4
      have kn3_5 := (bq5.block _ (lt_of kn3_4)).trans kn3_4
      have hH5 : Below w3.heap.size w3 wd5 := hH4.trans (bq5.mono hH4.size)
      have zs5 := bq5.size
      have pPq_5 := pPq_4.below bq5
      have pGq_5 := pGq.below bq5
      refine hK.out _ _ (fun _ => hH5) ?_
      clear hK K
      try simp only [Act.put, sT, sZ, sS]
      refine' wpAnyL_take (i := 15) (oi := ⟨some 29, _, _, _, _, _⟩) (v := _) rfl (by kernel_rfl) (by kernel_rfl) (by kernel_rfl) (by kernel_rfl) (fun _ _ _ h => h) hH5 (by rfl) ?hyv ?o29
      case hyv =>
       intro wz hSw
       go_simp
       try rfl
      try simp only [Act.put, sT, sZ, sS]
      refine wpAnyL_one (i := 16) (o := _) rfl (by kernel_rfl) (by rfl) (fun K hK => ?_)
      go_simp
      have hH6 : Below w3.heap.size w3 (wd5.alloc (.cells #[.slice aPq np dPq, .slice aGq ng dGq, .slice (some ⟨wd1.heap.size, 0, none⟩) nc nc, .slice aLq ln dLq, .slice (some ⟨wd2.heap.size, 0, none⟩) nc nc, .int .i64 0] 57 (0, 0))) := hH5.alloc hH5.size _
      have kn6 := heap_new wd5 (.cells #[.slice aPq np dPq, .slice aGq ng dGq, .slice (some ⟨wd1.heap.size, 0, none⟩) nc nc, .slice aLq ln dLq, .slice (some ⟨wd2.heap.size, 0, none⟩) nc nc, .int .i64 0] 57 (0, 0))
      have zn6 := hH5.size
      refine hK.out _ _ (fun _ => hH6) ?_
      clear hK K
      try simp only [Act.put, sT, sZ, sS]
      have ne6_kn2 := lt_of kn2_5
      have ne6_kn3 := lt_of kn3_5
      have kn2_6 := (Below.heap_alloc wd5 (.cells #[.slice aPq np dPq, .slice aGq ng dGq, .slice (some ⟨wd1.heap.size, 0, none⟩) nc nc, .slice aLq ln dLq, .slice (some ⟨wd2.heap.size, 0, none⟩) nc nc, .int .i64 0] 57 (0, 0)) _ (lt_of kn2_5)).trans kn2_5
      have kn3_6 := (Below.heap_alloc wd5 (.cells #[.slice aPq np dPq, .slice aGq ng dGq, .slice (some ⟨wd1.heap.size, 0, none⟩) nc nc, .slice aLq ln dLq, .slice (some ⟨wd2.heap.size, 0, none⟩) nc nc, .int .i64 0] 57 (0, 0)) _ (lt_of kn3_5)).trans kn3_5
      have pPq_6 := pPq_5.below ((Below.refl _ wd5).alloc (Nat.le_refl _) (.cells #[.slice aPq np dPq, .slice aGq ng dGq, .slice (some ⟨wd1.heap.size, 0, none⟩) nc nc, .slice aLq ln dLq, .slice (some ⟨wd2.heap.size, 0, none⟩) nc nc, .int .i64 0] 57 (0, 0)))
      have pGq_6 := pGq_5.below ((Below.refl _ wd5).alloc (Nat.le_refl _) (.cells #[.slice aPq np dPq, .slice aGq ng dGq, .slice (some ⟨wd1.heap.size, 0, none⟩) nc nc, .slice aLq ln dLq, .slice (some ⟨wd2.heap.size, 0, none⟩) nc nc, .int .i64 0] 57 (0, 0)))
      have pLq_6 := pLq.below ((Below.refl _ wd5).alloc (Nat.le_refl _) (.cells #[.slice aPq np dPq, .slice aGq ng dGq, .slice (some ⟨wd1.heap.size, 0, none⟩) nc nc, .slice aLq ln dLq, .slice (some ⟨wd2.heap.size, 0, none⟩) nc nc, .int .i64 0] 57 (0, 0)))
      generalize wd5.alloc (.cells #[.slice aPq np dPq, .slice aGq ng dGq, .slice (some ⟨wd1.heap.size, 0, none⟩) nc nc, .slice aLq ln dLq, .slice (some ⟨wd2.heap.size, 0, none⟩) nc nc, .int .i64 0] 57 (0, 0)) = wd6 at pPq_6 pGq_6 pLq_6 hH6 kn6 kn2_6 kn3_6 ⊢
      have zs6 := lt_of kn6
      refine' wpAnyL_take (i := 17) (oi := ⟨some 5, _, _, _, _, _⟩) (v := _) rfl (by kernel_rfl) (by kernel_rfl) (by kernel_rfl) (by kernel_rfl) (fun _ _ _ h => h) hH6 (by rfl) ?hyv ?o30
      case hyv =>
       intro wz hSw
       go_simp
       try rfl
      try simp only [Act.put, sT, sZ, sS]
      refine wpAnyL_done (by kernel_rfl) ?_ _
      have zs0 := hH0.size
      have hb : BF wd6 wd1.heap.size nc (fun _ => false) := by unfold BF; rw [kn2_6, HLB.out]
      have hc : LX wd6 wd2.heap.size (List.replicate nc 0) := ⟨[], by rw [kn3_6, HLZ.out, List.append_nil]⟩
      have hv : VB wd6 wd5.heap.size (.slice aPq np dPq) (.slice aGq ng dGq) (.slice (some ⟨wd1.heap.size, 0, none⟩) nc nc) (.slice aLq ln dLq) wd2.heap.size nc nc 0 := kn6
      have hP := pPq_6.wide (ok' := fun i => w3.heap.size ≤ i ∧ i ≠ wd1.heap.size ∧ i ≠ wd5.heap.size) (fun i h _ => ⟨by omega, by omega, by omega⟩)
      have hG := pGq_6.wide (ok' := fun i => w3.heap.size ≤ i ∧ i ≠ wd1.heap.size ∧ i ≠ wd5.heap.size) (fun i h _ => ⟨by omega, by omega, by omega⟩)
      have hL := HRow.wide pLq_6 (ok' := fun i => w3.heap.size ≤ i ∧ i ≠ wd1.heap.size ∧ i ≠ wd5.heap.size) (fun i h _ => ⟨by omega, by omega, by omega⟩)
      have HN := hide (show NewC w3 P G C np ng ln nc (.pointer (some ⟨wd5.heap.size, 0, none⟩)) wd6 from ⟨⟨_, _, _, _, _, _, _, _, _, rfl, hv, hP, hG, hL, hb, hc, by omega, by omega, by omega, by omega, by omega, by omega⟩, hH6⟩)
      clear hb hc hv hP hG hL
      go_wp2_with fail
      go_meet
      case rel => exact HN
    case _ =>
     have hmk2 := HMK.out wd1; rw [← HLZ.out] at hmk2; go_simp
     have hH2 : Below w3.heap.size w3 (wd1.alloc (.cells LZ 2 (0, 0))) := hH1.alloc hH1.size _
     have kn2 := heap_new wd1 (.cells LZ 2 (0, 0))
     have zn2 := hH1.size
     refine hK.out _ _ (fun _ => hH2) ?_
     clear hK K
     try simp only [Act.put, sT, sZ, sS]
     have pPq_2 := pPq.below ((Below.refl _ wd1).alloc (Nat.le_refl _) (.cells LZ 2 (0, 0)))
     generalize wd1.alloc (.cells LZ 2 (0, 0)) = wd2 at pPq_2 hH2 kn2 ⊢
     clear hmk2
     have zs2 := lt_of kn2
     refine wpAnyL_two (i := 5) (j := 8) rfl rfl (by kernel_rfl) (by rfl) (by rfl) (fun K hK => ?_) (fun K hK => ?_)
     case _ =>
      go_simp
      refine (HCG.out wd2 hH2).mono ?_
      rintro eq wd3 ⟨aGq, dGq, rfl, pGq, bq3⟩
      have kn2_3 := (bq3.block _ (lt_of kn2)).trans kn2
      have hH3 : Below w3.heap.size w3 wd3 := hH2.trans (bq3.mono hH2.size)
      have zs3 := bq3.size
      have pPq_3 := pPq_2.below bq3
      refine hK.out _ _ (fun _ => hH3) ?_
      clear hK K
      try simp only [Act.put, sT, sZ, sS]
      refine wpAnyL_two (i := 8) (j := 11) rfl rfl (by kernel_rfl) (by rfl) (by rfl) (fun K hK => ?_) (fun K hK => ?_)
      case _ =>
       have hmk4 := HMB.out wd3; rw [← HLB.out] at hmk4; go_simp
       have hH4 : Below w3.heap.size w3 (wd3.alloc (.cells LB4 4 (0, 0))) := hH3.alloc hH3.size _
       have kn4 := heap_new wd3 (.cells LB4 4 (0, 0))
       have zn4 := hH3.size
       refine hK.out _ _ (fun _ => hH4) ?_
       clear hK K
       try simp only [Act.put, sT, sZ, sS]
       have ne4_kn2 := lt_of kn2_3
       have kn2_4 := (Below.heap_alloc wd3 (.cells LB4 4 (0, 0)) _ (lt_of kn2_3)).trans kn2_3
       have pPq_4 := pPq_3.below ((Below.refl _ wd3).alloc (Nat.le_refl _) (.cells LB4 4 (0, 0)))
       have pGq_4 := pGq.below ((Below.refl _ wd3).alloc (Nat.le_refl _) (.cells LB4 4 (0, 0)))
       generalize wd3.alloc (.cells LB4 4 (0, 0)) = wd4 at pPq_4 pGq_4 hH4 kn4 kn2_4 ⊢
       clear hmk4
       have zs4 := lt_of kn4
       refine wpAnyL_one (i := 11) (o := _) rfl (by kernel_rfl) (by rfl) (fun K hK => ?_)
       go_simp
       refine (HCL.out wd4 hH4).mono ?_
       rintro eq wd5 ⟨aLq, dLq, rfl, pLq, bq5⟩
       have kn2_5 := (bq5.block _ (lt_of kn2_4)).trans kn2_4
       have kn4_5 := (bq5.block _ (lt_of kn4)).trans kn4
       have hH5 : Below w3.heap.size w3 wd5 := hH4.trans (bq5.mono hH4.size)
       have zs5 := bq5.size
       have pPq_5 := pPq_4.below bq5
       have pGq_5 := pGq_4.below bq5
       refine hK.out _ _ (fun _ => hH5) ?_
       clear hK K
       try simp only [Act.put, sT, sZ, sS]
       refine' wpAnyL_take (i := 15) (oi := ⟨some 29, _, _, _, _, _⟩) (v := _) rfl (by kernel_rfl) (by kernel_rfl) (by kernel_rfl) (by kernel_rfl) (fun _ _ _ h => h) hH5 (by rfl) ?hyv ?o31
       case hyv =>
        intro wz hSw
        go_simp
        try rfl
       try simp only [Act.put, sT, sZ, sS]
       refine wpAnyL_one (i := 16) (o := _) rfl (by kernel_rfl) (by rfl) (fun K hK => ?_)
       go_simp
       have hH6 : Below w3.heap.size w3 (wd5.alloc (.cells #[.slice aPq np dPq, .slice aGq ng dGq, .slice (some ⟨wd3.heap.size, 0, none⟩) nc nc, .slice aLq ln dLq, .slice (some ⟨wd1.heap.size, 0, none⟩) nc nc, .int .i64 0] 57 (0, 0))) := hH5.alloc hH5.size _
       have kn6 := heap_new wd5 (.cells #[.slice aPq np dPq, .slice aGq ng dGq, .slice (some ⟨wd3.heap.size, 0, none⟩) nc nc, .slice aLq ln dLq, .slice (some ⟨wd1.heap.size, 0, none⟩) nc nc, .int .i64 0] 57 (0, 0))
       have zn6 := hH5.size
       refine hK.out _ _ (fun _ => hH6) ?_
       clear hK K
       try simp only [Act.put, sT, sZ, sS]
       have ne6_kn2 := lt_of kn2_5
       have ne6_kn4 := lt_of kn4_5
       have kn2_6 := (Below.heap_alloc wd5 (.cells #[.slice aPq np dPq, .slice aGq ng dGq, .slice (some ⟨wd3.heap.size, 0, none⟩) nc nc, .slice aLq ln dLq, .slice (some ⟨wd1.heap.size, 0, none⟩) nc nc, .int .i64 0] 57 (0, 0)) _ (lt_of kn2_5)).trans kn2_5
       have kn4_6 := (Below.heap_alloc wd5 (.cells #[.slice aPq np dPq, .slice aGq ng dGq, .slice (some ⟨wd3.heap.size, 0, none⟩) nc nc, .slice aLq ln dLq, .slice (some ⟨wd1.heap.size, 0, none⟩) nc nc, .int .i64 0] 57 (0, 0)) _ (lt_of kn4_5)).trans kn4_5
       have pPq_6 := pPq_5.below ((Below.refl _ wd5).alloc (Nat.le_refl _) (.cells #[.slice aPq np dPq, .slice aGq ng dGq, .slice (some ⟨wd3.heap.size, 0, none⟩) nc nc, .slice aLq ln dLq, .slice (some ⟨wd1.heap.size, 0, none⟩) nc nc, .int .i64 0] 57 (0, 0)))
       have pGq_6 := pGq_5.below ((Below.refl _ wd5).alloc (Nat.le_refl _) (.cells #[.slice aPq np dPq, .slice aGq ng dGq, .slice (some ⟨wd3.heap.size, 0, none⟩) nc nc, .slice aLq ln dLq, .slice (some ⟨wd1.heap.size, 0, none⟩) nc nc, .int .i64 0] 57 (0, 0)))
       have pLq_6 := pLq.below ((Below.refl _ wd5).alloc (Nat.le_refl _) (.cells #[.slice aPq np dPq, .slice aGq ng dGq, .slice (some ⟨wd3.heap.size, 0, none⟩) nc nc, .slice aLq ln dLq, .slice (some ⟨wd1.heap.size, 0, none⟩) nc nc, .int .i64 0] 57 (0, 0)))
       generalize wd5.alloc (.cells #[.slice aPq np dPq, .slice aGq ng dGq, .slice (some ⟨wd3.heap.size, 0, none⟩) nc nc, .slice aLq ln dLq, .slice (some ⟨wd1.heap.size, 0, none⟩) nc nc, .int .i64 0] 57 (0, 0)) = wd6 at pPq_6 pGq_6 pLq_6 hH6 kn6 kn2_6 kn4_6 ⊢
       have zs6 := lt_of kn6
       refine' wpAnyL_take (i := 17) (oi := ⟨some 5, _, _, _, _, _⟩) (v := _) rfl (by kernel_rfl) (by kernel_rfl) (by kernel_rfl) (by kernel_rfl) (fun _ _ _ h => h) hH6 (by rfl) ?hyv ?o32
       case hyv =>
        intro wz hSw
        go_simp
        try rfl
       try simp only [Act.put, sT, sZ, sS]
       refine wpAnyL_done (by kernel_rfl) ?_ _
       have zs0 := hH0.size
       have hb : BF wd6 wd3.heap.size nc (fun _ => false) := by unfold BF; rw [kn4_6, HLB.out]
       have hc : LX wd6 wd1.heap.size (List.replicate nc 0) := ⟨[], by rw [kn2_6, HLZ.out, List.append_nil]⟩
       have hv : VB wd6 wd5.heap.size (.slice aPq np dPq) (.slice aGq ng dGq) (.slice (some ⟨wd3.heap.size, 0, none⟩) nc nc) (.slice aLq ln dLq) wd1.heap.size nc nc 0 := kn6
       have hP := pPq_6.wide (ok' := fun i => w3.heap.size ≤ i ∧ i ≠ wd3.heap.size ∧ i ≠ wd5.heap.size) (fun i h _ => ⟨by omega, by omega, by omega⟩)
       have hG := pGq_6.wide (ok' := fun i => w3.heap.size ≤ i ∧ i ≠ wd3.heap.size ∧ i ≠ wd5.heap.size) (fun i h _ => ⟨by omega, by omega, by omega⟩)
       have hL := HRow.wide pLq_6 (ok' := fun i => w3.heap.size ≤ i ∧ i ≠ wd3.heap.size ∧ i ≠ wd5.heap.size) (fun i h _ => ⟨by omega, by omega, by omega⟩)
       have HN := hide (show NewC w3 P G C np ng ln nc (.pointer (some ⟨wd5.heap.size, 0, none⟩)) wd6 from ⟨⟨_, _, _, _, _, _, _, _, _, rfl, hv, hP, hG, hL, hb, hc, by omega, by omega, by omega, by omega, by omega, by omega⟩, hH6⟩)
       clear hb hc hv hP hG hL
       go_wp2_with fail
       go_meet
       case rel => exact HN
      case _ =>
       go_simp
       refine (HCL.out wd3 hH3).mono ?_
       rintro eq wd4 ⟨aLq, dLq, rfl, pLq, bq4⟩
       have kn2_4 := (bq4.block _ (lt_of kn2_3)).trans kn2_3
       have hH4 : Below w3.heap.size w3 wd4 := hH3.trans (bq4.mono hH3.size)
       have zs4 := bq4.size
       have pPq_4 := pPq_3.below bq4
       have pGq_4 := pGq.below bq4
       refine hK.out _ _ (fun _ => hH4) ?_
       clear hK K
       try simp only [Act.put, sT, sZ, sS]
       refine wpAnyL_one (i := 8) (o := _) rfl (by kernel_rfl) (by rfl) (fun K hK => ?_)
       have hmk5 := HMB.out wd4; rw [← HLB.out] at hmk5; go_simp
       have hH5 : Below w3.heap.size w3 (wd4.alloc (.cells LB4 4 (0, 0))) := hH4.alloc hH4.size _
       have kn5 := heap_new wd4 (.cells LB4 4 (0, 0))
       have zn5 := hH4.size
       refine hK.out _ _ (fun _ => hH5) ?_
       clear hK K
       try simp only [Act.put, sT, sZ, sS]
       have ne5_kn2 := lt_of kn2_4
       have kn2_5 := (Below.heap_alloc wd4 (.cells LB4 4 (0, 0)) _ (lt_of kn2_4)).trans kn2_4
       have pPq_5 := pPq_4.below ((Below.refl _ wd4).alloc (Nat.le_refl _) (.cells LB4 4 (0, 0)))
       have pGq_5 := pGq_4.below ((Below.refl _ wd4).alloc (Nat.le_refl _) (.cells LB4 4 (0, 0)))
       have pLq_5 := pLq.below ((Below.refl _ wd4).alloc (Nat.le_refl _) (.cells LB4 4 (0, 0)))
       generalize wd4.alloc (.cells LB4 4 (0, 0)) = wd5 at pPq_5 pGq_5 pLq_5 hH5 kn5 kn2_5 ⊢
       clear hmk5
       have zs5 := lt_of kn5
       refine' wpAnyL_take (i := 15) (oi := ⟨some 29, _, _, _, _, _⟩) (v := _) rfl (by kernel_rfl) (by kernel_rfl) (by kernel_rfl) (by kernel_rfl) (fun _ _ _ h => h) hH5 (by rfl) ?hyv ?o33
       case hyv =>
        intro wz hSw
        go_simp
        try rfl
       try simp only [Act.put, sT, sZ, sS]
       refine wpAnyL_one (i := 16) (o := _) rfl (by kernel_rfl) (by rfl) (fun K hK => ?_)
       go_simp
       have hH6 : Below w3.heap.size w3 (wd5.alloc (.cells #[.slice aPq np dPq, .slice aGq ng dGq, .slice (some ⟨wd4.heap.size, 0, none⟩) nc nc, .slice aLq ln dLq, .slice (some ⟨wd1.heap.size, 0, none⟩) nc nc, .int .i64 0] 57 (0, 0))) := hH5.alloc hH5.size _
       have kn6 := heap_new wd5 (.cells #[.slice aPq np dPq, .slice aGq ng dGq, .slice (some ⟨wd4.heap.size, 0, none⟩) nc nc, .slice aLq ln dLq, .slice (some ⟨wd1.heap.size, 0, none⟩) nc nc, .int .i64 0] 57 (0, 0))
       have zn6 := hH5.size
       refine hK.out _ _ (fun _ => hH6) ?_
       clear hK K
       try simp only [Act.put, sT, sZ, sS]
       have ne6_kn2 := lt_of kn2_5
       have ne6_kn5 := lt_of kn5
       have kn2_6 := (Below.heap_alloc wd5 (.cells #[.slice aPq np dPq, .slice aGq ng dGq, .slice (some ⟨wd4.heap.size, 0, none⟩) nc nc, .slice aLq ln dLq, .slice (some ⟨wd1.heap.size, 0, none⟩) nc nc, .int .i64 0] 57 (0, 0)) _ (lt_of kn2_5)).trans kn2_5
       have kn5_6 := (Below.heap_alloc wd5 (.cells #[.slice aPq np dPq, .slice aGq ng dGq, .slice (some ⟨wd4.heap.size, 0, none⟩) nc nc, .slice aLq ln dLq, .slice (some ⟨wd1.heap.size, 0, none⟩) nc nc, .int .i64 0] 57 (0, 0)) _ (lt_of kn5)).trans kn5
       have pPq_6 := pPq_5.below ((Below.refl _ wd5).alloc (Nat.le_refl _) (.cells #[.slice aPq np dPq, .slice aGq ng dGq, .slice (some ⟨wd4.heap.size, 0, none⟩) nc nc, .slice aLq ln dLq, .slice (some ⟨wd1.heap.size, 0, none⟩) nc nc, .int .i64 0] 57 (0, 0)))
       have pGq_6 := pGq_5.below ((Below.refl _ wd5).alloc (Nat.le_refl _) (.cells #[.slice aPq np dPq, .slice aGq ng dGq, .slice (some ⟨wd4.heap.size, 0, none⟩) nc nc, .slice aLq ln dLq, .slice (some ⟨wd1.heap.size, 0, none⟩) nc nc, .int .i64 0] 57 (0, 0)))
       have pLq_6 := pLq_5.below ((Below.refl _ wd5).alloc (Nat.le_refl _) (.cells #[.slice aPq np dPq, .slice aGq ng dGq, .slice (some ⟨wd4.heap.size, 0, none⟩) nc nc, .slice aLq ln dLq, .slice (some ⟨wd1.heap.size, 0, none⟩) nc nc, .int .i64 0] 57 (0, 0)))
       generalize wd5.alloc (.cells #[.slice aPq np dPq, .slice aGq ng dGq, .slice (some ⟨wd4.heap.size, 0, none⟩) nc nc, .slice aLq ln dLq, .slice (some ⟨wd1.heap.size, 0, none⟩) nc nc, .int .i64 0] 57 (0, 0)) = wd6 at pPq_6 pGq_6 pLq_6 hH6 kn6 kn2_6 kn5_6 ⊢
       have zs6 := lt_of kn6
       refine' wpAnyL_take (i := 17) (oi := ⟨some 5, _, _, _, _, _⟩) (v := _) rfl (by kernel_rfl) (by kernel_rfl) (by kernel_rfl) (by kernel_rfl) (fun _ _ _ h => h) hH6 (by rfl) ?hyv ?o34
       case hyv =>
        intro wz hSw
        go_simp
        try rfl
       try simp only [Act.put, sT, sZ, sS]
       refine wpAnyL_done (by kernel_rfl) ?_ _
       have zs0 := hH0.size
       have hb : BF wd6 wd4.heap.size nc (fun _ => false) := by unfold BF; rw [kn5_6, HLB.out]
       have hc : LX wd6 wd1.heap.size (List.replicate nc 0) := ⟨[], by rw [kn2_6, HLZ.out, List.append_nil]⟩
       have hv : VB wd6 wd5.heap.size (.slice aPq np dPq) (.slice aGq ng dGq) (.slice (some ⟨wd4.heap.size, 0, none⟩) nc nc) (.slice aLq ln dLq) wd1.heap.size nc nc 0 := kn6
       have hP := pPq_6.wide (ok' := fun i => w3.heap.size ≤ i ∧ i ≠ wd4.heap.size ∧ i ≠ wd5.heap.size) (fun i h _ => ⟨by omega, by omega, by omega⟩)
       have hG := pGq_6.wide (ok' := fun i => w3.heap.size ≤ i ∧ i ≠ wd4.heap.size ∧ i ≠ wd5.heap.size) (fun i h _ => ⟨by omega, by omega, by omega⟩)
       have hL := HRow.wide pLq_6 (ok' := fun i => w3.heap.size ≤ i ∧ i ≠ wd4.heap.size ∧ i ≠ wd5.heap.size) (fun i h _ => ⟨by omega, by omega, by omega⟩)
       have HN := hide (show NewC w3 P G C np ng ln nc (.pointer (some ⟨wd5.heap.size, 0, none⟩)) wd6 from ⟨⟨_, _, _, _, _, _, _, _, _, rfl, hv, hP, hG, hL, hb, hc, by omega, by omega, by omega, by omega, by omega, by omega⟩, hH6⟩)
       clear hb hc hv hP hG hL
       go_wp2_with fail
       go_meet
       case rel => exact HN
     case _ =>
      have hmk3 := HMB.out wd2; rw [← HLB.out] at hmk3; go_simp
      have hH3 : Below w3.heap.size w3 (wd2.alloc (.cells LB4 4 (0, 0))) := hH2.alloc hH2.size _
      have kn3 := heap_new wd2 (.cells LB4 4 (0, 0))
      have zn3 := hH2.size
      refine hK.out _ _ (fun _ => hH3) ?_
      clear hK K
      try simp only [Act.put, sT, sZ, sS]
      have ne3_kn2 := lt_of kn2
      have kn2_3 := (Below.heap_alloc wd2 (.cells LB4 4 (0, 0)) _ (lt_of kn2)).trans kn2
      have pPq_3 := pPq_2.below ((Below.refl _ wd2).alloc (Nat.le_refl _) (.cells LB4 4 (0, 0)))
      generalize wd2.alloc (.cells LB4 4 (0, 0)) = wd3 at pPq_3 hH3 kn3 kn2_3 ⊢
      clear hmk3
      have zs3 := lt_of kn3
      refine wpAnyL_one (i := 5) (o := _) rfl (by kernel_rfl) (by rfl) (fun K hK => ?_)
      go_simp
      refine (HCG.out wd3 hH3).mono ?_
      rintro eq wd4 ⟨aGq, dGq, rfl, pGq, bq4⟩
      have kn2_4 := (bq4.block _ (lt_of kn2_3)).trans kn2_3
      have kn3_4 := (bq4.block _ (lt_of kn3)).trans kn3
      have hH4 : Below w3.heap.size w3 wd4 := hH3.trans (bq4.mono hH3.size)
      have zs4 := bq4.size
      have pPq_4 := pPq_3.below bq4
      refine hK.out _ _ (fun _ => hH4) ?_
      clear hK K
      try simp only [Act.put, sT, sZ, sS]
      refine wpAnyL_one (i := 11) (o := _) rfl (by kernel_rfl) (by rfl) (fun K hK => ?_)
      go_simp
      refine (HCL.out wd4 hH4).mono ?_
      rintro eq wd5 ⟨aLq, dLq, rfl, pLq, bq5⟩
      have kn2_5 := (bq5.block _ (lt_of kn2_4)).trans kn2_4
      have kn3_5 := (bq5.block _ (lt_of kn3_4)).trans kn3_4
      have hH5 : Below w3.heap.size w3 wd5 := hH4.trans (bq5.mono hH4.size)
      have zs5 := bq5.size
      have pPq_5 := pPq_4.below bq5
      have pGq_5 := pGq.below bq5
      refine hK.out _ _ (fun _ => hH5) ?_
      clear hK K
      try simp only [Act.put, sT, sZ, sS]
      refine' wpAnyL_take (i := 15) (oi := ⟨some 29, _, _, _, _, _⟩) (v := _) rfl (by kernel_rfl) (by kernel_rfl) (by kernel_rfl) (by kernel_rfl) (fun _ _ _ h => h) hH5 (by rfl) ?hyv ?o35
      case hyv =>
       intro wz hSw
       go_simp
       try rfl
      try simp only [Act.put, sT, sZ, sS]
      refine wpAnyL_one (i := 16) (o := _) rfl (by kernel_rfl) (by rfl) (fun K hK => ?_)
      go_simp
      have hH6 : Below w3.heap.size w3 (wd5.alloc (.cells #[.slice aPq np dPq, .slice aGq ng dGq, .slice (some ⟨wd2.heap.size, 0, none⟩) nc nc, .slice aLq ln dLq, .slice (some ⟨wd1.heap.size, 0, none⟩) nc nc, .int .i64 0] 57 (0, 0))) := hH5.alloc hH5.size _
      have kn6 := heap_new wd5 (.cells #[.slice aPq np dPq, .slice aGq ng dGq, .slice (some ⟨wd2.heap.size, 0, none⟩) nc nc, .slice aLq ln dLq, .slice (some ⟨wd1.heap.size, 0, none⟩) nc nc, .int .i64 0] 57 (0, 0))
      have zn6 := hH5.size
      refine hK.out _ _ (fun _ => hH6) ?_
      clear hK K
      try simp only [Act.put, sT, sZ, sS]
      have ne6_kn2 := lt_of kn2_5
      have ne6_kn3 := lt_of kn3_5
      have kn2_6 := (Below.heap_alloc wd5 (.cells #[.slice aPq np dPq, .slice aGq ng dGq, .slice (some ⟨wd2.heap.size, 0, none⟩) nc nc, .slice aLq ln dLq, .slice (some ⟨wd1.heap.size, 0, none⟩) nc nc, .int .i64 0] 57 (0, 0)) _ (lt_of kn2_5)).trans kn2_5
      have kn3_6 := (Below.heap_alloc wd5 (.cells #[.slice aPq np dPq, .slice aGq ng dGq, .slice (some ⟨wd2.heap.size, 0, none⟩) nc nc, .slice aLq ln dLq, .slice (some ⟨wd1.heap.size, 0, none⟩) nc nc, .int .i64 0] 57 (0, 0)) _ (lt_of kn3_5)).trans kn3_5
      have pPq_6 := pPq_5.below ((Below.refl _ wd5).alloc (Nat.le_refl _) (.cells #[.slice aPq np dPq, .slice aGq ng dGq, .slice (some ⟨wd2.heap.size, 0, none⟩) nc nc, .slice aLq ln dLq, .slice (some ⟨wd1.heap.size, 0, none⟩) nc nc, .int .i64 0] 57 (0, 0)))
      have pGq_6 := pGq_5.below ((Below.refl _ wd5).alloc (Nat.le_refl _) (.cells #[.slice aPq np dPq, .slice aGq ng dGq, .slice (some ⟨wd2.heap.size, 0, none⟩) nc nc, .slice aLq ln dLq, .slice (some ⟨wd1.heap.size, 0, none⟩) nc nc, .int .i64 0] 57 (0, 0)))
      have pLq_6 := pLq.below ((Below.refl _ wd5).alloc (Nat.le_refl _) (.cells #[.slice aPq np dPq, .slice aGq ng dGq, .slice (some ⟨wd2.heap.size, 0, none⟩) nc nc, .slice aLq ln dLq, .slice (some ⟨wd1.heap.size, 0, none⟩) nc nc, .int .i64 0] 57 (0, 0)))
      generalize wd5.alloc (.cells #[.slice aPq np dPq, .slice aGq ng dGq, .slice (some ⟨wd2.heap.size, 0, none⟩) nc nc, .slice aLq ln dLq, .slice (some ⟨wd1.heap.size, 0, none⟩) nc nc, .int .i64 0] 57 (0, 0)) = wd6 at pPq_6 pGq_6 pLq_6 hH6 kn6 kn2_6 kn3_6 ⊢
      have zs6 := lt_of kn6
      refine' wpAnyL_take (i := 17) (oi := ⟨some 5, _, _, _, _, _⟩) (v := _) rfl (by kernel_rfl) (by kernel_rfl) (by kernel_rfl) (by kernel_rfl) (fun _ _ _ h => h) hH6 (by rfl) ?hyv ?o36
      case hyv =>
       intro wz hSw
       go_simp
       try rfl
      try simp only [Act.put, sT, sZ, sS]
      refine wpAnyL_done (by kernel_rfl) ?_ _
      have zs0 := hH0.size
      have hb : BF wd6 wd2.heap.size nc (fun _ => false) := by unfold BF; rw [kn3_6, HLB.out]
      have hc : LX wd6 wd1.heap.size (List.replicate nc 0) := ⟨[], by rw [kn2_6, HLZ.out, List.append_nil]⟩
      have hv : VB wd6 wd5.heap.size (.slice aPq np dPq) (.slice aGq ng dGq) (.slice (some ⟨wd2.heap.size, 0, none⟩) nc nc) (.slice aLq ln dLq) wd1.heap.size nc nc 0 := kn6
      have hP := pPq_6.wide (ok' := fun i => w3.heap.size ≤ i ∧ i ≠ wd2.heap.size ∧ i ≠ wd5.heap.size) (fun i h _ => ⟨by omega, by omega, by omega⟩)
      have hG := pGq_6.wide (ok' := fun i => w3.heap.size ≤ i ∧ i ≠ wd2.heap.size ∧ i ≠ wd5.heap.size) (fun i h _ => ⟨by omega, by omega, by omega⟩)
      have hL := HRow.wide pLq_6 (ok' := fun i => w3.heap.size ≤ i ∧ i ≠ wd2.heap.size ∧ i ≠ wd5.heap.size) (fun i h _ => ⟨by omega, by omega, by omega⟩)
      have HN := hide (show NewC w3 P G C np ng ln nc (.pointer (some ⟨wd5.heap.size, 0, none⟩)) wd6 from ⟨⟨_, _, _, _, _, _, _, _, _, rfl, hv, hP, hG, hL, hb, hc, by omega, by omega, by omega, by omega, by omega, by omega⟩, hH6⟩)
      clear hb hc hv hP hG hL
      go_wp2_with fail
      go_meet
      case rel => exact HN
   case _ =>
    have hmk1 := HMB.out wd0; rw [← HLB.out] at hmk1; go_simp
    have hH1 : Below w3.heap.size w3 (wd0.alloc (.cells LB4 4 (0, 0))) := hH0.alloc hH0.size _
    have kn1 := heap_new wd0 (.cells LB4 4 (0, 0))
    have zn1 := hH0.size
    refine hK.out _ _ (fun _ => hH1) ?_
    clear hK K
    try simp only [Act.put, sT, sZ, sS]
    generalize wd0.alloc (.cells LB4 4 (0, 0)) = wd1 at hH1 kn1 ⊢
    clear hmk1
    have zs1 := lt_of kn1
    refine wpAnyL_two (i := 2) (j := 14) rfl rfl (by kernel_rfl) (by rfl) (by rfl) (fun K hK => ?_) (fun K hK => ?_)
    case _ =>
     go_simp
     refine (HCP.out wd1 hH1).mono ?_
     rintro eq wd2 ⟨aPq, dPq, rfl, pPq, bq2⟩
     have kn1_2 := (bq2.block _ (lt_of kn1)).trans kn1
     have hH2 : Below w3.heap.size w3 wd2 := hH1.trans (bq2.mono hH1.size)
     have zs2 := bq2.size
     refine hK.out _ _ (fun _ => hH2) ?_
     clear hK K
     try simp only [Act.put, sT, sZ, sS]
     refine wpAnyL_two (i := 5) (j := 14) rfl rfl (by kernel_rfl) (by rfl) (by rfl) (fun K hK => ?_) (fun K hK => ?_)
     case _ =>
      go_simp
      refine (HCG.out wd2 hH2).mono ?_
      rintro eq wd3 ⟨aGq, dGq, rfl, pGq, bq3⟩
      have kn1_3 := (bq3.block _ (lt_of kn1_2)).trans kn1_2
      have hH3 : Below w3.heap.size w3 wd3 := hH2.trans (bq3.mono hH2.size)
      have zs3 := bq3.size
      have pPq_3 := pPq.below bq3
      refine hK.out _ _ (fun _ => hH3) ?_
      clear hK K
      try simp only [Act.put, sT, sZ, sS]
      refine wpAnyL_two (i := 11) (j := 14) rfl rfl (by kernel_rfl) (by rfl) (by rfl) (fun K hK => ?_) (fun K hK => ?_)
      case _ =>
       go_simp
       refine (HCL.out wd3 hH3).mono ?_
       rintro eq wd4 ⟨aLq, dLq, rfl, pLq, bq4⟩
       have kn1_4 := (bq4.block _ (lt_of kn1_3)).trans kn1_3
       have hH4 : Below w3.heap.size w3 wd4 := hH3.trans (bq4.mono hH3.size)
       have zs4 := bq4.size
       have pPq_4 := pPq_3.below bq4
       have pGq_4 := pGq.below bq4
       refine hK.out _ _ (fun _ => hH4) ?_
       clear hK K
       try simp only [Act.put, sT, sZ, sS]
       refine wpAnyL_one (i := 14) (o := _) rfl (by kernel_rfl) (by rfl) (fun K hK => ?_)
       have hmk5 := HMK.out wd4; rw [← HLZ.out] at hmk5; go_simp
       have hH5 : Below w3.heap.size w3 (wd4.alloc (.cells LZ 2 (0, 0))) := hH4.alloc hH4.size _
       have kn5 := heap_new wd4 (.cells LZ 2 (0, 0))
       have zn5 := hH4.size
       refine hK.out _ _ (fun _ => hH5) ?_
       clear hK K
       try simp only [Act.put, sT, sZ, sS]
       have ne5_kn1 := lt_of kn1_4
       have kn1_5 := (Below.heap_alloc wd4 (.cells LZ 2 (0, 0)) _ (lt_of kn1_4)).trans kn1_4
       have pPq_5 := pPq_4.below ((Below.refl _ wd4).alloc (Nat.le_refl _) (.cells LZ 2 (0, 0)))
       have pGq_5 := pGq_4.below ((Below.refl _ wd4).alloc (Nat.le_refl _) (.cells LZ 2 (0, 0)))
       have pLq_5 := pLq.below ((Below.refl _ wd4).alloc (Nat.le_refl _) (.cells LZ 2 (0, 0)))
       generalize wd4.alloc (.cells LZ 2 (0, 0)) = wd5 at pPq_5 pGq_5 pLq_5 hH5 kn5 kn1_5 ⊢
       clear hmk5
       have zs5 := lt_of kn5
       refine' wpAnyL_take (i := 15) (oi := ⟨some 29, _, _, _, _, _⟩) (v := _) rfl (by kernel_rfl) (by kernel_rfl) (by kernel_rfl) (by kernel_rfl) (fun _ _ _ h => h) hH5 (by rfl) ?hyv ?o37
       case hyv =>
        intro wz hSw
        go_simp
        try rfl
       try simp only [Act.put, sT, sZ, sS]
       refine wpAnyL_one (i := 16) (o := _) rfl (by kernel_rfl) (by rfl) (fun K hK => ?_)
       go_simp
       have hH6 : Below w3.heap.size w3 (wd5.alloc (.cells #[.slice aPq np dPq, .slice aGq ng dGq, .slice (some ⟨wd0.heap.size, 0, none⟩) nc nc, .slice aLq ln dLq, .slice (some ⟨wd4.heap.size, 0, none⟩) nc nc, .int .i64 0] 57 (0, 0))) := hH5.alloc hH5.size _
       have kn6 := heap_new wd5 (.cells #[.slice aPq np dPq, .slice aGq ng dGq, .slice (some ⟨wd0.heap.size, 0, none⟩) nc nc, .slice aLq ln dLq, .slice (some ⟨wd4.heap.size, 0, none⟩) nc nc, .int .i64 0] 57 (0, 0))
       have zn6 := hH5.size
       refine hK.out _ _ (fun _ => hH6) ?_
       clear hK K
       try simp only [Act.put, sT, sZ, sS]
       have ne6_kn1 := lt_of kn1_5
       have ne6_kn5 := lt_of kn5
       have kn1_6 := (Below.heap_alloc wd5 (.cells #[.slice aPq np dPq, .slice aGq ng dGq, .slice (some ⟨wd0.heap.size, 0, none⟩) nc nc, .slice aLq ln dLq, .slice (some ⟨wd4.heap.size, 0, none⟩) nc nc, .int .i64 0] 57 (0, 0)) _ (lt_of kn1_5)).trans kn1_5
       have kn5_6 := (Below.heap_alloc wd5 (.cells #[.slice aPq np dPq, .slice aGq ng dGq, .slice (some ⟨wd0.heap.size, 0, none⟩) nc nc, .slice aLq ln dLq, .slice (some ⟨wd4.heap.size, 0, none⟩) nc nc, .int .i64 0] 57 (0, 0)) _ (lt_of kn5)).trans kn5
       have pPq_6 := pPq_5.below ((Below.refl _ wd5).alloc (Nat.le_refl _) (.cells #[.slice aPq np dPq, .slice aGq ng dGq, .slice (some ⟨wd0.heap.size, 0, none⟩) nc nc, .slice aLq ln dLq, .slice (some ⟨wd4.heap.size, 0, none⟩) nc nc, .int .i64 0] 57 (0, 0)))
       have pGq_6 := pGq_5.below ((Below.refl _ wd5).alloc (Nat.le_refl _) (.cells #[.slice aPq np dPq, .slice aGq ng dGq, .slice (some ⟨wd0.heap.size, 0, none⟩) nc nc, .slice aLq ln dLq, .slice (some ⟨wd4.heap.size, 0, none⟩) nc nc, .int .i64 0] 57 (0, 0)))
       have pLq_6 := pLq_5.below ((Below.refl _ wd5).alloc (Nat.le_refl _) (.cells #[.slice aPq np dPq, .slice aGq ng dGq, .slice (some ⟨wd0.heap.size, 0, none⟩) nc nc, .slice aLq ln dLq, .slice (some ⟨wd4.heap.size, 0, none⟩) nc nc, .int .i64 0] 57 (0, 0)))
       generalize wd5.alloc (.cells #[.slice aPq np dPq, .slice aGq ng dGq, .slice (some ⟨wd0.heap.size, 0, none⟩) nc nc, .slice aLq ln dLq, .slice (some ⟨wd4.heap.size, 0, none⟩) nc nc, .int .i64 0] 57 (0, 0)) = wd6 at pPq_6 pGq_6 pLq_6 hH6 kn6 kn1_6 kn5_6 ⊢
       have zs6 := lt_of kn6
       refine' wpAnyL_take (i := 17) (oi := ⟨some 5, _, _, _, _, _⟩) (v := _) rfl (by kernel_rfl) (by kernel_rfl) (by kernel_rfl) (by kernel_rfl) (fun _ _ _ h => h) hH6 (by rfl) ?hyv ?o38
       case hyv =>
        intro wz hSw
        go_simp
        try rfl
       try simp only [Act.put, sT, sZ, sS]
       refine wpAnyL_done (by kernel_rfl) ?_ _
       have zs0 := hH0.size
       have hb : BF wd6 wd0.heap.size nc (fun _ => false) := by unfold BF; rw [kn1_6, HLB.out]
       have hc : LX wd6 wd4.heap.size (List.replicate nc 0) := ⟨[], by rw [kn5_6, HLZ.out, List.append_nil]⟩
       have hv : VB wd6 wd5.heap.size (.slice aPq np dPq) (.slice aGq ng dGq) (.slice (some ⟨wd0.heap.size, 0, none⟩) nc nc) (.slice aLq ln dLq) wd4.heap.size nc nc 0 := kn6
       have hP := pPq_6.wide (ok' := fun i => w3.heap.size ≤ i ∧ i ≠ wd0.heap.size ∧ i ≠ wd5.heap.size) (fun i h _ => ⟨by omega, by omega, by omega⟩)
       have hG := pGq_6.wide (ok' := fun i => w3.heap.size ≤ i ∧ i ≠ wd0.heap.size ∧ i ≠ wd5.heap.size) (fun i h _ => ⟨by omega, by omega, by omega⟩)
       have hL := HRow.wide pLq_6 (ok' := fun i => w3.heap.size ≤ i ∧ i ≠ wd0.heap.size ∧ i ≠ wd5.heap.size) (fun i h _ => ⟨by omega, by omega, by omega⟩)
       have HN := hide (show NewC w3 P G C np ng ln nc (.pointer (some ⟨wd5.heap.size, 0, none⟩)) wd6 from ⟨⟨_, _, _, _, _, _, _, _, _, rfl, hv, hP, hG, hL, hb, hc, by omega, by omega, by omega, by omega, by omega, by omega⟩, hH6⟩)
       clear hb hc hv hP hG hL
       go_wp2_with fail
       go_meet
       case rel => exact HN
      case _ =>
       have hmk4 := HMK.out wd3; rw [← HLZ.out] at hmk4; go_simp
       have hH4 : Below w3.heap.size w3 (wd3.alloc (.cells LZ 2 (0, 0))) := hH3.alloc hH3.size _
       have kn4 := heap_new wd3 (.cells LZ 2 (0, 0))
       have zn4 := hH3.size
       refine hK.out _ _ (fun _ => hH4) ?_
       clear hK K
       try simp only [Act.put, sT, sZ, sS]
       have ne4_kn1 := lt_of kn1_3
       have kn1_4 := (Below.heap_alloc wd3 (.cells LZ 2 (0, 0)) _ (lt_of kn1_3)).trans kn1_3
       have pPq_4 := pPq_3.below ((Below.refl _ wd3).alloc (Nat.le_refl _) (.cells LZ 2 (0, 0)))
       have pGq_4 := pGq.below ((Below.refl _ wd3).alloc (Nat.le_refl _) (.cells LZ 2 (0, 0)))
       generalize wd3.alloc (.cells LZ 2 (0, 0)) = wd4 at pPq_4 pGq_4 hH4 kn4 kn1_4 ⊢
       clear hmk4
       have zs4 := lt_of kn4
       refine wpAnyL_one (i := 11) (o := _) rfl (by kernel_rfl) (by rfl) (fun K hK => ?_)
       go_simp
       refine (HCL.out wd4 hH4).mono ?_
       rintro eq wd5 ⟨aLq, dLq, rfl, pLq, bq5⟩
       have kn1_5 := (bq5.block _ (lt_of kn1_4)).trans kn1_4
       have kn4_5 := (bq5.block _ (lt_of kn4)).trans kn4
       have hH5 : Below w3.heap.size w3 wd5 := hH4.trans (bq5.mono hH4.size)
       have zs5 := bq5.size
       have pPq_5 := pPq_4.below bq5
       have pGq_5 := pGq_4.below bq5
       refine hK.out _ _ (fun _ => hH5) ?_
       clear hK K
       try simp only [Act.put, sT, sZ, sS]
       refine' wpAnyL_take (i := 15) (oi := ⟨some 29, _, _, _, _, _⟩) (v := _) rfl (by kernel_rfl) (by kernel_rfl) (by kernel_rfl) (by kernel_rfl) (fun _ _ _ h => h) hH5 (by rfl) ?hyv ?o39
       case hyv =>
        intro wz hSw
        go_simp
        try rfl
       try simp only [Act.put, sT, sZ, sS]
       refine wpAnyL_one (i := 16) (o := _) rfl (by kernel_rfl) (by rfl) (fun K hK => ?_)
       go_simp
       have hH6 : Below w3.heap.size w3 (wd5.alloc (.cells #[.slice aPq np dPq, .slice aGq ng dGq, .slice (some ⟨wd0.heap.size, 0, none⟩) nc nc, .slice aLq ln dLq, .slice (some ⟨wd3.heap.size, 0, none⟩) nc nc, .int .i64 0] 57 (0, 0))) := hH5.alloc hH5.size _
       have kn6 := heap_new wd5 (.cells #[.slice aPq np dPq, .slice aGq ng dGq, .slice (some ⟨wd0.heap.size, 0, none⟩) nc nc, .slice aLq ln dLq, .slice (some ⟨wd3.heap.size, 0, none⟩) nc nc, .int .i64 0] 57 (0, 0))
       have zn6 := hH5.size
       refine hK.out _ _ (fun _ => hH6) ?_
       clear hK K
       try simp only [Act.put, sT, sZ, sS]
       have ne6_kn1 := lt_of kn1_5
       have ne6_kn4 := lt_of kn4_5
       have kn1_6 := (Below.heap_alloc wd5 (.cells #[.slice aPq np dPq, .slice aGq ng dGq, .slice (some ⟨wd0.heap.size, 0, none⟩) nc nc, .slice aLq ln dLq, .slice (some ⟨wd3.heap.size, 0, none⟩) nc nc, .int .i64 0] 57 (0, 0)) _ (lt_of kn1_5)).trans kn1_5
       have kn4_6 := (Below.heap_alloc wd5 (.cells #[.slice aPq np dPq, .slice aGq ng dGq, .slice (some ⟨wd0.heap.size, 0, none⟩) nc nc, .slice aLq ln dLq, .slice (some ⟨wd3.heap.size, 0, none⟩) nc nc, .int .i64 0] 57 (0, 0)) _ (lt_of kn4_5)).trans kn4_5
       have pPq_6 := pPq_5.below ((Below.refl _ wd5).alloc (Nat.le_refl _) (.cells #[.slice aPq np dPq, .slice aGq ng dGq, .slice (some ⟨wd0.heap.size, 0, none⟩) nc nc, .slice aLq ln dLq, .slice (some ⟨wd3.heap.size, 0, none⟩) nc nc, .int .i64 0] 57 (0, 0)))
       have pGq_6 := pGq_5.below ((Below.refl _ wd5).alloc (Nat.le_refl _) (.cells #[.slice aPq np dPq, .slice aGq ng dGq, .slice (some ⟨wd0.heap.size, 0, none⟩) nc nc, .slice aLq ln dLq, .slice (some ⟨wd3.heap.size, 0, none⟩) nc nc, .int .i64 0] 57 (0, 0)))
       have pLq_6 := pLq.below ((Below.refl _ wd5).alloc (Nat.le_refl _) (.cells #[.slice aPq np dPq, .slice aGq ng dGq, .slice (some ⟨wd0.heap.size, 0, none⟩) nc nc, .slice aLq ln dLq, .slice (some ⟨wd3.heap.size, 0, none⟩) nc nc, .int .i64 0] 57 (0, 0)))
       generalize wd5.alloc (.cells #[.slice aPq np dPq, .slice aGq ng dGq, .slice (some ⟨wd0.heap.size, 0, none⟩) nc nc, .slice aLq ln dLq, .slice (some ⟨wd3.heap.size, 0, none⟩) nc nc, .int .i64 0] 57 (0, 0)) = wd6 at pPq_6 pGq_6 pLq_6 hH6 kn6 kn1_6 kn4_6 ⊢
       have zs6 := lt_of kn6
       refine' wpAnyL_take (i := 17) (oi := ⟨some 5, _, _, _, _, _⟩) (v := _) rfl (by kernel_rfl) (by kernel_rfl) (by kernel_rfl) (by kernel_rfl) (fun _ _ _ h => h) hH6 (by rfl) ?hyv ?o40
       case hyv =>
        intro wz hSw
        go_simp
        try rfl
       try simp only [Act.put, sT, sZ, sS]
       refine wpAnyL_done (by kernel_rfl) ?_ _
       have zs0 := hH0.size
       have hb : BF wd6 wd0.heap.size nc (fun _ => false) := by unfold BF; rw [kn1_6, HLB.out]
       have hc : LX wd6 wd3.heap.size (List.replicate nc 0) := ⟨[], by rw [kn4_6, HLZ.out, List.append_nil]⟩
       have hv : VB wd6 wd5.heap.size (.slice aPq np dPq) (.slice aGq ng dGq) (.slice (some ⟨wd0.heap.size, 0, none⟩) nc nc) (.slice aLq ln dLq) wd3.heap.size nc nc 0 := kn6
       have hP := pPq_6.wide (ok' := fun i => w3.heap.size ≤ i ∧ i ≠ wd0.heap.size ∧ i ≠ wd5.heap.size) (fun i h _ => ⟨by omega, by omega, by omega⟩)
       have hG := pGq_6.wide (ok' := fun i => w3.heap.size ≤ i ∧ i ≠ wd0.heap.size ∧ i ≠ wd5.heap.size) (fun i h _ => ⟨by omega, by omega, by omega⟩)
       have hL := HRow.wide pLq_6 (ok' := fun i => w3.heap.size ≤ i ∧ i ≠ wd0.heap.size ∧ i ≠ wd5.heap.size) (fun i h _ => ⟨by omega, by omega, by omega⟩)
       have HN := hide (show NewC w3 P G C np ng ln nc (.pointer (some ⟨wd5.heap.size, 0, none⟩)) wd6 from ⟨⟨_, _, _, _, _, _, _, _, _, rfl, hv, hP, hG, hL, hb, hc, by omega, by omega, by omega, by omega, by omega, by omega⟩, hH6⟩)
       clear hb hc hv hP hG hL
       go_wp2_with fail
       go_meet
       case rel => exact HN
     case _ =>
      have hmk3 := HMK.out wd2; rw [← HLZ.out] at hmk3; go_simp
      have hH3 : Below w3.heap.size w3 (wd2.alloc (.cells LZ 2 (0, 0))) := hH2.alloc hH2.size _
      have kn3 := heap_new wd2 (.cells LZ 2 (0, 0))
      have zn3 := hH2.size
      refine hK.out _ _ (fun _ => hH3) ?_
      clear hK K
      try simp only [Act.put, sT, sZ, sS]
      have ne3_kn1 := lt_of kn1_2
      have kn1_3 := (Below.heap_alloc wd2 (.cells LZ 2 (0, 0)) _ (lt_of kn1_2)).trans kn1_2
      have pPq_3 := pPq.below ((Below.refl _ wd2).alloc (Nat.le_refl _) (.cells LZ 2 (0, 0)))
      generalize wd2.alloc (.cells LZ 2 (0, 0)) = wd3 at pPq_3 hH3 kn3 kn1_3 ⊢
      clear hmk3
      have zs3 := lt_of kn3
      refine wpAnyL_one (i := 5) (o := _) rfl (by kernel_rfl) (by rfl) (fun K hK => ?_)
      go_simp
      refine (HCG.out wd3 hH3).mono ?_
      rintro eq wd4 ⟨aGq, dGq, rfl, pGq, bq4⟩
      have kn1_4 := (bq4.block _ (lt_of kn1_3)).trans kn1_3
      have kn3_4 := (bq4.block _ (lt_of kn3)).trans kn3
      have hH4 : Below w3.heap.size w3 wd4 := hH3.trans (bq4.mono hH3.size)
      have zs4 := bq4.size
      have pPq_4 := pPq_3.below bq4
      refine hK.out _ _ (fun _ => hH4) ?_
      clear hK K
      try simp only [Act.put, sT, sZ, sS]
      refine wpAnyL_one (i := 11) (o := _) rfl (by kernel_rfl) (by rfl) (fun K hK => ?_)
      go_simp
      refine (HCL.out wd4 hH4).mono ?_
      rintro eq wd5 ⟨aLq, dLq, rfl, pLq, bq5⟩
      have kn1_5 := (bq5.block _ (lt_of kn1_4)).trans kn1_4
      have kn3_5 := (bq5.block _ (lt_of kn3_4)).trans kn3_4
      have hH5 : Below w3.heap.size w3 wd5 := hH4.trans (bq5.mono hH4.size)
      have zs5 := bq5.size
      have pPq_5 := pPq_4.below bq5
      have pGq_5 := pGq.below bq5
      refine hK.out _ _ (fun _ => hH5) ?_
      clear hK K
      try simp only [Act.put, sT, sZ, sS]
      refine' wpAnyL_take (i := 15) (oi := ⟨some 29, _, _, _, _, _⟩) (v := _) rfl (by kernel_rfl) (by kernel_rfl) (by kernel_rfl) (by kernel_rfl) (fun _ _ _ h => h) hH5 (by rfl) ?hyv ?o41
      case hyv =>
       intro wz hSw
       go_simp
       try rfl
      try simp only [Act.put, sT, sZ, sS]
      refine wpAnyL_one (i := 16) (o := _) rfl (by kernel_rfl) (by rfl) (fun K hK => ?_)
      go_simp
      have hH6 : Below w3.heap.size w3 (wd5.alloc (.cells #[.slice aPq np dPq, .slice aGq ng dGq, .slice (some ⟨wd0.heap.size, 0, none⟩) nc nc, .slice aLq ln dLq, .slice (some ⟨wd2.heap.size, 0, none⟩) nc nc, .int .i64 0] 57 (0, 0))) := hH5.alloc hH5.size _
      have kn6 := heap_new wd5 (.cells #[.slice aPq np dPq, .slice aGq ng dGq, .slice (some ⟨wd0.heap.size, 0, none⟩) nc nc, .slice aLq ln dLq, .slice (some ⟨wd2.heap.size, 0, none⟩) nc nc, .int .i64 0] 57 (0, 0))
      have zn6 := hH5.size
      refine hK.out _ _ (fun _ => hH6) ?_
      clear hK K
      try simp only [Act.put, sT, sZ, sS]
      have ne6_kn1 := lt_of kn1_5
      have ne6_kn3 := lt_of kn3_5
      have kn1_6 := (Below.heap_alloc wd5 (.cells #[.slice aPq np dPq, .slice aGq ng dGq, .slice (some ⟨wd0.heap.size, 0, none⟩) nc nc, .slice aLq ln dLq, .slice (some ⟨wd2.heap.size, 0, none⟩) nc nc, .int .i64 0] 57 (0, 0)) _ (lt_of kn1_5)).trans kn1_5
      have kn3_6 := (Below.heap_alloc wd5 (.cells #[.slice aPq np dPq, .slice aGq ng dGq, .slice (some ⟨wd0.heap.size, 0, none⟩) nc nc, .slice aLq ln dLq, .slice (some ⟨wd2.heap.size, 0, none⟩) nc nc, .int .i64 0] 57 (0, 0)) _ (lt_of kn3_5)).trans kn3_5
      have pPq_6 := pPq_5.below ((Below.refl _ wd5).alloc (Nat.le_refl _) (.cells #[.slice aPq np dPq, .slice aGq ng dGq, .slice (some ⟨wd0.heap.size, 0, none⟩) nc nc, .slice aLq ln dLq, .slice (some ⟨wd2.heap.size, 0, none⟩) nc nc, .int .i64 0] 57 (0, 0)))
      have pGq_6 := pGq_5.below ((Below.refl _ wd5).alloc (Nat.le_refl _) (.cells #[.slice aPq np dPq, .slice aGq ng dGq, .slice (some ⟨wd0.heap.size, 0, none⟩) nc nc, .slice aLq ln dLq, .slice (some ⟨wd2.heap.size, 0, none⟩) nc nc, .int .i64 0] 57 (0, 0)))
      have pLq_6 := pLq.below ((Below.refl _ wd5).alloc (Nat.le_refl _) (.cells #[.slice aPq np dPq, .slice aGq ng dGq, .slice (some ⟨wd0.heap.size, 0, none⟩) nc nc, .slice aLq ln dLq, .slice (some ⟨wd2.heap.size, 0, none⟩) nc nc, .int .i64 0] 57 (0, 0)))
      generalize wd5.alloc (.cells #[.slice aPq np dPq, .slice aGq ng dGq, .slice (some ⟨wd0.heap.size, 0, none⟩) nc nc, .slice aLq ln dLq, .slice (some ⟨wd2.heap.size, 0, none⟩) nc nc, .int .i64 0] 57 (0, 0)) = wd6 at pPq_6 pGq_6 pLq_6 hH6 kn6 kn1_6 kn3_6 ⊢
      have zs6 := lt_of kn6
      refine' wpAnyL_take (i := 17) (oi := ⟨some 5, _, _, _, _, _⟩) (v := _) rfl (by kernel_rfl) (by kernel_rfl) (by kernel_rfl) (by kernel_rfl) (fun _ _ _ h => h) hH6 (by rfl) ?hyv ?o42
      case hyv =>
       intro wz hSw
       go_simp
       try rfl
      try simp only [Act.put, sT, sZ, sS]
      refine wpAnyL_done (by kernel_rfl) ?_ _
      have zs0 := hH0.size
      have hb : BF wd6 wd0.heap.size nc (fun _ => false) := by unfold BF; rw [kn1_6, HLB.out]
      have hc : LX wd6 wd2.heap.size (List.replicate nc 0) := ⟨[], by rw [kn3_6, HLZ.out, List.append_nil]⟩
      have hv : VB wd6 wd5.heap.size (.slice aPq np dPq) (.slice aGq ng dGq) (.slice (some ⟨wd0.heap.size, 0, none⟩) nc nc) (.slice aLq ln dLq) wd2.heap.size nc nc 0 := kn6
      have hP := pPq_6.wide (ok' := fun i => w3.heap.size ≤ i ∧ i ≠ wd0.heap.size ∧ i ≠ wd5.heap.size) (fun i h _ => ⟨by omega, by omega, by omega⟩)
      have hG := pGq_6.wide (ok' := fun i => w3.heap.size ≤ i ∧ i ≠ wd0.heap.size ∧ i ≠ wd5.heap.size) (fun i h _ => ⟨by omega, by omega, by omega⟩)
      have hL := HRow.wide pLq_6 (ok' := fun i => w3.heap.size ≤ i ∧ i ≠ wd0.heap.size ∧ i ≠ wd5.heap.size) (fun i h _ => ⟨by omega, by omega, by omega⟩)
      have HN := hide (show NewC w3 P G C np ng ln nc (.pointer (some ⟨wd5.heap.size, 0, none⟩)) wd6 from ⟨⟨_, _, _, _, _, _, _, _, _, rfl, hv, hP, hG, hL, hb, hc, by omega, by omega, by omega, by omega, by omega, by omega⟩, hH6⟩)
      clear hb hc hv hP hG hL
      go_wp2_with fail
      go_meet
      case rel => exact HN
    case _ =>
     have hmk2 := HMK.out wd1; rw [← HLZ.out] at hmk2; go_simp
     have hH2 : Below w3.heap.size w3 (wd1.alloc (.cells LZ 2 (0, 0))) := hH1.alloc hH1.size _
     have kn2 := heap_new wd1 (.cells LZ 2 (0, 0))
     have zn2 := hH1.size
     refine hK.out _ _ (fun _ => hH2) ?_
     clear hK K
     try simp only [Act.put, sT, sZ, sS]
     have ne2_kn1 := lt_of kn1
     have kn1_2 := (Below.heap_alloc wd1 (.cells LZ 2 (0, 0)) _ (lt_of kn1)).trans kn1
     generalize wd1.alloc (.cells LZ 2 (0, 0)) = wd2 at hH2 kn2 kn1_2 ⊢
     clear hmk2
     have zs2 := lt_of kn2
     refine wpAnyL_one (i := 2) (o := _) rfl (by kernel_rfl) (by rfl) (fun K hK => ?_)
     go_simp
     refine (HCP.out wd2 hH2).mono ?_
     rintro eq wd3 ⟨aPq, dPq, rfl, pPq, bq3⟩
     have kn1_3 := (bq3.block _ (lt_of kn1_2)).trans kn1_2
     have kn2_3 := (bq3.block _ (lt_of kn2)).trans kn2
     have hH3 : Below w3.heap.size w3 wd3 := hH2.trans (bq3.mono hH2.size)
     have zs3 := bq3.size
     refine hK.out _ _ (fun _ => hH3) ?_
     clear hK K
     try simp only [Act.put, sT, sZ, sS]
     refine wpAnyL_one (i := 5) (o := _) rfl (by kernel_rfl) (by rfl) (fun K hK => ?_)
     go_simp
     refine (HCG.out wd3 hH3).mono ?_
     rintro eq wd4 ⟨aGq, dGq, rfl, pGq, bq4⟩
     have kn1_4 := (bq4.block _ (lt_of kn1_3)).trans kn1_3
     have kn2_4 := (bq4.block _ (lt_of kn2_3)).trans kn2_3
     have hH4 : Below w3.heap.size w3 wd4 := hH3.trans (bq4.mono hH3.size)
     have zs4 := bq4.size
     have pPq_4 := pPq.below bq4
     refine hK.out _ _ (fun _ => hH4) ?_
     clear hK K
     try simp only [Act.put, sT, sZ, sS]
     refine wpAnyL_one (i := 11) (o := _) rfl (by kernel_rfl) (by rfl) (fun K hK => ?_)
     go_simp
     refine (HCL.out wd4 hH4).mono ?_
     rintro eq wd5 ⟨aLq, dLq, rfl, pLq, bq5⟩
     have kn1_5 := (bq5.block _ (lt_of kn1_4)).trans kn1_4
     have kn2_5 := (bq5.block _ (lt_of kn2_4)).trans kn2_4
     have hH5 : Below w3.heap.size w3 wd5 := hH4.trans (bq5.mono hH4.size)
     have zs5 := bq5.size
     have pPq_5 := pPq_4.below bq5
     have pGq_5 := pGq.below bq5
     refine hK.out _ _ (fun _ => hH5) ?_
     clear hK K
     try simp only [Act.put, sT, sZ, sS]
     refine' wpAnyL_take (i := 15) (oi := ⟨some 29, _, _, _, _, _⟩) (v := _) rfl (by kernel_rfl) (by kernel_rfl) (by kernel_rfl) (by kernel_rfl) (fun _ _ _ h => h) hH5 (by rfl) ?hyv ?o43
     case hyv =>
      intro wz hSw
      go_simp
      try rfl
     try simp only [Act.put, sT, sZ, sS]
     refine wpAnyL_one (i := 16) (o := _) rfl (by kernel_rfl) (by rfl) (fun K hK => ?_)
     go_simp
     have hH6 : Below w3.heap.size w3 (wd5.alloc (.cells #[.slice aPq np dPq, .slice aGq ng dGq, .slice (some ⟨wd0.heap.size, 0, none⟩) nc nc, .slice aLq ln dLq, .slice (some ⟨wd1.heap.size, 0, none⟩) nc nc, .int .i64 0] 57 (0, 0))) := hH5.alloc hH5.size _
     have kn6 := heap_new wd5 (.cells #[.slice aPq np dPq, .slice aGq ng dGq, .slice (some ⟨wd0.heap.size, 0, none⟩) nc nc, .slice aLq ln dLq, .slice (some ⟨wd1.heap.size, 0, none⟩) nc nc, .int .i64 0] 57 (0, 0))
     have zn6 := hH5.size
     refine hK.out _ _ (fun _ => hH6) ?_
     clear hK K
     try simp only [Act.put, sT, sZ, sS]
     have ne6_kn1 := lt_of kn1_5
     have ne6_kn2 := lt_of kn2_5
     have kn1_6 := (Below.heap_alloc wd5 (.cells #[.slice aPq np dPq, .slice aGq ng dGq, .slice (some ⟨wd0.heap.size, 0, none⟩) nc nc, .slice aLq ln dLq, .slice (some ⟨wd1.heap.size, 0, none⟩) nc nc, .int .i64 0] 57 (0, 0)) _ (lt_of kn1_5)).trans kn1_5
     have kn2_6 := (Below.heap_alloc wd5 (.cells #[.slice aPq np dPq, .slice aGq ng dGq, .slice (some ⟨wd0.heap.size, 0, none⟩) nc nc, .slice aLq ln dLq, .slice (some ⟨wd1.heap.size, 0, none⟩) nc nc, .int .i64 0] 57 (0, 0)) _ (lt_of kn2_5)).trans kn2_5
     have pPq_6 := pPq_5.below ((Below.refl _ wd5).alloc (Nat.le_refl _) (.cells #[.slice aPq np dPq, .slice aGq ng dGq, .slice (some ⟨wd0.heap.size, 0, none⟩) nc nc, .slice aLq ln dLq, .slice (some ⟨wd1.heap.size, 0, none⟩) nc nc, .int .i64 0] 57 (0, 0)))
     have pGq_6 := pGq_5.below ((Below.refl _ wd5).alloc (Nat.le_refl _) (.cells #[.slice aPq np dPq, .slice aGq ng dGq, .slice (some ⟨wd0.heap.size, 0, none⟩) nc nc, .slice aLq ln dLq, .slice (some ⟨wd1.heap.size, 0, none⟩) nc nc, .int .i64 0] 57 (0, 0)))
     have pLq_6 := pLq.below ((Below.refl _ wd5).alloc (Nat.le_refl _) (.cells #[.slice aPq np dPq, .slice aGq ng dGq, .slice (some ⟨wd0.heap.size, 0, none⟩) nc nc, .slice aLq ln dLq, .slice (some ⟨wd1.heap.size, 0, none⟩) nc nc, .int .i64 0] 57 (0, 0)))
     generalize wd5.alloc (.cells #[.slice aPq np dPq, .slice aGq ng dGq, .slice (some ⟨wd0.heap.size, 0, none⟩) nc nc, .slice aLq ln dLq, .slice (some ⟨wd1.heap.size, 0, none⟩) nc nc, .int .i64 0] 57 (0, 0)) = wd6 at pPq_6 pGq_6 pLq_6 hH6 kn6 kn1_6 kn2_6 ⊢
     have zs6 := lt_of kn6
     refine' wpAnyL_take (i := 17) (oi := ⟨some 5, _, _, _, _, _⟩) (v := _) rfl (by kernel_rfl) (by kernel_rfl) (by kernel_rfl) (by kernel_rfl) (fun _ _ _ h => h) hH6 (by rfl) ?hyv ?o44
     case hyv =>
      intro wz hSw
      go_simp
      try rfl
     try simp only [Act.put, sT, sZ, sS]
     refine wpAnyL_done (by kernel_rfl) ?_ _
     have zs0 := hH0.size
     have hb : BF wd6 wd0.heap.size nc (fun _ => false) := by unfold BF; rw [kn1_6, HLB.out]
     have hc : LX wd6 wd1.heap.size (List.replicate nc 0) := ⟨[], by rw [kn2_6, HLZ.out, List.append_nil]⟩
     have hv : VB wd6 wd5.heap.size (.slice aPq np dPq) (.slice aGq ng dGq) (.slice (some ⟨wd0.heap.size, 0, none⟩) nc nc) (.slice aLq ln dLq) wd1.heap.size nc nc 0 := kn6
     have hP := pPq_6.wide (ok' := fun i => w3.heap.size ≤ i ∧ i ≠ wd0.heap.size ∧ i ≠ wd5.heap.size) (fun i h _ => ⟨by omega, by omega, by omega⟩)
     have hG := pGq_6.wide (ok' := fun i => w3.heap.size ≤ i ∧ i ≠ wd0.heap.size ∧ i ≠ wd5.heap.size) (fun i h _ => ⟨by omega, by omega, by omega⟩)
     have hL := HRow.wide pLq_6 (ok' := fun i => w3.heap.size ≤ i ∧ i ≠ wd0.heap.size ∧ i ≠ wd5.heap.size) (fun i h _ => ⟨by omega, by omega, by omega⟩)
     have HN := hide (show NewC w3 P G C np ng ln nc (.pointer (some ⟨wd5.heap.size, 0, none⟩)) wd6 from ⟨⟨_, _, _, _, _, _, _, _, _, rfl, hv, hP, hG, hL, hb, hc, by omega, by omega, by omega, by omega, by omega, by omega⟩, hH6⟩)
     clear hb hc hv hP hG hL
     go_wp2_with fail
     go_meet
     case rel => exact HN
   case _ =>
    have hmk1 := HMK.out wd0; rw [← HLZ.out] at hmk1; go_simp
    have hH1 : Below w3.heap.size w3 (wd0.alloc (.cells LZ 2 (0, 0))) := hH0.alloc hH0.size _
    have kn1 := heap_new wd0 (.cells LZ 2 (0, 0))
    have zn1 := hH0.size
    refine hK.out _ _ (fun _ => hH1) ?_
    clear hK K
    try simp only [Act.put, sT, sZ, sS]
    generalize wd0.alloc (.cells LZ 2 (0, 0)) = wd1 at hH1 kn1 ⊢
    clear hmk1
    have zs1 := lt_of kn1
    refine wpAnyL_two (i := 2) (j := 8) rfl rfl (by kernel_rfl) (by rfl) (by rfl) (fun K hK => ?_) (fun K hK => ?_)
    case _ =>
     go_simp
     refine (HCP.out wd1 hH1).mono ?_
     rintro eq wd2 ⟨aPq, dPq, rfl, pPq, bq2⟩
     have kn1_2 := (bq2.block _ (lt_of kn1)).trans kn1
     have hH2 : Below w3.heap.size w3 wd2 := hH1.trans (bq2.mono hH1.size)
     have zs2 := bq2.size
     refine hK.out _ _ (fun _ => hH2) ?_
     clear hK K
     try simp only [Act.put, sT, sZ, sS]
     refine wpAnyL_two (i := 5) (j := 8) rfl rfl (by kernel_rfl) (by rfl) (by rfl) (fun K hK => ?_) (fun K hK => ?_)
     case _ =>
      go_simp
      refine (HCG.out wd2 hH2).mono ?_
      rintro eq wd3 ⟨aGq, dGq, rfl, pGq, bq3⟩
      have kn1_3 := (bq3.block _ (lt_of kn1_2)).trans kn1_2
      have hH3 : Below w3.heap.size w3 wd3 := hH2.trans (bq3.mono hH2.size)
      have zs3 := bq3.size
      have pPq_3 := pPq.below bq3
      refine hK.out _ _ (fun _ => hH3) ?_
      clear hK K
      try simp only [Act.put, sT, sZ, sS]
      refine wpAnyL_two (i := 8) (j := 11) rfl rfl (by kernel_rfl) (by rfl) (by rfl) (fun K hK => ?_) (fun K hK => ?_)
      case _ =>
       have hmk4 := HMB.out wd3; rw [← HLB.out] at hmk4; go_simp
       have hH4 : Below w3.heap.size w3 (wd3.alloc (.cells LB4 4 (0, 0))) := hH3.alloc hH3.size _
       have kn4 := heap_new wd3 (.cells LB4 4 (0, 0))
       have zn4 := hH3.size
       refine hK.out _ _ (fun _ => hH4) ?_
       clear hK K
       try simp only [Act.put, sT, sZ, sS]
       have ne4_kn1 := lt_of kn1_3
       have kn1_4 := (Below.heap_alloc wd3 (.cells LB4 4 (0, 0)) _ (lt_of kn1_3)).trans kn1_3
       have pPq_4 := pPq_3.below ((Below.refl _ wd3).alloc (Nat.le_refl _) (.cells LB4 4 (0, 0)))
       have pGq_4 := pGq.below ((Below.refl _ wd3).alloc (Nat.le_refl _) (.cells LB4 4 (0, 0)))
       generalize wd3.alloc (.cells LB4 4 (0, 0)) = wd4 at pPq_4 pGq_4 hH4 kn4 kn1_4 ⊢
       clear hmk4
       have zs4 := lt_of kn4
       refine wpAnyL_one (i := 11) (o := _) rfl (by kernel_rfl) (by rfl) (fun K hK => ?_)
       go_simp
       refine (HCL.out wd4 hH4).mono ?_
       rintro eq wd5 ⟨aLq, dLq, rfl, pLq, bq5⟩
       have kn1_5 := (bq5.block _ (lt_of kn1_4)).trans kn1_4
       have kn4_5 := (bq5.block _ (lt_of kn4)).trans kn4
       have hH5 : Below w3.heap.size w3 wd5 := hH4.trans (bq5.mono hH4.size)
       have zs5 := bq5.size
       have pPq_5 := pPq_4.below bq5
       have pGq_5 := pGq_4.below bq5
       refine hK.out _ _ (fun _ => hH5) ?_
       clear hK K
       try simp only [Act.put, sT, sZ, sS]
       refine' wpAnyL_take (i := 15) (oi := ⟨some 29, _, _, _, _, _⟩) (v := _) rfl (by kernel_rfl) (by kernel_rfl) (by kernel_rfl) (by kernel_rfl) (fun _ _ _ h => h) hH5 (by rfl) ?hyv ?o45
       case hyv =>
        intro wz hSw
        go_simp
        try rfl
       try simp only [Act.put, sT, sZ, sS]
       refine wpAnyL_one (i := 16) (o := _) rfl (by kernel_rfl) (by rfl) (fun K hK => ?_)
       go_simp
       have hH6 : Below w3.heap.size w3 (wd5.alloc (.cells #[.slice aPq np dPq, .slice aGq ng dGq, .slice (some ⟨wd3.heap.size, 0, none⟩) nc nc, .slice aLq ln dLq, .slice (some ⟨wd0.heap.size, 0, none⟩) nc nc, .int .i64 0] 57 (0, 0))) := hH5.alloc hH5.size _
       have kn6 := heap_new wd5 (.cells #[.slice aPq np dPq, .slice aGq ng dGq, .slice (some ⟨wd3.heap.size, 0, none⟩) nc nc, .slice aLq ln dLq, .slice (some ⟨wd0.heap.size, 0, none⟩) nc nc, .int .i64 0] 57 (0, 0))
       have zn6 := hH5.size
       refine hK.out _ _ (fun _ => hH6) ?_
       clear hK K
       try simp only [Act.put, sT, sZ, sS]
       have ne6_kn1 := lt_of kn1_5
       have ne6_kn4 := lt_of kn4_5
       have kn1_6 := (Below.heap_alloc wd5 (.cells #[.slice aPq np dPq, .slice aGq ng dGq, .slice (some ⟨wd3.heap.size, 0, none⟩) nc nc, .slice aLq ln dLq, .slice (some ⟨wd0.heap.size, 0, none⟩) nc nc, .int .i64 0] 57 (0, 0)) _ (lt_of kn1_5)).trans kn1_5
       have kn4_6 := (Below.heap_alloc wd5 (.cells #[.slice aPq np dPq, .slice aGq ng dGq, .slice (some ⟨wd3.heap.size, 0, none⟩) nc nc, .slice aLq ln dLq, .slice (some ⟨wd0.heap.size, 0, none⟩) nc nc, .int .i64 0] 57 (0, 0)) _ (lt_of kn4_5)).trans kn4_5
       have pPq_6 := pPq_5.below ((Below.refl _ wd5).alloc (Nat.le_refl _) (.cells #[.slice aPq np dPq, .slice aGq ng dGq, .slice (some ⟨wd3.heap.size, 0, none⟩) nc nc, .slice aLq ln dLq, .slice (some ⟨wd0.heap.size, 0, none⟩) nc nc, .int .i64 0] 57 (0, 0)))
       have pGq_6 := pGq_5.below ((Below.refl _ wd5).alloc (Nat.le_refl _) (.cells #[.slice aPq np dPq, .slice aGq ng dGq, .slice (some ⟨wd3.heap.size, 0, none⟩) nc nc, .slice aLq ln dLq, .slice (some ⟨wd0.heap.size, 0, none⟩) nc nc, .int .i64 0] 57 (0, 0)))
       have pLq_6 := pLq.below ((Below.refl _ wd5).alloc (Nat.le_refl _) (.cells #[.slice aPq np dPq, .slice aGq ng dGq, .slice (some ⟨wd3.heap.size, 0, none⟩) nc nc, .slice aLq ln dLq, .slice (some ⟨wd0.heap.size, 0, none⟩) nc nc, .int .i64 0] 57 (0, 0)))
       generalize wd5.alloc (.cells #[.slice aPq np dPq, .slice aGq ng dGq, .slice (some ⟨wd3.heap.size, 0, none⟩) nc nc, .slice aLq ln dLq, .slice (some ⟨wd0.heap.size, 0, none⟩) nc nc, .int .i64 0] 57 (0, 0)) = wd6 at pPq_6 pGq_6 pLq_6 hH6 kn6 kn1_6 kn4_6 ⊢
       have zs6 := lt_of kn6
       refine' wpAnyL_take (i := 17) (oi := ⟨some 5, _, _, _, _, _⟩) (v := _) rfl (by kernel_rfl) (by kernel_rfl) (by kernel_rfl) (by kernel_rfl) (fun _ _ _ h => h) hH6 (by rfl) ?hyv ?o46
       case hyv =>
        intro wz hSw
        go_simp
        try rfl
       try simp only [Act.put, sT, sZ, sS]
       refine wpAnyL_done (by kernel_rfl) ?_ _
       have zs0 := hH0.size
       have hb : BF wd6 wd3.heap.size nc (fun _ => false) := by unfold BF; rw [kn4_6, HLB.out]
       have hc : LX wd6 wd0.heap.size (List.replicate nc 0) := ⟨[], by rw [kn1_6, HLZ.out, List.append_nil]⟩
       have hv : VB wd6 wd5.heap.size (.slice aPq np dPq) (.slice aGq ng dGq) (.slice (some ⟨wd3.heap.size, 0, none⟩) nc nc) (.slice aLq ln dLq) wd0.heap.size nc nc 0 := kn6
       have hP := pPq_6.wide (ok' := fun i => w3.heap.size ≤ i ∧ i ≠ wd3.heap.size ∧ i ≠ wd5.heap.size) (fun i h _ => ⟨by omega, by omega, by omega⟩)
       have hG := pGq_6.wide (ok' := fun i => w3.heap.size ≤ i ∧ i ≠ wd3.heap.size ∧ i ≠ wd5.heap.size) (fun i h _ => ⟨by omega, by omega, by omega⟩)
       have hL := HRow.wide pLq_6 (ok' := fun i => w3.heap.size ≤ i ∧ i ≠ wd3.heap.size ∧ i ≠ wd5.heap.size) (fun i h _ => ⟨by omega, by omega, by omega⟩)
       have HN := hide (show NewC w3 P G C np ng ln nc (.pointer (some ⟨wd5.heap.size, 0, none⟩)) wd6 from ⟨⟨_, _, _, _, _, _, _, _, _, rfl, hv, hP, hG, hL, hb, hc, by omega, by omega, by omega, by omega, by omega, by omega⟩, hH6⟩)
       clear hb hc hv hP hG hL
       go_wp2_with fail
       go_meet
       case rel => exact HN
      case _ =>
       go_simp
       refine (HCL.out wd3 hH3).mono ?_
       rintro eq wd4 ⟨aLq, dLq, rfl, pLq, bq4⟩
       have kn1_4 := (bq4.block _ (lt_of kn1_3)).trans kn1_3
       have hH4 : Below w3.heap.size w3 wd4 := hH3.trans (bq4.mono hH3.size)
       have zs4 := bq4.size
       have pPq_4 := pPq_3.below bq4
       have pGq_4 := pGq.below bq4
       refine hK.out _ _ (fun _ => hH4) ?_
       clear hK K
       try simp only [Act.put, sT, sZ, sS]
       refine wpAnyL_one (i := 8) (o := _) rfl (by kernel_rfl) (by rfl) (fun K hK => ?_)
       have hmk5 := HMB.out wd4; rw [← HLB.out] at hmk5; go_simp
       have hH5 : Below w3.heap.size w3 (wd4.alloc (.cells LB4 4 (0, 0))) := hH4.alloc hH4.size _
       have kn5 := heap_new wd4 (.cells LB4 4 (0, 0))
       have zn5 := hH4.size
       refine hK.out _ _ (fun _ => hH5) ?_
       clear hK K
       try simp only [Act.put, sT, sZ, sS]
       have ne5_kn1 := lt_of kn1_4
       have kn1_5 := (Below.heap_alloc wd4 (.cells LB4 4 (0, 0)) _ (lt_of kn1_4)).trans kn1_4
       have pPq_5 := pPq_4.below ((Below.refl _ wd4).alloc (Nat.le_refl _) (.cells LB4 4 (0, 0)))
       have pGq_5 := pGq_4.below ((Below.refl _ wd4).alloc (Nat.le_refl _) (.cells LB4 4 (0, 0)))
       have pLq_5 := pLq.below ((Below.refl _ wd4).alloc (Nat.le_refl _) (.cells LB4 4 (0, 0)))
       generalize wd4.alloc (.cells LB4 4 (0, 0)) = wd5 at pPq_5 pGq_5 pLq_5 hH5 kn5 kn1_5 ⊢
       clear hmk5
       have zs5 := lt_of kn5
       refine' wpAnyL_take (i := 15) (oi := ⟨some 29, _, _, _, _, _⟩) (v := _) rfl (by kernel_rfl) (by kernel_rfl) (by kernel_rfl) (by kernel_rfl) (fun _ _ _ h => h) hH5 (by rfl) ?hyv ?o47
       case hyv =>
        intro wz hSw
        go_simp
        try rfl
       try simp only [Act.put, sT, sZ, sS]
       refine wpAnyL_one (i := 16) (o := _) rfl (by kernel_rfl) (by rfl) (fun K hK => ?_)
       go_simp
       have hH6 : Below w3.heap.size w3 (wd5.alloc (.cells #[.slice aPq np dPq, .slice aGq ng dGq, .slice (some ⟨wd4.heap.size, 0, none⟩) nc nc, .slice aLq ln dLq, .slice (some ⟨wd0.heap.size, 0, none⟩) nc nc, .int .i64 0] 57 (0, 0))) := hH5.alloc hH5.size _
       have kn6 := heap_new wd5 (.cells #[.slice aPq np dPq, .slice aGq ng dGq, .slice (some ⟨wd4.heap.size, 0, none⟩) nc nc, .slice aLq ln dLq, .slice (some ⟨wd0.heap.size, 0, none⟩) nc nc, .int .i64 0] 57 (0, 0))
       have zn6 := hH5.size
       refine hK.out _ _ (fun _ => hH6) ?_
       clear hK K
       try simp only [Act.put, sT, sZ, sS]
       have ne6_kn1 := lt_of kn1_5
       have ne6_kn5 := lt_of kn5
       have kn1_6 := (Below.heap_alloc wd5 (.cells #[.slice aPq np dPq, .slice aGq ng dGq, .slice (some ⟨wd4.heap.size, 0, none⟩) nc nc, .slice aLq ln dLq, .slice (some ⟨wd0.heap.size, 0, none⟩) nc nc, .int .i64 0] 57 (0, 0)) _ (lt_of kn1_5)).trans kn1_5
       have kn5_6 := (Below.heap_alloc wd5 (.cells #[.slice aPq np dPq, .slice aGq ng dGq, .slice (some ⟨wd4.heap.size, 0, none⟩) nc nc, .slice aLq ln dLq, .slice (some ⟨wd0.heap.size, 0, none⟩) nc nc, .int .i64 0] 57 (0, 0)) _ (lt_of kn5)).trans kn5
       have pPq_6 := pPq_5.below ((Below.refl _ wd5).alloc (Nat.le_refl _) (.cells #[.slice aPq np dPq, .slice aGq ng dGq, .slice (some ⟨wd4.heap.size, 0, none⟩) nc nc, .slice aLq ln dLq, .slice (some ⟨wd0.heap.size, 0, none⟩) nc nc, .int .i64 0] 57 (0, 0)))
       have pGq_6 := pGq_5.below ((Below.refl _ wd5).alloc (Nat.le_refl _) (.cells #[.slice aPq np dPq, .slice aGq ng dGq, .slice (some ⟨wd4.heap.size, 0, none⟩) nc nc, .slice aLq ln dLq, .slice (some ⟨wd0.heap.size, 0, none⟩) nc nc, .int .i64 0] 57 (0, 0)))
       have pLq_6 := pLq_5.below ((Below.refl _ wd5).alloc (Nat.le_refl _) (.cells #[.slice aPq np dPq, .slice aGq ng dGq, .slice (some ⟨wd4.heap.size, 0, none⟩) nc nc, .slice aLq ln dLq, .slice (some ⟨wd0.heap.size, 0, none⟩) nc nc, .int .i64 0] 57 (0, 0)))
       generalize wd5.alloc (.cells #[.slice aPq np dPq, .slice aGq ng dGq, .slice (some ⟨wd4.heap.size, 0, none⟩) nc nc, .slice aLq ln dLq, .slice (some ⟨wd0.heap.size, 0, none⟩) nc nc, .int .i64 0] 57 (0, 0)) = wd6 at pPq_6 pGq_6 pLq_6 hH6 kn6 kn1_6 kn5_6 ⊢
       have zs6 := lt_of kn6
       refine' wpAnyL_take (i := 17) (oi := ⟨some 5, _, _, _, _, _⟩) (v := _) rfl (by kernel_rfl) (by kernel_rfl) (by kernel_rfl) (by kernel_rfl) (fun _ _ _ h => h) hH6 (by rfl) ?hyv ?o48
       case hyv =>
        intro wz hSw
        go_simp
        try rfl
       try simp only [Act.put, sT, sZ, sS]
       refine wpAnyL_done (by kernel_rfl) ?_ _
       have zs0 := hH0.size
       have hb : BF wd6 wd4.heap.size nc (fun _ => false) := by unfold BF; rw [kn5_6, HLB.out]
       have hc : LX wd6 wd0.heap.size (List.replicate nc 0) := ⟨[], by rw [kn1_6, HLZ.out, List.append_nil]⟩
       have hv : VB wd6 wd5.heap.size (.slice aPq np dPq) (.slice aGq ng dGq) (.slice (some ⟨wd4.heap.size, 0, none⟩) nc nc) (.slice aLq ln dLq) wd0.heap.size nc nc 0 := kn6
       have hP := pPq_6.wide (ok' := fun i => w3.heap.size ≤ i ∧ i ≠ wd4.heap.size ∧ i ≠ wd5.heap.size) (fun i h _ => ⟨by omega, by omega, by omega⟩)
       have hG := pGq_6.wide (ok' := fun i => w3.heap.size ≤ i ∧ i ≠ wd4.heap.size ∧ i ≠ wd5.heap.size) (fun i h _ => ⟨by omega, by omega, by omega⟩)
       have hL := HRow.wide pLq_6 (ok' := fun i => w3.heap.size ≤ i ∧ i ≠ wd4.heap.size ∧ i ≠ wd5.heap.size) (fun i h _ => ⟨by omega, by omega, by omega⟩)
       have HN := hide (show NewC w3 P G C np ng ln nc (.pointer (some ⟨wd5.heap.size, 0, none⟩)) wd6 from ⟨⟨_, _, _, _, _, _, _, _, _, rfl, hv, hP, hG, hL, hb, hc, by omega, by omega, by omega, by omega, by omega, by omega⟩, hH6⟩)
       clear hb hc hv hP hG hL
       go_wp2_with fail
       go_meet
       case rel => exact HN
     case _ =>
      have hmk3 := HMB.out wd2; rw [← HLB.out] at hmk3; go_simp
      have hH3 : Below w3.heap.size w3 (wd2.alloc (.cells LB4 4 (0, 0))) := hH2.alloc hH2.size _
      have kn3 := heap_new wd2 (.cells LB4 4 (0, 0))
      have zn3 := hH2.size
      refine hK.out _ _ (fun _ => hH3) ?_
      clear hK K
      try simp only [Act.put, sT, sZ, sS]
      have ne3_kn1 := lt_of kn1_2
      have kn1_3 := (Below.heap_alloc wd2 (.cells LB4 4 (0, 0)) _ (lt_of kn1_2)).trans kn1_2
      have pPq_3 := pPq.below ((Below.refl _ wd2).alloc (Nat.le_refl _) (.cells LB4 4 (0, 0)))
      generalize wd2.alloc (.cells LB4 4 (0, 0)) = wd3 at pPq_3 hH3 kn3 kn1_3 ⊢
      clear hmk3
      have zs3 := lt_of kn3
      refine wpAnyL_one (i := 5) (o := _) rfl (by kernel_rfl) (by rfl) (fun K hK => ?_)
      go_simp
      refine (HCG.out wd3 hH3).mono ?_
      rintro eq wd4 ⟨aGq, dGq, rfl, pGq, bq4⟩
      have kn1_4 := (bq4.block _ (lt_of kn1_3)).trans kn1_3
      have kn3_4 := (bq4.block _ (lt_of kn3)).trans kn3
      have hH4 : Below w3.heap.size w3 wd4 := hH3.trans (bq4.mono hH3.size)
      have zs4 := bq4.size
      have pPq_4 := pPq_3.below bq4
      refine hK.out _ _ (fun _ => hH4) ?_
      clear hK K
      try simp only [Act.put, sT, sZ, sS]
      refine wpAnyL_one (i := 11) (o := _) rfl (by kernel_rfl) (by rfl) (fun K hK => ?_)
      go_simp
      refine (HCL.out wd4 hH4).mono ?_
      rintro eq wd5 ⟨aLq, dLq, rfl, pLq, bq5⟩
      have kn1_5 := (bq5.block _ (lt_of kn1_4)).trans kn1_4
      have kn3_5 := (bq5.block _ (lt_of kn3_4)).trans kn3_4
      have hH5 : Below w3.heap.size w3 wd5 := hH4.trans (bq5.mono hH4.size)
      have zs5 := bq5.size
      have pPq_5 := pPq_4.below bq5
      have pGq_5 := pGq.below bq5
      refine hK.out _ _ (fun _ => hH5) ?_
      clear hK K
      try simp only [Act.put, sT, sZ, sS]
      refine' wpAnyL_take (i := 15) (oi := ⟨some 29, _, _, _, _, _⟩) (v := _) rfl (by kernel_rfl) (by kernel_rfl) (by kernel_rfl) (by kernel_rfl) (fun _ _ _ h => h) hH5 (by rfl) ?hyv ?o49
      case hyv =>
       intro wz hSw
       go_simp
       try rfl
      try simp only [Act.put, sT, sZ, sS]
      refine wpAnyL_one (i := 16) (o := _) rfl (by kernel_rfl) (by rfl) (fun K hK => ?_)
      go_simp
      have hH6 : Below w3.heap.size w3 (wd5.alloc (.cells #[.slice aPq np dPq, .slice aGq ng dGq, .slice (some ⟨wd2.heap.size, 0, none⟩) nc nc, .slice aLq ln dLq, .slice (some ⟨wd0.heap.size, 0, none⟩) nc nc, .int .i64 0] 57 (0, 0))) := hH5.alloc hH5.size _
      have kn6 := heap_new wd5 (.cells #[.slice aPq np dPq, .slice aGq ng dGq, .slice (some ⟨wd2.heap.size, 0, none⟩) nc nc, .slice aLq ln dLq, .slice (some ⟨wd0.heap.size, 0, none⟩) nc nc, .int .i64 0] 57 (0, 0))
      have zn6 := hH5.size
      refine hK.out _ _ (fun _ => hH6) ?_
      clear hK K
      try simp only [Act.put, sT, sZ, sS]
      have ne6_kn1 := lt_of kn1_5
      have ne6_kn3 := lt_of kn3_5
      have kn1_6 := (Below.heap_alloc wd5 (.cells #[.slice aPq np dPq, .slice aGq ng dGq, .slice (some ⟨wd2.heap.size, 0, none⟩) nc nc, .slice aLq ln dLq, .slice (some ⟨wd0.heap.size, 0, none⟩) nc nc, .int .i64 0] 57 (0, 0)) _ (lt_of kn1_5)).trans kn1_5
      have kn3_6 := (Below.heap_alloc wd5 (.cells #[.slice aPq np dPq, .slice aGq ng dGq, .slice (some ⟨wd2.heap.size, 0, none⟩) nc nc, .slice aLq ln dLq, .slice (some ⟨wd0.heap.size, 0, none⟩) nc nc, .int .i64 0] 57 (0, 0)) _ (lt_of kn3_5)).trans kn3_5
      have pPq_6 := pPq_5.below ((Below.refl _ wd5).alloc (Nat.le_refl _) (.cells #[.slice aPq np dPq, .slice aGq ng dGq, .slice (some ⟨wd2.heap.size, 0, none⟩) nc nc, .slice aLq ln dLq, .slice (some ⟨wd0.heap.size, 0, none⟩) nc nc, .int .i64 0] 57 (0, 0)))
      have pGq_6 := pGq_5.below ((Below.refl _ wd5).alloc (Nat.le_refl _) (.cells #[.slice aPq np dPq, .slice aGq ng dGq, .slice (some ⟨wd2.heap.size, 0, none⟩) nc nc, .slice aLq ln dLq, .slice (some ⟨wd0.heap.size, 0, none⟩) nc nc, .int .i64 0] 57 (0, 0)))
      have pLq_6 := pLq.below ((Below.refl _ wd5).alloc (Nat.le_refl _) (.cells #[.slice aPq np dPq, .slice aGq ng dGq, .slice (some ⟨wd2.heap.size, 0, none⟩) nc nc, .slice aLq ln dLq, .slice (some ⟨wd0.heap.size, 0, none⟩) nc nc, .int .i64 0] 57 (0, 0)))
      generalize wd5.alloc (.cells #[.slice aPq np dPq, .slice aGq ng dGq, .slice (some ⟨wd2.heap.size, 0, none⟩) nc nc, .slice aLq ln dLq, .slice (some ⟨wd0.heap.size, 0, none⟩) nc nc, .int .i64 0] 57 (0, 0)) = wd6 at pPq_6 pGq_6 pLq_6 hH6 kn6 kn1_6 kn3_6 ⊢
      have zs6 := lt_of kn6
      refine' wpAnyL_take (i := 17) (oi := ⟨some 5, _, _, _, _, _⟩) (v := _) rfl (by kernel_rfl) (by kernel_rfl) (by kernel_rfl) (by kernel_rfl) (fun _ _ _ h => h) hH6 (by rfl) ?hyv ?o50
      case hyv =>
       intro wz hSw
       go_simp
       try rfl
      try simp only [Act.put, sT, sZ, sS]
      refine wpAnyL_done (by kernel_rfl) ?_ _
      have zs0 := hH0.size
      have hb : BF wd6 wd2.heap.size nc (fun _ => false) := by unfold BF; rw [kn3_6, HLB.out]
      have hc : LX wd6 wd0.heap.size (List.replicate nc 0) := ⟨[], by rw [kn1_6, HLZ.out, List.append_nil]⟩
      have hv : VB wd6 wd5.heap.size (.slice aPq np dPq) (.slice aGq ng dGq) (.slice (some ⟨wd2.heap.size, 0, none⟩) nc nc) (.slice aLq ln dLq) wd0.heap.size nc nc 0 := kn6
      have hP := pPq_6.wide (ok' := fun i => w3.heap.size ≤ i ∧ i ≠ wd2.heap.size ∧ i ≠ wd5.heap.size) (fun i h _ => ⟨by omega, by omega, by omega⟩)
      have hG := pGq_6.wide (ok' := fun i => w3.heap.size ≤ i ∧ i ≠ wd2.heap.size ∧ i ≠ wd5.heap.size) (fun i h _ => ⟨by omega, by omega, by omega⟩)
      have hL := HRow.wide pLq_6 (ok' := fun i => w3.heap.size ≤ i ∧ i ≠ wd2.heap.size ∧ i ≠ wd5.heap.size) (fun i h _ => ⟨by omega, by omega, by omega⟩)
      have HN := hide (show NewC w3 P G C np ng ln nc (.pointer (some ⟨wd5.heap.size, 0, none⟩)) wd6 from ⟨⟨_, _, _, _, _, _, _, _, _, rfl, hv, hP, hG, hL, hb, hc, by omega, by omega, by omega, by omega, by omega, by omega⟩, hH6⟩)
      clear hb hc hv hP hG hL
      go_wp2_with fail
      go_meet
      case rel => exact HN
    case _ =>
     have hmk2 := HMB.out wd1; rw [← HLB.out] at hmk2; go_simp
     have hH2 : Below w3.heap.size w3 (wd1.alloc (.cells LB4 4 (0, 0))) := hH1.alloc hH1.size _
     have kn2 := heap_new wd1 (.cells LB4 4 (0, 0))
     have zn2 := hH1.size
     refine hK.out _ _ (fun _ => hH2) ?_
     clear hK K
     try simp only [Act.put, sT, sZ, sS]
     have ne2_kn1 := lt_of kn1
     have kn1_2 := (Below.heap_alloc wd1 (.cells LB4 4 (0, 0)) _ (lt_of kn1)).trans kn1
     generalize wd1.alloc (.cells LB4 4 (0, 0)) = wd2 at hH2 kn2 kn1_2 ⊢
     clear hmk2
     have zs2 := lt_of kn2
     refine wpAnyL_one (i := 2) (o := _) rfl (by kernel_rfl) (by rfl) (fun K hK => ?_)
     go_simp
     refine (HCP.out wd2 hH2).mono ?_
     rintro eq wd3 ⟨aPq, dPq, rfl, pPq, bq3⟩
     have kn1_3 := (bq3.block _ (lt_of kn1_2)).trans kn1_2
     have kn2_3 := (bq3.block _ (lt_of kn2)).trans kn2
     have hH3 : Below w3.heap.size w3 wd3 := hH2.trans (bq3.mono hH2.size)
     have zs3 := bq3.size
     refine hK.out _ _ (fun _ => hH3) ?_
     clear hK K
     try simp only [Act.put, sT, sZ, sS]
     refine wpAnyL_one (i := 5) (o := _) rfl (by kernel_rfl) (by rfl) (fun K hK => ?_)
     go_simp
     refine (HCG.out wd3 hH3).mono ?_
     rintro eq wd4 ⟨aGq, dGq, rfl, pGq, bq4⟩
     have kn1_4 := (bq4.block _ (lt_of kn1_3)).trans kn1_3
     have kn2_4 := (bq4.block _ (lt_of kn2_3)).trans kn2_3
     have hH4 : Below w3.heap.size w3 wd4 := hH3.trans (bq4.mono hH3.size)
     have zs4 := bq4.size
     have pPq_4 := pPq.below bq4
     refine hK.out _ _ (fun _ => hH4) ?_
     clear hK K
     try simp only [Act.put, sT, sZ, sS]
     refine wpAnyL_one (i := 11) (o := _) rfl (by kernel_rfl) (by rfl) (fun K hK => ?_)
     go_simp
     refine (HCL.out wd4 hH4).mono ?_
     rintro eq wd5 ⟨aLq, dLq, rfl, pLq, bq5⟩
     have kn1_5 := (bq5.block _ (lt_of kn1_4)).trans kn1_4
     have kn2_5 := (bq5.block _ (lt_of kn2_4)).trans kn2_4
     have hH5 : Below w3.heap.size w3 wd5 := hH4.trans (bq5.mono hH4.size)
     have zs5 := bq5.size
     have pPq_5 := pPq_4.below bq5
     have pGq_5 := pGq.below bq5
     refine hK.out _ _ (fun _ => hH5) ?_
     clear hK K
     try simp only [Act.put, sT, sZ, sS]
     refine' wpAnyL_take (i := 15) (oi := ⟨some 29, _, _, _, _, _⟩) (v := _) rfl (by kernel_rfl) (by kernel_rfl) (by kernel_rfl) (by kernel_rfl) (fun _ _ _ h => h) hH5 (by rfl) ?hyv ?o51
     case hyv =>
      intro wz hSw
      go_simp
      try rfl
     try simp only [Act.put, sT, sZ, sS]
     refine wpAnyL_one (i := 16) (o := _) rfl (by kernel_rfl) (by rfl) (fun K hK => ?_)
     go_simp
     have hH6 : Below w3.heap.size w3 (wd5.alloc (.cells #[.slice aPq np dPq, .slice aGq ng dGq, .slice (some ⟨wd1.heap.size, 0, none⟩) nc nc, .slice aLq ln dLq, .slice (some ⟨wd0.heap.size, 0, none⟩) nc nc, .int .i64 0] 57 (0, 0))) := hH5.alloc hH5.size _
     have kn6 := heap_new wd5 (.cells #[.slice aPq np dPq, .slice aGq ng dGq, .slice (some ⟨wd1.heap.size, 0, none⟩) nc nc, .slice aLq ln dLq, .slice (some ⟨wd0.heap.size, 0, none⟩) nc nc, .int .i64 0] 57 (0, 0))
     have zn6 := hH5.size
     refine hK.out _ _ (fun _ => hH6) ?_
     clear hK K
     try simp only [Act.put, sT, sZ, sS]
     have ne6_kn1 := lt_of kn1_5
     have ne6_kn2 := lt_of kn2_5
     have kn1_6 := (Below.heap_alloc wd5 (.cells #[.slice aPq np dPq, .slice aGq ng dGq, .slice (some ⟨wd1.heap.size, 0, none⟩) nc nc, .slice aLq ln dLq, .slice (some ⟨wd0.heap.size, 0, none⟩) nc nc, .int .i64 0] 57 (0, 0)) _ (lt_of kn1_5)).trans kn1_5
     have kn2_6 := (Below.heap_alloc wd5 (.cells #[.slice aPq np dPq, .slice aGq ng dGq, .slice (some ⟨wd1.heap.size, 0, none⟩) nc nc, .slice aLq ln dLq, .slice (some ⟨wd0.heap.size, 0, none⟩) nc nc, .int .i64 0] 57 (0, 0)) _ (lt_of kn2_5)).trans kn2_5
     have pPq_6 := pPq_5.below ((Below.refl _ wd5).alloc (Nat.le_refl _) (.cells #[.slice aPq np dPq, .slice aGq ng dGq, .slice (some ⟨wd1.heap.size, 0, none⟩) nc nc, .slice aLq ln dLq, .slice (some ⟨wd0.heap.size, 0, none⟩) nc nc, .int .i64 0] 57 (0, 0)))
     have pGq_6 := pGq_5.below ((Below.refl _ wd5).alloc (Nat.le_refl _) (.cells #[.slice aPq np dPq, .slice aGq ng dGq, .slice (some ⟨wd1.heap.size, 0, none⟩) nc nc, .slice aLq ln dLq, .slice (some ⟨wd0.heap.size, 0, none⟩) nc nc, .int .i64 0] 57 (0, 0)))
     have pLq_6 := pLq.below ((Below.refl _ wd5).alloc (Nat.le_refl _) (.cells #[.slice aPq np dPq, .slice aGq ng dGq, .slice (some ⟨wd1.heap.size, 0, none⟩) nc nc, .slice aLq ln dLq, .slice (some ⟨wd0.heap.size, 0, none⟩) nc nc, .int .i64 0] 57 (0, 0)))
     generalize wd5.alloc (.cells #[.slice aPq np dPq, .slice aGq ng dGq, .slice (some ⟨wd1.heap.size, 0, none⟩) nc nc, .slice aLq ln dLq, .slice (some ⟨wd0.heap.size, 0, none⟩) nc nc, .int .i64 0] 57 (0, 0)) = wd6 at pPq_6 pGq_6 pLq_6 hH6 kn6 kn1_6 kn2_6 ⊢
     have zs6 := lt_of kn6
     refine' wpAnyL_take (i := 17) (oi := ⟨some 5, _, _, _, _, _⟩) (v := _) rfl (by kernel_rfl) (by kernel_rfl) (by kernel_rfl) (by kernel_rfl) (fun _ _ _ h => h) hH6 (by rfl) ?hyv ?o52
     case hyv =>
      intro wz hSw
      go_simp
      try rfl
     try simp only [Act.put, sT, sZ, sS]
     refine wpAnyL_done (by kernel_rfl) ?_ _
     have zs0 := hH0.size
     have hb : BF wd6 wd1.heap.size nc (fun _ => false) := by unfold BF; rw [kn2_6, HLB.out]
     have hc : LX wd6 wd0.heap.size (List.replicate nc 0) := ⟨[], by rw [kn1_6, HLZ.out, List.append_nil]⟩
     have hv : VB wd6 wd5.heap.size (.slice aPq np dPq) (.slice aGq ng dGq) (.slice (some ⟨wd1.heap.size, 0, none⟩) nc nc) (.slice aLq ln dLq) wd0.heap.size nc nc 0 := kn6
     have hP := pPq_6.wide (ok' := fun i => w3.heap.size ≤ i ∧ i ≠ wd1.heap.size ∧ i ≠ wd5.heap.size) (fun i h _ => ⟨by omega, by omega, by omega⟩)
     have hG := pGq_6.wide (ok' := fun i => w3.heap.size ≤ i ∧ i ≠ wd1.heap.size ∧ i ≠ wd5.heap.size) (fun i h _ => ⟨by omega, by omega, by omega⟩)
     have hL := HRow.wide pLq_6 (ok' := fun i => w3.heap.size ≤ i ∧ i ≠ wd1.heap.size ∧ i ≠ wd5.heap.size) (fun i h _ => ⟨by omega, by omega, by omega⟩)
     have HN := hide (show NewC w3 P G C np ng ln nc (.pointer (some ⟨wd5.heap.size, 0, none⟩)) wd6 from ⟨⟨_, _, _, _, _, _, _, _, _, rfl, hv, hP, hG, hL, hb, hc, by omega, by omega, by omega, by omega, by omega, by omega⟩, hH6⟩)
     clear hb hc hv hP hG hL
     go_wp2_with fail
     go_meet
     case rel => exact HN
  case rest =>
   obtain ⟨vb, aP', cP', aG', cG', aL', cL', tb, cb, rfl, kv, oP, oG, oL, kT, kC, z1, z2, z3, z4, z5, z6⟩ := hcut.x
   have bc := hcut.b
   have BC := B3.trans (bc.mono B3.size)
   have kRc := (bc.block _ yR).trans kR3
   have kFc := (bc.block _ yF).trans kF3
   have yFc := lt_of kFc
   have HOWN := hide (And.intro oP (And.intro oG (And.intro oL kC)))
   have hBc := (HM.out wc BC).B
   have hB0 := hBc.wide (ok' := fun i => i < w.heap.size) (fun i h _ => h)
   obtain ⟨B, hBe⟩ : ∃ B, B = m.B := ⟨_, rfl⟩
   rw [← hBe] at hB0 HNB
   rw [← HNB.out] at hB0
   have HB := hide (fun W (a : Aside [tb] wc.heap.size wc W) => hB0.pastS a (fun i hi => by simp; omega))
   have hBx : ∀ x ∈ B, 0 ≤ x ∧ x < (nc : Int) := by
    have h1 := HGD.out.2.2.2.1
    rw [← hBe, HNC.out] at h1
    exact h1
   have HBX := hide hBx
   have HBE := hide hBe
   have HT0 := hide (show BF wc tb nc (fun j => decide (j ∈ B.take 0)) by simpa using kT)
   clear hcut bc oP oG oL kC hBc hB0 hBe hBx kT kR3 kF3 c0 c1 c2 c3 c4 c5 c6 HCP HCG HCL HMK HMB HLZ HLB
   have c0 := cell_of kRc 0
   have c1 := cell_of kRc 1
   have c2 := cell_of kRc 2
   have c3 := cell_of kRc 3
   have c4 := cell_of kRc 4
   have c5 := cell_of kRc 5
   have c6 := cell_of kRc 6
   simp at c0 c1 c2 c3 c4 c5 c6
   have yRc := lt_of kRc
   go_wp2_with fail
   go_loopg [34] nb (fun kz v34 wr => ∃ (i : Nat), i ≤ nb ∧ kz = nb - i ∧ v34 = .int .i64 (i : Nat) ∧ Hid (BF wr tb nc (fun j => decide (j ∈ B.take i))) ∧ Aside [tb] wc.heap.size wc wr)
   case atStart => exact ⟨0, Nat.zero_le _, rfl, rfl, HT0, Aside.refl _⟩
   case round =>
    clear HT0 c0 c1 c2 c3 c4 c5 c6
    obtain ⟨i, hi, rfl, rfl, HT, abr⟩ := hrel
    have yvc := kv.lt
    have kvr := kv.keep (abr.block _ yvc (by simpa using z4.symm))
    have kFr := (abr.block _ yFc (by simp; omega)).trans kFc
    by_cases hlt : i < nb
    case neg =>
     have hin : i = nb := by omega
     subst hin
     have hncs : ¬ (i : Int) < (i : Int) := by omega
     have HTB := hide (show BF wr tb nc (fun j => decide (j ∈ B)) by
      have h1 := HT.out
      rw [List.take_of_length_le (by have := HNB.out; omega)] at h1
      exact h1)
     have KF := two_set kFr (.int .i64 0) (.int .i64 0)
     have aF : Aside [w.heap.size + 1] wr.heap.size wr ((wr.setCell ⟨w.heap.size + 1, 0, none⟩ (.int .i64 0)).setCell ⟨w.heap.size + 1, 1, none⟩ (.int .i64 0)) := aside_two (by simp) _ _
     have BR : Below w.heap.size w wr := aside_low BC abr (Nat.le_refl _) (by simp; omega)
     have BX := aside_low BR aF (Nat.le_refl _) (by simp)
     have hv : VAt (fun i => w.heap.size ≤ i ∧ i ≠ vb ∧ i ≠ w.heap.size + 1) wr vb P G C (fun j => decide (j ∈ B)) nc (List.replicate nc 0) 0 := by
      have o1 := HOWN.out.1.pastS abr (fun i hi => by simp; omega)
      have o2 := HOWN.out.2.1.pastS abr (fun i hi => by simp; omega)
      have o3 := HRow.keep HOWN.out.2.2.1 abr.size (fun i hi hl => abr.block i hl (by simp; omega))
      have o4 := HOWN.out.2.2.2.keep (abr.block _ HOWN.out.2.2.2.lt (by simpa using z3.symm))
      have y1 := HNP.out
      have y2 := HNG.out
      have y3 := HLN.out
      subst y1 y2 y3
      exact ⟨⟨_, _, _, _, _, _, _, _, _, _, kvr, o1.wide (fun i h _ => by omega), o2.wide (fun i h _ => by omega), HTB.out, by omega, HRow.wide o3 (fun i h _ => by omega), o4, by omega, Nat.le_refl _, by unfold maxLen; omega⟩, by simp⟩
     have hv2 := hv.keep aF.size (fun i hi hl => aF.block i hl (by simp; omega)) (aF.block _ hv.lt (by simp; omega))
     have hv3 := hv2.wide (ok' := fun i => w.heap.size ≤ i ∧ i ≠ vb) (fun i h _ => ⟨h.1, h.2.1⟩)
     have HP := hide (show NewP w m (.returned (.tuple #[.pointer (some ⟨vb, 0, none⟩), .agg #[.int .i64 0, .int .i64 0]])) ((wr.setCell ⟨w.heap.size + 1, 0, none⟩ (.int .i64 0)).setCell ⟨w.heap.size + 1, 1, none⟩ (.int .i64 0)) from ⟨fun h => absurd HF1.out.symm h, fun _ => ⟨vb, by omega, rfl, by
      have y0 : m.c.toNat = nc := by have := HNC.out; omega
      rw [y0, ← HPE.out, ← HGE.out, ← HCE.out, ← HBE.out]
      exact hv3⟩, BX⟩)
     have z0 := cell_of KF 0
     have z1' := cell_of KF 1
     have sz0 := cell_of kFr 0
     have sz1 := cell_of kFr 1
     have fz0 := free_of kFr 0
     have fz1 := free_of kFr 1
     simp at z0 z1' sz0 sz1
     clear hv hv2 hv3 BX BR aF KF HTB HT kvr
     go_wp2
     exact bodyPost_ret (v := .tuple #[.pointer (some ⟨vb, 0, none⟩), .agg #[.int .i64 0, .int .i64 0]]) (by simp [results, Tryd.results10, go_sem, z0, z1']) rfl HP.out
    case pos =>
     have hil : (i : Int) < (nb : Int) := by omega
     have hiB : i < B.length := by have := HNB.out; omega
     obtain ⟨aoB, cpB, eB, -, -, hatB⟩ := (HB.out wr abr).at
     injection eB with q1 q2 q3
     obtain ⟨bB, oB, eaB, yB, p0⟩ := hatB i hiB
     rw [eaB] at q1
     have hpr := HBX.out B[i] (List.getElem_mem _)
     have hts : ∀ j : Int, decide (j ∈ B.take (i + 1)) = (decide (j ∈ B.take i) || j == B[i]) := fun j => by
      have h1 : (j ∈ B.take (i + 1)) ↔ (j ∈ B.take i ∨ j = B[i]) := by rw [List.take_succ_eq_append_getElem hiB, List.mem_append, List.mem_singleton]
      rw [Bool.eq_iff_iff, decide_eq_true_iff, h1, Bool.or_eq_true, decide_eq_true_iff, beq_iff_eq]
     generalize B[i] = p at p0 hpr hts
     obtain ⟨p, rfl⟩ : ∃ n : Nat, p = (n : Int) := ⟨p.toNat, by omega⟩
     have hpl : p < nc := by omega
     have hpl2 : (p : Int) < (nc : Int) := hpr.2
     subst q1
     have t0 := HT.out.at hpl
     have tf := HT.out.free p
     have HT2 := hide (show BF (wr.setCell ⟨tb, p, none⟩ (.bool true)) tb nc (fun j => decide (j ∈ B.take (i + 1))) by
      have h1 := HT.out.set hpl
      have h2 : (fun j : Int => decide (j ∈ B.take (i + 1))) = (fun j => decide (j ∈ B.take i) || j == (p : Int)) := funext hts
      rw [h2]
      exact h1)
     have ABR := hide (abr.trans (Aside.setCell (S := [tb]) (B := wr.heap.size) (p := ⟨tb, p, none⟩) (by simp) (.bool true)) abr.size)
     have v2 := cell_of kvr 2
     simp at v2
     clear hatB q2 q3 hiB hpr hts kFr
     go_wp2_with fail
     go_roundg (nb - (i + 1))
     case measure => omega
     case rel => exact ⟨i + 1, by omega, rfl, by go_num, HT2, ABR.out⟩
end Go.Proofs.YtkgbmgpdehmiiaaDoor
