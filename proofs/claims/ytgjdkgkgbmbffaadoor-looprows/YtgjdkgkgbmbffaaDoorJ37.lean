import Derived.Test.YtgjdkgkgbmbffaaDoorJ36
import Derived.Test.YtgjdkgkgbmbffaaDoorJ32
import Derived.Test.YtgjdkgkgbmbffaaDoorJ29
import Derived.WalkKit
import Derived.WalkSpells
import Derived.IntWalk
import Derived.Deep.Cut
import Derived.Deep.LoopGhost
import Derived.Laws.Cover1
import Derived.Lib.Hide
set_option linter.unusedVariables false
set_option linter.unusedSimpArgs false
set_option maxHeartbeats 64000000
set_option maxRecDepth 100000
namespace Go.Proofs.YtgjdkgkgbmbffaaDoor
open Go.RowKit Go.IntWalk
set_option linter.unusedVariables false
set_option linter.unusedSimpArgs false
namespace Lo
theorem ok_own {c : Int} {s : Sp} (h : Ok c s) : Ok c (ownS s) := by
  obtain ⟨h1, h2, h3, h4, h5⟩ := h
  refine ⟨h1, h2, h3, h4, fun hf => ?_⟩
  have e : (ownS s).F = s.F := by
    show (if folds s then s.F else []) = s.F
    have : folds s = true := by unfold folds; rcases hf with h | h <;> (have h' : s.op = _ := h; simp [h'])
    rw [if_pos this]
  rw [e]
  exact h5 hf
theorem good_own {L : Lp} (h : Good L) : Good (ownL L) :=
  ⟨h.c, h.P, h.G, fun s hs => by
    obtain ⟨s0, hs0, rfl⟩ := List.mem_map.1 hs
    exact ok_own (h.S s0 hs0)⟩
theorem told1 : told (ownL L1) [7, 5, 5] = [5] := rfl
theorem told2 : told (ownL L1) [7, 5, 12] = [12] := rfl
end Lo
theorem lo_any {ok : Nat → Prop} {w : World} {b : Nat} {x : Int} {ty : TypeId} (k : w.heap[b]? = some (.cells #[.int .i64 x] ty (0, 0))) (hob : ok b) : HInts ok w (.slice (some ⟨b, 0, none⟩) 1 1) [x] :=
  longs_row (blk_row kLong (l := [x]) k (fun _ => [.int .i64 x]) (fun i hi => ⟨rfl, fun j hj => by
    have h1 : i = 0 := by simpa using hi
    have h2 : j = 0 := by have : j < 1 := hj; omega
    subst h1 h2
    rfl⟩) (fun i hi => by
    have h1 : i = 0 := by simpa using hi
    subst h1
    rfl) hob (show 1 ≤ maxLen by decide))
theorem HLp.wide {ok ok' : Nat → Prop} {w : World} {aP aG aS : Option Addr} {cP cG cS : Nat} {L : Lo.Lp} (h : HLp ok w aP aG aS cP cG cS L) (hk : ∀ i, ok i → i < w.heap.size → ok' i) : HLp ok' w aP aG aS cP cG cS L := ⟨h.P.wide hk, h.G.wide hk, h.S.wide hk, h.W⟩
/-- a row of the loops with which the laws begin -/
theorem row_one {w : World} {mb cb : Nat} {aP aG aS : Option Addr} {cP cG cS : Nat} {M M' R : List Int} (hM : Mach w mb cb 3 aP aG aS cP cG cS (Lo.ownL Lo.L1)) (hl : LB w cb M) (hML : M.length = 3) (hR : Lo.row (Lo.ownL Lo.L1) M [5] = M') (hT : Lo.told (Lo.ownL Lo.L1) M' = R) (k : w.heap[w.heap.size - 1]? = some (.cells #[.int .i64 5] 2 (0, 0))) (hcb : cb < w.heap.size - 1) :
    Calls Tryd.prog 14 #[.pointer (some ⟨mb, 0, none⟩), .slice (some ⟨w.heap.size - 1, 0, none⟩) 1 1] w fun e w' => ∃ a c, e = .returned (.tuple #[.slice a R.length c, .agg #[.int .i64 0, .int .i64 0]]) ∧ LB w' cb M' ∧ HInts (fun i => w.heap.size ≤ i) w' (.slice a R.length c) R ∧ Aside [cb] w.heap.size w w' := by
  have h := row14_any hM hl (by rw [hML]; rfl) (Lo.good_own (Lo.good_of (by rw [Lo.L1_fault]))) (by decide) (aI := some ⟨w.heap.size - 1, 0, none⟩) (cI := 1) (inp := [5]) (lo_any k (ok := fun i => i = w.heap.size - 1) rfl) (fun i hi => by omega) rfl
  refine h.mono fun e w' hp => ?_
  obtain ⟨v, rfl, h1, h2, h3⟩ := hp.out
  rw [hR] at h1 h2
  rw [hT] at h2
  obtain ⟨a, c, rfl, -, -⟩ := h2.form
  exact ⟨a, c, rfl, h1, longs_row h2.row, h3⟩
set_option maxHeartbeats 16000000 in
theorem loopBegun5_any {w : World} (hK : GlobK w) : Calls Tryd.prog 5 #[] w fun e w' => e = .returned (.bool true) ∧ Below w.heap.size w w' := by
  have HK := hide hK
  clear hK
  go_enter Tryd.func5, Tryd.ntmps5
  go_wp2_with fail
  refine (loopsOne20_any w).mono ?_
  rintro e w1 ⟨aP, aG, aS, cP, cG, cS, rfl, hL, b1⟩
  have hN : Calls Tryd.prog 12 #[.agg #[.int .i64 3, .slice aP 1 cP, .slice aG 1 cG, .slice aS 2 cS]] w1 (NewPost w1 Lo.L1) := new12_any (HK.out.under b1) (hL.wide fun i _ h => h) (by decide) (by decide) (by decide)
  go_wp2_with fail
  refine hN.mono ?_
  intro e w2 hp
  have b2 := hp.b
  obtain ⟨mb, cb, nc, a1, c1, a2, c2, a3, c3, rfl, hM, hl, q1, q2⟩ := hp.good (by rw [Lo.L1_fault])
  have hnc : nc = 3 := by have := hM.n; have e : (Lo.ownL Lo.L1).c = 3 := rfl; omega
  subst hnc
  have B2 := b1.trans (b2.mono b1.size)
  have HM := hide hM
  have HL := hide hl
  have hcb := hl.lt
  have hz1 := b1.size
  have b3 : Below w2.heap.size w2 (w2.alloc (.cells #[.int .i64 0, .int .i64 0] 29 (0, 0))) := (Below.refl _ _).alloc (Nat.le_refl _) _
  have k3 := heap_new w2 (.cells #[.int .i64 0, .int .i64 0] 29 (0, 0))
  clear hN hp hM hl hL HK
  go_upto_region 2 with fail
  generalize w2.alloc (.cells #[.int .i64 0, .int .i64 0] 29 (0, 0)) = w3 at b3 k3 ⊢
  have g0 := cell_of k3 0
  have g1 := cell_of k3 1
  simp at g0 g1
  have B3 := B2.trans (b3.mono B2.size)
  have hM3 := HM.out.past (aside b3)
  have hl3 := HL.out.under b3
  have b4 : Below w3.heap.size w3 (w3.alloc (.cells #[.int .i64 5] 2 (0, 0))) := (Below.refl _ _).alloc (Nat.le_refl _) _
  have k4 := heap_new w3 (.cells #[.int .i64 5] 2 (0, 0))
  have z4 : (w3.alloc (.cells #[.int .i64 5] 2 (0, 0))).heap.size = w3.heap.size + 1 := by simp
  go_wp2_with fail
  clear g0 g1
  generalize w3.alloc (.cells #[.int .i64 5] 2 (0, 0)) = w4 at b4 k4 z4 ⊢
  have e4 : w3.heap.size = w4.heap.size - 1 := by omega
  have hc3 := hl3.lt
  have hr1 := row_one (hM3.past (aside b4)) (hl3.under b4) rfl Lo.L1_row1 Lo.told1 (by rw [← e4]; exact k4) (by omega)
  rw [← e4] at hr1
  refine hr1.mono ?_
  rintro e w5 ⟨av, cv, rfl, hl5, hv5, as5⟩
  have hM5 := (hM3.past (aside b4)).past as5
  have y3 := lt_of k3
  have k5 := as5.keep ((b4.block _ y3).trans k3) (Nat.lt_of_lt_of_le y3 b4.size) (by simp; omega)
  have B5 : Below w.heap.size w w5 := (B3.trans (b4.mono B3.size)).trans ((as5.mono (B' := w.heap.size) (by have := B3.size; have := b4.size; omega)).below (by intro k hk; simp at hk; omega))
  have hz5 := as5.size
  clear hr1 e4 k4 k3 hM3 hl3 HM HL
  have b6 : Below w5.heap.size w5 (w5.alloc (.cells #[.int .i64 0, .int .i64 0] 29 (0, 0))) := (Below.refl _ _).alloc (Nat.le_refl _) _
  have k6 := heap_new w5 (.cells #[.int .i64 0, .int .i64 0] 29 (0, 0))
  go_upto_region 5 with fail
  generalize w5.alloc (.cells #[.int .i64 0, .int .i64 0] 29 (0, 0)) = w6 at b6 k6 ⊢
  have hM6 := hM5.past (aside b6)
  have hl6 := hl5.under b6
  have b7 : Below w6.heap.size w6 (w6.alloc (.cells #[.int .i64 5] 2 (0, 0))) := (Below.refl _ _).alloc (Nat.le_refl _) _
  have k7 := heap_new w6 (.cells #[.int .i64 5] 2 (0, 0))
  have z7 : (w6.alloc (.cells #[.int .i64 5] 2 (0, 0))).heap.size = w6.heap.size + 1 := by simp
  go_wp2_with fail
  generalize w6.alloc (.cells #[.int .i64 5] 2 (0, 0)) = w7 at b7 k7 z7 ⊢
  have e7 : w6.heap.size = w7.heap.size - 1 := by omega
  have hc6 := hl6.lt
  have hr2 := row_one (hM6.past (aside b7)) (hl6.under b7) rfl Lo.L1_row2 Lo.told2 (by rw [← e7]; exact k7) (by omega)
  rw [← e7] at hr2
  refine hr2.mono ?_
  rintro e w8 ⟨au, cu, rfl, hl8, hv8, as8⟩
  have y6 := lt_of k6
  have k8 := as8.keep ((b7.block _ y6).trans k6) (Nat.lt_of_lt_of_le y6 b7.size) (by simp; omega)
  have B8 : Below w.heap.size w w8 := ((B5.trans (b6.mono B5.size)).trans (b7.mono (B5.trans (b6.mono B5.size)).size)).trans ((as8.mono (B' := w.heap.size) (by have := B5.size; have := b6.size; have := b7.size; omega)).below (by intro k hk; simp at hk; omega))
  have hv8a : HInts (fun i => w4.heap.size ≤ i) w8 (.slice av [5].length cv) [5] := (((hv5.under b6).under b7).past as8 (fun i hi => by omega))
  clear hr2 e7 k7 hM6 hl6 hM5 hl5 hl8
  have b9 : Below w8.heap.size w8 (w8.alloc (.cells #[.int .i64 0, .int .i64 0] 29 (0, 0))) := (Below.refl _ _).alloc (Nat.le_refl _) _
  have k9 := heap_new w8 (.cells #[.int .i64 0, .int .i64 0] 29 (0, 0))
  go_upto_region 6 with fail
  generalize w8.alloc (.cells #[.int .i64 0, .int .i64 0] 29 (0, 0)) = w9 at b9 k9 ⊢
  have B9 := B8.trans (b9.mono B8.size)
  have k9b := (b9.block _ (lt_of k8)).trans k8
  have h0 := cell_of k9b 0
  have i0 := cell_of k9 0
  simp at h0 i0
  have hva9 := hide (hv8a.under b9)
  have hvb9 := hide (hv8.under b9)
  clear hv8a hv8 hv5 k9b k8 k5 k6
  have bA : Below w9.heap.size w9 (w9.alloc (.cells #[.int .i64 5] 2 (0, 0))) := (Below.refl _ _).alloc (Nat.le_refl _) _
  have kA := heap_new w9 (.cells #[.int .i64 5] 2 (0, 0))
  go_wp2_with fail
  clear h0 i0
  generalize w9.alloc (.cells #[.int .i64 5] 2 (0, 0)) = wA at bA kA ⊢
  refine (sameLongs_same (l := [5]) (hva9.out.under bA) (lo_any kA (ok := fun _ => True) trivial)).mono ?_
  rintro e wB ⟨rfl, bB⟩
  have BB := (B9.trans (bA.mono B9.size)).trans (bB.mono (B9.trans (bA.mono B9.size)).size)
  have hvbB := hide ((hvb9.out.under bA).under bB)
  clear hva9 hvb9 bA kA bB
  have bC : Below wB.heap.size wB (wB.alloc (.cells #[.int .i64 12] 2 (0, 0))) := (Below.refl _ _).alloc (Nat.le_refl _) _
  have kC := heap_new wB (.cells #[.int .i64 12] 2 (0, 0))
  go_wp2_with fail
  generalize wB.alloc (.cells #[.int .i64 12] 2 (0, 0)) = wC at bC kC ⊢
  refine (sameLongs_same (l := [12]) (hvbB.out.under bC) (lo_any kC (ok := fun _ => True) trivial)).mono ?_
  rintro e wD ⟨rfl, bD⟩
  have BD := (BB.trans (bC.mono BB.size)).trans (bD.mono (BB.trans (bC.mono BB.size)).size)
  go_wp2
  go_ret
  exact ⟨rfl, BD⟩
end Go.Proofs.YtgjdkgkgbmbffaaDoor
namespace Go.Proofs.YtgjdkgkgbmbffaaDoor
open Go.RowKit Go.IntWalk
set_option linter.unusedVariables false
set_option linter.unusedSimpArgs false
namespace Lo
theorem doS_own (M : List Int) {s : Sp} (h : 1 ≤ s.op ∧ s.op ≤ 4) : doS M (ownS s) = doS M s := by
  unfold doS
  show (if s.op = 1 then _ else if s.op = 2 then _ else if s.op = 3 then _ else _) = _
  by_cases h1 : s.op = 1
  · rw [if_pos h1, if_pos h1]; rfl
  · rw [if_neg h1, if_neg h1]
    by_cases h2 : s.op = 2
    · rw [if_pos h2, if_pos h2]; rfl
    · rw [if_neg h2, if_neg h2]
      have hf : folds s = true := by
        have : s.op = 3 ∨ s.op = 4 := by omega
        unfold folds
        rcases this with h | h <;> simp [h]
      have e : (ownS s).F = s.F := by show (if folds s = true then s.F else []) = s.F; rw [if_pos hf]
      rw [e]
      rfl
theorem foldl_own : ∀ (S : List Sp) (M : List Int), (∀ s ∈ S, 1 ≤ s.op ∧ s.op ≤ 4) → (S.map ownS).foldl doS M = S.foldl doS M
  | [], _, _ => rfl
  | s :: S, M, h => by
    rw [List.map_cons, List.foldl_cons, List.foldl_cons, doS_own M (h s (by simp))]
    exact foldl_own S _ fun x hx => h x (by simp [hx])
theorem row_own {L : Lp} (hg : Good L) (M inp : List Int) : row (ownL L) M inp = row L M inp := foldl_own L.S _ fun s hs => (hg.S s hs).op
theorem told_own (L : Lp) (M : List Int) : told (ownL L) M = told L M := rfl
theorem row_keep {L : Lp} (hW : ∀ s ∈ L.S, SW s) {M inp : List Int} (hM : Wd M) (hI : Wd inp) : Wd (row L M inp) ∧ (row L M inp).length = M.length := by
  have h := stepsL_wide L.S (putL M L.P inp) hW (putL_wide _ _ _ hM hI)
  exact ⟨h.1, h.2.trans (putL_len _ _ _)⟩
end Lo
end Go.Proofs.YtgjdkgkgbmbffaaDoor
namespace Go.Proofs.YtgjdkgkgbmbffaaDoor
open Go.RowKit Go.IntWalk
set_option linter.unusedVariables false
set_option linter.unusedSimpArgs false
/-- the document's Looping in block mb, its cells in block cb -/
structure RMaAt (w : World) (mb cb : Nat) (c : Int) (vP vG vS : Value) (nc : Nat) : Prop where
  m : w.heap[mb]? = some (.cells #[.int .i64 c, vP, vG, vS, .slice (some ⟨cb, 0, none⟩) nc nc] 47 (0, 0))
  ne : mb ≠ cb
theorem RMaAt.past {w w' : World} {mb cb : Nat} {c : Int} {vP vG vS : Value} {nc : Nat} (h : RMaAt w mb cb c vP vG vS nc) (a : Aside [cb] w.heap.size w w') : RMaAt w' mb cb c vP vG vS nc :=
  ⟨a.keep h.m (lt_of h.m) (by simpa using h.ne), h.ne⟩
theorem tree30_ma {w : World} {mb cb : Nat} {c : Int} {vP vG vS : Value} {nc : Nat} {M : List Int} (hm : RMaAt w mb cb c vP vG vS nc) (hl : LB w cb M) (hn : nc = M.length) (hc : (M.length : Int) = c) (hcM : c ≤ 6000) {okE : Nat → Prop} {a : Option Addr} {m cE : Nat} {E : List Pu} (hE : HPu okE w (.slice a m cE) E) {n0 : Int} (hf : Lo.Fit c n0 E) (kk : Nat) (hkk : (kk : Int) < n0) (hM : Lo.Wd M) (hW : Lo.PW E) :
    Calls Tryd.prog 30 #[.pointer (some ⟨mb, 0, none⟩), .slice a m cE, .int .i64 (kk : Int)] w fun e w' => e = .returned (.int .i64 (Lo.tree M (kk : Int) E)) ∧ Below w.heap.size w w' := by
  subst hn
  obtain ⟨a2, c2, e, -, -, -⟩ := hE.at
  injection e with q1 q2 q3
  subst q1 q3 q2
  exact tree30_any hm.m (hl.ints (ok := fun _ => True) (by unfold maxLen; omega) trivial) hE hf hc hkk hM hW
structure RMach (w : World) (mb cb nc : Nat) (aP aG aS : Option Addr) (cP cG cS : Nat) (L : Lo.Lp) : Prop where
  m : RMaAt w mb cb L.c (.slice aP L.P.length cP) (.slice aG L.G.length cG) (.slice aS L.S.length cS) nc
  n : (nc : Int) = L.c
  h : HLp (fun i => i ≠ cb) w aP aG aS cP cG cS L
theorem RMach.past {w w' : World} {mb cb nc : Nat} {aP aG aS : Option Addr} {cP cG cS : Nat} {L : Lo.Lp} (h : RMach w mb cb nc aP aG aS cP cG cS L) (a : Aside [cb] w.heap.size w w') : RMach w' mb cb nc aP aG aS cP cG cS L :=
  ⟨h.m.past a, h.n, h.h.keep a.size fun i hi hl => a.block i hl (by simpa using hi)⟩
structure RRowPost (w : World) (cb : Nat) (L : Lo.Lp) (M inp : List Int) (e : Ending) (w' : World) : Prop where
  out : ∃ v, e = .returned v ∧ LB w' cb (Lo.row L M inp) ∧ OwnL kLong w.heap.size w' v (Lo.told L (Lo.row L M inp)) ∧ Aside [cb] w.heap.size w w'
end Go.Proofs.YtgjdkgkgbmbffaaDoor
