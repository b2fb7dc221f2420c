import Derived.Test.YtbiomnnlpafciaaDoorT28
import Derived.Test.YtbiomnnlpafciaaDoorT26
import Derived.Test.YtbiomnnlpafciaaDoorT18
import Derived.WalkKit
import Derived.WalkSpells
import Derived.IntWalk
import Derived.Deep.Cut
import Derived.Deep.LoopGhost
import Derived.Laws.Cover1
import Derived.Lib.Hide
set_option linter.unusedVariables false
set_option linter.unusedSimpArgs false
set_option maxHeartbeats 64000000
set_option maxRecDepth 100000
namespace Go.Proofs.YtbiomnnlpafciaaDoor
open Go.RowKit Go.IntWalk
set_option linter.unusedVariables false
set_option linter.unusedSimpArgs false
theorem Lo.stk_pos {M : List Int} {k : Int} {E : List Pu} {q : Nat} (h : 0 < (Lo.stk M k E q).length) : 0 < q := by
  cases q with
  | zero => rw [Lo.stk_zero] at h; simp at h
  | succ => omega
theorem Lo.Part.len {M : List Int} {k : Int} {E : List Pu} {i j : Nat} {v : Int} (h : Lo.Part M k E i v j) : (Lo.stk M k E i).length = (Lo.stk M k E j).length + 1 := by rw [h.2]; simp
theorem Lo.push_ops {c n : Int} {op pk pv pn : Int} (h : Lo.pushOK c n ⟨op, pk, pv, pn⟩ = true) : op = 1 ∨ op = 2 ∨ op = 3 ∨ op = 4 ∨ op = 5 ∨ op = 6 ∨ op = 7 ∨ op = 8 := by
  by_cases hc : op = 1 ∨ op = 2 ∨ op = 3 ∨ op = 4 ∨ op = 5 ∨ op = 6 ∨ op = 7 ∨ op = 8
  · exact hc
  · exfalso
    unfold Lo.pushOK at h
    dsimp only at h
    rw [if_neg (by omega), if_neg (by omega), if_neg (by omega), if_neg (by omega), if_neg (by omega), if_neg (by omega), if_neg (by omega)] at h
    cases h
theorem part49_any {w : World} {mb : Nat} {c : Int} {vP vG vS : Value} {aC : Option Addr} {nC cC : Nat} {okC okE : Nat → Prop} {M : List Int} {E : List Pu} {aE : Option Addr} {cE k : Nat} (hm : w.heap[mb]? = some (.cells #[.int .i64 c, vP, vG, vS, .slice aC nC cC] 54 (0, 0))) (hC : HInts okC w (.slice aC nC cC) M) (hE : HPu okE w (.slice aE E.length cE) E) {n0 : Int} (hf : Lo.Fit c n0 E) (hML : (M.length : Int) = c) (hk : (k : Int) < n0) (hM : Lo.Wd M) (hPW : Lo.PW E) :
    ∀ i, i < E.length → ∀ W, Below w.heap.size w W → Calls Tryd.prog 61 #[.pointer (some ⟨mb, 0, none⟩), .slice aE E.length cE, .int .i64 (i : Int), .int .i64 (k : Int)] W (PartPost M k E (i + 1) W) := by
  intro i
  induction i using Nat.strongRecOn with
  | _ i IH =>
    intro hi W bW
    have hm1 := (bW.block _ (lt_of hm)).trans hm
    have hC1 := hC.under bW
    have hE1 := hE.under bW
    have hlen := hf.len
    have IHc : ∀ q, 0 < (Lo.stk M k E q).length → q ≤ i → ∀ V, Below W.heap.size W V → Calls Tryd.prog 61 #[.pointer (some ⟨mb, 0, none⟩), .slice aE E.length cE, .int .i64 ((q : Int) - 1), .int .i64 (k : Int)] V (PartPost M k E q V) := fun q h0 hq V bV => by
      have h1 := Lo.stk_pos h0
      obtain ⟨r, rfl⟩ : ∃ r, q = r + 1 := ⟨q - 1, by omega⟩
      have h2 := IH r (by omega) (by omega) V (bW.trans (bV.mono bW.size))
      have e : ((r + 1 : Nat) : Int) - 1 = (r : Int) := by omega
      rw [e]
      exact h2
    obtain ⟨f1, f2, -⟩ := hf.at' M k i hi
    obtain ⟨p, hp⟩ : ∃ p, E[i] = p := ⟨_, rfl⟩
    rw [hp] at f1 f2
    obtain ⟨op, pk, pv, pn⟩ := p
    have hops := Lo.push_ops f2
    have L2 : 2 ≤ (Lo.stk M k E i).length → ∀ (b : Int) (m : Nat), Lo.Part M k E i b m → ∀ V, Below W.heap.size W V → Calls Tryd.prog 61 #[.pointer (some ⟨mb, 0, none⟩), .slice aE E.length cE, .int .i64 ((m : Int) - 1), .int .i64 (k : Int)] V (PartPost M k E m V) := fun h2 b m h V bV =>
      IHc m (by have := h.len; omega) h.lt V bV
    rcases hops with rfl | rfl | rfl | rfl | rfl | rfl | rfl | rfl
    · refine (partL1_any (c := c) (vP := vP) (vG := vG) (vS := vS) (aC := aC) (nC := nC) (cC := cC) (okC := okC) (M := M) hE1 hi hlen hp).mono ?_
      rintro e w' ⟨rfl, b⟩
      have h0 := Lo.part_0 (M := M) (k := k) hi (by rw [hp]; rfl)
      rw [hp] at h0
      exact ⟨_, _, rfl, h0, b⟩
    · simp [Lo.pushOK, Lo.hasN] at f2
      obtain ⟨v, rfl⟩ : ∃ v : Nat, pv = (v : Int) := ⟨pv.toNat, by omega⟩
      refine (partL2_any hm1 hC1 hE1 hi hlen hp (by omega)).mono ?_
      rintro e w' ⟨rfl, b⟩
      have h0 := Lo.part_0 (M := M) (k := k) hi (by rw [hp]; rfl)
      rw [hp] at h0
      exact ⟨_, _, rfl, h0, b⟩
    · simp [Lo.pushOK, Lo.hasN] at f2
      obtain ⟨v, rfl⟩ : ∃ v : Nat, pv = (v : Int) := ⟨pv.toNat, by omega⟩
      refine (partL3_any hm1 hC1 hE1 hi hlen hp (by omega)).mono ?_
      rintro e w' ⟨rfl, b⟩
      have h0 := Lo.part_0 (M := M) (k := k) hi (by rw [hp]; rfl)
      rw [hp] at h0
      exact ⟨_, _, rfl, h0, b⟩
    · refine (partL4_any (c := c) (vP := vP) (vG := vG) (vS := vS) (aC := aC) (nC := nC) (cC := cC) (okC := okC) (M := M) hE1 hi hlen hp).mono ?_
      rintro e w' ⟨rfl, b⟩
      have h0 := Lo.part_0 (M := M) (k := k) hi (by rw [hp]; rfl)
      rw [hp] at h0
      exact ⟨_, _, rfl, h0, b⟩
    · exact partU_any (c := c) (vP := vP) (vG := vG) (vS := vS) (aC := aC) (nC := nC) (cC := cC) (okC := okC) hE1 hi hlen hM hPW hp (IHc i (by simp [Lo.tk] at f1; omega) (Nat.le_refl _))
    · have h2 : 2 ≤ (Lo.stk M k E i).length := by simp [Lo.tk] at f1; omega
      exact partB_any (c := c) (vP := vP) (vG := vG) (vS := vS) (aC := aC) (nC := nC) (cC := cC) (okC := okC) hE1 hi hlen hM hPW hp (IHc i (by omega) (Nat.le_refl _)) (L2 h2)
    · have h3 : 3 ≤ (Lo.stk M k E i).length := by simp [Lo.tk] at f1; omega
      exact partS_any (c := c) (vP := vP) (vG := vG) (vS := vS) (aC := aC) (nC := nC) (cC := cC) (okC := okC) hE1 hi hlen hM hPW hp (IHc i (by omega) (Nat.le_refl _)) (L2 (by omega)) fun b m a q h1 h2 V bV => IHc q (by have := h1.len; have := h2.len; omega) (Nat.le_trans h2.lt h1.lt) V bV
    · have h2 : 2 ≤ (Lo.stk M k E i).length := by simp [Lo.tk] at f1; omega
      simp [Lo.pushOK, Lo.hasN] at f2
      obtain ⟨v, rfl⟩ : ∃ v : Nat, pv = (v : Int) := ⟨pv.toNat, by omega⟩
      obtain ⟨n, rfl⟩ : ∃ n : Nat, pn = (n : Int) := ⟨pn.toNat, by omega⟩
      exact partA_any hm1 hC1 hE1 hi hlen hM hPW hp (by omega) (by omega) (IHc i (by omega) (Nat.le_refl _)) (L2 h2)
set_option maxHeartbeats 8000000 in
theorem tree30_any {w : World} {mb : Nat} {c : Int} {vP vG vS : Value} {aC : Option Addr} {nC cC : Nat} {okC okE : Nat → Prop} {M : List Int} {E : List Pu} {aE : Option Addr} {cE k : Nat} (hm : w.heap[mb]? = some (.cells #[.int .i64 c, vP, vG, vS, .slice aC nC cC] 54 (0, 0))) (hC : HInts okC w (.slice aC nC cC) M) (hE : HPu okE w (.slice aE E.length cE) E) {n0 : Int} (hf : Lo.Fit c n0 E) (hML : (M.length : Int) = c) (hk : (k : Int) < n0) (hM : Lo.Wd M) (hPW : Lo.PW E) :
    Calls Tryd.prog 34 #[.pointer (some ⟨mb, 0, none⟩), .slice aE E.length cE, .int .i64 (k : Int)] w fun e w' => e = .returned (.int .i64 (Lo.tree M (k : Int) E)) ∧ Below w.heap.size w w' := by
  have hp0 := hf.pos
  have hl := hf.len
  have HC := hide (show Calls Tryd.prog 61 #[.pointer (some ⟨mb, 0, none⟩), .slice aE E.length cE, .int .i64 ((E.length : Int) - 1), .int .i64 (k : Int)] w (PartPost M k E E.length w) by
    obtain ⟨r, hr⟩ : ∃ r, E.length = r + 1 := ⟨E.length - 1, by omega⟩
    have h2 := part49_any hm hC hE hf hML hk hM hPW r (by omega) w (Below.refl _ _)
    have e : (E.length : Int) - 1 = (r : Int) := by omega
    rw [e]
    rw [← hr] at h2
    exact h2)
  have HT := hide (fun (v : Int) (j : Nat) (h : Lo.Part M k E E.length v j) => h.tree hf)
  clear hm hC hE hf hML hk hM hPW
  generalize Lo.tree M (k : Int) E = R at HT ⊢
  obtain ⟨ne, hne⟩ : ∃ ne, ne = E.length := ⟨_, rfl⟩
  rw [← hne] at HC HT hp0 hl ⊢
  clear hne
  go_enter Tryd.func34, Tryd.ntmps34
  go_wp2_with fail
  refine HC.out.mono ?_
  rintro e w1 ⟨v, j, rfl, hP, b1⟩
  have hv := HT.out v j hP
  subst hv
  clear hP HT HC
  go_wp2
  go_ret
  exact ⟨rfl, b1⟩
end Go.Proofs.YtbiomnnlpafciaaDoor
namespace Go.Proofs.YtbiomnnlpafciaaDoor
open Go.RowKit Go.IntWalk
set_option linter.unusedVariables false
set_option linter.unusedSimpArgs false
theorem HRow.under {α : Type} {T : Kind α} {ok : Nat → Prop} {w w' : World} {v : Value} {l : List α} (h : HRow T ok w v l) (b : Below w.heap.size w w') : HRow T ok w' v l := h.keep b.size fun i _ hl => b.block i hl
end Go.Proofs.YtbiomnnlpafciaaDoor
namespace Go.Proofs.YtbiomnnlpafciaaDoor
open Go.RowKit Go.IntWalk
set_option linter.unusedVariables false
set_option linter.unusedSimpArgs false
set_option maxHeartbeats 8000000 in
theorem begin13_any {w : World} {nc : Nat} {aP aG aS : Option Addr} {nP nG nS cP cG cS : Nat} (h6 : nc ≤ 6000) :
    Calls Tryd.prog 16 #[.agg #[.int .i64 (nc : Int), .slice aP nP cP, .slice aG nG cG, .slice aS nS cS]] w fun e w' => ∃ mb cb, e = .returned (.pointer (some ⟨mb, 0, none⟩)) ∧ w'.heap[mb]? = some (.cells #[.int .i64 (nc : Int), .slice aP nP cP, .slice aG nG cG, .slice aS nS cS, .slice (some ⟨cb, 0, none⟩) nc nc] 54 (0, 0)) ∧ LB w' cb (List.replicate nc 0) ∧ w.heap.size ≤ cb ∧ cb < mb ∧ Below w.heap.size w w' := by
  have b1 : Below w.heap.size w (w.alloc (.cells #[.int .i64 (nc : Int), .slice aP nP cP, .slice aG nG cG, .slice aS nS cS] 25 (0, 0))) := (Below.refl _ _).alloc (Nat.le_refl _) _
  have kR := heap_new w (.cells #[.int .i64 (nc : Int), .slice aP nP cP, .slice aG nG cG, .slice aS nS cS] 25 (0, 0))
  obtain ⟨LZ, hLZ⟩ : ∃ LZ, LZ = ((List.replicate nc (0 : Int)).map (Value.int .i64)).toArray := ⟨_, rfl⟩
  have HLZ := hide hLZ
  have HMK := hide (fun V => make_longs nc nc (Nat.le_refl _) (by omega) V)
  clear hLZ
  go_enter Tryd.func16, Tryd.ntmps16
  go_upto_region 1 with fail
  generalize w.alloc (.cells #[.int .i64 (nc : Int), .slice aP nP cP, .slice aG nG cG, .slice aS nS cS] 25 (0, 0)) = w1 at b1 kR ⊢
  have c0 := cell_of kR 0
  have c1 := cell_of kR 1
  have c2 := cell_of kR 2
  have c3 := cell_of kR 3
  simp at c0 c1 c2 c3
  have yR := lt_of kR
  refine wp_region_late (fun w' => Below w1.heap.size w1 w') (fun _ => false) (by kernel_rfl) ?_
  have hH0 : Below w1.heap.size w1 w1.drew := (Below.refl _ _).drew
  generalize w1.drew = wd0 at hH0 ⊢
  refine' wpAnyL_take (i := 0) (oi := ⟨some 3, _, _, _, _, _⟩) (v := _) rfl (by kernel_rfl) (by kernel_rfl) (by kernel_rfl) (by kernel_rfl) (fun _ _ _ h => h) hH0 (by rfl) ?hyv ?onw
  case hyv =>
    intro wz hSw
    have zc0 := (hSw.cell (p := ⟨w.heap.size, 0, none⟩) yR).trans c0
    have zc1 := (hSw.cell (p := ⟨w.heap.size, 1, none⟩) yR).trans c1
    have zc2 := (hSw.cell (p := ⟨w.heap.size, 2, none⟩) yR).trans c2
    have zc3 := (hSw.cell (p := ⟨w.heap.size, 3, none⟩) yR).trans c3
    go_simp
    try rfl
  case onw =>
    try simp only [Act.put, List.setIfInBounds_toArray, List.set_cons_zero, List.set_cons_succ]
    refine' wpAnyL_take (i := 1) (oi := ⟨some 4, _, _, _, _, _⟩) (v := _) rfl (by kernel_rfl) (by kernel_rfl) (by kernel_rfl) (by kernel_rfl) (fun _ _ _ h => h) hH0 (by rfl) ?hyv ?onw
    case hyv =>
      intro wz hSw
      go_simp
      try rfl
    case onw =>
      try simp only [Act.put, List.setIfInBounds_toArray, List.set_cons_zero, List.set_cons_succ]
      refine' wpAnyL_take (i := 2) (oi := ⟨some 5, _, _, _, _, _⟩) (v := _) rfl (by kernel_rfl) (by kernel_rfl) (by kernel_rfl) (by kernel_rfl) (fun _ _ _ h => h) hH0 (by rfl) ?hyv ?onw
      case hyv =>
        intro wz hSw
        have zc0 := (hSw.cell (p := ⟨w.heap.size, 0, none⟩) yR).trans c0
        have zc1 := (hSw.cell (p := ⟨w.heap.size, 1, none⟩) yR).trans c1
        have zc2 := (hSw.cell (p := ⟨w.heap.size, 2, none⟩) yR).trans c2
        have zc3 := (hSw.cell (p := ⟨w.heap.size, 3, none⟩) yR).trans c3
        go_simp
        try rfl
      case onw =>
        try simp only [Act.put, List.setIfInBounds_toArray, List.set_cons_zero, List.set_cons_succ]
        refine wpAnyL_one (i := 3) (o := _) rfl (by kernel_rfl) (by rfl) (fun K hK => ?_)
        have hmk1 := HMK.out wd0; rw [← HLZ.out] at hmk1; go_simp
        have hH1 : Below w1.heap.size w1 (wd0.alloc (.cells LZ 2 (0, 0))) := hH0.alloc hH0.size _
        have kn1 := heap_new wd0 (.cells LZ 2 (0, 0))
        have zn1 := hH0.size
        refine hK.out _ _ (fun _ => hH1) ?_
        clear hK K
        try simp only [Act.put, List.setIfInBounds_toArray, List.set_cons_zero, List.set_cons_succ]
        generalize wd0.alloc (.cells LZ 2 (0, 0)) = wd1 at hH1 kn1 ⊢
        clear hmk1
        refine' wpAnyL_take (i := 4) (oi := ⟨some 7, _, _, _, _, _⟩) (v := _) rfl (by kernel_rfl) (by kernel_rfl) (by kernel_rfl) (by kernel_rfl) (fun _ _ _ h => h) hH1 (by rfl) ?hyv ?onw
        case hyv =>
          intro wz hSw
          go_simp
          try rfl
        case onw =>
          try simp only [Act.put, List.setIfInBounds_toArray, List.set_cons_zero, List.set_cons_succ]
          refine wpAnyL_one (i := 5) (o := _) rfl (by kernel_rfl) (by rfl) (fun K hK => ?_)
          go_simp
          have hH2 : Below w1.heap.size w1 (wd1.alloc (.cells #[.int .i64 (nc : Int), .slice aP nP cP, .slice aG nG cG, .slice aS nS cS, .slice (some ⟨wd0.heap.size, 0, none⟩) nc nc] 54 (0, 0))) := hH1.alloc hH1.size _
          have kn2 := heap_new wd1 (.cells #[.int .i64 (nc : Int), .slice aP nP cP, .slice aG nG cG, .slice aS nS cS, .slice (some ⟨wd0.heap.size, 0, none⟩) nc nc] 54 (0, 0))
          have zn2 := hH1.size
          refine hK.out _ _ (fun _ => hH2) ?_
          clear hK K
          try simp only [Act.put, List.setIfInBounds_toArray, List.set_cons_zero, List.set_cons_succ]
          have ne2_kn1 := lt_of kn1
          have kn1_2 := (Below.heap_alloc wd1 (.cells #[.int .i64 (nc : Int), .slice aP nP cP, .slice aG nG cG, .slice aS nS cS, .slice (some ⟨wd0.heap.size, 0, none⟩) nc nc] 54 (0, 0)) _ (lt_of kn1)).trans kn1
          generalize wd1.alloc (.cells #[.int .i64 (nc : Int), .slice aP nP cP, .slice aG nG cG, .slice aS nS cS, .slice (some ⟨wd0.heap.size, 0, none⟩) nc nc] 54 (0, 0)) = wd2 at hH2 kn2 kn1_2 ⊢
          refine' wpAnyL_take (i := 6) (oi := ⟨some 2, _, _, _, _, _⟩) (v := _) rfl (by kernel_rfl) (by kernel_rfl) (by kernel_rfl) (by kernel_rfl) (fun _ _ _ h => h) hH2 (by rfl) ?hyv ?onw
          case hyv =>
            intro wz hSw
            go_simp
            try rfl
          case onw =>
            try simp only [Act.put, List.setIfInBounds_toArray, List.set_cons_zero, List.set_cons_succ]
            refine wpAnyL_done (by kernel_rfl) ?_ _
            have hlx : LB wd2 wd0.heap.size (List.replicate nc 0) := by
              unfold LB
              rw [kn1_2, HLZ.out]
            have HLX := hide hlx
            have KM := hide kn2
            have lt1 : wd0.heap.size < wd1.heap.size := lt_of kn1
            have z0 : w.heap.size ≤ wd0.heap.size := Nat.le_trans b1.size (by omega)
            have BE := b1.trans (hH2.mono b1.size)
            clear hlx
            go_wp2
            go_ret
            exact ⟨_, _, rfl, KM.out, HLX.out, z0, lt1, BE⟩
end Go.Proofs.YtbiomnnlpafciaaDoor
namespace Go.Proofs.YtbiomnnlpafciaaDoor
open Go.RowKit Go.IntWalk
set_option linter.unusedVariables false
set_option linter.unusedSimpArgs false
namespace Lo
/-- the cells behind so many rows -/
def after (L : Lp) : List (List Int) → List Int → List Int
  | [], M => M
  | r :: R, M => after L R (if r.length = L.P.length then row L M r else M)
end Lo
end Go.Proofs.YtbiomnnlpafciaaDoor
namespace Go.Proofs.YtbiomnnlpafciaaDoor
open Go.RowKit Go.IntWalk
set_option linter.unusedVariables false
set_option linter.unusedSimpArgs false
/-- the document's Looping in block mb, its cells in block cb -/
structure RMaAt (w : World) (mb cb : Nat) (c : Int) (vP vG vS : Value) (nc : Nat) : Prop where
  m : w.heap[mb]? = some (.cells #[.int .i64 c, vP, vG, vS, .slice (some ⟨cb, 0, none⟩) nc nc] 54 (0, 0))
  ne : mb ≠ cb
theorem RMaAt.past {w w' : World} {mb cb : Nat} {c : Int} {vP vG vS : Value} {nc : Nat} (h : RMaAt w mb cb c vP vG vS nc) (a : Aside [cb] w.heap.size w w') : RMaAt w' mb cb c vP vG vS nc :=
  ⟨a.keep h.m (lt_of h.m) (by simpa using h.ne), h.ne⟩
theorem tree30_ma {w : World} {mb cb : Nat} {c : Int} {vP vG vS : Value} {nc : Nat} {M : List Int} (hm : RMaAt w mb cb c vP vG vS nc) (hl : LB w cb M) (hn : nc = M.length) (hc : (M.length : Int) = c) (hcM : c ≤ 6000) {okE : Nat → Prop} {a : Option Addr} {m cE : Nat} {E : List Pu} (hE : HPu okE w (.slice a m cE) E) {n0 : Int} (hf : Lo.Fit c n0 E) (kk : Nat) (hkk : (kk : Int) < n0) (hM : Lo.Wd M) (hW : Lo.PW E) :
    Calls Tryd.prog 34 #[.pointer (some ⟨mb, 0, none⟩), .slice a m cE, .int .i64 (kk : Int)] w fun e w' => e = .returned (.int .i64 (Lo.tree M (kk : Int) E)) ∧ Below w.heap.size w w' := by
  subst hn
  obtain ⟨a2, c2, e, -, -, -⟩ := hE.at
  injection e with q1 q2 q3
  subst q1 q3 q2
  exact tree30_any hm.m (hl.ints (ok := fun _ => True) (by unfold maxLen; omega) trivial) hE hf hc hkk hM hW
structure RMach (w : World) (mb cb nc : Nat) (aP aG aS : Option Addr) (cP cG cS : Nat) (L : Lo.Lp) : Prop where
  m : RMaAt w mb cb L.c (.slice aP L.P.length cP) (.slice aG L.G.length cG) (.slice aS L.S.length cS) nc
  n : (nc : Int) = L.c
  h : HLp (fun i => i ≠ cb) w aP aG aS cP cG cS L
theorem RMach.past {w w' : World} {mb cb nc : Nat} {aP aG aS : Option Addr} {cP cG cS : Nat} {L : Lo.Lp} (h : RMach w mb cb nc aP aG aS cP cG cS L) (a : Aside [cb] w.heap.size w w') : RMach w' mb cb nc aP aG aS cP cG cS L :=
  ⟨h.m.past a, h.n, h.h.keep a.size fun i hi hl => a.block i hl (by simpa using hi)⟩
structure RRowPost (w : World) (cb : Nat) (L : Lo.Lp) (M inp : List Int) (e : Ending) (w' : World) : Prop where
  out : ∃ v, e = .returned v ∧ LB w' cb (Lo.row L M inp) ∧ OwnL kLong w.heap.size w' v (Lo.told L (Lo.row L M inp)) ∧ Aside [cb] w.heap.size w w'
end Go.Proofs.YtbiomnnlpafciaaDoor
