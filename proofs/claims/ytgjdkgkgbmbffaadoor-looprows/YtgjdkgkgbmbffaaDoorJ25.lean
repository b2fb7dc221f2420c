import Derived.Test.YtgjdkgkgbmbffaaDoorJ24
import Derived.Test.YtgjdkgkgbmbffaaDoorJ22
import Derived.WalkKit
import Derived.WalkSpells
import Derived.IntWalk
import Derived.Deep.Cut
import Derived.Deep.LoopGhost
import Derived.Laws.Cover1
import Derived.Lib.Hide
set_option linter.unusedVariables false
set_option linter.unusedSimpArgs false
set_option maxHeartbeats 64000000
set_option maxRecDepth 100000
namespace Go.Proofs.YtgjdkgkgbmbffaaDoor
open Go.RowKit Go.IntWalk
set_option linter.unusedVariables false
set_option linter.unusedSimpArgs false
theorem Lo.stk_pos {M : List Int} {k : Int} {E : List Pu} {q : Nat} (h : 0 < (Lo.stk M k E q).length) : 0 < q := by
  cases q with
  | zero => rw [Lo.stk_zero] at h; simp at h
  | succ => omega
theorem Lo.Part.len {M : List Int} {k : Int} {E : List Pu} {i j : Nat} {v : Int} (h : Lo.Part M k E i v j) : (Lo.stk M k E i).length = (Lo.stk M k E j).length + 1 := by rw [h.2]; simp
theorem Lo.push_ops {c n : Int} {op pk pv pn : Int} (h : Lo.pushOK c n ⟨op, pk, pv, pn⟩ = true) : op = 1 ∨ op = 2 ∨ op = 3 ∨ op = 4 ∨ op = 5 ∨ op = 6 ∨ op = 7 ∨ op = 8 := by
  by_cases hc : op = 1 ∨ op = 2 ∨ op = 3 ∨ op = 4 ∨ op = 5 ∨ op = 6 ∨ op = 7 ∨ op = 8
  · exact hc
  · exfalso
    unfold Lo.pushOK at h
    dsimp only at h
    rw [if_neg (by omega), if_neg (by omega), if_neg (by omega), if_neg (by omega), if_neg (by omega), if_neg (by omega), if_neg (by omega)] at h
    cases h
theorem part49_any {w : World} {mb : Nat} {c : Int} {vP vG vS : Value} {aC : Option Addr} {nC cC : Nat} {okC okE : Nat → Prop} {M : List Int} {E : List Pu} {aE : Option Addr} {cE k : Nat} (hm : w.heap[mb]? = some (.cells #[.int .i64 c, vP, vG, vS, .slice aC nC cC] 47 (0, 0))) (hC : HInts okC w (.slice aC nC cC) M) (hE : HPu okE w (.slice aE E.length cE) E) {n0 : Int} (hf : Lo.Fit c n0 E) (hML : (M.length : Int) = c) (hk : (k : Int) < n0) (hM : Lo.Wd M) (hPW : Lo.PW E) :
    ∀ i, i < E.length → ∀ W, Below w.heap.size w W → Calls Tryd.prog 49 #[.pointer (some ⟨mb, 0, none⟩), .slice aE E.length cE, .int .i64 (i : Int), .int .i64 (k : Int)] W (PartPost M k E (i + 1) W) := by
  intro i
  induction i using Nat.strongRecOn with
  | _ i IH =>
    intro hi W bW
    have hm1 := (bW.block _ (lt_of hm)).trans hm
    have hC1 := hC.under bW
    have hE1 := hE.under bW
    have hlen := hf.len
    have IHc : ∀ q, 0 < (Lo.stk M k E q).length → q ≤ i → ∀ V, Below W.heap.size W V → Calls Tryd.prog 49 #[.pointer (some ⟨mb, 0, none⟩), .slice aE E.length cE, .int .i64 ((q : Int) - 1), .int .i64 (k : Int)] V (PartPost M k E q V) := fun q h0 hq V bV => by
      have h1 := Lo.stk_pos h0
      obtain ⟨r, rfl⟩ : ∃ r, q = r + 1 := ⟨q - 1, by omega⟩
      have h2 := IH r (by omega) (by omega) V (bW.trans (bV.mono bW.size))
      have e : ((r + 1 : Nat) : Int) - 1 = (r : Int) := by omega
      rw [e]
      exact h2
    obtain ⟨f1, f2, -⟩ := hf.at' M k i hi
    obtain ⟨p, hp⟩ : ∃ p, E[i] = p := ⟨_, rfl⟩
    rw [hp] at f1 f2
    obtain ⟨op, pk, pv, pn⟩ := p
    have hops := Lo.push_ops f2
    have L2 : 2 ≤ (Lo.stk M k E i).length → ∀ (b : Int) (m : Nat), Lo.Part M k E i b m → ∀ V, Below W.heap.size W V → Calls Tryd.prog 49 #[.pointer (some ⟨mb, 0, none⟩), .slice aE E.length cE, .int .i64 ((m : Int) - 1), .int .i64 (k : Int)] V (PartPost M k E m V) := fun h2 b m h V bV =>
      IHc m (by have := h.len; omega) h.lt V bV
    rcases hops with rfl | rfl | rfl | rfl | rfl | rfl | rfl | rfl
    · refine (partL1_any (c := c) (vP := vP) (vG := vG) (vS := vS) (aC := aC) (nC := nC) (cC := cC) (okC := okC) (M := M) hE1 hi hlen hp).mono ?_
      rintro e w' ⟨rfl, b⟩
      have h0 := Lo.part_0 (M := M) (k := k) hi (by rw [hp]; rfl)
      rw [hp] at h0
      exact ⟨_, _, rfl, h0, b⟩
    · simp [Lo.pushOK, Lo.hasN] at f2
      obtain ⟨v, rfl⟩ : ∃ v : Nat, pv = (v : Int) := ⟨pv.toNat, by omega⟩
      refine (partL2_any hm1 hC1 hE1 hi hlen hp (by omega)).mono ?_
      rintro e w' ⟨rfl, b⟩
      have h0 := Lo.part_0 (M := M) (k := k) hi (by rw [hp]; rfl)
      rw [hp] at h0
      exact ⟨_, _, rfl, h0, b⟩
    · simp [Lo.pushOK, Lo.hasN] at f2
      obtain ⟨v, rfl⟩ : ∃ v : Nat, pv = (v : Int) := ⟨pv.toNat, by omega⟩
      refine (partL3_any hm1 hC1 hE1 hi hlen hp (by omega)).mono ?_
      rintro e w' ⟨rfl, b⟩
      have h0 := Lo.part_0 (M := M) (k := k) hi (by rw [hp]; rfl)
      rw [hp] at h0
      exact ⟨_, _, rfl, h0, b⟩
    · refine (partL4_any (c := c) (vP := vP) (vG := vG) (vS := vS) (aC := aC) (nC := nC) (cC := cC) (okC := okC) (M := M) hE1 hi hlen hp).mono ?_
      rintro e w' ⟨rfl, b⟩
      have h0 := Lo.part_0 (M := M) (k := k) hi (by rw [hp]; rfl)
      rw [hp] at h0
      exact ⟨_, _, rfl, h0, b⟩
    · exact partU_any (c := c) (vP := vP) (vG := vG) (vS := vS) (aC := aC) (nC := nC) (cC := cC) (okC := okC) hE1 hi hlen hM hPW hp (IHc i (by simp [Lo.tk] at f1; omega) (Nat.le_refl _))
    · have h2 : 2 ≤ (Lo.stk M k E i).length := by simp [Lo.tk] at f1; omega
      exact partB_any (c := c) (vP := vP) (vG := vG) (vS := vS) (aC := aC) (nC := nC) (cC := cC) (okC := okC) hE1 hi hlen hM hPW hp (IHc i (by omega) (Nat.le_refl _)) (L2 h2)
    · have h3 : 3 ≤ (Lo.stk M k E i).length := by simp [Lo.tk] at f1; omega
      exact partS_any (c := c) (vP := vP) (vG := vG) (vS := vS) (aC := aC) (nC := nC) (cC := cC) (okC := okC) hE1 hi hlen hM hPW hp (IHc i (by omega) (Nat.le_refl _)) (L2 (by omega)) fun b m a q h1 h2 V bV => IHc q (by have := h1.len; have := h2.len; omega) (Nat.le_trans h2.lt h1.lt) V bV
    · have h2 : 2 ≤ (Lo.stk M k E i).length := by simp [Lo.tk] at f1; omega
      simp [Lo.pushOK, Lo.hasN] at f2
      obtain ⟨v, rfl⟩ : ∃ v : Nat, pv = (v : Int) := ⟨pv.toNat, by omega⟩
      obtain ⟨n, rfl⟩ : ∃ n : Nat, pn = (n : Int) := ⟨pn.toNat, by omega⟩
      exact partA_any hm1 hC1 hE1 hi hlen hM hPW hp (by omega) (by omega) (IHc i (by omega) (Nat.le_refl _)) (L2 h2)
set_option maxHeartbeats 8000000 in
theorem tree30_any {w : World} {mb : Nat} {c : Int} {vP vG vS : Value} {aC : Option Addr} {nC cC : Nat} {okC okE : Nat → Prop} {M : List Int} {E : List Pu} {aE : Option Addr} {cE k : Nat} (hm : w.heap[mb]? = some (.cells #[.int .i64 c, vP, vG, vS, .slice aC nC cC] 47 (0, 0))) (hC : HInts okC w (.slice aC nC cC) M) (hE : HPu okE w (.slice aE E.length cE) E) {n0 : Int} (hf : Lo.Fit c n0 E) (hML : (M.length : Int) = c) (hk : (k : Int) < n0) (hM : Lo.Wd M) (hPW : Lo.PW E) :
    Calls Tryd.prog 30 #[.pointer (some ⟨mb, 0, none⟩), .slice aE E.length cE, .int .i64 (k : Int)] w fun e w' => e = .returned (.int .i64 (Lo.tree M (k : Int) E)) ∧ Below w.heap.size w w' := by
  have hp0 := hf.pos
  have hl := hf.len
  have HC := hide (show Calls Tryd.prog 49 #[.pointer (some ⟨mb, 0, none⟩), .slice aE E.length cE, .int .i64 ((E.length : Int) - 1), .int .i64 (k : Int)] w (PartPost M k E E.length w) by
    obtain ⟨r, hr⟩ : ∃ r, E.length = r + 1 := ⟨E.length - 1, by omega⟩
    have h2 := part49_any hm hC hE hf hML hk hM hPW r (by omega) w (Below.refl _ _)
    have e : (E.length : Int) - 1 = (r : Int) := by omega
    rw [e]
    rw [← hr] at h2
    exact h2)
  have HT := hide (fun (v : Int) (j : Nat) (h : Lo.Part M k E E.length v j) => h.tree hf)
  clear hm hC hE hf hML hk hM hPW
  generalize Lo.tree M (k : Int) E = R at HT ⊢
  obtain ⟨ne, hne⟩ : ∃ ne, ne = E.length := ⟨_, rfl⟩
  rw [← hne] at HC HT hp0 hl ⊢
  clear hne
  go_enter Tryd.func30, Tryd.ntmps30
  go_wp2_with fail
  refine HC.out.mono ?_
  rintro e w1 ⟨v, j, rfl, hP, b1⟩
  have hv := HT.out v j hP
  subst hv
  clear hP HT HC
  go_wp2
  go_ret
  exact ⟨rfl, b1⟩
end Go.Proofs.YtgjdkgkgbmbffaaDoor
