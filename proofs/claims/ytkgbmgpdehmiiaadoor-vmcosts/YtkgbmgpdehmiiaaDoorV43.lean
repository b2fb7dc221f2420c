import Derived.Test.YtkgbmgpdehmiiaaDoorV28
import Derived.WalkKit
import Derived.WalkSpells
import Derived.IntWalk
import Derived.Deep.Cut
import Derived.Deep.LoopGhost
import Derived.Laws.Cover1
import Derived.Lib.Hide
set_option linter.unusedVariables false
set_option linter.unusedSimpArgs false
set_option maxHeartbeats 64000000
set_option maxRecDepth 100000
namespace Go.Proofs.YtkgbmgpdehmiiaaDoor
open Go.RowKit Go.IntWalk
set_option linter.unusedVariables false
set_option linter.unusedSimpArgs false
namespace Em
open Lo Cd
/-- cells with Z behind them -/
def St.beh (s : St) (Z : List Int) : St := ⟨s.R, s.M ++ Z⟩
theorem rd_beh {M Z : List Int} {i : Int} (h0 : 0 ≤ i) (h : i < (M.length : Int)) : rd (M ++ Z) i = rd M i := by
  unfold rd
  rw [List.getD_eq_getElem?_getD, List.getD_eq_getElem?_getD, List.getElem?_append_left (by omega)]
theorem set_beh {M Z : List Int} {i : Nat} (h : i < M.length) (v : Int) : (M ++ Z).set i v = M.set i v ++ Z := by
  rw [List.set_append_left _ _ h]
theorem has_in {c v n : Int} (h : (!Cd.has c v n) = false) : 0 ≤ v ∧ v + n ≤ c := by
  have h2 : Cd.has c v n = true := by simpa using h
  unfold Cd.has at h2
  rw [Bool.and_eq_true, decide_eq_true_iff, decide_eq_true_iff] at h2
  omega
/-- an instruction knows nothing of what is behind the cells -/
theorem one_beh {x : In} {s : St} {Z : List Int} {R : Int} (hR : Rs (s.M.length : Int) R x) : one x (s.beh Z) = (one x s).map (fun q => q.beh Z) := by
  have hb := hR.ok
  obtain ⟨op, kk, r, a, b, n⟩ := x
  obtain ⟨f, M⟩ := s
  unfold Cd.bars at hb
  show one ⟨op, kk, r, a, b, n⟩ ⟨f, M ++ Z⟩ = (one ⟨op, kk, r, a, b, n⟩ ⟨f, M⟩).map (fun q => q.beh Z)
  unfold one
  dsimp only at hb ⊢
  by_cases o1 : op = 1
  · rw [if_pos o1, if_pos o1]; rfl
  rw [if_neg o1, if_neg o1]
  by_cases o2 : op = 2
  · subst o2
    rw [if_neg (by decide), if_pos (by decide), Bool.or_eq_false_iff] at hb
    have h2 := has_in hb.2
    rw [if_pos rfl, if_pos rfl, rd_beh h2.1 (by omega)]; rfl
  rw [if_neg o2, if_neg o2]
  by_cases o4 : op = 4
  · subst o4
    rw [if_neg (by decide), if_pos (by decide), Bool.or_eq_false_iff] at hb
    have h2 := has_in hb.2
    rw [if_pos rfl, if_pos rfl, set_beh (by omega)]; rfl
  rw [if_neg o4, if_neg o4]
  by_cases o3 : op = 3
  · subst o3
    rw [if_neg (by decide), if_neg (by decide), if_pos (by decide), Bool.or_eq_false_iff] at hb
    have h2 := has_in hb.2
    rw [if_pos rfl, if_pos rfl]
    by_cases hc : f a < 0 ∨ b ≤ f a
    · rw [if_pos hc, if_pos hc]; rfl
    · rw [if_neg hc, if_neg hc, rd_beh (by omega) (by omega)]; rfl
  rw [if_neg o3, if_neg o3]
  by_cases o5 : op = 5
  · subst o5
    rw [if_neg (by decide), if_neg (by decide), if_pos (by decide), Bool.or_eq_false_iff] at hb
    have h2 := has_in hb.2
    rw [if_pos rfl, if_pos rfl]
    by_cases hc : f a < 0 ∨ b ≤ f a
    · rw [if_pos hc, if_pos hc]; rfl
    · rw [if_neg hc, if_neg hc, set_beh (by omega)]; rfl
  rw [if_neg o5, if_neg o5]
  by_cases o6 : op = 6
  · rw [if_pos o6, if_pos o6]; rfl
  rw [if_neg o6, if_neg o6]
  by_cases o7 : op = 7
  · rw [if_pos o7, if_pos o7]; rfl
  rw [if_neg o7, if_neg o7]
  by_cases o8 : op = 8
  · rw [if_pos o8, if_pos o8]; rfl
  rw [if_neg o8, if_neg o8]
  by_cases o9 : op = 9
  · rw [if_pos o9, if_pos o9]; rfl
  rw [if_neg o9, if_neg o9]; rfl
/-- an instruction leaves so many cells as there were -/
theorem one_len {x : In} {s s' : St} (h : one x s = some s') : s'.M.length = s.M.length := by
  unfold one at h
  repeat' split at h
  all_goals first
    | (injection h with h; subst h; first | rfl | exact List.length_set ..)
    | cases h
def Res.beh (r : Res) (Z : List Int) : Res := ⟨r.s.beh Z, r.st, r.p⟩
theorem runF_len : ∀ (l : List In) (i : Nat) (s : St) (st : Int), (runF l i s st).s.M.length = s.M.length
  | [], _, _, _ => rfl
  | x :: l, i, s, st => by
    rcases h : one x s with _ | s'
    · rw [runF_none h]
    · rw [runF_some h, runF_len l, one_len h]
theorem runF_beh {c R : Int} {Z : List Int} : ∀ (l : List In) (i : Nat) (s : St) (st : Int), (∀ x ∈ l, Rs c R x) → (s.M.length : Int) = c → runF l i (s.beh Z) st = (runF l i s st).beh Z
  | [], _, _, _, _, _ => rfl
  | x :: l, i, s, st, hR, hc => by
    have e := one_beh (Z := Z) (s := s) (x := x) (R := R) (by rw [hc]; exact hR x (by simp))
    rcases h : one x s with _ | s'
    · rw [h] at e
      rw [runF_none h, runF_none e]
      rfl
    · rw [h] at e
      rw [runF_some h, runF_some e]
      exact runF_beh l _ _ _ (fun y hy => hR y (by simp [hy])) (by rw [one_len h]; exact hc)
theorem loopF_len (r : Int) (b : List In) (i : Nat) : ∀ (n : Nat) (k : Int) (s : St) (st : Int), (loopF r b i n k s st).s.M.length = s.M.length
  | 0, _, _, _ => rfl
  | n + 1, k, s, st => by
    have e := runF_len b i ⟨upd s.R r k, s.M⟩ st
    rw [loopF]
    split
    · rw [loopF_len r b i n, e]
    · exact e
theorem loopF_beh {c R : Int} {Z : List Int} (r : Int) (b : List In) (i : Nat) (hR : ∀ x ∈ b, Rs c R x) : ∀ (n : Nat) (k : Int) (s : St) (st : Int), (s.M.length : Int) = c → loopF r b i n k (s.beh Z) st = (loopF r b i n k s st).beh Z
  | 0, _, _, _, _ => rfl
  | n + 1, k, s, st, hc => by
    have e : runF b i ⟨upd (s.beh Z).R r k, (s.beh Z).M⟩ st = (runF b i ⟨upd s.R r k, s.M⟩ st).beh Z := runF_beh b i ⟨upd s.R r k, s.M⟩ st hR hc
    have e2 := runF_len b i ⟨upd s.R r k, s.M⟩ st
    rw [loopF, loopF, e]
    generalize runF b i ⟨upd s.R r k, s.M⟩ st = q at e2 ⊢
    by_cases hp : q.p < 0
    · rw [if_pos hp, if_pos (show (q.beh Z).p < 0 from hp)]
      exact loopF_beh r b i hR n _ _ _ (by rw [e2]; exact hc)
    · rw [if_neg hp, if_neg (show ¬ (q.beh Z).p < 0 from hp)]
theorem cutEnd_sub : ∀ (l : List In) (y : In), (y ∈ (cutEnd l).1 → y ∈ l) ∧ (y ∈ (cutEnd l).2 → y ∈ l)
  | [], y => by simp [cutEnd]
  | x :: l, y => by
    have h := cutEnd_sub l y
    unfold cutEnd
    split
    · exact ⟨fun h => (by cases h), fun h => List.mem_cons_of_mem _ h⟩
    · refine ⟨fun h1 => ?_, fun h1 => List.mem_cons_of_mem _ (h.2 h1)⟩
      rcases List.mem_cons.1 h1 with h2 | h2
      · rw [h2]; exact List.mem_cons_self ..
      · exact List.mem_cons_of_mem _ (h.1 h2)
theorem allF_both {c R : Int} {Z : List Int} : ∀ (l : List In) (i : Nat) (s : St) (st : Int), (∀ x ∈ l, Rs c R x) → (s.M.length : Int) = c → allF l i (s.beh Z) st = (allF l i s st).beh Z ∧ (allF l i s st).s.M.length = s.M.length
  | [], i, s, st, _, _ => by rw [allF_nil, allF_nil]; exact ⟨rfl, rfl⟩
  | x :: l, i, s, st, hR, hc => by
    by_cases h10 : x.op = 10
    · have e := loopF_beh (Z := Z) x.r (cutEnd l).1 (i + 1) (c := c) (R := R) (fun y hy => hR y (List.mem_cons_of_mem _ ((cutEnd_sub l y).1 hy))) x.n.toNat 0 s (wrap64 (st + 1)) hc
      have e2 := loopF_len x.r (cutEnd l).1 (i + 1) x.n.toNat 0 s (wrap64 (st + 1))
      rw [allF, if_pos h10, allF, if_pos h10, e]
      generalize loopF x.r (cutEnd l).1 (i + 1) x.n.toNat 0 s (wrap64 (st + 1)) = q at e2 ⊢
      by_cases hp : q.p < 0
      · rw [if_pos hp, if_pos (show (q.beh Z).p < 0 from hp)]
        have h := allF_both (c := c) (R := R) (Z := Z) (cutEnd l).2 (i + (cutEnd l).1.length + 2) q.s q.st (fun y hy => hR y (List.mem_cons_of_mem _ ((cutEnd_sub l y).2 hy))) (by rw [e2]; exact hc)
        exact ⟨h.1, h.2.trans e2⟩
      · rw [if_neg hp, if_neg (show ¬ (q.beh Z).p < 0 from hp)]
        exact ⟨rfl, e2⟩
    · have e := one_beh (Z := Z) (s := s) (x := x) (R := R) (by rw [hc]; exact hR x (by simp))
      rcases h : one x s with _ | s'
      · rw [h] at e
        rw [allF_none h10 h, allF_none h10 e]
        exact ⟨rfl, rfl⟩
      · rw [h] at e
        have e1 := one_len h
        rw [allF_some h10 h, allF_some h10 e]
        have h2 := allF_both (c := c) (R := R) (Z := Z) l (i + 1) s' (wrap64 (st + 1)) (fun y hy => hR y (by simp [hy])) (by rw [e1]; exact hc)
        exact ⟨h2.1, h2.2.trans e1⟩
termination_by l => l.length
decreasing_by
  · have := cutEnd_len l
    simp
    omega
  · simp
end Em
end Go.Proofs.YtkgbmgpdehmiiaaDoor
