import Derived.Test.YtkgbmgpdehmiiaaDoorY23
import Derived.WalkKit
import Derived.IntWalk
set_option linter.unusedVariables false
set_option linter.unusedSimpArgs false
set_option maxHeartbeats 64000000
set_option maxRecDepth 100000
namespace Go.Proofs.YtkgbmgpdehmiiaaDoor
open Go.RowKit Go.IntWalk
set_option linter.unusedVariables false
set_option linter.unusedSimpArgs false
namespace Em
open Lo Cd
/-- cells with Z behind them -/
def St.beh (s : St) (Z : List Int) : St := ⟨s.R, s.M ++ Z⟩
theorem rd_beh {M Z : List Int} {i : Int} (h0 : 0 ≤ i) (h : i < (M.length : Int)) : rd (M ++ Z) i = rd M i := by
  unfold rd
  rw [List.getD_eq_getElem?_getD, List.getD_eq_getElem?_getD, List.getElem?_append_left (by omega)]
theorem set_beh {M Z : List Int} {i : Nat} (h : i < M.length) (v : Int) : (M ++ Z).set i v = M.set i v ++ Z := by
  rw [List.set_append_left _ _ h]
theorem has_in {c v n : Int} (h : (!Cd.has c v n) = false) : 0 ≤ v ∧ v + n ≤ c := by
  have h2 : Cd.has c v n = true := by simpa using h
  unfold Cd.has at h2
  rw [Bool.and_eq_true, decide_eq_true_iff, decide_eq_true_iff] at h2
  omega
/-- an instruction knows nothing of what is behind the cells -/
theorem one_beh {x : In} {s : St} {Z : List Int} {R : Int} (hR : Rs (s.M.length : Int) R x) : one x (s.beh Z) = (one x s).map (fun q => q.beh Z) := by
  have hb := hR.ok
  obtain ⟨op, kk, r, a, b, n⟩ := x
  obtain ⟨f, M⟩ := s
  unfold Cd.bars at hb
  show one ⟨op, kk, r, a, b, n⟩ ⟨f, M ++ Z⟩ = (one ⟨op, kk, r, a, b, n⟩ ⟨f, M⟩).map (fun q => q.beh Z)
  unfold one
  dsimp only at hb ⊢
  by_cases o1 : op = 1
  · rw [if_pos o1, if_pos o1]; rfl
  rw [if_neg o1, if_neg o1]
  by_cases o2 : op = 2
  · subst o2
    rw [if_neg (by decide), if_pos (by decide), Bool.or_eq_false_iff] at hb
    have h2 := has_in hb.2
    rw [if_pos rfl, if_pos rfl, rd_beh h2.1 (by omega)]; rfl
  rw [if_neg o2, if_neg o2]
  by_cases o4 : op = 4
  · subst o4
    rw [if_neg (by decide), if_pos (by decide), Bool.or_eq_false_iff] at hb
    have h2 := has_in hb.2
    rw [if_pos rfl, if_pos rfl, set_beh (by omega)]; rfl
  rw [if_neg o4, if_neg o4]
  by_cases o3 : op = 3
  · subst o3
    rw [if_neg (by decide), if_neg (by decide), if_pos (by decide), Bool.or_eq_false_iff] at hb
    have h2 := has_in hb.2
    rw [if_pos rfl, if_pos rfl]
    by_cases hc : f a < 0 ∨ b ≤ f a
    · rw [if_pos hc, if_pos hc]; rfl
    · rw [if_neg hc, if_neg hc, rd_beh (by omega) (by omega)]; rfl
  rw [if_neg o3, if_neg o3]
  by_cases o5 : op = 5
  · subst o5
    rw [if_neg (by decide), if_neg (by decide), if_pos (by decide), Bool.or_eq_false_iff] at hb
    have h2 := has_in hb.2
    rw [if_pos rfl, if_pos rfl]
    by_cases hc : f a < 0 ∨ b ≤ f a
    · rw [if_pos hc, if_pos hc]; rfl
    · rw [if_neg hc, if_neg hc, set_beh (by omega)]; rfl
  rw [if_neg o5, if_neg o5]
  by_cases o6 : op = 6
  · rw [if_pos o6, if_pos o6]; rfl
  rw [if_neg o6, if_neg o6]
  by_cases o7 : op = 7
  · rw [if_pos o7, if_pos o7]; rfl
  rw [if_neg o7, if_neg o7]
  by_cases o8 : op = 8
  · rw [if_pos o8, if_pos o8]; rfl
  rw [if_neg o8, if_neg o8]
  by_cases o9 : op = 9
  · rw [if_pos o9, if_pos o9]; rfl
  rw [if_neg o9, if_neg o9]; rfl
/-- an instruction leaves so many cells as there were -/
theorem one_len {x : In} {s s' : St} (h : one x s = some s') : s'.M.length = s.M.length := by
  unfold one at h
  repeat' split at h
  all_goals first
    | (injection h with h; subst h; first | rfl | exact List.length_set ..)
    | cases h
def Res.beh (r : Res) (Z : List Int) : Res := ⟨r.s.beh Z, r.st, r.p⟩
theorem runF_len : ∀ (l : List In) (i : Nat) (s : St) (st : Int), (runF l i s st).s.M.length = s.M.length
  | [], _, _, _ => rfl
  | x :: l, i, s, st => by
    rcases h : one x s with _ | s'
    · rw [runF_none h]
    · rw [runF_some h, runF_len l, one_len h]
theorem runF_beh {c R : Int} {Z : List Int} : ∀ (l : List In) (i : Nat) (s : St) (st : Int), (∀ x ∈ l, Rs c R x) → (s.M.length : Int) = c → runF l i (s.beh Z) st = (runF l i s st).beh Z
  | [], _, _, _, _, _ => rfl
  | x :: l, i, s, st, hR, hc => by
    have e := one_beh (Z := Z) (s := s) (x := x) (R := R) (by rw [hc]; exact hR x (by simp))
    rcases h : one x s with _ | s'
    · rw [h] at e
      rw [runF_none h, runF_none e]
      rfl
    · rw [h] at e
      rw [runF_some h, runF_some e]
      exact runF_beh l _ _ _ (fun y hy => hR y (by simp [hy])) (by rw [one_len h]; exact hc)
theorem loopF_len (r : Int) (b : List In) (i : Nat) : ∀ (n : Nat) (k : Int) (s : St) (st : Int), (loopF r b i n k s st).s.M.length = s.M.length
  | 0, _, _, _ => rfl
  | n + 1, k, s, st => by
    have e := runF_len b i ⟨upd s.R r k, s.M⟩ st
    rw [loopF]
    split
    · rw [loopF_len r b i n, e]
    · exact e
theorem loopF_beh {c R : Int} {Z : List Int} (r : Int) (b : List In) (i : Nat) (hR : ∀ x ∈ b, Rs c R x) : ∀ (n : Nat) (k : Int) (s : St) (st : Int), (s.M.length : Int) = c → loopF r b i n k (s.beh Z) st = (loopF r b i n k s st).beh Z
  | 0, _, _, _, _ => rfl
  | n + 1, k, s, st, hc => by
    have e : runF b i ⟨upd (s.beh Z).R r k, (s.beh Z).M⟩ st = (runF b i ⟨upd s.R r k, s.M⟩ st).beh Z := runF_beh b i ⟨upd s.R r k, s.M⟩ st hR hc
    have e2 := runF_len b i ⟨upd s.R r k, s.M⟩ st
    rw [loopF, loopF, e]
    generalize runF b i ⟨upd s.R r k, s.M⟩ st = q at e2 ⊢
    by_cases hp : q.p < 0
    · rw [if_pos hp, if_pos (show (q.beh Z).p < 0 from hp)]
      exact loopF_beh r b i hR n _ _ _ (by rw [e2]; exact hc)
    · rw [if_neg hp, if_neg (show ¬ (q.beh Z).p < 0 from hp)]
theorem cutEnd_sub : ∀ (l : List In) (y : In), (y ∈ (cutEnd l).1 → y ∈ l) ∧ (y ∈ (cutEnd l).2 → y ∈ l)
  | [], y => by simp [cutEnd]
  | x :: l, y => by
    have h := cutEnd_sub l y
    unfold cutEnd
    split
    · exact ⟨fun h => (by cases h), fun h => List.mem_cons_of_mem _ h⟩
    · refine ⟨fun h1 => ?_, fun h1 => List.mem_cons_of_mem _ (h.2 h1)⟩
      rcases List.mem_cons.1 h1 with h2 | h2
      · rw [h2]; exact List.mem_cons_self ..
      · exact List.mem_cons_of_mem _ (h.1 h2)
theorem allF_both {c R : Int} {Z : List Int} : ∀ (l : List In) (i : Nat) (s : St) (st : Int), (∀ x ∈ l, Rs c R x) → (s.M.length : Int) = c → allF l i (s.beh Z) st = (allF l i s st).beh Z ∧ (allF l i s st).s.M.length = s.M.length
  | [], i, s, st, _, _ => by rw [allF_nil, allF_nil]; exact ⟨rfl, rfl⟩
  | x :: l, i, s, st, hR, hc => by
    by_cases h10 : x.op = 10
    · have e := loopF_beh (Z := Z) x.r (cutEnd l).1 (i + 1) (c := c) (R := R) (fun y hy => hR y (List.mem_cons_of_mem _ ((cutEnd_sub l y).1 hy))) x.n.toNat 0 s (wrap64 (st + 1)) hc
      have e2 := loopF_len x.r (cutEnd l).1 (i + 1) x.n.toNat 0 s (wrap64 (st + 1))
      rw [allF, if_pos h10, allF, if_pos h10, e]
      generalize loopF x.r (cutEnd l).1 (i + 1) x.n.toNat 0 s (wrap64 (st + 1)) = q at e2 ⊢
      by_cases hp : q.p < 0
      · rw [if_pos hp, if_pos (show (q.beh Z).p < 0 from hp)]
        have h := allF_both (c := c) (R := R) (Z := Z) (cutEnd l).2 (i + (cutEnd l).1.length + 2) q.s q.st (fun y hy => hR y (List.mem_cons_of_mem _ ((cutEnd_sub l y).2 hy))) (by rw [e2]; exact hc)
        exact ⟨h.1, h.2.trans e2⟩
      · rw [if_neg hp, if_neg (show ¬ (q.beh Z).p < 0 from hp)]
        exact ⟨rfl, e2⟩
    · have e := one_beh (Z := Z) (s := s) (x := x) (R := R) (by rw [hc]; exact hR x (by simp))
      rcases h : one x s with _ | s'
      · rw [h] at e
        rw [allF_none h10 h, allF_none h10 e]
        exact ⟨rfl, rfl⟩
      · rw [h] at e
        have e1 := one_len h
        rw [allF_some h10 h, allF_some h10 e]
        have h2 := allF_both (c := c) (R := R) (Z := Z) l (i + 1) s' (wrap64 (st + 1)) (fun y hy => hR y (by simp [hy])) (by rw [e1]; exact hc)
        exact ⟨h2.1, h2.2.trans e1⟩
termination_by l => l.length
decreasing_by
  · have := cutEnd_len l
    simp
    omega
  · simp
end Em
end Go.Proofs.YtkgbmgpdehmiiaaDoor
namespace Go.Proofs.YtkgbmgpdehmiiaaDoor
open Go.RowKit Go.IntWalk
set_option linter.unusedVariables false
set_option linter.unusedSimpArgs false
/-- what holds of an image that may be run -/
theorem Cd.good_of {m : Cd.Im} (h : (Cd.fault m).1 = 0) : (1 ≤ m.c ∧ m.c ≤ 6000 ∧ 1 ≤ m.R ∧ m.R ≤ 40) ∧ (m.P.length ≤ 6000 ∧ m.B.length ≤ 6000 ∧ m.G.length ≤ 120000 ∧ m.l.length ≤ 200000) ∧ (∀ x ∈ m.P, 0 ≤ x ∧ x < m.c) ∧ (∀ x ∈ m.B, 0 ≤ x ∧ x < m.c) ∧ (∀ x ∈ m.G, 0 ≤ x ∧ x < m.c) ∧ (∀ i ∈ m.l, Cd.bars m.c m.R i = false) ∧ m.cost = Cd.cost 10 11 m.l ∧ Cd.go 10 11 none m.l ≠ none := by
  unfold Cd.fault at h
  split at h
  · exact absurd h (by decide)
  · rename_i h1
    split at h
    · exact absurd h (by decide)
    · rename_i h2
      split at h
      · exact absurd h (by decide)
      · rename_i h3
        split at h
        · exact absurd h (by simp)
        · rename_i h4
          split at h
          · exact absurd h (by decide)
          · rename_i h5
            have h6 : ∀ z ∈ [m.P, m.B, m.G], ∀ x ∈ z, 0 ≤ x ∧ x < m.c := by
              intro z hz x hx
              have h7 : ([m.P, m.B, m.G].any fun z => z.any fun x => !Cd.has m.c x 1) = false := by simpa using h3
              have h8 := List.any_eq_false.1 h7 z hz
              have h9 := List.any_eq_false.1 (by simpa using h8 : (z.any fun x => !Cd.has m.c x 1) = false) x hx
              have h10 : Cd.has m.c x 1 = true := by simpa using h9
              unfold Cd.has at h10
              simp at h10
              omega
            have h11 : m.l.any (Cd.bars m.c m.R) = false := by
              have := (Cd.idx_neg (Cd.bars m.c m.R) m.l 0).1
              cases hb : m.l.any (Cd.bars m.c m.R) with
              | false => rfl
              | true => exact absurd (this.2 hb) h4
            have h12 : m.cost = Cd.cost 10 11 m.l := by
              by_cases he : m.cost = Cd.cost 10 11 m.l
              · exact he
              · exact absurd (.inl he) h5
            refine ⟨by omega, by omega, h6 _ (by simp), h6 _ (by simp), h6 _ (by simp), fun i hi => ?_, h12, fun hg => ?_⟩
            · have := List.any_eq_false.1 h11 i hi
              simpa using this
            · apply h5
              have h13 : Cd.cost 10 11 m.l = 0 := by unfold Cd.cost; rw [hg]; rfl
              refine .inr ⟨h13, ?_⟩
              cases hl : m.l with
              | nil =>
                rw [hl] at hg
                exact absurd hg (by unfold Cd.go; simp)
              | cons x r => simp
namespace Em
open Lo Cd
theorem w64_add (a b : Int) : wrap64 (wrap64 a + b) = wrap64 (a + b) := by
  unfold wrap64
  omega
theorem runF_steps : ∀ (l : List In) (i : Nat) (s : St) (st : Int), I64 st → (runF l i s st).p < 0 → (runF l i s st).st = wrap64 (st + (l.length : Int))
  | [], i, s, st, h, _ => by
    show st = wrap64 (st + ((0 : Nat) : Int))
    rw [w64_in (by simpa using h)]
    simp
  | x :: l, i, s, st, h, hp => by
    rcases h1 : one x s with _ | s'
    · rw [runF_none h1] at hp
      exact absurd hp (by show ¬ ((i : Int) < 0); omega)
    · rw [runF_some h1] at hp ⊢
      rw [runF_steps l (i + 1) s' (wrap64 (st + 1)) (w64_I64 _) hp, w64_add]
      congr 1
      simp
      omega
theorem loopF_steps (r : Int) (b : List In) (i : Nat) : ∀ (n : Nat) (k : Int) (s : St) (st : Int), I64 st → (loopF r b i n k s st).p < 0 → (loopF r b i n k s st).st = wrap64 (st + (n : Int) * ((b.length : Int) + 1))
  | 0, k, s, st, h, _ => by
    show st = wrap64 (st + ((0 : Nat) : Int) * _)
    rw [w64_in (by simpa using h)]
    simp
  | n + 1, k, s, st, h, hp => by
    rw [loopF] at hp ⊢
    by_cases hq : (runF b i ⟨upd s.R r k, s.M⟩ st).p < 0
    · rw [if_pos hq] at hp ⊢
      rw [loopF_steps r b i n (k + 1) _ _ (w64_I64 _) hp, w64_add, runF_steps b i _ st h hq, Int.add_assoc, w64_add]
      congr 1
      rw [show ((n + 1 : Nat) : Int) = (n : Int) + 1 by omega, Int.add_mul]
      omega
    · rw [if_neg hq] at hp
      exact absurd hp hq
theorem allF_steps : ∀ (l : List In) (i : Nat) (s : St) (st z : Int), I64 st → Cd.go 10 11 none l = some z → (allF l i s st).p < 0 → (allF l i s st).st = wrap64 (st + z)
  | [], i, s, st, z, h, hg, _ => by
    rw [allF_nil]
    unfold Cd.go at hg
    injection hg with hg
    subst hg
    rw [w64_in (by simpa using h)]
    simp
  | x :: l, i, s, st, z, h, hg, hp => by
    obtain ⟨h11, hn0, hy⟩ := go_head (x := x) (l := l) (by rw [hg]; simp)
    by_cases h10 : x.op = 10
    · obtain ⟨hn1, hn2, hgs⟩ := hy h10
      obtain ⟨b, e, r, hbe, hb, he, hr⟩ := cut_of l hgs
      have hlr : r.length < l.length := by rw [hbe]; simp; omega
      rw [hbe] at hg hp hgs ⊢
      have hin := Cd.go_inner (L := 10) (E := 11) (m := x.n) b (e :: r) (plain_of hb)
      obtain ⟨z2, hz2⟩ : ∃ z2, Cd.go 10 11 none r = some z2 := by
        cases hz : Cd.go 10 11 none r with
        | none => exact absurd hz hr
        | some z2 => exact ⟨z2, rfl⟩
      have hee : Cd.go 10 11 (some x.n) (e :: r) = some (x.n + z2) := by
        rw [Cd.go_cons, Cd.step]
        simp [he, hz2]
      have hz3 : z = 1 + (x.n * (b.length : Int) + (x.n + z2)) := by
        rw [Cd.go_cons, Cd.step] at hg
        simp [h10, h11, hn1, hn2, hin, hee] at hg
        omega
      rw [allF_loop h10 hb he] at hp ⊢
      by_cases hq : (loopF x.r b (i + 1) x.n.toNat 0 s (wrap64 (st + 1))).p < 0
      · rw [if_pos hq] at hp ⊢
        have hst := loopF_steps x.r b (i + 1) x.n.toNat 0 s (wrap64 (st + 1)) (w64_I64 _) hq
        rw [allF_steps r (i + b.length + 2) _ _ z2 (by rw [hst]; exact w64_I64 _) hz2 hp, hst, w64_add, Int.add_assoc, w64_add]
        congr 1
        rw [hz3, show ((x.n.toNat : Nat) : Int) = x.n by omega, Int.mul_add]
        omega
      · rw [if_neg hq] at hp
        exact absurd hp hq
    · have hz : ∃ y, Cd.go 10 11 none l = some y ∧ z = 1 + y := by
        rw [Cd.go_cons, Cd.step] at hg
        cases hl : Cd.go 10 11 none l with
        | none => exact absurd hl (hn0 h10)
        | some y =>
          refine ⟨y, rfl, ?_⟩
          simp [h10, h11, hl] at hg
          omega
      obtain ⟨y, hy1, hy2⟩ := hz
      rcases h1 : one x s with _ | s'
      · rw [allF_none h10 h1] at hp
        exact absurd hp (by show ¬ ((i : Int) < 0); omega)
      · rw [allF_some h10 h1] at hp ⊢
        rw [allF_steps l (i + 1) s' (wrap64 (st + 1)) y (w64_I64 _) hy1 hp, w64_add, hy2]
        congr 1
        omega
termination_by l => l.length
decreasing_by
  all_goals (simp; try omega)
theorem allF_len (l : List In) (i : Nat) (s : St) (st : Int) {R : Int} (hR : ∀ x ∈ l, Rs (s.M.length : Int) R x) : (allF l i s st).s.M.length = s.M.length := (allF_both (Z := []) l i s st hR rfl).2
end Em
end Go.Proofs.YtkgbmgpdehmiiaaDoor
