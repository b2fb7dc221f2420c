import Derived.Test.YtkgbmgpdehmiiaaDoorV43
import Derived.WalkKit
import Derived.IntWalk
set_option linter.unusedVariables false
set_option linter.unusedSimpArgs false
set_option maxHeartbeats 64000000
set_option maxRecDepth 100000
namespace Go.Proofs.YtkgbmgpdehmiiaaDoor
open Go.RowKit Go.IntWalk
set_option linter.unusedVariables false
set_option linter.unusedSimpArgs false
/-- what holds of an image that may be run -/
theorem Cd.good_of {m : Cd.Im} (h : (Cd.fault m).1 = 0) : (1 ≤ m.c ∧ m.c ≤ 6000 ∧ 1 ≤ m.R ∧ m.R ≤ 40) ∧ (m.P.length ≤ 6000 ∧ m.B.length ≤ 6000 ∧ m.G.length ≤ 120000 ∧ m.l.length ≤ 200000) ∧ (∀ x ∈ m.P, 0 ≤ x ∧ x < m.c) ∧ (∀ x ∈ m.B, 0 ≤ x ∧ x < m.c) ∧ (∀ x ∈ m.G, 0 ≤ x ∧ x < m.c) ∧ (∀ i ∈ m.l, Cd.bars m.c m.R i = false) ∧ m.cost = Cd.cost 10 11 m.l ∧ Cd.go 10 11 none m.l ≠ none := by
  unfold Cd.fault at h
  split at h
  · exact absurd h (by decide)
  · rename_i h1
    split at h
    · exact absurd h (by decide)
    · rename_i h2
      split at h
      · exact absurd h (by decide)
      · rename_i h3
        split at h
        · exact absurd h (by simp)
        · rename_i h4
          split at h
          · exact absurd h (by decide)
          · rename_i h5
            have h6 : ∀ z ∈ [m.P, m.B, m.G], ∀ x ∈ z, 0 ≤ x ∧ x < m.c := by
              intro z hz x hx
              have h7 : ([m.P, m.B, m.G].any fun z => z.any fun x => !Cd.has m.c x 1) = false := by simpa using h3
              have h8 := List.any_eq_false.1 h7 z hz
              have h9 := List.any_eq_false.1 (by simpa using h8 : (z.any fun x => !Cd.has m.c x 1) = false) x hx
              have h10 : Cd.has m.c x 1 = true := by simpa using h9
              unfold Cd.has at h10
              simp at h10
              omega
            have h11 : m.l.any (Cd.bars m.c m.R) = false := by
              have := (Cd.idx_neg (Cd.bars m.c m.R) m.l 0).1
              cases hb : m.l.any (Cd.bars m.c m.R) with
              | false => rfl
              | true => exact absurd (this.2 hb) h4
            have h12 : m.cost = Cd.cost 10 11 m.l := by
              by_cases he : m.cost = Cd.cost 10 11 m.l
              · exact he
              · exact absurd (.inl he) h5
            refine ⟨by omega, by omega, h6 _ (by simp), h6 _ (by simp), h6 _ (by simp), fun i hi => ?_, h12, fun hg => ?_⟩
            · have := List.any_eq_false.1 h11 i hi
              simpa using this
            · apply h5
              have h13 : Cd.cost 10 11 m.l = 0 := by unfold Cd.cost; rw [hg]; rfl
              refine .inr ⟨h13, ?_⟩
              cases hl : m.l with
              | nil =>
                rw [hl] at hg
                exact absurd hg (by unfold Cd.go; simp)
              | cons x r => simp
namespace Em
open Lo Cd
theorem w64_add (a b : Int) : wrap64 (wrap64 a + b) = wrap64 (a + b) := by
  unfold wrap64
  omega
theorem runF_steps : ∀ (l : List In) (i : Nat) (s : St) (st : Int), I64 st → (runF l i s st).p < 0 → (runF l i s st).st = wrap64 (st + (l.length : Int))
  | [], i, s, st, h, _ => by
    show st = wrap64 (st + ((0 : Nat) : Int))
    rw [w64_in (by simpa using h)]
    simp
  | x :: l, i, s, st, h, hp => by
    rcases h1 : one x s with _ | s'
    · rw [runF_none h1] at hp
      exact absurd hp (by show ¬ ((i : Int) < 0); omega)
    · rw [runF_some h1] at hp ⊢
      rw [runF_steps l (i + 1) s' (wrap64 (st + 1)) (w64_I64 _) hp, w64_add]
      congr 1
      simp
      omega
theorem loopF_steps (r : Int) (b : List In) (i : Nat) : ∀ (n : Nat) (k : Int) (s : St) (st : Int), I64 st → (loopF r b i n k s st).p < 0 → (loopF r b i n k s st).st = wrap64 (st + (n : Int) * ((b.length : Int) + 1))
  | 0, k, s, st, h, _ => by
    show st = wrap64 (st + ((0 : Nat) : Int) * _)
    rw [w64_in (by simpa using h)]
    simp
  | n + 1, k, s, st, h, hp => by
    rw [loopF] at hp ⊢
    by_cases hq : (runF b i ⟨upd s.R r k, s.M⟩ st).p < 0
    · rw [if_pos hq] at hp ⊢
      rw [loopF_steps r b i n (k + 1) _ _ (w64_I64 _) hp, w64_add, runF_steps b i _ st h hq, Int.add_assoc, w64_add]
      congr 1
      rw [show ((n + 1 : Nat) : Int) = (n : Int) + 1 by omega, Int.add_mul]
      omega
    · rw [if_neg hq] at hp
      exact absurd hp hq
theorem allF_steps : ∀ (l : List In) (i : Nat) (s : St) (st z : Int), I64 st → Cd.go 10 11 none l = some z → (allF l i s st).p < 0 → (allF l i s st).st = wrap64 (st + z)
  | [], i, s, st, z, h, hg, _ => by
    rw [allF_nil]
    unfold Cd.go at hg
    injection hg with hg
    subst hg
    rw [w64_in (by simpa using h)]
    simp
  | x :: l, i, s, st, z, h, hg, hp => by
    obtain ⟨h11, hn0, hy⟩ := go_head (x := x) (l := l) (by rw [hg]; simp)
    by_cases h10 : x.op = 10
    · obtain ⟨hn1, hn2, hgs⟩ := hy h10
      obtain ⟨b, e, r, hbe, hb, he, hr⟩ := cut_of l hgs
      have hlr : r.length < l.length := by rw [hbe]; simp; omega
      rw [hbe] at hg hp hgs ⊢
      have hin := Cd.go_inner (L := 10) (E := 11) (m := x.n) b (e :: r) (plain_of hb)
      obtain ⟨z2, hz2⟩ : ∃ z2, Cd.go 10 11 none r = some z2 := by
        cases hz : Cd.go 10 11 none r with
        | none => exact absurd hz hr
        | some z2 => exact ⟨z2, rfl⟩
      have hee : Cd.go 10 11 (some x.n) (e :: r) = some (x.n + z2) := by
        rw [Cd.go_cons, Cd.step]
        simp [he, hz2]
      have hz3 : z = 1 + (x.n * (b.length : Int) + (x.n + z2)) := by
        rw [Cd.go_cons, Cd.step] at hg
        simp [h10, h11, hn1, hn2, hin, hee] at hg
        omega
      rw [allF_loop h10 hb he] at hp ⊢
      by_cases hq : (loopF x.r b (i + 1) x.n.toNat 0 s (wrap64 (st + 1))).p < 0
      · rw [if_pos hq] at hp ⊢
        have hst := loopF_steps x.r b (i + 1) x.n.toNat 0 s (wrap64 (st + 1)) (w64_I64 _) hq
        rw [allF_steps r (i + b.length + 2) _ _ z2 (by rw [hst]; exact w64_I64 _) hz2 hp, hst, w64_add, Int.add_assoc, w64_add]
        congr 1
        rw [hz3, show ((x.n.toNat : Nat) : Int) = x.n by omega, Int.mul_add]
        omega
      · rw [if_neg hq] at hp
        exact absurd hp hq
    · have hz : ∃ y, Cd.go 10 11 none l = some y ∧ z = 1 + y := by
        rw [Cd.go_cons, Cd.step] at hg
        cases hl : Cd.go 10 11 none l with
        | none => exact absurd hl (hn0 h10)
        | some y =>
          refine ⟨y, rfl, ?_⟩
          simp [h10, h11, hl] at hg
          omega
      obtain ⟨y, hy1, hy2⟩ := hz
      rcases h1 : one x s with _ | s'
      · rw [allF_none h10 h1] at hp
        exact absurd hp (by show ¬ ((i : Int) < 0); omega)
      · rw [allF_some h10 h1] at hp ⊢
        rw [allF_steps l (i + 1) s' (wrap64 (st + 1)) y (w64_I64 _) hy1 hp, w64_add, hy2]
        congr 1
        omega
termination_by l => l.length
decreasing_by
  all_goals (simp; try omega)
theorem allF_len (l : List In) (i : Nat) (s : St) (st : Int) {R : Int} (hR : ∀ x ∈ l, Rs (s.M.length : Int) R x) : (allF l i s st).s.M.length = s.M.length := (allF_both (Z := []) l i s st hR rfl).2
end Em
end Go.Proofs.YtkgbmgpdehmiiaaDoor
