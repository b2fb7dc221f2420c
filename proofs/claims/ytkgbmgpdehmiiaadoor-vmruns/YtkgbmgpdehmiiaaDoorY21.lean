import Derived.Test.YtkgbmgpdehmiiaaDoorY11
import Derived.WalkKit
import Derived.WalkSpells
import Derived.IntWalk
import Derived.Deep.Cut
import Derived.Deep.LoopGhost
import Derived.Laws.Cover1
import Derived.Lib.Hide
set_option linter.unusedVariables false
set_option linter.unusedSimpArgs false
set_option maxHeartbeats 64000000
set_option maxRecDepth 100000
namespace Go.Proofs.YtkgbmgpdehmiiaaDoor
open Go.RowKit Go.IntWalk
set_option linter.unusedVariables false
set_option linter.unusedSimpArgs false
theorem wpAnyL_firstM {P : Program} {ops : Array Oper} {Q : Exit → Act → World → Prop} {md : Region.Mode} {S : World → Prop} {late : Nat → Bool} {i : Nat} {oi : Oper} {v : Value} (hi : ops[i]? = some oi) (hsel : ∀ (j : Nat) (o : Oper) cs b, ops[j]? = some o → o.op ≠ .select cs b)
    (hQ : ∀ c a w, Q (.panic c) (a.put oi.dst v) w → Q (.panic c) a w) (hlate : late i = true) :
    ∀ (fuel : Nat) (listed : Array Bool) (a : Act) (w : World),
      (∀ j oj, ops[j]? = some oj → j ≠ i → listed.getD j true = false → (∀ e ∈ oj.after, Region.binds md e = true → e.on ≠ i) → oi.apart ops oj = true) →
      i ∈ Region.ready md ops listed → YieldsIf P ops (fun _ => True) oi v a →
      wpAnyL P md ops Q S late fuel (listed.setIfInBounds i true) (a.put oi.dst v) w → wpAnyL P md ops Q S late (fuel + 1) listed a w := by
  intro fuel
  induction fuel with
  | zero =>
    intro listed a w _ hr hy H
    refine ⟨fun h => (by rw [h] at hr; cases hr), fun j hj => ?_⟩
    by_cases hji : j = i
    · subst hji; exact hy.wpOp hi trivial ⟨fun h => absurd h (by rw [hlate]; decide), H⟩
    · have := ready_mono hj hji
      rw [H.1] at this
      cases this
  | succ fuel ih =>
    intro listed a w hfree hr hy H
    refine ⟨fun h => (by rw [h] at hr; cases hr), fun j hj => ?_⟩
    by_cases hji : j = i
    · subst hji; exact hy.wpOp hi trivial ⟨fun h => absurd h (by rw [hlate]; decide), H⟩
    · have h1 := H.2 j (ready_mono hj hji)
      obtain ⟨hjun, oj, hoj, hall⟩ := mem_ready.1 hj
      have hnot : ∀ e ∈ oj.after, Region.binds md e = true → e.on ≠ i := fun e he hb heq => by
        have h1 := hall e he hb
        have h0 := (mem_ready.1 hr).1
        rw [heq] at h1
        rcases Nat.lt_or_ge i listed.size with h' | h'
        · simp [h'] at h0 h1; rw [h0] at h1; cases h1
        · simp [Array.getElem?_eq_none h'] at h1
      have h2 := wpOp_putIf hoj (hfree j oj hoj hji hjun hnot) (fun cs b => hsel i oi cs b hi) (fun cs b => hsel j oj cs b hoj) hQ hy h1
      have hfree' : ∀ k ok, ops[k]? = some ok → k ≠ i → (listed.setIfInBounds j true).getD k true = false →
          (∀ e ∈ ok.after, Region.binds md e = true → e.on ≠ i) → oi.apart ops ok = true := fun k ok hk hki hun hno => by
        refine hfree k ok hk hki ?_ hno
        by_cases hjk : j = k
        · subst hjk; exact hjun
        · rw [getD_set_ne true hjk] at hun; exact hun
      refine wpOp_mono (fun a' w' h3 => ⟨h3.2.1, ih (listed.setIfInBounds j true) a' w' hfree' (ready_mono hr (Ne.symm hji)) h3.1 ?_⟩) h2
      rw [Array.setIfInBounds_comm _ _ hji]
      exact h3.2.2
theorem wpAnyL_move {P : Program} {ops : Array Oper} {Q : Exit → Act → World → Prop} {md : Region.Mode} {S : World → Prop} {late : Nat → Bool} {i : Nat} {oi : Oper} {v : Value} {fuel : Nat} {listed : Array Bool} {a : Act} {w : World} (hi : ops[i]? = some oi)
    (hs : Region.noSelect ops = true) (hf : Region.free md ops listed i = true) (hr : (Region.ready md ops listed).contains i = true) (hlate : late i = true)
    (hQ : ∀ c a w, Q (.panic c) (a.put oi.dst v) w → Q (.panic c) a w) (hw : Region.wanted oi (yielded ops a.tmps) = true) (hy : ∀ w, (execOp a.eval oi).run P w = .ok (.value v) w)
    (h : wpAnyL P md ops Q S late fuel (listed.setIfInBounds i true) (a.put oi.dst v) w) : wpAnyL P md ops Q S late (fuel + 1) listed a w :=
  wpAnyL_firstM hi (Region.noSelect_spec hs) hQ hlate fuel listed a w (Region.free_spec hi hf) (by simpa using hr) (.inl ⟨hw, fun w _ => hy w⟩) h
end Go.Proofs.YtkgbmgpdehmiiaaDoor
namespace Go.Proofs.YtkgbmgpdehmiiaaDoor
open Go.RowKit Go.IntWalk
set_option linter.unusedVariables false
set_option linter.unusedSimpArgs false
theorem own_down2 {α : Type} {T : Kind α} {B B' : Nat} {w : World} {v : Value} {l : List α} (h : OwnL T B w v l) (hb : B' ≤ B) : OwnL T B' w v l := ownL_of (ownX_of h) (fun i hi => Nat.le_trans hb hi.1)
end Go.Proofs.YtkgbmgpdehmiiaaDoor
namespace Go.Proofs.YtkgbmgpdehmiiaaDoor
open Go.RowKit Go.IntWalk
set_option linter.unusedVariables false
set_option linter.unusedSimpArgs false
theorem HIns.past {okr : Nat → Prop} {w w' : World} {v : Value} {l : List Cd.In} (h : HIns okr w v l) {S : List Nat} (a : Aside S w.heap.size w w') (hok : ∀ i, okr i → i ∉ S) : HIns okr w' v l := h.keep a.size fun i hi hl => a.block i hl (hok i hi)
end Go.Proofs.YtkgbmgpdehmiiaaDoor
namespace Go.Proofs.YtkgbmgpdehmiiaaDoor
open Go.RowKit Go.IntWalk
set_option linter.unusedVariables false
set_option linter.unusedSimpArgs false
theorem HPu.aside {ok : Nat → Prop} {w w' : World} {v : Value} {l : List Pu} (h : HPu ok w v l) {S : List Nat} (a : Aside S w.heap.size w w') (hok : ∀ i, ok i → i ∉ S) : HPu ok w' v l := h.keep a.size fun i hi hl => a.block i hl (hok i hi)
end Go.Proofs.YtkgbmgpdehmiiaaDoor
namespace Go.Proofs.YtkgbmgpdehmiiaaDoor
open Go.RowKit Go.IntWalk
set_option linter.unusedVariables false
set_option linter.unusedSimpArgs false
namespace Em
open Lo Cd
/-- registers in a list -/
def RX (s : St) (X : List Int) : Prop := ∀ (j : Nat) (h : j < X.length), s.R (j : Int) = X[j]
theorem RX.upd {f : Int → Int} {M M' : List Int} {X : List Int} (h : RX ⟨f, M⟩ X) (r : Nat) (v : Int) : RX ⟨Em.upd f (r : Int) v, M'⟩ (X.set r v) := by
  intro j hj
  have hj2 : j < X.length := by simpa using hj
  show Em.upd f (r : Int) v (j : Int) = _
  by_cases e : j = r
  · subst e
    rw [upd_at]
    simp
  · rw [upd_ne _ _ (by omega)]
    rw [List.getElem_set_ne (by omega)]
    exact h j hj2
theorem RX.same {f : Int → Int} {M M' : List Int} {X : List Int} (h : RX ⟨f, M⟩ X) : RX ⟨f, M'⟩ X := h
theorem lk_ok {R x : Int} (h : Cd.lk R x = false) : 0 ≤ x ∧ x < R := by
  unfold Cd.lk at h
  rw [Bool.or_eq_false_iff, decide_eq_false_iff_not, decide_eq_false_iff_not] at h
  omega
theorem lacks_ok {R : Int} {l : List Int} (h : Cd.lacks R l = false) : ∀ x ∈ l, 0 ≤ x ∧ x < R := fun x hx => by
  unfold Cd.lacks at h
  rw [List.any_eq_false] at h
  exact lk_ok (by simpa using h x hx)
theorem nat_of {x R : Int} (h : 0 ≤ x ∧ x < R) : ∃ n : Nat, x = (n : Int) ∧ (n : Int) < R := ⟨x.toNat, by omega, by omega⟩
theorem wd_get {X : List Int} (h : Wd X) {i : Nat} (hi : i < X.length) : I64 X[i] := h _ (List.getElem_mem hi)
/-- a loop's body ends: up to the first IEnd -/
theorem cut_of {m : Int} : ∀ (L : List In), Cd.go 10 11 (some m) L ≠ none → ∃ b e l, L = b ++ e :: l ∧ plain b ∧ e.op = 11 ∧ Cd.go 10 11 none l ≠ none
  | [], h => by simp [Cd.go] at h
  | x :: L, h => by
    by_cases h11 : x.op = 11
    · refine ⟨[], x, L, rfl, (fun y hy => by cases hy), h11, fun hh => h ?_⟩
      rw [Cd.go_cons, Cd.step]
      try dsimp only
      rw [if_pos h11]
      simp [hh]
    · by_cases h10 : x.op = 10
      · exact absurd (by rw [Cd.go_cons, Cd.step]; (try dsimp only); rw [if_neg h11, if_pos h10]; rfl) h
      · have h2 : Cd.go 10 11 (some m) L ≠ none := fun hh => h (by
          rw [Cd.go_cons, Cd.step]
          try dsimp only
          rw [if_neg h11, if_neg h10]
          simp [hh])
        obtain ⟨b, e, l, e1, e2, e3, e4⟩ := cut_of L h2
        refine ⟨x :: b, e, l, by rw [e1]; rfl, fun y hy => ?_, e3, e4⟩
        rcases List.mem_cons.1 hy with rfl | hy
        · exact ⟨h10, h11⟩
        · exact e2 y hy
theorem go_head {x : In} {l : List In} (h : Cd.go 10 11 none (x :: l) ≠ none) : x.op ≠ 11 ∧ (x.op ≠ 10 → Cd.go 10 11 none l ≠ none) ∧ (x.op = 10 → 1 ≤ x.n ∧ x.n ≤ 300 ∧ Cd.go 10 11 (some x.n) l ≠ none) := by
  rw [Cd.go_cons, Cd.step] at h
  try dsimp only at h
  by_cases h11 : x.op = 11
  · rw [if_pos h11] at h
    exact absurd rfl h
  rw [if_neg h11] at h
  refine ⟨h11, fun h10 hh => ?_, fun h10 => ?_⟩
  · rw [if_neg h10] at h
    simp [hh] at h
  · rw [if_pos h10] at h
    by_cases hn : 1 ≤ x.n ∧ x.n ≤ 300
    · rw [if_pos hn] at h
      refine ⟨hn.1, hn.2, fun hh => ?_⟩
      simp [hh] at h
    · rw [if_neg hn] at h
      exact absurd rfl h
end Em
end Go.Proofs.YtkgbmgpdehmiiaaDoor
