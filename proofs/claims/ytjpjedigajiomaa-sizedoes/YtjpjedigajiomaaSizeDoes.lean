/-
  PROVED: for every two sizes, every list of names, of sizes and of numbers: Norm, Same, With and Value of package size answer as the document says; what is handed in stays. There is no condition.
  DERIVED. The frame is the guide's template; the walks lie in the texts beside this one.
-/
import Derived.Test.YtjpjedigajiomaaRows
import Derived.Test.YtjpjedigajiomaaSzOp
import Derived.Test.YtjpjedigajiomaaSzZ
import Derived.WalkKit
import Derived.ProofKit
import Derived.OpenShut
import Derived.Carry
import Derived.SizedLaws
namespace Go.Proofs.Ytjpjedigajiomaa
open Go.ChangeShapes Go.WideShapes Go.ChangeAt Go.RowKit
set_option linter.unusedVariables false

theorem own_sizeDoes : ownKnob Try.prog.godebug = none := by kernel_rfl
theorem laidOut_sizeDoes : laidOutB Try.prog = true := by kernel_rfl

set_option maxRecDepth 100000 in
theorem lifted_sizeDoes (os : Os) (started : os.Started) (H : Type) (enc : TypeId × Value → H) :
    ReturnsInHanded {} Try.checked os 3 .any (Rows.sizeDoesSpec.pre6 enc Try.prog Try.f3 Rows.sizeDoesRow.domain false) (Rows.sizeDoesSpec.post enc Try.prog Try.f3 false true false false) := by
  refine returnsInHanded_of_change_sized (C := Try.checked) own_sizeDoes started (by kernel_rfl) Try.func3
    (ChangeSpec.witness6 (enc := enc) (C := Try.checked) false ⟨#[], #[.slice none 0 0, .slice none 0 0, .slice none 0 0, .slice none 0 0, .slice none 0 0], []⟩ 8 (by kernel_rfl) (by kernel_rfl) (by kernel_rfl) (by kernel_rfl)) ?_
  intro W base args ds gs before hval0 hW hcnd hwt _
  have hval : ∀ (j : Nat) t v, Try.f3.params[j]? = some t → args[j]? = some v → Value.okWide Try.prog W .any base t v := hval0
  have hW' := hW
  obtain ⟨p, q, hA0, hV, rfl, hfz, hnd⟩ := hW
  have hA : DataW.TrodAll enc Try.prog W 0 (fun _ => true) true Try.f3.params.toList args.toList ds p := hA0
  rw [Try.params3] at hA hval hwt
  obtain ⟨v0, vs0, d0, ds0, p0, q0, hargs0, rfl, rfl, h0, r0⟩ := trodAll_cons hA
  obtain ⟨v1, vs1, d1, ds1, p1, q1, hargs1, rfl, rfl, h1, r1⟩ := trodAll_cons r0
  obtain ⟨v2, vs2, d2, ds2, p2, q2, hargs2, rfl, rfl, h2, r2⟩ := trodAll_cons r1
  obtain ⟨v3, vs3, d3, ds3, p3, q3, hargs3, rfl, rfl, h3, r3⟩ := trodAll_cons r2
  obtain ⟨v4, vs4, d4, ds4, p4, q4, hargs4, rfl, rfl, h4, r4⟩ := trodAll_cons r3
  obtain ⟨rfl, rfl, rfl⟩ := trodAll_nil r4
  subst hargs4
  subst hargs3
  subst hargs2
  subst hargs1
  obtain rfl : args = #[v0, v1, v2, v3, v4] := by cases args; simp_all
  obtain ⟨rfl, rfl⟩ := trodVars_none hV
  obtain ⟨b0, n0, c0, rfl⟩ := okWide_slice Try.underlying23 (hval 0 23 v0 rfl rfl)
  have hw0 := weightsEach_at _ _ hwt 0 23 d0 rfl rfl
  have g0 := h0
  obtain ⟨fu0, t0⟩ := g0
  obtain ⟨b0', n0', c0', l0, e0, H0, f0⟩ := open_terms (enc := enc) ⟨fu0, _, t0, hw0⟩
  obtain ⟨rfl, rfl, rfl⟩ : b0 = b0' ∧ n0 = n0' ∧ c0 = c0' := by simpa [Value.cells] using e0
  obtain ⟨b1, n1, c1, rfl⟩ := okWide_slice Try.underlying23 (hval 1 23 v1 rfl rfl)
  have hw1 := weightsEach_at _ _ hwt 1 23 d1 rfl rfl
  have g1 := h1
  obtain ⟨fu1, t1⟩ := g1
  obtain ⟨b1', n1', c1', l1, e1, H1, f1⟩ := open_terms (enc := enc) ⟨fu1, _, t1, hw1⟩
  obtain ⟨rfl, rfl, rfl⟩ : b1 = b1' ∧ n1 = n1' ∧ c1 = c1' := by simpa [Value.cells] using e1
  obtain ⟨b2, n2, c2, rfl⟩ := okWide_slice Try.underlying24 (hval 2 24 v2 rfl rfl)
  have hw2 := weightsEach_at _ _ hwt 2 24 d2 rfl rfl
  have g2 := h2
  obtain ⟨fu2, t2⟩ := g2
  obtain ⟨b2', n2', c2', l2, e2, H2, f2⟩ := open_names (enc := enc) ⟨fu2, _, t2, hw2⟩
  obtain ⟨rfl, rfl, rfl⟩ : b2 = b2' ∧ n2 = n2' ∧ c2 = c2' := by simpa [Value.cells] using e2
  obtain ⟨b3, n3, c3, rfl⟩ := okWide_slice Try.underlying25 (hval 3 25 v3 rfl rfl)
  have hw3 := weightsEach_at _ _ hwt 3 25 d3 rfl rfl
  have g3 := h3
  obtain ⟨fu3, t3⟩ := g3
  obtain ⟨b3', n3', c3', l3, e3, H3, f3⟩ := open_sizes (enc := enc) ⟨fu3, _, t3, hw3⟩
  obtain ⟨rfl, rfl, rfl⟩ : b3 = b3' ∧ n3 = n3' ∧ c3 = c3' := by simpa [Value.cells] using e3
  obtain ⟨b4, n4, c4, rfl⟩ := okWide_slice Try.underlying26 (hval 4 26 v4 rfl rfl)
  have hw4 := weightsEach_at _ _ hwt 4 26 d4 rfl rfl
  have g4 := h4
  obtain ⟨fu4, t4⟩ := g4
  obtain ⟨b4', n4', c4', l4, e4, H4, f4⟩ := open_intsR (enc := enc) ⟨fu4, _, t4, hw4⟩
  obtain ⟨rfl, rfl, rfl⟩ : b4 = b4' ∧ n4 = n4' ∧ c4 = c4' := by simpa [Value.cells] using e4
  simp only [List.append_nil] at hW'
  refine (does_walk H0 H1 H2 H3 H4).mono fun e W' ⟨he, bel⟩ => ?_
  subst he
  have hlt : ∀ x ∈ p0 ++ (p1 ++ (p2 ++ (p3 ++ (p4)))), x.block < W.heap.size := fun x hx => by simpa using hW'.lt x (by simpa using hx)
  have k0 : DataW.Trod enc Try.prog W' 0 (fun b => decide (b < W.heap.size)) true 23 (.slice b0 n0 c0) d0 p0 := Below.trod laidOut_sizeDoes (by kernel_rfl) (of_decide_eq_true (by kernel_rfl)) h0 bel (fun x hx => hlt x (by simp [hx]))
  have k1 : DataW.Trod enc Try.prog W' 0 (fun b => decide (b < W.heap.size)) true 23 (.slice b1 n1 c1) d1 p1 := Below.trod laidOut_sizeDoes (by kernel_rfl) (of_decide_eq_true (by kernel_rfl)) h1 bel (fun x hx => hlt x (by simp [hx]))
  have k2 : DataW.Trod enc Try.prog W' 0 (fun b => decide (b < W.heap.size)) true 24 (.slice b2 n2 c2) d2 p2 := Below.trod laidOut_sizeDoes (by kernel_rfl) (of_decide_eq_true (by kernel_rfl)) h2 bel (fun x hx => hlt x (by simp [hx]))
  have k3 : DataW.Trod enc Try.prog W' 0 (fun b => decide (b < W.heap.size)) true 25 (.slice b3 n3 c3) d3 p3 := Below.trod laidOut_sizeDoes (by kernel_rfl) (of_decide_eq_true (by kernel_rfl)) h3 bel (fun x hx => hlt x (by simp [hx]))
  have k4 : DataW.Trod enc Try.prog W' 0 (fun b => decide (b < W.heap.size)) true 26 (.slice b4 n4 c4) d4 p4 := Below.trod laidOut_sizeDoes (by kernel_rfl) (of_decide_eq_true (by kernel_rfl)) h4 bel (fun x hx => hlt x (by simp [hx]))
  have kk : DataW.TrodAll enc Try.prog W' 0 (fun b => decide (b < W.heap.size)) true [23, 23, 24, 25, 26] [Value.slice b0 n0 c0, Value.slice b1 n1 c1, Value.slice b2 n2 c2, Value.slice b3 n3 c3, Value.slice b4 n4 c4] [d0, d1, d2, d3, d4] (p0 ++ (p1 ++ (p2 ++ (p3 ++ (p4))))) := by simpa using (trodAll_cons_mk k0 (trodAll_cons_mk k1 (trodAll_cons_mk k2 (trodAll_cons_mk k3 (trodAll_cons_mk k4 trodAll_mk0)))))
  exact ⟨_, rfl, _, _, _, [], p0 ++ (p1 ++ (p2 ++ (p3 ++ (p4)))), [], hW', trodAll_mk1 (shut_bool Try.underlying4 _), kk, rfl, bel.frame _, fun h => by cases h⟩

theorem over_sizeDoes : Rows.sizeDoesRow.holds Try.pinned (OpenSpec.ofChange Rows.sizeDoesSpec) :=
  OpenClaim.holds_of_wide 3 Try.f3 rfl rfl rfl rfl rfl rfl rfl ⟨rfl, rfl, rfl, rfl, rfl⟩ rfl rfl rfl rfl rfl (by kernel_rfl) Try.func3 (by kernel_rfl)
    (of_decide_eq_true (by kernel_rfl)) (by unfold Func.isWrapper; first | (rw [if_pos (by decide +kernel)]; kernel_rfl) | (rw [if_neg (by decide +kernel)]; exact ⟨rfl, rfl⟩))
    (fun os started H enc _ => lifted_sizeDoes os started H enc)

/-- THE STATEMENT -/
theorem proved_sizeDoes : Rows.SizeDoesSaid :=
  over_sizeDoes
#print axioms proved_sizeDoes
end Go.Proofs.Ytjpjedigajiomaa
