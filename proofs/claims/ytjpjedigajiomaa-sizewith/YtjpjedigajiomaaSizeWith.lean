/-
  PROVED: for every three lists of numbers, out of which sizes of three names are made, and every number out of which three numbers are made: a size whose names are sizes comes to what the size comes to whose names are their numbers. There is no condition.
  DERIVED. The frame is the guide's template; the walks lie in the texts beside this one.
-/
import Derived.Test.YtjpjedigajiomaaRows
import Derived.Test.YtjpjedigajiomaaSzWl
import Derived.Test.YtjpjedigajiomaaSzOp
import Derived.WalkKit
import Derived.ProofKit
import Derived.OpenShut
import Derived.Carry
import Derived.SizedLaws
namespace Go.Proofs.Ytjpjedigajiomaa
open Go.ChangeShapes Go.WideShapes Go.ChangeAt Go.RowKit
set_option linter.unusedVariables false

theorem own_sizeWith : ownKnob Try.prog.godebug = none := by kernel_rfl
theorem laidOut_sizeWith : laidOutB Try.prog = true := by kernel_rfl

set_option maxRecDepth 100000 in
theorem lifted_sizeWith (os : Os) (started : os.Started) (H : Type) (enc : TypeId × Value → H) :
    ReturnsInHanded {} Try.checked os 5 .any (Rows.sizeWithSpec.pre6 enc Try.prog Try.f5 Rows.sizeWithRow.domain false) (Rows.sizeWithSpec.post enc Try.prog Try.f5 false true false false) := by
  refine returnsInHanded_of_change_sized (C := Try.checked) own_sizeWith started (by kernel_rfl) Try.func5
    (ChangeSpec.witness6 (enc := enc) (C := Try.checked) false ⟨#[], #[.slice none 0 0, .slice none 0 0, .slice none 0 0, .int .i64 0], []⟩ 8 (by kernel_rfl) (by kernel_rfl) (by kernel_rfl) (by kernel_rfl)) ?_
  intro W base args ds gs before hval0 hW hcnd hwt _
  have hval : ∀ (j : Nat) t v, Try.f5.params[j]? = some t → args[j]? = some v → Value.okWide Try.prog W .any base t v := hval0
  have hW' := hW
  obtain ⟨p, q, hA0, hV, rfl, hfz, hnd⟩ := hW
  have hA : DataW.TrodAll enc Try.prog W 0 (fun _ => true) true Try.f5.params.toList args.toList ds p := hA0
  rw [Try.params5] at hA hval hwt
  obtain ⟨v0, vs0, d0, ds0, p0, q0, hargs0, rfl, rfl, h0, r0⟩ := trodAll_cons hA
  obtain ⟨v1, vs1, d1, ds1, p1, q1, hargs1, rfl, rfl, h1, r1⟩ := trodAll_cons r0
  obtain ⟨v2, vs2, d2, ds2, p2, q2, hargs2, rfl, rfl, h2, r2⟩ := trodAll_cons r1
  obtain ⟨v3, vs3, d3, ds3, p3, q3, hargs3, rfl, rfl, h3, r3⟩ := trodAll_cons r2
  obtain ⟨rfl, rfl, rfl⟩ := trodAll_nil r3
  subst hargs3
  subst hargs2
  subst hargs1
  obtain rfl : args = #[v0, v1, v2, v3] := by cases args; simp_all
  obtain ⟨rfl, rfl⟩ := trodVars_none hV
  obtain ⟨b0, n0, c0, rfl⟩ := okWide_slice Try.underlying26 (hval 0 26 v0 rfl rfl)
  have hw0 := weightsEach_at _ _ hwt 0 26 d0 rfl rfl
  have g0 := h0
  obtain ⟨fu0, t0⟩ := g0
  obtain ⟨b0', n0', c0', l0, e0, H0, f0⟩ := open_intsR (enc := enc) ⟨fu0, _, t0, hw0⟩
  obtain ⟨rfl, rfl, rfl⟩ : b0 = b0' ∧ n0 = n0' ∧ c0 = c0' := by simpa [Value.cells] using e0
  obtain ⟨b1, n1, c1, rfl⟩ := okWide_slice Try.underlying26 (hval 1 26 v1 rfl rfl)
  have hw1 := weightsEach_at _ _ hwt 1 26 d1 rfl rfl
  have g1 := h1
  obtain ⟨fu1, t1⟩ := g1
  obtain ⟨b1', n1', c1', l1, e1, H1, f1⟩ := open_intsR (enc := enc) ⟨fu1, _, t1, hw1⟩
  obtain ⟨rfl, rfl, rfl⟩ : b1 = b1' ∧ n1 = n1' ∧ c1 = c1' := by simpa [Value.cells] using e1
  obtain ⟨b2, n2, c2, rfl⟩ := okWide_slice Try.underlying26 (hval 2 26 v2 rfl rfl)
  have hw2 := weightsEach_at _ _ hwt 2 26 d2 rfl rfl
  have g2 := h2
  obtain ⟨fu2, t2⟩ := g2
  obtain ⟨b2', n2', c2', l2, e2, H2, f2⟩ := open_intsR (enc := enc) ⟨fu2, _, t2, hw2⟩
  obtain ⟨rfl, rfl, rfl⟩ : b2 = b2' ∧ n2 = n2' ∧ c2 = c2' := by simpa [Value.cells] using e2
  have g3 := h3
  obtain ⟨a3, rfl, rfl, rfl, w3⟩ := open_int Try.underlying3 (hval 3 3 v3 rfl rfl) g3
  simp only [List.append_nil] at hW'
  refine (with_walk a3 H0 H1 H2).mono fun e W' ⟨he, bel⟩ => ?_
  subst he
  have hlt : ∀ x ∈ p0 ++ (p1 ++ (p2)), x.block < W.heap.size := fun x hx => by simpa using hW'.lt x (by simpa using hx)
  have k0 : DataW.Trod enc Try.prog W' 0 (fun b => decide (b < W.heap.size)) true 26 (.slice b0 n0 c0) d0 p0 := Below.trod laidOut_sizeWith (by kernel_rfl) (of_decide_eq_true (by kernel_rfl)) h0 bel (fun x hx => hlt x (by simp [hx]))
  have k1 : DataW.Trod enc Try.prog W' 0 (fun b => decide (b < W.heap.size)) true 26 (.slice b1 n1 c1) d1 p1 := Below.trod laidOut_sizeWith (by kernel_rfl) (of_decide_eq_true (by kernel_rfl)) h1 bel (fun x hx => hlt x (by simp [hx]))
  have k2 : DataW.Trod enc Try.prog W' 0 (fun b => decide (b < W.heap.size)) true 26 (.slice b2 n2 c2) d2 p2 := Below.trod laidOut_sizeWith (by kernel_rfl) (of_decide_eq_true (by kernel_rfl)) h2 bel (fun x hx => hlt x (by simp [hx]))
  have kk : DataW.TrodAll enc Try.prog W' 0 (fun b => decide (b < W.heap.size)) true [26, 26, 26, 3] [Value.slice b0 n0 c0, Value.slice b1 n1 c1, Value.slice b2 n2 c2, Value.int .i64 a3] [d0, d1, d2, .lit (.int .i64 a3)] (p0 ++ (p1 ++ (p2))) := by simpa using (trodAll_cons_mk k0 (trodAll_cons_mk k1 (trodAll_cons_mk k2 (trodAll_cons_mk (shut_int Try.underlying3 w3) trodAll_mk0))))
  exact ⟨_, rfl, _, _, _, [], p0 ++ (p1 ++ (p2)), [], hW', trodAll_mk1 (shut_bool Try.underlying4 _), kk, rfl, bel.frame _, fun h => by cases h⟩

theorem over_sizeWith : Rows.sizeWithRow.holds Try.pinned (OpenSpec.ofChange Rows.sizeWithSpec) :=
  OpenClaim.holds_of_wide 5 Try.f5 rfl rfl rfl rfl rfl rfl rfl ⟨rfl, rfl, rfl, rfl, rfl⟩ rfl rfl rfl rfl rfl (by kernel_rfl) Try.func5 (by kernel_rfl)
    (of_decide_eq_true (by kernel_rfl)) (by unfold Func.isWrapper; first | (rw [if_pos (by decide +kernel)]; kernel_rfl) | (rw [if_neg (by decide +kernel)]; exact ⟨rfl, rfl⟩))
    (fun os started H enc _ => lifted_sizeWith os started H enc)

/-- THE STATEMENT -/
theorem proved_sizeWith : Rows.SizeWithSaid :=
  over_sizeWith
#print axioms proved_sizeWith
end Go.Proofs.Ytjpjedigajiomaa
