/-
  PROVED: VmRuns: of all images and rows of numbers, what the VM of an image answers, row by row, is what the document answers: the fault, what is told, all cells, and how many instructions were done; and what is handed in stays. There is no condition but that the tables start as the program's text lays them, which the card ties.
  DERIVED. The frame is the guide's template for a law over package-level tables; the walks lie in the texts beside this one.
-/
import Derived.Test.YtkgbmgpdehmiiaaDoorCards
import Derived.Test.YtkgbmgpdehmiiaaDoorTie
import Derived.Test.YtkgbmgpdehmiiaaDoorY49
import Derived.Test.YtkgbmgpdehmiiaaDoorY46
import Derived.WalkKit
import Derived.ProofKit
import Derived.OpenShut
import Derived.Carry
import Derived.Deep.DeepHandedRow
import Derived.Lib.LaidTab
set_option linter.unusedVariables false
set_option linter.unusedSimpArgs false
set_option maxHeartbeats 64000000
set_option maxRecDepth 100000
namespace Go.Proofs.YtkgbmgpdehmiiaaDoor
open Go.ChangeShapes Go.WideShapes Go.ChangeAt Go.RowKit
set_option linter.unusedVariables false
theorem own_law : ownKnob Tryd.prog.godebug = none := by kernel_rfl
theorem laidOut_law : laidOutB Tryd.prog = true := by kernel_rfl
set_option maxRecDepth 100000 in
theorem contract_law (H : Type) (enc : TypeId × Value → H) (W : World) (base : Nat) (args : Array Value) (ds gs : List (DataW H)) (before : List MemPlace)
    (hval : ∀ (j : Nat) t v, Tryd.f3.params[j]? = some t → args[j]? = some v → Value.okWide Tryd.prog W .any base t v)
    (hW : DataW.Whole enc Tryd.prog Tryd.f3.params.toList Rows.vmRunsSpec.vars false W args.toList ds gs before)
    (hwt : (DataW.weightsEach Tryd.prog (Tryd.f3.params.toList ++ (OpenSpec.ofChange Rows.vmRunsSpec).bare.plain.varTypes Tryd.prog) (ds ++ gs)).all (· ≤ reachBytes) = true)
    (hK : GlobK W) :
    Calls Tryd.prog 3 args W fun e W' => ∃ v, e = .returned v ∧ Rows.vmRunsSpec.post enc Tryd.prog Tryd.f3 false true false false W args v W' := by
  have hW' := hW
  obtain ⟨p, q, hA0, hV, rfl, hfz, hnd⟩ := hW
  have hA : DataW.TrodAll enc Tryd.prog W 0 (fun _ => true) true Tryd.f3.params.toList args.toList ds p := hA0
  rw [Tryd.params3] at hA hval hwt
  obtain ⟨v0, vs0, d0, ds0, p0, q0, hargs0, rfl, rfl, h0, r0⟩ := trodAll_cons hA
  obtain ⟨v1, vs1, d1, ds1, p1, q1, hargs1, rfl, rfl, h1, r1⟩ := trodAll_cons r0
  obtain ⟨rfl, rfl, rfl⟩ := trodAll_nil r1
  subst hargs1
  obtain rfl : args = #[v0, v1] := by cases args; simp_all
  obtain ⟨rfl, rfl⟩ := trodVars_none hV
  obtain ⟨cs0, rfl, _⟩ := okWide_struct Tryd.underlying25 (hval 0 25 v0 rfl rfl)
  obtain ⟨a1, n1, c1, rfl⟩ := okWide_slice Tryd.underlying26 (hval 1 26 v1 rfl rfl)
  have hw0 := weightsEach_at _ _ hwt 0 25 d0 rfl rfl
  have g0 := h0
  obtain ⟨fu0, t0⟩ := g0
  obtain ⟨aP0, aB0, aG0, aL0, cP0, cB0, cG0, cL0, S0, e0, hS0, hN0⟩ := open_image (enc := enc) ⟨fu0, _, t0, hw0⟩
  have x0 : cs0 = #[.int .i64 S0.c, .int .i64 S0.R, .int .i64 S0.cost, .slice aP0 S0.P.length cP0, .slice aB0 S0.B.length cB0, .slice aG0 S0.G.length cG0, .slice aL0 S0.l.length cL0] := by simpa [Value.cells, ← Array.toList_inj] using e0
  subst x0
  have hw1 := weightsEach_at _ _ hwt 1 26 d1 rfl rfl
  have g1 := h1
  obtain ⟨fu1, t1⟩ := g1
  obtain ⟨b1, m1, rows1, e1, hR1, hRw1⟩ := open_rowsW (enc := enc) (w := W) (v := .slice a1 n1 c1) ⟨fu1, _, t1, hw1⟩
  injection e1 with z1 z2 z3
  subst z1 z2 z3
  simp only [List.append_nil] at hW'
  refine (vmRuns3_any hK hS0 hN0 hR1 hRw1).mono fun e W' ⟨he, bel⟩ => ?_
  subst he
  have hlt : ∀ x ∈ p0 ++ p1, x.block < W.heap.size := fun x hx => by simpa using hW'.lt x (by simpa using hx)
  have k0 : DataW.Trod enc Tryd.prog W' 0 (fun b => decide (b < W.heap.size)) true 25 (Value.agg #[.int .i64 S0.c, .int .i64 S0.R, .int .i64 S0.cost, .slice aP0 S0.P.length cP0, .slice aB0 S0.B.length cB0, .slice aG0 S0.G.length cG0, .slice aL0 S0.l.length cL0]) d0 p0 := Below.trod laidOut_law (by kernel_rfl) (of_decide_eq_true (by kernel_rfl)) h0 bel (fun x hx => hlt x (by simp [hx]))
  have k1 : DataW.Trod enc Tryd.prog W' 0 (fun b => decide (b < W.heap.size)) true 26 (Value.slice a1 rows1.length c1) d1 p1 := Below.trod laidOut_law (by kernel_rfl) (of_decide_eq_true (by kernel_rfl)) h1 bel (fun x hx => hlt x (by simp [hx]))
  have kk : DataW.TrodAll enc Tryd.prog W' 0 (fun b => decide (b < W.heap.size)) true [25, 26] [Value.agg #[.int .i64 S0.c, .int .i64 S0.R, .int .i64 S0.cost, .slice aP0 S0.P.length cP0, .slice aB0 S0.B.length cB0, .slice aG0 S0.G.length cG0, .slice aL0 S0.l.length cL0], Value.slice a1 rows1.length c1] [d0, d1] (p0 ++ p1) := by simpa using trodAll_cons_mk k0 (trodAll_cons_mk k1 trodAll_mk0)
  exact ⟨_, rfl, _, _, _, [], p0 ++ p1, [], hW', trodAll_mk1 (shut_bool Tryd.underlying4 _), kk, rfl, bel.frame _, fun h => by cases h⟩
theorem laid_all {W : World} (h : laidMetH Tryd.prog Rows.vmRunsRow.laid W) : GlobK W :=
  globK_of (h.filter (fun x => x.1 == "loomwork/kinds.operators"))
/-- A WORLD FOR THE WITNESS: the settled one, the tables holding what their initialisers lay. -/
def lay (w : World) (g : Nat) (cs : Array Value) : World :=
  { w with heap := w.heap.modify g fun
      | .cells _ t frozen => .cells cs t frozen
      | o => o }
noncomputable def laidWorld (os : Os) : World := lay (World.holding Tryd.prog os ⟨#[], #[], []⟩) 0
    #[.int .u8 0, .int .u8 0, .int .i64 0, .int .u8 105, .int .u8 105, .int .i64 2, .int .u8 105, .int .u8 105, .int .i64 2, .int .u8 105, .int .u8 105, .int .i64 2, .int .u8 105, .int .u8 105, .int .i64 2, .int .u8 105, .int .u8 105, .int .i64 2, .int .u8 105, .int .u8 105, .int .i64 2, .int .u8 105, .int .u8 105, .int .i64 2, .int .u8 105, .int .u8 98, .int .i64 2, .int .u8 105, .int .u8 98, .int .i64 2, .int .u8 98, .int .u8 98, .int .i64 2, .int .u8 98, .int .u8 98, .int .i64 2, .int .u8 98, .int .u8 98, .int .i64 2, .int .u8 105, .int .u8 105, .int .i64 1, .int .u8 98, .int .u8 98, .int .i64 1]
theorem laid_met_law (os : Os) : laidMet Tryd.prog Rows.vmRunsRow.laid ((laidWorld os).forCall (fun _ _ => 0) ⟨#[], #[.agg #[.int .i64 0, .int .i64 0, .int .i64 0, .slice none 0 0, .slice none 0 0, .slice none 0 0, .slice none 0 0], .slice none 0 0], []⟩).memory :=
  laidMet_of_run' 8 (by kernel_rfl) (by kernel_rfl)
theorem reads_law (os : Os) {H : Type} (enc : TypeId × Value → H) : ∃ places, DataW.whole enc Tryd.prog ((laidWorld os).forCall (fun _ _ => 0) ⟨#[], #[.agg #[.int .i64 0, .int .i64 0, .int .i64 0, .slice none 0 0, .slice none 0 0, .slice none 0 0, .slice none 0 0], .slice none 0 0], []⟩).memory Tryd.f3.params.toList Rows.vmRunsSpec.vars false #[Value.agg #[.int .i64 0, .int .i64 0, .int .i64 0, .slice none 0 0, .slice none 0 0, .slice none 0 0, .slice none 0 0], Value.slice none 0 0].toList 8 = some ([.agg [.lit (.int .i64 0), .lit (.int .i64 0), .lit (.int .i64 0), .nil, .nil, .nil, .nil], .nil], [], places) :=
  ⟨[], by kernel_rfl⟩
set_option maxRecDepth 100000 in
theorem lifted_law (os : Os) (started : os.Started) (H : Type) (enc : TypeId × Value → H) (F : Stop.Interp) :
    ReturnsInHanded {} Tryd.checked os 3 .any ((OpenSpec.ofChange Rows.vmRunsSpec).preRow enc Tryd.prog Tryd.f3 Rows.vmRunsRow.domain false Rows.vmRunsRow.laid) (((OpenSpec.ofChange Rows.vmRunsSpec).at F).post enc Tryd.prog Tryd.f3 false true false false) := by
  obtain ⟨places, hx⟩ := reads_law os enc
  refine returnsInHanded_of_row (C := Tryd.checked) (s := OpenSpec.ofChange Rows.vmRunsSpec) own_law started (by kernel_rfl) Tryd.func3
    (witness_row_at (enc := enc) (C := Tryd.checked) false (laidWorld os) #[.agg #[.int .i64 0, .int .i64 0, .int .i64 0, .slice none 0 0, .slice none 0 0, .slice none 0 0, .slice none 0 0], .slice none 0 0] rfl (by kernel_rfl) (by kernel_rfl) (by kernel_rfl)
      (OpenSpec.preRow_of_cond 8 hx (by kernel_rfl) (fun k hk => by cases hk) (by kernel_rfl) (laid_met_law os))) ?_
  intro W base args ds gs before hval hW _ _ hwt hlaid _ _
  exact contract_law H enc W base args ds gs before hval hW hwt (laid_all hlaid)
theorem said_law : Rows.VmRunsSaid :=
  OpenClaim.holds_of_cond 3 Tryd.f3 rfl rfl rfl rfl rfl rfl rfl ⟨rfl, rfl, rfl, rfl, rfl⟩ rfl rfl rfl rfl rfl (by kernel_rfl) Tryd.func3 (by kernel_rfl)
    (of_decide_eq_true (by kernel_rfl)) (by unfold Func.isWrapper; first | (rw [if_pos (by decide +kernel)]; kernel_rfl) | (rw [if_neg (by decide +kernel)]; exact ⟨rfl, rfl⟩))
    (fun os started H enc _ F => by rw [OpenClaim.pre_eq_preRow]; exact lifted_law os started H enc F)
theorem plain_law (f : FuncId) (fn : Func) (hf : Tryd.pinned.checked.prog.funcNamed Rows.vmRunsRow.func = some f) (hfn : Tryd.pinned.checked.prog.funcs[f]? = some fn) :
    false = Tryd.pinned.checked.prog.looks [] ∧ ∀ (j : Nat) t, fn.params[j]? = some t → Tryd.pinned.checked.prog.wantsStandIn t = false := by
  obtain rfl : f = 3 := Option.some.inj ((show Tryd.prog.funcNamed Rows.vmRunsRow.func = some 3 by kernel_rfl).symm.trans hf) |>.symm
  obtain rfl : fn = Tryd.f3 := (Option.some.inj (Tryd.func3.symm.trans hfn)).symm
  refine ⟨by kernel_rfl, fun j t ht => ?_⟩
  rw [Tryd.params3] at ht
  have hm := Array.mem_of_getElem? ht
  simp at hm
  rcases hm with rfl | rfl
  · exact (show Tryd.prog.wantsStandIn 25 = false by kernel_rfl)
  · exact (show Tryd.prog.wantsStandIn 26 = false by kernel_rfl)
theorem proved_vmRuns : Rows.VmRunsCardSaid :=
  Claim7.holds_tied_plain_at .later [] _ _ _ _ said_law (fun _ h => by cases h) (by kernel_rfl) (fun _ h => by cases h) vmRuns_row_tie rfl ⟨rfl, rfl⟩ (by kernel_rfl) rfl plain_law (by kernel_rfl)
#print axioms proved_vmRuns
end Go.Proofs.YtkgbmgpdehmiiaaDoor
