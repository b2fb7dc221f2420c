/-
  PROVED: CodeCosts: costs add up: code that may be run and other code behind it cost what both cost, and a loop around code without loops costs one and so many times what that costs and one. There is no condition but that the tables start as the program's text lays them, which the card ties.
  DERIVED. The frame is the guide's template for a law over package-level tables; the walks lie in the texts beside this one.
-/
import Derived.Test.YtfipfdpohkafaaaDoorCards
import Derived.Test.YtfipfdpohkafaaaDoorTie
import Derived.Test.YtfipfdpohkafaaaDoorQ44
import Derived.Test.YtfipfdpohkafaaaDoorQ30
import Derived.WalkKit
import Derived.ProofKit
import Derived.OpenShut
import Derived.Carry
import Derived.Deep.DeepHandedRow
import Derived.Lib.LaidTab
set_option linter.unusedVariables false
set_option linter.unusedSimpArgs false
set_option maxHeartbeats 64000000
set_option maxRecDepth 100000
namespace Go.Proofs.YtfipfdpohkafaaaDoor
open Go.ChangeShapes Go.WideShapes Go.ChangeAt Go.RowKit
set_option linter.unusedVariables false
theorem own_law : ownKnob Tryd.prog.godebug = none := by kernel_rfl
theorem laidOut_law : laidOutB Tryd.prog = true := by kernel_rfl
set_option maxRecDepth 100000 in
theorem contract_law (H : Type) (enc : TypeId × Value → H) (W : World) (base : Nat) (args : Array Value) (ds gs : List (DataW H)) (before : List MemPlace)
    (hval : ∀ (j : Nat) t v, Tryd.f4.params[j]? = some t → args[j]? = some v → Value.okWide Tryd.prog W .any base t v)
    (hW : DataW.Whole enc Tryd.prog Tryd.f4.params.toList Rows.codeCostsSpec.vars false W args.toList ds gs before)
    (hwt : (DataW.weightsEach Tryd.prog (Tryd.f4.params.toList ++ (OpenSpec.ofChange Rows.codeCostsSpec).bare.plain.varTypes Tryd.prog) (ds ++ gs)).all (· ≤ reachBytes) = true)
    (hK : GlobK W) :
    Calls Tryd.prog 4 args W fun e W' => ∃ v, e = .returned v ∧ Rows.codeCostsSpec.post enc Tryd.prog Tryd.f4 false true false false W args v W' := by
  have hW' := hW
  obtain ⟨p, q, hA0, hV, rfl, hfz, hnd⟩ := hW
  have hA : DataW.TrodAll enc Tryd.prog W 0 (fun _ => true) true Tryd.f4.params.toList args.toList ds p := hA0
  rw [Tryd.params4] at hA hval hwt
  obtain ⟨v0, vs0, d0, ds0, p0, q0, hargs0, rfl, rfl, h0, r0⟩ := trodAll_cons hA
  obtain ⟨v1, vs1, d1, ds1, p1, q1, hargs1, rfl, rfl, h1, r1⟩ := trodAll_cons r0
  obtain ⟨v2, vs2, d2, ds2, p2, q2, hargs2, rfl, rfl, h2, r2⟩ := trodAll_cons r1
  obtain ⟨rfl, rfl, rfl⟩ := trodAll_nil r2
  subst hargs2
  subst hargs1
  obtain rfl : args = #[v0, v1, v2] := by cases args; simp_all
  obtain ⟨rfl, rfl⟩ := trodVars_none hV
  obtain ⟨a0, n0, c0, rfl⟩ := okWide_slice Tryd.underlying23 (hval 0 23 v0 rfl rfl)
  obtain ⟨a1, n1, c1, rfl⟩ := okWide_slice Tryd.underlying23 (hval 1 23 v1 rfl rfl)
  have hw0 := weightsEach_at _ _ hwt 0 23 d0 rfl rfl
  have g0 := h0
  obtain ⟨fu0, t0⟩ := g0
  have hw1 := weightsEach_at _ _ hwt 1 23 d1 rfl rfl
  have g1 := h1
  obtain ⟨fu1, t1⟩ := g1
  obtain ⟨b0, m0, f0, L0, e0, en0, hR0, -⟩ := open_code (enc := enc) (w := W) (v := .slice a0 n0 c0) ⟨fu0, _, t0, hw0⟩
  rw [← e0] at hR0
  have z0 : n0 = L0.length := by injection e0 with _ z _; rw [z, en0]
  rw [z0] at hR0
  obtain ⟨b1, m1, f1, L1, e1, en1, hR1, -⟩ := open_code (enc := enc) (w := W) (v := .slice a1 n1 c1) ⟨fu1, _, t1, hw1⟩
  rw [← e1] at hR1
  have z1 : n1 = L1.length := by injection e1 with _ z _; rw [z, en1]
  rw [z1] at hR1
  have g2 := h2
  obtain ⟨x2, rfl, rfl, rfl, w2⟩ := open_int Tryd.underlying3 (hval 2 3 v2 rfl rfl) g2
  simp only [List.append_nil] at hW'
  have hcall := codeCosts4_any (n := x2) hK hR0 hR1
  rw [← z0, ← z1] at hcall
  refine hcall.mono fun e W' ⟨he, bel⟩ => ?_
  subst he
  have hlt : ∀ x ∈ p0 ++ p1, x.block < W.heap.size := fun x hx => by simpa using hW'.lt x (by simpa using hx)
  have k0 : DataW.Trod enc Tryd.prog W' 0 (fun b => decide (b < W.heap.size)) true 23 (Value.slice a0 n0 c0) d0 p0 := Below.trod laidOut_law (by kernel_rfl) (of_decide_eq_true (by kernel_rfl)) h0 bel (fun x hx => hlt x (by simp [hx]))
  have k1 : DataW.Trod enc Tryd.prog W' 0 (fun b => decide (b < W.heap.size)) true 23 (Value.slice a1 n1 c1) d1 p1 := Below.trod laidOut_law (by kernel_rfl) (of_decide_eq_true (by kernel_rfl)) h1 bel (fun x hx => hlt x (by simp [hx]))
  have kk : DataW.TrodAll enc Tryd.prog W' 0 (fun b => decide (b < W.heap.size)) true [23, 23, 3] [Value.slice a0 n0 c0, Value.slice a1 n1 c1, Value.int .i64 x2] [d0, d1, .lit (.int .i64 x2)] (p0 ++ p1) := by simpa using trodAll_cons_mk k0 (trodAll_cons_mk k1 (trodAll_cons_mk (shut_int Tryd.underlying3 w2) trodAll_mk0))
  exact ⟨_, rfl, _, _, _, [], p0 ++ p1, [], hW', trodAll_mk1 (shut_bool Tryd.underlying4 _), kk, rfl, bel.frame _, fun h => by cases h⟩
theorem laid_all {W : World} (h : laidMetH Tryd.prog Rows.codeCostsRow.laid W) : GlobK W :=
  globK_of (h.filter (fun x => x.1 == "loomwork/kinds.operators"))
/-- A WORLD FOR THE WITNESS: the settled one, the tables holding what their initialisers lay. -/
def lay (w : World) (g : Nat) (cs : Array Value) : World :=
  { w with heap := w.heap.modify g fun
      | .cells _ t frozen => .cells cs t frozen
      | o => o }
noncomputable def laidWorld (os : Os) : World := lay (World.holding Tryd.prog os ⟨#[], #[], []⟩) 0
    #[.int .u8 0, .int .u8 0, .int .i64 0, .int .u8 105, .int .u8 105, .int .i64 2, .int .u8 105, .int .u8 105, .int .i64 2, .int .u8 105, .int .u8 105, .int .i64 2, .int .u8 105, .int .u8 105, .int .i64 2, .int .u8 105, .int .u8 105, .int .i64 2, .int .u8 105, .int .u8 105, .int .i64 2, .int .u8 105, .int .u8 105, .int .i64 2, .int .u8 105, .int .u8 98, .int .i64 2, .int .u8 105, .int .u8 98, .int .i64 2, .int .u8 98, .int .u8 98, .int .i64 2, .int .u8 98, .int .u8 98, .int .i64 2, .int .u8 98, .int .u8 98, .int .i64 2, .int .u8 105, .int .u8 105, .int .i64 1, .int .u8 98, .int .u8 98, .int .i64 1]
theorem laid_met_law (os : Os) : laidMet Tryd.prog Rows.codeCostsRow.laid ((laidWorld os).forCall (fun _ _ => 0) ⟨#[], #[.slice none 0 0, .slice none 0 0, .int .i64 0], []⟩).memory :=
  laidMet_of_run' 8 (by kernel_rfl) (by kernel_rfl)
theorem reads_law (os : Os) {H : Type} (enc : TypeId × Value → H) : ∃ places, DataW.whole enc Tryd.prog ((laidWorld os).forCall (fun _ _ => 0) ⟨#[], #[.slice none 0 0, .slice none 0 0, .int .i64 0], []⟩).memory Tryd.f4.params.toList Rows.codeCostsSpec.vars false #[Value.slice none 0 0, Value.slice none 0 0, Value.int .i64 0].toList 8 = some ([.nil, .nil, .lit (.int .i64 0)], [], places) :=
  ⟨[], by kernel_rfl⟩
set_option maxRecDepth 100000 in
theorem lifted_law (os : Os) (started : os.Started) (H : Type) (enc : TypeId × Value → H) (F : Stop.Interp) :
    ReturnsInHanded {} Tryd.checked os 4 .any ((OpenSpec.ofChange Rows.codeCostsSpec).preRow enc Tryd.prog Tryd.f4 Rows.codeCostsRow.domain false Rows.codeCostsRow.laid) (((OpenSpec.ofChange Rows.codeCostsSpec).at F).post enc Tryd.prog Tryd.f4 false true false false) := by
  obtain ⟨places, hx⟩ := reads_law os enc
  refine returnsInHanded_of_row (C := Tryd.checked) (s := OpenSpec.ofChange Rows.codeCostsSpec) own_law started (by kernel_rfl) Tryd.func4
    (witness_row_at (enc := enc) (C := Tryd.checked) false (laidWorld os) #[.slice none 0 0, .slice none 0 0, .int .i64 0] rfl (by kernel_rfl) (by kernel_rfl) (by kernel_rfl)
      (OpenSpec.preRow_of_cond 8 hx (by kernel_rfl) (fun k hk => by cases hk) (by kernel_rfl) (laid_met_law os))) ?_
  intro W base args ds gs before hval hW _ _ hwt hlaid _ _
  exact contract_law H enc W base args ds gs before hval hW hwt (laid_all hlaid)
theorem said_law : Rows.CodeCostsSaid :=
  OpenClaim.holds_of_cond 4 Tryd.f4 rfl rfl rfl rfl rfl rfl rfl ⟨rfl, rfl, rfl, rfl, rfl⟩ rfl rfl rfl rfl rfl (by kernel_rfl) Tryd.func4 (by kernel_rfl)
    (of_decide_eq_true (by kernel_rfl)) (by unfold Func.isWrapper; first | (rw [if_pos (by decide +kernel)]; kernel_rfl) | (rw [if_neg (by decide +kernel)]; exact ⟨rfl, rfl⟩))
    (fun os started H enc _ F => by rw [OpenClaim.pre_eq_preRow]; exact lifted_law os started H enc F)
theorem plain_law (f : FuncId) (fn : Func) (hf : Tryd.pinned.checked.prog.funcNamed Rows.codeCostsRow.func = some f) (hfn : Tryd.pinned.checked.prog.funcs[f]? = some fn) :
    false = Tryd.pinned.checked.prog.looks [] ∧ ∀ (j : Nat) t, fn.params[j]? = some t → Tryd.pinned.checked.prog.wantsStandIn t = false := by
  obtain rfl : f = 4 := Option.some.inj ((show Tryd.prog.funcNamed Rows.codeCostsRow.func = some 4 by kernel_rfl).symm.trans hf) |>.symm
  obtain rfl : fn = Tryd.f4 := (Option.some.inj (Tryd.func4.symm.trans hfn)).symm
  refine ⟨by kernel_rfl, fun j t ht => ?_⟩
  rw [Tryd.params4] at ht
  have hm := Array.mem_of_getElem? ht
  simp at hm
  rcases hm with rfl | rfl
  · exact (show Tryd.prog.wantsStandIn 23 = false by kernel_rfl)
  · exact (show Tryd.prog.wantsStandIn 3 = false by kernel_rfl)
theorem proved_codeCosts : Rows.CodeCostsCardSaid :=
  Claim7.holds_tied_plain_at .later [] _ _ _ _ said_law (fun _ h => by cases h) (by kernel_rfl) (fun _ h => by cases h) codeCosts_row_tie rfl ⟨rfl, rfl⟩ (by kernel_rfl) rfl plain_law (by kernel_rfl)
#print axioms proved_codeCosts
end Go.Proofs.YtfipfdpohkafaaaDoor
