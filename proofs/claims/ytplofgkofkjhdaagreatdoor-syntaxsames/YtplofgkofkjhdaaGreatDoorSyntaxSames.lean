/-
  PROVED: for every two programs, syntax.Same tells of them what the document says, and that a program and a copy of it in memory of its own are the same; what is handed in stays. There is no condition but that the table of operators starts as the program's text lays it, which the card ties.
  DERIVED. The frame is the guide's template for a law over a package-level table; the walks lie in the texts beside this one.
-/
import Derived.Test.YtplofgkofkjhdaaGreatDoorCards
import Derived.Test.YtplofgkofkjhdaaGreatDoorTie
import Derived.Test.YtplofgkofkjhdaaGreatDoorLw1
import Derived.Test.YtplofgkofkjhdaaGreatDoorCp6
import Derived.WalkKit
import Derived.ProofKit
import Derived.OpenShut
import Derived.Carry
import Derived.Deep.DeepHandedRow
import Derived.Lib.LaidTab
namespace Go.Proofs.YtplofgkofkjhdaaGreatDoor
open Go.ChangeShapes Go.WideShapes Go.ChangeAt Go.RowKit
set_option linter.unusedVariables false

theorem own_sames : ownKnob Tryz.prog.godebug = none := by kernel_rfl
theorem laidOut_sames : laidOutB Tryz.prog = true := by kernel_rfl

set_option maxRecDepth 100000 in
theorem contract_sames (hcopy : CopyContract) (H : Type) (enc : TypeId × Value → H) (W : World) (base : Nat) (args : Array Value) (ds gs : List (DataW H)) (before : List MemPlace)
    (hval : ∀ (j : Nat) t v, Tryz.f4.params[j]? = some t → args[j]? = some v → Value.okWide Tryz.prog W .any base t v)
    (hW : DataW.Whole enc Tryz.prog Tryz.f4.params.toList Rows.syntaxSamesSpec.vars false W args.toList ds gs before)
    (hwt : (DataW.weightsEach Tryz.prog (Tryz.f4.params.toList ++ (OpenSpec.ofChange Rows.syntaxSamesSpec).bare.plain.varTypes Tryz.prog) (ds ++ gs)).all (· ≤ reachBytes) = true) :
    Calls Tryz.prog 4 args W fun e W' => ∃ v, e = .returned v ∧ Rows.syntaxSamesSpec.post enc Tryz.prog Tryz.f4 false true false false W args v W' := by
  have hW' := hW
  obtain ⟨p, q, hA0, hV, rfl, hfz, hnd⟩ := hW
  have hA : DataW.TrodAll enc Tryz.prog W 0 (fun _ => true) true Tryz.f4.params.toList args.toList ds p := hA0
  rw [Tryz.params4] at hA hval hwt
  obtain ⟨v0, vs0, d0, ds0, p0, q0, hargs, rfl, rfl, h0, r0⟩ := trodAll_cons hA
  obtain ⟨v1, vs1, d1, ds1, p1, q1, hargs1, rfl, rfl, h1, r1⟩ := trodAll_cons r0
  obtain ⟨rfl, rfl, rfl⟩ := trodAll_nil r1
  subst hargs1
  obtain rfl : args = #[v0, v1] := by cases args; simp_all
  obtain ⟨rfl, rfl⟩ := trodVars_none hV
  obtain ⟨cs0, rfl, _⟩ := okWide_struct Tryz.underlying25 (hval 0 25 v0 rfl rfl)
  obtain ⟨cs1, rfl, _⟩ := okWide_struct Tryz.underlying25 (hval 1 25 v1 rfl rfl)
  have hw0 := weightsEach_at _ _ hwt 0 25 d0 rfl rfl
  have hw1 := weightsEach_at _ _ hwt 1 25 d1 rfl rfl
  have g0 := h0
  have g1 := h1
  obtain ⟨fu0, t0⟩ := g0
  obtain ⟨fu1, t1⟩ := g1
  obtain ⟨a, n, c, l, e0, hl, fl⟩ := open_program (enc := enc) ⟨fu0, _, t0, hw0⟩
  obtain ⟨a', n', c', r, e1, hr, fr⟩ := open_program (enc := enc) ⟨fu1, _, t1, hw1⟩
  have x0 : cs0 = #[.slice a n c] := by simpa [Value.cells, ← Array.toList_inj] using e0
  have x1 : cs1 = #[.slice a' n' c'] := by simpa [Value.cells, ← Array.toList_inj] using e1
  subst x0 x1
  simp only [List.append_nil] at hW'
  refine (sames_walk hcopy hl hr fl).mono fun e W' ⟨he, bel⟩ => ?_
  subst he
  have hlt : ∀ x ∈ p0 ++ p1, x.block < W.heap.size := fun x hx => by simpa using hW'.lt x hx
  have k0 : DataW.Trod enc Tryz.prog W' 0 (fun b => decide (b < W.heap.size)) true 25 (.agg #[.slice a n c]) d0 p0 := Below.trod laidOut_sames (by kernel_rfl) (of_decide_eq_true (by kernel_rfl)) h0 bel (fun x hx => hlt x (List.mem_append_left _ hx))
  have k1 : DataW.Trod enc Tryz.prog W' 0 (fun b => decide (b < W.heap.size)) true 25 (.agg #[.slice a' n' c']) d1 p1 := Below.trod laidOut_sames (by kernel_rfl) (of_decide_eq_true (by kernel_rfl)) h1 bel (fun x hx => hlt x (List.mem_append_right _ hx))
  have kk : DataW.TrodAll enc Tryz.prog W' 0 (fun b => decide (b < W.heap.size)) true [25, 25] [Value.agg #[Value.slice a n c], Value.agg #[Value.slice a' n' c']] [d0, d1] (p0 ++ p1) := by simpa using trodAll_cons_mk k0 (trodAll_cons_mk k1 trodAll_mk0)
  exact ⟨_, rfl, _, _, _, [], p0 ++ p1, [], hW', trodAll_mk1 (shut_bool Tryz.underlying4 _), kk, rfl, bel.frame _, fun h => by cases h⟩

/-- A WORLD FOR THE WITNESS: the settled one, the table holding what its initialiser lays. -/
noncomputable def laidWorld (os : Os) : World :=
  { World.holding Tryz.prog os ⟨#[], #[], []⟩ with heap := (World.holding Tryz.prog os ⟨#[], #[], []⟩).heap.modify 1 fun
      | .cells _ t frozen => .cells #[.string ⟨#[97, 100, 100]⟩, .string ⟨#[115, 117, 98]⟩, .string ⟨#[109, 117, 108]⟩, .string ⟨#[100, 105, 118]⟩, .string ⟨#[109, 111, 100]⟩, .string ⟨#[109, 105, 110]⟩, .string ⟨#[109, 97, 120]⟩, .string ⟨#[108, 101, 115, 115]⟩, .string ⟨#[101, 113]⟩, .string ⟨#[97, 110, 100]⟩, .string ⟨#[111, 114]⟩, .string ⟨#[120, 111, 114]⟩, .string ⟨#[110, 101, 103]⟩, .string ⟨#[110, 111, 116]⟩] t frozen
      | o => o }
theorem laid_met_sames (os : Os) : laidMet Tryz.prog Rows.syntaxSamesRow.laid ((laidWorld os).forCall (fun _ _ => 0) ⟨#[], #[.agg #[.slice none 0 0], .agg #[.slice none 0 0]], []⟩).memory :=
  laidMet_of_run' 8 (by kernel_rfl) (by kernel_rfl)
theorem reads_sames (os : Os) {H : Type} (enc : TypeId × Value → H) : ∃ places, DataW.whole enc Tryz.prog ((laidWorld os).forCall (fun _ _ => 0) ⟨#[], #[.agg #[.slice none 0 0], .agg #[.slice none 0 0]], []⟩).memory Tryz.f4.params.toList Rows.syntaxSamesSpec.vars false #[Value.agg #[.slice none 0 0], Value.agg #[.slice none 0 0]].toList 8 = some ([.agg [.nil], .agg [.nil]], [], places) :=
  ⟨[], by kernel_rfl⟩

set_option maxRecDepth 100000 in
theorem lifted_sames (hcopy : CopyContract) (os : Os) (started : os.Started) (H : Type) (enc : TypeId × Value → H) (F : Stop.Interp) :
    ReturnsInHanded {} Tryz.checked os 4 .any ((OpenSpec.ofChange Rows.syntaxSamesSpec).preRow enc Tryz.prog Tryz.f4 Rows.syntaxSamesRow.domain false Rows.syntaxSamesRow.laid) (((OpenSpec.ofChange Rows.syntaxSamesSpec).at F).post enc Tryz.prog Tryz.f4 false true false false) := by
  obtain ⟨places, hx⟩ := reads_sames os enc
  refine returnsInHanded_of_row (C := Tryz.checked) (s := OpenSpec.ofChange Rows.syntaxSamesSpec) own_sames started (by kernel_rfl) Tryz.func4
    (witness_row_at (enc := enc) (C := Tryz.checked) false (laidWorld os) #[.agg #[.slice none 0 0], .agg #[.slice none 0 0]] rfl (by kernel_rfl) (by kernel_rfl) (by kernel_rfl)
      (OpenSpec.preRow_of_cond 8 hx (by kernel_rfl) (fun k hk => by cases hk) (by kernel_rfl) (laid_met_sames os))) ?_
  intro W base args ds gs before hval hW _ _ hwt _ _ _
  exact contract_sames hcopy H enc W base args ds gs before hval hW hwt

theorem said_sames (hcopy : CopyContract) : Rows.SyntaxSamesSaid :=
  OpenClaim.holds_of_cond 4 Tryz.f4 rfl rfl rfl rfl rfl rfl rfl ⟨rfl, rfl, rfl, rfl, rfl⟩ rfl rfl rfl rfl rfl (by kernel_rfl) Tryz.func4 (by kernel_rfl)
    (of_decide_eq_true (by kernel_rfl)) (by unfold Func.isWrapper; first | (rw [if_pos (by decide +kernel)]; kernel_rfl) | (rw [if_neg (by decide +kernel)]; exact ⟨rfl, rfl⟩))
    (fun os started H enc _ F => by rw [OpenClaim.pre_eq_preRow]; exact lifted_sames hcopy os started H enc F)

theorem plain_sames (f : FuncId) (fn : Func) (hf : Tryz.pinned.checked.prog.funcNamed Rows.syntaxSamesRow.func = some f) (hfn : Tryz.pinned.checked.prog.funcs[f]? = some fn) :
    true = Tryz.pinned.checked.prog.looks [] ∧ ∀ (j : Nat) t, fn.params[j]? = some t → Tryz.pinned.checked.prog.wantsStandIn t = false := by
  obtain rfl : f = 4 := Option.some.inj ((show Tryz.prog.funcNamed Rows.syntaxSamesRow.func = some 4 by kernel_rfl).symm.trans hf) |>.symm
  obtain rfl : fn = Tryz.f4 := (Option.some.inj (Tryz.func4.symm.trans hfn)).symm
  refine ⟨by kernel_rfl, fun j t ht => ?_⟩
  rw [Tryz.params4] at ht
  obtain rfl : t = 25 := by simpa using Array.mem_of_getElem? ht
  exact (show Tryz.prog.wantsStandIn 25 = false by kernel_rfl)

theorem card_sames (hcopy : CopyContract) : Rows.SyntaxSamesCardSaid :=
  Claim7.holds_tied_plain_at .later [] _ _ _ _ (said_sames hcopy) (fun _ h => by cases h) (by kernel_rfl) (fun _ h => by cases h) syntaxSames_row_tie rfl ⟨rfl, rfl⟩ (by kernel_rfl) rfl plain_sames (by kernel_rfl)

theorem proved_syntaxSames : Rows.SyntaxSamesCardSaid := card_sames fun _ _ _ _ _ _ h f => copyProgram_any h f

end Go.Proofs.YtplofgkofkjhdaaGreatDoor
