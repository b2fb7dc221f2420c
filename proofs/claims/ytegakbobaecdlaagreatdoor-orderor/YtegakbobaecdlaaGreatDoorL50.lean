/-
 PROVED: a system can be sorted just if it has no round: what is sorted has the same rules,each once,and is sorted,and sorted again it stays;a round that is told goes by needs,from each rule to one that makes what it needs. There is no condition but that the tables start as the program's text lays them,which the card ties.
 DERIVED. The frame is the guide's template for a law over package-level tables; the walks lie in the texts beside this one.
-/
import Derived.Test.YtegakbobaecdlaaGreatDoorCards
import Derived.Test.YtegakbobaecdlaaGreatDoorTie
import Derived.Test.YtegakbobaecdlaaGreatDoorL49
import Derived.WalkKit
import Derived.ProofKit
import Derived.OpenShut
import Derived.Carry
import Derived.Deep.DeepHandedRow
import Derived.Lib.LaidTab
set_option linter.unusedVariables false
set_option linter.unusedSimpArgs false
set_option maxHeartbeats 64000000
set_option maxRecDepth 100000
namespace Go.Proofs.YtegakbobaecdlaaGreatDoor
open Go.ChangeShapes Go.WideShapes Go.ChangeAt Go.RowKit
theorem own_law:ownKnob Tryz.prog.godebug=none:=by kernel_rfl
theorem laidOut_law:laidOutB Tryz.prog=true:=by kernel_rfl
theorem contract_law (H:Type) (enc:TypeId × Value->H) (W:World) (base:Nat) (args:Array Value) (ds gs:List (DataW H)) (before:List MemPlace)
  (hval:∀ (j:Nat) t v,Tryz.f3.params[j]?=some t->args[j]?=some v->Value.okWide Tryz.prog W .any base t v)
  (hW:DataW.Whole enc Tryz.prog Tryz.f3.params.toList Rows.orderOrSpec.vars false W args.toList ds gs before)
  (hwt:(DataW.weightsEach Tryz.prog (Tryz.f3.params.toList++(OpenSpec.ofChange Rows.orderOrSpec).bare.plain.varTypes Tryz.prog) (ds++gs)).all (·<=reachBytes)=true)
  (hK:GlobK W) (hP:GlobP W) :
  Calls Tryz.prog 3 args W fun e W'=>∃ v,e=.returned v/\Rows.orderOrSpec.post enc Tryz.prog Tryz.f3 false true false false W args v W':=by
 have hW':=hW;obtain ⟨p,q,hA0,hV,rfl,hfz,hnd⟩:=hW;have hA:DataW.TrodAll enc Tryz.prog W 0 (fun _=>true) true Tryz.f3.params.toList args.toList ds p:=hA0;rw [Tryz.params3] at hA hval hwt;obtain ⟨v0,vs0,d0,ds0,p0,q0,hargs0,rfl,rfl,h0,r0⟩:=trodAll_cons hA;obtain ⟨rfl,rfl,rfl⟩:=trodAll_nil r0;obtain rfl:args=#[v0]:=by cases args;simp_all
 obtain ⟨rfl,rfl⟩:=trodVars_none hV;obtain ⟨cs0,rfl,_⟩:=okWide_struct Tryz.underlying26 (hval 0 26 v0 rfl rfl);have hw0:=qC _ _ hwt 0 26 d0 rfl rfl;have g0:=h0;obtain ⟨fu0,t0⟩:=g0;obtain ⟨aV0,aI0,aO0,aR0,cV0,cI0,cO0,cR0,S0,e0,hS0⟩:=open_system (enc:=enc) ⟨fu0,_,t0,hw0⟩;have x0:cs0=#[.slice aV0 S0.V.length cV0,.slice aI0 S0.I.length cI0,.slice aO0 S0.O.length cO0,.slice aR0 S0.R.length cR0]:=(by simpa [Value.cells,<-Array.toList_inj] using e0);subst x0;simp only [List.append_nil] at hW';refine (orderOr_walk hK hP hS0).mono fun e W' ⟨he,bel⟩=>?_;subst he;have hlt:∀ x ∈ p0,x.block<W.heap.size:=fun x hx=>by simpa using hW'.lt x (by simpa using hx)
 have k0:DataW.Trod enc Tryz.prog W' 0 (fun b=>decide (b<W.heap.size)) true 26 (Value.agg #[.slice aV0 S0.V.length cV0,.slice aI0 S0.I.length cI0,.slice aO0 S0.O.length cO0,.slice aR0 S0.R.length cR0]) d0 p0:=Below.trod laidOut_law (by kernel_rfl) (of_decide_eq_true (by kernel_rfl)) h0 bel (fun x hx=>hlt x (by simp [hx]));have kk:DataW.TrodAll enc Tryz.prog W' 0 (fun b=>decide (b<W.heap.size)) true [26] [Value.agg #[.slice aV0 S0.V.length cV0,.slice aI0 S0.I.length cI0,.slice aO0 S0.O.length cO0,.slice aR0 S0.R.length cR0]] [d0] (p0):=(by simpa using trodAll_cons_mk k0 trodAll_mk0);exact ⟨_,rfl,_,_,_,[],p0,[],hW',trodAll_mk1 (shut_bool Tryz.underlying4 _),kk,rfl,bel.frame _,fun h=>by cases h⟩
theorem laid_all {W:World} (h:laidMetH Tryz.prog Rows.orderOrRow.laid W):GlobK W/\GlobP W :=
 ⟨globK_of (h.filter (fun x => x.1 == "loomwork/kinds.operators")), globP_of (h.filter (fun x => x.1 == "loomwork/sys.partCounts"))⟩
def lay (w:World) (g:Nat) (cs:Array Value):World :=
 { w with heap:=w.heap.modify g fun
   | .cells _ t frozen=>.cells cs t frozen
   | o=>o }
noncomputable def laidWorld (os:Os):World:=lay (lay (World.holding Tryz.prog os ⟨#[],#[],[]⟩) 0
  #[.int .i64 0,.int .i64 0,.int .i64 1,.int .i64 1,.int .i64 2,.int .i64 3,.int .i64 2,.int .i64 2,.int .i64 1,.int .i64 3,.int .i64 3,.int .i64 1,.int .i64 2,.int .i64 2,.int .i64 0,.int .i64 1,.int .i64 1]) 1
  #[.int .u8 0,.int .u8 0,.int .i64 0,.int .u8 105,.int .u8 105,.int .i64 2,.int .u8 105,.int .u8 105,.int .i64 2,.int .u8 105,.int .u8 105,.int .i64 2,.int .u8 105,.int .u8 105,.int .i64 2,.int .u8 105,.int .u8 105,.int .i64 2,.int .u8 105,.int .u8 105,.int .i64 2,.int .u8 105,.int .u8 105,.int .i64 2,.int .u8 105,.int .u8 98,.int .i64 2,.int .u8 105,.int .u8 98,.int .i64 2,.int .u8 98,.int .u8 98,.int .i64 2,.int .u8 98,.int .u8 98,.int .i64 2,.int .u8 98,.int .u8 98,.int .i64 2,.int .u8 105,.int .u8 105,.int .i64 1,.int .u8 98,.int .u8 98,.int .i64 1]
theorem laid_met_law (os:Os):laidMet Tryz.prog Rows.orderOrRow.laid ((laidWorld os).forCall (fun _ _=>0) ⟨#[],#[.agg #[.slice none 0 0,.slice none 0 0,.slice none 0 0,.slice none 0 0]],[]⟩).memory :=
 laidMet_of_run' 8 (by kernel_rfl) (by kernel_rfl)
theorem reads_law (os:Os) {H:Type} (enc:TypeId × Value->H):∃ places,DataW.whole enc Tryz.prog ((laidWorld os).forCall (fun _ _=>0) ⟨#[],#[.agg #[.slice none 0 0,.slice none 0 0,.slice none 0 0,.slice none 0 0]],[]⟩).memory Tryz.f3.params.toList Rows.orderOrSpec.vars false #[Value.agg #[.slice none 0 0,.slice none 0 0,.slice none 0 0,.slice none 0 0]].toList 8=some ([.agg [.nil,.nil,.nil,.nil]],[],places) :=
 ⟨[],by kernel_rfl⟩
theorem lifted_law (os:Os) (started:os.Started) (H:Type) (enc:TypeId × Value->H) (F:Stop.Interp) :
  ReturnsInHanded {} Tryz.checked os 3 .any ((OpenSpec.ofChange Rows.orderOrSpec).preRow enc Tryz.prog Tryz.f3 Rows.orderOrRow.domain false Rows.orderOrRow.laid) (((OpenSpec.ofChange Rows.orderOrSpec).at F).post enc Tryz.prog Tryz.f3 false true false false):=by
 obtain ⟨places,hx⟩:=reads_law os enc;refine returnsInHanded_of_row (C:=Tryz.checked) (s:=OpenSpec.ofChange Rows.orderOrSpec) own_law started (by kernel_rfl) Tryz.func3
  (witness_row_at (enc:=enc) (C:=Tryz.checked) false (laidWorld os) #[.agg #[.slice none 0 0,.slice none 0 0,.slice none 0 0,.slice none 0 0]] rfl (by kernel_rfl) (by kernel_rfl) (by kernel_rfl)
   (OpenSpec.preRow_of_cond 8 hx (by kernel_rfl) (fun k hk=>by cases hk) (by kernel_rfl) (laid_met_law os))) ?_
 intro W base args ds gs before hval hW _ _ hwt hlaid _ _;exact contract_law H enc W base args ds gs before hval hW hwt (laid_all hlaid).1 (laid_all hlaid).2
theorem said_law:Rows.OrderOrSaid :=
 OpenClaim.holds_of_cond 3 Tryz.f3 rfl rfl rfl rfl rfl rfl rfl ⟨rfl,rfl,rfl,rfl,rfl⟩ rfl rfl rfl rfl rfl (by kernel_rfl) Tryz.func3 (by kernel_rfl)
  (of_decide_eq_true (by kernel_rfl)) (by unfold Func.isWrapper;first | (rw [if_pos (by decide +kernel)];kernel_rfl) | (rw [if_neg (by decide +kernel)];exact ⟨rfl,rfl⟩))
  (fun os started H enc _ F=>by rw [OpenClaim.pre_eq_preRow];exact lifted_law os started H enc F)
theorem plain_law (f:FuncId) (fn:Func) (hf:Tryz.pinned.checked.prog.funcNamed Rows.orderOrRow.func=some f) (hfn:Tryz.pinned.checked.prog.funcs[f]?=some fn) :
  false=Tryz.pinned.checked.prog.looks []/\∀ (j:Nat) t,fn.params[j]?=some t->Tryz.pinned.checked.prog.wantsStandIn t=false:=by
 obtain rfl:f=3:=Option.some.inj ((show Tryz.prog.funcNamed Rows.orderOrRow.func=some 3 by kernel_rfl).symm.trans hf) |>.symm;obtain rfl:fn=Tryz.f3:=(Option.some.inj (Tryz.func3.symm.trans hfn)).symm;refine ⟨by kernel_rfl,fun j t ht=>?_⟩;rw [Tryz.params3] at ht;have hm:=Array.mem_of_getElem? ht;simp at hm;have ht2:=ht;obtain rfl:=hm;exact (show Tryz.prog.wantsStandIn 26=false by kernel_rfl)
theorem proved_orderOr:Rows.OrderOrCardSaid :=
 Claim7.holds_tied_plain_at .later [] _ _ _ _ said_law (fun _ h=>by cases h) (by kernel_rfl) (fun _ h=>by cases h) orderOr_row_tie rfl ⟨rfl,rfl⟩ (by kernel_rfl) rfl plain_law (by kernel_rfl)
#print axioms proved_orderOr
end Go.Proofs.YtegakbobaecdlaaGreatDoor
