/-
 PROVED: for every system,whatever rows and whatever place its rules are turned at,the system with its rules in that other order tells the same of all rows,or neither can be sorted. There is no condition but that the tables start as the program's text lays them,which the card ties.
 DERIVED. The frame is the guide's template for a law over package-level tables; the walks lie in the texts beside this one.
-/
import Derived.Test.YtnhmcpnbaajjcaaGreatDoorCards
import Derived.Test.YtnhmcpnbaajjcaaGreatDoorTie
import Derived.Test.YtnhmcpnbaajjcaaGreatDoorC49
import Derived.WalkKit
import Derived.ProofKit
import Derived.OpenShut
import Derived.Carry
import Derived.Deep.DeepHandedRow
import Derived.Lib.LaidTab
set_option linter.unusedVariables false
set_option linter.unusedSimpArgs false
set_option maxHeartbeats 64000000
set_option maxRecDepth 100000
namespace Go.Proofs.YtnhmcpnbaajjcaaGreatDoor
open Go.ChangeShapes Go.WideShapes Go.ChangeAt Go.RowKit
theorem own_law:ownKnob Tryz.prog.godebug=none:=by kernel_rfl
theorem jY:laidOutB Tryz.prog=true:=by kernel_rfl
theorem contract_law (H:Type) (enc:TypeId × Value->H) (W:World) (base:Nat) (args:Array Value) (ds gs:List (DataW H)) (before:List MemPlace)
  (hval:∀ (j:Nat) t v,Tryz.f5.params[j]?=some t->args[j]?=some v->Value.okWide Tryz.prog W .any base t v)
  (hW:DataW.Whole enc Tryz.prog Tryz.f5.params.toList Rows.meanTurnsSpec.vars false W args.toList ds gs before)
  (hwt:(DataW.weightsEach Tryz.prog (Tryz.f5.params.toList++(OpenSpec.ofChange Rows.meanTurnsSpec).bare.plain.varTypes Tryz.prog) (ds++gs)).all (·<=reachBytes)=true)
  (hK:GlobK W) (hP:GlobP W) :
  Calls Tryz.prog 5 args W fun e W'=>∃ v,e=.returned v/\Rows.meanTurnsSpec.post enc Tryz.prog Tryz.f5 false true false false W args v W':=by
 have hW':=hW;obtain ⟨p,q,hA0,hV,rfl,hfz,hnd⟩:=hW;have hA:DataW.TrodAll enc Tryz.prog W 0 (fun _=>true) true Tryz.f5.params.toList args.toList ds p:=hA0;rw [Tryz.params5] at hA hval hwt;obtain ⟨v0,vs0,d0,ds0,p0,q0,hargs0,rfl,rfl,h0,r0⟩:=trodAll_cons hA;obtain ⟨v1,vs1,d1,ds1,p1,q1,hargs1,rfl,rfl,h1,r1⟩:=trodAll_cons r0;obtain ⟨v2,vs2,d2,ds2,p2,q2,hargs2,rfl,rfl,h2,r2⟩:=trodAll_cons r1;obtain ⟨rfl,rfl,rfl⟩:=trodAll_nil r2;subst hargs2;subst hargs1;obtain rfl:args=#[v0,v1,v2]:=by cases args;simp_all
 obtain ⟨rfl,rfl⟩:=trodVars_none hV;obtain ⟨cs0,rfl,_⟩:=okWide_struct Tryz.underlying26 (hval 0 26 v0 rfl rfl);obtain ⟨a1,n1,c1,rfl⟩:=okWide_slice Tryz.underlying47 (hval 1 47 v1 rfl rfl);have hw0:=xT _ _ hwt 0 26 d0 rfl rfl;have g0:=h0;obtain ⟨fu0,t0⟩:=g0;have hw1:=xT _ _ hwt 1 47 d1 rfl rfl;have g1:=h1;obtain ⟨fu1,t1⟩:=g1;obtain ⟨aV0,aI0,aO0,aR0,cV0,cI0,cO0,cR0,S0,e0,hS0⟩:=open_system (enc:=enc) ⟨fu0,_,t0,hw0⟩;have x0:cs0=#[.slice aV0 S0.V.length cV0,.slice aI0 S0.I.length cI0,.slice aO0 S0.O.length cO0,.slice aR0 S0.R.length cR0]:=(by simpa [Value.cells,<-Array.toList_inj] using e0);subst x0;obtain ⟨b1,m1,f1,rows1,e1,en1,hR1⟩:=open_rows (enc:=enc) (w:=W) (v:=.slice a1 n1 c1) ⟨fu1,_,t1,hw1⟩;rw [<-e1] at hR1;have g2:=h2;obtain ⟨x2,rfl,rfl,rfl,w2⟩:=open_int Tryz.underlying3 (hval 2 3 v2 rfl rfl) g2;simp only [List.append_nil] at hW';refine (turns_walk x2 hK hP hS0 hR1).mono fun e W' ⟨he,bel⟩=>?_;subst he;have hlt:∀ x ∈ p0++p1,x.block<W.heap.size:=fun x hx=>by simpa using hW'.lt x (by simpa using hx)
 have k0:DataW.Trod enc Tryz.prog W' 0 (fun b=>decide (b<W.heap.size)) true 26 (Value.agg #[.slice aV0 S0.V.length cV0,.slice aI0 S0.I.length cI0,.slice aO0 S0.O.length cO0,.slice aR0 S0.R.length cR0]) d0 p0:=Below.trod jY (by kernel_rfl) (of_decide_eq_true (by kernel_rfl)) h0 bel (fun x hx=>hlt x (by simp [hx]));have k1:DataW.Trod enc Tryz.prog W' 0 (fun b=>decide (b<W.heap.size)) true 47 (Value.slice a1 n1 c1) d1 p1:=Below.trod jY (by kernel_rfl) (of_decide_eq_true (by kernel_rfl)) h1 bel (fun x hx=>hlt x (by simp [hx]));have kk:DataW.TrodAll enc Tryz.prog W' 0 (fun b=>decide (b<W.heap.size)) true [26,47,3] [Value.agg #[.slice aV0 S0.V.length cV0,.slice aI0 S0.I.length cI0,.slice aO0 S0.O.length cO0,.slice aR0 S0.R.length cR0],Value.slice a1 n1 c1,Value.int .i64 x2] [d0,d1,.lit (.int .i64 x2)] (p0++p1):=(by simpa using trodAll_cons_mk k0 (trodAll_cons_mk k1 (trodAll_cons_mk (shut_int Tryz.underlying3 w2) trodAll_mk0)));exact ⟨_,rfl,_,_,_,[],p0++p1,[],hW',trodAll_mk1 (shut_bool Tryz.underlying4 _),kk,rfl,bel.frame _,fun h=>by cases h⟩
theorem laid_all {W:World} (h:laidMetH Tryz.prog Rows.meanTurnsRow.laid W):GlobK W/\GlobP W :=
 ⟨globK_of (h.filter (fun x => x.1 == "loomwork/kinds.operators")), globP_of (h.filter (fun x => x.1 == "loomwork/sys.partCounts"))⟩
def lay (w:World) (g:Nat) (cs:Array Value):World :=
 { w with heap:=w.heap.modify g fun
   | .cells _ t frozen=>.cells cs t frozen
   | o=>o }
noncomputable def laidWorld (os:Os):World:=lay (lay (World.holding Tryz.prog os ⟨#[],#[],[]⟩) 0
  #[.int .i64 0,.int .i64 0,.int .i64 1,.int .i64 1,.int .i64 2,.int .i64 3,.int .i64 2,.int .i64 2,.int .i64 1,.int .i64 3,.int .i64 3,.int .i64 1,.int .i64 2,.int .i64 2,.int .i64 0,.int .i64 1,.int .i64 1]) 1
  #[.int .u8 0,.int .u8 0,.int .i64 0,.int .u8 105,.int .u8 105,.int .i64 2,.int .u8 105,.int .u8 105,.int .i64 2,.int .u8 105,.int .u8 105,.int .i64 2,.int .u8 105,.int .u8 105,.int .i64 2,.int .u8 105,.int .u8 105,.int .i64 2,.int .u8 105,.int .u8 105,.int .i64 2,.int .u8 105,.int .u8 105,.int .i64 2,.int .u8 105,.int .u8 98,.int .i64 2,.int .u8 105,.int .u8 98,.int .i64 2,.int .u8 98,.int .u8 98,.int .i64 2,.int .u8 98,.int .u8 98,.int .i64 2,.int .u8 98,.int .u8 98,.int .i64 2,.int .u8 105,.int .u8 105,.int .i64 1,.int .u8 98,.int .u8 98,.int .i64 1]
theorem laid_met_law (os:Os):laidMet Tryz.prog Rows.meanTurnsRow.laid ((laidWorld os).forCall (fun _ _=>0) ⟨#[],#[.agg #[.slice none 0 0,.slice none 0 0,.slice none 0 0,.slice none 0 0],.slice none 0 0,.int .i64 0],[]⟩).memory :=
 laidMet_of_run' 8 (by kernel_rfl) (by kernel_rfl)
theorem reads_law (os:Os) {H:Type} (enc:TypeId × Value->H):∃ places,DataW.whole enc Tryz.prog ((laidWorld os).forCall (fun _ _=>0) ⟨#[],#[.agg #[.slice none 0 0,.slice none 0 0,.slice none 0 0,.slice none 0 0],.slice none 0 0,.int .i64 0],[]⟩).memory Tryz.f5.params.toList Rows.meanTurnsSpec.vars false #[Value.agg #[.slice none 0 0,.slice none 0 0,.slice none 0 0,.slice none 0 0],Value.slice none 0 0,Value.int .i64 0].toList 8=some ([.agg [.nil,.nil,.nil,.nil],.nil,.lit (.int .i64 0)],[],places) :=
 ⟨[],by kernel_rfl⟩
theorem lifted_law (os:Os) (started:os.Started) (H:Type) (enc:TypeId × Value->H) (F:Stop.Interp) :
  ReturnsInHanded {} Tryz.checked os 5 .any ((OpenSpec.ofChange Rows.meanTurnsSpec).preRow enc Tryz.prog Tryz.f5 Rows.meanTurnsRow.domain false Rows.meanTurnsRow.laid) (((OpenSpec.ofChange Rows.meanTurnsSpec).at F).post enc Tryz.prog Tryz.f5 false true false false):=by
 obtain ⟨places,hx⟩:=reads_law os enc;refine returnsInHanded_of_row (C:=Tryz.checked) (s:=OpenSpec.ofChange Rows.meanTurnsSpec) own_law started (by kernel_rfl) Tryz.func5
  (witness_row_at (enc:=enc) (C:=Tryz.checked) false (laidWorld os) #[.agg #[.slice none 0 0,.slice none 0 0,.slice none 0 0,.slice none 0 0],.slice none 0 0,.int .i64 0] rfl (by kernel_rfl) (by kernel_rfl) (by kernel_rfl)
   (OpenSpec.preRow_of_cond 8 hx (by kernel_rfl) (fun k hk=>by cases hk) (by kernel_rfl) (laid_met_law os))) ?_
 intro W base args ds gs before hval hW _ _ hwt hlaid _ _;exact contract_law H enc W base args ds gs before hval hW hwt (laid_all hlaid).1 (laid_all hlaid).2
theorem said_law:Rows.MeanTurnsSaid :=
 OpenClaim.holds_of_cond 5 Tryz.f5 rfl rfl rfl rfl rfl rfl rfl ⟨rfl,rfl,rfl,rfl,rfl⟩ rfl rfl rfl rfl rfl (by kernel_rfl) Tryz.func5 (by kernel_rfl)
  (of_decide_eq_true (by kernel_rfl)) (by unfold Func.isWrapper;first | (rw [if_pos (by decide +kernel)];kernel_rfl) | (rw [if_neg (by decide +kernel)];exact ⟨rfl,rfl⟩))
  (fun os started H enc _ F=>by rw [OpenClaim.pre_eq_preRow];exact lifted_law os started H enc F)
theorem plain_law (f:FuncId) (fn:Func) (hf:Tryz.pinned.checked.prog.funcNamed Rows.meanTurnsRow.func=some f) (hfn:Tryz.pinned.checked.prog.funcs[f]?=some fn) :
  false=Tryz.pinned.checked.prog.looks []/\∀ (j:Nat) t,fn.params[j]?=some t->Tryz.pinned.checked.prog.wantsStandIn t=false:=by
 obtain rfl:f=5:=Option.some.inj ((show Tryz.prog.funcNamed Rows.meanTurnsRow.func=some 5 by kernel_rfl).symm.trans hf) |>.symm;obtain rfl:fn=Tryz.f5:=(Option.some.inj (Tryz.func5.symm.trans hfn)).symm;refine ⟨by kernel_rfl,fun j t ht=>?_⟩;rw [Tryz.params5] at ht;have hm:=Array.mem_of_getElem? ht;simp at hm;rcases hm with rfl | rfl | rfl
 ·exact (show Tryz.prog.wantsStandIn 26=false by kernel_rfl)
 ·exact (show Tryz.prog.wantsStandIn 47=false by kernel_rfl)
 ·exact (show Tryz.prog.wantsStandIn 3=false by kernel_rfl)
theorem proved_meanTurns:Rows.MeanTurnsCardSaid :=
 Claim7.holds_tied_plain_at .later [] _ _ _ _ said_law (fun _ h=>by cases h) (by kernel_rfl) (fun _ h=>by cases h) meanTurns_row_tie rfl ⟨rfl,rfl⟩ (by kernel_rfl) rfl plain_law (by kernel_rfl)
#print axioms proved_meanTurns
end Go.Proofs.YtnhmcpnbaajjcaaGreatDoor
