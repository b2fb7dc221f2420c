/-
 PROVED: Whatever system and rows DeadSame of loomworklaw is handed,it answers true: dead.Trim leaves out what is not needed,and what stays tells the same,row by row. There is no condition but that the tables start as the program's text lays them,which the card ties.
 DERIVED. The frame is the guide's template for a law over package-level tables; the walks lie in the texts beside this one.
-/
import Derived.Test.YtfhghlpfeeiaeaaGreatDoorCards
import Derived.Test.YtfhghlpfeeiaeaaGreatDoorTie
import Derived.Test.YtfhghlpfeeiaeaaGreatDoorX49
import Derived.WalkKit
import Derived.ProofKit
import Derived.OpenShut
import Derived.Carry
import Derived.Deep.DeepHandedRow
import Derived.Lib.LaidTab
set_option linter.unusedVariables false
set_option linter.unusedSimpArgs false
set_option maxHeartbeats 64000000
set_option maxRecDepth 100000
namespace Go.Proofs.YtfhghlpfeeiaeaaGreatDoor
open Go.ChangeShapes Go.WideShapes Go.ChangeAt Go.RowKit
theorem own_law:ownKnob Tryz.prog.godebug=none:=by kernel_rfl
theorem zAO:laidOutB Tryz.prog=true:=by kernel_rfl
theorem contract_law (H:Type) (enc:TypeId × Value->H) (W:World) (base:Nat) (args:Array Value) (ds gs:List (DataW H)) (before:List MemPlace)
  (qs:∀ (j:Nat) t v,Tryz.f3.params[j]?=some t->args[j]?=some v->Value.okWide Tryz.prog W .any base t v)
  (hW:DataW.Whole enc Tryz.prog Tryz.f3.params.toList Rows.deadSameSpec.vars false W args.toList ds gs before)
  (jA:(DataW.weightsEach Tryz.prog (Tryz.f3.params.toList++(OpenSpec.ofChange Rows.deadSameSpec).bare.plain.varTypes Tryz.prog) (ds++gs)).all (·<=reachBytes)=true)
  (hK:GlobK W) (hP:GlobP W) :
  Calls Tryz.prog 3 args W fun e W'=>∃ v,e=.returned v/\Rows.deadSameSpec.post enc Tryz.prog Tryz.f3 false true false false W args v W':=by
 have Gr:=hW;obtain ⟨p,q,Gc,hV,rfl,Lg,jZ⟩:=hW;have hA:DataW.TrodAll enc Tryz.prog W 0 (fun _=>true) true Tryz.f3.params.toList args.toList ds p:=Gc;rw [Tryz.params3] at hA qs jA;obtain ⟨v0,RM,d0,Q2,p0,q0,Gu,rfl,rfl,h0,r0⟩:=trodAll_cons hA;obtain ⟨v1,RN,d1,Q3,p1,q1,wO,rfl,rfl,h1,r1⟩:=trodAll_cons r0;obtain ⟨rfl,rfl,rfl⟩:=trodAll_nil r1;subst wO;obtain rfl:args=#[v0,v1]:=by cases args;simp_all
 obtain ⟨rfl,rfl⟩:=trodVars_none hV;obtain ⟨ND,rfl,_⟩:=okWide_struct Tryz.underlying26 (qs 0 26 v0 rfl rfl);obtain ⟨a1,n1,c1,rfl⟩:=okWide_slice Tryz.underlying27 (qs 1 27 v1 rfl rfl);have Hv:=zBy _ _ jA 0 26 d0 rfl rfl;have g0:=h0;obtain ⟨N0,t0⟩:=g0;have iA:=zBy _ _ jA 1 27 d1 rfl rfl;have g1:=h1;obtain ⟨N1,t1⟩:=g1;obtain ⟨FN,DC,FM,yF,FV,DG,FU,yH,S0,e0,Gm⟩:=open_systemW (enc:=enc) ⟨N0,_,t0,Hv⟩;have x0:ND=#[.slice FN S0.V.length FV,.slice DC S0.I.length DG,.slice FM S0.O.length FU,.slice yF S0.R.length yH]:=(by simpa [Value.cells,<-Array.toList_inj] using e0);subst x0;obtain ⟨b1,m1,f1,Mh,e1,Q7,bY⟩:=open_rowsW (enc:=enc) (w:=W) (v:=.slice a1 n1 c1) ⟨N1,_,t1,iA⟩;rw [<-e1] at bY;simp only [List.append_nil] at Gr;refine (zBE hK hP Gm bY).mono fun e W' ⟨he,jH⟩=>?_;subst he;have bd:∀ x ∈ p0++p1,x.block<W.heap.size:=fun x hx=>by simpa using Gr.lt x (by simpa using hx)
 have k0:DataW.Trod enc Tryz.prog W' 0 (fun b=>decide (b<W.heap.size)) true 26 (Value.agg #[.slice FN S0.V.length FV,.slice DC S0.I.length DG,.slice FM S0.O.length FU,.slice yF S0.R.length yH]) d0 p0:=Below.trod zAO (by kernel_rfl) (of_decide_eq_true (by kernel_rfl)) h0 jH (fun x hx=>bd x (by simp [hx]));have k1:DataW.Trod enc Tryz.prog W' 0 (fun b=>decide (b<W.heap.size)) true 27 (Value.slice a1 n1 c1) d1 p1:=Below.trod zAO (by kernel_rfl) (of_decide_eq_true (by kernel_rfl)) h1 jH (fun x hx=>bd x (by simp [hx]));have kk:DataW.TrodAll enc Tryz.prog W' 0 (fun b=>decide (b<W.heap.size)) true [26,27] [Value.agg #[.slice FN S0.V.length FV,.slice DC S0.I.length DG,.slice FM S0.O.length FU,.slice yF S0.R.length yH],Value.slice a1 n1 c1] [d0,d1] (p0++p1):=(by simpa using trodAll_cons_mk k0 (trodAll_cons_mk k1 trodAll_mk0));exact ⟨_,rfl,_,_,_,[],p0++p1,[],Gr,trodAll_mk1 (shut_bool Tryz.underlying4 _),kk,rfl,jH.frame _,fun h=>by cases h⟩
theorem laid_all {W:World} (h:laidMetH Tryz.prog Rows.deadSameRow.laid W):GlobK W/\GlobP W :=
 ⟨globK_of (h.filter (fun x => x.1 == "loomwork/kinds.operators")), globP_of (h.filter (fun x => x.1 == "loomwork/sys.partCounts"))⟩
def lay (w:World) (g:Nat) (cs:Array Value):World :=
 { w with heap:=w.heap.modify g fun
   | .cells _ t frozen=>.cells cs t frozen
   | o=>o }
noncomputable def laidWorld (os:Os):World:=lay (lay (World.holding Tryz.prog os ⟨#[],#[],[]⟩) 0
  #[.int .i64 0,.int .i64 0,.int .i64 1,.int .i64 1,.int .i64 2,.int .i64 3,.int .i64 2,.int .i64 2,.int .i64 1,.int .i64 3,.int .i64 3,.int .i64 1,.int .i64 2,.int .i64 2,.int .i64 0,.int .i64 1,.int .i64 1]) 1
  #[.int .u8 0,.int .u8 0,.int .i64 0,.int .u8 105,.int .u8 105,.int .i64 2,.int .u8 105,.int .u8 105,.int .i64 2,.int .u8 105,.int .u8 105,.int .i64 2,.int .u8 105,.int .u8 105,.int .i64 2,.int .u8 105,.int .u8 105,.int .i64 2,.int .u8 105,.int .u8 105,.int .i64 2,.int .u8 105,.int .u8 105,.int .i64 2,.int .u8 105,.int .u8 98,.int .i64 2,.int .u8 105,.int .u8 98,.int .i64 2,.int .u8 98,.int .u8 98,.int .i64 2,.int .u8 98,.int .u8 98,.int .i64 2,.int .u8 98,.int .u8 98,.int .i64 2,.int .u8 105,.int .u8 105,.int .i64 1,.int .u8 98,.int .u8 98,.int .i64 1]
theorem laid_met_law (os:Os):laidMet Tryz.prog Rows.deadSameRow.laid ((laidWorld os).forCall (fun _ _=>0) ⟨#[],#[.agg #[.slice none 0 0,.slice none 0 0,.slice none 0 0,.slice none 0 0],.slice none 0 0],[]⟩).memory :=
 laidMet_of_run' 8 (by kernel_rfl) (by kernel_rfl)
theorem reads_law (os:Os) {H:Type} (enc:TypeId × Value->H):∃ places,DataW.whole enc Tryz.prog ((laidWorld os).forCall (fun _ _=>0) ⟨#[],#[.agg #[.slice none 0 0,.slice none 0 0,.slice none 0 0,.slice none 0 0],.slice none 0 0],[]⟩).memory Tryz.f3.params.toList Rows.deadSameSpec.vars false #[Value.agg #[.slice none 0 0,.slice none 0 0,.slice none 0 0,.slice none 0 0],Value.slice none 0 0].toList 8=some ([.agg [.nil,.nil,.nil,.nil],.nil],[],places) :=
 ⟨[],by kernel_rfl⟩
theorem lifted_law (os:Os) (started:os.Started) (H:Type) (enc:TypeId × Value->H) (F:Stop.Interp) :
  ReturnsInHanded {} Tryz.checked os 3 .any ((OpenSpec.ofChange Rows.deadSameSpec).preRow enc Tryz.prog Tryz.f3 Rows.deadSameRow.domain false Rows.deadSameRow.laid) (((OpenSpec.ofChange Rows.deadSameSpec).at F).post enc Tryz.prog Tryz.f3 false true false false):=by
 obtain ⟨places,hx⟩:=reads_law os enc;refine returnsInHanded_of_row (C:=Tryz.checked) (s:=OpenSpec.ofChange Rows.deadSameSpec) own_law started (by kernel_rfl) Tryz.func3
  (witness_row_at (enc:=enc) (C:=Tryz.checked) false (laidWorld os) #[.agg #[.slice none 0 0,.slice none 0 0,.slice none 0 0,.slice none 0 0],.slice none 0 0] rfl (by kernel_rfl) (by kernel_rfl) (by kernel_rfl)
   (OpenSpec.preRow_of_cond 8 hx (by kernel_rfl) (fun k hk=>by cases hk) (by kernel_rfl) (laid_met_law os))) ?_
 intro W base args ds gs before qs hW _ _ jA ui _ _;exact contract_law H enc W base args ds gs before qs hW jA (laid_all ui).1 (laid_all ui).2
theorem said_law:Rows.DeadSameSaid :=
 OpenClaim.holds_of_cond 3 Tryz.f3 rfl rfl rfl rfl rfl rfl rfl ⟨rfl,rfl,rfl,rfl,rfl⟩ rfl rfl rfl rfl rfl (by kernel_rfl) Tryz.func3 (by kernel_rfl)
  (of_decide_eq_true (by kernel_rfl)) (by unfold Func.isWrapper;first | (rw [if_pos (by decide +kernel)];kernel_rfl) | (rw [if_neg (by decide +kernel)];exact ⟨rfl,rfl⟩))
  (fun os started H enc _ F=>by rw [OpenClaim.pre_eq_preRow];exact lifted_law os started H enc F)
theorem plain_law (f:FuncId) (fn:Func) (hf:Tryz.pinned.checked.prog.funcNamed Rows.deadSameRow.func=some f) (OI:Tryz.pinned.checked.prog.funcs[f]?=some fn) :
  false=Tryz.pinned.checked.prog.looks []/\∀ (j:Nat) t,fn.params[j]?=some t->Tryz.pinned.checked.prog.wantsStandIn t=false:=by
 obtain rfl:f=3:=Option.some.inj ((show Tryz.prog.funcNamed Rows.deadSameRow.func=some 3 by kernel_rfl).symm.trans hf) |>.symm;obtain rfl:fn=Tryz.f3:=(Option.some.inj (Tryz.func3.symm.trans OI)).symm;refine ⟨by kernel_rfl,fun j t ht=>?_⟩;rw [Tryz.params3] at ht;have hm:=Array.mem_of_getElem? ht;simp at hm;rcases hm with rfl | rfl
 ·exact (show Tryz.prog.wantsStandIn 26=false by kernel_rfl)
 ·exact (show Tryz.prog.wantsStandIn 27=false by kernel_rfl)
theorem proved_deadSame:Rows.DeadSameCardSaid :=
 Claim7.holds_tied_plain_at .later [] _ _ _ _ said_law (fun _ h=>by cases h) (by kernel_rfl) (fun _ h=>by cases h) deadSame_row_tie rfl ⟨rfl,rfl⟩ (by kernel_rfl) rfl plain_law (by kernel_rfl)
#print axioms proved_deadSame
end Go.Proofs.YtfhghlpfeeiaeaaGreatDoor
