/-
 PROVED: for every two programs that may stand as texts,render.Print answers the same text of both just if syntax.Same says that they are the same;what is handed in stays. There is no condition but that the tables start as the program's text lays them,which the card ties.
 DERIVED. The frame is the guide's template for a law over package-level tables; the walks lie in the texts beside this one.
-/
import Derived.Test.YtophfbefnaelfaaGreatDoorCards
import Derived.Test.YtophfbefnaelfaaGreatDoorTie
import Derived.Test.YtophfbefnaelfaaGreatDoorA43
import Derived.Test.YtophfbefnaelfaaGreatDoorA49
import Derived.WalkKit
import Derived.ProofKit
import Derived.OpenShut
import Derived.Carry
import Derived.Deep.DeepHandedRow
import Derived.Lib.LaidTab
set_option linter.unusedVariables false
set_option linter.unusedSimpArgs false
set_option maxHeartbeats 64000000
set_option maxRecDepth 100000
namespace Go.Proofs.YtophfbefnaelfaaGreatDoor
open Go.ChangeShapes Go.WideShapes Go.ChangeAt Go.RowKit
theorem own_law:ownKnob Tryz.prog.godebug=none:=by kernel_rfl
theorem laidOut_law:laidOutB Tryz.prog=true:=by kernel_rfl
theorem contract_law (H:Type) (enc:TypeId × Value→H) (W:World) (base:Nat) (args:Array Value) (ds gs:List (DataW H)) (before:List MemPlace)
  (hval:∀ (j:Nat) t v,Tryz.f6.params[j]?=some t→args[j]?=some v→Value.okWide Tryz.prog W .any base t v)
  (hW:DataW.Whole enc Tryz.prog Tryz.f6.params.toList Rows.renderApartSpec.vars false W args.toList ds gs before)
  (hwt:(DataW.weightsEach Tryz.prog (Tryz.f6.params.toList++(OpenSpec.ofChange Rows.renderApartSpec).bare.plain.varTypes Tryz.prog) (ds++gs)).all (·≤reachBytes)=true)
  (hT:GlobT W) (hG:Gl (fun i=>i<W.heap.size) W) :
  Calls Tryz.prog 6 args W fun e W'=>∃ v,e=.returned v∧Rows.renderApartSpec.post enc Tryz.prog Tryz.f6 false true false false W args v W':=by
 have hW':=hW;obtain ⟨p,q,hA0,hV,rfl,hfz,hnd⟩:=hW;have hA:DataW.TrodAll enc Tryz.prog W 0 (fun _=>true) true Tryz.f6.params.toList args.toList ds p:=hA0;rw [Tryz.params6] at hA hval hwt;obtain ⟨v0,vs0,d0,ds0,p0,q0,hargs,rfl,rfl,h0,r0⟩:=trodAll_cons hA;obtain ⟨v1,vs1,d1,ds1,p1,q1,hargs1,rfl,rfl,h1,r1⟩:=trodAll_cons r0;obtain ⟨rfl,rfl,rfl⟩:=trodAll_nil r1;subst hargs1;obtain rfl:args=#[v0,v1]:=by cases args;simp_all
 obtain ⟨rfl,rfl⟩:=trodVars_none hV;obtain ⟨cs0,rfl,_⟩:=okWide_struct Tryz.underlying24 (hval 0 24 v0 rfl rfl);obtain ⟨cs1,rfl,_⟩:=okWide_struct Tryz.underlying24 (hval 1 24 v1 rfl rfl);have hw0:=weightsEach_at _ _ hwt 0 24 d0 rfl rfl;have hw1:=weightsEach_at _ _ hwt 1 24 d1 rfl rfl;have g0:=h0;have g1:=h1;obtain ⟨fu0,t0⟩:=g0;obtain ⟨fu1,t1⟩:=g1;obtain ⟨a,n,c,l,e0,hl,fl⟩:=open_program (enc:=enc) ⟨fu0,_,t0,hw0⟩;obtain ⟨a',n',c',r,e1,hr,fr⟩:=open_program (enc:=enc) ⟨fu1,_,t1,hw1⟩;have x0:cs0=#[.slice a n c]:=(by simpa [Value.cells,←Array.toList_inj] using e0);have x1:cs1=#[.slice a' n' c']:=(by simpa [Value.cells,←Array.toList_inj] using e1);subst x0 x1;simp only [List.append_nil] at hW';refine (apart_walk hl fl hr fr hT hG).mono fun e W' ⟨he,bel⟩=>?_;subst he;have hlt:∀ x ∈ p0++p1,x.block<W.heap.size:=fun x hx=>by simpa using hW'.lt x hx
 have k0:DataW.Trod enc Tryz.prog W' 0 (fun b=>decide (b<W.heap.size)) true 24 (.agg #[.slice a n c]) d0 p0:=Below.trod laidOut_law (by kernel_rfl) (of_decide_eq_true (by kernel_rfl)) h0 bel (fun x hx=>hlt x (List.mem_append_left _ hx));have k1:DataW.Trod enc Tryz.prog W' 0 (fun b=>decide (b<W.heap.size)) true 24 (.agg #[.slice a' n' c']) d1 p1:=Below.trod laidOut_law (by kernel_rfl) (of_decide_eq_true (by kernel_rfl)) h1 bel (fun x hx=>hlt x (List.mem_append_right _ hx));have kk:DataW.TrodAll enc Tryz.prog W' 0 (fun b=>decide (b<W.heap.size)) true [24,24] [Value.agg #[Value.slice a n c],Value.agg #[Value.slice a' n' c']] [d0,d1] (p0++p1):=(by simpa using trodAll_cons_mk k0 (trodAll_cons_mk k1 trodAll_mk0));exact ⟨_,rfl,_,_,_,[],p0++p1,[],hW',trodAll_mk1 (shut_bool Tryz.underlying4 _),kk,rfl,bel.frame _,fun h=>by cases h⟩
def lay (w:World) (g:Nat) (cs:Array Value):World :=
 { w with heap:=w.heap.modify g fun
   | .cells _ t frozen=>.cells cs t frozen
   | o=>o }
noncomputable def laidWorld (os:Os):World:=lay (lay (lay (lay (lay (lay (World.holding Tryz.prog os ⟨#[],#[],[]⟩) 0
  #[.string ⟨#[]⟩,.int .i64 0,.int .i64 0,.int .i64 0,.int .i64 0,.int .i64 0,.string ⟨#[]⟩,.int .i64 0,.int .i64 0,.int .i64 0,.int .i64 0,.int .i64 0,.string ⟨#[]⟩,.int .i64 0,.int .i64 0,.int .i64 0,.int .i64 0,.int .i64 0,.string ⟨#[]⟩,.int .i64 0,.int .i64 0,.int .i64 0,.int .i64 0,.int .i64 0,.string ⟨#[]⟩,.int .i64 1,.int .i64 1,.int .i64 0,.int .i64 13,.int .i64 14,.string ⟨#[]⟩,.int .i64 2,.int .i64 2,.int .i64 0,.int .i64 1,.int .i64 12,.string ⟨#[]⟩,.int .i64 3,.int .i64 3,.int .i64 0,.int .i64 0,.int .i64 0,.string ⟨#[109,97,112]⟩,.int .i64 1,.int .i64 2,.int .i64 0,.int .i64 1,.int .i64 14,.string ⟨#[102,111,108,100]⟩,.int .i64 2,.int .i64 2,.int .i64 0,.int .i64 1,.int .i64 14,.string ⟨#[115,99,97,110]⟩,.int .i64 2,.int .i64 2,.int .i64 0,.int .i64 1,.int .i64 14,.string ⟨#[102,105,108,108]⟩,.int .i64 1,.int .i64 1,.int .i64 1,.int .i64 0,.int .i64 0,.string ⟨#[]⟩,.int .i64 3,.int .i64 3,.int .i64 0,.int .i64 0,.int .i64 0,.string ⟨#[119,105,116,104]⟩,.int .i64 3,.int .i64 3,.int .i64 0,.int .i64 0,.int .i64 0,.string ⟨#[115,108,105,99,101]⟩,.int .i64 1,.int .i64 1,.int .i64 2,.int .i64 0,.int .i64 0,.string ⟨#[99,97,116]⟩,.int .i64 2,.int .i64 2,.int .i64 0,.int .i64 0,.int .i64 0,.string ⟨#[112,114,101]⟩,.int .i64 2,.int .i64 2,.int .i64 0,.int .i64 0,.int .i64 0]) 1
  #[.int .u64 1,.int .u64 10,.int .u64 100,.int .u64 1000,.int .u64 10000,.int .u64 100000,.int .u64 1000000,.int .u64 10000000,.int .u64 100000000,.int .u64 1000000000,.int .u64 10000000000,.int .u64 100000000000,.int .u64 1000000000000,.int .u64 10000000000000,.int .u64 100000000000000,.int .u64 1000000000000000,.int .u64 10000000000000000,.int .u64 100000000000000000,.int .u64 1000000000000000000,.int .u64 10000000000000000000]) 2
  #[.string ⟨#[]⟩,.string ⟨#[]⟩,.int .i64 0,.string ⟨#[97,100,100]⟩,.string ⟨#[32,43,32]⟩,.int .i64 4,.string ⟨#[115,117,98]⟩,.string ⟨#[32,45,32]⟩,.int .i64 4,.string ⟨#[109,117,108]⟩,.string ⟨#[32,42,32]⟩,.int .i64 5,.string ⟨#[100,105,118]⟩,.string ⟨#[32,47,32]⟩,.int .i64 5,.string ⟨#[109,111,100]⟩,.string ⟨#[32,37,32]⟩,.int .i64 5,.string ⟨#[109,105,110]⟩,.string ⟨#[]⟩,.int .i64 7,.string ⟨#[109,97,120]⟩,.string ⟨#[]⟩,.int .i64 7,.string ⟨#[108,101,115,115]⟩,.string ⟨#[32,60,32]⟩,.int .i64 3,.string ⟨#[101,113]⟩,.string ⟨#[32,61,61,32]⟩,.int .i64 3,.string ⟨#[97,110,100]⟩,.string ⟨#[32,97,110,100,32]⟩,.int .i64 2,.string ⟨#[111,114]⟩,.string ⟨#[32,111,114,32]⟩,.int .i64 1,.string ⟨#[120,111,114]⟩,.string ⟨#[32,120,111,114,32]⟩,.int .i64 1,.string ⟨#[110,101,103]⟩,.string ⟨#[45]⟩,.int .i64 6,.string ⟨#[110,111,116]⟩,.string ⟨#[110,111,116,32]⟩,.int .i64 6]) 3
  #[.int .u8 0,.int .u8 1,.int .u8 28,.int .u8 2,.int .u8 29,.int .u8 14,.int .u8 24,.int .u8 3,.int .u8 30,.int .u8 22,.int .u8 20,.int .u8 15,.int .u8 25,.int .u8 17,.int .u8 4,.int .u8 8,.int .u8 31,.int .u8 27,.int .u8 13,.int .u8 23,.int .u8 21,.int .u8 19,.int .u8 16,.int .u8 7,.int .u8 26,.int .u8 12,.int .u8 18,.int .u8 6,.int .u8 11,.int .u8 5,.int .u8 10,.int .u8 9]) 4
  #[.int .u8 0,.int .u8 1,.int .u8 56,.int .u8 2,.int .u8 57,.int .u8 49,.int .u8 28,.int .u8 3,.int .u8 61,.int .u8 58,.int .u8 42,.int .u8 50,.int .u8 38,.int .u8 29,.int .u8 17,.int .u8 4,.int .u8 62,.int .u8 47,.int .u8 59,.int .u8 36,.int .u8 45,.int .u8 43,.int .u8 51,.int .u8 22,.int .u8 53,.int .u8 39,.int .u8 33,.int .u8 30,.int .u8 24,.int .u8 18,.int .u8 12,.int .u8 5,.int .u8 63,.int .u8 55,.int .u8 48,.int .u8 27,.int .u8 60,.int .u8 41,.int .u8 37,.int .u8 16,.int .u8 46,.int .u8 35,.int .u8 44,.int .u8 21,.int .u8 52,.int .u8 32,.int .u8 23,.int .u8 11,.int .u8 54,.int .u8 26,.int .u8 40,.int .u8 15,.int .u8 34,.int .u8 20,.int .u8 31,.int .u8 10,.int .u8 25,.int .u8 14,.int .u8 19,.int .u8 9,.int .u8 13,.int .u8 8,.int .u8 7,.int .u8 6]) 6
  #[.string ⟨#[97,100,100]⟩,.string ⟨#[115,117,98]⟩,.string ⟨#[109,117,108]⟩,.string ⟨#[100,105,118]⟩,.string ⟨#[109,111,100]⟩,.string ⟨#[109,105,110]⟩,.string ⟨#[109,97,120]⟩,.string ⟨#[108,101,115,115]⟩,.string ⟨#[101,113]⟩,.string ⟨#[97,110,100]⟩,.string ⟨#[111,114]⟩,.string ⟨#[120,111,114]⟩,.string ⟨#[110,101,103]⟩,.string ⟨#[110,111,116]⟩]
theorem laid_met_law (os:Os):laidMet Tryz.prog Rows.renderApartRow.laid ((laidWorld os).forCall (fun _ _=>0) ⟨#[],#[.agg #[.slice none 0 0],.agg #[.slice none 0 0]],[]⟩).memory :=
 laidMet_of_run' 8 (by kernel_rfl) (by kernel_rfl)
theorem reads_law (os:Os) {H:Type} (enc:TypeId × Value→H):∃ places,DataW.whole enc Tryz.prog ((laidWorld os).forCall (fun _ _=>0) ⟨#[],#[.agg #[.slice none 0 0],.agg #[.slice none 0 0]],[]⟩).memory Tryz.f6.params.toList Rows.renderApartSpec.vars false #[Value.agg #[.slice none 0 0],Value.agg #[.slice none 0 0]].toList 8=some ([.agg [.nil],.agg [.nil]],[],places) :=
 ⟨[],by kernel_rfl⟩
theorem lifted_law (os:Os) (started:os.Started) (H:Type) (enc:TypeId × Value→H) (F:Stop.Interp) :
  ReturnsInHanded {} Tryz.checked os 6 .any ((OpenSpec.ofChange Rows.renderApartSpec).preRow enc Tryz.prog Tryz.f6 Rows.renderApartRow.domain false Rows.renderApartRow.laid) (((OpenSpec.ofChange Rows.renderApartSpec).at F).post enc Tryz.prog Tryz.f6 false true false false):=by
 obtain ⟨places,hx⟩:=reads_law os enc;refine returnsInHanded_of_row (C:=Tryz.checked) (s:=OpenSpec.ofChange Rows.renderApartSpec) own_law started (by kernel_rfl) Tryz.func6
  (witness_row_at (enc:=enc) (C:=Tryz.checked) false (laidWorld os) #[.agg #[.slice none 0 0],.agg #[.slice none 0 0]] rfl (by kernel_rfl) (by kernel_rfl) (by kernel_rfl)
   (OpenSpec.preRow_of_cond 8 hx (by kernel_rfl) (fun k hk=>by cases hk) (by kernel_rfl) (laid_met_law os))) ?_
 intro W base args ds gs before hval hW _ _ hwt hlaid _ _;exact contract_law H enc W base args ds gs before hval hW hwt (laid_all hlaid).1 (laid_all hlaid).2
theorem said_law:Rows.RenderApartSaid :=
 OpenClaim.holds_of_cond 6 Tryz.f6 rfl rfl rfl rfl rfl rfl rfl ⟨rfl,rfl,rfl,rfl,rfl⟩ rfl rfl rfl rfl rfl (by kernel_rfl) Tryz.func6 (by kernel_rfl)
  (of_decide_eq_true (by kernel_rfl)) (by unfold Func.isWrapper;first | (rw [if_pos (by decide +kernel)];kernel_rfl) | (rw [if_neg (by decide +kernel)];exact ⟨rfl,rfl⟩))
  (fun os started H enc _ F=>by rw [OpenClaim.pre_eq_preRow];exact lifted_law os started H enc F)
theorem plain_law (f:FuncId) (fn:Func) (hf:Tryz.pinned.checked.prog.funcNamed Rows.renderApartRow.func=some f) (hfn:Tryz.pinned.checked.prog.funcs[f]?=some fn) :
  true=Tryz.pinned.checked.prog.looks []∧∀ (j:Nat) t,fn.params[j]?=some t→Tryz.pinned.checked.prog.wantsStandIn t=false:=by
 obtain rfl:f=6:=Option.some.inj ((show Tryz.prog.funcNamed Rows.renderApartRow.func=some 6 by kernel_rfl).symm.trans hf) |>.symm;obtain rfl:fn=Tryz.f6:=(Option.some.inj (Tryz.func6.symm.trans hfn)).symm;refine ⟨by kernel_rfl,fun j t ht=>?_⟩;rw [Tryz.params6] at ht;obtain rfl:t=24:=by simpa using Array.mem_of_getElem? ht
 exact (show Tryz.prog.wantsStandIn 24=false by kernel_rfl)
theorem proved_renderApart:Rows.RenderApartCardSaid :=
 Claim7.holds_tied_plain_at .later [] _ _ _ _ said_law (fun _ h=>by cases h) (by kernel_rfl) (fun _ h=>by cases h) renderApart_row_tie rfl ⟨rfl,rfl⟩ (by kernel_rfl) rfl plain_law (by kernel_rfl)
#print axioms proved_renderApart
end Go.Proofs.YtophfbefnaelfaaGreatDoor
