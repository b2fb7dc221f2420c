/-
 PROVED: for every program and any two numbers,kinds.Check tells no fault of the program just if it tells none of the program whose node of that number has its equations turned round from that place on. There is no condition but that the tables start as the program's text lays them,which the card ties.
 DERIVED. The frame is the guide's template for a law over package-level tables; the walks lie in the texts beside this one.
-/
import Derived.Test.YtkfgbhlpjkkgfaaGreatDoorCards
import Derived.Test.YtkfgbhlpjkkgfaaGreatDoorTie
import Derived.Test.YtkfgbhlpjkkgfaaGreatDoorT49
import Derived.WalkKit
import Derived.ProofKit
import Derived.OpenShut
import Derived.Carry
import Derived.Deep.DeepHandedRow
import Derived.Lib.LaidTab
set_option linter.unusedVariables false
set_option linter.unusedSimpArgs false
set_option maxHeartbeats 64000000
set_option maxRecDepth 100000
namespace Go.Proofs.YtkfgbhlpjkkgfaaGreatDoor
open Go.ChangeShapes Go.WideShapes Go.ChangeAt Go.RowKit
theorem own_law:ownKnob Tryz.prog.godebug=none:=by kernel_rfl
theorem laidOut_law:laidOutB Tryz.prog=true:=by kernel_rfl
theorem contract_law (H:Type) (enc:TypeId × Value->H) (W:World) (base:Nat) (args:Array Value) (ds gs:List (DataW H)) (before:List MemPlace)
  (nD:∀ (j:Nat) t v,Tryz.f5.params[j]?=some t->args[j]?=some v->Value.okWide Tryz.prog W .any base t v)
  (hW:DataW.Whole enc Tryz.prog Tryz.f5.params.toList Rows.kindsTurnsSpec.vars false W args.toList ds gs before)
  (Dt:(DataW.weightsEach Tryz.prog (Tryz.f5.params.toList++(OpenSpec.ofChange Rows.kindsTurnsSpec).bare.plain.varTypes Tryz.prog) (ds++gs)).all (·<=reachBytes)=true)
  (hT:GlobT W) (hK:GlobK W) (hG:Gl (fun i=>i<W.heap.size) W) :
  Calls Tryz.prog 5 args W fun e W'=>∃ v,e=.returned v/\Rows.kindsTurnsSpec.post enc Tryz.prog Tryz.f5 false true false false W args v W':=by
 have vq:=hW;obtain ⟨p,q,td,hV,rfl,Qx,lQ⟩:=hW;have hA:DataW.TrodAll enc Tryz.prog W 0 (fun _=>true) true Tryz.f5.params.toList args.toList ds p:=td;rw [Tryz.params5] at hA nD Dt;obtain ⟨v0,Qa,d0,PS,p0,q0,FT,rfl,rfl,h0,r0⟩:=trodAll_cons hA;obtain ⟨v1,PL,d1,Qz,p1,q1,uw,rfl,rfl,h1,r1⟩:=trodAll_cons r0;obtain ⟨v2,QJ,d2,KU,p2,q2,vB,rfl,rfl,h2,r2⟩:=trodAll_cons r1;obtain ⟨rfl,rfl,rfl⟩:=trodAll_nil r2;subst vB;subst uw;obtain rfl:args=#[v0,v1,v2]:=by cases args;simp_all
 obtain ⟨rfl,rfl⟩:=trodVars_none hV;obtain ⟨Po,rfl,_⟩:=okWide_struct Tryz.underlying24 (nD 0 24 v0 rfl rfl);have bS:=zBV _ _ Dt 0 24 d0 rfl rfl;have g0:=h0;obtain ⟨Pr,t0⟩:=g0;obtain ⟨a,n,c,l,e0,hl,fl⟩:=open_program (enc:=enc) ⟨Pr,_,t0,bS⟩;have x0:Po=#[.slice a n c]:=(by simpa [Value.cells,<-Array.toList_inj] using e0);subst x0;have g1:=h1;obtain ⟨a1,rfl,rfl,rfl,w1⟩:=open_int Tryz.underlying3 (nD 1 3 v1 rfl rfl) g1;have g2:=h2;obtain ⟨a2,rfl,rfl,rfl,w2⟩:=open_int Tryz.underlying3 (nD 2 3 v2 rfl rfl) g2;simp only [List.append_nil] at vq;refine (turns_walk a1 a2 (hl.wide' (ok':=fun i=>i<W.heap.size) (fun i _ h=>h)) (fun i h=>h) fl hT hK hG).mono fun e W' ⟨he,Jd⟩=>?_;subst he;have ak:∀ x ∈ p0,x.block<W.heap.size:=fun x hx=>by simpa using vq.lt x (by simpa using hx)
 have k0:DataW.Trod enc Tryz.prog W' 0 (fun b=>decide (b<W.heap.size)) true 24 (.agg #[.slice a n c]) d0 p0:=Below.trod laidOut_law (by kernel_rfl) (of_decide_eq_true (by kernel_rfl)) h0 Jd (fun x hx=>ak x (by simp [hx]));have kk:DataW.TrodAll enc Tryz.prog W' 0 (fun b=>decide (b<W.heap.size)) true [24,3,3] [Value.agg #[Value.slice a n c],Value.int .i64 a1,Value.int .i64 a2] [d0,.lit (.int .i64 a1),.lit (.int .i64 a2)] (p0):=(by simpa using (trodAll_cons_mk k0 (trodAll_cons_mk (shut_int Tryz.underlying3 w1) (trodAll_cons_mk (shut_int Tryz.underlying3 w2) trodAll_mk0))));exact ⟨_,rfl,_,_,_,[],p0,[],vq,trodAll_mk1 (shut_bool Tryz.underlying4 _),kk,rfl,Jd.frame _,fun h=>by cases h⟩
def lay (w:World) (g:Nat) (cs:Array Value):World :=
 { w with heap:=w.heap.modify g fun
   | .cells _ t frozen=>.cells cs t frozen
   | o=>o }
noncomputable def laidWorld (os:Os):World:=lay (lay (lay (lay (lay (lay (lay (World.holding Tryz.prog os ⟨#[],#[],[]⟩) 0
  #[.int .u8 0,.int .u8 0,.int .i64 0,.int .u8 105,.int .u8 105,.int .i64 2,.int .u8 105,.int .u8 105,.int .i64 2,.int .u8 105,.int .u8 105,.int .i64 2,.int .u8 105,.int .u8 105,.int .i64 2,.int .u8 105,.int .u8 105,.int .i64 2,.int .u8 105,.int .u8 105,.int .i64 2,.int .u8 105,.int .u8 105,.int .i64 2,.int .u8 105,.int .u8 98,.int .i64 2,.int .u8 105,.int .u8 98,.int .i64 2,.int .u8 98,.int .u8 98,.int .i64 2,.int .u8 98,.int .u8 98,.int .i64 2,.int .u8 98,.int .u8 98,.int .i64 2,.int .u8 105,.int .u8 105,.int .i64 1,.int .u8 98,.int .u8 98,.int .i64 1]) 2
  #[.int .u64 1,.int .u64 10,.int .u64 100,.int .u64 1000,.int .u64 10000,.int .u64 100000,.int .u64 1000000,.int .u64 10000000,.int .u64 100000000,.int .u64 1000000000,.int .u64 10000000000,.int .u64 100000000000,.int .u64 1000000000000,.int .u64 10000000000000,.int .u64 100000000000000,.int .u64 1000000000000000,.int .u64 10000000000000000,.int .u64 100000000000000000,.int .u64 1000000000000000000,.int .u64 10000000000000000000]) 3
  #[.string ⟨#[]⟩,.int .i64 0,.int .i64 0,.int .i64 0,.int .i64 0,.int .i64 0,.string ⟨#[]⟩,.int .i64 0,.int .i64 0,.int .i64 0,.int .i64 0,.int .i64 0,.string ⟨#[]⟩,.int .i64 0,.int .i64 0,.int .i64 0,.int .i64 0,.int .i64 0,.string ⟨#[]⟩,.int .i64 0,.int .i64 0,.int .i64 0,.int .i64 0,.int .i64 0,.string ⟨#[]⟩,.int .i64 1,.int .i64 1,.int .i64 0,.int .i64 13,.int .i64 14,.string ⟨#[]⟩,.int .i64 2,.int .i64 2,.int .i64 0,.int .i64 1,.int .i64 12,.string ⟨#[]⟩,.int .i64 3,.int .i64 3,.int .i64 0,.int .i64 0,.int .i64 0,.string ⟨#[109,97,112]⟩,.int .i64 1,.int .i64 2,.int .i64 0,.int .i64 1,.int .i64 14,.string ⟨#[102,111,108,100]⟩,.int .i64 2,.int .i64 2,.int .i64 0,.int .i64 1,.int .i64 14,.string ⟨#[115,99,97,110]⟩,.int .i64 2,.int .i64 2,.int .i64 0,.int .i64 1,.int .i64 14,.string ⟨#[102,105,108,108]⟩,.int .i64 1,.int .i64 1,.int .i64 1,.int .i64 0,.int .i64 0,.string ⟨#[]⟩,.int .i64 3,.int .i64 3,.int .i64 0,.int .i64 0,.int .i64 0,.string ⟨#[119,105,116,104]⟩,.int .i64 3,.int .i64 3,.int .i64 0,.int .i64 0,.int .i64 0,.string ⟨#[115,108,105,99,101]⟩,.int .i64 1,.int .i64 1,.int .i64 2,.int .i64 0,.int .i64 0,.string ⟨#[99,97,116]⟩,.int .i64 2,.int .i64 2,.int .i64 0,.int .i64 0,.int .i64 0,.string ⟨#[112,114,101]⟩,.int .i64 2,.int .i64 2,.int .i64 0,.int .i64 0,.int .i64 0]) 4
  #[.string ⟨#[]⟩,.string ⟨#[]⟩,.int .i64 0,.string ⟨#[97,100,100]⟩,.string ⟨#[32,43,32]⟩,.int .i64 4,.string ⟨#[115,117,98]⟩,.string ⟨#[32,45,32]⟩,.int .i64 4,.string ⟨#[109,117,108]⟩,.string ⟨#[32,42,32]⟩,.int .i64 5,.string ⟨#[100,105,118]⟩,.string ⟨#[32,47,32]⟩,.int .i64 5,.string ⟨#[109,111,100]⟩,.string ⟨#[32,37,32]⟩,.int .i64 5,.string ⟨#[109,105,110]⟩,.string ⟨#[]⟩,.int .i64 7,.string ⟨#[109,97,120]⟩,.string ⟨#[]⟩,.int .i64 7,.string ⟨#[108,101,115,115]⟩,.string ⟨#[32,60,32]⟩,.int .i64 3,.string ⟨#[101,113]⟩,.string ⟨#[32,61,61,32]⟩,.int .i64 3,.string ⟨#[97,110,100]⟩,.string ⟨#[32,97,110,100,32]⟩,.int .i64 2,.string ⟨#[111,114]⟩,.string ⟨#[32,111,114,32]⟩,.int .i64 1,.string ⟨#[120,111,114]⟩,.string ⟨#[32,120,111,114,32]⟩,.int .i64 1,.string ⟨#[110,101,103]⟩,.string ⟨#[45]⟩,.int .i64 6,.string ⟨#[110,111,116]⟩,.string ⟨#[110,111,116,32]⟩,.int .i64 6]) 5
  #[.int .u8 0,.int .u8 1,.int .u8 28,.int .u8 2,.int .u8 29,.int .u8 14,.int .u8 24,.int .u8 3,.int .u8 30,.int .u8 22,.int .u8 20,.int .u8 15,.int .u8 25,.int .u8 17,.int .u8 4,.int .u8 8,.int .u8 31,.int .u8 27,.int .u8 13,.int .u8 23,.int .u8 21,.int .u8 19,.int .u8 16,.int .u8 7,.int .u8 26,.int .u8 12,.int .u8 18,.int .u8 6,.int .u8 11,.int .u8 5,.int .u8 10,.int .u8 9]) 6
  #[.int .u8 0,.int .u8 1,.int .u8 56,.int .u8 2,.int .u8 57,.int .u8 49,.int .u8 28,.int .u8 3,.int .u8 61,.int .u8 58,.int .u8 42,.int .u8 50,.int .u8 38,.int .u8 29,.int .u8 17,.int .u8 4,.int .u8 62,.int .u8 47,.int .u8 59,.int .u8 36,.int .u8 45,.int .u8 43,.int .u8 51,.int .u8 22,.int .u8 53,.int .u8 39,.int .u8 33,.int .u8 30,.int .u8 24,.int .u8 18,.int .u8 12,.int .u8 5,.int .u8 63,.int .u8 55,.int .u8 48,.int .u8 27,.int .u8 60,.int .u8 41,.int .u8 37,.int .u8 16,.int .u8 46,.int .u8 35,.int .u8 44,.int .u8 21,.int .u8 52,.int .u8 32,.int .u8 23,.int .u8 11,.int .u8 54,.int .u8 26,.int .u8 40,.int .u8 15,.int .u8 34,.int .u8 20,.int .u8 31,.int .u8 10,.int .u8 25,.int .u8 14,.int .u8 19,.int .u8 9,.int .u8 13,.int .u8 8,.int .u8 7,.int .u8 6]) 7
  #[.string ⟨#[97,100,100]⟩,.string ⟨#[115,117,98]⟩,.string ⟨#[109,117,108]⟩,.string ⟨#[100,105,118]⟩,.string ⟨#[109,111,100]⟩,.string ⟨#[109,105,110]⟩,.string ⟨#[109,97,120]⟩,.string ⟨#[108,101,115,115]⟩,.string ⟨#[101,113]⟩,.string ⟨#[97,110,100]⟩,.string ⟨#[111,114]⟩,.string ⟨#[120,111,114]⟩,.string ⟨#[110,101,103]⟩,.string ⟨#[110,111,116]⟩]
theorem laid_met_law (os:Os):laidMet Tryz.prog Rows.kindsTurnsRow.laid ((laidWorld os).forCall (fun _ _=>0) ⟨#[],#[.agg #[.slice none 0 0],.int .i64 0,.int .i64 0],[]⟩).memory :=
 laidMet_of_run' 8 (by kernel_rfl) (by kernel_rfl)
theorem reads_law (os:Os) {H:Type} (enc:TypeId × Value->H):∃ places,DataW.whole enc Tryz.prog ((laidWorld os).forCall (fun _ _=>0) ⟨#[],#[.agg #[.slice none 0 0],.int .i64 0,.int .i64 0],[]⟩).memory Tryz.f5.params.toList Rows.kindsTurnsSpec.vars false #[Value.agg #[.slice none 0 0],Value.int .i64 0,Value.int .i64 0].toList 8=some ([.agg [.nil],.lit (.int .i64 0),.lit (.int .i64 0)],[],places) :=
 ⟨[],by kernel_rfl⟩
theorem lifted_law (os:Os) (started:os.Started) (H:Type) (enc:TypeId × Value->H) (F:Stop.Interp) :
  ReturnsInHanded {} Tryz.checked os 5 .any ((OpenSpec.ofChange Rows.kindsTurnsSpec).preRow enc Tryz.prog Tryz.f5 Rows.kindsTurnsRow.domain false Rows.kindsTurnsRow.laid) (((OpenSpec.ofChange Rows.kindsTurnsSpec).at F).post enc Tryz.prog Tryz.f5 false true false false):=by
 obtain ⟨places,hx⟩:=reads_law os enc;refine returnsInHanded_of_row (C:=Tryz.checked) (s:=OpenSpec.ofChange Rows.kindsTurnsSpec) own_law started (by kernel_rfl) Tryz.func5
  (witness_row_at (enc:=enc) (C:=Tryz.checked) false (laidWorld os) #[.agg #[.slice none 0 0],.int .i64 0,.int .i64 0] rfl (by kernel_rfl) (by kernel_rfl) (by kernel_rfl)
   (OpenSpec.preRow_of_cond 8 hx (by kernel_rfl) (fun k hk=>by cases hk) (by kernel_rfl) (laid_met_law os))) ?_
 intro W base args ds gs before nD hW _ _ Dt pc _ _;exact contract_law H enc W base args ds gs before nD hW Dt (zEw pc).1 (zEw pc).2.1 (zEw pc).2.2
theorem said_law:Rows.KindsTurnsSaid :=
 OpenClaim.holds_of_cond 5 Tryz.f5 rfl rfl rfl rfl rfl rfl rfl ⟨rfl,rfl,rfl,rfl,rfl⟩ rfl rfl rfl rfl rfl (by kernel_rfl) Tryz.func5 (by kernel_rfl)
  (of_decide_eq_true (by kernel_rfl)) (by unfold Func.isWrapper;first | (rw [if_pos (by decide +kernel)];kernel_rfl) | (rw [if_neg (by decide +kernel)];exact ⟨rfl,rfl⟩))
  (fun os started H enc _ F=>by rw [OpenClaim.pre_eq_preRow];exact lifted_law os started H enc F)
theorem plain_law (f:FuncId) (fn:Func) (hf:Tryz.pinned.checked.prog.funcNamed Rows.kindsTurnsRow.func=some f) (Mh:Tryz.pinned.checked.prog.funcs[f]?=some fn) :
  true=Tryz.pinned.checked.prog.looks []/\∀ (j:Nat) t,fn.params[j]?=some t->Tryz.pinned.checked.prog.wantsStandIn t=false:=by
 obtain rfl:f=5:=Option.some.inj ((show Tryz.prog.funcNamed Rows.kindsTurnsRow.func=some 5 by kernel_rfl).symm.trans hf) |>.symm;obtain rfl:fn=Tryz.f5:=(Option.some.inj (Tryz.func5.symm.trans Mh)).symm;refine ⟨by kernel_rfl,fun j t ht=>?_⟩;rw [Tryz.params5] at ht;have hm:=Array.mem_of_getElem? ht;simp at hm;rcases hm with rfl | rfl
 ·exact (show Tryz.prog.wantsStandIn 24=false by kernel_rfl)
 ·exact (show Tryz.prog.wantsStandIn 3=false by kernel_rfl)
theorem proved_kindsTurns:Rows.KindsTurnsCardSaid :=
 Claim7.holds_tied_plain_at .later [] _ _ _ _ said_law (fun _ h=>by cases h) (by kernel_rfl) (fun _ h=>by cases h) kindsTurns_row_tie rfl ⟨rfl,rfl⟩ (by kernel_rfl) rfl plain_law (by kernel_rfl)
#print axioms proved_kindsTurns
end Go.Proofs.YtkfgbhlpjkkgfaaGreatDoor
