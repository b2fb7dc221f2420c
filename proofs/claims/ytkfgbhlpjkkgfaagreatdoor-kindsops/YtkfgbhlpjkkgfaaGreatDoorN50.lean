/-
 PROVED: for every number and every two types,kinds.Op and kinds.Folds tell of the number,and kinds.Same of the types,what the document says. There is no condition but that the tables start as the program's text lays them,which the card ties.
 DERIVED. The frame is the guide's template for a law over package-level tables; the walks lie in the texts beside this one.
-/
import Derived.Test.YtkfgbhlpjkkgfaaGreatDoorCards
import Derived.Test.YtkfgbhlpjkkgfaaGreatDoorTie
import Derived.Test.YtkfgbhlpjkkgfaaGreatDoorN49
import Derived.WalkKit
import Derived.ProofKit
import Derived.OpenShut
import Derived.Carry
import Derived.Deep.DeepHandedRow
import Derived.Lib.LaidTab
set_option linter.unusedVariables false
set_option linter.unusedSimpArgs false
set_option maxHeartbeats 64000000
set_option maxRecDepth 100000
namespace Go.Proofs.YtkfgbhlpjkkgfaaGreatDoor
open Go.ChangeShapes Go.WideShapes Go.ChangeAt Go.RowKit
theorem own_law:ownKnob Tryz.prog.godebug=none:=by kernel_rfl
theorem laidOut_law:laidOutB Tryz.prog=true:=by kernel_rfl
theorem open_type {H:Type} {enc:TypeId × Value→H} {w:World} {cs:List Value} (h:Rd0 enc w 35 cs):∃ (t:Kd.Ty) (a:Option Addr) (n c:Nat),cs=[.int .u8 t.elem,.slice a n c]∧HTy (fun _=>True) w (.agg #[.int .u8 t.elem,.slice a n c]) t:=by
 have hl:=len_of Tryz.underlying35 h;rw [c92] at hl
 match cs,hl with
 | [v1,v2],_=>
  obtain ⟨e,he⟩:=open_num (k:=.u8) Tryz.underlying5 (field_of Tryz.underlying35 h 0 5 0 rfl c5 v1 rfl);obtain ⟨a,n,c,l,h1,h2,h3⟩:=open_terms (field_of Tryz.underlying35 h 1 33 1 rfl c90 v2 rfl);injection he with he;injection h1 with h1;subst he h1;exact ⟨⟨e,l⟩,a,n,c,rfl,_,rfl,h2⟩
theorem contract_law (H:Type) (enc:TypeId × Value→H) (W:World) (base:Nat) (args:Array Value) (ds gs:List (DataW H)) (before:List MemPlace)
  (hval:∀ (j:Nat) t v,Tryz.f4.params[j]?=some t→args[j]?=some v→Value.okWide Tryz.prog W .any base t v)
  (hW:DataW.Whole enc Tryz.prog Tryz.f4.params.toList Rows.kindsOpsSpec.vars false W args.toList ds gs before)
  (hwt:(DataW.weightsEach Tryz.prog (Tryz.f4.params.toList++(OpenSpec.ofChange Rows.kindsOpsSpec).bare.plain.varTypes Tryz.prog) (ds++gs)).all (·≤reachBytes)=true)
  (hT:GlobT W) (hK:GlobK W) (hG:Gl (fun i=>i<W.heap.size) W) :
  Calls Tryz.prog 4 args W fun e W'=>∃ v,e=.returned v∧Rows.kindsOpsSpec.post enc Tryz.prog Tryz.f4 false true false false W args v W':=by
 have hW':=hW;obtain ⟨p,q,hA0,hV,rfl,hfz,hnd⟩:=hW;have hA:DataW.TrodAll enc Tryz.prog W 0 (fun _=>true) true Tryz.f4.params.toList args.toList ds p:=hA0;rw [Tryz.params4] at hA hval hwt;obtain ⟨v0,vs0,d0,ds0,p0,q0,hargs0,rfl,rfl,h0,r0⟩:=trodAll_cons hA;obtain ⟨v1,vs1,d1,ds1,p1,q1,hargs1,rfl,rfl,h1,r1⟩:=trodAll_cons r0;obtain ⟨v2,vs2,d2,ds2,p2,q2,hargs2,rfl,rfl,h2,r2⟩:=trodAll_cons r1;obtain ⟨rfl,rfl,rfl⟩:=trodAll_nil r2;subst hargs2;subst hargs1;obtain rfl:args=#[v0,v1,v2]:=by cases args;simp_all
 obtain ⟨rfl,rfl⟩:=trodVars_none hV;have g0:=h0;obtain ⟨a0,rfl,rfl,rfl,w0⟩:=open_int Tryz.underlying3 (hval 0 3 v0 rfl rfl) g0;obtain ⟨cs1,rfl,_⟩:=okWide_struct Tryz.underlying35 (hval 1 35 v1 rfl rfl);have hw1:=weightsEach_at _ _ hwt 1 35 d1 rfl rfl;have g1:=h1;obtain ⟨fu1,t1⟩:=g1;obtain ⟨ta,aa,na,ca,e1,H1⟩:=open_type (enc:=enc) ⟨fu1,_,t1,hw1⟩;have x1:cs1=#[.int .u8 ta.elem,.slice aa na ca]:=(by simpa [Value.cells,←Array.toList_inj] using e1);subst x1;obtain ⟨cs2,rfl,_⟩:=okWide_struct Tryz.underlying35 (hval 2 35 v2 rfl rfl);have hw2:=weightsEach_at _ _ hwt 2 35 d2 rfl rfl;have g2:=h2;obtain ⟨fu2,t2⟩:=g2;obtain ⟨tb,ab,nb,cb,e2,H2⟩:=open_type (enc:=enc) ⟨fu2,_,t2,hw2⟩;have x2:cs2=#[.int .u8 tb.elem,.slice ab nb cb]:=(by simpa [Value.cells,←Array.toList_inj] using e2);subst x2;simp only [List.append_nil] at hW';refine (ops_walk a0 H1 H2 hT hK hG).mono fun e W' ⟨he,bel⟩=>?_;subst he;have hlt:∀ x ∈ p1++p2,x.block<W.heap.size:=fun x hx=>by simpa using hW'.lt x (by simpa using hx)
 have k1:DataW.Trod enc Tryz.prog W' 0 (fun b=>decide (b<W.heap.size)) true 35 (.agg #[.int .u8 ta.elem,.slice aa na ca]) d1 p1:=Below.trod laidOut_law (by kernel_rfl) (of_decide_eq_true (by kernel_rfl)) h1 bel (fun x hx=>hlt x (by simp [hx]));have k2:DataW.Trod enc Tryz.prog W' 0 (fun b=>decide (b<W.heap.size)) true 35 (.agg #[.int .u8 tb.elem,.slice ab nb cb]) d2 p2:=Below.trod laidOut_law (by kernel_rfl) (of_decide_eq_true (by kernel_rfl)) h2 bel (fun x hx=>hlt x (by simp [hx]));have kk:DataW.TrodAll enc Tryz.prog W' 0 (fun b=>decide (b<W.heap.size)) true [3,35,35] [Value.int .i64 a0,Value.agg #[.int .u8 ta.elem,.slice aa na ca],Value.agg #[.int .u8 tb.elem,.slice ab nb cb]] [.lit (.int .i64 a0),d1,d2] (p1++p2):=(by simpa using (trodAll_cons_mk (shut_int Tryz.underlying3 w0) (trodAll_cons_mk k1 (trodAll_cons_mk k2 trodAll_mk0))));exact ⟨_,rfl,_,_,_,[],p1++p2,[],hW',trodAll_mk1 (shut_bool Tryz.underlying4 _),kk,rfl,bel.frame _,fun h=>by cases h⟩
def lay (w:World) (g:Nat) (cs:Array Value):World :=
 { w with heap:=w.heap.modify g fun
   | .cells _ t frozen=>.cells cs t frozen
   | o=>o }
noncomputable def laidWorld (os:Os):World:=lay (lay (lay (lay (lay (lay (lay (World.holding Tryz.prog os ⟨#[],#[],[]⟩) 0
  #[.int .u8 0,.int .u8 0,.int .i64 0,.int .u8 105,.int .u8 105,.int .i64 2,.int .u8 105,.int .u8 105,.int .i64 2,.int .u8 105,.int .u8 105,.int .i64 2,.int .u8 105,.int .u8 105,.int .i64 2,.int .u8 105,.int .u8 105,.int .i64 2,.int .u8 105,.int .u8 105,.int .i64 2,.int .u8 105,.int .u8 105,.int .i64 2,.int .u8 105,.int .u8 98,.int .i64 2,.int .u8 105,.int .u8 98,.int .i64 2,.int .u8 98,.int .u8 98,.int .i64 2,.int .u8 98,.int .u8 98,.int .i64 2,.int .u8 98,.int .u8 98,.int .i64 2,.int .u8 105,.int .u8 105,.int .i64 1,.int .u8 98,.int .u8 98,.int .i64 1]) 2
  #[.int .u64 1,.int .u64 10,.int .u64 100,.int .u64 1000,.int .u64 10000,.int .u64 100000,.int .u64 1000000,.int .u64 10000000,.int .u64 100000000,.int .u64 1000000000,.int .u64 10000000000,.int .u64 100000000000,.int .u64 1000000000000,.int .u64 10000000000000,.int .u64 100000000000000,.int .u64 1000000000000000,.int .u64 10000000000000000,.int .u64 100000000000000000,.int .u64 1000000000000000000,.int .u64 10000000000000000000]) 3
  #[.string ⟨#[]⟩,.int .i64 0,.int .i64 0,.int .i64 0,.int .i64 0,.int .i64 0,.string ⟨#[]⟩,.int .i64 0,.int .i64 0,.int .i64 0,.int .i64 0,.int .i64 0,.string ⟨#[]⟩,.int .i64 0,.int .i64 0,.int .i64 0,.int .i64 0,.int .i64 0,.string ⟨#[]⟩,.int .i64 0,.int .i64 0,.int .i64 0,.int .i64 0,.int .i64 0,.string ⟨#[]⟩,.int .i64 1,.int .i64 1,.int .i64 0,.int .i64 13,.int .i64 14,.string ⟨#[]⟩,.int .i64 2,.int .i64 2,.int .i64 0,.int .i64 1,.int .i64 12,.string ⟨#[]⟩,.int .i64 3,.int .i64 3,.int .i64 0,.int .i64 0,.int .i64 0,.string ⟨#[109,97,112]⟩,.int .i64 1,.int .i64 2,.int .i64 0,.int .i64 1,.int .i64 14,.string ⟨#[102,111,108,100]⟩,.int .i64 2,.int .i64 2,.int .i64 0,.int .i64 1,.int .i64 14,.string ⟨#[115,99,97,110]⟩,.int .i64 2,.int .i64 2,.int .i64 0,.int .i64 1,.int .i64 14,.string ⟨#[102,105,108,108]⟩,.int .i64 1,.int .i64 1,.int .i64 1,.int .i64 0,.int .i64 0,.string ⟨#[]⟩,.int .i64 3,.int .i64 3,.int .i64 0,.int .i64 0,.int .i64 0,.string ⟨#[119,105,116,104]⟩,.int .i64 3,.int .i64 3,.int .i64 0,.int .i64 0,.int .i64 0,.string ⟨#[115,108,105,99,101]⟩,.int .i64 1,.int .i64 1,.int .i64 2,.int .i64 0,.int .i64 0,.string ⟨#[99,97,116]⟩,.int .i64 2,.int .i64 2,.int .i64 0,.int .i64 0,.int .i64 0,.string ⟨#[112,114,101]⟩,.int .i64 2,.int .i64 2,.int .i64 0,.int .i64 0,.int .i64 0]) 4
  #[.string ⟨#[]⟩,.string ⟨#[]⟩,.int .i64 0,.string ⟨#[97,100,100]⟩,.string ⟨#[32,43,32]⟩,.int .i64 4,.string ⟨#[115,117,98]⟩,.string ⟨#[32,45,32]⟩,.int .i64 4,.string ⟨#[109,117,108]⟩,.string ⟨#[32,42,32]⟩,.int .i64 5,.string ⟨#[100,105,118]⟩,.string ⟨#[32,47,32]⟩,.int .i64 5,.string ⟨#[109,111,100]⟩,.string ⟨#[32,37,32]⟩,.int .i64 5,.string ⟨#[109,105,110]⟩,.string ⟨#[]⟩,.int .i64 7,.string ⟨#[109,97,120]⟩,.string ⟨#[]⟩,.int .i64 7,.string ⟨#[108,101,115,115]⟩,.string ⟨#[32,60,32]⟩,.int .i64 3,.string ⟨#[101,113]⟩,.string ⟨#[32,61,61,32]⟩,.int .i64 3,.string ⟨#[97,110,100]⟩,.string ⟨#[32,97,110,100,32]⟩,.int .i64 2,.string ⟨#[111,114]⟩,.string ⟨#[32,111,114,32]⟩,.int .i64 1,.string ⟨#[120,111,114]⟩,.string ⟨#[32,120,111,114,32]⟩,.int .i64 1,.string ⟨#[110,101,103]⟩,.string ⟨#[45]⟩,.int .i64 6,.string ⟨#[110,111,116]⟩,.string ⟨#[110,111,116,32]⟩,.int .i64 6]) 5
  #[.int .u8 0,.int .u8 1,.int .u8 28,.int .u8 2,.int .u8 29,.int .u8 14,.int .u8 24,.int .u8 3,.int .u8 30,.int .u8 22,.int .u8 20,.int .u8 15,.int .u8 25,.int .u8 17,.int .u8 4,.int .u8 8,.int .u8 31,.int .u8 27,.int .u8 13,.int .u8 23,.int .u8 21,.int .u8 19,.int .u8 16,.int .u8 7,.int .u8 26,.int .u8 12,.int .u8 18,.int .u8 6,.int .u8 11,.int .u8 5,.int .u8 10,.int .u8 9]) 6
  #[.int .u8 0,.int .u8 1,.int .u8 56,.int .u8 2,.int .u8 57,.int .u8 49,.int .u8 28,.int .u8 3,.int .u8 61,.int .u8 58,.int .u8 42,.int .u8 50,.int .u8 38,.int .u8 29,.int .u8 17,.int .u8 4,.int .u8 62,.int .u8 47,.int .u8 59,.int .u8 36,.int .u8 45,.int .u8 43,.int .u8 51,.int .u8 22,.int .u8 53,.int .u8 39,.int .u8 33,.int .u8 30,.int .u8 24,.int .u8 18,.int .u8 12,.int .u8 5,.int .u8 63,.int .u8 55,.int .u8 48,.int .u8 27,.int .u8 60,.int .u8 41,.int .u8 37,.int .u8 16,.int .u8 46,.int .u8 35,.int .u8 44,.int .u8 21,.int .u8 52,.int .u8 32,.int .u8 23,.int .u8 11,.int .u8 54,.int .u8 26,.int .u8 40,.int .u8 15,.int .u8 34,.int .u8 20,.int .u8 31,.int .u8 10,.int .u8 25,.int .u8 14,.int .u8 19,.int .u8 9,.int .u8 13,.int .u8 8,.int .u8 7,.int .u8 6]) 7
  #[.string ⟨#[97,100,100]⟩,.string ⟨#[115,117,98]⟩,.string ⟨#[109,117,108]⟩,.string ⟨#[100,105,118]⟩,.string ⟨#[109,111,100]⟩,.string ⟨#[109,105,110]⟩,.string ⟨#[109,97,120]⟩,.string ⟨#[108,101,115,115]⟩,.string ⟨#[101,113]⟩,.string ⟨#[97,110,100]⟩,.string ⟨#[111,114]⟩,.string ⟨#[120,111,114]⟩,.string ⟨#[110,101,103]⟩,.string ⟨#[110,111,116]⟩]
theorem laid_met_law (os:Os):laidMet Tryz.prog Rows.kindsOpsRow.laid ((laidWorld os).forCall (fun _ _=>0) ⟨#[],#[.int .i64 0,.agg #[.int .u8 0,.slice none 0 0],.agg #[.int .u8 0,.slice none 0 0]],[]⟩).memory :=
 laidMet_of_run' 8 (by kernel_rfl) (by kernel_rfl)
theorem reads_law (os:Os) {H:Type} (enc:TypeId × Value→H):∃ places,DataW.whole enc Tryz.prog ((laidWorld os).forCall (fun _ _=>0) ⟨#[],#[.int .i64 0,.agg #[.int .u8 0,.slice none 0 0],.agg #[.int .u8 0,.slice none 0 0]],[]⟩).memory Tryz.f4.params.toList Rows.kindsOpsSpec.vars false #[Value.int .i64 0,Value.agg #[.int .u8 0,.slice none 0 0],Value.agg #[.int .u8 0,.slice none 0 0]].toList 8=some ([.lit (.int .i64 0),.agg [.lit (.int .u8 0),.nil],.agg [.lit (.int .u8 0),.nil]],[],places) :=
 ⟨[],by kernel_rfl⟩
theorem lifted_law (os:Os) (started:os.Started) (H:Type) (enc:TypeId × Value→H) (F:Stop.Interp) :
  ReturnsInHanded {} Tryz.checked os 4 .any ((OpenSpec.ofChange Rows.kindsOpsSpec).preRow enc Tryz.prog Tryz.f4 Rows.kindsOpsRow.domain false Rows.kindsOpsRow.laid) (((OpenSpec.ofChange Rows.kindsOpsSpec).at F).post enc Tryz.prog Tryz.f4 false true false false):=by
 obtain ⟨places,hx⟩:=reads_law os enc;refine returnsInHanded_of_row (C:=Tryz.checked) (s:=OpenSpec.ofChange Rows.kindsOpsSpec) own_law started (by kernel_rfl) Tryz.func4
  (witness_row_at (enc:=enc) (C:=Tryz.checked) false (laidWorld os) #[.int .i64 0,.agg #[.int .u8 0,.slice none 0 0],.agg #[.int .u8 0,.slice none 0 0]] rfl (by kernel_rfl) (by kernel_rfl) (by kernel_rfl)
   (OpenSpec.preRow_of_cond 8 hx (by kernel_rfl) (fun k hk=>by cases hk) (by kernel_rfl) (laid_met_law os))) ?_
 intro W base args ds gs before hval hW _ _ hwt hlaid _ _;exact contract_law H enc W base args ds gs before hval hW hwt (laid_all hlaid).1 (laid_all hlaid).2.1 (laid_all hlaid).2.2
theorem said_law:Rows.KindsOpsSaid :=
 OpenClaim.holds_of_cond 4 Tryz.f4 rfl rfl rfl rfl rfl rfl rfl ⟨rfl,rfl,rfl,rfl,rfl⟩ rfl rfl rfl rfl rfl (by kernel_rfl) Tryz.func4 (by kernel_rfl)
  (of_decide_eq_true (by kernel_rfl)) (by unfold Func.isWrapper;first | (rw [if_pos (by decide +kernel)];kernel_rfl) | (rw [if_neg (by decide +kernel)];exact ⟨rfl,rfl⟩))
  (fun os started H enc _ F=>by rw [OpenClaim.pre_eq_preRow];exact lifted_law os started H enc F)
theorem plain_law (f:FuncId) (fn:Func) (hf:Tryz.pinned.checked.prog.funcNamed Rows.kindsOpsRow.func=some f) (hfn:Tryz.pinned.checked.prog.funcs[f]?=some fn) :
  true=Tryz.pinned.checked.prog.looks []∧∀ (j:Nat) t,fn.params[j]?=some t→Tryz.pinned.checked.prog.wantsStandIn t=false:=by
 obtain rfl:f=4:=Option.some.inj ((show Tryz.prog.funcNamed Rows.kindsOpsRow.func=some 4 by kernel_rfl).symm.trans hf) |>.symm;obtain rfl:fn=Tryz.f4:=(Option.some.inj (Tryz.func4.symm.trans hfn)).symm;refine ⟨by kernel_rfl,fun j t ht=>?_⟩;rw [Tryz.params4] at ht;have hm:=Array.mem_of_getElem? ht;simp at hm;rcases hm with rfl | rfl
 ·exact (show Tryz.prog.wantsStandIn 3=false by kernel_rfl)
 ·exact (show Tryz.prog.wantsStandIn 35=false by kernel_rfl)
theorem proved_kindsOps:Rows.KindsOpsCardSaid :=
 Claim7.holds_tied_plain_at .later [] _ _ _ _ said_law (fun _ h=>by cases h) (by kernel_rfl) (fun _ h=>by cases h) kindsOps_row_tie rfl ⟨rfl,rfl⟩ (by kernel_rfl) rfl plain_law (by kernel_rfl)
#print axioms proved_kindsOps
end Go.Proofs.YtkfgbhlpjkkgfaaGreatDoor
