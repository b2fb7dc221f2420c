import Derived.Test.YtegakbobaecdlaaGreatDoorL04
set_option linter.unusedVariables false
set_option linter.unusedSimpArgs false
set_option maxHeartbeats 64000000
set_option maxRecDepth 100000
namespace Go.Proofs.YtegakbobaecdlaaGreatDoor
open Go.Shelf Go.RowKit Go.Lib Go.IntWalk
structure Pu where
 op:Int
 k:Int
 v:Int
 n:Int
def Pu.cs (p:Pu):List Value:=[.int .i64 p.op,.int .i64 p.k,.int .i64 p.v,.int .i64 p.n]
def nmd (p:Pu):Bool:=p.op==2 || p.op==3 || p.op==8
def HPu (ok:Nat->Prop) (w:World) (v:Value) (L:List Pu):Prop:=∃ C,Sl ok 4 w v L.length C/\∀ i (h:i<L.length),C i=(L[i]).cs
theorem HPu.at {ok:Nat->Prop} {w:World} {v:Value} {l:List Pu} (h:HPu ok w v l) :
  ∃ ao cap,v=.slice ao l.length cap/\l.length<=cap/\cap<=maxLen/\∀ i (h:i<l.length),∃ b o,ao=some ⟨b,o,none⟩/\b<w.heap.size/\w.cell? ⟨b,o+i*4,none⟩=some (.int .i64 (l[i]).op)/\w.cell? ⟨b,o+i*4+1,none⟩=some (.int .i64 (l[i]).k)/\w.cell? ⟨b,o+i*4+2,none⟩=some (.int .i64 (l[i]).v)/\w.cell? ⟨b,o+i*4+3,none⟩=some (.int .i64 (l[i]).n):=by
 obtain ⟨C,⟨ao,cap,hv,h1,h2,h3⟩,hC⟩:=h;refine ⟨ao,cap,hv,h1,h2,fun i hi=>?_⟩;obtain ⟨b,o,ha,hob,hb,hc⟩:=h3 (by omega);have hcc:=(hc i hi).2;rw [hC i hi] at hcc;exact ⟨b,o,ha,hb,hcc 0 (by decide),hcc 1 (by decide),hcc 2 (by decide),hcc 3 (by decide)⟩
theorem HPu.keep {ok:Nat->Prop} {w w':World} {v:Value} {l:List Pu} (h:HPu ok w v l) (h1:w.heap.size<=w'.heap.size) (h2:∀ i,ok i->i<w.heap.size->w'.heap[i]?=w.heap[i]?):HPu ok w' v l:=by
 obtain ⟨C,h3,h4⟩:=h;exact ⟨C,h3.keep h1 h2,h4⟩
theorem HPu.under {ok:Nat->Prop} {w w':World} {v:Value} {l:List Pu} (h:HPu ok w v l) (b:Below w.heap.size w w'):HPu ok w' v l:=h.keep b.size fun i _ hl=>b.block i hl
theorem jG (p:Pu) (w:World):Calls Tryz.prog 57 #[.agg #[.int .i64 p.op,.int .i64 p.k,.int .i64 p.v,.int .i64 p.n]] w fun e w'=>e=.returned (.bool (nmd p))/\Below w.heap.size w w':=by
 have bA:Below w.heap.size w (w.alloc (.cells #[.int .i64 p.op,.int .i64 p.k,.int .i64 p.v,.int .i64 p.n] 79 (0,0))):=(Below.refl _ _).alloc zM _;unfold nmd;by_cases h2:(p.op==2)=true
 ·go_enter Tryz.func57,Tryz.ntmps57
  go_wp2;go_ret;exact ⟨by simp [h2],bA⟩
 have h2:(p.op==2)=false:=(by simpa using h2);by_cases h3:(p.op==3)=true
 ·go_enter Tryz.func57,Tryz.ntmps57
  go_wp2;go_ret;exact ⟨by simp [h2,h3],bA⟩
 have h3:(p.op==3)=false:=(by simpa using h3);go_enter Tryz.func57,Tryz.ntmps57;go_wp2;go_ret;exact ⟨by simp [h2,h3],bA⟩
/-! ### sorting, and each once -/
theorem put_cells (l d:List Int) (sp:List Value) (h:d.length=l.length):Sort.putCells (Value.int .i64) 0 d.toArray (ics l++sp).toArray=(ics d++sp).toArray:=by
 apply Array.ext_getElem?
 intro k;unfold Sort.putCells;rw [Array.getElem?_mapIdx,gT,gT];by_cases hk:k<l.length
 ·rw [List.getElem?_append_left (by rw [xD];exact hk),List.getElem?_append_left (by rw [xD,h];exact hk)]
  simp [ics,hk,h]
 ·rw [List.getElem?_append_right (by rw [xD];omega),List.getElem?_append_right (by rw [xD];omega),xD,xD,h]
  cases hx:sp[k-l.length]? with
  | none=>rfl
  | some x=>
   simp only [Option.map_some,Nat.zero_add,Nat.zero_le,true_and];rw [if_neg (by simp;omega)]
theorem IBlk.put {w:World} {g:Nat} {l d:List Int} {sp:List Value} (h:IBlk w g l sp) (hd:d.length=l.length) (q:Nat) (os:Array Obj) :
  IBlk (Sort.grow (Sort.putRow (Value.int .i64) (Sort.ahead w q) g 0 d.toArray) os) g d sp/\Aside [g] w.heap.size w (Sort.grow (Sort.putRow (Value.int .i64) (Sort.ahead w q) g 0 d.toArray) os):=by
 have hh:(Sort.grow (Sort.putRow (Value.int .i64) (Sort.ahead w q) g 0 d.toArray) os).heap=w.heap.modify g (Sort.onCells (Sort.putCells (Value.int .i64) 0 d.toArray))++os:=rfl;have hg:=zG h;refine ⟨?_,⟨rfl,rfl,rfl,?_,fun k hk hn=>?_⟩⟩
 ·unfold IBlk
  rw [hh,Array.getElem?_append_left (by simpa using hg),Array.getElem?_modify,if_pos rfl,h];simp only [Option.map_some,Sort.onCells];rw [put_cells l d sp hd]
 ·rw [hh];simp
 ·rw [hh,Array.getElem?_append_left (by simpa using hk),Array.getElem?_modify,if_neg (fun e=>hn (by simp [e]))]
def leB (x y:Int):Bool:=decide (x<=y)
theorem sort_any {B:Nat} {w:World} {v:Value} {l:List Int} (h:OwnL kInt B w v l) (hl:l.length<=3000000) :
  Calls Tryz.prog 58 #[v] w fun e w'=>e=.returned (.tuple #[])/\OwnL kInt B w' v (l.mergeSort leB)/\Below B w w':=by
 rcases vP h with ⟨rfl,rfl⟩ | ⟨g,c,sp,rfl,hB,hb,h1,h2,h3⟩
 ·have:=Any.slices_Sort_int_none lay16 none 0 w
  change Calls Tryz.prog 58 _ _ _ at this
  refine this.mono ?_;rintro e w' ⟨rfl,rfl⟩;exact ⟨rfl,by simpa using h,Below.refl _ _⟩
 ·have:=Any.slices_Sort_int lay16 g 0 c l w hb.holds (zG hb) (by omega)
  change Calls Tryz.prog 58 _ _ _ at this
  refine this.mono ?_;rintro e w' ⟨rfl,q,os,rfl⟩;obtain ⟨k1,k2⟩:=hb.put (d:=l.mergeSort leB) (by rw [List.length_mergeSort]) q os;have e1:(l.mergeSort leB).length=l.length:=List.length_mergeSort _;have ho:=qX k1 hB (by rw [e1];exact h1) h2 (by rw [e1];exact h3);rw [e1] at ho;exact ⟨rfl,ho,⟨k2.os,k2.tape,k2.output,k2.size,fun k hk=>k2.block k (by have:=zG hb;omega) (by simp;omega)⟩⟩
theorem compact_len (l:List Int):(Lib.compact l).length<=l.length:=by
 unfold Lib.compact Lib.compactUpTo;rw [List.length_map];have:=List.length_filter_le (Lib.keeps l.toArray) (List.range l.length)
 simpa using this
theorem compact_any {B:Nat} {w:World} {v:Value} {l:List Int} (h:OwnL kInt B w v l) (hl:l.length<=3000000) :
  Calls Tryz.prog 59 #[v] w fun e w'=>∃ v',e=.returned v'/\OwnL kInt B w' v' (Lib.compact l)/\Below B w w':=by
 rcases vP h with ⟨rfl,rfl⟩ | ⟨g,c,sp,rfl,hB,hb,h1,h2,h3⟩
 ·have:=Any.slices_Compact_int_empty lay17 none 0 w
  change Calls Tryz.prog 59 _ _ _ at this
  refine this.mono ?_;rintro e w' ⟨rfl,rfl⟩;exact ⟨_,rfl,by simpa [Lib.compact,Lib.compactUpTo] using h,Below.refl _ _⟩
 ·have:=Any.slices_Compact_int lay17 g 0 c l w hb.holds (by omega) h1
  change Calls Tryz.prog 59 _ _ _ at this
  refine this.mono ?_;rintro e w' ⟨rfl,q,rfl⟩;have hn:=compact_len l;obtain ⟨k1,k2⟩:=hb.put (d:=Lib.compact l++List.replicate (l.length-(Lib.compact l).length) 0) (by rw [List.length_append,List.length_replicate];omega) q #[];rw [Sort.grow_empty] at k1 k2;unfold IBlk at k1;rw [qM,List.append_assoc] at k1;have ho:=qX (B:=B) (l:=Lib.compact l) k1 hB (by omega) h2 (by rw [List.length_append,xD,List.length_replicate];omega);exact ⟨_,rfl,ho,⟨k2.os,k2.tape,k2.output,k2.size,fun k hk=>k2.block k (by have:=zG hb;omega) (by simp;omega)⟩⟩
end Go.Proofs.YtegakbobaecdlaaGreatDoor
namespace Go.Proofs.YtegakbobaecdlaaGreatDoor
open Go.Shelf Go.RowKit Go.Lib Go.IntWalk
def usesL (A:List Int) (E:List Pu):List Int:=A++(E.filter nmd).map (·.v)
def usesT (A:List Int) (E:List Pu):List Int:=Lib.compact ((usesL A E).mergeSort leB)
theorem zAo (A:List Int) (E:List Pu) (i:Nat) (h:i<E.length):usesL A (E.take (i+1))=usesL A (E.take i)++(if nmd E[i]=true then [(E[i]).v] else []):=by
 unfold usesL;rw [List.take_succ_eq_append_getElem h,List.filter_append,List.map_append,List.append_assoc]
 congr 2
 by_cases hn:nmd E[i]=true<;>simp [hn]
theorem jQ (A:List Int) (E:List Pu):(usesL A E).length<=A.length+E.length:=by
 unfold usesL;have:=List.length_filter_le nmd E;simp;omega
theorem wpList_cat {w w':World} {ops:Array Oper} {rest:List Oper} {o:Oper} {a:Act} {Q:Exit->Act->World->Prop} (hgd:o.guard=none) (s x:Operand) (ho:o.op=.call { callee:=.builtin .append,args:=#[s,x],argTypes:=#[23,23] }) (v u v':Value) (hs:a.eval s=v) (hx:a.eval x=u)
  (hr:(Builtin.append_ #[23,23] o.type #[v,u]).run Tryz.prog w=.ok v' w') (h:wpList Tryz.prog ops Q rest (a.put o.dst v') w'):wpList Tryz.prog ops Q (o :: rest) a w:=by
 refine wpList_plain hgd fun _ hK=>?_;unfold Oper.wp execOp;simp only [ho,resolve,invoke,builtin,Sem.run_bind,Sem.run_pure,Result.andThen_ok,List.map_toArray,List.map_cons,List.map_nil,hs,hx,hr];exact hK _ _ h
theorem jH {B B':Nat} {w:World} {v:Value} {l:List Int} (h:OwnL kInt B w v l) (hb:B'<=B):OwnL kInt B' w v l:=by
 rcases vP h with ⟨rfl,rfl⟩ | ⟨g,c,sp,rfl,hB,hk,h1,h2,h3⟩
 ·exact OwnL.nil
 ·exact qX hk (Nat.le_trans hb hB) h1 h2 h3
theorem jI {ok:Nat->Prop} {w:World} {va ve:Value} {A:List Int} {E:List Pu} (op k out n:Int) (hA:HInts ok w va A) (hE:HPu ok w ve E) (hAl:A.length<=1000000) (hEl:E.length<=1000000) :
  Calls Tryz.prog 36 #[.agg #[.int .i64 op,.int .i64 k,.int .i64 out,.int .i64 n,va,ve]] w fun e w'=>∃ v,e=.returned v/\OwnL kInt w.heap.size w' v (usesT A E)/\Below w.heap.size w w':=by
 obtain ⟨aA,cA,rfl,hA1,hA2,_⟩:=hA.at;obtain ⟨aE,cE,rfl,hE1,hE2,_⟩:=hE.at;have HA:=zE hA;have HE:=zE hE;clear hA hE;obtain ⟨W,hW⟩:=nmQ (w.alloc (.cells #[.int .i64 op,.int .i64 k,.int .i64 out,.int .i64 n,.slice aA A.length cA,.slice aE E.length cE] 40 (0,0)));have bA:=newB hW;have KA:W.heap[w.heap.size]?=some (.cells #[.int .i64 op,.int .i64 k,.int .i64 out,.int .i64 n,.slice aA A.length cA,.slice aE E.length cE] 40 (0,0)):=(by rw [hW];exact zI w _);obtain ⟨i0,hi,hz0,hz1,hz2⟩:=info_parts kInt.info;obtain ⟨M,hM⟩:=nmQ (madeCells (Value.int .i64 0).cells ((A.length+E.length)*i0.size));have hmk:∀ V:World,(Instr.makeSlice 23 (.int .i64 0) (.int .i64 ((A.length:Int)+(E.length:Int)))).run Tryz.prog V=.ok (.slice (some ⟨V.heap.size,0,none⟩) 0 (A.length+E.length)) (V.alloc (.cells M 3)):=fun V=>by
  have h:=run_make (P:=Tryz.prog) V 23 3 i0 (.int .i64 0) Tryz.underlying23 hi hz0 .i64 .i64 0 ((A.length:Int)+(E.length:Int)) (by omega) (by omega) (by rw [hz2];simp [kInt];omega) (by omega);have e:((A.length:Int)+(E.length:Int)).toNat=A.length+E.length:=(by omega)
  simpa [hM,e] using h
 have hMs:M.size=A.length+E.length:=(by rw [hM,hz1];simp [madeCells,kInt,Value.cells]);clear hM;go_enter Tryz.func36,Tryz.ntmps36;go_upto_region 1 with fail;rw [<-hW];clear hW;have d4:=coQ KA 4;have d5:=coQ KA 5;simp at d4 d5;go_upto_region 2 with fail;obtain ⟨w1,hw1⟩:=nmQ ((W.alloc (.cells M 3 (0,0))));have b1:Below W.heap.size W w1:=(by rw [hw1];exact ((Below.refl _ _).alloc zM _));have K1:w1.heap[W.heap.size]?=some (.cells M 3 (0,0)):=(by rw [hw1];exact zI W (.cells M 3 (0,0)));rw [<-hw1];clear hw1 hmk hi hz0 hz1 hz2 d4 d5;have KB:=(b1.block _ (zG KA)).trans KA;have hWs:w.heap.size+1<=W.heap.size:=zG KA;have o1:OwnL kInt (w.heap.size+1) w1 (.slice (some ⟨W.heap.size,0,none⟩) 0 (A.length+E.length)) []:=by
  have hK1:IBlk w1 W.heap.size [] M.toList:=(by unfold IBlk;rw [K1];simp [ics]);exact qX (l:=[]) hK1 hWs (Nat.zero_le _) (by unfold maxLen;omega) (by simp [hMs])
 clear K1;have bW:=bA.trans (b1.mono bA.size);obtain ⟨v2,w2,r2,o2,b2,g2⟩:=run_cat (ty:=23) (w:=w1) o1 (HA.out.under bW) (by have:=b1.size;omega) (by simp;omega);have d4:=coQ KB 4;simp at d4;go_upto_region 3 with (at_builtin;refine wpList_cat rfl _ _ rfl _ _ _ (by rfl) (by rfl) r2 ?_);have KC:w2.heap[w.heap.size]?=some (.cells #[.int .i64 op,.int .i64 k,.int .i64 out,.int .i64 n,.slice aA A.length cA,.slice aE E.length cE] 40 (0,0)):=(b2.block _ (Nat.lt_succ_self _)).trans KB;clear d4 r2 g2;have bX:Below w.heap.size w w2:=bW.trans (b2.mono (Nat.le_succ _));rw [List.nil_append] at o2;clear b2 o1 bW bA b1 KB KA hMs;have c5:=coQ KC 5;simp at c5;go_wp2_with fail;clear c5;go_loopg [3,5,21] E.length (fun gh s3 _ s21 wr=>∃ i:Nat,s21=.int .i64 (i:Int)/\i<=E.length/\E.length<=gh+i/\Hid (OwnL kInt (w.heap.size+1) wr s3 (usesL A (E.take i)))/\Below w.heap.size w wr/\wr.heap[w.heap.size]?=some (.cells #[.int .i64 op,.int .i64 k,.int .i64 out,.int .i64 n,.slice aA A.length cA,.slice aE E.length cE] 40 (0,0)))
 case atStart=>exact ⟨0,rfl,by omega,by omega,zE (by simpa [usesL] using o2),bX,KC⟩
 case round=>
  clear o2 bX KC;obtain ⟨i,rfl,his,hgi,HO,bR,K⟩:=hrel;have yR:=bR.size;have yK:=zG K;by_cases hlt:i<E.length
  case neg=>
   have hge:¬(i:Int)<(E.length:Int):=(by omega);have hie:i=E.length:=(by omega);have ho:=HO.out;rw [hie,List.take_length] at ho;have hul:=jQ A E;have h16:=sort_any ho (by omega)
   go_wp2_with (first | (go_at_call 58;refine h16.mono ?_;rintro e w3 ⟨rfl,o3,b3⟩))
   have h17:=compact_any o3 (by rw [List.length_mergeSort];omega)
   go_wp2_with (first | (go_at_call 59;refine h17.mono ?_;rintro e w4 ⟨v4,rfl,o4,b4⟩))
   go_ret;refine ⟨_,rfl,?_,bR.trans ((b3.trans b4).mono (Nat.le_succ _))⟩;exact jH o4 (Nat.le_succ _)
  case pos=>
   have hltI:(i:Int)<(E.length:Int):=(by omega);obtain ⟨ao',cap',ev,_,_,hatR⟩:=(HE.out.under bR).at;injection ev with ev1 ev2 ev3;subst ev1;obtain ⟨b,o,rfl,hb,c0,c1,c2,c3⟩:=hatR i hlt;clear hatR ev2 ev3;have HS:=zE (zAo A E i hlt);have hul:=jQ A (E.take i);rw [List.length_take,Nat.min_eq_left his] at hul;generalize E[i]=p at c0 c1 c2 c3 HS;have hcall:=jG p;go_upto_region 6 with fail;obtain ⟨wA,hwA⟩:=nmQ (wr.alloc (.cells #[.int .i64 p.op,.int .i64 p.k,.int .i64 p.v,.int .i64 p.n] 79 (0,0)));have bA:=newB hwA;have KA:=newK hwA;rw [<-hwA];clear hwA c0 c1 c2 c3;have d0:=coQ KA 0;have d1:=coQ KA 1;have d2:=coQ KA 2;have d3:=coQ KA 3;simp at d0 d1 d2 d3
   cases hn:nmd p with
   | false=>
    rw [hn] at HS;simp only [Bool.false_eq_true,if_false,List.append_nil] at HS;have hc:=hcall wA;rw [hn] at hc
    go_wp2_with (go_at_call 57;refine hc.mono ?_;rintro e w' ⟨rfl,b5⟩)
    go_roundg (gk-1)
    case measure=>omega
    case rel=>exact ⟨i+1,by go_num,by omega,by omega,zE (by rw [HS.out];exact (HO.out.below bA).below b5),bR.trans ((bA.trans (b5.mono bA.size)).mono yR),(b5.block _ (by have:=bA.size;omega)).trans ((bA.block _ yK).trans K)⟩
   | true=>
    rw [hn] at HS;simp only [if_true] at HS;have hc:=hcall wA;rw [hn] at hc;go_wp2_with fail;refine hc.mono ?_;rintro e w5 ⟨rfl,b5⟩;clear d0 d1 d3;go_upto_region 7 with fail;have bB:=bA.trans (b5.mono bA.size);have KB:=(b5.block _ (zG KA)).trans KA;clear d2;have d2:=coQ KB 2;simp at d2;have own:=HO.out.below bB;have hNb:=fun k hk=>(own.lt k hk).2;have yB:=bB.size;have q1:kInt.E (fun i=>w5.heap.size<=i) w5 [.int .i64 p.v] p.v:=rfl;have q2:((usesL A (E.take i)).length+1)*kInt.bytes<=140737488355328:=(by show ((usesL A (E.take i)).length+1)*8<=_;omega);have q3:(usesL A (E.take i)).length+1<=maxLen:=(by unfold maxLen;omega);have z1:w.heap.size+1<=w5.heap.size:=(by omega)
    go_wp2_with (at_builtin;refine zQ kInt rfl _ _ 23 3 rfl Tryz.underlying23 (w.heap.size+1) w5.heap.size _ (usesL A (E.take i)) (by rfl) own [.int .i64 p.v] p.v q1 (by rfl) hNb z1 z1 q2 q3 ?_;intro v8 w8 own8 b8 _ _)
    go_roundg (gk-1)
    case measure=>omega
    case rel=>exact ⟨i+1,by go_num,by omega,by omega,zE (by rw [HS.out];exact own8),(bR.trans (bB.mono yR)).trans (b8.mono (Nat.le_succ _)),(b8.block _ (Nat.lt_succ_self _)).trans ((bB.block _ yK).trans K)⟩
end Go.Proofs.YtegakbobaecdlaaGreatDoor
