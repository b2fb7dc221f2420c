import Derived.Test.YtkfgbhlpjkkgfaaGreatDoorT27
import Derived.Test.YtkfgbhlpjkkgfaaGreatDoorT20
import Derived.Lib.AppendZerosOnto
set_option linter.unusedVariables false
set_option linter.unusedSimpArgs false
set_option maxHeartbeats 64000000
set_option maxRecDepth 100000
namespace Go.Proofs.YtkfgbhlpjkkgfaaGreatDoor
open Go.RowKit Go.IntWalk
theorem isOther_any {ok:Nat->Prop} {w:World} {t:Kd.Ty} {a:Option Addr} {n c T:Nat} {tk:Int} (h:HTy ok w (.agg #[.int .u8 t.elem,.slice a n c]) t) (hT:w.heap[T]?=some (.cells #[.int .u8 tk] 5 (0,0))) :
  Calls Tryz.prog 201 #[.agg #[.int .u8 t.elem,.slice a n c],.pointer (some ⟨T,0,none⟩)] w fun r w'=>r=.returned (.bool (!Kd.isSc t tk))/\Below w.heap.size w w':=by
 have b1:Below w.heap.size w (w.alloc (.cells #[.int .u8 t.elem,.slice a n c] 35 (0,0))):=(Below.refl _ _).alloc nR _;have kA:=zAC w (.cells #[.int .u8 t.elem,.slice a n c] 35 (0,0));have kT:=(b1.block _ (zAB hT)).trans hT;have hc:=zAZ (h.under b1) tk;clear h hT;generalize Kd.isSc t tk=q at hc ⊢;go_enter Tryz.func201,Tryz.ntmps201;go_upto_region 1 with fail;generalize w.alloc (.cells #[.int .u8 t.elem,.slice a n c] 35 (0,0))=w1 at b1 kA kT hc ⊢;have c0:=co kA 0;have c1:=co kA 1;have d0:=co kT 0;simp at c0 c1 d0;go_wp2_with fail;refine hc.mono ?_;rintro e w2 ⟨rfl,b2⟩;go_wp2;go_ret;exact ⟨rfl,b1.trans (b2.mono b1.size)⟩
theorem any_noneT {l:List Kd.Ty} {p:Kd.Ty->Bool} (h:∀ j (hj:j<l.length),p l[j]=false):l.any p=false:=by
 rw [List.any_eq_false];intro x hx;obtain ⟨j,hj,rfl⟩:=List.getElem_of_mem hx;rw [h j hj];simp
theorem zEt {ok:Nat->Prop} {w:World} {v:Value} {l:List Kd.Ty} {T:Nat} {tk:Int} (hl:HTys ok w v l) (hT:w.heap[T]?=some (.cells #[.int .u8 tk] 5 (0,0))) :
  Calls Tryz.prog 234 #[v,.func (.func 201) #[] #[.pointer (some ⟨T,0,none⟩)]] w fun r w'=>∃ c:Int,r=.returned (.int .i64 c)/\decide (0<=c)=l.any (fun t => !Kd.isSc t tk)/\Below w.heap.size w w':=by
 obtain ⟨ao,cap,rfl,aC,av,_⟩:=hl.at;unfold maxLen at av;have HL:=zAA hl;have HT:=zAA hT;clear hl hT;obtain ⟨n,hn⟩:=nmQ (l.length);rw [<-hn] at aC ⊢;have HN:=zAA hn;clear hn;go_enter Tryz.func234,Tryz.ntmps234;go_wp2_with fail;go_loopg [8] n (fun k v wr=>∃ i,i<=n/\k=n-i/\v=.int .i64 (i:Nat)/\Hid (∀ j (h:j<l.length),j<i->(!Kd.isSc l[j] tk)=false)/\Below w.heap.size w wr)
 case atStart=>exact ⟨0,Nat.zero_le _,rfl,rfl,fun j _ h=>absurd h (Nat.not_lt_zero _),Below.refl _ _⟩
 case round=>
  obtain ⟨i,hi,rfl,rfl,H,aj⟩:=hrel;by_cases ak:i<n
  case neg=>
   have bH:i=n:=(by omega);subst bH;go_wp2;go_ret;refine ⟨-1,rfl,?_,aj⟩;rw [any_noneT (p:=fun t => !Kd.isSc t tk) (fun j hj=>H.out j hj (by have:=HN.out;omega))];rfl
  case pos=>
   have ap:i<l.length:=(by have:=HN.out;omega);obtain ⟨fj,bE,eqs,_,_,br⟩:=(HL.out.under aj).at;injection eqs with q1 q2 q3;subst q1;obtain ⟨b,o,au,nu,cu,rfl,hb,e0,e1,dD⟩:=br i ap;have hc:=isOther_any dD ((aj.block _ (zAB HT.out)).trans HT.out);generalize hq:(!Kd.isSc l[i] tk)=q at hc;clear br dD q2 q3;go_wp2_with fail;refine hc.mono ?_;rintro e w4 ⟨rfl,b4⟩;clear hc;have BW:=aj.trans (b4.mono aj.size)
   cases q
   ·go_wp2_with fail
    go_roundg (n-(i+1))
    case measure=>omega
    case rel=>
     refine ⟨i+1,by omega,rfl,by go_num,fun j hj bJ=>?_,BW⟩;by_cases e:j=i
     ·subst e
      exact hq
     ·exact H.out j hj (by omega)
   ·go_wp2
    go_ret;refine ⟨(i:Int),rfl,?_,BW⟩;have:l.any (fun t => !Kd.isSc t tk)=true:=List.any_eq_true.2 ⟨l[i],List.getElem_mem ap,hq⟩;rw [this];simp
theorem zDT {ok:Nat->Prop} {w:World} {v:Value} {l:List Kd.Ty} {T:Nat} {tk:Int} (hl:HTys ok w v l) (hT:w.heap[T]?=some (.cells #[.int .u8 tk] 5 (0,0))) :
  Calls Tryz.prog 202 #[v,.func (.func 201) #[] #[.pointer (some ⟨T,0,none⟩)]] w fun r w'=>r=.returned (.bool (l.any fun t => !Kd.isSc t tk))/\Below w.heap.size w w':=by
 have hc:=zEt hl hT;obtain ⟨ao,cap,rfl,aC,av,_⟩:=hl.at;clear hl;go_enter Tryz.func202,Tryz.ntmps202;go_wp2_with fail;refine hc.mono ?_;rintro e w1 ⟨c,rfl,hd,b1⟩;go_wp2;go_ret;refine ⟨?_,b1⟩;rw [<-hd];by_cases h:0<=c
 ·simp [h]
 ·simp [h]
theorem zBR {ok:Nat->Prop} {w:World} {v:Value} {l:List Kd.Ty} (k:Int) (hl:HTys ok w v l) (hG:GlobK w) :
  Calls Tryz.prog 173 #[.int .i64 k,v] w fun r w'=>∃ u c,r=.returned (.tuple #[u,.int .i64 c])/\TRes (fun i=>w.heap.size<=i) w' u c (Kd.typed (l.all fun t=>Kd.isSc t (Kd.opT k).1) (Kd.sc (Kd.opT k).2.1))/\Below w.heap.size w w':=by
 obtain ⟨la,lc,rfl,_,_,_⟩:=hl.at;have b1:Below w.heap.size w (w.alloc (.cells #[.int .u8 0,.slice none 0 0] 35 (0,0))):=(Below.refl _ _).alloc nR _;have kZ:=zAC w (.cells #[.int .u8 0,.slice none 0 0] 35 (0,0));have hc:=op_any k _ (hG.under b1);have bh:=hl.under b1;generalize Kd.opT k=oq at hc ⊢;obtain ⟨tk,mk,nn⟩:=oq
 dsimp only at hc ⊢
 have bX:(l.all fun t=>Kd.isSc t tk) = !(l.any fun t => !Kd.isSc t tk):=by
  rw [List.not_any_eq_all_not];simp
 rw [bX];clear bX hl hG;obtain ⟨q,hq⟩:=nmQ ((l.any fun t => !Kd.isSc t tk));rw [<-hq];have HQ:=zAA hq;clear hq;obtain ⟨n,hn⟩:=nmQ (l.length);rw [<-hn] at bh ⊢;clear hn;go_enter Tryz.func173,Tryz.ntmps173;go_upto_region 1 with fail;generalize w.alloc (.cells #[.int .u8 0,.slice none 0 0] 35 (0,0))=w1 at b1 kZ hc bh ⊢;go_wp2_with fail;refine hc.mono ?_;rintro e w2 ⟨rfl,b2⟩;clear hc;have b3:Below w2.heap.size w2 (w2.alloc (.cells #[.int .u8 tk] 5 (0,0))):=(Below.refl _ _).alloc nR _;have kT:=zAC w2 (.cells #[.int .u8 tk] 5 (0,0));have B3:=b1.trans ((b2.mono b1.size).trans (b3.mono (Nat.le_trans b1.size b2.size)));have dv:=(b3.block _ (zAB ((b2.block _ (zAB kZ)).trans kZ))).trans ((b2.block _ (zAB kZ)).trans kZ);have hc:=zDT ((bh.under b2).under b3) kT;clear bh kZ;go_upto_region 2 with fail;generalize w2.alloc (.cells #[.int .u8 tk] 5 (0,0))=w3 at b3 kT B3 dv hc ⊢;rw [<-HQ.out] at hc;go_wp2_with fail;refine hc.mono ?_;rintro e w4 ⟨rfl,b4⟩;clear hc;have B4:=B3.trans (b4.mono B3.size);have hc:=zCD mk w4;go_wp2_with fail;refine hc.mono ?_;rintro e w5 ⟨rfl,b5⟩;clear hc;have B5:=B4.trans (b5.mono B4.size);have hc:=zAi (HTy.zero (ok:=fun _=>False) (w:=w5) mk) (!q);go_wp2_with fail;refine hc.mono ?_;rintro e w6 ⟨u,c,rfl,hT,b6⟩;clear hc;have B6:=B5.trans (b6.mono B5.size);have gG:=(b6.block _ (zAB ((b5.block _ (zAB ((b4.block _ (zAB dv)).trans dv))).trans ((b4.block _ (zAB dv)).trans dv)))).trans ((b5.block _ (zAB ((b4.block _ (zAB dv)).trans dv))).trans ((b4.block _ (zAB dv)).trans dv));obtain ⟨te,ta,tn,tc,rfl⟩:=hT.form;have aX:=co gG 0;have st1:=co gG 1;have dr:=fo gG 0;have dp:=fo gG 1;simp at aX st1;have KR:=zAD (zAD gG 0 (.int .u8 te)) 1 (.slice ta tn tc);have r0:=co KR 0;have r1:=co KR 1;simp at r0 r1;have BR:=(B6.setCell (p:=⟨w.heap.size,0,none⟩) nR (.int .u8 te)).setCell (p:=⟨w.heap.size,1,none⟩) nR (.slice ta tn tc);have HT:=zAA ((hT.set (p:=⟨w.heap.size,0,none⟩) (fun h=>h) (.int .u8 te)).set (p:=⟨w.heap.size,1,none⟩) (fun h=>h) (.slice ta tn tc));clear KR hT;go_wp2;exact bodyPost_ret (v:=.tuple #[.agg #[.int .u8 te,.slice ta tn tc],.int .i64 c]) (by simp [results,Tryz.results173,go_sem,r0,r1]) rfl ⟨_,_,rfl,HT.out.wide (fun i hi=>absurd hi (fun h=>h)),BR⟩
end Go.Proofs.YtkfgbhlpjkkgfaaGreatDoor
namespace Go.Proofs.YtkfgbhlpjkkgfaaGreatDoor
open Go.RowKit Go.IntWalk Go.Lib
theorem zCN {w w':World} {ops:Array Oper} {rest:List Oper} {o:Oper} {a:Act} {Q:Exit->Act->World->Prop} (jv:o.guard=none) (s x:Operand) (t u2:TypeId) (ho:o.op=.call { callee:=.builtin .append,args:=#[s,x],argTypes:=#[t,u2] }) (v u v':Value) (hs:a.eval s=v) (hx:a.eval x=u)
  (hr:(Builtin.append_ #[t,u2] o.type #[v,u]).run Tryz.prog w=.ok v' w') (h:wpList Tryz.prog ops Q rest (a.put o.dst v') w'):wpList Tryz.prog ops Q (o :: rest) a w:=by
 refine wpList_plain jv fun _ hK=>?_;unfold Oper.wp execOp;simp only [ho,resolve,invoke,builtin,Sem.run_bind,Sem.run_pure,Result.andThen_ok,List.map_toArray,List.map_cons,List.map_nil,hs,hx,hr];exact hK _ _ h
theorem grow_any (n:Nat) (w:World) (hn:0<n) (hm:n<=3000000) :
  Calls Tryz.prog 233 #[.slice none 0 0,.int .i64 (n:Int)] w fun r w'=>∃ g c,r=.returned (.slice (some ⟨g,0,none⟩) 0 c)/\OwnL kTerm w.heap.size w' (.slice (some ⟨g,0,none⟩) 0 c) []/\Below w.heap.size w w':=by
 obtain ⟨i0,hi,db,bP,bY⟩:=info_parts kTerm.info;have jI:kTerm.k=2:=rfl;have x8:i0.bytes=24:=bY;have jk:i0.size=2:=bP;have hr:∀ ty,(Builtin.append_ #[33,3] ty #[.slice none 0 0,.int .i64 (n:Int)]).run Tryz.prog w=_:=fun ty=>
  Lib.run_append_grow_zeros w 33 3 ty 83 i0 kTerm.zero .i64 .i64 Tryz.underlying33 Tryz.underlying3 hi db none 0 0 [] (run_firstCells_none w.drew i0.size 0 0 0) n hn (by omega) (by omega) (by omega) (by rw [x8];omega) (growslice_fits (by omega) (by rw [x8];omega))
 simp only [Nat.zero_add] at hr;have qn:=grownCap_ge w n 0 83;have ii:=grownCap_le_maxLen w n 0 83 (by unfold maxLen;omega);generalize grownCap w n 0 83=c at hr qn ii;have h1:¬((n:Int)<0):=(by omega);have h4:(0:Int)<(n:Int):=(by omega);have h0:(0:Int)<=(c:Int):=(by omega);have gq:(#[]++Builtin.zeroCells kTerm.zero.cells n++Builtin.zeroCells kTerm.zero.cells (c-n):Array Value).size=c*2:=by
  have e1:=zAx n;have e2:=zAx (c-n);simp only [Array.length_toList] at e1 e2;simp only [Array.size_append,e1,e2];simp;omega
 generalize (#[]++Builtin.zeroCells kTerm.zero.cells n++Builtin.zeroCells kTerm.zero.cells (c-n):Array Value)=Z at hr gq;have ah:OwnL kTerm w.heap.size (w.drew.alloc (.cells Z 83)) (.slice (some ⟨w.heap.size,0,none⟩) 0 c) []:=⟨fun _=>[],World.ownsRow_made w.drew Z c nR ii gq,fun j h=>absurd h (Nat.not_lt_zero _)⟩;have hB:Below w.heap.size w (w.drew.alloc (.cells Z 83)):=((Below.refl _ _).drew).alloc nR _;have HO:=zAA ah;have HB:=zAA hB;clear ah hB gq hi db bP bY;go_enter Tryz.func233,Tryz.ntmps233
 go_wp2_with (at_builtin;refine zCN rfl _ _ 33 3 rfl _ _ _ (by rfl) (by rfl) (hr _) ?_)
 go_ret;exact ⟨_,_,rfl,HO.out,HB.out⟩
def szI (a b:Nat) (i:Nat):Nat:=if i=0 then 0 else if i=1 then a else a+b
def catI (A B:List Tm) (i:Nat):List Tm:=if i=0 then [] else if i=1 then A else A++B
theorem concat_any {ok ok':Nat->Prop} {w:World} {g na ca nb cb:Nat} {aa ab:Option Addr} {A B:List Tm} (hg:w.heap[g]?=some (.cells #[.slice aa na ca,.slice ab nb cb] 33 (0,0))) (hA:HTerms ok w (.slice aa na ca) A) (hB:HTerms ok' w (.slice ab nb cb) B) (td:0<A.length) (Qm:A.length<=1000000) (QW:B.length<=1000000) :
  Calls Tryz.prog 200 #[.slice (some ⟨g,0,none⟩) 2 2] w fun r w'=>∃ v,r=.returned v/\OwnL kTerm w.heap.size w' v (A++B)/\Below w.heap.size w w':=by
 have Ol:na=A.length:=by
  obtain ⟨_,_,e,_⟩:=hA.at;injection e
 have OP:nb=B.length:=by
  obtain ⟨_,_,e,_⟩:=hB.at;injection e
 subst Ol OP;have c0:=co hg 0;have c1:=co hg 1;simp at c0 c1;have yg:=zAB hg;have HA:=zAA hA;have HB:=zAA hB;clear hA hB;go_enter Tryz.func200,Tryz.ntmps200;go_wp2_with fail;go_loopg [3,11] 2 (fun gh v3 zL wr=>∃ i:Nat,i<=2/\gh=2-i/\v3=.int .i64 ((szI A.length B.length i:Nat):Int)/\zL=.int .i64 (i:Int)/\w=wr)
 case atStart=>exact ⟨0,by omega,rfl,rfl,rfl,rfl⟩
 case round=>
  obtain ⟨i,hi,rfl,rfl,rfl,rfl⟩:=hrel;by_cases ak:i<2
  case pos=>
   rcases (show i=0\/i=1 by omega) with rfl | rfl
   ·have hx:¬((A.length:Int)<0):=by omega
    simp only [szI,if_true];go_wp2_with fail;go_roundg 1
    case measure=>omega
    case rel=>exact ⟨1,by omega,rfl,by simp [szI],by go_num,rfl⟩
   ·have hx:¬((A.length:Int)+(B.length:Int)<0):=by omega
    have dB:szI A.length B.length 1=A.length:=(by simp [szI]);rw [dB];go_wp2_with fail;go_roundg 0
    case measure=>omega
    case rel=>exact ⟨2,by omega,rfl,by simp [szI],by go_num,rfl⟩
  case neg=>
   have tW:i=2:=(by omega);subst tW;have jk:szI A.length B.length 2=A.length+B.length:=(by simp [szI]);rw [jk];have hc:=grow_any (A.length+B.length) w (by omega) (by omega);go_wp2_with fail;refine hc.mono ?_;rintro e w1 ⟨g1,k1,rfl,js,b1⟩;clear hc jk;have d0:=(b1.cell (p:=⟨g,0,none⟩) yg).trans c0;have d1:=(b1.cell (p:=⟨g,1,none⟩) yg).trans c1;have z1:=Nat.lt_of_lt_of_le yg b1.size;have Gn:=zAA js;clear js c0 c1 hg;go_wp2_with fail;go_loopg [6,27] 2 (fun gh v6 Ev wr=>∃ (i:Nat) (v:Value),i<=2/\gh=2-i/\v6=v/\Ev=.int .i64 (i:Int)/\Hid (OwnL kTerm w.heap.size wr v (catI A B i))/\Below w.heap.size w wr/\wr.cell? ⟨g,0,none⟩=some (.slice aa A.length ca)/\wr.cell? ⟨g,1,none⟩=some (.slice ab B.length cb)/\g<wr.heap.size)
   case atStart=>exact ⟨0,_,by omega,rfl,rfl,rfl,zAA (by simpa [catI] using Gn.out),b1,d0,d1,z1⟩
   case round=>
    obtain ⟨i,v,hi,rfl,rfl,rfl,HO,bR,f0,f1,zR⟩:=hrel;by_cases ak:i<2
    case pos=>
     rcases (show i=0\/i=1 by omega) with rfl | rfl
     ·have hv:=HO.out
      simp only [catI,if_true] at hv;obtain ⟨v',w3,hr,io,b3,g3⟩:=run_cat (ty:=33) (B:=w.heap.size) hv (HA.out.under bR) bR.size (by simp;omega);have e0:=(b3.cell (p:=⟨g,0,none⟩) yg).trans f0;have e1:=(b3.cell (p:=⟨g,1,none⟩) yg).trans f1;have D9:=zAA io;clear hv io g3
      go_wp2_with (at_builtin;refine zCN rfl _ _ 33 33 rfl _ _ _ (by rfl) (by rfl) hr ?_)
      go_roundg 1
      case measure=>omega
      case rel=>exact ⟨1,_,by omega,rfl,rfl,by go_num,zAA (by simpa [catI] using D9.out),bR.trans b3,e0,e1,Nat.lt_of_lt_of_le zR b3.size⟩
     ·have hv:=HO.out
      have dB:catI A B 1=A:=(by simp [catI]);rw [dB] at hv;obtain ⟨v',w3,hr,io,b3,g3⟩:=run_cat (ty:=33) (B:=w.heap.size) hv (HB.out.under bR) bR.size (by omega);have e0:=(b3.cell (p:=⟨g,0,none⟩) yg).trans f0;have e1:=(b3.cell (p:=⟨g,1,none⟩) yg).trans f1;have D9:=zAA io;clear hv io g3
      go_wp2_with (at_builtin;refine zCN rfl _ _ 33 33 rfl _ _ _ (by rfl) (by rfl) hr ?_)
      go_roundg 0
      case measure=>omega
      case rel=>exact ⟨2,_,by omega,rfl,rfl,by go_num,zAA (by simpa [catI] using D9.out),bR.trans b3,e0,e1,Nat.lt_of_lt_of_le zR b3.size⟩
    case neg=>
     have tW:i=2:=(by omega);subst tW;have hv:=HO.out;have jk:catI A B 2=A++B:=(by simp [catI]);rw [jk] at hv;have HV:=zAA hv;clear hv HO;go_wp2;go_ret;exact ⟨_,rfl,HV.out,bR⟩
end Go.Proofs.YtkfgbhlpjkkgfaaGreatDoor
namespace Go.Proofs.YtkfgbhlpjkkgfaaGreatDoor
open Go.RowKit Go.IntWalk
theorem zFm {ok ok':Nat->Prop} {w:World} {v u:Value} {a b:Kd.Ty} (ha:HTy ok w v a) (hb:HTy ok' w u b) (Bj:Short a) (Ds:Short b) :
  Calls Tryz.prog 172 #[v,u] w fun r w'=>∃ z c,r=.returned (.tuple #[z,.int .i64 c])/\TRes (fun i=>w.heap.size<=i) w' z c (Kd.cat a b)/\Below w.heap.size w w':=by
 have HA:=zAA ha;have HB:=zAA hb;obtain ⟨va,rfl,tF⟩:=ha;obtain ⟨aa,ca,rfl,_,_,_⟩:=tF.at;obtain ⟨vb,rfl,eL⟩:=hb;obtain ⟨ab,cb,rfl,_,_,_⟩:=eL.at;unfold Short at Bj Ds;obtain ⟨R,hR⟩:=nmQ (Kd.cat a b);rw [<-hR];unfold Kd.cat at hR;have b1:Below w.heap.size w (((w.alloc (.cells #[.int .u8 a.elem,.slice aa a.n.length ca] 35 (0,0))).alloc (.cells #[.int .u8 b.elem,.slice ab b.n.length cb] 35 (0,0))).alloc (.cells #[.int .u8 0,.slice none 0 0] 35 (0,0))):=(((Below.refl _ _).alloc nR _).alloc (by simp) _).alloc (by simp;omega) _;have kA:(((w.alloc (.cells #[.int .u8 a.elem,.slice aa a.n.length ca] 35 (0,0))).alloc (.cells #[.int .u8 b.elem,.slice ab b.n.length cb] 35 (0,0))).alloc (.cells #[.int .u8 0,.slice none 0 0] 35 (0,0))).heap[w.heap.size]?=some (.cells #[.int .u8 a.elem,.slice aa a.n.length ca] 35 (0,0)):=(Below.heap_alloc _ _ _ (by simp;omega)).trans ((Below.heap_alloc _ _ _ (by simp)).trans (zAC w _));have kB:(((w.alloc (.cells #[.int .u8 a.elem,.slice aa a.n.length ca] 35 (0,0))).alloc (.cells #[.int .u8 b.elem,.slice ab b.n.length cb] 35 (0,0))).alloc (.cells #[.int .u8 0,.slice none 0 0] 35 (0,0))).heap[w.heap.size+1]?=some (.cells #[.int .u8 b.elem,.slice ab b.n.length cb] 35 (0,0)):=by
  have:=zAC (w.alloc (.cells #[.int .u8 a.elem,.slice aa a.n.length ca] 35 (0,0))) (.cells #[.int .u8 b.elem,.slice ab b.n.length cb] 35 (0,0));refine (Below.heap_alloc _ _ _ (by simp)).trans ?_
  simpa using this
 have kZ:(((w.alloc (.cells #[.int .u8 a.elem,.slice aa a.n.length ca] 35 (0,0))).alloc (.cells #[.int .u8 b.elem,.slice ab b.n.length cb] 35 (0,0))).alloc (.cells #[.int .u8 0,.slice none 0 0] 35 (0,0))).heap[w.heap.size+1+1]?=some (.cells #[.int .u8 0,.slice none 0 0] 35 (0,0)):=by
  have:=zAC ((w.alloc (.cells #[.int .u8 a.elem,.slice aa a.n.length ca] 35 (0,0))).alloc (.cells #[.int .u8 b.elem,.slice ab b.n.length cb] 35 (0,0))) (.cells #[.int .u8 0,.slice none 0 0] 35 (0,0))
  simpa using this
 have yr:=zAA (HA.out.under b1);have yQ:=zAA (HB.out.under b1);have uT:=zAA (tF.under b1);have uy:=zAA (eL.under b1);clear tF eL HA HB;go_enter Tryz.func172,Tryz.ntmps172;go_upto_region 1 with fail;generalize ((w.alloc (.cells #[.int .u8 a.elem,.slice aa a.n.length ca] 35 (0,0))).alloc (.cells #[.int .u8 b.elem,.slice ab b.n.length cb] 35 (0,0))).alloc (.cells #[.int .u8 0,.slice none 0 0] 35 (0,0))=w1 at b1 kA kB kZ yr yQ uT uy ⊢;have a0:=co kA 0;have a1:=co kA 1;have q0:=co kB 0;have q1:=co kB 1;simp at a0 a1 q0 q1;have hc:=zAP yr.out;generalize tg:Kd.arr a=qa at hc hR;go_wp2_with fail;refine hc.mono ?_;rintro e w2 ⟨rfl,b2⟩;clear hc;have B2:=b1.trans (b2.mono b1.size);have fZ:=(b2.block _ (zAB kZ)).trans kZ;have Kr:=(b2.cell (p:=⟨w.heap.size,0,none⟩) (zAB kA)).trans a0;have Lr:=(b2.cell (p:=⟨w.heap.size,1,none⟩) (zAB kA)).trans a1;have OI:=(b2.cell (p:=⟨w.heap.size+1,0,none⟩) (zAB kB)).trans q0;have Jm:=(b2.cell (p:=⟨w.heap.size+1,1,none⟩) (zAB kB)).trans q1;have qM:=Nat.lt_of_lt_of_le (zAB kA) b2.size;have vo:=Nat.lt_of_lt_of_le (zAB kB) b2.size;clear a0 a1 q0 q1 kA kB kZ
 cases qa
 case false=>
  rw [if_neg (by simp)] at hR;clear yr yQ uT uy;have aX:=co fZ 0;have st1:=co fZ 1;have dr:=fo fZ 0;have dp:=fo fZ 1;simp at aX st1;have KR:=zAD (zAD fZ 0 (.int .u8 0)) 1 (.slice none 0 0);have r0:=co KR 0;have r1:=co KR 1;simp at r0 r1;have BR:=(B2.setCell (p:=⟨w.heap.size+1+1,0,none⟩) (by simp;try omega) (.int .u8 0)).setCell (p:=⟨w.heap.size+1+1,1,none⟩) (by simp;try omega) (.slice none 0 0);clear KR;go_wp2;exact bodyPost_ret (v:=.tuple #[.agg #[.int .u8 0,.slice none 0 0],.int .i64 10]) (by simp [results,Tryz.results172,go_sem,r0,r1]) rfl ⟨_,_,rfl,by rw [hR];exact ⟨rfl,by decide,rfl⟩,BR⟩
 case true=>
  rw [Bool.true_and] at hR;have hc:=zAq (yQ.out.under b2) a.elem;generalize Kd.isAr b a.elem=qb at hc hR;go_wp2_with fail;refine hc.mono ?_;rintro e w3 ⟨rfl,b3⟩;clear hc;have B3:=B2.trans (b3.mono B2.size);have dv:=(b3.block _ (zAB fZ)).trans fZ;have Kp:=(b3.cell (p:=⟨w.heap.size,0,none⟩) qM).trans Kr;have iG:=(b3.cell (p:=⟨w.heap.size,1,none⟩) qM).trans Lr;have Mt:=(b3.cell (p:=⟨w.heap.size+1,1,none⟩) vo).trans Jm;have Ix:=Nat.lt_of_lt_of_le qM b3.size;have QD:=Nat.lt_of_lt_of_le vo b3.size;clear Kr Lr OI Jm fZ
  cases qb
  case false=>
   rw [if_neg (by simp)] at hR;clear yr yQ uT uy;have aX:=co dv 0;have st1:=co dv 1;have dr:=fo dv 0;have dp:=fo dv 1;simp at aX st1;have KR:=zAD (zAD dv 0 (.int .u8 0)) 1 (.slice none 0 0);have r0:=co KR 0;have r1:=co KR 1;simp at r0 r1;have BR:=(B3.setCell (p:=⟨w.heap.size+1+1,0,none⟩) (by simp;try omega) (.int .u8 0)).setCell (p:=⟨w.heap.size+1+1,1,none⟩) (by simp;try omega) (.slice none 0 0);clear KR;go_wp2;exact bodyPost_ret (v:=.tuple #[.agg #[.int .u8 0,.slice none 0 0],.int .i64 10]) (by simp [results,Tryz.results172,go_sem,r0,r1]) rfl ⟨_,_,rfl,by rw [hR];exact ⟨rfl,by decide,rfl⟩,BR⟩
  case true=>
   rw [if_pos rfl] at hR;have bL:Below w3.heap.size w3 (w3.alloc (.cells #[.slice aa a.n.length ca,.slice ab b.n.length cb] 33 (0,0))):=(Below.refl _ _).alloc nR _;have kL:=zAC w3 (.cells #[.slice aa a.n.length ca,.slice ab b.n.length cb] 33 (0,0));have ju:0<a.n.length:=(by unfold Kd.arr at tg;simpa using tg);have hc:=concat_any kL (((uT.out.under b2).under b3).under bL) (((uy.out.under b2).under b3).under bL) ju (by omega) (by omega);have B4:=B3.trans (bL.mono B3.size);have dF:=(bL.block _ (zAB dv)).trans dv;have Lo:=(bL.cell (p:=⟨w.heap.size,0,none⟩) Ix).trans Kp;have K8:=Nat.lt_of_lt_of_le Ix bL.size;clear yr yQ uT uy kL;go_wp2_with fail;refine hc.mono ?_;rintro e w5 ⟨vn,rfl,gK,b5⟩;clear hc;have B5:=B4.trans (b5.mono B4.size);have iH:=(b5.block _ (zAB dF)).trans dF;have Lf:=(b5.cell (p:=⟨w.heap.size,0,none⟩) K8).trans Lo;have LU:=Nat.lt_of_lt_of_le K8 b5.size;have fh:=zBj gK.row;have kx:=zAA (fh.wide (ok':=fun i=>w.heap.size<=i/\i≠w.heap.size+1+1) (fun i hi _=>⟨Nat.le_trans B4.size hi,by have:=zAB dF;omega⟩));clear gK fh dF Lo Kp iG Mt dv;have hc:=zBP kx.out;unfold Kd.rng at hc;generalize bm:Kd.okB (a.n++b.n)=qk at hc hR;clear bm
   cases qk
   case false=>
    rw [if_neg (by simp)] at hc hR;go_wp2_with fail;refine hc.mono ?_;rintro e w6 ⟨rfl,b6⟩;clear hc;have B6:=B5.trans (b6.mono B5.size);have gG:=(b6.block _ (zAB iH)).trans iH;have aX:=co gG 0;have st1:=co gG 1;have dr:=fo gG 0;have dp:=fo gG 1;simp at aX st1;have KR:=zAD (zAD gG 0 (.int .u8 0)) 1 (.slice none 0 0);have r0:=co KR 0;have r1:=co KR 1;simp at r0 r1;have BR:=(B6.setCell (p:=⟨w.heap.size+1+1,0,none⟩) (by simp;try omega) (.int .u8 0)).setCell (p:=⟨w.heap.size+1+1,1,none⟩) (by simp;try omega) (.slice none 0 0);clear KR;go_wp2;exact bodyPost_ret (v:=.tuple #[.agg #[.int .u8 0,.slice none 0 0],.int .i64 16]) (by simp [results,Tryz.results172,go_sem,r0,r1]) rfl ⟨_,_,rfl,by rw [hR];exact ⟨rfl,by decide,rfl⟩,BR⟩
   case true=>
    rw [if_pos rfl] at hc hR;go_wp2_with fail;refine hc.mono ?_;rintro e w6 ⟨rfl,b6⟩;clear hc;have B6:=B5.trans (b6.mono B5.size);have gG:=(b6.block _ (zAB iH)).trans iH;have Nl:=(b6.cell (p:=⟨w.heap.size,0,none⟩) LU).trans Lf;have hc:=zBL (kx.out.under b6) a.elem;clear kx iH Lf;go_wp2_with fail;refine hc.mono ?_;rintro e w7 ⟨z,rfl,Mx,b7⟩;clear hc;have B7:=B6.trans (b7.mono B6.size);have Az:=(b7.block _ (zAB gG)).trans gG;obtain ⟨zu,rfl,AV⟩:=Mx;obtain ⟨za,zn,zc,rfl⟩:=AV.slice;have Ik:(Kd.mkA a.elem (a.n++b.n)).elem=a.elem:=rfl;rw [Ik];have cF:¬okU (fun i=>w.heap.size<=i/\i≠w.heap.size+1+1) w6.heap.size (w.heap.size+1+1):=by
     rintro (h | h)
     ·exact h.2 rfl
     ·have:=zAB gG;omega
    have HZ:=zAA ((AV.set (p:=⟨w.heap.size+1+1,0,none⟩) cF (.int .u8 a.elem)).set (p:=⟨w.heap.size+1+1,1,none⟩) cF (.slice za zn zc));have O4:=B6.size;clear AV gG Nl Ik;have aX:=co Az 0;have st1:=co Az 1;have dr:=fo Az 0;have dp:=fo Az 1;simp at aX st1;have KR:=zAD (zAD Az 0 (.int .u8 a.elem)) 1 (.slice za zn zc);have r0:=co KR 0;have r1:=co KR 1;simp at r0 r1;have BR:=(B7.setCell (p:=⟨w.heap.size+1+1,0,none⟩) (by simp;try omega) (.int .u8 a.elem)).setCell (p:=⟨w.heap.size+1+1,1,none⟩) (by simp;try omega) (.slice za zn zc);clear KR;go_wp2;exact bodyPost_ret (v:=.tuple #[.agg #[.int .u8 a.elem,.slice za zn zc],.int .i64 0]) (by simp [results,Tryz.results172,go_sem,r0,r1]) rfl ⟨_,_,rfl,by rw [hR];exact ⟨rfl,_,rfl,HZ.out.wide (fun i hi _=>hi.elim (fun h=>h.1) (fun h=>Nat.le_trans O4 h))⟩,BR⟩
theorem two_of {α:Type}:∀ {l:List α},l.length=2->∃ a b,l=[a,b]
 | [a,b],_=>⟨a,b,rfl⟩
theorem one_of {α:Type}:∀ {l:List α},l.length=1->∃ a,l=[a]
 | [a],_=>⟨a,rfl⟩
theorem whole14 (k:Int):WholeDoes 14 k:=by
 intro ok cC w y S vl l dU eU hG hS hl ch fw;have ji:=zAA dU;clear dU eU;have ek:l.length=2:=by
  have h1:=ch.lo;have h2:=ch.hi;have e1:(Rn.shp (14:Int).toNat).2.1=2:=(by decide);have e2:(Rn.shp (14:Int).toNat).2.2.1=2:=(by decide);rw [e1] at h1;rw [e2] at h2;omega
 obtain ⟨a,b,rfl⟩:=two_of ek;clear ek;obtain ⟨R,hR⟩:=nmQ (Kd.whole 14 k S [a,b]);rw [<-hR];have HR:=zAA (show R=Kd.cat a b by rw [hR];unfold Kd.whole;simp);clear hR;have On:=fw a (by simp);have GZ:=fw b (by simp);obtain ⟨b1,kD,kZ⟩:=nw2 w (.cells #[.int .i64 y.op,.int .i64 y.k,.int .i64 y.n,.string y.name,.slice y.aS y.nS y.cS,.slice y.aL y.nL y.cL] 54 (0,0)) (.cells #[.int .u8 0,.slice none 0 0] 35 (0,0))
 obtain ⟨la,lc,rfl,_,_,ai⟩:=(hl.under b1).at;obtain ⟨bl,ol,aa,na,ca,rfl,yl,x0,x1,dl⟩:=ai 0 (by simp);obtain ⟨Ak,AZ,ab,nb,cb,e2,qQ,z0,z1,eI⟩:=ai 1 (by simp);injection e2 with e2;injection e2 with e3 e4 _;subst e3 e4;simp at x0 x1 z0 z1 dl eI;have eM:=zAA dl;have ij:=zAA eI;clear ai hl hG hS fw dl eI ch;go_enter Tryz.func123,Tryz.ntmps123;go_upto_region 1 with fail;generalize (w.alloc (.cells #[.int .i64 y.op,.int .i64 y.k,.int .i64 y.n,.string y.name,.slice y.aS y.nS y.cS,.slice y.aL y.nL y.cL] 54 (0,0))).alloc (.cells #[.int .u8 0,.slice none 0 0] 35 (0,0))=w1 at b1 kD kZ yl qQ x0 x1 z0 z1 eM ij ⊢;have g0:=co kD 0;simp at g0;rw [ji.out] at g0;go_upto_region 19 with fail;refine zAE (fun w'=>Below w1.heap.size w1 w') (fun j=>j==9 || j==10) (by kernel_rfl) ?_;have af:Below w1.heap.size w1 w1.drew:=(Below.refl _ _).drew;generalize w1.drew=aW at af ⊢;refine' tkR 0 122 af ?o1
 refine' tkR 1 123 af ?o2
 refine' tkQ 2 124 af ?hyv ?o3
 case hyv=>
  intro wz ae;have bI:=(ae.cell (p:=⟨bl,ol,none⟩) yl).trans x0;have d9:=(ae.cell (p:=⟨bl,ol+1,none⟩) yl).trans x1;go_simp
  try rfl
 try simp only [Act.put,sT,sZ,sS]
 refine' tkR 3 125 af ?o4
 refine' tkR 4 126 af ?o5
 refine' tkQ 5 127 af ?hyv ?o6
 case hyv=>
  intro wz ae;have bI:=(ae.cell (p:=⟨bl,ol+2,none⟩) yl).trans z0;have d9:=(ae.cell (p:=⟨bl,ol+2+1,none⟩) yl).trans z1;go_simp
  try rfl
 try simp only [Act.put,sT,sZ,sS]
 refine tnQ 6 (fun K hK=>?_);go_simp;refine (zFm (eM.out.under af) (ij.out.under af) On GZ).mono ?_;rintro eq cW ⟨u,c,rfl,dw,dL⟩;have al:Below w1.heap.size w1 cW:=af.trans (dL.mono af.size);rw [<-HR.out] at dw;refine hK.out _ _ (fun _=>al) ?_;clear hK K
 try simp only [Act.put,sT,sZ,sS]
 have cF:¬(ok (w.heap.size+1)\/cC (w.heap.size+1)\/w.heap.size<=w.heap.size+1)\/True:=.inr trivial;have hT:=dw.wide (ok':=fun i=>aW.heap.size<=i) (fun i hi=>hi);clear cF dw;have cF:¬(aW.heap.size<=w.heap.size+1):=(by have:=zAB kZ;have:=af.size;omega);refine' tkR 7 129 al ?o7
 refine' tkR 8 130 al ?o8
 obtain ⟨te,ta,tn,tc,rfl⟩:=hT.form;have aT:=(al.block _ (zAB kZ)).trans kZ;have aX:=co aT 0;have st1:=co aT 1;have dr:=fo aT 0;have dp:=fo aT 1;simp at aX st1;have KR:=zAD (zAD aT 0 (.int .u8 te)) 1 (.slice ta tn tc);have r0:=co KR 0;have r1:=co KR 1;simp at r0 r1;have Bn:=b1.trans (al.mono b1.size);have BR:=(Bn.setCell (p:=⟨w.heap.size+1,0,none⟩) (by simp) (.int .u8 te)).setCell (p:=⟨w.heap.size+1,1,none⟩) (by simp) (.slice ta tn tc);have HT:=zAA ((hT.set (p:=⟨w.heap.size+1,0,none⟩) cF (.int .u8 te)).set (p:=⟨w.heap.size+1,1,none⟩) cF (.slice ta tn tc));clear KR aT hT;refine tnQ 9 (fun K hK=>?_);go_simp;refine hK.out _ _ (fun h=>absurd h (by decide)) ?_;clear hK K
 try simp only [Act.put,sT,sZ,sS]
 refine tnQ 10 (fun K hK=>?_);go_simp;refine hK.out _ _ (fun h=>absurd h (by decide)) ?_;clear hK K
 try simp only [Act.put,sT,sZ,sS]
 refine zAF (by kernel_rfl) ?_ _;go_wp2;exact bodyPost_ret (v:=.tuple #[.agg #[.int .u8 te,.slice ta tn tc],.int .i64 c]) (by simp [results,Tryz.results123,go_sem,r0,r1]) rfl ⟨_,_,rfl,HT.out.wide (fun i hi=>.inr (.inr (by have:=af.size;have:=b1.size;omega))),BR⟩
theorem whole10 (k:Int):WholeDoes 10 k:=by
 intro ok cC w y S vl l dU eU hG hS hl ch fw;have ji:=zAA dU;clear dU eU;have e1:(Rn.shp (10:Int).toNat).2.1=1:=(by decide);have e2:(Rn.shp (10:Int).toNat).2.2.1=1:=(by decide);have e3:(Rn.shp (10:Int).toNat).2.2.2.1=1:=(by decide);have bh:l.length=1:=by
  have h1:=ch.lo;have h2:=ch.hi;rw [e1] at h1;rw [e2] at h2;omega
 have fp:S.length=1:=by
  have h1:=ch.sz;rw [e3] at h1;omega
 obtain ⟨a,rfl⟩:=one_of bh;obtain ⟨s,rfl⟩:=one_of fp;clear bh fp e1 e2 e3;obtain ⟨R,hR⟩:=nmQ (Kd.whole 10 k [s] [a]);rw [<-hR];have HR:=zAA (show R=Kd.typed (!Kd.arr a) (Kd.mkA a.elem s) by rw [hR];unfold Kd.whole;simp);clear hR;obtain ⟨b1,kD,kZ⟩:=nw2 w (.cells #[.int .i64 y.op,.int .i64 y.k,.int .i64 y.n,.string y.name,.slice y.aS y.nS y.cS,.slice y.aL y.nL y.cL] 54 (0,0)) (.cells #[.int .u8 0,.slice none 0 0] 35 (0,0))
 obtain ⟨la,lc,rfl,_,_,ai⟩:=(hl.under b1).at;obtain ⟨bl,ol,aa,na,ca,rfl,yl,x0,x1,dl⟩:=ai 0 (by simp);obtain ⟨sa,sc,eS,_,_,oN⟩:=((hS.wide (ok':=fun i=>ok i/\i<w.heap.size) (fun i hi ak=>⟨hi,ak⟩)).under b1).at;injection eS with p1 p2 p3;obtain ⟨bs,os,ua,un,uc,rfl,ys,u0,vw⟩:=oN 0 (by simp);simp at x0 x1 dl u0 vw;have eM:=zAA dl;have yC:=zAA vw;have F7:=zAA p1;have iZ:=zAA p2;clear ai hl hG hS fw dl vw ch oN p1 p2 p3;go_enter Tryz.func123,Tryz.ntmps123;go_upto_region 1 with fail;generalize (w.alloc (.cells #[.int .i64 y.op,.int .i64 y.k,.int .i64 y.n,.string y.name,.slice y.aS y.nS y.cS,.slice y.aL y.nL y.cL] 54 (0,0))).alloc (.cells #[.int .u8 0,.slice none 0 0] 35 (0,0))=w1 at b1 kD kZ yl x0 x1 eM ys u0 yC ⊢;have g0:=co kD 0;have g4:=co kD 4;simp at g0 g4;rw [ji.out] at g0;rw [F7.out,iZ.out] at g4;simp at g4;have yD:=zAB kD;go_upto_region 11 with fail;refine zAE (fun w'=>Below w1.heap.size w1 w') (fun j=>j==17 || j==18) (by kernel_rfl) ?_;have af:Below w1.heap.size w1 w1.drew:=(Below.refl _ _).drew;generalize w1.drew=aW at af ⊢;refine' tkR 0 63 af ?o1
 refine' tkR 1 64 af ?o2
 refine' tkQ 2 65 af ?hyv ?o3
 case hyv=>
  intro wz ae;have bI:=(ae.cell (p:=⟨bl,ol,none⟩) yl).trans x0;have d9:=(ae.cell (p:=⟨bl,ol+1,none⟩) yl).trans x1;go_simp
  try rfl
 try simp only [Act.put,sT,sZ,sS]
 refine' tkR 5 68 af ?o4
 refine' tkR 6 69 af ?o5
 refine' tkR 7 70 af ?o6
 refine' tkQ 8 71 af ?hyv ?o7
 case hyv=>
  intro wz ae;have bI:=(ae.cell (p:=⟨bl,ol,none⟩) yl).trans x0;have d9:=(ae.cell (p:=⟨bl,ol+1,none⟩) yl).trans x1;go_simp
  try rfl
 try simp only [Act.put,sT,sZ,sS]
 refine' tkR 9 72 af ?o8
 refine' tkQ 10 73 af ?hyv ?o9
 case hyv=>
  intro wz ae;have bI:=(ae.cell (p:=⟨w.heap.size,4,none⟩) yD).trans g4;go_simp
  try rfl
 try simp only [Act.put,sT,sZ,sS]
 refine' tkR 11 74 af ?o10
 refine' tkQ 12 75 af ?hyv ?o11
 case hyv=>
  intro wz ae;have bI:=(ae.cell (p:=⟨bs,os,none⟩) ys).trans u0;go_simp
  try rfl
 try simp only [Act.put,sT,sZ,sS]
 refine tnQ 3 (fun K hK=>?_);go_simp;refine (zAP (eM.out.under af)).mono ?_;rintro eq cW ⟨rfl,dL⟩;have al:Below w1.heap.size w1 cW:=af.trans (dL.mono af.size);refine hK.out _ _ (fun _=>al) ?_;clear hK K
 try simp only [Act.put,sT,sZ,sS]
 refine' tkR 4 67 al ?o12
 refine tnQ 13 (fun K hK=>?_);go_simp;refine (zBL (yC.out.under al) a.elem).mono ?_;rintro eq fY ⟨uz,rfl,hz,ib⟩;have aK:Below w1.heap.size w1 fY:=al.trans (ib.mono al.size);refine hK.out _ _ (fun _=>aK) ?_;clear hK K
 try simp only [Act.put,sT,sZ,sS]
 refine tnQ 14 (fun K hK=>?_);go_simp;refine (zAi hz (!Kd.arr a)).mono ?_;rintro eq qH ⟨u,c,rfl,dw,rv⟩;have g9:Below w1.heap.size w1 qH:=aK.trans (rv.mono aK.size);rw [<-HR.out] at dw;refine hK.out _ _ (fun _=>g9) ?_;clear hK K
 try simp only [Act.put,sT,sZ,sS]
 have hT:=dw.wide (ok':=fun i=>(ok i\/w1.heap.size<=i)/\i≠w.heap.size+1) (fun i hi=>?okw)
 case okw=>
  have h1:=al.size;have h2:=zAB kZ;rcases hi with h | h
  ·exact ⟨.inl h.1,by have:=h.2;omega⟩
  ·exact ⟨.inr (by omega),by omega⟩
 clear dw hz;have cF:¬((ok (w.heap.size+1)\/w1.heap.size<=w.heap.size+1)/\w.heap.size+1≠w.heap.size+1):=fun h=>h.2 rfl;refine' tkR 15 78 g9 ?o13
 refine' tkR 16 79 g9 ?o14
 obtain ⟨te,ta,tn,tc,rfl⟩:=hT.form;have aT:=(g9.block _ (zAB kZ)).trans kZ;have aX:=co aT 0;have st1:=co aT 1;have dr:=fo aT 0;have dp:=fo aT 1;simp at aX st1;have KR:=zAD (zAD aT 0 (.int .u8 te)) 1 (.slice ta tn tc);have r0:=co KR 0;have r1:=co KR 1;simp at r0 r1;have Bn:=b1.trans (g9.mono b1.size);have BR:=(Bn.setCell (p:=⟨w.heap.size+1,0,none⟩) (by simp) (.int .u8 te)).setCell (p:=⟨w.heap.size+1,1,none⟩) (by simp) (.slice ta tn tc);have HT:=zAA ((hT.set (p:=⟨w.heap.size+1,0,none⟩) cF (.int .u8 te)).set (p:=⟨w.heap.size+1,1,none⟩) cF (.slice ta tn tc));clear KR aT hT;refine tnQ 17 (fun K hK=>?_);go_simp;refine hK.out _ _ (fun h=>absurd h (by decide)) ?_;clear hK K
 try simp only [Act.put,sT,sZ,sS]
 refine tnQ 18 (fun K hK=>?_);go_simp;refine hK.out _ _ (fun h=>absurd h (by decide)) ?_;clear hK K
 try simp only [Act.put,sT,sZ,sS]
 refine zAF (by kernel_rfl) ?_ _;go_wp2;exact bodyPost_ret (v:=.tuple #[.agg #[.int .u8 te,.slice ta tn tc],.int .i64 c]) (by simp [results,Tryz.results123,go_sem,r0,r1]) rfl ⟨_,_,rfl,HT.out.wide (fun i hi=>hi.1.elim .inl (fun h=>.inr (.inr (Nat.le_trans b1.size h)))),BR⟩
theorem HTys.wide {ok ok':Nat->Prop} {w:World} {v:Value} {l:List Kd.Ty} (h:HTys ok w v l) (hk:∀ i,ok i->i<w.heap.size->ok' i):HTys ok' w v l:=by
 obtain ⟨C,h1,h2⟩:=h;refine ⟨C,h1.wide hk,fun i hi=>?_⟩;obtain ⟨u,e,hu⟩:=h2 i hi;exact ⟨u,e,hu.wide hk⟩
theorem zEv {α:Type}:∀ {l:List α},l.length=3->∃ a b c,l=[a,b,c]
 | [a,b,c],_=>⟨a,b,c,rfl⟩
end Go.Proofs.YtkfgbhlpjkkgfaaGreatDoor
