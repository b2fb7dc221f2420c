import Derived.Test.YtkfgbhlpjkkgfaaGreatDoorT21
set_option linter.unusedVariables false
set_option linter.unusedSimpArgs false
set_option maxHeartbeats 64000000
set_option maxRecDepth 100000
namespace Go.Proofs.YtkfgbhlpjkkgfaaGreatDoor
open Go.RowKit Go.IntWalk
namespace Kd
def un1 (done:List ByteArray) (d:De):Int:=if hasN done d.name=true then 0 else 9
def mk1 (mk done:List ByteArray) (s:ByteArray):Int:=if hasN mk s=false then 9 else if hasN done s=true then 8 else 0
end Kd
def Subs (done mk:List ByteArray):Prop:=∀ s,Kd.hasN done s=true->Kd.hasN mk s=true
structure MadeP (ok:Nat->Prop) (w:World) (x:SB) (E:Kd.Env) (mk done:List ByteArray) (s:ByteArray) (r:Ending) (w':World):Prop where
 ret:r=.returned (.int .i64 (Kd.mk1 mk done s))
 asd:Aside x.maps w.heap.size w w'
 scp:Kd.mk1 mk done s=0->Scp ok w' x E mk (done++[s])
theorem makeName_any {ok:Nat->Prop} {w:World} {x:SB} {E:Kd.Env} {mk done:List ByteArray} (hS:Scp ok w x E mk done) (kf:Subs done mk) {s:ByteArray} (hs:s.size<=maxLen) (aP:mk.length+done.length<1000000) :
  Calls Tryz.prog 85 #[.pointer (some ⟨x.b,0,none⟩),.string s] w (MadeP ok w x E mk done s):=by
 obtain ⟨R,hR⟩:=nmQ (Kd.mk1 mk done s);have HR:=zAA hR;unfold Kd.mk1 at hR;obtain ⟨hl,_⟩:=hS.lookMade hs (Below.refl _ w);have FW:=kf s;have kS:=hS.blk;have e3:=co kS 3;simp at e3;obtain ⟨ff,hm,hT⟩:=hS.h3;have HS:=zAA hS;have rq:=zAA hT;clear hS hT kS kf;generalize Kd.hasN done s=qd at hl hR FW;generalize Kd.hasN mk s=qm at hl hR FW
 cases qd
 case true=>
  have:=FW rfl;subst this;simp at hl hR;go_enter Tryz.func85,Tryz.ntmps85;go_wp2;go_ret;exact ⟨by rw [<-HR.out,hR];rfl,Aside.refl _,fun h=>by rw [<-HR.out,hR] at h;cases h⟩
 case false=>
  cases qm
  case false=>
   simp at hl hR;go_enter Tryz.func85,Tryz.ntmps85;go_wp2;go_ret;exact ⟨by rw [<-HR.out,hR];rfl,Aside.refl _,fun h=>by rw [<-HR.out,hR] at h;cases h⟩
  case true=>
   simp at hl hR;go_enter Tryz.func85,Tryz.ntmps85
   go_wp2_with (at_mapUpdate;refine zDJ rfl _ _ _ 133 rfl 3 u133 hm (by unfold maxLen;omega) hs rfl rfl ?_;intro w3 Bg wK)
   go_ret;exact ⟨by rw [<-HR.out,hR];rfl,zBd (by simp [SB.maps]) wK nR,fun _=>HS.out.afterDone (f:=ff) rq.out Bg wK⟩
theorem mkNm_cons (mk done:List ByteArray) (s:ByteArray) (r:List ByteArray):Kd.mkNm mk done (s :: r)=if Kd.mk1 mk done s≠0 then Kd.mk1 mk done s else Kd.mkNm mk (done++[s]) r:=by
 show (if Kd.hasN mk s=false then 9 else if Kd.hasN done s=true then 8 else Kd.mkNm mk (done++[s]) r)=_
 unfold Kd.mk1;by_cases h:Kd.hasN mk s=false
 ·rw [if_pos h,if_pos h,if_pos (by simp)]
 ·rw [if_neg h,if_neg h]
  by_cases h2:Kd.hasN done s=true
  ·rw [if_pos h2,if_pos h2,if_pos (by simp)]
  ·rw [if_neg h2,if_neg h2,if_neg (by simp)]
theorem mk1_zero {mk done:List ByteArray} {s:ByteArray} (h:Kd.mk1 mk done s=0):Kd.hasN mk s=true:=by
 unfold Kd.mk1 at h
 split at h
 ·cases h
 ·rename_i h1;simpa using h1
theorem Subs.more {mk done:List ByteArray} {s:ByteArray} (h:Subs done mk) (hs:Kd.hasN mk s=true):Subs (done++[s]) mk:=by
 intro u hu;rw [zDe] at hu;rcases Bool.or_eq_true_iff.1 hu with h1 | h1
 ·exact h u h1
 ·have e:=beq_iff_eq.1 h1
  unfold Kd.hasN at hs ⊢;rw [<-e];exact hs
structure NamesP (ok:Nat->Prop) (w:World) (x:SB) (E:Kd.Env) (mk done l:List ByteArray) (r:Ending) (w':World):Prop where
 ret:r=.returned (.int .i64 (Kd.mkNm mk done l))
 asd:Aside x.maps w.heap.size w w'
 scp:Kd.mkNm mk done l=0->Scp ok w' x E mk (done++l)/\Subs (done++l) mk
theorem knames_any {ok:Nat->Prop} {w:World} {x:SB} {E:Kd.Env} {mk done:List ByteArray} (hS:Scp ok w x E mk done) (kf:Subs done mk) {v:Value} {l:List ByteArray} (hl:HNames ok w v l) (hF:∀ s ∈ l,s.size<=maxLen) (aP:mk.length+done.length+l.length<1000000) :
  Calls Tryz.prog 84 #[v,.func (.func 85) #[.pointer (some ⟨x.b,0,none⟩)] #[]] w (NamesP ok w x E mk done l):=by
 obtain ⟨ao,cap,rfl,aC,av,ai⟩:=hl.at;unfold maxLen at av;obtain ⟨R,hR⟩:=nmQ (Kd.mkNm mk done l);have HR:=zAA hR;have HF:=zAA hF;have HS:=zAA hS;have sJ:=zAA hS.okOut;have Ls:=zAA kf;clear hR hF hS kf;obtain ⟨n,hn⟩:=nmQ (l.length);rw [<-hn] at aC aP ⊢;have HN:=zAA hn;have HL:=zAA hl;clear hn ai hl;go_enter Tryz.func84,Tryz.ntmps84;go_wp2_with fail;go_loopg [10] n (fun k v wr=>∃ i,i<=n/\k=n-i/\v=.int .i64 (i:Nat)/\Hid (R=Kd.mkNm mk (done++l.take i) (l.drop i))/\Hid (Scp ok wr x E mk (done++l.take i))/\Hid (Subs (done++l.take i) mk)/\Aside x.maps w.heap.size w wr)
 case atStart=>exact ⟨0,Nat.zero_le _,rfl,rfl,zAA (by simpa using HR.out),zAA (by simpa using HS.out),zAA (by simpa using Ls.out),Aside.refl _⟩
 case round=>
  obtain ⟨i,hi,rfl,rfl,H,ni,E6,aj⟩:=hrel;by_cases ak:i<n
  case neg=>
   have bH:i=n:=(by omega);subst bH;have e0:l.take i=l:=List.take_of_length_le (by have:=HN.out;omega);have e1:l.drop i=[]:=List.drop_of_length_le (by have:=HN.out;omega);have hz:R=0:=(by rw [H.out,e1];rfl);go_wp2;go_ret;refine ⟨by rw [<-HR.out,hz];rfl,aj,fun _=>?_⟩;have h1:=ni.out;have h2:=E6.out;rw [e0] at h1 h2;exact ⟨h1,h2⟩
  case pos=>
   have ap:i<l.length:=(by have:=HN.out;omega);have cw:=HF.out _ (List.getElem_mem ap);have jG:l.drop i=l[i] :: l.drop (i+1):=List.drop_eq_getElem_cons ap;have g7:l.take (i+1)=l.take i++[l[i]]:=List.take_succ_eq_append_getElem ap;have aY:=H.out;rw [jG,mkNm_cons] at aY;have ek:HNames ok wr (.slice ao l.length cap) l:=HL.out.keep aj.size (fun j hj cM=>aj.block j cM (sJ.out j hj));obtain ⟨fj,bE,eqs,_,_,br⟩:=ek.at;injection eqs with q1 q2 q3;subst q1;obtain ⟨b,o,rfl,hb,c0⟩:=br i ap;obtain ⟨d,hd⟩:=nmQ (l[i]);rw [<-hd] at cw aY g7 c0;clear br ek q2 q3 jG hd;have lB:(l.take i).length=i:=(by rw [List.length_take];omega);have ag:=makeName_any ni.out E6.out cw (by rw [List.length_append,lB];omega);go_wp2_with fail;refine ag.mono ?_;rintro e w4 ⟨rfl,a4,e9⟩;have AW:=aj.trans a4 aj.size;obtain ⟨c,cR⟩:=nmQ (Kd.mk1 mk (done++l.take i) d);have uo:c=0->Subs (done++l.take i++[d]) mk:=fun h=>E6.out.more (mk1_zero (cR ▸ h));rw [<-cR] at e9 aY;have HC:=zAA cR
   try rw [<-cR]
   clear cR ag;by_cases hz:c=0
   ·subst hz
    rw [if_neg (by simp)] at aY;have jy:=zAA (e9 rfl);have Ad:=zAA (uo rfl);clear e9 uo;go_wp2_with fail;go_roundg (n-(i+1))
    case measure=>omega
    case rel=>
     refine ⟨i+1,by omega,rfl,by go_num,zAA ?_,zAA ?_,zAA ?_,AW⟩
     ·rw [aY,g7,<-List.append_assoc]
     ·have:=jy.out
      rw [g7,<-List.append_assoc];exact this
     ·have:=Ad.out
      rw [g7,<-List.append_assoc];exact this
   ·rw [if_pos hz] at aY
    have bY:(c != 0)=true:=(by simpa using hz);clear e9 uo;go_wp2;go_ret;exact ⟨by rw [<-HR.out,aY];rfl,AW,fun h=>absurd (by rw [<-HR.out,aY] at h;exact h) hz⟩
theorem zFi {ok:Nat->Prop} {w:World} {x:SB} {E:Kd.Env} {mk done:List ByteArray} (hS:Scp ok w x E mk done) {B:Nat} (hB:w.heap[B]?=some (.cells #[.pointer (some ⟨x.b,0,none⟩)] 99 (0,0))) (d:De) (ua:Option Addr) (un uc:Nat) (ht:d.name.size<=maxLen) :
  Calls Tryz.prog 88 #[.agg #[.string d.name,.int .u8 d.elem,.slice ua un uc],.pointer (some ⟨B,0,none⟩)] w fun r w'=>r=.returned (.int .i64 (Kd.un1 done d))/\Below w.heap.size w w':=by
 have bA:Below w.heap.size w (w.alloc (.cells #[.string d.name,.int .u8 d.elem,.slice ua un uc] 50 (0,0))):=(Below.refl _ _).alloc nR _;have h1:=hS.keep bA;have kA:=zAC w (.cells #[.string d.name,.int .u8 d.elem,.slice ua un uc] 50 (0,0));have kB:=(bA.block _ (zAB hB)).trans hB;obtain ⟨R,hR⟩:∃ R:Int,R=Kd.un1 done d:=⟨_,rfl⟩;rw [<-hR];unfold Kd.un1 at hR;go_enter Tryz.func88,Tryz.ntmps88;go_upto_region 1 with fail;generalize w.alloc (.cells #[.string d.name,.int .u8 d.elem,.slice ua un uc] 50 (0,0))=w1 at bA h1 kA kB ⊢;have hv:=fun w' (hb:Below w1.heap.size w1 w')=>(h1.lookMade ht hb).2;have kS:=h1.blk;have yA:=zAB kA;have yB:=zAB kB;have yS:=zAB kS;have c0:=co kA 0;have d0:=co kB 0;have e3:=co kS 3;simp at c0 d0 e3;generalize Kd.hasN done d.name=q at hv hR;clear hS h1 kS hB kB kA
 cases q
 case false=>
  rw [if_neg (by simp)] at hR;subst hR;simp at hv;go_cut [11] (fun zL wd=>zL=.bool true/\Below w1.heap.size w1 wd)
  case first=>
   refine zAE (fun w'=>Below w1.heap.size w1 w') (fun _=>false) (by kernel_rfl) ?_;have af:Below w1.heap.size w1 w1.drew:=(Below.refl _ _).drew;generalize w1.drew=aW at af ⊢;refine' tkQ 0 4 af ?hyv ?o1
   case hyv=>
    intro wz ae;have bI:=(ae.cell (p:=⟨B,0,none⟩) yB).trans d0;go_simp
    try rfl
   try simp only [Act.put,sT,sZ,sS]
   refine' tkR 1 5 af ?o2
   refine' tkR 2 6 af ?o3
   refine' tkQ 3 7 af ?hyv ?o4
   case hyv=>
    intro wz ae;have bI:=(ae.cell (p:=⟨x.b,3,none⟩) yS).trans e3;go_simp
    try rfl
   try simp only [Act.put,sT,sZ,sS]
   refine' tkR 4 8 af ?o5
   refine' tkQ 5 9 af ?hyv ?o6
   case hyv=>
    intro wz ae;have bI:=(ae.cell (p:=⟨w.heap.size,0,none⟩) yA).trans c0;go_simp
    try rfl
   try simp only [Act.put,sT,sZ,sS]
   refine' tkQ 6 10 af ?hyv ?o7
   case hyv=>
    intro wz ae;have wv:=hv _ ae;go_simp
    try rfl
   try simp only [Act.put,sT,sZ,sS]
   refine' tkR 7 11 af ?o8
   refine zAF (by kernel_rfl) ?_ _;go_wp2_with fail;go_meet
   case rel=>exact ⟨rfl,af⟩
  case rest=>
   obtain ⟨rfl,bc⟩:=hcut;go_wp2;go_ret;exact ⟨rfl,bA.trans (bc.mono bA.size)⟩
 case true=>
  rw [if_pos rfl] at hR;subst hR;simp at hv;go_cut [11] (fun zL wd=>zL=.bool false/\Below w1.heap.size w1 wd)
  case first=>
   refine zAE (fun w'=>Below w1.heap.size w1 w') (fun _=>false) (by kernel_rfl) ?_;have af:Below w1.heap.size w1 w1.drew:=(Below.refl _ _).drew;generalize w1.drew=aW at af ⊢;refine' tkQ 0 4 af ?hyv ?o9
   case hyv=>
    intro wz ae;have bI:=(ae.cell (p:=⟨B,0,none⟩) yB).trans d0;go_simp
    try rfl
   try simp only [Act.put,sT,sZ,sS]
   refine' tkR 1 5 af ?o10
   refine' tkR 2 6 af ?o11
   refine' tkQ 3 7 af ?hyv ?o12
   case hyv=>
    intro wz ae;have bI:=(ae.cell (p:=⟨x.b,3,none⟩) yS).trans e3;go_simp
    try rfl
   try simp only [Act.put,sT,sZ,sS]
   refine' tkR 4 8 af ?o13
   refine' tkQ 5 9 af ?hyv ?o14
   case hyv=>
    intro wz ae;have bI:=(ae.cell (p:=⟨w.heap.size,0,none⟩) yA).trans c0;go_simp
    try rfl
   try simp only [Act.put,sT,sZ,sS]
   refine' tkQ 6 10 af ?hyv ?o15
   case hyv=>
    intro wz ae;have wv:=hv _ ae;go_simp
    try rfl
   try simp only [Act.put,sT,sZ,sS]
   refine' tkR 7 11 af ?o16
   refine zAF (by kernel_rfl) ?_ _;go_wp2_with fail;go_meet
   case rel=>exact ⟨rfl,af⟩
  case rest=>
   obtain ⟨rfl,bc⟩:=hcut;go_wp2;go_ret;exact ⟨rfl,bA.trans (bc.mono bA.size)⟩
theorem zEI {ok:Nat->Prop} {w:World} {x:SB} {E:Kd.Env} {mk done:List ByteArray} (hS:Scp ok w x E mk done) {B:Nat} (hB:w.heap[B]?=some (.cells #[.pointer (some ⟨x.b,0,none⟩)] 99 (0,0))) {v:Value} {l:List De} {oM:Nat->Prop} (hl:HDes oM w v l) (hF:∀ d ∈ l,Rn.deF d) :
  Calls Tryz.prog 81 #[v,.func (.func 88) #[] #[.pointer (some ⟨B,0,none⟩)]] w fun e w'=>e=.returned (.int .i64 (Rn.firstC (Kd.un1 done) l))/\Below w.heap.size w w':=by
 obtain ⟨ao,cap,rfl,aC,av,ai⟩:=hl.at;unfold maxLen at av;obtain ⟨R,hR⟩:=nmQ (Rn.firstC (Kd.un1 done) l);rw [<-hR];have HR:=zAA hR;clear hR;obtain ⟨n,hn⟩:=nmQ (l.length);rw [<-hn] at aC ⊢;have HN:=zAA hn;clear hn;have HS:=zAA hS;have HB:=zAA hB;have HF:=zAA hF;clear hS hB hF hl;go_enter Tryz.func81,Tryz.ntmps81;go_wp2_with fail;go_loopg [10] n (fun k v wr=>∃ i,i<=n/\k=n-i/\v=.int .i64 (i:Nat)/\Hid (∀ j (h:j<l.length),j<i->(Kd.un1 done) l[j]=0)/\Below w.heap.size w wr)
 case atStart=>exact ⟨0,Nat.zero_le _,rfl,rfl,fun j _ h=>absurd h (Nat.not_lt_zero _),Below.refl _ _⟩
 case round=>
  obtain ⟨i,hi,rfl,rfl,H,aj⟩:=hrel;by_cases ak:i<n
  case neg=>
   have bH:i=n:=(by omega);subst bH;go_wp2;go_ret;refine ⟨?_,aj⟩;rw [HR.out,Rn.firstC_none _ l (fun j hj=>H.out j hj (by have:=HN.out;omega))];rfl
  case pos=>
   have ap:i<l.length:=(by have:=HN.out;omega);obtain ⟨x1,ie⟩:=nmQ (l[i]);have cw:x1.name.size<=maxLen:=(by rw [ie];exact (HF.out _ (List.getElem_mem ap)).1);obtain ⟨b,o,ua,un,uc,rfl,hb,eQ,aC,rL,_⟩:=ai i ap;rw [<-ie] at eQ aC;have e0:=(aj.cell (p:=⟨b,o+i*3,none⟩) hb).trans eQ;have e1:=(aj.cell (p:=⟨b,o+i*3+1,none⟩) hb).trans aC;have e2:=(aj.cell (p:=⟨b,o+i*3+2,none⟩) hb).trans rL;have fm:Below w.heap.size w (wr.alloc (.cells #[.string x1.name,.int .u8 x1.elem,.slice ua un uc] 50 (0,0))):=aj.alloc aj.size _;have ag:=zFi (HS.out.keep fm) ((fm.block _ (zAB HB.out)).trans HB.out) x1 ua un uc cw;have HX:=zAA ie;clear ai ie;go_wp2_with fail;refine (ag ).mono ?_;rintro e w4 ⟨rfl,b4⟩;have BW:=fm.trans (b4.mono fm.size);obtain ⟨c,cR⟩:=nmQ ((Kd.un1 done) x1);have HC:=zAA cR
   try rw [<-cR]
   clear cR;by_cases hz:c=0
   ·subst hz
    go_wp2_with fail;go_roundg (n-(i+1))
    case measure=>omega
    case rel=>
     refine ⟨i+1,by omega,rfl,by go_num,fun j hj bJ=>?_,BW⟩;by_cases e:j=i
     ·subst e
      rw [<-HX.out,<-HC.out]
     ·exact H.out j hj (by omega)
   ·have bY:(c != 0)=true:=by simpa using hz
    go_wp2;go_ret;refine ⟨?_,BW⟩;rw [HR.out,Rn.firstC_step _ l i ap (fun j hj bJ=>H.out j hj bJ) (by rw [<-HX.out,<-HC.out];exact hz),<-HX.out,<-HC.out];rfl
end Go.Proofs.YtkfgbhlpjkkgfaaGreatDoor
namespace Go.Proofs.YtkfgbhlpjkkgfaaGreatDoor
open Go.RowKit Go.IntWalk
def CallDoes (x:SB) (E:Kd.Env) (q:Eqn):Prop:=∀ (ok:Nat->Prop) (w:World) (mk done:List ByteArray) (y:EqV),Scp ok w x E mk done->GlobK w->HEq ok w y q->(∀ i,ok i->i<w.heap.size) ->
 Calls Tryz.prog 86 #[.pointer (some ⟨x.b,0,none⟩),.agg #[.int .i64 y.place,.slice y.aN y.nN y.cN,.string y.node,.slice y.aS y.nS y.cS,.slice y.aE y.nE y.cE]] w fun r w'=>r=.returned (.int .i64 (Kd.codeCall E q))/\Below w.heap.size w w'
structure EqFit (q:Eqn):Prop where
 names:∀ s ∈ q.names,s.size<=maxLen
 one:0<q.names.length
 expr:q.node.size=0->0<q.E.length
structure EqP (ok:Nat->Prop) (w:World) (x:SB) (E:Kd.Env) (mk done:List ByteArray) (q:Eqn) (r:Ending) (w':World):Prop where
 ret:r=.returned (.int .i64 (Kd.codeEq E mk done q))
 asd:Aside x.maps w.heap.size w w'
 scp:Kd.codeEq E mk done q=0->Scp ok w' x E mk (done++q.names)/\Subs (done++q.names) mk
theorem zFj {ok:Nat->Prop} {w:World} {x:SB} {E:Kd.Env} {mk done:List ByteArray} {q:Eqn} {y:EqV} (hS:Scp ok w x E mk done) (kf:Subs done mk) (hG:GlobK w) (h0:¬(0 ∈ x.maps)) (hy:HEq ok w y q) (bm:∀ i,ok i->i<w.heap.size) (hF:EqFit q) (aP:mk.length+done.length+q.names.length<1000000) (hX:q.node.size=0->∀ e ∈ q.E,TyDoes x E e) (hC:q.node.size≠0->CallDoes x E q) :
  Calls Tryz.prog 54 #[.pointer (some ⟨x.b,0,none⟩),.agg #[.int .i64 y.place,.slice y.aN y.nN y.cN,.string y.node,.slice y.aS y.nS y.cS,.slice y.aE y.nE y.cE]] w (EqP ok w x E mk done q):=by
 obtain ⟨R,hR⟩:=nmQ (Kd.codeEq E mk done q);have HR:=zAA hR;unfold Kd.codeEq at hR;have b1:Below w.heap.size w (w.alloc (.cells #[.int .i64 y.place,.slice y.aN y.nN y.cN,.string y.node,.slice y.aS y.nS y.cS,.slice y.aE y.nE y.cE] 56 (0,0))):=(Below.refl _ _).alloc nR _;have kD:=zAC w (.cells #[.int .i64 y.place,.slice y.aN y.nN y.cN,.string y.node,.slice y.aS y.nS y.cS,.slice y.aE y.nE y.cE] 56 (0,0));have h1:=hS.keep b1;have e7:=hy.under b1;have ri:=hS.okOut;have hD:w.heap.size ∉ x.maps:=by
  intro hm;obtain ⟨_,a0,_⟩:=hS.h0;obtain ⟨_,a1,_⟩:=hS.h1;obtain ⟨_,a2,_⟩:=hS.h2;obtain ⟨_,a3,_⟩:=hS.h3;have:=a0.lt;have:=a1.lt;have:=a2.lt;have:=a3.lt;simp only [SB.maps,List.mem_cons,List.not_mem_nil,or_false] at hm;rcases hm with e | e | e | e<;>omega
 have mY:=hG.under b1;have HQ:=zAA hy.node;have N9:=zAA hR;have Ji:=zAA hX;have wX:=zAA hC;clear hS hy hG hR hX hC;go_enter Tryz.func54,Tryz.ntmps54;go_upto_region 1 with fail;generalize w.alloc (.cells #[.int .i64 y.place,.slice y.aN y.nN y.cN,.string y.node,.slice y.aS y.nS y.cS,.slice y.aE y.nE y.cE] 56 (0,0))=w1 at b1 kD h1 e7 mY ⊢;have d1:=co kD 1;simp at d1;have hc:=knames_any h1 kf e7.names hF.names aP;have lh:=zAA e7;clear h1 e7 kf;go_wp2_with fail;refine hc.mono ?_;rintro e w2 ⟨rfl,a2,fc⟩;clear hc d1;have A2:Aside x.maps w.heap.size w w2:=(aside b1).trans a2 b1.size;have aY:=N9.out;generalize Kd.mkNm mk done q.names=c1 at fc aY ⊢;by_cases hz:c1=0
 case neg=>
  rw [if_pos hz] at aY;have bY:(c1 != 0)=true:=(by simpa using hz);clear fc;go_wp2;go_ret;exact ⟨by rw [<-HR.out,aY];rfl,A2,fun h=>absurd (by rw [<-HR.out,aY] at h;exact h) hz⟩
 case pos=>
  subst hz;rw [if_neg (by simp)] at aY;obtain ⟨fG,mH⟩:=fc rfl;clear fc;have gV:=(a2.block _ (zAB kD) hD).trans kD;have jb:HEq ok w2 y q:=lh.out.keep a2.size (fun j hj cM=>a2.block j cM (ri j hj));have rF:GlobK w2:=by
   refine ⟨Nat.lt_of_lt_of_le mY.1 a2.size,fun k hk=>?_⟩;have e:=a2.block 0 mY.1 h0;have hc:∀ o,w2.cell? ⟨0,o,none⟩=w1.cell? ⟨0,o,none⟩:=fun o=>World.cell?_of_block (w:=w1) e;rw [hc,hc,hc];exact mY.2 k hk
  have tG:∀ i,ok i->i<w2.heap.size:=fun i hi=>Nat.lt_of_lt_of_le (bm i hi) A2.size;have yD:=zAB gV;have g0:=co gV 0;have g1:=co gV 1;have g2:=co gV 2;have g3:=co gV 3;have g4:=co gV 4;simp at g0 g1 g2 g3 g4;clear kD mY lh;by_cases hn:q.node.size=0
  case neg=>
   rw [if_pos hn] at aY;have mw:y.node.toList≠[]:=size_pos (by rw [HQ.out];exact hn);have wm:(y.node.toList==([]:List UInt8))=false:=(by simp [mw]);have MX:(y.node.toList != ([]:List UInt8))=true:=(by simp [mw]);have hc:=wX.out hn ok w2 mk (done++q.names) y fG rF jb tG;have nt:=zAA fG;have vX:=zAA mH;clear fG mH rF jb tG gV;go_wp2_with fail;refine hc.mono ?_;rintro e w3 ⟨rfl,b3⟩;go_wp2;go_ret;exact ⟨by rw [<-HR.out,aY];rfl,A2.trans (aside b3) A2.size,fun _=>⟨nt.out.keep b3,vX.out⟩⟩
  case pos=>
   rw [if_neg (by simp [hn])] at aY;have mw:y.node.toList=[]:=size_zero (by rw [HQ.out];exact hn);have wm:(y.node.toList==([]:List UInt8))=true:=(by simp [mw]);have MX:(y.node.toList != ([]:List UInt8))=false:=(by simp [mw]);obtain ⟨e0,er,hE⟩:∃ e0 er,q.E=e0 :: er:=by
    have:=hF.expr hn
    cases h:q.E with
    | nil=>rw [h] at this;cases this
    | cons a b=>exact ⟨a,b,rfl⟩
   obtain ⟨s0,sr,zt⟩:∃ s0 sr,q.names=s0 :: sr:=by
    have:=hF.one
    cases h:q.names with
    | nil=>rw [h] at this;cases this
    | cons a b=>exact ⟨a,b,rfl⟩
   have zv:=Ji.out hn e0 (by rw [hE];simp);have yq:=hF.names s0 (by rw [zt];simp);rw [hE,zt] at aY;simp only [List.getD_cons_zero] at aY;obtain ⟨aE,cE,eE,_,_,BK⟩:=jb.E.at;injection eE with p1 p2 p3;obtain ⟨be,oe,ye,p4,E8,MQ,FD,vP⟩:=BK 0 (by rw [hE];simp);rw [p4] at p1;rw [p1,p2] at g4;have PB:(q.E.length:Int)=(er.length:Int)+1:=(by rw [hE];simp);rw [hE] at g4;simp only [hE,List.getElem_cons_zero] at vP;obtain ⟨t0,t1,t2,t3,t4,t5⟩:=FD;simp at t0 t1 t2 t3 t4 t5;obtain ⟨aN,cN,eN,_,_,xH⟩:=jb.names.at;injection eN with r1 r2 r3;obtain ⟨bn,on,r4,zl,jo⟩:=xH 0 (by rw [zt];simp);rw [r4] at r1;rw [r1,r2,zt] at g1;simp only [zt,List.getElem_cons_zero] at jo;simp at jo g1 g4;have hc:=zv ok w2 mk (done++q.names) ye fG rF vP tG;obtain ⟨te,ta,tn,tc,_,kh,dD⟩:=fG.lookType yq;have Hv:=fG.blk;have yS:=zAB Hv;have j2:=co Hv 2;simp at j2;have nt:=zAA fG;have vX:=zAA mH;have mr:=zAA dD;have Ck:=zAA kh;clear fG mH rF jb tG gV BK xH p1 p2 p3 p4 r1 r2 r3 r4 zv vP dD kh Hv PB wX Ji;go_wp2_with fail;refine hc.mono ?_;rintro e w3 ⟨u,c,rfl,hT,b3⟩;clear hc;obtain ⟨ue,ua,un,uc,rfl⟩:=hT.form;generalize Kd.tyX E e0=RT at hT aY
   cases RT with
   | error k=>
    obtain ⟨rfl,gm,_⟩:=hT;simp only at aY;have bY:(c != 0)=true:=(by simpa using gm);go_wp2;go_ret;exact ⟨by rw [<-HR.out,aY];rfl,A2.trans (aside (b3.alloc b3.size _)) A2.size,fun h=>absurd (by rw [<-HR.out,aY] at h;exact h) gm⟩
   | ok t=>
    obtain ⟨rfl,oZ⟩:=hT;simp only at aY;have b4:Below w3.heap.size w3 (w3.alloc (.cells #[.int .u8 ue,.slice ua un uc] 35 (0,0))):=(Below.refl _ _).alloc nR _;have k4:=zAC w3 (.cells #[.int .u8 ue,.slice ua un uc] 35 (0,0));have B4:=b3.trans (b4.mono b3.size);have IC:=zAA (oZ.under b4);clear oZ;go_upto_region 9 with fail;generalize w3.alloc (.cells #[.int .u8 ue,.slice ua un uc] 35 (0,0))=w4 at b4 k4 B4 IC ⊢;have y4:=zAB k4;have m0:=co k4 0;have m1:=co k4 1;simp at m0 m1;have v1:=(B4.cell (p:=⟨w.heap.size,1,none⟩) yD).trans g1;have v2:=(B4.cell (p:=⟨x.b,2,none⟩) yS).trans j2;have v3:=(B4.cell (p:=⟨bn,on,none⟩) zl).trans jo;have Pm:=Nat.lt_of_lt_of_le yD B4.size;have Pc:=Nat.lt_of_lt_of_le yS B4.size;have Mn:=Nat.lt_of_lt_of_le zl B4.size;have ER:=zAA (fun w' (hb:Below w4.heap.size w4 w')=>Ck.out w' (B4.trans (hb.mono B4.size)));have Ff:=zAA (mr.out.under B4);generalize yK:Kd.same t (Kd.typ E.types s0)=qs at aY;clear k4 g0 g1 g2 g3 g4 t0 t1 t2 t3 t4 t5 jo j2 Ck mr;go_cut [35] (fun Fa wd=>Fa=.bool (!qs)/\Below w4.heap.size w4 wd)
    case first=>
     refine zAE (fun w'=>Below w4.heap.size w4 w') (fun _=>false) (by kernel_rfl) ?_;have af:Below w4.heap.size w4 w4.drew:=(Below.refl _ _).drew;generalize w4.drew=aW at af ⊢;refine' tkQ 0 36 af ?hyv ?o1
     case hyv=>
      intro wz ae;have bI:=(ae.cell (p:=⟨w3.heap.size,0,none⟩) y4).trans m0;have d9:=(ae.cell (p:=⟨w3.heap.size,1,none⟩) y4).trans m1;go_simp
      try rfl
     try simp only [Act.put,sT,sZ,sS]
     refine' tkR 1 37 af ?o2
     refine' tkR 2 38 af ?o3
     refine' tkR 3 39 af ?o4
     refine' tkQ 4 40 af ?hyv ?o5
     case hyv=>
      intro wz ae;have bI:=(ae.cell (p:=⟨x.b,2,none⟩) Pc).trans v2;go_simp
      try rfl
     try simp only [Act.put,sT,sZ,sS]
     refine' tkR 5 41 af ?o6
     refine' tkQ 6 42 af ?hyv ?o7
     case hyv=>
      intro wz ae;have bI:=(ae.cell (p:=⟨w.heap.size,1,none⟩) Pm).trans v1;go_simp
      try rfl
     try simp only [Act.put,sT,sZ,sS]
     refine' tkR 7 43 af ?o8
     refine' tkQ 8 44 af ?hyv ?o9
     case hyv=>
      intro wz ae;have bI:=(ae.cell (p:=⟨bn,on,none⟩) Mn).trans v3;go_simp
      try rfl
     try simp only [Act.put,sT,sZ,sS]
     refine' tkQ 9 45 af ?hyv ?o10
     case hyv=>
      intro wz ae;have wv:=ER.out _ ae;go_simp
      try rfl
     try simp only [Act.put,sT,sZ,sS]
     refine tnQ 10 (fun K hK=>?_);go_simp;refine (zBT (IC.out.under af) (Ff.out.under af)).mono ?_;rintro eq cW ⟨rfl,dL⟩;have al:Below w4.heap.size w4 cW:=af.trans (dL.mono af.size);rw [yK];refine hK.out _ _ (fun _=>al) ?_;clear hK K
     try simp only [Act.put,sT,sZ,sS]
     refine' tkR 11 47 al ?o11
     refine' tkR 12 35 al ?o12
     refine zAF (by kernel_rfl) ?_ _;go_wp2_with fail;go_meet
     case rel=>exact ⟨rfl,al⟩
    case rest=>
     obtain ⟨rfl,bc⟩:=hcut;have B5:=B4.trans (bc.mono B4.size);have A5:Aside x.maps w.heap.size w wc:=A2.trans (aside B5) A2.size
     cases qs
     ·rw [if_neg (by simp)] at aY
      go_wp2;go_ret;exact ⟨by rw [<-HR.out,aY];rfl,A5,fun h=>by rw [<-HR.out,aY] at h;cases h⟩
     ·rw [if_pos rfl] at aY
      go_wp2;go_ret;exact ⟨by rw [<-HR.out,aY];rfl,A5,fun _=>⟨nt.out.keep B5,vX.out⟩⟩
end Go.Proofs.YtkfgbhlpjkkgfaaGreatDoor
