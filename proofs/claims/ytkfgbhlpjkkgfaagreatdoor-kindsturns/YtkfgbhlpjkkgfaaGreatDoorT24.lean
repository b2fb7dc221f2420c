import Derived.Test.YtkfgbhlpjkkgfaaGreatDoorT22
import Derived.Test.YtkfgbhlpjkkgfaaGreatDoorT23
import Derived.Test.YtkfgbhlpjkkgfaaGreatDoorT20
set_option linter.unusedVariables false
set_option linter.unusedSimpArgs false
set_option maxHeartbeats 64000000
set_option maxRecDepth 100000
namespace Go.Proofs.YtkfgbhlpjkkgfaaGreatDoor
open Go.RowKit Go.IntWalk
structure NodeFit (n:Nd):Prop where
 head:NdFit n
 eqs:∀ q ∈ n.eqs,EqFit q
 lens:(Kd.mkOf n).length+(Kd.doneOf n).length<1000000
 ne:n.eqs.length<=1000000
def NodeDoes (n:Nd):Prop:=∀ (x:SB) (above:List Nd),Kd.headC above n=0->(∀ g ∈ above,NdFit g)->∀ q ∈ n.eqs,(q.node.size=0->∀ e ∈ q.E,TyDoes x (Kd.envOf above n) e)/\(q.node.size≠0->CallDoes x (Kd.envOf above n) q)
theorem NdF.put {ok:Nat->Prop} {w:World} {above:List Nd} {f:List UInt8->Option Value} {n:Nd} {y:NdV} (hN:NdF ok w above f) (hy:HNd ok w y n) (hn:Kd.findN above n.name=none):NdF ok w (above++[n]) (putF f n.name.data.toList (.agg #[.string y.name,.int .i64 y.place,.slice y.a2 y.n2 y.c2,.slice y.a3 y.n3 y.c3,.slice y.a4 y.n4 y.c4,.slice y.a5 y.n5 y.c5,.slice y.a6 y.n6 y.c6])):=by
 intro s;have:=hN s;rw [findN_app];unfold putF;by_cases e:n.name.data.toList=s.data.toList
 ·have hs:Kd.findN above s=none:=by
   unfold Kd.findN at hn ⊢;rw [e] at hn;exact hn
  rw [hs];simp only [e,if_true];exact ⟨y,rfl,hy⟩
 ·have e2:¬s.data.toList=n.name.data.toList:=fun q=>e q.symm
  cases hs:Kd.findN above s with
  | none=>
   rw [hs] at this;simp only [if_neg e,if_neg e2];exact this
  | some c=>
   rw [hs] at this;simp only [if_neg e2];exact this
theorem done_le (eqs:List Eqn) (j:Nat) (h:j<eqs.length):((eqs.take j).flatMap Eqn.names).length+(eqs[j]).names.length<=(eqs.flatMap Eqn.names).length:=by
 have h1:eqs=eqs.take j++(eqs[j] :: eqs.drop (j+1)):=(by rw [<-List.drop_eq_getElem_cons h,List.take_append_drop]);have h2:(eqs.flatMap Eqn.names).length=((eqs.take j++(eqs[j] :: eqs.drop (j+1))).flatMap Eqn.names).length:=congrArg (fun l=>(List.flatMap Eqn.names l).length) h1;rw [h2,List.flatMap_append,List.flatMap_cons,List.length_append,List.length_append];omega
theorem head_none {above:List Nd} {n:Nd} (h:Kd.headC above n=0):Kd.findN above n.name=none:=by
 unfold Kd.headC at h
 split at h
 ·cases h
 ·rename_i h1
  simpa using h1
theorem zEA {ok:Nat->Prop} {w:World} {v:Value} {l:List Nd} (hl:HNds ok w v l) (bm:∀ i,ok i->i<w.heap.size) (hG:GlobK w) (hF:∀ n ∈ l,NodeFit n/\NodeDoes n) (sn:l.length<=1000000) :
  Calls Tryz.prog 31 #[v] w fun r w'=>r=.returned (.agg #[.int .i64 (Kd.goN [] l 0 0).1,.int .i64 (Kd.goN [] l 0 0).2])/\Below w.heap.size w w':=by
 have sN:=@run_makeMap Tryz.prog;obtain ⟨ao,cap,rfl,aC,av,_⟩:=hl.at;unfold maxLen at av;obtain ⟨R,hR⟩:=nmQ (Kd.goN [] l 0 0);rw [<-hR];have HR:=zAA hR;have HF:=zAA hF;have HL:=zAA hl;have HO:=zAA bm;have HG:=zAA hG;clear hR hF hl bm hG;obtain ⟨n,hn⟩:=nmQ (l.length);rw [<-hn] at aC sn ⊢;have HN:=zAA hn;clear hn;go_enter Tryz.func31,Tryz.ntmps31;go_wp2_with fail;go_loopg [4,16] n (fun gh v4 Gi wr=>∃ (i k:Nat) (f:List UInt8->Option Value),i<=n/\gh=n-i/\v4=.int .i64 (k:Int)/\Gi=.int .i64 (i:Int)/\k<=1000000*i/\Hid (R=Kd.goN (l.take i) (l.drop i) i k)/\Hid (MapIs wr (w.heap.size+1) (l.take i).length f)/\Hid (NdF ok wr (l.take i) f)/\Hid (wr.heap[w.heap.size]?=some (.cells #[.int .i64 0,.int .i64 0] 29 (0,0)))/\Below w.heap.size w wr)
 case atStart=>
  refine ⟨0,0,fun _=>none,Nat.zero_le _,rfl,rfl,rfl,by omega,zAA (by simpa using HR.out),zAA ?_,zAA (fun s=>rfl),zAA ?_,?_⟩
  ·have:=MapIs.made (w.alloc (.cells #[.int .i64 0,.int .i64 0] 29 (0,0)))
   simpa using this
  ·exact (Below.heap_alloc _ _ _ (by simp)).trans (zAC w _)
  ·exact ((Below.refl _ _).alloc nR _).alloc (by simp) _
 case round=>
  obtain ⟨i,k,f,hi,rfl,rfl,rfl,hk,H,HM,Af,EN,aj⟩:=hrel;obtain ⟨wo,rY⟩:=nmQ (wr);subst rY;by_cases ak:i<n
  case neg=>
   have bH:i=n:=(by omega);subst bH;have e1:l.drop i=[]:=List.drop_of_length_le (by have:=HN.out;omega);have hz:R=(0,0):=(by rw [H.out,e1];rfl);have kF:=EN.out;have aX:=co kF 0;have st1:=co kF 1;have dr:=fo kF 0;have dp:=fo kF 1;simp at aX st1;have KR:=zAD (zAD kF 0 (.int .i64 0)) 1 (.int .i64 (0));have r0:=co KR 0;have r1:=co KR 1;simp at r0 r1;have BR:=(aj.setCell (p:=⟨w.heap.size,0,none⟩) nR (.int .i64 0)).setCell (p:=⟨w.heap.size,1,none⟩) nR (.int .i64 (0));clear KR;go_wp2;exact bodyPost_ret (v:=.agg #[.int .i64 0,.int .i64 (0)]) (by simp [results,Tryz.results31,go_sem,r0,r1]) rfl ⟨by rw [hz],BR⟩
  case pos=>
   have ap:i<l.length:=(by have:=HN.out;omega);obtain ⟨jD,pP⟩:=HF.out _ (List.getElem_mem ap);have jG:l.drop i=l[i] :: l.drop (i+1):=List.drop_eq_getElem_cons ap;have g7:l.take (i+1)=l.take i++[l[i]]:=List.take_succ_eq_append_getElem ap;have aY:=H.out;rw [jG] at aY;obtain ⟨fj,bE,eqs,_,_,br⟩:=(HL.out.under aj).at;injection eqs with q1 q2 q3;subst q1;obtain ⟨b,o,y,rfl,hb,hy,lQ⟩:=br i ap;obtain ⟨e0,e1,e2,e3,e4,e5,e6⟩:=hy;obtain ⟨yn,yp,se,sy,sV,sk,sL,sK,sX,sD,rX,rO,tb,sF,rU,tB,sx⟩:=y
   dsimp only at e0 e1 e2 e3 e4 e5 e6
   obtain ⟨nd,AH⟩:=nmQ (l[i]);rw [<-AH] at jD pP aY lQ g7;obtain ⟨above,zH⟩:=nmQ (l.take i);have MP:=zAA (show ∀ g ∈ above,NdFit g from fun g hg=>by rw [zH] at hg;exact (HF.out g (List.mem_of_mem_take hg)).1.head);rw [<-zH] at aY g7 HM Af;clear br q2 q3 AH jG;have Cj:=zAA g7;have pu:Hid (yn=nd.name):=zAA lQ.name;have fm:Below wo.heap.size wo (wo.alloc (.cells #[.string yn,.int .i64 yp,.slice se sy sV,.slice sk sL sK,.slice sX sD rX,.slice rO tb sF,.slice rU tB sx] 47 (0,0))):=(Below.refl _ _).alloc nR _;have DF:=zAC wo (.cells #[.string yn,.int .i64 yp,.slice se sy sV,.slice sk sL sK,.slice sX sD rX,.slice rO tb sF,.slice rU tB sx] 47 (0,0));have BA:=aj.trans (fm.mono aj.size);have yF:=zAB EN.out;have yM:=HM.out.lt;have xF:∀ j,ok j->j<(wo.alloc (.cells #[.string yn,.int .i64 yp,.slice se sy sV,.slice sk sL sK,.slice sX sD rX,.slice rO tb sF,.slice rU tB sx] 47 (0,0))).heap.size:=fun j hj=>Nat.lt_of_lt_of_le (HO.out j hj) BA.size;have Ml:(wo.alloc (.cells #[.string yn,.int .i64 yp,.slice se sy sV,.slice sk sL sK,.slice sX sD rX,.slice rO tb sF,.slice rU tB sx] 47 (0,0))).heap.size=wo.heap.size+1:=(by simp);have Ks:¬ok (w.heap.size+1):=fun h=>absurd (HO.out _ h) (by omega);have hc:=newScope_any (HM.out.keep (fm.block _ yM)) (Af.out.keep fm.size (fun j _ hl=>fm.block j hl)) xF Ks;have wE:=zAA (lQ.under fm);clear g7 lQ zH HM Af H;go_upto_region 6 with fail;generalize wo.alloc (.cells #[.string yn,.int .i64 yp,.slice se sy sV,.slice sk sL sK,.slice sX sD rX,.slice rO tb sF,.slice rU tB sx] 47 (0,0))=w1 at fm DF BA xF Ml hc wE ⊢;go_wp2_with fail;refine hc.mono ?_;rintro e w2 ⟨rfl,fc,b2⟩;clear hc;have jg:∀ j,j ∈ (newSB (w.heap.size+1) w1.heap.size).maps->j=w.heap.size+1\/w1.heap.size<=j:=by
    intro j hj;simp only [SB.maps,newSB,List.mem_cons,List.not_mem_nil,or_false] at hj;omega
   have sI:(newSB (w.heap.size+1) w1.heap.size).m0=w.heap.size+1:=rfl;generalize newSB (w.heap.size+1) w1.heap.size=x at fc jg sI ⊢;have B2:=BA.trans (b2.mono BA.size);have gV:=(b2.block _ (zAB DF)).trans DF;have DR:=(fm.block _ yF).trans EN.out;have Hh:=(b2.block _ (zAB DR)).trans DR;have FZ:w.heap.size ∉ x.maps:=fun h=>by have:=jg _ h;omega
   have Il:wo.heap.size ∉ x.maps:=fun h=>by have:=jg _ h;omega
   have jo:¬(0 ∈ x.maps):=fun h=>by have:=jg _ h;have:=HG.out.1;omega
   have ri:=fc.okOut;have g0:=co gV 0;have g1:=co gV 1;have g2:=co gV 2;have g3:=co gV 3;have g4:=co gV 4;have g5:=co gV 5;have g6:=co gV 6;simp at g0 g1 g2 g3 g4 g5 g6;have hc:=zEc fc (wE.out.under b2) jD.head;have xZ:=zAA (wE.out.under b2);clear fc wE DR DF e0 e1 e2 e3 e4 e5 e6;go_wp2_with fail;refine hc.mono ?_;rintro e w3 ⟨rfl,a3,jE⟩;clear hc g0 g1 g2 g3 g4 g5 g6;have A3:Aside x.maps w.heap.size w w3:=(aside B2).trans a3 B2.size;have B3:Below w.heap.size w w3:=A3.below (fun j hj=>by have:=jg j hj;have:=BA.size;omega);have nP:=(a3.block _ (zAB gV) Il).trans gV;have us:=(a3.block _ (zAB Hh) FZ).trans Hh;have rV:=aY;simp only [Kd.goN,Kd.nodeF] at rV;have I7:=zAA pP;have j0:=zAA rV;clear aY rV pP gV Hh;obtain ⟨cT,Fj⟩:=nmQ (Kd.headC above nd);rw [<-Fj] at jE ⊢;have Dn:=zAA Fj;clear Fj;by_cases hz:cT=0
   case neg=>
    have bY:(cT != 0)=true:=(by simpa using hz);have EQ:R=(cT,-2-(i:Int)):=by
     rw [j0.out,<-Dn.out,if_pos hz]
    have Gp:(i:Int)<=1000000:=(by omega);clear jE j0;have aX:=co us 0;have st1:=co us 1;have dr:=fo us 0;have dp:=fo us 1;simp at aX st1;have KR:=zAD (zAD us 0 (.int .i64 cT)) 1 (.int .i64 (-2-(i:Int)));have r0:=co KR 0;have r1:=co KR 1;simp at r0 r1;have BR:=(B3.setCell (p:=⟨w.heap.size,0,none⟩) nR (.int .i64 cT)).setCell (p:=⟨w.heap.size,1,none⟩) nR (.int .i64 (-2-(i:Int)));clear KR;go_wp2;exact bodyPost_ret (v:=.agg #[.int .i64 cT,.int .i64 (-2-(i:Int))]) (by simp [results,Tryz.results31,go_sem,r0,r1]) rfl ⟨by rw [EQ],BR⟩
   case pos=>
    subst hz;have AN:=jE rfl;clear jE;have nz:Hid (R=match Kd.goE (Kd.envOf above nd) (Kd.mkOf nd) [] nd.eqs k with
      | some (c,kk)=>(c,(kk:Int))
      | none=>if Kd.unmade (Kd.doneOf nd) (nd.out++nd.loc)≠0 then (Kd.unmade (Kd.doneOf nd) (nd.out++nd.loc),-2-(i:Int)) else Kd.goN (above++[nd]) (l.drop (i+1)) (i+1) (k+nd.eqs.length)):=zAA (by
     have h:=j0.out;rw [<-Dn.out,if_neg (by simp)] at h;rw [h]
     cases Kd.goE (Kd.envOf above nd) (Kd.mkOf nd) [] nd.eqs k with
     | some p=>rfl
     | none=>
      simp only;by_cases hu:Kd.unmade (Kd.doneOf nd) (nd.out++nd.loc)≠0
      ·rw [if_pos hu,if_pos hu]
      ·rw [if_neg hu,if_neg hu])
    have Iz:=I7.out x above Dn.out.symm MP.out;have Hy:=zAA Iz;have Kf:=head_none Dn.out.symm;have NA:=zAA Kf;clear j0 I7 Iz Kf;have uL:HNd ok w3 ⟨yn,yp,se,sy,sV,sk,sL,sK,sX,sD,rX,rO,tb,sF,rU,tB,sx⟩ nd:=xZ.out.keep a3.size (fun j hj cM=>a3.block j cM (ri j hj));have d6:=co nP 6;simp at d6;obtain ⟨aq,cq,Fi,dh,dK,_⟩:=uL.eqs.at;injection Fi with p1 p2 p3;unfold maxLen at dK;obtain ⟨m,hm⟩:=nmQ (nd.eqs.length);have CP:m=tB:=hm.trans p2.symm;subst CP;have mU:=zAA hm;have Hk:=zAA uL;have Bb:=zAA nP;have yV:=zAA us;have qV:=zAA AN;have Qf:m<=1000000:=(by rw [hm];exact jD.ne);clear xZ uL nP us AN p1 p2 p3 dh dK hm;obtain ⟨E,hE⟩:=nmQ (Kd.envOf above nd);obtain ⟨mk,mV⟩:=nmQ (Kd.mkOf nd);rw [<-hE] at nz Hy qV;rw [<-mV] at nz qV;have EA:=zAA hE;have Pi:=zAA mV;clear hE mV;go_upto_block 2 with fail;go_wp2_with fail;go_loopg [4,35] m (fun gh v4 Fa wr=>∃ (j:Nat),j<=m/\gh=m-j/\v4=.int .i64 ((k+j:Nat):Int)/\Fa=.int .i64 (j:Int)/\Hid (Kd.goE E mk [] nd.eqs k=Kd.goE E mk ((nd.eqs.take j).flatMap Eqn.names) (nd.eqs.drop j) (k+j))/\Hid (Scp ok wr x E mk ((nd.eqs.take j).flatMap Eqn.names))/\Hid (Subs ((nd.eqs.take j).flatMap Eqn.names) mk)/\Aside x.maps w3.heap.size w3 wr)
    case atStart=>exact ⟨0,Nat.zero_le _,rfl,by simp,rfl,zAA (by simp),zAA (by simpa using qV.out),zAA (fun s h=>by simp [Kd.hasN] at h),Aside.refl _⟩
    case round=>
     obtain ⟨j,hj,rfl,rfl,rfl,HJ,DG,vX,aJ⟩:=hrel;have pj:=(aJ.block _ (zAB Bb.out) Il).trans Bb.out;have y9:=(aJ.block _ (zAB yV.out) FZ).trans yV.out;have oB:HNd ok wr ⟨yn,yp,se,sy,sV,sk,sL,sK,sX,sD,rX,rO,tb,sF,rU,m,sx⟩ nd:=Hk.out.keep aJ.size (fun a ha xB=>aJ.block a xB (ri a ha));have AJ:Aside x.maps w.heap.size w wr:=A3.trans aJ A3.size;have BJ:Below w.heap.size w wr:=AJ.below (fun a ha=>by have:=jg a ha;have:=BA.size;omega);by_cases hjt:j<m
     case pos=>
      have cM:j<nd.eqs.length:=(by have:=mU.out;omega);have IK:=jD.eqs _ (List.getElem_mem cM);obtain ⟨IM,JF⟩:=Hy.out _ (List.getElem_mem cM);have vV:nd.eqs.drop j=nd.eqs[j] :: nd.eqs.drop (j+1):=List.drop_eq_getElem_cons cM;have vC:nd.eqs.take (j+1)=nd.eqs.take j++[nd.eqs[j]]:=List.take_succ_eq_append_getElem cM;have xu:=done_le nd.eqs j cM;have r7:=jD.lens;rw [<-Pi.out] at r7;unfold Kd.doneOf at r7;obtain ⟨QT,QX,Fi,_,_,nw⟩:=oB.eqs.at;injection Fi with p1 p2 p3;obtain ⟨bq,oq,q,p4,QB,hq,Ft⟩:=nw j cM;rw [p4] at p1;subst p1;have JL:=co pj 6;simp at JL;obtain ⟨t0,t1,t2,t3,t4⟩:=hq;obtain ⟨Q,hQ⟩:=nmQ (nd.eqs[j]);rw [<-hQ] at IK IM JF vV vC xu Ft;have Do:=HJ.out;rw [vV] at Do;simp only [Kd.goE] at Do;have BI:=zAA Do;have D2:=zAA vC;obtain ⟨dj,FL⟩:=nmQ ((nd.eqs.take j).flatMap Eqn.names);have M9:=zAA FL;rw [<-FL] at BI DG vX xu;have bQ:Below wr.heap.size wr (wr.alloc (.cells #[.int .i64 q.place,.slice q.aN q.nN q.cN,.string q.node,.slice q.aS q.nS q.cS,.slice q.aE q.nE q.cE] 56 (0,0))):=(Below.refl _ _).alloc nR _;have Ny:GlobK wr:=HG.out.under (BJ.mono nR);have hc:=zFj (DG.out.keep bQ) vX.out (Ny.under bQ) jo (Ft.under bQ) (fun a ha=>Nat.lt_of_lt_of_le (HO.out a ha) (Nat.le_trans BJ.size bQ.size)) IK (by omega) IM JF;have aQ:Aside x.maps w3.heap.size w3 (wr.alloc (.cells #[.int .i64 q.place,.slice q.aN q.nN q.cN,.string q.node,.slice q.aS q.nS q.cS,.slice q.aE q.nE q.cE] 56 (0,0))):=aJ.trans (aside (S:=x.maps) (B:=wr.heap.size) bQ) aJ.size;have Iq:=(bQ.block _ (zAB y9)).trans y9;clear nw p2 p3 p4 hQ FL Do vV vC Ft oB pj JL HJ;go_wp2_with fail;refine hc.mono ?_;rintro e w5 ⟨rfl,a5,jy⟩;clear hc;have A5:=aQ.trans a5 aQ.size;have AW:Aside x.maps w.heap.size w w5:=A3.trans A5 A3.size;have BW:Below w.heap.size w w5:=AW.below (fun a ha=>by have:=jg a ha;have:=BA.size;omega);have oz:=(a5.block _ (zAB Iq) FZ).trans Iq;obtain ⟨c,cR⟩:=nmQ (Kd.codeEq E mk dj Q);rw [<-cR] at jy BI
      try rw [<-cR]
      clear cR;by_cases hz:c=0
      case neg=>
       have bY:(c != 0)=true:=(by simpa using hz);have EQ:R=(c,((k+j:Nat):Int)):=by
        rw [nz.out,BI.out,if_pos hz]
       clear jy nz BI;have aX:=co oz 0;have st1:=co oz 1;have dr:=fo oz 0;have dp:=fo oz 1;simp at aX st1;have KR:=zAD (zAD oz 0 (.int .i64 c)) 1 (.int .i64 (((k+j:Nat):Int)));have r0:=co KR 0;have r1:=co KR 1;simp at r0 r1;have BR:=(BW.setCell (p:=⟨w.heap.size,0,none⟩) nR (.int .i64 c)).setCell (p:=⟨w.heap.size,1,none⟩) nR (.int .i64 (((k+j:Nat):Int)));clear KR;go_wp2;exact bodyPost_ret (v:=.agg #[.int .i64 c,.int .i64 (((k+j:Nat):Int))]) (by simp [results,Tryz.results31,go_sem,r0,r1]) rfl ⟨by rw [EQ],BR⟩
      case pos=>
       subst hz;obtain ⟨y8,Ii⟩:=jy rfl;have Mb:=zAA y8;have MI:=zAA Ii;have M6:((k+j:Nat):Int)<=2000000000000:=(by omega);clear jy y8 Ii;go_wp2_with fail;go_roundg (m-(j+1))
       case measure=>omega
       case rel=>
        have Hn:(nd.eqs.take (j+1)).flatMap Eqn.names=dj++Q.names:=by
         rw [D2.out,List.flatMap_append,<-M9.out];simp
        refine ⟨j+1,by omega,rfl,by go_num,by go_num,zAA ?_,zAA ?_,zAA ?_,A5⟩
        ·rw [BI.out,if_neg (by simp),Hn]
         rfl
        ·rw [Hn];exact Mb.out
        ·rw [Hn];exact MI.out
     case neg=>
      have pF:j=m:=(by omega);subst pF;have Bs:nd.eqs.take j=nd.eqs:=List.take_of_length_le (by have:=mU.out;omega);have yX:nd.eqs.drop j=[]:=List.drop_of_length_le (by have:=mU.out;omega);have sG:Kd.goE E mk [] nd.eqs k=none:=(by rw [HJ.out,yX];rfl);have vQ:=nz.out;rw [sG] at vQ;simp only at vQ;have yh:=DG.out;rw [Bs] at yh;have h0:=co pj 0;have h1:=co pj 1;have h2:=co pj 2;have h3:=co pj 3;have h4:=co pj 4;have h5:=co pj 5;have h6:=co pj 6;simp at h0 h1 h2 h3 h4 h5 h6;have hc:=zDw yh oB jD.head;have IQ:(nd.eqs.flatMap Eqn.names)=Kd.doneOf nd:=rfl;rw [IQ] at hc yh;have yb:=zAA yh;have IW:=zAA oB;have uM:=zAA pj;clear yh oB HJ DG vX Bs yX sG nz pj d6 IQ;generalize Kd.unmade (Kd.doneOf nd) (nd.out++nd.loc)=c at hc vQ;obtain ⟨wj,Dh⟩:=nmQ (wr);rw [<-Dh] at aJ y9 AJ BJ h0 h1 h2 h3 h4 h5 h6 hc yb IW uM ⊢;clear Dh;go_wp2_with fail;refine hc.mono ?_;rintro e w5 ⟨rfl,b5⟩;clear hc h0 h1 h2 h3 h4 h5 h6;have B5:=BJ.trans (b5.mono BJ.size);have oz:=(b5.block _ (zAB y9)).trans y9;by_cases hz:c=0
      case neg=>
       rw [if_pos hz] at vQ;have bY:(c != 0)=true:=(by simpa using hz);have Gp:(i:Int)<=1000000:=(by omega);have aX:=co oz 0;have st1:=co oz 1;have dr:=fo oz 0;have dp:=fo oz 1;simp at aX st1;have KR:=zAD (zAD oz 0 (.int .i64 c)) 1 (.int .i64 (-2-(i:Int)));have r0:=co KR 0;have r1:=co KR 1;simp at r0 r1;have BR:=(B5.setCell (p:=⟨w.heap.size,0,none⟩) nR (.int .i64 c)).setCell (p:=⟨w.heap.size,1,none⟩) nR (.int .i64 (-2-(i:Int)));clear KR;go_wp2;exact bodyPost_ret (v:=.agg #[.int .i64 c,.int .i64 (-2-(i:Int))]) (by simp [results,Tryz.results31,go_sem,r0,r1]) rfl ⟨by rw [vQ],BR⟩
      case pos=>
       subst hz;rw [if_neg (by simp)] at vQ;have sd:=(b5.block _ (zAB uM.out)).trans uM.out;have jy:=yb.out.keep b5;have Ai:=IW.out.under b5;obtain ⟨ff,qC,gY⟩:=jy.h0;have EK:E.above=above:=(by rw [EA.out];rfl);rw [EK,sI] at qC;rw [EK] at gY;have h0:=co sd 0;have h1:=co sd 1;have h2:=co sd 2;have h3:=co sd 3;have h4:=co sd 4;have h5:=co sd 5;have h6:=co sd 6;simp at h0 h1 h2 h3 h4 h5 h6;have zh:=jD.head.name;rw [<-pu.out] at zh;have tC:=gY.put Ai NA.out;rw [<-pu.out] at tC;have jC:=zAA tC;have lB:(l.take i).length=i:=(by rw [List.length_take];omega);have NX:above.length<=1000000:=by
        have:=congrArg List.length Cj.out;simp only [List.length_append,List.length_take,List.length_singleton] at this;omega
       clear jy Ai gY tC sd EK
       go_wp2_with (at_mapUpdate;refine zDJ rfl _ _ _ 98 rfl 47 u98 qC (by unfold maxLen;omega) zh rfl rfl ?_;intro w6 CP J6)
       have LD:=zAA CP;have NC:=zAA J6;clear CP J6 qC h0 h1 h2 h3 h4 h5 h6;go_roundg (n-(i+1))
       case measure=>omega
       case rel=>
        have hg:=NC.out;refine ⟨i+1,k+j,putF ff yn.data.toList (.agg #[.string yn,.int .i64 yp,.slice se sy sV,.slice sk sL sK,.slice sX sD rX,.slice rO tb sF,.slice rU j sx]),by omega,rfl,rfl,by go_num,by omega,zAA ?_,zAA ?_,zAA ?_,zAA ?_,?_⟩
        ·rw [vQ,Cj.out,<-mU.out]
        ·rw [Cj.out,List.length_append]
         exact LD.out
        ·rw [Cj.out]
         exact jC.out.keep hg.size (zDO Ks hg)
        ·exact zDP hg oz (by omega)
        ·exact B5.grown hg B5.size (fun a ha=>by cases ha;omega)
theorem check_any {ok:Nat->Prop} {w:World} {v:Value} {l:List Nd} (hl:HNds ok w v l) (hg:Gl (fun i=>i<w.heap.size) w) (hF:Rn.nsF l) :
  Calls Tryz.prog 30 #[.agg #[v]] w fun e w'=>e=.returned (.agg #[.int .i64 (Tx.printC l).1,.int .i64 (Tx.printC l).2])/\Below w.heap.size w w':=by
 obtain ⟨ao,cap,rfl,aC,av,_⟩:=hl.at;unfold maxLen at av;have bW:Below w.heap.size w ((w.alloc (.cells #[.slice ao l.length cap] 24 (0,0))).alloc (.cells #[.int .i64 0,.int .i64 0] 29 (0,0))):=((Below.refl _ _).alloc nR _).alloc (by simp) _;have dB:((w.alloc (.cells #[.slice ao l.length cap] 24 (0,0))).alloc (.cells #[.int .i64 0,.int .i64 0] 29 (0,0))).heap.size=w.heap.size+2:=(by simp);have wG:Gl (fun i=>i<((w.alloc (.cells #[.slice ao l.length cap] 24 (0,0))).alloc (.cells #[.int .i64 0,.int .i64 0] 29 (0,0))).heap.size) ((w.alloc (.cells #[.slice ao l.length cap] 24 (0,0))).alloc (.cells #[.int .i64 0,.int .i64 0] 29 (0,0))):=by
  have g:=hg.keep (Keep.ofBelow bW);have:=bW.size;exact ⟨g.s,g.o,g.t,Nat.lt_of_lt_of_le hg.k0 this,Nat.lt_of_lt_of_le hg.k1 this,Nat.lt_of_lt_of_le hg.k2 this⟩
 have hp:=print_any (hl.under bW) wG hF;have xM:((w.alloc (.cells #[.slice ao l.length cap] 24 (0,0))).alloc (.cells #[.int .i64 0,.int .i64 0] 29 (0,0))).heap[w.heap.size+1]?=some (.cells #[.int .i64 0,.int .i64 0] 29 (0,0)):=by
  have:=zAC (w.alloc (.cells #[.slice ao l.length cap] 24 (0,0))) (.cells #[.int .i64 0,.int .i64 0] 29 (0,0))
  simpa using this
 generalize Tx.printT l=T at hp;generalize Tx.printC l=C at hp ⊢;obtain ⟨cd,ca⟩:=C
 dsimp only at hp ⊢
 clear wG;go_enter Tryz.func30,Tryz.ntmps30;go_wp2_with fail;refine hp.mono ?_;rintro e w1 ⟨rfl,b1⟩;have B1:=bW.trans (b1.mono (by rw [dB];omega));have KB:=(b1.block _ (by rw [dB];omega)).trans xM;have z1:=b1.size;rw [dB] at z1;clear hp xM dB;have bF:Below w1.heap.size w1 (w1.alloc (.cells #[.int .i64 cd,.int .i64 ca] 29 (0,0))):=(Below.refl _ _).alloc nR _;have ln:=(bF.block _ (zAB KB)).trans KB;have BF:=B1.trans (bF.mono B1.size);have KF:=zAC w1 (.cells #[.int .i64 cd,.int .i64 ca] 29 (0,0));have rT:=co ln 0;have r8:=co ln 1;have CQ:=fo ln 0;have Cs:=fo ln 1;simp at rT r8;have KR:=zAD (zAD ln 0 (.int .i64 cd)) 1 (.int .i64 ca);have BR:=((BF.setCell (p:=⟨w.heap.size+1,0,none⟩) (by simp) (.int .i64 cd)).setCell (p:=⟨w.heap.size+1,1,none⟩) (by simp) (.int .i64 ca));have r0:=co KR 0;have r1:=co KR 1;simp at r0 r1;go_wp2;exact bodyPost_ret (v:=.agg #[.int .i64 cd,.int .i64 ca]) (by simp [results,Tryz.results30,go_sem,r0,r1]) rfl ⟨rfl,BR⟩
theorem any_none {l:List Nd} (h:∀ j (hj:j<l.length),Kd.isMain l[j]=false):l.any Kd.isMain=false:=by
 rw [List.any_eq_false];intro x hx;obtain ⟨j,hj,rfl⟩:=List.getElem_of_mem hx;rw [h j hj];simp
theorem zFs {ok:Nat->Prop} {w:World} {v:Value} {l:List Nd} (hl:HNds ok w v l) :
  Calls Tryz.prog 56 #[v,.func (.func 33) #[] #[]] w fun r w'=>∃ c:Int,r=.returned (.int .i64 c)/\decide (0<=c)=l.any Kd.isMain/\Below w.heap.size w w':=by
 obtain ⟨ao,cap,rfl,aC,av,_⟩:=hl.at;unfold maxLen at av;have HL:=zAA hl;clear hl;obtain ⟨n,hn⟩:=nmQ (l.length);rw [<-hn] at aC ⊢;have HN:=zAA hn;clear hn;go_enter Tryz.func56,Tryz.ntmps56;go_wp2_with fail;go_loopg [8] n (fun k v wr=>∃ i,i<=n/\k=n-i/\v=.int .i64 (i:Nat)/\Hid (∀ j (h:j<l.length),j<i->Kd.isMain l[j]=false)/\Below w.heap.size w wr)
 case atStart=>exact ⟨0,Nat.zero_le _,rfl,rfl,fun j _ h=>absurd h (Nat.not_lt_zero _),Below.refl _ _⟩
 case round=>
  obtain ⟨i,hi,rfl,rfl,H,aj⟩:=hrel;by_cases ak:i<n
  case neg=>
   have bH:i=n:=(by omega);subst bH;go_wp2;go_ret;refine ⟨-1,rfl,?_,aj⟩;rw [any_none (fun j hj=>H.out j hj (by have:=HN.out;omega))];rfl
  case pos=>
   have ap:i<l.length:=(by have:=HN.out;omega);obtain ⟨fj,bE,eqs,_,_,br⟩:=(HL.out.under aj).at;injection eqs with q1 q2 q3;subst q1;obtain ⟨b,o,y,rfl,hb,hy,lQ⟩:=br i ap;obtain ⟨e0,e1,e2,e3,e4,e5,e6⟩:=hy;have hc:=isMain_any lQ;generalize hq:Kd.isMain l[i]=q at hc;clear br lQ q2 q3;go_wp2_with fail;refine hc.mono ?_;rintro e w4 ⟨rfl,b4⟩;clear hc;have BW:=aj.trans (b4.mono aj.size)
   cases q
   ·go_wp2_with fail
    go_roundg (n-(i+1))
    case measure=>omega
    case rel=>
     refine ⟨i+1,by omega,rfl,by go_num,fun j hj bJ=>?_,BW⟩;by_cases e:j=i
     ·subst e
      exact hq
     ·exact H.out j hj (by omega)
   ·go_wp2
    go_ret;refine ⟨(i:Int),rfl,?_,BW⟩;have:l.any Kd.isMain=true:=List.any_eq_true.2 ⟨l[i],List.getElem_mem ap,hq⟩;rw [this];simp
theorem zEB {ok:Nat->Prop} {w:World} {v:Value} {l:List Nd} (hl:HNds ok w v l) :
  Calls Tryz.prog 32 #[v,.func (.func 33) #[] #[]] w fun r w'=>r=.returned (.bool (l.any Kd.isMain))/\Below w.heap.size w w':=by
 have hc:=zFs hl;obtain ⟨ao,cap,rfl,aC,av,_⟩:=hl.at;clear hl;go_enter Tryz.func32,Tryz.ntmps32;go_wp2_with fail;refine hc.mono ?_;rintro e w1 ⟨c,rfl,hd,b1⟩;go_wp2;go_ret;refine ⟨?_,b1⟩;rw [<-hd];by_cases h:0<=c
 ·simp [h]
 ·simp [h]
noncomputable def kcheckC (l:List Nd):Int × Int:=if (Tx.printC l).1≠0 then Tx.printC l else Kd.checkN l
theorem zDQ {ok:Nat->Prop} {w:World} {v:Value} {l:List Nd} (hl:HNds ok w v l) (bm:∀ i,ok i->i<w.heap.size) (hG:GlobK w) (hg:Gl (fun i=>i<w.heap.size) w) (hF:Rn.nsF l) (hN:(Tx.printC l).1=0->∀ n ∈ l,NodeFit n/\NodeDoes n) (sn:(Tx.printC l).1=0->l.length<=1000000) :
  Calls Tryz.prog 10 #[.agg #[v]] w fun r w'=>r=.returned (.agg #[.int .i64 (kcheckC l).1,.int .i64 (kcheckC l).2])/\Below w.heap.size w w':=by
 obtain ⟨ao,cap,rfl,aC,av,_⟩:=hl.at;obtain ⟨R,hR⟩:=nmQ (kcheckC l);rw [<-hR];unfold kcheckC at hR;obtain ⟨n,hn⟩:=nmQ (l.length);rw [<-hn] at hl aC ⊢;have qO:=zAA hn;clear hn;obtain ⟨b1,kP,kZ⟩:=nw2 w (.cells #[.slice ao n cap] 24 (0,0)) (.cells #[.int .i64 0,.int .i64 0] 29 (0,0))
 have wG:Gl (fun i=>i<((w.alloc (.cells #[.slice ao n cap] 24 (0,0))).alloc (.cells #[.int .i64 0,.int .i64 0] 29 (0,0))).heap.size) ((w.alloc (.cells #[.slice ao n cap] 24 (0,0))).alloc (.cells #[.int .i64 0,.int .i64 0] 29 (0,0))):=by
  have g:=hg.keep (Keep.ofBelow b1);have:=b1.size;exact ⟨g.s,g.o,g.t,Nat.lt_of_lt_of_le hg.k0 this,Nat.lt_of_lt_of_le hg.k1 this,Nat.lt_of_lt_of_le hg.k2 this⟩
 have bh:=hl.under b1;have mY:=hG.under b1;clear hl hG hg;go_enter Tryz.func10,Tryz.ntmps10;go_upto_region 1 with fail;generalize (w.alloc (.cells #[.slice ao n cap] 24 (0,0))).alloc (.cells #[.int .i64 0,.int .i64 0] 29 (0,0))=w1 at b1 kP kZ wG bh mY ⊢;have hc:=check_any bh wG hF;have CH:=zAA bh;have xE:=zAA mY;clear bh mY wG;have p0:=co kP 0;simp at p0;obtain ⟨C,hC⟩:=nmQ (Tx.printC l);rw [<-hC] at hc hR hN sn;clear hC;obtain ⟨c,a⟩:=C
 dsimp only at hc hR hN sn
 go_wp2_with fail;refine hc.mono ?_;rintro e w2 ⟨rfl,b2⟩;clear hc;have B2:=b1.trans (b2.mono b1.size);have b3:Below w2.heap.size w2 (w2.alloc (.cells #[.int .i64 c,.int .i64 a] 29 (0,0))):=(Below.refl _ _).alloc nR _;have B3:=B2.trans (b3.mono B2.size);have k3:=zAC w2 (.cells #[.int .i64 c,.int .i64 a] 29 (0,0));have dv:=(b3.block _ (zAB ((b2.block _ (zAB kZ)).trans kZ))).trans ((b2.block _ (zAB kZ)).trans kZ);have qE:=(b3.block _ (zAB ((b2.block _ (zAB kP)).trans kP))).trans ((b2.block _ (zAB kP)).trans kP);have tN:=zAA ((CH.out.under b2).under b3);have Hc:=zAA ((xE.out.under b2).under b3);go_upto_region 2 with fail;generalize w2.alloc (.cells #[.int .i64 c,.int .i64 a] 29 (0,0))=w3 at b3 B3 k3 dv qE tN Hc ⊢;clear CH xE p0 kZ kP;have m0:=co k3 0;have m1:=co k3 1;have p0:=co qE 0;simp at m0 m1 p0;by_cases hz:c=0
 case neg=>
  rw [if_pos hz] at hR;have bY:(c != 0)=true:=(by simpa using hz);have y3:=zAB k3;have aX:=co dv 0;have st1:=co dv 1;have dr:=fo dv 0;have dp:=fo dv 1;simp at aX st1;have KR:=zAD (zAD dv 0 (.int .i64 c)) 1 (.int .i64 a);have r0:=co KR 0;have r1:=co KR 1;simp at r0 r1;have BR:=(B3.setCell (p:=⟨w.heap.size+1,0,none⟩) (by simp) (.int .i64 c)).setCell (p:=⟨w.heap.size+1,1,none⟩) (by simp) (.int .i64 a);clear KR;go_wp2;exact bodyPost_ret (v:=.agg #[.int .i64 c,.int .i64 a]) (by simp [results,Tryz.results10,go_sem,r0,r1]) rfl ⟨by rw [hR],BR⟩
 case pos=>
  subst hz;rw [if_neg (by simp)] at hR;unfold Kd.checkN at hR;have hc:=zEA tN.out (fun i hi=>Nat.lt_of_lt_of_le (bm i hi) B3.size) Hc.out (hN rfl) (sn rfl);generalize Kd.goN [] l 0 0=D at hc hR;obtain ⟨c,a⟩:=D
  dsimp only at hc hR
  go_wp2_with fail;refine hc.mono ?_;rintro e w4 ⟨rfl,b4⟩;clear hc;have B4:=B3.trans (b4.mono B3.size);have b5:Below w4.heap.size w4 (w4.alloc (.cells #[.int .i64 c,.int .i64 a] 29 (0,0))):=(Below.refl _ _).alloc nR _;have B5:=B4.trans (b5.mono B4.size);have k5:=zAC w4 (.cells #[.int .i64 c,.int .i64 a] 29 (0,0));have iH:=(b5.block _ (zAB ((b4.block _ (zAB dv)).trans dv))).trans ((b4.block _ (zAB dv)).trans dv);have Jp:=(b5.block _ (zAB ((b4.block _ (zAB qE)).trans qE))).trans ((b4.block _ (zAB qE)).trans qE);have Jr:=zAA ((tN.out.under b4).under b5);go_upto_region 5 with fail;generalize w4.alloc (.cells #[.int .i64 c,.int .i64 a] 29 (0,0))=w5 at b5 B5 k5 iH Jp Jr ⊢;clear tN Hc p0 dv qE m0 m1 k3;have m0:=co k5 0;have m1:=co k5 1;have p0:=co Jp 0;simp at m0 m1 p0;by_cases hz:c=0
  case neg=>
   rw [if_pos hz] at hR;have bY:(c != 0)=true:=(by simpa using hz);have y5:=zAB k5;have aX:=co iH 0;have st1:=co iH 1;have dr:=fo iH 0;have dp:=fo iH 1;simp at aX st1;have KR:=zAD (zAD iH 0 (.int .i64 c)) 1 (.int .i64 a);have r0:=co KR 0;have r1:=co KR 1;simp at r0 r1;have BR:=(B5.setCell (p:=⟨w.heap.size+1,0,none⟩) (by simp) (.int .i64 c)).setCell (p:=⟨w.heap.size+1,1,none⟩) (by simp) (.int .i64 a);clear KR;go_wp2;exact bodyPost_ret (v:=.agg #[.int .i64 c,.int .i64 a]) (by simp [results,Tryz.results10,go_sem,r0,r1]) rfl ⟨by rw [hR],BR⟩
  case pos=>
   subst hz;rw [if_neg (by simp)] at hR;have hc:=zEB Jr.out;generalize l.any Kd.isMain=q at hc hR;go_wp2_with fail;refine hc.mono ?_;rintro e w6 ⟨rfl,b6⟩;clear hc m0 m1 p0;have B6:=B5.trans (b6.mono B5.size);have gG:=(b6.block _ (zAB iH)).trans iH
   cases q
   ·rw [if_neg (by simp)] at hR
    have aX:=co gG 0;have st1:=co gG 1;have dr:=fo gG 0;have dp:=fo gG 1;simp at aX st1;have KR:=zAD (zAD gG 0 (.int .i64 14)) 1 (.int .i64 (-1));have r0:=co KR 0;have r1:=co KR 1;simp at r0 r1;have BR:=(B6.setCell (p:=⟨w.heap.size+1,0,none⟩) (by simp) (.int .i64 14)).setCell (p:=⟨w.heap.size+1,1,none⟩) (by simp) (.int .i64 (-1));clear KR;go_wp2;exact bodyPost_ret (v:=.agg #[.int .i64 14,.int .i64 (-1)]) (by simp [results,Tryz.results10,go_sem,r0,r1]) rfl ⟨by rw [hR],BR⟩
   ·rw [if_pos rfl] at hR
    have aX:=co gG 0;have st1:=co gG 1;have dr:=fo gG 0;have dp:=fo gG 1;simp at aX st1;have KR:=zAD (zAD gG 0 (.int .i64 0)) 1 (.int .i64 0);have r0:=co KR 0;have r1:=co KR 1;simp at r0 r1;have BR:=(B6.setCell (p:=⟨w.heap.size+1,0,none⟩) (by simp) (.int .i64 0)).setCell (p:=⟨w.heap.size+1,1,none⟩) (by simp) (.int .i64 0);clear KR;go_wp2;exact bodyPost_ret (v:=.agg #[.int .i64 0,.int .i64 0]) (by simp [results,Tryz.results10,go_sem,r0,r1]) rfl ⟨by rw [hR],BR⟩
end Go.Proofs.YtkfgbhlpjkkgfaaGreatDoor
