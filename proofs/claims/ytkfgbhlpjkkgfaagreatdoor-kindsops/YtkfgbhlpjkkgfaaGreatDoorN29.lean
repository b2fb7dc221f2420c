import Derived.Test.YtkfgbhlpjkkgfaaGreatDoorN27
import Derived.Test.YtkfgbhlpjkkgfaaGreatDoorN28
set_option linter.unusedVariables false
set_option linter.unusedSimpArgs false
set_option maxHeartbeats 64000000
set_option maxRecDepth 100000
namespace Go.Proofs.YtkfgbhlpjkkgfaaGreatDoor
open Go.RowKit Go.IntWalk
structure NodeFit (n:Nd):Prop where
 head:NdFit n
 eqs:∀ q ∈ n.eqs,EqFit q
 lens:(Kd.mkOf n).length+(Kd.doneOf n).length<1000000
 ne:n.eqs.length≤1000000
def NodeDoes (n:Nd):Prop:=∀ (x:SB) (above:List Nd),Kd.headC above n=0→∀ q ∈ n.eqs,(q.node.size=0→∀ e ∈ q.E,TyDoes x (Kd.envOf above n) e)∧(q.node.size≠0→CallDoes x (Kd.envOf above n) q)
theorem NdF.put {ok:Nat→Prop} {w:World} {above:List Nd} {f:List UInt8→Option Value} {n:Nd} {y:NdV} (hN:NdF ok w above f) (hy:HNd ok w y n) (hn:Kd.findN above n.name=none):NdF ok w (above++[n]) (putF f n.name.data.toList (.agg #[.string y.name,.int .i64 y.place,.slice y.a2 y.n2 y.c2,.slice y.a3 y.n3 y.c3,.slice y.a4 y.n4 y.c4,.slice y.a5 y.n5 y.c5,.slice y.a6 y.n6 y.c6])):=by
 intro s;have:=hN s;rw [findN_app];unfold putF;by_cases e:n.name.data.toList=s.data.toList
 ·have hs:Kd.findN above s=none:=by
   unfold Kd.findN at hn ⊢;rw [e] at hn;exact hn
  rw [hs];simp only [e,if_true];exact ⟨y,rfl,hy⟩
 ·have e2:¬s.data.toList=n.name.data.toList:=fun q=>e q.symm
  cases hs:Kd.findN above s with
  | none=>
   rw [hs] at this;simp only [if_neg e,if_neg e2];exact this
  | some c=>
   rw [hs] at this;simp only [if_neg e2];exact this
theorem done_le (eqs:List Eqn) (j:Nat) (h:j<eqs.length):((eqs.take j).flatMap Eqn.names).length+(eqs[j]).names.length≤(eqs.flatMap Eqn.names).length:=by
 have h1:eqs=eqs.take j++(eqs[j] :: eqs.drop (j+1)):=(by rw [←List.drop_eq_getElem_cons h,List.take_append_drop]);have h2:(eqs.flatMap Eqn.names).length=((eqs.take j++(eqs[j] :: eqs.drop (j+1))).flatMap Eqn.names).length:=congrArg (fun l=>(List.flatMap Eqn.names l).length) h1;rw [h2,List.flatMap_append,List.flatMap_cons,List.length_append,List.length_append];omega
theorem head_none {above:List Nd} {n:Nd} (h:Kd.headC above n=0):Kd.findN above n.name=none:=by
 unfold Kd.headC at h
 split at h
 ·cases h
 ·rename_i h1
  simpa using h1
theorem faultOfNodes_any {ok:Nat→Prop} {w:World} {v:Value} {l:List Nd} (hl:HNds ok w v l) (hok:∀ i,ok i→i<w.heap.size) (hG:GlobK w) (hF:∀ n ∈ l,NodeFit n∧NodeDoes n) (hln:l.length≤1000000) :
  Calls Tryz.prog 31 #[v] w fun r w'=>r=.returned (.agg #[.int .i64 (Kd.goN [] l 0 0).1,.int .i64 (Kd.goN [] l 0 0).2])∧Below w.heap.size w w':=by
 have hmm:=@run_makeMap Tryz.prog;obtain ⟨ao,cap,rfl,hc1,hc2,_⟩:=hl.at;unfold maxLen at hc2;obtain ⟨R,hR⟩:=nmQ (Kd.goN [] l 0 0);rw [←hR];have HR:=hide hR;have HF:=hide hF;have HL:=hide hl;have HO:=hide hok;have HG:=hide hG;clear hR hF hl hok hG;obtain ⟨n,hn⟩:=nmQ (l.length);rw [←hn] at hc1 hln ⊢;have HN:=hide hn;clear hn;go_enter Tryz.func31,Tryz.ntmps31;go_wp2_with fail;go_loopg [4,16] n (fun gh v4 v16 wr=>∃ (i k:Nat) (f:List UInt8→Option Value),i≤n∧gh=n-i∧v4=.int .i64 (k:Int)∧v16=.int .i64 (i:Int)∧k≤1000000*i∧Hid (R=Kd.goN (l.take i) (l.drop i) i k)∧Hid (MapIs wr (w.heap.size+1) (l.take i).length f)∧Hid (NdF ok wr (l.take i) f)∧Hid (wr.heap[w.heap.size]?=some (.cells #[.int .i64 0,.int .i64 0] 29 (0,0)))∧Below w.heap.size w wr)
 case atStart=>
  refine ⟨0,0,fun _=>none,Nat.zero_le _,rfl,rfl,rfl,by omega,hide (by simpa using HR.out),hide ?_,hide (fun s=>rfl),hide ?_,?_⟩
  ·have:=MapIs.made (w.alloc (.cells #[.int .i64 0,.int .i64 0] 29 (0,0)))
   simpa using this
  ·exact (Below.heap_alloc _ _ _ (by simp)).trans (heap_new w _)
  ·exact ((Below.refl _ _).alloc nR _).alloc (by simp) _
 case round=>
  obtain ⟨i,k,f,hi,rfl,rfl,rfl,hk,H,HM,HNF,HKF,hbr⟩:=hrel;obtain ⟨wo,hwo⟩:=nmQ (wr);subst hwo;by_cases hlt:i<n
  case neg=>
   have hin:i=n:=(by omega);subst hin;have e1:l.drop i=[]:=List.drop_of_length_le (by have:=HN.out;omega);have hz:R=(0,0):=(by rw [H.out,e1];rfl);have kF:=HKF.out;have st0:=co kF 0;have st1:=co kF 1;have fr0:=fo kF 0;have fr1:=fo kF 1;simp at st0 st1;have KR:=set_in (set_in kF 0 (.int .i64 0)) 1 (.int .i64 (0));have r0:=co KR 0;have r1:=co KR 1;simp at r0 r1;have BR:=(hbr.setCell (p:=⟨w.heap.size,0,none⟩) nR (.int .i64 0)).setCell (p:=⟨w.heap.size,1,none⟩) nR (.int .i64 (0));clear KR;go_wp2;exact bodyPost_ret (v:=.agg #[.int .i64 0,.int .i64 (0)]) (by simp [results,Tryz.results31,go_sem,r0,r1]) rfl ⟨by rw [hz],BR⟩
  case pos=>
   have hil:i<l.length:=(by have:=HN.out;omega);obtain ⟨hfit,hdoes⟩:=HF.out _ (List.getElem_mem hil);have hdr:l.drop i=l[i] :: l.drop (i+1):=List.drop_eq_getElem_cons hil;have htk:l.take (i+1)=l.take i++[l[i]]:=List.take_succ_eq_append_getElem hil;have hR1:=H.out;rw [hdr] at hR1;obtain ⟨ao',cap',eqs,_,_,hat2⟩:=(HL.out.under hbr).at;injection eqs with q1 q2 q3;subst q1;obtain ⟨b,o,y,rfl,hb,hy,hnd⟩:=hat2 i hil;obtain ⟨e0,e1,e2,e3,e4,e5,e6⟩:=hy;obtain ⟨yn,yp,za2,zn2,zc2,za3,zn3,zc3,za4,zn4,zc4,za5,zn5,zc5,za6,zn6,zc6⟩:=y
   dsimp only at e0 e1 e2 e3 e4 e5 e6
   obtain ⟨nd,hnd0⟩:=nmQ (l[i]);rw [←hnd0] at hfit hdoes hR1 hnd htk;obtain ⟨above,hab⟩:=nmQ (l.take i);rw [←hab] at hR1 htk HM HNF;clear hat2 q2 q3 hnd0 hdr;have HTK:=hide htk;have HNM:Hid (yn=nd.name):=hide hnd.name;have hbA:Below wo.heap.size wo (wo.alloc (.cells #[.string yn,.int .i64 yp,.slice za2 zn2 zc2,.slice za3 zn3 zc3,.slice za4 zn4 zc4,.slice za5 zn5 zc5,.slice za6 zn6 zc6] 47 (0,0))):=(Below.refl _ _).alloc nR _;have kD0:=heap_new wo (.cells #[.string yn,.int .i64 yp,.slice za2 zn2 zc2,.slice za3 zn3 zc3,.slice za4 zn4 zc4,.slice za5 zn5 zc5,.slice za6 zn6 zc6] 47 (0,0));have BA:=hbr.trans (hbA.mono hbr.size);have yF:=lt_of HKF.out;have yM:=HM.out.lt;have hokA:∀ j,ok j→j<(wo.alloc (.cells #[.string yn,.int .i64 yp,.slice za2 zn2 zc2,.slice za3 zn3 zc3,.slice za4 zn4 zc4,.slice za5 zn5 zc5,.slice za6 zn6 zc6] 47 (0,0))).heap.size:=fun j hj=>Nat.lt_of_lt_of_le (HO.out j hj) BA.size;have hsA:(wo.alloc (.cells #[.string yn,.int .i64 yp,.slice za2 zn2 zc2,.slice za3 zn3 zc3,.slice za4 zn4 zc4,.slice za5 zn5 zc5,.slice za6 zn6 zc6] 47 (0,0))).heap.size=wo.heap.size+1:=(by simp);have hM0:¬ok (w.heap.size+1):=fun h=>absurd (HO.out _ h) (by omega);have hc:=newScope_any (HM.out.keep (hbA.block _ yM)) (HNF.out.keep hbA.size (fun j _ hl=>hbA.block j hl)) hokA hM0;have HND:=hide (hnd.under hbA);clear htk hnd hab HM HNF H;go_upto_region 6 with fail;generalize wo.alloc (.cells #[.string yn,.int .i64 yp,.slice za2 zn2 zc2,.slice za3 zn3 zc3,.slice za4 zn4 zc4,.slice za5 zn5 zc5,.slice za6 zn6 zc6] 47 (0,0))=w1 at hbA kD0 BA hokA hsA hc HND ⊢;go_wp2_with fail;refine hc.mono ?_;rintro e w2 ⟨rfl,hS2,b2⟩;clear hc;have hmaps:∀ j,j ∈ (newSB (w.heap.size+1) w1.heap.size).maps→j=w.heap.size+1∨w1.heap.size≤j:=by
    intro j hj;simp only [SB.maps,newSB,List.mem_cons,List.not_mem_nil,or_false] at hj;omega
   have hbmap:(newSB (w.heap.size+1) w1.heap.size).m0=w.heap.size+1:=rfl;generalize newSB (w.heap.size+1) w1.heap.size=x at hS2 hmaps hbmap ⊢;have B2:=BA.trans (b2.mono BA.size);have kD2:=(b2.block _ (lt_of kD0)).trans kD0;have kF1:=(hbA.block _ yF).trans HKF.out;have kF2:=(b2.block _ (lt_of kF1)).trans kF1;have hnF:w.heap.size ∉ x.maps:=fun h=>by have:=hmaps _ h;omega
   have hnD:wo.heap.size ∉ x.maps:=fun h=>by have:=hmaps _ h;omega
   have hn0:¬(0 ∈ x.maps):=fun h=>by have:=hmaps _ h;have:=HG.out.1;omega
   have hOK:=hS2.okOut;have g0:=co kD2 0;have g1:=co kD2 1;have g2:=co kD2 2;have g3:=co kD2 3;have g4:=co kD2 4;have g5:=co kD2 5;have g6:=co kD2 6;simp at g0 g1 g2 g3 g4 g5 g6;have hc:=declareNode_any hS2 (HND.out.under b2) hfit.head;have HND2:=hide (HND.out.under b2);clear hS2 HND kF1 kD0 e0 e1 e2 e3 e4 e5 e6;go_wp2_with fail;refine hc.mono ?_;rintro e w3 ⟨rfl,a3,hS3⟩;clear hc g0 g1 g2 g3 g4 g5 g6;have A3:Aside x.maps w.heap.size w w3:=(aside B2).trans a3 B2.size;have B3:Below w.heap.size w w3:=A3.below (fun j hj=>by have:=hmaps j hj;have:=BA.size;omega);have kD3:=(a3.block _ (lt_of kD2) hnD).trans kD2;have kF3:=(a3.block _ (lt_of kF2) hnF).trans kF2;have hR2:=hR1;simp only [Kd.goN,Kd.nodeF] at hR2;have HDO:=hide hdoes;have HR2:=hide hR2;clear hR1 hR2 hdoes kD2 kF2;obtain ⟨hcode,hhc⟩:=nmQ (Kd.headC above nd);rw [←hhc] at hS3 ⊢;have HHC:=hide hhc;clear hhc;by_cases hz:hcode=0
   case neg=>
    have hz2:(hcode != 0)=true:=(by simpa using hz);have hRf:R=(hcode,-2-(i:Int)):=by
     rw [HR2.out,←HHC.out,if_pos hz]
    have hi63:(i:Int)≤1000000:=(by omega);clear hS3 HR2;have st0:=co kF3 0;have st1:=co kF3 1;have fr0:=fo kF3 0;have fr1:=fo kF3 1;simp at st0 st1;have KR:=set_in (set_in kF3 0 (.int .i64 hcode)) 1 (.int .i64 (-2-(i:Int)));have r0:=co KR 0;have r1:=co KR 1;simp at r0 r1;have BR:=(B3.setCell (p:=⟨w.heap.size,0,none⟩) nR (.int .i64 hcode)).setCell (p:=⟨w.heap.size,1,none⟩) nR (.int .i64 (-2-(i:Int)));clear KR;go_wp2;exact bodyPost_ret (v:=.agg #[.int .i64 hcode,.int .i64 (-2-(i:Int))]) (by simp [results,Tryz.results31,go_sem,r0,r1]) rfl ⟨by rw [hRf],BR⟩
   case pos=>
    subst hz;have hS3':=hS3 rfl;clear hS3;have HR3:Hid (R=match Kd.goE (Kd.envOf above nd) (Kd.mkOf nd) [] nd.eqs k with
      | some (c,kk)=>(c,(kk:Int))
      | none=>if Kd.unmade (Kd.doneOf nd) (nd.out++nd.loc)≠0 then (Kd.unmade (Kd.doneOf nd) (nd.out++nd.loc),-2-(i:Int)) else Kd.goN (above++[nd]) (l.drop (i+1)) (i+1) (k+nd.eqs.length)):=hide (by
     have h:=HR2.out;rw [←HHC.out,if_neg (by simp)] at h;rw [h]
     cases Kd.goE (Kd.envOf above nd) (Kd.mkOf nd) [] nd.eqs k with
     | some p=>rfl
     | none=>
      simp only;by_cases hu:Kd.unmade (Kd.doneOf nd) (nd.out++nd.loc)≠0
      ·rw [if_pos hu,if_pos hu]
      ·rw [if_neg hu,if_neg hu])
    have hDO:=HDO.out x above HHC.out.symm;have HD2:=hide hDO;have hHN:=head_none HHC.out.symm;have HHN:=hide hHN;clear HR2 HDO hDO hHN;have hnd3:HNd ok w3 ⟨yn,yp,za2,zn2,zc2,za3,zn3,zc3,za4,zn4,zc4,za5,zn5,zc5,za6,zn6,zc6⟩ nd:=HND2.out.keep a3.size (fun j hj hjl=>a3.block j hjl (hOK j hj));have d6:=co kD3 6;simp at d6;obtain ⟨aq,cq,eqq,hq1,hq2,_⟩:=hnd3.eqs.at;injection eqq with p1 p2 p3;unfold maxLen at hq2;obtain ⟨m,hm⟩:=nmQ (nd.eqs.length);have hm6:m=zn6:=hm.trans p2.symm;subst hm6;have HMM:=hide hm;have HND3:=hide hnd3;have HKD3:=hide kD3;have HKF3:=hide kF3;have HS3:=hide hS3';have hmn:m≤1000000:=(by rw [hm];exact hfit.ne);clear HND2 hnd3 kD3 kF3 hS3' p1 p2 p3 hq1 hq2 hm;obtain ⟨E,hE⟩:=nmQ (Kd.envOf above nd);obtain ⟨mk,hmk⟩:=nmQ (Kd.mkOf nd);rw [←hE] at HR3 HD2 HS3;rw [←hmk] at HR3 HS3;have HEE:=hide hE;have HMK:=hide hmk;clear hE hmk;go_upto_block 2 with fail;go_wp2_with fail;go_loopg [4,35] m (fun gh v4 v35 wr=>∃ (j:Nat),j≤m∧gh=m-j∧v4=.int .i64 ((k+j:Nat):Int)∧v35=.int .i64 (j:Int)∧Hid (Kd.goE E mk [] nd.eqs k=Kd.goE E mk ((nd.eqs.take j).flatMap Eqn.names) (nd.eqs.drop j) (k+j))∧Hid (Scp ok wr x E mk ((nd.eqs.take j).flatMap Eqn.names))∧Hid (Subs ((nd.eqs.take j).flatMap Eqn.names) mk)∧Aside x.maps w3.heap.size w3 wr)
    case atStart=>exact ⟨0,Nat.zero_le _,rfl,by simp,rfl,hide (by simp),hide (by simpa using HS3.out),hide (fun s h=>by simp [Kd.hasN] at h),Aside.refl _⟩
    case round=>
     obtain ⟨j,hj,rfl,rfl,rfl,HJ,HSJ,HSU,aJ⟩:=hrel;have kDJ:=(aJ.block _ (lt_of HKD3.out) hnD).trans HKD3.out;have kFJ:=(aJ.block _ (lt_of HKF3.out) hnF).trans HKF3.out;have hndJ:HNd ok wr ⟨yn,yp,za2,zn2,zc2,za3,zn3,zc3,za4,zn4,zc4,za5,zn5,zc5,za6,m,zc6⟩ nd:=HND3.out.keep aJ.size (fun a ha hal=>aJ.block a hal (hOK a ha));have AJ:Aside x.maps w.heap.size w wr:=A3.trans aJ A3.size;have BJ:Below w.heap.size w wr:=AJ.below (fun a ha=>by have:=hmaps a ha;have:=BA.size;omega);by_cases hjt:j<m
     case pos=>
      have hjl:j<nd.eqs.length:=(by have:=HMM.out;omega);have hqf:=hfit.eqs _ (List.getElem_mem hjl);obtain ⟨hqX,hqC⟩:=HD2.out _ (List.getElem_mem hjl);have hjdr:nd.eqs.drop j=nd.eqs[j] :: nd.eqs.drop (j+1):=List.drop_eq_getElem_cons hjl;have hjtk:nd.eqs.take (j+1)=nd.eqs.take j++[nd.eqs[j]]:=List.take_succ_eq_append_getElem hjl;have hdl:=done_le nd.eqs j hjl;have hlens:=hfit.lens;rw [←HMK.out] at hlens;unfold Kd.doneOf at hlens;obtain ⟨aq',cq',eqq,_,_,hqat⟩:=hndJ.eqs.at;injection eqq with p1 p2 p3;obtain ⟨bq,oq,q,p4,hbq,hq,hqe⟩:=hqat j hjl;rw [p4] at p1;subst p1;have d6J:=co kDJ 6;simp at d6J;obtain ⟨t0,t1,t2,t3,t4⟩:=hq;obtain ⟨Q,hQ⟩:=nmQ (nd.eqs[j]);rw [←hQ] at hqf hqX hqC hjdr hjtk hdl hqe;have hHJ:=HJ.out;rw [hjdr] at hHJ;simp only [Kd.goE] at hHJ;have HHJ:=hide hHJ;have HJTK:=hide hjtk;obtain ⟨dj,hdj⟩:=nmQ ((nd.eqs.take j).flatMap Eqn.names);have HDJ:=hide hdj;rw [←hdj] at HHJ HSJ HSU hdl;have bQ:Below wr.heap.size wr (wr.alloc (.cells #[.int .i64 q.place,.slice q.aN q.nN q.cN,.string q.node,.slice q.aS q.nS q.cS,.slice q.aE q.nE q.cE] 56 (0,0))):=(Below.refl _ _).alloc nR _;have hGJ:GlobK wr:=HG.out.under (BJ.mono nR);have hc:=kequation_any (HSJ.out.keep bQ) HSU.out (hGJ.under bQ) hn0 (hqe.under bQ) (fun a ha=>Nat.lt_of_lt_of_le (HO.out a ha) (Nat.le_trans BJ.size bQ.size)) hqf (by omega) hqX hqC;have aQ:Aside x.maps w3.heap.size w3 (wr.alloc (.cells #[.int .i64 q.place,.slice q.aN q.nN q.cN,.string q.node,.slice q.aS q.nS q.cS,.slice q.aE q.nE q.cE] 56 (0,0))):=aJ.trans (aside (S:=x.maps) (B:=wr.heap.size) bQ) aJ.size;have kFQ:=(bQ.block _ (lt_of kFJ)).trans kFJ;clear hqat p2 p3 p4 hQ hdj hHJ hjdr hjtk hqe hndJ kDJ d6J HJ;go_wp2_with fail;refine hc.mono ?_;rintro e w5 ⟨rfl,a5,hS5⟩;clear hc;have A5:=aQ.trans a5 aQ.size;have AW:Aside x.maps w.heap.size w w5:=A3.trans A5 A3.size;have BW:Below w.heap.size w w5:=AW.below (fun a ha=>by have:=hmaps a ha;have:=BA.size;omega);have kF5:=(a5.block _ (lt_of kFQ) hnF).trans kFQ;obtain ⟨c,hcx⟩:=nmQ (Kd.codeEq E mk dj Q);rw [←hcx] at hS5 HHJ
      try rw [←hcx]
      clear hcx;by_cases hz:c=0
      case neg=>
       have hz2:(c != 0)=true:=(by simpa using hz);have hRf:R=(c,((k+j:Nat):Int)):=by
        rw [HR3.out,HHJ.out,if_pos hz]
       clear hS5 HR3 HHJ;have st0:=co kF5 0;have st1:=co kF5 1;have fr0:=fo kF5 0;have fr1:=fo kF5 1;simp at st0 st1;have KR:=set_in (set_in kF5 0 (.int .i64 c)) 1 (.int .i64 (((k+j:Nat):Int)));have r0:=co KR 0;have r1:=co KR 1;simp at r0 r1;have BR:=(BW.setCell (p:=⟨w.heap.size,0,none⟩) nR (.int .i64 c)).setCell (p:=⟨w.heap.size,1,none⟩) nR (.int .i64 (((k+j:Nat):Int)));clear KR;go_wp2;exact bodyPost_ret (v:=.agg #[.int .i64 c,.int .i64 (((k+j:Nat):Int))]) (by simp [results,Tryz.results31,go_sem,r0,r1]) rfl ⟨by rw [hRf],BR⟩
      case pos=>
       subst hz;obtain ⟨hS6,hU6⟩:=hS5 rfl;have HS6:=hide hS6;have HU6:=hide hU6;have hkj:((k+j:Nat):Int)≤2000000000000:=(by omega);clear hS5 hS6 hU6;go_wp2_with fail;go_roundg (m-(j+1))
       case measure=>omega
       case rel=>
        have hfm:(nd.eqs.take (j+1)).flatMap Eqn.names=dj++Q.names:=by
         rw [HJTK.out,List.flatMap_append,←HDJ.out];simp
        refine ⟨j+1,by omega,rfl,by go_num,by go_num,hide ?_,hide ?_,hide ?_,A5⟩
        ·rw [HHJ.out,if_neg (by simp),hfm]
         rfl
        ·rw [hfm];exact HS6.out
        ·rw [hfm];exact HU6.out
     case neg=>
      have hje:j=m:=(by omega);subst hje;have etk:nd.eqs.take j=nd.eqs:=List.take_of_length_le (by have:=HMM.out;omega);have edr:nd.eqs.drop j=[]:=List.drop_of_length_le (by have:=HMM.out;omega);have hnone:Kd.goE E mk [] nd.eqs k=none:=(by rw [HJ.out,edr];rfl);have hRn:=HR3.out;rw [hnone] at hRn;simp only at hRn;have hSJ:=HSJ.out;rw [etk] at hSJ;have h0:=co kDJ 0;have h1:=co kDJ 1;have h2:=co kDJ 2;have h3:=co kDJ 3;have h4:=co kDJ 4;have h5:=co kDJ 5;have h6:=co kDJ 6;simp at h0 h1 h2 h3 h4 h5 h6;have hc:=codeOfUnmade_any hSJ hndJ hfit.head;have hdd:(nd.eqs.flatMap Eqn.names)=Kd.doneOf nd:=rfl;rw [hdd] at hc hSJ;have HSJ2:=hide hSJ;have HNJ:=hide hndJ;have HKDJ:=hide kDJ;clear hSJ hndJ HJ HSJ HSU etk edr hnone HR3 kDJ d6 hdd;generalize Kd.unmade (Kd.doneOf nd) (nd.out++nd.loc)=c at hc hRn;obtain ⟨wj,hwj⟩:=nmQ (wr);rw [←hwj] at aJ kFJ AJ BJ h0 h1 h2 h3 h4 h5 h6 hc HSJ2 HNJ HKDJ ⊢;clear hwj;go_wp2_with fail;refine hc.mono ?_;rintro e w5 ⟨rfl,b5⟩;clear hc h0 h1 h2 h3 h4 h5 h6;have B5:=BJ.trans (b5.mono BJ.size);have kF5:=(b5.block _ (lt_of kFJ)).trans kFJ;by_cases hz:c=0
      case neg=>
       rw [if_pos hz] at hRn;have hz2:(c != 0)=true:=(by simpa using hz);have hi63:(i:Int)≤1000000:=(by omega);have st0:=co kF5 0;have st1:=co kF5 1;have fr0:=fo kF5 0;have fr1:=fo kF5 1;simp at st0 st1;have KR:=set_in (set_in kF5 0 (.int .i64 c)) 1 (.int .i64 (-2-(i:Int)));have r0:=co KR 0;have r1:=co KR 1;simp at r0 r1;have BR:=(B5.setCell (p:=⟨w.heap.size,0,none⟩) nR (.int .i64 c)).setCell (p:=⟨w.heap.size,1,none⟩) nR (.int .i64 (-2-(i:Int)));clear KR;go_wp2;exact bodyPost_ret (v:=.agg #[.int .i64 c,.int .i64 (-2-(i:Int))]) (by simp [results,Tryz.results31,go_sem,r0,r1]) rfl ⟨by rw [hRn],BR⟩
      case pos=>
       subst hz;rw [if_neg (by simp)] at hRn;have kD5:=(b5.block _ (lt_of HKDJ.out)).trans HKDJ.out;have hS5:=HSJ2.out.keep b5;have hnd5:=HNJ.out.under b5;obtain ⟨ff,hm5,hN5⟩:=hS5.h0;have hEa:E.above=above:=(by rw [HEE.out];rfl);rw [hEa,hbmap] at hm5;rw [hEa] at hN5;have h0:=co kD5 0;have h1:=co kD5 1;have h2:=co kD5 2;have h3:=co kD5 3;have h4:=co kD5 4;have h5:=co kD5 5;have h6:=co kD5 6;simp at h0 h1 h2 h3 h4 h5 h6;have hnf:=hfit.head.name;rw [←HNM.out] at hnf;have hPUT:=hN5.put hnd5 HHN.out;rw [←HNM.out] at hPUT;have HPUT:=hide hPUT;have htl:(l.take i).length=i:=(by rw [List.length_take];omega);have habl:above.length≤1000000:=by
        have:=congrArg List.length HTK.out;simp only [List.length_append,List.length_take,List.length_singleton] at this;omega
       clear hS5 hnd5 hN5 hPUT kD5 hEa
       go_wp2_with (at_mapUpdate;refine wpList_put rfl _ _ _ 98 rfl 47 u98 hm5 (by unfold maxLen;omega) hnf rfl rfl ?_;intro w6 hm6 hg6)
       have hM6:=hide hm6;have hG6:=hide hg6;clear hm6 hg6 hm5 h0 h1 h2 h3 h4 h5 h6;go_roundg (n-(i+1))
       case measure=>omega
       case rel=>
        have hg:=hG6.out;refine ⟨i+1,k+j,putF ff yn.data.toList (.agg #[.string yn,.int .i64 yp,.slice za2 zn2 zc2,.slice za3 zn3 zc3,.slice za4 zn4 zc4,.slice za5 zn5 zc5,.slice za6 j zc6]),by omega,rfl,rfl,by go_num,by omega,hide ?_,hide ?_,hide ?_,hide ?_,?_⟩
        ·rw [hRn,HTK.out,←HMM.out]
        ·rw [HTK.out,List.length_append]
         exact hM6.out
        ·rw [HTK.out]
         exact HPUT.out.keep hg.size (keepOk hM0 hg)
        ·exact keepNe hg kF5 (by omega)
        ·exact B5.grown hg B5.size (fun a ha=>by cases ha;omega)
end Go.Proofs.YtkfgbhlpjkkgfaaGreatDoor
