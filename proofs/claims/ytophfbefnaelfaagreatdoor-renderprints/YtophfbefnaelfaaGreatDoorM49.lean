import Derived.Test.YtophfbefnaelfaaGreatDoorM06
import Derived.Test.YtophfbefnaelfaaGreatDoorM48
import Derived.Deep.RegionHeld3
set_option linter.unusedVariables false
set_option linter.unusedSimpArgs false
set_option maxHeartbeats 64000000
set_option maxRecDepth 100000
namespace Go.Proofs.YtophfbefnaelfaaGreatDoor
open Go.RowKit Go.IntWalk
theorem sameProgram_same {ok ok':Nat→Prop} {w:World} {ao ao':Option Addr} {n n' cap cap':Nat} {l:List Nd} (hl:HNds ok w (.slice ao n cap) l) (hr:HNds ok' w (.slice ao' n' cap') l) :
  Calls Tryz.prog 14 #[.agg #[.slice ao n cap],.agg #[.slice ao' n' cap'],.bool true] w fun e w'=>e=.returned (.bool true)∧Below w.heap.size w w':=by
 obtain ⟨p1,p2,hv,hc1,hc2,hat⟩:=hl.at;injection hv with q1 q2 q3;have HN:=hide q2;rw [←q1] at hat;rw [←q2,←q3] at hc1;rw [←q3] at hc2;clear q1 q2 q3 hl;obtain ⟨p1',p2',hv',hd1,hd2,hat'⟩:=hr.at;injection hv' with q1 q2 q3;have HM:=hide q2;rw [←q1] at hat';rw [←q2,←q3] at hd1;rw [←q3] at hd2;clear q1 q2 q3 hr;unfold maxLen at hc2 hd2;obtain ⟨W,hW⟩:=nmQ ((w.alloc (.cells #[.slice ao n cap] 24 (0,0))).alloc (.cells #[.slice ao' n' cap'] 24 (0,0)));have zW:W.heap.size=w.heap.size+1+1:=(by rw [hW];simp);have bW:Below w.heap.size w W:=(by rw [hW];exact ((Below.refl _ w).alloc nR _).alloc (by simp) _);have pW:W.heap[w.heap.size]?=some (.cells #[.slice ao n cap] 24 (0,0)):=(by rw [hW];exact kA (heap_new w _) _);have qW:W.heap[w.heap.size+1]?=some (.cells #[.slice ao' n' cap'] 24 (0,0)):=by
  have:=heap_new (w.alloc (.cells #[.slice ao n cap] 24 (0,0))) (.cells #[.slice ao' n' cap'] 24 (0,0));rw [hW]
  simpa using this
 by_cases hlen:n=n'
 ·subst hlen
  have hq:((n:Int) != (n:Int))=false:=(by simp);go_enter Tryz.func14,Tryz.ntmps14;go_wp2;rw [←hW];clear hW;go_loopg [7] n (fun k v wr=>∃ i,i≤n∧k=n-i∧v=.int .i64 (i:Nat)∧Hid (∀ j (h:j<l.length) (h':j<l.length),j<i→neq l[j] l[j]=true)∧Below W.heap.size W wr)
  case atStart=>exact ⟨0,Nat.zero_le _,rfl,rfl,fun j _ _ h=>absurd h (Nat.not_lt_zero _),Below.refl _ _⟩
  case round=>
   obtain ⟨i,hi,rfl,rfl,H,hbr⟩:=hrel;obtain ⟨wo,hwo⟩:=nmQ (wr);subst hwo;have hbw:Below w.heap.size w wo:=bW.trans (hbr.mono (by omega));have zr:=hbr.size;have pr:=co ((aside hbr (S:=[])).keep pW (lt_of pW) (by simp)) 0;have qr:=co ((aside hbr (S:=[])).keep qW (lt_of qW) (by simp)) 0;simp at pr qr;by_cases hlt:i<n
   ·have hil:i<l.length:=by have:=HN.out;omega
    have hir:i<l.length:=(by have:=HM.out;omega);obtain ⟨b,o,x,rfl,hb,hxa,hx⟩:=hat i hil;obtain ⟨b',o',y,rfl,hb',hya,hy⟩:=hat' i hir;obtain ⟨c0,c1,c2,c3,c4,c5,c6⟩:=hxa.keep (hbw.block b hb);obtain ⟨d0,d1,d2,d3,d4,d5,d6⟩:=hya.keep (hbw.block b' hb');clear hat hat' hxa hya;have hb1:b<wo.heap.size:=Nat.lt_of_lt_of_le hb hbw.size;have hb2:b'<wo.heap.size:=Nat.lt_of_lt_of_le hb' hbw.size;have z0:w.heap.size<wo.heap.size:=(by omega);have z1:w.heap.size+1<wo.heap.size:=(by omega);go_wp2
    go_region_held3 (fun w'=>w'.cell? ⟨w.heap.size,0,none⟩=some (.slice (some ⟨b,o,none⟩) n cap)∧w'.cell? ⟨w.heap.size+1,0,none⟩=some (.slice (some ⟨b',o',none⟩) n cap')∧w'.cell? ⟨b,o+i*7,none⟩=some (.string x.name)∧w'.cell? ⟨b,o+i*7+1,none⟩=some (.int .i64 x.place)∧w'.cell? ⟨b,o+i*7+2,none⟩=some (.slice x.a2 x.n2 x.c2)∧w'.cell? ⟨b,o+i*7+3,none⟩=some (.slice x.a3 x.n3 x.c3)∧w'.cell? ⟨b,o+i*7+4,none⟩=some (.slice x.a4 x.n4 x.c4)∧w'.cell? ⟨b,o+i*7+5,none⟩=some (.slice x.a5 x.n5 x.c5)∧w'.cell? ⟨b,o+i*7+6,none⟩=some (.slice x.a6 x.n6 x.c6)∧w'.cell? ⟨b',o'+i*7,none⟩=some (.string y.name)∧w'.cell? ⟨b',o'+i*7+1,none⟩=some (.int .i64 y.place)∧w'.cell? ⟨b',o'+i*7+2,none⟩=some (.slice y.a2 y.n2 y.c2)∧w'.cell? ⟨b',o'+i*7+3,none⟩=some (.slice y.a3 y.n3 y.c3)∧w'.cell? ⟨b',o'+i*7+4,none⟩=some (.slice y.a4 y.n4 y.c4)∧w'.cell? ⟨b',o'+i*7+5,none⟩=some (.slice y.a5 y.n5 y.c5)∧w'.cell? ⟨b',o'+i*7+6,none⟩=some (.slice y.a6 y.n6 y.c6)) (go_keep) (fail)
    ·obtain ⟨W1,hW1⟩:=nmQ (((wo.alloc (.cells #[.string x.name,.int .i64 x.place,.slice x.a2 x.n2 x.c2,.slice x.a3 x.n3 x.c3,.slice x.a4 x.n4 x.c4,.slice x.a5 x.n5 x.c5,.slice x.a6 x.n6 x.c6] 43 (0,0))).alloc (.cells #[.string y.name,.int .i64 y.place,.slice y.a2 y.n2 y.c2,.slice y.a3 y.n3 y.c3,.slice y.a4 y.n4 y.c4,.slice y.a5 y.n5 y.c5,.slice y.a6 y.n6 y.c6] 43 (0,0))).drew);have KA:W1.heap[wo.heap.size]?=some (.cells #[.string x.name,.int .i64 x.place,.slice x.a2 x.n2 x.c2,.slice x.a3 x.n3 x.c3,.slice x.a4 x.n4 x.c4,.slice x.a5 x.n5 x.c5,.slice x.a6 x.n6 x.c6] 43 (0,0)):=(by rw [hW1];exact kA (heap_new wo (.cells #[.string x.name,.int .i64 x.place,.slice x.a2 x.n2 x.c2,.slice x.a3 x.n3 x.c3,.slice x.a4 x.n4 x.c4,.slice x.a5 x.n5 x.c5,.slice x.a6 x.n6 x.c6] 43 (0,0))) _);have KB:W1.heap[wo.heap.size+1]?=some (.cells #[.string y.name,.int .i64 y.place,.slice y.a2 y.n2 y.c2,.slice y.a3 y.n3 y.c3,.slice y.a4 y.n4 y.c4,.slice y.a5 y.n5 y.c5,.slice y.a6 y.n6 y.c6] 43 (0,0)):=by
      have:=heap_new (wo.alloc (.cells #[.string x.name,.int .i64 x.place,.slice x.a2 x.n2 x.c2,.slice x.a3 x.n3 x.c3,.slice x.a4 x.n4 x.c4,.slice x.a5 x.n5 x.c5,.slice x.a6 x.n6 x.c6] 43 (0,0))) (.cells #[.string y.name,.int .i64 y.place,.slice y.a2 y.n2 y.c2,.slice y.a3 y.n3 y.c3,.slice y.a4 y.n4 y.c4,.slice y.a5 y.n5 y.c5,.slice y.a6 y.n6 y.c6] 43 (0,0));have e:(wo.alloc (.cells #[.string x.name,.int .i64 x.place,.slice x.a2 x.n2 x.c2,.slice x.a3 x.n3 x.c3,.slice x.a4 x.n4 x.c4,.slice x.a5 x.n5 x.c5,.slice x.a6 x.n6 x.c6] 43 (0,0))).heap.size=wo.heap.size+1:=(by simp);rw [e] at this;rw [hW1];exact this
     have b1:Below wo.heap.size wo W1:=(by rw [hW1];exact (((Below.refl _ wo).alloc nR _).alloc (by simp) _).drew);have U0:Below w.heap.size w W1:=hbw.trans (b1.mono hbw.size);have U:∀ q,Below w.heap.size w (W1.drewN q):=fun q=>⟨U0.os,U0.tape,U0.output,U0.size,U0.block⟩;rw [←hW1];clear hW1;have KX:=KA;have KY:=KB;have NM:Hid (seq l[i].name l[i].name=(x.name.toList==y.name.toList)):=(by show _=_;rw [hx.name,hy.name];rfl);clear KA KB;have xx0:=co KX 0;have xx1:=co KX 1;have yy1:=co KY 1;have yy0:=co KY 0;have xx2:=co KX 2;have yy2:=co KY 2;have xx3:=co KX 3;have yy3:=co KY 3;have xx4:=co KX 4;have yy4:=co KY 4;have xx5:=co KX 5;have yy5:=co KY 5;have xx6:=co KX 6;have yy6:=co KY 6;simp at xx0 yy0 xx1 yy1 xx2 yy2 xx3 yy3 xx4 yy4 xx5 yy5 xx6 yy6;have hpf:(x.place != y.place)=false:=(by rw [hx.place,hy.place];simp);have h0:(x.name.toList==y.name.toList)=true:=(by rw [hx.name,hy.name];simp)
     ·go_wp2_with fail
      refine (refNames_any (hx.sizes.under U0) (hy.sizes.under U0)).mono ?_;rintro e w2 ⟨rfl,m1,rfl⟩;have h1:eqL seq l[i].sizes l[i].sizes=true:=eqL_refl _ (fun x _=>seq_refl x);rw [h1]
      ·go_wp2_with fail
       refine (refDecls_any (hx.inn.under (U _)) (hy.inn.under (U _))).mono ?_;rintro e w2 ⟨rfl,m2,rfl⟩;have h2:eqL deq l[i].inn l[i].inn=true:=eqL_refl _ (fun x _=>deq_refl x);rw [h2]
       ·go_wp2_with fail
        refine (refDecls_any (hx.out.under (U _)) (hy.out.under (U _))).mono ?_;rintro e w2 ⟨rfl,m3,rfl⟩;have h3:eqL deq l[i].out l[i].out=true:=eqL_refl _ (fun x _=>deq_refl x);rw [h3]
        ·go_wp2_with fail
         refine (refDecls_any (hx.loc.under (U _)) (hy.loc.under (U _))).mono ?_;rintro e w2 ⟨rfl,m4,rfl⟩;have h4:eqL deq l[i].loc l[i].loc=true:=eqL_refl _ (fun x _=>deq_refl x);rw [h4]
         ·
          obtain ⟨qa,qc,qv,qe1,qe2,qat⟩:=hx.eqs.at;obtain ⟨ra,rc,rv,re1,re2,rat⟩:=hy.eqs.at;injection qv with u1 u2 u3;injection rv with v1 v2 v3;rw [←u1] at qat;rw [←v1] at rat;have HU:=hide u2;have HV:=hide v2;rw [←u2,←u3] at qe1;rw [←u3] at qe2;rw [←v2,←v3] at re1;rw [←v3] at re2;unfold maxLen at qe2 re2;clear u1 u2 u3 v1 v2 v3;by_cases h5:x.n6=y.n6
          ·have h5f:((x.n6:Int) != (y.n6:Int))=false:=by simp [h5]
           have H5:=hide h5;clear h5;have zk1:=lt_of KX;have zk2:=lt_of KY;go_wp2;go_loopg [10] x.n6 (fun k v wk=>∃ j,j≤x.n6∧k=x.n6-j∧v=.int .i64 (j:Nat)∧Hid (∀ t (h:t<l[i].eqs.length) (h':t<l[i].eqs.length),t<j→qeq l[i].eqs[t] l[i].eqs[t]=true)∧Below W1.heap.size W1 wk)
           case atStart=>exact ⟨0,Nat.zero_le _,rfl,rfl,fun t _ _ h=>absurd h (Nat.not_lt_zero _),⟨rfl,rfl,rfl,Nat.le_refl _,fun _ _=>rfl⟩⟩
           case round=>
            obtain ⟨j,hj,rfl,rfl,G,hbk⟩:=hrel;have pk:=(hbk.cell (p:=⟨wo.heap.size,6,none⟩) zk1).trans xx6;have qk:=(hbk.cell (p:=⟨wo.heap.size+1,6,none⟩) zk2).trans yy6;have zk:=hbk.size;clear xx1 yy1 xx0 xx2 xx3 xx4 xx5 xx6 yy0 yy2 yy3 yy4 yy5 yy6 c0 c1 c2 c3 c4 c5 c6 d0 d1 d2 d3 d4 d5 d6 pr qr;by_cases hjt:j<x.n6
            ·have hjl:j<l[i].eqs.length:=by have:=HU.out;omega
             have hjr:j<l[i].eqs.length:=(by have:=HV.out;have:=H5.out;omega);have hjt2:j<y.n6:=(by have:=H5.out;omega);obtain ⟨bp,op,p,xe,hbp,hpa,hp⟩:=qat j hjl;obtain ⟨bq,oq,q,ye,hbq,hqa,hq'⟩:=rat j hjr;have Bk:Below w.heap.size w wr:=U0.trans (hbk.mono U0.size);rw [xe] at pk;rw [ye] at qk;obtain ⟨s0,s1,s2,s3,s4⟩:=hpa.keep (Bk.block bp hbp);obtain ⟨t0,t1,t2,t3,t4⟩:=hqa.keep (Bk.block bq hbq);have hz1:bp<wr.heap.size:=Nat.lt_of_lt_of_le hbp Bk.size;have hz2:bq<wr.heap.size:=Nat.lt_of_lt_of_le hbq Bk.size;have hz3:wo.heap.size<wr.heap.size:=Nat.lt_of_lt_of_le zk1 zk;have hz4:wo.heap.size+1<wr.heap.size:=Nat.lt_of_lt_of_le zk2 zk;clear xe ye hpa hqa qat rat;go_wp2
             go_region_held3 (fun w'=>w'.cell? ⟨wo.heap.size,6,none⟩=some (.slice (some ⟨bp,op,none⟩) x.n6 x.c6)∧w'.cell? ⟨wo.heap.size+1,6,none⟩=some (.slice (some ⟨bq,oq,none⟩) y.n6 y.c6)∧w'.cell? ⟨bp,op+j*5,none⟩=some (.int .i64 p.place)∧w'.cell? ⟨bp,op+j*5+1,none⟩=some (.slice p.aN p.nN p.cN)∧w'.cell? ⟨bp,op+j*5+2,none⟩=some (.string p.node)∧w'.cell? ⟨bp,op+j*5+3,none⟩=some (.slice p.aS p.nS p.cS)∧w'.cell? ⟨bp,op+j*5+4,none⟩=some (.slice p.aE p.nE p.cE)∧w'.cell? ⟨bq,oq+j*5,none⟩=some (.int .i64 q.place)∧w'.cell? ⟨bq,oq+j*5+1,none⟩=some (.slice q.aN q.nN q.cN)∧w'.cell? ⟨bq,oq+j*5+2,none⟩=some (.string q.node)∧w'.cell? ⟨bq,oq+j*5+3,none⟩=some (.slice q.aS q.nS q.cS)∧w'.cell? ⟨bq,oq+j*5+4,none⟩=some (.slice q.aE q.nE q.cE)) (go_keep) (fail)
             ·obtain ⟨V1,hV1⟩:=nmQ (((wr.alloc (.cells #[.int .i64 p.place,.slice p.aN p.nN p.cN,.string p.node,.slice p.aS p.nS p.cS,.slice p.aE p.nE p.cE] 49 (0,0))).alloc (.cells #[.int .i64 q.place,.slice q.aN q.nN q.cN,.string q.node,.slice q.aS q.nS q.cS,.slice q.aE q.nE q.cE] 49 (0,0))).drew)
              have KA:V1.heap[wr.heap.size]?=some (.cells #[.int .i64 p.place,.slice p.aN p.nN p.cN,.string p.node,.slice p.aS p.nS p.cS,.slice p.aE p.nE p.cE] 49 (0,0)):=(by rw [hV1];exact kA (heap_new wr (.cells #[.int .i64 p.place,.slice p.aN p.nN p.cN,.string p.node,.slice p.aS p.nS p.cS,.slice p.aE p.nE p.cE] 49 (0,0))) _);have KB:V1.heap[wr.heap.size+1]?=some (.cells #[.int .i64 q.place,.slice q.aN q.nN q.cN,.string q.node,.slice q.aS q.nS q.cS,.slice q.aE q.nE q.cE] 49 (0,0)):=by
               have:=heap_new (wr.alloc (.cells #[.int .i64 p.place,.slice p.aN p.nN p.cN,.string p.node,.slice p.aS p.nS p.cS,.slice p.aE p.nE p.cE] 49 (0,0))) (.cells #[.int .i64 q.place,.slice q.aN q.nN q.cN,.string q.node,.slice q.aS q.nS q.cS,.slice q.aE q.nE q.cE] 49 (0,0));have e:(wr.alloc (.cells #[.int .i64 p.place,.slice p.aN p.nN p.cN,.string p.node,.slice p.aS p.nS p.cS,.slice p.aE p.nE p.cE] 49 (0,0))).heap.size=wr.heap.size+1:=(by simp);rw [e] at this;rw [hV1];exact this
              have c1:Below wr.heap.size wr V1:=(by rw [hV1];exact (((Below.refl _ wr).alloc nR _).alloc (by simp) _).drew);have T1:Below W1.heap.size W1 V1:=hbk.trans (c1.mono hbk.size);have T0:Below w.heap.size w V1:=U0.trans (T1.mono U0.size);have T:∀ q,Below w.heap.size w (V1.drewN q):=fun q=>⟨T0.os,T0.tape,T0.output,T0.size,T0.block⟩;rw [←hV1];clear hV1;have ND:Hid (seq l[i].eqs[j].node l[i].eqs[j].node=(p.node.toList==q.node.toList)):=(by show _=_;rw [hp.node,hq'.node];rfl);have KP:=KA;have KQ:=KB;clear KA KB c1;have pp0:=co KP 0;have qq0:=co KQ 0;have pp1:=co KP 1;have qq1:=co KQ 1;have pp2:=co KP 2;have qq2:=co KQ 2;have pp3:=co KP 3;have qq3:=co KQ 3;have pp4:=co KP 4;have qq4:=co KQ 4;simp at pp0 qq0 pp1 pp2 pp3 pp4 qq1 qq2 qq3 qq4;have gpf:(p.place != q.place)=false:=(by rw [hp.place,hq'.place];simp);have g0:(p.node.toList==q.node.toList)=true:=(by rw [hp.node,hq'.node];simp)
              ·go_wp2_with fail
               refine (refNames_any (hp.names.under T0) (hq'.names.under T0)).mono ?_;rintro e w2 ⟨rfl,d1,rfl⟩;have g1:eqL seq l[i].eqs[j].names l[i].eqs[j].names=true:=eqL_refl _ (fun x _=>seq_refl x);rw [g1]
               ·go_wp2_with fail
                refine (refSizes_any (hp.S.under (T _)) (hq'.S.under (T _))).mono ?_;rintro e w2 ⟨rfl,d2,rfl⟩;have g2:eqL (eqL teq) l[i].eqs[j].S l[i].eqs[j].S=true:=szeq_refl _;rw [g2]
                ·go_wp2_with fail
                 refine (refExprs_any (hp.E.under (T _)) (hq'.E.under (T _))).mono ?_;rintro e w2 ⟨rfl,d3,rfl⟩;have g3:eqL xeq l[i].eqs[j].E l[i].eqs[j].E=true:=eqL_refl _ (fun x _=>xeq_refl x);rw [g3]
                 ·as_aux_lemma=>
                   go_wp2;go_roundg (x.n6-(j+1))
                   case measure=>omega
                   case rel=>
                    refine ⟨j+1,by omega,rfl,by go_num,fun t ht ht' htj=>?_,⟨T1.os,T1.tape,T1.output,T1.size,T1.block⟩⟩;by_cases e:t=j
                    ·subst e
                     simp [qeq,ND.out,g0,g1,g2,g3]
                    ·exact G.out t ht ht' (by omega)
             ·obtain ⟨V1,hV1⟩:=nmQ (((wr.alloc (.cells #[.int .i64 q.place,.slice q.aN q.nN q.cN,.string q.node,.slice q.aS q.nS q.cS,.slice q.aE q.nE q.cE] 49 (0,0))).alloc (.cells #[.int .i64 p.place,.slice p.aN p.nN p.cN,.string p.node,.slice p.aS p.nS p.cS,.slice p.aE p.nE p.cE] 49 (0,0))).drew)
              have KA:V1.heap[wr.heap.size]?=some (.cells #[.int .i64 q.place,.slice q.aN q.nN q.cN,.string q.node,.slice q.aS q.nS q.cS,.slice q.aE q.nE q.cE] 49 (0,0)):=(by rw [hV1];exact kA (heap_new wr (.cells #[.int .i64 q.place,.slice q.aN q.nN q.cN,.string q.node,.slice q.aS q.nS q.cS,.slice q.aE q.nE q.cE] 49 (0,0))) _);have KB:V1.heap[wr.heap.size+1]?=some (.cells #[.int .i64 p.place,.slice p.aN p.nN p.cN,.string p.node,.slice p.aS p.nS p.cS,.slice p.aE p.nE p.cE] 49 (0,0)):=by
               have:=heap_new (wr.alloc (.cells #[.int .i64 q.place,.slice q.aN q.nN q.cN,.string q.node,.slice q.aS q.nS q.cS,.slice q.aE q.nE q.cE] 49 (0,0))) (.cells #[.int .i64 p.place,.slice p.aN p.nN p.cN,.string p.node,.slice p.aS p.nS p.cS,.slice p.aE p.nE p.cE] 49 (0,0));have e:(wr.alloc (.cells #[.int .i64 q.place,.slice q.aN q.nN q.cN,.string q.node,.slice q.aS q.nS q.cS,.slice q.aE q.nE q.cE] 49 (0,0))).heap.size=wr.heap.size+1:=(by simp);rw [e] at this;rw [hV1];exact this
              have c1:Below wr.heap.size wr V1:=(by rw [hV1];exact (((Below.refl _ wr).alloc nR _).alloc (by simp) _).drew);have T1:Below W1.heap.size W1 V1:=hbk.trans (c1.mono hbk.size);have T0:Below w.heap.size w V1:=U0.trans (T1.mono U0.size);have T:∀ q,Below w.heap.size w (V1.drewN q):=fun q=>⟨T0.os,T0.tape,T0.output,T0.size,T0.block⟩;rw [←hV1];clear hV1;have ND:Hid (seq l[i].eqs[j].node l[i].eqs[j].node=(p.node.toList==q.node.toList)):=(by show _=_;rw [hp.node,hq'.node];rfl);have KP:=KB;have KQ:=KA;clear KA KB c1;have pp0:=co KP 0;have qq0:=co KQ 0;have pp1:=co KP 1;have qq1:=co KQ 1;have pp2:=co KP 2;have qq2:=co KQ 2;have pp3:=co KP 3;have qq3:=co KQ 3;have pp4:=co KP 4;have qq4:=co KQ 4;simp at pp0 qq0 pp1 pp2 pp3 pp4 qq1 qq2 qq3 qq4;have gpf:(p.place != q.place)=false:=(by rw [hp.place,hq'.place];simp);have g0:(p.node.toList==q.node.toList)=true:=(by rw [hp.node,hq'.node];simp)
              ·go_wp2_with fail
               refine (refNames_any (hp.names.under T0) (hq'.names.under T0)).mono ?_;rintro e w2 ⟨rfl,d1,rfl⟩;have g1:eqL seq l[i].eqs[j].names l[i].eqs[j].names=true:=eqL_refl _ (fun x _=>seq_refl x);rw [g1]
               ·go_wp2_with fail
                refine (refSizes_any (hp.S.under (T _)) (hq'.S.under (T _))).mono ?_;rintro e w2 ⟨rfl,d2,rfl⟩;have g2:eqL (eqL teq) l[i].eqs[j].S l[i].eqs[j].S=true:=szeq_refl _;rw [g2]
                ·go_wp2_with fail
                 refine (refExprs_any (hp.E.under (T _)) (hq'.E.under (T _))).mono ?_;rintro e w2 ⟨rfl,d3,rfl⟩;have g3:eqL xeq l[i].eqs[j].E l[i].eqs[j].E=true:=eqL_refl _ (fun x _=>xeq_refl x);rw [g3]
                 ·as_aux_lemma=>
                   go_wp2;go_roundg (x.n6-(j+1))
                   case measure=>omega
                   case rel=>
                    refine ⟨j+1,by omega,rfl,by go_num,fun t ht ht' htj=>?_,⟨T1.os,T1.tape,T1.output,T1.size,T1.block⟩⟩;by_cases e:t=j
                    ·subst e
                     simp [qeq,ND.out,g0,g1,g2,g3]
                    ·exact G.out t ht ht' (by omega)
            ·have hje:j=x.n6:=by omega
             subst hje;have h6:eqL qeq l[i].eqs l[i].eqs=true:=eqL_all rfl (fun t ht ht'=>G.out t ht ht' (by rw [HU.out];exact ht));have hNE:Hid (neq l[i] l[i]=true):=(by show _=_;simp [neq,NM.out,h0,h1,h2,h3,h4,h6]);clear qat rat h6
             as_aux_lemma=>
              go_wp2;go_roundg (n-(i+1))
              case measure=>omega
              case rel=>
               refine ⟨i+1,by omega,rfl,by go_num,fun t ht ht' hti=>?_,hbr.trans ((b1.trans (hbk.mono b1.size)).mono hbr.size)⟩;by_cases e:t=i
               ·subst e
                exact hNE.out
               ·exact H.out t ht ht' (by omega)
          ·exact absurd (by rw [HU.out,HV.out]) h5
    ·obtain ⟨W1,hW1⟩:=nmQ (((wo.alloc (.cells #[.string y.name,.int .i64 y.place,.slice y.a2 y.n2 y.c2,.slice y.a3 y.n3 y.c3,.slice y.a4 y.n4 y.c4,.slice y.a5 y.n5 y.c5,.slice y.a6 y.n6 y.c6] 43 (0,0))).alloc (.cells #[.string x.name,.int .i64 x.place,.slice x.a2 x.n2 x.c2,.slice x.a3 x.n3 x.c3,.slice x.a4 x.n4 x.c4,.slice x.a5 x.n5 x.c5,.slice x.a6 x.n6 x.c6] 43 (0,0))).drew);have KA:W1.heap[wo.heap.size]?=some (.cells #[.string y.name,.int .i64 y.place,.slice y.a2 y.n2 y.c2,.slice y.a3 y.n3 y.c3,.slice y.a4 y.n4 y.c4,.slice y.a5 y.n5 y.c5,.slice y.a6 y.n6 y.c6] 43 (0,0)):=(by rw [hW1];exact kA (heap_new wo (.cells #[.string y.name,.int .i64 y.place,.slice y.a2 y.n2 y.c2,.slice y.a3 y.n3 y.c3,.slice y.a4 y.n4 y.c4,.slice y.a5 y.n5 y.c5,.slice y.a6 y.n6 y.c6] 43 (0,0))) _);have KB:W1.heap[wo.heap.size+1]?=some (.cells #[.string x.name,.int .i64 x.place,.slice x.a2 x.n2 x.c2,.slice x.a3 x.n3 x.c3,.slice x.a4 x.n4 x.c4,.slice x.a5 x.n5 x.c5,.slice x.a6 x.n6 x.c6] 43 (0,0)):=by
      have:=heap_new (wo.alloc (.cells #[.string y.name,.int .i64 y.place,.slice y.a2 y.n2 y.c2,.slice y.a3 y.n3 y.c3,.slice y.a4 y.n4 y.c4,.slice y.a5 y.n5 y.c5,.slice y.a6 y.n6 y.c6] 43 (0,0))) (.cells #[.string x.name,.int .i64 x.place,.slice x.a2 x.n2 x.c2,.slice x.a3 x.n3 x.c3,.slice x.a4 x.n4 x.c4,.slice x.a5 x.n5 x.c5,.slice x.a6 x.n6 x.c6] 43 (0,0));have e:(wo.alloc (.cells #[.string y.name,.int .i64 y.place,.slice y.a2 y.n2 y.c2,.slice y.a3 y.n3 y.c3,.slice y.a4 y.n4 y.c4,.slice y.a5 y.n5 y.c5,.slice y.a6 y.n6 y.c6] 43 (0,0))).heap.size=wo.heap.size+1:=(by simp);rw [e] at this;rw [hW1];exact this
     have b1:Below wo.heap.size wo W1:=(by rw [hW1];exact (((Below.refl _ wo).alloc nR _).alloc (by simp) _).drew);have U0:Below w.heap.size w W1:=hbw.trans (b1.mono hbw.size);have U:∀ q,Below w.heap.size w (W1.drewN q):=fun q=>⟨U0.os,U0.tape,U0.output,U0.size,U0.block⟩;rw [←hW1];clear hW1;have KX:=KB;have KY:=KA;have NM:Hid (seq l[i].name l[i].name=(x.name.toList==y.name.toList)):=(by show _=_;rw [hx.name,hy.name];rfl);clear KA KB;have xx0:=co KX 0;have xx1:=co KX 1;have yy1:=co KY 1;have yy0:=co KY 0;have xx2:=co KX 2;have yy2:=co KY 2;have xx3:=co KX 3;have yy3:=co KY 3;have xx4:=co KX 4;have yy4:=co KY 4;have xx5:=co KX 5;have yy5:=co KY 5;have xx6:=co KX 6;have yy6:=co KY 6;simp at xx0 yy0 xx1 yy1 xx2 yy2 xx3 yy3 xx4 yy4 xx5 yy5 xx6 yy6;have hpf:(x.place != y.place)=false:=(by rw [hx.place,hy.place];simp);have h0:(x.name.toList==y.name.toList)=true:=(by rw [hx.name,hy.name];simp)
     ·go_wp2_with fail
      refine (refNames_any (hx.sizes.under U0) (hy.sizes.under U0)).mono ?_;rintro e w2 ⟨rfl,m1,rfl⟩;have h1:eqL seq l[i].sizes l[i].sizes=true:=eqL_refl _ (fun x _=>seq_refl x);rw [h1]
      ·go_wp2_with fail
       refine (refDecls_any (hx.inn.under (U _)) (hy.inn.under (U _))).mono ?_;rintro e w2 ⟨rfl,m2,rfl⟩;have h2:eqL deq l[i].inn l[i].inn=true:=eqL_refl _ (fun x _=>deq_refl x);rw [h2]
       ·go_wp2_with fail
        refine (refDecls_any (hx.out.under (U _)) (hy.out.under (U _))).mono ?_;rintro e w2 ⟨rfl,m3,rfl⟩;have h3:eqL deq l[i].out l[i].out=true:=eqL_refl _ (fun x _=>deq_refl x);rw [h3]
        ·go_wp2_with fail
         refine (refDecls_any (hx.loc.under (U _)) (hy.loc.under (U _))).mono ?_;rintro e w2 ⟨rfl,m4,rfl⟩;have h4:eqL deq l[i].loc l[i].loc=true:=eqL_refl _ (fun x _=>deq_refl x);rw [h4]
         ·
          obtain ⟨qa,qc,qv,qe1,qe2,qat⟩:=hx.eqs.at;obtain ⟨ra,rc,rv,re1,re2,rat⟩:=hy.eqs.at;injection qv with u1 u2 u3;injection rv with v1 v2 v3;rw [←u1] at qat;rw [←v1] at rat;have HU:=hide u2;have HV:=hide v2;rw [←u2,←u3] at qe1;rw [←u3] at qe2;rw [←v2,←v3] at re1;rw [←v3] at re2;unfold maxLen at qe2 re2;clear u1 u2 u3 v1 v2 v3;by_cases h5:x.n6=y.n6
          ·have h5f:((x.n6:Int) != (y.n6:Int))=false:=by simp [h5]
           have H5:=hide h5;clear h5;have zk1:=lt_of KX;have zk2:=lt_of KY;go_wp2;go_loopg [10] x.n6 (fun k v wk=>∃ j,j≤x.n6∧k=x.n6-j∧v=.int .i64 (j:Nat)∧Hid (∀ t (h:t<l[i].eqs.length) (h':t<l[i].eqs.length),t<j→qeq l[i].eqs[t] l[i].eqs[t]=true)∧Below W1.heap.size W1 wk)
           case atStart=>exact ⟨0,Nat.zero_le _,rfl,rfl,fun t _ _ h=>absurd h (Nat.not_lt_zero _),⟨rfl,rfl,rfl,Nat.le_refl _,fun _ _=>rfl⟩⟩
           case round=>
            obtain ⟨j,hj,rfl,rfl,G,hbk⟩:=hrel;have pk:=(hbk.cell (p:=⟨wo.heap.size+1,6,none⟩) zk1).trans xx6;have qk:=(hbk.cell (p:=⟨wo.heap.size,6,none⟩) zk2).trans yy6;have zk:=hbk.size;clear xx1 yy1 xx0 xx2 xx3 xx4 xx5 xx6 yy0 yy2 yy3 yy4 yy5 yy6 c0 c1 c2 c3 c4 c5 c6 d0 d1 d2 d3 d4 d5 d6 pr qr;by_cases hjt:j<x.n6
            ·have hjl:j<l[i].eqs.length:=by have:=HU.out;omega
             have hjr:j<l[i].eqs.length:=(by have:=HV.out;have:=H5.out;omega);have hjt2:j<y.n6:=(by have:=H5.out;omega);obtain ⟨bp,op,p,xe,hbp,hpa,hp⟩:=qat j hjl;obtain ⟨bq,oq,q,ye,hbq,hqa,hq'⟩:=rat j hjr;have Bk:Below w.heap.size w wr:=U0.trans (hbk.mono U0.size);rw [xe] at pk;rw [ye] at qk;obtain ⟨s0,s1,s2,s3,s4⟩:=hpa.keep (Bk.block bp hbp);obtain ⟨t0,t1,t2,t3,t4⟩:=hqa.keep (Bk.block bq hbq);have hz1:bp<wr.heap.size:=Nat.lt_of_lt_of_le hbp Bk.size;have hz2:bq<wr.heap.size:=Nat.lt_of_lt_of_le hbq Bk.size;have hz3:wo.heap.size+1<wr.heap.size:=Nat.lt_of_lt_of_le zk1 zk;have hz4:wo.heap.size<wr.heap.size:=Nat.lt_of_lt_of_le zk2 zk;clear xe ye hpa hqa qat rat;go_wp2
             go_region_held3 (fun w'=>w'.cell? ⟨wo.heap.size+1,6,none⟩=some (.slice (some ⟨bp,op,none⟩) x.n6 x.c6)∧w'.cell? ⟨wo.heap.size,6,none⟩=some (.slice (some ⟨bq,oq,none⟩) y.n6 y.c6)∧w'.cell? ⟨bp,op+j*5,none⟩=some (.int .i64 p.place)∧w'.cell? ⟨bp,op+j*5+1,none⟩=some (.slice p.aN p.nN p.cN)∧w'.cell? ⟨bp,op+j*5+2,none⟩=some (.string p.node)∧w'.cell? ⟨bp,op+j*5+3,none⟩=some (.slice p.aS p.nS p.cS)∧w'.cell? ⟨bp,op+j*5+4,none⟩=some (.slice p.aE p.nE p.cE)∧w'.cell? ⟨bq,oq+j*5,none⟩=some (.int .i64 q.place)∧w'.cell? ⟨bq,oq+j*5+1,none⟩=some (.slice q.aN q.nN q.cN)∧w'.cell? ⟨bq,oq+j*5+2,none⟩=some (.string q.node)∧w'.cell? ⟨bq,oq+j*5+3,none⟩=some (.slice q.aS q.nS q.cS)∧w'.cell? ⟨bq,oq+j*5+4,none⟩=some (.slice q.aE q.nE q.cE)) (go_keep) (fail)
             ·obtain ⟨V1,hV1⟩:=nmQ (((wr.alloc (.cells #[.int .i64 p.place,.slice p.aN p.nN p.cN,.string p.node,.slice p.aS p.nS p.cS,.slice p.aE p.nE p.cE] 49 (0,0))).alloc (.cells #[.int .i64 q.place,.slice q.aN q.nN q.cN,.string q.node,.slice q.aS q.nS q.cS,.slice q.aE q.nE q.cE] 49 (0,0))).drew)
              have KA:V1.heap[wr.heap.size]?=some (.cells #[.int .i64 p.place,.slice p.aN p.nN p.cN,.string p.node,.slice p.aS p.nS p.cS,.slice p.aE p.nE p.cE] 49 (0,0)):=(by rw [hV1];exact kA (heap_new wr (.cells #[.int .i64 p.place,.slice p.aN p.nN p.cN,.string p.node,.slice p.aS p.nS p.cS,.slice p.aE p.nE p.cE] 49 (0,0))) _);have KB:V1.heap[wr.heap.size+1]?=some (.cells #[.int .i64 q.place,.slice q.aN q.nN q.cN,.string q.node,.slice q.aS q.nS q.cS,.slice q.aE q.nE q.cE] 49 (0,0)):=by
               have:=heap_new (wr.alloc (.cells #[.int .i64 p.place,.slice p.aN p.nN p.cN,.string p.node,.slice p.aS p.nS p.cS,.slice p.aE p.nE p.cE] 49 (0,0))) (.cells #[.int .i64 q.place,.slice q.aN q.nN q.cN,.string q.node,.slice q.aS q.nS q.cS,.slice q.aE q.nE q.cE] 49 (0,0));have e:(wr.alloc (.cells #[.int .i64 p.place,.slice p.aN p.nN p.cN,.string p.node,.slice p.aS p.nS p.cS,.slice p.aE p.nE p.cE] 49 (0,0))).heap.size=wr.heap.size+1:=(by simp);rw [e] at this;rw [hV1];exact this
              have c1:Below wr.heap.size wr V1:=(by rw [hV1];exact (((Below.refl _ wr).alloc nR _).alloc (by simp) _).drew);have T1:Below W1.heap.size W1 V1:=hbk.trans (c1.mono hbk.size);have T0:Below w.heap.size w V1:=U0.trans (T1.mono U0.size);have T:∀ q,Below w.heap.size w (V1.drewN q):=fun q=>⟨T0.os,T0.tape,T0.output,T0.size,T0.block⟩;rw [←hV1];clear hV1;have ND:Hid (seq l[i].eqs[j].node l[i].eqs[j].node=(p.node.toList==q.node.toList)):=(by show _=_;rw [hp.node,hq'.node];rfl);have KP:=KA;have KQ:=KB;clear KA KB c1;have pp0:=co KP 0;have qq0:=co KQ 0;have pp1:=co KP 1;have qq1:=co KQ 1;have pp2:=co KP 2;have qq2:=co KQ 2;have pp3:=co KP 3;have qq3:=co KQ 3;have pp4:=co KP 4;have qq4:=co KQ 4;simp at pp0 qq0 pp1 pp2 pp3 pp4 qq1 qq2 qq3 qq4;have gpf:(p.place != q.place)=false:=(by rw [hp.place,hq'.place];simp);have g0:(p.node.toList==q.node.toList)=true:=(by rw [hp.node,hq'.node];simp)
              ·go_wp2_with fail
               refine (refNames_any (hp.names.under T0) (hq'.names.under T0)).mono ?_;rintro e w2 ⟨rfl,d1,rfl⟩;have g1:eqL seq l[i].eqs[j].names l[i].eqs[j].names=true:=eqL_refl _ (fun x _=>seq_refl x);rw [g1]
               ·go_wp2_with fail
                refine (refSizes_any (hp.S.under (T _)) (hq'.S.under (T _))).mono ?_;rintro e w2 ⟨rfl,d2,rfl⟩;have g2:eqL (eqL teq) l[i].eqs[j].S l[i].eqs[j].S=true:=szeq_refl _;rw [g2]
                ·go_wp2_with fail
                 refine (refExprs_any (hp.E.under (T _)) (hq'.E.under (T _))).mono ?_;rintro e w2 ⟨rfl,d3,rfl⟩;have g3:eqL xeq l[i].eqs[j].E l[i].eqs[j].E=true:=eqL_refl _ (fun x _=>xeq_refl x);rw [g3]
                 ·as_aux_lemma=>
                   go_wp2;go_roundg (x.n6-(j+1))
                   case measure=>omega
                   case rel=>
                    refine ⟨j+1,by omega,rfl,by go_num,fun t ht ht' htj=>?_,⟨T1.os,T1.tape,T1.output,T1.size,T1.block⟩⟩;by_cases e:t=j
                    ·subst e
                     simp [qeq,ND.out,g0,g1,g2,g3]
                    ·exact G.out t ht ht' (by omega)
             ·obtain ⟨V1,hV1⟩:=nmQ (((wr.alloc (.cells #[.int .i64 q.place,.slice q.aN q.nN q.cN,.string q.node,.slice q.aS q.nS q.cS,.slice q.aE q.nE q.cE] 49 (0,0))).alloc (.cells #[.int .i64 p.place,.slice p.aN p.nN p.cN,.string p.node,.slice p.aS p.nS p.cS,.slice p.aE p.nE p.cE] 49 (0,0))).drew)
              have KA:V1.heap[wr.heap.size]?=some (.cells #[.int .i64 q.place,.slice q.aN q.nN q.cN,.string q.node,.slice q.aS q.nS q.cS,.slice q.aE q.nE q.cE] 49 (0,0)):=(by rw [hV1];exact kA (heap_new wr (.cells #[.int .i64 q.place,.slice q.aN q.nN q.cN,.string q.node,.slice q.aS q.nS q.cS,.slice q.aE q.nE q.cE] 49 (0,0))) _);have KB:V1.heap[wr.heap.size+1]?=some (.cells #[.int .i64 p.place,.slice p.aN p.nN p.cN,.string p.node,.slice p.aS p.nS p.cS,.slice p.aE p.nE p.cE] 49 (0,0)):=by
               have:=heap_new (wr.alloc (.cells #[.int .i64 q.place,.slice q.aN q.nN q.cN,.string q.node,.slice q.aS q.nS q.cS,.slice q.aE q.nE q.cE] 49 (0,0))) (.cells #[.int .i64 p.place,.slice p.aN p.nN p.cN,.string p.node,.slice p.aS p.nS p.cS,.slice p.aE p.nE p.cE] 49 (0,0));have e:(wr.alloc (.cells #[.int .i64 q.place,.slice q.aN q.nN q.cN,.string q.node,.slice q.aS q.nS q.cS,.slice q.aE q.nE q.cE] 49 (0,0))).heap.size=wr.heap.size+1:=(by simp);rw [e] at this;rw [hV1];exact this
              have c1:Below wr.heap.size wr V1:=(by rw [hV1];exact (((Below.refl _ wr).alloc nR _).alloc (by simp) _).drew);have T1:Below W1.heap.size W1 V1:=hbk.trans (c1.mono hbk.size);have T0:Below w.heap.size w V1:=U0.trans (T1.mono U0.size);have T:∀ q,Below w.heap.size w (V1.drewN q):=fun q=>⟨T0.os,T0.tape,T0.output,T0.size,T0.block⟩;rw [←hV1];clear hV1;have ND:Hid (seq l[i].eqs[j].node l[i].eqs[j].node=(p.node.toList==q.node.toList)):=(by show _=_;rw [hp.node,hq'.node];rfl);have KP:=KB;have KQ:=KA;clear KA KB c1;have pp0:=co KP 0;have qq0:=co KQ 0;have pp1:=co KP 1;have qq1:=co KQ 1;have pp2:=co KP 2;have qq2:=co KQ 2;have pp3:=co KP 3;have qq3:=co KQ 3;have pp4:=co KP 4;have qq4:=co KQ 4;simp at pp0 qq0 pp1 pp2 pp3 pp4 qq1 qq2 qq3 qq4;have gpf:(p.place != q.place)=false:=(by rw [hp.place,hq'.place];simp);have g0:(p.node.toList==q.node.toList)=true:=(by rw [hp.node,hq'.node];simp)
              ·go_wp2_with fail
               refine (refNames_any (hp.names.under T0) (hq'.names.under T0)).mono ?_;rintro e w2 ⟨rfl,d1,rfl⟩;have g1:eqL seq l[i].eqs[j].names l[i].eqs[j].names=true:=eqL_refl _ (fun x _=>seq_refl x);rw [g1]
               ·go_wp2_with fail
                refine (refSizes_any (hp.S.under (T _)) (hq'.S.under (T _))).mono ?_;rintro e w2 ⟨rfl,d2,rfl⟩;have g2:eqL (eqL teq) l[i].eqs[j].S l[i].eqs[j].S=true:=szeq_refl _;rw [g2]
                ·go_wp2_with fail
                 refine (refExprs_any (hp.E.under (T _)) (hq'.E.under (T _))).mono ?_;rintro e w2 ⟨rfl,d3,rfl⟩;have g3:eqL xeq l[i].eqs[j].E l[i].eqs[j].E=true:=eqL_refl _ (fun x _=>xeq_refl x);rw [g3]
                 ·as_aux_lemma=>
                   go_wp2;go_roundg (x.n6-(j+1))
                   case measure=>omega
                   case rel=>
                    refine ⟨j+1,by omega,rfl,by go_num,fun t ht ht' htj=>?_,⟨T1.os,T1.tape,T1.output,T1.size,T1.block⟩⟩;by_cases e:t=j
                    ·subst e
                     simp [qeq,ND.out,g0,g1,g2,g3]
                    ·exact G.out t ht ht' (by omega)
            ·have hje:j=x.n6:=by omega
             subst hje;have h6:eqL qeq l[i].eqs l[i].eqs=true:=eqL_all rfl (fun t ht ht'=>G.out t ht ht' (by rw [HU.out];exact ht));have hNE:Hid (neq l[i] l[i]=true):=(by show _=_;simp [neq,NM.out,h0,h1,h2,h3,h4,h6]);clear qat rat h6
             as_aux_lemma=>
              go_wp2;go_roundg (n-(i+1))
              case measure=>omega
              case rel=>
               refine ⟨i+1,by omega,rfl,by go_num,fun t ht ht' hti=>?_,hbr.trans ((b1.trans (hbk.mono b1.size)).mono hbr.size)⟩;by_cases e:t=i
               ·subst e
                exact hNE.out
               ·exact H.out t ht ht' (by omega)
          ·exact absurd (by rw [HU.out,HV.out]) h5
   ·have hie:i=n:=by omega
    subst hie;clear hat hat';go_wp2;go_ret;exact ⟨rfl,hbw⟩
 ·exact absurd (by rw [HN.out,HM.out]) hlen
theorem prints_walk {ok:Nat→Prop} {w:World} {ao:Option Addr} {n cap:Nat} {l:List Nd} (hl:HNds ok w (.slice ao n cap) l) (hM:FitP l) (hT:GlobT w) (hg:Gl (fun i=>i<w.heap.size) w) :
  Calls Tryz.prog 4 #[.agg #[.slice ao n cap]] w fun e w'=>e=.returned (.bool true)∧Below w.heap.size w w':=by
 have bA:Below w.heap.size w (w.alloc (.cells #[.slice ao n cap] 24 (0,0))):=(Below.refl _ _).alloc nR _;have kA:=heap_new w (.cells #[.slice ao n cap] 24 (0,0));go_enter Tryz.func4,Tryz.ntmps4;go_upto_region 1 with fail;generalize (w.alloc (.cells #[.slice ao n cap] 24 (0,0)))=W at bA kA ⊢;have hb:=begun_any W (hT.under bA) (hg.under bA);go_wp2_with fail;refine hb.mono ?_;rintro e w1 ⟨rfl,b1⟩;clear hb;have B1:=bA.trans (b1.mono bA.size);have k1:=(b1.block _ (lt_of kA)).trans kA;have p1:=co k1 0;simp at p1;have hgr:=great_small (hl.under B1) hM;go_wp2_with fail;refine hgr.mono ?_;rintro e w2 ⟨⟨y,rfl,hy⟩,b2⟩;clear hgr p1;have B2:=B1.trans (b2.mono B1.size);have k2:=(b2.block _ (lt_of k1)).trans k1
 cases y
 case true=>
  clear hy;go_wp2;go_ret;exact ⟨rfl,B2⟩
 case false=>
  have hs:=hy rfl;have hF:=nsF_of hs;have hP:=parts_of hs;clear hy hs;have p2:=co k2 0;simp at p2;go_wp2_with fail;refine (copyProgram_any (hl.under B2) hM).mono ?_;rintro e w3 ⟨a3,m3,c3,rfl,h3,b3⟩;clear p2;have B3:=B2.trans (b3.mono B2.size);have k3:=(b3.block _ (lt_of k2)).trans k2;go_upto_region 6 with fail;obtain ⟨w4,hw4⟩:=nmQ (w3.alloc (.cells #[.slice a3 m3 c3] 24 (0,0)));have b4:=newB hw4;have j4:=newK hw4;rw [←hw4];clear hw4;have B4:=B3.trans (b4.mono B3.size);have k4:=(b4.block _ (lt_of k3)).trans k3;have h4:=h3.under b4;have p4:=co j4 0;simp at p4;go_wp2_with fail;refine (print_any h4 (hg.under B4) hF).mono ?_;rintro e w5 ⟨rfl,b5⟩;clear p4;have B5:=B4.trans (b5.mono B4.size);have k5:=(b5.block _ (lt_of k4)).trans k4;have j5:=(b5.block _ (lt_of j4)).trans j4;have h5:=h4.under b5;have HT:Hid (∀ V,Below w.heap.size w V→(Tx.printC l).1=0→Calls Tryz.prog 15 #[.agg #[.slice ao n cap]] V fun e w'=>e=.returned (.string (Tx.printT l))∧Below V.heap.size V w'):=hide (fun V b hz=>by
   have h0:(Rn.nodesC l).1=0:=by
    unfold Tx.printC at hz
    split at hz
    ·rename_i hn;exact absurd hz hn
    ·rename_i hn;exact Decidable.of_not_not hn
   have hok2:∀ m ∈ l,okN2 m:=by
    unfold Rn.nodesC at h0
    split at h0
    ·cases h0
    ·split at h0
     ·cases h0
     ·exact goN_none2 h0
   have:=text_any (hl.under b) ((hg.under b).t) hok2 (Tx.fit_prog h0);have e:Tx.printT l=Tx.cat (Tx.progP l):=(by unfold Tx.printT;rw [if_neg (fun h=>h hz)]);rw [e];exact this)
  have HE:Hid ((Tx.printC l).1≠0→Tx.printT l=⟨#[]⟩):=hide (fun h=>by unfold Tx.printT;rw [if_pos h];rfl);have HF:Hid (∀ V,Below w.heap.size w V→Calls Tryz.prog 12 #[.agg #[.slice ao n cap]] V fun e w'=>e=.returned (.agg #[.int .i64 (Tx.printC l).1,.int .i64 (Tx.printC l).2])∧Below V.heap.size V w'):=hide (fun V b=>renderFault_any (hl.under b) ((hg.under b).t) hF hP (fun h=>Tx.fit_prog h));generalize Tx.printT l=T at HT HE ⊢;generalize Tx.printC l=C at HT HE HF ⊢;obtain ⟨cd,ca⟩:=C
  dsimp only at HT HE HF ⊢
  go_upto_region 7 with fail;obtain ⟨w6,hw6⟩:=nmQ (w5.alloc (.cells #[.int .i64 cd,.int .i64 ca] 28 (0,0)));have b6:=newB hw6;have i6:=newK hw6;rw [←hw6];clear hw6;have B6:=B5.trans (b6.mono B5.size);have k6:=(b6.block _ (lt_of k5)).trans k5;have j6:=(b6.block _ (lt_of j5)).trans j5;have h6:=h5.under b6;have p6:=co k6 0;simp at p6;go_wp2_with fail;refine (HF.out w6 B6).mono ?_;rintro e w7 ⟨rfl,b7⟩;clear p6 HF;have B7:=B6.trans (b7.mono B6.size);have k7:=(b7.block _ (lt_of k6)).trans k6;have j7:=(b7.block _ (lt_of j6)).trans j6;have i7:=(b7.block _ (lt_of i6)).trans i6;have h7:=h6.under b7;go_upto_region 8 with fail;obtain ⟨w8,hw8⟩:=nmQ (w7.alloc (.cells #[.int .i64 cd,.int .i64 ca] 28 (0,0)));have b8:=newB hw8;have q8:=newK hw8;rw [←hw8];clear hw8;have B8:=B7.trans (b8.mono B7.size);have k8:=(b8.block _ (lt_of k7)).trans k7;have j8:=(b8.block _ (lt_of j7)).trans j7;have i8:=(b8.block _ (lt_of i7)).trans i7;have h8:=h7.under b8;have d0:=co i8 0;have d1:=co i8 1;have f0:=co q8 0;have f1:=co q8 1;have r0:=co k8 0;have s0:=co j8 0;simp at d0 d1 f0 f1 r0 s0;have hsame:=sameProgram_same h8 (hl.under B8);have g1:(cd != cd)=false:=(by simp);have g2:(ca != ca)=false:=(by simp);go_wp2_with fail;refine hsame.mono ?_;rintro e w9 ⟨rfl,b9⟩;clear hsame d0 d1 f0 f1 r0 s0;have B9:=B8.trans (b9.mono B8.size);have k9:=(b9.block _ (lt_of k8)).trans k8;have q9:=(b9.block _ (lt_of q8)).trans q8;have r0:=co k9 0;have f0:=co q9 0;simp at r0 f0;by_cases hz:cd=0
  ·have z1:(cd != 0)=false:=by simpa using hz
   have z2:(cd==0)=true:=(by simpa using hz);have ht:=HT.out w9 B9 hz;clear hz;go_wp2_with fail;refine ht.mono ?_;rintro e w10 ⟨rfl,b10⟩;have B10:=B9.trans (b10.mono B9.size);go_wp2
   all_goals go_ret
   all_goals refine ⟨ret_bool ?_,B10⟩
   all_goals simp
  ·have z1:(cd != 0)=true:=by simpa using hz
   have z2:(cd==0)=false:=(by simpa using hz);obtain rfl:=HE.out hz;clear hz;go_wp2
   all_goals go_ret
   all_goals refine ⟨ret_bool ?_,B9⟩
   all_goals rfl
end Go.Proofs.YtophfbefnaelfaaGreatDoor
