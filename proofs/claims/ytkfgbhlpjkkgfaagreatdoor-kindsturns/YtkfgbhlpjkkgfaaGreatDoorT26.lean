import Derived.Test.YtkfgbhlpjkkgfaaGreatDoorT06
import Derived.Deep.DeepCutAuto
set_option linter.unusedVariables false
set_option linter.unusedSimpArgs false
set_option maxHeartbeats 64000000
set_option maxRecDepth 100000
namespace Go.Proofs.YtkfgbhlpjkkgfaaGreatDoor
open Go.RowKit Go.IntWalk
theorem zEX {ok:Nat->Prop} {w:World} {ao:Option Addr} {n cap:Nat} {l:List Nd} (hl:HNds ok w (.slice ao n cap) l) (hM:FitP l) :
  Calls Tryz.prog 9 #[.agg #[.slice ao n cap]] w fun e w'=>∃ a m c,e=.returned (.agg #[.slice a m c])/\∃ D,w'.ownsRow w.heap.size 47 7 (.slice a m c) l.length (flat D l.length) /\
   (∀ j (h:j<l.length),∃ x:NdV,D j=x.cells/\HNd (Off w.heap.size (.slice a m c)) w' x l[j])/\Below w.heap.size w w':=by
 obtain ⟨q1,q2,hv,aC,av,ai⟩:=hl.at;injection hv with u1 u2 u3;have HN:=zAA u2;rw [<-u1] at ai;rw [<-u2,<-u3] at aC;rw [<-u3] at av;clear u1 u2 u3 hl;unfold maxLen at av;have HM:=zAA hM.2;have um:=hM.1;rw [<-HN.out] at um;clear hM;obtain ⟨i1,ut,gy,e7,jb⟩:=info_parts Tryz.infoEq;obtain ⟨i2,tW,iO,ie,om⟩:=info_parts Tryz.info47;obtain ⟨W,hW⟩:=nmQ (((w.alloc (.cells #[.slice ao n cap] 24 (0,0))).alloc (.cells #[.slice none 0 0] 24 (0,0))).alloc (.cells #[.slice none 0 0] 24 (0,0)));have zW:W.heap.size=w.heap.size+1+1+1:=(by rw [hW];simp);have bW:Below w.heap.size w W:=(by rw [hW];exact (((Below.refl _ w).alloc nR _).alloc (by simp) _).alloc (by simp;omega) _);have pW:W.heap[w.heap.size]?=some (.cells #[.slice ao n cap] 24 (0,0)):=(by rw [hW];exact kA (kA (zAC w _) _) _);have rW:W.heap[w.heap.size+1]?=some (.cells #[.slice none 0 0] 24 (0,0)):=by
  have:=zAC (w.alloc (.cells #[.slice ao n cap] 24 (0,0))) (.cells #[.slice none 0 0] 24 (0,0));have e:(w.alloc (.cells #[.slice ao n cap] 24 (0,0))).heap.size=w.heap.size+1:=(by simp);rw [e] at this;rw [hW];exact kA this _
 have oW:W.heap[w.heap.size+1+1]?=some (.cells #[.slice none 0 0] 24 (0,0)):=by
  have:=zAC ((w.alloc (.cells #[.slice ao n cap] 24 (0,0))).alloc (.cells #[.slice none 0 0] 24 (0,0))) (.cells #[.slice none 0 0] 24 (0,0));have e:((w.alloc (.cells #[.slice ao n cap] 24 (0,0))).alloc (.cells #[.slice none 0 0] 24 (0,0))).heap.size=w.heap.size+1+1:=(by simp);rw [e] at this;rw [hW];exact this
 go_enter Tryz.func9,Tryz.ntmps9;go_wp2;rw [<-hW];clear hW;go_loopg [4] n (fun k v wr=>∃ (i:Nat) (D:Nat->List Value) (v3:Value),i<=n/\k=n-i/\v=.int .i64 (i:Nat)/\wr.heap[w.heap.size]?=some (.cells #[.slice ao n cap] 24 (0,0))/\wr.heap[w.heap.size+1]?=some (.cells #[.slice none 0 0] 24 (0,0))/\wr.heap[w.heap.size+1+1]?=some (.cells #[v3] 24 (0,0)) /\
   wr.ownsRow W.heap.size 47 7 v3 i (flat D i)/\Hid (∀ j (h:j<l.length),j<i->∃ x:NdV,D j=x.cells/\HNd (Off W.heap.size v3) wr x l[j])/\Below w.heap.size w wr/\W.heap.size<=wr.heap.size)
 case atStart=>exact ⟨0,fun _=>[],.slice none 0 0,Nat.zero_le _,rfl,rfl,pW,rW,oW,World.ownsRow_nil _ _ _ _,fun j _ h=>absurd h (Nat.not_lt_zero _),bW,Nat.le_refl _⟩
 case round=>
  obtain ⟨i,D,v3,tJ,rfl,rfl,pr,rr,CI,ah,H,iV,zr⟩:=hrel;obtain ⟨wo,rY⟩:=nmQ (wr);subst rY;have IY:=co pr 0;simp at IY;by_cases ak:i<n
  ·have ap:i<l.length:=by have:=HN.out;omega
   obtain ⟨b,o,x,rfl,hb,qB,hx⟩:=ai i ap;obtain ⟨d0,d1,d2,d3,d4,d5,d6⟩:=qB.keep (iV.block b hb);obtain ⟨g0,g1,s2,s3,s4,s5,s6⟩:=hx.under iV;obtain ⟨f2,f3,f4,f5,f6,f7⟩:=HM.out i ap;have G0:=zAA g0;have G1:=zAA g1;clear ai qB hx g0 g1;have B0:Below wo.heap.size wo (wo.alloc (.cells #[.string x.name,.int .i64 x.place,.slice x.a2 x.n2 x.c2,.slice x.a3 x.n3 x.c3,.slice x.a4 x.n4 x.c4,.slice x.a5 x.n5 x.c5,.slice x.a6 x.n6 x.c6] 47 (0,0))).drew:=((Below.refl _ wo).alloc nR _).drew;have K0:(wo.alloc (.cells #[.string x.name,.int .i64 x.place,.slice x.a2 x.n2 x.c2,.slice x.a3 x.n3 x.c3,.slice x.a4 x.n4 x.c4,.slice x.a5 x.n5 x.c5,.slice x.a6 x.n6 x.c6] 47 (0,0))).drew.heap[wo.heap.size]?=some (.cells #[.string x.name,.int .i64 x.place,.slice x.a2 x.n2 x.c2,.slice x.a3 x.n3 x.c3,.slice x.a4 x.n4 x.c4,.slice x.a5 x.n5 x.c5,.slice x.a6 x.n6 x.c6] 47 (0,0)):=zAC wo _;have E0:(wo.alloc (.cells #[.string x.name,.int .i64 x.place,.slice x.a2 x.n2 x.c2,.slice x.a3 x.n3 x.c3,.slice x.a4 x.n4 x.c4,.slice x.a5 x.n5 x.c5,.slice x.a6 x.n6 x.c6] 47 (0,0))).drew.heap.size=wo.heap.size+1:=(by show (wo.alloc _).heap.size=_;simp);go_upto_region 6 with fail;go_cut [23] (fun _ wc=>∃ a2 n2 c2 a3 n3 c3 a4 n4 c4 a5 n5 c5,wc.heap[wo.heap.size]?=some (.cells #[.string x.name,.int .i64 x.place,.slice a2 n2 c2,.slice a3 n3 c3,.slice a4 n4 c4,.slice a5 n5 c5,.slice x.a6 x.n6 x.c6] 47 (0,0))/\HNames (fun k=>wo.heap.size<k) wc (.slice a2 n2 c2) l[i].sizes/\HDes (fun k=>wo.heap.size<k) wc (.slice a3 n3 c3) l[i].inn/\HDes (fun k=>wo.heap.size<k) wc (.slice a4 n4 c4) l[i].out/\HDes (fun k=>wo.heap.size<k) wc (.slice a5 n5 c5) l[i].loc/\Below wo.heap.size wo wc)
   case first=>
    refine zAE (fun w'=>w'.cell? ⟨wo.heap.size,2,none⟩=some (.slice x.a2 x.n2 x.c2)/\w'.cell? ⟨wo.heap.size,3,none⟩=some (.slice x.a3 x.n3 x.c3)/\w'.cell? ⟨wo.heap.size,4,none⟩=some (.slice x.a4 x.n4 x.c4)/\w'.cell? ⟨wo.heap.size,5,none⟩=some (.slice x.a5 x.n5 x.c5)) (fun j=>decide (12<j)) (by kernel_rfl) ?_;generalize (wo.alloc (.cells #[.string x.name,.int .i64 x.place,.slice x.a2 x.n2 x.c2,.slice x.a3 x.n3 x.c3,.slice x.a4 x.n4 x.c4,.slice x.a5 x.n5 x.c5,.slice x.a6 x.n6 x.c6] 47 (0,0))).drew=WA at B0 K0 E0 ⊢;have L2:=co K0 2;have L3:=co K0 3;have L4:=co K0 4;have L5:=co K0 5;simp at L2 L3 L4 L5;have hH:=And.intro L2 (And.intro L3 (And.intro L4 L5));clear d0 d1 d2 d3 d4 d5 d6 pr rr CI IY;refine' tjQ 0 hH ?hyv ?o1
    case hyv=>
     intro wz ae;obtain ⟨c2,c3,c4,c5⟩:=ae;go_simp
     try rfl
    try simp only [Act.put,sT,sZ,sS]
    refine' tjQ 1 hH ?hyv ?o2
    case hyv=>
     intro wz ae;obtain ⟨c2,c3,c4,c5⟩:=ae;go_simp
     try rfl
    try simp only [Act.put,sT,sZ,sS]
    refine' tjQ 3 hH ?hyv ?o3
    case hyv=>
     intro wz ae;obtain ⟨c2,c3,c4,c5⟩:=ae;go_simp
     try rfl
    try simp only [Act.put,sT,sZ,sS]
    refine' tjQ 4 hH ?hyv ?o4
    case hyv=>
     intro wz ae;obtain ⟨c2,c3,c4,c5⟩:=ae;go_simp
     try rfl
    try simp only [Act.put,sT,sZ,sS]
    refine' tjQ 6 hH ?hyv ?o5
    case hyv=>
     intro wz ae;obtain ⟨c2,c3,c4,c5⟩:=ae;go_simp
     try rfl
    try simp only [Act.put,sT,sZ,sS]
    refine' tjQ 7 hH ?hyv ?o6
    case hyv=>
     intro wz ae;obtain ⟨c2,c3,c4,c5⟩:=ae;go_simp
     try rfl
    try simp only [Act.put,sT,sZ,sS]
    refine' tjQ 9 hH ?hyv ?o7
    case hyv=>
     intro wz ae;obtain ⟨c2,c3,c4,c5⟩:=ae;go_simp
     try rfl
    try simp only [Act.put,sT,sZ,sS]
    refine' tjQ 10 hH ?hyv ?o8
    case hyv=>
     intro wz ae;obtain ⟨c2,c3,c4,c5⟩:=ae;go_simp
     try rfl
    try simp only [Act.put,sT,sZ,sS]
    refine tnQ 2 (fun K hK=>?_);go_simp;refine (zCs (s2.under B0) f2).mono ?_;rintro e w1 ⟨a2,n2,c2,rfl,h2,b1⟩;have B1:=B0.trans (b1.mono (by rw [E0];exact Nat.le_succ _));have K1:=(aside b1 (S:=[])).keep K0 (zAB K0) (by simp);have Z1:wo.heap.size+1<=w1.heap.size:=Nat.le_trans (Nat.le_of_eq E0.symm) b1.size;have H2:=h2.wide (ok':=fun k=>wo.heap.size<k) (fun k hk _=>Nat.lt_of_lt_of_le (Nat.lt_succ_self _) (Nat.le_trans (Nat.le_of_eq E0.symm) hk));clear h2 b1 hH L2 L3 L4 L5;have L2:=co K1 2;have L3:=co K1 3;have L4:=co K1 4;have L5:=co K1 5;simp at L2 L3 L4 L5;have hH:=And.intro L2 (And.intro L3 (And.intro L4 L5));refine hK.out _ _ (fun _=>hH) ?_;clear hK K
    try simp only [Act.put,sT,sZ,sS]
    refine' tjQ 12 hH ?hyv ?o9
    case hyv=>
     intro wz ae;obtain ⟨c2,c3,c4,c5⟩:=ae;go_simp
     try rfl
    try simp only [Act.put,sT,sZ,sS]
    refine tnQ 5 (fun K hK=>?_);go_simp;refine (zBf (s3.under B1) f3).mono ?_;rintro e w2 ⟨a3,n3,c3,rfl,h3,b2⟩;have B2:=B1.trans (b2.mono B1.size);have K2:=(aside b2 (S:=[])).keep K1 (zAB K1) (by simp);have Z2:=b2.size;have JU:=H2.under b2;have H3:=h3.wide (ok':=fun k=>wo.heap.size<k) (fun k hk _=>by omega);clear h3 b2 H2 hH L2 L3 L4 L5;have L2:=co K2 2;have L3:=co K2 3;have L4:=co K2 4;have L5:=co K2 5;simp at L2 L3 L4 L5;have hH:=And.intro L2 (And.intro L3 (And.intro L4 L5));refine hK.out _ _ (fun _=>hH) ?_;clear hK K
    try simp only [Act.put,sT,sZ,sS]
    refine tnQ 8 (fun K hK=>?_);go_simp;refine (zBf (s4.under B2) f4).mono ?_;rintro e w3 ⟨a4,n4,c4,rfl,h4,b3⟩;have B3:=B2.trans (b3.mono B2.size);have K3:=(aside b3 (S:=[])).keep K2 (zAB K2) (by simp);have Z3:=b3.size;have KH:=JU.under b3;have Ke:=H3.under b3;have H4:=h4.wide (ok':=fun k=>wo.heap.size<k) (fun k hk _=>by omega);clear h4 b3 JU H3 hH L2 L3 L4 L5;have L2:=co K3 2;have L3:=co K3 3;have L4:=co K3 4;have L5:=co K3 5;simp at L2 L3 L4 L5;have hH:=And.intro L2 (And.intro L3 (And.intro L4 L5));refine hK.out _ _ (fun _=>hH) ?_;clear hK K
    try simp only [Act.put,sT,sZ,sS]
    refine tnQ 11 (fun K hK=>?_);go_simp;refine (zBf (s5.under B3) f5).mono ?_;rintro e w4 ⟨a5,n5,c5,rfl,h5,b4⟩;have B4:=B3.trans (b4.mono B3.size);have K4:=(aside b4 (S:=[])).keep K3 (zAB K3) (by simp);have Z4:=b4.size;have Ph:=KH.under b4;have LX:=Ke.under b4;have Ov:=H4.under b4;have H5:=h5.wide (ok':=fun k=>wo.heap.size<k) (fun k hk _=>by omega);clear h5 b4 KH Ke H4 hH L2 L3 L4 L5;have L2:=co K4 2;have L3:=co K4 3;have L4:=co K4 4;have L5:=co K4 5;simp at L2 L3 L4 L5;have hH:=And.intro L2 (And.intro L3 (And.intro L4 L5));have xl:=fun o=>fo K4 o;refine hK.out _ _ (fun _=>hH) ?_;clear hK K
    try simp only [Act.put,sT,sZ,sS]
    refine tnQ 13 (fun K hK=>?_);go_simp;refine hK.out _ _ (fun h=>by cases h) ?_;clear hK K
    try simp only [Act.put,sT,sZ,sS]
    refine tnQ 14 (fun K hK=>?_);go_simp;refine hK.out _ _ (fun h=>by cases h) ?_;clear hK K
    try simp only [Act.put,sT,sZ,sS]
    refine tnQ 15 (fun K hK=>?_);go_simp;refine hK.out _ _ (fun h=>by cases h) ?_;clear hK K
    try simp only [Act.put,sT,sZ,sS]
    refine tnQ 16 (fun K hK=>?_);go_simp;refine hK.out _ _ (fun h=>by cases h) ?_;clear hK K
    try simp only [Act.put,sT,sZ,sS]
    refine tnQ 17 (fun K hK=>?_);go_simp;refine hK.out _ _ (fun h=>by cases h) ?_;clear hK K
    try simp only [Act.put,sT,sZ,sS]
    refine tnQ 18 (fun K hK=>?_);go_simp;refine hK.out _ _ (fun h=>by cases h) ?_;clear hK K
    try simp only [Act.put,sT,sZ,sS]
    refine tnQ 19 (fun K hK=>?_);go_simp;refine hK.out _ _ (fun h=>by cases h) ?_;clear hK K
    try simp only [Act.put,sT,sZ,sS]
    refine zAF (by kernel_rfl) ?_ _;go_wp2_with fail;go_meet
    case rel=>
     have hK:=zAD (zAD (zAD (zAD K4 2 (.slice a2 n2 c2)) 3 (.slice a3 n3 c3)) 4 (.slice a4 n4 c4)) 5 (.slice a5 n5 c5);exact ⟨a2,n2,c2,a3,n3,c3,a4,n4,c4,a5,n5,c5,by simpa using hK,(((Ph.set (by simp) _).set (by simp) _).set (by simp) _).set (by simp) _,(((LX.set (by simp) _).set (by simp) _).set (by simp) _).set (by simp) _,(((Ov.set (by simp) _).set (by simp) _).set (by simp) _).set (by simp) _,(((H5.set (by simp) _).set (by simp) _).set (by simp) _).set (by simp) _,(((B4.setCell nR _).setCell nR _).setCell nR _).setCell nR _⟩
   case rest=>
    obtain ⟨a2,n2,c2,a3,n3,c3,a4,n4,c4,a5,n5,c5,KN,T2,T3,T4,T5,BC⟩:=hcut;have zn:=zAB KN;have zc:=BC.size;obtain ⟨qo,qc,Ea,cv,bM,j5⟩:=(s6.under BC).at;injection Ea with r1 r2 r3;have HE:=zAA r2;rw [<-r1] at j5;rw [<-r2,<-r3] at cv;rw [<-r3] at bM;have QU:x.n6*96<=140737488355328:=(by rw [r2];exact f6);clear r1 r2 r3 s2 s3 s4 s5 s6 d0 d1 d2 d3 d4 d5 d6 B0 K0 E0;unfold maxLen at bM;have Ip:=co KN 6;simp at Ip;obtain ⟨wn,OX⟩:=nmQ (wc);subst OX;go_wp2;go_loopg [6,7] x.n6 (fun k v6 v7 wk=>∃ (j:Nat) (E:Nat->List Value),j<=x.n6/\k=x.n6-j/\v7=.int .i64 (j:Nat)/\wk.ownsRow wn.heap.size 56 5 v6 j (flat E j)/\Hid (∀ t (h:t<l[i].eqs.length),t<j->∃ y:EqV,E t=y.cells/\HEq (Off wn.heap.size v6) wk y l[i].eqs[t])/\Below wn.heap.size wn wk)
    case atStart=>exact ⟨0,fun _=>[],Nat.zero_le _,rfl,rfl,World.ownsRow_nil _ _ _ _,fun j _ h=>absurd h (Nat.not_lt_zero _),Below.refl _ _⟩
    case round=>
     obtain ⟨j,E,hj,rfl,rfl,mE,HQ,jF⟩:=hrel;have pk:=(jF.cell (p:=⟨wo.heap.size,6,none⟩) zn).trans Ip;have zk:=jF.size;by_cases hjt:j<x.n6
     ·have cM:j<l[i].eqs.length:=by have:=HE.out;omega
      obtain ⟨b',o',y,BH,jS,xX,hy⟩:=j5 j cM;rw [BH] at pk;obtain ⟨e0,e1,e2,e3,e4⟩:=xX.keep (jF.block b' jS);obtain ⟨k0,y1,k2,y3,y4⟩:=hy.under jF;have fq:=f7 j cM;have Q0:=zAA k0;have Q2:=zAA k2;clear BH xX hy k0 k2;have E0:Below wr.heap.size wr (wr.alloc (.cells #[.int .i64 y.place,.slice y.aN y.nN y.cN,.string y.node,.slice y.aS y.nS y.cS,.slice y.aE y.nE y.cE] 56 (0,0))).drew:=((Below.refl _ wr).alloc nR _).drew;have F0:(wr.alloc (.cells #[.int .i64 y.place,.slice y.aN y.nN y.cN,.string y.node,.slice y.aS y.nS y.cS,.slice y.aE y.nE y.cE] 56 (0,0))).drew.heap[wr.heap.size]?=some (.cells #[.int .i64 y.place,.slice y.aN y.nN y.cN,.string y.node,.slice y.aS y.nS y.cS,.slice y.aE y.nE y.cE] 56 (0,0)):=zAC wr _;have Z0:(wr.alloc (.cells #[.int .i64 y.place,.slice y.aN y.nN y.cN,.string y.node,.slice y.aS y.nS y.cS,.slice y.aE y.nE y.cE] 56 (0,0))).drew.heap.size=wr.heap.size+1:=(by show (wr.alloc _).heap.size=_;simp);go_upto_region 12 with fail;go_cut [51] (fun _ wd=>∃ p1 q1 r1 p3 q3 r3 p4 q4 r4,wd.heap[wr.heap.size]?=some (.cells #[.int .i64 y.place,.slice p1 q1 r1,.string y.node,.slice p3 q3 r3,.slice p4 q4 r4] 56 (0,0))/\HNames (fun k=>wr.heap.size<k) wd (.slice p1 q1 r1) l[i].eqs[j].names/\HSizes (fun k=>wr.heap.size<k) wd (.slice p3 q3 r3) l[i].eqs[j].S/\HExs (fun k=>wr.heap.size<k) wd (.slice p4 q4 r4) l[i].eqs[j].E/\Below wr.heap.size wr wd)
      case first=>
       refine zAE (fun w'=>w'.cell? ⟨wr.heap.size,1,none⟩=some (.slice y.aN y.nN y.cN)/\w'.cell? ⟨wr.heap.size,3,none⟩=some (.slice y.aS y.nS y.cS)/\w'.cell? ⟨wr.heap.size,4,none⟩=some (.slice y.aE y.nE y.cE)) (fun j=>decide (9<j)) (by kernel_rfl) ?_;generalize (wr.alloc (.cells #[.int .i64 y.place,.slice y.aN y.nN y.cN,.string y.node,.slice y.aS y.nS y.cS,.slice y.aE y.nE y.cE] 56 (0,0))).drew=WA at E0 F0 Z0 ⊢;have L1:=co F0 1;have L3:=co F0 3;have L4:=co F0 4;simp at L1 L3 L4;have hH:=And.intro L1 (And.intro L3 L4);clear e0 e1 e2 e3 e4 pk;refine' tjQ 0 hH ?hyv ?o10
       case hyv=>
        intro wz ae;obtain ⟨c1,c3,c4⟩:=ae;go_simp
        try rfl
       try simp only [Act.put,sT,sZ,sS]
       refine' tjQ 1 hH ?hyv ?o11
       case hyv=>
        intro wz ae;obtain ⟨c1,c3,c4⟩:=ae;go_simp
        try rfl
       try simp only [Act.put,sT,sZ,sS]
       refine' tjQ 3 hH ?hyv ?o12
       case hyv=>
        intro wz ae;obtain ⟨c1,c3,c4⟩:=ae;go_simp
        try rfl
       try simp only [Act.put,sT,sZ,sS]
       refine' tjQ 4 hH ?hyv ?o13
       case hyv=>
        intro wz ae;obtain ⟨c1,c3,c4⟩:=ae;go_simp
        try rfl
       try simp only [Act.put,sT,sZ,sS]
       refine' tjQ 6 hH ?hyv ?o14
       case hyv=>
        intro wz ae;obtain ⟨c1,c3,c4⟩:=ae;go_simp
        try rfl
       try simp only [Act.put,sT,sZ,sS]
       refine' tjQ 7 hH ?hyv ?o15
       case hyv=>
        intro wz ae;obtain ⟨c1,c3,c4⟩:=ae;go_simp
        try rfl
       try simp only [Act.put,sT,sZ,sS]
       refine tnQ 2 (fun K hK=>?_);go_simp;refine (zCs (y1.under E0) fq.1).mono ?_;rintro e w1 ⟨p1,q1,r1,rfl,h1,b1⟩;have E1:=E0.trans (b1.mono (by rw [Z0];exact Nat.le_succ _));have F1:=(aside b1 (S:=[])).keep F0 (zAB F0) (by simp);have Z1:wr.heap.size+1<=w1.heap.size:=Nat.le_trans (Nat.le_of_eq Z0.symm) b1.size;have J1:=h1.wide (ok':=fun k=>wr.heap.size<k) (fun k hk _=>Nat.lt_of_lt_of_le (Nat.lt_succ_self _) (Nat.le_trans (Nat.le_of_eq Z0.symm) hk));clear h1 b1 hH L1 L3 L4;have L1:=co F1 1;have L3:=co F1 3;have L4:=co F1 4;simp at L1 L3 L4;have hH:=And.intro L1 (And.intro L3 L4);refine hK.out _ _ (fun _=>hH) ?_;clear hK K
       try simp only [Act.put,sT,sZ,sS]
       refine' tjQ 9 hH ?hyv ?o16
       case hyv=>
        intro wz ae;obtain ⟨c1,c3,c4⟩:=ae;go_simp
        try rfl
       try simp only [Act.put,sT,sZ,sS]
       refine tnQ 5 (fun K hK=>?_);go_simp;refine (zCt (y3.under E1) fq.S).mono ?_;rintro e w2 ⟨p3,q3,r3,rfl,h3,b2⟩;have E2:=E1.trans (b2.mono E1.size);have F2:=(aside b2 (S:=[])).keep F1 (zAB F1) (by simp);have Z2:=b2.size;have I4:=J1.under b2;have J3:=h3.wide (ok':=fun k=>wr.heap.size<k) (fun k hk _=>by omega);clear h3 b2 J1 hH L1 L3 L4;have L1:=co F2 1;have L3:=co F2 3;have L4:=co F2 4;simp at L1 L3 L4;have hH:=And.intro L1 (And.intro L3 L4);refine hK.out _ _ (fun _=>hH) ?_;clear hK K
       try simp only [Act.put,sT,sZ,sS]
       refine tnQ 8 (fun K hK=>?_);go_simp;refine (zFh (y4.under E2) fq.E).mono ?_;rintro e w3 ⟨p4,q4,r4,rfl,h4,b3⟩;have E3:=E2.trans (b3.mono E2.size);have F3:=(aside b3 (S:=[])).keep F2 (zAB F2) (by simp);have Z3:=b3.size;have NI:=I4.under b3;have Oi:=J3.under b3;have J4:=h4.wide (ok':=fun k=>wr.heap.size<k) (fun k hk _=>by omega);clear h4 b3 I4 J3 hH L1 L3 L4;have L1:=co F3 1;have L3:=co F3 3;have L4:=co F3 4;simp at L1 L3 L4;have hH:=And.intro L1 (And.intro L3 L4);have xl:=fun o=>fo F3 o;refine hK.out _ _ (fun _=>hH) ?_;clear hK K
       try simp only [Act.put,sT,sZ,sS]
       refine tnQ 10 (fun K hK=>?_);go_simp;refine hK.out _ _ (fun h=>by cases h) ?_;clear hK K
       try simp only [Act.put,sT,sZ,sS]
       refine tnQ 11 (fun K hK=>?_);go_simp;refine hK.out _ _ (fun h=>by cases h) ?_;clear hK K
       try simp only [Act.put,sT,sZ,sS]
       refine tnQ 12 (fun K hK=>?_);go_simp;refine hK.out _ _ (fun h=>by cases h) ?_;clear hK K
       try simp only [Act.put,sT,sZ,sS]
       refine tnQ 13 (fun K hK=>?_);go_simp;refine hK.out _ _ (fun h=>by cases h) ?_;clear hK K
       try simp only [Act.put,sT,sZ,sS]
       refine tnQ 14 (fun K hK=>?_);go_simp;refine hK.out _ _ (fun h=>by cases h) ?_;clear hK K
       try simp only [Act.put,sT,sZ,sS]
       refine zAF (by kernel_rfl) ?_ _;go_wp2_with fail;go_meet
       case rel=>
        have hK:=zAD (zAD (zAD F3 1 (.slice p1 q1 r1)) 3 (.slice p3 q3 r3)) 4 (.slice p4 q4 r4);exact ⟨p1,q1,r1,p3,q3,r3,p4,q4,r4,by simpa using hK,((NI.set (by simp) _).set (by simp) _).set (by simp) _,((Oi.set (by simp) _).set (by simp) _).set (by simp) _,((J4.set (by simp) _).set (by simp) _).set (by simp) _,((E3.setCell nR _).setCell nR _).setCell nR _⟩
      case rest=>
       obtain ⟨p1,q1,r1,p3,q3,r3,p4,q4,r4,KD,V1,V3,V4,BD⟩:=hcut;have zd:=zAB KD;have t0:=co KD 0;have t1:=co KD 1;have t2:=co KD 2;have t3:=co KD 3;have t4:=co KD 4;simp at t0 t1 t2 t3 t4;clear e0 e1 e2 e3 e4 y1 y3 y4 E0 F0 Z0;have cf:=(zAQ mE BD).alloc (.cells #[.int .i64 y.place,.slice p1 q1 r1,.string y.node,.slice p3 q3 r3,.slice p4 q4 r4] 56 (0,0))
       go_wp2_with (at_builtin;refine zAv rfl _ _ 45 rfl wn.heap.size 56 i1 (.agg #[.int .i64 0,.slice none 0 0,.string ⟨#[]⟩,.slice none 0 0,.slice none 0 0]) 5 96 Tryz.underlying45 ut gy e7 jb rfl (by decide) _ _ _ rfl cf ⟨wc.heap.size,0,none⟩ 1 1 [.int .i64 y.place,.slice p1 q1 r1,.string y.node,.slice p3 q3 r3,.slice p4 q4 r4] rfl rfl (newAt wc #[.int .i64 y.place,.slice p1 q1 r1,.string y.node,.slice p3 q3 r3,.slice p4 q4 r4] 56) (by intro u hu;simp at hu;rcases hu with rfl | rfl | rfl | rfl | rfl<;>rfl) (by unfold maxLen;omega) (by omega) (by simp;omega) ?_;intro v4 w4 cK am fR)
       obtain ⟨W5,EI⟩:=nmQ (wc.alloc (.cells #[.int .i64 y.place,.slice p1 q1 r1,.string y.node,.slice p3 q3 r3,.slice p4 q4 r4] 56 (0,0)));have y5:=newZ EI;rw [<-EI] at cf am fR;have df:Moved W5 u6 v4:=fR;have bA:=zAk EI;have bR:Below wr.heap.size wr W5:=BD.trans (bA.mono BD.size);have gE:=zBD (B:=wn.heap.size) (v:=u6) am;have b5:=Below.push (B:=wn.heap.size) (jF.trans (bR.mono jF.size)) (by omega) cf am;have hX:HEq (fun k=>wr.heap.size<k) W5 ⟨y.place,p1,q1,r1,y.node,p3,q3,r3,p4,q4,r4⟩ l[i].eqs[j]:=⟨Q0.out,V1.under bA,Q2.out,V3.under bA,V4.under bA⟩;have gj:w4.ownsRow wn.heap.size 56 5 v4 (j+1) (flat (fun q=>if q=j then [.int .i64 y.place,.slice p1 q1 r1,.string y.node,.slice p3 q3 r3,.slice p4 q4 r4] else E q) (j+1)):=by
        have e:flat (fun q=>if q=j then [.int .i64 y.place,.slice p1 q1 r1,.string y.node,.slice p3 q3 r3,.slice p4 q4 r4] else E q) (j+1)=flat E j++[.int .i64 y.place,.slice p1 q1 r1,.string y.node,.slice p3 q3 r3,.slice p4 q4 r4]:=by
         rw [flat,zAY (D:=E) j (fun q hq=>by rw [if_neg (by omega)])];simp
        rw [e];exact cK
       have gw:HEq (Off wn.heap.size v4) w4 ⟨y.place,p1,q1,r1,y.node,p3,q3,r3,p4,q4,r4⟩ l[i].eqs[j]:=by
        have g1:=hX.wide (ok':=fun k=>Off wn.heap.size u6 k/\k<W5.heap.size) (fun k hk hl=>⟨Off.new mE nR jF.size (by omega),hl⟩);have g2:=g1.keep am.size (fun k hk hl=>gE k hk.1 hl);exact g2.wide (fun k hk _=>Off.moved df hk.1 hk.2)
       have gI:Hid (∀ t (h:t<l[i].eqs.length),t<j->∃ y:EqV,E t=y.cells/\HEq (Off wn.heap.size v4) w4 y l[i].eqs[t]):=fun t ht Kc=>by
        obtain ⟨y',e',h'⟩:=HQ.out t ht Kc;have g1:=(h'.wide (ok':=fun k=>Off wn.heap.size u6 k/\k<wr.heap.size) (fun k hk hl=>⟨hk,hl⟩)).under bR;have g2:=g1.keep am.size (fun k hk hl=>gE k hk.1 hl);exact ⟨y',e',g2.wide (fun k hk _=>Off.moved df hk.1 (by omega))⟩
       clear cK am fR cf HQ gE hX t0 t1 t2 t3 t4 V1 V3 V4 KD bA;go_wp2;go_roundg (x.n6-(j+1))
       case measure=>omega
       case rel=>
        refine ⟨j+1,_,by omega,rfl,by go_num,gj,fun t ht Kc=>?_,b5⟩;by_cases e:t=j
        ·subst e
         exact ⟨⟨y.place,p1,q1,r1,y.node,p3,q3,r3,p4,q4,r4⟩,by simp [EqV.cells],gw⟩
        ·obtain ⟨y',e',hT⟩:=gI.out t ht (by omega)
         exact ⟨y',by simpa [e] using e',hT⟩
     ·have pF:j=x.n6:=by omega
      subst pF;have h9:=HE.out;have Fe:=zBG mE (fun t ht=>by obtain ⟨y',xg,_⟩:=HQ.out t (by omega) ht;rw [xg];rfl);have DZ:=Fe;obtain ⟨a6,c6,rfl,_⟩:=DZ;have qS:=jF;have KE:=(jF.block _ zn).trans KN;have O6:=fun o=>fo KE o;have KS:=zAD KE 6 (.slice a6 x.n6 c6);simp at KS;have B2:Below wo.heap.size wo wr:=BC.trans (jF.mono zc);obtain ⟨ws,kU⟩:=nmQ (wr.setCell ⟨wo.heap.size,6,none⟩ (.slice a6 x.n6 c6));have zs:ws.heap.size=wr.heap.size:=(by rw [kU,zAm]);rw [<-kU] at KS;have B3:Below wo.heap.size wo ws:=(by rw [kU];exact B2.setCell nR _);have HS:HEqs (fun k=>wn.heap.size<=k) ws (.slice a6 x.n6 c6) l[i].eqs:=by
       rw [kU];refine HEqs.set (p:=⟨wo.heap.size,6,none⟩) ⟨E,?_,fun t ht=>?_⟩ (by simp;omega) _
       ·rw [<-HE.out];exact Fe
       ·obtain ⟨y',e',h'⟩:=HQ.out t ht (by rw [HE.out];exact ht)
        exact ⟨y',e',h'.wide (fun k hk _=>hk.1)⟩
      have hN:HNd (fun k=>wo.heap.size<k) ws ⟨x.name,x.place,a2,n2,c2,a3,n3,c3,a4,n4,c4,a5,n5,c5,a6,x.n6,c6⟩ l[i]:=by
       refine ⟨G0.out,G1.out,?_,?_,?_,?_,HS.wide (fun k hk _=>by omega)⟩
       ·rw [kU];exact (T2.under qS).set (p:=⟨wo.heap.size,6,none⟩) (by simp) _
       ·rw [kU];exact (T3.under qS).set (p:=⟨wo.heap.size,6,none⟩) (by simp) _
       ·rw [kU];exact (T4.under qS).set (p:=⟨wo.heap.size,6,none⟩) (by simp) _
       ·rw [kU];exact (T5.under qS).set (p:=⟨wo.heap.size,6,none⟩) (by simp) _
      have OS:=(B3.block (w.heap.size+1+1) (by omega)).trans CI;have o0:=co OS 0;have m0:=co KS 0;have m1:=co KS 1;have m2:=co KS 2;have m3:=co KS 3;have m4:=co KS 4;have m5:=co KS 5;have m6:=co KS 6;simp at o0 m0 m1 m2 m3 m4 m5 m6;have mK:=(zAQ ah B3).alloc (.cells #[.string x.name,.int .i64 x.place,.slice a2 n2 c2,.slice a3 n3 c3,.slice a4 n4 c4,.slice a5 n5 c5,.slice a6 x.n6 c6] 47 (0,0));clear j5 HQ Fe mE T2 T3 T4 T5 h9;go_upto_region 15 with fail;rw [<-kU];have QI:wr.heap.size<=ws.heap.size:=(by omega);clear zs kU;have bA:Below ws.heap.size ws (ws.alloc (.cells #[.string x.name,.int .i64 x.place,.slice a2 n2 c2,.slice a3 n3 c3,.slice a4 n4 c4,.slice a5 n5 c5,.slice a6 x.n6 c6] 47 (0,0))):=(Below.refl _ _).alloc nR _;have yA:(ws.alloc (.cells #[.string x.name,.int .i64 x.place,.slice a2 n2 c2,.slice a3 n3 c3,.slice a4 n4 c4,.slice a5 n5 c5,.slice a6 x.n6 c6] 47 (0,0))).heap.size=ws.heap.size+1:=(by simp)
      go_wp2_with (at_builtin;refine zAv rfl _ _ 22 rfl W.heap.size 47 i2 (.agg #[.string ⟨#[]⟩,.int .i64 0,.slice none 0 0,.slice none 0 0,.slice none 0 0,.slice none 0 0,.slice none 0 0]) 7 144 Tryz.underlying22 tW iO ie om rfl (by decide) _ _ _ rfl mK ⟨ws.heap.size,0,none⟩ 1 1 [.string x.name,.int .i64 x.place,.slice a2 n2 c2,.slice a3 n3 c3,.slice a4 n4 c4,.slice a5 n5 c5,.slice a6 x.n6 c6] rfl rfl (newAt ws #[.string x.name,.int .i64 x.place,.slice a2 n2 c2,.slice a3 n3 c3,.slice a4 n4 c4,.slice a5 n5 c5,.slice a6 x.n6 c6] 47) (by intro u hu;simp at hu;rcases hu with rfl | rfl | rfl | rfl | rfl | rfl | rfl<;>rfl) (by unfold maxLen;omega) (by omega) (by rw [yA];omega) ?_;intro vv w4 cK am fR;obtain ⟨ga,gn,gc,rfl⟩:=owns_form cK;have uG:Hid (∀ k,k<W.heap.size->w4.heap[k]?=wo.heap[k]?):=(fun k hk=>(am.block k (by rw [yA];omega) (fun e=>by have:=World.ownsRow.lt mK k e.symm;omega)).trans ((bA.block k (by omega)).trans (B3.block k (by omega))));have KO:=(uG.out (w.heap.size+1+1) (by omega)).trans CI;have o1:=co KO 0;have xl:=(fun o=>fo KO o);simp at o1)
      have df:Moved (ws.alloc (.cells #[.string x.name,.int .i64 x.place,.slice a2 n2 c2,.slice a3 n3 c3,.slice a4 n4 c4,.slice a5 n5 c5,.slice a6 x.n6 c6] 47 (0,0))) v3 (.slice ga gn gc):=fR;have gE:=zBD (B:=W.heap.size) (v:=v3) am;have BW:Below W.heap.size wo (ws.alloc (.cells #[.string x.name,.int .i64 x.place,.slice a2 n2 c2,.slice a3 n3 c3,.slice a4 n4 c4,.slice a5 n5 c5,.slice a6 x.n6 c6] 47 (0,0))):=(B3.trans (bA.mono B3.size)).mono zr;have Bw:Below w.heap.size w w4:=by
       have h1:=iV.trans ((B3.trans (bA.mono B3.size)).mono iV.size);refine h1.grown am (by rw [yA];omega) (fun k hk=>?_);have:=World.ownsRow.lt mK k hk;omega
      have z4:wo.heap.size<=w4.heap.size:=(by have:=am.size;rw [yA] at this;omega);have hX:=hN.under bA;have gw:HNd (Off W.heap.size (.slice ga gn gc)) (w4.setCell ⟨w.heap.size+1+1,0,none⟩ (.slice ga gn gc)) ⟨x.name,x.place,a2,n2,c2,a3,n3,c3,a4,n4,c4,a5,n5,c5,a6,x.n6,c6⟩ l[i]:=by
       have g1:=hX.wide (ok':=fun k=>Off W.heap.size v3 k/\k<(ws.alloc (.cells #[.string x.name,.int .i64 x.place,.slice a2 n2 c2,.slice a3 n3 c3,.slice a4 n4 c4,.slice a5 n5 c5,.slice a6 x.n6 c6] 47 (0,0))).heap.size) (fun k hk hl=>⟨Off.new ah nR zr (Nat.le_of_lt hk),hl⟩);have g2:=g1.keep am.size (fun k hk hl=>gE k hk.1 hl);exact (g2.wide (fun k hk _=>Off.moved df hk.1 hk.2)).set (fun h=>by have h7:W.heap.size<=w.heap.size+1+1:=h.1;omega) _
      have gI:Hid (∀ t (h:t<l.length),t<i->∃ y:NdV,D t=y.cells/\HNd (Off W.heap.size (.slice ga gn gc)) (w4.setCell ⟨w.heap.size+1+1,0,none⟩ (.slice ga gn gc)) y l[t]):=fun t ht Dr=>by
       obtain ⟨y',e',h'⟩:=H.out t ht Dr;have g1:=(h'.wide (ok':=fun k=>Off W.heap.size v3 k/\k<wo.heap.size) (fun k hk hl=>⟨hk,hl⟩)).under (B3.trans (bA.mono B3.size));have g2:=g1.keep am.size (fun k hk hl=>gE k hk.1 hl);exact ⟨y',e',(g2.wide (fun k hk _=>Off.moved df hk.1 (by rw [yA];omega))).set (fun h=>by have h7:W.heap.size<=w.heap.size+1+1:=h.1;omega) _⟩
      have gj:(w4.setCell ⟨w.heap.size+1+1,0,none⟩ (.slice ga gn gc)).ownsRow W.heap.size 47 7 (.slice ga gn gc) (i+1) (flat (fun q=>if q=i then [.string x.name,.int .i64 x.place,.slice a2 n2 c2,.slice a3 n3 c3,.slice a4 n4 c4,.slice a5 n5 c5,.slice a6 x.n6 c6] else D q) (i+1)):=by
       have e:flat (fun q=>if q=i then [.string x.name,.int .i64 x.place,.slice a2 n2 c2,.slice a3 n3 c3,.slice a4 n4 c4,.slice a5 n5 c5,.slice a6 x.n6 c6] else D q) (i+1)=flat D i++[.string x.name,.int .i64 x.place,.slice a2 n2 c2,.slice a3 n3 c3,.slice a4 n4 c4,.slice a5 n5 c5,.slice a6 x.n6 c6]:=by
        rw [flat,zAY (D:=D) i (fun q hq=>by rw [if_neg (by omega)])];simp
       rw [e];exact zDa cK (p:=⟨w.heap.size+1+1,0,none⟩) (fun e=>by have h7:=World.ownsRow.lt cK _ e;simp at h7;omega) _
      have P5:(w4.setCell ⟨w.heap.size+1+1,0,none⟩ (.slice ga gn gc)).heap[w.heap.size]?=some (.cells #[.slice (some ⟨b,o,none⟩) n cap] 24 (0,0)):=(Below.heap_setCell _ _ _ _ (by simp;omega)).trans ((uG.out _ (by omega)).trans pr);have R5:(w4.setCell ⟨w.heap.size+1+1,0,none⟩ (.slice ga gn gc)).heap[w.heap.size+1]?=some (.cells #[.slice none 0 0] 24 (0,0)):=(Below.heap_setCell _ _ _ _ (by simp)).trans ((uG.out _ (by omega)).trans rr);have O5:=zAD KO 0 (.slice ga gn gc);simp at O5;have B5:=Bw.setCell (p:=⟨w.heap.size+1+1,0,none⟩) (by simp;omega) (.slice ga gn gc);clear cK am fR mK H gE hX hN HS KS m0 m1 m2 m3 m4 m5 m6 o0 KE O6 KN;go_wp2;go_roundg (n-(i+1))
      case measure=>omega
      case rel=>
       refine ⟨i+1,_,(.slice ga gn gc),by omega,rfl,by go_num,P5,R5,O5,gj,fun t ht Dr=>?_,B5,by rw [zAm];omega⟩;by_cases e:t=i
       ·subst e
        exact ⟨⟨x.name,x.place,a2,n2,c2,a3,n3,c3,a4,n4,c4,a5,n5,c5,a6,x.n6,c6⟩,by simp [NdV.cells],gw⟩
       ·obtain ⟨y',e',hT⟩:=gI.out t ht (by omega)
        exact ⟨y',by simpa [e] using e',hT⟩
  ·have eH:i=n:=by omega
   subst eH;have h9:=HN.out;have hs:=zBG ah (fun t ht=>by obtain ⟨y',xg,_⟩:=H.out t (by omega) ht;rw [xg];rfl);have jM:=hs;obtain ⟨a5,c5,rfl,_⟩:=jM;have o0:=co CI 0;have r0:=co rr 0;have PX:=fun o=>fo rr o;simp at o0 r0;have KR:=zAD rr 0 (.slice a5 i c5);simp at KR;have k0:=co KR 0;simp at k0;have PH:w.heap.size+1<W.heap.size:=(by rw [zW];omega);have OW:(wo.setCell ⟨w.heap.size+1,0,none⟩ (.slice a5 i c5)).ownsRow w.heap.size 47 7 (.slice a5 i c5) l.length (flat D l.length):=by
    have h1:=zDa ah (p:=⟨w.heap.size+1,0,none⟩) (fun e=>by have h7:=World.ownsRow.lt ah _ e;simp at h7;omega) (.slice a5 i c5);rw [<-HN.out];refine ⟨h1.1,h1.2.imp id ?_⟩;rintro ⟨g,cp,aR,e1,e2,e3⟩;exact ⟨g,cp,aR,e1,by omega,e3⟩
   have HF:∀ j (h:j<l.length),∃ x:NdV,D j=x.cells/\HNd (Off w.heap.size (.slice a5 i c5)) (wo.setCell ⟨w.heap.size+1,0,none⟩ (.slice a5 i c5)) x l[j]:=by
    intro t ht;obtain ⟨y',e',h'⟩:=H.out t ht (by rw [HN.out];exact ht);exact ⟨y',e',(h'.set (p:=⟨w.heap.size+1,0,none⟩) (fun q=>by have:=q.1;simp at this;omega) _).wide (fun k hk _=>⟨by have:=hk.1;omega,hk.2⟩)⟩
   have BF:=iV.setCell (p:=⟨w.heap.size+1,0,none⟩) (Nat.le_succ _) (.slice a5 i c5);clear hs ah H ai h9;go_wp2;refine bodyPost_ret (v:=.agg #[.slice a5 i c5]) (by simp [results,Tryz.results9,go_sem,k0]) rfl ⟨_,_,_,rfl,D,OW,HF,BF⟩
end Go.Proofs.YtkfgbhlpjkkgfaaGreatDoor
