import Derived.Test.YthkpanbgkimhoaaGreatDoorM08
set_option linter.unusedVariables false
set_option linter.unusedSimpArgs false
set_option maxHeartbeats 64000000
set_option maxRecDepth 100000
namespace Go.Proofs.YthkpanbgkimhoaaGreatDoor
open Go.RowKit Go.IntWalk
variable {b g cap:Nat} {ao:Option Addr} {I:Inp}
theorem xN {w:World} {k:Nat} {t:TypeId} {l:List (List UInt8)} (h:w.heap[k]?=some (.cells (l.map fun x=>Value.string (str x)).toArray t (0,0))) (hm:l.length≤1000):HNames (fun _=>True) w (.slice (some ⟨k,0,none⟩) l.length l.length) (l.map str):=by
 refine ⟨fun i=>[.string (str (l.getD i []))],⟨some ⟨k,0,none⟩,l.length,by simp,by simp,by unfold maxLen;omega,fun _=>⟨k,0,rfl,trivial,zC h,fun i hi=>⟨rfl,fun j hj=>?_⟩⟩⟩,fun i hi=>?_⟩
 ·simp at hi
  obtain rfl:j=0:=by omega
  rw [co h];simp [hi]
 ·simp at hi
  simp [hi]
def Held (lo hi:Nat) (W w:World):Prop:=∀ i,lo≤i→i<hi→w.heap[i]?=W.heap[i]?
theorem Held.past {lo hi b B:Nat} {W w w':World} (h:Held lo hi W w) (a:Aside [b] B w w') (hb:b<lo) (hi':hi≤B):Held lo hi W w':=fun i h1 h2=>(a.block i (by omega) (by simp;omega)).trans (h i h1 h2)
theorem Held.under {lo hi B:Nat} {W w w':World} (h:Held lo hi W w) (a:Below B w w') (hi':hi≤B):Held lo hi W w':=fun i h1 h2=>(a.block i (by omega)).trans (h i h1 h2)
theorem Held.put6 {lo hi:Nat} {W w:World} (h:Held lo hi W w) {k:Nat} (hk:hi≤k) (y:ExV):Held lo hi W (put6 w k y):=fun i h1 h2=>(vT _ _ _ _ (by omega)).trans (h i h1 h2)
theorem Held.at {lo hi:Nat} {W w:World} (h:Held lo hi W w) {i:Nat} {x:Obj} (hx:W.heap[i]?=some x) (h1:lo≤i) (h2:i<hi):w.heap[i]?=some x:=(h i h1 h2).trans hx
theorem Rr.stepAt {w:World} {nx:Nat} {pt:Int} (h:At w b g cap ao I (.ok pt nx)) (hn:nx<I.L.length):At (w.setCell ⟨b,1,none⟩ (.int .i64 ((nx:Int)+1))) b g cap ao I (.ok pt (nx+1)):=Rr.step h hn
theorem vB {I:Inp} {R:Nat→Res Ex} (hN:Nice R) {s:Res Int} (h:FewS I s):FewS I (exprS R s):=by
 intro p n e;obtain ⟨q,m,rfl,e2⟩:=Res.bind_ok e;obtain ⟨v,m2,e3,e4⟩:=Res.bind_ok e2;obtain ⟨rfl,rfl⟩:=zZ e4;have:=hN m v m2 e3;rw [←vA] at this;obtain ⟨f1,f2⟩:=h q m rfl;exact ⟨by omega,by omega⟩
theorem zAi {M:Res Ex} {F:Nat→Ex→Nat→Res Ex} {I:Inp} {nx:Nat} {pt p kk:Int} {R:Nat→Res Ex} {e x:Ex} {f n:Nat} (hN:Nice R) (hM:M=(R (n+1)).bind fun r n1=>F f (.mk 5 kk 0 ⟨#[]⟩ [] [e,r]) n1) (hp:p=pt+(Ps.count e:Int)) (hL:I.L.length≤n+(f+1)) (hc:Ps.count e+nx≤n) (hx:Got R (.ok p (n+1)) x) :
  Goes M F I nx pt f (.mk 5 kk 0 ⟨#[]⟩ [] [e,x]) (partS (exprS R (.ok p (n+1)))):=by
 have e1:partS (exprS R (.ok p (n+1)))=((R (n+1)).bind fun v m=>.ok (p+(Ps.count v:Int)) m).bind fun pt n=>.ok (pt+1) n:=rfl;rw [e1]
 cases hr:R (n+1) with
 | ok v m=>
  obtain rfl:=hx p (n+1) v m rfl hr;rw [hr] at hM;have:=hN (n+1) x m hr;rw [←vA] at this;refine ⟨?_,by omega,?_,hM⟩
  ·simp only [Ps.count,Ps.countL];omega
  ·simp only [Ps.count,Ps.countL];omega
 | err c a=>
  rw [hr] at hM;exact hM
theorem qB {M:Res Ex} {F:Nat→Ex→Nat→Res Ex} {w':World} {nx k:Nat} {pt:Int} {e:Ex} {s:Res Int} (h:Goes M F I nx pt k e s) (hA:At w' b g cap ao I s) (hF:∀ p n,s=.ok p n→F k e n=.ok e n):XOut w' b g cap ao I pt M e:=by
 cases s with
 | ok p n=>
  obtain ⟨rfl,_,_,hM⟩:=h;rw [hM,hF _ n rfl];exact ⟨rfl,hA⟩
 | err c a=>
  rw [show M=.err c a from h];exact hA
def cmpF (I:Inp) (R:Nat→Res Ex) (k:Nat) (e:Ex) (n:Nat):Res Ex:=if k=0 then .ok e n else if btw 8 9 (I.pk n).text=0 then .ok e n else (R (n+1)).bind fun r n2=>.ok (.mk 5 (btw 8 9 (I.pk n).text) 0 ⟨#[]⟩ [] [e,r]) n2
theorem goes_cmp {I:Inp} {nx:Nat} {pt:Int} {R:Nat→Res Ex} {x:Ex} (hn:Nice R) (hx:Got R (.ok pt nx) x):∃ k,Goes (Ps.cmp I R nx) (cmpF I R) I nx pt k x (exprS R (.ok pt nx)):=by
 show ∃ k,Goes (Ps.cmp I R nx) (cmpF I R) I nx pt k x ((R nx).bind _)
 unfold Ps.cmp
 cases hr:R nx with
 | ok v m=>
  obtain rfl:=hx pt nx v m rfl hr;refine ⟨I.L.length-m+1,rfl,by omega,?_,?_⟩
  ·have:=hn nx x m hr
   rw [vA];exact this
  ·show _=cmpF I R _ x m
   unfold cmpF;rw [if_neg (by omega)];rfl
 | err c a=>exact ⟨0,rfl⟩
theorem level0_any {op:Nat} {R:Nat→Res Ex} (hA:XDoes 87 [.int .i64 1,.int .i64 (op:Int)] b g cap ao I R) (hB:XBad 87 [.int .i64 1,.int .i64 (op:Int)] b g cap ao I) (hN:Nice R) (hS:Sure I):XDoes 87 [.int .i64 0,.int .i64 (op:Int)] b g cap ao I (Ps.fromLeft I R 11 12):=by
 intro nx pt w h hgb hfew
 show Calls Tryz.prog 87 #[.pointer (some ⟨b,0,none⟩),.int .i64 0,.int .i64 (op:Int)] w _
 have hbb:=h.cells.2.2.2.2.2.2;have bT:=xX w;have zT:=qE w;have K0:=qT w;have KS:=zBE w;have KN:=tabW_at1 w;have KK:=zAZ w;have KJ:=tabW_at7 w;unfold tab0 at K0;unfold tab6 at KS;unfold tab1 at KN;unfold tab12 at KK;unfold tab7 at KJ;have hW:tabW w=_:=rfl;unfold tabW at hW;go_enter Tryz.func87,Tryz.ntmps87;go_wp2_with fail;obtain ⟨W,hWW⟩:=nm (tabW w);rw [←hWW] at bT zT K0 KS KN KK KJ;have hcall:=qN hA hB (s:=.ok pt nx) (show At W b g cap ao I (.ok pt nx) from h.past bT) (by omega) (fun _ _ e=>by cases e;exact hfew);rw [hWW] at hcall;refine Calls.mono hcall ?_;rintro e w1 ⟨y,x,rfl,hx,a1,at1,got1⟩;rw [←hWW] at hx a1;have T1:Held w.heap.size W.heap.size W w1:=Held.past (fun i _ _=>rfl) a1 hbb nR;have A1:=(aside bT (S:=[b])).trans a1 bT.size;have y1:=a1.size;obtain ⟨k0,hg0⟩:∃ k0,Goes (Ps.fromLeft I R 11 12 nx) (Ps.more I R 11 12) I nx pt k0 x (exprS R (.ok pt nx)):=
  zAn hN rfl got1
 have HG0:=zD hg0;have HZ:=zD zT;have HY:=zD y1;generalize exprS R (.ok pt nx)=s0 at at1 HG0;clear hg0 got1 hW hWW hcall bT zT a1 y1;unfold exA;obtain ⟨w2,hw2⟩:=nm (w1.alloc (.cells (exC y) 45 (0,0)));have X2:=xE hw2;have at2:At w2 b g cap ao I s0:=(by rw [hw2];exact at1.alloc _);have A2:Aside [b] w.heap.size w w2:=(by rw [hw2];exact A1.alloc A1.size _);have T2:Held w.heap.size W.heap.size W w2:=(by rw [hw2];exact T1.under ((Below.refl _ _).alloc nR _) HY.out);have hx2:HEx (fun i=>W.heap.size≤i∧i≠w1.heap.size) w2 y.cells x:=(by rw [hw2];exact (hx.wide (ok':=fun i=>W.heap.size≤i∧i≠w1.heap.size) (fun i hi hl=>⟨hi,by omega⟩)).under ((Below.refl _ w1).alloc nR _));go_wp2_with fail;rw [←hw2];clear hw2 at1 A1 T1 hx;go_loopg [10,11] k0 (fun k v u wr=>∃ (s:Res Int) (y:ExV) (e:Ex),HEx (fun i=>W.heap.size≤i∧i≠w1.heap.size) wr y.cells e∧At wr b g cap ao I s∧Aside [b] w.heap.size w wr∧Held w.heap.size W.heap.size W wr∧wr.heap[w1.heap.size]?=some (.cells (exC y) 45 (0,0))∧Hid (Goes (Ps.fromLeft I R 11 12 nx) (Ps.more I R 11 12) I nx pt k e s))
 case atStart=>exact ⟨s0,y,x,hx2,at2,A2,T2,X2,HG0⟩
 case round=>
  clear hx2 at2 A2 T2 X2 HG0;obtain ⟨s,y,e,he,hat,has,hT,hX,hgo⟩:=hrel;have zr:=zC hX
  cases s with
  | err c0 a0=>
   have hbad:=jP hat;go_wp2_with fail;refine hbad.mono ?_;rintro r w3 ⟨rfl,b3⟩;have K3:=(hT.under b3 (by have:=HY.out;omega)).at K0 nR (by have:=HZ.out;omega);have X3:=(b3.block _ (zC hX)).trans hX;have he3:=he.under b3;have A3:=has.trans (aside b3) has.size;have at3:=hat.past b3;have HA3:=zD at3;clear hbad he hat has hT hX b3 at3;have fa:=fun o=>fo K3 o;obtain ⟨ca0,ca1,ca2,ca3,ca4,ca5⟩:=zH K3;obtain ⟨cb0,cb1,cb2,cb3,cb4,cb5⟩:=zH X3;clear K3 X3;go_wp2;refine bodyPost_ret (v:=exA y) (by simp [exA,results,Tryz.results87,go_sem,ca0,ca1,ca2,ca3,ca4,ca5]) rfl ⟨y,e,rfl,(he3.put6 (k:=w.heap.size) (by have:=HZ.out;omega) y).wide (fun i hi _=>by have:=HZ.out;omega),A3.put6 (k:=w.heap.size) nR y,?_⟩;exact qB hgo.out (HA3.out.put6 (k:=w.heap.size) (by omega) (by omega) y) (fun p n e=>by cases e)
  | ok p n=>
   have hbad:=qP hat;go_wp2_with fail;refine hbad.mono ?_;rintro r w3 ⟨rfl,b3⟩;have T3:=hT.under b3 (by have:=HY.out;omega);have X3:=(b3.block _ (zC hX)).trans hX;have he3:=he.under b3;have A3:=has.trans (aside b3) has.size;have at3:=hat.past b3;have y3:=b3.size;clear hbad he hat has hT hX b3;have S3:=co (T3.at KS (by omega) (by have:=HZ.out;omega)) 0;have N3:=T3.at KN (by omega) (by have:=HZ.out;omega);simp only [gT,gZ,gS] at S3;have hwhich:=zX at3 [[111,114],[120,111,114]] (xN (l:=[[111,114],[120,111,114]]) N3 (by decide)) (by intro x hx;simp at hx;rcases hx with rfl | rfl<;>exact hS.known _ (by first | exact .inl (by decide) | exact .inr ⟨by decide,by decide⟩) (by decide));clear N3;go_wp2_with fail;refine hwhich.mono ?_;rintro r w4 ⟨rfl,b4⟩;have T4:=T3.under b4 (by have:=HY.out;omega);have X4:=(b4.block _ (zC X3)).trans X3;have he4:=he3.under b4;have A4:=A3.trans (aside b4) A3.size;have at4:=at3.past b4;have y4:=b4.size;clear hwhich S3 T3 X3 he3 A3 at3 b4;rcases lv_or I n with ⟨q1,q2⟩ | ⟨j,hj,q1,q2⟩
   ·rw [q1]
    have HQ:=zD q2;clear q1 q2;have K3:=T4.at K0 nR (by have:=HZ.out;omega);have X3:=X4;have HA4:=zD at4;clear at4 T4 X4;have fa:=fun o=>fo K3 o;obtain ⟨ca0,ca1,ca2,ca3,ca4,ca5⟩:=zH K3;obtain ⟨cb0,cb1,cb2,cb3,cb4,cb5⟩:=zH X3;clear K3 X3;go_wp2;refine bodyPost_ret (v:=exA y) (by simp [exA,results,Tryz.results87,go_sem,ca0,ca1,ca2,ca3,ca4,ca5]) rfl ⟨y,e,rfl,(he4.put6 (k:=w.heap.size) (by have:=HZ.out;omega) y).wide (fun i hi _=>by have:=HZ.out;omega),A4.put6 (k:=w.heap.size) nR y,?_⟩;exact qB hgo.out (HA4.out.put6 (k:=w.heap.size) (by omega) (by omega) y) (fun p2 n2 e2=>by cases e2;exact zAc HQ.out _)
   ·rw [q1]
    have hlt:n<I.L.length:=zBj (a:=11) (c:=12) (by rw [q2];omega);obtain ⟨kk,hkk⟩:∃ kk:Int,kk=11+(j:Int):=⟨_,rfl⟩;rw [←hkk] at q2;obtain ⟨hp,hL,hc,hM⟩:=hgo.out;have hfn:=zAF hgo.out hfew;obtain ⟨f,rfl⟩:∃ f,gk=f+1:=⟨gk-1,by omega⟩;have hst:=zD (hM.trans (zAd (R:=R) (e:=e) (a:=11) (c:=12) (n:=n) (by rw [q2];omega) f));rw [q2] at hst;have HP:=zD hp;have HC:=zD hc;have HF:=zD hfn;have HL:=zD hL;have HKK:=zD hkk;clear hgo hM q1 q2 hp hc hfn hL hkk;have hle:=Rr.le at4;have hcm:=Rr.cm at4;have hlc:=Rr.lc at4;unfold maxLen at hcm;have f4:=fun o=>Rr.free at4 o;obtain ⟨d0,d1,d2,d3,d4,d5,hd⟩:=Rr.cells at4;go_wp2_with fail;obtain ⟨w5,hw5⟩:=nm (w4.setCell ⟨b,1,none⟩ (.int .i64 ((n:Int)+1)));have at5:At w5 b g cap ao I (.ok p (n+1)):=(by rw [hw5];exact Rr.stepAt at4 hlt);have a5:Aside [b] w4.heap.size w4 w5:=(by rw [hw5];exact Aside.setCell (by simp) _);have A5:=A4.trans a5 A4.size;have T5:=T4.past a5 hbb (by have:=HY.out;omega);have X5:=a5.keep X4 (zC X4) (by simp;have:=A4.size;have:=HY.out;have:=HZ.out;omega);have he5:=he4.past a5 (fun i hi=>by simp;have:=HZ.out;omega);have y5:=a5.size;have yw5:=A5.size;rw [←hw5];clear hw5 d0 d1 d2 d3 d4 d5 hd f4 at4 A4 T4 X4 he4 a5 hle hcm hlc;have hf5:FewS I (.ok p (n+1)):=fun p2 n2 e2=>by
     cases e2
     obtain ⟨u1,u2⟩:=HF.out p n rfl;exact ⟨u1,by omega⟩
    refine (qN hA hB at5 (by omega) hf5).mono ?_;rintro r w6 ⟨y6,x6,rfl,hx6,a6,at6,got6⟩;have A6:=A5.trans a6 yw5;have T6:=T5.past a6 hbb (by have:=HY.out;omega);have X6:=a6.keep X5 (zC X5) (by simp;have:=HY.out;have:=HZ.out;omega);have he6:=he5.past a6 (fun i hi=>by simp;have:=HZ.out;omega);have y6':=a6.size;have hx6':=hx6.wide (ok':=fun i=>W.heap.size≤i∧i≠w1.heap.size) (fun i hi _=>by have:=HY.out;omega);have HF6:=zD (vB hN hf5);have HG6:=zD got6;clear A5 T5 X5 he5 at5 a6 hx6 hf5 got6;unfold exA;obtain ⟨w7,hw7⟩:=nm (w6.alloc (.cells (exC y6) 45 (0,0)));have b7:=xA hw7;have Y7:=xE hw7;have z7:=xU hw7;have Z7:=zD z7;have A7:=A6.trans (aside b7) A6.size;have T7:=T6.under b7 (by have:=HY.out;omega);have X7:=(b7.block _ (zC X6)).trans X6;have he7:=he6.under b7;have hx7:=hx6'.under b7;have at7:=at6.past b7;go_wp2_with fail;rw [←hw7];clear hw7 z7 b7 A6 T6 X6 he6 hx6' at6;have KK7:=T7.at KK (by omega) (by have:=HZ.out;omega);have KJ7:=T7.at KJ (by omega) (by have:=HZ.out;omega);have bd:Below w7.heap.size w7 w7.drew:=(Below.refl _ w7).drew;have A8:=A7.drew;have T8:=T7.under bd (by have:=HY.out;have:=Z7.out;omega);have X8:w7.drew.heap[w1.heap.size]?=some (.cells (exC y) 45 (0,0)):=X7;have Y8:w7.drew.heap[w6.heap.size]?=some (.cells (exC y6) 45 (0,0)):=Y7;have KK8:=(bd.block _ (zC KK7)).trans KK7;have KJ8:=(bd.block _ (zC KJ7)).trans KJ7;have he8:=he7.under bd;have hx8:=hx7.under bd;have at8:=at7.past bd;have z8:w7.drew.heap.size=w7.heap.size:=rfl;refine zL (fun w'=>w'.cell? ⟨w1.heap.size,0,none⟩=some (.int .i64 y.op)∧w'.cell? ⟨w1.heap.size,1,none⟩=some (.int .i64 y.k)∧w'.cell? ⟨w1.heap.size,2,none⟩=some (.int .i64 y.n)∧w'.cell? ⟨w1.heap.size,3,none⟩=some (.string y.name)∧w'.cell? ⟨w1.heap.size,4,none⟩=some (.slice y.aS y.nS y.cS)∧w'.cell? ⟨w1.heap.size,5,none⟩=some (.slice y.aL y.nL y.cL)∧w'.cell? ⟨w6.heap.size,0,none⟩=some (.int .i64 y6.op)∧w'.cell? ⟨w6.heap.size,1,none⟩=some (.int .i64 y6.k)∧w'.cell? ⟨w6.heap.size,2,none⟩=some (.int .i64 y6.n)∧w'.cell? ⟨w6.heap.size,3,none⟩=some (.string y6.name)∧w'.cell? ⟨w6.heap.size,4,none⟩=some (.slice y6.aS y6.nS y6.cS)∧w'.cell? ⟨w6.heap.size,5,none⟩=some (.slice y6.aL y6.nL y6.cL)∧w'.cell? ⟨w.heap.size+1+1+1+1+1+1+1+1+1+1+1+1,0,none⟩=some (.slice (some ⟨w.heap.size+1+1+1+1+1+1+1,0,none⟩) 2 2)∧w'.cell? ⟨w.heap.size+1+1+1+1+1+1+1,j,none⟩=some (.int .i64 kk)) (fun j=>decide (j=13)) (by kernel_rfl) ?_;generalize w7.drew=wd at A8 T8 X8 Y8 KK8 KJ8 he8 hx8 at8 z8 ⊢;have Z8:=zD z8;have hjI:(j:Int)<2:=(by omega);clear A7 T7 X7 Y7 KK7 KJ7 he7 hx7 at7 bd z8;obtain ⟨cx0,cx1,cx2,cx3,cx4,cx5⟩:=zH X8;obtain ⟨cy0,cy1,cy2,cy3,cy4,cy5⟩:=zH Y8;have ck:=co KK8 0;simp only [gT,gZ,gS] at ck;have cj:_=some (Value.int .i64 kk):=(co KJ8 j).trans (by rw [HKK.out];rcases (show j=0∨j=1 by omega) with rfl | rfl<;>rfl);have hH:=And.intro cx0 (And.intro cx1 (And.intro cx2 (And.intro cx3 (And.intro cx4 (And.intro cx5 (And.intro cy0 (And.intro cy1 (And.intro cy2 (And.intro cy3 (And.intro cy4 (And.intro cy5 (And.intro ck (cj)))))))))))));clear cx0 cx1 cx2 cx3 cx4 cx5 cy0 cy1 cy2 cy3 cy4 cy5 ck cj;refine' zE (i:=0) (v:=_) rfl (by kernel_rfl) (by kernel_rfl) (by kernel_rfl) (by kernel_rfl) (fun _ _ _ h=>h) hH (by rfl) ?hyv ?o1
    case hyv=>
     intro wz hSw;obtain ⟨cx0,cx1,cx2,cx3,cx4,cx5,cy0,cy1,cy2,cy3,cy4,cy5,ck,cj⟩:=hSw;go_simp
     try rfl
    try simp only [Act.put,sT,sZ,sS]
    refine' zE (i:=1) (v:=_) rfl (by kernel_rfl) (by kernel_rfl) (by kernel_rfl) (by kernel_rfl) (fun _ _ _ h=>h) hH (by rfl) ?hyv ?o2
    case hyv=>
     intro wz hSw;obtain ⟨cx0,cx1,cx2,cx3,cx4,cx5,cy0,cy1,cy2,cy3,cy4,cy5,ck,cj⟩:=hSw;go_simp
     try rfl
    try simp only [Act.put,sT,sZ,sS]
    refine' zE (i:=2) (v:=_) rfl (by kernel_rfl) (by kernel_rfl) (by kernel_rfl) (by kernel_rfl) (fun _ _ _ h=>h) hH (by rfl) ?hyv ?o3
    case hyv=>
     intro wz hSw;obtain ⟨cx0,cx1,cx2,cx3,cx4,cx5,cy0,cy1,cy2,cy3,cy4,cy5,ck,cj⟩:=hSw;go_simp
     try rfl
    try simp only [Act.put,sT,sZ,sS]
    refine' zE (i:=3) (v:=_) rfl (by kernel_rfl) (by kernel_rfl) (by kernel_rfl) (by kernel_rfl) (fun _ _ _ h=>h) hH (by rfl) ?hyv ?o4
    case hyv=>
     intro wz hSw;obtain ⟨cx0,cx1,cx2,cx3,cx4,cx5,cy0,cy1,cy2,cy3,cy4,cy5,ck,cj⟩:=hSw;go_simp
     try rfl
    try simp only [Act.put,sT,sZ,sS]
    refine' zE (i:=4) (v:=_) rfl (by kernel_rfl) (by kernel_rfl) (by kernel_rfl) (by kernel_rfl) (fun _ _ _ h=>h) hH (by rfl) ?hyv ?o5
    case hyv=>
     intro wz hSw;obtain ⟨cx0,cx1,cx2,cx3,cx4,cx5,cy0,cy1,cy2,cy3,cy4,cy5,ck,cj⟩:=hSw;go_simp
     try rfl
    try simp only [Act.put,sT,sZ,sS]
    refine' zE (i:=5) (v:=_) rfl (by kernel_rfl) (by kernel_rfl) (by kernel_rfl) (by kernel_rfl) (fun _ _ _ h=>h) hH (by rfl) ?hyv ?o6
    case hyv=>
     intro wz hSw;obtain ⟨cx0,cx1,cx2,cx3,cx4,cx5,cy0,cy1,cy2,cy3,cy4,cy5,ck,cj⟩:=hSw;go_simp
     try rfl
    try simp only [Act.put,sT,sZ,sS]
    refine' zE (i:=6) (v:=_) rfl (by kernel_rfl) (by kernel_rfl) (by kernel_rfl) (by kernel_rfl) (fun _ _ _ h=>h) hH (by rfl) ?hyv ?o7
    case hyv=>
     intro wz hSw;obtain ⟨cx0,cx1,cx2,cx3,cx4,cx5,cy0,cy1,cy2,cy3,cy4,cy5,ck,cj⟩:=hSw;go_simp
     try rw [if_pos hjI]
     try rfl
    try simp only [Act.put,sT,sZ,sS]
    refine' zE (i:=7) (v:=_) rfl (by kernel_rfl) (by kernel_rfl) (by kernel_rfl) (by kernel_rfl) (fun _ _ _ h=>h) hH (by rfl) ?hyv ?o8
    case hyv=>
     intro wz hSw;obtain ⟨cx0,cx1,cx2,cx3,cx4,cx5,cy0,cy1,cy2,cy3,cy4,cy5,ck,cj⟩:=hSw;go_simp
     try rfl
    try simp only [Act.put,sT,sZ,sS]
    refine' zE (i:=8) (v:=_) rfl (by kernel_rfl) (by kernel_rfl) (by kernel_rfl) (by kernel_rfl) (fun _ _ _ h=>h) hH (by rfl) ?hyv ?o9
    case hyv=>
     intro wz hSw;obtain ⟨cx0,cx1,cx2,cx3,cx4,cx5,cy0,cy1,cy2,cy3,cy4,cy5,ck,cj⟩:=hSw;go_simp
     try rfl
    try simp only [Act.put,sT,sZ,sS]
    refine' zE (i:=9) (v:=_) rfl (by kernel_rfl) (by kernel_rfl) (by kernel_rfl) (by kernel_rfl) (fun _ _ _ h=>h) hH (by rfl) ?hyv ?o10
    case hyv=>
     intro wz hSw;obtain ⟨cx0,cx1,cx2,cx3,cx4,cx5,cy0,cy1,cy2,cy3,cy4,cy5,ck,cj⟩:=hSw;go_simp
     try rfl
    try simp only [Act.put,sT,sZ,sS]
    refine zG (i:=10) rfl (by kernel_rfl) (by rfl) (fun K hK=>?_);go_simp;obtain ⟨w9,hw9⟩:=nm (wd.alloc (.cells #[.int .i64 y.op,.int .i64 y.k,.int .i64 y.n,.string y.name,.slice y.aS y.nS y.cS,.slice y.aL y.nL y.cL,.int .i64 y6.op,.int .i64 y6.k,.int .i64 y6.n,.string y6.name,.slice y6.aS y6.nS y6.cS,.slice y6.aL y6.nL y6.cL] 45 (0,0)));have b9:=xA hw9;have hez:HEx (fun i=>W.heap.size≤i∧i≠w1.heap.size) w9 (ExV.cells ⟨5,kk,0,⟨#[]⟩,none,0,0,some ⟨wd.heap.size,0,none⟩,2,2⟩) (.mk 5 kk 0 ⟨#[]⟩ [] [e,x6]):=by
     rw [hw9];exact HEx.pair kk he8 hx8 45 (by have:=Z8.out;have:=Z7.out;have:=HY.out;omega)
    rw [←hw9];have A9:=A8.trans (aside b9) A8.size;have T9:=T8.under b9 (by have:=Z8.out;have:=Z7.out;have:=HY.out;omega);have X9:=(b9.block _ (zC X8)).trans X8;have Y9:=(b9.block _ (zC Y8)).trans Y8;have KK9:=(b9.block _ (zC KK8)).trans KK8;have KJ9:=(b9.block _ (zC KJ8)).trans KJ8;have at9:=at8.past b9;have y9:=b9.size;clear hH hw9 A8 T8 X8 Y8 KK8 KJ8 he8 hx8 at8;obtain ⟨cx0,cx1,cx2,cx3,cx4,cx5⟩:=zH X9;obtain ⟨cy0,cy1,cy2,cy3,cy4,cy5⟩:=zH Y9;have ck:=co KK9 0;simp only [gT,gZ,gS] at ck;have cj:_=some (Value.int .i64 kk):=(co KJ9 j).trans (by rw [HKK.out];rcases (show j=0∨j=1 by omega) with rfl | rfl<;>rfl);have hH:=And.intro cx0 (And.intro cx1 (And.intro cx2 (And.intro cx3 (And.intro cx4 (And.intro cx5 (And.intro cy0 (And.intro cy1 (And.intro cy2 (And.intro cy3 (And.intro cy4 (And.intro cy5 (And.intro ck (cj)))))))))))));clear cx0 cx1 cx2 cx3 cx4 cx5 cy0 cy1 cy2 cy3 cy4 cy5 ck cj;refine hK.out _ _ (fun _=>hH) ?_;clear hK K
    try simp only [Act.put,sT,sZ,sS]
    refine' zE (i:=11) (v:=_) rfl (by kernel_rfl) (by kernel_rfl) (by kernel_rfl) (by kernel_rfl) (fun _ _ _ h=>h) hH (by rfl) ?hyv ?o11
    case hyv=>
     intro wz hSw;obtain ⟨cx0,cx1,cx2,cx3,cx4,cx5,cy0,cy1,cy2,cy3,cy4,cy5,ck,cj⟩:=hSw;go_simp
     try rfl
    try simp only [Act.put,sT,sZ,sS]
    refine zG (i:=12) rfl (by kernel_rfl) (by rfl) (fun K hK=>?_);go_simp;refine (vQ at9 HF6.out ⟨5,kk,0,⟨#[]⟩,none,0,0,some ⟨wd.heap.size,0,none⟩,2,2⟩).mono ?_;rintro r wa ⟨rfl,ata,aa⟩;have Aa:=A9.trans aa A9.size;have Ta:=T9.past aa hbb (by have:=Z8.out;have:=Z7.out;have:=HY.out;omega);have Xa:=aa.keep X9 (zC X9) (by simp;have:=HY.out;have:=HZ.out;omega);have Ya:=aa.keep Y9 (zC Y9) (by simp;have:=HY.out;have:=HZ.out;omega);have KKa:=aa.keep KK9 (zC KK9) (by simp;omega);have KJa:=aa.keep KJ9 (zC KJ9) (by simp;omega);have hea:=hez.past aa (fun i hi=>by simp;have:=HZ.out;omega);have ya:=aa.size;clear hH A9 T9 X9 Y9 KK9 KJ9 hez at9 aa;obtain ⟨cx0,cx1,cx2,cx3,cx4,cx5⟩:=zH Xa;obtain ⟨cy0,cy1,cy2,cy3,cy4,cy5⟩:=zH Ya;have ck:=co KKa 0;simp only [gT,gZ,gS] at ck;have cj:_=some (Value.int .i64 kk):=(co KJa j).trans (by rw [HKK.out];rcases (show j=0∨j=1 by omega) with rfl | rfl<;>rfl);have hH:=And.intro cx0 (And.intro cx1 (And.intro cx2 (And.intro cx3 (And.intro cx4 (And.intro cx5 (And.intro cy0 (And.intro cy1 (And.intro cy2 (And.intro cy3 (And.intro cy4 (And.intro cy5 (And.intro ck (cj)))))))))))));clear cx0 cx1 cx2 cx3 cx4 cx5 cy0 cy1 cy2 cy3 cy4 cy5 ck cj;have fx:=fun o=>fo Xa o;refine hK.out _ _ (fun _=>hH) ?_;clear hK K
    try simp only [Act.put,sT,sZ,sS]
    obtain ⟨cx0,cx1,cx2,cx3,cx4,cx5,cy0,cy1,cy2,cy3,cy4,cy5,ck,cj⟩:=hH;refine zG (i:=13) rfl (by kernel_rfl) (by rfl) (fun K hK=>?_);unfold exA;go_simp;refine hK.out _ _ (fun h=>by cases h) ?_;clear hK K
    try simp only [Act.put,sT,sZ,sS]
    refine zR (by kernel_rfl) ?_ _;clear cx0 cx1 cx2 cx3 cx4 cx5 cy0 cy1 cy2 cy3 cy4 cy5 ck cj fx;go_wp2_with fail;go_roundg f
    case measure=>omega
    case rel=>exact ⟨partS (exprS R (.ok p (n+1))),(⟨5,kk,0,⟨#[]⟩,none,0,0,some ⟨wd.heap.size,0,none⟩,2,2⟩:ExV),.mk 5 kk 0 ⟨#[]⟩ [] [e,x6],hea.put6 (k:=w1.heap.size) (by simp) (⟨5,kk,0,⟨#[]⟩,none,0,0,some ⟨wd.heap.size,0,none⟩,2,2⟩:ExV),ata.put6 (k:=w1.heap.size) (by have:=HY.out;have:=HZ.out;omega) (by have:=HY.out;have:=HZ.out;omega) (⟨5,kk,0,⟨#[]⟩,none,0,0,some ⟨wd.heap.size,0,none⟩,2,2⟩:ExV),Aa.put6 (k:=w1.heap.size) (by have:=HY.out;have:=HZ.out;omega) (⟨5,kk,0,⟨#[]⟩,none,0,0,some ⟨wd.heap.size,0,none⟩,2,2⟩:ExV),Ta.put6 (k:=w1.heap.size) HY.out (⟨5,kk,0,⟨#[]⟩,none,0,0,some ⟨wd.heap.size,0,none⟩,2,2⟩:ExV),zAO Xa (⟨5,kk,0,⟨#[]⟩,none,0,0,some ⟨wd.heap.size,0,none⟩,2,2⟩:ExV),zAi hN hst.out HP.out HL.out HC.out HG6.out⟩
theorem level1_any {op:Nat} {R:Nat→Res Ex} (hA:XDoes 87 [.int .i64 2,.int .i64 (op:Int)] b g cap ao I R) (hB:XBad 87 [.int .i64 2,.int .i64 (op:Int)] b g cap ao I) (hN:Nice R) (hS:Sure I):XDoes 87 [.int .i64 1,.int .i64 (op:Int)] b g cap ao I (Ps.fromLeft I R 10 10):=by
 intro nx pt w h hgb hfew
 show Calls Tryz.prog 87 #[.pointer (some ⟨b,0,none⟩),.int .i64 1,.int .i64 (op:Int)] w _
 have hbb:=h.cells.2.2.2.2.2.2;have bT:=xX w;have zT:=qE w;have K0:=qT w;have KS:=zBE w;have KN:=tabW_at2 w;have KK:=zAZ w;have KJ:=tabW_at8 w;unfold tab0 at K0;unfold tab6 at KS;unfold tab2 at KN;unfold tab12 at KK;unfold tab8 at KJ;have hW:tabW w=_:=rfl;unfold tabW at hW;go_enter Tryz.func87,Tryz.ntmps87;go_wp2_with fail;obtain ⟨W,hWW⟩:=nm (tabW w);rw [←hWW] at bT zT K0 KS KN KK KJ;have hcall:=qN hA hB (s:=.ok pt nx) (show At W b g cap ao I (.ok pt nx) from h.past bT) (by omega) (fun _ _ e=>by cases e;exact hfew);rw [hWW] at hcall;refine Calls.mono hcall ?_;rintro e w1 ⟨y,x,rfl,hx,a1,at1,got1⟩;rw [←hWW] at hx a1;have T1:Held w.heap.size W.heap.size W w1:=Held.past (fun i _ _=>rfl) a1 hbb nR;have A1:=(aside bT (S:=[b])).trans a1 bT.size;have y1:=a1.size;obtain ⟨k0,hg0⟩:∃ k0,Goes (Ps.fromLeft I R 10 10 nx) (Ps.more I R 10 10) I nx pt k0 x (exprS R (.ok pt nx)):=
  zAn hN rfl got1
 have HG0:=zD hg0;have HZ:=zD zT;have HY:=zD y1;generalize exprS R (.ok pt nx)=s0 at at1 HG0;clear hg0 got1 hW hWW hcall bT zT a1 y1;unfold exA;obtain ⟨w2,hw2⟩:=nm (w1.alloc (.cells (exC y) 45 (0,0)));have X2:=xE hw2;have at2:At w2 b g cap ao I s0:=(by rw [hw2];exact at1.alloc _);have A2:Aside [b] w.heap.size w w2:=(by rw [hw2];exact A1.alloc A1.size _);have T2:Held w.heap.size W.heap.size W w2:=(by rw [hw2];exact T1.under ((Below.refl _ _).alloc nR _) HY.out);have hx2:HEx (fun i=>W.heap.size≤i∧i≠w1.heap.size) w2 y.cells x:=(by rw [hw2];exact (hx.wide (ok':=fun i=>W.heap.size≤i∧i≠w1.heap.size) (fun i hi hl=>⟨hi,by omega⟩)).under ((Below.refl _ w1).alloc nR _));go_wp2_with fail;rw [←hw2];clear hw2 at1 A1 T1 hx;go_loopg [10,11] k0 (fun k v u wr=>∃ (s:Res Int) (y:ExV) (e:Ex),HEx (fun i=>W.heap.size≤i∧i≠w1.heap.size) wr y.cells e∧At wr b g cap ao I s∧Aside [b] w.heap.size w wr∧Held w.heap.size W.heap.size W wr∧wr.heap[w1.heap.size]?=some (.cells (exC y) 45 (0,0))∧Hid (Goes (Ps.fromLeft I R 10 10 nx) (Ps.more I R 10 10) I nx pt k e s))
 case atStart=>exact ⟨s0,y,x,hx2,at2,A2,T2,X2,HG0⟩
 case round=>
  clear hx2 at2 A2 T2 X2 HG0;obtain ⟨s,y,e,he,hat,has,hT,hX,hgo⟩:=hrel;have zr:=zC hX
  cases s with
  | err c0 a0=>
   have hbad:=jP hat;go_wp2_with fail;refine hbad.mono ?_;rintro r w3 ⟨rfl,b3⟩;have K3:=(hT.under b3 (by have:=HY.out;omega)).at K0 nR (by have:=HZ.out;omega);have X3:=(b3.block _ (zC hX)).trans hX;have he3:=he.under b3;have A3:=has.trans (aside b3) has.size;have at3:=hat.past b3;have HA3:=zD at3;clear hbad he hat has hT hX b3 at3;have fa:=fun o=>fo K3 o;obtain ⟨ca0,ca1,ca2,ca3,ca4,ca5⟩:=zH K3;obtain ⟨cb0,cb1,cb2,cb3,cb4,cb5⟩:=zH X3;clear K3 X3;go_wp2;refine bodyPost_ret (v:=exA y) (by simp [exA,results,Tryz.results87,go_sem,ca0,ca1,ca2,ca3,ca4,ca5]) rfl ⟨y,e,rfl,(he3.put6 (k:=w.heap.size) (by have:=HZ.out;omega) y).wide (fun i hi _=>by have:=HZ.out;omega),A3.put6 (k:=w.heap.size) nR y,?_⟩;exact qB hgo.out (HA3.out.put6 (k:=w.heap.size) (by omega) (by omega) y) (fun p n e=>by cases e)
  | ok p n=>
   have hbad:=qP hat;go_wp2_with fail;refine hbad.mono ?_;rintro r w3 ⟨rfl,b3⟩;have T3:=hT.under b3 (by have:=HY.out;omega);have X3:=(b3.block _ (zC hX)).trans hX;have he3:=he.under b3;have A3:=has.trans (aside b3) has.size;have at3:=hat.past b3;have y3:=b3.size;clear hbad he hat has hT hX b3;have S3:=co (T3.at KS (by omega) (by have:=HZ.out;omega)) 1;have N3:=T3.at KN (by omega) (by have:=HZ.out;omega);simp only [gT,gZ,gS] at S3;have hwhich:=zX at3 [[97,110,100]] (xN (l:=[[97,110,100]]) N3 (by decide)) (by intro x hx;simp at hx;subst hx<;>exact hS.known _ (by first | exact .inl (by decide) | exact .inr ⟨by decide,by decide⟩) (by decide));clear N3;go_wp2_with fail;refine hwhich.mono ?_;rintro r w4 ⟨rfl,b4⟩;have T4:=T3.under b4 (by have:=HY.out;omega);have X4:=(b4.block _ (zC X3)).trans X3;have he4:=he3.under b4;have A4:=A3.trans (aside b4) A3.size;have at4:=at3.past b4;have y4:=b4.size;clear hwhich S3 T3 X3 he3 A3 at3 b4;rcases lv_and I n with ⟨q1,q2⟩ | ⟨j,hj,q1,q2⟩
   ·rw [q1]
    have HQ:=zD q2;clear q1 q2;have K3:=T4.at K0 nR (by have:=HZ.out;omega);have X3:=X4;have HA4:=zD at4;clear at4 T4 X4;have fa:=fun o=>fo K3 o;obtain ⟨ca0,ca1,ca2,ca3,ca4,ca5⟩:=zH K3;obtain ⟨cb0,cb1,cb2,cb3,cb4,cb5⟩:=zH X3;clear K3 X3;go_wp2;refine bodyPost_ret (v:=exA y) (by simp [exA,results,Tryz.results87,go_sem,ca0,ca1,ca2,ca3,ca4,ca5]) rfl ⟨y,e,rfl,(he4.put6 (k:=w.heap.size) (by have:=HZ.out;omega) y).wide (fun i hi _=>by have:=HZ.out;omega),A4.put6 (k:=w.heap.size) nR y,?_⟩;exact qB hgo.out (HA4.out.put6 (k:=w.heap.size) (by omega) (by omega) y) (fun p2 n2 e2=>by cases e2;exact zAc HQ.out _)
   ·rw [q1]
    have hlt:n<I.L.length:=zBj (a:=10) (c:=10) (by rw [q2];omega);obtain ⟨kk,hkk⟩:∃ kk:Int,kk=10+(j:Int):=⟨_,rfl⟩;rw [←hkk] at q2;obtain ⟨hp,hL,hc,hM⟩:=hgo.out;have hfn:=zAF hgo.out hfew;obtain ⟨f,rfl⟩:∃ f,gk=f+1:=⟨gk-1,by omega⟩;have hst:=zD (hM.trans (zAd (R:=R) (e:=e) (a:=10) (c:=10) (n:=n) (by rw [q2];omega) f));rw [q2] at hst;have HP:=zD hp;have HC:=zD hc;have HF:=zD hfn;have HL:=zD hL;have HKK:=zD hkk;clear hgo hM q1 q2 hp hc hfn hL hkk;have hle:=Rr.le at4;have hcm:=Rr.cm at4;have hlc:=Rr.lc at4;unfold maxLen at hcm;have f4:=fun o=>Rr.free at4 o;obtain ⟨d0,d1,d2,d3,d4,d5,hd⟩:=Rr.cells at4;go_wp2_with fail;obtain ⟨w5,hw5⟩:=nm (w4.setCell ⟨b,1,none⟩ (.int .i64 ((n:Int)+1)));have at5:At w5 b g cap ao I (.ok p (n+1)):=(by rw [hw5];exact Rr.stepAt at4 hlt);have a5:Aside [b] w4.heap.size w4 w5:=(by rw [hw5];exact Aside.setCell (by simp) _);have A5:=A4.trans a5 A4.size;have T5:=T4.past a5 hbb (by have:=HY.out;omega);have X5:=a5.keep X4 (zC X4) (by simp;have:=A4.size;have:=HY.out;have:=HZ.out;omega);have he5:=he4.past a5 (fun i hi=>by simp;have:=HZ.out;omega);have y5:=a5.size;have yw5:=A5.size;rw [←hw5];clear hw5 d0 d1 d2 d3 d4 d5 hd f4 at4 A4 T4 X4 he4 a5 hle hcm hlc;have hf5:FewS I (.ok p (n+1)):=fun p2 n2 e2=>by
     cases e2
     obtain ⟨u1,u2⟩:=HF.out p n rfl;exact ⟨u1,by omega⟩
    refine (qN hA hB at5 (by omega) hf5).mono ?_;rintro r w6 ⟨y6,x6,rfl,hx6,a6,at6,got6⟩;have A6:=A5.trans a6 yw5;have T6:=T5.past a6 hbb (by have:=HY.out;omega);have X6:=a6.keep X5 (zC X5) (by simp;have:=HY.out;have:=HZ.out;omega);have he6:=he5.past a6 (fun i hi=>by simp;have:=HZ.out;omega);have y6':=a6.size;have hx6':=hx6.wide (ok':=fun i=>W.heap.size≤i∧i≠w1.heap.size) (fun i hi _=>by have:=HY.out;omega);have HF6:=zD (vB hN hf5);have HG6:=zD got6;clear A5 T5 X5 he5 at5 a6 hx6 hf5 got6;unfold exA;obtain ⟨w7,hw7⟩:=nm (w6.alloc (.cells (exC y6) 45 (0,0)));have b7:=xA hw7;have Y7:=xE hw7;have z7:=xU hw7;have Z7:=zD z7;have A7:=A6.trans (aside b7) A6.size;have T7:=T6.under b7 (by have:=HY.out;omega);have X7:=(b7.block _ (zC X6)).trans X6;have he7:=he6.under b7;have hx7:=hx6'.under b7;have at7:=at6.past b7;go_wp2_with fail;rw [←hw7];clear hw7 z7 b7 A6 T6 X6 he6 hx6' at6;have KK7:=T7.at KK (by omega) (by have:=HZ.out;omega);have KJ7:=T7.at KJ (by omega) (by have:=HZ.out;omega);have bd:Below w7.heap.size w7 w7.drew:=(Below.refl _ w7).drew;have A8:=A7.drew;have T8:=T7.under bd (by have:=HY.out;have:=Z7.out;omega);have X8:w7.drew.heap[w1.heap.size]?=some (.cells (exC y) 45 (0,0)):=X7;have Y8:w7.drew.heap[w6.heap.size]?=some (.cells (exC y6) 45 (0,0)):=Y7;have KK8:=(bd.block _ (zC KK7)).trans KK7;have KJ8:=(bd.block _ (zC KJ7)).trans KJ7;have he8:=he7.under bd;have hx8:=hx7.under bd;have at8:=at7.past bd;have z8:w7.drew.heap.size=w7.heap.size:=rfl;refine zL (fun w'=>w'.cell? ⟨w1.heap.size,0,none⟩=some (.int .i64 y.op)∧w'.cell? ⟨w1.heap.size,1,none⟩=some (.int .i64 y.k)∧w'.cell? ⟨w1.heap.size,2,none⟩=some (.int .i64 y.n)∧w'.cell? ⟨w1.heap.size,3,none⟩=some (.string y.name)∧w'.cell? ⟨w1.heap.size,4,none⟩=some (.slice y.aS y.nS y.cS)∧w'.cell? ⟨w1.heap.size,5,none⟩=some (.slice y.aL y.nL y.cL)∧w'.cell? ⟨w6.heap.size,0,none⟩=some (.int .i64 y6.op)∧w'.cell? ⟨w6.heap.size,1,none⟩=some (.int .i64 y6.k)∧w'.cell? ⟨w6.heap.size,2,none⟩=some (.int .i64 y6.n)∧w'.cell? ⟨w6.heap.size,3,none⟩=some (.string y6.name)∧w'.cell? ⟨w6.heap.size,4,none⟩=some (.slice y6.aS y6.nS y6.cS)∧w'.cell? ⟨w6.heap.size,5,none⟩=some (.slice y6.aL y6.nL y6.cL)∧w'.cell? ⟨w.heap.size+1+1+1+1+1+1+1+1+1+1+1+1,1,none⟩=some (.slice (some ⟨w.heap.size+1+1+1+1+1+1+1+1,0,none⟩) 1 1)∧w'.cell? ⟨w.heap.size+1+1+1+1+1+1+1+1,j,none⟩=some (.int .i64 kk)) (fun j=>decide (j=13)) (by kernel_rfl) ?_;generalize w7.drew=wd at A8 T8 X8 Y8 KK8 KJ8 he8 hx8 at8 z8 ⊢;have Z8:=zD z8;have hjI:(j:Int)<1:=(by omega);clear A7 T7 X7 Y7 KK7 KJ7 he7 hx7 at7 bd z8;obtain ⟨cx0,cx1,cx2,cx3,cx4,cx5⟩:=zH X8;obtain ⟨cy0,cy1,cy2,cy3,cy4,cy5⟩:=zH Y8;have ck:=co KK8 1;simp only [gT,gZ,gS] at ck;have cj:_=some (Value.int .i64 kk):=(co KJ8 j).trans (by rw [HKK.out];rcases (show j=0∨j=0 by omega) with rfl | rfl<;>rfl);have hH:=And.intro cx0 (And.intro cx1 (And.intro cx2 (And.intro cx3 (And.intro cx4 (And.intro cx5 (And.intro cy0 (And.intro cy1 (And.intro cy2 (And.intro cy3 (And.intro cy4 (And.intro cy5 (And.intro ck (cj)))))))))))));clear cx0 cx1 cx2 cx3 cx4 cx5 cy0 cy1 cy2 cy3 cy4 cy5 ck cj;refine' zE (i:=0) (v:=_) rfl (by kernel_rfl) (by kernel_rfl) (by kernel_rfl) (by kernel_rfl) (fun _ _ _ h=>h) hH (by rfl) ?hyv ?o12
    case hyv=>
     intro wz hSw;obtain ⟨cx0,cx1,cx2,cx3,cx4,cx5,cy0,cy1,cy2,cy3,cy4,cy5,ck,cj⟩:=hSw;go_simp
     try rfl
    try simp only [Act.put,sT,sZ,sS]
    refine' zE (i:=1) (v:=_) rfl (by kernel_rfl) (by kernel_rfl) (by kernel_rfl) (by kernel_rfl) (fun _ _ _ h=>h) hH (by rfl) ?hyv ?o13
    case hyv=>
     intro wz hSw;obtain ⟨cx0,cx1,cx2,cx3,cx4,cx5,cy0,cy1,cy2,cy3,cy4,cy5,ck,cj⟩:=hSw;go_simp
     try rfl
    try simp only [Act.put,sT,sZ,sS]
    refine' zE (i:=2) (v:=_) rfl (by kernel_rfl) (by kernel_rfl) (by kernel_rfl) (by kernel_rfl) (fun _ _ _ h=>h) hH (by rfl) ?hyv ?o14
    case hyv=>
     intro wz hSw;obtain ⟨cx0,cx1,cx2,cx3,cx4,cx5,cy0,cy1,cy2,cy3,cy4,cy5,ck,cj⟩:=hSw;go_simp
     try rfl
    try simp only [Act.put,sT,sZ,sS]
    refine' zE (i:=3) (v:=_) rfl (by kernel_rfl) (by kernel_rfl) (by kernel_rfl) (by kernel_rfl) (fun _ _ _ h=>h) hH (by rfl) ?hyv ?o15
    case hyv=>
     intro wz hSw;obtain ⟨cx0,cx1,cx2,cx3,cx4,cx5,cy0,cy1,cy2,cy3,cy4,cy5,ck,cj⟩:=hSw;go_simp
     try rfl
    try simp only [Act.put,sT,sZ,sS]
    refine' zE (i:=4) (v:=_) rfl (by kernel_rfl) (by kernel_rfl) (by kernel_rfl) (by kernel_rfl) (fun _ _ _ h=>h) hH (by rfl) ?hyv ?o16
    case hyv=>
     intro wz hSw;obtain ⟨cx0,cx1,cx2,cx3,cx4,cx5,cy0,cy1,cy2,cy3,cy4,cy5,ck,cj⟩:=hSw;go_simp
     try rfl
    try simp only [Act.put,sT,sZ,sS]
    refine' zE (i:=5) (v:=_) rfl (by kernel_rfl) (by kernel_rfl) (by kernel_rfl) (by kernel_rfl) (fun _ _ _ h=>h) hH (by rfl) ?hyv ?o17
    case hyv=>
     intro wz hSw;obtain ⟨cx0,cx1,cx2,cx3,cx4,cx5,cy0,cy1,cy2,cy3,cy4,cy5,ck,cj⟩:=hSw;go_simp
     try rfl
    try simp only [Act.put,sT,sZ,sS]
    refine' zE (i:=6) (v:=_) rfl (by kernel_rfl) (by kernel_rfl) (by kernel_rfl) (by kernel_rfl) (fun _ _ _ h=>h) hH (by rfl) ?hyv ?o18
    case hyv=>
     intro wz hSw;obtain ⟨cx0,cx1,cx2,cx3,cx4,cx5,cy0,cy1,cy2,cy3,cy4,cy5,ck,cj⟩:=hSw;go_simp
     try rw [if_pos hjI]
     try rfl
    try simp only [Act.put,sT,sZ,sS]
    refine' zE (i:=7) (v:=_) rfl (by kernel_rfl) (by kernel_rfl) (by kernel_rfl) (by kernel_rfl) (fun _ _ _ h=>h) hH (by rfl) ?hyv ?o19
    case hyv=>
     intro wz hSw;obtain ⟨cx0,cx1,cx2,cx3,cx4,cx5,cy0,cy1,cy2,cy3,cy4,cy5,ck,cj⟩:=hSw;go_simp
     try rfl
    try simp only [Act.put,sT,sZ,sS]
    refine' zE (i:=8) (v:=_) rfl (by kernel_rfl) (by kernel_rfl) (by kernel_rfl) (by kernel_rfl) (fun _ _ _ h=>h) hH (by rfl) ?hyv ?o20
    case hyv=>
     intro wz hSw;obtain ⟨cx0,cx1,cx2,cx3,cx4,cx5,cy0,cy1,cy2,cy3,cy4,cy5,ck,cj⟩:=hSw;go_simp
     try rfl
    try simp only [Act.put,sT,sZ,sS]
    refine' zE (i:=9) (v:=_) rfl (by kernel_rfl) (by kernel_rfl) (by kernel_rfl) (by kernel_rfl) (fun _ _ _ h=>h) hH (by rfl) ?hyv ?o21
    case hyv=>
     intro wz hSw;obtain ⟨cx0,cx1,cx2,cx3,cx4,cx5,cy0,cy1,cy2,cy3,cy4,cy5,ck,cj⟩:=hSw;go_simp
     try rfl
    try simp only [Act.put,sT,sZ,sS]
    refine zG (i:=10) rfl (by kernel_rfl) (by rfl) (fun K hK=>?_);go_simp;obtain ⟨w9,hw9⟩:=nm (wd.alloc (.cells #[.int .i64 y.op,.int .i64 y.k,.int .i64 y.n,.string y.name,.slice y.aS y.nS y.cS,.slice y.aL y.nL y.cL,.int .i64 y6.op,.int .i64 y6.k,.int .i64 y6.n,.string y6.name,.slice y6.aS y6.nS y6.cS,.slice y6.aL y6.nL y6.cL] 45 (0,0)));have b9:=xA hw9;have hez:HEx (fun i=>W.heap.size≤i∧i≠w1.heap.size) w9 (ExV.cells ⟨5,kk,0,⟨#[]⟩,none,0,0,some ⟨wd.heap.size,0,none⟩,2,2⟩) (.mk 5 kk 0 ⟨#[]⟩ [] [e,x6]):=by
     rw [hw9];exact HEx.pair kk he8 hx8 45 (by have:=Z8.out;have:=Z7.out;have:=HY.out;omega)
    rw [←hw9];have A9:=A8.trans (aside b9) A8.size;have T9:=T8.under b9 (by have:=Z8.out;have:=Z7.out;have:=HY.out;omega);have X9:=(b9.block _ (zC X8)).trans X8;have Y9:=(b9.block _ (zC Y8)).trans Y8;have KK9:=(b9.block _ (zC KK8)).trans KK8;have KJ9:=(b9.block _ (zC KJ8)).trans KJ8;have at9:=at8.past b9;have y9:=b9.size;clear hH hw9 A8 T8 X8 Y8 KK8 KJ8 he8 hx8 at8;obtain ⟨cx0,cx1,cx2,cx3,cx4,cx5⟩:=zH X9;obtain ⟨cy0,cy1,cy2,cy3,cy4,cy5⟩:=zH Y9;have ck:=co KK9 1;simp only [gT,gZ,gS] at ck;have cj:_=some (Value.int .i64 kk):=(co KJ9 j).trans (by rw [HKK.out];rcases (show j=0∨j=0 by omega) with rfl | rfl<;>rfl);have hH:=And.intro cx0 (And.intro cx1 (And.intro cx2 (And.intro cx3 (And.intro cx4 (And.intro cx5 (And.intro cy0 (And.intro cy1 (And.intro cy2 (And.intro cy3 (And.intro cy4 (And.intro cy5 (And.intro ck (cj)))))))))))));clear cx0 cx1 cx2 cx3 cx4 cx5 cy0 cy1 cy2 cy3 cy4 cy5 ck cj;refine hK.out _ _ (fun _=>hH) ?_;clear hK K
    try simp only [Act.put,sT,sZ,sS]
    refine' zE (i:=11) (v:=_) rfl (by kernel_rfl) (by kernel_rfl) (by kernel_rfl) (by kernel_rfl) (fun _ _ _ h=>h) hH (by rfl) ?hyv ?o22
    case hyv=>
     intro wz hSw;obtain ⟨cx0,cx1,cx2,cx3,cx4,cx5,cy0,cy1,cy2,cy3,cy4,cy5,ck,cj⟩:=hSw;go_simp
     try rfl
    try simp only [Act.put,sT,sZ,sS]
    refine zG (i:=12) rfl (by kernel_rfl) (by rfl) (fun K hK=>?_);go_simp;refine (vQ at9 HF6.out ⟨5,kk,0,⟨#[]⟩,none,0,0,some ⟨wd.heap.size,0,none⟩,2,2⟩).mono ?_;rintro r wa ⟨rfl,ata,aa⟩;have Aa:=A9.trans aa A9.size;have Ta:=T9.past aa hbb (by have:=Z8.out;have:=Z7.out;have:=HY.out;omega);have Xa:=aa.keep X9 (zC X9) (by simp;have:=HY.out;have:=HZ.out;omega);have Ya:=aa.keep Y9 (zC Y9) (by simp;have:=HY.out;have:=HZ.out;omega);have KKa:=aa.keep KK9 (zC KK9) (by simp;omega);have KJa:=aa.keep KJ9 (zC KJ9) (by simp;omega);have hea:=hez.past aa (fun i hi=>by simp;have:=HZ.out;omega);have ya:=aa.size;clear hH A9 T9 X9 Y9 KK9 KJ9 hez at9 aa;obtain ⟨cx0,cx1,cx2,cx3,cx4,cx5⟩:=zH Xa;obtain ⟨cy0,cy1,cy2,cy3,cy4,cy5⟩:=zH Ya;have ck:=co KKa 1;simp only [gT,gZ,gS] at ck;have cj:_=some (Value.int .i64 kk):=(co KJa j).trans (by rw [HKK.out];rcases (show j=0∨j=0 by omega) with rfl | rfl<;>rfl);have hH:=And.intro cx0 (And.intro cx1 (And.intro cx2 (And.intro cx3 (And.intro cx4 (And.intro cx5 (And.intro cy0 (And.intro cy1 (And.intro cy2 (And.intro cy3 (And.intro cy4 (And.intro cy5 (And.intro ck (cj)))))))))))));clear cx0 cx1 cx2 cx3 cx4 cx5 cy0 cy1 cy2 cy3 cy4 cy5 ck cj;have fx:=fun o=>fo Xa o;refine hK.out _ _ (fun _=>hH) ?_;clear hK K
    try simp only [Act.put,sT,sZ,sS]
    obtain ⟨cx0,cx1,cx2,cx3,cx4,cx5,cy0,cy1,cy2,cy3,cy4,cy5,ck,cj⟩:=hH;refine zG (i:=13) rfl (by kernel_rfl) (by rfl) (fun K hK=>?_);unfold exA;go_simp;refine hK.out _ _ (fun h=>by cases h) ?_;clear hK K
    try simp only [Act.put,sT,sZ,sS]
    refine zR (by kernel_rfl) ?_ _;clear cx0 cx1 cx2 cx3 cx4 cx5 cy0 cy1 cy2 cy3 cy4 cy5 ck cj fx;go_wp2_with fail;go_roundg f
    case measure=>omega
    case rel=>exact ⟨partS (exprS R (.ok p (n+1))),(⟨5,kk,0,⟨#[]⟩,none,0,0,some ⟨wd.heap.size,0,none⟩,2,2⟩:ExV),.mk 5 kk 0 ⟨#[]⟩ [] [e,x6],hea.put6 (k:=w1.heap.size) (by simp) (⟨5,kk,0,⟨#[]⟩,none,0,0,some ⟨wd.heap.size,0,none⟩,2,2⟩:ExV),ata.put6 (k:=w1.heap.size) (by have:=HY.out;have:=HZ.out;omega) (by have:=HY.out;have:=HZ.out;omega) (⟨5,kk,0,⟨#[]⟩,none,0,0,some ⟨wd.heap.size,0,none⟩,2,2⟩:ExV),Aa.put6 (k:=w1.heap.size) (by have:=HY.out;have:=HZ.out;omega) (⟨5,kk,0,⟨#[]⟩,none,0,0,some ⟨wd.heap.size,0,none⟩,2,2⟩:ExV),Ta.put6 (k:=w1.heap.size) HY.out (⟨5,kk,0,⟨#[]⟩,none,0,0,some ⟨wd.heap.size,0,none⟩,2,2⟩:ExV),zAO Xa (⟨5,kk,0,⟨#[]⟩,none,0,0,some ⟨wd.heap.size,0,none⟩,2,2⟩:ExV),zAi hN hst.out HP.out HL.out HC.out HG6.out⟩
theorem level2_any {op:Nat} {R:Nat→Res Ex} (hA:XDoes 87 [.int .i64 3,.int .i64 (op:Int)] b g cap ao I R) (hB:XBad 87 [.int .i64 3,.int .i64 (op:Int)] b g cap ao I) (hN:Nice R) (hS:Sure I):XDoes 87 [.int .i64 2,.int .i64 (op:Int)] b g cap ao I (Ps.cmp I R):=by
 intro nx pt w h hgb hfew
 show Calls Tryz.prog 87 #[.pointer (some ⟨b,0,none⟩),.int .i64 2,.int .i64 (op:Int)] w _
 have hbb:=h.cells.2.2.2.2.2.2;have bT:=xX w;have zT:=qE w;have K0:=qT w;have KS:=zBE w;have KN:=tabW_at3 w;have KK:=zAZ w;have KJ:=tabW_at9 w;unfold tab0 at K0;unfold tab6 at KS;unfold tab3 at KN;unfold tab12 at KK;unfold tab9 at KJ;have hW:tabW w=_:=rfl;unfold tabW at hW;go_enter Tryz.func87,Tryz.ntmps87;go_wp2_with fail;obtain ⟨W,hWW⟩:=nm (tabW w);rw [←hWW] at bT zT K0 KS KN KK KJ;have hcall:=qN hA hB (s:=.ok pt nx) (show At W b g cap ao I (.ok pt nx) from h.past bT) (by omega) (fun _ _ e=>by cases e;exact hfew);rw [hWW] at hcall;refine Calls.mono hcall ?_;rintro e w1 ⟨y,x,rfl,hx,a1,at1,got1⟩;rw [←hWW] at hx a1;have T1:Held w.heap.size W.heap.size W w1:=Held.past (fun i _ _=>rfl) a1 hbb nR;have A1:=(aside bT (S:=[b])).trans a1 bT.size;have y1:=a1.size;obtain ⟨k0,hg0⟩:∃ k0,Goes (Ps.cmp I R nx) (cmpF I R) I nx pt k0 x (exprS R (.ok pt nx)):=
  goes_cmp hN got1
 have HG0:=zD hg0;have HZ:=zD zT;have HY:=zD y1;generalize exprS R (.ok pt nx)=s0 at at1 HG0;clear hg0 got1 hW hWW hcall bT zT a1 y1;unfold exA;obtain ⟨w2,hw2⟩:=nm (w1.alloc (.cells (exC y) 45 (0,0)));have X2:=xE hw2;have at2:At w2 b g cap ao I s0:=(by rw [hw2];exact at1.alloc _);have A2:Aside [b] w.heap.size w w2:=(by rw [hw2];exact A1.alloc A1.size _);have T2:Held w.heap.size W.heap.size W w2:=(by rw [hw2];exact T1.under ((Below.refl _ _).alloc nR _) HY.out);have hx2:HEx (fun i=>W.heap.size≤i∧i≠w1.heap.size) w2 y.cells x:=(by rw [hw2];exact (hx.wide (ok':=fun i=>W.heap.size≤i∧i≠w1.heap.size) (fun i hi hl=>⟨hi,by omega⟩)).under ((Below.refl _ w1).alloc nR _));go_wp2_with fail;rw [←hw2];clear hw2 at1 A1 T1 hx;go_loopg [10,11] k0 (fun k v u wr=>∃ (s:Res Int) (y:ExV) (e:Ex),HEx (fun i=>W.heap.size≤i∧i≠w1.heap.size) wr y.cells e∧At wr b g cap ao I s∧Aside [b] w.heap.size w wr∧Held w.heap.size W.heap.size W wr∧wr.heap[w1.heap.size]?=some (.cells (exC y) 45 (0,0))∧Hid (Goes (Ps.cmp I R nx) (cmpF I R) I nx pt k e s))
 case atStart=>exact ⟨s0,y,x,hx2,at2,A2,T2,X2,HG0⟩
 case round=>
  clear hx2 at2 A2 T2 X2 HG0;obtain ⟨s,y,e,he,hat,has,hT,hX,hgo⟩:=hrel;have zr:=zC hX
  cases s with
  | err c0 a0=>
   have hbad:=jP hat;go_wp2_with fail;refine hbad.mono ?_;rintro r w3 ⟨rfl,b3⟩;have K3:=(hT.under b3 (by have:=HY.out;omega)).at K0 nR (by have:=HZ.out;omega);have X3:=(b3.block _ (zC hX)).trans hX;have he3:=he.under b3;have A3:=has.trans (aside b3) has.size;have at3:=hat.past b3;have HA3:=zD at3;clear hbad he hat has hT hX b3 at3;have fa:=fun o=>fo K3 o;obtain ⟨ca0,ca1,ca2,ca3,ca4,ca5⟩:=zH K3;obtain ⟨cb0,cb1,cb2,cb3,cb4,cb5⟩:=zH X3;clear K3 X3;go_wp2;refine bodyPost_ret (v:=exA y) (by simp [exA,results,Tryz.results87,go_sem,ca0,ca1,ca2,ca3,ca4,ca5]) rfl ⟨y,e,rfl,(he3.put6 (k:=w.heap.size) (by have:=HZ.out;omega) y).wide (fun i hi _=>by have:=HZ.out;omega),A3.put6 (k:=w.heap.size) nR y,?_⟩;exact qB hgo.out (HA3.out.put6 (k:=w.heap.size) (by omega) (by omega) y) (fun p n e=>by cases e)
  | ok p n=>
   have hbad:=qP hat;go_wp2_with fail;refine hbad.mono ?_;rintro r w3 ⟨rfl,b3⟩;have T3:=hT.under b3 (by have:=HY.out;omega);have X3:=(b3.block _ (zC hX)).trans hX;have he3:=he.under b3;have A3:=has.trans (aside b3) has.size;have at3:=hat.past b3;have y3:=b3.size;clear hbad he hat has hT hX b3;have S3:=co (T3.at KS (by omega) (by have:=HZ.out;omega)) 2;have N3:=T3.at KN (by omega) (by have:=HZ.out;omega);simp only [gT,gZ,gS] at S3;have hwhich:=zX at3 [[60],[61,61]] (xN (l:=[[60],[61,61]]) N3 (by decide)) (by intro x hx;simp at hx;rcases hx with rfl | rfl<;>exact hS.known _ (by first | exact .inl (by decide) | exact .inr ⟨by decide,by decide⟩) (by decide));clear N3;go_wp2_with fail;refine hwhich.mono ?_;rintro r w4 ⟨rfl,b4⟩;have T4:=T3.under b4 (by have:=HY.out;omega);have X4:=(b4.block _ (zC X3)).trans X3;have he4:=he3.under b4;have A4:=A3.trans (aside b4) A3.size;have at4:=at3.past b4;have y4:=b4.size;clear hwhich S3 T3 X3 he3 A3 at3 b4;rcases lv_cmp I n with ⟨q1,q2⟩ | ⟨j,hj,q1,q2⟩
   ·rw [q1]
    have HQ:=zD q2;clear q1 q2;have K3:=T4.at K0 nR (by have:=HZ.out;omega);have X3:=X4;have HA4:=zD at4;clear at4 T4 X4;have fa:=fun o=>fo K3 o;obtain ⟨ca0,ca1,ca2,ca3,ca4,ca5⟩:=zH K3;obtain ⟨cb0,cb1,cb2,cb3,cb4,cb5⟩:=zH X3;clear K3 X3;go_wp2;refine bodyPost_ret (v:=exA y) (by simp [exA,results,Tryz.results87,go_sem,ca0,ca1,ca2,ca3,ca4,ca5]) rfl ⟨y,e,rfl,(he4.put6 (k:=w.heap.size) (by have:=HZ.out;omega) y).wide (fun i hi _=>by have:=HZ.out;omega),A4.put6 (k:=w.heap.size) nR y,?_⟩;exact qB hgo.out (HA4.out.put6 (k:=w.heap.size) (by omega) (by omega) y) (fun p2 n2 e2=>by cases e2;unfold cmpF;rw [if_pos HQ.out];split<;>rfl)
   ·rw [q1]
    have hlt:n<I.L.length:=zBj (a:=8) (c:=9) (by rw [q2];omega);obtain ⟨kk,hkk⟩:∃ kk:Int,kk=8+(j:Int):=⟨_,rfl⟩;rw [←hkk] at q2;obtain ⟨hp,hL,hc,hM⟩:=hgo.out;have hfn:=zAF hgo.out hfew;obtain ⟨f,rfl⟩:∃ f,gk=f+1:=⟨gk-1,by omega⟩;have hst:Hid (Ps.cmp I R nx=(R (n+1)).bind fun r n1=>.ok (.mk 5 kk 0 ⟨#[]⟩ [] [e,r]) n1):=by
     show Ps.cmp I R nx=_
     rw [hM];unfold cmpF;rw [if_neg (by omega),if_neg (by rw [q2];omega),q2]
    have HP:=zD hp;have HC:=zD hc;have HF:=zD hfn;have HL:=zD hL;have HKK:=zD hkk;clear hgo hM q1 q2 hp hc hfn hL hkk;have hle:=Rr.le at4;have hcm:=Rr.cm at4;have hlc:=Rr.lc at4;unfold maxLen at hcm;have f4:=fun o=>Rr.free at4 o;obtain ⟨d0,d1,d2,d3,d4,d5,hd⟩:=Rr.cells at4;go_wp2_with fail;obtain ⟨w5,hw5⟩:=nm (w4.setCell ⟨b,1,none⟩ (.int .i64 ((n:Int)+1)));have at5:At w5 b g cap ao I (.ok p (n+1)):=(by rw [hw5];exact Rr.stepAt at4 hlt);have a5:Aside [b] w4.heap.size w4 w5:=(by rw [hw5];exact Aside.setCell (by simp) _);have A5:=A4.trans a5 A4.size;have T5:=T4.past a5 hbb (by have:=HY.out;omega);have X5:=a5.keep X4 (zC X4) (by simp;have:=A4.size;have:=HY.out;have:=HZ.out;omega);have he5:=he4.past a5 (fun i hi=>by simp;have:=HZ.out;omega);have y5:=a5.size;have yw5:=A5.size;rw [←hw5];clear hw5 d0 d1 d2 d3 d4 d5 hd f4 at4 A4 T4 X4 he4 a5 hle hcm hlc;have hf5:FewS I (.ok p (n+1)):=fun p2 n2 e2=>by
     cases e2
     obtain ⟨u1,u2⟩:=HF.out p n rfl;exact ⟨u1,by omega⟩
    refine (qN hA hB at5 (by omega) hf5).mono ?_;rintro r w6 ⟨y6,x6,rfl,hx6,a6,at6,got6⟩;have A6:=A5.trans a6 yw5;have T6:=T5.past a6 hbb (by have:=HY.out;omega);have X6:=a6.keep X5 (zC X5) (by simp;have:=HY.out;have:=HZ.out;omega);have he6:=he5.past a6 (fun i hi=>by simp;have:=HZ.out;omega);have y6':=a6.size;have hx6':=hx6.wide (ok':=fun i=>W.heap.size≤i∧i≠w1.heap.size) (fun i hi _=>by have:=HY.out;omega);have HF6:=zD (vB hN hf5);have HG6:=zD got6;clear A5 T5 X5 he5 at5 a6 hx6 hf5 got6;unfold exA;obtain ⟨w7,hw7⟩:=nm (w6.alloc (.cells (exC y6) 45 (0,0)));have b7:=xA hw7;have Y7:=xE hw7;have z7:=xU hw7;have Z7:=zD z7;have A7:=A6.trans (aside b7) A6.size;have T7:=T6.under b7 (by have:=HY.out;omega);have X7:=(b7.block _ (zC X6)).trans X6;have he7:=he6.under b7;have hx7:=hx6'.under b7;have at7:=at6.past b7;go_wp2_with fail;rw [←hw7];clear hw7 z7 b7 A6 T6 X6 he6 hx6' at6;have KK7:=T7.at KK (by omega) (by have:=HZ.out;omega);have KJ7:=T7.at KJ (by omega) (by have:=HZ.out;omega);have bd:Below w7.heap.size w7 w7.drew:=(Below.refl _ w7).drew;have A8:=A7.drew;have T8:=T7.under bd (by have:=HY.out;have:=Z7.out;omega);have X8:w7.drew.heap[w1.heap.size]?=some (.cells (exC y) 45 (0,0)):=X7;have Y8:w7.drew.heap[w6.heap.size]?=some (.cells (exC y6) 45 (0,0)):=Y7;have KK8:=(bd.block _ (zC KK7)).trans KK7;have KJ8:=(bd.block _ (zC KJ7)).trans KJ7;have he8:=he7.under bd;have hx8:=hx7.under bd;have at8:=at7.past bd;have z8:w7.drew.heap.size=w7.heap.size:=rfl;refine zL (fun w'=>w'.cell? ⟨w1.heap.size,0,none⟩=some (.int .i64 y.op)∧w'.cell? ⟨w1.heap.size,1,none⟩=some (.int .i64 y.k)∧w'.cell? ⟨w1.heap.size,2,none⟩=some (.int .i64 y.n)∧w'.cell? ⟨w1.heap.size,3,none⟩=some (.string y.name)∧w'.cell? ⟨w1.heap.size,4,none⟩=some (.slice y.aS y.nS y.cS)∧w'.cell? ⟨w1.heap.size,5,none⟩=some (.slice y.aL y.nL y.cL)∧w'.cell? ⟨w6.heap.size,0,none⟩=some (.int .i64 y6.op)∧w'.cell? ⟨w6.heap.size,1,none⟩=some (.int .i64 y6.k)∧w'.cell? ⟨w6.heap.size,2,none⟩=some (.int .i64 y6.n)∧w'.cell? ⟨w6.heap.size,3,none⟩=some (.string y6.name)∧w'.cell? ⟨w6.heap.size,4,none⟩=some (.slice y6.aS y6.nS y6.cS)∧w'.cell? ⟨w6.heap.size,5,none⟩=some (.slice y6.aL y6.nL y6.cL)∧w'.cell? ⟨w.heap.size+1+1+1+1+1+1+1+1+1+1+1+1,2,none⟩=some (.slice (some ⟨w.heap.size+1+1+1+1+1+1+1+1+1,0,none⟩) 2 2)∧w'.cell? ⟨w.heap.size+1+1+1+1+1+1+1+1+1,j,none⟩=some (.int .i64 kk)) (fun j=>decide (j=13)) (by kernel_rfl) ?_;generalize w7.drew=wd at A8 T8 X8 Y8 KK8 KJ8 he8 hx8 at8 z8 ⊢;have Z8:=zD z8;have hjI:(j:Int)<2:=(by omega);clear A7 T7 X7 Y7 KK7 KJ7 he7 hx7 at7 bd z8;obtain ⟨cx0,cx1,cx2,cx3,cx4,cx5⟩:=zH X8;obtain ⟨cy0,cy1,cy2,cy3,cy4,cy5⟩:=zH Y8;have ck:=co KK8 2;simp only [gT,gZ,gS] at ck;have cj:_=some (Value.int .i64 kk):=(co KJ8 j).trans (by rw [HKK.out];rcases (show j=0∨j=1 by omega) with rfl | rfl<;>rfl);have hH:=And.intro cx0 (And.intro cx1 (And.intro cx2 (And.intro cx3 (And.intro cx4 (And.intro cx5 (And.intro cy0 (And.intro cy1 (And.intro cy2 (And.intro cy3 (And.intro cy4 (And.intro cy5 (And.intro ck (cj)))))))))))));clear cx0 cx1 cx2 cx3 cx4 cx5 cy0 cy1 cy2 cy3 cy4 cy5 ck cj;refine' zE (i:=0) (v:=_) rfl (by kernel_rfl) (by kernel_rfl) (by kernel_rfl) (by kernel_rfl) (fun _ _ _ h=>h) hH (by rfl) ?hyv ?o23
    case hyv=>
     intro wz hSw;obtain ⟨cx0,cx1,cx2,cx3,cx4,cx5,cy0,cy1,cy2,cy3,cy4,cy5,ck,cj⟩:=hSw;go_simp
     try rfl
    try simp only [Act.put,sT,sZ,sS]
    refine' zE (i:=1) (v:=_) rfl (by kernel_rfl) (by kernel_rfl) (by kernel_rfl) (by kernel_rfl) (fun _ _ _ h=>h) hH (by rfl) ?hyv ?o24
    case hyv=>
     intro wz hSw;obtain ⟨cx0,cx1,cx2,cx3,cx4,cx5,cy0,cy1,cy2,cy3,cy4,cy5,ck,cj⟩:=hSw;go_simp
     try rfl
    try simp only [Act.put,sT,sZ,sS]
    refine' zE (i:=2) (v:=_) rfl (by kernel_rfl) (by kernel_rfl) (by kernel_rfl) (by kernel_rfl) (fun _ _ _ h=>h) hH (by rfl) ?hyv ?o25
    case hyv=>
     intro wz hSw;obtain ⟨cx0,cx1,cx2,cx3,cx4,cx5,cy0,cy1,cy2,cy3,cy4,cy5,ck,cj⟩:=hSw;go_simp
     try rfl
    try simp only [Act.put,sT,sZ,sS]
    refine' zE (i:=3) (v:=_) rfl (by kernel_rfl) (by kernel_rfl) (by kernel_rfl) (by kernel_rfl) (fun _ _ _ h=>h) hH (by rfl) ?hyv ?o26
    case hyv=>
     intro wz hSw;obtain ⟨cx0,cx1,cx2,cx3,cx4,cx5,cy0,cy1,cy2,cy3,cy4,cy5,ck,cj⟩:=hSw;go_simp
     try rfl
    try simp only [Act.put,sT,sZ,sS]
    refine' zE (i:=4) (v:=_) rfl (by kernel_rfl) (by kernel_rfl) (by kernel_rfl) (by kernel_rfl) (fun _ _ _ h=>h) hH (by rfl) ?hyv ?o27
    case hyv=>
     intro wz hSw;obtain ⟨cx0,cx1,cx2,cx3,cx4,cx5,cy0,cy1,cy2,cy3,cy4,cy5,ck,cj⟩:=hSw;go_simp
     try rfl
    try simp only [Act.put,sT,sZ,sS]
    refine' zE (i:=5) (v:=_) rfl (by kernel_rfl) (by kernel_rfl) (by kernel_rfl) (by kernel_rfl) (fun _ _ _ h=>h) hH (by rfl) ?hyv ?o28
    case hyv=>
     intro wz hSw;obtain ⟨cx0,cx1,cx2,cx3,cx4,cx5,cy0,cy1,cy2,cy3,cy4,cy5,ck,cj⟩:=hSw;go_simp
     try rfl
    try simp only [Act.put,sT,sZ,sS]
    refine' zE (i:=6) (v:=_) rfl (by kernel_rfl) (by kernel_rfl) (by kernel_rfl) (by kernel_rfl) (fun _ _ _ h=>h) hH (by rfl) ?hyv ?o29
    case hyv=>
     intro wz hSw;obtain ⟨cx0,cx1,cx2,cx3,cx4,cx5,cy0,cy1,cy2,cy3,cy4,cy5,ck,cj⟩:=hSw;go_simp
     try rw [if_pos hjI]
     try rfl
    try simp only [Act.put,sT,sZ,sS]
    refine' zE (i:=7) (v:=_) rfl (by kernel_rfl) (by kernel_rfl) (by kernel_rfl) (by kernel_rfl) (fun _ _ _ h=>h) hH (by rfl) ?hyv ?o30
    case hyv=>
     intro wz hSw;obtain ⟨cx0,cx1,cx2,cx3,cx4,cx5,cy0,cy1,cy2,cy3,cy4,cy5,ck,cj⟩:=hSw;go_simp
     try rfl
    try simp only [Act.put,sT,sZ,sS]
    refine' zE (i:=8) (v:=_) rfl (by kernel_rfl) (by kernel_rfl) (by kernel_rfl) (by kernel_rfl) (fun _ _ _ h=>h) hH (by rfl) ?hyv ?o31
    case hyv=>
     intro wz hSw;obtain ⟨cx0,cx1,cx2,cx3,cx4,cx5,cy0,cy1,cy2,cy3,cy4,cy5,ck,cj⟩:=hSw;go_simp
     try rfl
    try simp only [Act.put,sT,sZ,sS]
    refine' zE (i:=9) (v:=_) rfl (by kernel_rfl) (by kernel_rfl) (by kernel_rfl) (by kernel_rfl) (fun _ _ _ h=>h) hH (by rfl) ?hyv ?o32
    case hyv=>
     intro wz hSw;obtain ⟨cx0,cx1,cx2,cx3,cx4,cx5,cy0,cy1,cy2,cy3,cy4,cy5,ck,cj⟩:=hSw;go_simp
     try rfl
    try simp only [Act.put,sT,sZ,sS]
    refine zG (i:=10) rfl (by kernel_rfl) (by rfl) (fun K hK=>?_);go_simp;obtain ⟨w9,hw9⟩:=nm (wd.alloc (.cells #[.int .i64 y.op,.int .i64 y.k,.int .i64 y.n,.string y.name,.slice y.aS y.nS y.cS,.slice y.aL y.nL y.cL,.int .i64 y6.op,.int .i64 y6.k,.int .i64 y6.n,.string y6.name,.slice y6.aS y6.nS y6.cS,.slice y6.aL y6.nL y6.cL] 45 (0,0)));have b9:=xA hw9;have hez:HEx (fun i=>W.heap.size≤i∧i≠w1.heap.size) w9 (ExV.cells ⟨5,kk,0,⟨#[]⟩,none,0,0,some ⟨wd.heap.size,0,none⟩,2,2⟩) (.mk 5 kk 0 ⟨#[]⟩ [] [e,x6]):=by
     rw [hw9];exact HEx.pair kk he8 hx8 45 (by have:=Z8.out;have:=Z7.out;have:=HY.out;omega)
    rw [←hw9];have A9:=A8.trans (aside b9) A8.size;have T9:=T8.under b9 (by have:=Z8.out;have:=Z7.out;have:=HY.out;omega);have X9:=(b9.block _ (zC X8)).trans X8;have Y9:=(b9.block _ (zC Y8)).trans Y8;have KK9:=(b9.block _ (zC KK8)).trans KK8;have KJ9:=(b9.block _ (zC KJ8)).trans KJ8;have at9:=at8.past b9;have y9:=b9.size;clear hH hw9 A8 T8 X8 Y8 KK8 KJ8 he8 hx8 at8;obtain ⟨cx0,cx1,cx2,cx3,cx4,cx5⟩:=zH X9;obtain ⟨cy0,cy1,cy2,cy3,cy4,cy5⟩:=zH Y9;have ck:=co KK9 2;simp only [gT,gZ,gS] at ck;have cj:_=some (Value.int .i64 kk):=(co KJ9 j).trans (by rw [HKK.out];rcases (show j=0∨j=1 by omega) with rfl | rfl<;>rfl);have hH:=And.intro cx0 (And.intro cx1 (And.intro cx2 (And.intro cx3 (And.intro cx4 (And.intro cx5 (And.intro cy0 (And.intro cy1 (And.intro cy2 (And.intro cy3 (And.intro cy4 (And.intro cy5 (And.intro ck (cj)))))))))))));clear cx0 cx1 cx2 cx3 cx4 cx5 cy0 cy1 cy2 cy3 cy4 cy5 ck cj;refine hK.out _ _ (fun _=>hH) ?_;clear hK K
    try simp only [Act.put,sT,sZ,sS]
    refine' zE (i:=11) (v:=_) rfl (by kernel_rfl) (by kernel_rfl) (by kernel_rfl) (by kernel_rfl) (fun _ _ _ h=>h) hH (by rfl) ?hyv ?o33
    case hyv=>
     intro wz hSw;obtain ⟨cx0,cx1,cx2,cx3,cx4,cx5,cy0,cy1,cy2,cy3,cy4,cy5,ck,cj⟩:=hSw;go_simp
     try rfl
    try simp only [Act.put,sT,sZ,sS]
    refine zG (i:=12) rfl (by kernel_rfl) (by rfl) (fun K hK=>?_);go_simp;refine (vQ at9 HF6.out ⟨5,kk,0,⟨#[]⟩,none,0,0,some ⟨wd.heap.size,0,none⟩,2,2⟩).mono ?_;rintro r wa ⟨rfl,ata,aa⟩;have Aa:=A9.trans aa A9.size;have Ta:=T9.past aa hbb (by have:=Z8.out;have:=Z7.out;have:=HY.out;omega);have Xa:=aa.keep X9 (zC X9) (by simp;have:=HY.out;have:=HZ.out;omega);have Ya:=aa.keep Y9 (zC Y9) (by simp;have:=HY.out;have:=HZ.out;omega);have KKa:=aa.keep KK9 (zC KK9) (by simp;omega);have KJa:=aa.keep KJ9 (zC KJ9) (by simp;omega);have hea:=hez.past aa (fun i hi=>by simp;have:=HZ.out;omega);have ya:=aa.size;clear hH A9 T9 X9 Y9 KK9 KJ9 hez at9 aa;obtain ⟨cx0,cx1,cx2,cx3,cx4,cx5⟩:=zH Xa;obtain ⟨cy0,cy1,cy2,cy3,cy4,cy5⟩:=zH Ya;have ck:=co KKa 2;simp only [gT,gZ,gS] at ck;have cj:_=some (Value.int .i64 kk):=(co KJa j).trans (by rw [HKK.out];rcases (show j=0∨j=1 by omega) with rfl | rfl<;>rfl);have hH:=And.intro cx0 (And.intro cx1 (And.intro cx2 (And.intro cx3 (And.intro cx4 (And.intro cx5 (And.intro cy0 (And.intro cy1 (And.intro cy2 (And.intro cy3 (And.intro cy4 (And.intro cy5 (And.intro ck (cj)))))))))))));clear cx0 cx1 cx2 cx3 cx4 cx5 cy0 cy1 cy2 cy3 cy4 cy5 ck cj;have fx:=fun o=>fo Xa o;refine hK.out _ _ (fun _=>hH) ?_;clear hK K
    try simp only [Act.put,sT,sZ,sS]
    obtain ⟨cx0,cx1,cx2,cx3,cx4,cx5,cy0,cy1,cy2,cy3,cy4,cy5,ck,cj⟩:=hH;refine zG (i:=13) rfl (by kernel_rfl) (by rfl) (fun K hK=>?_);unfold exA;go_simp;refine hK.out _ _ (fun h=>by cases h) ?_;clear hK K
    try simp only [Act.put,sT,sZ,sS]
    refine zR (by kernel_rfl) ?_ _;clear cx0 cx1 cx2 cx3 cx4 cx5 cy0 cy1 cy2 cy3 cy4 cy5 ck cj fx;obtain ⟨z,hz⟩:∃ z:ExV,z=⟨5,kk,0,⟨#[]⟩,none,0,0,some ⟨wd.heap.size,0,none⟩,2,2⟩:=⟨_,rfl⟩;rw [←hz] at hea;have Kb:=Ta.at K0 nR (by have:=HZ.out;omega);obtain ⟨wb,hwb⟩:=nm (put6 wa w1.heap.size z);have Xb:wb.heap[w1.heap.size]?=some (.cells (exC z) 45 (0,0)):=(by rw [hwb];exact zAO Xa z);have Kc:wb.heap[w.heap.size]?=some Zb:=(by rw [hwb];exact keep6 Kb (by have:=HY.out;have:=HZ.out;omega) z);have heb:HEx (fun i=>W.heap.size≤i∧i≠w1.heap.size) wb z.cells (.mk 5 kk 0 ⟨#[]⟩ [] [e,x6]):=(by rw [hwb];exact hea.put6 (k:=w1.heap.size) (by simp) z);have atb:At wb b g cap ao I (partS (exprS R (.ok p (n+1)))):=(by rw [hwb];exact ata.put6 (k:=w1.heap.size) (by have:=HY.out;have:=HZ.out;omega) (by have:=HY.out;have:=HZ.out;omega) z);have Ab:Aside [b] w.heap.size w wb:=(by rw [hwb];exact Aa.put6 (k:=w1.heap.size) (by have:=HY.out;have:=HZ.out;omega) z);have hgz:=zD (zAi (F:=fun _ e n=>.ok e n) hN hst.out HP.out HL.out HC.out HG6.out);have hwc:wb=_:=hwb;unfold put6 at hwc;rw [hz] at hwc;rw [←hwc];have fa:=fun o=>fo Kc o;have HAb:=zD atb;clear hwc hwb hz hea ata Aa Ta Xa Kb Ya KKa KJa atb;obtain ⟨ca0,ca1,ca2,ca3,ca4,ca5⟩:=zH Kc;obtain ⟨cb0,cb1,cb2,cb3,cb4,cb5⟩:=zH Xb;clear Kc Xb;go_wp2;refine bodyPost_ret (v:=exA z) (by simp [exA,results,Tryz.results87,go_sem,ca0,ca1,ca2,ca3,ca4,ca5]) rfl ⟨z,_,rfl,(heb.put6 (k:=w.heap.size) (by have:=HZ.out;omega) z).wide (fun i hi _=>by have:=HZ.out;omega),Ab.put6 (k:=w.heap.size) nR z,?_⟩;exact qB hgz.out (HAb.out.put6 (k:=w.heap.size) (by omega) (by omega) z) (fun p2 n2 e2=>rfl)
theorem level3_any {op:Nat} {R:Nat→Res Ex} (hA:XDoes 87 [.int .i64 4,.int .i64 (op:Int)] b g cap ao I R) (hB:XBad 87 [.int .i64 4,.int .i64 (op:Int)] b g cap ao I) (hN:Nice R) (hS:Sure I):XDoes 87 [.int .i64 3,.int .i64 (op:Int)] b g cap ao I (Ps.fromLeft I R 1 2):=by
 intro nx pt w h hgb hfew
 show Calls Tryz.prog 87 #[.pointer (some ⟨b,0,none⟩),.int .i64 3,.int .i64 (op:Int)] w _
 have hbb:=h.cells.2.2.2.2.2.2;have bT:=xX w;have zT:=qE w;have K0:=qT w;have KS:=zBE w;have KN:=tabW_at4 w;have KK:=zAZ w;have KJ:=tabW_at10 w;unfold tab0 at K0;unfold tab6 at KS;unfold tab4 at KN;unfold tab12 at KK;unfold tab10 at KJ;have hW:tabW w=_:=rfl;unfold tabW at hW;go_enter Tryz.func87,Tryz.ntmps87;go_wp2_with fail;obtain ⟨W,hWW⟩:=nm (tabW w);rw [←hWW] at bT zT K0 KS KN KK KJ;have hcall:=qN hA hB (s:=.ok pt nx) (show At W b g cap ao I (.ok pt nx) from h.past bT) (by omega) (fun _ _ e=>by cases e;exact hfew);rw [hWW] at hcall;refine Calls.mono hcall ?_;rintro e w1 ⟨y,x,rfl,hx,a1,at1,got1⟩;rw [←hWW] at hx a1;have T1:Held w.heap.size W.heap.size W w1:=Held.past (fun i _ _=>rfl) a1 hbb nR;have A1:=(aside bT (S:=[b])).trans a1 bT.size;have y1:=a1.size;obtain ⟨k0,hg0⟩:∃ k0,Goes (Ps.fromLeft I R 1 2 nx) (Ps.more I R 1 2) I nx pt k0 x (exprS R (.ok pt nx)):=
  zAn hN rfl got1
 have HG0:=zD hg0;have HZ:=zD zT;have HY:=zD y1;generalize exprS R (.ok pt nx)=s0 at at1 HG0;clear hg0 got1 hW hWW hcall bT zT a1 y1;unfold exA;obtain ⟨w2,hw2⟩:=nm (w1.alloc (.cells (exC y) 45 (0,0)));have X2:=xE hw2;have at2:At w2 b g cap ao I s0:=(by rw [hw2];exact at1.alloc _);have A2:Aside [b] w.heap.size w w2:=(by rw [hw2];exact A1.alloc A1.size _);have T2:Held w.heap.size W.heap.size W w2:=(by rw [hw2];exact T1.under ((Below.refl _ _).alloc nR _) HY.out);have hx2:HEx (fun i=>W.heap.size≤i∧i≠w1.heap.size) w2 y.cells x:=(by rw [hw2];exact (hx.wide (ok':=fun i=>W.heap.size≤i∧i≠w1.heap.size) (fun i hi hl=>⟨hi,by omega⟩)).under ((Below.refl _ w1).alloc nR _));go_wp2_with fail;rw [←hw2];clear hw2 at1 A1 T1 hx;go_loopg [10,11] k0 (fun k v u wr=>∃ (s:Res Int) (y:ExV) (e:Ex),HEx (fun i=>W.heap.size≤i∧i≠w1.heap.size) wr y.cells e∧At wr b g cap ao I s∧Aside [b] w.heap.size w wr∧Held w.heap.size W.heap.size W wr∧wr.heap[w1.heap.size]?=some (.cells (exC y) 45 (0,0))∧Hid (Goes (Ps.fromLeft I R 1 2 nx) (Ps.more I R 1 2) I nx pt k e s))
 case atStart=>exact ⟨s0,y,x,hx2,at2,A2,T2,X2,HG0⟩
 case round=>
  clear hx2 at2 A2 T2 X2 HG0;obtain ⟨s,y,e,he,hat,has,hT,hX,hgo⟩:=hrel;have zr:=zC hX
  cases s with
  | err c0 a0=>
   have hbad:=jP hat;go_wp2_with fail;refine hbad.mono ?_;rintro r w3 ⟨rfl,b3⟩;have K3:=(hT.under b3 (by have:=HY.out;omega)).at K0 nR (by have:=HZ.out;omega);have X3:=(b3.block _ (zC hX)).trans hX;have he3:=he.under b3;have A3:=has.trans (aside b3) has.size;have at3:=hat.past b3;have HA3:=zD at3;clear hbad he hat has hT hX b3 at3;have fa:=fun o=>fo K3 o;obtain ⟨ca0,ca1,ca2,ca3,ca4,ca5⟩:=zH K3;obtain ⟨cb0,cb1,cb2,cb3,cb4,cb5⟩:=zH X3;clear K3 X3;go_wp2;refine bodyPost_ret (v:=exA y) (by simp [exA,results,Tryz.results87,go_sem,ca0,ca1,ca2,ca3,ca4,ca5]) rfl ⟨y,e,rfl,(he3.put6 (k:=w.heap.size) (by have:=HZ.out;omega) y).wide (fun i hi _=>by have:=HZ.out;omega),A3.put6 (k:=w.heap.size) nR y,?_⟩;exact qB hgo.out (HA3.out.put6 (k:=w.heap.size) (by omega) (by omega) y) (fun p n e=>by cases e)
  | ok p n=>
   have hbad:=qP hat;go_wp2_with fail;refine hbad.mono ?_;rintro r w3 ⟨rfl,b3⟩;have T3:=hT.under b3 (by have:=HY.out;omega);have X3:=(b3.block _ (zC hX)).trans hX;have he3:=he.under b3;have A3:=has.trans (aside b3) has.size;have at3:=hat.past b3;have y3:=b3.size;clear hbad he hat has hT hX b3;have S3:=co (T3.at KS (by omega) (by have:=HZ.out;omega)) 3;have N3:=T3.at KN (by omega) (by have:=HZ.out;omega);simp only [gT,gZ,gS] at S3;have hwhich:=zX at3 [[43],[45]] (xN (l:=[[43],[45]]) N3 (by decide)) (by intro x hx;simp at hx;rcases hx with rfl | rfl<;>exact hS.known _ (by first | exact .inl (by decide) | exact .inr ⟨by decide,by decide⟩) (by decide));clear N3;go_wp2_with fail;refine hwhich.mono ?_;rintro r w4 ⟨rfl,b4⟩;have T4:=T3.under b4 (by have:=HY.out;omega);have X4:=(b4.block _ (zC X3)).trans X3;have he4:=he3.under b4;have A4:=A3.trans (aside b4) A3.size;have at4:=at3.past b4;have y4:=b4.size;clear hwhich S3 T3 X3 he3 A3 at3 b4;rcases lv_sum I n with ⟨q1,q2⟩ | ⟨j,hj,q1,q2⟩
   ·rw [q1]
    have HQ:=zD q2;clear q1 q2;have K3:=T4.at K0 nR (by have:=HZ.out;omega);have X3:=X4;have HA4:=zD at4;clear at4 T4 X4;have fa:=fun o=>fo K3 o;obtain ⟨ca0,ca1,ca2,ca3,ca4,ca5⟩:=zH K3;obtain ⟨cb0,cb1,cb2,cb3,cb4,cb5⟩:=zH X3;clear K3 X3;go_wp2;refine bodyPost_ret (v:=exA y) (by simp [exA,results,Tryz.results87,go_sem,ca0,ca1,ca2,ca3,ca4,ca5]) rfl ⟨y,e,rfl,(he4.put6 (k:=w.heap.size) (by have:=HZ.out;omega) y).wide (fun i hi _=>by have:=HZ.out;omega),A4.put6 (k:=w.heap.size) nR y,?_⟩;exact qB hgo.out (HA4.out.put6 (k:=w.heap.size) (by omega) (by omega) y) (fun p2 n2 e2=>by cases e2;exact zAc HQ.out _)
   ·rw [q1]
    have hlt:n<I.L.length:=zBj (a:=1) (c:=2) (by rw [q2];omega);obtain ⟨kk,hkk⟩:∃ kk:Int,kk=1+(j:Int):=⟨_,rfl⟩;rw [←hkk] at q2;obtain ⟨hp,hL,hc,hM⟩:=hgo.out;have hfn:=zAF hgo.out hfew;obtain ⟨f,rfl⟩:∃ f,gk=f+1:=⟨gk-1,by omega⟩;have hst:=zD (hM.trans (zAd (R:=R) (e:=e) (a:=1) (c:=2) (n:=n) (by rw [q2];omega) f));rw [q2] at hst;have HP:=zD hp;have HC:=zD hc;have HF:=zD hfn;have HL:=zD hL;have HKK:=zD hkk;clear hgo hM q1 q2 hp hc hfn hL hkk;have hle:=Rr.le at4;have hcm:=Rr.cm at4;have hlc:=Rr.lc at4;unfold maxLen at hcm;have f4:=fun o=>Rr.free at4 o;obtain ⟨d0,d1,d2,d3,d4,d5,hd⟩:=Rr.cells at4;go_wp2_with fail;obtain ⟨w5,hw5⟩:=nm (w4.setCell ⟨b,1,none⟩ (.int .i64 ((n:Int)+1)));have at5:At w5 b g cap ao I (.ok p (n+1)):=(by rw [hw5];exact Rr.stepAt at4 hlt);have a5:Aside [b] w4.heap.size w4 w5:=(by rw [hw5];exact Aside.setCell (by simp) _);have A5:=A4.trans a5 A4.size;have T5:=T4.past a5 hbb (by have:=HY.out;omega);have X5:=a5.keep X4 (zC X4) (by simp;have:=A4.size;have:=HY.out;have:=HZ.out;omega);have he5:=he4.past a5 (fun i hi=>by simp;have:=HZ.out;omega);have y5:=a5.size;have yw5:=A5.size;rw [←hw5];clear hw5 d0 d1 d2 d3 d4 d5 hd f4 at4 A4 T4 X4 he4 a5 hle hcm hlc;have hf5:FewS I (.ok p (n+1)):=fun p2 n2 e2=>by
     cases e2
     obtain ⟨u1,u2⟩:=HF.out p n rfl;exact ⟨u1,by omega⟩
    refine (qN hA hB at5 (by omega) hf5).mono ?_;rintro r w6 ⟨y6,x6,rfl,hx6,a6,at6,got6⟩;have A6:=A5.trans a6 yw5;have T6:=T5.past a6 hbb (by have:=HY.out;omega);have X6:=a6.keep X5 (zC X5) (by simp;have:=HY.out;have:=HZ.out;omega);have he6:=he5.past a6 (fun i hi=>by simp;have:=HZ.out;omega);have y6':=a6.size;have hx6':=hx6.wide (ok':=fun i=>W.heap.size≤i∧i≠w1.heap.size) (fun i hi _=>by have:=HY.out;omega);have HF6:=zD (vB hN hf5);have HG6:=zD got6;clear A5 T5 X5 he5 at5 a6 hx6 hf5 got6;unfold exA;obtain ⟨w7,hw7⟩:=nm (w6.alloc (.cells (exC y6) 45 (0,0)));have b7:=xA hw7;have Y7:=xE hw7;have z7:=xU hw7;have Z7:=zD z7;have A7:=A6.trans (aside b7) A6.size;have T7:=T6.under b7 (by have:=HY.out;omega);have X7:=(b7.block _ (zC X6)).trans X6;have he7:=he6.under b7;have hx7:=hx6'.under b7;have at7:=at6.past b7;go_wp2_with fail;rw [←hw7];clear hw7 z7 b7 A6 T6 X6 he6 hx6' at6;have KK7:=T7.at KK (by omega) (by have:=HZ.out;omega);have KJ7:=T7.at KJ (by omega) (by have:=HZ.out;omega);have bd:Below w7.heap.size w7 w7.drew:=(Below.refl _ w7).drew;have A8:=A7.drew;have T8:=T7.under bd (by have:=HY.out;have:=Z7.out;omega);have X8:w7.drew.heap[w1.heap.size]?=some (.cells (exC y) 45 (0,0)):=X7;have Y8:w7.drew.heap[w6.heap.size]?=some (.cells (exC y6) 45 (0,0)):=Y7;have KK8:=(bd.block _ (zC KK7)).trans KK7;have KJ8:=(bd.block _ (zC KJ7)).trans KJ7;have he8:=he7.under bd;have hx8:=hx7.under bd;have at8:=at7.past bd;have z8:w7.drew.heap.size=w7.heap.size:=rfl;refine zL (fun w'=>w'.cell? ⟨w1.heap.size,0,none⟩=some (.int .i64 y.op)∧w'.cell? ⟨w1.heap.size,1,none⟩=some (.int .i64 y.k)∧w'.cell? ⟨w1.heap.size,2,none⟩=some (.int .i64 y.n)∧w'.cell? ⟨w1.heap.size,3,none⟩=some (.string y.name)∧w'.cell? ⟨w1.heap.size,4,none⟩=some (.slice y.aS y.nS y.cS)∧w'.cell? ⟨w1.heap.size,5,none⟩=some (.slice y.aL y.nL y.cL)∧w'.cell? ⟨w6.heap.size,0,none⟩=some (.int .i64 y6.op)∧w'.cell? ⟨w6.heap.size,1,none⟩=some (.int .i64 y6.k)∧w'.cell? ⟨w6.heap.size,2,none⟩=some (.int .i64 y6.n)∧w'.cell? ⟨w6.heap.size,3,none⟩=some (.string y6.name)∧w'.cell? ⟨w6.heap.size,4,none⟩=some (.slice y6.aS y6.nS y6.cS)∧w'.cell? ⟨w6.heap.size,5,none⟩=some (.slice y6.aL y6.nL y6.cL)∧w'.cell? ⟨w.heap.size+1+1+1+1+1+1+1+1+1+1+1+1,3,none⟩=some (.slice (some ⟨w.heap.size+1+1+1+1+1+1+1+1+1+1,0,none⟩) 2 2)∧w'.cell? ⟨w.heap.size+1+1+1+1+1+1+1+1+1+1,j,none⟩=some (.int .i64 kk)) (fun j=>decide (j=13)) (by kernel_rfl) ?_;generalize w7.drew=wd at A8 T8 X8 Y8 KK8 KJ8 he8 hx8 at8 z8 ⊢;have Z8:=zD z8;have hjI:(j:Int)<2:=(by omega);clear A7 T7 X7 Y7 KK7 KJ7 he7 hx7 at7 bd z8;obtain ⟨cx0,cx1,cx2,cx3,cx4,cx5⟩:=zH X8;obtain ⟨cy0,cy1,cy2,cy3,cy4,cy5⟩:=zH Y8;have ck:=co KK8 3;simp only [gT,gZ,gS] at ck;have cj:_=some (Value.int .i64 kk):=(co KJ8 j).trans (by rw [HKK.out];rcases (show j=0∨j=1 by omega) with rfl | rfl<;>rfl);have hH:=And.intro cx0 (And.intro cx1 (And.intro cx2 (And.intro cx3 (And.intro cx4 (And.intro cx5 (And.intro cy0 (And.intro cy1 (And.intro cy2 (And.intro cy3 (And.intro cy4 (And.intro cy5 (And.intro ck (cj)))))))))))));clear cx0 cx1 cx2 cx3 cx4 cx5 cy0 cy1 cy2 cy3 cy4 cy5 ck cj;refine' zE (i:=0) (v:=_) rfl (by kernel_rfl) (by kernel_rfl) (by kernel_rfl) (by kernel_rfl) (fun _ _ _ h=>h) hH (by rfl) ?hyv ?o34
    case hyv=>
     intro wz hSw;obtain ⟨cx0,cx1,cx2,cx3,cx4,cx5,cy0,cy1,cy2,cy3,cy4,cy5,ck,cj⟩:=hSw;go_simp
     try rfl
    try simp only [Act.put,sT,sZ,sS]
    refine' zE (i:=1) (v:=_) rfl (by kernel_rfl) (by kernel_rfl) (by kernel_rfl) (by kernel_rfl) (fun _ _ _ h=>h) hH (by rfl) ?hyv ?o35
    case hyv=>
     intro wz hSw;obtain ⟨cx0,cx1,cx2,cx3,cx4,cx5,cy0,cy1,cy2,cy3,cy4,cy5,ck,cj⟩:=hSw;go_simp
     try rfl
    try simp only [Act.put,sT,sZ,sS]
    refine' zE (i:=2) (v:=_) rfl (by kernel_rfl) (by kernel_rfl) (by kernel_rfl) (by kernel_rfl) (fun _ _ _ h=>h) hH (by rfl) ?hyv ?o36
    case hyv=>
     intro wz hSw;obtain ⟨cx0,cx1,cx2,cx3,cx4,cx5,cy0,cy1,cy2,cy3,cy4,cy5,ck,cj⟩:=hSw;go_simp
     try rfl
    try simp only [Act.put,sT,sZ,sS]
    refine' zE (i:=3) (v:=_) rfl (by kernel_rfl) (by kernel_rfl) (by kernel_rfl) (by kernel_rfl) (fun _ _ _ h=>h) hH (by rfl) ?hyv ?o37
    case hyv=>
     intro wz hSw;obtain ⟨cx0,cx1,cx2,cx3,cx4,cx5,cy0,cy1,cy2,cy3,cy4,cy5,ck,cj⟩:=hSw;go_simp
     try rfl
    try simp only [Act.put,sT,sZ,sS]
    refine' zE (i:=4) (v:=_) rfl (by kernel_rfl) (by kernel_rfl) (by kernel_rfl) (by kernel_rfl) (fun _ _ _ h=>h) hH (by rfl) ?hyv ?o38
    case hyv=>
     intro wz hSw;obtain ⟨cx0,cx1,cx2,cx3,cx4,cx5,cy0,cy1,cy2,cy3,cy4,cy5,ck,cj⟩:=hSw;go_simp
     try rfl
    try simp only [Act.put,sT,sZ,sS]
    refine' zE (i:=5) (v:=_) rfl (by kernel_rfl) (by kernel_rfl) (by kernel_rfl) (by kernel_rfl) (fun _ _ _ h=>h) hH (by rfl) ?hyv ?o39
    case hyv=>
     intro wz hSw;obtain ⟨cx0,cx1,cx2,cx3,cx4,cx5,cy0,cy1,cy2,cy3,cy4,cy5,ck,cj⟩:=hSw;go_simp
     try rfl
    try simp only [Act.put,sT,sZ,sS]
    refine' zE (i:=6) (v:=_) rfl (by kernel_rfl) (by kernel_rfl) (by kernel_rfl) (by kernel_rfl) (fun _ _ _ h=>h) hH (by rfl) ?hyv ?o40
    case hyv=>
     intro wz hSw;obtain ⟨cx0,cx1,cx2,cx3,cx4,cx5,cy0,cy1,cy2,cy3,cy4,cy5,ck,cj⟩:=hSw;go_simp
     try rw [if_pos hjI]
     try rfl
    try simp only [Act.put,sT,sZ,sS]
    refine' zE (i:=7) (v:=_) rfl (by kernel_rfl) (by kernel_rfl) (by kernel_rfl) (by kernel_rfl) (fun _ _ _ h=>h) hH (by rfl) ?hyv ?o41
    case hyv=>
     intro wz hSw;obtain ⟨cx0,cx1,cx2,cx3,cx4,cx5,cy0,cy1,cy2,cy3,cy4,cy5,ck,cj⟩:=hSw;go_simp
     try rfl
    try simp only [Act.put,sT,sZ,sS]
    refine' zE (i:=8) (v:=_) rfl (by kernel_rfl) (by kernel_rfl) (by kernel_rfl) (by kernel_rfl) (fun _ _ _ h=>h) hH (by rfl) ?hyv ?o42
    case hyv=>
     intro wz hSw;obtain ⟨cx0,cx1,cx2,cx3,cx4,cx5,cy0,cy1,cy2,cy3,cy4,cy5,ck,cj⟩:=hSw;go_simp
     try rfl
    try simp only [Act.put,sT,sZ,sS]
    refine' zE (i:=9) (v:=_) rfl (by kernel_rfl) (by kernel_rfl) (by kernel_rfl) (by kernel_rfl) (fun _ _ _ h=>h) hH (by rfl) ?hyv ?o43
    case hyv=>
     intro wz hSw;obtain ⟨cx0,cx1,cx2,cx3,cx4,cx5,cy0,cy1,cy2,cy3,cy4,cy5,ck,cj⟩:=hSw;go_simp
     try rfl
    try simp only [Act.put,sT,sZ,sS]
    refine zG (i:=10) rfl (by kernel_rfl) (by rfl) (fun K hK=>?_);go_simp;obtain ⟨w9,hw9⟩:=nm (wd.alloc (.cells #[.int .i64 y.op,.int .i64 y.k,.int .i64 y.n,.string y.name,.slice y.aS y.nS y.cS,.slice y.aL y.nL y.cL,.int .i64 y6.op,.int .i64 y6.k,.int .i64 y6.n,.string y6.name,.slice y6.aS y6.nS y6.cS,.slice y6.aL y6.nL y6.cL] 45 (0,0)));have b9:=xA hw9;have hez:HEx (fun i=>W.heap.size≤i∧i≠w1.heap.size) w9 (ExV.cells ⟨5,kk,0,⟨#[]⟩,none,0,0,some ⟨wd.heap.size,0,none⟩,2,2⟩) (.mk 5 kk 0 ⟨#[]⟩ [] [e,x6]):=by
     rw [hw9];exact HEx.pair kk he8 hx8 45 (by have:=Z8.out;have:=Z7.out;have:=HY.out;omega)
    rw [←hw9];have A9:=A8.trans (aside b9) A8.size;have T9:=T8.under b9 (by have:=Z8.out;have:=Z7.out;have:=HY.out;omega);have X9:=(b9.block _ (zC X8)).trans X8;have Y9:=(b9.block _ (zC Y8)).trans Y8;have KK9:=(b9.block _ (zC KK8)).trans KK8;have KJ9:=(b9.block _ (zC KJ8)).trans KJ8;have at9:=at8.past b9;have y9:=b9.size;clear hH hw9 A8 T8 X8 Y8 KK8 KJ8 he8 hx8 at8;obtain ⟨cx0,cx1,cx2,cx3,cx4,cx5⟩:=zH X9;obtain ⟨cy0,cy1,cy2,cy3,cy4,cy5⟩:=zH Y9;have ck:=co KK9 3;simp only [gT,gZ,gS] at ck;have cj:_=some (Value.int .i64 kk):=(co KJ9 j).trans (by rw [HKK.out];rcases (show j=0∨j=1 by omega) with rfl | rfl<;>rfl);have hH:=And.intro cx0 (And.intro cx1 (And.intro cx2 (And.intro cx3 (And.intro cx4 (And.intro cx5 (And.intro cy0 (And.intro cy1 (And.intro cy2 (And.intro cy3 (And.intro cy4 (And.intro cy5 (And.intro ck (cj)))))))))))));clear cx0 cx1 cx2 cx3 cx4 cx5 cy0 cy1 cy2 cy3 cy4 cy5 ck cj;refine hK.out _ _ (fun _=>hH) ?_;clear hK K
    try simp only [Act.put,sT,sZ,sS]
    refine' zE (i:=11) (v:=_) rfl (by kernel_rfl) (by kernel_rfl) (by kernel_rfl) (by kernel_rfl) (fun _ _ _ h=>h) hH (by rfl) ?hyv ?o44
    case hyv=>
     intro wz hSw;obtain ⟨cx0,cx1,cx2,cx3,cx4,cx5,cy0,cy1,cy2,cy3,cy4,cy5,ck,cj⟩:=hSw;go_simp
     try rfl
    try simp only [Act.put,sT,sZ,sS]
    refine zG (i:=12) rfl (by kernel_rfl) (by rfl) (fun K hK=>?_);go_simp;refine (vQ at9 HF6.out ⟨5,kk,0,⟨#[]⟩,none,0,0,some ⟨wd.heap.size,0,none⟩,2,2⟩).mono ?_;rintro r wa ⟨rfl,ata,aa⟩;have Aa:=A9.trans aa A9.size;have Ta:=T9.past aa hbb (by have:=Z8.out;have:=Z7.out;have:=HY.out;omega);have Xa:=aa.keep X9 (zC X9) (by simp;have:=HY.out;have:=HZ.out;omega);have Ya:=aa.keep Y9 (zC Y9) (by simp;have:=HY.out;have:=HZ.out;omega);have KKa:=aa.keep KK9 (zC KK9) (by simp;omega);have KJa:=aa.keep KJ9 (zC KJ9) (by simp;omega);have hea:=hez.past aa (fun i hi=>by simp;have:=HZ.out;omega);have ya:=aa.size;clear hH A9 T9 X9 Y9 KK9 KJ9 hez at9 aa;obtain ⟨cx0,cx1,cx2,cx3,cx4,cx5⟩:=zH Xa;obtain ⟨cy0,cy1,cy2,cy3,cy4,cy5⟩:=zH Ya;have ck:=co KKa 3;simp only [gT,gZ,gS] at ck;have cj:_=some (Value.int .i64 kk):=(co KJa j).trans (by rw [HKK.out];rcases (show j=0∨j=1 by omega) with rfl | rfl<;>rfl);have hH:=And.intro cx0 (And.intro cx1 (And.intro cx2 (And.intro cx3 (And.intro cx4 (And.intro cx5 (And.intro cy0 (And.intro cy1 (And.intro cy2 (And.intro cy3 (And.intro cy4 (And.intro cy5 (And.intro ck (cj)))))))))))));clear cx0 cx1 cx2 cx3 cx4 cx5 cy0 cy1 cy2 cy3 cy4 cy5 ck cj;have fx:=fun o=>fo Xa o;refine hK.out _ _ (fun _=>hH) ?_;clear hK K
    try simp only [Act.put,sT,sZ,sS]
    obtain ⟨cx0,cx1,cx2,cx3,cx4,cx5,cy0,cy1,cy2,cy3,cy4,cy5,ck,cj⟩:=hH;refine zG (i:=13) rfl (by kernel_rfl) (by rfl) (fun K hK=>?_);unfold exA;go_simp;refine hK.out _ _ (fun h=>by cases h) ?_;clear hK K
    try simp only [Act.put,sT,sZ,sS]
    refine zR (by kernel_rfl) ?_ _;clear cx0 cx1 cx2 cx3 cx4 cx5 cy0 cy1 cy2 cy3 cy4 cy5 ck cj fx;go_wp2_with fail;go_roundg f
    case measure=>omega
    case rel=>exact ⟨partS (exprS R (.ok p (n+1))),(⟨5,kk,0,⟨#[]⟩,none,0,0,some ⟨wd.heap.size,0,none⟩,2,2⟩:ExV),.mk 5 kk 0 ⟨#[]⟩ [] [e,x6],hea.put6 (k:=w1.heap.size) (by simp) (⟨5,kk,0,⟨#[]⟩,none,0,0,some ⟨wd.heap.size,0,none⟩,2,2⟩:ExV),ata.put6 (k:=w1.heap.size) (by have:=HY.out;have:=HZ.out;omega) (by have:=HY.out;have:=HZ.out;omega) (⟨5,kk,0,⟨#[]⟩,none,0,0,some ⟨wd.heap.size,0,none⟩,2,2⟩:ExV),Aa.put6 (k:=w1.heap.size) (by have:=HY.out;have:=HZ.out;omega) (⟨5,kk,0,⟨#[]⟩,none,0,0,some ⟨wd.heap.size,0,none⟩,2,2⟩:ExV),Ta.put6 (k:=w1.heap.size) HY.out (⟨5,kk,0,⟨#[]⟩,none,0,0,some ⟨wd.heap.size,0,none⟩,2,2⟩:ExV),zAO Xa (⟨5,kk,0,⟨#[]⟩,none,0,0,some ⟨wd.heap.size,0,none⟩,2,2⟩:ExV),zAi hN hst.out HP.out HL.out HC.out HG6.out⟩
theorem level4_any {op:Nat} {R:Nat→Res Ex} (hA:XDoes 87 [.int .i64 5,.int .i64 (op:Int)] b g cap ao I R) (hB:XBad 87 [.int .i64 5,.int .i64 (op:Int)] b g cap ao I) (hN:Nice R) (hS:Sure I):XDoes 87 [.int .i64 4,.int .i64 (op:Int)] b g cap ao I (Ps.fromLeft I R 3 5):=by
 intro nx pt w h hgb hfew
 show Calls Tryz.prog 87 #[.pointer (some ⟨b,0,none⟩),.int .i64 4,.int .i64 (op:Int)] w _
 have hbb:=h.cells.2.2.2.2.2.2;have bT:=xX w;have zT:=qE w;have K0:=qT w;have KS:=zBE w;have KN:=tabW_at5 w;have KK:=zAZ w;have KJ:=tabW_at11 w;unfold tab0 at K0;unfold tab6 at KS;unfold tab5 at KN;unfold tab12 at KK;unfold tab11 at KJ;have hW:tabW w=_:=rfl;unfold tabW at hW;go_enter Tryz.func87,Tryz.ntmps87;go_wp2_with fail;obtain ⟨W,hWW⟩:=nm (tabW w);rw [←hWW] at bT zT K0 KS KN KK KJ;have hcall:=qN hA hB (s:=.ok pt nx) (show At W b g cap ao I (.ok pt nx) from h.past bT) (by omega) (fun _ _ e=>by cases e;exact hfew);rw [hWW] at hcall;refine Calls.mono hcall ?_;rintro e w1 ⟨y,x,rfl,hx,a1,at1,got1⟩;rw [←hWW] at hx a1;have T1:Held w.heap.size W.heap.size W w1:=Held.past (fun i _ _=>rfl) a1 hbb nR;have A1:=(aside bT (S:=[b])).trans a1 bT.size;have y1:=a1.size;obtain ⟨k0,hg0⟩:∃ k0,Goes (Ps.fromLeft I R 3 5 nx) (Ps.more I R 3 5) I nx pt k0 x (exprS R (.ok pt nx)):=
  zAn hN rfl got1
 have HG0:=zD hg0;have HZ:=zD zT;have HY:=zD y1;generalize exprS R (.ok pt nx)=s0 at at1 HG0;clear hg0 got1 hW hWW hcall bT zT a1 y1;unfold exA;obtain ⟨w2,hw2⟩:=nm (w1.alloc (.cells (exC y) 45 (0,0)));have X2:=xE hw2;have at2:At w2 b g cap ao I s0:=(by rw [hw2];exact at1.alloc _);have A2:Aside [b] w.heap.size w w2:=(by rw [hw2];exact A1.alloc A1.size _);have T2:Held w.heap.size W.heap.size W w2:=(by rw [hw2];exact T1.under ((Below.refl _ _).alloc nR _) HY.out);have hx2:HEx (fun i=>W.heap.size≤i∧i≠w1.heap.size) w2 y.cells x:=(by rw [hw2];exact (hx.wide (ok':=fun i=>W.heap.size≤i∧i≠w1.heap.size) (fun i hi hl=>⟨hi,by omega⟩)).under ((Below.refl _ w1).alloc nR _));go_wp2_with fail;rw [←hw2];clear hw2 at1 A1 T1 hx;go_loopg [10,11] k0 (fun k v u wr=>∃ (s:Res Int) (y:ExV) (e:Ex),HEx (fun i=>W.heap.size≤i∧i≠w1.heap.size) wr y.cells e∧At wr b g cap ao I s∧Aside [b] w.heap.size w wr∧Held w.heap.size W.heap.size W wr∧wr.heap[w1.heap.size]?=some (.cells (exC y) 45 (0,0))∧Hid (Goes (Ps.fromLeft I R 3 5 nx) (Ps.more I R 3 5) I nx pt k e s))
 case atStart=>exact ⟨s0,y,x,hx2,at2,A2,T2,X2,HG0⟩
 case round=>
  clear hx2 at2 A2 T2 X2 HG0;obtain ⟨s,y,e,he,hat,has,hT,hX,hgo⟩:=hrel;have zr:=zC hX
  cases s with
  | err c0 a0=>
   have hbad:=jP hat;go_wp2_with fail;refine hbad.mono ?_;rintro r w3 ⟨rfl,b3⟩;have K3:=(hT.under b3 (by have:=HY.out;omega)).at K0 nR (by have:=HZ.out;omega);have X3:=(b3.block _ (zC hX)).trans hX;have he3:=he.under b3;have A3:=has.trans (aside b3) has.size;have at3:=hat.past b3;have HA3:=zD at3;clear hbad he hat has hT hX b3 at3;have fa:=fun o=>fo K3 o;obtain ⟨ca0,ca1,ca2,ca3,ca4,ca5⟩:=zH K3;obtain ⟨cb0,cb1,cb2,cb3,cb4,cb5⟩:=zH X3;clear K3 X3;go_wp2;refine bodyPost_ret (v:=exA y) (by simp [exA,results,Tryz.results87,go_sem,ca0,ca1,ca2,ca3,ca4,ca5]) rfl ⟨y,e,rfl,(he3.put6 (k:=w.heap.size) (by have:=HZ.out;omega) y).wide (fun i hi _=>by have:=HZ.out;omega),A3.put6 (k:=w.heap.size) nR y,?_⟩;exact qB hgo.out (HA3.out.put6 (k:=w.heap.size) (by omega) (by omega) y) (fun p n e=>by cases e)
  | ok p n=>
   have hbad:=qP hat;go_wp2_with fail;refine hbad.mono ?_;rintro r w3 ⟨rfl,b3⟩;have T3:=hT.under b3 (by have:=HY.out;omega);have X3:=(b3.block _ (zC hX)).trans hX;have he3:=he.under b3;have A3:=has.trans (aside b3) has.size;have at3:=hat.past b3;have y3:=b3.size;clear hbad he hat has hT hX b3;have S3:=co (T3.at KS (by omega) (by have:=HZ.out;omega)) 4;have N3:=T3.at KN (by omega) (by have:=HZ.out;omega);simp only [gT,gZ,gS] at S3;have hwhich:=zX at3 [[42],[47],[37]] (xN (l:=[[42],[47],[37]]) N3 (by decide)) (by intro x hx;simp at hx;rcases hx with rfl | rfl | rfl<;>exact hS.known _ (by first | exact .inl (by decide) | exact .inr ⟨by decide,by decide⟩) (by decide));clear N3;go_wp2_with fail;refine hwhich.mono ?_;rintro r w4 ⟨rfl,b4⟩;have T4:=T3.under b4 (by have:=HY.out;omega);have X4:=(b4.block _ (zC X3)).trans X3;have he4:=he3.under b4;have A4:=A3.trans (aside b4) A3.size;have at4:=at3.past b4;have y4:=b4.size;clear hwhich S3 T3 X3 he3 A3 at3 b4;rcases lv_mul I n with ⟨q1,q2⟩ | ⟨j,hj,q1,q2⟩
   ·rw [q1]
    have HQ:=zD q2;clear q1 q2;have K3:=T4.at K0 nR (by have:=HZ.out;omega);have X3:=X4;have HA4:=zD at4;clear at4 T4 X4;have fa:=fun o=>fo K3 o;obtain ⟨ca0,ca1,ca2,ca3,ca4,ca5⟩:=zH K3;obtain ⟨cb0,cb1,cb2,cb3,cb4,cb5⟩:=zH X3;clear K3 X3;go_wp2;refine bodyPost_ret (v:=exA y) (by simp [exA,results,Tryz.results87,go_sem,ca0,ca1,ca2,ca3,ca4,ca5]) rfl ⟨y,e,rfl,(he4.put6 (k:=w.heap.size) (by have:=HZ.out;omega) y).wide (fun i hi _=>by have:=HZ.out;omega),A4.put6 (k:=w.heap.size) nR y,?_⟩;exact qB hgo.out (HA4.out.put6 (k:=w.heap.size) (by omega) (by omega) y) (fun p2 n2 e2=>by cases e2;exact zAc HQ.out _)
   ·rw [q1]
    have hlt:n<I.L.length:=zBj (a:=3) (c:=5) (by rw [q2];omega);obtain ⟨kk,hkk⟩:∃ kk:Int,kk=3+(j:Int):=⟨_,rfl⟩;rw [←hkk] at q2;obtain ⟨hp,hL,hc,hM⟩:=hgo.out;have hfn:=zAF hgo.out hfew;obtain ⟨f,rfl⟩:∃ f,gk=f+1:=⟨gk-1,by omega⟩;have hst:=zD (hM.trans (zAd (R:=R) (e:=e) (a:=3) (c:=5) (n:=n) (by rw [q2];omega) f));rw [q2] at hst;have HP:=zD hp;have HC:=zD hc;have HF:=zD hfn;have HL:=zD hL;have HKK:=zD hkk;clear hgo hM q1 q2 hp hc hfn hL hkk;have hle:=Rr.le at4;have hcm:=Rr.cm at4;have hlc:=Rr.lc at4;unfold maxLen at hcm;have f4:=fun o=>Rr.free at4 o;obtain ⟨d0,d1,d2,d3,d4,d5,hd⟩:=Rr.cells at4;go_wp2_with fail;obtain ⟨w5,hw5⟩:=nm (w4.setCell ⟨b,1,none⟩ (.int .i64 ((n:Int)+1)));have at5:At w5 b g cap ao I (.ok p (n+1)):=(by rw [hw5];exact Rr.stepAt at4 hlt);have a5:Aside [b] w4.heap.size w4 w5:=(by rw [hw5];exact Aside.setCell (by simp) _);have A5:=A4.trans a5 A4.size;have T5:=T4.past a5 hbb (by have:=HY.out;omega);have X5:=a5.keep X4 (zC X4) (by simp;have:=A4.size;have:=HY.out;have:=HZ.out;omega);have he5:=he4.past a5 (fun i hi=>by simp;have:=HZ.out;omega);have y5:=a5.size;have yw5:=A5.size;rw [←hw5];clear hw5 d0 d1 d2 d3 d4 d5 hd f4 at4 A4 T4 X4 he4 a5 hle hcm hlc;have hf5:FewS I (.ok p (n+1)):=fun p2 n2 e2=>by
     cases e2
     obtain ⟨u1,u2⟩:=HF.out p n rfl;exact ⟨u1,by omega⟩
    refine (qN hA hB at5 (by omega) hf5).mono ?_;rintro r w6 ⟨y6,x6,rfl,hx6,a6,at6,got6⟩;have A6:=A5.trans a6 yw5;have T6:=T5.past a6 hbb (by have:=HY.out;omega);have X6:=a6.keep X5 (zC X5) (by simp;have:=HY.out;have:=HZ.out;omega);have he6:=he5.past a6 (fun i hi=>by simp;have:=HZ.out;omega);have y6':=a6.size;have hx6':=hx6.wide (ok':=fun i=>W.heap.size≤i∧i≠w1.heap.size) (fun i hi _=>by have:=HY.out;omega);have HF6:=zD (vB hN hf5);have HG6:=zD got6;clear A5 T5 X5 he5 at5 a6 hx6 hf5 got6;unfold exA;obtain ⟨w7,hw7⟩:=nm (w6.alloc (.cells (exC y6) 45 (0,0)));have b7:=xA hw7;have Y7:=xE hw7;have z7:=xU hw7;have Z7:=zD z7;have A7:=A6.trans (aside b7) A6.size;have T7:=T6.under b7 (by have:=HY.out;omega);have X7:=(b7.block _ (zC X6)).trans X6;have he7:=he6.under b7;have hx7:=hx6'.under b7;have at7:=at6.past b7;go_wp2_with fail;rw [←hw7];clear hw7 z7 b7 A6 T6 X6 he6 hx6' at6;have KK7:=T7.at KK (by omega) (by have:=HZ.out;omega);have KJ7:=T7.at KJ (by omega) (by have:=HZ.out;omega);have bd:Below w7.heap.size w7 w7.drew:=(Below.refl _ w7).drew;have A8:=A7.drew;have T8:=T7.under bd (by have:=HY.out;have:=Z7.out;omega);have X8:w7.drew.heap[w1.heap.size]?=some (.cells (exC y) 45 (0,0)):=X7;have Y8:w7.drew.heap[w6.heap.size]?=some (.cells (exC y6) 45 (0,0)):=Y7;have KK8:=(bd.block _ (zC KK7)).trans KK7;have KJ8:=(bd.block _ (zC KJ7)).trans KJ7;have he8:=he7.under bd;have hx8:=hx7.under bd;have at8:=at7.past bd;have z8:w7.drew.heap.size=w7.heap.size:=rfl;refine zL (fun w'=>w'.cell? ⟨w1.heap.size,0,none⟩=some (.int .i64 y.op)∧w'.cell? ⟨w1.heap.size,1,none⟩=some (.int .i64 y.k)∧w'.cell? ⟨w1.heap.size,2,none⟩=some (.int .i64 y.n)∧w'.cell? ⟨w1.heap.size,3,none⟩=some (.string y.name)∧w'.cell? ⟨w1.heap.size,4,none⟩=some (.slice y.aS y.nS y.cS)∧w'.cell? ⟨w1.heap.size,5,none⟩=some (.slice y.aL y.nL y.cL)∧w'.cell? ⟨w6.heap.size,0,none⟩=some (.int .i64 y6.op)∧w'.cell? ⟨w6.heap.size,1,none⟩=some (.int .i64 y6.k)∧w'.cell? ⟨w6.heap.size,2,none⟩=some (.int .i64 y6.n)∧w'.cell? ⟨w6.heap.size,3,none⟩=some (.string y6.name)∧w'.cell? ⟨w6.heap.size,4,none⟩=some (.slice y6.aS y6.nS y6.cS)∧w'.cell? ⟨w6.heap.size,5,none⟩=some (.slice y6.aL y6.nL y6.cL)∧w'.cell? ⟨w.heap.size+1+1+1+1+1+1+1+1+1+1+1+1,4,none⟩=some (.slice (some ⟨w.heap.size+1+1+1+1+1+1+1+1+1+1+1,0,none⟩) 3 3)∧w'.cell? ⟨w.heap.size+1+1+1+1+1+1+1+1+1+1+1,j,none⟩=some (.int .i64 kk)) (fun j=>decide (j=13)) (by kernel_rfl) ?_;generalize w7.drew=wd at A8 T8 X8 Y8 KK8 KJ8 he8 hx8 at8 z8 ⊢;have Z8:=zD z8;have hjI:(j:Int)<3:=(by omega);clear A7 T7 X7 Y7 KK7 KJ7 he7 hx7 at7 bd z8;obtain ⟨cx0,cx1,cx2,cx3,cx4,cx5⟩:=zH X8;obtain ⟨cy0,cy1,cy2,cy3,cy4,cy5⟩:=zH Y8;have ck:=co KK8 4;simp only [gT,gZ,gS] at ck;have cj:_=some (Value.int .i64 kk):=(co KJ8 j).trans (by rw [HKK.out];rcases (show j=0∨j=1∨j=2 by omega) with rfl | rfl | rfl<;>rfl);have hH:=And.intro cx0 (And.intro cx1 (And.intro cx2 (And.intro cx3 (And.intro cx4 (And.intro cx5 (And.intro cy0 (And.intro cy1 (And.intro cy2 (And.intro cy3 (And.intro cy4 (And.intro cy5 (And.intro ck (cj)))))))))))));clear cx0 cx1 cx2 cx3 cx4 cx5 cy0 cy1 cy2 cy3 cy4 cy5 ck cj;refine' zE (i:=0) (v:=_) rfl (by kernel_rfl) (by kernel_rfl) (by kernel_rfl) (by kernel_rfl) (fun _ _ _ h=>h) hH (by rfl) ?hyv ?o45
    case hyv=>
     intro wz hSw;obtain ⟨cx0,cx1,cx2,cx3,cx4,cx5,cy0,cy1,cy2,cy3,cy4,cy5,ck,cj⟩:=hSw;go_simp
     try rfl
    try simp only [Act.put,sT,sZ,sS]
    refine' zE (i:=1) (v:=_) rfl (by kernel_rfl) (by kernel_rfl) (by kernel_rfl) (by kernel_rfl) (fun _ _ _ h=>h) hH (by rfl) ?hyv ?o46
    case hyv=>
     intro wz hSw;obtain ⟨cx0,cx1,cx2,cx3,cx4,cx5,cy0,cy1,cy2,cy3,cy4,cy5,ck,cj⟩:=hSw;go_simp
     try rfl
    try simp only [Act.put,sT,sZ,sS]
    refine' zE (i:=2) (v:=_) rfl (by kernel_rfl) (by kernel_rfl) (by kernel_rfl) (by kernel_rfl) (fun _ _ _ h=>h) hH (by rfl) ?hyv ?o47
    case hyv=>
     intro wz hSw;obtain ⟨cx0,cx1,cx2,cx3,cx4,cx5,cy0,cy1,cy2,cy3,cy4,cy5,ck,cj⟩:=hSw;go_simp
     try rfl
    try simp only [Act.put,sT,sZ,sS]
    refine' zE (i:=3) (v:=_) rfl (by kernel_rfl) (by kernel_rfl) (by kernel_rfl) (by kernel_rfl) (fun _ _ _ h=>h) hH (by rfl) ?hyv ?o48
    case hyv=>
     intro wz hSw;obtain ⟨cx0,cx1,cx2,cx3,cx4,cx5,cy0,cy1,cy2,cy3,cy4,cy5,ck,cj⟩:=hSw;go_simp
     try rfl
    try simp only [Act.put,sT,sZ,sS]
    refine' zE (i:=4) (v:=_) rfl (by kernel_rfl) (by kernel_rfl) (by kernel_rfl) (by kernel_rfl) (fun _ _ _ h=>h) hH (by rfl) ?hyv ?o49
    case hyv=>
     intro wz hSw;obtain ⟨cx0,cx1,cx2,cx3,cx4,cx5,cy0,cy1,cy2,cy3,cy4,cy5,ck,cj⟩:=hSw;go_simp
     try rfl
    try simp only [Act.put,sT,sZ,sS]
    refine' zE (i:=5) (v:=_) rfl (by kernel_rfl) (by kernel_rfl) (by kernel_rfl) (by kernel_rfl) (fun _ _ _ h=>h) hH (by rfl) ?hyv ?o50
    case hyv=>
     intro wz hSw;obtain ⟨cx0,cx1,cx2,cx3,cx4,cx5,cy0,cy1,cy2,cy3,cy4,cy5,ck,cj⟩:=hSw;go_simp
     try rfl
    try simp only [Act.put,sT,sZ,sS]
    refine' zE (i:=6) (v:=_) rfl (by kernel_rfl) (by kernel_rfl) (by kernel_rfl) (by kernel_rfl) (fun _ _ _ h=>h) hH (by rfl) ?hyv ?o51
    case hyv=>
     intro wz hSw;obtain ⟨cx0,cx1,cx2,cx3,cx4,cx5,cy0,cy1,cy2,cy3,cy4,cy5,ck,cj⟩:=hSw;go_simp
     try rw [if_pos hjI]
     try rfl
    try simp only [Act.put,sT,sZ,sS]
    refine' zE (i:=7) (v:=_) rfl (by kernel_rfl) (by kernel_rfl) (by kernel_rfl) (by kernel_rfl) (fun _ _ _ h=>h) hH (by rfl) ?hyv ?o52
    case hyv=>
     intro wz hSw;obtain ⟨cx0,cx1,cx2,cx3,cx4,cx5,cy0,cy1,cy2,cy3,cy4,cy5,ck,cj⟩:=hSw;go_simp
     try rfl
    try simp only [Act.put,sT,sZ,sS]
    refine' zE (i:=8) (v:=_) rfl (by kernel_rfl) (by kernel_rfl) (by kernel_rfl) (by kernel_rfl) (fun _ _ _ h=>h) hH (by rfl) ?hyv ?o53
    case hyv=>
     intro wz hSw;obtain ⟨cx0,cx1,cx2,cx3,cx4,cx5,cy0,cy1,cy2,cy3,cy4,cy5,ck,cj⟩:=hSw;go_simp
     try rfl
    try simp only [Act.put,sT,sZ,sS]
    refine' zE (i:=9) (v:=_) rfl (by kernel_rfl) (by kernel_rfl) (by kernel_rfl) (by kernel_rfl) (fun _ _ _ h=>h) hH (by rfl) ?hyv ?o54
    case hyv=>
     intro wz hSw;obtain ⟨cx0,cx1,cx2,cx3,cx4,cx5,cy0,cy1,cy2,cy3,cy4,cy5,ck,cj⟩:=hSw;go_simp
     try rfl
    try simp only [Act.put,sT,sZ,sS]
    refine zG (i:=10) rfl (by kernel_rfl) (by rfl) (fun K hK=>?_);go_simp;obtain ⟨w9,hw9⟩:=nm (wd.alloc (.cells #[.int .i64 y.op,.int .i64 y.k,.int .i64 y.n,.string y.name,.slice y.aS y.nS y.cS,.slice y.aL y.nL y.cL,.int .i64 y6.op,.int .i64 y6.k,.int .i64 y6.n,.string y6.name,.slice y6.aS y6.nS y6.cS,.slice y6.aL y6.nL y6.cL] 45 (0,0)));have b9:=xA hw9;have hez:HEx (fun i=>W.heap.size≤i∧i≠w1.heap.size) w9 (ExV.cells ⟨5,kk,0,⟨#[]⟩,none,0,0,some ⟨wd.heap.size,0,none⟩,2,2⟩) (.mk 5 kk 0 ⟨#[]⟩ [] [e,x6]):=by
     rw [hw9];exact HEx.pair kk he8 hx8 45 (by have:=Z8.out;have:=Z7.out;have:=HY.out;omega)
    rw [←hw9];have A9:=A8.trans (aside b9) A8.size;have T9:=T8.under b9 (by have:=Z8.out;have:=Z7.out;have:=HY.out;omega);have X9:=(b9.block _ (zC X8)).trans X8;have Y9:=(b9.block _ (zC Y8)).trans Y8;have KK9:=(b9.block _ (zC KK8)).trans KK8;have KJ9:=(b9.block _ (zC KJ8)).trans KJ8;have at9:=at8.past b9;have y9:=b9.size;clear hH hw9 A8 T8 X8 Y8 KK8 KJ8 he8 hx8 at8;obtain ⟨cx0,cx1,cx2,cx3,cx4,cx5⟩:=zH X9;obtain ⟨cy0,cy1,cy2,cy3,cy4,cy5⟩:=zH Y9;have ck:=co KK9 4;simp only [gT,gZ,gS] at ck;have cj:_=some (Value.int .i64 kk):=(co KJ9 j).trans (by rw [HKK.out];rcases (show j=0∨j=1∨j=2 by omega) with rfl | rfl | rfl<;>rfl);have hH:=And.intro cx0 (And.intro cx1 (And.intro cx2 (And.intro cx3 (And.intro cx4 (And.intro cx5 (And.intro cy0 (And.intro cy1 (And.intro cy2 (And.intro cy3 (And.intro cy4 (And.intro cy5 (And.intro ck (cj)))))))))))));clear cx0 cx1 cx2 cx3 cx4 cx5 cy0 cy1 cy2 cy3 cy4 cy5 ck cj;refine hK.out _ _ (fun _=>hH) ?_;clear hK K
    try simp only [Act.put,sT,sZ,sS]
    refine' zE (i:=11) (v:=_) rfl (by kernel_rfl) (by kernel_rfl) (by kernel_rfl) (by kernel_rfl) (fun _ _ _ h=>h) hH (by rfl) ?hyv ?o55
    case hyv=>
     intro wz hSw;obtain ⟨cx0,cx1,cx2,cx3,cx4,cx5,cy0,cy1,cy2,cy3,cy4,cy5,ck,cj⟩:=hSw;go_simp
     try rfl
    try simp only [Act.put,sT,sZ,sS]
    refine zG (i:=12) rfl (by kernel_rfl) (by rfl) (fun K hK=>?_);go_simp;refine (vQ at9 HF6.out ⟨5,kk,0,⟨#[]⟩,none,0,0,some ⟨wd.heap.size,0,none⟩,2,2⟩).mono ?_;rintro r wa ⟨rfl,ata,aa⟩;have Aa:=A9.trans aa A9.size;have Ta:=T9.past aa hbb (by have:=Z8.out;have:=Z7.out;have:=HY.out;omega);have Xa:=aa.keep X9 (zC X9) (by simp;have:=HY.out;have:=HZ.out;omega);have Ya:=aa.keep Y9 (zC Y9) (by simp;have:=HY.out;have:=HZ.out;omega);have KKa:=aa.keep KK9 (zC KK9) (by simp;omega);have KJa:=aa.keep KJ9 (zC KJ9) (by simp;omega);have hea:=hez.past aa (fun i hi=>by simp;have:=HZ.out;omega);have ya:=aa.size;clear hH A9 T9 X9 Y9 KK9 KJ9 hez at9 aa;obtain ⟨cx0,cx1,cx2,cx3,cx4,cx5⟩:=zH Xa;obtain ⟨cy0,cy1,cy2,cy3,cy4,cy5⟩:=zH Ya;have ck:=co KKa 4;simp only [gT,gZ,gS] at ck;have cj:_=some (Value.int .i64 kk):=(co KJa j).trans (by rw [HKK.out];rcases (show j=0∨j=1∨j=2 by omega) with rfl | rfl | rfl<;>rfl);have hH:=And.intro cx0 (And.intro cx1 (And.intro cx2 (And.intro cx3 (And.intro cx4 (And.intro cx5 (And.intro cy0 (And.intro cy1 (And.intro cy2 (And.intro cy3 (And.intro cy4 (And.intro cy5 (And.intro ck (cj)))))))))))));clear cx0 cx1 cx2 cx3 cx4 cx5 cy0 cy1 cy2 cy3 cy4 cy5 ck cj;have fx:=fun o=>fo Xa o;refine hK.out _ _ (fun _=>hH) ?_;clear hK K
    try simp only [Act.put,sT,sZ,sS]
    obtain ⟨cx0,cx1,cx2,cx3,cx4,cx5,cy0,cy1,cy2,cy3,cy4,cy5,ck,cj⟩:=hH;refine zG (i:=13) rfl (by kernel_rfl) (by rfl) (fun K hK=>?_);unfold exA;go_simp;refine hK.out _ _ (fun h=>by cases h) ?_;clear hK K
    try simp only [Act.put,sT,sZ,sS]
    refine zR (by kernel_rfl) ?_ _;clear cx0 cx1 cx2 cx3 cx4 cx5 cy0 cy1 cy2 cy3 cy4 cy5 ck cj fx;go_wp2_with fail;go_roundg f
    case measure=>omega
    case rel=>exact ⟨partS (exprS R (.ok p (n+1))),(⟨5,kk,0,⟨#[]⟩,none,0,0,some ⟨wd.heap.size,0,none⟩,2,2⟩:ExV),.mk 5 kk 0 ⟨#[]⟩ [] [e,x6],hea.put6 (k:=w1.heap.size) (by simp) (⟨5,kk,0,⟨#[]⟩,none,0,0,some ⟨wd.heap.size,0,none⟩,2,2⟩:ExV),ata.put6 (k:=w1.heap.size) (by have:=HY.out;have:=HZ.out;omega) (by have:=HY.out;have:=HZ.out;omega) (⟨5,kk,0,⟨#[]⟩,none,0,0,some ⟨wd.heap.size,0,none⟩,2,2⟩:ExV),Aa.put6 (k:=w1.heap.size) (by have:=HY.out;have:=HZ.out;omega) (⟨5,kk,0,⟨#[]⟩,none,0,0,some ⟨wd.heap.size,0,none⟩,2,2⟩:ExV),Ta.put6 (k:=w1.heap.size) HY.out (⟨5,kk,0,⟨#[]⟩,none,0,0,some ⟨wd.heap.size,0,none⟩,2,2⟩:ExV),zAO Xa (⟨5,kk,0,⟨#[]⟩,none,0,0,some ⟨wd.heap.size,0,none⟩,2,2⟩:ExV),zAi hN hst.out HP.out HL.out HC.out HG6.out⟩
end Go.Proofs.YthkpanbgkimhoaaGreatDoor
