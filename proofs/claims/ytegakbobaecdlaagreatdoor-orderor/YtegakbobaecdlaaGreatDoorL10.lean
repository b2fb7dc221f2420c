import Derived.Test.YtegakbobaecdlaaGreatDoorL08
import Derived.WalkKit
import Derived.WalkSpells
import Derived.IntWalk
import Derived.Lib.Hide
set_option linter.unusedVariables false
set_option linter.unusedSimpArgs false
set_option maxHeartbeats 64000000
set_option maxRecDepth 100000
namespace Go.Proofs.YtegakbobaecdlaaGreatDoor
open Go.RowKit Go.IntWalk
theorem vQ {ok:Nat->Prop} (t:TRv) {aa:Option Addr} {na ca:Nat} (a b c:Sk.Vr) (w:World) (hl:HVars ok w (.slice aa na ca) [a,b,c]):Calls Tryz.prog 149 #[tv t aa na ca] w fun e w'=>e=.returned (.bool (Sk.hasPlace a b c))/\Below w.heap.size w w':=by
 obtain ⟨ao,cap,hv,hq1,hq2,hat0⟩:=hl.at;injection hv with v1 v2 v3;subst v1 v2 v3;obtain ⟨bl,ol,rfl,yl,x0,y0⟩:=hat0 0 (by simp);obtain ⟨bl1,ol1,ee,yl1,x1,y1⟩:=hat0 1 (by simp);injection ee with ee;injection ee with e1 e2 e3;subst e1 e2;clear yl1 e3;obtain ⟨bl2,ol2,ee,yl2,x2,y2⟩:=hat0 2 (by simp);injection ee with ee;injection ee with e1 e2 e3;subst e1 e2;clear yl2 e3;simp at x0 y0 x1 y1 x2 y2;unfold maxLen at hq2;obtain ⟨na,hna⟩:=nmQ ([a,b,c].length);have hn0:na=3:=(by rw [hna];rfl);rw [<-hna] at hq1 ⊢;clear hna hat0 hl;subst hn0;have b1:Below w.heap.size w (w.alloc (.cells #[.int .i64 t.op,.int .i64 t.k,.int .i64 t.out,.int .i64 t.n,.slice t.aA t.nA t.cA,.slice t.aE t.nE t.cE,.int .u8 t.o.elem,.int .i64 t.o.n,.slice (some ⟨bl,ol,none⟩) 3 ca] 149 (0,0))):=(Below.refl _ _).alloc zM _;have kA:=zI w (.cells #[.int .i64 t.op,.int .i64 t.k,.int .i64 t.out,.int .i64 t.n,.slice t.aA t.nA t.cA,.slice t.aE t.nE t.cE,.int .u8 t.o.elem,.int .i64 t.o.n,.slice (some ⟨bl,ol,none⟩) 3 ca] 149 (0,0));have x0q:=(b1.cell (p:=⟨bl,ol,none⟩) yl).trans x0;have y0q:=(b1.cell (p:=⟨bl,ol+1,none⟩) yl).trans y0;have x1q:=(b1.cell (p:=⟨bl,ol+2,none⟩) yl).trans x1;have y1q:=(b1.cell (p:=⟨bl,ol+2+1,none⟩) yl).trans y1;have x2q:=(b1.cell (p:=⟨bl,ol+4,none⟩) yl).trans x2;have y2q:=(b1.cell (p:=⟨bl,ol+4+1,none⟩) yl).trans y2;have ylq:=Nat.lt_of_lt_of_le yl b1.size;clear x0 y0 x1 y1 x2 y2;obtain ⟨R,hR⟩:=nmQ (Sk.hasPlace a b c);rw [<-hR];unfold Sk.hasPlace at hR;have hc1:=xG a c;generalize Sk.arrOf a c=q at hc1 hR;obtain ⟨q2,hq2⟩:=nmQ (Sk.same b (Sk.sc 105));rw [<-hq2] at hR;have HQ2:=zE hq2;have HR:=zE hR;clear hR hq2;go_enter Tryz.func149,Tryz.ntmps149;go_upto_region 1 with fail;generalize w.alloc (.cells #[.int .i64 t.op,.int .i64 t.k,.int .i64 t.out,.int .i64 t.n,.slice t.aA t.nA t.cA,.slice t.aE t.nE t.cE,.int .u8 t.o.elem,.int .i64 t.o.n,.slice (some ⟨bl,ol,none⟩) 3 ca] 149 (0,0))=w1 at b1 kA ylq x0q y0q x1q y1q x2q y2q ⊢;have a0:=coQ kA 0;have a1:=coQ kA 1;have a2:=coQ kA 2;have a3:=coQ kA 3;have a4:=coQ kA 4;have a5:=coQ kA 5;have a6:=coQ kA 6;have a7:=coQ kA 7;have a8:=coQ kA 8;simp at a0 a1 a2 a3 a4 a5 a6 a7 a8;have yA:=zG kA;refine zK (fun w'=>Below w1.heap.size w1 w') (fun _=>false) (by kernel_rfl) ?_;have hH0:Below w1.heap.size w1 w1.drew:=(Below.refl _ _).drew;generalize w1.drew=wd0 at hH0 ⊢;refine' tkR 0 3 hH0 ?o1
 refine' tkQ 1 4 hH0 ?hyv ?o2
 case hyv=>
  intro wz hSw;have zc0:=(hSw.cell (p:=⟨w.heap.size,0,none⟩) yA).trans a0;have zc1:=(hSw.cell (p:=⟨w.heap.size,1,none⟩) yA).trans a1;have zc2:=(hSw.cell (p:=⟨w.heap.size,2,none⟩) yA).trans a2;have zc3:=(hSw.cell (p:=⟨w.heap.size,3,none⟩) yA).trans a3;have zc4:=(hSw.cell (p:=⟨w.heap.size,4,none⟩) yA).trans a4;have zc5:=(hSw.cell (p:=⟨w.heap.size,5,none⟩) yA).trans a5;have zc6:=(hSw.cell (p:=⟨w.heap.size,6,none⟩) yA).trans a6;have zc7:=(hSw.cell (p:=⟨w.heap.size,7,none⟩) yA).trans a7;have zc8:=(hSw.cell (p:=⟨w.heap.size,8,none⟩) yA).trans a8;have zc9:=(hSw.cell (p:=⟨bl,ol,none⟩) ylq).trans x0q;have zc10:=(hSw.cell (p:=⟨bl,ol+1,none⟩) ylq).trans y0q;have zc11:=(hSw.cell (p:=⟨bl,ol+2,none⟩) ylq).trans x1q;have zc12:=(hSw.cell (p:=⟨bl,ol+2+1,none⟩) ylq).trans y1q;have zc13:=(hSw.cell (p:=⟨bl,ol+4,none⟩) ylq).trans x2q;have zc14:=(hSw.cell (p:=⟨bl,ol+4+1,none⟩) ylq).trans y2q;go_simp
  try rfl
 try simp only [Act.put,sT,sZ,sS]
 refine' tkR 2 5 hH0 ?o3
 refine' tkQ 3 6 hH0 ?hyv ?o4
 case hyv=>
  intro wz hSw;have zc0:=(hSw.cell (p:=⟨w.heap.size,0,none⟩) yA).trans a0;have zc1:=(hSw.cell (p:=⟨w.heap.size,1,none⟩) yA).trans a1;have zc2:=(hSw.cell (p:=⟨w.heap.size,2,none⟩) yA).trans a2;have zc3:=(hSw.cell (p:=⟨w.heap.size,3,none⟩) yA).trans a3;have zc4:=(hSw.cell (p:=⟨w.heap.size,4,none⟩) yA).trans a4;have zc5:=(hSw.cell (p:=⟨w.heap.size,5,none⟩) yA).trans a5;have zc6:=(hSw.cell (p:=⟨w.heap.size,6,none⟩) yA).trans a6;have zc7:=(hSw.cell (p:=⟨w.heap.size,7,none⟩) yA).trans a7;have zc8:=(hSw.cell (p:=⟨w.heap.size,8,none⟩) yA).trans a8;have zc9:=(hSw.cell (p:=⟨bl,ol,none⟩) ylq).trans x0q;have zc10:=(hSw.cell (p:=⟨bl,ol+1,none⟩) ylq).trans y0q;have zc11:=(hSw.cell (p:=⟨bl,ol+2,none⟩) ylq).trans x1q;have zc12:=(hSw.cell (p:=⟨bl,ol+2+1,none⟩) ylq).trans y1q;have zc13:=(hSw.cell (p:=⟨bl,ol+4,none⟩) ylq).trans x2q;have zc14:=(hSw.cell (p:=⟨bl,ol+4+1,none⟩) ylq).trans y2q;go_simp
  try rfl
 try simp only [Act.put,sT,sZ,sS]
 refine' tkR 4 7 hH0 ?o5
 refine' tkQ 5 8 hH0 ?hyv ?o6
 case hyv=>
  intro wz hSw;have zc0:=(hSw.cell (p:=⟨w.heap.size,0,none⟩) yA).trans a0;have zc1:=(hSw.cell (p:=⟨w.heap.size,1,none⟩) yA).trans a1;have zc2:=(hSw.cell (p:=⟨w.heap.size,2,none⟩) yA).trans a2;have zc3:=(hSw.cell (p:=⟨w.heap.size,3,none⟩) yA).trans a3;have zc4:=(hSw.cell (p:=⟨w.heap.size,4,none⟩) yA).trans a4;have zc5:=(hSw.cell (p:=⟨w.heap.size,5,none⟩) yA).trans a5;have zc6:=(hSw.cell (p:=⟨w.heap.size,6,none⟩) yA).trans a6;have zc7:=(hSw.cell (p:=⟨w.heap.size,7,none⟩) yA).trans a7;have zc8:=(hSw.cell (p:=⟨w.heap.size,8,none⟩) yA).trans a8;have zc9:=(hSw.cell (p:=⟨bl,ol,none⟩) ylq).trans x0q;have zc10:=(hSw.cell (p:=⟨bl,ol+1,none⟩) ylq).trans y0q;have zc11:=(hSw.cell (p:=⟨bl,ol+2,none⟩) ylq).trans x1q;have zc12:=(hSw.cell (p:=⟨bl,ol+2+1,none⟩) ylq).trans y1q;have zc13:=(hSw.cell (p:=⟨bl,ol+4,none⟩) ylq).trans x2q;have zc14:=(hSw.cell (p:=⟨bl,ol+4+1,none⟩) ylq).trans y2q;go_simp
  try rfl
 try simp only [Act.put,sT,sZ,sS]
 refine' tkR 6 9 hH0 ?o7
 refine' tkQ 7 10 hH0 ?hyv ?o8
 case hyv=>
  intro wz hSw;have zc0:=(hSw.cell (p:=⟨w.heap.size,0,none⟩) yA).trans a0;have zc1:=(hSw.cell (p:=⟨w.heap.size,1,none⟩) yA).trans a1;have zc2:=(hSw.cell (p:=⟨w.heap.size,2,none⟩) yA).trans a2;have zc3:=(hSw.cell (p:=⟨w.heap.size,3,none⟩) yA).trans a3;have zc4:=(hSw.cell (p:=⟨w.heap.size,4,none⟩) yA).trans a4;have zc5:=(hSw.cell (p:=⟨w.heap.size,5,none⟩) yA).trans a5;have zc6:=(hSw.cell (p:=⟨w.heap.size,6,none⟩) yA).trans a6;have zc7:=(hSw.cell (p:=⟨w.heap.size,7,none⟩) yA).trans a7;have zc8:=(hSw.cell (p:=⟨w.heap.size,8,none⟩) yA).trans a8;have zc9:=(hSw.cell (p:=⟨bl,ol,none⟩) ylq).trans x0q;have zc10:=(hSw.cell (p:=⟨bl,ol+1,none⟩) ylq).trans y0q;have zc11:=(hSw.cell (p:=⟨bl,ol+2,none⟩) ylq).trans x1q;have zc12:=(hSw.cell (p:=⟨bl,ol+2+1,none⟩) ylq).trans y1q;have zc13:=(hSw.cell (p:=⟨bl,ol+4,none⟩) ylq).trans x2q;have zc14:=(hSw.cell (p:=⟨bl,ol+4+1,none⟩) ylq).trans y2q;go_simp
  try rfl
 try simp only [Act.put,sT,sZ,sS]
 refine tnQ 8 (fun K hK=>?_);go_simp;refine (hc1 wd0).mono ?_;rintro eq wd1 ⟨rfl,bq1⟩;have hH1:Below w1.heap.size w1 wd1:=hH0.trans (bq1.mono hH0.size);refine hK.out _ _ (fun _=>hH1) ?_;clear hK K
 try simp only [Act.put,sT,sZ,sS]
 refine' tkR 9 12 hH1 ?o9
 cases q
 case false=>
  refine zD (i:=10) (oi:=⟨some 13,_,_,_,_,_⟩) rfl (by kernel_rfl) (by kernel_rfl) (by kernel_rfl) (by kernel_rfl) (fun _ _ _ h=>h) hH1 (by rfl) ?_
  try simp only [Act.put,sT,sZ,sS]
  refine zD (i:=11) (oi:=⟨some 14,_,_,_,_,_⟩) rfl (by kernel_rfl) (by kernel_rfl) (by kernel_rfl) (by kernel_rfl) (fun _ _ _ h=>h) hH1 (by rfl) ?_
  try simp only [Act.put,sT,sZ,sS]
  refine zD (i:=12) (oi:=⟨some 15,_,_,_,_,_⟩) rfl (by kernel_rfl) (by kernel_rfl) (by kernel_rfl) (by kernel_rfl) (fun _ _ _ h=>h) hH1 (by rfl) ?_
  try simp only [Act.put,sT,sZ,sS]
  refine zD (i:=13) (oi:=⟨some 16,_,_,_,_,_⟩) rfl (by kernel_rfl) (by kernel_rfl) (by kernel_rfl) (by kernel_rfl) (fun _ _ _ h=>h) hH1 (by rfl) ?_
  try simp only [Act.put,sT,sZ,sS]
  refine zD (i:=14) (oi:=⟨some 17,_,_,_,_,_⟩) rfl (by kernel_rfl) (by kernel_rfl) (by kernel_rfl) (by kernel_rfl) (fun _ _ _ h=>h) hH1 (by rfl) ?_
  try simp only [Act.put,sT,sZ,sS]
  refine zD (i:=15) (oi:=⟨some 18,_,_,_,_,_⟩) rfl (by kernel_rfl) (by kernel_rfl) (by kernel_rfl) (by kernel_rfl) (fun _ _ _ h=>h) hH1 (by rfl) ?_
  try simp only [Act.put,sT,sZ,sS]
  refine' tkR 16 19 hH1 ?o10
  refine' tkR 17 2 hH1 ?o11
  refine zH (by kernel_rfl) ?_ _;go_wp2;go_ret;refine ⟨?_,b1.trans (hH1.mono b1.size)⟩;rw [HR.out];rfl
 case true=>
  refine' tkR 10 13 hH1 ?o12
  refine' tkQ 11 14 hH1 ?hyv ?o13
  case hyv=>
   intro wz hSw;have zc0:=(hSw.cell (p:=⟨w.heap.size,0,none⟩) yA).trans a0;have zc1:=(hSw.cell (p:=⟨w.heap.size,1,none⟩) yA).trans a1;have zc2:=(hSw.cell (p:=⟨w.heap.size,2,none⟩) yA).trans a2;have zc3:=(hSw.cell (p:=⟨w.heap.size,3,none⟩) yA).trans a3;have zc4:=(hSw.cell (p:=⟨w.heap.size,4,none⟩) yA).trans a4;have zc5:=(hSw.cell (p:=⟨w.heap.size,5,none⟩) yA).trans a5;have zc6:=(hSw.cell (p:=⟨w.heap.size,6,none⟩) yA).trans a6;have zc7:=(hSw.cell (p:=⟨w.heap.size,7,none⟩) yA).trans a7;have zc8:=(hSw.cell (p:=⟨w.heap.size,8,none⟩) yA).trans a8;have zc9:=(hSw.cell (p:=⟨bl,ol,none⟩) ylq).trans x0q;have zc10:=(hSw.cell (p:=⟨bl,ol+1,none⟩) ylq).trans y0q;have zc11:=(hSw.cell (p:=⟨bl,ol+2,none⟩) ylq).trans x1q;have zc12:=(hSw.cell (p:=⟨bl,ol+2+1,none⟩) ylq).trans y1q;have zc13:=(hSw.cell (p:=⟨bl,ol+4,none⟩) ylq).trans x2q;have zc14:=(hSw.cell (p:=⟨bl,ol+4+1,none⟩) ylq).trans y2q;go_simp
   try rfl
  try simp only [Act.put,sT,sZ,sS]
  refine' tkR 12 15 hH1 ?o14
  refine' tkQ 13 16 hH1 ?hyv ?o15
  case hyv=>
   intro wz hSw;have zc0:=(hSw.cell (p:=⟨w.heap.size,0,none⟩) yA).trans a0;have zc1:=(hSw.cell (p:=⟨w.heap.size,1,none⟩) yA).trans a1;have zc2:=(hSw.cell (p:=⟨w.heap.size,2,none⟩) yA).trans a2;have zc3:=(hSw.cell (p:=⟨w.heap.size,3,none⟩) yA).trans a3;have zc4:=(hSw.cell (p:=⟨w.heap.size,4,none⟩) yA).trans a4;have zc5:=(hSw.cell (p:=⟨w.heap.size,5,none⟩) yA).trans a5;have zc6:=(hSw.cell (p:=⟨w.heap.size,6,none⟩) yA).trans a6;have zc7:=(hSw.cell (p:=⟨w.heap.size,7,none⟩) yA).trans a7;have zc8:=(hSw.cell (p:=⟨w.heap.size,8,none⟩) yA).trans a8;have zc9:=(hSw.cell (p:=⟨bl,ol,none⟩) ylq).trans x0q;have zc10:=(hSw.cell (p:=⟨bl,ol+1,none⟩) ylq).trans y0q;have zc11:=(hSw.cell (p:=⟨bl,ol+2,none⟩) ylq).trans x1q;have zc12:=(hSw.cell (p:=⟨bl,ol+2+1,none⟩) ylq).trans y1q;have zc13:=(hSw.cell (p:=⟨bl,ol+4,none⟩) ylq).trans x2q;have zc14:=(hSw.cell (p:=⟨bl,ol+4+1,none⟩) ylq).trans y2q;go_simp
   try rfl
  try simp only [Act.put,sT,sZ,sS]
  refine tnQ 14 (fun K hK=>?_);go_simp;refine (xM 105 wd1).mono ?_;rintro eq wd2 ⟨rfl,bq2⟩;have hH2:Below w1.heap.size w1 wd2:=hH1.trans (bq2.mono hH1.size);refine hK.out _ _ (fun _=>hH2) ?_;clear hK K
  try simp only [Act.put,sT,sZ,sS]
  refine' zO (i:=15) (oi:=⟨some 18,_,_,_,_,_⟩) (v:=.bool q2) rfl (by kernel_rfl) (by kernel_rfl) (by kernel_rfl) (by kernel_rfl) (fun _ _ _ h=>h) hH2 (by rfl) ?hyv ?o16
  case hyv=>
   intro wz hSw;go_simp;rw [HQ2.out];unfold Sk.same;by_cases h1:b.elem=(Sk.sc 105).elem<;>by_cases h2:b.n=(Sk.sc 105).n<;>simp [h1,h2]
  try simp only [Act.put,sT,sZ,sS]
  refine' tkR 16 19 hH2 ?o17
  refine' tkR 17 2 hH2 ?o18
  refine zH (by kernel_rfl) ?_ _;go_wp2;go_ret;refine ⟨?_,b1.trans (hH2.mono b1.size)⟩;rw [HR.out];rw [Bool.true_and];rfl
end Go.Proofs.YtegakbobaecdlaaGreatDoor
