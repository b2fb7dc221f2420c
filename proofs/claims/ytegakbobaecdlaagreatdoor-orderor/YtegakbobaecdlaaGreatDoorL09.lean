import Derived.Test.YtegakbobaecdlaaGreatDoorL08
import Derived.WalkKit
import Derived.WalkSpells
import Derived.IntWalk
import Derived.Deep.Cut
import Derived.Deep.LoopGhost
import Derived.Lib.Hide
set_option linter.unusedVariables false
set_option linter.unusedSimpArgs false
set_option maxHeartbeats 64000000
set_option maxRecDepth 100000
namespace Go.Proofs.YtegakbobaecdlaaGreatDoor
open Go.RowKit Go.IntWalk
theorem fits2_any {ok:Nat->Prop} (t:TRv) {aa:Option Addr} {na ca:Nat} (a:Sk.Vr) (w:World) (hG:GlobK w) (hl:HVars ok w (.slice aa na ca) [a]) :
  Calls Tryz.prog 133 #[.agg #[.int .i64 2,.int .i64 t.k,.int .i64 t.out,.int .i64 t.n,.slice t.aA t.nA t.cA,.slice t.aE t.nE t.cE,.int .u8 t.o.elem,.int .i64 t.o.n,.slice aa na ca]] w fun e w'=>e=.returned (.bool (Sk.same t.o a))/\Below w.heap.size w w':=by
 have HLL:=zE hl;obtain ⟨ao,cap,hv,hq1,hq2,hat0⟩:=hl.at;injection hv with v1 v2 v3;subst v1 v2 v3;obtain ⟨bl,ol,rfl,yl,x0,y0⟩:=hat0 0 (by simp);simp at x0 y0;unfold maxLen at hq2;obtain ⟨na,hna⟩:=nmQ ([a].length);have hn0:na=1:=(by rw [hna];rfl);rw [<-hna] at hq1 ⊢;clear hna hat0 hl;subst hn0;have b1:Below w.heap.size w (w.alloc (.cells #[.int .i64 2,.int .i64 t.k,.int .i64 t.out,.int .i64 t.n,.slice t.aA t.nA t.cA,.slice t.aE t.nE t.cE,.int .u8 t.o.elem,.int .i64 t.o.n,.slice (some ⟨bl,ol,none⟩) 1 ca] 149 (0,0))):=(Below.refl _ _).alloc zM _;have kA:=zI w (.cells #[.int .i64 2,.int .i64 t.k,.int .i64 t.out,.int .i64 t.n,.slice t.aA t.nA t.cA,.slice t.aE t.nE t.cE,.int .u8 t.o.elem,.int .i64 t.o.n,.slice (some ⟨bl,ol,none⟩) 1 ca] 149 (0,0));have HG1:=zE (hG.under b1);have HL1:=zE (HLL.out.under b1);have x0q:=(b1.cell (p:=⟨bl,ol,none⟩) yl).trans x0;have y0q:=(b1.cell (p:=⟨bl,ol+1,none⟩) yl).trans y0;have ylq:=Nat.lt_of_lt_of_le yl b1.size;clear x0 y0;obtain ⟨R,hR⟩:=nmQ ((Sk.same t.o a));rw [<-hR];obtain ⟨q1,hq1⟩:=nmQ (Sk.same t.o a);rw [<-hq1] at hR;have HQ1:=zE hq1;have HR:=zE hR;clear hR hG hq1 HLL;go_enter Tryz.func133,Tryz.ntmps133;go_upto_region 5 with fail;generalize w.alloc (.cells #[.int .i64 2,.int .i64 t.k,.int .i64 t.out,.int .i64 t.n,.slice t.aA t.nA t.cA,.slice t.aE t.nE t.cE,.int .u8 t.o.elem,.int .i64 t.o.n,.slice (some ⟨bl,ol,none⟩) 1 ca] 149 (0,0))=w1 at b1 kA HG1 HL1 ylq x0q y0q ⊢;have u0:=coQ kA 0;have u1:=coQ kA 1;have u2:=coQ kA 2;have u3:=coQ kA 3;have u4:=coQ kA 4;have u5:=coQ kA 5;have u6:=coQ kA 6;have u7:=coQ kA 7;have u8:=coQ kA 8;simp at u0 u1 u2 u3 u4 u5 u6 u7 u8;have yA:=zG kA;refine zK (fun w'=>Below w1.heap.size w1 w') (fun _=>false) (by kernel_rfl) ?_;have hH0:Below w1.heap.size w1 w1.drew:=(Below.refl _ _).drew;generalize w1.drew=wd0 at hH0 ⊢;refine' tkR 0 26 hH0 ?o1
 refine' tkQ 1 27 hH0 ?hyv ?o2
 case hyv=>
  intro wz hSw;have zc0:=(hSw.cell (p:=⟨w.heap.size,0,none⟩) yA).trans u0;have zc1:=(hSw.cell (p:=⟨w.heap.size,1,none⟩) yA).trans u1;have zc2:=(hSw.cell (p:=⟨w.heap.size,2,none⟩) yA).trans u2;have zc3:=(hSw.cell (p:=⟨w.heap.size,3,none⟩) yA).trans u3;have zc4:=(hSw.cell (p:=⟨w.heap.size,4,none⟩) yA).trans u4;have zc5:=(hSw.cell (p:=⟨w.heap.size,5,none⟩) yA).trans u5;have zc6:=(hSw.cell (p:=⟨w.heap.size,6,none⟩) yA).trans u6;have zc7:=(hSw.cell (p:=⟨w.heap.size,7,none⟩) yA).trans u7;have zc8:=(hSw.cell (p:=⟨w.heap.size,8,none⟩) yA).trans u8;have zc9:=(hSw.cell (p:=⟨bl,ol,none⟩) ylq).trans x0q;have zc10:=(hSw.cell (p:=⟨bl,ol+1,none⟩) ylq).trans y0q;go_simp
  try rfl
 try simp only [Act.put,sT,sZ,sS]
 refine' tkR 2 28 hH0 ?o3
 refine' tkQ 3 29 hH0 ?hyv ?o4
 case hyv=>
  intro wz hSw;have zc0:=(hSw.cell (p:=⟨w.heap.size,0,none⟩) yA).trans u0;have zc1:=(hSw.cell (p:=⟨w.heap.size,1,none⟩) yA).trans u1;have zc2:=(hSw.cell (p:=⟨w.heap.size,2,none⟩) yA).trans u2;have zc3:=(hSw.cell (p:=⟨w.heap.size,3,none⟩) yA).trans u3;have zc4:=(hSw.cell (p:=⟨w.heap.size,4,none⟩) yA).trans u4;have zc5:=(hSw.cell (p:=⟨w.heap.size,5,none⟩) yA).trans u5;have zc6:=(hSw.cell (p:=⟨w.heap.size,6,none⟩) yA).trans u6;have zc7:=(hSw.cell (p:=⟨w.heap.size,7,none⟩) yA).trans u7;have zc8:=(hSw.cell (p:=⟨w.heap.size,8,none⟩) yA).trans u8;have zc9:=(hSw.cell (p:=⟨bl,ol,none⟩) ylq).trans x0q;have zc10:=(hSw.cell (p:=⟨bl,ol+1,none⟩) ylq).trans y0q;go_simp
  try rfl
 try simp only [Act.put,sT,sZ,sS]
 refine' tkR 4 30 hH0 ?o5
 refine' tkQ 5 31 hH0 ?hyv ?o6
 case hyv=>
  intro wz hSw;have zc0:=(hSw.cell (p:=⟨w.heap.size,0,none⟩) yA).trans u0;have zc1:=(hSw.cell (p:=⟨w.heap.size,1,none⟩) yA).trans u1;have zc2:=(hSw.cell (p:=⟨w.heap.size,2,none⟩) yA).trans u2;have zc3:=(hSw.cell (p:=⟨w.heap.size,3,none⟩) yA).trans u3;have zc4:=(hSw.cell (p:=⟨w.heap.size,4,none⟩) yA).trans u4;have zc5:=(hSw.cell (p:=⟨w.heap.size,5,none⟩) yA).trans u5;have zc6:=(hSw.cell (p:=⟨w.heap.size,6,none⟩) yA).trans u6;have zc7:=(hSw.cell (p:=⟨w.heap.size,7,none⟩) yA).trans u7;have zc8:=(hSw.cell (p:=⟨w.heap.size,8,none⟩) yA).trans u8;have zc9:=(hSw.cell (p:=⟨bl,ol,none⟩) ylq).trans x0q;have zc10:=(hSw.cell (p:=⟨bl,ol+1,none⟩) ylq).trans y0q;go_simp
  try rfl
 try simp only [Act.put,sT,sZ,sS]
 refine' zO (i:=6) (oi:=⟨some 32,_,_,_,_,_⟩) (v:=.bool q1) rfl (by kernel_rfl) (by kernel_rfl) (by kernel_rfl) (by kernel_rfl) (fun _ _ _ h=>h) hH0 (by rfl) ?hyv ?o7
 case hyv=>
  intro wz hSw;go_simp;rw [HQ1.out];unfold Sk.same;by_cases h1:t.o.elem=a.elem<;>by_cases h2:t.o.n=a.n<;>simp [h1,h2]
 try simp only [Act.put,sT,sZ,sS]
 refine' tkR 7 2 hH0 ?o8
 refine zH (by kernel_rfl) ?_ _;go_wp2;go_ret;refine ⟨?_,b1.trans (hH0.mono b1.size)⟩;rw [HR.out]
 first | rfl | simp
theorem fits5_any {ok:Nat->Prop} (t:TRv) {aa:Option Addr} {na ca:Nat} (a b c:Sk.Vr) (w:World) (hG:GlobK w) (hl:HVars ok w (.slice aa na ca) [a,b,c]) :
  Calls Tryz.prog 133 #[.agg #[.int .i64 5,.int .i64 t.k,.int .i64 t.out,.int .i64 t.n,.slice t.aA t.nA t.cA,.slice t.aE t.nE t.cE,.int .u8 t.o.elem,.int .i64 t.o.n,.slice aa na ca]] w fun e w'=>e=.returned (.bool ((Sk.same a (Sk.sc 98)&&Sk.same b c)&&Sk.same t.o b))/\Below w.heap.size w w':=by
 have HLL:=zE hl;obtain ⟨ao,cap,hv,hq1,hq2,hat0⟩:=hl.at;injection hv with v1 v2 v3;subst v1 v2 v3;obtain ⟨bl,ol,rfl,yl,x0,y0⟩:=hat0 0 (by simp);obtain ⟨bl1,ol1,ee,yl1,x1,y1⟩:=hat0 1 (by simp);injection ee with ee;injection ee with e1 e2 e3;subst e1 e2;clear yl1 e3;obtain ⟨bl2,ol2,ee,yl2,x2,y2⟩:=hat0 2 (by simp);injection ee with ee;injection ee with e1 e2 e3;subst e1 e2;clear yl2 e3;simp at x0 y0 x1 y1 x2 y2;unfold maxLen at hq2;obtain ⟨na,hna⟩:=nmQ ([a,b,c].length);have hn0:na=3:=(by rw [hna];rfl);rw [<-hna] at hq1 ⊢;clear hna hat0 hl;subst hn0;have b1:Below w.heap.size w (w.alloc (.cells #[.int .i64 5,.int .i64 t.k,.int .i64 t.out,.int .i64 t.n,.slice t.aA t.nA t.cA,.slice t.aE t.nE t.cE,.int .u8 t.o.elem,.int .i64 t.o.n,.slice (some ⟨bl,ol,none⟩) 3 ca] 149 (0,0))):=(Below.refl _ _).alloc zM _;have kA:=zI w (.cells #[.int .i64 5,.int .i64 t.k,.int .i64 t.out,.int .i64 t.n,.slice t.aA t.nA t.cA,.slice t.aE t.nE t.cE,.int .u8 t.o.elem,.int .i64 t.o.n,.slice (some ⟨bl,ol,none⟩) 3 ca] 149 (0,0));have HG1:=zE (hG.under b1);have HL1:=zE (HLL.out.under b1);have x0q:=(b1.cell (p:=⟨bl,ol,none⟩) yl).trans x0;have y0q:=(b1.cell (p:=⟨bl,ol+1,none⟩) yl).trans y0;have x1q:=(b1.cell (p:=⟨bl,ol+2,none⟩) yl).trans x1;have y1q:=(b1.cell (p:=⟨bl,ol+2+1,none⟩) yl).trans y1;have x2q:=(b1.cell (p:=⟨bl,ol+4,none⟩) yl).trans x2;have y2q:=(b1.cell (p:=⟨bl,ol+4+1,none⟩) yl).trans y2;have ylq:=Nat.lt_of_lt_of_le yl b1.size;clear x0 y0 x1 y1 x2 y2;obtain ⟨R,hR⟩:=nmQ (((Sk.same a (Sk.sc 98)&&Sk.same b c)&&Sk.same t.o b));rw [<-hR];obtain ⟨q1,hq1⟩:=nmQ (Sk.same a (Sk.sc 98));rw [<-hq1] at hR;have HQ1:=zE hq1;obtain ⟨q2,hq2⟩:=nmQ (Sk.same b c);rw [<-hq2] at hR;have HQ2:=zE hq2;obtain ⟨q3,hq3⟩:=nmQ (Sk.same t.o b);rw [<-hq3] at hR;have HQ3:=zE hq3;have HR:=zE hR;clear hR hG hq1 hq2 hq3 HLL;go_enter Tryz.func133,Tryz.ntmps133;go_upto_region 10 with fail;generalize w.alloc (.cells #[.int .i64 5,.int .i64 t.k,.int .i64 t.out,.int .i64 t.n,.slice t.aA t.nA t.cA,.slice t.aE t.nE t.cE,.int .u8 t.o.elem,.int .i64 t.o.n,.slice (some ⟨bl,ol,none⟩) 3 ca] 149 (0,0))=w1 at b1 kA HG1 HL1 ylq x0q y0q x1q y1q x2q y2q ⊢;have u0:=coQ kA 0;have u1:=coQ kA 1;have u2:=coQ kA 2;have u3:=coQ kA 3;have u4:=coQ kA 4;have u5:=coQ kA 5;have u6:=coQ kA 6;have u7:=coQ kA 7;have u8:=coQ kA 8;simp at u0 u1 u2 u3 u4 u5 u6 u7 u8;have yA:=zG kA;refine zK (fun w'=>Below w1.heap.size w1 w') (fun _=>false) (by kernel_rfl) ?_;have hH0:Below w1.heap.size w1 w1.drew:=(Below.refl _ _).drew;generalize w1.drew=wd0 at hH0 ⊢;refine' tkR 0 40 hH0 ?o9
 refine' tkQ 1 41 hH0 ?hyv ?o10
 case hyv=>
  intro wz hSw;have zc0:=(hSw.cell (p:=⟨w.heap.size,0,none⟩) yA).trans u0;have zc1:=(hSw.cell (p:=⟨w.heap.size,1,none⟩) yA).trans u1;have zc2:=(hSw.cell (p:=⟨w.heap.size,2,none⟩) yA).trans u2;have zc3:=(hSw.cell (p:=⟨w.heap.size,3,none⟩) yA).trans u3;have zc4:=(hSw.cell (p:=⟨w.heap.size,4,none⟩) yA).trans u4;have zc5:=(hSw.cell (p:=⟨w.heap.size,5,none⟩) yA).trans u5;have zc6:=(hSw.cell (p:=⟨w.heap.size,6,none⟩) yA).trans u6;have zc7:=(hSw.cell (p:=⟨w.heap.size,7,none⟩) yA).trans u7;have zc8:=(hSw.cell (p:=⟨w.heap.size,8,none⟩) yA).trans u8;have zc9:=(hSw.cell (p:=⟨bl,ol,none⟩) ylq).trans x0q;have zc10:=(hSw.cell (p:=⟨bl,ol+1,none⟩) ylq).trans y0q;have zc11:=(hSw.cell (p:=⟨bl,ol+2,none⟩) ylq).trans x1q;have zc12:=(hSw.cell (p:=⟨bl,ol+2+1,none⟩) ylq).trans y1q;have zc13:=(hSw.cell (p:=⟨bl,ol+4,none⟩) ylq).trans x2q;have zc14:=(hSw.cell (p:=⟨bl,ol+4+1,none⟩) ylq).trans y2q;go_simp
  try rfl
 try simp only [Act.put,sT,sZ,sS]
 refine' tkR 2 42 hH0 ?o11
 refine' tkQ 3 43 hH0 ?hyv ?o12
 case hyv=>
  intro wz hSw;have zc0:=(hSw.cell (p:=⟨w.heap.size,0,none⟩) yA).trans u0;have zc1:=(hSw.cell (p:=⟨w.heap.size,1,none⟩) yA).trans u1;have zc2:=(hSw.cell (p:=⟨w.heap.size,2,none⟩) yA).trans u2;have zc3:=(hSw.cell (p:=⟨w.heap.size,3,none⟩) yA).trans u3;have zc4:=(hSw.cell (p:=⟨w.heap.size,4,none⟩) yA).trans u4;have zc5:=(hSw.cell (p:=⟨w.heap.size,5,none⟩) yA).trans u5;have zc6:=(hSw.cell (p:=⟨w.heap.size,6,none⟩) yA).trans u6;have zc7:=(hSw.cell (p:=⟨w.heap.size,7,none⟩) yA).trans u7;have zc8:=(hSw.cell (p:=⟨w.heap.size,8,none⟩) yA).trans u8;have zc9:=(hSw.cell (p:=⟨bl,ol,none⟩) ylq).trans x0q;have zc10:=(hSw.cell (p:=⟨bl,ol+1,none⟩) ylq).trans y0q;have zc11:=(hSw.cell (p:=⟨bl,ol+2,none⟩) ylq).trans x1q;have zc12:=(hSw.cell (p:=⟨bl,ol+2+1,none⟩) ylq).trans y1q;have zc13:=(hSw.cell (p:=⟨bl,ol+4,none⟩) ylq).trans x2q;have zc14:=(hSw.cell (p:=⟨bl,ol+4+1,none⟩) ylq).trans y2q;go_simp
  try rfl
 try simp only [Act.put,sT,sZ,sS]
 refine tnQ 4 (fun K hK=>?_);go_simp;refine (xM 98 wd0).mono ?_;rintro eq wd1 ⟨rfl,bq1⟩;have hH1:Below w1.heap.size w1 wd1:=hH0.trans (bq1.mono hH0.size);refine hK.out _ _ (fun _=>hH1) ?_;clear hK K
 try simp only [Act.put,sT,sZ,sS]
 refine' zO (i:=5) (oi:=⟨some 45,_,_,_,_,_⟩) (v:=.bool q1) rfl (by kernel_rfl) (by kernel_rfl) (by kernel_rfl) (by kernel_rfl) (fun _ _ _ h=>h) hH1 (by rfl) ?hyv ?o13
 case hyv=>
  intro wz hSw;go_simp;rw [HQ1.out];unfold Sk.same;by_cases h1:a.elem=(Sk.sc 98).elem<;>by_cases h2:a.n=(Sk.sc 98).n<;>simp [h1,h2]
 try simp only [Act.put,sT,sZ,sS]
 refine' tkR 6 46 hH1 ?o14
 cases q1
 case false=>
  refine zD (i:=7) (oi:=⟨some 47,_,_,_,_,_⟩) rfl (by kernel_rfl) (by kernel_rfl) (by kernel_rfl) (by kernel_rfl) (fun _ _ _ h=>h) hH1 (by rfl) ?_
  try simp only [Act.put,sT,sZ,sS]
  refine zD (i:=8) (oi:=⟨some 48,_,_,_,_,_⟩) rfl (by kernel_rfl) (by kernel_rfl) (by kernel_rfl) (by kernel_rfl) (fun _ _ _ h=>h) hH1 (by rfl) ?_
  try simp only [Act.put,sT,sZ,sS]
  refine zD (i:=9) (oi:=⟨some 49,_,_,_,_,_⟩) rfl (by kernel_rfl) (by kernel_rfl) (by kernel_rfl) (by kernel_rfl) (fun _ _ _ h=>h) hH1 (by rfl) ?_
  try simp only [Act.put,sT,sZ,sS]
  refine zD (i:=10) (oi:=⟨some 50,_,_,_,_,_⟩) rfl (by kernel_rfl) (by kernel_rfl) (by kernel_rfl) (by kernel_rfl) (fun _ _ _ h=>h) hH1 (by rfl) ?_
  try simp only [Act.put,sT,sZ,sS]
  refine zD (i:=11) (oi:=⟨some 51,_,_,_,_,_⟩) rfl (by kernel_rfl) (by kernel_rfl) (by kernel_rfl) (by kernel_rfl) (fun _ _ _ h=>h) hH1 (by rfl) ?_
  try simp only [Act.put,sT,sZ,sS]
  refine zD (i:=12) (oi:=⟨some 52,_,_,_,_,_⟩) rfl (by kernel_rfl) (by kernel_rfl) (by kernel_rfl) (by kernel_rfl) (fun _ _ _ h=>h) hH1 (by rfl) ?_
  try simp only [Act.put,sT,sZ,sS]
  refine zD (i:=13) (oi:=⟨some 53,_,_,_,_,_⟩) rfl (by kernel_rfl) (by kernel_rfl) (by kernel_rfl) (by kernel_rfl) (fun _ _ _ h=>h) hH1 (by rfl) ?_
  try simp only [Act.put,sT,sZ,sS]
  refine zD (i:=14) (oi:=⟨some 54,_,_,_,_,_⟩) rfl (by kernel_rfl) (by kernel_rfl) (by kernel_rfl) (by kernel_rfl) (fun _ _ _ h=>h) hH1 (by rfl) ?_
  try simp only [Act.put,sT,sZ,sS]
  refine zD (i:=15) (oi:=⟨some 55,_,_,_,_,_⟩) rfl (by kernel_rfl) (by kernel_rfl) (by kernel_rfl) (by kernel_rfl) (fun _ _ _ h=>h) hH1 (by rfl) ?_
  try simp only [Act.put,sT,sZ,sS]
  refine' tkR 16 56 hH1 ?o15
  refine' tkR 17 57 hH1 ?o16
  refine zD (i:=18) (oi:=⟨some 58,_,_,_,_,_⟩) rfl (by kernel_rfl) (by kernel_rfl) (by kernel_rfl) (by kernel_rfl) (fun _ _ _ h=>h) hH1 (by rfl) ?_
  try simp only [Act.put,sT,sZ,sS]
  refine zD (i:=19) (oi:=⟨some 59,_,_,_,_,_⟩) rfl (by kernel_rfl) (by kernel_rfl) (by kernel_rfl) (by kernel_rfl) (fun _ _ _ h=>h) hH1 (by rfl) ?_
  try simp only [Act.put,sT,sZ,sS]
  refine zD (i:=20) (oi:=⟨some 60,_,_,_,_,_⟩) rfl (by kernel_rfl) (by kernel_rfl) (by kernel_rfl) (by kernel_rfl) (fun _ _ _ h=>h) hH1 (by rfl) ?_
  try simp only [Act.put,sT,sZ,sS]
  refine zD (i:=21) (oi:=⟨some 61,_,_,_,_,_⟩) rfl (by kernel_rfl) (by kernel_rfl) (by kernel_rfl) (by kernel_rfl) (fun _ _ _ h=>h) hH1 (by rfl) ?_
  try simp only [Act.put,sT,sZ,sS]
  refine zD (i:=22) (oi:=⟨some 62,_,_,_,_,_⟩) rfl (by kernel_rfl) (by kernel_rfl) (by kernel_rfl) (by kernel_rfl) (fun _ _ _ h=>h) hH1 (by rfl) ?_
  try simp only [Act.put,sT,sZ,sS]
  refine zD (i:=23) (oi:=⟨some 63,_,_,_,_,_⟩) rfl (by kernel_rfl) (by kernel_rfl) (by kernel_rfl) (by kernel_rfl) (fun _ _ _ h=>h) hH1 (by rfl) ?_
  try simp only [Act.put,sT,sZ,sS]
  refine zD (i:=24) (oi:=⟨some 64,_,_,_,_,_⟩) rfl (by kernel_rfl) (by kernel_rfl) (by kernel_rfl) (by kernel_rfl) (fun _ _ _ h=>h) hH1 (by rfl) ?_
  try simp only [Act.put,sT,sZ,sS]
  refine' tkR 25 65 hH1 ?o17
  refine' tkR 26 2 hH1 ?o18
  refine zH (by kernel_rfl) ?_ _;go_wp2;go_ret;refine ⟨?_,b1.trans (hH1.mono b1.size)⟩;rw [HR.out]
  first | rfl | simp
 case true=>
  refine' tkR 7 47 hH1 ?o19
  refine' tkQ 8 48 hH1 ?hyv ?o20
  case hyv=>
   intro wz hSw;have zc0:=(hSw.cell (p:=⟨w.heap.size,0,none⟩) yA).trans u0;have zc1:=(hSw.cell (p:=⟨w.heap.size,1,none⟩) yA).trans u1;have zc2:=(hSw.cell (p:=⟨w.heap.size,2,none⟩) yA).trans u2;have zc3:=(hSw.cell (p:=⟨w.heap.size,3,none⟩) yA).trans u3;have zc4:=(hSw.cell (p:=⟨w.heap.size,4,none⟩) yA).trans u4;have zc5:=(hSw.cell (p:=⟨w.heap.size,5,none⟩) yA).trans u5;have zc6:=(hSw.cell (p:=⟨w.heap.size,6,none⟩) yA).trans u6;have zc7:=(hSw.cell (p:=⟨w.heap.size,7,none⟩) yA).trans u7;have zc8:=(hSw.cell (p:=⟨w.heap.size,8,none⟩) yA).trans u8;have zc9:=(hSw.cell (p:=⟨bl,ol,none⟩) ylq).trans x0q;have zc10:=(hSw.cell (p:=⟨bl,ol+1,none⟩) ylq).trans y0q;have zc11:=(hSw.cell (p:=⟨bl,ol+2,none⟩) ylq).trans x1q;have zc12:=(hSw.cell (p:=⟨bl,ol+2+1,none⟩) ylq).trans y1q;have zc13:=(hSw.cell (p:=⟨bl,ol+4,none⟩) ylq).trans x2q;have zc14:=(hSw.cell (p:=⟨bl,ol+4+1,none⟩) ylq).trans y2q;go_simp
   try rfl
  try simp only [Act.put,sT,sZ,sS]
  refine' tkR 9 49 hH1 ?o21
  refine' tkQ 10 50 hH1 ?hyv ?o22
  case hyv=>
   intro wz hSw;have zc0:=(hSw.cell (p:=⟨w.heap.size,0,none⟩) yA).trans u0;have zc1:=(hSw.cell (p:=⟨w.heap.size,1,none⟩) yA).trans u1;have zc2:=(hSw.cell (p:=⟨w.heap.size,2,none⟩) yA).trans u2;have zc3:=(hSw.cell (p:=⟨w.heap.size,3,none⟩) yA).trans u3;have zc4:=(hSw.cell (p:=⟨w.heap.size,4,none⟩) yA).trans u4;have zc5:=(hSw.cell (p:=⟨w.heap.size,5,none⟩) yA).trans u5;have zc6:=(hSw.cell (p:=⟨w.heap.size,6,none⟩) yA).trans u6;have zc7:=(hSw.cell (p:=⟨w.heap.size,7,none⟩) yA).trans u7;have zc8:=(hSw.cell (p:=⟨w.heap.size,8,none⟩) yA).trans u8;have zc9:=(hSw.cell (p:=⟨bl,ol,none⟩) ylq).trans x0q;have zc10:=(hSw.cell (p:=⟨bl,ol+1,none⟩) ylq).trans y0q;have zc11:=(hSw.cell (p:=⟨bl,ol+2,none⟩) ylq).trans x1q;have zc12:=(hSw.cell (p:=⟨bl,ol+2+1,none⟩) ylq).trans y1q;have zc13:=(hSw.cell (p:=⟨bl,ol+4,none⟩) ylq).trans x2q;have zc14:=(hSw.cell (p:=⟨bl,ol+4+1,none⟩) ylq).trans y2q;go_simp
   try rfl
  try simp only [Act.put,sT,sZ,sS]
  refine' tkR 11 51 hH1 ?o23
  refine' tkQ 12 52 hH1 ?hyv ?o24
  case hyv=>
   intro wz hSw;have zc0:=(hSw.cell (p:=⟨w.heap.size,0,none⟩) yA).trans u0;have zc1:=(hSw.cell (p:=⟨w.heap.size,1,none⟩) yA).trans u1;have zc2:=(hSw.cell (p:=⟨w.heap.size,2,none⟩) yA).trans u2;have zc3:=(hSw.cell (p:=⟨w.heap.size,3,none⟩) yA).trans u3;have zc4:=(hSw.cell (p:=⟨w.heap.size,4,none⟩) yA).trans u4;have zc5:=(hSw.cell (p:=⟨w.heap.size,5,none⟩) yA).trans u5;have zc6:=(hSw.cell (p:=⟨w.heap.size,6,none⟩) yA).trans u6;have zc7:=(hSw.cell (p:=⟨w.heap.size,7,none⟩) yA).trans u7;have zc8:=(hSw.cell (p:=⟨w.heap.size,8,none⟩) yA).trans u8;have zc9:=(hSw.cell (p:=⟨bl,ol,none⟩) ylq).trans x0q;have zc10:=(hSw.cell (p:=⟨bl,ol+1,none⟩) ylq).trans y0q;have zc11:=(hSw.cell (p:=⟨bl,ol+2,none⟩) ylq).trans x1q;have zc12:=(hSw.cell (p:=⟨bl,ol+2+1,none⟩) ylq).trans y1q;have zc13:=(hSw.cell (p:=⟨bl,ol+4,none⟩) ylq).trans x2q;have zc14:=(hSw.cell (p:=⟨bl,ol+4+1,none⟩) ylq).trans y2q;go_simp
   try rfl
  try simp only [Act.put,sT,sZ,sS]
  refine' tkR 13 53 hH1 ?o25
  refine' tkQ 14 54 hH1 ?hyv ?o26
  case hyv=>
   intro wz hSw;have zc0:=(hSw.cell (p:=⟨w.heap.size,0,none⟩) yA).trans u0;have zc1:=(hSw.cell (p:=⟨w.heap.size,1,none⟩) yA).trans u1;have zc2:=(hSw.cell (p:=⟨w.heap.size,2,none⟩) yA).trans u2;have zc3:=(hSw.cell (p:=⟨w.heap.size,3,none⟩) yA).trans u3;have zc4:=(hSw.cell (p:=⟨w.heap.size,4,none⟩) yA).trans u4;have zc5:=(hSw.cell (p:=⟨w.heap.size,5,none⟩) yA).trans u5;have zc6:=(hSw.cell (p:=⟨w.heap.size,6,none⟩) yA).trans u6;have zc7:=(hSw.cell (p:=⟨w.heap.size,7,none⟩) yA).trans u7;have zc8:=(hSw.cell (p:=⟨w.heap.size,8,none⟩) yA).trans u8;have zc9:=(hSw.cell (p:=⟨bl,ol,none⟩) ylq).trans x0q;have zc10:=(hSw.cell (p:=⟨bl,ol+1,none⟩) ylq).trans y0q;have zc11:=(hSw.cell (p:=⟨bl,ol+2,none⟩) ylq).trans x1q;have zc12:=(hSw.cell (p:=⟨bl,ol+2+1,none⟩) ylq).trans y1q;have zc13:=(hSw.cell (p:=⟨bl,ol+4,none⟩) ylq).trans x2q;have zc14:=(hSw.cell (p:=⟨bl,ol+4+1,none⟩) ylq).trans y2q;go_simp
   try rfl
  try simp only [Act.put,sT,sZ,sS]
  refine' zO (i:=15) (oi:=⟨some 55,_,_,_,_,_⟩) (v:=.bool q2) rfl (by kernel_rfl) (by kernel_rfl) (by kernel_rfl) (by kernel_rfl) (fun _ _ _ h=>h) hH1 (by rfl) ?hyv ?o27
  case hyv=>
   intro wz hSw;go_simp;rw [HQ2.out];unfold Sk.same;by_cases h1:b.elem=c.elem<;>by_cases h2:b.n=c.n<;>simp [h1,h2]
  try simp only [Act.put,sT,sZ,sS]
  refine' tkR 16 56 hH1 ?o28
  refine' tkR 17 57 hH1 ?o29
  cases q2
  case false=>
   refine zD (i:=18) (oi:=⟨some 58,_,_,_,_,_⟩) rfl (by kernel_rfl) (by kernel_rfl) (by kernel_rfl) (by kernel_rfl) (fun _ _ _ h=>h) hH1 (by rfl) ?_
   try simp only [Act.put,sT,sZ,sS]
   refine zD (i:=19) (oi:=⟨some 59,_,_,_,_,_⟩) rfl (by kernel_rfl) (by kernel_rfl) (by kernel_rfl) (by kernel_rfl) (fun _ _ _ h=>h) hH1 (by rfl) ?_
   try simp only [Act.put,sT,sZ,sS]
   refine zD (i:=20) (oi:=⟨some 60,_,_,_,_,_⟩) rfl (by kernel_rfl) (by kernel_rfl) (by kernel_rfl) (by kernel_rfl) (fun _ _ _ h=>h) hH1 (by rfl) ?_
   try simp only [Act.put,sT,sZ,sS]
   refine zD (i:=21) (oi:=⟨some 61,_,_,_,_,_⟩) rfl (by kernel_rfl) (by kernel_rfl) (by kernel_rfl) (by kernel_rfl) (fun _ _ _ h=>h) hH1 (by rfl) ?_
   try simp only [Act.put,sT,sZ,sS]
   refine zD (i:=22) (oi:=⟨some 62,_,_,_,_,_⟩) rfl (by kernel_rfl) (by kernel_rfl) (by kernel_rfl) (by kernel_rfl) (fun _ _ _ h=>h) hH1 (by rfl) ?_
   try simp only [Act.put,sT,sZ,sS]
   refine zD (i:=23) (oi:=⟨some 63,_,_,_,_,_⟩) rfl (by kernel_rfl) (by kernel_rfl) (by kernel_rfl) (by kernel_rfl) (fun _ _ _ h=>h) hH1 (by rfl) ?_
   try simp only [Act.put,sT,sZ,sS]
   refine zD (i:=24) (oi:=⟨some 64,_,_,_,_,_⟩) rfl (by kernel_rfl) (by kernel_rfl) (by kernel_rfl) (by kernel_rfl) (fun _ _ _ h=>h) hH1 (by rfl) ?_
   try simp only [Act.put,sT,sZ,sS]
   refine' tkR 25 65 hH1 ?o30
   refine' tkR 26 2 hH1 ?o31
   refine zH (by kernel_rfl) ?_ _;go_wp2;go_ret;refine ⟨?_,b1.trans (hH1.mono b1.size)⟩;rw [HR.out]
   first | rfl | simp
  case true=>
   refine' tkR 18 58 hH1 ?o32
   refine' tkQ 19 59 hH1 ?hyv ?o33
   case hyv=>
    intro wz hSw;have zc0:=(hSw.cell (p:=⟨w.heap.size,0,none⟩) yA).trans u0;have zc1:=(hSw.cell (p:=⟨w.heap.size,1,none⟩) yA).trans u1;have zc2:=(hSw.cell (p:=⟨w.heap.size,2,none⟩) yA).trans u2;have zc3:=(hSw.cell (p:=⟨w.heap.size,3,none⟩) yA).trans u3;have zc4:=(hSw.cell (p:=⟨w.heap.size,4,none⟩) yA).trans u4;have zc5:=(hSw.cell (p:=⟨w.heap.size,5,none⟩) yA).trans u5;have zc6:=(hSw.cell (p:=⟨w.heap.size,6,none⟩) yA).trans u6;have zc7:=(hSw.cell (p:=⟨w.heap.size,7,none⟩) yA).trans u7;have zc8:=(hSw.cell (p:=⟨w.heap.size,8,none⟩) yA).trans u8;have zc9:=(hSw.cell (p:=⟨bl,ol,none⟩) ylq).trans x0q;have zc10:=(hSw.cell (p:=⟨bl,ol+1,none⟩) ylq).trans y0q;have zc11:=(hSw.cell (p:=⟨bl,ol+2,none⟩) ylq).trans x1q;have zc12:=(hSw.cell (p:=⟨bl,ol+2+1,none⟩) ylq).trans y1q;have zc13:=(hSw.cell (p:=⟨bl,ol+4,none⟩) ylq).trans x2q;have zc14:=(hSw.cell (p:=⟨bl,ol+4+1,none⟩) ylq).trans y2q;go_simp
    try rfl
   try simp only [Act.put,sT,sZ,sS]
   refine' tkR 20 60 hH1 ?o34
   refine' tkQ 21 61 hH1 ?hyv ?o35
   case hyv=>
    intro wz hSw;have zc0:=(hSw.cell (p:=⟨w.heap.size,0,none⟩) yA).trans u0;have zc1:=(hSw.cell (p:=⟨w.heap.size,1,none⟩) yA).trans u1;have zc2:=(hSw.cell (p:=⟨w.heap.size,2,none⟩) yA).trans u2;have zc3:=(hSw.cell (p:=⟨w.heap.size,3,none⟩) yA).trans u3;have zc4:=(hSw.cell (p:=⟨w.heap.size,4,none⟩) yA).trans u4;have zc5:=(hSw.cell (p:=⟨w.heap.size,5,none⟩) yA).trans u5;have zc6:=(hSw.cell (p:=⟨w.heap.size,6,none⟩) yA).trans u6;have zc7:=(hSw.cell (p:=⟨w.heap.size,7,none⟩) yA).trans u7;have zc8:=(hSw.cell (p:=⟨w.heap.size,8,none⟩) yA).trans u8;have zc9:=(hSw.cell (p:=⟨bl,ol,none⟩) ylq).trans x0q;have zc10:=(hSw.cell (p:=⟨bl,ol+1,none⟩) ylq).trans y0q;have zc11:=(hSw.cell (p:=⟨bl,ol+2,none⟩) ylq).trans x1q;have zc12:=(hSw.cell (p:=⟨bl,ol+2+1,none⟩) ylq).trans y1q;have zc13:=(hSw.cell (p:=⟨bl,ol+4,none⟩) ylq).trans x2q;have zc14:=(hSw.cell (p:=⟨bl,ol+4+1,none⟩) ylq).trans y2q;go_simp
    try rfl
   try simp only [Act.put,sT,sZ,sS]
   refine' tkR 22 62 hH1 ?o36
   refine' tkQ 23 63 hH1 ?hyv ?o37
   case hyv=>
    intro wz hSw;have zc0:=(hSw.cell (p:=⟨w.heap.size,0,none⟩) yA).trans u0;have zc1:=(hSw.cell (p:=⟨w.heap.size,1,none⟩) yA).trans u1;have zc2:=(hSw.cell (p:=⟨w.heap.size,2,none⟩) yA).trans u2;have zc3:=(hSw.cell (p:=⟨w.heap.size,3,none⟩) yA).trans u3;have zc4:=(hSw.cell (p:=⟨w.heap.size,4,none⟩) yA).trans u4;have zc5:=(hSw.cell (p:=⟨w.heap.size,5,none⟩) yA).trans u5;have zc6:=(hSw.cell (p:=⟨w.heap.size,6,none⟩) yA).trans u6;have zc7:=(hSw.cell (p:=⟨w.heap.size,7,none⟩) yA).trans u7;have zc8:=(hSw.cell (p:=⟨w.heap.size,8,none⟩) yA).trans u8;have zc9:=(hSw.cell (p:=⟨bl,ol,none⟩) ylq).trans x0q;have zc10:=(hSw.cell (p:=⟨bl,ol+1,none⟩) ylq).trans y0q;have zc11:=(hSw.cell (p:=⟨bl,ol+2,none⟩) ylq).trans x1q;have zc12:=(hSw.cell (p:=⟨bl,ol+2+1,none⟩) ylq).trans y1q;have zc13:=(hSw.cell (p:=⟨bl,ol+4,none⟩) ylq).trans x2q;have zc14:=(hSw.cell (p:=⟨bl,ol+4+1,none⟩) ylq).trans y2q;go_simp
    try rfl
   try simp only [Act.put,sT,sZ,sS]
   refine' zO (i:=24) (oi:=⟨some 64,_,_,_,_,_⟩) (v:=.bool q3) rfl (by kernel_rfl) (by kernel_rfl) (by kernel_rfl) (by kernel_rfl) (fun _ _ _ h=>h) hH1 (by rfl) ?hyv ?o38
   case hyv=>
    intro wz hSw;go_simp;rw [HQ3.out];unfold Sk.same;by_cases h1:t.o.elem=b.elem<;>by_cases h2:t.o.n=b.n<;>simp [h1,h2]
   try simp only [Act.put,sT,sZ,sS]
   refine' tkR 25 65 hH1 ?o39
   refine' tkR 26 2 hH1 ?o40
   refine zH (by kernel_rfl) ?_ _;go_wp2;go_ret;refine ⟨?_,b1.trans (hH1.mono b1.size)⟩;rw [HR.out]
   first | rfl | simp
theorem fits13_any {ok:Nat->Prop} (t:TRv) {aa:Option Addr} {na ca:Nat} (a b:Sk.Vr) (w:World) (hG:GlobK w) (hl:HVars ok w (.slice aa na ca) [a,b]) :
  Calls Tryz.prog 133 #[.agg #[.int .i64 13,.int .i64 t.k,.int .i64 t.out,.int .i64 t.n,.slice t.aA t.nA t.cA,.slice t.aE t.nE t.cE,.int .u8 t.o.elem,.int .i64 t.o.n,.slice aa na ca]] w fun e w'=>e=.returned (.bool (Sk.same a b&&Sk.same t.o a))/\Below w.heap.size w w':=by
 have HLL:=zE hl;obtain ⟨ao,cap,hv,hq1,hq2,hat0⟩:=hl.at;injection hv with v1 v2 v3;subst v1 v2 v3;obtain ⟨bl,ol,rfl,yl,x0,y0⟩:=hat0 0 (by simp);obtain ⟨bl1,ol1,ee,yl1,x1,y1⟩:=hat0 1 (by simp);injection ee with ee;injection ee with e1 e2 e3;subst e1 e2;clear yl1 e3;simp at x0 y0 x1 y1;unfold maxLen at hq2;obtain ⟨na,hna⟩:=nmQ ([a,b].length);have hn0:na=2:=(by rw [hna];rfl);rw [<-hna] at hq1 ⊢;clear hna hat0 hl;subst hn0;have b1:Below w.heap.size w (w.alloc (.cells #[.int .i64 13,.int .i64 t.k,.int .i64 t.out,.int .i64 t.n,.slice t.aA t.nA t.cA,.slice t.aE t.nE t.cE,.int .u8 t.o.elem,.int .i64 t.o.n,.slice (some ⟨bl,ol,none⟩) 2 ca] 149 (0,0))):=(Below.refl _ _).alloc zM _;have kA:=zI w (.cells #[.int .i64 13,.int .i64 t.k,.int .i64 t.out,.int .i64 t.n,.slice t.aA t.nA t.cA,.slice t.aE t.nE t.cE,.int .u8 t.o.elem,.int .i64 t.o.n,.slice (some ⟨bl,ol,none⟩) 2 ca] 149 (0,0));have HG1:=zE (hG.under b1);have HL1:=zE (HLL.out.under b1);have x0q:=(b1.cell (p:=⟨bl,ol,none⟩) yl).trans x0;have y0q:=(b1.cell (p:=⟨bl,ol+1,none⟩) yl).trans y0;have x1q:=(b1.cell (p:=⟨bl,ol+2,none⟩) yl).trans x1;have y1q:=(b1.cell (p:=⟨bl,ol+2+1,none⟩) yl).trans y1;have ylq:=Nat.lt_of_lt_of_le yl b1.size;clear x0 y0 x1 y1;obtain ⟨R,hR⟩:=nmQ ((Sk.same a b&&Sk.same t.o a));rw [<-hR];obtain ⟨q1,hq1⟩:=nmQ (Sk.same a b);rw [<-hq1] at hR;have HQ1:=zE hq1;obtain ⟨q2,hq2⟩:=nmQ (Sk.same t.o a);rw [<-hq2] at hR;have HQ2:=zE hq2;have HR:=zE hR;clear hR hG hq1 hq2 HLL;go_enter Tryz.func133,Tryz.ntmps133;go_upto_region 25 with fail;generalize w.alloc (.cells #[.int .i64 13,.int .i64 t.k,.int .i64 t.out,.int .i64 t.n,.slice t.aA t.nA t.cA,.slice t.aE t.nE t.cE,.int .u8 t.o.elem,.int .i64 t.o.n,.slice (some ⟨bl,ol,none⟩) 2 ca] 149 (0,0))=w1 at b1 kA HG1 HL1 ylq x0q y0q x1q y1q ⊢;have u0:=coQ kA 0;have u1:=coQ kA 1;have u2:=coQ kA 2;have u3:=coQ kA 3;have u4:=coQ kA 4;have u5:=coQ kA 5;have u6:=coQ kA 6;have u7:=coQ kA 7;have u8:=coQ kA 8;simp at u0 u1 u2 u3 u4 u5 u6 u7 u8;have yA:=zG kA;refine zK (fun w'=>Below w1.heap.size w1 w') (fun _=>false) (by kernel_rfl) ?_;have hH0:Below w1.heap.size w1 w1.drew:=(Below.refl _ _).drew;generalize w1.drew=wd0 at hH0 ⊢;refine' tkR 0 214 hH0 ?o41
 refine' tkQ 1 215 hH0 ?hyv ?o42
 case hyv=>
  intro wz hSw;have zc0:=(hSw.cell (p:=⟨w.heap.size,0,none⟩) yA).trans u0;have zc1:=(hSw.cell (p:=⟨w.heap.size,1,none⟩) yA).trans u1;have zc2:=(hSw.cell (p:=⟨w.heap.size,2,none⟩) yA).trans u2;have zc3:=(hSw.cell (p:=⟨w.heap.size,3,none⟩) yA).trans u3;have zc4:=(hSw.cell (p:=⟨w.heap.size,4,none⟩) yA).trans u4;have zc5:=(hSw.cell (p:=⟨w.heap.size,5,none⟩) yA).trans u5;have zc6:=(hSw.cell (p:=⟨w.heap.size,6,none⟩) yA).trans u6;have zc7:=(hSw.cell (p:=⟨w.heap.size,7,none⟩) yA).trans u7;have zc8:=(hSw.cell (p:=⟨w.heap.size,8,none⟩) yA).trans u8;have zc9:=(hSw.cell (p:=⟨bl,ol,none⟩) ylq).trans x0q;have zc10:=(hSw.cell (p:=⟨bl,ol+1,none⟩) ylq).trans y0q;have zc11:=(hSw.cell (p:=⟨bl,ol+2,none⟩) ylq).trans x1q;have zc12:=(hSw.cell (p:=⟨bl,ol+2+1,none⟩) ylq).trans y1q;go_simp
  try rfl
 try simp only [Act.put,sT,sZ,sS]
 refine' tkR 2 216 hH0 ?o43
 refine' tkQ 3 217 hH0 ?hyv ?o44
 case hyv=>
  intro wz hSw;have zc0:=(hSw.cell (p:=⟨w.heap.size,0,none⟩) yA).trans u0;have zc1:=(hSw.cell (p:=⟨w.heap.size,1,none⟩) yA).trans u1;have zc2:=(hSw.cell (p:=⟨w.heap.size,2,none⟩) yA).trans u2;have zc3:=(hSw.cell (p:=⟨w.heap.size,3,none⟩) yA).trans u3;have zc4:=(hSw.cell (p:=⟨w.heap.size,4,none⟩) yA).trans u4;have zc5:=(hSw.cell (p:=⟨w.heap.size,5,none⟩) yA).trans u5;have zc6:=(hSw.cell (p:=⟨w.heap.size,6,none⟩) yA).trans u6;have zc7:=(hSw.cell (p:=⟨w.heap.size,7,none⟩) yA).trans u7;have zc8:=(hSw.cell (p:=⟨w.heap.size,8,none⟩) yA).trans u8;have zc9:=(hSw.cell (p:=⟨bl,ol,none⟩) ylq).trans x0q;have zc10:=(hSw.cell (p:=⟨bl,ol+1,none⟩) ylq).trans y0q;have zc11:=(hSw.cell (p:=⟨bl,ol+2,none⟩) ylq).trans x1q;have zc12:=(hSw.cell (p:=⟨bl,ol+2+1,none⟩) ylq).trans y1q;go_simp
  try rfl
 try simp only [Act.put,sT,sZ,sS]
 refine' tkR 4 218 hH0 ?o45
 refine' tkQ 5 219 hH0 ?hyv ?o46
 case hyv=>
  intro wz hSw;have zc0:=(hSw.cell (p:=⟨w.heap.size,0,none⟩) yA).trans u0;have zc1:=(hSw.cell (p:=⟨w.heap.size,1,none⟩) yA).trans u1;have zc2:=(hSw.cell (p:=⟨w.heap.size,2,none⟩) yA).trans u2;have zc3:=(hSw.cell (p:=⟨w.heap.size,3,none⟩) yA).trans u3;have zc4:=(hSw.cell (p:=⟨w.heap.size,4,none⟩) yA).trans u4;have zc5:=(hSw.cell (p:=⟨w.heap.size,5,none⟩) yA).trans u5;have zc6:=(hSw.cell (p:=⟨w.heap.size,6,none⟩) yA).trans u6;have zc7:=(hSw.cell (p:=⟨w.heap.size,7,none⟩) yA).trans u7;have zc8:=(hSw.cell (p:=⟨w.heap.size,8,none⟩) yA).trans u8;have zc9:=(hSw.cell (p:=⟨bl,ol,none⟩) ylq).trans x0q;have zc10:=(hSw.cell (p:=⟨bl,ol+1,none⟩) ylq).trans y0q;have zc11:=(hSw.cell (p:=⟨bl,ol+2,none⟩) ylq).trans x1q;have zc12:=(hSw.cell (p:=⟨bl,ol+2+1,none⟩) ylq).trans y1q;go_simp
  try rfl
 try simp only [Act.put,sT,sZ,sS]
 refine' tkR 6 220 hH0 ?o47
 refine' tkQ 7 221 hH0 ?hyv ?o48
 case hyv=>
  intro wz hSw;have zc0:=(hSw.cell (p:=⟨w.heap.size,0,none⟩) yA).trans u0;have zc1:=(hSw.cell (p:=⟨w.heap.size,1,none⟩) yA).trans u1;have zc2:=(hSw.cell (p:=⟨w.heap.size,2,none⟩) yA).trans u2;have zc3:=(hSw.cell (p:=⟨w.heap.size,3,none⟩) yA).trans u3;have zc4:=(hSw.cell (p:=⟨w.heap.size,4,none⟩) yA).trans u4;have zc5:=(hSw.cell (p:=⟨w.heap.size,5,none⟩) yA).trans u5;have zc6:=(hSw.cell (p:=⟨w.heap.size,6,none⟩) yA).trans u6;have zc7:=(hSw.cell (p:=⟨w.heap.size,7,none⟩) yA).trans u7;have zc8:=(hSw.cell (p:=⟨w.heap.size,8,none⟩) yA).trans u8;have zc9:=(hSw.cell (p:=⟨bl,ol,none⟩) ylq).trans x0q;have zc10:=(hSw.cell (p:=⟨bl,ol+1,none⟩) ylq).trans y0q;have zc11:=(hSw.cell (p:=⟨bl,ol+2,none⟩) ylq).trans x1q;have zc12:=(hSw.cell (p:=⟨bl,ol+2+1,none⟩) ylq).trans y1q;go_simp
  try rfl
 try simp only [Act.put,sT,sZ,sS]
 refine' zO (i:=8) (oi:=⟨some 222,_,_,_,_,_⟩) (v:=.bool q1) rfl (by kernel_rfl) (by kernel_rfl) (by kernel_rfl) (by kernel_rfl) (fun _ _ _ h=>h) hH0 (by rfl) ?hyv ?o49
 case hyv=>
  intro wz hSw;go_simp;rw [HQ1.out];unfold Sk.same;by_cases h1:a.elem=b.elem<;>by_cases h2:a.n=b.n<;>simp [h1,h2]
 try simp only [Act.put,sT,sZ,sS]
 refine' tkR 9 223 hH0 ?o50
 cases q1
 case false=>
  refine zD (i:=10) (oi:=⟨some 224,_,_,_,_,_⟩) rfl (by kernel_rfl) (by kernel_rfl) (by kernel_rfl) (by kernel_rfl) (fun _ _ _ h=>h) hH0 (by rfl) ?_
  try simp only [Act.put,sT,sZ,sS]
  refine zD (i:=11) (oi:=⟨some 225,_,_,_,_,_⟩) rfl (by kernel_rfl) (by kernel_rfl) (by kernel_rfl) (by kernel_rfl) (fun _ _ _ h=>h) hH0 (by rfl) ?_
  try simp only [Act.put,sT,sZ,sS]
  refine zD (i:=12) (oi:=⟨some 226,_,_,_,_,_⟩) rfl (by kernel_rfl) (by kernel_rfl) (by kernel_rfl) (by kernel_rfl) (fun _ _ _ h=>h) hH0 (by rfl) ?_
  try simp only [Act.put,sT,sZ,sS]
  refine zD (i:=13) (oi:=⟨some 227,_,_,_,_,_⟩) rfl (by kernel_rfl) (by kernel_rfl) (by kernel_rfl) (by kernel_rfl) (fun _ _ _ h=>h) hH0 (by rfl) ?_
  try simp only [Act.put,sT,sZ,sS]
  refine zD (i:=14) (oi:=⟨some 228,_,_,_,_,_⟩) rfl (by kernel_rfl) (by kernel_rfl) (by kernel_rfl) (by kernel_rfl) (fun _ _ _ h=>h) hH0 (by rfl) ?_
  try simp only [Act.put,sT,sZ,sS]
  refine zD (i:=15) (oi:=⟨some 229,_,_,_,_,_⟩) rfl (by kernel_rfl) (by kernel_rfl) (by kernel_rfl) (by kernel_rfl) (fun _ _ _ h=>h) hH0 (by rfl) ?_
  try simp only [Act.put,sT,sZ,sS]
  refine zD (i:=16) (oi:=⟨some 230,_,_,_,_,_⟩) rfl (by kernel_rfl) (by kernel_rfl) (by kernel_rfl) (by kernel_rfl) (fun _ _ _ h=>h) hH0 (by rfl) ?_
  try simp only [Act.put,sT,sZ,sS]
  refine' tkR 17 231 hH0 ?o51
  refine' tkR 18 2 hH0 ?o52
  refine zH (by kernel_rfl) ?_ _;go_wp2;go_ret;refine ⟨?_,b1.trans (hH0.mono b1.size)⟩;rw [HR.out]
  first | rfl | simp
 case true=>
  refine' tkR 10 224 hH0 ?o53
  refine' tkQ 11 225 hH0 ?hyv ?o54
  case hyv=>
   intro wz hSw;have zc0:=(hSw.cell (p:=⟨w.heap.size,0,none⟩) yA).trans u0;have zc1:=(hSw.cell (p:=⟨w.heap.size,1,none⟩) yA).trans u1;have zc2:=(hSw.cell (p:=⟨w.heap.size,2,none⟩) yA).trans u2;have zc3:=(hSw.cell (p:=⟨w.heap.size,3,none⟩) yA).trans u3;have zc4:=(hSw.cell (p:=⟨w.heap.size,4,none⟩) yA).trans u4;have zc5:=(hSw.cell (p:=⟨w.heap.size,5,none⟩) yA).trans u5;have zc6:=(hSw.cell (p:=⟨w.heap.size,6,none⟩) yA).trans u6;have zc7:=(hSw.cell (p:=⟨w.heap.size,7,none⟩) yA).trans u7;have zc8:=(hSw.cell (p:=⟨w.heap.size,8,none⟩) yA).trans u8;have zc9:=(hSw.cell (p:=⟨bl,ol,none⟩) ylq).trans x0q;have zc10:=(hSw.cell (p:=⟨bl,ol+1,none⟩) ylq).trans y0q;have zc11:=(hSw.cell (p:=⟨bl,ol+2,none⟩) ylq).trans x1q;have zc12:=(hSw.cell (p:=⟨bl,ol+2+1,none⟩) ylq).trans y1q;go_simp
   try rfl
  try simp only [Act.put,sT,sZ,sS]
  refine' tkR 12 226 hH0 ?o55
  refine' tkQ 13 227 hH0 ?hyv ?o56
  case hyv=>
   intro wz hSw;have zc0:=(hSw.cell (p:=⟨w.heap.size,0,none⟩) yA).trans u0;have zc1:=(hSw.cell (p:=⟨w.heap.size,1,none⟩) yA).trans u1;have zc2:=(hSw.cell (p:=⟨w.heap.size,2,none⟩) yA).trans u2;have zc3:=(hSw.cell (p:=⟨w.heap.size,3,none⟩) yA).trans u3;have zc4:=(hSw.cell (p:=⟨w.heap.size,4,none⟩) yA).trans u4;have zc5:=(hSw.cell (p:=⟨w.heap.size,5,none⟩) yA).trans u5;have zc6:=(hSw.cell (p:=⟨w.heap.size,6,none⟩) yA).trans u6;have zc7:=(hSw.cell (p:=⟨w.heap.size,7,none⟩) yA).trans u7;have zc8:=(hSw.cell (p:=⟨w.heap.size,8,none⟩) yA).trans u8;have zc9:=(hSw.cell (p:=⟨bl,ol,none⟩) ylq).trans x0q;have zc10:=(hSw.cell (p:=⟨bl,ol+1,none⟩) ylq).trans y0q;have zc11:=(hSw.cell (p:=⟨bl,ol+2,none⟩) ylq).trans x1q;have zc12:=(hSw.cell (p:=⟨bl,ol+2+1,none⟩) ylq).trans y1q;go_simp
   try rfl
  try simp only [Act.put,sT,sZ,sS]
  refine' tkR 14 228 hH0 ?o57
  refine' tkQ 15 229 hH0 ?hyv ?o58
  case hyv=>
   intro wz hSw;have zc0:=(hSw.cell (p:=⟨w.heap.size,0,none⟩) yA).trans u0;have zc1:=(hSw.cell (p:=⟨w.heap.size,1,none⟩) yA).trans u1;have zc2:=(hSw.cell (p:=⟨w.heap.size,2,none⟩) yA).trans u2;have zc3:=(hSw.cell (p:=⟨w.heap.size,3,none⟩) yA).trans u3;have zc4:=(hSw.cell (p:=⟨w.heap.size,4,none⟩) yA).trans u4;have zc5:=(hSw.cell (p:=⟨w.heap.size,5,none⟩) yA).trans u5;have zc6:=(hSw.cell (p:=⟨w.heap.size,6,none⟩) yA).trans u6;have zc7:=(hSw.cell (p:=⟨w.heap.size,7,none⟩) yA).trans u7;have zc8:=(hSw.cell (p:=⟨w.heap.size,8,none⟩) yA).trans u8;have zc9:=(hSw.cell (p:=⟨bl,ol,none⟩) ylq).trans x0q;have zc10:=(hSw.cell (p:=⟨bl,ol+1,none⟩) ylq).trans y0q;have zc11:=(hSw.cell (p:=⟨bl,ol+2,none⟩) ylq).trans x1q;have zc12:=(hSw.cell (p:=⟨bl,ol+2+1,none⟩) ylq).trans y1q;go_simp
   try rfl
  try simp only [Act.put,sT,sZ,sS]
  refine' zO (i:=16) (oi:=⟨some 230,_,_,_,_,_⟩) (v:=.bool q2) rfl (by kernel_rfl) (by kernel_rfl) (by kernel_rfl) (by kernel_rfl) (fun _ _ _ h=>h) hH0 (by rfl) ?hyv ?o59
  case hyv=>
   intro wz hSw;go_simp;rw [HQ2.out];unfold Sk.same;by_cases h1:t.o.elem=a.elem<;>by_cases h2:t.o.n=a.n<;>simp [h1,h2]
  try simp only [Act.put,sT,sZ,sS]
  refine' tkR 17 231 hH0 ?o60
  refine' tkR 18 2 hH0 ?o61
  refine zH (by kernel_rfl) ?_ _;go_wp2;go_ret;refine ⟨?_,b1.trans (hH0.mono b1.size)⟩;rw [HR.out]
  first | rfl | simp
end Go.Proofs.YtegakbobaecdlaaGreatDoor
