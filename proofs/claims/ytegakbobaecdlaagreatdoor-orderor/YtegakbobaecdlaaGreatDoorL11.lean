import Derived.Test.YtegakbobaecdlaaGreatDoorL10
import Derived.WalkKit
import Derived.WalkSpells
import Derived.IntWalk
import Derived.Deep.Cut
import Derived.Deep.LoopGhost
import Derived.Lib.Hide
set_option linter.unusedVariables false
set_option linter.unusedSimpArgs false
set_option maxHeartbeats 64000000
set_option maxRecDepth 100000
namespace Go.Proofs.YtegakbobaecdlaaGreatDoor
open Go.RowKit Go.IntWalk
theorem fits6_any {ok:Nat->Prop} (t:TRv) {aa:Option Addr} {na ca:Nat} (a b:Sk.Vr) (w:World) (hG:GlobK w) (hl:HVars ok w (.slice aa na ca) [a,b]) :
  Calls Tryz.prog 133 #[.agg #[.int .i64 6,.int .i64 t.k,.int .i64 t.out,.int .i64 t.n,.slice t.aA t.nA t.cA,.slice t.aE t.nE t.cE,.int .u8 t.o.elem,.int .i64 t.o.n,.slice aa na ca]] w fun e w'=>e=.returned (.bool (Sk.goesOver t.k a b&&Sk.same t.o a))/\Below w.heap.size w w':=by
 have HLL:=zE hl;obtain ⟨ao,cap,hv,hq1,hq2,hat0⟩:=hl.at;injection hv with v1 v2 v3;subst v1 v2 v3;obtain ⟨bl,ol,rfl,yl,x0,y0⟩:=hat0 0 (by simp);obtain ⟨bl1,ol1,ee,yl1,x1,y1⟩:=hat0 1 (by simp);injection ee with ee;injection ee with e1 e2 e3;subst e1 e2;clear yl1 e3;simp at x0 y0 x1 y1;unfold maxLen at hq2;obtain ⟨na,hna⟩:=nmQ ([a,b].length);have hn0:na=2:=(by rw [hna];rfl);rw [<-hna] at hq1 ⊢;clear hna hat0 hl;subst hn0;have b1:Below w.heap.size w (w.alloc (.cells #[.int .i64 6,.int .i64 t.k,.int .i64 t.out,.int .i64 t.n,.slice t.aA t.nA t.cA,.slice t.aE t.nE t.cE,.int .u8 t.o.elem,.int .i64 t.o.n,.slice (some ⟨bl,ol,none⟩) 2 ca] 149 (0,0))):=(Below.refl _ _).alloc zM _;have kA:=zI w (.cells #[.int .i64 6,.int .i64 t.k,.int .i64 t.out,.int .i64 t.n,.slice t.aA t.nA t.cA,.slice t.aE t.nE t.cE,.int .u8 t.o.elem,.int .i64 t.o.n,.slice (some ⟨bl,ol,none⟩) 2 ca] 149 (0,0));have HG1:=zE (hG.under b1);have HL1:=zE (HLL.out.under b1);have x0q:=(b1.cell (p:=⟨bl,ol,none⟩) yl).trans x0;have y0q:=(b1.cell (p:=⟨bl,ol+1,none⟩) yl).trans y0;have x1q:=(b1.cell (p:=⟨bl,ol+2,none⟩) yl).trans x1;have y1q:=(b1.cell (p:=⟨bl,ol+2+1,none⟩) yl).trans y1;have ylq:=Nat.lt_of_lt_of_le yl b1.size;clear x0 y0 x1 y1;obtain ⟨R,hR⟩:=nmQ ((Sk.goesOver t.k a b&&Sk.same t.o a));rw [<-hR];have hc1:∀ V,GlobK V->HVars ok V (.slice (some ⟨bl,ol,none⟩) 2 ca) [a,b]->Calls Tryz.prog 147 #[tv { t with op:=6 } (some ⟨bl,ol,none⟩) 2 ca,vv b] V fun e w'=>e=.returned (.bool (Sk.goesOver t.k a b))/\Below V.heap.size V w':=fun V h1 h2=>jF { t with op:=6 } a b [b] V h1 h2;obtain ⟨q1,hq1⟩:=nmQ (Sk.goesOver t.k a b);rw [<-hq1] at hR hc1;have HQ1:=zE hq1;obtain ⟨q2,hq2⟩:=nmQ (Sk.same t.o a);rw [<-hq2] at hR;have HQ2:=zE hq2;have HR:=zE hR;clear hR hG hq1 hq2 HLL;go_enter Tryz.func133,Tryz.ntmps133;go_upto_region 12 with fail;generalize w.alloc (.cells #[.int .i64 6,.int .i64 t.k,.int .i64 t.out,.int .i64 t.n,.slice t.aA t.nA t.cA,.slice t.aE t.nE t.cE,.int .u8 t.o.elem,.int .i64 t.o.n,.slice (some ⟨bl,ol,none⟩) 2 ca] 149 (0,0))=w1 at b1 kA HG1 HL1 ylq x0q y0q x1q y1q ⊢;have u0:=coQ kA 0;have u1:=coQ kA 1;have u2:=coQ kA 2;have u3:=coQ kA 3;have u4:=coQ kA 4;have u5:=coQ kA 5;have u6:=coQ kA 6;have u7:=coQ kA 7;have u8:=coQ kA 8;simp at u0 u1 u2 u3 u4 u5 u6 u7 u8;have yA:=zG kA;refine zK (fun w'=>Below w1.heap.size w1 w') (fun _=>false) (by kernel_rfl) ?_;have hH0:Below w1.heap.size w1 w1.drew:=(Below.refl _ _).drew;generalize w1.drew=wd0 at hH0 ⊢;refine' tkQ 0 68 hH0 ?hyv ?o1
 case hyv=>
  intro wz hSw;have zc0:=(hSw.cell (p:=⟨w.heap.size,0,none⟩) yA).trans u0;have zc1:=(hSw.cell (p:=⟨w.heap.size,1,none⟩) yA).trans u1;have zc2:=(hSw.cell (p:=⟨w.heap.size,2,none⟩) yA).trans u2;have zc3:=(hSw.cell (p:=⟨w.heap.size,3,none⟩) yA).trans u3;have zc4:=(hSw.cell (p:=⟨w.heap.size,4,none⟩) yA).trans u4;have zc5:=(hSw.cell (p:=⟨w.heap.size,5,none⟩) yA).trans u5;have zc6:=(hSw.cell (p:=⟨w.heap.size,6,none⟩) yA).trans u6;have zc7:=(hSw.cell (p:=⟨w.heap.size,7,none⟩) yA).trans u7;have zc8:=(hSw.cell (p:=⟨w.heap.size,8,none⟩) yA).trans u8;have zc9:=(hSw.cell (p:=⟨bl,ol,none⟩) ylq).trans x0q;have zc10:=(hSw.cell (p:=⟨bl,ol+1,none⟩) ylq).trans y0q;have zc11:=(hSw.cell (p:=⟨bl,ol+2,none⟩) ylq).trans x1q;have zc12:=(hSw.cell (p:=⟨bl,ol+2+1,none⟩) ylq).trans y1q;go_simp
  try rfl
 try simp only [Act.put,sT,sZ,sS]
 refine' tkR 1 69 hH0 ?o2
 refine' tkQ 2 70 hH0 ?hyv ?o3
 case hyv=>
  intro wz hSw;have zc0:=(hSw.cell (p:=⟨w.heap.size,0,none⟩) yA).trans u0;have zc1:=(hSw.cell (p:=⟨w.heap.size,1,none⟩) yA).trans u1;have zc2:=(hSw.cell (p:=⟨w.heap.size,2,none⟩) yA).trans u2;have zc3:=(hSw.cell (p:=⟨w.heap.size,3,none⟩) yA).trans u3;have zc4:=(hSw.cell (p:=⟨w.heap.size,4,none⟩) yA).trans u4;have zc5:=(hSw.cell (p:=⟨w.heap.size,5,none⟩) yA).trans u5;have zc6:=(hSw.cell (p:=⟨w.heap.size,6,none⟩) yA).trans u6;have zc7:=(hSw.cell (p:=⟨w.heap.size,7,none⟩) yA).trans u7;have zc8:=(hSw.cell (p:=⟨w.heap.size,8,none⟩) yA).trans u8;have zc9:=(hSw.cell (p:=⟨bl,ol,none⟩) ylq).trans x0q;have zc10:=(hSw.cell (p:=⟨bl,ol+1,none⟩) ylq).trans y0q;have zc11:=(hSw.cell (p:=⟨bl,ol+2,none⟩) ylq).trans x1q;have zc12:=(hSw.cell (p:=⟨bl,ol+2+1,none⟩) ylq).trans y1q;go_simp
  try rfl
 try simp only [Act.put,sT,sZ,sS]
 refine' tkR 3 71 hH0 ?o4
 refine' tkQ 4 72 hH0 ?hyv ?o5
 case hyv=>
  intro wz hSw;have zc0:=(hSw.cell (p:=⟨w.heap.size,0,none⟩) yA).trans u0;have zc1:=(hSw.cell (p:=⟨w.heap.size,1,none⟩) yA).trans u1;have zc2:=(hSw.cell (p:=⟨w.heap.size,2,none⟩) yA).trans u2;have zc3:=(hSw.cell (p:=⟨w.heap.size,3,none⟩) yA).trans u3;have zc4:=(hSw.cell (p:=⟨w.heap.size,4,none⟩) yA).trans u4;have zc5:=(hSw.cell (p:=⟨w.heap.size,5,none⟩) yA).trans u5;have zc6:=(hSw.cell (p:=⟨w.heap.size,6,none⟩) yA).trans u6;have zc7:=(hSw.cell (p:=⟨w.heap.size,7,none⟩) yA).trans u7;have zc8:=(hSw.cell (p:=⟨w.heap.size,8,none⟩) yA).trans u8;have zc9:=(hSw.cell (p:=⟨bl,ol,none⟩) ylq).trans x0q;have zc10:=(hSw.cell (p:=⟨bl,ol+1,none⟩) ylq).trans y0q;have zc11:=(hSw.cell (p:=⟨bl,ol+2,none⟩) ylq).trans x1q;have zc12:=(hSw.cell (p:=⟨bl,ol+2+1,none⟩) ylq).trans y1q;go_simp
  try rfl
 try simp only [Act.put,sT,sZ,sS]
 refine tnQ 5 (fun K hK=>?_);go_simp;refine (hc1 wd0 (HG1.out.under hH0) (HL1.out.under hH0)).mono ?_;rintro eq wd1 ⟨rfl,bq1⟩;have hH1:Below w1.heap.size w1 wd1:=hH0.trans (bq1.mono hH0.size);refine hK.out _ _ (fun _=>hH1) ?_;clear hK K
 try simp only [Act.put,sT,sZ,sS]
 refine' tkR 6 74 hH1 ?o6
 cases q1
 case false=>
  refine zD (i:=7) (oi:=⟨some 75,_,_,_,_,_⟩) rfl (by kernel_rfl) (by kernel_rfl) (by kernel_rfl) (by kernel_rfl) (fun _ _ _ h=>h) hH1 (by rfl) ?_
  try simp only [Act.put,sT,sZ,sS]
  refine zD (i:=8) (oi:=⟨some 76,_,_,_,_,_⟩) rfl (by kernel_rfl) (by kernel_rfl) (by kernel_rfl) (by kernel_rfl) (fun _ _ _ h=>h) hH1 (by rfl) ?_
  try simp only [Act.put,sT,sZ,sS]
  refine zD (i:=9) (oi:=⟨some 77,_,_,_,_,_⟩) rfl (by kernel_rfl) (by kernel_rfl) (by kernel_rfl) (by kernel_rfl) (fun _ _ _ h=>h) hH1 (by rfl) ?_
  try simp only [Act.put,sT,sZ,sS]
  refine zD (i:=10) (oi:=⟨some 78,_,_,_,_,_⟩) rfl (by kernel_rfl) (by kernel_rfl) (by kernel_rfl) (by kernel_rfl) (fun _ _ _ h=>h) hH1 (by rfl) ?_
  try simp only [Act.put,sT,sZ,sS]
  refine zD (i:=11) (oi:=⟨some 79,_,_,_,_,_⟩) rfl (by kernel_rfl) (by kernel_rfl) (by kernel_rfl) (by kernel_rfl) (fun _ _ _ h=>h) hH1 (by rfl) ?_
  try simp only [Act.put,sT,sZ,sS]
  refine zD (i:=12) (oi:=⟨some 80,_,_,_,_,_⟩) rfl (by kernel_rfl) (by kernel_rfl) (by kernel_rfl) (by kernel_rfl) (fun _ _ _ h=>h) hH1 (by rfl) ?_
  try simp only [Act.put,sT,sZ,sS]
  refine zD (i:=13) (oi:=⟨some 81,_,_,_,_,_⟩) rfl (by kernel_rfl) (by kernel_rfl) (by kernel_rfl) (by kernel_rfl) (fun _ _ _ h=>h) hH1 (by rfl) ?_
  try simp only [Act.put,sT,sZ,sS]
  refine' tkR 14 82 hH1 ?o7
  refine' tkR 15 2 hH1 ?o8
  refine zH (by kernel_rfl) ?_ _;go_wp2;go_ret;refine ⟨?_,b1.trans (hH1.mono b1.size)⟩;rw [HR.out]
  first | rfl | simp
 case true=>
  refine' tkR 7 75 hH1 ?o9
  refine' tkQ 8 76 hH1 ?hyv ?o10
  case hyv=>
   intro wz hSw;have zc0:=(hSw.cell (p:=⟨w.heap.size,0,none⟩) yA).trans u0;have zc1:=(hSw.cell (p:=⟨w.heap.size,1,none⟩) yA).trans u1;have zc2:=(hSw.cell (p:=⟨w.heap.size,2,none⟩) yA).trans u2;have zc3:=(hSw.cell (p:=⟨w.heap.size,3,none⟩) yA).trans u3;have zc4:=(hSw.cell (p:=⟨w.heap.size,4,none⟩) yA).trans u4;have zc5:=(hSw.cell (p:=⟨w.heap.size,5,none⟩) yA).trans u5;have zc6:=(hSw.cell (p:=⟨w.heap.size,6,none⟩) yA).trans u6;have zc7:=(hSw.cell (p:=⟨w.heap.size,7,none⟩) yA).trans u7;have zc8:=(hSw.cell (p:=⟨w.heap.size,8,none⟩) yA).trans u8;have zc9:=(hSw.cell (p:=⟨bl,ol,none⟩) ylq).trans x0q;have zc10:=(hSw.cell (p:=⟨bl,ol+1,none⟩) ylq).trans y0q;have zc11:=(hSw.cell (p:=⟨bl,ol+2,none⟩) ylq).trans x1q;have zc12:=(hSw.cell (p:=⟨bl,ol+2+1,none⟩) ylq).trans y1q;go_simp
   try rfl
  try simp only [Act.put,sT,sZ,sS]
  refine' tkR 9 77 hH1 ?o11
  refine' tkQ 10 78 hH1 ?hyv ?o12
  case hyv=>
   intro wz hSw;have zc0:=(hSw.cell (p:=⟨w.heap.size,0,none⟩) yA).trans u0;have zc1:=(hSw.cell (p:=⟨w.heap.size,1,none⟩) yA).trans u1;have zc2:=(hSw.cell (p:=⟨w.heap.size,2,none⟩) yA).trans u2;have zc3:=(hSw.cell (p:=⟨w.heap.size,3,none⟩) yA).trans u3;have zc4:=(hSw.cell (p:=⟨w.heap.size,4,none⟩) yA).trans u4;have zc5:=(hSw.cell (p:=⟨w.heap.size,5,none⟩) yA).trans u5;have zc6:=(hSw.cell (p:=⟨w.heap.size,6,none⟩) yA).trans u6;have zc7:=(hSw.cell (p:=⟨w.heap.size,7,none⟩) yA).trans u7;have zc8:=(hSw.cell (p:=⟨w.heap.size,8,none⟩) yA).trans u8;have zc9:=(hSw.cell (p:=⟨bl,ol,none⟩) ylq).trans x0q;have zc10:=(hSw.cell (p:=⟨bl,ol+1,none⟩) ylq).trans y0q;have zc11:=(hSw.cell (p:=⟨bl,ol+2,none⟩) ylq).trans x1q;have zc12:=(hSw.cell (p:=⟨bl,ol+2+1,none⟩) ylq).trans y1q;go_simp
   try rfl
  try simp only [Act.put,sT,sZ,sS]
  refine' tkR 11 79 hH1 ?o13
  refine' tkQ 12 80 hH1 ?hyv ?o14
  case hyv=>
   intro wz hSw;have zc0:=(hSw.cell (p:=⟨w.heap.size,0,none⟩) yA).trans u0;have zc1:=(hSw.cell (p:=⟨w.heap.size,1,none⟩) yA).trans u1;have zc2:=(hSw.cell (p:=⟨w.heap.size,2,none⟩) yA).trans u2;have zc3:=(hSw.cell (p:=⟨w.heap.size,3,none⟩) yA).trans u3;have zc4:=(hSw.cell (p:=⟨w.heap.size,4,none⟩) yA).trans u4;have zc5:=(hSw.cell (p:=⟨w.heap.size,5,none⟩) yA).trans u5;have zc6:=(hSw.cell (p:=⟨w.heap.size,6,none⟩) yA).trans u6;have zc7:=(hSw.cell (p:=⟨w.heap.size,7,none⟩) yA).trans u7;have zc8:=(hSw.cell (p:=⟨w.heap.size,8,none⟩) yA).trans u8;have zc9:=(hSw.cell (p:=⟨bl,ol,none⟩) ylq).trans x0q;have zc10:=(hSw.cell (p:=⟨bl,ol+1,none⟩) ylq).trans y0q;have zc11:=(hSw.cell (p:=⟨bl,ol+2,none⟩) ylq).trans x1q;have zc12:=(hSw.cell (p:=⟨bl,ol+2+1,none⟩) ylq).trans y1q;go_simp
   try rfl
  try simp only [Act.put,sT,sZ,sS]
  refine' zO (i:=13) (oi:=⟨some 81,_,_,_,_,_⟩) (v:=.bool q2) rfl (by kernel_rfl) (by kernel_rfl) (by kernel_rfl) (by kernel_rfl) (fun _ _ _ h=>h) hH1 (by rfl) ?hyv ?o15
  case hyv=>
   intro wz hSw;go_simp;rw [HQ2.out];unfold Sk.same;by_cases h1:t.o.elem=a.elem<;>by_cases h2:t.o.n=a.n<;>simp [h1,h2]
  try simp only [Act.put,sT,sZ,sS]
  refine' tkR 14 82 hH1 ?o16
  refine' tkR 15 2 hH1 ?o17
  refine zH (by kernel_rfl) ?_ _;go_wp2;go_ret;refine ⟨?_,b1.trans (hH1.mono b1.size)⟩;rw [HR.out]
  first | rfl | simp
theorem fits7_any {ok:Nat->Prop} (t:TRv) {aa:Option Addr} {na ca:Nat} (a b:Sk.Vr) (w:World) (hG:GlobK w) (hl:HVars ok w (.slice aa na ca) [a,b]) :
  Calls Tryz.prog 133 #[.agg #[.int .i64 7,.int .i64 t.k,.int .i64 t.out,.int .i64 t.n,.slice t.aA t.nA t.cA,.slice t.aE t.nE t.cE,.int .u8 t.o.elem,.int .i64 t.o.n,.slice aa na ca]] w fun e w'=>e=.returned (.bool (Sk.goesOver t.k a b&&Sk.same t.o b))/\Below w.heap.size w w':=by
 have HLL:=zE hl;obtain ⟨ao,cap,hv,hq1,hq2,hat0⟩:=hl.at;injection hv with v1 v2 v3;subst v1 v2 v3;obtain ⟨bl,ol,rfl,yl,x0,y0⟩:=hat0 0 (by simp);obtain ⟨bl1,ol1,ee,yl1,x1,y1⟩:=hat0 1 (by simp);injection ee with ee;injection ee with e1 e2 e3;subst e1 e2;clear yl1 e3;simp at x0 y0 x1 y1;unfold maxLen at hq2;obtain ⟨na,hna⟩:=nmQ ([a,b].length);have hn0:na=2:=(by rw [hna];rfl);rw [<-hna] at hq1 ⊢;clear hna hat0 hl;subst hn0;have b1:Below w.heap.size w (w.alloc (.cells #[.int .i64 7,.int .i64 t.k,.int .i64 t.out,.int .i64 t.n,.slice t.aA t.nA t.cA,.slice t.aE t.nE t.cE,.int .u8 t.o.elem,.int .i64 t.o.n,.slice (some ⟨bl,ol,none⟩) 2 ca] 149 (0,0))):=(Below.refl _ _).alloc zM _;have kA:=zI w (.cells #[.int .i64 7,.int .i64 t.k,.int .i64 t.out,.int .i64 t.n,.slice t.aA t.nA t.cA,.slice t.aE t.nE t.cE,.int .u8 t.o.elem,.int .i64 t.o.n,.slice (some ⟨bl,ol,none⟩) 2 ca] 149 (0,0));have HG1:=zE (hG.under b1);have HL1:=zE (HLL.out.under b1);have x0q:=(b1.cell (p:=⟨bl,ol,none⟩) yl).trans x0;have y0q:=(b1.cell (p:=⟨bl,ol+1,none⟩) yl).trans y0;have x1q:=(b1.cell (p:=⟨bl,ol+2,none⟩) yl).trans x1;have y1q:=(b1.cell (p:=⟨bl,ol+2+1,none⟩) yl).trans y1;have ylq:=Nat.lt_of_lt_of_le yl b1.size;clear x0 y0 x1 y1;obtain ⟨R,hR⟩:=nmQ ((Sk.goesOver t.k a b&&Sk.same t.o b));rw [<-hR];have hc1:∀ V,GlobK V->HVars ok V (.slice (some ⟨bl,ol,none⟩) 2 ca) [a,b]->Calls Tryz.prog 147 #[tv { t with op:=7 } (some ⟨bl,ol,none⟩) 2 ca,vv b] V fun e w'=>e=.returned (.bool (Sk.goesOver t.k a b))/\Below V.heap.size V w':=fun V h1 h2=>jF { t with op:=7 } a b [b] V h1 h2;obtain ⟨q1,hq1⟩:=nmQ (Sk.goesOver t.k a b);rw [<-hq1] at hR hc1;have HQ1:=zE hq1;obtain ⟨q2,hq2⟩:=nmQ (Sk.same t.o b);rw [<-hq2] at hR;have HQ2:=zE hq2;have HR:=zE hR;clear hR hG hq1 hq2 HLL;go_enter Tryz.func133,Tryz.ntmps133;go_upto_region 14 with fail;generalize w.alloc (.cells #[.int .i64 7,.int .i64 t.k,.int .i64 t.out,.int .i64 t.n,.slice t.aA t.nA t.cA,.slice t.aE t.nE t.cE,.int .u8 t.o.elem,.int .i64 t.o.n,.slice (some ⟨bl,ol,none⟩) 2 ca] 149 (0,0))=w1 at b1 kA HG1 HL1 ylq x0q y0q x1q y1q ⊢;have u0:=coQ kA 0;have u1:=coQ kA 1;have u2:=coQ kA 2;have u3:=coQ kA 3;have u4:=coQ kA 4;have u5:=coQ kA 5;have u6:=coQ kA 6;have u7:=coQ kA 7;have u8:=coQ kA 8;simp at u0 u1 u2 u3 u4 u5 u6 u7 u8;have yA:=zG kA;refine zK (fun w'=>Below w1.heap.size w1 w') (fun _=>false) (by kernel_rfl) ?_;have hH0:Below w1.heap.size w1 w1.drew:=(Below.refl _ _).drew;generalize w1.drew=wd0 at hH0 ⊢;refine' tkQ 0 85 hH0 ?hyv ?o18
 case hyv=>
  intro wz hSw;have zc0:=(hSw.cell (p:=⟨w.heap.size,0,none⟩) yA).trans u0;have zc1:=(hSw.cell (p:=⟨w.heap.size,1,none⟩) yA).trans u1;have zc2:=(hSw.cell (p:=⟨w.heap.size,2,none⟩) yA).trans u2;have zc3:=(hSw.cell (p:=⟨w.heap.size,3,none⟩) yA).trans u3;have zc4:=(hSw.cell (p:=⟨w.heap.size,4,none⟩) yA).trans u4;have zc5:=(hSw.cell (p:=⟨w.heap.size,5,none⟩) yA).trans u5;have zc6:=(hSw.cell (p:=⟨w.heap.size,6,none⟩) yA).trans u6;have zc7:=(hSw.cell (p:=⟨w.heap.size,7,none⟩) yA).trans u7;have zc8:=(hSw.cell (p:=⟨w.heap.size,8,none⟩) yA).trans u8;have zc9:=(hSw.cell (p:=⟨bl,ol,none⟩) ylq).trans x0q;have zc10:=(hSw.cell (p:=⟨bl,ol+1,none⟩) ylq).trans y0q;have zc11:=(hSw.cell (p:=⟨bl,ol+2,none⟩) ylq).trans x1q;have zc12:=(hSw.cell (p:=⟨bl,ol+2+1,none⟩) ylq).trans y1q;go_simp
  try rfl
 try simp only [Act.put,sT,sZ,sS]
 refine' tkR 1 86 hH0 ?o19
 refine' tkQ 2 87 hH0 ?hyv ?o20
 case hyv=>
  intro wz hSw;have zc0:=(hSw.cell (p:=⟨w.heap.size,0,none⟩) yA).trans u0;have zc1:=(hSw.cell (p:=⟨w.heap.size,1,none⟩) yA).trans u1;have zc2:=(hSw.cell (p:=⟨w.heap.size,2,none⟩) yA).trans u2;have zc3:=(hSw.cell (p:=⟨w.heap.size,3,none⟩) yA).trans u3;have zc4:=(hSw.cell (p:=⟨w.heap.size,4,none⟩) yA).trans u4;have zc5:=(hSw.cell (p:=⟨w.heap.size,5,none⟩) yA).trans u5;have zc6:=(hSw.cell (p:=⟨w.heap.size,6,none⟩) yA).trans u6;have zc7:=(hSw.cell (p:=⟨w.heap.size,7,none⟩) yA).trans u7;have zc8:=(hSw.cell (p:=⟨w.heap.size,8,none⟩) yA).trans u8;have zc9:=(hSw.cell (p:=⟨bl,ol,none⟩) ylq).trans x0q;have zc10:=(hSw.cell (p:=⟨bl,ol+1,none⟩) ylq).trans y0q;have zc11:=(hSw.cell (p:=⟨bl,ol+2,none⟩) ylq).trans x1q;have zc12:=(hSw.cell (p:=⟨bl,ol+2+1,none⟩) ylq).trans y1q;go_simp
  try rfl
 try simp only [Act.put,sT,sZ,sS]
 refine' tkR 3 88 hH0 ?o21
 refine' tkQ 4 89 hH0 ?hyv ?o22
 case hyv=>
  intro wz hSw;have zc0:=(hSw.cell (p:=⟨w.heap.size,0,none⟩) yA).trans u0;have zc1:=(hSw.cell (p:=⟨w.heap.size,1,none⟩) yA).trans u1;have zc2:=(hSw.cell (p:=⟨w.heap.size,2,none⟩) yA).trans u2;have zc3:=(hSw.cell (p:=⟨w.heap.size,3,none⟩) yA).trans u3;have zc4:=(hSw.cell (p:=⟨w.heap.size,4,none⟩) yA).trans u4;have zc5:=(hSw.cell (p:=⟨w.heap.size,5,none⟩) yA).trans u5;have zc6:=(hSw.cell (p:=⟨w.heap.size,6,none⟩) yA).trans u6;have zc7:=(hSw.cell (p:=⟨w.heap.size,7,none⟩) yA).trans u7;have zc8:=(hSw.cell (p:=⟨w.heap.size,8,none⟩) yA).trans u8;have zc9:=(hSw.cell (p:=⟨bl,ol,none⟩) ylq).trans x0q;have zc10:=(hSw.cell (p:=⟨bl,ol+1,none⟩) ylq).trans y0q;have zc11:=(hSw.cell (p:=⟨bl,ol+2,none⟩) ylq).trans x1q;have zc12:=(hSw.cell (p:=⟨bl,ol+2+1,none⟩) ylq).trans y1q;go_simp
  try rfl
 try simp only [Act.put,sT,sZ,sS]
 refine tnQ 5 (fun K hK=>?_);go_simp;refine (hc1 wd0 (HG1.out.under hH0) (HL1.out.under hH0)).mono ?_;rintro eq wd1 ⟨rfl,bq1⟩;have hH1:Below w1.heap.size w1 wd1:=hH0.trans (bq1.mono hH0.size);refine hK.out _ _ (fun _=>hH1) ?_;clear hK K
 try simp only [Act.put,sT,sZ,sS]
 refine' tkR 6 91 hH1 ?o23
 cases q1
 case false=>
  refine zD (i:=7) (oi:=⟨some 92,_,_,_,_,_⟩) rfl (by kernel_rfl) (by kernel_rfl) (by kernel_rfl) (by kernel_rfl) (fun _ _ _ h=>h) hH1 (by rfl) ?_
  try simp only [Act.put,sT,sZ,sS]
  refine zD (i:=8) (oi:=⟨some 93,_,_,_,_,_⟩) rfl (by kernel_rfl) (by kernel_rfl) (by kernel_rfl) (by kernel_rfl) (fun _ _ _ h=>h) hH1 (by rfl) ?_
  try simp only [Act.put,sT,sZ,sS]
  refine zD (i:=9) (oi:=⟨some 94,_,_,_,_,_⟩) rfl (by kernel_rfl) (by kernel_rfl) (by kernel_rfl) (by kernel_rfl) (fun _ _ _ h=>h) hH1 (by rfl) ?_
  try simp only [Act.put,sT,sZ,sS]
  refine zD (i:=10) (oi:=⟨some 95,_,_,_,_,_⟩) rfl (by kernel_rfl) (by kernel_rfl) (by kernel_rfl) (by kernel_rfl) (fun _ _ _ h=>h) hH1 (by rfl) ?_
  try simp only [Act.put,sT,sZ,sS]
  refine zD (i:=11) (oi:=⟨some 96,_,_,_,_,_⟩) rfl (by kernel_rfl) (by kernel_rfl) (by kernel_rfl) (by kernel_rfl) (fun _ _ _ h=>h) hH1 (by rfl) ?_
  try simp only [Act.put,sT,sZ,sS]
  refine zD (i:=12) (oi:=⟨some 97,_,_,_,_,_⟩) rfl (by kernel_rfl) (by kernel_rfl) (by kernel_rfl) (by kernel_rfl) (fun _ _ _ h=>h) hH1 (by rfl) ?_
  try simp only [Act.put,sT,sZ,sS]
  refine zD (i:=13) (oi:=⟨some 98,_,_,_,_,_⟩) rfl (by kernel_rfl) (by kernel_rfl) (by kernel_rfl) (by kernel_rfl) (fun _ _ _ h=>h) hH1 (by rfl) ?_
  try simp only [Act.put,sT,sZ,sS]
  refine' tkR 14 99 hH1 ?o24
  refine' tkR 15 2 hH1 ?o25
  refine zH (by kernel_rfl) ?_ _;go_wp2;go_ret;refine ⟨?_,b1.trans (hH1.mono b1.size)⟩;rw [HR.out]
  first | rfl | simp
 case true=>
  refine' tkR 7 92 hH1 ?o26
  refine' tkQ 8 93 hH1 ?hyv ?o27
  case hyv=>
   intro wz hSw;have zc0:=(hSw.cell (p:=⟨w.heap.size,0,none⟩) yA).trans u0;have zc1:=(hSw.cell (p:=⟨w.heap.size,1,none⟩) yA).trans u1;have zc2:=(hSw.cell (p:=⟨w.heap.size,2,none⟩) yA).trans u2;have zc3:=(hSw.cell (p:=⟨w.heap.size,3,none⟩) yA).trans u3;have zc4:=(hSw.cell (p:=⟨w.heap.size,4,none⟩) yA).trans u4;have zc5:=(hSw.cell (p:=⟨w.heap.size,5,none⟩) yA).trans u5;have zc6:=(hSw.cell (p:=⟨w.heap.size,6,none⟩) yA).trans u6;have zc7:=(hSw.cell (p:=⟨w.heap.size,7,none⟩) yA).trans u7;have zc8:=(hSw.cell (p:=⟨w.heap.size,8,none⟩) yA).trans u8;have zc9:=(hSw.cell (p:=⟨bl,ol,none⟩) ylq).trans x0q;have zc10:=(hSw.cell (p:=⟨bl,ol+1,none⟩) ylq).trans y0q;have zc11:=(hSw.cell (p:=⟨bl,ol+2,none⟩) ylq).trans x1q;have zc12:=(hSw.cell (p:=⟨bl,ol+2+1,none⟩) ylq).trans y1q;go_simp
   try rfl
  try simp only [Act.put,sT,sZ,sS]
  refine' tkR 9 94 hH1 ?o28
  refine' tkQ 10 95 hH1 ?hyv ?o29
  case hyv=>
   intro wz hSw;have zc0:=(hSw.cell (p:=⟨w.heap.size,0,none⟩) yA).trans u0;have zc1:=(hSw.cell (p:=⟨w.heap.size,1,none⟩) yA).trans u1;have zc2:=(hSw.cell (p:=⟨w.heap.size,2,none⟩) yA).trans u2;have zc3:=(hSw.cell (p:=⟨w.heap.size,3,none⟩) yA).trans u3;have zc4:=(hSw.cell (p:=⟨w.heap.size,4,none⟩) yA).trans u4;have zc5:=(hSw.cell (p:=⟨w.heap.size,5,none⟩) yA).trans u5;have zc6:=(hSw.cell (p:=⟨w.heap.size,6,none⟩) yA).trans u6;have zc7:=(hSw.cell (p:=⟨w.heap.size,7,none⟩) yA).trans u7;have zc8:=(hSw.cell (p:=⟨w.heap.size,8,none⟩) yA).trans u8;have zc9:=(hSw.cell (p:=⟨bl,ol,none⟩) ylq).trans x0q;have zc10:=(hSw.cell (p:=⟨bl,ol+1,none⟩) ylq).trans y0q;have zc11:=(hSw.cell (p:=⟨bl,ol+2,none⟩) ylq).trans x1q;have zc12:=(hSw.cell (p:=⟨bl,ol+2+1,none⟩) ylq).trans y1q;go_simp
   try rfl
  try simp only [Act.put,sT,sZ,sS]
  refine' tkR 11 96 hH1 ?o30
  refine' tkQ 12 97 hH1 ?hyv ?o31
  case hyv=>
   intro wz hSw;have zc0:=(hSw.cell (p:=⟨w.heap.size,0,none⟩) yA).trans u0;have zc1:=(hSw.cell (p:=⟨w.heap.size,1,none⟩) yA).trans u1;have zc2:=(hSw.cell (p:=⟨w.heap.size,2,none⟩) yA).trans u2;have zc3:=(hSw.cell (p:=⟨w.heap.size,3,none⟩) yA).trans u3;have zc4:=(hSw.cell (p:=⟨w.heap.size,4,none⟩) yA).trans u4;have zc5:=(hSw.cell (p:=⟨w.heap.size,5,none⟩) yA).trans u5;have zc6:=(hSw.cell (p:=⟨w.heap.size,6,none⟩) yA).trans u6;have zc7:=(hSw.cell (p:=⟨w.heap.size,7,none⟩) yA).trans u7;have zc8:=(hSw.cell (p:=⟨w.heap.size,8,none⟩) yA).trans u8;have zc9:=(hSw.cell (p:=⟨bl,ol,none⟩) ylq).trans x0q;have zc10:=(hSw.cell (p:=⟨bl,ol+1,none⟩) ylq).trans y0q;have zc11:=(hSw.cell (p:=⟨bl,ol+2,none⟩) ylq).trans x1q;have zc12:=(hSw.cell (p:=⟨bl,ol+2+1,none⟩) ylq).trans y1q;go_simp
   try rfl
  try simp only [Act.put,sT,sZ,sS]
  refine' zO (i:=13) (oi:=⟨some 98,_,_,_,_,_⟩) (v:=.bool q2) rfl (by kernel_rfl) (by kernel_rfl) (by kernel_rfl) (by kernel_rfl) (fun _ _ _ h=>h) hH1 (by rfl) ?hyv ?o32
  case hyv=>
   intro wz hSw;go_simp;rw [HQ2.out];unfold Sk.same;by_cases h1:t.o.elem=b.elem<;>by_cases h2:t.o.n=b.n<;>simp [h1,h2]
  try simp only [Act.put,sT,sZ,sS]
  refine' tkR 14 99 hH1 ?o33
  refine' tkR 15 2 hH1 ?o34
  refine zH (by kernel_rfl) ?_ _;go_wp2;go_ret;refine ⟨?_,b1.trans (hH1.mono b1.size)⟩;rw [HR.out]
  first | rfl | simp
theorem fits9_any {ok:Nat->Prop} (t:TRv) {aa:Option Addr} {na ca:Nat} (a b c:Sk.Vr) (w:World) (hG:GlobK w) (hl:HVars ok w (.slice aa na ca) [a,b,c]) :
  Calls Tryz.prog 133 #[.agg #[.int .i64 9,.int .i64 t.k,.int .i64 t.out,.int .i64 t.n,.slice t.aA t.nA t.cA,.slice t.aE t.nE t.cE,.int .u8 t.o.elem,.int .i64 t.o.n,.slice aa na ca]] w fun e w'=>e=.returned (.bool (Sk.hasPlace a b c&&Sk.same t.o c))/\Below w.heap.size w w':=by
 have HLL:=zE hl;obtain ⟨ao,cap,hv,hq1,hq2,hat0⟩:=hl.at;injection hv with v1 v2 v3;subst v1 v2 v3;obtain ⟨bl,ol,rfl,yl,x0,y0⟩:=hat0 0 (by simp);obtain ⟨bl1,ol1,ee,yl1,x1,y1⟩:=hat0 1 (by simp);injection ee with ee;injection ee with e1 e2 e3;subst e1 e2;clear yl1 e3;obtain ⟨bl2,ol2,ee,yl2,x2,y2⟩:=hat0 2 (by simp);injection ee with ee;injection ee with e1 e2 e3;subst e1 e2;clear yl2 e3;simp at x0 y0 x1 y1 x2 y2;unfold maxLen at hq2;obtain ⟨na,hna⟩:=nmQ ([a,b,c].length);have hn0:na=3:=(by rw [hna];rfl);rw [<-hna] at hq1 ⊢;clear hna hat0 hl;subst hn0;have b1:Below w.heap.size w (w.alloc (.cells #[.int .i64 9,.int .i64 t.k,.int .i64 t.out,.int .i64 t.n,.slice t.aA t.nA t.cA,.slice t.aE t.nE t.cE,.int .u8 t.o.elem,.int .i64 t.o.n,.slice (some ⟨bl,ol,none⟩) 3 ca] 149 (0,0))):=(Below.refl _ _).alloc zM _;have kA:=zI w (.cells #[.int .i64 9,.int .i64 t.k,.int .i64 t.out,.int .i64 t.n,.slice t.aA t.nA t.cA,.slice t.aE t.nE t.cE,.int .u8 t.o.elem,.int .i64 t.o.n,.slice (some ⟨bl,ol,none⟩) 3 ca] 149 (0,0));have HG1:=zE (hG.under b1);have HL1:=zE (HLL.out.under b1);have x0q:=(b1.cell (p:=⟨bl,ol,none⟩) yl).trans x0;have y0q:=(b1.cell (p:=⟨bl,ol+1,none⟩) yl).trans y0;have x1q:=(b1.cell (p:=⟨bl,ol+2,none⟩) yl).trans x1;have y1q:=(b1.cell (p:=⟨bl,ol+2+1,none⟩) yl).trans y1;have x2q:=(b1.cell (p:=⟨bl,ol+4,none⟩) yl).trans x2;have y2q:=(b1.cell (p:=⟨bl,ol+4+1,none⟩) yl).trans y2;have ylq:=Nat.lt_of_lt_of_le yl b1.size;clear x0 y0 x1 y1 x2 y2;obtain ⟨R,hR⟩:=nmQ ((Sk.hasPlace a b c&&Sk.same t.o c));rw [<-hR];have hc1:∀ V,HVars ok V (.slice (some ⟨bl,ol,none⟩) 3 ca) [a,b,c]->Calls Tryz.prog 149 #[tv { t with op:=9 } (some ⟨bl,ol,none⟩) 3 ca] V fun e w'=>e=.returned (.bool (Sk.hasPlace a b c))/\Below V.heap.size V w':=fun V h2=>vQ { t with op:=9 } a b c V h2;obtain ⟨q1,hq1⟩:=nmQ (Sk.hasPlace a b c);rw [<-hq1] at hR hc1;have HQ1:=zE hq1;obtain ⟨q2,hq2⟩:=nmQ (Sk.same t.o c);rw [<-hq2] at hR;have HQ2:=zE hq2;have HR:=zE hR;clear hR hG hq1 hq2 HLL;go_enter Tryz.func133,Tryz.ntmps133;go_upto_region 18 with fail;generalize w.alloc (.cells #[.int .i64 9,.int .i64 t.k,.int .i64 t.out,.int .i64 t.n,.slice t.aA t.nA t.cA,.slice t.aE t.nE t.cE,.int .u8 t.o.elem,.int .i64 t.o.n,.slice (some ⟨bl,ol,none⟩) 3 ca] 149 (0,0))=w1 at b1 kA HG1 HL1 ylq x0q y0q x1q y1q x2q y2q ⊢;have u0:=coQ kA 0;have u1:=coQ kA 1;have u2:=coQ kA 2;have u3:=coQ kA 3;have u4:=coQ kA 4;have u5:=coQ kA 5;have u6:=coQ kA 6;have u7:=coQ kA 7;have u8:=coQ kA 8;simp at u0 u1 u2 u3 u4 u5 u6 u7 u8;have yA:=zG kA;refine zK (fun w'=>Below w1.heap.size w1 w') (fun _=>false) (by kernel_rfl) ?_;have hH0:Below w1.heap.size w1 w1.drew:=(Below.refl _ _).drew;generalize w1.drew=wd0 at hH0 ⊢;refine' tkQ 0 111 hH0 ?hyv ?o35
 case hyv=>
  intro wz hSw;have zc0:=(hSw.cell (p:=⟨w.heap.size,0,none⟩) yA).trans u0;have zc1:=(hSw.cell (p:=⟨w.heap.size,1,none⟩) yA).trans u1;have zc2:=(hSw.cell (p:=⟨w.heap.size,2,none⟩) yA).trans u2;have zc3:=(hSw.cell (p:=⟨w.heap.size,3,none⟩) yA).trans u3;have zc4:=(hSw.cell (p:=⟨w.heap.size,4,none⟩) yA).trans u4;have zc5:=(hSw.cell (p:=⟨w.heap.size,5,none⟩) yA).trans u5;have zc6:=(hSw.cell (p:=⟨w.heap.size,6,none⟩) yA).trans u6;have zc7:=(hSw.cell (p:=⟨w.heap.size,7,none⟩) yA).trans u7;have zc8:=(hSw.cell (p:=⟨w.heap.size,8,none⟩) yA).trans u8;have zc9:=(hSw.cell (p:=⟨bl,ol,none⟩) ylq).trans x0q;have zc10:=(hSw.cell (p:=⟨bl,ol+1,none⟩) ylq).trans y0q;have zc11:=(hSw.cell (p:=⟨bl,ol+2,none⟩) ylq).trans x1q;have zc12:=(hSw.cell (p:=⟨bl,ol+2+1,none⟩) ylq).trans y1q;have zc13:=(hSw.cell (p:=⟨bl,ol+4,none⟩) ylq).trans x2q;have zc14:=(hSw.cell (p:=⟨bl,ol+4+1,none⟩) ylq).trans y2q;go_simp
  try rfl
 try simp only [Act.put,sT,sZ,sS]
 refine tnQ 1 (fun K hK=>?_);go_simp;refine (hc1 wd0 (HL1.out.under hH0)).mono ?_;rintro eq wd1 ⟨rfl,bq1⟩;have hH1:Below w1.heap.size w1 wd1:=hH0.trans (bq1.mono hH0.size);refine hK.out _ _ (fun _=>hH1) ?_;clear hK K
 try simp only [Act.put,sT,sZ,sS]
 refine' tkR 2 113 hH1 ?o36
 cases q1
 case false=>
  refine zD (i:=3) (oi:=⟨some 114,_,_,_,_,_⟩) rfl (by kernel_rfl) (by kernel_rfl) (by kernel_rfl) (by kernel_rfl) (fun _ _ _ h=>h) hH1 (by rfl) ?_
  try simp only [Act.put,sT,sZ,sS]
  refine zD (i:=4) (oi:=⟨some 115,_,_,_,_,_⟩) rfl (by kernel_rfl) (by kernel_rfl) (by kernel_rfl) (by kernel_rfl) (fun _ _ _ h=>h) hH1 (by rfl) ?_
  try simp only [Act.put,sT,sZ,sS]
  refine zD (i:=5) (oi:=⟨some 116,_,_,_,_,_⟩) rfl (by kernel_rfl) (by kernel_rfl) (by kernel_rfl) (by kernel_rfl) (fun _ _ _ h=>h) hH1 (by rfl) ?_
  try simp only [Act.put,sT,sZ,sS]
  refine zD (i:=6) (oi:=⟨some 117,_,_,_,_,_⟩) rfl (by kernel_rfl) (by kernel_rfl) (by kernel_rfl) (by kernel_rfl) (fun _ _ _ h=>h) hH1 (by rfl) ?_
  try simp only [Act.put,sT,sZ,sS]
  refine zD (i:=7) (oi:=⟨some 118,_,_,_,_,_⟩) rfl (by kernel_rfl) (by kernel_rfl) (by kernel_rfl) (by kernel_rfl) (fun _ _ _ h=>h) hH1 (by rfl) ?_
  try simp only [Act.put,sT,sZ,sS]
  refine zD (i:=8) (oi:=⟨some 119,_,_,_,_,_⟩) rfl (by kernel_rfl) (by kernel_rfl) (by kernel_rfl) (by kernel_rfl) (fun _ _ _ h=>h) hH1 (by rfl) ?_
  try simp only [Act.put,sT,sZ,sS]
  refine zD (i:=9) (oi:=⟨some 120,_,_,_,_,_⟩) rfl (by kernel_rfl) (by kernel_rfl) (by kernel_rfl) (by kernel_rfl) (fun _ _ _ h=>h) hH1 (by rfl) ?_
  try simp only [Act.put,sT,sZ,sS]
  refine' tkR 10 121 hH1 ?o37
  refine' tkR 11 2 hH1 ?o38
  refine zH (by kernel_rfl) ?_ _;go_wp2;go_ret;refine ⟨?_,b1.trans (hH1.mono b1.size)⟩;rw [HR.out]
  first | rfl | simp
 case true=>
  refine' tkR 3 114 hH1 ?o39
  refine' tkQ 4 115 hH1 ?hyv ?o40
  case hyv=>
   intro wz hSw;have zc0:=(hSw.cell (p:=⟨w.heap.size,0,none⟩) yA).trans u0;have zc1:=(hSw.cell (p:=⟨w.heap.size,1,none⟩) yA).trans u1;have zc2:=(hSw.cell (p:=⟨w.heap.size,2,none⟩) yA).trans u2;have zc3:=(hSw.cell (p:=⟨w.heap.size,3,none⟩) yA).trans u3;have zc4:=(hSw.cell (p:=⟨w.heap.size,4,none⟩) yA).trans u4;have zc5:=(hSw.cell (p:=⟨w.heap.size,5,none⟩) yA).trans u5;have zc6:=(hSw.cell (p:=⟨w.heap.size,6,none⟩) yA).trans u6;have zc7:=(hSw.cell (p:=⟨w.heap.size,7,none⟩) yA).trans u7;have zc8:=(hSw.cell (p:=⟨w.heap.size,8,none⟩) yA).trans u8;have zc9:=(hSw.cell (p:=⟨bl,ol,none⟩) ylq).trans x0q;have zc10:=(hSw.cell (p:=⟨bl,ol+1,none⟩) ylq).trans y0q;have zc11:=(hSw.cell (p:=⟨bl,ol+2,none⟩) ylq).trans x1q;have zc12:=(hSw.cell (p:=⟨bl,ol+2+1,none⟩) ylq).trans y1q;have zc13:=(hSw.cell (p:=⟨bl,ol+4,none⟩) ylq).trans x2q;have zc14:=(hSw.cell (p:=⟨bl,ol+4+1,none⟩) ylq).trans y2q;go_simp
   try rfl
  try simp only [Act.put,sT,sZ,sS]
  refine' tkR 5 116 hH1 ?o41
  refine' tkQ 6 117 hH1 ?hyv ?o42
  case hyv=>
   intro wz hSw;have zc0:=(hSw.cell (p:=⟨w.heap.size,0,none⟩) yA).trans u0;have zc1:=(hSw.cell (p:=⟨w.heap.size,1,none⟩) yA).trans u1;have zc2:=(hSw.cell (p:=⟨w.heap.size,2,none⟩) yA).trans u2;have zc3:=(hSw.cell (p:=⟨w.heap.size,3,none⟩) yA).trans u3;have zc4:=(hSw.cell (p:=⟨w.heap.size,4,none⟩) yA).trans u4;have zc5:=(hSw.cell (p:=⟨w.heap.size,5,none⟩) yA).trans u5;have zc6:=(hSw.cell (p:=⟨w.heap.size,6,none⟩) yA).trans u6;have zc7:=(hSw.cell (p:=⟨w.heap.size,7,none⟩) yA).trans u7;have zc8:=(hSw.cell (p:=⟨w.heap.size,8,none⟩) yA).trans u8;have zc9:=(hSw.cell (p:=⟨bl,ol,none⟩) ylq).trans x0q;have zc10:=(hSw.cell (p:=⟨bl,ol+1,none⟩) ylq).trans y0q;have zc11:=(hSw.cell (p:=⟨bl,ol+2,none⟩) ylq).trans x1q;have zc12:=(hSw.cell (p:=⟨bl,ol+2+1,none⟩) ylq).trans y1q;have zc13:=(hSw.cell (p:=⟨bl,ol+4,none⟩) ylq).trans x2q;have zc14:=(hSw.cell (p:=⟨bl,ol+4+1,none⟩) ylq).trans y2q;go_simp
   try rfl
  try simp only [Act.put,sT,sZ,sS]
  refine' tkR 7 118 hH1 ?o43
  refine' tkQ 8 119 hH1 ?hyv ?o44
  case hyv=>
   intro wz hSw;have zc0:=(hSw.cell (p:=⟨w.heap.size,0,none⟩) yA).trans u0;have zc1:=(hSw.cell (p:=⟨w.heap.size,1,none⟩) yA).trans u1;have zc2:=(hSw.cell (p:=⟨w.heap.size,2,none⟩) yA).trans u2;have zc3:=(hSw.cell (p:=⟨w.heap.size,3,none⟩) yA).trans u3;have zc4:=(hSw.cell (p:=⟨w.heap.size,4,none⟩) yA).trans u4;have zc5:=(hSw.cell (p:=⟨w.heap.size,5,none⟩) yA).trans u5;have zc6:=(hSw.cell (p:=⟨w.heap.size,6,none⟩) yA).trans u6;have zc7:=(hSw.cell (p:=⟨w.heap.size,7,none⟩) yA).trans u7;have zc8:=(hSw.cell (p:=⟨w.heap.size,8,none⟩) yA).trans u8;have zc9:=(hSw.cell (p:=⟨bl,ol,none⟩) ylq).trans x0q;have zc10:=(hSw.cell (p:=⟨bl,ol+1,none⟩) ylq).trans y0q;have zc11:=(hSw.cell (p:=⟨bl,ol+2,none⟩) ylq).trans x1q;have zc12:=(hSw.cell (p:=⟨bl,ol+2+1,none⟩) ylq).trans y1q;have zc13:=(hSw.cell (p:=⟨bl,ol+4,none⟩) ylq).trans x2q;have zc14:=(hSw.cell (p:=⟨bl,ol+4+1,none⟩) ylq).trans y2q;go_simp
   try rfl
  try simp only [Act.put,sT,sZ,sS]
  refine' zO (i:=9) (oi:=⟨some 120,_,_,_,_,_⟩) (v:=.bool q2) rfl (by kernel_rfl) (by kernel_rfl) (by kernel_rfl) (by kernel_rfl) (fun _ _ _ h=>h) hH1 (by rfl) ?hyv ?o45
  case hyv=>
   intro wz hSw;go_simp;rw [HQ2.out];unfold Sk.same;by_cases h1:t.o.elem=c.elem<;>by_cases h2:t.o.n=c.n<;>simp [h1,h2]
  try simp only [Act.put,sT,sZ,sS]
  refine' tkR 10 121 hH1 ?o46
  refine' tkR 11 2 hH1 ?o47
  refine zH (by kernel_rfl) ?_ _;go_wp2;go_ret;refine ⟨?_,b1.trans (hH1.mono b1.size)⟩;rw [HR.out]
  first | rfl | simp
theorem fits10_any {ok:Nat->Prop} (t:TRv) {aa:Option Addr} {na ca:Nat} (a b c:Sk.Vr) (w:World) (hG:GlobK w) (hl:HVars ok w (.slice aa na ca) [a,b,c]) :
  Calls Tryz.prog 133 #[.agg #[.int .i64 10,.int .i64 t.k,.int .i64 t.out,.int .i64 t.n,.slice t.aA t.nA t.cA,.slice t.aE t.nE t.cE,.int .u8 t.o.elem,.int .i64 t.o.n,.slice aa na ca]] w fun e w'=>e=.returned (.bool (Sk.hasPlace a b c&&Sk.same t.o a))/\Below w.heap.size w w':=by
 have HLL:=zE hl;obtain ⟨ao,cap,hv,hq1,hq2,hat0⟩:=hl.at;injection hv with v1 v2 v3;subst v1 v2 v3;obtain ⟨bl,ol,rfl,yl,x0,y0⟩:=hat0 0 (by simp);obtain ⟨bl1,ol1,ee,yl1,x1,y1⟩:=hat0 1 (by simp);injection ee with ee;injection ee with e1 e2 e3;subst e1 e2;clear yl1 e3;obtain ⟨bl2,ol2,ee,yl2,x2,y2⟩:=hat0 2 (by simp);injection ee with ee;injection ee with e1 e2 e3;subst e1 e2;clear yl2 e3;simp at x0 y0 x1 y1 x2 y2;unfold maxLen at hq2;obtain ⟨na,hna⟩:=nmQ ([a,b,c].length);have hn0:na=3:=(by rw [hna];rfl);rw [<-hna] at hq1 ⊢;clear hna hat0 hl;subst hn0;have b1:Below w.heap.size w (w.alloc (.cells #[.int .i64 10,.int .i64 t.k,.int .i64 t.out,.int .i64 t.n,.slice t.aA t.nA t.cA,.slice t.aE t.nE t.cE,.int .u8 t.o.elem,.int .i64 t.o.n,.slice (some ⟨bl,ol,none⟩) 3 ca] 149 (0,0))):=(Below.refl _ _).alloc zM _;have kA:=zI w (.cells #[.int .i64 10,.int .i64 t.k,.int .i64 t.out,.int .i64 t.n,.slice t.aA t.nA t.cA,.slice t.aE t.nE t.cE,.int .u8 t.o.elem,.int .i64 t.o.n,.slice (some ⟨bl,ol,none⟩) 3 ca] 149 (0,0));have HG1:=zE (hG.under b1);have HL1:=zE (HLL.out.under b1);have x0q:=(b1.cell (p:=⟨bl,ol,none⟩) yl).trans x0;have y0q:=(b1.cell (p:=⟨bl,ol+1,none⟩) yl).trans y0;have x1q:=(b1.cell (p:=⟨bl,ol+2,none⟩) yl).trans x1;have y1q:=(b1.cell (p:=⟨bl,ol+2+1,none⟩) yl).trans y1;have x2q:=(b1.cell (p:=⟨bl,ol+4,none⟩) yl).trans x2;have y2q:=(b1.cell (p:=⟨bl,ol+4+1,none⟩) yl).trans y2;have ylq:=Nat.lt_of_lt_of_le yl b1.size;clear x0 y0 x1 y1 x2 y2;obtain ⟨R,hR⟩:=nmQ ((Sk.hasPlace a b c&&Sk.same t.o a));rw [<-hR];have hc1:∀ V,HVars ok V (.slice (some ⟨bl,ol,none⟩) 3 ca) [a,b,c]->Calls Tryz.prog 149 #[tv { t with op:=10 } (some ⟨bl,ol,none⟩) 3 ca] V fun e w'=>e=.returned (.bool (Sk.hasPlace a b c))/\Below V.heap.size V w':=fun V h2=>vQ { t with op:=10 } a b c V h2;obtain ⟨q1,hq1⟩:=nmQ (Sk.hasPlace a b c);rw [<-hq1] at hR hc1;have HQ1:=zE hq1;obtain ⟨q2,hq2⟩:=nmQ (Sk.same t.o a);rw [<-hq2] at hR;have HQ2:=zE hq2;have HR:=zE hR;clear hR hG hq1 hq2 HLL;go_enter Tryz.func133,Tryz.ntmps133;go_upto_region 20 with fail;generalize w.alloc (.cells #[.int .i64 10,.int .i64 t.k,.int .i64 t.out,.int .i64 t.n,.slice t.aA t.nA t.cA,.slice t.aE t.nE t.cE,.int .u8 t.o.elem,.int .i64 t.o.n,.slice (some ⟨bl,ol,none⟩) 3 ca] 149 (0,0))=w1 at b1 kA HG1 HL1 ylq x0q y0q x1q y1q x2q y2q ⊢;have u0:=coQ kA 0;have u1:=coQ kA 1;have u2:=coQ kA 2;have u3:=coQ kA 3;have u4:=coQ kA 4;have u5:=coQ kA 5;have u6:=coQ kA 6;have u7:=coQ kA 7;have u8:=coQ kA 8;simp at u0 u1 u2 u3 u4 u5 u6 u7 u8;have yA:=zG kA;refine zK (fun w'=>Below w1.heap.size w1 w') (fun _=>false) (by kernel_rfl) ?_;have hH0:Below w1.heap.size w1 w1.drew:=(Below.refl _ _).drew;generalize w1.drew=wd0 at hH0 ⊢;refine' tkQ 0 124 hH0 ?hyv ?o48
 case hyv=>
  intro wz hSw;have zc0:=(hSw.cell (p:=⟨w.heap.size,0,none⟩) yA).trans u0;have zc1:=(hSw.cell (p:=⟨w.heap.size,1,none⟩) yA).trans u1;have zc2:=(hSw.cell (p:=⟨w.heap.size,2,none⟩) yA).trans u2;have zc3:=(hSw.cell (p:=⟨w.heap.size,3,none⟩) yA).trans u3;have zc4:=(hSw.cell (p:=⟨w.heap.size,4,none⟩) yA).trans u4;have zc5:=(hSw.cell (p:=⟨w.heap.size,5,none⟩) yA).trans u5;have zc6:=(hSw.cell (p:=⟨w.heap.size,6,none⟩) yA).trans u6;have zc7:=(hSw.cell (p:=⟨w.heap.size,7,none⟩) yA).trans u7;have zc8:=(hSw.cell (p:=⟨w.heap.size,8,none⟩) yA).trans u8;have zc9:=(hSw.cell (p:=⟨bl,ol,none⟩) ylq).trans x0q;have zc10:=(hSw.cell (p:=⟨bl,ol+1,none⟩) ylq).trans y0q;have zc11:=(hSw.cell (p:=⟨bl,ol+2,none⟩) ylq).trans x1q;have zc12:=(hSw.cell (p:=⟨bl,ol+2+1,none⟩) ylq).trans y1q;have zc13:=(hSw.cell (p:=⟨bl,ol+4,none⟩) ylq).trans x2q;have zc14:=(hSw.cell (p:=⟨bl,ol+4+1,none⟩) ylq).trans y2q;go_simp
  try rfl
 try simp only [Act.put,sT,sZ,sS]
 refine tnQ 1 (fun K hK=>?_);go_simp;refine (hc1 wd0 (HL1.out.under hH0)).mono ?_;rintro eq wd1 ⟨rfl,bq1⟩;have hH1:Below w1.heap.size w1 wd1:=hH0.trans (bq1.mono hH0.size);refine hK.out _ _ (fun _=>hH1) ?_;clear hK K
 try simp only [Act.put,sT,sZ,sS]
 refine' tkR 2 126 hH1 ?o49
 cases q1
 case false=>
  refine zD (i:=3) (oi:=⟨some 127,_,_,_,_,_⟩) rfl (by kernel_rfl) (by kernel_rfl) (by kernel_rfl) (by kernel_rfl) (fun _ _ _ h=>h) hH1 (by rfl) ?_
  try simp only [Act.put,sT,sZ,sS]
  refine zD (i:=4) (oi:=⟨some 128,_,_,_,_,_⟩) rfl (by kernel_rfl) (by kernel_rfl) (by kernel_rfl) (by kernel_rfl) (fun _ _ _ h=>h) hH1 (by rfl) ?_
  try simp only [Act.put,sT,sZ,sS]
  refine zD (i:=5) (oi:=⟨some 129,_,_,_,_,_⟩) rfl (by kernel_rfl) (by kernel_rfl) (by kernel_rfl) (by kernel_rfl) (fun _ _ _ h=>h) hH1 (by rfl) ?_
  try simp only [Act.put,sT,sZ,sS]
  refine zD (i:=6) (oi:=⟨some 130,_,_,_,_,_⟩) rfl (by kernel_rfl) (by kernel_rfl) (by kernel_rfl) (by kernel_rfl) (fun _ _ _ h=>h) hH1 (by rfl) ?_
  try simp only [Act.put,sT,sZ,sS]
  refine zD (i:=7) (oi:=⟨some 131,_,_,_,_,_⟩) rfl (by kernel_rfl) (by kernel_rfl) (by kernel_rfl) (by kernel_rfl) (fun _ _ _ h=>h) hH1 (by rfl) ?_
  try simp only [Act.put,sT,sZ,sS]
  refine zD (i:=8) (oi:=⟨some 132,_,_,_,_,_⟩) rfl (by kernel_rfl) (by kernel_rfl) (by kernel_rfl) (by kernel_rfl) (fun _ _ _ h=>h) hH1 (by rfl) ?_
  try simp only [Act.put,sT,sZ,sS]
  refine zD (i:=9) (oi:=⟨some 133,_,_,_,_,_⟩) rfl (by kernel_rfl) (by kernel_rfl) (by kernel_rfl) (by kernel_rfl) (fun _ _ _ h=>h) hH1 (by rfl) ?_
  try simp only [Act.put,sT,sZ,sS]
  refine' tkR 10 134 hH1 ?o50
  refine' tkR 11 2 hH1 ?o51
  refine zH (by kernel_rfl) ?_ _;go_wp2;go_ret;refine ⟨?_,b1.trans (hH1.mono b1.size)⟩;rw [HR.out]
  first | rfl | simp
 case true=>
  refine' tkR 3 127 hH1 ?o52
  refine' tkQ 4 128 hH1 ?hyv ?o53
  case hyv=>
   intro wz hSw;have zc0:=(hSw.cell (p:=⟨w.heap.size,0,none⟩) yA).trans u0;have zc1:=(hSw.cell (p:=⟨w.heap.size,1,none⟩) yA).trans u1;have zc2:=(hSw.cell (p:=⟨w.heap.size,2,none⟩) yA).trans u2;have zc3:=(hSw.cell (p:=⟨w.heap.size,3,none⟩) yA).trans u3;have zc4:=(hSw.cell (p:=⟨w.heap.size,4,none⟩) yA).trans u4;have zc5:=(hSw.cell (p:=⟨w.heap.size,5,none⟩) yA).trans u5;have zc6:=(hSw.cell (p:=⟨w.heap.size,6,none⟩) yA).trans u6;have zc7:=(hSw.cell (p:=⟨w.heap.size,7,none⟩) yA).trans u7;have zc8:=(hSw.cell (p:=⟨w.heap.size,8,none⟩) yA).trans u8;have zc9:=(hSw.cell (p:=⟨bl,ol,none⟩) ylq).trans x0q;have zc10:=(hSw.cell (p:=⟨bl,ol+1,none⟩) ylq).trans y0q;have zc11:=(hSw.cell (p:=⟨bl,ol+2,none⟩) ylq).trans x1q;have zc12:=(hSw.cell (p:=⟨bl,ol+2+1,none⟩) ylq).trans y1q;have zc13:=(hSw.cell (p:=⟨bl,ol+4,none⟩) ylq).trans x2q;have zc14:=(hSw.cell (p:=⟨bl,ol+4+1,none⟩) ylq).trans y2q;go_simp
   try rfl
  try simp only [Act.put,sT,sZ,sS]
  refine' tkR 5 129 hH1 ?o54
  refine' tkQ 6 130 hH1 ?hyv ?o55
  case hyv=>
   intro wz hSw;have zc0:=(hSw.cell (p:=⟨w.heap.size,0,none⟩) yA).trans u0;have zc1:=(hSw.cell (p:=⟨w.heap.size,1,none⟩) yA).trans u1;have zc2:=(hSw.cell (p:=⟨w.heap.size,2,none⟩) yA).trans u2;have zc3:=(hSw.cell (p:=⟨w.heap.size,3,none⟩) yA).trans u3;have zc4:=(hSw.cell (p:=⟨w.heap.size,4,none⟩) yA).trans u4;have zc5:=(hSw.cell (p:=⟨w.heap.size,5,none⟩) yA).trans u5;have zc6:=(hSw.cell (p:=⟨w.heap.size,6,none⟩) yA).trans u6;have zc7:=(hSw.cell (p:=⟨w.heap.size,7,none⟩) yA).trans u7;have zc8:=(hSw.cell (p:=⟨w.heap.size,8,none⟩) yA).trans u8;have zc9:=(hSw.cell (p:=⟨bl,ol,none⟩) ylq).trans x0q;have zc10:=(hSw.cell (p:=⟨bl,ol+1,none⟩) ylq).trans y0q;have zc11:=(hSw.cell (p:=⟨bl,ol+2,none⟩) ylq).trans x1q;have zc12:=(hSw.cell (p:=⟨bl,ol+2+1,none⟩) ylq).trans y1q;have zc13:=(hSw.cell (p:=⟨bl,ol+4,none⟩) ylq).trans x2q;have zc14:=(hSw.cell (p:=⟨bl,ol+4+1,none⟩) ylq).trans y2q;go_simp
   try rfl
  try simp only [Act.put,sT,sZ,sS]
  refine' tkR 7 131 hH1 ?o56
  refine' tkQ 8 132 hH1 ?hyv ?o57
  case hyv=>
   intro wz hSw;have zc0:=(hSw.cell (p:=⟨w.heap.size,0,none⟩) yA).trans u0;have zc1:=(hSw.cell (p:=⟨w.heap.size,1,none⟩) yA).trans u1;have zc2:=(hSw.cell (p:=⟨w.heap.size,2,none⟩) yA).trans u2;have zc3:=(hSw.cell (p:=⟨w.heap.size,3,none⟩) yA).trans u3;have zc4:=(hSw.cell (p:=⟨w.heap.size,4,none⟩) yA).trans u4;have zc5:=(hSw.cell (p:=⟨w.heap.size,5,none⟩) yA).trans u5;have zc6:=(hSw.cell (p:=⟨w.heap.size,6,none⟩) yA).trans u6;have zc7:=(hSw.cell (p:=⟨w.heap.size,7,none⟩) yA).trans u7;have zc8:=(hSw.cell (p:=⟨w.heap.size,8,none⟩) yA).trans u8;have zc9:=(hSw.cell (p:=⟨bl,ol,none⟩) ylq).trans x0q;have zc10:=(hSw.cell (p:=⟨bl,ol+1,none⟩) ylq).trans y0q;have zc11:=(hSw.cell (p:=⟨bl,ol+2,none⟩) ylq).trans x1q;have zc12:=(hSw.cell (p:=⟨bl,ol+2+1,none⟩) ylq).trans y1q;have zc13:=(hSw.cell (p:=⟨bl,ol+4,none⟩) ylq).trans x2q;have zc14:=(hSw.cell (p:=⟨bl,ol+4+1,none⟩) ylq).trans y2q;go_simp
   try rfl
  try simp only [Act.put,sT,sZ,sS]
  refine' zO (i:=9) (oi:=⟨some 133,_,_,_,_,_⟩) (v:=.bool q2) rfl (by kernel_rfl) (by kernel_rfl) (by kernel_rfl) (by kernel_rfl) (fun _ _ _ h=>h) hH1 (by rfl) ?hyv ?o58
  case hyv=>
   intro wz hSw;go_simp;rw [HQ2.out];unfold Sk.same;by_cases h1:t.o.elem=a.elem<;>by_cases h2:t.o.n=a.n<;>simp [h1,h2]
  try simp only [Act.put,sT,sZ,sS]
  refine' tkR 10 134 hH1 ?o59
  refine' tkR 11 2 hH1 ?o60
  refine zH (by kernel_rfl) ?_ _;go_wp2;go_ret;refine ⟨?_,b1.trans (hH1.mono b1.size)⟩;rw [HR.out]
  first | rfl | simp
end Go.Proofs.YtegakbobaecdlaaGreatDoor
