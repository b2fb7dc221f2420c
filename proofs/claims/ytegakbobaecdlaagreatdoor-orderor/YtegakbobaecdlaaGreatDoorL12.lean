import Derived.Test.YtegakbobaecdlaaGreatDoorL08
import Derived.WalkKit
import Derived.WalkSpells
import Derived.IntWalk
import Derived.Deep.Cut
import Derived.Deep.LoopGhost
import Derived.Lib.Hide
set_option linter.unusedVariables false
set_option linter.unusedSimpArgs false
set_option maxHeartbeats 64000000
set_option maxRecDepth 100000
namespace Go.Proofs.YtegakbobaecdlaaGreatDoor
open Go.RowKit Go.IntWalk
theorem wrapS {x:Int} (h0 : -1000000<=x) (h1:x<=1000000):IntKind.i64.wrap x=x:=by
 simp [IntKind.wrap,IntKind.signed,IntKind.bits];omega
theorem fits8_any {ok:Nat->Prop} (t:TRv) {aa:Option Addr} {na ca:Nat} (a:Sk.Vr) (w:World) (hG:GlobK w) (hl:HVars ok w (.slice aa na ca) [a]) :
  Calls Tryz.prog 133 #[.agg #[.int .i64 8,.int .i64 t.k,.int .i64 t.out,.int .i64 t.n,.slice t.aA t.nA t.cA,.slice t.aE t.nE t.cE,.int .u8 t.o.elem,.int .i64 t.o.n,.slice aa na ca]] w fun e w'=>e=.returned (.bool (Sk.arrOf t.o a))/\Below w.heap.size w w':=by
 have HLL:=zE hl;obtain ⟨ao,cap,hv,hq1,hq2,hat0⟩:=hl.at;injection hv with v1 v2 v3;subst v1 v2 v3;obtain ⟨bl,ol,rfl,yl,x0,y0⟩:=hat0 0 (by simp);simp at x0 y0;unfold maxLen at hq2;obtain ⟨na,hna⟩:=nmQ ([a].length);have hn0:na=1:=(by rw [hna];rfl);rw [<-hna] at hq1 ⊢;clear hna hat0 hl;subst hn0;have b1:Below w.heap.size w (w.alloc (.cells #[.int .i64 8,.int .i64 t.k,.int .i64 t.out,.int .i64 t.n,.slice t.aA t.nA t.cA,.slice t.aE t.nE t.cE,.int .u8 t.o.elem,.int .i64 t.o.n,.slice (some ⟨bl,ol,none⟩) 1 ca] 149 (0,0))):=(Below.refl _ _).alloc zM _;have kA:=zI w (.cells #[.int .i64 8,.int .i64 t.k,.int .i64 t.out,.int .i64 t.n,.slice t.aA t.nA t.cA,.slice t.aE t.nE t.cE,.int .u8 t.o.elem,.int .i64 t.o.n,.slice (some ⟨bl,ol,none⟩) 1 ca] 149 (0,0));have HG1:=zE (hG.under b1);have HL1:=zE (HLL.out.under b1);have x0q:=(b1.cell (p:=⟨bl,ol,none⟩) yl).trans x0;have y0q:=(b1.cell (p:=⟨bl,ol+1,none⟩) yl).trans y0;have ylq:=Nat.lt_of_lt_of_le yl b1.size;clear x0 y0;obtain ⟨R,hR⟩:=nmQ ((Sk.arrOf t.o a));rw [<-hR];have hc1:∀ V,Calls Tryz.prog 148 #[vv t.o,vv a] V fun e w'=>e=.returned (.bool (Sk.arrOf t.o a))/\Below V.heap.size V w':=xG t.o a;obtain ⟨q1,hq1⟩:=nmQ (Sk.arrOf t.o a);rw [<-hq1] at hR hc1;have HQ1:=zE hq1;have HR:=zE hR;clear hR hG hq1 HLL;go_enter Tryz.func133,Tryz.ntmps133;go_upto_region 16 with fail;generalize w.alloc (.cells #[.int .i64 8,.int .i64 t.k,.int .i64 t.out,.int .i64 t.n,.slice t.aA t.nA t.cA,.slice t.aE t.nE t.cE,.int .u8 t.o.elem,.int .i64 t.o.n,.slice (some ⟨bl,ol,none⟩) 1 ca] 149 (0,0))=w1 at b1 kA HG1 HL1 ylq x0q y0q ⊢;have u0:=coQ kA 0;have u1:=coQ kA 1;have u2:=coQ kA 2;have u3:=coQ kA 3;have u4:=coQ kA 4;have u5:=coQ kA 5;have u6:=coQ kA 6;have u7:=coQ kA 7;have u8:=coQ kA 8;simp at u0 u1 u2 u3 u4 u5 u6 u7 u8;have yA:=zG kA;refine zK (fun w'=>Below w1.heap.size w1 w') (fun _=>false) (by kernel_rfl) ?_;have hH0:Below w1.heap.size w1 w1.drew:=(Below.refl _ _).drew;generalize w1.drew=wd0 at hH0 ⊢;refine' tkR 0 102 hH0 ?o1
 refine' tkQ 1 103 hH0 ?hyv ?o2
 case hyv=>
  intro wz hSw;have zc0:=(hSw.cell (p:=⟨w.heap.size,0,none⟩) yA).trans u0;have zc1:=(hSw.cell (p:=⟨w.heap.size,1,none⟩) yA).trans u1;have zc2:=(hSw.cell (p:=⟨w.heap.size,2,none⟩) yA).trans u2;have zc3:=(hSw.cell (p:=⟨w.heap.size,3,none⟩) yA).trans u3;have zc4:=(hSw.cell (p:=⟨w.heap.size,4,none⟩) yA).trans u4;have zc5:=(hSw.cell (p:=⟨w.heap.size,5,none⟩) yA).trans u5;have zc6:=(hSw.cell (p:=⟨w.heap.size,6,none⟩) yA).trans u6;have zc7:=(hSw.cell (p:=⟨w.heap.size,7,none⟩) yA).trans u7;have zc8:=(hSw.cell (p:=⟨w.heap.size,8,none⟩) yA).trans u8;have zc9:=(hSw.cell (p:=⟨bl,ol,none⟩) ylq).trans x0q;have zc10:=(hSw.cell (p:=⟨bl,ol+1,none⟩) ylq).trans y0q;go_simp
  try rfl
 try simp only [Act.put,sT,sZ,sS]
 refine' tkR 2 104 hH0 ?o3
 refine' tkQ 3 105 hH0 ?hyv ?o4
 case hyv=>
  intro wz hSw;have zc0:=(hSw.cell (p:=⟨w.heap.size,0,none⟩) yA).trans u0;have zc1:=(hSw.cell (p:=⟨w.heap.size,1,none⟩) yA).trans u1;have zc2:=(hSw.cell (p:=⟨w.heap.size,2,none⟩) yA).trans u2;have zc3:=(hSw.cell (p:=⟨w.heap.size,3,none⟩) yA).trans u3;have zc4:=(hSw.cell (p:=⟨w.heap.size,4,none⟩) yA).trans u4;have zc5:=(hSw.cell (p:=⟨w.heap.size,5,none⟩) yA).trans u5;have zc6:=(hSw.cell (p:=⟨w.heap.size,6,none⟩) yA).trans u6;have zc7:=(hSw.cell (p:=⟨w.heap.size,7,none⟩) yA).trans u7;have zc8:=(hSw.cell (p:=⟨w.heap.size,8,none⟩) yA).trans u8;have zc9:=(hSw.cell (p:=⟨bl,ol,none⟩) ylq).trans x0q;have zc10:=(hSw.cell (p:=⟨bl,ol+1,none⟩) ylq).trans y0q;go_simp
  try rfl
 try simp only [Act.put,sT,sZ,sS]
 refine' tkR 4 106 hH0 ?o5
 refine' tkQ 5 107 hH0 ?hyv ?o6
 case hyv=>
  intro wz hSw;have zc0:=(hSw.cell (p:=⟨w.heap.size,0,none⟩) yA).trans u0;have zc1:=(hSw.cell (p:=⟨w.heap.size,1,none⟩) yA).trans u1;have zc2:=(hSw.cell (p:=⟨w.heap.size,2,none⟩) yA).trans u2;have zc3:=(hSw.cell (p:=⟨w.heap.size,3,none⟩) yA).trans u3;have zc4:=(hSw.cell (p:=⟨w.heap.size,4,none⟩) yA).trans u4;have zc5:=(hSw.cell (p:=⟨w.heap.size,5,none⟩) yA).trans u5;have zc6:=(hSw.cell (p:=⟨w.heap.size,6,none⟩) yA).trans u6;have zc7:=(hSw.cell (p:=⟨w.heap.size,7,none⟩) yA).trans u7;have zc8:=(hSw.cell (p:=⟨w.heap.size,8,none⟩) yA).trans u8;have zc9:=(hSw.cell (p:=⟨bl,ol,none⟩) ylq).trans x0q;have zc10:=(hSw.cell (p:=⟨bl,ol+1,none⟩) ylq).trans y0q;go_simp
  try rfl
 try simp only [Act.put,sT,sZ,sS]
 refine tnQ 6 (fun K hK=>?_);go_simp;refine (hc1 wd0).mono ?_;rintro eq wd1 ⟨rfl,bq1⟩;have hH1:Below w1.heap.size w1 wd1:=hH0.trans (bq1.mono hH0.size);refine hK.out _ _ (fun _=>hH1) ?_;clear hK K
 try simp only [Act.put,sT,sZ,sS]
 refine' tkR 7 2 hH1 ?o7
 refine zH (by kernel_rfl) ?_ _;go_wp2;go_ret;refine ⟨?_,b1.trans (hH1.mono b1.size)⟩;rw [HR.out]
 first | rfl | simp
theorem fits11_any {ok:Nat->Prop} (t:TRv) {aa:Option Addr} {na ca:Nat} (a:Sk.Vr) (w:World) (hG:GlobK w) (hl:HVars ok w (.slice aa na ca) [a]) (ha0:0<=a.n) (ha1:a.n<=300) (ho0:0<=t.o.n) (ho1:t.o.n<=300) :
  Calls Tryz.prog 133 #[.agg #[.int .i64 11,.int .i64 t.k,.int .i64 t.out,.int .i64 t.n,.slice t.aA t.nA t.cA,.slice t.aE t.nE t.cE,.int .u8 t.o.elem,.int .i64 t.o.n,.slice aa na ca]] w fun e w'=>e=.returned (.bool (((Sk.arr a&&Sk.arrOf t.o (Sk.sc a.elem))&&decide (0<=t.n))&&decide (t.n<=a.n-t.o.n)))/\Below w.heap.size w w':=by
 have HLL:=zE hl;obtain ⟨ao,cap,hv,hq1,hq2,hat0⟩:=hl.at;injection hv with v1 v2 v3;subst v1 v2 v3;obtain ⟨bl,ol,rfl,yl,x0,y0⟩:=hat0 0 (by simp);simp at x0 y0;unfold maxLen at hq2;obtain ⟨na,hna⟩:=nmQ ([a].length);have hn0:na=1:=(by rw [hna];rfl);rw [<-hna] at hq1 ⊢;clear hna hat0 hl;subst hn0;have b1:Below w.heap.size w (w.alloc (.cells #[.int .i64 11,.int .i64 t.k,.int .i64 t.out,.int .i64 t.n,.slice t.aA t.nA t.cA,.slice t.aE t.nE t.cE,.int .u8 t.o.elem,.int .i64 t.o.n,.slice (some ⟨bl,ol,none⟩) 1 ca] 149 (0,0))):=(Below.refl _ _).alloc zM _;have kA:=zI w (.cells #[.int .i64 11,.int .i64 t.k,.int .i64 t.out,.int .i64 t.n,.slice t.aA t.nA t.cA,.slice t.aE t.nE t.cE,.int .u8 t.o.elem,.int .i64 t.o.n,.slice (some ⟨bl,ol,none⟩) 1 ca] 149 (0,0));have HG1:=zE (hG.under b1);have HL1:=zE (HLL.out.under b1);have x0q:=(b1.cell (p:=⟨bl,ol,none⟩) yl).trans x0;have y0q:=(b1.cell (p:=⟨bl,ol+1,none⟩) yl).trans y0;have ylq:=Nat.lt_of_lt_of_le yl b1.size;clear x0 y0;obtain ⟨R,hR⟩:=nmQ ((((Sk.arr a&&Sk.arrOf t.o (Sk.sc a.elem))&&decide (0<=t.n))&&decide (t.n<=a.n-t.o.n)));rw [<-hR];have hc1:∀ V,Calls Tryz.prog 150 #[vv a] V fun e w'=>e=.returned (.bool (Sk.arr a))/\Below V.heap.size V w':=xN a;have hc2:∀ V,Calls Tryz.prog 148 #[vv t.o,vv (Sk.sc a.elem)] V fun e w'=>e=.returned (.bool (Sk.arrOf t.o (Sk.sc a.elem)))/\Below V.heap.size V w':=xG t.o (Sk.sc a.elem);obtain ⟨q1,hq1⟩:=nmQ (Sk.arr a);rw [<-hq1] at hR hc1;have HQ1:=zE hq1;obtain ⟨q2,hq2⟩:=nmQ (Sk.arrOf t.o (Sk.sc a.elem));rw [<-hq2] at hR hc2;have HQ2:=zE hq2;obtain ⟨q3,hq3⟩:=nmQ (decide (0<=t.n));rw [<-hq3] at hR;have HQ3:=zE hq3;obtain ⟨q4,hq4⟩:=nmQ (decide (t.n<=a.n-t.o.n));rw [<-hq4] at hR;have HQ4:=zE hq4;have HR:=zE hR;clear hR hG hq1 hq2 hq3 hq4 HLL;go_enter Tryz.func133,Tryz.ntmps133;go_upto_region 22 with fail;generalize w.alloc (.cells #[.int .i64 11,.int .i64 t.k,.int .i64 t.out,.int .i64 t.n,.slice t.aA t.nA t.cA,.slice t.aE t.nE t.cE,.int .u8 t.o.elem,.int .i64 t.o.n,.slice (some ⟨bl,ol,none⟩) 1 ca] 149 (0,0))=w1 at b1 kA HG1 HL1 ylq x0q y0q ⊢;have u0:=coQ kA 0;have u1:=coQ kA 1;have u2:=coQ kA 2;have u3:=coQ kA 3;have u4:=coQ kA 4;have u5:=coQ kA 5;have u6:=coQ kA 6;have u7:=coQ kA 7;have u8:=coQ kA 8;simp at u0 u1 u2 u3 u4 u5 u6 u7 u8;have yA:=zG kA;refine zK (fun w'=>Below w1.heap.size w1 w') (fun _=>false) (by kernel_rfl) ?_;have hH0:Below w1.heap.size w1 w1.drew:=(Below.refl _ _).drew;generalize w1.drew=wd0 at hH0 ⊢;refine' tkR 0 137 hH0 ?o8
 refine' tkQ 1 138 hH0 ?hyv ?o9
 case hyv=>
  intro wz hSw;have zc0:=(hSw.cell (p:=⟨w.heap.size,0,none⟩) yA).trans u0;have zc1:=(hSw.cell (p:=⟨w.heap.size,1,none⟩) yA).trans u1;have zc2:=(hSw.cell (p:=⟨w.heap.size,2,none⟩) yA).trans u2;have zc3:=(hSw.cell (p:=⟨w.heap.size,3,none⟩) yA).trans u3;have zc4:=(hSw.cell (p:=⟨w.heap.size,4,none⟩) yA).trans u4;have zc5:=(hSw.cell (p:=⟨w.heap.size,5,none⟩) yA).trans u5;have zc6:=(hSw.cell (p:=⟨w.heap.size,6,none⟩) yA).trans u6;have zc7:=(hSw.cell (p:=⟨w.heap.size,7,none⟩) yA).trans u7;have zc8:=(hSw.cell (p:=⟨w.heap.size,8,none⟩) yA).trans u8;have zc9:=(hSw.cell (p:=⟨bl,ol,none⟩) ylq).trans x0q;have zc10:=(hSw.cell (p:=⟨bl,ol+1,none⟩) ylq).trans y0q;go_simp
  try rfl
 try simp only [Act.put,sT,sZ,sS]
 refine' tkR 2 139 hH0 ?o10
 refine' tkQ 3 140 hH0 ?hyv ?o11
 case hyv=>
  intro wz hSw;have zc0:=(hSw.cell (p:=⟨w.heap.size,0,none⟩) yA).trans u0;have zc1:=(hSw.cell (p:=⟨w.heap.size,1,none⟩) yA).trans u1;have zc2:=(hSw.cell (p:=⟨w.heap.size,2,none⟩) yA).trans u2;have zc3:=(hSw.cell (p:=⟨w.heap.size,3,none⟩) yA).trans u3;have zc4:=(hSw.cell (p:=⟨w.heap.size,4,none⟩) yA).trans u4;have zc5:=(hSw.cell (p:=⟨w.heap.size,5,none⟩) yA).trans u5;have zc6:=(hSw.cell (p:=⟨w.heap.size,6,none⟩) yA).trans u6;have zc7:=(hSw.cell (p:=⟨w.heap.size,7,none⟩) yA).trans u7;have zc8:=(hSw.cell (p:=⟨w.heap.size,8,none⟩) yA).trans u8;have zc9:=(hSw.cell (p:=⟨bl,ol,none⟩) ylq).trans x0q;have zc10:=(hSw.cell (p:=⟨bl,ol+1,none⟩) ylq).trans y0q;go_simp
  try rfl
 try simp only [Act.put,sT,sZ,sS]
 refine tnQ 4 (fun K hK=>?_);go_simp;refine (hc1 wd0).mono ?_;rintro eq wd1 ⟨rfl,bq1⟩;have hH1:Below w1.heap.size w1 wd1:=hH0.trans (bq1.mono hH0.size);refine hK.out _ _ (fun _=>hH1) ?_;clear hK K
 try simp only [Act.put,sT,sZ,sS]
 refine' tkR 5 142 hH1 ?o12
 cases q1
 case false=>
  refine zD (i:=6) (oi:=⟨some 143,_,_,_,_,_⟩) rfl (by kernel_rfl) (by kernel_rfl) (by kernel_rfl) (by kernel_rfl) (fun _ _ _ h=>h) hH1 (by rfl) ?_
  try simp only [Act.put,sT,sZ,sS]
  refine zD (i:=7) (oi:=⟨some 144,_,_,_,_,_⟩) rfl (by kernel_rfl) (by kernel_rfl) (by kernel_rfl) (by kernel_rfl) (fun _ _ _ h=>h) hH1 (by rfl) ?_
  try simp only [Act.put,sT,sZ,sS]
  refine zD (i:=8) (oi:=⟨some 145,_,_,_,_,_⟩) rfl (by kernel_rfl) (by kernel_rfl) (by kernel_rfl) (by kernel_rfl) (fun _ _ _ h=>h) hH1 (by rfl) ?_
  try simp only [Act.put,sT,sZ,sS]
  refine zD (i:=9) (oi:=⟨some 146,_,_,_,_,_⟩) rfl (by kernel_rfl) (by kernel_rfl) (by kernel_rfl) (by kernel_rfl) (fun _ _ _ h=>h) hH1 (by rfl) ?_
  try simp only [Act.put,sT,sZ,sS]
  refine zD (i:=10) (oi:=⟨some 147,_,_,_,_,_⟩) rfl (by kernel_rfl) (by kernel_rfl) (by kernel_rfl) (by kernel_rfl) (fun _ _ _ h=>h) hH1 (by rfl) ?_
  try simp only [Act.put,sT,sZ,sS]
  refine zD (i:=11) (oi:=⟨some 148,_,_,_,_,_⟩) rfl (by kernel_rfl) (by kernel_rfl) (by kernel_rfl) (by kernel_rfl) (fun _ _ _ h=>h) hH1 (by rfl) ?_
  try simp only [Act.put,sT,sZ,sS]
  refine zD (i:=12) (oi:=⟨some 149,_,_,_,_,_⟩) rfl (by kernel_rfl) (by kernel_rfl) (by kernel_rfl) (by kernel_rfl) (fun _ _ _ h=>h) hH1 (by rfl) ?_
  try simp only [Act.put,sT,sZ,sS]
  refine zD (i:=13) (oi:=⟨some 150,_,_,_,_,_⟩) rfl (by kernel_rfl) (by kernel_rfl) (by kernel_rfl) (by kernel_rfl) (fun _ _ _ h=>h) hH1 (by rfl) ?_
  try simp only [Act.put,sT,sZ,sS]
  refine' tkR 14 151 hH1 ?o13
  refine' tkR 15 152 hH1 ?o14
  refine zD (i:=16) (oi:=⟨some 153,_,_,_,_,_⟩) rfl (by kernel_rfl) (by kernel_rfl) (by kernel_rfl) (by kernel_rfl) (fun _ _ _ h=>h) hH1 (by rfl) ?_
  try simp only [Act.put,sT,sZ,sS]
  refine zD (i:=17) (oi:=⟨some 154,_,_,_,_,_⟩) rfl (by kernel_rfl) (by kernel_rfl) (by kernel_rfl) (by kernel_rfl) (fun _ _ _ h=>h) hH1 (by rfl) ?_
  try simp only [Act.put,sT,sZ,sS]
  refine zD (i:=18) (oi:=⟨some 155,_,_,_,_,_⟩) rfl (by kernel_rfl) (by kernel_rfl) (by kernel_rfl) (by kernel_rfl) (fun _ _ _ h=>h) hH1 (by rfl) ?_
  try simp only [Act.put,sT,sZ,sS]
  refine zD (i:=19) (oi:=⟨some 156,_,_,_,_,_⟩) rfl (by kernel_rfl) (by kernel_rfl) (by kernel_rfl) (by kernel_rfl) (fun _ _ _ h=>h) hH1 (by rfl) ?_
  try simp only [Act.put,sT,sZ,sS]
  refine' tkR 20 157 hH1 ?o15
  refine' tkR 21 158 hH1 ?o16
  refine zD (i:=22) (oi:=⟨some 159,_,_,_,_,_⟩) rfl (by kernel_rfl) (by kernel_rfl) (by kernel_rfl) (by kernel_rfl) (fun _ _ _ h=>h) hH1 (by rfl) ?_
  try simp only [Act.put,sT,sZ,sS]
  refine zD (i:=23) (oi:=⟨some 160,_,_,_,_,_⟩) rfl (by kernel_rfl) (by kernel_rfl) (by kernel_rfl) (by kernel_rfl) (fun _ _ _ h=>h) hH1 (by rfl) ?_
  try simp only [Act.put,sT,sZ,sS]
  refine zD (i:=24) (oi:=⟨some 161,_,_,_,_,_⟩) rfl (by kernel_rfl) (by kernel_rfl) (by kernel_rfl) (by kernel_rfl) (fun _ _ _ h=>h) hH1 (by rfl) ?_
  try simp only [Act.put,sT,sZ,sS]
  refine zD (i:=25) (oi:=⟨some 162,_,_,_,_,_⟩) rfl (by kernel_rfl) (by kernel_rfl) (by kernel_rfl) (by kernel_rfl) (fun _ _ _ h=>h) hH1 (by rfl) ?_
  try simp only [Act.put,sT,sZ,sS]
  refine zD (i:=26) (oi:=⟨some 163,_,_,_,_,_⟩) rfl (by kernel_rfl) (by kernel_rfl) (by kernel_rfl) (by kernel_rfl) (fun _ _ _ h=>h) hH1 (by rfl) ?_
  try simp only [Act.put,sT,sZ,sS]
  refine zD (i:=27) (oi:=⟨some 164,_,_,_,_,_⟩) rfl (by kernel_rfl) (by kernel_rfl) (by kernel_rfl) (by kernel_rfl) (fun _ _ _ h=>h) hH1 (by rfl) ?_
  try simp only [Act.put,sT,sZ,sS]
  refine zD (i:=28) (oi:=⟨some 165,_,_,_,_,_⟩) rfl (by kernel_rfl) (by kernel_rfl) (by kernel_rfl) (by kernel_rfl) (fun _ _ _ h=>h) hH1 (by rfl) ?_
  try simp only [Act.put,sT,sZ,sS]
  refine zD (i:=29) (oi:=⟨some 166,_,_,_,_,_⟩) rfl (by kernel_rfl) (by kernel_rfl) (by kernel_rfl) (by kernel_rfl) (fun _ _ _ h=>h) hH1 (by rfl) ?_
  try simp only [Act.put,sT,sZ,sS]
  refine zD (i:=30) (oi:=⟨some 167,_,_,_,_,_⟩) rfl (by kernel_rfl) (by kernel_rfl) (by kernel_rfl) (by kernel_rfl) (fun _ _ _ h=>h) hH1 (by rfl) ?_
  try simp only [Act.put,sT,sZ,sS]
  refine zD (i:=31) (oi:=⟨some 168,_,_,_,_,_⟩) rfl (by kernel_rfl) (by kernel_rfl) (by kernel_rfl) (by kernel_rfl) (fun _ _ _ h=>h) hH1 (by rfl) ?_
  try simp only [Act.put,sT,sZ,sS]
  refine zD (i:=32) (oi:=⟨some 169,_,_,_,_,_⟩) rfl (by kernel_rfl) (by kernel_rfl) (by kernel_rfl) (by kernel_rfl) (fun _ _ _ h=>h) hH1 (by rfl) ?_
  try simp only [Act.put,sT,sZ,sS]
  refine zD (i:=33) (oi:=⟨some 170,_,_,_,_,_⟩) rfl (by kernel_rfl) (by kernel_rfl) (by kernel_rfl) (by kernel_rfl) (fun _ _ _ h=>h) hH1 (by rfl) ?_
  try simp only [Act.put,sT,sZ,sS]
  refine zD (i:=34) (oi:=⟨some 171,_,_,_,_,_⟩) rfl (by kernel_rfl) (by kernel_rfl) (by kernel_rfl) (by kernel_rfl) (fun _ _ _ h=>h) hH1 (by rfl) ?_
  try simp only [Act.put,sT,sZ,sS]
  refine' tkR 35 172 hH1 ?o17
  refine' tkR 36 2 hH1 ?o18
  refine zH (by kernel_rfl) ?_ _;go_wp2;go_ret;refine ⟨?_,b1.trans (hH1.mono b1.size)⟩;rw [HR.out]
  first | rfl | simp
 case true=>
  refine' tkR 6 143 hH1 ?o19
  refine' tkQ 7 144 hH1 ?hyv ?o20
  case hyv=>
   intro wz hSw;have zc0:=(hSw.cell (p:=⟨w.heap.size,0,none⟩) yA).trans u0;have zc1:=(hSw.cell (p:=⟨w.heap.size,1,none⟩) yA).trans u1;have zc2:=(hSw.cell (p:=⟨w.heap.size,2,none⟩) yA).trans u2;have zc3:=(hSw.cell (p:=⟨w.heap.size,3,none⟩) yA).trans u3;have zc4:=(hSw.cell (p:=⟨w.heap.size,4,none⟩) yA).trans u4;have zc5:=(hSw.cell (p:=⟨w.heap.size,5,none⟩) yA).trans u5;have zc6:=(hSw.cell (p:=⟨w.heap.size,6,none⟩) yA).trans u6;have zc7:=(hSw.cell (p:=⟨w.heap.size,7,none⟩) yA).trans u7;have zc8:=(hSw.cell (p:=⟨w.heap.size,8,none⟩) yA).trans u8;have zc9:=(hSw.cell (p:=⟨bl,ol,none⟩) ylq).trans x0q;have zc10:=(hSw.cell (p:=⟨bl,ol+1,none⟩) ylq).trans y0q;go_simp
   try rfl
  try simp only [Act.put,sT,sZ,sS]
  refine' tkR 8 145 hH1 ?o21
  refine' tkQ 9 146 hH1 ?hyv ?o22
  case hyv=>
   intro wz hSw;have zc0:=(hSw.cell (p:=⟨w.heap.size,0,none⟩) yA).trans u0;have zc1:=(hSw.cell (p:=⟨w.heap.size,1,none⟩) yA).trans u1;have zc2:=(hSw.cell (p:=⟨w.heap.size,2,none⟩) yA).trans u2;have zc3:=(hSw.cell (p:=⟨w.heap.size,3,none⟩) yA).trans u3;have zc4:=(hSw.cell (p:=⟨w.heap.size,4,none⟩) yA).trans u4;have zc5:=(hSw.cell (p:=⟨w.heap.size,5,none⟩) yA).trans u5;have zc6:=(hSw.cell (p:=⟨w.heap.size,6,none⟩) yA).trans u6;have zc7:=(hSw.cell (p:=⟨w.heap.size,7,none⟩) yA).trans u7;have zc8:=(hSw.cell (p:=⟨w.heap.size,8,none⟩) yA).trans u8;have zc9:=(hSw.cell (p:=⟨bl,ol,none⟩) ylq).trans x0q;have zc10:=(hSw.cell (p:=⟨bl,ol+1,none⟩) ylq).trans y0q;go_simp
   try rfl
  try simp only [Act.put,sT,sZ,sS]
  refine' tkR 10 147 hH1 ?o23
  refine' tkQ 11 148 hH1 ?hyv ?o24
  case hyv=>
   intro wz hSw;have zc0:=(hSw.cell (p:=⟨w.heap.size,0,none⟩) yA).trans u0;have zc1:=(hSw.cell (p:=⟨w.heap.size,1,none⟩) yA).trans u1;have zc2:=(hSw.cell (p:=⟨w.heap.size,2,none⟩) yA).trans u2;have zc3:=(hSw.cell (p:=⟨w.heap.size,3,none⟩) yA).trans u3;have zc4:=(hSw.cell (p:=⟨w.heap.size,4,none⟩) yA).trans u4;have zc5:=(hSw.cell (p:=⟨w.heap.size,5,none⟩) yA).trans u5;have zc6:=(hSw.cell (p:=⟨w.heap.size,6,none⟩) yA).trans u6;have zc7:=(hSw.cell (p:=⟨w.heap.size,7,none⟩) yA).trans u7;have zc8:=(hSw.cell (p:=⟨w.heap.size,8,none⟩) yA).trans u8;have zc9:=(hSw.cell (p:=⟨bl,ol,none⟩) ylq).trans x0q;have zc10:=(hSw.cell (p:=⟨bl,ol+1,none⟩) ylq).trans y0q;go_simp
   try rfl
  try simp only [Act.put,sT,sZ,sS]
  refine tnQ 12 (fun K hK=>?_);go_simp;refine (qW a wd1).mono ?_;rintro eq wd2 ⟨rfl,bq2⟩;have hH2:Below w1.heap.size w1 wd2:=hH1.trans (bq2.mono hH1.size);refine hK.out _ _ (fun _=>hH2) ?_;clear hK K
  try simp only [Act.put,sT,sZ,sS]
  refine tnQ 13 (fun K hK=>?_);go_simp;refine (hc2 wd2).mono ?_;rintro eq wd3 ⟨rfl,bq3⟩;have hH3:Below w1.heap.size w1 wd3:=hH2.trans (bq3.mono hH2.size);refine hK.out _ _ (fun _=>hH3) ?_;clear hK K
  try simp only [Act.put,sT,sZ,sS]
  refine' tkR 14 151 hH3 ?o25
  refine' tkR 15 152 hH3 ?o26
  cases q2
  case false=>
   refine zD (i:=16) (oi:=⟨some 153,_,_,_,_,_⟩) rfl (by kernel_rfl) (by kernel_rfl) (by kernel_rfl) (by kernel_rfl) (fun _ _ _ h=>h) hH3 (by rfl) ?_
   try simp only [Act.put,sT,sZ,sS]
   refine zD (i:=17) (oi:=⟨some 154,_,_,_,_,_⟩) rfl (by kernel_rfl) (by kernel_rfl) (by kernel_rfl) (by kernel_rfl) (fun _ _ _ h=>h) hH3 (by rfl) ?_
   try simp only [Act.put,sT,sZ,sS]
   refine zD (i:=18) (oi:=⟨some 155,_,_,_,_,_⟩) rfl (by kernel_rfl) (by kernel_rfl) (by kernel_rfl) (by kernel_rfl) (fun _ _ _ h=>h) hH3 (by rfl) ?_
   try simp only [Act.put,sT,sZ,sS]
   refine zD (i:=19) (oi:=⟨some 156,_,_,_,_,_⟩) rfl (by kernel_rfl) (by kernel_rfl) (by kernel_rfl) (by kernel_rfl) (fun _ _ _ h=>h) hH3 (by rfl) ?_
   try simp only [Act.put,sT,sZ,sS]
   refine' tkR 20 157 hH3 ?o27
   refine' tkR 21 158 hH3 ?o28
   refine zD (i:=22) (oi:=⟨some 159,_,_,_,_,_⟩) rfl (by kernel_rfl) (by kernel_rfl) (by kernel_rfl) (by kernel_rfl) (fun _ _ _ h=>h) hH3 (by rfl) ?_
   try simp only [Act.put,sT,sZ,sS]
   refine zD (i:=23) (oi:=⟨some 160,_,_,_,_,_⟩) rfl (by kernel_rfl) (by kernel_rfl) (by kernel_rfl) (by kernel_rfl) (fun _ _ _ h=>h) hH3 (by rfl) ?_
   try simp only [Act.put,sT,sZ,sS]
   refine zD (i:=24) (oi:=⟨some 161,_,_,_,_,_⟩) rfl (by kernel_rfl) (by kernel_rfl) (by kernel_rfl) (by kernel_rfl) (fun _ _ _ h=>h) hH3 (by rfl) ?_
   try simp only [Act.put,sT,sZ,sS]
   refine zD (i:=25) (oi:=⟨some 162,_,_,_,_,_⟩) rfl (by kernel_rfl) (by kernel_rfl) (by kernel_rfl) (by kernel_rfl) (fun _ _ _ h=>h) hH3 (by rfl) ?_
   try simp only [Act.put,sT,sZ,sS]
   refine zD (i:=26) (oi:=⟨some 163,_,_,_,_,_⟩) rfl (by kernel_rfl) (by kernel_rfl) (by kernel_rfl) (by kernel_rfl) (fun _ _ _ h=>h) hH3 (by rfl) ?_
   try simp only [Act.put,sT,sZ,sS]
   refine zD (i:=27) (oi:=⟨some 164,_,_,_,_,_⟩) rfl (by kernel_rfl) (by kernel_rfl) (by kernel_rfl) (by kernel_rfl) (fun _ _ _ h=>h) hH3 (by rfl) ?_
   try simp only [Act.put,sT,sZ,sS]
   refine zD (i:=28) (oi:=⟨some 165,_,_,_,_,_⟩) rfl (by kernel_rfl) (by kernel_rfl) (by kernel_rfl) (by kernel_rfl) (fun _ _ _ h=>h) hH3 (by rfl) ?_
   try simp only [Act.put,sT,sZ,sS]
   refine zD (i:=29) (oi:=⟨some 166,_,_,_,_,_⟩) rfl (by kernel_rfl) (by kernel_rfl) (by kernel_rfl) (by kernel_rfl) (fun _ _ _ h=>h) hH3 (by rfl) ?_
   try simp only [Act.put,sT,sZ,sS]
   refine zD (i:=30) (oi:=⟨some 167,_,_,_,_,_⟩) rfl (by kernel_rfl) (by kernel_rfl) (by kernel_rfl) (by kernel_rfl) (fun _ _ _ h=>h) hH3 (by rfl) ?_
   try simp only [Act.put,sT,sZ,sS]
   refine zD (i:=31) (oi:=⟨some 168,_,_,_,_,_⟩) rfl (by kernel_rfl) (by kernel_rfl) (by kernel_rfl) (by kernel_rfl) (fun _ _ _ h=>h) hH3 (by rfl) ?_
   try simp only [Act.put,sT,sZ,sS]
   refine zD (i:=32) (oi:=⟨some 169,_,_,_,_,_⟩) rfl (by kernel_rfl) (by kernel_rfl) (by kernel_rfl) (by kernel_rfl) (fun _ _ _ h=>h) hH3 (by rfl) ?_
   try simp only [Act.put,sT,sZ,sS]
   refine zD (i:=33) (oi:=⟨some 170,_,_,_,_,_⟩) rfl (by kernel_rfl) (by kernel_rfl) (by kernel_rfl) (by kernel_rfl) (fun _ _ _ h=>h) hH3 (by rfl) ?_
   try simp only [Act.put,sT,sZ,sS]
   refine zD (i:=34) (oi:=⟨some 171,_,_,_,_,_⟩) rfl (by kernel_rfl) (by kernel_rfl) (by kernel_rfl) (by kernel_rfl) (fun _ _ _ h=>h) hH3 (by rfl) ?_
   try simp only [Act.put,sT,sZ,sS]
   refine' tkR 35 172 hH3 ?o29
   refine' tkR 36 2 hH3 ?o30
   refine zH (by kernel_rfl) ?_ _;go_wp2;go_ret;refine ⟨?_,b1.trans (hH3.mono b1.size)⟩;rw [HR.out]
   first | rfl | simp
  case true=>
   refine' tkR 16 153 hH3 ?o31
   refine' tkR 17 154 hH3 ?o32
   refine' tkQ 18 155 hH3 ?hyv ?o33
   case hyv=>
    intro wz hSw;have zc0:=(hSw.cell (p:=⟨w.heap.size,0,none⟩) yA).trans u0;have zc1:=(hSw.cell (p:=⟨w.heap.size,1,none⟩) yA).trans u1;have zc2:=(hSw.cell (p:=⟨w.heap.size,2,none⟩) yA).trans u2;have zc3:=(hSw.cell (p:=⟨w.heap.size,3,none⟩) yA).trans u3;have zc4:=(hSw.cell (p:=⟨w.heap.size,4,none⟩) yA).trans u4;have zc5:=(hSw.cell (p:=⟨w.heap.size,5,none⟩) yA).trans u5;have zc6:=(hSw.cell (p:=⟨w.heap.size,6,none⟩) yA).trans u6;have zc7:=(hSw.cell (p:=⟨w.heap.size,7,none⟩) yA).trans u7;have zc8:=(hSw.cell (p:=⟨w.heap.size,8,none⟩) yA).trans u8;have zc9:=(hSw.cell (p:=⟨bl,ol,none⟩) ylq).trans x0q;have zc10:=(hSw.cell (p:=⟨bl,ol+1,none⟩) ylq).trans y0q;go_simp
    try rfl
   try simp only [Act.put,sT,sZ,sS]
   refine' zO (i:=19) (oi:=⟨some 156,_,_,_,_,_⟩) (v:=.bool q3) rfl (by kernel_rfl) (by kernel_rfl) (by kernel_rfl) (by kernel_rfl) (fun _ _ _ h=>h) hH3 (by rfl) ?hyv ?o34
   case hyv=>
    intro wz hSw;go_simp;rw [HQ3.out]
    try rfl
   try simp only [Act.put,sT,sZ,sS]
   refine' tkR 20 157 hH3 ?o35
   refine' tkR 21 158 hH3 ?o36
   cases q3
   case false=>
    refine zD (i:=22) (oi:=⟨some 159,_,_,_,_,_⟩) rfl (by kernel_rfl) (by kernel_rfl) (by kernel_rfl) (by kernel_rfl) (fun _ _ _ h=>h) hH3 (by rfl) ?_
    try simp only [Act.put,sT,sZ,sS]
    refine zD (i:=23) (oi:=⟨some 160,_,_,_,_,_⟩) rfl (by kernel_rfl) (by kernel_rfl) (by kernel_rfl) (by kernel_rfl) (fun _ _ _ h=>h) hH3 (by rfl) ?_
    try simp only [Act.put,sT,sZ,sS]
    refine zD (i:=24) (oi:=⟨some 161,_,_,_,_,_⟩) rfl (by kernel_rfl) (by kernel_rfl) (by kernel_rfl) (by kernel_rfl) (fun _ _ _ h=>h) hH3 (by rfl) ?_
    try simp only [Act.put,sT,sZ,sS]
    refine zD (i:=25) (oi:=⟨some 162,_,_,_,_,_⟩) rfl (by kernel_rfl) (by kernel_rfl) (by kernel_rfl) (by kernel_rfl) (fun _ _ _ h=>h) hH3 (by rfl) ?_
    try simp only [Act.put,sT,sZ,sS]
    refine zD (i:=26) (oi:=⟨some 163,_,_,_,_,_⟩) rfl (by kernel_rfl) (by kernel_rfl) (by kernel_rfl) (by kernel_rfl) (fun _ _ _ h=>h) hH3 (by rfl) ?_
    try simp only [Act.put,sT,sZ,sS]
    refine zD (i:=27) (oi:=⟨some 164,_,_,_,_,_⟩) rfl (by kernel_rfl) (by kernel_rfl) (by kernel_rfl) (by kernel_rfl) (fun _ _ _ h=>h) hH3 (by rfl) ?_
    try simp only [Act.put,sT,sZ,sS]
    refine zD (i:=28) (oi:=⟨some 165,_,_,_,_,_⟩) rfl (by kernel_rfl) (by kernel_rfl) (by kernel_rfl) (by kernel_rfl) (fun _ _ _ h=>h) hH3 (by rfl) ?_
    try simp only [Act.put,sT,sZ,sS]
    refine zD (i:=29) (oi:=⟨some 166,_,_,_,_,_⟩) rfl (by kernel_rfl) (by kernel_rfl) (by kernel_rfl) (by kernel_rfl) (fun _ _ _ h=>h) hH3 (by rfl) ?_
    try simp only [Act.put,sT,sZ,sS]
    refine zD (i:=30) (oi:=⟨some 167,_,_,_,_,_⟩) rfl (by kernel_rfl) (by kernel_rfl) (by kernel_rfl) (by kernel_rfl) (fun _ _ _ h=>h) hH3 (by rfl) ?_
    try simp only [Act.put,sT,sZ,sS]
    refine zD (i:=31) (oi:=⟨some 168,_,_,_,_,_⟩) rfl (by kernel_rfl) (by kernel_rfl) (by kernel_rfl) (by kernel_rfl) (fun _ _ _ h=>h) hH3 (by rfl) ?_
    try simp only [Act.put,sT,sZ,sS]
    refine zD (i:=32) (oi:=⟨some 169,_,_,_,_,_⟩) rfl (by kernel_rfl) (by kernel_rfl) (by kernel_rfl) (by kernel_rfl) (fun _ _ _ h=>h) hH3 (by rfl) ?_
    try simp only [Act.put,sT,sZ,sS]
    refine zD (i:=33) (oi:=⟨some 170,_,_,_,_,_⟩) rfl (by kernel_rfl) (by kernel_rfl) (by kernel_rfl) (by kernel_rfl) (fun _ _ _ h=>h) hH3 (by rfl) ?_
    try simp only [Act.put,sT,sZ,sS]
    refine zD (i:=34) (oi:=⟨some 171,_,_,_,_,_⟩) rfl (by kernel_rfl) (by kernel_rfl) (by kernel_rfl) (by kernel_rfl) (fun _ _ _ h=>h) hH3 (by rfl) ?_
    try simp only [Act.put,sT,sZ,sS]
    refine' tkR 35 172 hH3 ?o37
    refine' tkR 36 2 hH3 ?o38
    refine zH (by kernel_rfl) ?_ _;go_wp2;go_ret;refine ⟨?_,b1.trans (hH3.mono b1.size)⟩;rw [HR.out]
    first | rfl | simp
   case true=>
    refine' tkR 22 159 hH3 ?o39
    refine' tkR 23 160 hH3 ?o40
    refine' tkQ 24 161 hH3 ?hyv ?o41
    case hyv=>
     intro wz hSw;have zc0:=(hSw.cell (p:=⟨w.heap.size,0,none⟩) yA).trans u0;have zc1:=(hSw.cell (p:=⟨w.heap.size,1,none⟩) yA).trans u1;have zc2:=(hSw.cell (p:=⟨w.heap.size,2,none⟩) yA).trans u2;have zc3:=(hSw.cell (p:=⟨w.heap.size,3,none⟩) yA).trans u3;have zc4:=(hSw.cell (p:=⟨w.heap.size,4,none⟩) yA).trans u4;have zc5:=(hSw.cell (p:=⟨w.heap.size,5,none⟩) yA).trans u5;have zc6:=(hSw.cell (p:=⟨w.heap.size,6,none⟩) yA).trans u6;have zc7:=(hSw.cell (p:=⟨w.heap.size,7,none⟩) yA).trans u7;have zc8:=(hSw.cell (p:=⟨w.heap.size,8,none⟩) yA).trans u8;have zc9:=(hSw.cell (p:=⟨bl,ol,none⟩) ylq).trans x0q;have zc10:=(hSw.cell (p:=⟨bl,ol+1,none⟩) ylq).trans y0q;go_simp
     try rfl
    try simp only [Act.put,sT,sZ,sS]
    refine' tkR 25 162 hH3 ?o42
    refine' tkQ 26 163 hH3 ?hyv ?o43
    case hyv=>
     intro wz hSw;have zc0:=(hSw.cell (p:=⟨w.heap.size,0,none⟩) yA).trans u0;have zc1:=(hSw.cell (p:=⟨w.heap.size,1,none⟩) yA).trans u1;have zc2:=(hSw.cell (p:=⟨w.heap.size,2,none⟩) yA).trans u2;have zc3:=(hSw.cell (p:=⟨w.heap.size,3,none⟩) yA).trans u3;have zc4:=(hSw.cell (p:=⟨w.heap.size,4,none⟩) yA).trans u4;have zc5:=(hSw.cell (p:=⟨w.heap.size,5,none⟩) yA).trans u5;have zc6:=(hSw.cell (p:=⟨w.heap.size,6,none⟩) yA).trans u6;have zc7:=(hSw.cell (p:=⟨w.heap.size,7,none⟩) yA).trans u7;have zc8:=(hSw.cell (p:=⟨w.heap.size,8,none⟩) yA).trans u8;have zc9:=(hSw.cell (p:=⟨bl,ol,none⟩) ylq).trans x0q;have zc10:=(hSw.cell (p:=⟨bl,ol+1,none⟩) ylq).trans y0q;go_simp
     try rfl
    try simp only [Act.put,sT,sZ,sS]
    refine' tkR 27 164 hH3 ?o44
    refine' tkR 28 165 hH3 ?o45
    refine' tkQ 29 166 hH3 ?hyv ?o46
    case hyv=>
     intro wz hSw;have zc0:=(hSw.cell (p:=⟨w.heap.size,0,none⟩) yA).trans u0;have zc1:=(hSw.cell (p:=⟨w.heap.size,1,none⟩) yA).trans u1;have zc2:=(hSw.cell (p:=⟨w.heap.size,2,none⟩) yA).trans u2;have zc3:=(hSw.cell (p:=⟨w.heap.size,3,none⟩) yA).trans u3;have zc4:=(hSw.cell (p:=⟨w.heap.size,4,none⟩) yA).trans u4;have zc5:=(hSw.cell (p:=⟨w.heap.size,5,none⟩) yA).trans u5;have zc6:=(hSw.cell (p:=⟨w.heap.size,6,none⟩) yA).trans u6;have zc7:=(hSw.cell (p:=⟨w.heap.size,7,none⟩) yA).trans u7;have zc8:=(hSw.cell (p:=⟨w.heap.size,8,none⟩) yA).trans u8;have zc9:=(hSw.cell (p:=⟨bl,ol,none⟩) ylq).trans x0q;have zc10:=(hSw.cell (p:=⟨bl,ol+1,none⟩) ylq).trans y0q;go_simp
     try rfl
    try simp only [Act.put,sT,sZ,sS]
    refine' tkR 30 167 hH3 ?o47
    refine' tkR 31 168 hH3 ?o48
    refine' tkQ 32 169 hH3 ?hyv ?o49
    case hyv=>
     intro wz hSw;have zc0:=(hSw.cell (p:=⟨w.heap.size,0,none⟩) yA).trans u0;have zc1:=(hSw.cell (p:=⟨w.heap.size,1,none⟩) yA).trans u1;have zc2:=(hSw.cell (p:=⟨w.heap.size,2,none⟩) yA).trans u2;have zc3:=(hSw.cell (p:=⟨w.heap.size,3,none⟩) yA).trans u3;have zc4:=(hSw.cell (p:=⟨w.heap.size,4,none⟩) yA).trans u4;have zc5:=(hSw.cell (p:=⟨w.heap.size,5,none⟩) yA).trans u5;have zc6:=(hSw.cell (p:=⟨w.heap.size,6,none⟩) yA).trans u6;have zc7:=(hSw.cell (p:=⟨w.heap.size,7,none⟩) yA).trans u7;have zc8:=(hSw.cell (p:=⟨w.heap.size,8,none⟩) yA).trans u8;have zc9:=(hSw.cell (p:=⟨bl,ol,none⟩) ylq).trans x0q;have zc10:=(hSw.cell (p:=⟨bl,ol+1,none⟩) ylq).trans y0q;go_simp
     try rfl
    try simp only [Act.put,sT,sZ,sS]
    refine' tkR 33 170 hH3 ?o50
    refine' zO (i:=34) (oi:=⟨some 171,_,_,_,_,_⟩) (v:=.bool q4) rfl (by kernel_rfl) (by kernel_rfl) (by kernel_rfl) (by kernel_rfl) (fun _ _ _ h=>h) hH3 (by rfl) ?hyv ?o51
    case hyv=>
     intro wz hSw;go_simp;rw [HQ4.out,wrapS (x:=a.n-t.o.n) (by omega) (by omega)]
    try simp only [Act.put,sT,sZ,sS]
    refine' tkR 35 172 hH3 ?o52
    refine' tkR 36 2 hH3 ?o53
    refine zH (by kernel_rfl) ?_ _;go_wp2;go_ret;refine ⟨?_,b1.trans (hH3.mono b1.size)⟩;rw [HR.out]
    first | rfl | simp
end Go.Proofs.YtegakbobaecdlaaGreatDoor
