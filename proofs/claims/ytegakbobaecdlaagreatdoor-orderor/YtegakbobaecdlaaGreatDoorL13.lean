import Derived.Test.YtegakbobaecdlaaGreatDoorL12
import Derived.WalkKit
import Derived.WalkSpells
import Derived.IntWalk
import Derived.Deep.Cut
import Derived.Deep.LoopGhost
import Derived.Lib.Hide
set_option linter.unusedVariables false
set_option linter.unusedSimpArgs false
set_option maxHeartbeats 64000000
set_option maxRecDepth 100000
namespace Go.Proofs.YtegakbobaecdlaaGreatDoor
open Go.RowKit Go.IntWalk
theorem fits12_any {ok:Nat->Prop} (t:TRv) {aa:Option Addr} {na ca:Nat} (a b:Sk.Vr) (w:World) (hG:GlobK w) (hl:HVars ok w (.slice aa na ca) [a,b]) (ha0:0<=a.n) (ha1:a.n<=300) (hb0:0<=b.n) (hb1:b.n<=300) :
  Calls Tryz.prog 133 #[.agg #[.int .i64 12,.int .i64 t.k,.int .i64 t.out,.int .i64 t.n,.slice t.aA t.nA t.cA,.slice t.aE t.nE t.cE,.int .u8 t.o.elem,.int .i64 t.o.n,.slice aa na ca]] w fun e w'=>e=.returned (.bool ((Sk.arr a&&Sk.arrOf b (Sk.sc a.elem))&&Sk.same t.o ⟨a.elem,a.n+b.n⟩))/\Below w.heap.size w w':=by
 have HLL:=zE hl;obtain ⟨ao,cap,hv,hq1,hq2,hat0⟩:=hl.at;injection hv with v1 v2 v3;subst v1 v2 v3;obtain ⟨bl,ol,rfl,yl,x0,y0⟩:=hat0 0 (by simp);obtain ⟨bl1,ol1,ee,yl1,x1,y1⟩:=hat0 1 (by simp);injection ee with ee;injection ee with e1 e2 e3;subst e1 e2;clear yl1 e3;simp at x0 y0 x1 y1;unfold maxLen at hq2;obtain ⟨na,hna⟩:=nmQ ([a,b].length);have hn0:na=2:=(by rw [hna];rfl);rw [<-hna] at hq1 ⊢;clear hna hat0 hl;subst hn0;have b1:Below w.heap.size w (w.alloc (.cells #[.int .i64 12,.int .i64 t.k,.int .i64 t.out,.int .i64 t.n,.slice t.aA t.nA t.cA,.slice t.aE t.nE t.cE,.int .u8 t.o.elem,.int .i64 t.o.n,.slice (some ⟨bl,ol,none⟩) 2 ca] 149 (0,0))):=(Below.refl _ _).alloc zM _;have kA:=zI w (.cells #[.int .i64 12,.int .i64 t.k,.int .i64 t.out,.int .i64 t.n,.slice t.aA t.nA t.cA,.slice t.aE t.nE t.cE,.int .u8 t.o.elem,.int .i64 t.o.n,.slice (some ⟨bl,ol,none⟩) 2 ca] 149 (0,0));have HG1:=zE (hG.under b1);have HL1:=zE (HLL.out.under b1);have x0q:=(b1.cell (p:=⟨bl,ol,none⟩) yl).trans x0;have y0q:=(b1.cell (p:=⟨bl,ol+1,none⟩) yl).trans y0;have x1q:=(b1.cell (p:=⟨bl,ol+2,none⟩) yl).trans x1;have y1q:=(b1.cell (p:=⟨bl,ol+2+1,none⟩) yl).trans y1;have ylq:=Nat.lt_of_lt_of_le yl b1.size;clear x0 y0 x1 y1;obtain ⟨R,hR⟩:=nmQ (((Sk.arr a&&Sk.arrOf b (Sk.sc a.elem))&&Sk.same t.o ⟨a.elem,a.n+b.n⟩));rw [<-hR];have hc1:∀ V,Calls Tryz.prog 150 #[vv a] V fun e w'=>e=.returned (.bool (Sk.arr a))/\Below V.heap.size V w':=xN a;have hc2:∀ V,Calls Tryz.prog 148 #[vv b,vv (Sk.sc a.elem)] V fun e w'=>e=.returned (.bool (Sk.arrOf b (Sk.sc a.elem)))/\Below V.heap.size V w':=xG b (Sk.sc a.elem);obtain ⟨q1,hq1⟩:=nmQ (Sk.arr a);rw [<-hq1] at hR hc1;have HQ1:=zE hq1;obtain ⟨q2,hq2⟩:=nmQ (Sk.arrOf b (Sk.sc a.elem));rw [<-hq2] at hR hc2;have HQ2:=zE hq2;obtain ⟨q3,hq3⟩:=nmQ (Sk.same t.o ⟨a.elem,a.n+b.n⟩);rw [<-hq3] at hR;have HQ3:=zE hq3;have HR:=zE hR;clear hR hG hq1 hq2 hq3 HLL;go_enter Tryz.func133,Tryz.ntmps133;go_upto_region 24 with fail;generalize w.alloc (.cells #[.int .i64 12,.int .i64 t.k,.int .i64 t.out,.int .i64 t.n,.slice t.aA t.nA t.cA,.slice t.aE t.nE t.cE,.int .u8 t.o.elem,.int .i64 t.o.n,.slice (some ⟨bl,ol,none⟩) 2 ca] 149 (0,0))=w1 at b1 kA HG1 HL1 ylq x0q y0q x1q y1q ⊢;have u0:=coQ kA 0;have u1:=coQ kA 1;have u2:=coQ kA 2;have u3:=coQ kA 3;have u4:=coQ kA 4;have u5:=coQ kA 5;have u6:=coQ kA 6;have u7:=coQ kA 7;have u8:=coQ kA 8;simp at u0 u1 u2 u3 u4 u5 u6 u7 u8;have yA:=zG kA;refine zK (fun w'=>Below w1.heap.size w1 w') (fun _=>false) (by kernel_rfl) ?_;have hH0:Below w1.heap.size w1 w1.drew:=(Below.refl _ _).drew;generalize w1.drew=wd0 at hH0 ⊢;refine' tkR 0 175 hH0 ?o1
 refine' tkQ 1 176 hH0 ?hyv ?o2
 case hyv=>
  intro wz hSw;have zc0:=(hSw.cell (p:=⟨w.heap.size,0,none⟩) yA).trans u0;have zc1:=(hSw.cell (p:=⟨w.heap.size,1,none⟩) yA).trans u1;have zc2:=(hSw.cell (p:=⟨w.heap.size,2,none⟩) yA).trans u2;have zc3:=(hSw.cell (p:=⟨w.heap.size,3,none⟩) yA).trans u3;have zc4:=(hSw.cell (p:=⟨w.heap.size,4,none⟩) yA).trans u4;have zc5:=(hSw.cell (p:=⟨w.heap.size,5,none⟩) yA).trans u5;have zc6:=(hSw.cell (p:=⟨w.heap.size,6,none⟩) yA).trans u6;have zc7:=(hSw.cell (p:=⟨w.heap.size,7,none⟩) yA).trans u7;have zc8:=(hSw.cell (p:=⟨w.heap.size,8,none⟩) yA).trans u8;have zc9:=(hSw.cell (p:=⟨bl,ol,none⟩) ylq).trans x0q;have zc10:=(hSw.cell (p:=⟨bl,ol+1,none⟩) ylq).trans y0q;have zc11:=(hSw.cell (p:=⟨bl,ol+2,none⟩) ylq).trans x1q;have zc12:=(hSw.cell (p:=⟨bl,ol+2+1,none⟩) ylq).trans y1q;go_simp
  try rfl
 try simp only [Act.put,sT,sZ,sS]
 refine' tkR 2 177 hH0 ?o3
 refine' tkQ 3 178 hH0 ?hyv ?o4
 case hyv=>
  intro wz hSw;have zc0:=(hSw.cell (p:=⟨w.heap.size,0,none⟩) yA).trans u0;have zc1:=(hSw.cell (p:=⟨w.heap.size,1,none⟩) yA).trans u1;have zc2:=(hSw.cell (p:=⟨w.heap.size,2,none⟩) yA).trans u2;have zc3:=(hSw.cell (p:=⟨w.heap.size,3,none⟩) yA).trans u3;have zc4:=(hSw.cell (p:=⟨w.heap.size,4,none⟩) yA).trans u4;have zc5:=(hSw.cell (p:=⟨w.heap.size,5,none⟩) yA).trans u5;have zc6:=(hSw.cell (p:=⟨w.heap.size,6,none⟩) yA).trans u6;have zc7:=(hSw.cell (p:=⟨w.heap.size,7,none⟩) yA).trans u7;have zc8:=(hSw.cell (p:=⟨w.heap.size,8,none⟩) yA).trans u8;have zc9:=(hSw.cell (p:=⟨bl,ol,none⟩) ylq).trans x0q;have zc10:=(hSw.cell (p:=⟨bl,ol+1,none⟩) ylq).trans y0q;have zc11:=(hSw.cell (p:=⟨bl,ol+2,none⟩) ylq).trans x1q;have zc12:=(hSw.cell (p:=⟨bl,ol+2+1,none⟩) ylq).trans y1q;go_simp
  try rfl
 try simp only [Act.put,sT,sZ,sS]
 refine tnQ 4 (fun K hK=>?_);go_simp;refine (hc1 wd0).mono ?_;rintro eq wd1 ⟨rfl,bq1⟩;have hH1:Below w1.heap.size w1 wd1:=hH0.trans (bq1.mono hH0.size);refine hK.out _ _ (fun _=>hH1) ?_;clear hK K
 try simp only [Act.put,sT,sZ,sS]
 refine' tkR 5 180 hH1 ?o5
 cases q1
 case false=>
  refine zD (i:=6) (oi:=⟨some 181,_,_,_,_,_⟩) rfl (by kernel_rfl) (by kernel_rfl) (by kernel_rfl) (by kernel_rfl) (fun _ _ _ h=>h) hH1 (by rfl) ?_
  try simp only [Act.put,sT,sZ,sS]
  refine zD (i:=7) (oi:=⟨some 182,_,_,_,_,_⟩) rfl (by kernel_rfl) (by kernel_rfl) (by kernel_rfl) (by kernel_rfl) (fun _ _ _ h=>h) hH1 (by rfl) ?_
  try simp only [Act.put,sT,sZ,sS]
  refine zD (i:=8) (oi:=⟨some 183,_,_,_,_,_⟩) rfl (by kernel_rfl) (by kernel_rfl) (by kernel_rfl) (by kernel_rfl) (fun _ _ _ h=>h) hH1 (by rfl) ?_
  try simp only [Act.put,sT,sZ,sS]
  refine zD (i:=9) (oi:=⟨some 184,_,_,_,_,_⟩) rfl (by kernel_rfl) (by kernel_rfl) (by kernel_rfl) (by kernel_rfl) (fun _ _ _ h=>h) hH1 (by rfl) ?_
  try simp only [Act.put,sT,sZ,sS]
  refine zD (i:=10) (oi:=⟨some 185,_,_,_,_,_⟩) rfl (by kernel_rfl) (by kernel_rfl) (by kernel_rfl) (by kernel_rfl) (fun _ _ _ h=>h) hH1 (by rfl) ?_
  try simp only [Act.put,sT,sZ,sS]
  refine zD (i:=11) (oi:=⟨some 186,_,_,_,_,_⟩) rfl (by kernel_rfl) (by kernel_rfl) (by kernel_rfl) (by kernel_rfl) (fun _ _ _ h=>h) hH1 (by rfl) ?_
  try simp only [Act.put,sT,sZ,sS]
  refine zD (i:=12) (oi:=⟨some 187,_,_,_,_,_⟩) rfl (by kernel_rfl) (by kernel_rfl) (by kernel_rfl) (by kernel_rfl) (fun _ _ _ h=>h) hH1 (by rfl) ?_
  try simp only [Act.put,sT,sZ,sS]
  refine zD (i:=13) (oi:=⟨some 188,_,_,_,_,_⟩) rfl (by kernel_rfl) (by kernel_rfl) (by kernel_rfl) (by kernel_rfl) (fun _ _ _ h=>h) hH1 (by rfl) ?_
  try simp only [Act.put,sT,sZ,sS]
  refine zD (i:=14) (oi:=⟨some 189,_,_,_,_,_⟩) rfl (by kernel_rfl) (by kernel_rfl) (by kernel_rfl) (by kernel_rfl) (fun _ _ _ h=>h) hH1 (by rfl) ?_
  try simp only [Act.put,sT,sZ,sS]
  refine zD (i:=15) (oi:=⟨some 190,_,_,_,_,_⟩) rfl (by kernel_rfl) (by kernel_rfl) (by kernel_rfl) (by kernel_rfl) (fun _ _ _ h=>h) hH1 (by rfl) ?_
  try simp only [Act.put,sT,sZ,sS]
  refine' tkR 16 191 hH1 ?o6
  refine' tkR 17 192 hH1 ?o7
  refine zD (i:=18) (oi:=⟨some 193,_,_,_,_,_⟩) rfl (by kernel_rfl) (by kernel_rfl) (by kernel_rfl) (by kernel_rfl) (fun _ _ _ h=>h) hH1 (by rfl) ?_
  try simp only [Act.put,sT,sZ,sS]
  refine zD (i:=19) (oi:=⟨some 194,_,_,_,_,_⟩) rfl (by kernel_rfl) (by kernel_rfl) (by kernel_rfl) (by kernel_rfl) (fun _ _ _ h=>h) hH1 (by rfl) ?_
  try simp only [Act.put,sT,sZ,sS]
  refine zD (i:=20) (oi:=⟨some 195,_,_,_,_,_⟩) rfl (by kernel_rfl) (by kernel_rfl) (by kernel_rfl) (by kernel_rfl) (fun _ _ _ h=>h) hH1 (by rfl) ?_
  try simp only [Act.put,sT,sZ,sS]
  refine zD (i:=21) (oi:=⟨some 196,_,_,_,_,_⟩) rfl (by kernel_rfl) (by kernel_rfl) (by kernel_rfl) (by kernel_rfl) (fun _ _ _ h=>h) hH1 (by rfl) ?_
  try simp only [Act.put,sT,sZ,sS]
  refine zD (i:=22) (oi:=⟨some 197,_,_,_,_,_⟩) rfl (by kernel_rfl) (by kernel_rfl) (by kernel_rfl) (by kernel_rfl) (fun _ _ _ h=>h) hH1 (by rfl) ?_
  try simp only [Act.put,sT,sZ,sS]
  refine zD (i:=23) (oi:=⟨some 198,_,_,_,_,_⟩) rfl (by kernel_rfl) (by kernel_rfl) (by kernel_rfl) (by kernel_rfl) (fun _ _ _ h=>h) hH1 (by rfl) ?_
  try simp only [Act.put,sT,sZ,sS]
  refine zD (i:=24) (oi:=⟨some 199,_,_,_,_,_⟩) rfl (by kernel_rfl) (by kernel_rfl) (by kernel_rfl) (by kernel_rfl) (fun _ _ _ h=>h) hH1 (by rfl) ?_
  try simp only [Act.put,sT,sZ,sS]
  refine zD (i:=25) (oi:=⟨some 200,_,_,_,_,_⟩) rfl (by kernel_rfl) (by kernel_rfl) (by kernel_rfl) (by kernel_rfl) (fun _ _ _ h=>h) hH1 (by rfl) ?_
  try simp only [Act.put,sT,sZ,sS]
  refine zD (i:=26) (oi:=⟨some 201,_,_,_,_,_⟩) rfl (by kernel_rfl) (by kernel_rfl) (by kernel_rfl) (by kernel_rfl) (fun _ _ _ h=>h) hH1 (by rfl) ?_
  try simp only [Act.put,sT,sZ,sS]
  refine zD (i:=27) (oi:=⟨some 202,_,_,_,_,_⟩) rfl (by kernel_rfl) (by kernel_rfl) (by kernel_rfl) (by kernel_rfl) (fun _ _ _ h=>h) hH1 (by rfl) ?_
  try simp only [Act.put,sT,sZ,sS]
  refine zD (i:=28) (oi:=⟨some 203,_,_,_,_,_⟩) rfl (by kernel_rfl) (by kernel_rfl) (by kernel_rfl) (by kernel_rfl) (fun _ _ _ h=>h) hH1 (by rfl) ?_
  try simp only [Act.put,sT,sZ,sS]
  refine zD (i:=29) (oi:=⟨some 204,_,_,_,_,_⟩) rfl (by kernel_rfl) (by kernel_rfl) (by kernel_rfl) (by kernel_rfl) (fun _ _ _ h=>h) hH1 (by rfl) ?_
  try simp only [Act.put,sT,sZ,sS]
  refine zD (i:=30) (oi:=⟨some 205,_,_,_,_,_⟩) rfl (by kernel_rfl) (by kernel_rfl) (by kernel_rfl) (by kernel_rfl) (fun _ _ _ h=>h) hH1 (by rfl) ?_
  try simp only [Act.put,sT,sZ,sS]
  refine zD (i:=31) (oi:=⟨some 206,_,_,_,_,_⟩) rfl (by kernel_rfl) (by kernel_rfl) (by kernel_rfl) (by kernel_rfl) (fun _ _ _ h=>h) hH1 (by rfl) ?_
  try simp only [Act.put,sT,sZ,sS]
  refine zD (i:=32) (oi:=⟨some 207,_,_,_,_,_⟩) rfl (by kernel_rfl) (by kernel_rfl) (by kernel_rfl) (by kernel_rfl) (fun _ _ _ h=>h) hH1 (by rfl) ?_
  try simp only [Act.put,sT,sZ,sS]
  refine zD (i:=33) (oi:=⟨some 208,_,_,_,_,_⟩) rfl (by kernel_rfl) (by kernel_rfl) (by kernel_rfl) (by kernel_rfl) (fun _ _ _ h=>h) hH1 (by rfl) ?_
  try simp only [Act.put,sT,sZ,sS]
  refine zD (i:=34) (oi:=⟨some 209,_,_,_,_,_⟩) rfl (by kernel_rfl) (by kernel_rfl) (by kernel_rfl) (by kernel_rfl) (fun _ _ _ h=>h) hH1 (by rfl) ?_
  try simp only [Act.put,sT,sZ,sS]
  refine zD (i:=35) (oi:=⟨some 210,_,_,_,_,_⟩) rfl (by kernel_rfl) (by kernel_rfl) (by kernel_rfl) (by kernel_rfl) (fun _ _ _ h=>h) hH1 (by rfl) ?_
  try simp only [Act.put,sT,sZ,sS]
  refine zD (i:=36) (oi:=⟨some 211,_,_,_,_,_⟩) rfl (by kernel_rfl) (by kernel_rfl) (by kernel_rfl) (by kernel_rfl) (fun _ _ _ h=>h) hH1 (by rfl) ?_
  try simp only [Act.put,sT,sZ,sS]
  refine zD (i:=37) (oi:=⟨some 212,_,_,_,_,_⟩) rfl (by kernel_rfl) (by kernel_rfl) (by kernel_rfl) (by kernel_rfl) (fun _ _ _ h=>h) hH1 (by rfl) ?_
  try simp only [Act.put,sT,sZ,sS]
  refine' tkR 38 213 hH1 ?o8
  refine' tkR 39 2 hH1 ?o9
  refine zH (by kernel_rfl) ?_ _;go_wp2;go_ret;refine ⟨?_,b1.trans (hH1.mono b1.size)⟩;rw [HR.out]
  first | rfl | simp
 case true=>
  refine' tkR 6 181 hH1 ?o10
  refine' tkQ 7 182 hH1 ?hyv ?o11
  case hyv=>
   intro wz hSw;have zc0:=(hSw.cell (p:=⟨w.heap.size,0,none⟩) yA).trans u0;have zc1:=(hSw.cell (p:=⟨w.heap.size,1,none⟩) yA).trans u1;have zc2:=(hSw.cell (p:=⟨w.heap.size,2,none⟩) yA).trans u2;have zc3:=(hSw.cell (p:=⟨w.heap.size,3,none⟩) yA).trans u3;have zc4:=(hSw.cell (p:=⟨w.heap.size,4,none⟩) yA).trans u4;have zc5:=(hSw.cell (p:=⟨w.heap.size,5,none⟩) yA).trans u5;have zc6:=(hSw.cell (p:=⟨w.heap.size,6,none⟩) yA).trans u6;have zc7:=(hSw.cell (p:=⟨w.heap.size,7,none⟩) yA).trans u7;have zc8:=(hSw.cell (p:=⟨w.heap.size,8,none⟩) yA).trans u8;have zc9:=(hSw.cell (p:=⟨bl,ol,none⟩) ylq).trans x0q;have zc10:=(hSw.cell (p:=⟨bl,ol+1,none⟩) ylq).trans y0q;have zc11:=(hSw.cell (p:=⟨bl,ol+2,none⟩) ylq).trans x1q;have zc12:=(hSw.cell (p:=⟨bl,ol+2+1,none⟩) ylq).trans y1q;go_simp
   try rfl
  try simp only [Act.put,sT,sZ,sS]
  refine' tkR 8 183 hH1 ?o12
  refine' tkQ 9 184 hH1 ?hyv ?o13
  case hyv=>
   intro wz hSw;have zc0:=(hSw.cell (p:=⟨w.heap.size,0,none⟩) yA).trans u0;have zc1:=(hSw.cell (p:=⟨w.heap.size,1,none⟩) yA).trans u1;have zc2:=(hSw.cell (p:=⟨w.heap.size,2,none⟩) yA).trans u2;have zc3:=(hSw.cell (p:=⟨w.heap.size,3,none⟩) yA).trans u3;have zc4:=(hSw.cell (p:=⟨w.heap.size,4,none⟩) yA).trans u4;have zc5:=(hSw.cell (p:=⟨w.heap.size,5,none⟩) yA).trans u5;have zc6:=(hSw.cell (p:=⟨w.heap.size,6,none⟩) yA).trans u6;have zc7:=(hSw.cell (p:=⟨w.heap.size,7,none⟩) yA).trans u7;have zc8:=(hSw.cell (p:=⟨w.heap.size,8,none⟩) yA).trans u8;have zc9:=(hSw.cell (p:=⟨bl,ol,none⟩) ylq).trans x0q;have zc10:=(hSw.cell (p:=⟨bl,ol+1,none⟩) ylq).trans y0q;have zc11:=(hSw.cell (p:=⟨bl,ol+2,none⟩) ylq).trans x1q;have zc12:=(hSw.cell (p:=⟨bl,ol+2+1,none⟩) ylq).trans y1q;go_simp
   try rfl
  try simp only [Act.put,sT,sZ,sS]
  refine' tkR 10 185 hH1 ?o14
  refine' tkQ 11 186 hH1 ?hyv ?o15
  case hyv=>
   intro wz hSw;have zc0:=(hSw.cell (p:=⟨w.heap.size,0,none⟩) yA).trans u0;have zc1:=(hSw.cell (p:=⟨w.heap.size,1,none⟩) yA).trans u1;have zc2:=(hSw.cell (p:=⟨w.heap.size,2,none⟩) yA).trans u2;have zc3:=(hSw.cell (p:=⟨w.heap.size,3,none⟩) yA).trans u3;have zc4:=(hSw.cell (p:=⟨w.heap.size,4,none⟩) yA).trans u4;have zc5:=(hSw.cell (p:=⟨w.heap.size,5,none⟩) yA).trans u5;have zc6:=(hSw.cell (p:=⟨w.heap.size,6,none⟩) yA).trans u6;have zc7:=(hSw.cell (p:=⟨w.heap.size,7,none⟩) yA).trans u7;have zc8:=(hSw.cell (p:=⟨w.heap.size,8,none⟩) yA).trans u8;have zc9:=(hSw.cell (p:=⟨bl,ol,none⟩) ylq).trans x0q;have zc10:=(hSw.cell (p:=⟨bl,ol+1,none⟩) ylq).trans y0q;have zc11:=(hSw.cell (p:=⟨bl,ol+2,none⟩) ylq).trans x1q;have zc12:=(hSw.cell (p:=⟨bl,ol+2+1,none⟩) ylq).trans y1q;go_simp
   try rfl
  try simp only [Act.put,sT,sZ,sS]
  refine' tkR 12 187 hH1 ?o16
  refine' tkQ 13 188 hH1 ?hyv ?o17
  case hyv=>
   intro wz hSw;have zc0:=(hSw.cell (p:=⟨w.heap.size,0,none⟩) yA).trans u0;have zc1:=(hSw.cell (p:=⟨w.heap.size,1,none⟩) yA).trans u1;have zc2:=(hSw.cell (p:=⟨w.heap.size,2,none⟩) yA).trans u2;have zc3:=(hSw.cell (p:=⟨w.heap.size,3,none⟩) yA).trans u3;have zc4:=(hSw.cell (p:=⟨w.heap.size,4,none⟩) yA).trans u4;have zc5:=(hSw.cell (p:=⟨w.heap.size,5,none⟩) yA).trans u5;have zc6:=(hSw.cell (p:=⟨w.heap.size,6,none⟩) yA).trans u6;have zc7:=(hSw.cell (p:=⟨w.heap.size,7,none⟩) yA).trans u7;have zc8:=(hSw.cell (p:=⟨w.heap.size,8,none⟩) yA).trans u8;have zc9:=(hSw.cell (p:=⟨bl,ol,none⟩) ylq).trans x0q;have zc10:=(hSw.cell (p:=⟨bl,ol+1,none⟩) ylq).trans y0q;have zc11:=(hSw.cell (p:=⟨bl,ol+2,none⟩) ylq).trans x1q;have zc12:=(hSw.cell (p:=⟨bl,ol+2+1,none⟩) ylq).trans y1q;go_simp
   try rfl
  try simp only [Act.put,sT,sZ,sS]
  refine tnQ 14 (fun K hK=>?_);go_simp;refine (qW a wd1).mono ?_;rintro eq wd2 ⟨rfl,bq2⟩;have hH2:Below w1.heap.size w1 wd2:=hH1.trans (bq2.mono hH1.size);refine hK.out _ _ (fun _=>hH2) ?_;clear hK K
  try simp only [Act.put,sT,sZ,sS]
  refine tnQ 15 (fun K hK=>?_);go_simp;refine (hc2 wd2).mono ?_;rintro eq wd3 ⟨rfl,bq3⟩;have hH3:Below w1.heap.size w1 wd3:=hH2.trans (bq3.mono hH2.size);refine hK.out _ _ (fun _=>hH3) ?_;clear hK K
  try simp only [Act.put,sT,sZ,sS]
  refine' tkR 16 191 hH3 ?o18
  refine' tkR 17 192 hH3 ?o19
  cases q2
  case false=>
   refine zD (i:=18) (oi:=⟨some 193,_,_,_,_,_⟩) rfl (by kernel_rfl) (by kernel_rfl) (by kernel_rfl) (by kernel_rfl) (fun _ _ _ h=>h) hH3 (by rfl) ?_
   try simp only [Act.put,sT,sZ,sS]
   refine zD (i:=19) (oi:=⟨some 194,_,_,_,_,_⟩) rfl (by kernel_rfl) (by kernel_rfl) (by kernel_rfl) (by kernel_rfl) (fun _ _ _ h=>h) hH3 (by rfl) ?_
   try simp only [Act.put,sT,sZ,sS]
   refine zD (i:=20) (oi:=⟨some 195,_,_,_,_,_⟩) rfl (by kernel_rfl) (by kernel_rfl) (by kernel_rfl) (by kernel_rfl) (fun _ _ _ h=>h) hH3 (by rfl) ?_
   try simp only [Act.put,sT,sZ,sS]
   refine zD (i:=21) (oi:=⟨some 196,_,_,_,_,_⟩) rfl (by kernel_rfl) (by kernel_rfl) (by kernel_rfl) (by kernel_rfl) (fun _ _ _ h=>h) hH3 (by rfl) ?_
   try simp only [Act.put,sT,sZ,sS]
   refine zD (i:=22) (oi:=⟨some 197,_,_,_,_,_⟩) rfl (by kernel_rfl) (by kernel_rfl) (by kernel_rfl) (by kernel_rfl) (fun _ _ _ h=>h) hH3 (by rfl) ?_
   try simp only [Act.put,sT,sZ,sS]
   refine zD (i:=23) (oi:=⟨some 198,_,_,_,_,_⟩) rfl (by kernel_rfl) (by kernel_rfl) (by kernel_rfl) (by kernel_rfl) (fun _ _ _ h=>h) hH3 (by rfl) ?_
   try simp only [Act.put,sT,sZ,sS]
   refine zD (i:=24) (oi:=⟨some 199,_,_,_,_,_⟩) rfl (by kernel_rfl) (by kernel_rfl) (by kernel_rfl) (by kernel_rfl) (fun _ _ _ h=>h) hH3 (by rfl) ?_
   try simp only [Act.put,sT,sZ,sS]
   refine zD (i:=25) (oi:=⟨some 200,_,_,_,_,_⟩) rfl (by kernel_rfl) (by kernel_rfl) (by kernel_rfl) (by kernel_rfl) (fun _ _ _ h=>h) hH3 (by rfl) ?_
   try simp only [Act.put,sT,sZ,sS]
   refine zD (i:=26) (oi:=⟨some 201,_,_,_,_,_⟩) rfl (by kernel_rfl) (by kernel_rfl) (by kernel_rfl) (by kernel_rfl) (fun _ _ _ h=>h) hH3 (by rfl) ?_
   try simp only [Act.put,sT,sZ,sS]
   refine zD (i:=27) (oi:=⟨some 202,_,_,_,_,_⟩) rfl (by kernel_rfl) (by kernel_rfl) (by kernel_rfl) (by kernel_rfl) (fun _ _ _ h=>h) hH3 (by rfl) ?_
   try simp only [Act.put,sT,sZ,sS]
   refine zD (i:=28) (oi:=⟨some 203,_,_,_,_,_⟩) rfl (by kernel_rfl) (by kernel_rfl) (by kernel_rfl) (by kernel_rfl) (fun _ _ _ h=>h) hH3 (by rfl) ?_
   try simp only [Act.put,sT,sZ,sS]
   refine zD (i:=29) (oi:=⟨some 204,_,_,_,_,_⟩) rfl (by kernel_rfl) (by kernel_rfl) (by kernel_rfl) (by kernel_rfl) (fun _ _ _ h=>h) hH3 (by rfl) ?_
   try simp only [Act.put,sT,sZ,sS]
   refine zD (i:=30) (oi:=⟨some 205,_,_,_,_,_⟩) rfl (by kernel_rfl) (by kernel_rfl) (by kernel_rfl) (by kernel_rfl) (fun _ _ _ h=>h) hH3 (by rfl) ?_
   try simp only [Act.put,sT,sZ,sS]
   refine zD (i:=31) (oi:=⟨some 206,_,_,_,_,_⟩) rfl (by kernel_rfl) (by kernel_rfl) (by kernel_rfl) (by kernel_rfl) (fun _ _ _ h=>h) hH3 (by rfl) ?_
   try simp only [Act.put,sT,sZ,sS]
   refine zD (i:=32) (oi:=⟨some 207,_,_,_,_,_⟩) rfl (by kernel_rfl) (by kernel_rfl) (by kernel_rfl) (by kernel_rfl) (fun _ _ _ h=>h) hH3 (by rfl) ?_
   try simp only [Act.put,sT,sZ,sS]
   refine zD (i:=33) (oi:=⟨some 208,_,_,_,_,_⟩) rfl (by kernel_rfl) (by kernel_rfl) (by kernel_rfl) (by kernel_rfl) (fun _ _ _ h=>h) hH3 (by rfl) ?_
   try simp only [Act.put,sT,sZ,sS]
   refine zD (i:=34) (oi:=⟨some 209,_,_,_,_,_⟩) rfl (by kernel_rfl) (by kernel_rfl) (by kernel_rfl) (by kernel_rfl) (fun _ _ _ h=>h) hH3 (by rfl) ?_
   try simp only [Act.put,sT,sZ,sS]
   refine zD (i:=35) (oi:=⟨some 210,_,_,_,_,_⟩) rfl (by kernel_rfl) (by kernel_rfl) (by kernel_rfl) (by kernel_rfl) (fun _ _ _ h=>h) hH3 (by rfl) ?_
   try simp only [Act.put,sT,sZ,sS]
   refine zD (i:=36) (oi:=⟨some 211,_,_,_,_,_⟩) rfl (by kernel_rfl) (by kernel_rfl) (by kernel_rfl) (by kernel_rfl) (fun _ _ _ h=>h) hH3 (by rfl) ?_
   try simp only [Act.put,sT,sZ,sS]
   refine zD (i:=37) (oi:=⟨some 212,_,_,_,_,_⟩) rfl (by kernel_rfl) (by kernel_rfl) (by kernel_rfl) (by kernel_rfl) (fun _ _ _ h=>h) hH3 (by rfl) ?_
   try simp only [Act.put,sT,sZ,sS]
   refine' tkR 38 213 hH3 ?o20
   refine' tkR 39 2 hH3 ?o21
   refine zH (by kernel_rfl) ?_ _;go_wp2;go_ret;refine ⟨?_,b1.trans (hH3.mono b1.size)⟩;rw [HR.out]
   first | rfl | simp
  case true=>
   refine' tkR 18 193 hH3 ?o22
   refine' tkQ 19 194 hH3 ?hyv ?o23
   case hyv=>
    intro wz hSw;have zc0:=(hSw.cell (p:=⟨w.heap.size,0,none⟩) yA).trans u0;have zc1:=(hSw.cell (p:=⟨w.heap.size,1,none⟩) yA).trans u1;have zc2:=(hSw.cell (p:=⟨w.heap.size,2,none⟩) yA).trans u2;have zc3:=(hSw.cell (p:=⟨w.heap.size,3,none⟩) yA).trans u3;have zc4:=(hSw.cell (p:=⟨w.heap.size,4,none⟩) yA).trans u4;have zc5:=(hSw.cell (p:=⟨w.heap.size,5,none⟩) yA).trans u5;have zc6:=(hSw.cell (p:=⟨w.heap.size,6,none⟩) yA).trans u6;have zc7:=(hSw.cell (p:=⟨w.heap.size,7,none⟩) yA).trans u7;have zc8:=(hSw.cell (p:=⟨w.heap.size,8,none⟩) yA).trans u8;have zc9:=(hSw.cell (p:=⟨bl,ol,none⟩) ylq).trans x0q;have zc10:=(hSw.cell (p:=⟨bl,ol+1,none⟩) ylq).trans y0q;have zc11:=(hSw.cell (p:=⟨bl,ol+2,none⟩) ylq).trans x1q;have zc12:=(hSw.cell (p:=⟨bl,ol+2+1,none⟩) ylq).trans y1q;go_simp
    try rfl
   try simp only [Act.put,sT,sZ,sS]
   refine' tkR 20 195 hH3 ?o24
   refine' tkQ 21 196 hH3 ?hyv ?o25
   case hyv=>
    intro wz hSw;have zc0:=(hSw.cell (p:=⟨w.heap.size,0,none⟩) yA).trans u0;have zc1:=(hSw.cell (p:=⟨w.heap.size,1,none⟩) yA).trans u1;have zc2:=(hSw.cell (p:=⟨w.heap.size,2,none⟩) yA).trans u2;have zc3:=(hSw.cell (p:=⟨w.heap.size,3,none⟩) yA).trans u3;have zc4:=(hSw.cell (p:=⟨w.heap.size,4,none⟩) yA).trans u4;have zc5:=(hSw.cell (p:=⟨w.heap.size,5,none⟩) yA).trans u5;have zc6:=(hSw.cell (p:=⟨w.heap.size,6,none⟩) yA).trans u6;have zc7:=(hSw.cell (p:=⟨w.heap.size,7,none⟩) yA).trans u7;have zc8:=(hSw.cell (p:=⟨w.heap.size,8,none⟩) yA).trans u8;have zc9:=(hSw.cell (p:=⟨bl,ol,none⟩) ylq).trans x0q;have zc10:=(hSw.cell (p:=⟨bl,ol+1,none⟩) ylq).trans y0q;have zc11:=(hSw.cell (p:=⟨bl,ol+2,none⟩) ylq).trans x1q;have zc12:=(hSw.cell (p:=⟨bl,ol+2+1,none⟩) ylq).trans y1q;go_simp
    try rfl
   try simp only [Act.put,sT,sZ,sS]
   refine' tkR 22 197 hH3 ?o26
   refine' tkR 23 198 hH3 ?o27
   refine' tkQ 24 199 hH3 ?hyv ?o28
   case hyv=>
    intro wz hSw;have zc0:=(hSw.cell (p:=⟨w.heap.size,0,none⟩) yA).trans u0;have zc1:=(hSw.cell (p:=⟨w.heap.size,1,none⟩) yA).trans u1;have zc2:=(hSw.cell (p:=⟨w.heap.size,2,none⟩) yA).trans u2;have zc3:=(hSw.cell (p:=⟨w.heap.size,3,none⟩) yA).trans u3;have zc4:=(hSw.cell (p:=⟨w.heap.size,4,none⟩) yA).trans u4;have zc5:=(hSw.cell (p:=⟨w.heap.size,5,none⟩) yA).trans u5;have zc6:=(hSw.cell (p:=⟨w.heap.size,6,none⟩) yA).trans u6;have zc7:=(hSw.cell (p:=⟨w.heap.size,7,none⟩) yA).trans u7;have zc8:=(hSw.cell (p:=⟨w.heap.size,8,none⟩) yA).trans u8;have zc9:=(hSw.cell (p:=⟨bl,ol,none⟩) ylq).trans x0q;have zc10:=(hSw.cell (p:=⟨bl,ol+1,none⟩) ylq).trans y0q;have zc11:=(hSw.cell (p:=⟨bl,ol+2,none⟩) ylq).trans x1q;have zc12:=(hSw.cell (p:=⟨bl,ol+2+1,none⟩) ylq).trans y1q;go_simp
    try rfl
   try simp only [Act.put,sT,sZ,sS]
   refine' tkR 25 200 hH3 ?o29
   refine' tkQ 26 201 hH3 ?hyv ?o30
   case hyv=>
    intro wz hSw;have zc0:=(hSw.cell (p:=⟨w.heap.size,0,none⟩) yA).trans u0;have zc1:=(hSw.cell (p:=⟨w.heap.size,1,none⟩) yA).trans u1;have zc2:=(hSw.cell (p:=⟨w.heap.size,2,none⟩) yA).trans u2;have zc3:=(hSw.cell (p:=⟨w.heap.size,3,none⟩) yA).trans u3;have zc4:=(hSw.cell (p:=⟨w.heap.size,4,none⟩) yA).trans u4;have zc5:=(hSw.cell (p:=⟨w.heap.size,5,none⟩) yA).trans u5;have zc6:=(hSw.cell (p:=⟨w.heap.size,6,none⟩) yA).trans u6;have zc7:=(hSw.cell (p:=⟨w.heap.size,7,none⟩) yA).trans u7;have zc8:=(hSw.cell (p:=⟨w.heap.size,8,none⟩) yA).trans u8;have zc9:=(hSw.cell (p:=⟨bl,ol,none⟩) ylq).trans x0q;have zc10:=(hSw.cell (p:=⟨bl,ol+1,none⟩) ylq).trans y0q;have zc11:=(hSw.cell (p:=⟨bl,ol+2,none⟩) ylq).trans x1q;have zc12:=(hSw.cell (p:=⟨bl,ol+2+1,none⟩) ylq).trans y1q;go_simp
    try rfl
   try simp only [Act.put,sT,sZ,sS]
   refine' tkR 27 202 hH3 ?o31
   refine' tkR 28 203 hH3 ?o32
   refine' tkQ 29 204 hH3 ?hyv ?o33
   case hyv=>
    intro wz hSw;have zc0:=(hSw.cell (p:=⟨w.heap.size,0,none⟩) yA).trans u0;have zc1:=(hSw.cell (p:=⟨w.heap.size,1,none⟩) yA).trans u1;have zc2:=(hSw.cell (p:=⟨w.heap.size,2,none⟩) yA).trans u2;have zc3:=(hSw.cell (p:=⟨w.heap.size,3,none⟩) yA).trans u3;have zc4:=(hSw.cell (p:=⟨w.heap.size,4,none⟩) yA).trans u4;have zc5:=(hSw.cell (p:=⟨w.heap.size,5,none⟩) yA).trans u5;have zc6:=(hSw.cell (p:=⟨w.heap.size,6,none⟩) yA).trans u6;have zc7:=(hSw.cell (p:=⟨w.heap.size,7,none⟩) yA).trans u7;have zc8:=(hSw.cell (p:=⟨w.heap.size,8,none⟩) yA).trans u8;have zc9:=(hSw.cell (p:=⟨bl,ol,none⟩) ylq).trans x0q;have zc10:=(hSw.cell (p:=⟨bl,ol+1,none⟩) ylq).trans y0q;have zc11:=(hSw.cell (p:=⟨bl,ol+2,none⟩) ylq).trans x1q;have zc12:=(hSw.cell (p:=⟨bl,ol+2+1,none⟩) ylq).trans y1q;go_simp
    try rfl
   try simp only [Act.put,sT,sZ,sS]
   refine' tkR 30 205 hH3 ?o34
   refine' tkQ 31 206 hH3 ?hyv ?o35
   case hyv=>
    intro wz hSw;have zc0:=(hSw.cell (p:=⟨w.heap.size,0,none⟩) yA).trans u0;have zc1:=(hSw.cell (p:=⟨w.heap.size,1,none⟩) yA).trans u1;have zc2:=(hSw.cell (p:=⟨w.heap.size,2,none⟩) yA).trans u2;have zc3:=(hSw.cell (p:=⟨w.heap.size,3,none⟩) yA).trans u3;have zc4:=(hSw.cell (p:=⟨w.heap.size,4,none⟩) yA).trans u4;have zc5:=(hSw.cell (p:=⟨w.heap.size,5,none⟩) yA).trans u5;have zc6:=(hSw.cell (p:=⟨w.heap.size,6,none⟩) yA).trans u6;have zc7:=(hSw.cell (p:=⟨w.heap.size,7,none⟩) yA).trans u7;have zc8:=(hSw.cell (p:=⟨w.heap.size,8,none⟩) yA).trans u8;have zc9:=(hSw.cell (p:=⟨bl,ol,none⟩) ylq).trans x0q;have zc10:=(hSw.cell (p:=⟨bl,ol+1,none⟩) ylq).trans y0q;have zc11:=(hSw.cell (p:=⟨bl,ol+2,none⟩) ylq).trans x1q;have zc12:=(hSw.cell (p:=⟨bl,ol+2+1,none⟩) ylq).trans y1q;go_simp
    try rfl
   try simp only [Act.put,sT,sZ,sS]
   refine' tkR 32 207 hH3 ?o36
   refine' tkR 33 208 hH3 ?o37
   refine' tkQ 34 209 hH3 ?hyv ?o38
   case hyv=>
    intro wz hSw;have zc0:=(hSw.cell (p:=⟨w.heap.size,0,none⟩) yA).trans u0;have zc1:=(hSw.cell (p:=⟨w.heap.size,1,none⟩) yA).trans u1;have zc2:=(hSw.cell (p:=⟨w.heap.size,2,none⟩) yA).trans u2;have zc3:=(hSw.cell (p:=⟨w.heap.size,3,none⟩) yA).trans u3;have zc4:=(hSw.cell (p:=⟨w.heap.size,4,none⟩) yA).trans u4;have zc5:=(hSw.cell (p:=⟨w.heap.size,5,none⟩) yA).trans u5;have zc6:=(hSw.cell (p:=⟨w.heap.size,6,none⟩) yA).trans u6;have zc7:=(hSw.cell (p:=⟨w.heap.size,7,none⟩) yA).trans u7;have zc8:=(hSw.cell (p:=⟨w.heap.size,8,none⟩) yA).trans u8;have zc9:=(hSw.cell (p:=⟨bl,ol,none⟩) ylq).trans x0q;have zc10:=(hSw.cell (p:=⟨bl,ol+1,none⟩) ylq).trans y0q;have zc11:=(hSw.cell (p:=⟨bl,ol+2,none⟩) ylq).trans x1q;have zc12:=(hSw.cell (p:=⟨bl,ol+2+1,none⟩) ylq).trans y1q;go_simp
    try rfl
   try simp only [Act.put,sT,sZ,sS]
   refine' tkR 35 210 hH3 ?o39
   refine' tkR 36 211 hH3 ?o40
   refine' zO (i:=37) (oi:=⟨some 212,_,_,_,_,_⟩) (v:=.bool q3) rfl (by kernel_rfl) (by kernel_rfl) (by kernel_rfl) (by kernel_rfl) (fun _ _ _ h=>h) hH3 (by rfl) ?hyv ?o41
   case hyv=>
    intro wz hSw;go_simp;rw [HQ3.out,wrapS (x:=a.n+b.n) (by omega) (by omega)];unfold Sk.same;by_cases h1:t.o.elem=a.elem<;>by_cases h2:t.o.n=a.n+b.n<;>simp [h1,h2]
   try simp only [Act.put,sT,sZ,sS]
   refine' tkR 38 213 hH3 ?o42
   refine' tkR 39 2 hH3 ?o43
   refine zH (by kernel_rfl) ?_ _;go_wp2;go_ret;refine ⟨?_,b1.trans (hH3.mono b1.size)⟩;rw [HR.out]
   first | rfl | simp
end Go.Proofs.YtegakbobaecdlaaGreatDoor
