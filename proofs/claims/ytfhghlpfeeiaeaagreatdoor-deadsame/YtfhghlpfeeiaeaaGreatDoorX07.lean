import Derived.Test.YtfhghlpfeeiaeaaGreatDoorX06
import Derived.Deep.Cut
import Derived.Deep.LoopGhost
import Derived.IntWalk
import Derived.Lib.Hide
import Derived.WalkKit
import Derived.WalkSpells
set_option linter.unusedVariables false
set_option linter.unusedSimpArgs false
set_option maxHeartbeats 64000000
set_option maxRecDepth 100000
namespace Go.Proofs.YtfhghlpfeeiaeaaGreatDoor
open Go.RowKit Go.IntWalk
theorem fits6_any {ok:Nat->Prop} (t:TRv) {aa:Option Addr} {na ca:Nat} (a b:Sk.Vr) (w:World) (hG:GlobK w) (hl:HVars ok w (.slice aa na ca) [a,b]) :
  Calls Tryz.prog 83 #[.agg #[.int .i64 6,.int .i64 t.k,.int .i64 t.out,.int .i64 t.n,.slice t.aA t.nA t.cA,.slice t.aE t.nE t.cE,.int .u8 t.o.elem,.int .i64 t.o.n,.slice aa na ca]] w fun e w'=>e=.returned (.bool (Sk.goesOver t.k a b&&Sk.same t.o a))/\Below w.heap.size w w':=by
 have ed:=zBK hl;obtain ⟨ao,cap,hv,bm,aY,cc⟩:=hl.at;injection hv with v1 v2 v3;subst v1 v2 v3;obtain ⟨bl,ol,rfl,yl,x0,y0⟩:=cc 0 (by simp);obtain ⟨wb,x7,ee,bP,x1,y1⟩:=cc 1 (by simp);injection ee with ee;injection ee with e1 e2 e3;subst e1 e2;clear bP e3;simp at x0 y0 x1 y1;unfold maxLen at aY;obtain ⟨na,eH⟩:=nmQ ([a,b].length);have fq:na=2:=(by rw [eH];rfl);rw [<-eH] at bm ⊢;clear eH cc hl;subst fq;have b1:Below w.heap.size w (w.alloc (.cells #[.int .i64 6,.int .i64 t.k,.int .i64 t.out,.int .i64 t.n,.slice t.aA t.nA t.cA,.slice t.aE t.nE t.cE,.int .u8 t.o.elem,.int .i64 t.o.n,.slice (some ⟨bl,ol,none⟩) 2 ca] 109 (0,0))):=(Below.refl _ _).alloc zBR _;have kA:=zBO w (.cells #[.int .i64 6,.int .i64 t.k,.int .i64 t.out,.int .i64 t.n,.slice t.aA t.nA t.cA,.slice t.aE t.nE t.cE,.int .u8 t.o.elem,.int .i64 t.o.n,.slice (some ⟨bl,ol,none⟩) 2 ca] 109 (0,0));have fL:=zBK (hG.under b1);have iu:=zBK (ed.out.under b1);have ch:=(b1.cell (p:=⟨bl,ol,none⟩) yl).trans x0;have cj:=(b1.cell (p:=⟨bl,ol+1,none⟩) yl).trans y0;have dv:=(b1.cell (p:=⟨bl,ol+2,none⟩) yl).trans x1;have dw:=(b1.cell (p:=⟨bl,ol+2+1,none⟩) yl).trans y1;have ai:=Nat.lt_of_lt_of_le yl b1.size;clear x0 y0 x1 y1;obtain ⟨R,hR⟩:=nmQ ((Sk.goesOver t.k a b&&Sk.same t.o a));rw [<-hR];have bH:∀ V,GlobK V->HVars ok V (.slice (some ⟨bl,ol,none⟩) 2 ca) [a,b]->Calls Tryz.prog 93 #[tv { t with op:=6 } (some ⟨bl,ol,none⟩) 2 ca,vv b] V fun e w'=>e=.returned (.bool (Sk.goesOver t.k a b))/\Below V.heap.size V w':=fun V h1 h2=>zCp { t with op:=6 } a b [b] V h1 h2;obtain ⟨q1,bm⟩:=nmQ (Sk.goesOver t.k a b);rw [<-bm] at hR bH;have ib:=zBK bm;obtain ⟨q2,aY⟩:=nmQ (Sk.same t.o a);rw [<-aY] at hR;have eK:=zBK aY;have HR:=zBK hR;clear hR hG bm aY ed;go_enter Tryz.func83,Tryz.ntmps83;go_upto_region 12 with fail;generalize w.alloc (.cells #[.int .i64 6,.int .i64 t.k,.int .i64 t.out,.int .i64 t.n,.slice t.aA t.nA t.cA,.slice t.aE t.nE t.cE,.int .u8 t.o.elem,.int .i64 t.o.n,.slice (some ⟨bl,ol,none⟩) 2 ca] 109 (0,0))=w1 at b1 kA fL iu ai ch cj dv dw ⊢;have u0:=coQ kA 0;have u1:=coQ kA 1;have u2:=coQ kA 2;have u3:=coQ kA 3;have u4:=coQ kA 4;have u5:=coQ kA 5;have u6:=coQ kA 6;have u7:=coQ kA 7;have u8:=coQ kA 8;simp at u0 u1 u2 u3 u4 u5 u6 u7 u8;have yA:=zBM kA;have aM:=zBK (fun (wz:World) (hSw:Below w1.heap.size w1 wz)=>And.intro ((hSw.cell (p:=⟨w.heap.size,0,none⟩) yA).trans u0) (And.intro ((hSw.cell (p:=⟨w.heap.size,1,none⟩) yA).trans u1) (And.intro ((hSw.cell (p:=⟨w.heap.size,2,none⟩) yA).trans u2) (And.intro ((hSw.cell (p:=⟨w.heap.size,3,none⟩) yA).trans u3) (And.intro ((hSw.cell (p:=⟨w.heap.size,4,none⟩) yA).trans u4) (And.intro ((hSw.cell (p:=⟨w.heap.size,5,none⟩) yA).trans u5) (And.intro ((hSw.cell (p:=⟨w.heap.size,6,none⟩) yA).trans u6) (And.intro ((hSw.cell (p:=⟨w.heap.size,7,none⟩) yA).trans u7) (And.intro ((hSw.cell (p:=⟨w.heap.size,8,none⟩) yA).trans u8) (And.intro ((hSw.cell (p:=⟨bl,ol,none⟩) ai).trans ch) (And.intro ((hSw.cell (p:=⟨bl,ol+1,none⟩) ai).trans cj) (And.intro ((hSw.cell (p:=⟨bl,ol+2,none⟩) ai).trans dv) ((hSw.cell (p:=⟨bl,ol+2+1,none⟩) ai).trans dw)))))))))))));refine zBP (fun w'=>Below w1.heap.size w1 w') (fun _=>false) (by kernel_rfl) ?_;have ab:Below w1.heap.size w1 w1.drew:=(Below.refl _ _).drew;generalize w1.drew=ag at ab ⊢;refine' tkQ 0 68 ab ?hyv ?o1
 case hyv=>
  intro wz hSw;have bk:=aM.out wz hSw;go_simp
  try rfl
 try simp only [Act.put,sT,sZ,sS]
 refine' tkR 1 69 ab ?o2
 refine' tkQ 2 70 ab ?hyv ?o3
 case hyv=>
  intro wz hSw;have bk:=aM.out wz hSw;go_simp
  try rfl
 try simp only [Act.put,sT,sZ,sS]
 refine' tkR 3 71 ab ?o4
 refine' tkQ 4 72 ab ?hyv ?o5
 case hyv=>
  intro wz hSw;have bk:=aM.out wz hSw;go_simp
  try rfl
 try simp only [Act.put,sT,sZ,sS]
 refine tnQ 5 (fun K hK=>?_);go_simp;refine (bH ag (fL.out.under ab) (iu.out.under ab)).mono ?_;rintro eq aw ⟨rfl,cY⟩;have af:Below w1.heap.size w1 aw:=ab.trans (cY.mono ab.size);refine hK.out _ _ (fun _=>af) ?_;clear hK K
 try simp only [Act.put,sT,sZ,sS]
 refine' tkR 6 74 af ?o6
 cases q1
 case false=>
  refine' tsQ 7 75 af ?_
  refine' tsQ 8 76 af ?_
  refine' tsQ 9 77 af ?_
  refine' tsQ 10 78 af ?_
  refine' tsQ 11 79 af ?_
  refine' tsQ 12 80 af ?_
  refine' tsQ 13 81 af ?_
  refine' tkR 14 82 af ?o7
  refine' tkR 15 2 af ?o8
  refine zBN (by kernel_rfl) ?_ _;go_wp2;go_ret;refine ⟨?_,b1.trans (af.mono b1.size)⟩;rw [HR.out]
  first | rfl | simp
 case true=>
  refine' tkR 7 75 af ?o9
  refine' tkQ 8 76 af ?hyv ?o10
  case hyv=>
   intro wz hSw;have bk:=aM.out wz hSw;go_simp
   try rfl
  try simp only [Act.put,sT,sZ,sS]
  refine' tkR 9 77 af ?o11
  refine' tkQ 10 78 af ?hyv ?o12
  case hyv=>
   intro wz hSw;have bk:=aM.out wz hSw;go_simp
   try rfl
  try simp only [Act.put,sT,sZ,sS]
  refine' tkR 11 79 af ?o13
  refine' tkQ 12 80 af ?hyv ?o14
  case hyv=>
   intro wz hSw;have bk:=aM.out wz hSw;go_simp
   try rfl
  try simp only [Act.put,sT,sZ,sS]
  refine' zBS (i:=13) (oi:=⟨some 81,_,_,_,_,_⟩) (v:=.bool q2) rfl (by kernel_rfl) (by kernel_rfl) (by kernel_rfl) (by kernel_rfl) (fun _ _ _ h=>h) af (by rfl) ?hyv ?o15
  case hyv=>
   intro wz hSw;go_simp;rw [eK.out];unfold Sk.same;by_cases h1:t.o.elem=a.elem<;>by_cases h2:t.o.n=a.n<;>simp [h1,h2]
  try simp only [Act.put,sT,sZ,sS]
  refine' tkR 14 82 af ?o16
  refine' tkR 15 2 af ?o17
  refine zBN (by kernel_rfl) ?_ _;go_wp2;go_ret;refine ⟨?_,b1.trans (af.mono b1.size)⟩;rw [HR.out]
  first | rfl | simp
theorem fits7_any {ok:Nat->Prop} (t:TRv) {aa:Option Addr} {na ca:Nat} (a b:Sk.Vr) (w:World) (hG:GlobK w) (hl:HVars ok w (.slice aa na ca) [a,b]) :
  Calls Tryz.prog 83 #[.agg #[.int .i64 7,.int .i64 t.k,.int .i64 t.out,.int .i64 t.n,.slice t.aA t.nA t.cA,.slice t.aE t.nE t.cE,.int .u8 t.o.elem,.int .i64 t.o.n,.slice aa na ca]] w fun e w'=>e=.returned (.bool (Sk.goesOver t.k a b&&Sk.same t.o b))/\Below w.heap.size w w':=by
 have ed:=zBK hl;obtain ⟨ao,cap,hv,bm,aY,cc⟩:=hl.at;injection hv with v1 v2 v3;subst v1 v2 v3;obtain ⟨bl,ol,rfl,yl,x0,y0⟩:=cc 0 (by simp);obtain ⟨wb,x7,ee,bP,x1,y1⟩:=cc 1 (by simp);injection ee with ee;injection ee with e1 e2 e3;subst e1 e2;clear bP e3;simp at x0 y0 x1 y1;unfold maxLen at aY;obtain ⟨na,eH⟩:=nmQ ([a,b].length);have fq:na=2:=(by rw [eH];rfl);rw [<-eH] at bm ⊢;clear eH cc hl;subst fq;have b1:Below w.heap.size w (w.alloc (.cells #[.int .i64 7,.int .i64 t.k,.int .i64 t.out,.int .i64 t.n,.slice t.aA t.nA t.cA,.slice t.aE t.nE t.cE,.int .u8 t.o.elem,.int .i64 t.o.n,.slice (some ⟨bl,ol,none⟩) 2 ca] 109 (0,0))):=(Below.refl _ _).alloc zBR _;have kA:=zBO w (.cells #[.int .i64 7,.int .i64 t.k,.int .i64 t.out,.int .i64 t.n,.slice t.aA t.nA t.cA,.slice t.aE t.nE t.cE,.int .u8 t.o.elem,.int .i64 t.o.n,.slice (some ⟨bl,ol,none⟩) 2 ca] 109 (0,0));have fL:=zBK (hG.under b1);have iu:=zBK (ed.out.under b1);have ch:=(b1.cell (p:=⟨bl,ol,none⟩) yl).trans x0;have cj:=(b1.cell (p:=⟨bl,ol+1,none⟩) yl).trans y0;have dv:=(b1.cell (p:=⟨bl,ol+2,none⟩) yl).trans x1;have dw:=(b1.cell (p:=⟨bl,ol+2+1,none⟩) yl).trans y1;have ai:=Nat.lt_of_lt_of_le yl b1.size;clear x0 y0 x1 y1;obtain ⟨R,hR⟩:=nmQ ((Sk.goesOver t.k a b&&Sk.same t.o b));rw [<-hR];have bH:∀ V,GlobK V->HVars ok V (.slice (some ⟨bl,ol,none⟩) 2 ca) [a,b]->Calls Tryz.prog 93 #[tv { t with op:=7 } (some ⟨bl,ol,none⟩) 2 ca,vv b] V fun e w'=>e=.returned (.bool (Sk.goesOver t.k a b))/\Below V.heap.size V w':=fun V h1 h2=>zCp { t with op:=7 } a b [b] V h1 h2;obtain ⟨q1,bm⟩:=nmQ (Sk.goesOver t.k a b);rw [<-bm] at hR bH;have ib:=zBK bm;obtain ⟨q2,aY⟩:=nmQ (Sk.same t.o b);rw [<-aY] at hR;have eK:=zBK aY;have HR:=zBK hR;clear hR hG bm aY ed;go_enter Tryz.func83,Tryz.ntmps83;go_upto_region 14 with fail;generalize w.alloc (.cells #[.int .i64 7,.int .i64 t.k,.int .i64 t.out,.int .i64 t.n,.slice t.aA t.nA t.cA,.slice t.aE t.nE t.cE,.int .u8 t.o.elem,.int .i64 t.o.n,.slice (some ⟨bl,ol,none⟩) 2 ca] 109 (0,0))=w1 at b1 kA fL iu ai ch cj dv dw ⊢;have u0:=coQ kA 0;have u1:=coQ kA 1;have u2:=coQ kA 2;have u3:=coQ kA 3;have u4:=coQ kA 4;have u5:=coQ kA 5;have u6:=coQ kA 6;have u7:=coQ kA 7;have u8:=coQ kA 8;simp at u0 u1 u2 u3 u4 u5 u6 u7 u8;have yA:=zBM kA;have aM:=zBK (fun (wz:World) (hSw:Below w1.heap.size w1 wz)=>And.intro ((hSw.cell (p:=⟨w.heap.size,0,none⟩) yA).trans u0) (And.intro ((hSw.cell (p:=⟨w.heap.size,1,none⟩) yA).trans u1) (And.intro ((hSw.cell (p:=⟨w.heap.size,2,none⟩) yA).trans u2) (And.intro ((hSw.cell (p:=⟨w.heap.size,3,none⟩) yA).trans u3) (And.intro ((hSw.cell (p:=⟨w.heap.size,4,none⟩) yA).trans u4) (And.intro ((hSw.cell (p:=⟨w.heap.size,5,none⟩) yA).trans u5) (And.intro ((hSw.cell (p:=⟨w.heap.size,6,none⟩) yA).trans u6) (And.intro ((hSw.cell (p:=⟨w.heap.size,7,none⟩) yA).trans u7) (And.intro ((hSw.cell (p:=⟨w.heap.size,8,none⟩) yA).trans u8) (And.intro ((hSw.cell (p:=⟨bl,ol,none⟩) ai).trans ch) (And.intro ((hSw.cell (p:=⟨bl,ol+1,none⟩) ai).trans cj) (And.intro ((hSw.cell (p:=⟨bl,ol+2,none⟩) ai).trans dv) ((hSw.cell (p:=⟨bl,ol+2+1,none⟩) ai).trans dw)))))))))))));refine zBP (fun w'=>Below w1.heap.size w1 w') (fun _=>false) (by kernel_rfl) ?_;have ab:Below w1.heap.size w1 w1.drew:=(Below.refl _ _).drew;generalize w1.drew=ag at ab ⊢;refine' tkQ 0 85 ab ?hyv ?o18
 case hyv=>
  intro wz hSw;have bk:=aM.out wz hSw;go_simp
  try rfl
 try simp only [Act.put,sT,sZ,sS]
 refine' tkR 1 86 ab ?o19
 refine' tkQ 2 87 ab ?hyv ?o20
 case hyv=>
  intro wz hSw;have bk:=aM.out wz hSw;go_simp
  try rfl
 try simp only [Act.put,sT,sZ,sS]
 refine' tkR 3 88 ab ?o21
 refine' tkQ 4 89 ab ?hyv ?o22
 case hyv=>
  intro wz hSw;have bk:=aM.out wz hSw;go_simp
  try rfl
 try simp only [Act.put,sT,sZ,sS]
 refine tnQ 5 (fun K hK=>?_);go_simp;refine (bH ag (fL.out.under ab) (iu.out.under ab)).mono ?_;rintro eq aw ⟨rfl,cY⟩;have af:Below w1.heap.size w1 aw:=ab.trans (cY.mono ab.size);refine hK.out _ _ (fun _=>af) ?_;clear hK K
 try simp only [Act.put,sT,sZ,sS]
 refine' tkR 6 91 af ?o23
 cases q1
 case false=>
  refine' tsQ 7 92 af ?_
  refine' tsQ 8 93 af ?_
  refine' tsQ 9 94 af ?_
  refine' tsQ 10 95 af ?_
  refine' tsQ 11 96 af ?_
  refine' tsQ 12 97 af ?_
  refine' tsQ 13 98 af ?_
  refine' tkR 14 99 af ?o24
  refine' tkR 15 2 af ?o25
  refine zBN (by kernel_rfl) ?_ _;go_wp2;go_ret;refine ⟨?_,b1.trans (af.mono b1.size)⟩;rw [HR.out]
  first | rfl | simp
 case true=>
  refine' tkR 7 92 af ?o26
  refine' tkQ 8 93 af ?hyv ?o27
  case hyv=>
   intro wz hSw;have bk:=aM.out wz hSw;go_simp
   try rfl
  try simp only [Act.put,sT,sZ,sS]
  refine' tkR 9 94 af ?o28
  refine' tkQ 10 95 af ?hyv ?o29
  case hyv=>
   intro wz hSw;have bk:=aM.out wz hSw;go_simp
   try rfl
  try simp only [Act.put,sT,sZ,sS]
  refine' tkR 11 96 af ?o30
  refine' tkQ 12 97 af ?hyv ?o31
  case hyv=>
   intro wz hSw;have bk:=aM.out wz hSw;go_simp
   try rfl
  try simp only [Act.put,sT,sZ,sS]
  refine' zBS (i:=13) (oi:=⟨some 98,_,_,_,_,_⟩) (v:=.bool q2) rfl (by kernel_rfl) (by kernel_rfl) (by kernel_rfl) (by kernel_rfl) (fun _ _ _ h=>h) af (by rfl) ?hyv ?o32
  case hyv=>
   intro wz hSw;go_simp;rw [eK.out];unfold Sk.same;by_cases h1:t.o.elem=b.elem<;>by_cases h2:t.o.n=b.n<;>simp [h1,h2]
  try simp only [Act.put,sT,sZ,sS]
  refine' tkR 14 99 af ?o33
  refine' tkR 15 2 af ?o34
  refine zBN (by kernel_rfl) ?_ _;go_wp2;go_ret;refine ⟨?_,b1.trans (af.mono b1.size)⟩;rw [HR.out]
  first | rfl | simp
theorem fits9_any {ok:Nat->Prop} (t:TRv) {aa:Option Addr} {na ca:Nat} (a b c:Sk.Vr) (w:World) (hG:GlobK w) (hl:HVars ok w (.slice aa na ca) [a,b,c]) :
  Calls Tryz.prog 83 #[.agg #[.int .i64 9,.int .i64 t.k,.int .i64 t.out,.int .i64 t.n,.slice t.aA t.nA t.cA,.slice t.aE t.nE t.cE,.int .u8 t.o.elem,.int .i64 t.o.n,.slice aa na ca]] w fun e w'=>e=.returned (.bool (Sk.hasPlace a b c&&Sk.same t.o c))/\Below w.heap.size w w':=by
 have ed:=zBK hl;obtain ⟨ao,cap,hv,bm,aY,cc⟩:=hl.at;injection hv with v1 v2 v3;subst v1 v2 v3;obtain ⟨bl,ol,rfl,yl,x0,y0⟩:=cc 0 (by simp);obtain ⟨wb,x7,ee,bP,x1,y1⟩:=cc 1 (by simp);injection ee with ee;injection ee with e1 e2 e3;subst e1 e2;clear bP e3;obtain ⟨FT,Im,ee,ln,x2,y2⟩:=cc 2 (by simp);injection ee with ee;injection ee with e1 e2 e3;subst e1 e2;clear ln e3;simp at x0 y0 x1 y1 x2 y2;unfold maxLen at aY;obtain ⟨na,eH⟩:=nmQ ([a,b,c].length);have fq:na=3:=(by rw [eH];rfl);rw [<-eH] at bm ⊢;clear eH cc hl;subst fq;have b1:Below w.heap.size w (w.alloc (.cells #[.int .i64 9,.int .i64 t.k,.int .i64 t.out,.int .i64 t.n,.slice t.aA t.nA t.cA,.slice t.aE t.nE t.cE,.int .u8 t.o.elem,.int .i64 t.o.n,.slice (some ⟨bl,ol,none⟩) 3 ca] 109 (0,0))):=(Below.refl _ _).alloc zBR _;have kA:=zBO w (.cells #[.int .i64 9,.int .i64 t.k,.int .i64 t.out,.int .i64 t.n,.slice t.aA t.nA t.cA,.slice t.aE t.nE t.cE,.int .u8 t.o.elem,.int .i64 t.o.n,.slice (some ⟨bl,ol,none⟩) 3 ca] 109 (0,0));have fL:=zBK (hG.under b1);have iu:=zBK (ed.out.under b1);have ch:=(b1.cell (p:=⟨bl,ol,none⟩) yl).trans x0;have cj:=(b1.cell (p:=⟨bl,ol+1,none⟩) yl).trans y0;have dv:=(b1.cell (p:=⟨bl,ol+2,none⟩) yl).trans x1;have dw:=(b1.cell (p:=⟨bl,ol+2+1,none⟩) yl).trans y1;have gX:=(b1.cell (p:=⟨bl,ol+4,none⟩) yl).trans x2;have gY:=(b1.cell (p:=⟨bl,ol+4+1,none⟩) yl).trans y2;have ai:=Nat.lt_of_lt_of_le yl b1.size;clear x0 y0 x1 y1 x2 y2;obtain ⟨R,hR⟩:=nmQ ((Sk.hasPlace a b c&&Sk.same t.o c));rw [<-hR];have bH:∀ V,HVars ok V (.slice (some ⟨bl,ol,none⟩) 3 ca) [a,b,c]->Calls Tryz.prog 95 #[tv { t with op:=9 } (some ⟨bl,ol,none⟩) 3 ca] V fun e w'=>e=.returned (.bool (Sk.hasPlace a b c))/\Below V.heap.size V w':=fun V h2=>zCv { t with op:=9 } a b c V h2;obtain ⟨q1,bm⟩:=nmQ (Sk.hasPlace a b c);rw [<-bm] at hR bH;have ib:=zBK bm;obtain ⟨q2,aY⟩:=nmQ (Sk.same t.o c);rw [<-aY] at hR;have eK:=zBK aY;have HR:=zBK hR;clear hR hG bm aY ed;go_enter Tryz.func83,Tryz.ntmps83;go_upto_region 18 with fail;generalize w.alloc (.cells #[.int .i64 9,.int .i64 t.k,.int .i64 t.out,.int .i64 t.n,.slice t.aA t.nA t.cA,.slice t.aE t.nE t.cE,.int .u8 t.o.elem,.int .i64 t.o.n,.slice (some ⟨bl,ol,none⟩) 3 ca] 109 (0,0))=w1 at b1 kA fL iu ai ch cj dv dw gX gY ⊢;have u0:=coQ kA 0;have u1:=coQ kA 1;have u2:=coQ kA 2;have u3:=coQ kA 3;have u4:=coQ kA 4;have u5:=coQ kA 5;have u6:=coQ kA 6;have u7:=coQ kA 7;have u8:=coQ kA 8;simp at u0 u1 u2 u3 u4 u5 u6 u7 u8;have yA:=zBM kA;have aM:=zBK (fun (wz:World) (hSw:Below w1.heap.size w1 wz)=>And.intro ((hSw.cell (p:=⟨w.heap.size,0,none⟩) yA).trans u0) (And.intro ((hSw.cell (p:=⟨w.heap.size,1,none⟩) yA).trans u1) (And.intro ((hSw.cell (p:=⟨w.heap.size,2,none⟩) yA).trans u2) (And.intro ((hSw.cell (p:=⟨w.heap.size,3,none⟩) yA).trans u3) (And.intro ((hSw.cell (p:=⟨w.heap.size,4,none⟩) yA).trans u4) (And.intro ((hSw.cell (p:=⟨w.heap.size,5,none⟩) yA).trans u5) (And.intro ((hSw.cell (p:=⟨w.heap.size,6,none⟩) yA).trans u6) (And.intro ((hSw.cell (p:=⟨w.heap.size,7,none⟩) yA).trans u7) (And.intro ((hSw.cell (p:=⟨w.heap.size,8,none⟩) yA).trans u8) (And.intro ((hSw.cell (p:=⟨bl,ol,none⟩) ai).trans ch) (And.intro ((hSw.cell (p:=⟨bl,ol+1,none⟩) ai).trans cj) (And.intro ((hSw.cell (p:=⟨bl,ol+2,none⟩) ai).trans dv) (And.intro ((hSw.cell (p:=⟨bl,ol+2+1,none⟩) ai).trans dw) (And.intro ((hSw.cell (p:=⟨bl,ol+4,none⟩) ai).trans gX) ((hSw.cell (p:=⟨bl,ol+4+1,none⟩) ai).trans gY)))))))))))))));refine zBP (fun w'=>Below w1.heap.size w1 w') (fun _=>false) (by kernel_rfl) ?_;have ab:Below w1.heap.size w1 w1.drew:=(Below.refl _ _).drew;generalize w1.drew=ag at ab ⊢;refine' tkQ 0 111 ab ?hyv ?o35
 case hyv=>
  intro wz hSw;have bk:=aM.out wz hSw;go_simp
  try rfl
 try simp only [Act.put,sT,sZ,sS]
 refine tnQ 1 (fun K hK=>?_);go_simp;refine (bH ag (iu.out.under ab)).mono ?_;rintro eq aw ⟨rfl,cY⟩;have af:Below w1.heap.size w1 aw:=ab.trans (cY.mono ab.size);refine hK.out _ _ (fun _=>af) ?_;clear hK K
 try simp only [Act.put,sT,sZ,sS]
 refine' tkR 2 113 af ?o36
 cases q1
 case false=>
  refine' tsQ 3 114 af ?_
  refine' tsQ 4 115 af ?_
  refine' tsQ 5 116 af ?_
  refine' tsQ 6 117 af ?_
  refine' tsQ 7 118 af ?_
  refine' tsQ 8 119 af ?_
  refine' tsQ 9 120 af ?_
  refine' tkR 10 121 af ?o37
  refine' tkR 11 2 af ?o38
  refine zBN (by kernel_rfl) ?_ _;go_wp2;go_ret;refine ⟨?_,b1.trans (af.mono b1.size)⟩;rw [HR.out]
  first | rfl | simp
 case true=>
  refine' tkR 3 114 af ?o39
  refine' tkQ 4 115 af ?hyv ?o40
  case hyv=>
   intro wz hSw;have bk:=aM.out wz hSw;go_simp
   try rfl
  try simp only [Act.put,sT,sZ,sS]
  refine' tkR 5 116 af ?o41
  refine' tkQ 6 117 af ?hyv ?o42
  case hyv=>
   intro wz hSw;have bk:=aM.out wz hSw;go_simp
   try rfl
  try simp only [Act.put,sT,sZ,sS]
  refine' tkR 7 118 af ?o43
  refine' tkQ 8 119 af ?hyv ?o44
  case hyv=>
   intro wz hSw;have bk:=aM.out wz hSw;go_simp
   try rfl
  try simp only [Act.put,sT,sZ,sS]
  refine' zBS (i:=9) (oi:=⟨some 120,_,_,_,_,_⟩) (v:=.bool q2) rfl (by kernel_rfl) (by kernel_rfl) (by kernel_rfl) (by kernel_rfl) (fun _ _ _ h=>h) af (by rfl) ?hyv ?o45
  case hyv=>
   intro wz hSw;go_simp;rw [eK.out];unfold Sk.same;by_cases h1:t.o.elem=c.elem<;>by_cases h2:t.o.n=c.n<;>simp [h1,h2]
  try simp only [Act.put,sT,sZ,sS]
  refine' tkR 10 121 af ?o46
  refine' tkR 11 2 af ?o47
  refine zBN (by kernel_rfl) ?_ _;go_wp2;go_ret;refine ⟨?_,b1.trans (af.mono b1.size)⟩;rw [HR.out]
  first | rfl | simp
theorem fits10_any {ok:Nat->Prop} (t:TRv) {aa:Option Addr} {na ca:Nat} (a b c:Sk.Vr) (w:World) (hG:GlobK w) (hl:HVars ok w (.slice aa na ca) [a,b,c]) :
  Calls Tryz.prog 83 #[.agg #[.int .i64 10,.int .i64 t.k,.int .i64 t.out,.int .i64 t.n,.slice t.aA t.nA t.cA,.slice t.aE t.nE t.cE,.int .u8 t.o.elem,.int .i64 t.o.n,.slice aa na ca]] w fun e w'=>e=.returned (.bool (Sk.hasPlace a b c&&Sk.same t.o a))/\Below w.heap.size w w':=by
 have ed:=zBK hl;obtain ⟨ao,cap,hv,bm,aY,cc⟩:=hl.at;injection hv with v1 v2 v3;subst v1 v2 v3;obtain ⟨bl,ol,rfl,yl,x0,y0⟩:=cc 0 (by simp);obtain ⟨wb,x7,ee,bP,x1,y1⟩:=cc 1 (by simp);injection ee with ee;injection ee with e1 e2 e3;subst e1 e2;clear bP e3;obtain ⟨FT,Im,ee,ln,x2,y2⟩:=cc 2 (by simp);injection ee with ee;injection ee with e1 e2 e3;subst e1 e2;clear ln e3;simp at x0 y0 x1 y1 x2 y2;unfold maxLen at aY;obtain ⟨na,eH⟩:=nmQ ([a,b,c].length);have fq:na=3:=(by rw [eH];rfl);rw [<-eH] at bm ⊢;clear eH cc hl;subst fq;have b1:Below w.heap.size w (w.alloc (.cells #[.int .i64 10,.int .i64 t.k,.int .i64 t.out,.int .i64 t.n,.slice t.aA t.nA t.cA,.slice t.aE t.nE t.cE,.int .u8 t.o.elem,.int .i64 t.o.n,.slice (some ⟨bl,ol,none⟩) 3 ca] 109 (0,0))):=(Below.refl _ _).alloc zBR _;have kA:=zBO w (.cells #[.int .i64 10,.int .i64 t.k,.int .i64 t.out,.int .i64 t.n,.slice t.aA t.nA t.cA,.slice t.aE t.nE t.cE,.int .u8 t.o.elem,.int .i64 t.o.n,.slice (some ⟨bl,ol,none⟩) 3 ca] 109 (0,0));have fL:=zBK (hG.under b1);have iu:=zBK (ed.out.under b1);have ch:=(b1.cell (p:=⟨bl,ol,none⟩) yl).trans x0;have cj:=(b1.cell (p:=⟨bl,ol+1,none⟩) yl).trans y0;have dv:=(b1.cell (p:=⟨bl,ol+2,none⟩) yl).trans x1;have dw:=(b1.cell (p:=⟨bl,ol+2+1,none⟩) yl).trans y1;have gX:=(b1.cell (p:=⟨bl,ol+4,none⟩) yl).trans x2;have gY:=(b1.cell (p:=⟨bl,ol+4+1,none⟩) yl).trans y2;have ai:=Nat.lt_of_lt_of_le yl b1.size;clear x0 y0 x1 y1 x2 y2;obtain ⟨R,hR⟩:=nmQ ((Sk.hasPlace a b c&&Sk.same t.o a));rw [<-hR];have bH:∀ V,HVars ok V (.slice (some ⟨bl,ol,none⟩) 3 ca) [a,b,c]->Calls Tryz.prog 95 #[tv { t with op:=10 } (some ⟨bl,ol,none⟩) 3 ca] V fun e w'=>e=.returned (.bool (Sk.hasPlace a b c))/\Below V.heap.size V w':=fun V h2=>zCv { t with op:=10 } a b c V h2;obtain ⟨q1,bm⟩:=nmQ (Sk.hasPlace a b c);rw [<-bm] at hR bH;have ib:=zBK bm;obtain ⟨q2,aY⟩:=nmQ (Sk.same t.o a);rw [<-aY] at hR;have eK:=zBK aY;have HR:=zBK hR;clear hR hG bm aY ed;go_enter Tryz.func83,Tryz.ntmps83;go_upto_region 20 with fail;generalize w.alloc (.cells #[.int .i64 10,.int .i64 t.k,.int .i64 t.out,.int .i64 t.n,.slice t.aA t.nA t.cA,.slice t.aE t.nE t.cE,.int .u8 t.o.elem,.int .i64 t.o.n,.slice (some ⟨bl,ol,none⟩) 3 ca] 109 (0,0))=w1 at b1 kA fL iu ai ch cj dv dw gX gY ⊢;have u0:=coQ kA 0;have u1:=coQ kA 1;have u2:=coQ kA 2;have u3:=coQ kA 3;have u4:=coQ kA 4;have u5:=coQ kA 5;have u6:=coQ kA 6;have u7:=coQ kA 7;have u8:=coQ kA 8;simp at u0 u1 u2 u3 u4 u5 u6 u7 u8;have yA:=zBM kA;have aM:=zBK (fun (wz:World) (hSw:Below w1.heap.size w1 wz)=>And.intro ((hSw.cell (p:=⟨w.heap.size,0,none⟩) yA).trans u0) (And.intro ((hSw.cell (p:=⟨w.heap.size,1,none⟩) yA).trans u1) (And.intro ((hSw.cell (p:=⟨w.heap.size,2,none⟩) yA).trans u2) (And.intro ((hSw.cell (p:=⟨w.heap.size,3,none⟩) yA).trans u3) (And.intro ((hSw.cell (p:=⟨w.heap.size,4,none⟩) yA).trans u4) (And.intro ((hSw.cell (p:=⟨w.heap.size,5,none⟩) yA).trans u5) (And.intro ((hSw.cell (p:=⟨w.heap.size,6,none⟩) yA).trans u6) (And.intro ((hSw.cell (p:=⟨w.heap.size,7,none⟩) yA).trans u7) (And.intro ((hSw.cell (p:=⟨w.heap.size,8,none⟩) yA).trans u8) (And.intro ((hSw.cell (p:=⟨bl,ol,none⟩) ai).trans ch) (And.intro ((hSw.cell (p:=⟨bl,ol+1,none⟩) ai).trans cj) (And.intro ((hSw.cell (p:=⟨bl,ol+2,none⟩) ai).trans dv) (And.intro ((hSw.cell (p:=⟨bl,ol+2+1,none⟩) ai).trans dw) (And.intro ((hSw.cell (p:=⟨bl,ol+4,none⟩) ai).trans gX) ((hSw.cell (p:=⟨bl,ol+4+1,none⟩) ai).trans gY)))))))))))))));refine zBP (fun w'=>Below w1.heap.size w1 w') (fun _=>false) (by kernel_rfl) ?_;have ab:Below w1.heap.size w1 w1.drew:=(Below.refl _ _).drew;generalize w1.drew=ag at ab ⊢;refine' tkQ 0 124 ab ?hyv ?o48
 case hyv=>
  intro wz hSw;have bk:=aM.out wz hSw;go_simp
  try rfl
 try simp only [Act.put,sT,sZ,sS]
 refine tnQ 1 (fun K hK=>?_);go_simp;refine (bH ag (iu.out.under ab)).mono ?_;rintro eq aw ⟨rfl,cY⟩;have af:Below w1.heap.size w1 aw:=ab.trans (cY.mono ab.size);refine hK.out _ _ (fun _=>af) ?_;clear hK K
 try simp only [Act.put,sT,sZ,sS]
 refine' tkR 2 126 af ?o49
 cases q1
 case false=>
  refine' tsQ 3 127 af ?_
  refine' tsQ 4 128 af ?_
  refine' tsQ 5 129 af ?_
  refine' tsQ 6 130 af ?_
  refine' tsQ 7 131 af ?_
  refine' tsQ 8 132 af ?_
  refine' tsQ 9 133 af ?_
  refine' tkR 10 134 af ?o50
  refine' tkR 11 2 af ?o51
  refine zBN (by kernel_rfl) ?_ _;go_wp2;go_ret;refine ⟨?_,b1.trans (af.mono b1.size)⟩;rw [HR.out]
  first | rfl | simp
 case true=>
  refine' tkR 3 127 af ?o52
  refine' tkQ 4 128 af ?hyv ?o53
  case hyv=>
   intro wz hSw;have bk:=aM.out wz hSw;go_simp
   try rfl
  try simp only [Act.put,sT,sZ,sS]
  refine' tkR 5 129 af ?o54
  refine' tkQ 6 130 af ?hyv ?o55
  case hyv=>
   intro wz hSw;have bk:=aM.out wz hSw;go_simp
   try rfl
  try simp only [Act.put,sT,sZ,sS]
  refine' tkR 7 131 af ?o56
  refine' tkQ 8 132 af ?hyv ?o57
  case hyv=>
   intro wz hSw;have bk:=aM.out wz hSw;go_simp
   try rfl
  try simp only [Act.put,sT,sZ,sS]
  refine' zBS (i:=9) (oi:=⟨some 133,_,_,_,_,_⟩) (v:=.bool q2) rfl (by kernel_rfl) (by kernel_rfl) (by kernel_rfl) (by kernel_rfl) (fun _ _ _ h=>h) af (by rfl) ?hyv ?o58
  case hyv=>
   intro wz hSw;go_simp;rw [eK.out];unfold Sk.same;by_cases h1:t.o.elem=a.elem<;>by_cases h2:t.o.n=a.n<;>simp [h1,h2]
  try simp only [Act.put,sT,sZ,sS]
  refine' tkR 10 134 af ?o59
  refine' tkR 11 2 af ?o60
  refine zBN (by kernel_rfl) ?_ _;go_wp2;go_ret;refine ⟨?_,b1.trans (af.mono b1.size)⟩;rw [HR.out]
  first | rfl | simp
end Go.Proofs.YtfhghlpfeeiaeaaGreatDoor
