import Derived.Test.YtfhghlpfeeiaeaaGreatDoorX05
import Derived.Deep.Cut
import Derived.Deep.LoopGhost
import Derived.IntWalk
import Derived.Lib.Hide
import Derived.WalkKit
import Derived.WalkSpells
set_option linter.unusedVariables false
set_option linter.unusedSimpArgs false
set_option maxHeartbeats 64000000
set_option maxRecDepth 100000
namespace Go.Proofs.YtfhghlpfeeiaeaaGreatDoor
open Go.RowKit Go.IntWalk
theorem fits2_any {ok:Nat->Prop} (t:TRv) {aa:Option Addr} {na ca:Nat} (a:Sk.Vr) (w:World) (hG:GlobK w) (hl:HVars ok w (.slice aa na ca) [a]) :
  Calls Tryz.prog 83 #[.agg #[.int .i64 2,.int .i64 t.k,.int .i64 t.out,.int .i64 t.n,.slice t.aA t.nA t.cA,.slice t.aE t.nE t.cE,.int .u8 t.o.elem,.int .i64 t.o.n,.slice aa na ca]] w fun e w'=>e=.returned (.bool (Sk.same t.o a))/\Below w.heap.size w w':=by
 have ed:=zBK hl;obtain ⟨ao,cap,hv,bm,aY,cc⟩:=hl.at;injection hv with v1 v2 v3;subst v1 v2 v3;obtain ⟨bl,ol,rfl,yl,x0,y0⟩:=cc 0 (by simp);simp at x0 y0;unfold maxLen at aY;obtain ⟨na,eH⟩:=nmQ ([a].length);have fq:na=1:=(by rw [eH];rfl);rw [<-eH] at bm ⊢;clear eH cc hl;subst fq;have b1:Below w.heap.size w (w.alloc (.cells #[.int .i64 2,.int .i64 t.k,.int .i64 t.out,.int .i64 t.n,.slice t.aA t.nA t.cA,.slice t.aE t.nE t.cE,.int .u8 t.o.elem,.int .i64 t.o.n,.slice (some ⟨bl,ol,none⟩) 1 ca] 109 (0,0))):=(Below.refl _ _).alloc zBR _;have kA:=zBO w (.cells #[.int .i64 2,.int .i64 t.k,.int .i64 t.out,.int .i64 t.n,.slice t.aA t.nA t.cA,.slice t.aE t.nE t.cE,.int .u8 t.o.elem,.int .i64 t.o.n,.slice (some ⟨bl,ol,none⟩) 1 ca] 109 (0,0));have fL:=zBK (hG.under b1);have iu:=zBK (ed.out.under b1);have ch:=(b1.cell (p:=⟨bl,ol,none⟩) yl).trans x0;have cj:=(b1.cell (p:=⟨bl,ol+1,none⟩) yl).trans y0;have ai:=Nat.lt_of_lt_of_le yl b1.size;clear x0 y0;obtain ⟨R,hR⟩:=nmQ ((Sk.same t.o a));rw [<-hR];obtain ⟨q1,bm⟩:=nmQ (Sk.same t.o a);rw [<-bm] at hR;have ib:=zBK bm;have HR:=zBK hR;clear hR hG bm ed;go_enter Tryz.func83,Tryz.ntmps83;go_upto_region 5 with fail;generalize w.alloc (.cells #[.int .i64 2,.int .i64 t.k,.int .i64 t.out,.int .i64 t.n,.slice t.aA t.nA t.cA,.slice t.aE t.nE t.cE,.int .u8 t.o.elem,.int .i64 t.o.n,.slice (some ⟨bl,ol,none⟩) 1 ca] 109 (0,0))=w1 at b1 kA fL iu ai ch cj ⊢;have u0:=coQ kA 0;have u1:=coQ kA 1;have u2:=coQ kA 2;have u3:=coQ kA 3;have u4:=coQ kA 4;have u5:=coQ kA 5;have u6:=coQ kA 6;have u7:=coQ kA 7;have u8:=coQ kA 8;simp at u0 u1 u2 u3 u4 u5 u6 u7 u8;have yA:=zBM kA;have aM:=zBK (fun (wz:World) (hSw:Below w1.heap.size w1 wz)=>And.intro ((hSw.cell (p:=⟨w.heap.size,0,none⟩) yA).trans u0) (And.intro ((hSw.cell (p:=⟨w.heap.size,1,none⟩) yA).trans u1) (And.intro ((hSw.cell (p:=⟨w.heap.size,2,none⟩) yA).trans u2) (And.intro ((hSw.cell (p:=⟨w.heap.size,3,none⟩) yA).trans u3) (And.intro ((hSw.cell (p:=⟨w.heap.size,4,none⟩) yA).trans u4) (And.intro ((hSw.cell (p:=⟨w.heap.size,5,none⟩) yA).trans u5) (And.intro ((hSw.cell (p:=⟨w.heap.size,6,none⟩) yA).trans u6) (And.intro ((hSw.cell (p:=⟨w.heap.size,7,none⟩) yA).trans u7) (And.intro ((hSw.cell (p:=⟨w.heap.size,8,none⟩) yA).trans u8) (And.intro ((hSw.cell (p:=⟨bl,ol,none⟩) ai).trans ch) ((hSw.cell (p:=⟨bl,ol+1,none⟩) ai).trans cj)))))))))));refine zBP (fun w'=>Below w1.heap.size w1 w') (fun _=>false) (by kernel_rfl) ?_;have ab:Below w1.heap.size w1 w1.drew:=(Below.refl _ _).drew;generalize w1.drew=ag at ab ⊢;refine' tkR 0 26 ab ?o1
 refine' tkQ 1 27 ab ?hyv ?o2
 case hyv=>
  intro wz hSw;have bk:=aM.out wz hSw;go_simp
  try rfl
 try simp only [Act.put,sT,sZ,sS]
 refine' tkR 2 28 ab ?o3
 refine' tkQ 3 29 ab ?hyv ?o4
 case hyv=>
  intro wz hSw;have bk:=aM.out wz hSw;go_simp
  try rfl
 try simp only [Act.put,sT,sZ,sS]
 refine' tkR 4 30 ab ?o5
 refine' tkQ 5 31 ab ?hyv ?o6
 case hyv=>
  intro wz hSw;have bk:=aM.out wz hSw;go_simp
  try rfl
 try simp only [Act.put,sT,sZ,sS]
 refine' zBS (i:=6) (oi:=⟨some 32,_,_,_,_,_⟩) (v:=.bool q1) rfl (by kernel_rfl) (by kernel_rfl) (by kernel_rfl) (by kernel_rfl) (fun _ _ _ h=>h) ab (by rfl) ?hyv ?o7
 case hyv=>
  intro wz hSw;go_simp;rw [ib.out];unfold Sk.same;by_cases h1:t.o.elem=a.elem<;>by_cases h2:t.o.n=a.n<;>simp [h1,h2]
 try simp only [Act.put,sT,sZ,sS]
 refine' tkR 7 2 ab ?o8
 refine zBN (by kernel_rfl) ?_ _;go_wp2;go_ret;refine ⟨?_,b1.trans (ab.mono b1.size)⟩;rw [HR.out]
 first | rfl | simp
theorem fits5_any {ok:Nat->Prop} (t:TRv) {aa:Option Addr} {na ca:Nat} (a b c:Sk.Vr) (w:World) (hG:GlobK w) (hl:HVars ok w (.slice aa na ca) [a,b,c]) :
  Calls Tryz.prog 83 #[.agg #[.int .i64 5,.int .i64 t.k,.int .i64 t.out,.int .i64 t.n,.slice t.aA t.nA t.cA,.slice t.aE t.nE t.cE,.int .u8 t.o.elem,.int .i64 t.o.n,.slice aa na ca]] w fun e w'=>e=.returned (.bool ((Sk.same a (Sk.sc 98)&&Sk.same b c)&&Sk.same t.o b))/\Below w.heap.size w w':=by
 have ed:=zBK hl;obtain ⟨ao,cap,hv,bm,aY,cc⟩:=hl.at;injection hv with v1 v2 v3;subst v1 v2 v3;obtain ⟨bl,ol,rfl,yl,x0,y0⟩:=cc 0 (by simp);obtain ⟨wb,x7,ee,bP,x1,y1⟩:=cc 1 (by simp);injection ee with ee;injection ee with e1 e2 e3;subst e1 e2;clear bP e3;obtain ⟨FT,Im,ee,ln,x2,y2⟩:=cc 2 (by simp);injection ee with ee;injection ee with e1 e2 e3;subst e1 e2;clear ln e3;simp at x0 y0 x1 y1 x2 y2;unfold maxLen at aY;obtain ⟨na,eH⟩:=nmQ ([a,b,c].length);have fq:na=3:=(by rw [eH];rfl);rw [<-eH] at bm ⊢;clear eH cc hl;subst fq;have b1:Below w.heap.size w (w.alloc (.cells #[.int .i64 5,.int .i64 t.k,.int .i64 t.out,.int .i64 t.n,.slice t.aA t.nA t.cA,.slice t.aE t.nE t.cE,.int .u8 t.o.elem,.int .i64 t.o.n,.slice (some ⟨bl,ol,none⟩) 3 ca] 109 (0,0))):=(Below.refl _ _).alloc zBR _;have kA:=zBO w (.cells #[.int .i64 5,.int .i64 t.k,.int .i64 t.out,.int .i64 t.n,.slice t.aA t.nA t.cA,.slice t.aE t.nE t.cE,.int .u8 t.o.elem,.int .i64 t.o.n,.slice (some ⟨bl,ol,none⟩) 3 ca] 109 (0,0));have fL:=zBK (hG.under b1);have iu:=zBK (ed.out.under b1);have ch:=(b1.cell (p:=⟨bl,ol,none⟩) yl).trans x0;have cj:=(b1.cell (p:=⟨bl,ol+1,none⟩) yl).trans y0;have dv:=(b1.cell (p:=⟨bl,ol+2,none⟩) yl).trans x1;have dw:=(b1.cell (p:=⟨bl,ol+2+1,none⟩) yl).trans y1;have gX:=(b1.cell (p:=⟨bl,ol+4,none⟩) yl).trans x2;have gY:=(b1.cell (p:=⟨bl,ol+4+1,none⟩) yl).trans y2;have ai:=Nat.lt_of_lt_of_le yl b1.size;clear x0 y0 x1 y1 x2 y2;obtain ⟨R,hR⟩:=nmQ (((Sk.same a (Sk.sc 98)&&Sk.same b c)&&Sk.same t.o b));rw [<-hR];obtain ⟨q1,bm⟩:=nmQ (Sk.same a (Sk.sc 98));rw [<-bm] at hR;have ib:=zBK bm;obtain ⟨q2,aY⟩:=nmQ (Sk.same b c);rw [<-aY] at hR;have eK:=zBK aY;obtain ⟨q3,da⟩:=nmQ (Sk.same t.o b);rw [<-da] at hR;have ja:=zBK da;have HR:=zBK hR;clear hR hG bm aY da ed;go_enter Tryz.func83,Tryz.ntmps83;go_upto_region 10 with fail;generalize w.alloc (.cells #[.int .i64 5,.int .i64 t.k,.int .i64 t.out,.int .i64 t.n,.slice t.aA t.nA t.cA,.slice t.aE t.nE t.cE,.int .u8 t.o.elem,.int .i64 t.o.n,.slice (some ⟨bl,ol,none⟩) 3 ca] 109 (0,0))=w1 at b1 kA fL iu ai ch cj dv dw gX gY ⊢;have u0:=coQ kA 0;have u1:=coQ kA 1;have u2:=coQ kA 2;have u3:=coQ kA 3;have u4:=coQ kA 4;have u5:=coQ kA 5;have u6:=coQ kA 6;have u7:=coQ kA 7;have u8:=coQ kA 8;simp at u0 u1 u2 u3 u4 u5 u6 u7 u8;have yA:=zBM kA;have aM:=zBK (fun (wz:World) (hSw:Below w1.heap.size w1 wz)=>And.intro ((hSw.cell (p:=⟨w.heap.size,0,none⟩) yA).trans u0) (And.intro ((hSw.cell (p:=⟨w.heap.size,1,none⟩) yA).trans u1) (And.intro ((hSw.cell (p:=⟨w.heap.size,2,none⟩) yA).trans u2) (And.intro ((hSw.cell (p:=⟨w.heap.size,3,none⟩) yA).trans u3) (And.intro ((hSw.cell (p:=⟨w.heap.size,4,none⟩) yA).trans u4) (And.intro ((hSw.cell (p:=⟨w.heap.size,5,none⟩) yA).trans u5) (And.intro ((hSw.cell (p:=⟨w.heap.size,6,none⟩) yA).trans u6) (And.intro ((hSw.cell (p:=⟨w.heap.size,7,none⟩) yA).trans u7) (And.intro ((hSw.cell (p:=⟨w.heap.size,8,none⟩) yA).trans u8) (And.intro ((hSw.cell (p:=⟨bl,ol,none⟩) ai).trans ch) (And.intro ((hSw.cell (p:=⟨bl,ol+1,none⟩) ai).trans cj) (And.intro ((hSw.cell (p:=⟨bl,ol+2,none⟩) ai).trans dv) (And.intro ((hSw.cell (p:=⟨bl,ol+2+1,none⟩) ai).trans dw) (And.intro ((hSw.cell (p:=⟨bl,ol+4,none⟩) ai).trans gX) ((hSw.cell (p:=⟨bl,ol+4+1,none⟩) ai).trans gY)))))))))))))));refine zBP (fun w'=>Below w1.heap.size w1 w') (fun _=>false) (by kernel_rfl) ?_;have ab:Below w1.heap.size w1 w1.drew:=(Below.refl _ _).drew;generalize w1.drew=ag at ab ⊢;refine' tkR 0 40 ab ?o9
 refine' tkQ 1 41 ab ?hyv ?o10
 case hyv=>
  intro wz hSw;have bk:=aM.out wz hSw;go_simp
  try rfl
 try simp only [Act.put,sT,sZ,sS]
 refine' tkR 2 42 ab ?o11
 refine' tkQ 3 43 ab ?hyv ?o12
 case hyv=>
  intro wz hSw;have bk:=aM.out wz hSw;go_simp
  try rfl
 try simp only [Act.put,sT,sZ,sS]
 refine tnQ 4 (fun K hK=>?_);go_simp;refine (zBv 98 ag).mono ?_;rintro eq aw ⟨rfl,cY⟩;have af:Below w1.heap.size w1 aw:=ab.trans (cY.mono ab.size);refine hK.out _ _ (fun _=>af) ?_;clear hK K
 try simp only [Act.put,sT,sZ,sS]
 refine' zBS (i:=5) (oi:=⟨some 45,_,_,_,_,_⟩) (v:=.bool q1) rfl (by kernel_rfl) (by kernel_rfl) (by kernel_rfl) (by kernel_rfl) (fun _ _ _ h=>h) af (by rfl) ?hyv ?o13
 case hyv=>
  intro wz hSw;go_simp;rw [ib.out];unfold Sk.same;by_cases h1:a.elem=(Sk.sc 98).elem<;>by_cases h2:a.n=(Sk.sc 98).n<;>simp [h1,h2]
 try simp only [Act.put,sT,sZ,sS]
 refine' tkR 6 46 af ?o14
 cases q1
 case false=>
  refine' tsQ 7 47 af ?_
  refine' tsQ 8 48 af ?_
  refine' tsQ 9 49 af ?_
  refine' tsQ 10 50 af ?_
  refine' tsQ 11 51 af ?_
  refine' tsQ 12 52 af ?_
  refine' tsQ 13 53 af ?_
  refine' tsQ 14 54 af ?_
  refine' tsQ 15 55 af ?_
  refine' tkR 16 56 af ?o15
  refine' tkR 17 57 af ?o16
  refine' tsQ 18 58 af ?_
  refine' tsQ 19 59 af ?_
  refine' tsQ 20 60 af ?_
  refine' tsQ 21 61 af ?_
  refine' tsQ 22 62 af ?_
  refine' tsQ 23 63 af ?_
  refine' tsQ 24 64 af ?_
  refine' tkR 25 65 af ?o17
  refine' tkR 26 2 af ?o18
  refine zBN (by kernel_rfl) ?_ _;go_wp2;go_ret;refine ⟨?_,b1.trans (af.mono b1.size)⟩;rw [HR.out]
  first | rfl | simp
 case true=>
  refine' tkR 7 47 af ?o19
  refine' tkQ 8 48 af ?hyv ?o20
  case hyv=>
   intro wz hSw;have bk:=aM.out wz hSw;go_simp
   try rfl
  try simp only [Act.put,sT,sZ,sS]
  refine' tkR 9 49 af ?o21
  refine' tkQ 10 50 af ?hyv ?o22
  case hyv=>
   intro wz hSw;have bk:=aM.out wz hSw;go_simp
   try rfl
  try simp only [Act.put,sT,sZ,sS]
  refine' tkR 11 51 af ?o23
  refine' tkQ 12 52 af ?hyv ?o24
  case hyv=>
   intro wz hSw;have bk:=aM.out wz hSw;go_simp
   try rfl
  try simp only [Act.put,sT,sZ,sS]
  refine' tkR 13 53 af ?o25
  refine' tkQ 14 54 af ?hyv ?o26
  case hyv=>
   intro wz hSw;have bk:=aM.out wz hSw;go_simp
   try rfl
  try simp only [Act.put,sT,sZ,sS]
  refine' zBS (i:=15) (oi:=⟨some 55,_,_,_,_,_⟩) (v:=.bool q2) rfl (by kernel_rfl) (by kernel_rfl) (by kernel_rfl) (by kernel_rfl) (fun _ _ _ h=>h) af (by rfl) ?hyv ?o27
  case hyv=>
   intro wz hSw;go_simp;rw [eK.out];unfold Sk.same;by_cases h1:b.elem=c.elem<;>by_cases h2:b.n=c.n<;>simp [h1,h2]
  try simp only [Act.put,sT,sZ,sS]
  refine' tkR 16 56 af ?o28
  refine' tkR 17 57 af ?o29
  cases q2
  case false=>
   refine' tsQ 18 58 af ?_
   refine' tsQ 19 59 af ?_
   refine' tsQ 20 60 af ?_
   refine' tsQ 21 61 af ?_
   refine' tsQ 22 62 af ?_
   refine' tsQ 23 63 af ?_
   refine' tsQ 24 64 af ?_
   refine' tkR 25 65 af ?o30
   refine' tkR 26 2 af ?o31
   refine zBN (by kernel_rfl) ?_ _;go_wp2;go_ret;refine ⟨?_,b1.trans (af.mono b1.size)⟩;rw [HR.out]
   first | rfl | simp
  case true=>
   refine' tkR 18 58 af ?o32
   refine' tkQ 19 59 af ?hyv ?o33
   case hyv=>
    intro wz hSw;have bk:=aM.out wz hSw;go_simp
    try rfl
   try simp only [Act.put,sT,sZ,sS]
   refine' tkR 20 60 af ?o34
   refine' tkQ 21 61 af ?hyv ?o35
   case hyv=>
    intro wz hSw;have bk:=aM.out wz hSw;go_simp
    try rfl
   try simp only [Act.put,sT,sZ,sS]
   refine' tkR 22 62 af ?o36
   refine' tkQ 23 63 af ?hyv ?o37
   case hyv=>
    intro wz hSw;have bk:=aM.out wz hSw;go_simp
    try rfl
   try simp only [Act.put,sT,sZ,sS]
   refine' zBS (i:=24) (oi:=⟨some 64,_,_,_,_,_⟩) (v:=.bool q3) rfl (by kernel_rfl) (by kernel_rfl) (by kernel_rfl) (by kernel_rfl) (fun _ _ _ h=>h) af (by rfl) ?hyv ?o38
   case hyv=>
    intro wz hSw;go_simp;rw [ja.out];unfold Sk.same;by_cases h1:t.o.elem=b.elem<;>by_cases h2:t.o.n=b.n<;>simp [h1,h2]
   try simp only [Act.put,sT,sZ,sS]
   refine' tkR 25 65 af ?o39
   refine' tkR 26 2 af ?o40
   refine zBN (by kernel_rfl) ?_ _;go_wp2;go_ret;refine ⟨?_,b1.trans (af.mono b1.size)⟩;rw [HR.out]
   first | rfl | simp
theorem fits13_any {ok:Nat->Prop} (t:TRv) {aa:Option Addr} {na ca:Nat} (a b:Sk.Vr) (w:World) (hG:GlobK w) (hl:HVars ok w (.slice aa na ca) [a,b]) :
  Calls Tryz.prog 83 #[.agg #[.int .i64 13,.int .i64 t.k,.int .i64 t.out,.int .i64 t.n,.slice t.aA t.nA t.cA,.slice t.aE t.nE t.cE,.int .u8 t.o.elem,.int .i64 t.o.n,.slice aa na ca]] w fun e w'=>e=.returned (.bool (Sk.same a b&&Sk.same t.o a))/\Below w.heap.size w w':=by
 have ed:=zBK hl;obtain ⟨ao,cap,hv,bm,aY,cc⟩:=hl.at;injection hv with v1 v2 v3;subst v1 v2 v3;obtain ⟨bl,ol,rfl,yl,x0,y0⟩:=cc 0 (by simp);obtain ⟨wb,x7,ee,bP,x1,y1⟩:=cc 1 (by simp);injection ee with ee;injection ee with e1 e2 e3;subst e1 e2;clear bP e3;simp at x0 y0 x1 y1;unfold maxLen at aY;obtain ⟨na,eH⟩:=nmQ ([a,b].length);have fq:na=2:=(by rw [eH];rfl);rw [<-eH] at bm ⊢;clear eH cc hl;subst fq;have b1:Below w.heap.size w (w.alloc (.cells #[.int .i64 13,.int .i64 t.k,.int .i64 t.out,.int .i64 t.n,.slice t.aA t.nA t.cA,.slice t.aE t.nE t.cE,.int .u8 t.o.elem,.int .i64 t.o.n,.slice (some ⟨bl,ol,none⟩) 2 ca] 109 (0,0))):=(Below.refl _ _).alloc zBR _;have kA:=zBO w (.cells #[.int .i64 13,.int .i64 t.k,.int .i64 t.out,.int .i64 t.n,.slice t.aA t.nA t.cA,.slice t.aE t.nE t.cE,.int .u8 t.o.elem,.int .i64 t.o.n,.slice (some ⟨bl,ol,none⟩) 2 ca] 109 (0,0));have fL:=zBK (hG.under b1);have iu:=zBK (ed.out.under b1);have ch:=(b1.cell (p:=⟨bl,ol,none⟩) yl).trans x0;have cj:=(b1.cell (p:=⟨bl,ol+1,none⟩) yl).trans y0;have dv:=(b1.cell (p:=⟨bl,ol+2,none⟩) yl).trans x1;have dw:=(b1.cell (p:=⟨bl,ol+2+1,none⟩) yl).trans y1;have ai:=Nat.lt_of_lt_of_le yl b1.size;clear x0 y0 x1 y1;obtain ⟨R,hR⟩:=nmQ ((Sk.same a b&&Sk.same t.o a));rw [<-hR];obtain ⟨q1,bm⟩:=nmQ (Sk.same a b);rw [<-bm] at hR;have ib:=zBK bm;obtain ⟨q2,aY⟩:=nmQ (Sk.same t.o a);rw [<-aY] at hR;have eK:=zBK aY;have HR:=zBK hR;clear hR hG bm aY ed;go_enter Tryz.func83,Tryz.ntmps83;go_upto_region 25 with fail;generalize w.alloc (.cells #[.int .i64 13,.int .i64 t.k,.int .i64 t.out,.int .i64 t.n,.slice t.aA t.nA t.cA,.slice t.aE t.nE t.cE,.int .u8 t.o.elem,.int .i64 t.o.n,.slice (some ⟨bl,ol,none⟩) 2 ca] 109 (0,0))=w1 at b1 kA fL iu ai ch cj dv dw ⊢;have u0:=coQ kA 0;have u1:=coQ kA 1;have u2:=coQ kA 2;have u3:=coQ kA 3;have u4:=coQ kA 4;have u5:=coQ kA 5;have u6:=coQ kA 6;have u7:=coQ kA 7;have u8:=coQ kA 8;simp at u0 u1 u2 u3 u4 u5 u6 u7 u8;have yA:=zBM kA;have aM:=zBK (fun (wz:World) (hSw:Below w1.heap.size w1 wz)=>And.intro ((hSw.cell (p:=⟨w.heap.size,0,none⟩) yA).trans u0) (And.intro ((hSw.cell (p:=⟨w.heap.size,1,none⟩) yA).trans u1) (And.intro ((hSw.cell (p:=⟨w.heap.size,2,none⟩) yA).trans u2) (And.intro ((hSw.cell (p:=⟨w.heap.size,3,none⟩) yA).trans u3) (And.intro ((hSw.cell (p:=⟨w.heap.size,4,none⟩) yA).trans u4) (And.intro ((hSw.cell (p:=⟨w.heap.size,5,none⟩) yA).trans u5) (And.intro ((hSw.cell (p:=⟨w.heap.size,6,none⟩) yA).trans u6) (And.intro ((hSw.cell (p:=⟨w.heap.size,7,none⟩) yA).trans u7) (And.intro ((hSw.cell (p:=⟨w.heap.size,8,none⟩) yA).trans u8) (And.intro ((hSw.cell (p:=⟨bl,ol,none⟩) ai).trans ch) (And.intro ((hSw.cell (p:=⟨bl,ol+1,none⟩) ai).trans cj) (And.intro ((hSw.cell (p:=⟨bl,ol+2,none⟩) ai).trans dv) ((hSw.cell (p:=⟨bl,ol+2+1,none⟩) ai).trans dw)))))))))))));refine zBP (fun w'=>Below w1.heap.size w1 w') (fun _=>false) (by kernel_rfl) ?_;have ab:Below w1.heap.size w1 w1.drew:=(Below.refl _ _).drew;generalize w1.drew=ag at ab ⊢;refine' tkR 0 214 ab ?o41
 refine' tkQ 1 215 ab ?hyv ?o42
 case hyv=>
  intro wz hSw;have bk:=aM.out wz hSw;go_simp
  try rfl
 try simp only [Act.put,sT,sZ,sS]
 refine' tkR 2 216 ab ?o43
 refine' tkQ 3 217 ab ?hyv ?o44
 case hyv=>
  intro wz hSw;have bk:=aM.out wz hSw;go_simp
  try rfl
 try simp only [Act.put,sT,sZ,sS]
 refine' tkR 4 218 ab ?o45
 refine' tkQ 5 219 ab ?hyv ?o46
 case hyv=>
  intro wz hSw;have bk:=aM.out wz hSw;go_simp
  try rfl
 try simp only [Act.put,sT,sZ,sS]
 refine' tkR 6 220 ab ?o47
 refine' tkQ 7 221 ab ?hyv ?o48
 case hyv=>
  intro wz hSw;have bk:=aM.out wz hSw;go_simp
  try rfl
 try simp only [Act.put,sT,sZ,sS]
 refine' zBS (i:=8) (oi:=⟨some 222,_,_,_,_,_⟩) (v:=.bool q1) rfl (by kernel_rfl) (by kernel_rfl) (by kernel_rfl) (by kernel_rfl) (fun _ _ _ h=>h) ab (by rfl) ?hyv ?o49
 case hyv=>
  intro wz hSw;go_simp;rw [ib.out];unfold Sk.same;by_cases h1:a.elem=b.elem<;>by_cases h2:a.n=b.n<;>simp [h1,h2]
 try simp only [Act.put,sT,sZ,sS]
 refine' tkR 9 223 ab ?o50
 cases q1
 case false=>
  refine' tsQ 10 224 ab ?_
  refine' tsQ 11 225 ab ?_
  refine' tsQ 12 226 ab ?_
  refine' tsQ 13 227 ab ?_
  refine' tsQ 14 228 ab ?_
  refine' tsQ 15 229 ab ?_
  refine' tsQ 16 230 ab ?_
  refine' tkR 17 231 ab ?o51
  refine' tkR 18 2 ab ?o52
  refine zBN (by kernel_rfl) ?_ _;go_wp2;go_ret;refine ⟨?_,b1.trans (ab.mono b1.size)⟩;rw [HR.out]
  first | rfl | simp
 case true=>
  refine' tkR 10 224 ab ?o53
  refine' tkQ 11 225 ab ?hyv ?o54
  case hyv=>
   intro wz hSw;have bk:=aM.out wz hSw;go_simp
   try rfl
  try simp only [Act.put,sT,sZ,sS]
  refine' tkR 12 226 ab ?o55
  refine' tkQ 13 227 ab ?hyv ?o56
  case hyv=>
   intro wz hSw;have bk:=aM.out wz hSw;go_simp
   try rfl
  try simp only [Act.put,sT,sZ,sS]
  refine' tkR 14 228 ab ?o57
  refine' tkQ 15 229 ab ?hyv ?o58
  case hyv=>
   intro wz hSw;have bk:=aM.out wz hSw;go_simp
   try rfl
  try simp only [Act.put,sT,sZ,sS]
  refine' zBS (i:=16) (oi:=⟨some 230,_,_,_,_,_⟩) (v:=.bool q2) rfl (by kernel_rfl) (by kernel_rfl) (by kernel_rfl) (by kernel_rfl) (fun _ _ _ h=>h) ab (by rfl) ?hyv ?o59
  case hyv=>
   intro wz hSw;go_simp;rw [eK.out];unfold Sk.same;by_cases h1:t.o.elem=a.elem<;>by_cases h2:t.o.n=a.n<;>simp [h1,h2]
  try simp only [Act.put,sT,sZ,sS]
  refine' tkR 17 231 ab ?o60
  refine' tkR 18 2 ab ?o61
  refine zBN (by kernel_rfl) ?_ _;go_wp2;go_ret;refine ⟨?_,b1.trans (ab.mono b1.size)⟩;rw [HR.out]
  first | rfl | simp
theorem zCv {ok:Nat->Prop} (t:TRv) {aa:Option Addr} {na ca:Nat} (a b c:Sk.Vr) (w:World) (hl:HVars ok w (.slice aa na ca) [a,b,c]):Calls Tryz.prog 95 #[tv t aa na ca] w fun e w'=>e=.returned (.bool (Sk.hasPlace a b c))/\Below w.heap.size w w':=by
 obtain ⟨ao,cap,hv,bm,aY,cc⟩:=hl.at;injection hv with v1 v2 v3;subst v1 v2 v3;obtain ⟨bl,ol,rfl,yl,x0,y0⟩:=cc 0 (by simp);obtain ⟨wb,x7,ee,bP,x1,y1⟩:=cc 1 (by simp);injection ee with ee;injection ee with e1 e2 e3;subst e1 e2;clear bP e3;obtain ⟨FT,Im,ee,ln,x2,y2⟩:=cc 2 (by simp);injection ee with ee;injection ee with e1 e2 e3;subst e1 e2;clear ln e3;simp at x0 y0 x1 y1 x2 y2;unfold maxLen at aY;obtain ⟨na,eH⟩:=nmQ ([a,b,c].length);have fq:na=3:=(by rw [eH];rfl);rw [<-eH] at bm ⊢;clear eH cc hl;subst fq;have b1:Below w.heap.size w (w.alloc (.cells #[.int .i64 t.op,.int .i64 t.k,.int .i64 t.out,.int .i64 t.n,.slice t.aA t.nA t.cA,.slice t.aE t.nE t.cE,.int .u8 t.o.elem,.int .i64 t.o.n,.slice (some ⟨bl,ol,none⟩) 3 ca] 109 (0,0))):=(Below.refl _ _).alloc zBR _;have kA:=zBO w (.cells #[.int .i64 t.op,.int .i64 t.k,.int .i64 t.out,.int .i64 t.n,.slice t.aA t.nA t.cA,.slice t.aE t.nE t.cE,.int .u8 t.o.elem,.int .i64 t.o.n,.slice (some ⟨bl,ol,none⟩) 3 ca] 109 (0,0));have ch:=(b1.cell (p:=⟨bl,ol,none⟩) yl).trans x0;have cj:=(b1.cell (p:=⟨bl,ol+1,none⟩) yl).trans y0;have dv:=(b1.cell (p:=⟨bl,ol+2,none⟩) yl).trans x1;have dw:=(b1.cell (p:=⟨bl,ol+2+1,none⟩) yl).trans y1;have gX:=(b1.cell (p:=⟨bl,ol+4,none⟩) yl).trans x2;have gY:=(b1.cell (p:=⟨bl,ol+4+1,none⟩) yl).trans y2;have ai:=Nat.lt_of_lt_of_le yl b1.size;clear x0 y0 x1 y1 x2 y2;obtain ⟨R,hR⟩:=nmQ (Sk.hasPlace a b c);rw [<-hR];unfold Sk.hasPlace at hR;have bH:=zBm a c;generalize Sk.arrOf a c=q at bH hR;obtain ⟨q2,aY⟩:=nmQ (Sk.same b (Sk.sc 105));rw [<-aY] at hR;have eK:=zBK aY;have HR:=zBK hR;clear hR aY;go_enter Tryz.func95,Tryz.ntmps95;go_upto_region 1 with fail;generalize w.alloc (.cells #[.int .i64 t.op,.int .i64 t.k,.int .i64 t.out,.int .i64 t.n,.slice t.aA t.nA t.cA,.slice t.aE t.nE t.cE,.int .u8 t.o.elem,.int .i64 t.o.n,.slice (some ⟨bl,ol,none⟩) 3 ca] 109 (0,0))=w1 at b1 kA ai ch cj dv dw gX gY ⊢;have a0:=coQ kA 0;have a1:=coQ kA 1;have a2:=coQ kA 2;have a3:=coQ kA 3;have a4:=coQ kA 4;have a5:=coQ kA 5;have a6:=coQ kA 6;have a7:=coQ kA 7;have a8:=coQ kA 8;simp at a0 a1 a2 a3 a4 a5 a6 a7 a8;have yA:=zBM kA;have aM:=zBK (fun (wz:World) (hSw:Below w1.heap.size w1 wz)=>And.intro ((hSw.cell (p:=⟨w.heap.size,0,none⟩) yA).trans a0) (And.intro ((hSw.cell (p:=⟨w.heap.size,1,none⟩) yA).trans a1) (And.intro ((hSw.cell (p:=⟨w.heap.size,2,none⟩) yA).trans a2) (And.intro ((hSw.cell (p:=⟨w.heap.size,3,none⟩) yA).trans a3) (And.intro ((hSw.cell (p:=⟨w.heap.size,4,none⟩) yA).trans a4) (And.intro ((hSw.cell (p:=⟨w.heap.size,5,none⟩) yA).trans a5) (And.intro ((hSw.cell (p:=⟨w.heap.size,6,none⟩) yA).trans a6) (And.intro ((hSw.cell (p:=⟨w.heap.size,7,none⟩) yA).trans a7) (And.intro ((hSw.cell (p:=⟨w.heap.size,8,none⟩) yA).trans a8) (And.intro ((hSw.cell (p:=⟨bl,ol,none⟩) ai).trans ch) (And.intro ((hSw.cell (p:=⟨bl,ol+1,none⟩) ai).trans cj) (And.intro ((hSw.cell (p:=⟨bl,ol+2,none⟩) ai).trans dv) (And.intro ((hSw.cell (p:=⟨bl,ol+2+1,none⟩) ai).trans dw) (And.intro ((hSw.cell (p:=⟨bl,ol+4,none⟩) ai).trans gX) ((hSw.cell (p:=⟨bl,ol+4+1,none⟩) ai).trans gY)))))))))))))));refine zBP (fun w'=>Below w1.heap.size w1 w') (fun _=>false) (by kernel_rfl) ?_;have ab:Below w1.heap.size w1 w1.drew:=(Below.refl _ _).drew;generalize w1.drew=ag at ab ⊢;refine' tkR 0 3 ab ?o1
 refine' tkQ 1 4 ab ?hyv ?o2
 case hyv=>
  intro wz hSw;have bk:=aM.out wz hSw;go_simp
  try rfl
 try simp only [Act.put,sT,sZ,sS]
 refine' tkR 2 5 ab ?o3
 refine' tkQ 3 6 ab ?hyv ?o4
 case hyv=>
  intro wz hSw;have bk:=aM.out wz hSw;go_simp
  try rfl
 try simp only [Act.put,sT,sZ,sS]
 refine' tkR 4 7 ab ?o5
 refine' tkQ 5 8 ab ?hyv ?o6
 case hyv=>
  intro wz hSw;have bk:=aM.out wz hSw;go_simp
  try rfl
 try simp only [Act.put,sT,sZ,sS]
 refine' tkR 6 9 ab ?o7
 refine' tkQ 7 10 ab ?hyv ?o8
 case hyv=>
  intro wz hSw;have bk:=aM.out wz hSw;go_simp
  try rfl
 try simp only [Act.put,sT,sZ,sS]
 refine tnQ 8 (fun K hK=>?_);go_simp;refine (bH ag).mono ?_;rintro eq aw ⟨rfl,cY⟩;have af:Below w1.heap.size w1 aw:=ab.trans (cY.mono ab.size);refine hK.out _ _ (fun _=>af) ?_;clear hK K
 try simp only [Act.put,sT,sZ,sS]
 refine' tkR 9 12 af ?o9
 cases q
 case false=>
  refine' tsQ 10 13 af ?_
  refine' tsQ 11 14 af ?_
  refine' tsQ 12 15 af ?_
  refine' tsQ 13 16 af ?_
  refine' tsQ 14 17 af ?_
  refine' tsQ 15 18 af ?_
  refine' tkR 16 19 af ?o10
  refine' tkR 17 2 af ?o11
  refine zBN (by kernel_rfl) ?_ _;go_wp2;go_ret;refine ⟨?_,b1.trans (af.mono b1.size)⟩;rw [HR.out];rfl
 case true=>
  refine' tkR 10 13 af ?o12
  refine' tkQ 11 14 af ?hyv ?o13
  case hyv=>
   intro wz hSw;have bk:=aM.out wz hSw;go_simp
   try rfl
  try simp only [Act.put,sT,sZ,sS]
  refine' tkR 12 15 af ?o14
  refine' tkQ 13 16 af ?hyv ?o15
  case hyv=>
   intro wz hSw;have bk:=aM.out wz hSw;go_simp
   try rfl
  try simp only [Act.put,sT,sZ,sS]
  refine tnQ 14 (fun K hK=>?_);go_simp;refine (zBv 105 aw).mono ?_;rintro eq aJ ⟨rfl,dz⟩;have ay:Below w1.heap.size w1 aJ:=af.trans (dz.mono af.size);refine hK.out _ _ (fun _=>ay) ?_;clear hK K
  try simp only [Act.put,sT,sZ,sS]
  refine' zBS (i:=15) (oi:=⟨some 18,_,_,_,_,_⟩) (v:=.bool q2) rfl (by kernel_rfl) (by kernel_rfl) (by kernel_rfl) (by kernel_rfl) (fun _ _ _ h=>h) ay (by rfl) ?hyv ?o16
  case hyv=>
   intro wz hSw;go_simp;rw [eK.out];unfold Sk.same;by_cases h1:b.elem=(Sk.sc 105).elem<;>by_cases h2:b.n=(Sk.sc 105).n<;>simp [h1,h2]
  try simp only [Act.put,sT,sZ,sS]
  refine' tkR 16 19 ay ?o17
  refine' tkR 17 2 ay ?o18
  refine zBN (by kernel_rfl) ?_ _;go_wp2;go_ret;refine ⟨?_,b1.trans (ay.mono b1.size)⟩;rw [HR.out];rw [Bool.true_and];rfl
end Go.Proofs.YtfhghlpfeeiaeaaGreatDoor
