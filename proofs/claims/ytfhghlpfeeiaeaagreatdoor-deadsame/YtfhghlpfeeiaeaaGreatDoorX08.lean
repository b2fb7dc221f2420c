import Derived.Test.YtfhghlpfeeiaeaaGreatDoorX05
import Derived.Deep.Cut
import Derived.Deep.LoopGhost
import Derived.IntWalk
import Derived.Lib.Hide
import Derived.WalkKit
import Derived.WalkSpells
set_option linter.unusedVariables false
set_option linter.unusedSimpArgs false
set_option maxHeartbeats 64000000
set_option maxRecDepth 100000
namespace Go.Proofs.YtfhghlpfeeiaeaaGreatDoor
open Go.RowKit Go.IntWalk
theorem wrapS {x:Int} (h0 : -1000000<=x) (h1:x<=1000000):IntKind.i64.wrap x=x:=by
 simp [IntKind.wrap,IntKind.signed,IntKind.bits];omega
theorem fits8_any {ok:Nat->Prop} (t:TRv) {aa:Option Addr} {na ca:Nat} (a:Sk.Vr) (w:World) (hG:GlobK w) (hl:HVars ok w (.slice aa na ca) [a]) :
  Calls Tryz.prog 83 #[.agg #[.int .i64 8,.int .i64 t.k,.int .i64 t.out,.int .i64 t.n,.slice t.aA t.nA t.cA,.slice t.aE t.nE t.cE,.int .u8 t.o.elem,.int .i64 t.o.n,.slice aa na ca]] w fun e w'=>e=.returned (.bool (Sk.arrOf t.o a))/\Below w.heap.size w w':=by
 have ed:=zBK hl;obtain ⟨ao,cap,hv,bm,aY,cc⟩:=hl.at;injection hv with v1 v2 v3;subst v1 v2 v3;obtain ⟨bl,ol,rfl,yl,x0,y0⟩:=cc 0 (by simp);simp at x0 y0;unfold maxLen at aY;obtain ⟨na,eH⟩:=nmQ ([a].length);have fq:na=1:=(by rw [eH];rfl);rw [<-eH] at bm ⊢;clear eH cc hl;subst fq;have b1:Below w.heap.size w (w.alloc (.cells #[.int .i64 8,.int .i64 t.k,.int .i64 t.out,.int .i64 t.n,.slice t.aA t.nA t.cA,.slice t.aE t.nE t.cE,.int .u8 t.o.elem,.int .i64 t.o.n,.slice (some ⟨bl,ol,none⟩) 1 ca] 109 (0,0))):=(Below.refl _ _).alloc zBR _;have kA:=zBO w (.cells #[.int .i64 8,.int .i64 t.k,.int .i64 t.out,.int .i64 t.n,.slice t.aA t.nA t.cA,.slice t.aE t.nE t.cE,.int .u8 t.o.elem,.int .i64 t.o.n,.slice (some ⟨bl,ol,none⟩) 1 ca] 109 (0,0));have fL:=zBK (hG.under b1);have iu:=zBK (ed.out.under b1);have ch:=(b1.cell (p:=⟨bl,ol,none⟩) yl).trans x0;have cj:=(b1.cell (p:=⟨bl,ol+1,none⟩) yl).trans y0;have ai:=Nat.lt_of_lt_of_le yl b1.size;clear x0 y0;obtain ⟨R,hR⟩:=nmQ ((Sk.arrOf t.o a));rw [<-hR];have bH:∀ V,Calls Tryz.prog 94 #[vv t.o,vv a] V fun e w'=>e=.returned (.bool (Sk.arrOf t.o a))/\Below V.heap.size V w':=zBm t.o a;obtain ⟨q1,bm⟩:=nmQ (Sk.arrOf t.o a);rw [<-bm] at hR bH;have ib:=zBK bm;have HR:=zBK hR;clear hR hG bm ed;go_enter Tryz.func83,Tryz.ntmps83;go_upto_region 16 with fail;generalize w.alloc (.cells #[.int .i64 8,.int .i64 t.k,.int .i64 t.out,.int .i64 t.n,.slice t.aA t.nA t.cA,.slice t.aE t.nE t.cE,.int .u8 t.o.elem,.int .i64 t.o.n,.slice (some ⟨bl,ol,none⟩) 1 ca] 109 (0,0))=w1 at b1 kA fL iu ai ch cj ⊢;have u0:=coQ kA 0;have u1:=coQ kA 1;have u2:=coQ kA 2;have u3:=coQ kA 3;have u4:=coQ kA 4;have u5:=coQ kA 5;have u6:=coQ kA 6;have u7:=coQ kA 7;have u8:=coQ kA 8;simp at u0 u1 u2 u3 u4 u5 u6 u7 u8;have yA:=zBM kA;have aM:=zBK (fun (wz:World) (hSw:Below w1.heap.size w1 wz)=>And.intro ((hSw.cell (p:=⟨w.heap.size,0,none⟩) yA).trans u0) (And.intro ((hSw.cell (p:=⟨w.heap.size,1,none⟩) yA).trans u1) (And.intro ((hSw.cell (p:=⟨w.heap.size,2,none⟩) yA).trans u2) (And.intro ((hSw.cell (p:=⟨w.heap.size,3,none⟩) yA).trans u3) (And.intro ((hSw.cell (p:=⟨w.heap.size,4,none⟩) yA).trans u4) (And.intro ((hSw.cell (p:=⟨w.heap.size,5,none⟩) yA).trans u5) (And.intro ((hSw.cell (p:=⟨w.heap.size,6,none⟩) yA).trans u6) (And.intro ((hSw.cell (p:=⟨w.heap.size,7,none⟩) yA).trans u7) (And.intro ((hSw.cell (p:=⟨w.heap.size,8,none⟩) yA).trans u8) (And.intro ((hSw.cell (p:=⟨bl,ol,none⟩) ai).trans ch) ((hSw.cell (p:=⟨bl,ol+1,none⟩) ai).trans cj)))))))))));refine zBP (fun w'=>Below w1.heap.size w1 w') (fun _=>false) (by kernel_rfl) ?_;have ab:Below w1.heap.size w1 w1.drew:=(Below.refl _ _).drew;generalize w1.drew=ag at ab ⊢;refine' tkR 0 102 ab ?o1
 refine' tkQ 1 103 ab ?hyv ?o2
 case hyv=>
  intro wz hSw;have bk:=aM.out wz hSw;go_simp
  try rfl
 try simp only [Act.put,sT,sZ,sS]
 refine' tkR 2 104 ab ?o3
 refine' tkQ 3 105 ab ?hyv ?o4
 case hyv=>
  intro wz hSw;have bk:=aM.out wz hSw;go_simp
  try rfl
 try simp only [Act.put,sT,sZ,sS]
 refine' tkR 4 106 ab ?o5
 refine' tkQ 5 107 ab ?hyv ?o6
 case hyv=>
  intro wz hSw;have bk:=aM.out wz hSw;go_simp
  try rfl
 try simp only [Act.put,sT,sZ,sS]
 refine tnQ 6 (fun K hK=>?_);go_simp;refine (bH ag).mono ?_;rintro eq aw ⟨rfl,cY⟩;have af:Below w1.heap.size w1 aw:=ab.trans (cY.mono ab.size);refine hK.out _ _ (fun _=>af) ?_;clear hK K
 try simp only [Act.put,sT,sZ,sS]
 refine' tkR 7 2 af ?o7
 refine zBN (by kernel_rfl) ?_ _;go_wp2;go_ret;refine ⟨?_,b1.trans (af.mono b1.size)⟩;rw [HR.out]
 first | rfl | simp
theorem fits11_any {ok:Nat->Prop} (t:TRv) {aa:Option Addr} {na ca:Nat} (a:Sk.Vr) (w:World) (hG:GlobK w) (hl:HVars ok w (.slice aa na ca) [a]) (ew:0<=a.n) (wJ:a.n<=300) (Rv:0<=t.o.n) (uo:t.o.n<=300) :
  Calls Tryz.prog 83 #[.agg #[.int .i64 11,.int .i64 t.k,.int .i64 t.out,.int .i64 t.n,.slice t.aA t.nA t.cA,.slice t.aE t.nE t.cE,.int .u8 t.o.elem,.int .i64 t.o.n,.slice aa na ca]] w fun e w'=>e=.returned (.bool (((Sk.arr a&&Sk.arrOf t.o (Sk.sc a.elem))&&decide (0<=t.n))&&decide (t.n<=a.n-t.o.n)))/\Below w.heap.size w w':=by
 have ed:=zBK hl;obtain ⟨ao,cap,hv,bm,aY,cc⟩:=hl.at;injection hv with v1 v2 v3;subst v1 v2 v3;obtain ⟨bl,ol,rfl,yl,x0,y0⟩:=cc 0 (by simp);simp at x0 y0;unfold maxLen at aY;obtain ⟨na,eH⟩:=nmQ ([a].length);have fq:na=1:=(by rw [eH];rfl);rw [<-eH] at bm ⊢;clear eH cc hl;subst fq;have b1:Below w.heap.size w (w.alloc (.cells #[.int .i64 11,.int .i64 t.k,.int .i64 t.out,.int .i64 t.n,.slice t.aA t.nA t.cA,.slice t.aE t.nE t.cE,.int .u8 t.o.elem,.int .i64 t.o.n,.slice (some ⟨bl,ol,none⟩) 1 ca] 109 (0,0))):=(Below.refl _ _).alloc zBR _;have kA:=zBO w (.cells #[.int .i64 11,.int .i64 t.k,.int .i64 t.out,.int .i64 t.n,.slice t.aA t.nA t.cA,.slice t.aE t.nE t.cE,.int .u8 t.o.elem,.int .i64 t.o.n,.slice (some ⟨bl,ol,none⟩) 1 ca] 109 (0,0));have fL:=zBK (hG.under b1);have iu:=zBK (ed.out.under b1);have ch:=(b1.cell (p:=⟨bl,ol,none⟩) yl).trans x0;have cj:=(b1.cell (p:=⟨bl,ol+1,none⟩) yl).trans y0;have ai:=Nat.lt_of_lt_of_le yl b1.size;clear x0 y0;obtain ⟨R,hR⟩:=nmQ ((((Sk.arr a&&Sk.arrOf t.o (Sk.sc a.elem))&&decide (0<=t.n))&&decide (t.n<=a.n-t.o.n)));rw [<-hR];have bH:∀ V,Calls Tryz.prog 96 #[vv a] V fun e w'=>e=.returned (.bool (Sk.arr a))/\Below V.heap.size V w':=zBz a;have cG:∀ V,Calls Tryz.prog 94 #[vv t.o,vv (Sk.sc a.elem)] V fun e w'=>e=.returned (.bool (Sk.arrOf t.o (Sk.sc a.elem)))/\Below V.heap.size V w':=zBm t.o (Sk.sc a.elem);obtain ⟨q1,bm⟩:=nmQ (Sk.arr a);rw [<-bm] at hR bH;have ib:=zBK bm;obtain ⟨q2,aY⟩:=nmQ (Sk.arrOf t.o (Sk.sc a.elem));rw [<-aY] at hR cG;have eK:=zBK aY;obtain ⟨q3,da⟩:=nmQ (decide (0<=t.n));rw [<-da] at hR;have ja:=zBK da;obtain ⟨q4,fx⟩:=nmQ (decide (t.n<=a.n-t.o.n));rw [<-fx] at hR;have qW:=zBK fx;have HR:=zBK hR;clear hR hG bm aY da fx ed;go_enter Tryz.func83,Tryz.ntmps83;go_upto_region 22 with fail;generalize w.alloc (.cells #[.int .i64 11,.int .i64 t.k,.int .i64 t.out,.int .i64 t.n,.slice t.aA t.nA t.cA,.slice t.aE t.nE t.cE,.int .u8 t.o.elem,.int .i64 t.o.n,.slice (some ⟨bl,ol,none⟩) 1 ca] 109 (0,0))=w1 at b1 kA fL iu ai ch cj ⊢;have u0:=coQ kA 0;have u1:=coQ kA 1;have u2:=coQ kA 2;have u3:=coQ kA 3;have u4:=coQ kA 4;have u5:=coQ kA 5;have u6:=coQ kA 6;have u7:=coQ kA 7;have u8:=coQ kA 8;simp at u0 u1 u2 u3 u4 u5 u6 u7 u8;have yA:=zBM kA;have aM:=zBK (fun (wz:World) (hSw:Below w1.heap.size w1 wz)=>And.intro ((hSw.cell (p:=⟨w.heap.size,0,none⟩) yA).trans u0) (And.intro ((hSw.cell (p:=⟨w.heap.size,1,none⟩) yA).trans u1) (And.intro ((hSw.cell (p:=⟨w.heap.size,2,none⟩) yA).trans u2) (And.intro ((hSw.cell (p:=⟨w.heap.size,3,none⟩) yA).trans u3) (And.intro ((hSw.cell (p:=⟨w.heap.size,4,none⟩) yA).trans u4) (And.intro ((hSw.cell (p:=⟨w.heap.size,5,none⟩) yA).trans u5) (And.intro ((hSw.cell (p:=⟨w.heap.size,6,none⟩) yA).trans u6) (And.intro ((hSw.cell (p:=⟨w.heap.size,7,none⟩) yA).trans u7) (And.intro ((hSw.cell (p:=⟨w.heap.size,8,none⟩) yA).trans u8) (And.intro ((hSw.cell (p:=⟨bl,ol,none⟩) ai).trans ch) ((hSw.cell (p:=⟨bl,ol+1,none⟩) ai).trans cj)))))))))));refine zBP (fun w'=>Below w1.heap.size w1 w') (fun _=>false) (by kernel_rfl) ?_;have ab:Below w1.heap.size w1 w1.drew:=(Below.refl _ _).drew;generalize w1.drew=ag at ab ⊢;refine' tkR 0 137 ab ?o8
 refine' tkQ 1 138 ab ?hyv ?o9
 case hyv=>
  intro wz hSw;have bk:=aM.out wz hSw;go_simp
  try rfl
 try simp only [Act.put,sT,sZ,sS]
 refine' tkR 2 139 ab ?o10
 refine' tkQ 3 140 ab ?hyv ?o11
 case hyv=>
  intro wz hSw;have bk:=aM.out wz hSw;go_simp
  try rfl
 try simp only [Act.put,sT,sZ,sS]
 refine tnQ 4 (fun K hK=>?_);go_simp;refine (bH ag).mono ?_;rintro eq aw ⟨rfl,cY⟩;have af:Below w1.heap.size w1 aw:=ab.trans (cY.mono ab.size);refine hK.out _ _ (fun _=>af) ?_;clear hK K
 try simp only [Act.put,sT,sZ,sS]
 refine' tkR 5 142 af ?o12
 cases q1
 case false=>
  refine' tsQ 6 143 af ?_
  refine' tsQ 7 144 af ?_
  refine' tsQ 8 145 af ?_
  refine' tsQ 9 146 af ?_
  refine' tsQ 10 147 af ?_
  refine' tsQ 11 148 af ?_
  refine' tsQ 12 149 af ?_
  refine' tsQ 13 150 af ?_
  refine' tkR 14 151 af ?o13
  refine' tkR 15 152 af ?o14
  refine' tsQ 16 153 af ?_
  refine' tsQ 17 154 af ?_
  refine' tsQ 18 155 af ?_
  refine' tsQ 19 156 af ?_
  refine' tkR 20 157 af ?o15
  refine' tkR 21 158 af ?o16
  refine' tsQ 22 159 af ?_
  refine' tsQ 23 160 af ?_
  refine' tsQ 24 161 af ?_
  refine' tsQ 25 162 af ?_
  refine' tsQ 26 163 af ?_
  refine' tsQ 27 164 af ?_
  refine' tsQ 28 165 af ?_
  refine' tsQ 29 166 af ?_
  refine' tsQ 30 167 af ?_
  refine' tsQ 31 168 af ?_
  refine' tsQ 32 169 af ?_
  refine' tsQ 33 170 af ?_
  refine' tsQ 34 171 af ?_
  refine' tkR 35 172 af ?o17
  refine' tkR 36 2 af ?o18
  refine zBN (by kernel_rfl) ?_ _;go_wp2;go_ret;refine ⟨?_,b1.trans (af.mono b1.size)⟩;rw [HR.out]
  first | rfl | simp
 case true=>
  refine' tkR 6 143 af ?o19
  refine' tkQ 7 144 af ?hyv ?o20
  case hyv=>
   intro wz hSw;have bk:=aM.out wz hSw;go_simp
   try rfl
  try simp only [Act.put,sT,sZ,sS]
  refine' tkR 8 145 af ?o21
  refine' tkQ 9 146 af ?hyv ?o22
  case hyv=>
   intro wz hSw;have bk:=aM.out wz hSw;go_simp
   try rfl
  try simp only [Act.put,sT,sZ,sS]
  refine' tkR 10 147 af ?o23
  refine' tkQ 11 148 af ?hyv ?o24
  case hyv=>
   intro wz hSw;have bk:=aM.out wz hSw;go_simp
   try rfl
  try simp only [Act.put,sT,sZ,sS]
  refine tnQ 12 (fun K hK=>?_);go_simp;refine (zCX a aw).mono ?_;rintro eq aJ ⟨rfl,dz⟩;have ay:Below w1.heap.size w1 aJ:=af.trans (dz.mono af.size);refine hK.out _ _ (fun _=>ay) ?_;clear hK K
  try simp only [Act.put,sT,sZ,sS]
  refine tnQ 13 (fun K hK=>?_);go_simp;refine (cG aJ).mono ?_;rintro eq bF ⟨rfl,fJ⟩;have aD:Below w1.heap.size w1 bF:=ay.trans (fJ.mono ay.size);refine hK.out _ _ (fun _=>aD) ?_;clear hK K
  try simp only [Act.put,sT,sZ,sS]
  refine' tkR 14 151 aD ?o25
  refine' tkR 15 152 aD ?o26
  cases q2
  case false=>
   refine' tsQ 16 153 aD ?_
   refine' tsQ 17 154 aD ?_
   refine' tsQ 18 155 aD ?_
   refine' tsQ 19 156 aD ?_
   refine' tkR 20 157 aD ?o27
   refine' tkR 21 158 aD ?o28
   refine' tsQ 22 159 aD ?_
   refine' tsQ 23 160 aD ?_
   refine' tsQ 24 161 aD ?_
   refine' tsQ 25 162 aD ?_
   refine' tsQ 26 163 aD ?_
   refine' tsQ 27 164 aD ?_
   refine' tsQ 28 165 aD ?_
   refine' tsQ 29 166 aD ?_
   refine' tsQ 30 167 aD ?_
   refine' tsQ 31 168 aD ?_
   refine' tsQ 32 169 aD ?_
   refine' tsQ 33 170 aD ?_
   refine' tsQ 34 171 aD ?_
   refine' tkR 35 172 aD ?o29
   refine' tkR 36 2 aD ?o30
   refine zBN (by kernel_rfl) ?_ _;go_wp2;go_ret;refine ⟨?_,b1.trans (aD.mono b1.size)⟩;rw [HR.out]
   first | rfl | simp
  case true=>
   refine' tkR 16 153 aD ?o31
   refine' tkR 17 154 aD ?o32
   refine' tkQ 18 155 aD ?hyv ?o33
   case hyv=>
    intro wz hSw;have bk:=aM.out wz hSw;go_simp
    try rfl
   try simp only [Act.put,sT,sZ,sS]
   refine' zBS (i:=19) (oi:=⟨some 156,_,_,_,_,_⟩) (v:=.bool q3) rfl (by kernel_rfl) (by kernel_rfl) (by kernel_rfl) (by kernel_rfl) (fun _ _ _ h=>h) aD (by rfl) ?hyv ?o34
   case hyv=>
    intro wz hSw;go_simp;rw [ja.out]
    try rfl
   try simp only [Act.put,sT,sZ,sS]
   refine' tkR 20 157 aD ?o35
   refine' tkR 21 158 aD ?o36
   cases q3
   case false=>
    refine' tsQ 22 159 aD ?_
    refine' tsQ 23 160 aD ?_
    refine' tsQ 24 161 aD ?_
    refine' tsQ 25 162 aD ?_
    refine' tsQ 26 163 aD ?_
    refine' tsQ 27 164 aD ?_
    refine' tsQ 28 165 aD ?_
    refine' tsQ 29 166 aD ?_
    refine' tsQ 30 167 aD ?_
    refine' tsQ 31 168 aD ?_
    refine' tsQ 32 169 aD ?_
    refine' tsQ 33 170 aD ?_
    refine' tsQ 34 171 aD ?_
    refine' tkR 35 172 aD ?o37
    refine' tkR 36 2 aD ?o38
    refine zBN (by kernel_rfl) ?_ _;go_wp2;go_ret;refine ⟨?_,b1.trans (aD.mono b1.size)⟩;rw [HR.out]
    first | rfl | simp
   case true=>
    refine' tkR 22 159 aD ?o39
    refine' tkR 23 160 aD ?o40
    refine' tkQ 24 161 aD ?hyv ?o41
    case hyv=>
     intro wz hSw;have bk:=aM.out wz hSw;go_simp
     try rfl
    try simp only [Act.put,sT,sZ,sS]
    refine' tkR 25 162 aD ?o42
    refine' tkQ 26 163 aD ?hyv ?o43
    case hyv=>
     intro wz hSw;have bk:=aM.out wz hSw;go_simp
     try rfl
    try simp only [Act.put,sT,sZ,sS]
    refine' tkR 27 164 aD ?o44
    refine' tkR 28 165 aD ?o45
    refine' tkQ 29 166 aD ?hyv ?o46
    case hyv=>
     intro wz hSw;have bk:=aM.out wz hSw;go_simp
     try rfl
    try simp only [Act.put,sT,sZ,sS]
    refine' tkR 30 167 aD ?o47
    refine' tkR 31 168 aD ?o48
    refine' tkQ 32 169 aD ?hyv ?o49
    case hyv=>
     intro wz hSw;have bk:=aM.out wz hSw;go_simp
     try rfl
    try simp only [Act.put,sT,sZ,sS]
    refine' tkR 33 170 aD ?o50
    refine' zBS (i:=34) (oi:=⟨some 171,_,_,_,_,_⟩) (v:=.bool q4) rfl (by kernel_rfl) (by kernel_rfl) (by kernel_rfl) (by kernel_rfl) (fun _ _ _ h=>h) aD (by rfl) ?hyv ?o51
    case hyv=>
     intro wz hSw;go_simp;rw [qW.out,wrapS (x:=a.n-t.o.n) (by omega) (by omega)]
    try simp only [Act.put,sT,sZ,sS]
    refine' tkR 35 172 aD ?o52
    refine' tkR 36 2 aD ?o53
    refine zBN (by kernel_rfl) ?_ _;go_wp2;go_ret;refine ⟨?_,b1.trans (aD.mono b1.size)⟩;rw [HR.out]
    first | rfl | simp
theorem fits12_any {ok:Nat->Prop} (t:TRv) {aa:Option Addr} {na ca:Nat} (a b:Sk.Vr) (w:World) (hG:GlobK w) (hl:HVars ok w (.slice aa na ca) [a,b]) (ew:0<=a.n) (wJ:a.n<=300) (cz:0<=b.n) (lz:b.n<=300) :
  Calls Tryz.prog 83 #[.agg #[.int .i64 12,.int .i64 t.k,.int .i64 t.out,.int .i64 t.n,.slice t.aA t.nA t.cA,.slice t.aE t.nE t.cE,.int .u8 t.o.elem,.int .i64 t.o.n,.slice aa na ca]] w fun e w'=>e=.returned (.bool ((Sk.arr a&&Sk.arrOf b (Sk.sc a.elem))&&Sk.same t.o ⟨a.elem,a.n+b.n⟩))/\Below w.heap.size w w':=by
 have ed:=zBK hl;obtain ⟨ao,cap,hv,bm,aY,cc⟩:=hl.at;injection hv with v1 v2 v3;subst v1 v2 v3;obtain ⟨bl,ol,rfl,yl,x0,y0⟩:=cc 0 (by simp);obtain ⟨wb,x7,ee,bP,x1,y1⟩:=cc 1 (by simp);injection ee with ee;injection ee with e1 e2 e3;subst e1 e2;clear bP e3;simp at x0 y0 x1 y1;unfold maxLen at aY;obtain ⟨na,eH⟩:=nmQ ([a,b].length);have fq:na=2:=(by rw [eH];rfl);rw [<-eH] at bm ⊢;clear eH cc hl;subst fq;have b1:Below w.heap.size w (w.alloc (.cells #[.int .i64 12,.int .i64 t.k,.int .i64 t.out,.int .i64 t.n,.slice t.aA t.nA t.cA,.slice t.aE t.nE t.cE,.int .u8 t.o.elem,.int .i64 t.o.n,.slice (some ⟨bl,ol,none⟩) 2 ca] 109 (0,0))):=(Below.refl _ _).alloc zBR _;have kA:=zBO w (.cells #[.int .i64 12,.int .i64 t.k,.int .i64 t.out,.int .i64 t.n,.slice t.aA t.nA t.cA,.slice t.aE t.nE t.cE,.int .u8 t.o.elem,.int .i64 t.o.n,.slice (some ⟨bl,ol,none⟩) 2 ca] 109 (0,0));have fL:=zBK (hG.under b1);have iu:=zBK (ed.out.under b1);have ch:=(b1.cell (p:=⟨bl,ol,none⟩) yl).trans x0;have cj:=(b1.cell (p:=⟨bl,ol+1,none⟩) yl).trans y0;have dv:=(b1.cell (p:=⟨bl,ol+2,none⟩) yl).trans x1;have dw:=(b1.cell (p:=⟨bl,ol+2+1,none⟩) yl).trans y1;have ai:=Nat.lt_of_lt_of_le yl b1.size;clear x0 y0 x1 y1;obtain ⟨R,hR⟩:=nmQ (((Sk.arr a&&Sk.arrOf b (Sk.sc a.elem))&&Sk.same t.o ⟨a.elem,a.n+b.n⟩));rw [<-hR];have bH:∀ V,Calls Tryz.prog 96 #[vv a] V fun e w'=>e=.returned (.bool (Sk.arr a))/\Below V.heap.size V w':=zBz a;have cG:∀ V,Calls Tryz.prog 94 #[vv b,vv (Sk.sc a.elem)] V fun e w'=>e=.returned (.bool (Sk.arrOf b (Sk.sc a.elem)))/\Below V.heap.size V w':=zBm b (Sk.sc a.elem);obtain ⟨q1,bm⟩:=nmQ (Sk.arr a);rw [<-bm] at hR bH;have ib:=zBK bm;obtain ⟨q2,aY⟩:=nmQ (Sk.arrOf b (Sk.sc a.elem));rw [<-aY] at hR cG;have eK:=zBK aY;obtain ⟨q3,da⟩:=nmQ (Sk.same t.o ⟨a.elem,a.n+b.n⟩);rw [<-da] at hR;have ja:=zBK da;have HR:=zBK hR;clear hR hG bm aY da ed;go_enter Tryz.func83,Tryz.ntmps83;go_upto_region 24 with fail;generalize w.alloc (.cells #[.int .i64 12,.int .i64 t.k,.int .i64 t.out,.int .i64 t.n,.slice t.aA t.nA t.cA,.slice t.aE t.nE t.cE,.int .u8 t.o.elem,.int .i64 t.o.n,.slice (some ⟨bl,ol,none⟩) 2 ca] 109 (0,0))=w1 at b1 kA fL iu ai ch cj dv dw ⊢;have u0:=coQ kA 0;have u1:=coQ kA 1;have u2:=coQ kA 2;have u3:=coQ kA 3;have u4:=coQ kA 4;have u5:=coQ kA 5;have u6:=coQ kA 6;have u7:=coQ kA 7;have u8:=coQ kA 8;simp at u0 u1 u2 u3 u4 u5 u6 u7 u8;have yA:=zBM kA;have aM:=zBK (fun (wz:World) (hSw:Below w1.heap.size w1 wz)=>And.intro ((hSw.cell (p:=⟨w.heap.size,0,none⟩) yA).trans u0) (And.intro ((hSw.cell (p:=⟨w.heap.size,1,none⟩) yA).trans u1) (And.intro ((hSw.cell (p:=⟨w.heap.size,2,none⟩) yA).trans u2) (And.intro ((hSw.cell (p:=⟨w.heap.size,3,none⟩) yA).trans u3) (And.intro ((hSw.cell (p:=⟨w.heap.size,4,none⟩) yA).trans u4) (And.intro ((hSw.cell (p:=⟨w.heap.size,5,none⟩) yA).trans u5) (And.intro ((hSw.cell (p:=⟨w.heap.size,6,none⟩) yA).trans u6) (And.intro ((hSw.cell (p:=⟨w.heap.size,7,none⟩) yA).trans u7) (And.intro ((hSw.cell (p:=⟨w.heap.size,8,none⟩) yA).trans u8) (And.intro ((hSw.cell (p:=⟨bl,ol,none⟩) ai).trans ch) (And.intro ((hSw.cell (p:=⟨bl,ol+1,none⟩) ai).trans cj) (And.intro ((hSw.cell (p:=⟨bl,ol+2,none⟩) ai).trans dv) ((hSw.cell (p:=⟨bl,ol+2+1,none⟩) ai).trans dw)))))))))))));refine zBP (fun w'=>Below w1.heap.size w1 w') (fun _=>false) (by kernel_rfl) ?_;have ab:Below w1.heap.size w1 w1.drew:=(Below.refl _ _).drew;generalize w1.drew=ag at ab ⊢;refine' tkR 0 175 ab ?o1
 refine' tkQ 1 176 ab ?hyv ?o2
 case hyv=>
  intro wz hSw;have bk:=aM.out wz hSw;go_simp
  try rfl
 try simp only [Act.put,sT,sZ,sS]
 refine' tkR 2 177 ab ?o3
 refine' tkQ 3 178 ab ?hyv ?o4
 case hyv=>
  intro wz hSw;have bk:=aM.out wz hSw;go_simp
  try rfl
 try simp only [Act.put,sT,sZ,sS]
 refine tnQ 4 (fun K hK=>?_);go_simp;refine (bH ag).mono ?_;rintro eq aw ⟨rfl,cY⟩;have af:Below w1.heap.size w1 aw:=ab.trans (cY.mono ab.size);refine hK.out _ _ (fun _=>af) ?_;clear hK K
 try simp only [Act.put,sT,sZ,sS]
 refine' tkR 5 180 af ?o5
 cases q1
 case false=>
  refine' tsQ 6 181 af ?_
  refine' tsQ 7 182 af ?_
  refine' tsQ 8 183 af ?_
  refine' tsQ 9 184 af ?_
  refine' tsQ 10 185 af ?_
  refine' tsQ 11 186 af ?_
  refine' tsQ 12 187 af ?_
  refine' tsQ 13 188 af ?_
  refine' tsQ 14 189 af ?_
  refine' tsQ 15 190 af ?_
  refine' tkR 16 191 af ?o6
  refine' tkR 17 192 af ?o7
  refine' tsQ 18 193 af ?_
  refine' tsQ 19 194 af ?_
  refine' tsQ 20 195 af ?_
  refine' tsQ 21 196 af ?_
  refine' tsQ 22 197 af ?_
  refine' tsQ 23 198 af ?_
  refine' tsQ 24 199 af ?_
  refine' tsQ 25 200 af ?_
  refine' tsQ 26 201 af ?_
  refine' tsQ 27 202 af ?_
  refine' tsQ 28 203 af ?_
  refine' tsQ 29 204 af ?_
  refine' tsQ 30 205 af ?_
  refine' tsQ 31 206 af ?_
  refine' tsQ 32 207 af ?_
  refine' tsQ 33 208 af ?_
  refine' tsQ 34 209 af ?_
  refine' tsQ 35 210 af ?_
  refine' tsQ 36 211 af ?_
  refine' tsQ 37 212 af ?_
  refine' tkR 38 213 af ?o8
  refine' tkR 39 2 af ?o9
  refine zBN (by kernel_rfl) ?_ _;go_wp2;go_ret;refine ⟨?_,b1.trans (af.mono b1.size)⟩;rw [HR.out]
  first | rfl | simp
 case true=>
  refine' tkR 6 181 af ?o10
  refine' tkQ 7 182 af ?hyv ?o11
  case hyv=>
   intro wz hSw;have bk:=aM.out wz hSw;go_simp
   try rfl
  try simp only [Act.put,sT,sZ,sS]
  refine' tkR 8 183 af ?o12
  refine' tkQ 9 184 af ?hyv ?o13
  case hyv=>
   intro wz hSw;have bk:=aM.out wz hSw;go_simp
   try rfl
  try simp only [Act.put,sT,sZ,sS]
  refine' tkR 10 185 af ?o14
  refine' tkQ 11 186 af ?hyv ?o15
  case hyv=>
   intro wz hSw;have bk:=aM.out wz hSw;go_simp
   try rfl
  try simp only [Act.put,sT,sZ,sS]
  refine' tkR 12 187 af ?o16
  refine' tkQ 13 188 af ?hyv ?o17
  case hyv=>
   intro wz hSw;have bk:=aM.out wz hSw;go_simp
   try rfl
  try simp only [Act.put,sT,sZ,sS]
  refine tnQ 14 (fun K hK=>?_);go_simp;refine (zCX a aw).mono ?_;rintro eq aJ ⟨rfl,dz⟩;have ay:Below w1.heap.size w1 aJ:=af.trans (dz.mono af.size);refine hK.out _ _ (fun _=>ay) ?_;clear hK K
  try simp only [Act.put,sT,sZ,sS]
  refine tnQ 15 (fun K hK=>?_);go_simp;refine (cG aJ).mono ?_;rintro eq bF ⟨rfl,fJ⟩;have aD:Below w1.heap.size w1 bF:=ay.trans (fJ.mono ay.size);refine hK.out _ _ (fun _=>aD) ?_;clear hK K
  try simp only [Act.put,sT,sZ,sS]
  refine' tkR 16 191 aD ?o18
  refine' tkR 17 192 aD ?o19
  cases q2
  case false=>
   refine' tsQ 18 193 aD ?_
   refine' tsQ 19 194 aD ?_
   refine' tsQ 20 195 aD ?_
   refine' tsQ 21 196 aD ?_
   refine' tsQ 22 197 aD ?_
   refine' tsQ 23 198 aD ?_
   refine' tsQ 24 199 aD ?_
   refine' tsQ 25 200 aD ?_
   refine' tsQ 26 201 aD ?_
   refine' tsQ 27 202 aD ?_
   refine' tsQ 28 203 aD ?_
   refine' tsQ 29 204 aD ?_
   refine' tsQ 30 205 aD ?_
   refine' tsQ 31 206 aD ?_
   refine' tsQ 32 207 aD ?_
   refine' tsQ 33 208 aD ?_
   refine' tsQ 34 209 aD ?_
   refine' tsQ 35 210 aD ?_
   refine' tsQ 36 211 aD ?_
   refine' tsQ 37 212 aD ?_
   refine' tkR 38 213 aD ?o20
   refine' tkR 39 2 aD ?o21
   refine zBN (by kernel_rfl) ?_ _;go_wp2;go_ret;refine ⟨?_,b1.trans (aD.mono b1.size)⟩;rw [HR.out]
   first | rfl | simp
  case true=>
   refine' tkR 18 193 aD ?o22
   refine' tkQ 19 194 aD ?hyv ?o23
   case hyv=>
    intro wz hSw;have bk:=aM.out wz hSw;go_simp
    try rfl
   try simp only [Act.put,sT,sZ,sS]
   refine' tkR 20 195 aD ?o24
   refine' tkQ 21 196 aD ?hyv ?o25
   case hyv=>
    intro wz hSw;have bk:=aM.out wz hSw;go_simp
    try rfl
   try simp only [Act.put,sT,sZ,sS]
   refine' tkR 22 197 aD ?o26
   refine' tkR 23 198 aD ?o27
   refine' tkQ 24 199 aD ?hyv ?o28
   case hyv=>
    intro wz hSw;have bk:=aM.out wz hSw;go_simp
    try rfl
   try simp only [Act.put,sT,sZ,sS]
   refine' tkR 25 200 aD ?o29
   refine' tkQ 26 201 aD ?hyv ?o30
   case hyv=>
    intro wz hSw;have bk:=aM.out wz hSw;go_simp
    try rfl
   try simp only [Act.put,sT,sZ,sS]
   refine' tkR 27 202 aD ?o31
   refine' tkR 28 203 aD ?o32
   refine' tkQ 29 204 aD ?hyv ?o33
   case hyv=>
    intro wz hSw;have bk:=aM.out wz hSw;go_simp
    try rfl
   try simp only [Act.put,sT,sZ,sS]
   refine' tkR 30 205 aD ?o34
   refine' tkQ 31 206 aD ?hyv ?o35
   case hyv=>
    intro wz hSw;have bk:=aM.out wz hSw;go_simp
    try rfl
   try simp only [Act.put,sT,sZ,sS]
   refine' tkR 32 207 aD ?o36
   refine' tkR 33 208 aD ?o37
   refine' tkQ 34 209 aD ?hyv ?o38
   case hyv=>
    intro wz hSw;have bk:=aM.out wz hSw;go_simp
    try rfl
   try simp only [Act.put,sT,sZ,sS]
   refine' tkR 35 210 aD ?o39
   refine' tkR 36 211 aD ?o40
   refine' zBS (i:=37) (oi:=⟨some 212,_,_,_,_,_⟩) (v:=.bool q3) rfl (by kernel_rfl) (by kernel_rfl) (by kernel_rfl) (by kernel_rfl) (fun _ _ _ h=>h) aD (by rfl) ?hyv ?o41
   case hyv=>
    intro wz hSw;go_simp;rw [ja.out,wrapS (x:=a.n+b.n) (by omega) (by omega)];unfold Sk.same;by_cases h1:t.o.elem=a.elem<;>by_cases h2:t.o.n=a.n+b.n<;>simp [h1,h2]
   try simp only [Act.put,sT,sZ,sS]
   refine' tkR 38 213 aD ?o42
   refine' tkR 39 2 aD ?o43
   refine zBN (by kernel_rfl) ?_ _;go_wp2;go_ret;refine ⟨?_,b1.trans (aD.mono b1.size)⟩;rw [HR.out]
   first | rfl | simp
end Go.Proofs.YtfhghlpfeeiaeaaGreatDoor
