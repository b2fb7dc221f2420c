import Derived.Test.YtfhghlpfeeiaeaaGreatDoorX04
import Derived.IntWalk
import Derived.Lib.Hide
import Derived.WalkKit
import Derived.WalkSpells
set_option linter.unusedVariables false
set_option linter.unusedSimpArgs false
set_option maxHeartbeats 64000000
set_option maxRecDepth 100000
namespace Go.Proofs.YtfhghlpfeeiaeaaGreatDoor
open Go.RowKit Go.IntWalk
def HVars (ok:Nat->Prop) (w:World) (v:Value) (l:List Sk.Vr):Prop:=∃ C,Sl ok 2 w v l.length C/\∀ i (h:i<l.length),C i=[.int .u8 (l[i]).elem,.int .i64 (l[i]).n]
theorem HVars.keep {ok:Nat->Prop} {w w':World} {v:Value} {l:List Sk.Vr} (h:HVars ok w v l) (hs:w.heap.size<=w'.heap.size) (hk:∀ i,ok i->i<w.heap.size->w'.heap[i]?=w.heap[i]?):HVars ok w' v l:=by
 obtain ⟨C,h1,h2⟩:=h;exact ⟨C,h1.keep hs hk,h2⟩
theorem HVars.under {ok:Nat->Prop} {w w':World} {v:Value} {l:List Sk.Vr} (h:HVars ok w v l) (a:Below w.heap.size w w'):HVars ok w' v l:=h.keep a.size fun i _ hl=>a.block i hl
theorem HVars.wide {ok ok':Nat->Prop} {w:World} {v:Value} {l:List Sk.Vr} (h:HVars ok w v l) (hk:∀ i,ok i->i<w.heap.size->ok' i):HVars ok' w v l:=by
 obtain ⟨C,h1,h2⟩:=h;exact ⟨C,h1.wide hk,h2⟩
theorem HVars.at {ok:Nat->Prop} {w:World} {v:Value} {l:List Sk.Vr} (h:HVars ok w v l) :
  ∃ ao cap,v=.slice ao l.length cap/\l.length<=cap/\cap<=maxLen/\∀ i (h:i<l.length),∃ b o,ao=some ⟨b,o,none⟩/\b<w.heap.size/\w.cell? ⟨b,o+i*2,none⟩=some (.int .u8 (l[i]).elem)/\w.cell? ⟨b,o+i*2+1,none⟩=some (.int .i64 (l[i]).n):=by
 obtain ⟨C,⟨ao,cap,hv,h1,h2,h3⟩,hC⟩:=h;refine ⟨ao,cap,hv,h1,h2,fun i hi=>?_⟩;obtain ⟨b,o,ha,gG,hb,hc⟩:=h3 (by omega);have eh:=(hc i hi).2;rw [hC i hi] at eh;exact ⟨b,o,ha,hb,(by have:=eh 0 (by decide);simpa only [Nat.add_zero,gZ] using this),(by have:=eh 1 (by decide);simpa only [gS,gZ] using this)⟩
namespace Sk
def goesFrom (k:Int) (f:Vr):Bool:=Kd.folds k&&same f (sc (Kd.opT k).1)
def goesOver (k:Int) (f a:Vr):Bool:=goesFrom k f&&arrOf a f
def hasPlace (a b c:Vr):Bool:=arrOf a c&&same b (sc 105)
end Sk
structure TRv where
 op:Int
 k:Int
 out:Int
 n:Int
 aA:Option Addr
 nA:Nat
 cA:Nat
 aE:Option Addr
 nE:Nat
 cE:Nat
 o:Sk.Vr
abbrev tv (t:TRv) (aa:Option Addr) (na ca:Nat):Value:=.agg #[.int .i64 t.op,.int .i64 t.k,.int .i64 t.out,.int .i64 t.n,.slice t.aA t.nA t.cA,.slice t.aE t.nE t.cE,.int .u8 t.o.elem,.int .i64 t.o.n,.slice aa na ca]
theorem zCQ (t:TRv) (aa:Option Addr) (na ca:Nat) (f:Sk.Vr) (w:World) (hG:GlobK w):Calls Tryz.prog 98 #[tv t aa na ca,vv f] w fun e w'=>e=.returned (.bool (Sk.goesFrom t.k f))/\Below w.heap.size w w':=by
 have b1:Below w.heap.size w ((w.alloc (.cells #[.int .i64 t.op,.int .i64 t.k,.int .i64 t.out,.int .i64 t.n,.slice t.aA t.nA t.cA,.slice t.aE t.nE t.cE,.int .u8 t.o.elem,.int .i64 t.o.n,.slice aa na ca] 109 (0,0))).alloc (.cells #[.int .u8 f.elem,.int .i64 f.n] 39 (0,0))):=((Below.refl _ _).alloc zBR _).alloc (by simp) _;have kA:((w.alloc (.cells #[.int .i64 t.op,.int .i64 t.k,.int .i64 t.out,.int .i64 t.n,.slice t.aA t.nA t.cA,.slice t.aE t.nE t.cE,.int .u8 t.o.elem,.int .i64 t.o.n,.slice aa na ca] 109 (0,0))).alloc (.cells #[.int .u8 f.elem,.int .i64 f.n] 39 (0,0))).heap[w.heap.size]?=some (.cells #[.int .i64 t.op,.int .i64 t.k,.int .i64 t.out,.int .i64 t.n,.slice t.aA t.nA t.cA,.slice t.aE t.nE t.cE,.int .u8 t.o.elem,.int .i64 t.o.n,.slice aa na ca] 109 (0,0)):=(Below.heap_alloc _ _ _ (by simp)).trans (zBO w _);have kB:((w.alloc (.cells #[.int .i64 t.op,.int .i64 t.k,.int .i64 t.out,.int .i64 t.n,.slice t.aA t.nA t.cA,.slice t.aE t.nE t.cE,.int .u8 t.o.elem,.int .i64 t.o.n,.slice aa na ca] 109 (0,0))).alloc (.cells #[.int .u8 f.elem,.int .i64 f.n] 39 (0,0))).heap[w.heap.size+1]?=some (.cells #[.int .u8 f.elem,.int .i64 f.n] 39 (0,0)):=by
  have:=zBO (w.alloc (.cells #[.int .i64 t.op,.int .i64 t.k,.int .i64 t.out,.int .i64 t.n,.slice t.aA t.nA t.cA,.slice t.aE t.nE t.cE,.int .u8 t.o.elem,.int .i64 t.o.n,.slice aa na ca] 109 (0,0))) (.cells #[.int .u8 f.elem,.int .i64 f.n] 39 (0,0))
  simpa using this
 obtain ⟨R,hR⟩:=nmQ (Sk.goesFrom t.k f);rw [<-hR];unfold Sk.goesFrom at hR;have DO:=hG.under b1;have wP:=zAG t.k;have yY:=folds_any t.k;generalize Kd.opT t.k=oq at wP hR;obtain ⟨tk,mk,on⟩:=oq
 dsimp only at wP hR
 generalize Kd.folds t.k=q at yY hR;obtain ⟨q2,aY⟩:=nmQ (Sk.same f (Sk.sc tk));rw [<-aY] at hR;have eK:=zBK aY;have HR:=zBK hR;clear hR aY;go_enter Tryz.func98,Tryz.ntmps98;go_upto_region 1 with fail;generalize (w.alloc (.cells #[.int .i64 t.op,.int .i64 t.k,.int .i64 t.out,.int .i64 t.n,.slice t.aA t.nA t.cA,.slice t.aE t.nE t.cE,.int .u8 t.o.elem,.int .i64 t.o.n,.slice aa na ca] 109 (0,0))).alloc (.cells #[.int .u8 f.elem,.int .i64 f.n] 39 (0,0))=w0 at b1 kA kB DO ⊢;have a1:=coQ kA 1;simp at a1;go_wp2_with fail;refine (wP w0 DO).mono ?_;rintro e w1 ⟨rfl,bx⟩;have b2:=b1.trans (bx.mono b1.size);have L0:=(bx.block _ (zBM kA)).trans kA;have L1:=(bx.block _ (zBM kB)).trans kB;have fL:=zBK (DO.under bx);clear kA kB a1 DO hG;have kA:=L0;have kB:=L1;clear L0 L1;go_upto_region 2 with fail;have a0:=coQ kA 0;have a1:=coQ kA 1;have a2:=coQ kA 2;have a3:=coQ kA 3;have a4:=coQ kA 4;have a5:=coQ kA 5;have a6:=coQ kA 6;have a7:=coQ kA 7;have a8:=coQ kA 8;simp at a0 a1 a2 a3 a4 a5 a6 a7 a8;have yA:=zBM kA;have c0:=coQ kB 0;have c1:=coQ kB 1;simp at c0 c1;have yB:=zBM kB;have aM:=zBK (fun (wz:World) (hSw:Below w1.heap.size w1 wz)=>And.intro ((hSw.cell (p:=⟨w.heap.size,0,none⟩) yA).trans a0) (And.intro ((hSw.cell (p:=⟨w.heap.size,1,none⟩) yA).trans a1) (And.intro ((hSw.cell (p:=⟨w.heap.size,2,none⟩) yA).trans a2) (And.intro ((hSw.cell (p:=⟨w.heap.size,3,none⟩) yA).trans a3) (And.intro ((hSw.cell (p:=⟨w.heap.size,4,none⟩) yA).trans a4) (And.intro ((hSw.cell (p:=⟨w.heap.size,5,none⟩) yA).trans a5) (And.intro ((hSw.cell (p:=⟨w.heap.size,6,none⟩) yA).trans a6) (And.intro ((hSw.cell (p:=⟨w.heap.size,7,none⟩) yA).trans a7) (And.intro ((hSw.cell (p:=⟨w.heap.size,8,none⟩) yA).trans a8) (And.intro ((hSw.cell (p:=⟨w.heap.size+1,0,none⟩) yB).trans c0) ((hSw.cell (p:=⟨w.heap.size+1,1,none⟩) yB).trans c1)))))))))));refine zBP (fun w'=>Below w1.heap.size w1 w') (fun _=>false) (by kernel_rfl) ?_;have ab:Below w1.heap.size w1 w1.drew:=(Below.refl _ _).drew;generalize w1.drew=ag at ab ⊢;refine' tkR 0 16 ab ?o1
 refine' tkR 1 17 ab ?o2
 refine' tkQ 2 18 ab ?hyv ?o3
 case hyv=>
  intro wz hSw;have bk:=aM.out wz hSw;go_simp
  try rfl
 try simp only [Act.put,sT,sZ,sS]
 refine tnQ 3 (fun K hK=>?_);go_simp;refine (yY ag (fL.out.under ab)).mono ?_;rintro eq aw ⟨rfl,cY⟩;have af:Below w1.heap.size w1 aw:=ab.trans (cY.mono ab.size);refine hK.out _ _ (fun _=>af) ?_;clear hK K
 try simp only [Act.put,sT,sZ,sS]
 refine' tkR 4 20 af ?o4
 cases q
 case false=>
  refine' tsQ 5 21 af ?_
  refine' tsQ 6 22 af ?_
  refine' tsQ 7 23 af ?_
  refine' tsQ 8 24 af ?_
  refine' tkR 9 25 af ?o5
  refine' tkR 10 4 af ?o6
  refine zBN (by kernel_rfl) ?_ _;go_wp2;go_ret;refine ⟨?_,b2.trans (af.mono b2.size)⟩;rw [HR.out];rfl
 case true=>
  refine' tkQ 5 21 af ?hyv ?o7
  case hyv=>
   intro wz hSw;have bk:=aM.out wz hSw;go_simp
   try rfl
  try simp only [Act.put,sT,sZ,sS]
  refine' tkR 6 22 af ?o8
  refine tnQ 7 (fun K hK=>?_);go_simp;refine (zBv tk aw).mono ?_;rintro eq aJ ⟨rfl,dz⟩;have ay:Below w1.heap.size w1 aJ:=af.trans (dz.mono af.size);refine hK.out _ _ (fun _=>ay) ?_;clear hK K
  try simp only [Act.put,sT,sZ,sS]
  refine' zBS (i:=8) (oi:=⟨some 24,_,_,_,_,_⟩) (v:=.bool q2) rfl (by kernel_rfl) (by kernel_rfl) (by kernel_rfl) (by kernel_rfl) (fun _ _ _ h=>h) ay (by rfl) ?hyv ?o9
  case hyv=>
   intro wz hSw;go_simp;rw [eK.out];unfold Sk.same;by_cases h1:f.elem=(Sk.sc tk).elem<;>by_cases h2:f.n=(Sk.sc tk).n<;>simp [h1,h2]
  try simp only [Act.put,sT,sZ,sS]
  refine' tkR 9 25 ay ?o10
  refine' tkR 10 4 ay ?o11
  refine zBN (by kernel_rfl) ?_ _;go_wp2;go_ret;refine ⟨?_,b2.trans (ay.mono b2.size)⟩;rw [HR.out];rw [Bool.true_and];rfl
theorem zCp {ok:Nat->Prop} (t:TRv) {aa:Option Addr} {na ca:Nat} (f g:Sk.Vr) (r:List Sk.Vr) (w:World) (hG:GlobK w) (hl:HVars ok w (.slice aa na ca) (f :: r)):Calls Tryz.prog 93 #[tv t aa na ca,vv g] w fun e w'=>e=.returned (.bool (Sk.goesOver t.k f g))/\Below w.heap.size w w':=by
 obtain ⟨ao,cap,hv,bm,aY,cc⟩:=hl.at;injection hv with v1 v2 v3;subst v1 v2 v3;obtain ⟨bl,ol,rfl,yl,x0,x1⟩:=cc 0 (by simp);simp at x0 x1;unfold maxLen at aY;obtain ⟨na,eH⟩:=nmQ ((f :: r).length);rw [<-eH] at bm ⊢;have fq:0<na:=(by rw [eH];simp);clear eH cc hl;have b1:Below w.heap.size w ((w.alloc (.cells #[.int .i64 t.op,.int .i64 t.k,.int .i64 t.out,.int .i64 t.n,.slice t.aA t.nA t.cA,.slice t.aE t.nE t.cE,.int .u8 t.o.elem,.int .i64 t.o.n,.slice (some ⟨bl,ol,none⟩) na ca] 109 (0,0))).alloc (.cells #[.int .u8 g.elem,.int .i64 g.n] 39 (0,0))):=((Below.refl _ _).alloc zBR _).alloc (by simp) _;have kA:((w.alloc (.cells #[.int .i64 t.op,.int .i64 t.k,.int .i64 t.out,.int .i64 t.n,.slice t.aA t.nA t.cA,.slice t.aE t.nE t.cE,.int .u8 t.o.elem,.int .i64 t.o.n,.slice (some ⟨bl,ol,none⟩) na ca] 109 (0,0))).alloc (.cells #[.int .u8 g.elem,.int .i64 g.n] 39 (0,0))).heap[w.heap.size]?=some (.cells #[.int .i64 t.op,.int .i64 t.k,.int .i64 t.out,.int .i64 t.n,.slice t.aA t.nA t.cA,.slice t.aE t.nE t.cE,.int .u8 t.o.elem,.int .i64 t.o.n,.slice (some ⟨bl,ol,none⟩) na ca] 109 (0,0)):=(Below.heap_alloc _ _ _ (by simp)).trans (zBO w _);have kB:((w.alloc (.cells #[.int .i64 t.op,.int .i64 t.k,.int .i64 t.out,.int .i64 t.n,.slice t.aA t.nA t.cA,.slice t.aE t.nE t.cE,.int .u8 t.o.elem,.int .i64 t.o.n,.slice (some ⟨bl,ol,none⟩) na ca] 109 (0,0))).alloc (.cells #[.int .u8 g.elem,.int .i64 g.n] 39 (0,0))).heap[w.heap.size+1]?=some (.cells #[.int .u8 g.elem,.int .i64 g.n] 39 (0,0)):=by
  have:=zBO (w.alloc (.cells #[.int .i64 t.op,.int .i64 t.k,.int .i64 t.out,.int .i64 t.n,.slice t.aA t.nA t.cA,.slice t.aE t.nE t.cE,.int .u8 t.o.elem,.int .i64 t.o.n,.slice (some ⟨bl,ol,none⟩) na ca] 109 (0,0))) (.cells #[.int .u8 g.elem,.int .i64 g.n] 39 (0,0))
  simpa using this
 obtain ⟨R,hR⟩:=nmQ (Sk.goesOver t.k f g);rw [<-hR];unfold Sk.goesOver at hR;have fL:=zBK (hG.under b1);have x9:=(b1.cell (p:=⟨bl,ol,none⟩) yl).trans x0;have ya:=(b1.cell (p:=⟨bl,ol+1,none⟩) yl).trans x1;have bP:=Nat.lt_of_lt_of_le yl b1.size;have bH:=zCQ t (some ⟨bl,ol,none⟩) na ca f;have cG:=zBm g f;generalize Sk.goesFrom t.k f=q at bH hR;generalize Sk.arrOf g f=q2 at cG hR;have HR:=zBK hR;clear hR hG x0 x1;go_enter Tryz.func93,Tryz.ntmps93;go_upto_region 1 with fail;generalize (w.alloc (.cells #[.int .i64 t.op,.int .i64 t.k,.int .i64 t.out,.int .i64 t.n,.slice t.aA t.nA t.cA,.slice t.aE t.nE t.cE,.int .u8 t.o.elem,.int .i64 t.o.n,.slice (some ⟨bl,ol,none⟩) na ca] 109 (0,0))).alloc (.cells #[.int .u8 g.elem,.int .i64 g.n] 39 (0,0))=w1 at b1 kA kB fL bP x9 ya ⊢;have a0:=coQ kA 0;have a1:=coQ kA 1;have a2:=coQ kA 2;have a3:=coQ kA 3;have a4:=coQ kA 4;have a5:=coQ kA 5;have a6:=coQ kA 6;have a7:=coQ kA 7;have a8:=coQ kA 8;simp at a0 a1 a2 a3 a4 a5 a6 a7 a8;have yA:=zBM kA;have c0:=coQ kB 0;have c1:=coQ kB 1;simp at c0 c1;have yB:=zBM kB;have aM:=zBK (fun (wz:World) (hSw:Below w1.heap.size w1 wz)=>And.intro ((hSw.cell (p:=⟨w.heap.size,0,none⟩) yA).trans a0) (And.intro ((hSw.cell (p:=⟨w.heap.size,1,none⟩) yA).trans a1) (And.intro ((hSw.cell (p:=⟨w.heap.size,2,none⟩) yA).trans a2) (And.intro ((hSw.cell (p:=⟨w.heap.size,3,none⟩) yA).trans a3) (And.intro ((hSw.cell (p:=⟨w.heap.size,4,none⟩) yA).trans a4) (And.intro ((hSw.cell (p:=⟨w.heap.size,5,none⟩) yA).trans a5) (And.intro ((hSw.cell (p:=⟨w.heap.size,6,none⟩) yA).trans a6) (And.intro ((hSw.cell (p:=⟨w.heap.size,7,none⟩) yA).trans a7) (And.intro ((hSw.cell (p:=⟨w.heap.size,8,none⟩) yA).trans a8) (And.intro ((hSw.cell (p:=⟨w.heap.size+1,0,none⟩) yB).trans c0) (And.intro ((hSw.cell (p:=⟨w.heap.size+1,1,none⟩) yB).trans c1) (And.intro ((hSw.cell (p:=⟨bl,ol,none⟩) bP).trans x9) ((hSw.cell (p:=⟨bl,ol+1,none⟩) bP).trans ya)))))))))))));refine zBP (fun w'=>Below w1.heap.size w1 w') (fun _=>false) (by kernel_rfl) ?_;have ab:Below w1.heap.size w1 w1.drew:=(Below.refl _ _).drew;generalize w1.drew=ag at ab ⊢;refine' tkQ 0 5 ab ?hyv ?o12
 case hyv=>
  intro wz hSw;have bk:=aM.out wz hSw;go_simp
  try rfl
 try simp only [Act.put,sT,sZ,sS]
 refine' tkR 1 6 ab ?o13
 refine' tkQ 2 7 ab ?hyv ?o14
 case hyv=>
  intro wz hSw;have bk:=aM.out wz hSw;go_simp
  try rfl
 try simp only [Act.put,sT,sZ,sS]
 refine' tkR 3 8 ab ?o15
 refine' tkQ 4 9 ab ?hyv ?o16
 case hyv=>
  intro wz hSw;have bk:=aM.out wz hSw;go_simp
  try rfl
 try simp only [Act.put,sT,sZ,sS]
 refine tnQ 5 (fun K hK=>?_);go_simp;refine (bH ag (fL.out.under ab)).mono ?_;rintro eq aw ⟨rfl,cY⟩;have af:Below w1.heap.size w1 aw:=ab.trans (cY.mono ab.size);refine hK.out _ _ (fun _=>af) ?_;clear hK K
 try simp only [Act.put,sT,sZ,sS]
 refine' tkR 6 11 af ?o17
 cases q
 case false=>
  refine' tsQ 7 12 af ?_
  refine' tsQ 8 13 af ?_
  refine' tsQ 9 14 af ?_
  refine' tsQ 10 15 af ?_
  refine' tsQ 11 16 af ?_
  refine' tsQ 12 17 af ?_
  refine' tkR 13 18 af ?o18
  refine' tkR 14 4 af ?o19
  refine zBN (by kernel_rfl) ?_ _;go_wp2;go_ret;refine ⟨?_,b1.trans (af.mono b1.size)⟩;rw [HR.out];rfl
 case true=>
  refine' tkQ 7 12 af ?hyv ?o20
  case hyv=>
   intro wz hSw;have bk:=aM.out wz hSw;go_simp
   try rfl
  try simp only [Act.put,sT,sZ,sS]
  refine' tkR 8 13 af ?o21
  refine' tkQ 9 14 af ?hyv ?o22
  case hyv=>
   intro wz hSw;have bk:=aM.out wz hSw;go_simp
   try rfl
  try simp only [Act.put,sT,sZ,sS]
  refine' tkR 10 15 af ?o23
  refine' tkQ 11 16 af ?hyv ?o24
  case hyv=>
   intro wz hSw;have bk:=aM.out wz hSw;go_simp
   try rfl
  try simp only [Act.put,sT,sZ,sS]
  refine tnQ 12 (fun K hK=>?_);go_simp;refine (cG aw).mono ?_;rintro eq aJ ⟨rfl,dz⟩;have ay:Below w1.heap.size w1 aJ:=af.trans (dz.mono af.size);refine hK.out _ _ (fun _=>ay) ?_;clear hK K
  try simp only [Act.put,sT,sZ,sS]
  refine' tkR 13 18 ay ?o25
  refine' tkR 14 4 ay ?o26
  refine zBN (by kernel_rfl) ?_ _;go_wp2;go_ret;refine ⟨?_,b1.trans (ay.mono b1.size)⟩;rw [HR.out];rw [Bool.true_and];rfl
end Go.Proofs.YtfhghlpfeeiaeaaGreatDoor
