import Derived.Test.YtegakbobaecdlaaGreatDoorL07
import Derived.WalkKit
import Derived.WalkSpells
import Derived.IntWalk
import Derived.Lib.Hide
set_option linter.unusedVariables false
set_option linter.unusedSimpArgs false
set_option maxHeartbeats 64000000
set_option maxRecDepth 100000
namespace Go.Proofs.YtegakbobaecdlaaGreatDoor
open Go.RowKit Go.IntWalk
def HVars (ok:Nat->Prop) (w:World) (v:Value) (l:List Sk.Vr):Prop:=∃ C,Sl ok 2 w v l.length C/\∀ i (h:i<l.length),C i=[.int .u8 (l[i]).elem,.int .i64 (l[i]).n]
theorem HVars.keep {ok:Nat->Prop} {w w':World} {v:Value} {l:List Sk.Vr} (h:HVars ok w v l) (hs:w.heap.size<=w'.heap.size) (hk:∀ i,ok i->i<w.heap.size->w'.heap[i]?=w.heap[i]?):HVars ok w' v l:=by
 obtain ⟨C,h1,h2⟩:=h;exact ⟨C,h1.keep hs hk,h2⟩
theorem HVars.under {ok:Nat->Prop} {w w':World} {v:Value} {l:List Sk.Vr} (h:HVars ok w v l) (a:Below w.heap.size w w'):HVars ok w' v l:=h.keep a.size fun i _ hl=>a.block i hl
theorem HVars.wide {ok ok':Nat->Prop} {w:World} {v:Value} {l:List Sk.Vr} (h:HVars ok w v l) (hk:∀ i,ok i->i<w.heap.size->ok' i):HVars ok' w v l:=by
 obtain ⟨C,h1,h2⟩:=h;exact ⟨C,h1.wide hk,h2⟩
theorem HVars.at {ok:Nat->Prop} {w:World} {v:Value} {l:List Sk.Vr} (h:HVars ok w v l) :
  ∃ ao cap,v=.slice ao l.length cap/\l.length<=cap/\cap<=maxLen/\∀ i (h:i<l.length),∃ b o,ao=some ⟨b,o,none⟩/\b<w.heap.size/\w.cell? ⟨b,o+i*2,none⟩=some (.int .u8 (l[i]).elem)/\w.cell? ⟨b,o+i*2+1,none⟩=some (.int .i64 (l[i]).n):=by
 obtain ⟨C,⟨ao,cap,hv,h1,h2,h3⟩,hC⟩:=h;refine ⟨ao,cap,hv,h1,h2,fun i hi=>?_⟩;obtain ⟨b,o,ha,hob,hb,hc⟩:=h3 (by omega);have hcc:=(hc i hi).2;rw [hC i hi] at hcc;exact ⟨b,o,ha,hb,(by have:=hcc 0 (by decide);simpa only [Nat.add_zero,gZ] using this),(by have:=hcc 1 (by decide);simpa only [gS,gZ] using this)⟩
namespace Sk
def goesFrom (k:Int) (f:Vr):Bool:=Kd.folds k&&same f (sc (Kd.opT k).1)
def goesOver (k:Int) (f a:Vr):Bool:=goesFrom k f&&arrOf a f
def hasPlace (a b c:Vr):Bool:=arrOf a c&&same b (sc 105)
end Sk
structure TRv where
 op:Int
 k:Int
 out:Int
 n:Int
 aA:Option Addr
 nA:Nat
 cA:Nat
 aE:Option Addr
 nE:Nat
 cE:Nat
 o:Sk.Vr
abbrev tv (t:TRv) (aa:Option Addr) (na ca:Nat):Value:=.agg #[.int .i64 t.op,.int .i64 t.k,.int .i64 t.out,.int .i64 t.n,.slice t.aA t.nA t.cA,.slice t.aE t.nE t.cE,.int .u8 t.o.elem,.int .i64 t.o.n,.slice aa na ca]
theorem qU (t:TRv) (aa:Option Addr) (na ca:Nat) (f:Sk.Vr) (w:World) (hG:GlobK w):Calls Tryz.prog 152 #[tv t aa na ca,vv f] w fun e w'=>e=.returned (.bool (Sk.goesFrom t.k f))/\Below w.heap.size w w':=by
 have b1:Below w.heap.size w ((w.alloc (.cells #[.int .i64 t.op,.int .i64 t.k,.int .i64 t.out,.int .i64 t.n,.slice t.aA t.nA t.cA,.slice t.aE t.nE t.cE,.int .u8 t.o.elem,.int .i64 t.o.n,.slice aa na ca] 149 (0,0))).alloc (.cells #[.int .u8 f.elem,.int .i64 f.n] 55 (0,0))):=((Below.refl _ _).alloc zM _).alloc (by simp) _;have kA:((w.alloc (.cells #[.int .i64 t.op,.int .i64 t.k,.int .i64 t.out,.int .i64 t.n,.slice t.aA t.nA t.cA,.slice t.aE t.nE t.cE,.int .u8 t.o.elem,.int .i64 t.o.n,.slice aa na ca] 149 (0,0))).alloc (.cells #[.int .u8 f.elem,.int .i64 f.n] 55 (0,0))).heap[w.heap.size]?=some (.cells #[.int .i64 t.op,.int .i64 t.k,.int .i64 t.out,.int .i64 t.n,.slice t.aA t.nA t.cA,.slice t.aE t.nE t.cE,.int .u8 t.o.elem,.int .i64 t.o.n,.slice aa na ca] 149 (0,0)):=(Below.heap_alloc _ _ _ (by simp)).trans (zI w _);have kB:((w.alloc (.cells #[.int .i64 t.op,.int .i64 t.k,.int .i64 t.out,.int .i64 t.n,.slice t.aA t.nA t.cA,.slice t.aE t.nE t.cE,.int .u8 t.o.elem,.int .i64 t.o.n,.slice aa na ca] 149 (0,0))).alloc (.cells #[.int .u8 f.elem,.int .i64 f.n] 55 (0,0))).heap[w.heap.size+1]?=some (.cells #[.int .u8 f.elem,.int .i64 f.n] 55 (0,0)):=by
  have:=zI (w.alloc (.cells #[.int .i64 t.op,.int .i64 t.k,.int .i64 t.out,.int .i64 t.n,.slice t.aA t.nA t.cA,.slice t.aE t.nE t.cE,.int .u8 t.o.elem,.int .i64 t.o.n,.slice aa na ca] 149 (0,0))) (.cells #[.int .u8 f.elem,.int .i64 f.n] 55 (0,0))
  simpa using this
 obtain ⟨R,hR⟩:=nmQ (Sk.goesFrom t.k f);rw [<-hR];unfold Sk.goesFrom at hR;have hG1:=hG.under b1;have hcO:=jK t.k;have hcF:=folds_any t.k;generalize Kd.opT t.k=oq at hcO hR;obtain ⟨tk,mk,on⟩:=oq
 dsimp only at hcO hR
 generalize Kd.folds t.k=q at hcF hR;obtain ⟨q2,hq2⟩:=nmQ (Sk.same f (Sk.sc tk));rw [<-hq2] at hR;have HQ2:=zE hq2;have HR:=zE hR;clear hR hq2;go_enter Tryz.func152,Tryz.ntmps152;go_upto_region 1 with fail;generalize (w.alloc (.cells #[.int .i64 t.op,.int .i64 t.k,.int .i64 t.out,.int .i64 t.n,.slice t.aA t.nA t.cA,.slice t.aE t.nE t.cE,.int .u8 t.o.elem,.int .i64 t.o.n,.slice aa na ca] 149 (0,0))).alloc (.cells #[.int .u8 f.elem,.int .i64 f.n] 55 (0,0))=w0 at b1 kA kB hG1 ⊢;have a1:=coQ kA 1;simp at a1;go_wp2_with fail;refine (hcO w0 hG1).mono ?_;rintro e w1 ⟨rfl,bx⟩;have b2:=b1.trans (bx.mono b1.size);have kA1:=(bx.block _ (zG kA)).trans kA;have kB1:=(bx.block _ (zG kB)).trans kB;have HG1:=zE (hG1.under bx);clear kA kB a1 hG1 hG;have kA:=kA1;have kB:=kB1;clear kA1 kB1;go_upto_region 2 with fail;have a0:=coQ kA 0;have a1:=coQ kA 1;have a2:=coQ kA 2;have a3:=coQ kA 3;have a4:=coQ kA 4;have a5:=coQ kA 5;have a6:=coQ kA 6;have a7:=coQ kA 7;have a8:=coQ kA 8;simp at a0 a1 a2 a3 a4 a5 a6 a7 a8;have yA:=zG kA;have c0:=coQ kB 0;have c1:=coQ kB 1;simp at c0 c1;have yB:=zG kB;refine zK (fun w'=>Below w1.heap.size w1 w') (fun _=>false) (by kernel_rfl) ?_;have hH0:Below w1.heap.size w1 w1.drew:=(Below.refl _ _).drew;generalize w1.drew=wd0 at hH0 ⊢;refine' tkR 0 16 hH0 ?o1
 refine' tkR 1 17 hH0 ?o2
 refine' tkQ 2 18 hH0 ?hyv ?o3
 case hyv=>
  intro wz hSw;have zc0:=(hSw.cell (p:=⟨w.heap.size,0,none⟩) yA).trans a0;have zc1:=(hSw.cell (p:=⟨w.heap.size,1,none⟩) yA).trans a1;have zc2:=(hSw.cell (p:=⟨w.heap.size,2,none⟩) yA).trans a2;have zc3:=(hSw.cell (p:=⟨w.heap.size,3,none⟩) yA).trans a3;have zc4:=(hSw.cell (p:=⟨w.heap.size,4,none⟩) yA).trans a4;have zc5:=(hSw.cell (p:=⟨w.heap.size,5,none⟩) yA).trans a5;have zc6:=(hSw.cell (p:=⟨w.heap.size,6,none⟩) yA).trans a6;have zc7:=(hSw.cell (p:=⟨w.heap.size,7,none⟩) yA).trans a7;have zc8:=(hSw.cell (p:=⟨w.heap.size,8,none⟩) yA).trans a8;have zc9:=(hSw.cell (p:=⟨w.heap.size+1,0,none⟩) yB).trans c0;have zc10:=(hSw.cell (p:=⟨w.heap.size+1,1,none⟩) yB).trans c1;go_simp
  try rfl
 try simp only [Act.put,sT,sZ,sS]
 refine tnQ 3 (fun K hK=>?_);go_simp;refine (hcF wd0 (HG1.out.under hH0)).mono ?_;rintro eq wd1 ⟨rfl,bq1⟩;have hH1:Below w1.heap.size w1 wd1:=hH0.trans (bq1.mono hH0.size);refine hK.out _ _ (fun _=>hH1) ?_;clear hK K
 try simp only [Act.put,sT,sZ,sS]
 refine' tkR 4 20 hH1 ?o4
 cases q
 case false=>
  refine zD (i:=5) (oi:=⟨some 21,_,_,_,_,_⟩) rfl (by kernel_rfl) (by kernel_rfl) (by kernel_rfl) (by kernel_rfl) (fun _ _ _ h=>h) hH1 (by rfl) ?_
  try simp only [Act.put,sT,sZ,sS]
  refine zD (i:=6) (oi:=⟨some 22,_,_,_,_,_⟩) rfl (by kernel_rfl) (by kernel_rfl) (by kernel_rfl) (by kernel_rfl) (fun _ _ _ h=>h) hH1 (by rfl) ?_
  try simp only [Act.put,sT,sZ,sS]
  refine zD (i:=7) (oi:=⟨some 23,_,_,_,_,_⟩) rfl (by kernel_rfl) (by kernel_rfl) (by kernel_rfl) (by kernel_rfl) (fun _ _ _ h=>h) hH1 (by rfl) ?_
  try simp only [Act.put,sT,sZ,sS]
  refine zD (i:=8) (oi:=⟨some 24,_,_,_,_,_⟩) rfl (by kernel_rfl) (by kernel_rfl) (by kernel_rfl) (by kernel_rfl) (fun _ _ _ h=>h) hH1 (by rfl) ?_
  try simp only [Act.put,sT,sZ,sS]
  refine' tkR 9 25 hH1 ?o5
  refine' tkR 10 4 hH1 ?o6
  refine zH (by kernel_rfl) ?_ _;go_wp2;go_ret;refine ⟨?_,b2.trans (hH1.mono b2.size)⟩;rw [HR.out];rfl
 case true=>
  refine' tkQ 5 21 hH1 ?hyv ?o7
  case hyv=>
   intro wz hSw;have zc0:=(hSw.cell (p:=⟨w.heap.size,0,none⟩) yA).trans a0;have zc1:=(hSw.cell (p:=⟨w.heap.size,1,none⟩) yA).trans a1;have zc2:=(hSw.cell (p:=⟨w.heap.size,2,none⟩) yA).trans a2;have zc3:=(hSw.cell (p:=⟨w.heap.size,3,none⟩) yA).trans a3;have zc4:=(hSw.cell (p:=⟨w.heap.size,4,none⟩) yA).trans a4;have zc5:=(hSw.cell (p:=⟨w.heap.size,5,none⟩) yA).trans a5;have zc6:=(hSw.cell (p:=⟨w.heap.size,6,none⟩) yA).trans a6;have zc7:=(hSw.cell (p:=⟨w.heap.size,7,none⟩) yA).trans a7;have zc8:=(hSw.cell (p:=⟨w.heap.size,8,none⟩) yA).trans a8;have zc9:=(hSw.cell (p:=⟨w.heap.size+1,0,none⟩) yB).trans c0;have zc10:=(hSw.cell (p:=⟨w.heap.size+1,1,none⟩) yB).trans c1;go_simp
   try rfl
  try simp only [Act.put,sT,sZ,sS]
  refine' tkR 6 22 hH1 ?o8
  refine tnQ 7 (fun K hK=>?_);go_simp;refine (xM tk wd1).mono ?_;rintro eq wd2 ⟨rfl,bq2⟩;have hH2:Below w1.heap.size w1 wd2:=hH1.trans (bq2.mono hH1.size);refine hK.out _ _ (fun _=>hH2) ?_;clear hK K
  try simp only [Act.put,sT,sZ,sS]
  refine' zO (i:=8) (oi:=⟨some 24,_,_,_,_,_⟩) (v:=.bool q2) rfl (by kernel_rfl) (by kernel_rfl) (by kernel_rfl) (by kernel_rfl) (fun _ _ _ h=>h) hH2 (by rfl) ?hyv ?o9
  case hyv=>
   intro wz hSw;go_simp;rw [HQ2.out];unfold Sk.same;by_cases h1:f.elem=(Sk.sc tk).elem<;>by_cases h2:f.n=(Sk.sc tk).n<;>simp [h1,h2]
  try simp only [Act.put,sT,sZ,sS]
  refine' tkR 9 25 hH2 ?o10
  refine' tkR 10 4 hH2 ?o11
  refine zH (by kernel_rfl) ?_ _;go_wp2;go_ret;refine ⟨?_,b2.trans (hH2.mono b2.size)⟩;rw [HR.out];rw [Bool.true_and];rfl
theorem jF {ok:Nat->Prop} (t:TRv) {aa:Option Addr} {na ca:Nat} (f g:Sk.Vr) (r:List Sk.Vr) (w:World) (hG:GlobK w) (hl:HVars ok w (.slice aa na ca) (f :: r)):Calls Tryz.prog 147 #[tv t aa na ca,vv g] w fun e w'=>e=.returned (.bool (Sk.goesOver t.k f g))/\Below w.heap.size w w':=by
 obtain ⟨ao,cap,hv,hq1,hq2,hat0⟩:=hl.at;injection hv with v1 v2 v3;subst v1 v2 v3;obtain ⟨bl,ol,rfl,yl,x0,x1⟩:=hat0 0 (by simp);simp at x0 x1;unfold maxLen at hq2;obtain ⟨na,hna⟩:=nmQ ((f :: r).length);rw [<-hna] at hq1 ⊢;have hn0:0<na:=(by rw [hna];simp);clear hna hat0 hl;have b1:Below w.heap.size w ((w.alloc (.cells #[.int .i64 t.op,.int .i64 t.k,.int .i64 t.out,.int .i64 t.n,.slice t.aA t.nA t.cA,.slice t.aE t.nE t.cE,.int .u8 t.o.elem,.int .i64 t.o.n,.slice (some ⟨bl,ol,none⟩) na ca] 149 (0,0))).alloc (.cells #[.int .u8 g.elem,.int .i64 g.n] 55 (0,0))):=((Below.refl _ _).alloc zM _).alloc (by simp) _;have kA:((w.alloc (.cells #[.int .i64 t.op,.int .i64 t.k,.int .i64 t.out,.int .i64 t.n,.slice t.aA t.nA t.cA,.slice t.aE t.nE t.cE,.int .u8 t.o.elem,.int .i64 t.o.n,.slice (some ⟨bl,ol,none⟩) na ca] 149 (0,0))).alloc (.cells #[.int .u8 g.elem,.int .i64 g.n] 55 (0,0))).heap[w.heap.size]?=some (.cells #[.int .i64 t.op,.int .i64 t.k,.int .i64 t.out,.int .i64 t.n,.slice t.aA t.nA t.cA,.slice t.aE t.nE t.cE,.int .u8 t.o.elem,.int .i64 t.o.n,.slice (some ⟨bl,ol,none⟩) na ca] 149 (0,0)):=(Below.heap_alloc _ _ _ (by simp)).trans (zI w _);have kB:((w.alloc (.cells #[.int .i64 t.op,.int .i64 t.k,.int .i64 t.out,.int .i64 t.n,.slice t.aA t.nA t.cA,.slice t.aE t.nE t.cE,.int .u8 t.o.elem,.int .i64 t.o.n,.slice (some ⟨bl,ol,none⟩) na ca] 149 (0,0))).alloc (.cells #[.int .u8 g.elem,.int .i64 g.n] 55 (0,0))).heap[w.heap.size+1]?=some (.cells #[.int .u8 g.elem,.int .i64 g.n] 55 (0,0)):=by
  have:=zI (w.alloc (.cells #[.int .i64 t.op,.int .i64 t.k,.int .i64 t.out,.int .i64 t.n,.slice t.aA t.nA t.cA,.slice t.aE t.nE t.cE,.int .u8 t.o.elem,.int .i64 t.o.n,.slice (some ⟨bl,ol,none⟩) na ca] 149 (0,0))) (.cells #[.int .u8 g.elem,.int .i64 g.n] 55 (0,0))
  simpa using this
 obtain ⟨R,hR⟩:=nmQ (Sk.goesOver t.k f g);rw [<-hR];unfold Sk.goesOver at hR;have HG1:=zE (hG.under b1);have x01:=(b1.cell (p:=⟨bl,ol,none⟩) yl).trans x0;have x11:=(b1.cell (p:=⟨bl,ol+1,none⟩) yl).trans x1;have yl1:=Nat.lt_of_lt_of_le yl b1.size;have hc1:=qU t (some ⟨bl,ol,none⟩) na ca f;have hc2:=xG g f;generalize Sk.goesFrom t.k f=q at hc1 hR;generalize Sk.arrOf g f=q2 at hc2 hR;have HR:=zE hR;clear hR hG x0 x1;go_enter Tryz.func147,Tryz.ntmps147;go_upto_region 1 with fail;generalize (w.alloc (.cells #[.int .i64 t.op,.int .i64 t.k,.int .i64 t.out,.int .i64 t.n,.slice t.aA t.nA t.cA,.slice t.aE t.nE t.cE,.int .u8 t.o.elem,.int .i64 t.o.n,.slice (some ⟨bl,ol,none⟩) na ca] 149 (0,0))).alloc (.cells #[.int .u8 g.elem,.int .i64 g.n] 55 (0,0))=w1 at b1 kA kB HG1 yl1 x01 x11 ⊢;have a0:=coQ kA 0;have a1:=coQ kA 1;have a2:=coQ kA 2;have a3:=coQ kA 3;have a4:=coQ kA 4;have a5:=coQ kA 5;have a6:=coQ kA 6;have a7:=coQ kA 7;have a8:=coQ kA 8;simp at a0 a1 a2 a3 a4 a5 a6 a7 a8;have yA:=zG kA;have c0:=coQ kB 0;have c1:=coQ kB 1;simp at c0 c1;have yB:=zG kB;refine zK (fun w'=>Below w1.heap.size w1 w') (fun _=>false) (by kernel_rfl) ?_;have hH0:Below w1.heap.size w1 w1.drew:=(Below.refl _ _).drew;generalize w1.drew=wd0 at hH0 ⊢;refine' tkQ 0 5 hH0 ?hyv ?o12
 case hyv=>
  intro wz hSw;have zc0:=(hSw.cell (p:=⟨w.heap.size,0,none⟩) yA).trans a0;have zc1:=(hSw.cell (p:=⟨w.heap.size,1,none⟩) yA).trans a1;have zc2:=(hSw.cell (p:=⟨w.heap.size,2,none⟩) yA).trans a2;have zc3:=(hSw.cell (p:=⟨w.heap.size,3,none⟩) yA).trans a3;have zc4:=(hSw.cell (p:=⟨w.heap.size,4,none⟩) yA).trans a4;have zc5:=(hSw.cell (p:=⟨w.heap.size,5,none⟩) yA).trans a5;have zc6:=(hSw.cell (p:=⟨w.heap.size,6,none⟩) yA).trans a6;have zc7:=(hSw.cell (p:=⟨w.heap.size,7,none⟩) yA).trans a7;have zc8:=(hSw.cell (p:=⟨w.heap.size,8,none⟩) yA).trans a8;have zc9:=(hSw.cell (p:=⟨w.heap.size+1,0,none⟩) yB).trans c0;have zc10:=(hSw.cell (p:=⟨w.heap.size+1,1,none⟩) yB).trans c1;have zc11:=(hSw.cell (p:=⟨bl,ol,none⟩) yl1).trans x01;have zc12:=(hSw.cell (p:=⟨bl,ol+1,none⟩) yl1).trans x11;go_simp
  try rfl
 try simp only [Act.put,sT,sZ,sS]
 refine' tkR 1 6 hH0 ?o13
 refine' tkQ 2 7 hH0 ?hyv ?o14
 case hyv=>
  intro wz hSw;have zc0:=(hSw.cell (p:=⟨w.heap.size,0,none⟩) yA).trans a0;have zc1:=(hSw.cell (p:=⟨w.heap.size,1,none⟩) yA).trans a1;have zc2:=(hSw.cell (p:=⟨w.heap.size,2,none⟩) yA).trans a2;have zc3:=(hSw.cell (p:=⟨w.heap.size,3,none⟩) yA).trans a3;have zc4:=(hSw.cell (p:=⟨w.heap.size,4,none⟩) yA).trans a4;have zc5:=(hSw.cell (p:=⟨w.heap.size,5,none⟩) yA).trans a5;have zc6:=(hSw.cell (p:=⟨w.heap.size,6,none⟩) yA).trans a6;have zc7:=(hSw.cell (p:=⟨w.heap.size,7,none⟩) yA).trans a7;have zc8:=(hSw.cell (p:=⟨w.heap.size,8,none⟩) yA).trans a8;have zc9:=(hSw.cell (p:=⟨w.heap.size+1,0,none⟩) yB).trans c0;have zc10:=(hSw.cell (p:=⟨w.heap.size+1,1,none⟩) yB).trans c1;have zc11:=(hSw.cell (p:=⟨bl,ol,none⟩) yl1).trans x01;have zc12:=(hSw.cell (p:=⟨bl,ol+1,none⟩) yl1).trans x11;go_simp
  try rfl
 try simp only [Act.put,sT,sZ,sS]
 refine' tkR 3 8 hH0 ?o15
 refine' tkQ 4 9 hH0 ?hyv ?o16
 case hyv=>
  intro wz hSw;have zc0:=(hSw.cell (p:=⟨w.heap.size,0,none⟩) yA).trans a0;have zc1:=(hSw.cell (p:=⟨w.heap.size,1,none⟩) yA).trans a1;have zc2:=(hSw.cell (p:=⟨w.heap.size,2,none⟩) yA).trans a2;have zc3:=(hSw.cell (p:=⟨w.heap.size,3,none⟩) yA).trans a3;have zc4:=(hSw.cell (p:=⟨w.heap.size,4,none⟩) yA).trans a4;have zc5:=(hSw.cell (p:=⟨w.heap.size,5,none⟩) yA).trans a5;have zc6:=(hSw.cell (p:=⟨w.heap.size,6,none⟩) yA).trans a6;have zc7:=(hSw.cell (p:=⟨w.heap.size,7,none⟩) yA).trans a7;have zc8:=(hSw.cell (p:=⟨w.heap.size,8,none⟩) yA).trans a8;have zc9:=(hSw.cell (p:=⟨w.heap.size+1,0,none⟩) yB).trans c0;have zc10:=(hSw.cell (p:=⟨w.heap.size+1,1,none⟩) yB).trans c1;have zc11:=(hSw.cell (p:=⟨bl,ol,none⟩) yl1).trans x01;have zc12:=(hSw.cell (p:=⟨bl,ol+1,none⟩) yl1).trans x11;go_simp
  try rfl
 try simp only [Act.put,sT,sZ,sS]
 refine tnQ 5 (fun K hK=>?_);go_simp;refine (hc1 wd0 (HG1.out.under hH0)).mono ?_;rintro eq wd1 ⟨rfl,bq1⟩;have hH1:Below w1.heap.size w1 wd1:=hH0.trans (bq1.mono hH0.size);refine hK.out _ _ (fun _=>hH1) ?_;clear hK K
 try simp only [Act.put,sT,sZ,sS]
 refine' tkR 6 11 hH1 ?o17
 cases q
 case false=>
  refine zD (i:=7) (oi:=⟨some 12,_,_,_,_,_⟩) rfl (by kernel_rfl) (by kernel_rfl) (by kernel_rfl) (by kernel_rfl) (fun _ _ _ h=>h) hH1 (by rfl) ?_
  try simp only [Act.put,sT,sZ,sS]
  refine zD (i:=8) (oi:=⟨some 13,_,_,_,_,_⟩) rfl (by kernel_rfl) (by kernel_rfl) (by kernel_rfl) (by kernel_rfl) (fun _ _ _ h=>h) hH1 (by rfl) ?_
  try simp only [Act.put,sT,sZ,sS]
  refine zD (i:=9) (oi:=⟨some 14,_,_,_,_,_⟩) rfl (by kernel_rfl) (by kernel_rfl) (by kernel_rfl) (by kernel_rfl) (fun _ _ _ h=>h) hH1 (by rfl) ?_
  try simp only [Act.put,sT,sZ,sS]
  refine zD (i:=10) (oi:=⟨some 15,_,_,_,_,_⟩) rfl (by kernel_rfl) (by kernel_rfl) (by kernel_rfl) (by kernel_rfl) (fun _ _ _ h=>h) hH1 (by rfl) ?_
  try simp only [Act.put,sT,sZ,sS]
  refine zD (i:=11) (oi:=⟨some 16,_,_,_,_,_⟩) rfl (by kernel_rfl) (by kernel_rfl) (by kernel_rfl) (by kernel_rfl) (fun _ _ _ h=>h) hH1 (by rfl) ?_
  try simp only [Act.put,sT,sZ,sS]
  refine zD (i:=12) (oi:=⟨some 17,_,_,_,_,_⟩) rfl (by kernel_rfl) (by kernel_rfl) (by kernel_rfl) (by kernel_rfl) (fun _ _ _ h=>h) hH1 (by rfl) ?_
  try simp only [Act.put,sT,sZ,sS]
  refine' tkR 13 18 hH1 ?o18
  refine' tkR 14 4 hH1 ?o19
  refine zH (by kernel_rfl) ?_ _;go_wp2;go_ret;refine ⟨?_,b1.trans (hH1.mono b1.size)⟩;rw [HR.out];rfl
 case true=>
  refine' tkQ 7 12 hH1 ?hyv ?o20
  case hyv=>
   intro wz hSw;have zc0:=(hSw.cell (p:=⟨w.heap.size,0,none⟩) yA).trans a0;have zc1:=(hSw.cell (p:=⟨w.heap.size,1,none⟩) yA).trans a1;have zc2:=(hSw.cell (p:=⟨w.heap.size,2,none⟩) yA).trans a2;have zc3:=(hSw.cell (p:=⟨w.heap.size,3,none⟩) yA).trans a3;have zc4:=(hSw.cell (p:=⟨w.heap.size,4,none⟩) yA).trans a4;have zc5:=(hSw.cell (p:=⟨w.heap.size,5,none⟩) yA).trans a5;have zc6:=(hSw.cell (p:=⟨w.heap.size,6,none⟩) yA).trans a6;have zc7:=(hSw.cell (p:=⟨w.heap.size,7,none⟩) yA).trans a7;have zc8:=(hSw.cell (p:=⟨w.heap.size,8,none⟩) yA).trans a8;have zc9:=(hSw.cell (p:=⟨w.heap.size+1,0,none⟩) yB).trans c0;have zc10:=(hSw.cell (p:=⟨w.heap.size+1,1,none⟩) yB).trans c1;have zc11:=(hSw.cell (p:=⟨bl,ol,none⟩) yl1).trans x01;have zc12:=(hSw.cell (p:=⟨bl,ol+1,none⟩) yl1).trans x11;go_simp
   try rfl
  try simp only [Act.put,sT,sZ,sS]
  refine' tkR 8 13 hH1 ?o21
  refine' tkQ 9 14 hH1 ?hyv ?o22
  case hyv=>
   intro wz hSw;have zc0:=(hSw.cell (p:=⟨w.heap.size,0,none⟩) yA).trans a0;have zc1:=(hSw.cell (p:=⟨w.heap.size,1,none⟩) yA).trans a1;have zc2:=(hSw.cell (p:=⟨w.heap.size,2,none⟩) yA).trans a2;have zc3:=(hSw.cell (p:=⟨w.heap.size,3,none⟩) yA).trans a3;have zc4:=(hSw.cell (p:=⟨w.heap.size,4,none⟩) yA).trans a4;have zc5:=(hSw.cell (p:=⟨w.heap.size,5,none⟩) yA).trans a5;have zc6:=(hSw.cell (p:=⟨w.heap.size,6,none⟩) yA).trans a6;have zc7:=(hSw.cell (p:=⟨w.heap.size,7,none⟩) yA).trans a7;have zc8:=(hSw.cell (p:=⟨w.heap.size,8,none⟩) yA).trans a8;have zc9:=(hSw.cell (p:=⟨w.heap.size+1,0,none⟩) yB).trans c0;have zc10:=(hSw.cell (p:=⟨w.heap.size+1,1,none⟩) yB).trans c1;have zc11:=(hSw.cell (p:=⟨bl,ol,none⟩) yl1).trans x01;have zc12:=(hSw.cell (p:=⟨bl,ol+1,none⟩) yl1).trans x11;go_simp
   try rfl
  try simp only [Act.put,sT,sZ,sS]
  refine' tkR 10 15 hH1 ?o23
  refine' tkQ 11 16 hH1 ?hyv ?o24
  case hyv=>
   intro wz hSw;have zc0:=(hSw.cell (p:=⟨w.heap.size,0,none⟩) yA).trans a0;have zc1:=(hSw.cell (p:=⟨w.heap.size,1,none⟩) yA).trans a1;have zc2:=(hSw.cell (p:=⟨w.heap.size,2,none⟩) yA).trans a2;have zc3:=(hSw.cell (p:=⟨w.heap.size,3,none⟩) yA).trans a3;have zc4:=(hSw.cell (p:=⟨w.heap.size,4,none⟩) yA).trans a4;have zc5:=(hSw.cell (p:=⟨w.heap.size,5,none⟩) yA).trans a5;have zc6:=(hSw.cell (p:=⟨w.heap.size,6,none⟩) yA).trans a6;have zc7:=(hSw.cell (p:=⟨w.heap.size,7,none⟩) yA).trans a7;have zc8:=(hSw.cell (p:=⟨w.heap.size,8,none⟩) yA).trans a8;have zc9:=(hSw.cell (p:=⟨w.heap.size+1,0,none⟩) yB).trans c0;have zc10:=(hSw.cell (p:=⟨w.heap.size+1,1,none⟩) yB).trans c1;have zc11:=(hSw.cell (p:=⟨bl,ol,none⟩) yl1).trans x01;have zc12:=(hSw.cell (p:=⟨bl,ol+1,none⟩) yl1).trans x11;go_simp
   try rfl
  try simp only [Act.put,sT,sZ,sS]
  refine tnQ 12 (fun K hK=>?_);go_simp;refine (hc2 wd1).mono ?_;rintro eq wd2 ⟨rfl,bq2⟩;have hH2:Below w1.heap.size w1 wd2:=hH1.trans (bq2.mono hH1.size);refine hK.out _ _ (fun _=>hH2) ?_;clear hK K
  try simp only [Act.put,sT,sZ,sS]
  refine' tkR 13 18 hH2 ?o25
  refine' tkR 14 4 hH2 ?o26
  refine zH (by kernel_rfl) ?_ _;go_wp2;go_ret;refine ⟨?_,b1.trans (hH2.mono b1.size)⟩;rw [HR.out];rw [Bool.true_and];rfl
end Go.Proofs.YtegakbobaecdlaaGreatDoor
