import Derived.Test.YtegakbobaecdlaaGreatDoorL24
import Derived.WalkKit
import Derived.WalkSpells
import Derived.IntWalk
import Derived.Deep.Cut
import Derived.Deep.LoopGhost
import Derived.Ground.NamesProg
import Derived.Laws.Cover1
import Derived.Laws.Externs
import Derived.Lib.Hide
import Derived.Lib.MakeNoZero
import Derived.Lib.SlBuf
import Derived.Shelf.Bytes.SlSmallAll
import Derived.Shelf.Lay
set_option linter.unusedVariables false
set_option linter.unusedSimpArgs false
set_option maxHeartbeats 64000000
set_option maxRecDepth 100000
namespace Go.Proofs.YtegakbobaecdlaaGreatDoor
open Go.RowKit Go.IntWalk
theorem fits138_any {ok okE:Nat->Prop} {w:World} {b pl pr:Nat} {x:LkV} {V:List Sk.Vr} {op k out n:Int} {aA aE:Option Addr} {nA cA nE cE:Nat} {E:List Pu} (kl:w.heap[pl]?=some (.cells #[.pointer (some ⟨b,0,none⟩)] 106 (0,0))) (kr:w.heap[pr]?=some (.cells #[.int .i64 op,.int .i64 k,.int .i64 out,.int .i64 n,.slice aA nA cA,.slice aE nE cE] 40 (0,0))) (hk:LkAt w b x) (hV:HVars ok w (.slice x.aV x.nV x.cV) V) (hVr:∀ v ∈ V,Sk.VrOk v) (hG:GlobK w) (hE:HPu okE w (.slice aE nE cE) E) (cells:Int) (hc:0<=cells/\cells<=300) (hin:∀ p ∈ E,nmd p=true->0<=p.v/\p.v<V.length) (hEl:E.length<=1000) :
  Calls Tryz.prog 135 #[.int .i64 cells,.pointer (some ⟨pl,0,none⟩),.pointer (some ⟨pr,0,none⟩)] w fun r w'=>r=.returned (.int .u8 (Sk.treeL V cells [] E))/\Below w.heap.size w w':=by
 have hct:=zAP hk hV hVr hG hE cells hc hin hEl;generalize Sk.treeL V cells [] E=R at hct ⊢;have l0:=coQ kl 0;have r5:=coQ kr 5;simp at l0 r5;clear hk hV hVr hG hE hin kl kr;go_enter Tryz.func135,Tryz.ntmps135;go_wp2_with fail;refine hct.mono ?_;rintro e w2 ⟨rfl,b2⟩;go_wp2;go_ret;exact ⟨rfl,b2⟩
theorem zAi {w:World} {pl pr:Nat} {k out n:Int} {aA aE:Option Addr} {nA cA nE cE:Nat} {o:Sk.Vr} {aa:Option Addr} {na ca:Nat} (T:Int) (hcl:∀ W,Below w.heap.size w W->Calls Tryz.prog 135 #[.int .i64 (max 1 o.n),.pointer (some ⟨pl,0,none⟩),.pointer (some ⟨pr,0,none⟩)] W fun e w'=>e=.returned (.int .u8 T)/\Below W.heap.size W w') :
  Calls Tryz.prog 134 #[.agg #[.int .i64 14,.int .i64 k,.int .i64 out,.int .i64 n,.slice aA nA cA,.slice aE nE cE,.int .u8 o.elem,.int .i64 o.n,.slice aa na ca],.func (.func 135) #[] #[.pointer (some ⟨pl,0,none⟩),.pointer (some ⟨pr,0,none⟩)]] w fun e w'=>e=.returned (.bool (T==o.elem))/\Below w.heap.size w w':=by
 have b1:Below w.heap.size w (w.alloc (.cells #[.int .i64 14,.int .i64 k,.int .i64 out,.int .i64 n,.slice aA nA cA,.slice aE nE cE,.int .u8 o.elem,.int .i64 o.n,.slice aa na ca] 149 (0,0))):=(Below.refl _ _).alloc zM _;have kA:=zI w (.cells #[.int .i64 14,.int .i64 k,.int .i64 out,.int .i64 n,.slice aA nA cA,.slice aE nE cE,.int .u8 o.elem,.int .i64 o.n,.slice aa na ca] 149 (0,0));go_enter Tryz.func134,Tryz.ntmps134;go_upto_region 1 with fail;generalize w.alloc (.cells #[.int .i64 14,.int .i64 k,.int .i64 out,.int .i64 n,.slice aA nA cA,.slice aE nE cE,.int .u8 o.elem,.int .i64 o.n,.slice aa na ca] 149 (0,0))=w1 at b1 kA ⊢;have a0:=coQ kA 0;have a1:=coQ kA 1;have a2:=coQ kA 2;have a3:=coQ kA 3;have a4:=coQ kA 4;have a5:=coQ kA 5;have a6:=coQ kA 6;have a7:=coQ kA 7;have a8:=coQ kA 8;simp at a0 a1 a2 a3 a4 a5 a6 a7 a8;have yA:=zG kA;go_upto_region 3 with fail;refine zK (fun w'=>Below w1.heap.size w1 w') (fun _=>false) (by kernel_rfl) ?_;have hH0:Below w1.heap.size w1 w1.drew:=(Below.refl _ _).drew;generalize w1.drew=wd0 at hH0 ⊢;refine' tkR 0 10 hH0 ?o1
 refine' tkR 1 11 hH0 ?o2
 refine' tkR 2 12 hH0 ?o3
 refine' tkQ 3 13 hH0 ?hyv ?o4
 case hyv=>
  intro wz hSw;have zc0:=(hSw.cell (p:=⟨w.heap.size,0,none⟩) yA).trans a0;have zc1:=(hSw.cell (p:=⟨w.heap.size,1,none⟩) yA).trans a1;have zc2:=(hSw.cell (p:=⟨w.heap.size,2,none⟩) yA).trans a2;have zc3:=(hSw.cell (p:=⟨w.heap.size,3,none⟩) yA).trans a3;have zc4:=(hSw.cell (p:=⟨w.heap.size,4,none⟩) yA).trans a4;have zc5:=(hSw.cell (p:=⟨w.heap.size,5,none⟩) yA).trans a5;have zc6:=(hSw.cell (p:=⟨w.heap.size,6,none⟩) yA).trans a6;have zc7:=(hSw.cell (p:=⟨w.heap.size,7,none⟩) yA).trans a7;have zc8:=(hSw.cell (p:=⟨w.heap.size,8,none⟩) yA).trans a8;go_simp
  try rfl
 try simp only [Act.put,sT,sZ,sS]
 refine' tkR 4 14 hH0 ?o5
 refine' tkR 6 16 hH0 ?o6
 refine' tkR 7 17 hH0 ?o7
 refine' tkQ 8 18 hH0 ?hyv ?o8
 case hyv=>
  intro wz hSw;have zc0:=(hSw.cell (p:=⟨w.heap.size,0,none⟩) yA).trans a0;have zc1:=(hSw.cell (p:=⟨w.heap.size,1,none⟩) yA).trans a1;have zc2:=(hSw.cell (p:=⟨w.heap.size,2,none⟩) yA).trans a2;have zc3:=(hSw.cell (p:=⟨w.heap.size,3,none⟩) yA).trans a3;have zc4:=(hSw.cell (p:=⟨w.heap.size,4,none⟩) yA).trans a4;have zc5:=(hSw.cell (p:=⟨w.heap.size,5,none⟩) yA).trans a5;have zc6:=(hSw.cell (p:=⟨w.heap.size,6,none⟩) yA).trans a6;have zc7:=(hSw.cell (p:=⟨w.heap.size,7,none⟩) yA).trans a7;have zc8:=(hSw.cell (p:=⟨w.heap.size,8,none⟩) yA).trans a8;go_simp
  try rfl
 try simp only [Act.put,sT,sZ,sS]
 refine tnQ 5 (fun K hK=>?_);go_simp;refine (hcl wd0 (b1.trans (hH0.mono b1.size))).mono ?_;rintro eq wd1 ⟨rfl,bq1⟩;have hH1:Below w1.heap.size w1 wd1:=hH0.trans (bq1.mono hH0.size);refine hK.out _ _ (fun _=>hH1) ?_;clear hK K
 try simp only [Act.put,sT,sZ,sS]
 refine' tkR 9 19 hH1 ?o9
 refine' tkR 10 4 hH1 ?o10
 refine zH (by kernel_rfl) ?_ _;go_wp2;go_ret;exact ⟨rfl,b1.trans (hH1.mono b1.size)⟩
theorem zAj {ok:Nat->Prop} {w:World} {pl pr:Nat} {k out n:Int} {aA aE:Option Addr} {nA cA nE cE:Nat} {o:Sk.Vr} {aa:Option Addr} {na ca:Nat} (f:Sk.Vr) (hG:GlobK w) (hl:HVars ok w (.slice aa na ca) [f]) (T:Int) (hcl:∀ W,Below w.heap.size w W->(1<=n/\n<=300)->Calls Tryz.prog 135 #[.int .i64 n,.pointer (some ⟨pl,0,none⟩),.pointer (some ⟨pr,0,none⟩)] W fun e w'=>e=.returned (.int .u8 T)/\Below W.heap.size W w') :
  Calls Tryz.prog 134 #[.agg #[.int .i64 15,.int .i64 k,.int .i64 out,.int .i64 n,.slice aA nA cA,.slice aE nE cE,.int .u8 o.elem,.int .i64 o.n,.slice aa na ca],.func (.func 135) #[] #[.pointer (some ⟨pl,0,none⟩),.pointer (some ⟨pr,0,none⟩)]] w fun e w'=>e=.returned (.bool ((((Sk.goesFrom k f&&Sk.same o f)&&decide (1<=n))&&decide (n<=300))&&(T==o.elem)))/\Below w.heap.size w w':=by
 obtain ⟨ao,cap,ev,hp1,hp2,hat⟩:=hl.at;injection ev with v1 v2 v3;subst v1 v2 v3;obtain ⟨bl,ol,rfl,yl,x0,y0⟩:=hat 0 (by simp);simp at x0 y0 hp1;unfold maxLen at hp2;clear hl hat;have b1:Below w.heap.size w (w.alloc (.cells #[.int .i64 15,.int .i64 k,.int .i64 out,.int .i64 n,.slice aA nA cA,.slice aE nE cE,.int .u8 o.elem,.int .i64 o.n,.slice (some ⟨bl,ol,none⟩) 1 ca] 149 (0,0))):=(Below.refl _ _).alloc zM _;have kA:=zI w (.cells #[.int .i64 15,.int .i64 k,.int .i64 out,.int .i64 n,.slice aA nA cA,.slice aE nE cE,.int .u8 o.elem,.int .i64 o.n,.slice (some ⟨bl,ol,none⟩) 1 ca] 149 (0,0));have X0:=(b1.cell (p:=⟨bl,ol,none⟩) yl).trans x0;have Y0:=(b1.cell (p:=⟨bl,ol+1,none⟩) yl).trans y0;have yl1:bl<(w.alloc (.cells #[.int .i64 15,.int .i64 k,.int .i64 out,.int .i64 n,.slice aA nA cA,.slice aE nE cE,.int .u8 o.elem,.int .i64 o.n,.slice (some ⟨bl,ol,none⟩) 1 ca] 149 (0,0))).heap.size:=Nat.lt_of_lt_of_le yl b1.size;have HG1:=zE (hG.under b1);have hcg:=qU ⟨15,k,out,n,aA,nA,cA,aE,nE,cE,o⟩ (some ⟨bl,ol,none⟩) 1 ca f
 dsimp only at hcg
 obtain ⟨R,hR⟩:=nmQ (((((Sk.goesFrom k f&&Sk.same o f)&&decide (1<=n))&&decide (n<=300))&&(T==o.elem)));rw [<-hR];obtain ⟨q1,hq1⟩:=nmQ (Sk.goesFrom k f);rw [<-hq1] at hR;rw [<-hq1] at hcg;have HQ1:=zE hq1;obtain ⟨q2,hq2⟩:=nmQ (Sk.same o f);rw [<-hq2] at hR;have HQ2:=zE hq2;obtain ⟨q3,hq3⟩:=nmQ (decide (1<=n));rw [<-hq3] at hR;have HQ3:=zE hq3;obtain ⟨q4,hq4⟩:=nmQ (decide (n<=300));rw [<-hq4] at hR;have HQ4:=zE hq4;obtain ⟨q5,hq5⟩:=nmQ ((T==o.elem));rw [<-hq5] at hR;have HQ5:=zE hq5;have HR:=zE hR;clear hR x0 y0 yl hG hq1 hq2 hq3 hq4 hq5;go_enter Tryz.func134,Tryz.ntmps134;go_upto_region 1 with fail;generalize w.alloc (.cells #[.int .i64 15,.int .i64 k,.int .i64 out,.int .i64 n,.slice aA nA cA,.slice aE nE cE,.int .u8 o.elem,.int .i64 o.n,.slice (some ⟨bl,ol,none⟩) 1 ca] 149 (0,0))=w1 at b1 kA X0 Y0 yl1 HG1 ⊢;have a0:=coQ kA 0;have a1:=coQ kA 1;have a2:=coQ kA 2;have a3:=coQ kA 3;have a4:=coQ kA 4;have a5:=coQ kA 5;have a6:=coQ kA 6;have a7:=coQ kA 7;have a8:=coQ kA 8;simp at a0 a1 a2 a3 a4 a5 a6 a7 a8;have yA:=zG kA;go_upto_region 5 with fail;refine zK (fun w'=>Below w1.heap.size w1 w') (fun _=>false) (by kernel_rfl) ?_;have hH0:Below w1.heap.size w1 w1.drew:=(Below.refl _ _).drew;generalize w1.drew=wd0 at hH0 ⊢;refine' tkQ 0 22 hH0 ?hyv ?o11
 case hyv=>
  intro wz hSw;have zc0:=(hSw.cell (p:=⟨w.heap.size,0,none⟩) yA).trans a0;have zc1:=(hSw.cell (p:=⟨w.heap.size,1,none⟩) yA).trans a1;have zc2:=(hSw.cell (p:=⟨w.heap.size,2,none⟩) yA).trans a2;have zc3:=(hSw.cell (p:=⟨w.heap.size,3,none⟩) yA).trans a3;have zc4:=(hSw.cell (p:=⟨w.heap.size,4,none⟩) yA).trans a4;have zc5:=(hSw.cell (p:=⟨w.heap.size,5,none⟩) yA).trans a5;have zc6:=(hSw.cell (p:=⟨w.heap.size,6,none⟩) yA).trans a6;have zc7:=(hSw.cell (p:=⟨w.heap.size,7,none⟩) yA).trans a7;have zc8:=(hSw.cell (p:=⟨w.heap.size,8,none⟩) yA).trans a8;have zc9:=(hSw.cell (p:=⟨bl,ol,none⟩) yl1).trans X0;have zc10:=(hSw.cell (p:=⟨bl,ol+1,none⟩) yl1).trans Y0;go_simp
  try rfl
 try simp only [Act.put,sT,sZ,sS]
 refine' tkR 1 23 hH0 ?o12
 refine' tkQ 2 24 hH0 ?hyv ?o13
 case hyv=>
  intro wz hSw;have zc0:=(hSw.cell (p:=⟨w.heap.size,0,none⟩) yA).trans a0;have zc1:=(hSw.cell (p:=⟨w.heap.size,1,none⟩) yA).trans a1;have zc2:=(hSw.cell (p:=⟨w.heap.size,2,none⟩) yA).trans a2;have zc3:=(hSw.cell (p:=⟨w.heap.size,3,none⟩) yA).trans a3;have zc4:=(hSw.cell (p:=⟨w.heap.size,4,none⟩) yA).trans a4;have zc5:=(hSw.cell (p:=⟨w.heap.size,5,none⟩) yA).trans a5;have zc6:=(hSw.cell (p:=⟨w.heap.size,6,none⟩) yA).trans a6;have zc7:=(hSw.cell (p:=⟨w.heap.size,7,none⟩) yA).trans a7;have zc8:=(hSw.cell (p:=⟨w.heap.size,8,none⟩) yA).trans a8;have zc9:=(hSw.cell (p:=⟨bl,ol,none⟩) yl1).trans X0;have zc10:=(hSw.cell (p:=⟨bl,ol+1,none⟩) yl1).trans Y0;go_simp
  try rfl
 try simp only [Act.put,sT,sZ,sS]
 refine' tkR 3 25 hH0 ?o14
 refine' tkQ 4 26 hH0 ?hyv ?o15
 case hyv=>
  intro wz hSw;have zc0:=(hSw.cell (p:=⟨w.heap.size,0,none⟩) yA).trans a0;have zc1:=(hSw.cell (p:=⟨w.heap.size,1,none⟩) yA).trans a1;have zc2:=(hSw.cell (p:=⟨w.heap.size,2,none⟩) yA).trans a2;have zc3:=(hSw.cell (p:=⟨w.heap.size,3,none⟩) yA).trans a3;have zc4:=(hSw.cell (p:=⟨w.heap.size,4,none⟩) yA).trans a4;have zc5:=(hSw.cell (p:=⟨w.heap.size,5,none⟩) yA).trans a5;have zc6:=(hSw.cell (p:=⟨w.heap.size,6,none⟩) yA).trans a6;have zc7:=(hSw.cell (p:=⟨w.heap.size,7,none⟩) yA).trans a7;have zc8:=(hSw.cell (p:=⟨w.heap.size,8,none⟩) yA).trans a8;have zc9:=(hSw.cell (p:=⟨bl,ol,none⟩) yl1).trans X0;have zc10:=(hSw.cell (p:=⟨bl,ol+1,none⟩) yl1).trans Y0;go_simp
  try rfl
 try simp only [Act.put,sT,sZ,sS]
 refine tnQ 5 (fun K hK=>?_);go_simp;refine (hcg wd0 (HG1.out.under hH0)).mono ?_;rintro eq wd1 ⟨rfl,bq1⟩;have hH1:Below w1.heap.size w1 wd1:=hH0.trans (bq1.mono hH0.size);refine hK.out _ _ (fun _=>hH1) ?_;clear hK K
 try simp only [Act.put,sT,sZ,sS]
 refine' tkR 6 28 hH1 ?o16
 cases q1
 case false=>
  refine zD (i:=7) (oi:=⟨some 29,_,_,_,_,_⟩) rfl (by kernel_rfl) (by kernel_rfl) (by kernel_rfl) (by kernel_rfl) (fun _ _ _ h=>h) hH1 (by rfl) ?_
  try simp only [Act.put,sT,sZ,sS]
  refine zD (i:=8) (oi:=⟨some 30,_,_,_,_,_⟩) rfl (by kernel_rfl) (by kernel_rfl) (by kernel_rfl) (by kernel_rfl) (fun _ _ _ h=>h) hH1 (by rfl) ?_
  try simp only [Act.put,sT,sZ,sS]
  refine zD (i:=9) (oi:=⟨some 31,_,_,_,_,_⟩) rfl (by kernel_rfl) (by kernel_rfl) (by kernel_rfl) (by kernel_rfl) (fun _ _ _ h=>h) hH1 (by rfl) ?_
  try simp only [Act.put,sT,sZ,sS]
  refine zD (i:=10) (oi:=⟨some 32,_,_,_,_,_⟩) rfl (by kernel_rfl) (by kernel_rfl) (by kernel_rfl) (by kernel_rfl) (fun _ _ _ h=>h) hH1 (by rfl) ?_
  try simp only [Act.put,sT,sZ,sS]
  refine zD (i:=11) (oi:=⟨some 33,_,_,_,_,_⟩) rfl (by kernel_rfl) (by kernel_rfl) (by kernel_rfl) (by kernel_rfl) (fun _ _ _ h=>h) hH1 (by rfl) ?_
  try simp only [Act.put,sT,sZ,sS]
  refine zD (i:=12) (oi:=⟨some 34,_,_,_,_,_⟩) rfl (by kernel_rfl) (by kernel_rfl) (by kernel_rfl) (by kernel_rfl) (fun _ _ _ h=>h) hH1 (by rfl) ?_
  try simp only [Act.put,sT,sZ,sS]
  refine zD (i:=13) (oi:=⟨some 35,_,_,_,_,_⟩) rfl (by kernel_rfl) (by kernel_rfl) (by kernel_rfl) (by kernel_rfl) (fun _ _ _ h=>h) hH1 (by rfl) ?_
  try simp only [Act.put,sT,sZ,sS]
  refine' tkR 14 36 hH1 ?o17
  refine' tkR 15 37 hH1 ?o18
  refine zD (i:=16) (oi:=⟨some 38,_,_,_,_,_⟩) rfl (by kernel_rfl) (by kernel_rfl) (by kernel_rfl) (by kernel_rfl) (fun _ _ _ h=>h) hH1 (by rfl) ?_
  try simp only [Act.put,sT,sZ,sS]
  refine zD (i:=17) (oi:=⟨some 39,_,_,_,_,_⟩) rfl (by kernel_rfl) (by kernel_rfl) (by kernel_rfl) (by kernel_rfl) (fun _ _ _ h=>h) hH1 (by rfl) ?_
  try simp only [Act.put,sT,sZ,sS]
  refine zD (i:=18) (oi:=⟨some 40,_,_,_,_,_⟩) rfl (by kernel_rfl) (by kernel_rfl) (by kernel_rfl) (by kernel_rfl) (fun _ _ _ h=>h) hH1 (by rfl) ?_
  try simp only [Act.put,sT,sZ,sS]
  refine zD (i:=19) (oi:=⟨some 41,_,_,_,_,_⟩) rfl (by kernel_rfl) (by kernel_rfl) (by kernel_rfl) (by kernel_rfl) (fun _ _ _ h=>h) hH1 (by rfl) ?_
  try simp only [Act.put,sT,sZ,sS]
  refine' tkR 20 42 hH1 ?o19
  refine' tkR 21 43 hH1 ?o20
  refine zD (i:=22) (oi:=⟨some 44,_,_,_,_,_⟩) rfl (by kernel_rfl) (by kernel_rfl) (by kernel_rfl) (by kernel_rfl) (fun _ _ _ h=>h) hH1 (by rfl) ?_
  try simp only [Act.put,sT,sZ,sS]
  refine zD (i:=23) (oi:=⟨some 45,_,_,_,_,_⟩) rfl (by kernel_rfl) (by kernel_rfl) (by kernel_rfl) (by kernel_rfl) (fun _ _ _ h=>h) hH1 (by rfl) ?_
  try simp only [Act.put,sT,sZ,sS]
  refine zD (i:=24) (oi:=⟨some 46,_,_,_,_,_⟩) rfl (by kernel_rfl) (by kernel_rfl) (by kernel_rfl) (by kernel_rfl) (fun _ _ _ h=>h) hH1 (by rfl) ?_
  try simp only [Act.put,sT,sZ,sS]
  refine zD (i:=25) (oi:=⟨some 47,_,_,_,_,_⟩) rfl (by kernel_rfl) (by kernel_rfl) (by kernel_rfl) (by kernel_rfl) (fun _ _ _ h=>h) hH1 (by rfl) ?_
  try simp only [Act.put,sT,sZ,sS]
  refine' tkR 26 48 hH1 ?o21
  refine' tkR 27 49 hH1 ?o22
  refine zD (i:=28) (oi:=⟨some 50,_,_,_,_,_⟩) rfl (by kernel_rfl) (by kernel_rfl) (by kernel_rfl) (by kernel_rfl) (fun _ _ _ h=>h) hH1 (by rfl) ?_
  try simp only [Act.put,sT,sZ,sS]
  refine zD (i:=29) (oi:=⟨some 51,_,_,_,_,_⟩) rfl (by kernel_rfl) (by kernel_rfl) (by kernel_rfl) (by kernel_rfl) (fun _ _ _ h=>h) hH1 (by rfl) ?_
  try simp only [Act.put,sT,sZ,sS]
  refine zD (i:=30) (oi:=⟨some 52,_,_,_,_,_⟩) rfl (by kernel_rfl) (by kernel_rfl) (by kernel_rfl) (by kernel_rfl) (fun _ _ _ h=>h) hH1 (by rfl) ?_
  try simp only [Act.put,sT,sZ,sS]
  refine zD (i:=31) (oi:=⟨some 53,_,_,_,_,_⟩) rfl (by kernel_rfl) (by kernel_rfl) (by kernel_rfl) (by kernel_rfl) (fun _ _ _ h=>h) hH1 (by rfl) ?_
  try simp only [Act.put,sT,sZ,sS]
  refine zD (i:=32) (oi:=⟨some 54,_,_,_,_,_⟩) rfl (by kernel_rfl) (by kernel_rfl) (by kernel_rfl) (by kernel_rfl) (fun _ _ _ h=>h) hH1 (by rfl) ?_
  try simp only [Act.put,sT,sZ,sS]
  refine zD (i:=33) (oi:=⟨some 55,_,_,_,_,_⟩) rfl (by kernel_rfl) (by kernel_rfl) (by kernel_rfl) (by kernel_rfl) (fun _ _ _ h=>h) hH1 (by rfl) ?_
  try simp only [Act.put,sT,sZ,sS]
  refine zD (i:=34) (oi:=⟨some 56,_,_,_,_,_⟩) rfl (by kernel_rfl) (by kernel_rfl) (by kernel_rfl) (by kernel_rfl) (fun _ _ _ h=>h) hH1 (by rfl) ?_
  try simp only [Act.put,sT,sZ,sS]
  refine zD (i:=35) (oi:=⟨some 57,_,_,_,_,_⟩) rfl (by kernel_rfl) (by kernel_rfl) (by kernel_rfl) (by kernel_rfl) (fun _ _ _ h=>h) hH1 (by rfl) ?_
  try simp only [Act.put,sT,sZ,sS]
  refine zD (i:=36) (oi:=⟨some 58,_,_,_,_,_⟩) rfl (by kernel_rfl) (by kernel_rfl) (by kernel_rfl) (by kernel_rfl) (fun _ _ _ h=>h) hH1 (by rfl) ?_
  try simp only [Act.put,sT,sZ,sS]
  refine' tkR 37 59 hH1 ?o23
  refine' tkR 38 4 hH1 ?o24
  refine zH (by kernel_rfl) ?_ _;go_wp2;go_ret;exact ⟨by rw [HR.out];rfl,b1.trans (hH1.mono b1.size)⟩
 case true=>
  refine' tkR 7 29 hH1 ?o25
  refine' tkQ 8 30 hH1 ?hyv ?o26
  case hyv=>
   intro wz hSw;have zc0:=(hSw.cell (p:=⟨w.heap.size,0,none⟩) yA).trans a0;have zc1:=(hSw.cell (p:=⟨w.heap.size,1,none⟩) yA).trans a1;have zc2:=(hSw.cell (p:=⟨w.heap.size,2,none⟩) yA).trans a2;have zc3:=(hSw.cell (p:=⟨w.heap.size,3,none⟩) yA).trans a3;have zc4:=(hSw.cell (p:=⟨w.heap.size,4,none⟩) yA).trans a4;have zc5:=(hSw.cell (p:=⟨w.heap.size,5,none⟩) yA).trans a5;have zc6:=(hSw.cell (p:=⟨w.heap.size,6,none⟩) yA).trans a6;have zc7:=(hSw.cell (p:=⟨w.heap.size,7,none⟩) yA).trans a7;have zc8:=(hSw.cell (p:=⟨w.heap.size,8,none⟩) yA).trans a8;have zc9:=(hSw.cell (p:=⟨bl,ol,none⟩) yl1).trans X0;have zc10:=(hSw.cell (p:=⟨bl,ol+1,none⟩) yl1).trans Y0;go_simp
   try rfl
  try simp only [Act.put,sT,sZ,sS]
  refine' tkR 9 31 hH1 ?o27
  refine' tkQ 10 32 hH1 ?hyv ?o28
  case hyv=>
   intro wz hSw;have zc0:=(hSw.cell (p:=⟨w.heap.size,0,none⟩) yA).trans a0;have zc1:=(hSw.cell (p:=⟨w.heap.size,1,none⟩) yA).trans a1;have zc2:=(hSw.cell (p:=⟨w.heap.size,2,none⟩) yA).trans a2;have zc3:=(hSw.cell (p:=⟨w.heap.size,3,none⟩) yA).trans a3;have zc4:=(hSw.cell (p:=⟨w.heap.size,4,none⟩) yA).trans a4;have zc5:=(hSw.cell (p:=⟨w.heap.size,5,none⟩) yA).trans a5;have zc6:=(hSw.cell (p:=⟨w.heap.size,6,none⟩) yA).trans a6;have zc7:=(hSw.cell (p:=⟨w.heap.size,7,none⟩) yA).trans a7;have zc8:=(hSw.cell (p:=⟨w.heap.size,8,none⟩) yA).trans a8;have zc9:=(hSw.cell (p:=⟨bl,ol,none⟩) yl1).trans X0;have zc10:=(hSw.cell (p:=⟨bl,ol+1,none⟩) yl1).trans Y0;go_simp
   try rfl
  try simp only [Act.put,sT,sZ,sS]
  refine' tkR 11 33 hH1 ?o29
  refine' tkQ 12 34 hH1 ?hyv ?o30
  case hyv=>
   intro wz hSw;have zc0:=(hSw.cell (p:=⟨w.heap.size,0,none⟩) yA).trans a0;have zc1:=(hSw.cell (p:=⟨w.heap.size,1,none⟩) yA).trans a1;have zc2:=(hSw.cell (p:=⟨w.heap.size,2,none⟩) yA).trans a2;have zc3:=(hSw.cell (p:=⟨w.heap.size,3,none⟩) yA).trans a3;have zc4:=(hSw.cell (p:=⟨w.heap.size,4,none⟩) yA).trans a4;have zc5:=(hSw.cell (p:=⟨w.heap.size,5,none⟩) yA).trans a5;have zc6:=(hSw.cell (p:=⟨w.heap.size,6,none⟩) yA).trans a6;have zc7:=(hSw.cell (p:=⟨w.heap.size,7,none⟩) yA).trans a7;have zc8:=(hSw.cell (p:=⟨w.heap.size,8,none⟩) yA).trans a8;have zc9:=(hSw.cell (p:=⟨bl,ol,none⟩) yl1).trans X0;have zc10:=(hSw.cell (p:=⟨bl,ol+1,none⟩) yl1).trans Y0;go_simp
   try rfl
  try simp only [Act.put,sT,sZ,sS]
  refine' zO (i:=13) (oi:=⟨some 35,_,_,_,_,_⟩) (v:=.bool q2) rfl (by kernel_rfl) (by kernel_rfl) (by kernel_rfl) (by kernel_rfl) (fun _ _ _ h=>h) hH1 (by rfl) ?hyv ?o31
  case hyv=>
   intro wz hSw;go_simp;rw [HQ2.out];unfold Sk.same;by_cases h1:o.elem=f.elem<;>by_cases h2:o.n=f.n<;>simp [h1,h2]
  try simp only [Act.put,sT,sZ,sS]
  refine' tkR 14 36 hH1 ?o32
  refine' tkR 15 37 hH1 ?o33
  cases q2
  case false=>
   refine zD (i:=16) (oi:=⟨some 38,_,_,_,_,_⟩) rfl (by kernel_rfl) (by kernel_rfl) (by kernel_rfl) (by kernel_rfl) (fun _ _ _ h=>h) hH1 (by rfl) ?_
   try simp only [Act.put,sT,sZ,sS]
   refine zD (i:=17) (oi:=⟨some 39,_,_,_,_,_⟩) rfl (by kernel_rfl) (by kernel_rfl) (by kernel_rfl) (by kernel_rfl) (fun _ _ _ h=>h) hH1 (by rfl) ?_
   try simp only [Act.put,sT,sZ,sS]
   refine zD (i:=18) (oi:=⟨some 40,_,_,_,_,_⟩) rfl (by kernel_rfl) (by kernel_rfl) (by kernel_rfl) (by kernel_rfl) (fun _ _ _ h=>h) hH1 (by rfl) ?_
   try simp only [Act.put,sT,sZ,sS]
   refine zD (i:=19) (oi:=⟨some 41,_,_,_,_,_⟩) rfl (by kernel_rfl) (by kernel_rfl) (by kernel_rfl) (by kernel_rfl) (fun _ _ _ h=>h) hH1 (by rfl) ?_
   try simp only [Act.put,sT,sZ,sS]
   refine' tkR 20 42 hH1 ?o34
   refine' tkR 21 43 hH1 ?o35
   refine zD (i:=22) (oi:=⟨some 44,_,_,_,_,_⟩) rfl (by kernel_rfl) (by kernel_rfl) (by kernel_rfl) (by kernel_rfl) (fun _ _ _ h=>h) hH1 (by rfl) ?_
   try simp only [Act.put,sT,sZ,sS]
   refine zD (i:=23) (oi:=⟨some 45,_,_,_,_,_⟩) rfl (by kernel_rfl) (by kernel_rfl) (by kernel_rfl) (by kernel_rfl) (fun _ _ _ h=>h) hH1 (by rfl) ?_
   try simp only [Act.put,sT,sZ,sS]
   refine zD (i:=24) (oi:=⟨some 46,_,_,_,_,_⟩) rfl (by kernel_rfl) (by kernel_rfl) (by kernel_rfl) (by kernel_rfl) (fun _ _ _ h=>h) hH1 (by rfl) ?_
   try simp only [Act.put,sT,sZ,sS]
   refine zD (i:=25) (oi:=⟨some 47,_,_,_,_,_⟩) rfl (by kernel_rfl) (by kernel_rfl) (by kernel_rfl) (by kernel_rfl) (fun _ _ _ h=>h) hH1 (by rfl) ?_
   try simp only [Act.put,sT,sZ,sS]
   refine' tkR 26 48 hH1 ?o36
   refine' tkR 27 49 hH1 ?o37
   refine zD (i:=28) (oi:=⟨some 50,_,_,_,_,_⟩) rfl (by kernel_rfl) (by kernel_rfl) (by kernel_rfl) (by kernel_rfl) (fun _ _ _ h=>h) hH1 (by rfl) ?_
   try simp only [Act.put,sT,sZ,sS]
   refine zD (i:=29) (oi:=⟨some 51,_,_,_,_,_⟩) rfl (by kernel_rfl) (by kernel_rfl) (by kernel_rfl) (by kernel_rfl) (fun _ _ _ h=>h) hH1 (by rfl) ?_
   try simp only [Act.put,sT,sZ,sS]
   refine zD (i:=30) (oi:=⟨some 52,_,_,_,_,_⟩) rfl (by kernel_rfl) (by kernel_rfl) (by kernel_rfl) (by kernel_rfl) (fun _ _ _ h=>h) hH1 (by rfl) ?_
   try simp only [Act.put,sT,sZ,sS]
   refine zD (i:=31) (oi:=⟨some 53,_,_,_,_,_⟩) rfl (by kernel_rfl) (by kernel_rfl) (by kernel_rfl) (by kernel_rfl) (fun _ _ _ h=>h) hH1 (by rfl) ?_
   try simp only [Act.put,sT,sZ,sS]
   refine zD (i:=32) (oi:=⟨some 54,_,_,_,_,_⟩) rfl (by kernel_rfl) (by kernel_rfl) (by kernel_rfl) (by kernel_rfl) (fun _ _ _ h=>h) hH1 (by rfl) ?_
   try simp only [Act.put,sT,sZ,sS]
   refine zD (i:=33) (oi:=⟨some 55,_,_,_,_,_⟩) rfl (by kernel_rfl) (by kernel_rfl) (by kernel_rfl) (by kernel_rfl) (fun _ _ _ h=>h) hH1 (by rfl) ?_
   try simp only [Act.put,sT,sZ,sS]
   refine zD (i:=34) (oi:=⟨some 56,_,_,_,_,_⟩) rfl (by kernel_rfl) (by kernel_rfl) (by kernel_rfl) (by kernel_rfl) (fun _ _ _ h=>h) hH1 (by rfl) ?_
   try simp only [Act.put,sT,sZ,sS]
   refine zD (i:=35) (oi:=⟨some 57,_,_,_,_,_⟩) rfl (by kernel_rfl) (by kernel_rfl) (by kernel_rfl) (by kernel_rfl) (fun _ _ _ h=>h) hH1 (by rfl) ?_
   try simp only [Act.put,sT,sZ,sS]
   refine zD (i:=36) (oi:=⟨some 58,_,_,_,_,_⟩) rfl (by kernel_rfl) (by kernel_rfl) (by kernel_rfl) (by kernel_rfl) (fun _ _ _ h=>h) hH1 (by rfl) ?_
   try simp only [Act.put,sT,sZ,sS]
   refine' tkR 37 59 hH1 ?o38
   refine' tkR 38 4 hH1 ?o39
   refine zH (by kernel_rfl) ?_ _;go_wp2;go_ret;exact ⟨by rw [HR.out];rfl,b1.trans (hH1.mono b1.size)⟩
  case true=>
   refine' tkR 16 38 hH1 ?o40
   refine' tkR 17 39 hH1 ?o41
   refine' tkQ 18 40 hH1 ?hyv ?o42
   case hyv=>
    intro wz hSw;have zc0:=(hSw.cell (p:=⟨w.heap.size,0,none⟩) yA).trans a0;have zc1:=(hSw.cell (p:=⟨w.heap.size,1,none⟩) yA).trans a1;have zc2:=(hSw.cell (p:=⟨w.heap.size,2,none⟩) yA).trans a2;have zc3:=(hSw.cell (p:=⟨w.heap.size,3,none⟩) yA).trans a3;have zc4:=(hSw.cell (p:=⟨w.heap.size,4,none⟩) yA).trans a4;have zc5:=(hSw.cell (p:=⟨w.heap.size,5,none⟩) yA).trans a5;have zc6:=(hSw.cell (p:=⟨w.heap.size,6,none⟩) yA).trans a6;have zc7:=(hSw.cell (p:=⟨w.heap.size,7,none⟩) yA).trans a7;have zc8:=(hSw.cell (p:=⟨w.heap.size,8,none⟩) yA).trans a8;have zc9:=(hSw.cell (p:=⟨bl,ol,none⟩) yl1).trans X0;have zc10:=(hSw.cell (p:=⟨bl,ol+1,none⟩) yl1).trans Y0;go_simp
    try rfl
   try simp only [Act.put,sT,sZ,sS]
   refine' zO (i:=19) (oi:=⟨some 41,_,_,_,_,_⟩) (v:=.bool q3) rfl (by kernel_rfl) (by kernel_rfl) (by kernel_rfl) (by kernel_rfl) (fun _ _ _ h=>h) hH1 (by rfl) ?hyv ?o43
   case hyv=>
    intro wz hSw;go_simp;rw [HQ3.out]
    try rfl
   try simp only [Act.put,sT,sZ,sS]
   refine' tkR 20 42 hH1 ?o44
   refine' tkR 21 43 hH1 ?o45
   cases q3
   case false=>
    refine zD (i:=22) (oi:=⟨some 44,_,_,_,_,_⟩) rfl (by kernel_rfl) (by kernel_rfl) (by kernel_rfl) (by kernel_rfl) (fun _ _ _ h=>h) hH1 (by rfl) ?_
    try simp only [Act.put,sT,sZ,sS]
    refine zD (i:=23) (oi:=⟨some 45,_,_,_,_,_⟩) rfl (by kernel_rfl) (by kernel_rfl) (by kernel_rfl) (by kernel_rfl) (fun _ _ _ h=>h) hH1 (by rfl) ?_
    try simp only [Act.put,sT,sZ,sS]
    refine zD (i:=24) (oi:=⟨some 46,_,_,_,_,_⟩) rfl (by kernel_rfl) (by kernel_rfl) (by kernel_rfl) (by kernel_rfl) (fun _ _ _ h=>h) hH1 (by rfl) ?_
    try simp only [Act.put,sT,sZ,sS]
    refine zD (i:=25) (oi:=⟨some 47,_,_,_,_,_⟩) rfl (by kernel_rfl) (by kernel_rfl) (by kernel_rfl) (by kernel_rfl) (fun _ _ _ h=>h) hH1 (by rfl) ?_
    try simp only [Act.put,sT,sZ,sS]
    refine' tkR 26 48 hH1 ?o46
    refine' tkR 27 49 hH1 ?o47
    refine zD (i:=28) (oi:=⟨some 50,_,_,_,_,_⟩) rfl (by kernel_rfl) (by kernel_rfl) (by kernel_rfl) (by kernel_rfl) (fun _ _ _ h=>h) hH1 (by rfl) ?_
    try simp only [Act.put,sT,sZ,sS]
    refine zD (i:=29) (oi:=⟨some 51,_,_,_,_,_⟩) rfl (by kernel_rfl) (by kernel_rfl) (by kernel_rfl) (by kernel_rfl) (fun _ _ _ h=>h) hH1 (by rfl) ?_
    try simp only [Act.put,sT,sZ,sS]
    refine zD (i:=30) (oi:=⟨some 52,_,_,_,_,_⟩) rfl (by kernel_rfl) (by kernel_rfl) (by kernel_rfl) (by kernel_rfl) (fun _ _ _ h=>h) hH1 (by rfl) ?_
    try simp only [Act.put,sT,sZ,sS]
    refine zD (i:=31) (oi:=⟨some 53,_,_,_,_,_⟩) rfl (by kernel_rfl) (by kernel_rfl) (by kernel_rfl) (by kernel_rfl) (fun _ _ _ h=>h) hH1 (by rfl) ?_
    try simp only [Act.put,sT,sZ,sS]
    refine zD (i:=32) (oi:=⟨some 54,_,_,_,_,_⟩) rfl (by kernel_rfl) (by kernel_rfl) (by kernel_rfl) (by kernel_rfl) (fun _ _ _ h=>h) hH1 (by rfl) ?_
    try simp only [Act.put,sT,sZ,sS]
    refine zD (i:=33) (oi:=⟨some 55,_,_,_,_,_⟩) rfl (by kernel_rfl) (by kernel_rfl) (by kernel_rfl) (by kernel_rfl) (fun _ _ _ h=>h) hH1 (by rfl) ?_
    try simp only [Act.put,sT,sZ,sS]
    refine zD (i:=34) (oi:=⟨some 56,_,_,_,_,_⟩) rfl (by kernel_rfl) (by kernel_rfl) (by kernel_rfl) (by kernel_rfl) (fun _ _ _ h=>h) hH1 (by rfl) ?_
    try simp only [Act.put,sT,sZ,sS]
    refine zD (i:=35) (oi:=⟨some 57,_,_,_,_,_⟩) rfl (by kernel_rfl) (by kernel_rfl) (by kernel_rfl) (by kernel_rfl) (fun _ _ _ h=>h) hH1 (by rfl) ?_
    try simp only [Act.put,sT,sZ,sS]
    refine zD (i:=36) (oi:=⟨some 58,_,_,_,_,_⟩) rfl (by kernel_rfl) (by kernel_rfl) (by kernel_rfl) (by kernel_rfl) (fun _ _ _ h=>h) hH1 (by rfl) ?_
    try simp only [Act.put,sT,sZ,sS]
    refine' tkR 37 59 hH1 ?o48
    refine' tkR 38 4 hH1 ?o49
    refine zH (by kernel_rfl) ?_ _;go_wp2;go_ret;exact ⟨by rw [HR.out];rfl,b1.trans (hH1.mono b1.size)⟩
   case true=>
    refine' tkR 22 44 hH1 ?o50
    refine' tkR 23 45 hH1 ?o51
    refine' tkQ 24 46 hH1 ?hyv ?o52
    case hyv=>
     intro wz hSw;have zc0:=(hSw.cell (p:=⟨w.heap.size,0,none⟩) yA).trans a0;have zc1:=(hSw.cell (p:=⟨w.heap.size,1,none⟩) yA).trans a1;have zc2:=(hSw.cell (p:=⟨w.heap.size,2,none⟩) yA).trans a2;have zc3:=(hSw.cell (p:=⟨w.heap.size,3,none⟩) yA).trans a3;have zc4:=(hSw.cell (p:=⟨w.heap.size,4,none⟩) yA).trans a4;have zc5:=(hSw.cell (p:=⟨w.heap.size,5,none⟩) yA).trans a5;have zc6:=(hSw.cell (p:=⟨w.heap.size,6,none⟩) yA).trans a6;have zc7:=(hSw.cell (p:=⟨w.heap.size,7,none⟩) yA).trans a7;have zc8:=(hSw.cell (p:=⟨w.heap.size,8,none⟩) yA).trans a8;have zc9:=(hSw.cell (p:=⟨bl,ol,none⟩) yl1).trans X0;have zc10:=(hSw.cell (p:=⟨bl,ol+1,none⟩) yl1).trans Y0;go_simp
     try rfl
    try simp only [Act.put,sT,sZ,sS]
    refine' zO (i:=25) (oi:=⟨some 47,_,_,_,_,_⟩) (v:=.bool q4) rfl (by kernel_rfl) (by kernel_rfl) (by kernel_rfl) (by kernel_rfl) (fun _ _ _ h=>h) hH1 (by rfl) ?hyv ?o53
    case hyv=>
     intro wz hSw;go_simp;rw [HQ4.out]
     try rfl
    try simp only [Act.put,sT,sZ,sS]
    refine' tkR 26 48 hH1 ?o54
    refine' tkR 27 49 hH1 ?o55
    cases q4
    case false=>
     refine zD (i:=28) (oi:=⟨some 50,_,_,_,_,_⟩) rfl (by kernel_rfl) (by kernel_rfl) (by kernel_rfl) (by kernel_rfl) (fun _ _ _ h=>h) hH1 (by rfl) ?_
     try simp only [Act.put,sT,sZ,sS]
     refine zD (i:=29) (oi:=⟨some 51,_,_,_,_,_⟩) rfl (by kernel_rfl) (by kernel_rfl) (by kernel_rfl) (by kernel_rfl) (fun _ _ _ h=>h) hH1 (by rfl) ?_
     try simp only [Act.put,sT,sZ,sS]
     refine zD (i:=30) (oi:=⟨some 52,_,_,_,_,_⟩) rfl (by kernel_rfl) (by kernel_rfl) (by kernel_rfl) (by kernel_rfl) (fun _ _ _ h=>h) hH1 (by rfl) ?_
     try simp only [Act.put,sT,sZ,sS]
     refine zD (i:=31) (oi:=⟨some 53,_,_,_,_,_⟩) rfl (by kernel_rfl) (by kernel_rfl) (by kernel_rfl) (by kernel_rfl) (fun _ _ _ h=>h) hH1 (by rfl) ?_
     try simp only [Act.put,sT,sZ,sS]
     refine zD (i:=32) (oi:=⟨some 54,_,_,_,_,_⟩) rfl (by kernel_rfl) (by kernel_rfl) (by kernel_rfl) (by kernel_rfl) (fun _ _ _ h=>h) hH1 (by rfl) ?_
     try simp only [Act.put,sT,sZ,sS]
     refine zD (i:=33) (oi:=⟨some 55,_,_,_,_,_⟩) rfl (by kernel_rfl) (by kernel_rfl) (by kernel_rfl) (by kernel_rfl) (fun _ _ _ h=>h) hH1 (by rfl) ?_
     try simp only [Act.put,sT,sZ,sS]
     refine zD (i:=34) (oi:=⟨some 56,_,_,_,_,_⟩) rfl (by kernel_rfl) (by kernel_rfl) (by kernel_rfl) (by kernel_rfl) (fun _ _ _ h=>h) hH1 (by rfl) ?_
     try simp only [Act.put,sT,sZ,sS]
     refine zD (i:=35) (oi:=⟨some 57,_,_,_,_,_⟩) rfl (by kernel_rfl) (by kernel_rfl) (by kernel_rfl) (by kernel_rfl) (fun _ _ _ h=>h) hH1 (by rfl) ?_
     try simp only [Act.put,sT,sZ,sS]
     refine zD (i:=36) (oi:=⟨some 58,_,_,_,_,_⟩) rfl (by kernel_rfl) (by kernel_rfl) (by kernel_rfl) (by kernel_rfl) (fun _ _ _ h=>h) hH1 (by rfl) ?_
     try simp only [Act.put,sT,sZ,sS]
     refine' tkR 37 59 hH1 ?o56
     refine' tkR 38 4 hH1 ?o57
     refine zH (by kernel_rfl) ?_ _;go_wp2;go_ret;exact ⟨by rw [HR.out];rfl,b1.trans (hH1.mono b1.size)⟩
    case true=>
     refine' tkR 28 50 hH1 ?o58
     refine' tkR 29 51 hH1 ?o59
     refine' tkR 30 52 hH1 ?o60
     refine' tkQ 31 53 hH1 ?hyv ?o61
     case hyv=>
      intro wz hSw;have zc0:=(hSw.cell (p:=⟨w.heap.size,0,none⟩) yA).trans a0;have zc1:=(hSw.cell (p:=⟨w.heap.size,1,none⟩) yA).trans a1;have zc2:=(hSw.cell (p:=⟨w.heap.size,2,none⟩) yA).trans a2;have zc3:=(hSw.cell (p:=⟨w.heap.size,3,none⟩) yA).trans a3;have zc4:=(hSw.cell (p:=⟨w.heap.size,4,none⟩) yA).trans a4;have zc5:=(hSw.cell (p:=⟨w.heap.size,5,none⟩) yA).trans a5;have zc6:=(hSw.cell (p:=⟨w.heap.size,6,none⟩) yA).trans a6;have zc7:=(hSw.cell (p:=⟨w.heap.size,7,none⟩) yA).trans a7;have zc8:=(hSw.cell (p:=⟨w.heap.size,8,none⟩) yA).trans a8;have zc9:=(hSw.cell (p:=⟨bl,ol,none⟩) yl1).trans X0;have zc10:=(hSw.cell (p:=⟨bl,ol+1,none⟩) yl1).trans Y0;go_simp
      try rfl
     try simp only [Act.put,sT,sZ,sS]
     refine' tkR 33 55 hH1 ?o62
     refine' tkR 34 56 hH1 ?o63
     refine' tkQ 35 57 hH1 ?hyv ?o64
     case hyv=>
      intro wz hSw;have zc0:=(hSw.cell (p:=⟨w.heap.size,0,none⟩) yA).trans a0;have zc1:=(hSw.cell (p:=⟨w.heap.size,1,none⟩) yA).trans a1;have zc2:=(hSw.cell (p:=⟨w.heap.size,2,none⟩) yA).trans a2;have zc3:=(hSw.cell (p:=⟨w.heap.size,3,none⟩) yA).trans a3;have zc4:=(hSw.cell (p:=⟨w.heap.size,4,none⟩) yA).trans a4;have zc5:=(hSw.cell (p:=⟨w.heap.size,5,none⟩) yA).trans a5;have zc6:=(hSw.cell (p:=⟨w.heap.size,6,none⟩) yA).trans a6;have zc7:=(hSw.cell (p:=⟨w.heap.size,7,none⟩) yA).trans a7;have zc8:=(hSw.cell (p:=⟨w.heap.size,8,none⟩) yA).trans a8;have zc9:=(hSw.cell (p:=⟨bl,ol,none⟩) yl1).trans X0;have zc10:=(hSw.cell (p:=⟨bl,ol+1,none⟩) yl1).trans Y0;go_simp
      try rfl
     try simp only [Act.put,sT,sZ,sS]
     refine tnQ 32 (fun K hK=>?_);go_simp;refine (hcl wd1 (b1.trans (hH1.mono b1.size)) ⟨by have:=HQ3.out;simpa using this,by have:=HQ4.out;simpa using this⟩).mono ?_;rintro eq wd2 ⟨rfl,bq2⟩;have hH2:Below w1.heap.size w1 wd2:=hH1.trans (bq2.mono hH1.size);refine hK.out _ _ (fun _=>hH2) ?_;clear hK K
     try simp only [Act.put,sT,sZ,sS]
     refine' zO (i:=36) (oi:=⟨some 58,_,_,_,_,_⟩) (v:=.bool q5) rfl (by kernel_rfl) (by kernel_rfl) (by kernel_rfl) (by kernel_rfl) (fun _ _ _ h=>h) hH2 (by rfl) ?hyv ?o65
     case hyv=>
      intro wz hSw;go_simp;rw [HQ5.out]
      try rfl
     try simp only [Act.put,sT,sZ,sS]
     refine' tkR 37 59 hH2 ?o66
     refine' tkR 38 4 hH2 ?o67
     refine zH (by kernel_rfl) ?_ _;go_wp2;go_ret;exact ⟨by rw [HR.out];rfl,b1.trans (hH2.mono b1.size)⟩
theorem zAk {ok:Nat->Prop} {w:World} {pl pr:Nat} {k out n:Int} {aA aE:Option Addr} {nA cA nE cE:Nat} {o:Sk.Vr} {aa:Option Addr} {na ca:Nat} (f:Sk.Vr) (hG:GlobK w) (hl:HVars ok w (.slice aa na ca) [f]) (T:Int) (hcl:∀ W,Below w.heap.size w W->Sk.arrOf o f=true->Calls Tryz.prog 135 #[.int .i64 o.n,.pointer (some ⟨pl,0,none⟩),.pointer (some ⟨pr,0,none⟩)] W fun e w'=>e=.returned (.int .u8 T)/\Below W.heap.size W w') :
  Calls Tryz.prog 134 #[.agg #[.int .i64 16,.int .i64 k,.int .i64 out,.int .i64 n,.slice aA nA cA,.slice aE nE cE,.int .u8 o.elem,.int .i64 o.n,.slice aa na ca],.func (.func 135) #[] #[.pointer (some ⟨pl,0,none⟩),.pointer (some ⟨pr,0,none⟩)]] w fun e w'=>e=.returned (.bool ((Sk.goesFrom k f&&Sk.arrOf o f)&&(T==o.elem)))/\Below w.heap.size w w':=by
 obtain ⟨ao,cap,ev,hp1,hp2,hat⟩:=hl.at;injection ev with v1 v2 v3;subst v1 v2 v3;obtain ⟨bl,ol,rfl,yl,x0,y0⟩:=hat 0 (by simp);simp at x0 y0 hp1;unfold maxLen at hp2;clear hl hat;have b1:Below w.heap.size w (w.alloc (.cells #[.int .i64 16,.int .i64 k,.int .i64 out,.int .i64 n,.slice aA nA cA,.slice aE nE cE,.int .u8 o.elem,.int .i64 o.n,.slice (some ⟨bl,ol,none⟩) 1 ca] 149 (0,0))):=(Below.refl _ _).alloc zM _;have kA:=zI w (.cells #[.int .i64 16,.int .i64 k,.int .i64 out,.int .i64 n,.slice aA nA cA,.slice aE nE cE,.int .u8 o.elem,.int .i64 o.n,.slice (some ⟨bl,ol,none⟩) 1 ca] 149 (0,0));have X0:=(b1.cell (p:=⟨bl,ol,none⟩) yl).trans x0;have Y0:=(b1.cell (p:=⟨bl,ol+1,none⟩) yl).trans y0;have yl1:bl<(w.alloc (.cells #[.int .i64 16,.int .i64 k,.int .i64 out,.int .i64 n,.slice aA nA cA,.slice aE nE cE,.int .u8 o.elem,.int .i64 o.n,.slice (some ⟨bl,ol,none⟩) 1 ca] 149 (0,0))).heap.size:=Nat.lt_of_lt_of_le yl b1.size;have HG1:=zE (hG.under b1);have hcg:=qU ⟨16,k,out,n,aA,nA,cA,aE,nE,cE,o⟩ (some ⟨bl,ol,none⟩) 1 ca f
 dsimp only at hcg
 have hca:=xG o f;obtain ⟨R,hR⟩:=nmQ (((Sk.goesFrom k f&&Sk.arrOf o f)&&(T==o.elem)));rw [<-hR];obtain ⟨q1,hq1⟩:=nmQ (Sk.goesFrom k f);rw [<-hq1] at hR;rw [<-hq1] at hcg;have HQ1:=zE hq1;obtain ⟨q2,hq2⟩:=nmQ (Sk.arrOf o f);rw [<-hq2] at hR;rw [<-hq2] at hca;have HQ2:=zE hq2;obtain ⟨q5,hq5⟩:=nmQ ((T==o.elem));rw [<-hq5] at hR;have HQ5:=zE hq5;have HR:=zE hR;clear hR x0 y0 yl hG hq1 hq2 hq5;go_enter Tryz.func134,Tryz.ntmps134;go_upto_region 1 with fail;generalize w.alloc (.cells #[.int .i64 16,.int .i64 k,.int .i64 out,.int .i64 n,.slice aA nA cA,.slice aE nE cE,.int .u8 o.elem,.int .i64 o.n,.slice (some ⟨bl,ol,none⟩) 1 ca] 149 (0,0))=w1 at b1 kA X0 Y0 yl1 HG1 ⊢;have a0:=coQ kA 0;have a1:=coQ kA 1;have a2:=coQ kA 2;have a3:=coQ kA 3;have a4:=coQ kA 4;have a5:=coQ kA 5;have a6:=coQ kA 6;have a7:=coQ kA 7;have a8:=coQ kA 8;simp at a0 a1 a2 a3 a4 a5 a6 a7 a8;have yA:=zG kA;go_upto_region 6 with fail;refine zK (fun w'=>Below w1.heap.size w1 w') (fun _=>false) (by kernel_rfl) ?_;have hH0:Below w1.heap.size w1 w1.drew:=(Below.refl _ _).drew;generalize w1.drew=wd0 at hH0 ⊢;refine' tkQ 0 60 hH0 ?hyv ?o68
 case hyv=>
  intro wz hSw;have zc0:=(hSw.cell (p:=⟨w.heap.size,0,none⟩) yA).trans a0;have zc1:=(hSw.cell (p:=⟨w.heap.size,1,none⟩) yA).trans a1;have zc2:=(hSw.cell (p:=⟨w.heap.size,2,none⟩) yA).trans a2;have zc3:=(hSw.cell (p:=⟨w.heap.size,3,none⟩) yA).trans a3;have zc4:=(hSw.cell (p:=⟨w.heap.size,4,none⟩) yA).trans a4;have zc5:=(hSw.cell (p:=⟨w.heap.size,5,none⟩) yA).trans a5;have zc6:=(hSw.cell (p:=⟨w.heap.size,6,none⟩) yA).trans a6;have zc7:=(hSw.cell (p:=⟨w.heap.size,7,none⟩) yA).trans a7;have zc8:=(hSw.cell (p:=⟨w.heap.size,8,none⟩) yA).trans a8;have zc9:=(hSw.cell (p:=⟨bl,ol,none⟩) yl1).trans X0;have zc10:=(hSw.cell (p:=⟨bl,ol+1,none⟩) yl1).trans Y0;go_simp
  try rfl
 try simp only [Act.put,sT,sZ,sS]
 refine' tkR 1 61 hH0 ?o69
 refine' tkQ 2 62 hH0 ?hyv ?o70
 case hyv=>
  intro wz hSw;have zc0:=(hSw.cell (p:=⟨w.heap.size,0,none⟩) yA).trans a0;have zc1:=(hSw.cell (p:=⟨w.heap.size,1,none⟩) yA).trans a1;have zc2:=(hSw.cell (p:=⟨w.heap.size,2,none⟩) yA).trans a2;have zc3:=(hSw.cell (p:=⟨w.heap.size,3,none⟩) yA).trans a3;have zc4:=(hSw.cell (p:=⟨w.heap.size,4,none⟩) yA).trans a4;have zc5:=(hSw.cell (p:=⟨w.heap.size,5,none⟩) yA).trans a5;have zc6:=(hSw.cell (p:=⟨w.heap.size,6,none⟩) yA).trans a6;have zc7:=(hSw.cell (p:=⟨w.heap.size,7,none⟩) yA).trans a7;have zc8:=(hSw.cell (p:=⟨w.heap.size,8,none⟩) yA).trans a8;have zc9:=(hSw.cell (p:=⟨bl,ol,none⟩) yl1).trans X0;have zc10:=(hSw.cell (p:=⟨bl,ol+1,none⟩) yl1).trans Y0;go_simp
  try rfl
 try simp only [Act.put,sT,sZ,sS]
 refine' tkR 3 63 hH0 ?o71
 refine' tkQ 4 64 hH0 ?hyv ?o72
 case hyv=>
  intro wz hSw;have zc0:=(hSw.cell (p:=⟨w.heap.size,0,none⟩) yA).trans a0;have zc1:=(hSw.cell (p:=⟨w.heap.size,1,none⟩) yA).trans a1;have zc2:=(hSw.cell (p:=⟨w.heap.size,2,none⟩) yA).trans a2;have zc3:=(hSw.cell (p:=⟨w.heap.size,3,none⟩) yA).trans a3;have zc4:=(hSw.cell (p:=⟨w.heap.size,4,none⟩) yA).trans a4;have zc5:=(hSw.cell (p:=⟨w.heap.size,5,none⟩) yA).trans a5;have zc6:=(hSw.cell (p:=⟨w.heap.size,6,none⟩) yA).trans a6;have zc7:=(hSw.cell (p:=⟨w.heap.size,7,none⟩) yA).trans a7;have zc8:=(hSw.cell (p:=⟨w.heap.size,8,none⟩) yA).trans a8;have zc9:=(hSw.cell (p:=⟨bl,ol,none⟩) yl1).trans X0;have zc10:=(hSw.cell (p:=⟨bl,ol+1,none⟩) yl1).trans Y0;go_simp
  try rfl
 try simp only [Act.put,sT,sZ,sS]
 refine tnQ 5 (fun K hK=>?_);go_simp;refine (hcg wd0 (HG1.out.under hH0)).mono ?_;rintro eq wd1 ⟨rfl,bq1⟩;have hH1:Below w1.heap.size w1 wd1:=hH0.trans (bq1.mono hH0.size);refine hK.out _ _ (fun _=>hH1) ?_;clear hK K
 try simp only [Act.put,sT,sZ,sS]
 refine' tkR 6 66 hH1 ?o73
 cases q1
 case false=>
  refine zD (i:=7) (oi:=⟨some 67,_,_,_,_,_⟩) rfl (by kernel_rfl) (by kernel_rfl) (by kernel_rfl) (by kernel_rfl) (fun _ _ _ h=>h) hH1 (by rfl) ?_
  try simp only [Act.put,sT,sZ,sS]
  refine zD (i:=8) (oi:=⟨some 68,_,_,_,_,_⟩) rfl (by kernel_rfl) (by kernel_rfl) (by kernel_rfl) (by kernel_rfl) (fun _ _ _ h=>h) hH1 (by rfl) ?_
  try simp only [Act.put,sT,sZ,sS]
  refine zD (i:=9) (oi:=⟨some 69,_,_,_,_,_⟩) rfl (by kernel_rfl) (by kernel_rfl) (by kernel_rfl) (by kernel_rfl) (fun _ _ _ h=>h) hH1 (by rfl) ?_
  try simp only [Act.put,sT,sZ,sS]
  refine zD (i:=10) (oi:=⟨some 70,_,_,_,_,_⟩) rfl (by kernel_rfl) (by kernel_rfl) (by kernel_rfl) (by kernel_rfl) (fun _ _ _ h=>h) hH1 (by rfl) ?_
  try simp only [Act.put,sT,sZ,sS]
  refine zD (i:=11) (oi:=⟨some 71,_,_,_,_,_⟩) rfl (by kernel_rfl) (by kernel_rfl) (by kernel_rfl) (by kernel_rfl) (fun _ _ _ h=>h) hH1 (by rfl) ?_
  try simp only [Act.put,sT,sZ,sS]
  refine zD (i:=12) (oi:=⟨some 72,_,_,_,_,_⟩) rfl (by kernel_rfl) (by kernel_rfl) (by kernel_rfl) (by kernel_rfl) (fun _ _ _ h=>h) hH1 (by rfl) ?_
  try simp only [Act.put,sT,sZ,sS]
  refine zD (i:=13) (oi:=⟨some 73,_,_,_,_,_⟩) rfl (by kernel_rfl) (by kernel_rfl) (by kernel_rfl) (by kernel_rfl) (fun _ _ _ h=>h) hH1 (by rfl) ?_
  try simp only [Act.put,sT,sZ,sS]
  refine' tkR 14 74 hH1 ?o74
  refine' tkR 15 75 hH1 ?o75
  refine zD (i:=16) (oi:=⟨some 76,_,_,_,_,_⟩) rfl (by kernel_rfl) (by kernel_rfl) (by kernel_rfl) (by kernel_rfl) (fun _ _ _ h=>h) hH1 (by rfl) ?_
  try simp only [Act.put,sT,sZ,sS]
  refine zD (i:=17) (oi:=⟨some 77,_,_,_,_,_⟩) rfl (by kernel_rfl) (by kernel_rfl) (by kernel_rfl) (by kernel_rfl) (fun _ _ _ h=>h) hH1 (by rfl) ?_
  try simp only [Act.put,sT,sZ,sS]
  refine zD (i:=18) (oi:=⟨some 78,_,_,_,_,_⟩) rfl (by kernel_rfl) (by kernel_rfl) (by kernel_rfl) (by kernel_rfl) (fun _ _ _ h=>h) hH1 (by rfl) ?_
  try simp only [Act.put,sT,sZ,sS]
  refine zD (i:=19) (oi:=⟨some 79,_,_,_,_,_⟩) rfl (by kernel_rfl) (by kernel_rfl) (by kernel_rfl) (by kernel_rfl) (fun _ _ _ h=>h) hH1 (by rfl) ?_
  try simp only [Act.put,sT,sZ,sS]
  refine zD (i:=20) (oi:=⟨some 80,_,_,_,_,_⟩) rfl (by kernel_rfl) (by kernel_rfl) (by kernel_rfl) (by kernel_rfl) (fun _ _ _ h=>h) hH1 (by rfl) ?_
  try simp only [Act.put,sT,sZ,sS]
  refine zD (i:=21) (oi:=⟨some 81,_,_,_,_,_⟩) rfl (by kernel_rfl) (by kernel_rfl) (by kernel_rfl) (by kernel_rfl) (fun _ _ _ h=>h) hH1 (by rfl) ?_
  try simp only [Act.put,sT,sZ,sS]
  refine zD (i:=22) (oi:=⟨some 82,_,_,_,_,_⟩) rfl (by kernel_rfl) (by kernel_rfl) (by kernel_rfl) (by kernel_rfl) (fun _ _ _ h=>h) hH1 (by rfl) ?_
  try simp only [Act.put,sT,sZ,sS]
  refine zD (i:=23) (oi:=⟨some 83,_,_,_,_,_⟩) rfl (by kernel_rfl) (by kernel_rfl) (by kernel_rfl) (by kernel_rfl) (fun _ _ _ h=>h) hH1 (by rfl) ?_
  try simp only [Act.put,sT,sZ,sS]
  refine zD (i:=24) (oi:=⟨some 84,_,_,_,_,_⟩) rfl (by kernel_rfl) (by kernel_rfl) (by kernel_rfl) (by kernel_rfl) (fun _ _ _ h=>h) hH1 (by rfl) ?_
  try simp only [Act.put,sT,sZ,sS]
  refine' tkR 25 85 hH1 ?o76
  refine' tkR 26 4 hH1 ?o77
  refine zH (by kernel_rfl) ?_ _;go_wp2;go_ret;exact ⟨by rw [HR.out];rfl,b1.trans (hH1.mono b1.size)⟩
 case true=>
  refine' tkR 7 67 hH1 ?o78
  refine' tkQ 8 68 hH1 ?hyv ?o79
  case hyv=>
   intro wz hSw;have zc0:=(hSw.cell (p:=⟨w.heap.size,0,none⟩) yA).trans a0;have zc1:=(hSw.cell (p:=⟨w.heap.size,1,none⟩) yA).trans a1;have zc2:=(hSw.cell (p:=⟨w.heap.size,2,none⟩) yA).trans a2;have zc3:=(hSw.cell (p:=⟨w.heap.size,3,none⟩) yA).trans a3;have zc4:=(hSw.cell (p:=⟨w.heap.size,4,none⟩) yA).trans a4;have zc5:=(hSw.cell (p:=⟨w.heap.size,5,none⟩) yA).trans a5;have zc6:=(hSw.cell (p:=⟨w.heap.size,6,none⟩) yA).trans a6;have zc7:=(hSw.cell (p:=⟨w.heap.size,7,none⟩) yA).trans a7;have zc8:=(hSw.cell (p:=⟨w.heap.size,8,none⟩) yA).trans a8;have zc9:=(hSw.cell (p:=⟨bl,ol,none⟩) yl1).trans X0;have zc10:=(hSw.cell (p:=⟨bl,ol+1,none⟩) yl1).trans Y0;go_simp
   try rfl
  try simp only [Act.put,sT,sZ,sS]
  refine' tkR 9 69 hH1 ?o80
  refine' tkQ 10 70 hH1 ?hyv ?o81
  case hyv=>
   intro wz hSw;have zc0:=(hSw.cell (p:=⟨w.heap.size,0,none⟩) yA).trans a0;have zc1:=(hSw.cell (p:=⟨w.heap.size,1,none⟩) yA).trans a1;have zc2:=(hSw.cell (p:=⟨w.heap.size,2,none⟩) yA).trans a2;have zc3:=(hSw.cell (p:=⟨w.heap.size,3,none⟩) yA).trans a3;have zc4:=(hSw.cell (p:=⟨w.heap.size,4,none⟩) yA).trans a4;have zc5:=(hSw.cell (p:=⟨w.heap.size,5,none⟩) yA).trans a5;have zc6:=(hSw.cell (p:=⟨w.heap.size,6,none⟩) yA).trans a6;have zc7:=(hSw.cell (p:=⟨w.heap.size,7,none⟩) yA).trans a7;have zc8:=(hSw.cell (p:=⟨w.heap.size,8,none⟩) yA).trans a8;have zc9:=(hSw.cell (p:=⟨bl,ol,none⟩) yl1).trans X0;have zc10:=(hSw.cell (p:=⟨bl,ol+1,none⟩) yl1).trans Y0;go_simp
   try rfl
  try simp only [Act.put,sT,sZ,sS]
  refine' tkR 11 71 hH1 ?o82
  refine' tkQ 12 72 hH1 ?hyv ?o83
  case hyv=>
   intro wz hSw;have zc0:=(hSw.cell (p:=⟨w.heap.size,0,none⟩) yA).trans a0;have zc1:=(hSw.cell (p:=⟨w.heap.size,1,none⟩) yA).trans a1;have zc2:=(hSw.cell (p:=⟨w.heap.size,2,none⟩) yA).trans a2;have zc3:=(hSw.cell (p:=⟨w.heap.size,3,none⟩) yA).trans a3;have zc4:=(hSw.cell (p:=⟨w.heap.size,4,none⟩) yA).trans a4;have zc5:=(hSw.cell (p:=⟨w.heap.size,5,none⟩) yA).trans a5;have zc6:=(hSw.cell (p:=⟨w.heap.size,6,none⟩) yA).trans a6;have zc7:=(hSw.cell (p:=⟨w.heap.size,7,none⟩) yA).trans a7;have zc8:=(hSw.cell (p:=⟨w.heap.size,8,none⟩) yA).trans a8;have zc9:=(hSw.cell (p:=⟨bl,ol,none⟩) yl1).trans X0;have zc10:=(hSw.cell (p:=⟨bl,ol+1,none⟩) yl1).trans Y0;go_simp
   try rfl
  try simp only [Act.put,sT,sZ,sS]
  refine tnQ 13 (fun K hK=>?_);go_simp;refine (hca wd1).mono ?_;rintro eq wd2 ⟨rfl,bq2⟩;have hH2:Below w1.heap.size w1 wd2:=hH1.trans (bq2.mono hH1.size);refine hK.out _ _ (fun _=>hH2) ?_;clear hK K
  try simp only [Act.put,sT,sZ,sS]
  refine' tkR 14 74 hH2 ?o84
  refine' tkR 15 75 hH2 ?o85
  cases q2
  case false=>
   refine zD (i:=16) (oi:=⟨some 76,_,_,_,_,_⟩) rfl (by kernel_rfl) (by kernel_rfl) (by kernel_rfl) (by kernel_rfl) (fun _ _ _ h=>h) hH2 (by rfl) ?_
   try simp only [Act.put,sT,sZ,sS]
   refine zD (i:=17) (oi:=⟨some 77,_,_,_,_,_⟩) rfl (by kernel_rfl) (by kernel_rfl) (by kernel_rfl) (by kernel_rfl) (fun _ _ _ h=>h) hH2 (by rfl) ?_
   try simp only [Act.put,sT,sZ,sS]
   refine zD (i:=18) (oi:=⟨some 78,_,_,_,_,_⟩) rfl (by kernel_rfl) (by kernel_rfl) (by kernel_rfl) (by kernel_rfl) (fun _ _ _ h=>h) hH2 (by rfl) ?_
   try simp only [Act.put,sT,sZ,sS]
   refine zD (i:=19) (oi:=⟨some 79,_,_,_,_,_⟩) rfl (by kernel_rfl) (by kernel_rfl) (by kernel_rfl) (by kernel_rfl) (fun _ _ _ h=>h) hH2 (by rfl) ?_
   try simp only [Act.put,sT,sZ,sS]
   refine zD (i:=20) (oi:=⟨some 80,_,_,_,_,_⟩) rfl (by kernel_rfl) (by kernel_rfl) (by kernel_rfl) (by kernel_rfl) (fun _ _ _ h=>h) hH2 (by rfl) ?_
   try simp only [Act.put,sT,sZ,sS]
   refine zD (i:=21) (oi:=⟨some 81,_,_,_,_,_⟩) rfl (by kernel_rfl) (by kernel_rfl) (by kernel_rfl) (by kernel_rfl) (fun _ _ _ h=>h) hH2 (by rfl) ?_
   try simp only [Act.put,sT,sZ,sS]
   refine zD (i:=22) (oi:=⟨some 82,_,_,_,_,_⟩) rfl (by kernel_rfl) (by kernel_rfl) (by kernel_rfl) (by kernel_rfl) (fun _ _ _ h=>h) hH2 (by rfl) ?_
   try simp only [Act.put,sT,sZ,sS]
   refine zD (i:=23) (oi:=⟨some 83,_,_,_,_,_⟩) rfl (by kernel_rfl) (by kernel_rfl) (by kernel_rfl) (by kernel_rfl) (fun _ _ _ h=>h) hH2 (by rfl) ?_
   try simp only [Act.put,sT,sZ,sS]
   refine zD (i:=24) (oi:=⟨some 84,_,_,_,_,_⟩) rfl (by kernel_rfl) (by kernel_rfl) (by kernel_rfl) (by kernel_rfl) (fun _ _ _ h=>h) hH2 (by rfl) ?_
   try simp only [Act.put,sT,sZ,sS]
   refine' tkR 25 85 hH2 ?o86
   refine' tkR 26 4 hH2 ?o87
   refine zH (by kernel_rfl) ?_ _;go_wp2;go_ret;exact ⟨by rw [HR.out];rfl,b1.trans (hH2.mono b1.size)⟩
  case true=>
   refine' tkR 16 76 hH2 ?o88
   refine' tkR 17 77 hH2 ?o89
   refine' tkR 18 78 hH2 ?o90
   refine' tkQ 19 79 hH2 ?hyv ?o91
   case hyv=>
    intro wz hSw;have zc0:=(hSw.cell (p:=⟨w.heap.size,0,none⟩) yA).trans a0;have zc1:=(hSw.cell (p:=⟨w.heap.size,1,none⟩) yA).trans a1;have zc2:=(hSw.cell (p:=⟨w.heap.size,2,none⟩) yA).trans a2;have zc3:=(hSw.cell (p:=⟨w.heap.size,3,none⟩) yA).trans a3;have zc4:=(hSw.cell (p:=⟨w.heap.size,4,none⟩) yA).trans a4;have zc5:=(hSw.cell (p:=⟨w.heap.size,5,none⟩) yA).trans a5;have zc6:=(hSw.cell (p:=⟨w.heap.size,6,none⟩) yA).trans a6;have zc7:=(hSw.cell (p:=⟨w.heap.size,7,none⟩) yA).trans a7;have zc8:=(hSw.cell (p:=⟨w.heap.size,8,none⟩) yA).trans a8;have zc9:=(hSw.cell (p:=⟨bl,ol,none⟩) yl1).trans X0;have zc10:=(hSw.cell (p:=⟨bl,ol+1,none⟩) yl1).trans Y0;go_simp
    try rfl
   try simp only [Act.put,sT,sZ,sS]
   refine' tkR 21 81 hH2 ?o92
   refine' tkR 22 82 hH2 ?o93
   refine' tkQ 23 83 hH2 ?hyv ?o94
   case hyv=>
    intro wz hSw;have zc0:=(hSw.cell (p:=⟨w.heap.size,0,none⟩) yA).trans a0;have zc1:=(hSw.cell (p:=⟨w.heap.size,1,none⟩) yA).trans a1;have zc2:=(hSw.cell (p:=⟨w.heap.size,2,none⟩) yA).trans a2;have zc3:=(hSw.cell (p:=⟨w.heap.size,3,none⟩) yA).trans a3;have zc4:=(hSw.cell (p:=⟨w.heap.size,4,none⟩) yA).trans a4;have zc5:=(hSw.cell (p:=⟨w.heap.size,5,none⟩) yA).trans a5;have zc6:=(hSw.cell (p:=⟨w.heap.size,6,none⟩) yA).trans a6;have zc7:=(hSw.cell (p:=⟨w.heap.size,7,none⟩) yA).trans a7;have zc8:=(hSw.cell (p:=⟨w.heap.size,8,none⟩) yA).trans a8;have zc9:=(hSw.cell (p:=⟨bl,ol,none⟩) yl1).trans X0;have zc10:=(hSw.cell (p:=⟨bl,ol+1,none⟩) yl1).trans Y0;go_simp
    try rfl
   try simp only [Act.put,sT,sZ,sS]
   refine tnQ 20 (fun K hK=>?_);go_simp;refine (hcl wd2 (b1.trans (hH2.mono b1.size)) HQ2.out.symm).mono ?_;rintro eq wd3 ⟨rfl,bq3⟩;have hH3:Below w1.heap.size w1 wd3:=hH2.trans (bq3.mono hH2.size);refine hK.out _ _ (fun _=>hH3) ?_;clear hK K
   try simp only [Act.put,sT,sZ,sS]
   refine' zO (i:=24) (oi:=⟨some 84,_,_,_,_,_⟩) (v:=.bool q5) rfl (by kernel_rfl) (by kernel_rfl) (by kernel_rfl) (by kernel_rfl) (fun _ _ _ h=>h) hH3 (by rfl) ?hyv ?o95
   case hyv=>
    intro wz hSw;go_simp;rw [HQ5.out]
    try rfl
   try simp only [Act.put,sT,sZ,sS]
   refine' tkR 25 85 hH3 ?o96
   refine' tkR 26 4 hH3 ?o97
   refine zH (by kernel_rfl) ?_ _;go_wp2;go_ret;exact ⟨by rw [HR.out];rfl,b1.trans (hH3.mono b1.size)⟩
end Go.Proofs.YtegakbobaecdlaaGreatDoor
