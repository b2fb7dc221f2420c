import Derived.Test.YtfhghlpfeeiaeaaGreatDoorX16
import Derived.Deep.Cut
import Derived.Deep.LoopGhost
import Derived.Ground.NamesProg
import Derived.IntWalk
import Derived.Laws.Cover1
import Derived.Laws.Externs
import Derived.Lib.Hide
import Derived.Lib.MakeNoZero
import Derived.Lib.SlBuf
import Derived.Shelf.Bytes.SlSmallAll
import Derived.Shelf.Lay
import Derived.WalkKit
import Derived.WalkSpells
set_option linter.unusedVariables false
set_option linter.unusedSimpArgs false
set_option maxHeartbeats 64000000
set_option maxRecDepth 100000
namespace Go.Proofs.YtfhghlpfeeiaeaaGreatDoor
open Go.RowKit Go.IntWalk
theorem effect1_any (b:Nat) (k v n cells:Int) (sv:Value) (w:World):Calls Tryz.prog 99 #[.pointer (some ⟨b,0,none⟩),.agg #[.int .i64 1,.int .i64 k,.int .i64 v,.int .i64 n],.int .i64 cells,sv] w fun r w'=>r=.returned (.tuple #[.slice none 0 0,.int .u8 (Sk.madeNum ⟨1,k,v,n⟩)])/\Below w.heap.size w w':=by
 have b1:Below w.heap.size w (w.alloc (.cells #[.int .i64 1,.int .i64 k,.int .i64 v,.int .i64 n] 66 (0,0))):=(Below.refl _ _).alloc zBR _;have kA:=zBO w (.cells #[.int .i64 1,.int .i64 k,.int .i64 v,.int .i64 n] 66 (0,0));have hc:=zAA ⟨1,k,v,n⟩;generalize Sk.madeNum ⟨1,k,v,n⟩=R at hc ⊢;go_enter Tryz.func99,Tryz.ntmps99;go_upto_region 1 with fail;generalize w.alloc (.cells #[.int .i64 1,.int .i64 k,.int .i64 v,.int .i64 n] 66 (0,0))=w1 at b1 kA ⊢;have a0:=coQ kA 0;have a1:=coQ kA 1;have a2:=coQ kA 2;have a3:=coQ kA 3;simp at a0 a1 a2 a3;have yA:=zBM kA;go_wp2_with fail;refine (hc _).mono ?_;rintro e w2 ⟨rfl,b2⟩;go_wp2
 go_ret2
 exact ⟨rfl,b1.trans (b2.mono b1.size)⟩
theorem effect5_any (b:Nat) (k v n cells:Int) (sv:Value) (w:World) (hG:GlobK w):Calls Tryz.prog 99 #[.pointer (some ⟨b,0,none⟩),.agg #[.int .i64 5,.int .i64 k,.int .i64 v,.int .i64 n],.int .i64 cells,sv] w fun r w'=>∃ u,r=.returned (.tuple #[u,.int .u8 (Sk.opEff ⟨5,k,v,n⟩).2])/\HBy (fun i=>w.heap.size<=i) w' u (Sk.opEff ⟨5,k,v,n⟩).1/\Below w.heap.size w w':=by
 have b1:Below w.heap.size w (w.alloc (.cells #[.int .i64 5,.int .i64 k,.int .i64 v,.int .i64 n] 66 (0,0))):=(Below.refl _ _).alloc zBR _;have kA:=zBO w (.cells #[.int .i64 5,.int .i64 k,.int .i64 v,.int .i64 n] 66 (0,0));have hc:=zCC ⟨5,k,v,n⟩ _ (hG.under b1);generalize Sk.opEff ⟨5,k,v,n⟩=R at hc ⊢;clear hG;go_enter Tryz.func99,Tryz.ntmps99;go_upto_region 1 with fail;generalize w.alloc (.cells #[.int .i64 5,.int .i64 k,.int .i64 v,.int .i64 n] 66 (0,0))=w1 at b1 kA hc ⊢;have a0:=coQ kA 0;have a1:=coQ kA 1;have a2:=coQ kA 2;have a3:=coQ kA 3;simp at a0 a1 a2 a3;have yA:=zBM kA;go_wp2_with fail;refine hc.mono ?_;rintro e w2 ⟨u,rfl,h2,b2⟩;have HB:=zBK (h2.wide (ok':=fun i=>w.heap.size<=i) fun i hi _=>Nat.le_trans b1.size hi);clear h2 hc;go_wp2
 go_ret2
 exact ⟨u,rfl,HB.out,b1.trans (b2.mono b1.size)⟩
theorem effect6_any (b:Nat) (k v n cells:Int) (sv:Value) (w:World) (hG:GlobK w):Calls Tryz.prog 99 #[.pointer (some ⟨b,0,none⟩),.agg #[.int .i64 6,.int .i64 k,.int .i64 v,.int .i64 n],.int .i64 cells,sv] w fun r w'=>∃ u,r=.returned (.tuple #[u,.int .u8 (Sk.opEff ⟨6,k,v,n⟩).2])/\HBy (fun i=>w.heap.size<=i) w' u (Sk.opEff ⟨6,k,v,n⟩).1/\Below w.heap.size w w':=by
 have b1:Below w.heap.size w (w.alloc (.cells #[.int .i64 6,.int .i64 k,.int .i64 v,.int .i64 n] 66 (0,0))):=(Below.refl _ _).alloc zBR _;have kA:=zBO w (.cells #[.int .i64 6,.int .i64 k,.int .i64 v,.int .i64 n] 66 (0,0));have hc:=zCC ⟨6,k,v,n⟩ _ (hG.under b1);generalize Sk.opEff ⟨6,k,v,n⟩=R at hc ⊢;clear hG;go_enter Tryz.func99,Tryz.ntmps99;go_upto_region 1 with fail;generalize w.alloc (.cells #[.int .i64 6,.int .i64 k,.int .i64 v,.int .i64 n] 66 (0,0))=w1 at b1 kA hc ⊢;have a0:=coQ kA 0;have a1:=coQ kA 1;have a2:=coQ kA 2;have a3:=coQ kA 3;simp at a0 a1 a2 a3;have yA:=zBM kA;go_wp2_with fail;refine hc.mono ?_;rintro e w2 ⟨u,rfl,h2,b2⟩;have HB:=zBK (h2.wide (ok':=fun i=>w.heap.size<=i) fun i hi _=>Nat.le_trans b1.size hi);clear h2 hc;go_wp2
 go_ret2
 exact ⟨u,rfl,HB.out,b1.trans (b2.mono b1.size)⟩
theorem effect7_any {ok:Nat->Prop} {w:World} (b:Nat) (k v n cells:Int) {sv:Value} {st:List Int} (hs:HBy ok w sv st):Calls Tryz.prog 99 #[.pointer (some ⟨b,0,none⟩),.agg #[.int .i64 7,.int .i64 k,.int .i64 v,.int .i64 n],.int .i64 cells,sv] w fun r w'=>∃ u,r=.returned (.tuple #[u,.int .u8 (Sk.choice st).2])/\HBy (fun i=>w.heap.size<=i) w' u (Sk.choice st).1/\Below w.heap.size w w':=by
 have b1:Below w.heap.size w (w.alloc (.cells #[.int .i64 7,.int .i64 k,.int .i64 v,.int .i64 n] 66 (0,0))):=(Below.refl _ _).alloc zBR _;have kA:=zBO w (.cells #[.int .i64 7,.int .i64 k,.int .i64 v,.int .i64 n] 66 (0,0));have hc:=zCh (hs.under b1);generalize Sk.choice st=R at hc ⊢;clear hs;go_enter Tryz.func99,Tryz.ntmps99;go_upto_region 1 with fail;generalize w.alloc (.cells #[.int .i64 7,.int .i64 k,.int .i64 v,.int .i64 n] 66 (0,0))=w1 at b1 kA hc ⊢;have a0:=coQ kA 0;have a1:=coQ kA 1;have a2:=coQ kA 2;have a3:=coQ kA 3;simp at a0 a1 a2 a3;have yA:=zBM kA;go_wp2_with fail;refine hc.mono ?_;rintro e w2 ⟨u,rfl,h2,b2⟩;have HB:=zBK (h2.wide (ok':=fun i=>w.heap.size<=i) fun i hi _=>Nat.le_trans b1.size hi);clear h2 hc;go_wp2
 go_ret2
 exact ⟨u,rfl,HB.out,b1.trans (b2.mono b1.size)⟩
theorem effect4_any (b:Nat) (k v n cells:Int) (sv:Value) (w:World):Calls Tryz.prog 99 #[.pointer (some ⟨b,0,none⟩),.agg #[.int .i64 4,.int .i64 k,.int .i64 v,.int .i64 n],.int .i64 cells,sv] w fun r w'=>r=.returned (.tuple #[.slice none 0 0,.int .u8 (Sk.when (decide (-1000000<=n)&&decide (n<=1000000)) 105)])/\Below w.heap.size w w':=by
 have b1:Below w.heap.size w (w.alloc (.cells #[.int .i64 4,.int .i64 k,.int .i64 v,.int .i64 n] 66 (0,0))):=(Below.refl _ _).alloc zBR _;have kA:=zBO w (.cells #[.int .i64 4,.int .i64 k,.int .i64 v,.int .i64 n] 66 (0,0));have hc:=fun q=>zBh q 105;go_enter Tryz.func99,Tryz.ntmps99;go_upto_region 1 with fail;generalize w.alloc (.cells #[.int .i64 4,.int .i64 k,.int .i64 v,.int .i64 n] 66 (0,0))=w1 at b1 kA ⊢;have a0:=coQ kA 0;have a1:=coQ kA 1;have a2:=coQ kA 2;have a3:=coQ kA 3;simp at a0 a1 a2 a3;have yA:=zBM kA;go_wp2_with fail
 all_goals (
  refine (hc _ _).mono ?_;rintro e w2 ⟨rfl,b2⟩;go_wp2
  go_ret2
  refine ⟨?_,b1.trans (b2.mono b1.size)⟩;refine congrArg (fun q=>Ending.returned (Value.tuple #[.slice none 0 0,.int .u8 (Sk.when q 105)])) ?_;clear hc b1 b2 kA a0 a1 a2 a3 yA
  apply Bool.eq_iff_iff.2
  simp;omega)
theorem effect0_any (b:Nat) (op k v n cells:Int) (sv:Value) (w:World) (h:op<1\/8<op):Calls Tryz.prog 99 #[.pointer (some ⟨b,0,none⟩),.agg #[.int .i64 op,.int .i64 k,.int .i64 v,.int .i64 n],.int .i64 cells,sv] w fun r w'=>r=.returned (.tuple #[.slice none 0 0,.int .u8 0])/\Below w.heap.size w w':=by
 have b1:Below w.heap.size w (w.alloc (.cells #[.int .i64 op,.int .i64 k,.int .i64 v,.int .i64 n] 66 (0,0))):=(Below.refl _ _).alloc zBR _;have kA:=zBO w (.cells #[.int .i64 op,.int .i64 k,.int .i64 v,.int .i64 n] 66 (0,0));have e1:(op==1)=false:=(by simp;omega);have e2:(op==2)=false:=(by simp;omega);have e3:(op==3)=false:=(by simp;omega);have e4:(op==4)=false:=(by simp;omega);have e5:(op==5)=false:=(by simp;omega);have e6:(op==6)=false:=(by simp;omega);have e7:(op==7)=false:=(by simp;omega);have e8:(op==8)=false:=(by simp;omega);clear h;go_enter Tryz.func99,Tryz.ntmps99;go_upto_region 1 with fail;generalize w.alloc (.cells #[.int .i64 op,.int .i64 k,.int .i64 v,.int .i64 n] 66 (0,0))=w1 at b1 kA ⊢;have a0:=coQ kA 0;have a1:=coQ kA 1;have a2:=coQ kA 2;have a3:=coQ kA 3;simp at a0 a1 a2 a3;have yA:=zBM kA;go_wp2
 go_ret2
 exact ⟨rfl,b1⟩
theorem effect2_any {ok:Nat->Prop} {w:World} {b:Nat} {x:LkV} {V:List Sk.Vr} (hk:LkAt w b x) (hV:HVars ok w (.slice x.aV x.nV x.cV) V) (k n cells:Int) (i:Nat) (hi:i<V.length) (hc:0<=cells/\cells<=300) (hb:0<=(V[i]).n/\(V[i]).n<=300) (sv:Value) :
  Calls Tryz.prog 99 #[.pointer (some ⟨b,0,none⟩),.agg #[.int .i64 2,.int .i64 k,.int .i64 (i:Int),.int .i64 n],.int .i64 cells,sv] w fun r w'=>r=.returned (.tuple #[.slice none 0 0,.int .u8 (Sk.madeVar ⟨2,k,i,n⟩ V[i] cells)])/\Below w.heap.size w w':=by
 obtain ⟨ao,cap,hv,q1,q2,bo⟩:=hV.at;injection hv with v1 v2 v3;obtain ⟨bl,ol,ov,yl,x0,y0⟩:=bo i hi;rw [ov] at v1;unfold LkAt at hk;have iI:=coQ hk 0;simp only [gT,gZ] at iI;rw [v1,v2,v3] at iI;have yb:=zBM hk;unfold maxLen at q2;have b1:Below w.heap.size w (w.alloc (.cells #[.int .i64 2,.int .i64 k,.int .i64 (i:Int),.int .i64 n] 66 (0,0))):=(Below.refl _ _).alloc zBR _;have kA:=zBO w (.cells #[.int .i64 2,.int .i64 k,.int .i64 (i:Int),.int .i64 n] 66 (0,0));have k0:=(b1.cell (p:=⟨b,0,none⟩) yb).trans iI;have X0:=(b1.cell (p:=⟨bl,ol+i*2,none⟩) yl).trans x0;have Y0:=(b1.cell (p:=⟨bl,ol+i*2+1,none⟩) yl).trans y0;have iX:b<(w.alloc (.cells #[.int .i64 2,.int .i64 k,.int .i64 (i:Int),.int .i64 n] 66 (0,0))).heap.size:=Nat.lt_of_lt_of_le yb b1.size;have bP:bl<(w.alloc (.cells #[.int .i64 2,.int .i64 k,.int .i64 (i:Int),.int .i64 n] 66 (0,0))).heap.size:=Nat.lt_of_lt_of_le yl b1.size;clear hk iI hV bo v1 v2 v3 ov x0 y0 yb yl;obtain ⟨L,hL⟩:=nmQ (V.length);generalize V[i]=va at X0 Y0 hb ⊢;rw [<-hL] at k0 q1 hi;clear hL;have cZ:=zCJ ⟨2,k,i,n⟩ va cells hc.1 hc.2 hb.1 hb.2;generalize Sk.madeVar ⟨2,k,i,n⟩ va cells=R at cZ ⊢;clear hc hb;go_enter Tryz.func99,Tryz.ntmps99;go_upto_region 1 with fail;generalize w.alloc (.cells #[.int .i64 2,.int .i64 k,.int .i64 (i:Int),.int .i64 n] 66 (0,0))=w1 at b1 kA k0 X0 Y0 iX bP ⊢;have a0:=coQ kA 0;have a1:=coQ kA 1;have a2:=coQ kA 2;have a3:=coQ kA 3;simp at a0 a1 a2 a3;have yA:=zBM kA;go_upto_region 6 with fail;have aM:=zBK (fun (wz:World) (hSw:Below w1.heap.size w1 wz)=>And.intro ((hSw.cell (p:=⟨w.heap.size,0,none⟩) yA).trans a0) (And.intro ((hSw.cell (p:=⟨w.heap.size,1,none⟩) yA).trans a1) (And.intro ((hSw.cell (p:=⟨w.heap.size,2,none⟩) yA).trans a2) (And.intro ((hSw.cell (p:=⟨w.heap.size,3,none⟩) yA).trans a3) (And.intro ((hSw.cell (p:=⟨b,0,none⟩) iX).trans k0) (And.intro ((hSw.cell (p:=⟨bl,ol+i*2,none⟩) bP).trans X0) ((hSw.cell (p:=⟨bl,ol+i*2+1,none⟩) bP).trans Y0)))))));refine zBP (fun w'=>Below w1.heap.size w1 w') (fun _=>false) (by kernel_rfl) ?_;have ab:Below w1.heap.size w1 w1.drew:=(Below.refl _ _).drew;generalize w1.drew=ag at ab ⊢;refine' tkQ 0 20 ab ?hyv ?o1
 case hyv=>
  intro wz hSw;have bk:=aM.out wz hSw;go_simp
  try rfl
 try simp only [Act.put,sT,sZ,sS]
 refine' tkR 1 21 ab ?o2
 refine' tkR 2 22 ab ?o3
 refine' tkR 3 23 ab ?o4
 refine' tkR 4 24 ab ?o5
 refine' tkQ 5 25 ab ?hyv ?o6
 case hyv=>
  intro wz hSw;have bk:=aM.out wz hSw;go_simp
  try rfl
 try simp only [Act.put,sT,sZ,sS]
 refine' tkR 6 26 ab ?o7
 refine' tkQ 7 27 ab ?hyv ?o8
 case hyv=>
  intro wz hSw;have bk:=aM.out wz hSw;go_simp
  try rfl
 try simp only [Act.put,sT,sZ,sS]
 refine' tkR 8 28 ab ?o9
 refine' tkQ 9 29 ab ?hyv ?o10
 case hyv=>
  intro wz hSw;have bk:=aM.out wz hSw;go_simp
  try rfl
 try simp only [Act.put,sT,sZ,sS]
 refine' tkR 10 30 ab ?o11
 refine tnQ 11 (fun K hK=>?_);go_simp;refine (cZ ag).mono ?_;rintro eq aw ⟨rfl,cY⟩;have af:Below w1.heap.size w1 aw:=ab.trans (cY.mono ab.size);refine hK.out _ _ (fun _=>af) ?_;clear hK K
 try simp only [Act.put,sT,sZ,sS]
 refine' tkR 12 8 af ?o12
 refine' tkR 13 9 af ?o13
 refine zBN (by kernel_rfl) ?_ _;go_wp2
 go_ret2
 exact ⟨rfl,b1.trans (af.mono b1.size)⟩
theorem effect3_any {ok:Nat->Prop} {w:World} {b:Nat} {x:LkV} {V:List Sk.Vr} (hk:LkAt w b x) (hV:HVars ok w (.slice x.aV x.nV x.cV) V) (k n cells:Int) (i:Nat) (hi:i<V.length) (hc:0<=cells/\cells<=300) (hb:0<=(V[i]).n/\(V[i]).n<=300) (sv:Value) :
  Calls Tryz.prog 99 #[.pointer (some ⟨b,0,none⟩),.agg #[.int .i64 3,.int .i64 k,.int .i64 (i:Int),.int .i64 n],.int .i64 cells,sv] w fun r w'=>r=.returned (.tuple #[.slice none 0 0,.int .u8 (Sk.madeVar ⟨3,k,i,n⟩ V[i] cells)])/\Below w.heap.size w w':=by
 obtain ⟨ao,cap,hv,q1,q2,bo⟩:=hV.at;injection hv with v1 v2 v3;obtain ⟨bl,ol,ov,yl,x0,y0⟩:=bo i hi;rw [ov] at v1;unfold LkAt at hk;have iI:=coQ hk 0;simp only [gT,gZ] at iI;rw [v1,v2,v3] at iI;have yb:=zBM hk;unfold maxLen at q2;have b1:Below w.heap.size w (w.alloc (.cells #[.int .i64 3,.int .i64 k,.int .i64 (i:Int),.int .i64 n] 66 (0,0))):=(Below.refl _ _).alloc zBR _;have kA:=zBO w (.cells #[.int .i64 3,.int .i64 k,.int .i64 (i:Int),.int .i64 n] 66 (0,0));have k0:=(b1.cell (p:=⟨b,0,none⟩) yb).trans iI;have X0:=(b1.cell (p:=⟨bl,ol+i*2,none⟩) yl).trans x0;have Y0:=(b1.cell (p:=⟨bl,ol+i*2+1,none⟩) yl).trans y0;have iX:b<(w.alloc (.cells #[.int .i64 3,.int .i64 k,.int .i64 (i:Int),.int .i64 n] 66 (0,0))).heap.size:=Nat.lt_of_lt_of_le yb b1.size;have bP:bl<(w.alloc (.cells #[.int .i64 3,.int .i64 k,.int .i64 (i:Int),.int .i64 n] 66 (0,0))).heap.size:=Nat.lt_of_lt_of_le yl b1.size;clear hk iI hV bo v1 v2 v3 ov x0 y0 yb yl;obtain ⟨L,hL⟩:=nmQ (V.length);generalize V[i]=va at X0 Y0 hb ⊢;rw [<-hL] at k0 q1 hi;clear hL;have cZ:=zCJ ⟨3,k,i,n⟩ va cells hc.1 hc.2 hb.1 hb.2;generalize Sk.madeVar ⟨3,k,i,n⟩ va cells=R at cZ ⊢;clear hc hb;go_enter Tryz.func99,Tryz.ntmps99;go_upto_region 1 with fail;generalize w.alloc (.cells #[.int .i64 3,.int .i64 k,.int .i64 (i:Int),.int .i64 n] 66 (0,0))=w1 at b1 kA k0 X0 Y0 iX bP ⊢;have a0:=coQ kA 0;have a1:=coQ kA 1;have a2:=coQ kA 2;have a3:=coQ kA 3;simp at a0 a1 a2 a3;have yA:=zBM kA;go_upto_region 6 with fail;have aM:=zBK (fun (wz:World) (hSw:Below w1.heap.size w1 wz)=>And.intro ((hSw.cell (p:=⟨w.heap.size,0,none⟩) yA).trans a0) (And.intro ((hSw.cell (p:=⟨w.heap.size,1,none⟩) yA).trans a1) (And.intro ((hSw.cell (p:=⟨w.heap.size,2,none⟩) yA).trans a2) (And.intro ((hSw.cell (p:=⟨w.heap.size,3,none⟩) yA).trans a3) (And.intro ((hSw.cell (p:=⟨b,0,none⟩) iX).trans k0) (And.intro ((hSw.cell (p:=⟨bl,ol+i*2,none⟩) bP).trans X0) ((hSw.cell (p:=⟨bl,ol+i*2+1,none⟩) bP).trans Y0)))))));refine zBP (fun w'=>Below w1.heap.size w1 w') (fun _=>false) (by kernel_rfl) ?_;have ab:Below w1.heap.size w1 w1.drew:=(Below.refl _ _).drew;generalize w1.drew=ag at ab ⊢;refine' tkQ 0 20 ab ?hyv ?o14
 case hyv=>
  intro wz hSw;have bk:=aM.out wz hSw;go_simp
  try rfl
 try simp only [Act.put,sT,sZ,sS]
 refine' tkR 1 21 ab ?o15
 refine' tkR 2 22 ab ?o16
 refine' tkR 3 23 ab ?o17
 refine' tkR 4 24 ab ?o18
 refine' tkQ 5 25 ab ?hyv ?o19
 case hyv=>
  intro wz hSw;have bk:=aM.out wz hSw;go_simp
  try rfl
 try simp only [Act.put,sT,sZ,sS]
 refine' tkR 6 26 ab ?o20
 refine' tkQ 7 27 ab ?hyv ?o21
 case hyv=>
  intro wz hSw;have bk:=aM.out wz hSw;go_simp
  try rfl
 try simp only [Act.put,sT,sZ,sS]
 refine' tkR 8 28 ab ?o22
 refine' tkQ 9 29 ab ?hyv ?o23
 case hyv=>
  intro wz hSw;have bk:=aM.out wz hSw;go_simp
  try rfl
 try simp only [Act.put,sT,sZ,sS]
 refine' tkR 10 30 ab ?o24
 refine tnQ 11 (fun K hK=>?_);go_simp;refine (cZ ag).mono ?_;rintro eq aw ⟨rfl,cY⟩;have af:Below w1.heap.size w1 aw:=ab.trans (cY.mono ab.size);refine hK.out _ _ (fun _=>af) ?_;clear hK K
 try simp only [Act.put,sT,sZ,sS]
 refine' tkR 12 8 af ?o25
 refine' tkR 13 9 af ?o26
 refine zBN (by kernel_rfl) ?_ _;go_wp2
 go_ret2
 exact ⟨rfl,b1.trans (af.mono b1.size)⟩
theorem effect8_any {ok:Nat->Prop} {w:World} {b:Nat} {x:LkV} {V:List Sk.Vr} (hk:LkAt w b x) (hV:HVars ok w (.slice x.aV x.nV x.cV) V) (k n cells:Int) (i:Nat) (hi:i<V.length) (hb:0<=(V[i]).n/\(V[i]).n<=300) (sv:Value) :
  Calls Tryz.prog 99 #[.pointer (some ⟨b,0,none⟩),.agg #[.int .i64 8,.int .i64 k,.int .i64 (i:Int),.int .i64 n],.int .i64 cells,sv] w fun r w'=>∃ u,r=.returned (.tuple #[u,.int .u8 (Sk.when (Sk.arr V[i]) (V[i]).elem)])/\HBy (fun i=>w.heap.size<=i) w' u [105,(V[i]).elem]/\Below w.heap.size w w':=by
 obtain ⟨ao,cap,hv,q1,q2,bo⟩:=hV.at;injection hv with v1 v2 v3;obtain ⟨bl,ol,ov,yl,x0,y0⟩:=bo i hi;rw [ov] at v1;unfold LkAt at hk;have iI:=coQ hk 0;simp only [gT,gZ] at iI;rw [v1,v2,v3] at iI;have yb:=zBM hk;unfold maxLen at q2;have b1:Below w.heap.size w (w.alloc (.cells #[.int .i64 8,.int .i64 k,.int .i64 (i:Int),.int .i64 n] 66 (0,0))):=(Below.refl _ _).alloc zBR _;have kA:=zBO w (.cells #[.int .i64 8,.int .i64 k,.int .i64 (i:Int),.int .i64 n] 66 (0,0));have k0:=(b1.cell (p:=⟨b,0,none⟩) yb).trans iI;have X0:=(b1.cell (p:=⟨bl,ol+i*2,none⟩) yl).trans x0;have Y0:=(b1.cell (p:=⟨bl,ol+i*2+1,none⟩) yl).trans y0;have iX:b<(w.alloc (.cells #[.int .i64 8,.int .i64 k,.int .i64 (i:Int),.int .i64 n] 66 (0,0))).heap.size:=Nat.lt_of_lt_of_le yb b1.size;have bP:bl<(w.alloc (.cells #[.int .i64 8,.int .i64 k,.int .i64 (i:Int),.int .i64 n] 66 (0,0))).heap.size:=Nat.lt_of_lt_of_le yl b1.size;clear hk iI hV bo v1 v2 v3 ov x0 y0 yb yl;obtain ⟨L,hL⟩:=nmQ (V.length);generalize V[i]=va at X0 Y0 hb ⊢;rw [<-hL] at k0 q1 hi;clear hL;have cZ:=zBz va;generalize Sk.arr va=q at cZ ⊢;have rj:=zBh q va.elem;generalize Sk.when q va.elem=R at rj ⊢;clear hb;go_enter Tryz.func99,Tryz.ntmps99;go_upto_region 1 with fail;generalize w.alloc (.cells #[.int .i64 8,.int .i64 k,.int .i64 (i:Int),.int .i64 n] 66 (0,0))=w1 at b1 kA k0 X0 Y0 iX bP ⊢;have a0:=coQ kA 0;have a1:=coQ kA 1;have a2:=coQ kA 2;have a3:=coQ kA 3;simp at a0 a1 a2 a3;have yA:=zBM kA;go_upto_region 15 with fail;have aM:=zBK (fun (wz:World) (hSw:Below w1.heap.size w1 wz)=>And.intro ((hSw.cell (p:=⟨w.heap.size,0,none⟩) yA).trans a0) (And.intro ((hSw.cell (p:=⟨w.heap.size,1,none⟩) yA).trans a1) (And.intro ((hSw.cell (p:=⟨w.heap.size,2,none⟩) yA).trans a2) (And.intro ((hSw.cell (p:=⟨w.heap.size,3,none⟩) yA).trans a3) (And.intro ((hSw.cell (p:=⟨b,0,none⟩) iX).trans k0) (And.intro ((hSw.cell (p:=⟨bl,ol+i*2,none⟩) bP).trans X0) ((hSw.cell (p:=⟨bl,ol+i*2+1,none⟩) bP).trans Y0)))))));refine zBP (fun w'=>Below w1.heap.size w1 w') (fun _=>false) (by kernel_rfl) ?_;have ab:Below w1.heap.size w1 w1.drew:=(Below.refl _ _).drew;generalize w1.drew=ag at ab ⊢;refine' tkR 0 58 ab ?o27
 refine' tkR 1 59 ab ?o28
 refine' tkR 2 60 ab ?o29
 refine' tkR 3 61 ab ?o30
 refine' tkQ 4 62 ab ?hyv ?o31
 case hyv=>
  intro wz hSw;have bk:=aM.out wz hSw;go_simp
  try rfl
 try simp only [Act.put,sT,sZ,sS]
 refine' tkR 5 63 ab ?o32
 refine' tkQ 6 64 ab ?hyv ?o33
 case hyv=>
  intro wz hSw;have bk:=aM.out wz hSw;go_simp
  try rfl
 try simp only [Act.put,sT,sZ,sS]
 refine' tkR 7 65 ab ?o34
 refine' tkQ 8 66 ab ?hyv ?o35
 case hyv=>
  intro wz hSw;have bk:=aM.out wz hSw;go_simp
  try rfl
 try simp only [Act.put,sT,sZ,sS]
 refine tnQ 9 (fun K hK=>?_);go_simp;have af:Below w1.heap.size w1 (ag.alloc (.cells #[.int .u8 0,.int .i64 0] 39 (0,0))):=ab.alloc ab.size _;have dP:=zBO ag (.cells #[.int .u8 0,.int .i64 0] 39 (0,0));have tn:=ab.size;refine hK.out _ _ (fun _=>af) ?_;clear hK K
 try simp only [Act.put,sT,sZ,sS]
 have C1:(ag.alloc (.cells #[.int .u8 0,.int .i64 0] 39 (0,0))).heap.size=ag.heap.size+1:=(by simp);generalize ag.alloc (.cells #[.int .u8 0,.int .i64 0] 39 (0,0))=aw at af dP C1 ⊢;refine tnQ 10 (fun K hK=>?_);have cJ:=coQ dP 0;have cW:=coQ dP 1;have eO:=foQ dP 0;have fl:=foQ dP 1;simp at cJ cW;have KR:=zBQ (zBQ dP 0 (.int .u8 va.elem)) 1 (.int .i64 va.n);have ay:=(af.setCell (p:=⟨ag.heap.size,0,none⟩) ab.size (.int .u8 va.elem)).setCell (p:=⟨ag.heap.size,1,none⟩) ab.size (.int .i64 va.n);go_simp;refine hK.out _ _ (fun _=>ay) ?_;clear hK K
 try simp only [Act.put,sT,sZ,sS]
 clear cJ cW eO fl;generalize (aw.setCell ⟨ag.heap.size,0,none⟩ (.int .u8 va.elem)).setCell ⟨ag.heap.size,1,none⟩ (.int .i64 va.n)=aJ at ay KR ⊢;simp at KR;refine zBN (by kernel_rfl) ?_ _;have B2:=b1.trans (ay.mono b1.size);have iA:w.heap.size<=ag.heap.size:=Nat.le_trans b1.size ab.size;generalize ag.heap.size=gb at KR iA ⊢;generalize aJ=w5 at B2 KR ⊢;clear kA a0 a1 a2 a3 k0 X0 Y0 yA iX bP ab;go_upto_region 16 with fail;have g0:=coQ KR 0;have g1:=coQ KR 1;simp at g0 g1;have yg:=zBM KR;have aM:=zBK (fun (wz:World) (hSw:Below w5.heap.size w5 wz)=>And.intro ((hSw.cell (p:=⟨gb,0,none⟩) yg).trans g0) ((hSw.cell (p:=⟨gb,1,none⟩) yg).trans g1));refine zBP (fun w'=>Below w5.heap.size w5 w') (fun _=>false) (by kernel_rfl) ?_;have ab:Below w5.heap.size w5 w5.drew:=(Below.refl _ _).drew;generalize w5.drew=ag at ab ⊢;refine' tkR 0 67 ab ?o36
 refine' tkQ 1 68 ab ?hyv ?o37
 case hyv=>
  intro wz hSw;have bk:=aM.out wz hSw;go_simp
  try rfl
 try simp only [Act.put,sT,sZ,sS]
 refine' tkQ 3 70 ab ?hyv ?o38
 case hyv=>
  intro wz hSw;have bk:=aM.out wz hSw;go_simp
  try rfl
 try simp only [Act.put,sT,sZ,sS]
 refine' tkR 5 72 ab ?o39
 refine' tkQ 6 73 ab ?hyv ?o40
 case hyv=>
  intro wz hSw;have bk:=aM.out wz hSw;go_simp
  try rfl
 try simp only [Act.put,sT,sZ,sS]
 refine zBl (i:=2) (j:=4) rfl rfl (by kernel_rfl) (by rfl) (by rfl) (fun K hK=>?_) (fun K hK=>?_)
 case _=>
  go_simp;have af:Below w5.heap.size w5 (ag.alloc (.cells #[.int .u8 105,.int .u8 va.elem] 5 (0,0))):=ab.alloc ab.size _;have dP:=zBO ag (.cells #[.int .u8 105,.int .u8 va.elem] 5 (0,0));have tn:=ab.size;refine hK.out _ _ (fun _=>af) ?_;clear hK K
  try simp only [Act.put,sT,sZ,sS]
  have C1:(ag.alloc (.cells #[.int .u8 105,.int .u8 va.elem] 5 (0,0))).heap.size=ag.heap.size+1:=(by simp);generalize ag.alloc (.cells #[.int .u8 105,.int .u8 va.elem] 5 (0,0))=aw at af dP C1 ⊢;refine tnQ 4 (fun K hK=>?_);go_simp;refine (cZ aw).mono ?_;rintro eq aJ ⟨rfl,dz⟩;have dB:=(dz.block _ (zBM dP)).trans dP;have ay:Below w5.heap.size w5 aJ:=af.trans (dz.mono af.size);refine hK.out _ _ (fun _=>ay) ?_;clear hK K
  try simp only [Act.put,sT,sZ,sS]
  refine tnQ 7 (fun K hK=>?_);go_simp;refine (rj aJ).mono ?_;rintro eq bF ⟨rfl,fJ⟩;have cD:=(fJ.block _ (zBM dB)).trans dB;have aD:Below w5.heap.size w5 bF:=ay.trans (fJ.mono ay.size);refine hK.out _ _ (fun _=>aD) ?_;clear hK K
  try simp only [Act.put,sT,sZ,sS]
  refine' tkR 8 8 aD ?o41
  refine' tkR 9 9 aD ?o42
  refine zBN (by kernel_rfl) ?_ _;have zO:=zBK (HBy.blk cD [105,va.elem] rfl (by simp) (Nat.le_trans B2.size tn));go_wp2
  go_ret2
  exact ⟨_,rfl,zO.out,B2.trans (aD.mono B2.size)⟩
 case _=>
  go_simp;refine (cZ ag).mono ?_;rintro eq aw ⟨rfl,cY⟩;have af:Below w5.heap.size w5 aw:=ab.trans (cY.mono ab.size);refine hK.out _ _ (fun _=>af) ?_;clear hK K
  try simp only [Act.put,sT,sZ,sS]
  refine zBl (i:=2) (j:=7) rfl rfl (by kernel_rfl) (by rfl) (by rfl) (fun K hK=>?_) (fun K hK=>?_)
  case _=>
   go_simp;have ay:Below w5.heap.size w5 (aw.alloc (.cells #[.int .u8 105,.int .u8 va.elem] 5 (0,0))):=af.alloc af.size _;have iO:=zBO aw (.cells #[.int .u8 105,.int .u8 va.elem] 5 (0,0));have yf:=af.size;refine hK.out _ _ (fun _=>ay) ?_;clear hK K
   try simp only [Act.put,sT,sZ,sS]
   have Qa:(aw.alloc (.cells #[.int .u8 105,.int .u8 va.elem] 5 (0,0))).heap.size=aw.heap.size+1:=(by simp);generalize aw.alloc (.cells #[.int .u8 105,.int .u8 va.elem] 5 (0,0))=aJ at ay iO Qa ⊢;refine tnQ 7 (fun K hK=>?_);go_simp;refine (rj aJ).mono ?_;rintro eq bF ⟨rfl,fJ⟩;have cF:=(fJ.block _ (zBM iO)).trans iO;have aD:Below w5.heap.size w5 bF:=ay.trans (fJ.mono ay.size);refine hK.out _ _ (fun _=>aD) ?_;clear hK K
   try simp only [Act.put,sT,sZ,sS]
   refine' tkR 8 8 aD ?o43
   refine' tkR 9 9 aD ?o44
   refine zBN (by kernel_rfl) ?_ _;have zO:=zBK (HBy.blk cF [105,va.elem] rfl (by simp) (Nat.le_trans B2.size yf));go_wp2
   go_ret2
   exact ⟨_,rfl,zO.out,B2.trans (aD.mono B2.size)⟩
  case _=>
   go_simp;refine (rj aw).mono ?_;rintro eq aJ ⟨rfl,dz⟩;have ay:Below w5.heap.size w5 aJ:=af.trans (dz.mono af.size);refine hK.out _ _ (fun _=>ay) ?_;clear hK K
   try simp only [Act.put,sT,sZ,sS]
   refine tnQ 2 (fun K hK=>?_);go_simp;have aD:Below w5.heap.size w5 (aJ.alloc (.cells #[.int .u8 105,.int .u8 va.elem] 5 (0,0))):=ay.alloc ay.size _;have gD:=zBO aJ (.cells #[.int .u8 105,.int .u8 va.elem] 5 (0,0));have zG:=ay.size;refine hK.out _ _ (fun _=>aD) ?_;clear hK K
   try simp only [Act.put,sT,sZ,sS]
   have Qb:(aJ.alloc (.cells #[.int .u8 105,.int .u8 va.elem] 5 (0,0))).heap.size=aJ.heap.size+1:=(by simp);generalize aJ.alloc (.cells #[.int .u8 105,.int .u8 va.elem] 5 (0,0))=bF at aD gD Qb ⊢;refine' tkR 8 8 aD ?o45
   refine' tkR 9 9 aD ?o46
   refine zBN (by kernel_rfl) ?_ _;have zO:=zBK (HBy.blk gD [105,va.elem] rfl (by simp) (Nat.le_trans B2.size zG));go_wp2
   go_ret2
   exact ⟨_,rfl,zO.out,B2.trans (aD.mono B2.size)⟩
end Go.Proofs.YtfhghlpfeeiaeaaGreatDoor
