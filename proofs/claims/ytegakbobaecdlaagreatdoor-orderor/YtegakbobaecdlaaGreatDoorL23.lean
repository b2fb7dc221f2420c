import Derived.Test.YtegakbobaecdlaaGreatDoorL22
import Derived.WalkKit
import Derived.WalkSpells
import Derived.IntWalk
import Derived.Deep.Cut
import Derived.Deep.LoopGhost
import Derived.Ground.NamesProg
import Derived.Laws.Cover1
import Derived.Laws.Externs
import Derived.Lib.Hide
import Derived.Lib.MakeNoZero
import Derived.Lib.SlBuf
import Derived.Shelf.Bytes.SlSmallAll
import Derived.Shelf.Lay
set_option linter.unusedVariables false
set_option linter.unusedSimpArgs false
set_option maxHeartbeats 64000000
set_option maxRecDepth 100000
namespace Go.Proofs.YtegakbobaecdlaaGreatDoor
open Go.RowKit Go.IntWalk
theorem effect1_any (b:Nat) (k v n cells:Int) (sv:Value) (w:World):Calls Tryz.prog 153 #[.pointer (some ⟨b,0,none⟩),.agg #[.int .i64 1,.int .i64 k,.int .i64 v,.int .i64 n],.int .i64 cells,sv] w fun r w'=>r=.returned (.tuple #[.slice none 0 0,.int .u8 (Sk.madeNum ⟨1,k,v,n⟩)])/\Below w.heap.size w w':=by
 have b1:Below w.heap.size w (w.alloc (.cells #[.int .i64 1,.int .i64 k,.int .i64 v,.int .i64 n] 79 (0,0))):=(Below.refl _ _).alloc zM _;have kA:=zI w (.cells #[.int .i64 1,.int .i64 k,.int .i64 v,.int .i64 n] 79 (0,0));have hc:=jJ ⟨1,k,v,n⟩;generalize Sk.madeNum ⟨1,k,v,n⟩=R at hc ⊢;go_enter Tryz.func153,Tryz.ntmps153;go_upto_region 1 with fail;generalize w.alloc (.cells #[.int .i64 1,.int .i64 k,.int .i64 v,.int .i64 n] 79 (0,0))=w1 at b1 kA ⊢;have a0:=coQ kA 0;have a1:=coQ kA 1;have a2:=coQ kA 2;have a3:=coQ kA 3;simp at a0 a1 a2 a3;have yA:=zG kA;go_wp2_with fail;refine (hc _).mono ?_;rintro e w2 ⟨rfl,b2⟩;go_wp2
 go_ret2
 exact ⟨rfl,b1.trans (b2.mono b1.size)⟩
theorem effect5_any (b:Nat) (k v n cells:Int) (sv:Value) (w:World) (hG:GlobK w):Calls Tryz.prog 153 #[.pointer (some ⟨b,0,none⟩),.agg #[.int .i64 5,.int .i64 k,.int .i64 v,.int .i64 n],.int .i64 cells,sv] w fun r w'=>∃ u,r=.returned (.tuple #[u,.int .u8 (Sk.opEff ⟨5,k,v,n⟩).2])/\HBy (fun i=>w.heap.size<=i) w' u (Sk.opEff ⟨5,k,v,n⟩).1/\Below w.heap.size w w':=by
 have b1:Below w.heap.size w (w.alloc (.cells #[.int .i64 5,.int .i64 k,.int .i64 v,.int .i64 n] 79 (0,0))):=(Below.refl _ _).alloc zM _;have kA:=zI w (.cells #[.int .i64 5,.int .i64 k,.int .i64 v,.int .i64 n] 79 (0,0));have hc:=zAv ⟨5,k,v,n⟩ _ (hG.under b1);generalize Sk.opEff ⟨5,k,v,n⟩=R at hc ⊢;clear hG;go_enter Tryz.func153,Tryz.ntmps153;go_upto_region 1 with fail;generalize w.alloc (.cells #[.int .i64 5,.int .i64 k,.int .i64 v,.int .i64 n] 79 (0,0))=w1 at b1 kA hc ⊢;have a0:=coQ kA 0;have a1:=coQ kA 1;have a2:=coQ kA 2;have a3:=coQ kA 3;simp at a0 a1 a2 a3;have yA:=zG kA;go_wp2_with fail;refine hc.mono ?_;rintro e w2 ⟨u,rfl,h2,b2⟩;have HB:=zE (h2.wide (ok':=fun i=>w.heap.size<=i) fun i hi _=>Nat.le_trans b1.size hi);clear h2 hc;go_wp2
 go_ret2
 exact ⟨u,rfl,HB.out,b1.trans (b2.mono b1.size)⟩
theorem effect6_any (b:Nat) (k v n cells:Int) (sv:Value) (w:World) (hG:GlobK w):Calls Tryz.prog 153 #[.pointer (some ⟨b,0,none⟩),.agg #[.int .i64 6,.int .i64 k,.int .i64 v,.int .i64 n],.int .i64 cells,sv] w fun r w'=>∃ u,r=.returned (.tuple #[u,.int .u8 (Sk.opEff ⟨6,k,v,n⟩).2])/\HBy (fun i=>w.heap.size<=i) w' u (Sk.opEff ⟨6,k,v,n⟩).1/\Below w.heap.size w w':=by
 have b1:Below w.heap.size w (w.alloc (.cells #[.int .i64 6,.int .i64 k,.int .i64 v,.int .i64 n] 79 (0,0))):=(Below.refl _ _).alloc zM _;have kA:=zI w (.cells #[.int .i64 6,.int .i64 k,.int .i64 v,.int .i64 n] 79 (0,0));have hc:=zAv ⟨6,k,v,n⟩ _ (hG.under b1);generalize Sk.opEff ⟨6,k,v,n⟩=R at hc ⊢;clear hG;go_enter Tryz.func153,Tryz.ntmps153;go_upto_region 1 with fail;generalize w.alloc (.cells #[.int .i64 6,.int .i64 k,.int .i64 v,.int .i64 n] 79 (0,0))=w1 at b1 kA hc ⊢;have a0:=coQ kA 0;have a1:=coQ kA 1;have a2:=coQ kA 2;have a3:=coQ kA 3;simp at a0 a1 a2 a3;have yA:=zG kA;go_wp2_with fail;refine hc.mono ?_;rintro e w2 ⟨u,rfl,h2,b2⟩;have HB:=zE (h2.wide (ok':=fun i=>w.heap.size<=i) fun i hi _=>Nat.le_trans b1.size hi);clear h2 hc;go_wp2
 go_ret2
 exact ⟨u,rfl,HB.out,b1.trans (b2.mono b1.size)⟩
theorem effect7_any {ok:Nat->Prop} {w:World} (b:Nat) (k v n cells:Int) {sv:Value} {st:List Int} (hs:HBy ok w sv st):Calls Tryz.prog 153 #[.pointer (some ⟨b,0,none⟩),.agg #[.int .i64 7,.int .i64 k,.int .i64 v,.int .i64 n],.int .i64 cells,sv] w fun r w'=>∃ u,r=.returned (.tuple #[u,.int .u8 (Sk.choice st).2])/\HBy (fun i=>w.heap.size<=i) w' u (Sk.choice st).1/\Below w.heap.size w w':=by
 have b1:Below w.heap.size w (w.alloc (.cells #[.int .i64 7,.int .i64 k,.int .i64 v,.int .i64 n] 79 (0,0))):=(Below.refl _ _).alloc zM _;have kA:=zI w (.cells #[.int .i64 7,.int .i64 k,.int .i64 v,.int .i64 n] 79 (0,0));have hc:=vJ (hs.under b1);generalize Sk.choice st=R at hc ⊢;clear hs;go_enter Tryz.func153,Tryz.ntmps153;go_upto_region 1 with fail;generalize w.alloc (.cells #[.int .i64 7,.int .i64 k,.int .i64 v,.int .i64 n] 79 (0,0))=w1 at b1 kA hc ⊢;have a0:=coQ kA 0;have a1:=coQ kA 1;have a2:=coQ kA 2;have a3:=coQ kA 3;simp at a0 a1 a2 a3;have yA:=zG kA;go_wp2_with fail;refine hc.mono ?_;rintro e w2 ⟨u,rfl,h2,b2⟩;have HB:=zE (h2.wide (ok':=fun i=>w.heap.size<=i) fun i hi _=>Nat.le_trans b1.size hi);clear h2 hc;go_wp2
 go_ret2
 exact ⟨u,rfl,HB.out,b1.trans (b2.mono b1.size)⟩
theorem effect4_any (b:Nat) (k v n cells:Int) (sv:Value) (w:World):Calls Tryz.prog 153 #[.pointer (some ⟨b,0,none⟩),.agg #[.int .i64 4,.int .i64 k,.int .i64 v,.int .i64 n],.int .i64 cells,sv] w fun r w'=>r=.returned (.tuple #[.slice none 0 0,.int .u8 (Sk.when (decide (-1000000<=n)&&decide (n<=1000000)) 105)])/\Below w.heap.size w w':=by
 have b1:Below w.heap.size w (w.alloc (.cells #[.int .i64 4,.int .i64 k,.int .i64 v,.int .i64 n] 79 (0,0))):=(Below.refl _ _).alloc zM _;have kA:=zI w (.cells #[.int .i64 4,.int .i64 k,.int .i64 v,.int .i64 n] 79 (0,0));have hc:=fun q=>xE q 105;go_enter Tryz.func153,Tryz.ntmps153;go_upto_region 1 with fail;generalize w.alloc (.cells #[.int .i64 4,.int .i64 k,.int .i64 v,.int .i64 n] 79 (0,0))=w1 at b1 kA ⊢;have a0:=coQ kA 0;have a1:=coQ kA 1;have a2:=coQ kA 2;have a3:=coQ kA 3;simp at a0 a1 a2 a3;have yA:=zG kA;go_wp2_with fail
 all_goals (
  refine (hc _ _).mono ?_;rintro e w2 ⟨rfl,b2⟩;go_wp2
  go_ret2
  refine ⟨?_,b1.trans (b2.mono b1.size)⟩;refine congrArg (fun q=>Ending.returned (Value.tuple #[.slice none 0 0,.int .u8 (Sk.when q 105)])) ?_;clear hc b1 b2 kA a0 a1 a2 a3 yA
  apply Bool.eq_iff_iff.2
  simp;omega)
theorem effect0_any (b:Nat) (op k v n cells:Int) (sv:Value) (w:World) (h:op<1\/8<op):Calls Tryz.prog 153 #[.pointer (some ⟨b,0,none⟩),.agg #[.int .i64 op,.int .i64 k,.int .i64 v,.int .i64 n],.int .i64 cells,sv] w fun r w'=>r=.returned (.tuple #[.slice none 0 0,.int .u8 0])/\Below w.heap.size w w':=by
 have b1:Below w.heap.size w (w.alloc (.cells #[.int .i64 op,.int .i64 k,.int .i64 v,.int .i64 n] 79 (0,0))):=(Below.refl _ _).alloc zM _;have kA:=zI w (.cells #[.int .i64 op,.int .i64 k,.int .i64 v,.int .i64 n] 79 (0,0));have e1:(op==1)=false:=(by simp;omega);have e2:(op==2)=false:=(by simp;omega);have e3:(op==3)=false:=(by simp;omega);have e4:(op==4)=false:=(by simp;omega);have e5:(op==5)=false:=(by simp;omega);have e6:(op==6)=false:=(by simp;omega);have e7:(op==7)=false:=(by simp;omega);have e8:(op==8)=false:=(by simp;omega);clear h;go_enter Tryz.func153,Tryz.ntmps153;go_upto_region 1 with fail;generalize w.alloc (.cells #[.int .i64 op,.int .i64 k,.int .i64 v,.int .i64 n] 79 (0,0))=w1 at b1 kA ⊢;have a0:=coQ kA 0;have a1:=coQ kA 1;have a2:=coQ kA 2;have a3:=coQ kA 3;simp at a0 a1 a2 a3;have yA:=zG kA;go_wp2
 go_ret2
 exact ⟨rfl,b1⟩
theorem effect2_any {ok:Nat->Prop} {w:World} {b:Nat} {x:LkV} {V:List Sk.Vr} (hk:LkAt w b x) (hV:HVars ok w (.slice x.aV x.nV x.cV) V) (k n cells:Int) (i:Nat) (hi:i<V.length) (hc:0<=cells/\cells<=300) (hb:0<=(V[i]).n/\(V[i]).n<=300) (sv:Value) :
  Calls Tryz.prog 153 #[.pointer (some ⟨b,0,none⟩),.agg #[.int .i64 2,.int .i64 k,.int .i64 (i:Int),.int .i64 n],.int .i64 cells,sv] w fun r w'=>r=.returned (.tuple #[.slice none 0 0,.int .u8 (Sk.madeVar ⟨2,k,i,n⟩ V[i] cells)])/\Below w.heap.size w w':=by
 obtain ⟨ao,cap,hv,q1,q2,hat⟩:=hV.at;injection hv with v1 v2 v3;obtain ⟨bl,ol,hao,yl,x0,y0⟩:=hat i hi;rw [hao] at v1;unfold LkAt at hk;have hk2:=coQ hk 0;simp only [gT,gZ] at hk2;rw [v1,v2,v3] at hk2;have yb:=zG hk;unfold maxLen at q2;have b1:Below w.heap.size w (w.alloc (.cells #[.int .i64 2,.int .i64 k,.int .i64 (i:Int),.int .i64 n] 79 (0,0))):=(Below.refl _ _).alloc zM _;have kA:=zI w (.cells #[.int .i64 2,.int .i64 k,.int .i64 (i:Int),.int .i64 n] 79 (0,0));have k0:=(b1.cell (p:=⟨b,0,none⟩) yb).trans hk2;have X0:=(b1.cell (p:=⟨bl,ol+i*2,none⟩) yl).trans x0;have Y0:=(b1.cell (p:=⟨bl,ol+i*2+1,none⟩) yl).trans y0;have yb1:b<(w.alloc (.cells #[.int .i64 2,.int .i64 k,.int .i64 (i:Int),.int .i64 n] 79 (0,0))).heap.size:=Nat.lt_of_lt_of_le yb b1.size;have yl1:bl<(w.alloc (.cells #[.int .i64 2,.int .i64 k,.int .i64 (i:Int),.int .i64 n] 79 (0,0))).heap.size:=Nat.lt_of_lt_of_le yl b1.size;clear hk hk2 hV hat v1 v2 v3 hao x0 y0 yb yl;obtain ⟨L,hL⟩:=nmQ (V.length);generalize V[i]=va at X0 Y0 hb ⊢;rw [<-hL] at k0 q1 hi;clear hL;have hct:=xZ ⟨2,k,i,n⟩ va cells hc.1 hc.2 hb.1 hb.2;generalize Sk.madeVar ⟨2,k,i,n⟩ va cells=R at hct ⊢;clear hc hb;go_enter Tryz.func153,Tryz.ntmps153;go_upto_region 1 with fail;generalize w.alloc (.cells #[.int .i64 2,.int .i64 k,.int .i64 (i:Int),.int .i64 n] 79 (0,0))=w1 at b1 kA k0 X0 Y0 yb1 yl1 ⊢;have a0:=coQ kA 0;have a1:=coQ kA 1;have a2:=coQ kA 2;have a3:=coQ kA 3;simp at a0 a1 a2 a3;have yA:=zG kA;go_upto_region 6 with fail;refine zK (fun w'=>Below w1.heap.size w1 w') (fun _=>false) (by kernel_rfl) ?_;have hH0:Below w1.heap.size w1 w1.drew:=(Below.refl _ _).drew;generalize w1.drew=wd0 at hH0 ⊢;refine' tkQ 0 20 hH0 ?hyv ?o1
 case hyv=>
  intro wz hSw;have zc0:=(hSw.cell (p:=⟨w.heap.size,0,none⟩) yA).trans a0;have zc1:=(hSw.cell (p:=⟨w.heap.size,1,none⟩) yA).trans a1;have zc2:=(hSw.cell (p:=⟨w.heap.size,2,none⟩) yA).trans a2;have zc3:=(hSw.cell (p:=⟨w.heap.size,3,none⟩) yA).trans a3;have zc4:=(hSw.cell (p:=⟨b,0,none⟩) yb1).trans k0;have zc5:=(hSw.cell (p:=⟨bl,ol+i*2,none⟩) yl1).trans X0;have zc6:=(hSw.cell (p:=⟨bl,ol+i*2+1,none⟩) yl1).trans Y0;go_simp
  try rfl
 try simp only [Act.put,sT,sZ,sS]
 refine' tkR 1 21 hH0 ?o2
 refine' tkR 2 22 hH0 ?o3
 refine' tkR 3 23 hH0 ?o4
 refine' tkR 4 24 hH0 ?o5
 refine' tkQ 5 25 hH0 ?hyv ?o6
 case hyv=>
  intro wz hSw;have zc0:=(hSw.cell (p:=⟨w.heap.size,0,none⟩) yA).trans a0;have zc1:=(hSw.cell (p:=⟨w.heap.size,1,none⟩) yA).trans a1;have zc2:=(hSw.cell (p:=⟨w.heap.size,2,none⟩) yA).trans a2;have zc3:=(hSw.cell (p:=⟨w.heap.size,3,none⟩) yA).trans a3;have zc4:=(hSw.cell (p:=⟨b,0,none⟩) yb1).trans k0;have zc5:=(hSw.cell (p:=⟨bl,ol+i*2,none⟩) yl1).trans X0;have zc6:=(hSw.cell (p:=⟨bl,ol+i*2+1,none⟩) yl1).trans Y0;go_simp
  try rfl
 try simp only [Act.put,sT,sZ,sS]
 refine' tkR 6 26 hH0 ?o7
 refine' tkQ 7 27 hH0 ?hyv ?o8
 case hyv=>
  intro wz hSw;have zc0:=(hSw.cell (p:=⟨w.heap.size,0,none⟩) yA).trans a0;have zc1:=(hSw.cell (p:=⟨w.heap.size,1,none⟩) yA).trans a1;have zc2:=(hSw.cell (p:=⟨w.heap.size,2,none⟩) yA).trans a2;have zc3:=(hSw.cell (p:=⟨w.heap.size,3,none⟩) yA).trans a3;have zc4:=(hSw.cell (p:=⟨b,0,none⟩) yb1).trans k0;have zc5:=(hSw.cell (p:=⟨bl,ol+i*2,none⟩) yl1).trans X0;have zc6:=(hSw.cell (p:=⟨bl,ol+i*2+1,none⟩) yl1).trans Y0;go_simp
  try rfl
 try simp only [Act.put,sT,sZ,sS]
 refine' tkR 8 28 hH0 ?o9
 refine' tkQ 9 29 hH0 ?hyv ?o10
 case hyv=>
  intro wz hSw;have zc0:=(hSw.cell (p:=⟨w.heap.size,0,none⟩) yA).trans a0;have zc1:=(hSw.cell (p:=⟨w.heap.size,1,none⟩) yA).trans a1;have zc2:=(hSw.cell (p:=⟨w.heap.size,2,none⟩) yA).trans a2;have zc3:=(hSw.cell (p:=⟨w.heap.size,3,none⟩) yA).trans a3;have zc4:=(hSw.cell (p:=⟨b,0,none⟩) yb1).trans k0;have zc5:=(hSw.cell (p:=⟨bl,ol+i*2,none⟩) yl1).trans X0;have zc6:=(hSw.cell (p:=⟨bl,ol+i*2+1,none⟩) yl1).trans Y0;go_simp
  try rfl
 try simp only [Act.put,sT,sZ,sS]
 refine' tkR 10 30 hH0 ?o11
 refine tnQ 11 (fun K hK=>?_);go_simp;refine (hct wd0).mono ?_;rintro eq wd1 ⟨rfl,bq1⟩;have hH1:Below w1.heap.size w1 wd1:=hH0.trans (bq1.mono hH0.size);refine hK.out _ _ (fun _=>hH1) ?_;clear hK K
 try simp only [Act.put,sT,sZ,sS]
 refine' tkR 12 8 hH1 ?o12
 refine' tkR 13 9 hH1 ?o13
 refine zH (by kernel_rfl) ?_ _;go_wp2
 go_ret2
 exact ⟨rfl,b1.trans (hH1.mono b1.size)⟩
theorem effect3_any {ok:Nat->Prop} {w:World} {b:Nat} {x:LkV} {V:List Sk.Vr} (hk:LkAt w b x) (hV:HVars ok w (.slice x.aV x.nV x.cV) V) (k n cells:Int) (i:Nat) (hi:i<V.length) (hc:0<=cells/\cells<=300) (hb:0<=(V[i]).n/\(V[i]).n<=300) (sv:Value) :
  Calls Tryz.prog 153 #[.pointer (some ⟨b,0,none⟩),.agg #[.int .i64 3,.int .i64 k,.int .i64 (i:Int),.int .i64 n],.int .i64 cells,sv] w fun r w'=>r=.returned (.tuple #[.slice none 0 0,.int .u8 (Sk.madeVar ⟨3,k,i,n⟩ V[i] cells)])/\Below w.heap.size w w':=by
 obtain ⟨ao,cap,hv,q1,q2,hat⟩:=hV.at;injection hv with v1 v2 v3;obtain ⟨bl,ol,hao,yl,x0,y0⟩:=hat i hi;rw [hao] at v1;unfold LkAt at hk;have hk2:=coQ hk 0;simp only [gT,gZ] at hk2;rw [v1,v2,v3] at hk2;have yb:=zG hk;unfold maxLen at q2;have b1:Below w.heap.size w (w.alloc (.cells #[.int .i64 3,.int .i64 k,.int .i64 (i:Int),.int .i64 n] 79 (0,0))):=(Below.refl _ _).alloc zM _;have kA:=zI w (.cells #[.int .i64 3,.int .i64 k,.int .i64 (i:Int),.int .i64 n] 79 (0,0));have k0:=(b1.cell (p:=⟨b,0,none⟩) yb).trans hk2;have X0:=(b1.cell (p:=⟨bl,ol+i*2,none⟩) yl).trans x0;have Y0:=(b1.cell (p:=⟨bl,ol+i*2+1,none⟩) yl).trans y0;have yb1:b<(w.alloc (.cells #[.int .i64 3,.int .i64 k,.int .i64 (i:Int),.int .i64 n] 79 (0,0))).heap.size:=Nat.lt_of_lt_of_le yb b1.size;have yl1:bl<(w.alloc (.cells #[.int .i64 3,.int .i64 k,.int .i64 (i:Int),.int .i64 n] 79 (0,0))).heap.size:=Nat.lt_of_lt_of_le yl b1.size;clear hk hk2 hV hat v1 v2 v3 hao x0 y0 yb yl;obtain ⟨L,hL⟩:=nmQ (V.length);generalize V[i]=va at X0 Y0 hb ⊢;rw [<-hL] at k0 q1 hi;clear hL;have hct:=xZ ⟨3,k,i,n⟩ va cells hc.1 hc.2 hb.1 hb.2;generalize Sk.madeVar ⟨3,k,i,n⟩ va cells=R at hct ⊢;clear hc hb;go_enter Tryz.func153,Tryz.ntmps153;go_upto_region 1 with fail;generalize w.alloc (.cells #[.int .i64 3,.int .i64 k,.int .i64 (i:Int),.int .i64 n] 79 (0,0))=w1 at b1 kA k0 X0 Y0 yb1 yl1 ⊢;have a0:=coQ kA 0;have a1:=coQ kA 1;have a2:=coQ kA 2;have a3:=coQ kA 3;simp at a0 a1 a2 a3;have yA:=zG kA;go_upto_region 6 with fail;refine zK (fun w'=>Below w1.heap.size w1 w') (fun _=>false) (by kernel_rfl) ?_;have hH0:Below w1.heap.size w1 w1.drew:=(Below.refl _ _).drew;generalize w1.drew=wd0 at hH0 ⊢;refine' tkQ 0 20 hH0 ?hyv ?o14
 case hyv=>
  intro wz hSw;have zc0:=(hSw.cell (p:=⟨w.heap.size,0,none⟩) yA).trans a0;have zc1:=(hSw.cell (p:=⟨w.heap.size,1,none⟩) yA).trans a1;have zc2:=(hSw.cell (p:=⟨w.heap.size,2,none⟩) yA).trans a2;have zc3:=(hSw.cell (p:=⟨w.heap.size,3,none⟩) yA).trans a3;have zc4:=(hSw.cell (p:=⟨b,0,none⟩) yb1).trans k0;have zc5:=(hSw.cell (p:=⟨bl,ol+i*2,none⟩) yl1).trans X0;have zc6:=(hSw.cell (p:=⟨bl,ol+i*2+1,none⟩) yl1).trans Y0;go_simp
  try rfl
 try simp only [Act.put,sT,sZ,sS]
 refine' tkR 1 21 hH0 ?o15
 refine' tkR 2 22 hH0 ?o16
 refine' tkR 3 23 hH0 ?o17
 refine' tkR 4 24 hH0 ?o18
 refine' tkQ 5 25 hH0 ?hyv ?o19
 case hyv=>
  intro wz hSw;have zc0:=(hSw.cell (p:=⟨w.heap.size,0,none⟩) yA).trans a0;have zc1:=(hSw.cell (p:=⟨w.heap.size,1,none⟩) yA).trans a1;have zc2:=(hSw.cell (p:=⟨w.heap.size,2,none⟩) yA).trans a2;have zc3:=(hSw.cell (p:=⟨w.heap.size,3,none⟩) yA).trans a3;have zc4:=(hSw.cell (p:=⟨b,0,none⟩) yb1).trans k0;have zc5:=(hSw.cell (p:=⟨bl,ol+i*2,none⟩) yl1).trans X0;have zc6:=(hSw.cell (p:=⟨bl,ol+i*2+1,none⟩) yl1).trans Y0;go_simp
  try rfl
 try simp only [Act.put,sT,sZ,sS]
 refine' tkR 6 26 hH0 ?o20
 refine' tkQ 7 27 hH0 ?hyv ?o21
 case hyv=>
  intro wz hSw;have zc0:=(hSw.cell (p:=⟨w.heap.size,0,none⟩) yA).trans a0;have zc1:=(hSw.cell (p:=⟨w.heap.size,1,none⟩) yA).trans a1;have zc2:=(hSw.cell (p:=⟨w.heap.size,2,none⟩) yA).trans a2;have zc3:=(hSw.cell (p:=⟨w.heap.size,3,none⟩) yA).trans a3;have zc4:=(hSw.cell (p:=⟨b,0,none⟩) yb1).trans k0;have zc5:=(hSw.cell (p:=⟨bl,ol+i*2,none⟩) yl1).trans X0;have zc6:=(hSw.cell (p:=⟨bl,ol+i*2+1,none⟩) yl1).trans Y0;go_simp
  try rfl
 try simp only [Act.put,sT,sZ,sS]
 refine' tkR 8 28 hH0 ?o22
 refine' tkQ 9 29 hH0 ?hyv ?o23
 case hyv=>
  intro wz hSw;have zc0:=(hSw.cell (p:=⟨w.heap.size,0,none⟩) yA).trans a0;have zc1:=(hSw.cell (p:=⟨w.heap.size,1,none⟩) yA).trans a1;have zc2:=(hSw.cell (p:=⟨w.heap.size,2,none⟩) yA).trans a2;have zc3:=(hSw.cell (p:=⟨w.heap.size,3,none⟩) yA).trans a3;have zc4:=(hSw.cell (p:=⟨b,0,none⟩) yb1).trans k0;have zc5:=(hSw.cell (p:=⟨bl,ol+i*2,none⟩) yl1).trans X0;have zc6:=(hSw.cell (p:=⟨bl,ol+i*2+1,none⟩) yl1).trans Y0;go_simp
  try rfl
 try simp only [Act.put,sT,sZ,sS]
 refine' tkR 10 30 hH0 ?o24
 refine tnQ 11 (fun K hK=>?_);go_simp;refine (hct wd0).mono ?_;rintro eq wd1 ⟨rfl,bq1⟩;have hH1:Below w1.heap.size w1 wd1:=hH0.trans (bq1.mono hH0.size);refine hK.out _ _ (fun _=>hH1) ?_;clear hK K
 try simp only [Act.put,sT,sZ,sS]
 refine' tkR 12 8 hH1 ?o25
 refine' tkR 13 9 hH1 ?o26
 refine zH (by kernel_rfl) ?_ _;go_wp2
 go_ret2
 exact ⟨rfl,b1.trans (hH1.mono b1.size)⟩
theorem effect8_any {ok:Nat->Prop} {w:World} {b:Nat} {x:LkV} {V:List Sk.Vr} (hk:LkAt w b x) (hV:HVars ok w (.slice x.aV x.nV x.cV) V) (k n cells:Int) (i:Nat) (hi:i<V.length) (hb:0<=(V[i]).n/\(V[i]).n<=300) (sv:Value) :
  Calls Tryz.prog 153 #[.pointer (some ⟨b,0,none⟩),.agg #[.int .i64 8,.int .i64 k,.int .i64 (i:Int),.int .i64 n],.int .i64 cells,sv] w fun r w'=>∃ u,r=.returned (.tuple #[u,.int .u8 (Sk.when (Sk.arr V[i]) (V[i]).elem)])/\HBy (fun i=>w.heap.size<=i) w' u [105,(V[i]).elem]/\Below w.heap.size w w':=by
 obtain ⟨ao,cap,hv,q1,q2,hat⟩:=hV.at;injection hv with v1 v2 v3;obtain ⟨bl,ol,hao,yl,x0,y0⟩:=hat i hi;rw [hao] at v1;unfold LkAt at hk;have hk2:=coQ hk 0;simp only [gT,gZ] at hk2;rw [v1,v2,v3] at hk2;have yb:=zG hk;unfold maxLen at q2;have b1:Below w.heap.size w (w.alloc (.cells #[.int .i64 8,.int .i64 k,.int .i64 (i:Int),.int .i64 n] 79 (0,0))):=(Below.refl _ _).alloc zM _;have kA:=zI w (.cells #[.int .i64 8,.int .i64 k,.int .i64 (i:Int),.int .i64 n] 79 (0,0));have k0:=(b1.cell (p:=⟨b,0,none⟩) yb).trans hk2;have X0:=(b1.cell (p:=⟨bl,ol+i*2,none⟩) yl).trans x0;have Y0:=(b1.cell (p:=⟨bl,ol+i*2+1,none⟩) yl).trans y0;have yb1:b<(w.alloc (.cells #[.int .i64 8,.int .i64 k,.int .i64 (i:Int),.int .i64 n] 79 (0,0))).heap.size:=Nat.lt_of_lt_of_le yb b1.size;have yl1:bl<(w.alloc (.cells #[.int .i64 8,.int .i64 k,.int .i64 (i:Int),.int .i64 n] 79 (0,0))).heap.size:=Nat.lt_of_lt_of_le yl b1.size;clear hk hk2 hV hat v1 v2 v3 hao x0 y0 yb yl;obtain ⟨L,hL⟩:=nmQ (V.length);generalize V[i]=va at X0 Y0 hb ⊢;rw [<-hL] at k0 q1 hi;clear hL;have hct:=xN va;generalize Sk.arr va=q at hct ⊢;have hcw:=xE q va.elem;generalize Sk.when q va.elem=R at hcw ⊢;clear hb;go_enter Tryz.func153,Tryz.ntmps153;go_upto_region 1 with fail;generalize w.alloc (.cells #[.int .i64 8,.int .i64 k,.int .i64 (i:Int),.int .i64 n] 79 (0,0))=w1 at b1 kA k0 X0 Y0 yb1 yl1 ⊢;have a0:=coQ kA 0;have a1:=coQ kA 1;have a2:=coQ kA 2;have a3:=coQ kA 3;simp at a0 a1 a2 a3;have yA:=zG kA;go_upto_region 15 with fail;refine zK (fun w'=>Below w1.heap.size w1 w') (fun _=>false) (by kernel_rfl) ?_;have hH0:Below w1.heap.size w1 w1.drew:=(Below.refl _ _).drew;generalize w1.drew=wd0 at hH0 ⊢;refine' tkR 0 58 hH0 ?o27
 refine' tkR 1 59 hH0 ?o28
 refine' tkR 2 60 hH0 ?o29
 refine' tkR 3 61 hH0 ?o30
 refine' tkQ 4 62 hH0 ?hyv ?o31
 case hyv=>
  intro wz hSw;have zc0:=(hSw.cell (p:=⟨w.heap.size,0,none⟩) yA).trans a0;have zc1:=(hSw.cell (p:=⟨w.heap.size,1,none⟩) yA).trans a1;have zc2:=(hSw.cell (p:=⟨w.heap.size,2,none⟩) yA).trans a2;have zc3:=(hSw.cell (p:=⟨w.heap.size,3,none⟩) yA).trans a3;have zc4:=(hSw.cell (p:=⟨b,0,none⟩) yb1).trans k0;have zc5:=(hSw.cell (p:=⟨bl,ol+i*2,none⟩) yl1).trans X0;have zc6:=(hSw.cell (p:=⟨bl,ol+i*2+1,none⟩) yl1).trans Y0;go_simp
  try rfl
 try simp only [Act.put,sT,sZ,sS]
 refine' tkR 5 63 hH0 ?o32
 refine' tkQ 6 64 hH0 ?hyv ?o33
 case hyv=>
  intro wz hSw;have zc0:=(hSw.cell (p:=⟨w.heap.size,0,none⟩) yA).trans a0;have zc1:=(hSw.cell (p:=⟨w.heap.size,1,none⟩) yA).trans a1;have zc2:=(hSw.cell (p:=⟨w.heap.size,2,none⟩) yA).trans a2;have zc3:=(hSw.cell (p:=⟨w.heap.size,3,none⟩) yA).trans a3;have zc4:=(hSw.cell (p:=⟨b,0,none⟩) yb1).trans k0;have zc5:=(hSw.cell (p:=⟨bl,ol+i*2,none⟩) yl1).trans X0;have zc6:=(hSw.cell (p:=⟨bl,ol+i*2+1,none⟩) yl1).trans Y0;go_simp
  try rfl
 try simp only [Act.put,sT,sZ,sS]
 refine' tkR 7 65 hH0 ?o34
 refine' tkQ 8 66 hH0 ?hyv ?o35
 case hyv=>
  intro wz hSw;have zc0:=(hSw.cell (p:=⟨w.heap.size,0,none⟩) yA).trans a0;have zc1:=(hSw.cell (p:=⟨w.heap.size,1,none⟩) yA).trans a1;have zc2:=(hSw.cell (p:=⟨w.heap.size,2,none⟩) yA).trans a2;have zc3:=(hSw.cell (p:=⟨w.heap.size,3,none⟩) yA).trans a3;have zc4:=(hSw.cell (p:=⟨b,0,none⟩) yb1).trans k0;have zc5:=(hSw.cell (p:=⟨bl,ol+i*2,none⟩) yl1).trans X0;have zc6:=(hSw.cell (p:=⟨bl,ol+i*2+1,none⟩) yl1).trans Y0;go_simp
  try rfl
 try simp only [Act.put,sT,sZ,sS]
 refine tnQ 9 (fun K hK=>?_);go_simp;have hH1:Below w1.heap.size w1 (wd0.alloc (.cells #[.int .u8 0,.int .i64 0] 55 (0,0))):=hH0.alloc hH0.size _;have kn1:=zI wd0 (.cells #[.int .u8 0,.int .i64 0] 55 (0,0));have zn1:=hH0.size;refine hK.out _ _ (fun _=>hH1) ?_;clear hK K
 try simp only [Act.put,sT,sZ,sS]
 have sz1:(wd0.alloc (.cells #[.int .u8 0,.int .i64 0] 55 (0,0))).heap.size=wd0.heap.size+1:=(by simp);generalize wd0.alloc (.cells #[.int .u8 0,.int .i64 0] 55 (0,0))=wd1 at hH1 kn1 sz1 ⊢;refine tnQ 10 (fun K hK=>?_);have st0:=coQ kn1 0;have st1:=coQ kn1 1;have fr0:=foQ kn1 0;have fr1:=foQ kn1 1;simp at st0 st1;have KR:=zJ (zJ kn1 0 (.int .u8 va.elem)) 1 (.int .i64 va.n);have hH2:=(hH1.setCell (p:=⟨wd0.heap.size,0,none⟩) hH0.size (.int .u8 va.elem)).setCell (p:=⟨wd0.heap.size,1,none⟩) hH0.size (.int .i64 va.n);go_simp;refine hK.out _ _ (fun _=>hH2) ?_;clear hK K
 try simp only [Act.put,sT,sZ,sS]
 clear st0 st1 fr0 fr1;generalize (wd1.setCell ⟨wd0.heap.size,0,none⟩ (.int .u8 va.elem)).setCell ⟨wd0.heap.size,1,none⟩ (.int .i64 va.n)=wd2 at hH2 KR ⊢;simp at KR;refine zH (by kernel_rfl) ?_ _;have B2:=b1.trans (hH2.mono b1.size);have hw1:w.heap.size<=wd0.heap.size:=Nat.le_trans b1.size hH0.size;generalize wd0.heap.size=gb at KR hw1 ⊢;generalize wd2=w5 at B2 KR ⊢;clear kA a0 a1 a2 a3 k0 X0 Y0 yA yb1 yl1 hH0;go_upto_region 16 with fail;have g0:=coQ KR 0;have g1:=coQ KR 1;simp at g0 g1;have yg:=zG KR;refine zK (fun w'=>Below w5.heap.size w5 w') (fun _=>false) (by kernel_rfl) ?_;have hH0:Below w5.heap.size w5 w5.drew:=(Below.refl _ _).drew;generalize w5.drew=wd0 at hH0 ⊢;refine' tkR 0 67 hH0 ?o36
 refine' tkQ 1 68 hH0 ?hyv ?o37
 case hyv=>
  intro wz hSw;have zc0:=(hSw.cell (p:=⟨gb,0,none⟩) yg).trans g0;have zc1:=(hSw.cell (p:=⟨gb,1,none⟩) yg).trans g1;go_simp
  try rfl
 try simp only [Act.put,sT,sZ,sS]
 refine' tkQ 3 70 hH0 ?hyv ?o38
 case hyv=>
  intro wz hSw;have zc0:=(hSw.cell (p:=⟨gb,0,none⟩) yg).trans g0;have zc1:=(hSw.cell (p:=⟨gb,1,none⟩) yg).trans g1;go_simp
  try rfl
 try simp only [Act.put,sT,sZ,sS]
 refine' tkR 5 72 hH0 ?o39
 refine' tkQ 6 73 hH0 ?hyv ?o40
 case hyv=>
  intro wz hSw;have zc0:=(hSw.cell (p:=⟨gb,0,none⟩) yg).trans g0;have zc1:=(hSw.cell (p:=⟨gb,1,none⟩) yg).trans g1;go_simp
  try rfl
 try simp only [Act.put,sT,sZ,sS]
 refine xF (i:=2) (j:=4) rfl rfl (by kernel_rfl) (by rfl) (by rfl) (fun K hK=>?_) (fun K hK=>?_)
 case _=>
  go_simp;have hH1:Below w5.heap.size w5 (wd0.alloc (.cells #[.int .u8 105,.int .u8 va.elem] 5 (0,0))):=hH0.alloc hH0.size _;have kn1:=zI wd0 (.cells #[.int .u8 105,.int .u8 va.elem] 5 (0,0));have zn1:=hH0.size;refine hK.out _ _ (fun _=>hH1) ?_;clear hK K
  try simp only [Act.put,sT,sZ,sS]
  have sz1:(wd0.alloc (.cells #[.int .u8 105,.int .u8 va.elem] 5 (0,0))).heap.size=wd0.heap.size+1:=(by simp);generalize wd0.alloc (.cells #[.int .u8 105,.int .u8 va.elem] 5 (0,0))=wd1 at hH1 kn1 sz1 ⊢;refine tnQ 4 (fun K hK=>?_);go_simp;refine (hct wd1).mono ?_;rintro eq wd2 ⟨rfl,bq2⟩;have kn1_2:=(bq2.block _ (zG kn1)).trans kn1;have hH2:Below w5.heap.size w5 wd2:=hH1.trans (bq2.mono hH1.size);refine hK.out _ _ (fun _=>hH2) ?_;clear hK K
  try simp only [Act.put,sT,sZ,sS]
  refine tnQ 7 (fun K hK=>?_);go_simp;refine (hcw wd2).mono ?_;rintro eq wd3 ⟨rfl,bq3⟩;have kn1_3:=(bq3.block _ (zG kn1_2)).trans kn1_2;have hH3:Below w5.heap.size w5 wd3:=hH2.trans (bq3.mono hH2.size);refine hK.out _ _ (fun _=>hH3) ?_;clear hK K
  try simp only [Act.put,sT,sZ,sS]
  refine' tkR 8 8 hH3 ?o41
  refine' tkR 9 9 hH3 ?o42
  refine zH (by kernel_rfl) ?_ _;have HBH:=zE (HBy.blk kn1_3 [105,va.elem] rfl (by simp) (Nat.le_trans B2.size zn1));go_wp2
  go_ret2
  exact ⟨_,rfl,HBH.out,B2.trans (hH3.mono B2.size)⟩
 case _=>
  go_simp;refine (hct wd0).mono ?_;rintro eq wd1 ⟨rfl,bq1⟩;have hH1:Below w5.heap.size w5 wd1:=hH0.trans (bq1.mono hH0.size);refine hK.out _ _ (fun _=>hH1) ?_;clear hK K
  try simp only [Act.put,sT,sZ,sS]
  refine xF (i:=2) (j:=7) rfl rfl (by kernel_rfl) (by rfl) (by rfl) (fun K hK=>?_) (fun K hK=>?_)
  case _=>
   go_simp;have hH2:Below w5.heap.size w5 (wd1.alloc (.cells #[.int .u8 105,.int .u8 va.elem] 5 (0,0))):=hH1.alloc hH1.size _;have kn2:=zI wd1 (.cells #[.int .u8 105,.int .u8 va.elem] 5 (0,0));have zn2:=hH1.size;refine hK.out _ _ (fun _=>hH2) ?_;clear hK K
   try simp only [Act.put,sT,sZ,sS]
   have sz2:(wd1.alloc (.cells #[.int .u8 105,.int .u8 va.elem] 5 (0,0))).heap.size=wd1.heap.size+1:=(by simp);generalize wd1.alloc (.cells #[.int .u8 105,.int .u8 va.elem] 5 (0,0))=wd2 at hH2 kn2 sz2 ⊢;refine tnQ 7 (fun K hK=>?_);go_simp;refine (hcw wd2).mono ?_;rintro eq wd3 ⟨rfl,bq3⟩;have kn2_3:=(bq3.block _ (zG kn2)).trans kn2;have hH3:Below w5.heap.size w5 wd3:=hH2.trans (bq3.mono hH2.size);refine hK.out _ _ (fun _=>hH3) ?_;clear hK K
   try simp only [Act.put,sT,sZ,sS]
   refine' tkR 8 8 hH3 ?o43
   refine' tkR 9 9 hH3 ?o44
   refine zH (by kernel_rfl) ?_ _;have HBH:=zE (HBy.blk kn2_3 [105,va.elem] rfl (by simp) (Nat.le_trans B2.size zn2));go_wp2
   go_ret2
   exact ⟨_,rfl,HBH.out,B2.trans (hH3.mono B2.size)⟩
  case _=>
   go_simp;refine (hcw wd1).mono ?_;rintro eq wd2 ⟨rfl,bq2⟩;have hH2:Below w5.heap.size w5 wd2:=hH1.trans (bq2.mono hH1.size);refine hK.out _ _ (fun _=>hH2) ?_;clear hK K
   try simp only [Act.put,sT,sZ,sS]
   refine tnQ 2 (fun K hK=>?_);go_simp;have hH3:Below w5.heap.size w5 (wd2.alloc (.cells #[.int .u8 105,.int .u8 va.elem] 5 (0,0))):=hH2.alloc hH2.size _;have kn3:=zI wd2 (.cells #[.int .u8 105,.int .u8 va.elem] 5 (0,0));have zn3:=hH2.size;refine hK.out _ _ (fun _=>hH3) ?_;clear hK K
   try simp only [Act.put,sT,sZ,sS]
   have sz3:(wd2.alloc (.cells #[.int .u8 105,.int .u8 va.elem] 5 (0,0))).heap.size=wd2.heap.size+1:=(by simp);generalize wd2.alloc (.cells #[.int .u8 105,.int .u8 va.elem] 5 (0,0))=wd3 at hH3 kn3 sz3 ⊢;refine' tkR 8 8 hH3 ?o45
   refine' tkR 9 9 hH3 ?o46
   refine zH (by kernel_rfl) ?_ _;have HBH:=zE (HBy.blk kn3 [105,va.elem] rfl (by simp) (Nat.le_trans B2.size zn3));go_wp2
   go_ret2
   exact ⟨_,rfl,HBH.out,B2.trans (hH3.mono B2.size)⟩
end Go.Proofs.YtegakbobaecdlaaGreatDoor
