import Derived.Test.YtegakbobaecdlaaGreatDoorL08
import Derived.WalkKit
import Derived.WalkSpells
import Derived.IntWalk
import Derived.Deep.Cut
import Derived.Deep.LoopGhost
import Derived.Lib.Hide
set_option linter.unusedVariables false
set_option linter.unusedSimpArgs false
set_option maxHeartbeats 64000000
set_option maxRecDepth 100000
namespace Go.Proofs.YtegakbobaecdlaaGreatDoor
open Go.RowKit Go.IntWalk
namespace Sk
def other (tk n:Int) (v:Vr):Bool := !same v ⟨tk,n⟩
end Sk
structure OtC (w:World) (bt bT:Nat) (tk:Int) (t:TRv) (bl ol na ca:Nat) (f:Sk.Vr):Prop where
 kt:w.heap[bt]?=some (.cells #[.int .u8 tk] 5 (0,0))
 kT:w.heap[bT]?=some (.cells #[.int .i64 t.op,.int .i64 t.k,.int .i64 t.out,.int .i64 t.n,.slice t.aA t.nA t.cA,.slice t.aE t.nE t.cE,.int .u8 t.o.elem,.int .i64 t.o.n,.slice (some ⟨bl,ol,none⟩) na ca] 149 (0,0))
 yl:bl<w.heap.size
 x0:w.cell? ⟨bl,ol,none⟩=some (.int .u8 f.elem)
 y0:w.cell? ⟨bl,ol+1,none⟩=some (.int .i64 f.n)
 na0:0<na
theorem OtC.under {w w':World} {bt bT:Nat} {tk:Int} {t:TRv} {bl ol na ca:Nat} {f:Sk.Vr} (h:OtC w bt bT tk t bl ol na ca f) (b:Below w.heap.size w w'):OtC w' bt bT tk t bl ol na ca f :=
 ⟨(b.block _ (zG h.kt)).trans h.kt,(b.block _ (zG h.kT)).trans h.kT,Nat.lt_of_lt_of_le h.yl b.size,(b.cell (p:=⟨bl,ol,none⟩) h.yl).trans h.x0,(b.cell (p:=⟨bl,ol+1,none⟩) h.yl).trans h.y0,h.na0⟩
theorem isOther_any {w:World} {bt bT:Nat} {tk:Int} {t:TRv} {bl ol na ca:Nat} {f:Sk.Vr} (h:OtC w bt bT tk t bl ol na ca f) (v:Sk.Vr) :
  Calls Tryz.prog 157 #[vv v,.pointer (some ⟨bt,0,none⟩),.pointer (some ⟨bT,0,none⟩)] w fun e w'=>e=.returned (.bool (Sk.other tk f.n v))/\Below w.heap.size w w':=by
 have b1:Below w.heap.size w (w.alloc (.cells #[.int .u8 v.elem,.int .i64 v.n] 55 (0,0))):=(Below.refl _ _).alloc zM _;have kV:=zI w (.cells #[.int .u8 v.elem,.int .i64 v.n] 55 (0,0));obtain ⟨kt,kT,yl,x0,y0,na0⟩:=h.under b1;obtain ⟨q2,hq2⟩:=nmQ (Sk.same v ⟨tk,f.n⟩);unfold Sk.other;rw [<-hq2];have HQ2:=zE hq2;clear hq2 h;go_enter Tryz.func157,Tryz.ntmps157;go_upto_region 1 with fail;generalize w.alloc (.cells #[.int .u8 v.elem,.int .i64 v.n] 55 (0,0))=w1 at b1 kV kt kT yl x0 y0 ⊢;have a0:=coQ kV 0;have a1:=coQ kV 1;simp at a0 a1;have yV:=zG kV;have s0:=coQ kt 0;simp at s0;have yt:=zG kt;have u0:=coQ kT 0;have u1:=coQ kT 1;have u2:=coQ kT 2;have u3:=coQ kT 3;have u4:=coQ kT 4;have u5:=coQ kT 5;have u6:=coQ kT 6;have u7:=coQ kT 7;have u8:=coQ kT 8;simp at u0 u1 u2 u3 u4 u5 u6 u7 u8;have yT:=zG kT;refine zK (fun w'=>Below w1.heap.size w1 w') (fun _=>false) (by kernel_rfl) ?_;have hH0:Below w1.heap.size w1 w1.drew:=(Below.refl _ _).drew;generalize w1.drew=wd0 at hH0 ⊢;refine' tkQ 0 5 hH0 ?hyv ?o1
 case hyv=>
  intro wz hSw;have zc0:=(hSw.cell (p:=⟨w.heap.size,0,none⟩) yV).trans a0;have zc1:=(hSw.cell (p:=⟨w.heap.size,1,none⟩) yV).trans a1;have zc2:=(hSw.cell (p:=⟨bt,0,none⟩) yt).trans s0;have zc3:=(hSw.cell (p:=⟨bT,0,none⟩) yT).trans u0;have zc4:=(hSw.cell (p:=⟨bT,1,none⟩) yT).trans u1;have zc5:=(hSw.cell (p:=⟨bT,2,none⟩) yT).trans u2;have zc6:=(hSw.cell (p:=⟨bT,3,none⟩) yT).trans u3;have zc7:=(hSw.cell (p:=⟨bT,4,none⟩) yT).trans u4;have zc8:=(hSw.cell (p:=⟨bT,5,none⟩) yT).trans u5;have zc9:=(hSw.cell (p:=⟨bT,6,none⟩) yT).trans u6;have zc10:=(hSw.cell (p:=⟨bT,7,none⟩) yT).trans u7;have zc11:=(hSw.cell (p:=⟨bT,8,none⟩) yT).trans u8;have zc12:=(hSw.cell (p:=⟨bl,ol,none⟩) yl).trans x0;have zc13:=(hSw.cell (p:=⟨bl,ol+1,none⟩) yl).trans y0;go_simp
  try rfl
 try simp only [Act.put,sT,sZ,sS]
 refine' tkQ 1 6 hH0 ?hyv ?o2
 case hyv=>
  intro wz hSw;have zc0:=(hSw.cell (p:=⟨w.heap.size,0,none⟩) yV).trans a0;have zc1:=(hSw.cell (p:=⟨w.heap.size,1,none⟩) yV).trans a1;have zc2:=(hSw.cell (p:=⟨bt,0,none⟩) yt).trans s0;have zc3:=(hSw.cell (p:=⟨bT,0,none⟩) yT).trans u0;have zc4:=(hSw.cell (p:=⟨bT,1,none⟩) yT).trans u1;have zc5:=(hSw.cell (p:=⟨bT,2,none⟩) yT).trans u2;have zc6:=(hSw.cell (p:=⟨bT,3,none⟩) yT).trans u3;have zc7:=(hSw.cell (p:=⟨bT,4,none⟩) yT).trans u4;have zc8:=(hSw.cell (p:=⟨bT,5,none⟩) yT).trans u5;have zc9:=(hSw.cell (p:=⟨bT,6,none⟩) yT).trans u6;have zc10:=(hSw.cell (p:=⟨bT,7,none⟩) yT).trans u7;have zc11:=(hSw.cell (p:=⟨bT,8,none⟩) yT).trans u8;have zc12:=(hSw.cell (p:=⟨bl,ol,none⟩) yl).trans x0;have zc13:=(hSw.cell (p:=⟨bl,ol+1,none⟩) yl).trans y0;go_simp
  try rfl
 try simp only [Act.put,sT,sZ,sS]
 refine' tkR 2 7 hH0 ?o3
 refine' tkQ 3 8 hH0 ?hyv ?o4
 case hyv=>
  intro wz hSw;have zc0:=(hSw.cell (p:=⟨w.heap.size,0,none⟩) yV).trans a0;have zc1:=(hSw.cell (p:=⟨w.heap.size,1,none⟩) yV).trans a1;have zc2:=(hSw.cell (p:=⟨bt,0,none⟩) yt).trans s0;have zc3:=(hSw.cell (p:=⟨bT,0,none⟩) yT).trans u0;have zc4:=(hSw.cell (p:=⟨bT,1,none⟩) yT).trans u1;have zc5:=(hSw.cell (p:=⟨bT,2,none⟩) yT).trans u2;have zc6:=(hSw.cell (p:=⟨bT,3,none⟩) yT).trans u3;have zc7:=(hSw.cell (p:=⟨bT,4,none⟩) yT).trans u4;have zc8:=(hSw.cell (p:=⟨bT,5,none⟩) yT).trans u5;have zc9:=(hSw.cell (p:=⟨bT,6,none⟩) yT).trans u6;have zc10:=(hSw.cell (p:=⟨bT,7,none⟩) yT).trans u7;have zc11:=(hSw.cell (p:=⟨bT,8,none⟩) yT).trans u8;have zc12:=(hSw.cell (p:=⟨bl,ol,none⟩) yl).trans x0;have zc13:=(hSw.cell (p:=⟨bl,ol+1,none⟩) yl).trans y0;go_simp
  try rfl
 try simp only [Act.put,sT,sZ,sS]
 refine' tkR 4 9 hH0 ?o5
 refine' tkR 5 10 hH0 ?o6
 refine' tkQ 6 11 hH0 ?hyv ?o7
 case hyv=>
  intro wz hSw;have zc0:=(hSw.cell (p:=⟨w.heap.size,0,none⟩) yV).trans a0;have zc1:=(hSw.cell (p:=⟨w.heap.size,1,none⟩) yV).trans a1;have zc2:=(hSw.cell (p:=⟨bt,0,none⟩) yt).trans s0;have zc3:=(hSw.cell (p:=⟨bT,0,none⟩) yT).trans u0;have zc4:=(hSw.cell (p:=⟨bT,1,none⟩) yT).trans u1;have zc5:=(hSw.cell (p:=⟨bT,2,none⟩) yT).trans u2;have zc6:=(hSw.cell (p:=⟨bT,3,none⟩) yT).trans u3;have zc7:=(hSw.cell (p:=⟨bT,4,none⟩) yT).trans u4;have zc8:=(hSw.cell (p:=⟨bT,5,none⟩) yT).trans u5;have zc9:=(hSw.cell (p:=⟨bT,6,none⟩) yT).trans u6;have zc10:=(hSw.cell (p:=⟨bT,7,none⟩) yT).trans u7;have zc11:=(hSw.cell (p:=⟨bT,8,none⟩) yT).trans u8;have zc12:=(hSw.cell (p:=⟨bl,ol,none⟩) yl).trans x0;have zc13:=(hSw.cell (p:=⟨bl,ol+1,none⟩) yl).trans y0;go_simp
  try rfl
 try simp only [Act.put,sT,sZ,sS]
 refine' tkR 7 12 hH0 ?o8
 refine' zO (i:=8) (oi:=⟨some 13,_,_,_,_,_⟩) (v:=.bool (!q2)) rfl (by kernel_rfl) (by kernel_rfl) (by kernel_rfl) (by kernel_rfl) (fun _ _ _ h=>h) hH0 (by rfl) ?hyv ?o9
 case hyv=>
  intro wz hSw;go_simp;rw [HQ2.out];unfold Sk.same;by_cases h1:v.elem=tk<;>by_cases h2:v.n=f.n<;>simp [h1,h2]
 try simp only [Act.put,sT,sZ,sS]
 refine' tkR 9 4 hH0 ?o10
 refine zH (by kernel_rfl) ?_ _;go_wp2;go_ret;exact ⟨rfl,b1.trans (hH0.mono b1.size)⟩
theorem anyO_none {l:List Sk.Vr} {tk n:Int} (h:∀ j (hj:j<l.length),Sk.other tk n l[j]=false):l.any (Sk.other tk n)=false:=by
 rw [List.any_eq_false];intro x hx;obtain ⟨j,hj,rfl⟩:=List.getElem_of_mem hx;rw [h j hj];simp
theorem zAZ {ok:Nat->Prop} {w:World} {bt bT:Nat} {tk:Int} {t:TRv} {bl ol na ca:Nat} {f:Sk.Vr} {v:Value} {l:List Sk.Vr} (hC:OtC w bt bT tk t bl ol na ca f) (hl:HVars ok w v l) :
  Calls Tryz.prog 166 #[v,.func (.func 157) #[] #[.pointer (some ⟨bt,0,none⟩),.pointer (some ⟨bT,0,none⟩)]] w fun r w'=>∃ c:Int,r=.returned (.int .i64 c)/\decide (0<=c)=l.any (Sk.other tk f.n)/\Below w.heap.size w w':=by
 obtain ⟨ao,cap,rfl,hc1,hc2,_⟩:=hl.at;unfold maxLen at hc2;have HL:=zE hl;have HC:=zE hC;clear hl hC;obtain ⟨n,hn⟩:=nmQ (l.length);rw [<-hn] at hc1 ⊢;have HN:=zE hn;clear hn;go_enter Tryz.func166,Tryz.ntmps166;go_wp2_with fail;go_loopg [8] n (fun k v wr=>∃ i,i<=n/\k=n-i/\v=.int .i64 (i:Nat)/\Hid (∀ j (h:j<l.length),j<i->Sk.other tk f.n l[j]=false)/\Below w.heap.size w wr)
 case atStart=>exact ⟨0,Nat.zero_le _,rfl,rfl,fun j _ h=>absurd h (Nat.not_lt_zero _),Below.refl _ _⟩
 case round=>
  obtain ⟨i,hi,rfl,rfl,H,hbr⟩:=hrel;by_cases hlt:i<n
  case neg=>
   have hin:i=n:=(by omega);subst hin;go_wp2;go_ret;refine ⟨-1,rfl,?_,hbr⟩;rw [anyO_none (fun j hj=>H.out j hj (by have:=HN.out;omega))];rfl
  case pos=>
   have hil:i<l.length:=(by have:=HN.out;omega);obtain ⟨ao',cap',eqs,_,_,hat2⟩:=(HL.out.under hbr).at;injection eqs with q1 q2 q3;subst q1;obtain ⟨b,o,rfl,hb,e0,e1⟩:=hat2 i hil;obtain ⟨y,hy⟩:=nmQ (l[i]);rw [<-hy] at e0 e1;have hc:=isOther_any (HC.out.under hbr) y;obtain ⟨q,hq⟩:=nmQ (Sk.other tk f.n y);rw [<-hq] at hc;have HQ:=zE hq;have HY:=zE hy;clear hat2 q2 q3 hq hy;go_wp2_with fail;refine hc.mono ?_;rintro e w4 ⟨rfl,b4⟩;clear hc;have BW:=hbr.trans (b4.mono hbr.size)
   cases q
   ·go_wp2_with fail
    go_roundg (n-(i+1))
    case measure=>omega
    case rel=>
     refine ⟨i+1,by omega,rfl,by go_num,fun j hj hji=>?_,BW⟩;by_cases e:j=i
     ·subst e
      rw [<-HY.out,<-HQ.out]
     ·exact H.out j hj (by omega)
   ·go_wp2
    go_ret;refine ⟨(i:Int),rfl,?_,BW⟩;have:l.any (Sk.other tk f.n)=true:=List.any_eq_true.2 ⟨l[i],List.getElem_mem hil,by rw [<-HY.out,<-HQ.out]⟩;rw [this];simp
theorem jA {ok:Nat->Prop} {w:World} {bt bT:Nat} {tk:Int} {t:TRv} {bl ol na ca:Nat} {f:Sk.Vr} {v:Value} {l:List Sk.Vr} (hC:OtC w bt bT tk t bl ol na ca f) (hl:HVars ok w v l) :
  Calls Tryz.prog 158 #[v,.func (.func 157) #[] #[.pointer (some ⟨bt,0,none⟩),.pointer (some ⟨bT,0,none⟩)]] w fun r w'=>r=.returned (.bool (l.any (Sk.other tk f.n)))/\Below w.heap.size w w':=by
 have hc:=zAZ hC hl;obtain ⟨ao,cap,rfl,hc1,hc2,_⟩:=hl.at;clear hl hC;go_enter Tryz.func158,Tryz.ntmps158;go_wp2_with fail;refine hc.mono ?_;rintro e w1 ⟨c,rfl,hd,b1⟩;go_wp2;go_ret;refine ⟨?_,b1⟩;rw [<-hd];by_cases h:0<=c
 ·simp [h]
 ·simp [h]
end Go.Proofs.YtegakbobaecdlaaGreatDoor
namespace Go.Proofs.YtegakbobaecdlaaGreatDoor
open Go.RowKit Go.IntWalk
namespace Sk
def operates (k:Int) (o:Vr) (a:List Vr):Bool:=decide ((Kd.opT k).2.2=(a.length:Int))&&(!(a.any (other (Kd.opT k).1 (a.headD (sc 0)).n))&&same o ⟨(Kd.opT k).2.1,(a.headD (sc 0)).n⟩)
end Sk
theorem jB {ok:Nat->Prop} (t:TRv) {aa:Option Addr} {na ca:Nat} (f:Sk.Vr) (r:List Sk.Vr) (w:World) (hG:GlobK w) (hl:HVars ok w (.slice aa na ca) (f :: r)) :
  Calls Tryz.prog 146 #[tv t aa na ca] w fun e w'=>e=.returned (.bool (Sk.operates t.k t.o (f :: r)))/\Below w.heap.size w w':=by
 obtain ⟨ao,cap,hv,hq1,hq2,hat0⟩:=hl.at;injection hv with v1 v2 v3;subst v1 v2 v3;obtain ⟨bl,ol,rfl,yl,x0,y0⟩:=hat0 0 (by simp);simp at x0 y0;unfold maxLen at hq2;obtain ⟨L,hL⟩:=nmQ (f :: r);obtain ⟨R,hR⟩:=nmQ (Sk.operates t.k t.o (f :: r));rw [<-hR];unfold Sk.operates at hR;rw [show ((f :: r).headD (Sk.sc 0)).n=f.n from rfl] at hR;rw [<-hL] at hl hq1 hR ⊢;have hL0:0<L.length:=(by rw [hL];simp);clear hL hat0;obtain ⟨na,hna⟩:=nmQ (L.length);rw [<-hna] at hl hq1 hL0 hR ⊢;clear hna;have b1:Below w.heap.size w (w.alloc (.cells #[.int .i64 t.op,.int .i64 t.k,.int .i64 t.out,.int .i64 t.n,.slice t.aA t.nA t.cA,.slice t.aE t.nE t.cE,.int .u8 t.o.elem,.int .i64 t.o.n,.slice (some ⟨bl,ol,none⟩) na ca] 149 (0,0))):=(Below.refl _ _).alloc zM _;have kA:=zI w (.cells #[.int .i64 t.op,.int .i64 t.k,.int .i64 t.out,.int .i64 t.n,.slice t.aA t.nA t.cA,.slice t.aE t.nE t.cE,.int .u8 t.o.elem,.int .i64 t.o.n,.slice (some ⟨bl,ol,none⟩) na ca] 149 (0,0));have HG1:=zE (hG.under b1);have HL1:=zE (hl.under b1);have x0q:=(b1.cell (p:=⟨bl,ol,none⟩) yl).trans x0;have y0q:=(b1.cell (p:=⟨bl,ol+1,none⟩) yl).trans y0;have ylq:=Nat.lt_of_lt_of_le yl b1.size;have hcO:=jK t.k;generalize Kd.opT t.k=oq at hcO hR;obtain ⟨tk,mk,on⟩:=oq
 dsimp only at hcO hR
 have HR:=zE hR;clear hR hG hl x0 y0;go_enter Tryz.func146,Tryz.ntmps146;go_upto_region 1 with fail;generalize w.alloc (.cells #[.int .i64 t.op,.int .i64 t.k,.int .i64 t.out,.int .i64 t.n,.slice t.aA t.nA t.cA,.slice t.aE t.nE t.cE,.int .u8 t.o.elem,.int .i64 t.o.n,.slice (some ⟨bl,ol,none⟩) na ca] 149 (0,0))=w0 at b1 kA HG1 HL1 x0q y0q ylq ⊢;have a1:=coQ kA 1;simp at a1;go_wp2_with fail;refine (hcO w0 HG1.out).mono ?_;rintro e w1 ⟨rfl,bx⟩;have b2:Below w1.heap.size w1 (w1.alloc (.cells #[.int .u8 tk] 5 (0,0))):=(Below.refl _ _).alloc zM _;have B1:=b1.trans (bx.mono b1.size);have B2:=B1.trans (b2.mono B1.size);have bb:=bx.trans (b2.mono bx.size);have kt:=zI w1 (.cells #[.int .u8 tk] 5 (0,0));have kT:=(bb.block _ (zG kA)).trans kA;have HL2:=zE (HL1.out.under bb);have x02:=(bb.cell (p:=⟨bl,ol,none⟩) ylq).trans x0q;have y02:=(bb.cell (p:=⟨bl,ol+1,none⟩) ylq).trans y0q;have yl2:=Nat.lt_of_lt_of_le ylq bb.size;clear kA HG1 HL1 x0q y0q a1;go_upto_region 2 with fail;generalize w1.alloc (.cells #[.int .u8 tk] 5 (0,0))=w2 at b2 B2 bb kt kT HL2 x02 y02 yl2 ⊢;have u0:=coQ kT 0;have u1:=coQ kT 1;have u2:=coQ kT 2;have u3:=coQ kT 3;have u4:=coQ kT 4;have u5:=coQ kT 5;have u6:=coQ kT 6;have u7:=coQ kT 7;have u8:=coQ kT 8;simp at u0 u1 u2 u3 u4 u5 u6 u7 u8;have yT:=zG kT;by_cases hon:on=(na:Int)
 case neg=>
  have hon2:(on != (na:Int))=true:=(by simpa using hon);go_wp2;go_ret;refine ⟨?_,B2⟩;rw [HR.out];simp [hon]
 case pos=>
  have hon2:(on != (na:Int))=false:=(by simpa using hon);have HR2:Hid (R=(!(L.any (Sk.other tk f.n))&&Sk.same t.o ⟨mk,f.n⟩)):=zE (by rw [HR.out];simp [hon]);have hC:=zE (⟨kt,kT,yl2,x02,y02,hL0⟩:OtC w2 w1.heap.size w.heap.size tk t bl ol na ca f);have hcc:Hid (∀ V,Below w2.heap.size w2 V->Calls Tryz.prog 158 #[.slice (some ⟨bl,ol,none⟩) na ca,.func (.func 157) #[] #[.pointer (some ⟨w1.heap.size,0,none⟩),.pointer (some ⟨w.heap.size,0,none⟩)]] V _):=zE (fun V b=>jA (hC.out.under b) (HL2.out.under b));obtain ⟨q,hq⟩:=nmQ (L.any (Sk.other tk f.n));obtain ⟨q2,hq2⟩:=nmQ (Sk.same t.o ⟨mk,f.n⟩);rw [<-hq] at hcc;rw [<-hq,<-hq2] at HR2;have HQ2:=zE hq2;clear hq hq2 HR hon hC HL2;go_upto_region 5 with fail;refine zK (fun w'=>Below w2.heap.size w2 w') (fun _=>false) (by kernel_rfl) ?_;have hH0:Below w2.heap.size w2 w2.drew:=(Below.refl _ _).drew;generalize w2.drew=wd0 at hH0 ⊢;refine' tkR 0 21 hH0 ?o1
  refine' tkQ 1 22 hH0 ?hyv ?o2
  case hyv=>
   intro wz hSw;have zc0:=(hSw.cell (p:=⟨w.heap.size,0,none⟩) yT).trans u0;have zc1:=(hSw.cell (p:=⟨w.heap.size,1,none⟩) yT).trans u1;have zc2:=(hSw.cell (p:=⟨w.heap.size,2,none⟩) yT).trans u2;have zc3:=(hSw.cell (p:=⟨w.heap.size,3,none⟩) yT).trans u3;have zc4:=(hSw.cell (p:=⟨w.heap.size,4,none⟩) yT).trans u4;have zc5:=(hSw.cell (p:=⟨w.heap.size,5,none⟩) yT).trans u5;have zc6:=(hSw.cell (p:=⟨w.heap.size,6,none⟩) yT).trans u6;have zc7:=(hSw.cell (p:=⟨w.heap.size,7,none⟩) yT).trans u7;have zc8:=(hSw.cell (p:=⟨w.heap.size,8,none⟩) yT).trans u8;have zc9:=(hSw.cell (p:=⟨bl,ol,none⟩) yl2).trans x02;have zc10:=(hSw.cell (p:=⟨bl,ol+1,none⟩) yl2).trans y02;go_simp
   try rfl
  try simp only [Act.put,sT,sZ,sS]
  refine' tkR 2 23 hH0 ?o3
  refine tnQ 3 (fun K hK=>?_);go_simp;refine (hcc.out wd0 hH0).mono ?_;rintro eq wd1 ⟨rfl,bq1⟩;have hH1:Below w2.heap.size w2 wd1:=hH0.trans (bq1.mono hH0.size);refine hK.out _ _ (fun _=>hH1) ?_;clear hK K
  try simp only [Act.put,sT,sZ,sS]
  refine' tkR 4 25 hH1 ?o4
  refine' tkR 5 26 hH1 ?o5
  cases q
  case false=>
   refine' tkR 6 27 hH1 ?o6
   refine' tkQ 7 28 hH1 ?hyv ?o7
   case hyv=>
    intro wz hSw;have zc0:=(hSw.cell (p:=⟨w.heap.size,0,none⟩) yT).trans u0;have zc1:=(hSw.cell (p:=⟨w.heap.size,1,none⟩) yT).trans u1;have zc2:=(hSw.cell (p:=⟨w.heap.size,2,none⟩) yT).trans u2;have zc3:=(hSw.cell (p:=⟨w.heap.size,3,none⟩) yT).trans u3;have zc4:=(hSw.cell (p:=⟨w.heap.size,4,none⟩) yT).trans u4;have zc5:=(hSw.cell (p:=⟨w.heap.size,5,none⟩) yT).trans u5;have zc6:=(hSw.cell (p:=⟨w.heap.size,6,none⟩) yT).trans u6;have zc7:=(hSw.cell (p:=⟨w.heap.size,7,none⟩) yT).trans u7;have zc8:=(hSw.cell (p:=⟨w.heap.size,8,none⟩) yT).trans u8;have zc9:=(hSw.cell (p:=⟨bl,ol,none⟩) yl2).trans x02;have zc10:=(hSw.cell (p:=⟨bl,ol+1,none⟩) yl2).trans y02;go_simp
    try rfl
   try simp only [Act.put,sT,sZ,sS]
   refine' tkR 8 29 hH1 ?o8
   refine' tkR 9 30 hH1 ?o9
   refine' tkQ 10 31 hH1 ?hyv ?o10
   case hyv=>
    intro wz hSw;have zc0:=(hSw.cell (p:=⟨w.heap.size,0,none⟩) yT).trans u0;have zc1:=(hSw.cell (p:=⟨w.heap.size,1,none⟩) yT).trans u1;have zc2:=(hSw.cell (p:=⟨w.heap.size,2,none⟩) yT).trans u2;have zc3:=(hSw.cell (p:=⟨w.heap.size,3,none⟩) yT).trans u3;have zc4:=(hSw.cell (p:=⟨w.heap.size,4,none⟩) yT).trans u4;have zc5:=(hSw.cell (p:=⟨w.heap.size,5,none⟩) yT).trans u5;have zc6:=(hSw.cell (p:=⟨w.heap.size,6,none⟩) yT).trans u6;have zc7:=(hSw.cell (p:=⟨w.heap.size,7,none⟩) yT).trans u7;have zc8:=(hSw.cell (p:=⟨w.heap.size,8,none⟩) yT).trans u8;have zc9:=(hSw.cell (p:=⟨bl,ol,none⟩) yl2).trans x02;have zc10:=(hSw.cell (p:=⟨bl,ol+1,none⟩) yl2).trans y02;go_simp
    try rfl
   try simp only [Act.put,sT,sZ,sS]
   refine' tkR 11 32 hH1 ?o11
   refine' tkR 12 33 hH1 ?o12
   refine' tkQ 13 34 hH1 ?hyv ?o13
   case hyv=>
    intro wz hSw;have zc0:=(hSw.cell (p:=⟨w.heap.size,0,none⟩) yT).trans u0;have zc1:=(hSw.cell (p:=⟨w.heap.size,1,none⟩) yT).trans u1;have zc2:=(hSw.cell (p:=⟨w.heap.size,2,none⟩) yT).trans u2;have zc3:=(hSw.cell (p:=⟨w.heap.size,3,none⟩) yT).trans u3;have zc4:=(hSw.cell (p:=⟨w.heap.size,4,none⟩) yT).trans u4;have zc5:=(hSw.cell (p:=⟨w.heap.size,5,none⟩) yT).trans u5;have zc6:=(hSw.cell (p:=⟨w.heap.size,6,none⟩) yT).trans u6;have zc7:=(hSw.cell (p:=⟨w.heap.size,7,none⟩) yT).trans u7;have zc8:=(hSw.cell (p:=⟨w.heap.size,8,none⟩) yT).trans u8;have zc9:=(hSw.cell (p:=⟨bl,ol,none⟩) yl2).trans x02;have zc10:=(hSw.cell (p:=⟨bl,ol+1,none⟩) yl2).trans y02;go_simp
    try rfl
   try simp only [Act.put,sT,sZ,sS]
   refine' tkR 14 35 hH1 ?o14
   refine' zO (i:=15) (oi:=⟨some 36,_,_,_,_,_⟩) (v:=.bool q2) rfl (by kernel_rfl) (by kernel_rfl) (by kernel_rfl) (by kernel_rfl) (fun _ _ _ h=>h) hH1 (by rfl) ?hyv ?o15
   case hyv=>
    intro wz hSw;go_simp;rw [HQ2.out];unfold Sk.same;by_cases h1:t.o.elem=mk<;>by_cases h2:t.o.n=f.n<;>simp [h1,h2]
   try simp only [Act.put,sT,sZ,sS]
   refine' tkR 16 37 hH1 ?o16
   refine' tkR 17 2 hH1 ?o17
   refine zH (by kernel_rfl) ?_ _;go_wp2;go_ret;refine ⟨?_,B2.trans (hH1.mono B2.size)⟩;rw [HR2.out];rw [Bool.not_false,Bool.true_and];rfl
  case true=>
   refine zD (i:=6) (oi:=⟨some 27,_,_,_,_,_⟩) rfl (by kernel_rfl) (by kernel_rfl) (by kernel_rfl) (by kernel_rfl) (fun _ _ _ h=>h) hH1 (by rfl) ?_
   try simp only [Act.put,sT,sZ,sS]
   refine zD (i:=7) (oi:=⟨some 28,_,_,_,_,_⟩) rfl (by kernel_rfl) (by kernel_rfl) (by kernel_rfl) (by kernel_rfl) (fun _ _ _ h=>h) hH1 (by rfl) ?_
   try simp only [Act.put,sT,sZ,sS]
   refine zD (i:=8) (oi:=⟨some 29,_,_,_,_,_⟩) rfl (by kernel_rfl) (by kernel_rfl) (by kernel_rfl) (by kernel_rfl) (fun _ _ _ h=>h) hH1 (by rfl) ?_
   try simp only [Act.put,sT,sZ,sS]
   refine zD (i:=9) (oi:=⟨some 30,_,_,_,_,_⟩) rfl (by kernel_rfl) (by kernel_rfl) (by kernel_rfl) (by kernel_rfl) (fun _ _ _ h=>h) hH1 (by rfl) ?_
   try simp only [Act.put,sT,sZ,sS]
   refine zD (i:=10) (oi:=⟨some 31,_,_,_,_,_⟩) rfl (by kernel_rfl) (by kernel_rfl) (by kernel_rfl) (by kernel_rfl) (fun _ _ _ h=>h) hH1 (by rfl) ?_
   try simp only [Act.put,sT,sZ,sS]
   refine zD (i:=11) (oi:=⟨some 32,_,_,_,_,_⟩) rfl (by kernel_rfl) (by kernel_rfl) (by kernel_rfl) (by kernel_rfl) (fun _ _ _ h=>h) hH1 (by rfl) ?_
   try simp only [Act.put,sT,sZ,sS]
   refine zD (i:=12) (oi:=⟨some 33,_,_,_,_,_⟩) rfl (by kernel_rfl) (by kernel_rfl) (by kernel_rfl) (by kernel_rfl) (fun _ _ _ h=>h) hH1 (by rfl) ?_
   try simp only [Act.put,sT,sZ,sS]
   refine zD (i:=13) (oi:=⟨some 34,_,_,_,_,_⟩) rfl (by kernel_rfl) (by kernel_rfl) (by kernel_rfl) (by kernel_rfl) (fun _ _ _ h=>h) hH1 (by rfl) ?_
   try simp only [Act.put,sT,sZ,sS]
   refine zD (i:=14) (oi:=⟨some 35,_,_,_,_,_⟩) rfl (by kernel_rfl) (by kernel_rfl) (by kernel_rfl) (by kernel_rfl) (fun _ _ _ h=>h) hH1 (by rfl) ?_
   try simp only [Act.put,sT,sZ,sS]
   refine zD (i:=15) (oi:=⟨some 36,_,_,_,_,_⟩) rfl (by kernel_rfl) (by kernel_rfl) (by kernel_rfl) (by kernel_rfl) (fun _ _ _ h=>h) hH1 (by rfl) ?_
   try simp only [Act.put,sT,sZ,sS]
   refine' tkR 16 37 hH1 ?o18
   refine' tkR 17 2 hH1 ?o19
   refine zH (by kernel_rfl) ?_ _;go_wp2;go_ret;refine ⟨?_,B2.trans (hH1.mono B2.size)⟩;rw [HR2.out];rfl
end Go.Proofs.YtegakbobaecdlaaGreatDoor
