import Derived.Test.YtfhghlpfeeiaeaaGreatDoorX05
import Derived.Deep.Cut
import Derived.Deep.LoopGhost
import Derived.IntWalk
import Derived.Lib.Hide
import Derived.WalkKit
import Derived.WalkSpells
set_option linter.unusedVariables false
set_option linter.unusedSimpArgs false
set_option maxHeartbeats 64000000
set_option maxRecDepth 100000
namespace Go.Proofs.YtfhghlpfeeiaeaaGreatDoor
open Go.RowKit Go.IntWalk
namespace Sk
def other (tk n:Int) (v:Vr):Bool := !same v ⟨tk,n⟩
end Sk
structure OtC (w:World) (bt bT:Nat) (tk:Int) (t:TRv) (bl ol na ca:Nat) (f:Sk.Vr):Prop where
 kt:w.heap[bt]?=some (.cells #[.int .u8 tk] 5 (0,0))
 kT:w.heap[bT]?=some (.cells #[.int .i64 t.op,.int .i64 t.k,.int .i64 t.out,.int .i64 t.n,.slice t.aA t.nA t.cA,.slice t.aE t.nE t.cE,.int .u8 t.o.elem,.int .i64 t.o.n,.slice (some ⟨bl,ol,none⟩) na ca] 109 (0,0))
 yl:bl<w.heap.size
 x0:w.cell? ⟨bl,ol,none⟩=some (.int .u8 f.elem)
 y0:w.cell? ⟨bl,ol+1,none⟩=some (.int .i64 f.n)
 na0:0<na
theorem OtC.under {w w':World} {bt bT:Nat} {tk:Int} {t:TRv} {bl ol na ca:Nat} {f:Sk.Vr} (h:OtC w bt bT tk t bl ol na ca f) (b:Below w.heap.size w w'):OtC w' bt bT tk t bl ol na ca f :=
 ⟨(b.block _ (zBM h.kt)).trans h.kt,(b.block _ (zBM h.kT)).trans h.kT,Nat.lt_of_lt_of_le h.yl b.size,(b.cell (p:=⟨bl,ol,none⟩) h.yl).trans h.x0,(b.cell (p:=⟨bl,ol+1,none⟩) h.yl).trans h.y0,h.na0⟩
theorem isOther_any {w:World} {bt bT:Nat} {tk:Int} {t:TRv} {bl ol na ca:Nat} {f:Sk.Vr} (h:OtC w bt bT tk t bl ol na ca f) (v:Sk.Vr) :
  Calls Tryz.prog 113 #[vv v,.pointer (some ⟨bt,0,none⟩),.pointer (some ⟨bT,0,none⟩)] w fun e w'=>e=.returned (.bool (Sk.other tk f.n v))/\Below w.heap.size w w':=by
 have b1:Below w.heap.size w (w.alloc (.cells #[.int .u8 v.elem,.int .i64 v.n] 39 (0,0))):=(Below.refl _ _).alloc zBR _;have kV:=zBO w (.cells #[.int .u8 v.elem,.int .i64 v.n] 39 (0,0));obtain ⟨kt,kT,yl,x0,y0,na0⟩:=h.under b1;obtain ⟨q2,aY⟩:=nmQ (Sk.same v ⟨tk,f.n⟩);unfold Sk.other;rw [<-aY];have eK:=zBK aY;clear aY h;go_enter Tryz.func113,Tryz.ntmps113;go_upto_region 1 with fail;generalize w.alloc (.cells #[.int .u8 v.elem,.int .i64 v.n] 39 (0,0))=w1 at b1 kV kt kT yl x0 y0 ⊢;have a0:=coQ kV 0;have a1:=coQ kV 1;simp at a0 a1;have yV:=zBM kV;have s0:=coQ kt 0;simp at s0;have yt:=zBM kt;have u0:=coQ kT 0;have u1:=coQ kT 1;have u2:=coQ kT 2;have u3:=coQ kT 3;have u4:=coQ kT 4;have u5:=coQ kT 5;have u6:=coQ kT 6;have u7:=coQ kT 7;have u8:=coQ kT 8;simp at u0 u1 u2 u3 u4 u5 u6 u7 u8;have yT:=zBM kT;have aM:=zBK (fun (wz:World) (hSw:Below w1.heap.size w1 wz)=>And.intro ((hSw.cell (p:=⟨w.heap.size,0,none⟩) yV).trans a0) (And.intro ((hSw.cell (p:=⟨w.heap.size,1,none⟩) yV).trans a1) (And.intro ((hSw.cell (p:=⟨bt,0,none⟩) yt).trans s0) (And.intro ((hSw.cell (p:=⟨bT,0,none⟩) yT).trans u0) (And.intro ((hSw.cell (p:=⟨bT,1,none⟩) yT).trans u1) (And.intro ((hSw.cell (p:=⟨bT,2,none⟩) yT).trans u2) (And.intro ((hSw.cell (p:=⟨bT,3,none⟩) yT).trans u3) (And.intro ((hSw.cell (p:=⟨bT,4,none⟩) yT).trans u4) (And.intro ((hSw.cell (p:=⟨bT,5,none⟩) yT).trans u5) (And.intro ((hSw.cell (p:=⟨bT,6,none⟩) yT).trans u6) (And.intro ((hSw.cell (p:=⟨bT,7,none⟩) yT).trans u7) (And.intro ((hSw.cell (p:=⟨bT,8,none⟩) yT).trans u8) (And.intro ((hSw.cell (p:=⟨bl,ol,none⟩) yl).trans x0) ((hSw.cell (p:=⟨bl,ol+1,none⟩) yl).trans y0))))))))))))));refine zBP (fun w'=>Below w1.heap.size w1 w') (fun _=>false) (by kernel_rfl) ?_;have ab:Below w1.heap.size w1 w1.drew:=(Below.refl _ _).drew;generalize w1.drew=ag at ab ⊢;refine' tkQ 0 5 ab ?hyv ?o1
 case hyv=>
  intro wz hSw;have bk:=aM.out wz hSw;go_simp
  try rfl
 try simp only [Act.put,sT,sZ,sS]
 refine' tkQ 1 6 ab ?hyv ?o2
 case hyv=>
  intro wz hSw;have bk:=aM.out wz hSw;go_simp
  try rfl
 try simp only [Act.put,sT,sZ,sS]
 refine' tkR 2 7 ab ?o3
 refine' tkQ 3 8 ab ?hyv ?o4
 case hyv=>
  intro wz hSw;have bk:=aM.out wz hSw;go_simp
  try rfl
 try simp only [Act.put,sT,sZ,sS]
 refine' tkR 4 9 ab ?o5
 refine' tkR 5 10 ab ?o6
 refine' tkQ 6 11 ab ?hyv ?o7
 case hyv=>
  intro wz hSw;have bk:=aM.out wz hSw;go_simp
  try rfl
 try simp only [Act.put,sT,sZ,sS]
 refine' tkR 7 12 ab ?o8
 refine' zBS (i:=8) (oi:=⟨some 13,_,_,_,_,_⟩) (v:=.bool (!q2)) rfl (by kernel_rfl) (by kernel_rfl) (by kernel_rfl) (by kernel_rfl) (fun _ _ _ h=>h) ab (by rfl) ?hyv ?o9
 case hyv=>
  intro wz hSw;go_simp;rw [eK.out];unfold Sk.same;by_cases h1:v.elem=tk<;>by_cases h2:v.n=f.n<;>simp [h1,h2]
 try simp only [Act.put,sT,sZ,sS]
 refine' tkR 9 4 ab ?o10
 refine zBN (by kernel_rfl) ?_ _;go_wp2;go_ret;exact ⟨rfl,b1.trans (ab.mono b1.size)⟩
theorem anyO_none {l:List Sk.Vr} {tk n:Int} (h:∀ j (hj:j<l.length),Sk.other tk n l[j]=false):l.any (Sk.other tk n)=false:=by
 rw [List.any_eq_false];intro x hx;obtain ⟨j,hj,rfl⟩:=List.getElem_of_mem hx;rw [h j hj];simp
theorem zBA {ok:Nat->Prop} {w:World} {bt bT:Nat} {tk:Int} {t:TRv} {bl ol na ca:Nat} {f:Sk.Vr} {v:Value} {l:List Sk.Vr} (hC:OtC w bt bT tk t bl ol na ca f) (hl:HVars ok w v l) :
  Calls Tryz.prog 128 #[v,.func (.func 113) #[] #[.pointer (some ⟨bt,0,none⟩),.pointer (some ⟨bT,0,none⟩)]] w fun r w'=>∃ c:Int,r=.returned (.int .i64 c)/\decide (0<=c)=l.any (Sk.other tk f.n)/\Below w.heap.size w w':=by
 obtain ⟨ao,cap,rfl,bH,cG,_⟩:=hl.at;unfold maxLen at cG;have HL:=zBK hl;have HC:=zBK hC;clear hl hC;obtain ⟨n,hn⟩:=nmQ (l.length);rw [<-hn] at bH ⊢;have HN:=zBK hn;clear hn;go_enter Tryz.func128,Tryz.ntmps128;go_wp2_with fail;go_loopg [8] n (fun k v wr=>∃ i,i<=n/\k=n-i/\v=.int .i64 (i:Nat)/\Hid (∀ j (h:j<l.length),j<i->Sk.other tk f.n l[j]=false)/\Below w.heap.size w wr)
 case atStart=>exact ⟨0,Nat.zero_le _,rfl,rfl,fun j _ h=>absurd h (Nat.not_lt_zero _),Below.refl _ _⟩
 case round=>
  obtain ⟨i,hi,rfl,rfl,H,aH⟩:=hrel;by_cases bd:i<n
  case neg=>
   have bp:i=n:=(by omega);subst bp;go_wp2;go_ret;refine ⟨-1,rfl,?_,aH⟩;rw [anyO_none (fun j hj=>H.out j hj (by have:=HN.out;omega))];rfl
  case pos=>
   have dj:i<l.length:=(by have:=HN.out;omega);obtain ⟨gw,dk,eqs,_,_,bg⟩:=(HL.out.under aH).at;injection eqs with q1 q2 q3;subst q1;obtain ⟨b,o,rfl,hb,e0,e1⟩:=bg i dj;obtain ⟨y,hy⟩:=nmQ (l[i]);rw [<-hy] at e0 e1;have hc:=isOther_any (HC.out.under aH) y;obtain ⟨q,hq⟩:=nmQ (Sk.other tk f.n y);rw [<-hq] at hc;have HQ:=zBK hq;have HY:=zBK hy;clear bg q2 q3 hq hy;go_wp2_with fail;refine hc.mono ?_;rintro e w4 ⟨rfl,b4⟩;clear hc;have BW:=aH.trans (b4.mono aH.size)
   cases q
   ·go_wp2_with fail
    go_roundg (n-(i+1))
    case measure=>omega
    case rel=>
     refine ⟨i+1,by omega,rfl,by go_num,fun j hj lG=>?_,BW⟩;by_cases e:j=i
     ·subst e
      rw [<-HY.out,<-HQ.out]
     ·exact H.out j hj (by omega)
   ·go_wp2
    go_ret;refine ⟨(i:Int),rfl,?_,BW⟩;have:l.any (Sk.other tk f.n)=true:=List.any_eq_true.2 ⟨l[i],List.getElem_mem dj,by rw [<-HY.out,<-HQ.out]⟩;rw [this];simp
theorem zDC {ok:Nat->Prop} {w:World} {bt bT:Nat} {tk:Int} {t:TRv} {bl ol na ca:Nat} {f:Sk.Vr} {v:Value} {l:List Sk.Vr} (hC:OtC w bt bT tk t bl ol na ca f) (hl:HVars ok w v l) :
  Calls Tryz.prog 114 #[v,.func (.func 113) #[] #[.pointer (some ⟨bt,0,none⟩),.pointer (some ⟨bT,0,none⟩)]] w fun r w'=>r=.returned (.bool (l.any (Sk.other tk f.n)))/\Below w.heap.size w w':=by
 have hc:=zBA hC hl;obtain ⟨ao,cap,rfl,bH,cG,_⟩:=hl.at;clear hl hC;go_enter Tryz.func114,Tryz.ntmps114;go_wp2_with fail;refine hc.mono ?_;rintro e w1 ⟨c,rfl,hd,b1⟩;go_wp2;go_ret;refine ⟨?_,b1⟩;rw [<-hd];by_cases h:0<=c
 ·simp [h]
 ·simp [h]
end Go.Proofs.YtfhghlpfeeiaeaaGreatDoor
namespace Go.Proofs.YtfhghlpfeeiaeaaGreatDoor
open Go.RowKit Go.IntWalk
namespace Sk
def operates (k:Int) (o:Vr) (a:List Vr):Bool:=decide ((Kd.opT k).2.2=(a.length:Int))&&(!(a.any (other (Kd.opT k).1 (a.headD (sc 0)).n))&&same o ⟨(Kd.opT k).2.1,(a.headD (sc 0)).n⟩)
end Sk
theorem zDD {ok:Nat->Prop} (t:TRv) {aa:Option Addr} {na ca:Nat} (f:Sk.Vr) (r:List Sk.Vr) (w:World) (hG:GlobK w) (hl:HVars ok w (.slice aa na ca) (f :: r)) :
  Calls Tryz.prog 92 #[tv t aa na ca] w fun e w'=>e=.returned (.bool (Sk.operates t.k t.o (f :: r)))/\Below w.heap.size w w':=by
 obtain ⟨ao,cap,hv,bm,aY,cc⟩:=hl.at;injection hv with v1 v2 v3;subst v1 v2 v3;obtain ⟨bl,ol,rfl,yl,x0,y0⟩:=cc 0 (by simp);simp at x0 y0;unfold maxLen at aY;obtain ⟨L,hL⟩:=nmQ (f :: r);obtain ⟨R,hR⟩:=nmQ (Sk.operates t.k t.o (f :: r));rw [<-hR];unfold Sk.operates at hR;rw [show ((f :: r).headD (Sk.sc 0)).n=f.n from rfl] at hR;rw [<-hL] at hl bm hR ⊢;have Kr:0<L.length:=(by rw [hL];simp);clear hL cc;obtain ⟨na,eH⟩:=nmQ (L.length);rw [<-eH] at hl bm Kr hR ⊢;clear eH;have b1:Below w.heap.size w (w.alloc (.cells #[.int .i64 t.op,.int .i64 t.k,.int .i64 t.out,.int .i64 t.n,.slice t.aA t.nA t.cA,.slice t.aE t.nE t.cE,.int .u8 t.o.elem,.int .i64 t.o.n,.slice (some ⟨bl,ol,none⟩) na ca] 109 (0,0))):=(Below.refl _ _).alloc zBR _;have kA:=zBO w (.cells #[.int .i64 t.op,.int .i64 t.k,.int .i64 t.out,.int .i64 t.n,.slice t.aA t.nA t.cA,.slice t.aE t.nE t.cE,.int .u8 t.o.elem,.int .i64 t.o.n,.slice (some ⟨bl,ol,none⟩) na ca] 109 (0,0));have fL:=zBK (hG.under b1);have iu:=zBK (hl.under b1);have ch:=(b1.cell (p:=⟨bl,ol,none⟩) yl).trans x0;have cj:=(b1.cell (p:=⟨bl,ol+1,none⟩) yl).trans y0;have ai:=Nat.lt_of_lt_of_le yl b1.size;have wP:=zAG t.k;generalize Kd.opT t.k=oq at wP hR;obtain ⟨tk,mk,on⟩:=oq
 dsimp only at wP hR
 have HR:=zBK hR;clear hR hG hl x0 y0;go_enter Tryz.func92,Tryz.ntmps92;go_upto_region 1 with fail;generalize w.alloc (.cells #[.int .i64 t.op,.int .i64 t.k,.int .i64 t.out,.int .i64 t.n,.slice t.aA t.nA t.cA,.slice t.aE t.nE t.cE,.int .u8 t.o.elem,.int .i64 t.o.n,.slice (some ⟨bl,ol,none⟩) na ca] 109 (0,0))=w0 at b1 kA fL iu ch cj ai ⊢;have a1:=coQ kA 1;simp at a1;go_wp2_with fail;refine (wP w0 fL.out).mono ?_;rintro e w1 ⟨rfl,bx⟩;have b2:Below w1.heap.size w1 (w1.alloc (.cells #[.int .u8 tk] 5 (0,0))):=(Below.refl _ _).alloc zBR _;have B1:=b1.trans (bx.mono b1.size);have B2:=B1.trans (b2.mono B1.size);have bb:=bx.trans (b2.mono bx.size);have kt:=zBO w1 (.cells #[.int .u8 tk] 5 (0,0));have kT:=(bb.block _ (zBM kA)).trans kA;have E8:=zBK (iu.out.under bb);have zy:=(bb.cell (p:=⟨bl,ol,none⟩) ai).trans ch;have zD:=(bb.cell (p:=⟨bl,ol+1,none⟩) ai).trans cj;have ln:=Nat.lt_of_lt_of_le ai bb.size;clear kA fL iu ch cj a1;go_upto_region 2 with fail;generalize w1.alloc (.cells #[.int .u8 tk] 5 (0,0))=w2 at b2 B2 bb kt kT E8 zy zD ln ⊢;have u0:=coQ kT 0;have u1:=coQ kT 1;have u2:=coQ kT 2;have u3:=coQ kT 3;have u4:=coQ kT 4;have u5:=coQ kT 5;have u6:=coQ kT 6;have u7:=coQ kT 7;have u8:=coQ kT 8;simp at u0 u1 u2 u3 u4 u5 u6 u7 u8;have yT:=zBM kT;by_cases hon:on=(na:Int)
 case neg=>
  have G6:(on != (na:Int))=true:=(by simpa using hon);go_wp2;go_ret;refine ⟨?_,B2⟩;rw [HR.out];simp [hon]
 case pos=>
  have G6:(on != (na:Int))=false:=(by simpa using hon);have qX:Hid (R=(!(L.any (Sk.other tk f.n))&&Sk.same t.o ⟨mk,f.n⟩)):=zBK (by rw [HR.out];simp [hon]);have hC:=zBK (⟨kt,kT,ln,zy,zD,Kr⟩:OtC w2 w1.heap.size w.heap.size tk t bl ol na ca f);have eh:Hid (∀ V,Below w2.heap.size w2 V->Calls Tryz.prog 114 #[.slice (some ⟨bl,ol,none⟩) na ca,.func (.func 113) #[] #[.pointer (some ⟨w1.heap.size,0,none⟩),.pointer (some ⟨w.heap.size,0,none⟩)]] V _):=zBK (fun V b=>zDC (hC.out.under b) (E8.out.under b));obtain ⟨q,hq⟩:=nmQ (L.any (Sk.other tk f.n));obtain ⟨q2,aY⟩:=nmQ (Sk.same t.o ⟨mk,f.n⟩);rw [<-hq] at eh;rw [<-hq,<-aY] at qX;have eK:=zBK aY;clear hq aY HR hon hC E8;go_upto_region 5 with fail;have aM:=zBK (fun (wz:World) (hSw:Below w2.heap.size w2 wz)=>And.intro ((hSw.cell (p:=⟨w.heap.size,0,none⟩) yT).trans u0) (And.intro ((hSw.cell (p:=⟨w.heap.size,1,none⟩) yT).trans u1) (And.intro ((hSw.cell (p:=⟨w.heap.size,2,none⟩) yT).trans u2) (And.intro ((hSw.cell (p:=⟨w.heap.size,3,none⟩) yT).trans u3) (And.intro ((hSw.cell (p:=⟨w.heap.size,4,none⟩) yT).trans u4) (And.intro ((hSw.cell (p:=⟨w.heap.size,5,none⟩) yT).trans u5) (And.intro ((hSw.cell (p:=⟨w.heap.size,6,none⟩) yT).trans u6) (And.intro ((hSw.cell (p:=⟨w.heap.size,7,none⟩) yT).trans u7) (And.intro ((hSw.cell (p:=⟨w.heap.size,8,none⟩) yT).trans u8) (And.intro ((hSw.cell (p:=⟨bl,ol,none⟩) ln).trans zy) ((hSw.cell (p:=⟨bl,ol+1,none⟩) ln).trans zD)))))))))));refine zBP (fun w'=>Below w2.heap.size w2 w') (fun _=>false) (by kernel_rfl) ?_;have ab:Below w2.heap.size w2 w2.drew:=(Below.refl _ _).drew;generalize w2.drew=ag at ab ⊢;refine' tkR 0 21 ab ?o1
  refine' tkQ 1 22 ab ?hyv ?o2
  case hyv=>
   intro wz hSw;have bk:=aM.out wz hSw;go_simp
   try rfl
  try simp only [Act.put,sT,sZ,sS]
  refine' tkR 2 23 ab ?o3
  refine tnQ 3 (fun K hK=>?_);go_simp;refine (eh.out ag ab).mono ?_;rintro eq aw ⟨rfl,cY⟩;have af:Below w2.heap.size w2 aw:=ab.trans (cY.mono ab.size);refine hK.out _ _ (fun _=>af) ?_;clear hK K
  try simp only [Act.put,sT,sZ,sS]
  refine' tkR 4 25 af ?o4
  refine' tkR 5 26 af ?o5
  cases q
  case false=>
   refine' tkR 6 27 af ?o6
   refine' tkQ 7 28 af ?hyv ?o7
   case hyv=>
    intro wz hSw;have bk:=aM.out wz hSw;go_simp
    try rfl
   try simp only [Act.put,sT,sZ,sS]
   refine' tkR 8 29 af ?o8
   refine' tkR 9 30 af ?o9
   refine' tkQ 10 31 af ?hyv ?o10
   case hyv=>
    intro wz hSw;have bk:=aM.out wz hSw;go_simp
    try rfl
   try simp only [Act.put,sT,sZ,sS]
   refine' tkR 11 32 af ?o11
   refine' tkR 12 33 af ?o12
   refine' tkQ 13 34 af ?hyv ?o13
   case hyv=>
    intro wz hSw;have bk:=aM.out wz hSw;go_simp
    try rfl
   try simp only [Act.put,sT,sZ,sS]
   refine' tkR 14 35 af ?o14
   refine' zBS (i:=15) (oi:=⟨some 36,_,_,_,_,_⟩) (v:=.bool q2) rfl (by kernel_rfl) (by kernel_rfl) (by kernel_rfl) (by kernel_rfl) (fun _ _ _ h=>h) af (by rfl) ?hyv ?o15
   case hyv=>
    intro wz hSw;go_simp;rw [eK.out];unfold Sk.same;by_cases h1:t.o.elem=mk<;>by_cases h2:t.o.n=f.n<;>simp [h1,h2]
   try simp only [Act.put,sT,sZ,sS]
   refine' tkR 16 37 af ?o16
   refine' tkR 17 2 af ?o17
   refine zBN (by kernel_rfl) ?_ _;go_wp2;go_ret;refine ⟨?_,B2.trans (af.mono B2.size)⟩;rw [qX.out];rw [Bool.not_false,Bool.true_and];rfl
  case true=>
   refine' tsQ 6 27 af ?_
   refine' tsQ 7 28 af ?_
   refine' tsQ 8 29 af ?_
   refine' tsQ 9 30 af ?_
   refine' tsQ 10 31 af ?_
   refine' tsQ 11 32 af ?_
   refine' tsQ 12 33 af ?_
   refine' tsQ 13 34 af ?_
   refine' tsQ 14 35 af ?_
   refine' tsQ 15 36 af ?_
   refine' tkR 16 37 af ?o18
   refine' tkR 17 2 af ?o19
   refine zBN (by kernel_rfl) ?_ _;go_wp2;go_ret;refine ⟨?_,B2.trans (af.mono B2.size)⟩;rw [qX.out];rfl
end Go.Proofs.YtfhghlpfeeiaeaaGreatDoor
