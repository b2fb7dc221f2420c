import Derived.Test.YtegakbobaecdlaaGreatDoorL14
import Derived.WalkKit
import Derived.WalkSpells
import Derived.IntWalk
import Derived.Deep.Cut
import Derived.Deep.LoopGhost
import Derived.Lib.Hide
set_option linter.unusedVariables false
set_option linter.unusedSimpArgs false
set_option maxHeartbeats 64000000
set_option maxRecDepth 100000
namespace Go.Proofs.YtegakbobaecdlaaGreatDoor
open Go.RowKit Go.IntWalk
theorem vZ (n:Int) (w:World):Calls Tryz.prog 145 #[.int .i64 n] w fun e w'=>e=.returned (.bool (Sk.truth n))/\Below w.heap.size w w' :=
 (isTruthS_any n w).mono fun _ _ ⟨h1,h2⟩=>⟨h1,h2 ▸ Below.refl _ _⟩
theorem fits1_any (t:TRv) {aa:Option Addr} {na ca:Nat} (w:World) (hG:GlobK w) :
  Calls Tryz.prog 133 #[.agg #[.int .i64 1,.int .i64 t.k,.int .i64 t.out,.int .i64 t.n,.slice t.aA t.nA t.cA,.slice t.aE t.nE t.cE,.int .u8 t.o.elem,.int .i64 t.o.n,.slice aa na ca]] w fun e w'=>e=.returned (.bool (Sk.same t.o (Sk.sc 105) || (Sk.same t.o (Sk.sc 98)&&Sk.truth t.n)))/\Below w.heap.size w w':=by
 have b1:Below w.heap.size w (w.alloc (.cells #[.int .i64 1,.int .i64 t.k,.int .i64 t.out,.int .i64 t.n,.slice t.aA t.nA t.cA,.slice t.aE t.nE t.cE,.int .u8 t.o.elem,.int .i64 t.o.n,.slice aa na ca] 149 (0,0))):=(Below.refl _ _).alloc zM _;have kA:=zI w (.cells #[.int .i64 1,.int .i64 t.k,.int .i64 t.out,.int .i64 t.n,.slice t.aA t.nA t.cA,.slice t.aE t.nE t.cE,.int .u8 t.o.elem,.int .i64 t.o.n,.slice aa na ca] 149 (0,0));have HG1:=zE (hG.under b1);obtain ⟨R,hR⟩:=nmQ ((Sk.same t.o (Sk.sc 105) || (Sk.same t.o (Sk.sc 98)&&Sk.truth t.n)));rw [<-hR];have hc3:∀ V,Calls Tryz.prog 145 #[.int .i64 t.n] V fun e w'=>e=.returned (.bool (Sk.truth t.n))/\Below V.heap.size V w':=vZ t.n;obtain ⟨q1,hq1⟩:=nmQ (Sk.same t.o (Sk.sc 105));rw [<-hq1] at hR;have HQ1:=zE hq1;obtain ⟨q2,hq2⟩:=nmQ (Sk.same t.o (Sk.sc 98));rw [<-hq2] at hR;have HQ2:=zE hq2;obtain ⟨q3,hq3⟩:=nmQ (Sk.truth t.n);rw [<-hq3] at hR hc3;have HQ3:=zE hq3;have HR:=zE hR;clear hR hG hq1 hq2 hq3;go_enter Tryz.func133,Tryz.ntmps133;go_upto_region 3 with fail;generalize w.alloc (.cells #[.int .i64 1,.int .i64 t.k,.int .i64 t.out,.int .i64 t.n,.slice t.aA t.nA t.cA,.slice t.aE t.nE t.cE,.int .u8 t.o.elem,.int .i64 t.o.n,.slice aa na ca] 149 (0,0))=w1 at b1 kA HG1  ⊢;have u0:=coQ kA 0;have u1:=coQ kA 1;have u2:=coQ kA 2;have u3:=coQ kA 3;have u4:=coQ kA 4;have u5:=coQ kA 5;have u6:=coQ kA 6;have u7:=coQ kA 7;have u8:=coQ kA 8;simp at u0 u1 u2 u3 u4 u5 u6 u7 u8;have yA:=zG kA;refine zK (fun w'=>Below w1.heap.size w1 w') (fun _=>false) (by kernel_rfl) ?_;have hH0:Below w1.heap.size w1 w1.drew:=(Below.refl _ _).drew;generalize w1.drew=wd0 at hH0 ⊢;refine' tkR 0 8 hH0 ?o1
 refine' tkQ 1 9 hH0 ?hyv ?o2
 case hyv=>
  intro wz hSw;have zc0:=(hSw.cell (p:=⟨w.heap.size,0,none⟩) yA).trans u0;have zc1:=(hSw.cell (p:=⟨w.heap.size,1,none⟩) yA).trans u1;have zc2:=(hSw.cell (p:=⟨w.heap.size,2,none⟩) yA).trans u2;have zc3:=(hSw.cell (p:=⟨w.heap.size,3,none⟩) yA).trans u3;have zc4:=(hSw.cell (p:=⟨w.heap.size,4,none⟩) yA).trans u4;have zc5:=(hSw.cell (p:=⟨w.heap.size,5,none⟩) yA).trans u5;have zc6:=(hSw.cell (p:=⟨w.heap.size,6,none⟩) yA).trans u6;have zc7:=(hSw.cell (p:=⟨w.heap.size,7,none⟩) yA).trans u7;have zc8:=(hSw.cell (p:=⟨w.heap.size,8,none⟩) yA).trans u8;go_simp
  try rfl
 try simp only [Act.put,sT,sZ,sS]
 refine tnQ 2 (fun K hK=>?_);go_simp;refine (xM 105 wd0).mono ?_;rintro eq wd1 ⟨rfl,bq1⟩;have hH1:Below w1.heap.size w1 wd1:=hH0.trans (bq1.mono hH0.size);refine hK.out _ _ (fun _=>hH1) ?_;clear hK K
 try simp only [Act.put,sT,sZ,sS]
 refine' zO (i:=3) (oi:=⟨some 11,_,_,_,_,_⟩) (v:=.bool q1) rfl (by kernel_rfl) (by kernel_rfl) (by kernel_rfl) (by kernel_rfl) (fun _ _ _ h=>h) hH1 (by rfl) ?hyv ?o3
 case hyv=>
  intro wz hSw;go_simp;rw [HQ1.out];unfold Sk.same;by_cases h1:t.o.elem=(Sk.sc 105).elem<;>by_cases h2:t.o.n=(Sk.sc 105).n<;>simp [h1,h2]
 try simp only [Act.put,sT,sZ,sS]
 refine' tkR 4 12 hH1 ?o4
 cases q1
 case false=>
  refine' tkR 5 13 hH1 ?o5
  refine' tkQ 6 14 hH1 ?hyv ?o6
  case hyv=>
   intro wz hSw;have zc0:=(hSw.cell (p:=⟨w.heap.size,0,none⟩) yA).trans u0;have zc1:=(hSw.cell (p:=⟨w.heap.size,1,none⟩) yA).trans u1;have zc2:=(hSw.cell (p:=⟨w.heap.size,2,none⟩) yA).trans u2;have zc3:=(hSw.cell (p:=⟨w.heap.size,3,none⟩) yA).trans u3;have zc4:=(hSw.cell (p:=⟨w.heap.size,4,none⟩) yA).trans u4;have zc5:=(hSw.cell (p:=⟨w.heap.size,5,none⟩) yA).trans u5;have zc6:=(hSw.cell (p:=⟨w.heap.size,6,none⟩) yA).trans u6;have zc7:=(hSw.cell (p:=⟨w.heap.size,7,none⟩) yA).trans u7;have zc8:=(hSw.cell (p:=⟨w.heap.size,8,none⟩) yA).trans u8;go_simp
   try rfl
  try simp only [Act.put,sT,sZ,sS]
  refine tnQ 7 (fun K hK=>?_);go_simp;refine (xM 98 wd1).mono ?_;rintro eq wd2 ⟨rfl,bq2⟩;have hH2:Below w1.heap.size w1 wd2:=hH1.trans (bq2.mono hH1.size);refine hK.out _ _ (fun _=>hH2) ?_;clear hK K
  try simp only [Act.put,sT,sZ,sS]
  refine' zO (i:=8) (oi:=⟨some 16,_,_,_,_,_⟩) (v:=.bool q2) rfl (by kernel_rfl) (by kernel_rfl) (by kernel_rfl) (by kernel_rfl) (fun _ _ _ h=>h) hH2 (by rfl) ?hyv ?o7
  case hyv=>
   intro wz hSw;go_simp;rw [HQ2.out];unfold Sk.same;by_cases h1:t.o.elem=(Sk.sc 98).elem<;>by_cases h2:t.o.n=(Sk.sc 98).n<;>simp [h1,h2]
  try simp only [Act.put,sT,sZ,sS]
  refine' tkR 9 17 hH2 ?o8
  cases q2
  case false=>
   refine zD (i:=10) (oi:=⟨some 18,_,_,_,_,_⟩) rfl (by kernel_rfl) (by kernel_rfl) (by kernel_rfl) (by kernel_rfl) (fun _ _ _ h=>h) hH2 (by rfl) ?_
   try simp only [Act.put,sT,sZ,sS]
   refine zD (i:=11) (oi:=⟨some 19,_,_,_,_,_⟩) rfl (by kernel_rfl) (by kernel_rfl) (by kernel_rfl) (by kernel_rfl) (fun _ _ _ h=>h) hH2 (by rfl) ?_
   try simp only [Act.put,sT,sZ,sS]
   refine zD (i:=12) (oi:=⟨some 20,_,_,_,_,_⟩) rfl (by kernel_rfl) (by kernel_rfl) (by kernel_rfl) (by kernel_rfl) (fun _ _ _ h=>h) hH2 (by rfl) ?_
   try simp only [Act.put,sT,sZ,sS]
   refine zD (i:=13) (oi:=⟨some 21,_,_,_,_,_⟩) rfl (by kernel_rfl) (by kernel_rfl) (by kernel_rfl) (by kernel_rfl) (fun _ _ _ h=>h) hH2 (by rfl) ?_
   try simp only [Act.put,sT,sZ,sS]
   refine' tkR 14 22 hH2 ?o9
   refine' tkR 15 23 hH2 ?o10
   refine' tkR 16 2 hH2 ?o11
   refine zH (by kernel_rfl) ?_ _;go_wp2;go_ret;refine ⟨?_,b1.trans (hH2.mono b1.size)⟩;rw [HR.out]
   first | rfl | simp
  case true=>
   refine' tkR 10 18 hH2 ?o12
   refine' tkR 11 19 hH2 ?o13
   refine' tkQ 12 20 hH2 ?hyv ?o14
   case hyv=>
    intro wz hSw;have zc0:=(hSw.cell (p:=⟨w.heap.size,0,none⟩) yA).trans u0;have zc1:=(hSw.cell (p:=⟨w.heap.size,1,none⟩) yA).trans u1;have zc2:=(hSw.cell (p:=⟨w.heap.size,2,none⟩) yA).trans u2;have zc3:=(hSw.cell (p:=⟨w.heap.size,3,none⟩) yA).trans u3;have zc4:=(hSw.cell (p:=⟨w.heap.size,4,none⟩) yA).trans u4;have zc5:=(hSw.cell (p:=⟨w.heap.size,5,none⟩) yA).trans u5;have zc6:=(hSw.cell (p:=⟨w.heap.size,6,none⟩) yA).trans u6;have zc7:=(hSw.cell (p:=⟨w.heap.size,7,none⟩) yA).trans u7;have zc8:=(hSw.cell (p:=⟨w.heap.size,8,none⟩) yA).trans u8;go_simp
    try rfl
   try simp only [Act.put,sT,sZ,sS]
   refine tnQ 13 (fun K hK=>?_);go_simp;refine (hc3 wd2).mono ?_;rintro eq wd3 ⟨rfl,bq3⟩;have hH3:Below w1.heap.size w1 wd3:=hH2.trans (bq3.mono hH2.size);refine hK.out _ _ (fun _=>hH3) ?_;clear hK K
   try simp only [Act.put,sT,sZ,sS]
   refine' tkR 14 22 hH3 ?o15
   refine' tkR 15 23 hH3 ?o16
   refine' tkR 16 2 hH3 ?o17
   refine zH (by kernel_rfl) ?_ _;go_wp2;go_ret;refine ⟨?_,b1.trans (hH3.mono b1.size)⟩;rw [HR.out]
   first | rfl | simp
 case true=>
  refine zD (i:=5) (oi:=⟨some 13,_,_,_,_,_⟩) rfl (by kernel_rfl) (by kernel_rfl) (by kernel_rfl) (by kernel_rfl) (fun _ _ _ h=>h) hH1 (by rfl) ?_
  try simp only [Act.put,sT,sZ,sS]
  refine zD (i:=6) (oi:=⟨some 14,_,_,_,_,_⟩) rfl (by kernel_rfl) (by kernel_rfl) (by kernel_rfl) (by kernel_rfl) (fun _ _ _ h=>h) hH1 (by rfl) ?_
  try simp only [Act.put,sT,sZ,sS]
  refine zD (i:=7) (oi:=⟨some 15,_,_,_,_,_⟩) rfl (by kernel_rfl) (by kernel_rfl) (by kernel_rfl) (by kernel_rfl) (fun _ _ _ h=>h) hH1 (by rfl) ?_
  try simp only [Act.put,sT,sZ,sS]
  refine zD (i:=8) (oi:=⟨some 16,_,_,_,_,_⟩) rfl (by kernel_rfl) (by kernel_rfl) (by kernel_rfl) (by kernel_rfl) (fun _ _ _ h=>h) hH1 (by rfl) ?_
  try simp only [Act.put,sT,sZ,sS]
  refine zD (i:=9) (oi:=⟨some 17,_,_,_,_,_⟩) rfl (by kernel_rfl) (by kernel_rfl) (by kernel_rfl) (by kernel_rfl) (fun _ _ _ h=>h) hH1 (by rfl) ?_
  try simp only [Act.put,sT,sZ,sS]
  refine zD (i:=10) (oi:=⟨some 18,_,_,_,_,_⟩) rfl (by kernel_rfl) (by kernel_rfl) (by kernel_rfl) (by kernel_rfl) (fun _ _ _ h=>h) hH1 (by rfl) ?_
  try simp only [Act.put,sT,sZ,sS]
  refine zD (i:=11) (oi:=⟨some 19,_,_,_,_,_⟩) rfl (by kernel_rfl) (by kernel_rfl) (by kernel_rfl) (by kernel_rfl) (fun _ _ _ h=>h) hH1 (by rfl) ?_
  try simp only [Act.put,sT,sZ,sS]
  refine zD (i:=12) (oi:=⟨some 20,_,_,_,_,_⟩) rfl (by kernel_rfl) (by kernel_rfl) (by kernel_rfl) (by kernel_rfl) (fun _ _ _ h=>h) hH1 (by rfl) ?_
  try simp only [Act.put,sT,sZ,sS]
  refine zD (i:=13) (oi:=⟨some 21,_,_,_,_,_⟩) rfl (by kernel_rfl) (by kernel_rfl) (by kernel_rfl) (by kernel_rfl) (fun _ _ _ h=>h) hH1 (by rfl) ?_
  try simp only [Act.put,sT,sZ,sS]
  refine zD (i:=14) (oi:=⟨some 22,_,_,_,_,_⟩) rfl (by kernel_rfl) (by kernel_rfl) (by kernel_rfl) (by kernel_rfl) (fun _ _ _ h=>h) hH1 (by rfl) ?_
  try simp only [Act.put,sT,sZ,sS]
  refine' tkR 15 23 hH1 ?o18
  refine' tkR 16 2 hH1 ?o19
  refine zH (by kernel_rfl) ?_ _;go_wp2;go_ret;refine ⟨?_,b1.trans (hH1.mono b1.size)⟩;rw [HR.out]
  first | rfl | simp
theorem fits3_any {ok:Nat->Prop} (t:TRv) {aa:Option Addr} {na ca:Nat} (f:Sk.Vr) (r:List Sk.Vr) (w:World) (hG:GlobK w) (hl:HVars ok w (.slice aa na ca) (f :: r)) :
  Calls Tryz.prog 133 #[.agg #[.int .i64 3,.int .i64 t.k,.int .i64 t.out,.int .i64 t.n,.slice t.aA t.nA t.cA,.slice t.aE t.nE t.cE,.int .u8 t.o.elem,.int .i64 t.o.n,.slice aa na ca]] w fun e w'=>e=.returned (.bool (Sk.operates t.k t.o (f :: r)))/\Below w.heap.size w w':=by
 have b1:Below w.heap.size w (w.alloc (.cells #[.int .i64 3,.int .i64 t.k,.int .i64 t.out,.int .i64 t.n,.slice t.aA t.nA t.cA,.slice t.aE t.nE t.cE,.int .u8 t.o.elem,.int .i64 t.o.n,.slice aa na ca] 149 (0,0))):=(Below.refl _ _).alloc zM _;have kA:=zI w (.cells #[.int .i64 3,.int .i64 t.k,.int .i64 t.out,.int .i64 t.n,.slice t.aA t.nA t.cA,.slice t.aE t.nE t.cE,.int .u8 t.o.elem,.int .i64 t.o.n,.slice aa na ca] 149 (0,0));have hc:=jB { t with op:=3 } f r _ (hG.under b1) (hl.under b1);have e:Sk.operates ({ t with op:=3 }:TRv).k ({ t with op:=3 }:TRv).o (f :: r)=Sk.operates t.k t.o (f :: r):=rfl;rw [e] at hc;clear e;generalize Sk.operates t.k t.o (f :: r)=R at hc;clear hl hG;go_enter Tryz.func133,Tryz.ntmps133;go_upto_region 8 with fail;generalize w.alloc (.cells #[.int .i64 3,.int .i64 t.k,.int .i64 t.out,.int .i64 t.n,.slice t.aA t.nA t.cA,.slice t.aE t.nE t.cE,.int .u8 t.o.elem,.int .i64 t.o.n,.slice aa na ca] 149 (0,0))=w1 at b1 kA hc ⊢;have u0:=coQ kA 0;have u1:=coQ kA 1;have u2:=coQ kA 2;have u3:=coQ kA 3;have u4:=coQ kA 4;have u5:=coQ kA 5;have u6:=coQ kA 6;have u7:=coQ kA 7;have u8:=coQ kA 8;simp at u0 u1 u2 u3 u4 u5 u6 u7 u8;have yA:=zG kA;go_wp2_with fail;refine hc.mono ?_;rintro e w2 ⟨rfl,b2⟩;go_wp2;go_ret;exact ⟨rfl,b1.trans (b2.mono b1.size)⟩
theorem fits4_any {ok:Nat->Prop} (t:TRv) {aa:Option Addr} {na ca:Nat} (f:Sk.Vr) (r:List Sk.Vr) (w:World) (hG:GlobK w) (hl:HVars ok w (.slice aa na ca) (f :: r)) :
  Calls Tryz.prog 133 #[.agg #[.int .i64 4,.int .i64 t.k,.int .i64 t.out,.int .i64 t.n,.slice t.aA t.nA t.cA,.slice t.aE t.nE t.cE,.int .u8 t.o.elem,.int .i64 t.o.n,.slice aa na ca]] w fun e w'=>e=.returned (.bool (Sk.operates t.k t.o (f :: r)))/\Below w.heap.size w w':=by
 have b1:Below w.heap.size w (w.alloc (.cells #[.int .i64 4,.int .i64 t.k,.int .i64 t.out,.int .i64 t.n,.slice t.aA t.nA t.cA,.slice t.aE t.nE t.cE,.int .u8 t.o.elem,.int .i64 t.o.n,.slice aa na ca] 149 (0,0))):=(Below.refl _ _).alloc zM _;have kA:=zI w (.cells #[.int .i64 4,.int .i64 t.k,.int .i64 t.out,.int .i64 t.n,.slice t.aA t.nA t.cA,.slice t.aE t.nE t.cE,.int .u8 t.o.elem,.int .i64 t.o.n,.slice aa na ca] 149 (0,0));have hc:=jB { t with op:=4 } f r _ (hG.under b1) (hl.under b1);have e:Sk.operates ({ t with op:=4 }:TRv).k ({ t with op:=4 }:TRv).o (f :: r)=Sk.operates t.k t.o (f :: r):=rfl;rw [e] at hc;clear e;generalize Sk.operates t.k t.o (f :: r)=R at hc;clear hl hG;go_enter Tryz.func133,Tryz.ntmps133;go_upto_region 8 with fail;generalize w.alloc (.cells #[.int .i64 4,.int .i64 t.k,.int .i64 t.out,.int .i64 t.n,.slice t.aA t.nA t.cA,.slice t.aE t.nE t.cE,.int .u8 t.o.elem,.int .i64 t.o.n,.slice aa na ca] 149 (0,0))=w1 at b1 kA hc ⊢;have u0:=coQ kA 0;have u1:=coQ kA 1;have u2:=coQ kA 2;have u3:=coQ kA 3;have u4:=coQ kA 4;have u5:=coQ kA 5;have u6:=coQ kA 6;have u7:=coQ kA 7;have u8:=coQ kA 8;simp at u0 u1 u2 u3 u4 u5 u6 u7 u8;have yA:=zG kA;go_wp2_with fail;refine hc.mono ?_;rintro e w2 ⟨rfl,b2⟩;go_wp2;go_ret;exact ⟨rfl,b1.trans (b2.mono b1.size)⟩
end Go.Proofs.YtegakbobaecdlaaGreatDoor
