import Derived.Test.YtegakbobaecdlaaGreatDoorG12
import Derived.WalkKit
import Derived.WalkSpells
import Derived.IntWalk
import Derived.Deep.Cut
import Derived.Deep.LoopGhost
import Derived.Lib.Hide
import Derived.Laws.Cover1
set_option linter.unusedVariables false
set_option linter.unusedSimpArgs false
set_option maxHeartbeats 64000000
set_option maxRecDepth 100000
namespace Go.Proofs.YtegakbobaecdlaaGreatDoor
open Go.RowKit Go.IntWalk
theorem qN (n:Int) (w:World):Calls Tryz.prog 145 #[.int .i64 n] w fun e w'=>e=.returned (.bool (Sk.truth n))/\Below w.heap.size w w' :=
 (isTruthS_any n w).mono fun _ _ ⟨h1,h2⟩=>⟨h1,h2 ▸ Below.refl _ _⟩
theorem fits1_any (t:TRv) {aa:Option Addr} {na ca:Nat} (w:World) (hG:GlobK w) :
  Calls Tryz.prog 133 #[.agg #[.int .i64 1,.int .i64 t.k,.int .i64 t.out,.int .i64 t.n,.slice t.aA t.nA t.cA,.slice t.aE t.nE t.cE,.int .u8 t.o.elem,.int .i64 t.o.n,.slice aa na ca]] w fun e w'=>e=.returned (.bool (Sk.same t.o (Sk.sc 105) || (Sk.same t.o (Sk.sc 98)&&Sk.truth t.n)))/\Below w.heap.size w w':=by
 have b1:Below w.heap.size w (w.alloc (.cells #[.int .i64 1,.int .i64 t.k,.int .i64 t.out,.int .i64 t.n,.slice t.aA t.nA t.cA,.slice t.aE t.nE t.cE,.int .u8 t.o.elem,.int .i64 t.o.n,.slice aa na ca] 149 (0,0))):=(Below.refl _ _).alloc zL _;have kA:=zJ w (.cells #[.int .i64 1,.int .i64 t.k,.int .i64 t.out,.int .i64 t.n,.slice t.aA t.nA t.cA,.slice t.aE t.nE t.cE,.int .u8 t.o.elem,.int .i64 t.o.n,.slice aa na ca] 149 (0,0));have HG1:=zG (hG.under b1);obtain ⟨R,hR⟩:=nmQ ((Sk.same t.o (Sk.sc 105) || (Sk.same t.o (Sk.sc 98)&&Sk.truth t.n)));rw [<-hR];have hc3:∀ V,Calls Tryz.prog 145 #[.int .i64 t.n] V fun e w'=>e=.returned (.bool (Sk.truth t.n))/\Below V.heap.size V w':=qN t.n;obtain ⟨q1,hq1⟩:=nmQ (Sk.same t.o (Sk.sc 105));rw [<-hq1] at hR;have HQ1:=zG hq1;obtain ⟨q2,hq2⟩:=nmQ (Sk.same t.o (Sk.sc 98));rw [<-hq2] at hR;have HQ2:=zG hq2;obtain ⟨q3,hq3⟩:=nmQ (Sk.truth t.n);rw [<-hq3] at hR hc3;have HQ3:=zG hq3;have HR:=zG hR;clear hR hG hq1 hq2 hq3;go_enter Tryz.func133,Tryz.ntmps133;go_upto_region 3 with fail;generalize w.alloc (.cells #[.int .i64 1,.int .i64 t.k,.int .i64 t.out,.int .i64 t.n,.slice t.aA t.nA t.cA,.slice t.aE t.nE t.cE,.int .u8 t.o.elem,.int .i64 t.o.n,.slice aa na ca] 149 (0,0))=w1 at b1 kA HG1  ⊢;have u0:=coQ kA 0;have u1:=coQ kA 1;have u2:=coQ kA 2;have u3:=coQ kA 3;have u4:=coQ kA 4;have u5:=coQ kA 5;have u6:=coQ kA 6;have u7:=coQ kA 7;have u8:=coQ kA 8;simp at u0 u1 u2 u3 u4 u5 u6 u7 u8;have yA:=zH kA;refine zK (fun w'=>Below w1.heap.size w1 w') (fun _=>false) (by kernel_rfl) ?_;have hH0:Below w1.heap.size w1 w1.drew:=(Below.refl _ _).drew;generalize w1.drew=wd0 at hH0 ⊢;refine' tkR 0 8 hH0 ?o1
 refine' tkQ 1 9 hH0 ?hyv ?o2
 case hyv=>
  intro wz hSw;have zc0:=(hSw.cell (p:=⟨w.heap.size,0,none⟩) yA).trans u0;have zc1:=(hSw.cell (p:=⟨w.heap.size,1,none⟩) yA).trans u1;have zc2:=(hSw.cell (p:=⟨w.heap.size,2,none⟩) yA).trans u2;have zc3:=(hSw.cell (p:=⟨w.heap.size,3,none⟩) yA).trans u3;have zc4:=(hSw.cell (p:=⟨w.heap.size,4,none⟩) yA).trans u4;have zc5:=(hSw.cell (p:=⟨w.heap.size,5,none⟩) yA).trans u5;have zc6:=(hSw.cell (p:=⟨w.heap.size,6,none⟩) yA).trans u6;have zc7:=(hSw.cell (p:=⟨w.heap.size,7,none⟩) yA).trans u7;have zc8:=(hSw.cell (p:=⟨w.heap.size,8,none⟩) yA).trans u8;go_simp
  try rfl
 try simp only [Act.put,sT,sZ,sS]
 refine tnQ 2 (fun K hK=>?_);go_simp;refine (xD 105 wd0).mono ?_;rintro eq wd1 ⟨rfl,bq1⟩;have hH1:Below w1.heap.size w1 wd1:=hH0.trans (bq1.mono hH0.size);refine hK.out _ _ (fun _=>hH1) ?_;clear hK K
 try simp only [Act.put,sT,sZ,sS]
 refine' zM (i:=3) (oi:=⟨some 11,_,_,_,_,_⟩) (v:=.bool q1) rfl (by kernel_rfl) (by kernel_rfl) (by kernel_rfl) (by kernel_rfl) (fun _ _ _ h=>h) hH1 (by rfl) ?hyv ?o3
 case hyv=>
  intro wz hSw;go_simp;rw [HQ1.out];unfold Sk.same;by_cases h1:t.o.elem=(Sk.sc 105).elem<;>by_cases h2:t.o.n=(Sk.sc 105).n<;>simp [h1,h2]
 try simp only [Act.put,sT,sZ,sS]
 refine' tkR 4 12 hH1 ?o4
 cases q1
 case false=>
  refine' tkR 5 13 hH1 ?o5
  refine' tkQ 6 14 hH1 ?hyv ?o6
  case hyv=>
   intro wz hSw;have zc0:=(hSw.cell (p:=⟨w.heap.size,0,none⟩) yA).trans u0;have zc1:=(hSw.cell (p:=⟨w.heap.size,1,none⟩) yA).trans u1;have zc2:=(hSw.cell (p:=⟨w.heap.size,2,none⟩) yA).trans u2;have zc3:=(hSw.cell (p:=⟨w.heap.size,3,none⟩) yA).trans u3;have zc4:=(hSw.cell (p:=⟨w.heap.size,4,none⟩) yA).trans u4;have zc5:=(hSw.cell (p:=⟨w.heap.size,5,none⟩) yA).trans u5;have zc6:=(hSw.cell (p:=⟨w.heap.size,6,none⟩) yA).trans u6;have zc7:=(hSw.cell (p:=⟨w.heap.size,7,none⟩) yA).trans u7;have zc8:=(hSw.cell (p:=⟨w.heap.size,8,none⟩) yA).trans u8;go_simp
   try rfl
  try simp only [Act.put,sT,sZ,sS]
  refine tnQ 7 (fun K hK=>?_);go_simp;refine (xD 98 wd1).mono ?_;rintro eq wd2 ⟨rfl,bq2⟩;have hH2:Below w1.heap.size w1 wd2:=hH1.trans (bq2.mono hH1.size);refine hK.out _ _ (fun _=>hH2) ?_;clear hK K
  try simp only [Act.put,sT,sZ,sS]
  refine' zM (i:=8) (oi:=⟨some 16,_,_,_,_,_⟩) (v:=.bool q2) rfl (by kernel_rfl) (by kernel_rfl) (by kernel_rfl) (by kernel_rfl) (fun _ _ _ h=>h) hH2 (by rfl) ?hyv ?o7
  case hyv=>
   intro wz hSw;go_simp;rw [HQ2.out];unfold Sk.same;by_cases h1:t.o.elem=(Sk.sc 98).elem<;>by_cases h2:t.o.n=(Sk.sc 98).n<;>simp [h1,h2]
  try simp only [Act.put,sT,sZ,sS]
  refine' tkR 9 17 hH2 ?o8
  cases q2
  case false=>
   refine zD (i:=10) (oi:=⟨some 18,_,_,_,_,_⟩) rfl (by kernel_rfl) (by kernel_rfl) (by kernel_rfl) (by kernel_rfl) (fun _ _ _ h=>h) hH2 (by rfl) ?_
   try simp only [Act.put,sT,sZ,sS]
   refine zD (i:=11) (oi:=⟨some 19,_,_,_,_,_⟩) rfl (by kernel_rfl) (by kernel_rfl) (by kernel_rfl) (by kernel_rfl) (fun _ _ _ h=>h) hH2 (by rfl) ?_
   try simp only [Act.put,sT,sZ,sS]
   refine zD (i:=12) (oi:=⟨some 20,_,_,_,_,_⟩) rfl (by kernel_rfl) (by kernel_rfl) (by kernel_rfl) (by kernel_rfl) (fun _ _ _ h=>h) hH2 (by rfl) ?_
   try simp only [Act.put,sT,sZ,sS]
   refine zD (i:=13) (oi:=⟨some 21,_,_,_,_,_⟩) rfl (by kernel_rfl) (by kernel_rfl) (by kernel_rfl) (by kernel_rfl) (fun _ _ _ h=>h) hH2 (by rfl) ?_
   try simp only [Act.put,sT,sZ,sS]
   refine' tkR 14 22 hH2 ?o9
   refine' tkR 15 23 hH2 ?o10
   refine' tkR 16 2 hH2 ?o11
   refine zI (by kernel_rfl) ?_ _;go_wp2;go_ret;refine ⟨?_,b1.trans (hH2.mono b1.size)⟩;rw [HR.out]
   first | rfl | simp
  case true=>
   refine' tkR 10 18 hH2 ?o12
   refine' tkR 11 19 hH2 ?o13
   refine' tkQ 12 20 hH2 ?hyv ?o14
   case hyv=>
    intro wz hSw;have zc0:=(hSw.cell (p:=⟨w.heap.size,0,none⟩) yA).trans u0;have zc1:=(hSw.cell (p:=⟨w.heap.size,1,none⟩) yA).trans u1;have zc2:=(hSw.cell (p:=⟨w.heap.size,2,none⟩) yA).trans u2;have zc3:=(hSw.cell (p:=⟨w.heap.size,3,none⟩) yA).trans u3;have zc4:=(hSw.cell (p:=⟨w.heap.size,4,none⟩) yA).trans u4;have zc5:=(hSw.cell (p:=⟨w.heap.size,5,none⟩) yA).trans u5;have zc6:=(hSw.cell (p:=⟨w.heap.size,6,none⟩) yA).trans u6;have zc7:=(hSw.cell (p:=⟨w.heap.size,7,none⟩) yA).trans u7;have zc8:=(hSw.cell (p:=⟨w.heap.size,8,none⟩) yA).trans u8;go_simp
    try rfl
   try simp only [Act.put,sT,sZ,sS]
   refine tnQ 13 (fun K hK=>?_);go_simp;refine (hc3 wd2).mono ?_;rintro eq wd3 ⟨rfl,bq3⟩;have hH3:Below w1.heap.size w1 wd3:=hH2.trans (bq3.mono hH2.size);refine hK.out _ _ (fun _=>hH3) ?_;clear hK K
   try simp only [Act.put,sT,sZ,sS]
   refine' tkR 14 22 hH3 ?o15
   refine' tkR 15 23 hH3 ?o16
   refine' tkR 16 2 hH3 ?o17
   refine zI (by kernel_rfl) ?_ _;go_wp2;go_ret;refine ⟨?_,b1.trans (hH3.mono b1.size)⟩;rw [HR.out]
   first | rfl | simp
 case true=>
  refine zD (i:=5) (oi:=⟨some 13,_,_,_,_,_⟩) rfl (by kernel_rfl) (by kernel_rfl) (by kernel_rfl) (by kernel_rfl) (fun _ _ _ h=>h) hH1 (by rfl) ?_
  try simp only [Act.put,sT,sZ,sS]
  refine zD (i:=6) (oi:=⟨some 14,_,_,_,_,_⟩) rfl (by kernel_rfl) (by kernel_rfl) (by kernel_rfl) (by kernel_rfl) (fun _ _ _ h=>h) hH1 (by rfl) ?_
  try simp only [Act.put,sT,sZ,sS]
  refine zD (i:=7) (oi:=⟨some 15,_,_,_,_,_⟩) rfl (by kernel_rfl) (by kernel_rfl) (by kernel_rfl) (by kernel_rfl) (fun _ _ _ h=>h) hH1 (by rfl) ?_
  try simp only [Act.put,sT,sZ,sS]
  refine zD (i:=8) (oi:=⟨some 16,_,_,_,_,_⟩) rfl (by kernel_rfl) (by kernel_rfl) (by kernel_rfl) (by kernel_rfl) (fun _ _ _ h=>h) hH1 (by rfl) ?_
  try simp only [Act.put,sT,sZ,sS]
  refine zD (i:=9) (oi:=⟨some 17,_,_,_,_,_⟩) rfl (by kernel_rfl) (by kernel_rfl) (by kernel_rfl) (by kernel_rfl) (fun _ _ _ h=>h) hH1 (by rfl) ?_
  try simp only [Act.put,sT,sZ,sS]
  refine zD (i:=10) (oi:=⟨some 18,_,_,_,_,_⟩) rfl (by kernel_rfl) (by kernel_rfl) (by kernel_rfl) (by kernel_rfl) (fun _ _ _ h=>h) hH1 (by rfl) ?_
  try simp only [Act.put,sT,sZ,sS]
  refine zD (i:=11) (oi:=⟨some 19,_,_,_,_,_⟩) rfl (by kernel_rfl) (by kernel_rfl) (by kernel_rfl) (by kernel_rfl) (fun _ _ _ h=>h) hH1 (by rfl) ?_
  try simp only [Act.put,sT,sZ,sS]
  refine zD (i:=12) (oi:=⟨some 20,_,_,_,_,_⟩) rfl (by kernel_rfl) (by kernel_rfl) (by kernel_rfl) (by kernel_rfl) (fun _ _ _ h=>h) hH1 (by rfl) ?_
  try simp only [Act.put,sT,sZ,sS]
  refine zD (i:=13) (oi:=⟨some 21,_,_,_,_,_⟩) rfl (by kernel_rfl) (by kernel_rfl) (by kernel_rfl) (by kernel_rfl) (fun _ _ _ h=>h) hH1 (by rfl) ?_
  try simp only [Act.put,sT,sZ,sS]
  refine zD (i:=14) (oi:=⟨some 22,_,_,_,_,_⟩) rfl (by kernel_rfl) (by kernel_rfl) (by kernel_rfl) (by kernel_rfl) (fun _ _ _ h=>h) hH1 (by rfl) ?_
  try simp only [Act.put,sT,sZ,sS]
  refine' tkR 15 23 hH1 ?o18
  refine' tkR 16 2 hH1 ?o19
  refine zI (by kernel_rfl) ?_ _;go_wp2;go_ret;refine ⟨?_,b1.trans (hH1.mono b1.size)⟩;rw [HR.out]
  first | rfl | simp
theorem fits3_any {ok:Nat->Prop} (t:TRv) {aa:Option Addr} {na ca:Nat} (f:Sk.Vr) (r:List Sk.Vr) (w:World) (hG:GlobK w) (hl:HVars ok w (.slice aa na ca) (f :: r)) :
  Calls Tryz.prog 133 #[.agg #[.int .i64 3,.int .i64 t.k,.int .i64 t.out,.int .i64 t.n,.slice t.aA t.nA t.cA,.slice t.aE t.nE t.cE,.int .u8 t.o.elem,.int .i64 t.o.n,.slice aa na ca]] w fun e w'=>e=.returned (.bool (Sk.operates t.k t.o (f :: r)))/\Below w.heap.size w w':=by
 have b1:Below w.heap.size w (w.alloc (.cells #[.int .i64 3,.int .i64 t.k,.int .i64 t.out,.int .i64 t.n,.slice t.aA t.nA t.cA,.slice t.aE t.nE t.cE,.int .u8 t.o.elem,.int .i64 t.o.n,.slice aa na ca] 149 (0,0))):=(Below.refl _ _).alloc zL _;have kA:=zJ w (.cells #[.int .i64 3,.int .i64 t.k,.int .i64 t.out,.int .i64 t.n,.slice t.aA t.nA t.cA,.slice t.aE t.nE t.cE,.int .u8 t.o.elem,.int .i64 t.o.n,.slice aa na ca] 149 (0,0));have hc:=qQ { t with op:=3 } f r _ (hG.under b1) (hl.under b1);have e:Sk.operates ({ t with op:=3 }:TRv).k ({ t with op:=3 }:TRv).o (f :: r)=Sk.operates t.k t.o (f :: r):=rfl;rw [e] at hc;clear e;generalize Sk.operates t.k t.o (f :: r)=R at hc;clear hl hG;go_enter Tryz.func133,Tryz.ntmps133;go_upto_region 8 with fail;generalize w.alloc (.cells #[.int .i64 3,.int .i64 t.k,.int .i64 t.out,.int .i64 t.n,.slice t.aA t.nA t.cA,.slice t.aE t.nE t.cE,.int .u8 t.o.elem,.int .i64 t.o.n,.slice aa na ca] 149 (0,0))=w1 at b1 kA hc ⊢;have u0:=coQ kA 0;have u1:=coQ kA 1;have u2:=coQ kA 2;have u3:=coQ kA 3;have u4:=coQ kA 4;have u5:=coQ kA 5;have u6:=coQ kA 6;have u7:=coQ kA 7;have u8:=coQ kA 8;simp at u0 u1 u2 u3 u4 u5 u6 u7 u8;have yA:=zH kA;go_wp2_with fail;refine hc.mono ?_;rintro e w2 ⟨rfl,b2⟩;go_wp2;go_ret;exact ⟨rfl,b1.trans (b2.mono b1.size)⟩
theorem fits4_any {ok:Nat->Prop} (t:TRv) {aa:Option Addr} {na ca:Nat} (f:Sk.Vr) (r:List Sk.Vr) (w:World) (hG:GlobK w) (hl:HVars ok w (.slice aa na ca) (f :: r)) :
  Calls Tryz.prog 133 #[.agg #[.int .i64 4,.int .i64 t.k,.int .i64 t.out,.int .i64 t.n,.slice t.aA t.nA t.cA,.slice t.aE t.nE t.cE,.int .u8 t.o.elem,.int .i64 t.o.n,.slice aa na ca]] w fun e w'=>e=.returned (.bool (Sk.operates t.k t.o (f :: r)))/\Below w.heap.size w w':=by
 have b1:Below w.heap.size w (w.alloc (.cells #[.int .i64 4,.int .i64 t.k,.int .i64 t.out,.int .i64 t.n,.slice t.aA t.nA t.cA,.slice t.aE t.nE t.cE,.int .u8 t.o.elem,.int .i64 t.o.n,.slice aa na ca] 149 (0,0))):=(Below.refl _ _).alloc zL _;have kA:=zJ w (.cells #[.int .i64 4,.int .i64 t.k,.int .i64 t.out,.int .i64 t.n,.slice t.aA t.nA t.cA,.slice t.aE t.nE t.cE,.int .u8 t.o.elem,.int .i64 t.o.n,.slice aa na ca] 149 (0,0));have hc:=qQ { t with op:=4 } f r _ (hG.under b1) (hl.under b1);have e:Sk.operates ({ t with op:=4 }:TRv).k ({ t with op:=4 }:TRv).o (f :: r)=Sk.operates t.k t.o (f :: r):=rfl;rw [e] at hc;clear e;generalize Sk.operates t.k t.o (f :: r)=R at hc;clear hl hG;go_enter Tryz.func133,Tryz.ntmps133;go_upto_region 8 with fail;generalize w.alloc (.cells #[.int .i64 4,.int .i64 t.k,.int .i64 t.out,.int .i64 t.n,.slice t.aA t.nA t.cA,.slice t.aE t.nE t.cE,.int .u8 t.o.elem,.int .i64 t.o.n,.slice aa na ca] 149 (0,0))=w1 at b1 kA hc ⊢;have u0:=coQ kA 0;have u1:=coQ kA 1;have u2:=coQ kA 2;have u3:=coQ kA 3;have u4:=coQ kA 4;have u5:=coQ kA 5;have u6:=coQ kA 6;have u7:=coQ kA 7;have u8:=coQ kA 8;simp at u0 u1 u2 u3 u4 u5 u6 u7 u8;have yA:=zH kA;go_wp2_with fail;refine hc.mono ?_;rintro e w2 ⟨rfl,b2⟩;go_wp2;go_ret;exact ⟨rfl,b1.trans (b2.mono b1.size)⟩
end Go.Proofs.YtegakbobaecdlaaGreatDoor
namespace Go.Proofs.YtegakbobaecdlaaGreatDoor
open Go.RowKit Go.IntWalk
namespace Sk
def tooMany (nV nI nO nR:Nat):Bool:=decide (400<nV) || decide (400<nI) || decide (400<nO) || decide (400<nR)
def partsT:List Int:=[0,0,1,1,2,3,2,2,1,3,3,1,2,2,0,1,1]
def hasForm (op:Int) (nA:Nat):Bool:=(decide (1<=op)&&decide (op<=16))&&((nA:Int)==partsT.getD op.toNat 0)
end Sk
def GlobP (w:World):Prop:=0<w.heap.size/\∀ k,k<17->w.cell? ⟨0,k,none⟩=some (.int .i64 (Sk.partsT.getD k 0))
theorem GlobP.under {w w':World} (h:GlobP w) (b:Below w.heap.size w w'):GlobP w' :=
 ⟨Nat.lt_of_lt_of_le h.1 b.size,fun k hk=>(b.cell (p:=⟨0,k,none⟩) h.1).trans (h.2 k hk)⟩
theorem jL (aV aI aO aR:Option Addr) (nV cV nI cI nO cO nR cR:Nat) (h1:nV<=cV/\cV<=maxLen) (h2:nI<=cI/\cI<=maxLen) (h3:nO<=cO/\cO<=maxLen) (h4:nR<=cR/\cR<=maxLen) (w:World) :
  Calls Tryz.prog 80 #[.agg #[.slice aV nV cV,.slice aI nI cI,.slice aO nO cO,.slice aR nR cR]] w fun e w'=>e=.returned (.bool (Sk.tooMany nV nI nO nR))/\Below w.heap.size w w':=by
 have bA:Below w.heap.size w (w.alloc (.cells #[.slice aV nV cV,.slice aI nI cI,.slice aO nO cO,.slice aR nR cR] 26 (0,0))):=(Below.refl _ _).alloc zL _;unfold maxLen at h1 h2 h3 h4;unfold Sk.tooMany;go_enter Tryz.func80,Tryz.ntmps80;go_wp2
 all_goals go_ret
 all_goals refine ⟨?_,bA⟩
 all_goals refine congrArg (fun q=>Ending.returned (Value.bool q)) ?_
 all_goals apply Bool.eq_iff_iff.2
 all_goals simp
 all_goals omega
theorem hasForm_low (op:Int) (k out n:Int) (aA aE:Option Addr) (nA cA nE cE:Nat) (hA:nA<=cA) (hA2:cA<=9223372036854775807) (h:op<1) (w:World) (hP:GlobP w) :
  Calls Tryz.prog 113 #[.agg #[.int .i64 op,.int .i64 k,.int .i64 out,.int .i64 n,.slice aA nA cA,.slice aE nE cE]] w fun e w'=>e=.returned (.bool (false))/\Below w.heap.size w w':=by
  have b1:Below w.heap.size w (w.alloc (.cells #[.int .i64 op,.int .i64 k,.int .i64 out,.int .i64 n,.slice aA nA cA,.slice aE nE cE] 40 (0,0))):=(Below.refl _ _).alloc zL _;have kA:=zJ w (.cells #[.int .i64 op,.int .i64 k,.int .i64 out,.int .i64 n,.slice aA nA cA,.slice aE nE cE] 40 (0,0));have HP1:=zG (hP.under b1);clear hP;go_enter Tryz.func113,Tryz.ntmps113;go_upto_region 1 with fail;generalize w.alloc (.cells #[.int .i64 op,.int .i64 k,.int .i64 out,.int .i64 n,.slice aA nA cA,.slice aE nE cE] 40 (0,0))=w1 at b1 kA HP1 ⊢;have a0:=coQ kA 0;have a1:=coQ kA 1;have a2:=coQ kA 2;have a3:=coQ kA 3;have a4:=coQ kA 4;have a5:=coQ kA 5;simp at a0 a1 a2 a3 a4 a5;have yA:=zH kA;refine zK (fun w'=>Below w1.heap.size w1 w') (fun _=>false) (by kernel_rfl) ?_;have hH0:Below w1.heap.size w1 w1.drew:=(Below.refl _ _).drew;generalize w1.drew=wd0 at hH0 ⊢;refine' tkR 0 3 hH0 ?o1
  refine' tkQ 1 4 hH0 ?hyv ?o2
  case hyv=>
   intro wz hSw;have zc0:=(hSw.cell (p:=⟨w.heap.size,0,none⟩) yA).trans a0;have zc1:=(hSw.cell (p:=⟨w.heap.size,1,none⟩) yA).trans a1;have zc2:=(hSw.cell (p:=⟨w.heap.size,2,none⟩) yA).trans a2;have zc3:=(hSw.cell (p:=⟨w.heap.size,3,none⟩) yA).trans a3;have zc4:=(hSw.cell (p:=⟨w.heap.size,4,none⟩) yA).trans a4;have zc5:=(hSw.cell (p:=⟨w.heap.size,5,none⟩) yA).trans a5;go_simp
   try rfl
  try simp only [Act.put,sT,sZ,sS]
  refine' zM (i:=2) (oi:=⟨some 5,_,_,_,_,_⟩) (v:=.bool false) rfl (by kernel_rfl) (by kernel_rfl) (by kernel_rfl) (by kernel_rfl) (fun _ _ _ h=>h) hH0 (by rfl) ?hyv ?o3
  case hyv=>
   intro wz hSw;go_simp
   try simp
   try omega
  try simp only [Act.put,sT,sZ,sS]
  refine' tkR 3 6 hH0 ?o4
  refine zD (i:=4) (oi:=⟨some 7,_,_,_,_,_⟩) rfl (by kernel_rfl) (by kernel_rfl) (by kernel_rfl) (by kernel_rfl) (fun _ _ _ h=>h) hH0 (by rfl) ?_
  try simp only [Act.put,sT,sZ,sS]
  refine zD (i:=5) (oi:=⟨some 8,_,_,_,_,_⟩) rfl (by kernel_rfl) (by kernel_rfl) (by kernel_rfl) (by kernel_rfl) (fun _ _ _ h=>h) hH0 (by rfl) ?_
  try simp only [Act.put,sT,sZ,sS]
  refine zD (i:=6) (oi:=⟨some 9,_,_,_,_,_⟩) rfl (by kernel_rfl) (by kernel_rfl) (by kernel_rfl) (by kernel_rfl) (fun _ _ _ h=>h) hH0 (by rfl) ?_
  try simp only [Act.put,sT,sZ,sS]
  refine' tkR 7 10 hH0 ?o5
  refine' tkR 8 11 hH0 ?o6
  refine zD (i:=9) (oi:=⟨some 12,_,_,_,_,_⟩) rfl (by kernel_rfl) (by kernel_rfl) (by kernel_rfl) (by kernel_rfl) (fun _ _ _ h=>h) hH0 (by rfl) ?_
  try simp only [Act.put,sT,sZ,sS]
  refine zD (i:=10) (oi:=⟨some 13,_,_,_,_,_⟩) rfl (by kernel_rfl) (by kernel_rfl) (by kernel_rfl) (by kernel_rfl) (fun _ _ _ h=>h) hH0 (by rfl) ?_
  try simp only [Act.put,sT,sZ,sS]
  refine zD (i:=11) (oi:=⟨some 14,_,_,_,_,_⟩) rfl (by kernel_rfl) (by kernel_rfl) (by kernel_rfl) (by kernel_rfl) (fun _ _ _ h=>h) hH0 (by rfl) ?_
  try simp only [Act.put,sT,sZ,sS]
  refine zD (i:=12) (oi:=⟨some 15,_,_,_,_,_⟩) rfl (by kernel_rfl) (by kernel_rfl) (by kernel_rfl) (by kernel_rfl) (fun _ _ _ h=>h) hH0 (by rfl) ?_
  try simp only [Act.put,sT,sZ,sS]
  refine zD (i:=13) (oi:=⟨some 16,_,_,_,_,_⟩) rfl (by kernel_rfl) (by kernel_rfl) (by kernel_rfl) (by kernel_rfl) (fun _ _ _ h=>h) hH0 (by rfl) ?_
  try simp only [Act.put,sT,sZ,sS]
  refine zD (i:=14) (oi:=⟨some 17,_,_,_,_,_⟩) rfl (by kernel_rfl) (by kernel_rfl) (by kernel_rfl) (by kernel_rfl) (fun _ _ _ h=>h) hH0 (by rfl) ?_
  try simp only [Act.put,sT,sZ,sS]
  refine zD (i:=15) (oi:=⟨some 18,_,_,_,_,_⟩) rfl (by kernel_rfl) (by kernel_rfl) (by kernel_rfl) (by kernel_rfl) (fun _ _ _ h=>h) hH0 (by rfl) ?_
  try simp only [Act.put,sT,sZ,sS]
  refine zD (i:=16) (oi:=⟨some 19,_,_,_,_,_⟩) rfl (by kernel_rfl) (by kernel_rfl) (by kernel_rfl) (by kernel_rfl) (fun _ _ _ h=>h) hH0 (by rfl) ?_
  try simp only [Act.put,sT,sZ,sS]
  refine' tkR 17 20 hH0 ?o7
  refine' tkR 18 2 hH0 ?o8
  refine zI (by kernel_rfl) ?_ _;go_wp2;go_ret;exact ⟨rfl,b1.trans (hH0.mono b1.size)⟩
theorem hasForm_high (op:Int) (k out n:Int) (aA aE:Option Addr) (nA cA nE cE:Nat) (hA:nA<=cA) (hA2:cA<=9223372036854775807) (h:16<op) (w:World) (hP:GlobP w) :
  Calls Tryz.prog 113 #[.agg #[.int .i64 op,.int .i64 k,.int .i64 out,.int .i64 n,.slice aA nA cA,.slice aE nE cE]] w fun e w'=>e=.returned (.bool (false))/\Below w.heap.size w w':=by
  have b1:Below w.heap.size w (w.alloc (.cells #[.int .i64 op,.int .i64 k,.int .i64 out,.int .i64 n,.slice aA nA cA,.slice aE nE cE] 40 (0,0))):=(Below.refl _ _).alloc zL _;have kA:=zJ w (.cells #[.int .i64 op,.int .i64 k,.int .i64 out,.int .i64 n,.slice aA nA cA,.slice aE nE cE] 40 (0,0));have HP1:=zG (hP.under b1);clear hP;go_enter Tryz.func113,Tryz.ntmps113;go_upto_region 1 with fail;generalize w.alloc (.cells #[.int .i64 op,.int .i64 k,.int .i64 out,.int .i64 n,.slice aA nA cA,.slice aE nE cE] 40 (0,0))=w1 at b1 kA HP1 ⊢;have a0:=coQ kA 0;have a1:=coQ kA 1;have a2:=coQ kA 2;have a3:=coQ kA 3;have a4:=coQ kA 4;have a5:=coQ kA 5;simp at a0 a1 a2 a3 a4 a5;have yA:=zH kA;refine zK (fun w'=>Below w1.heap.size w1 w') (fun _=>false) (by kernel_rfl) ?_;have hH0:Below w1.heap.size w1 w1.drew:=(Below.refl _ _).drew;generalize w1.drew=wd0 at hH0 ⊢;refine' tkR 0 3 hH0 ?o9
  refine' tkQ 1 4 hH0 ?hyv ?o10
  case hyv=>
   intro wz hSw;have zc0:=(hSw.cell (p:=⟨w.heap.size,0,none⟩) yA).trans a0;have zc1:=(hSw.cell (p:=⟨w.heap.size,1,none⟩) yA).trans a1;have zc2:=(hSw.cell (p:=⟨w.heap.size,2,none⟩) yA).trans a2;have zc3:=(hSw.cell (p:=⟨w.heap.size,3,none⟩) yA).trans a3;have zc4:=(hSw.cell (p:=⟨w.heap.size,4,none⟩) yA).trans a4;have zc5:=(hSw.cell (p:=⟨w.heap.size,5,none⟩) yA).trans a5;go_simp
   try rfl
  try simp only [Act.put,sT,sZ,sS]
  refine' zM (i:=2) (oi:=⟨some 5,_,_,_,_,_⟩) (v:=.bool true) rfl (by kernel_rfl) (by kernel_rfl) (by kernel_rfl) (by kernel_rfl) (fun _ _ _ h=>h) hH0 (by rfl) ?hyv ?o11
  case hyv=>
   intro wz hSw;go_simp
   try simp
   try omega
  try simp only [Act.put,sT,sZ,sS]
  refine' tkR 3 6 hH0 ?o12
  refine' tkR 4 7 hH0 ?o13
  refine' tkQ 5 8 hH0 ?hyv ?o14
  case hyv=>
   intro wz hSw;have zc0:=(hSw.cell (p:=⟨w.heap.size,0,none⟩) yA).trans a0;have zc1:=(hSw.cell (p:=⟨w.heap.size,1,none⟩) yA).trans a1;have zc2:=(hSw.cell (p:=⟨w.heap.size,2,none⟩) yA).trans a2;have zc3:=(hSw.cell (p:=⟨w.heap.size,3,none⟩) yA).trans a3;have zc4:=(hSw.cell (p:=⟨w.heap.size,4,none⟩) yA).trans a4;have zc5:=(hSw.cell (p:=⟨w.heap.size,5,none⟩) yA).trans a5;go_simp
   try rfl
  try simp only [Act.put,sT,sZ,sS]
  refine' zM (i:=6) (oi:=⟨some 9,_,_,_,_,_⟩) (v:=.bool false) rfl (by kernel_rfl) (by kernel_rfl) (by kernel_rfl) (by kernel_rfl) (fun _ _ _ h=>h) hH0 (by rfl) ?hyv ?o15
  case hyv=>
   intro wz hSw;go_simp
   try simp
   try omega
  try simp only [Act.put,sT,sZ,sS]
  refine' tkR 7 10 hH0 ?o16
  refine' tkR 8 11 hH0 ?o17
  refine zD (i:=9) (oi:=⟨some 12,_,_,_,_,_⟩) rfl (by kernel_rfl) (by kernel_rfl) (by kernel_rfl) (by kernel_rfl) (fun _ _ _ h=>h) hH0 (by rfl) ?_
  try simp only [Act.put,sT,sZ,sS]
  refine zD (i:=10) (oi:=⟨some 13,_,_,_,_,_⟩) rfl (by kernel_rfl) (by kernel_rfl) (by kernel_rfl) (by kernel_rfl) (fun _ _ _ h=>h) hH0 (by rfl) ?_
  try simp only [Act.put,sT,sZ,sS]
  refine zD (i:=11) (oi:=⟨some 14,_,_,_,_,_⟩) rfl (by kernel_rfl) (by kernel_rfl) (by kernel_rfl) (by kernel_rfl) (fun _ _ _ h=>h) hH0 (by rfl) ?_
  try simp only [Act.put,sT,sZ,sS]
  refine zD (i:=12) (oi:=⟨some 15,_,_,_,_,_⟩) rfl (by kernel_rfl) (by kernel_rfl) (by kernel_rfl) (by kernel_rfl) (fun _ _ _ h=>h) hH0 (by rfl) ?_
  try simp only [Act.put,sT,sZ,sS]
  refine zD (i:=13) (oi:=⟨some 16,_,_,_,_,_⟩) rfl (by kernel_rfl) (by kernel_rfl) (by kernel_rfl) (by kernel_rfl) (fun _ _ _ h=>h) hH0 (by rfl) ?_
  try simp only [Act.put,sT,sZ,sS]
  refine zD (i:=14) (oi:=⟨some 17,_,_,_,_,_⟩) rfl (by kernel_rfl) (by kernel_rfl) (by kernel_rfl) (by kernel_rfl) (fun _ _ _ h=>h) hH0 (by rfl) ?_
  try simp only [Act.put,sT,sZ,sS]
  refine zD (i:=15) (oi:=⟨some 18,_,_,_,_,_⟩) rfl (by kernel_rfl) (by kernel_rfl) (by kernel_rfl) (by kernel_rfl) (fun _ _ _ h=>h) hH0 (by rfl) ?_
  try simp only [Act.put,sT,sZ,sS]
  refine zD (i:=16) (oi:=⟨some 19,_,_,_,_,_⟩) rfl (by kernel_rfl) (by kernel_rfl) (by kernel_rfl) (by kernel_rfl) (fun _ _ _ h=>h) hH0 (by rfl) ?_
  try simp only [Act.put,sT,sZ,sS]
  refine' tkR 17 20 hH0 ?o18
  refine' tkR 18 2 hH0 ?o19
  refine zI (by kernel_rfl) ?_ _;go_wp2;go_ret;exact ⟨rfl,b1.trans (hH0.mono b1.size)⟩
theorem hasForm_mid (j:Nat) (k out n:Int) (aA aE:Option Addr) (nA cA nE cE:Nat) (hA:nA<=cA) (hA2:cA<=9223372036854775807) (h:1<=j) (h2:j<=16) (w:World) (hP:GlobP w) :
  Calls Tryz.prog 113 #[.agg #[.int .i64 (j:Int),.int .i64 k,.int .i64 out,.int .i64 n,.slice aA nA cA,.slice aE nE cE]] w fun e w'=>e=.returned (.bool ((nA:Int)==Sk.partsT.getD j 0))/\Below w.heap.size w w':=by
  have b1:Below w.heap.size w (w.alloc (.cells #[.int .i64 (j:Int),.int .i64 k,.int .i64 out,.int .i64 n,.slice aA nA cA,.slice aE nE cE] 40 (0,0))):=(Below.refl _ _).alloc zL _;have kA:=zJ w (.cells #[.int .i64 (j:Int),.int .i64 k,.int .i64 out,.int .i64 n,.slice aA nA cA,.slice aE nE cE] 40 (0,0));have HP1:=zG (hP.under b1);clear hP;obtain ⟨pj,hpj⟩:=nmQ (Sk.partsT.getD j 0);rw [<-hpj];have HPJ:=zG hpj;clear hpj;go_enter Tryz.func113,Tryz.ntmps113;go_upto_region 1 with fail;generalize w.alloc (.cells #[.int .i64 (j:Int),.int .i64 k,.int .i64 out,.int .i64 n,.slice aA nA cA,.slice aE nE cE] 40 (0,0))=w1 at b1 kA HP1 ⊢;have a0:=coQ kA 0;have a1:=coQ kA 1;have a2:=coQ kA 2;have a3:=coQ kA 3;have a4:=coQ kA 4;have a5:=coQ kA 5;simp at a0 a1 a2 a3 a4 a5;have yA:=zH kA;have c0:=HP1.out.2 j (by omega);rw [<-HPJ.out] at c0;have y0:=HP1.out.1;refine zK (fun w'=>Below w1.heap.size w1 w') (fun _=>false) (by kernel_rfl) ?_;have hH0:Below w1.heap.size w1 w1.drew:=(Below.refl _ _).drew;generalize w1.drew=wd0 at hH0 ⊢;refine' tkR 0 3 hH0 ?o20
  refine' tkQ 1 4 hH0 ?hyv ?o21
  case hyv=>
   intro wz hSw;have zc0:=(hSw.cell (p:=⟨w.heap.size,0,none⟩) yA).trans a0;have zc1:=(hSw.cell (p:=⟨w.heap.size,1,none⟩) yA).trans a1;have zc2:=(hSw.cell (p:=⟨w.heap.size,2,none⟩) yA).trans a2;have zc3:=(hSw.cell (p:=⟨w.heap.size,3,none⟩) yA).trans a3;have zc4:=(hSw.cell (p:=⟨w.heap.size,4,none⟩) yA).trans a4;have zc5:=(hSw.cell (p:=⟨w.heap.size,5,none⟩) yA).trans a5;have zc6:=(hSw.cell (p:=⟨0,j,none⟩) y0).trans c0;go_simp
   try rfl
  try simp only [Act.put,sT,sZ,sS]
  refine' zM (i:=2) (oi:=⟨some 5,_,_,_,_,_⟩) (v:=.bool true) rfl (by kernel_rfl) (by kernel_rfl) (by kernel_rfl) (by kernel_rfl) (fun _ _ _ h=>h) hH0 (by rfl) ?hyv ?o22
  case hyv=>
   intro wz hSw;go_simp
   try simp
   try omega
  try simp only [Act.put,sT,sZ,sS]
  refine' tkR 3 6 hH0 ?o23
  refine' tkR 4 7 hH0 ?o24
  refine' tkQ 5 8 hH0 ?hyv ?o25
  case hyv=>
   intro wz hSw;have zc0:=(hSw.cell (p:=⟨w.heap.size,0,none⟩) yA).trans a0;have zc1:=(hSw.cell (p:=⟨w.heap.size,1,none⟩) yA).trans a1;have zc2:=(hSw.cell (p:=⟨w.heap.size,2,none⟩) yA).trans a2;have zc3:=(hSw.cell (p:=⟨w.heap.size,3,none⟩) yA).trans a3;have zc4:=(hSw.cell (p:=⟨w.heap.size,4,none⟩) yA).trans a4;have zc5:=(hSw.cell (p:=⟨w.heap.size,5,none⟩) yA).trans a5;have zc6:=(hSw.cell (p:=⟨0,j,none⟩) y0).trans c0;go_simp
   try rfl
  try simp only [Act.put,sT,sZ,sS]
  refine' zM (i:=6) (oi:=⟨some 9,_,_,_,_,_⟩) (v:=.bool true) rfl (by kernel_rfl) (by kernel_rfl) (by kernel_rfl) (by kernel_rfl) (fun _ _ _ h=>h) hH0 (by rfl) ?hyv ?o26
  case hyv=>
   intro wz hSw;go_simp
   try simp
   try omega
  try simp only [Act.put,sT,sZ,sS]
  refine' tkR 7 10 hH0 ?o27
  refine' tkR 8 11 hH0 ?o28
  refine' tkR 9 12 hH0 ?o29
  refine' tkQ 10 13 hH0 ?hyv ?o30
  case hyv=>
   intro wz hSw;have zc0:=(hSw.cell (p:=⟨w.heap.size,0,none⟩) yA).trans a0;have zc1:=(hSw.cell (p:=⟨w.heap.size,1,none⟩) yA).trans a1;have zc2:=(hSw.cell (p:=⟨w.heap.size,2,none⟩) yA).trans a2;have zc3:=(hSw.cell (p:=⟨w.heap.size,3,none⟩) yA).trans a3;have zc4:=(hSw.cell (p:=⟨w.heap.size,4,none⟩) yA).trans a4;have zc5:=(hSw.cell (p:=⟨w.heap.size,5,none⟩) yA).trans a5;have zc6:=(hSw.cell (p:=⟨0,j,none⟩) y0).trans c0;go_simp
   try rfl
  try simp only [Act.put,sT,sZ,sS]
  refine' tkR 11 14 hH0 ?o31
  refine' tkR 12 15 hH0 ?o32
  refine' tkQ 13 16 hH0 ?hyv ?o33
  case hyv=>
   intro wz hSw;have zc0:=(hSw.cell (p:=⟨w.heap.size,0,none⟩) yA).trans a0;have zc1:=(hSw.cell (p:=⟨w.heap.size,1,none⟩) yA).trans a1;have zc2:=(hSw.cell (p:=⟨w.heap.size,2,none⟩) yA).trans a2;have zc3:=(hSw.cell (p:=⟨w.heap.size,3,none⟩) yA).trans a3;have zc4:=(hSw.cell (p:=⟨w.heap.size,4,none⟩) yA).trans a4;have zc5:=(hSw.cell (p:=⟨w.heap.size,5,none⟩) yA).trans a5;have zc6:=(hSw.cell (p:=⟨0,j,none⟩) y0).trans c0;go_simp
   try rfl
  try simp only [Act.put,sT,sZ,sS]
  refine' zM (i:=14) (oi:=⟨some 17,_,_,_,_,_⟩) (v:=.pointer (some ⟨0,j,none⟩)) rfl (by kernel_rfl) (by kernel_rfl) (by kernel_rfl) (by kernel_rfl) (fun _ _ _ h=>h) hH0 (by rfl) ?hyv ?o34
  case hyv=>
   intro wz hSw;go_simp;intro hh;omega
  try simp only [Act.put,sT,sZ,sS]
  refine' tkQ 15 18 hH0 ?hyv ?o35
  case hyv=>
   intro wz hSw;have zc0:=(hSw.cell (p:=⟨w.heap.size,0,none⟩) yA).trans a0;have zc1:=(hSw.cell (p:=⟨w.heap.size,1,none⟩) yA).trans a1;have zc2:=(hSw.cell (p:=⟨w.heap.size,2,none⟩) yA).trans a2;have zc3:=(hSw.cell (p:=⟨w.heap.size,3,none⟩) yA).trans a3;have zc4:=(hSw.cell (p:=⟨w.heap.size,4,none⟩) yA).trans a4;have zc5:=(hSw.cell (p:=⟨w.heap.size,5,none⟩) yA).trans a5;have zc6:=(hSw.cell (p:=⟨0,j,none⟩) y0).trans c0;go_simp
   try rfl
  try simp only [Act.put,sT,sZ,sS]
  refine' zM (i:=16) (oi:=⟨some 19,_,_,_,_,_⟩) (v:=.bool ((nA:Int)==pj)) rfl (by kernel_rfl) (by kernel_rfl) (by kernel_rfl) (by kernel_rfl) (fun _ _ _ h=>h) hH0 (by rfl) ?hyv ?o36
  case hyv=>
   intro wz hSw;go_simp
   try rfl
  try simp only [Act.put,sT,sZ,sS]
  refine' tkR 17 20 hH0 ?o37
  refine' tkR 18 2 hH0 ?o38
  refine zI (by kernel_rfl) ?_ _;go_wp2;go_ret;exact ⟨rfl,b1.trans (hH0.mono b1.size)⟩
theorem own_low (op k out n:Int) (aA aE:Option Addr) (nA cA nE cE:Nat) (h:op<14) (w:World) :
  Calls Tryz.prog 114 #[.agg #[.int .i64 op,.int .i64 k,.int .i64 out,.int .i64 n,.slice aA nA cA,.slice aE nE cE]] w fun e w'=>e=.returned (.agg #[.int .i64 op,.int .i64 k,.int .i64 out,.int .i64 n,.slice aA nA cA,.slice none 0 0])/\Below w.heap.size w w':=by
 go_enter Tryz.func114,Tryz.ntmps114;go_wp2;exact bodyPost_ret (v:=.agg #[.int .i64 op,.int .i64 k,.int .i64 out,.int .i64 n,.slice aA nA cA,.slice none 0 0]) (by simp [results,Tryz.results114,go_sem]) rfl ⟨rfl,by
  repeat (first | exact Below.refl _ _ | refine Below.setCell ?_ (by simp) _ | refine Below.alloc ?_ (by simp) _)⟩
theorem own_tree (op k out n:Int) (aA aE:Option Addr) (nA cA nE cE:Nat) (h:14<=op) (w:World) :
  Calls Tryz.prog 114 #[.agg #[.int .i64 op,.int .i64 k,.int .i64 out,.int .i64 n,.slice aA nA cA,.slice aE nE cE]] w fun e w'=>e=.returned (.agg #[.int .i64 op,.int .i64 k,.int .i64 out,.int .i64 n,.slice aA nA cA,.slice aE nE cE])/\Below w.heap.size w w':=by
 go_enter Tryz.func114,Tryz.ntmps114;go_wp2;exact bodyPost_ret (v:=.agg #[.int .i64 op,.int .i64 k,.int .i64 out,.int .i64 n,.slice aA nA cA,.slice aE nE cE]) (by simp [results,Tryz.results114,go_sem]) rfl ⟨rfl,by
  repeat (first | exact Below.refl _ _ | refine Below.setCell ?_ (by simp) _ | refine Below.alloc ?_ (by simp) _)⟩
end Go.Proofs.YtegakbobaecdlaaGreatDoor
