import Derived.Test.YtfhghlpfeeiaeaaGreatDoorX09
import Derived.Deep.Cut
import Derived.Deep.LoopGhost
import Derived.IntWalk
import Derived.Lib.Hide
import Derived.WalkKit
import Derived.WalkSpells
import Derived.Laws.Cover1
set_option linter.unusedVariables false
set_option linter.unusedSimpArgs false
set_option maxHeartbeats 64000000
set_option maxRecDepth 100000
namespace Go.Proofs.YtfhghlpfeeiaeaaGreatDoor
open Go.RowKit Go.IntWalk
theorem zCq (n:Int) (w:World):Calls Tryz.prog 91 #[.int .i64 n] w fun e w'=>e=.returned (.bool (Sk.truth n))/\Below w.heap.size w w' :=
 (isTruthS_any n w).mono fun _ _ ⟨h1,h2⟩=>⟨h1,h2 ▸ Below.refl _ _⟩
theorem fits1_any (t:TRv) {aa:Option Addr} {na ca:Nat} (w:World) (hG:GlobK w) :
  Calls Tryz.prog 83 #[.agg #[.int .i64 1,.int .i64 t.k,.int .i64 t.out,.int .i64 t.n,.slice t.aA t.nA t.cA,.slice t.aE t.nE t.cE,.int .u8 t.o.elem,.int .i64 t.o.n,.slice aa na ca]] w fun e w'=>e=.returned (.bool (Sk.same t.o (Sk.sc 105) || (Sk.same t.o (Sk.sc 98)&&Sk.truth t.n)))/\Below w.heap.size w w':=by
 have b1:Below w.heap.size w (w.alloc (.cells #[.int .i64 1,.int .i64 t.k,.int .i64 t.out,.int .i64 t.n,.slice t.aA t.nA t.cA,.slice t.aE t.nE t.cE,.int .u8 t.o.elem,.int .i64 t.o.n,.slice aa na ca] 109 (0,0))):=(Below.refl _ _).alloc zBR _;have kA:=zBO w (.cells #[.int .i64 1,.int .i64 t.k,.int .i64 t.out,.int .i64 t.n,.slice t.aA t.nA t.cA,.slice t.aE t.nE t.cE,.int .u8 t.o.elem,.int .i64 t.o.n,.slice aa na ca] 109 (0,0));have fL:=zBK (hG.under b1);obtain ⟨R,hR⟩:=nmQ ((Sk.same t.o (Sk.sc 105) || (Sk.same t.o (Sk.sc 98)&&Sk.truth t.n)));rw [<-hR];have La:∀ V,Calls Tryz.prog 91 #[.int .i64 t.n] V fun e w'=>e=.returned (.bool (Sk.truth t.n))/\Below V.heap.size V w':=zCq t.n;obtain ⟨q1,bm⟩:=nmQ (Sk.same t.o (Sk.sc 105));rw [<-bm] at hR;have ib:=zBK bm;obtain ⟨q2,aY⟩:=nmQ (Sk.same t.o (Sk.sc 98));rw [<-aY] at hR;have eK:=zBK aY;obtain ⟨q3,da⟩:=nmQ (Sk.truth t.n);rw [<-da] at hR La;have ja:=zBK da;have HR:=zBK hR;clear hR hG bm aY da;go_enter Tryz.func83,Tryz.ntmps83;go_upto_region 3 with fail;generalize w.alloc (.cells #[.int .i64 1,.int .i64 t.k,.int .i64 t.out,.int .i64 t.n,.slice t.aA t.nA t.cA,.slice t.aE t.nE t.cE,.int .u8 t.o.elem,.int .i64 t.o.n,.slice aa na ca] 109 (0,0))=w1 at b1 kA fL  ⊢;have u0:=coQ kA 0;have u1:=coQ kA 1;have u2:=coQ kA 2;have u3:=coQ kA 3;have u4:=coQ kA 4;have u5:=coQ kA 5;have u6:=coQ kA 6;have u7:=coQ kA 7;have u8:=coQ kA 8;simp at u0 u1 u2 u3 u4 u5 u6 u7 u8;have yA:=zBM kA;have aM:=zBK (fun (wz:World) (hSw:Below w1.heap.size w1 wz)=>And.intro ((hSw.cell (p:=⟨w.heap.size,0,none⟩) yA).trans u0) (And.intro ((hSw.cell (p:=⟨w.heap.size,1,none⟩) yA).trans u1) (And.intro ((hSw.cell (p:=⟨w.heap.size,2,none⟩) yA).trans u2) (And.intro ((hSw.cell (p:=⟨w.heap.size,3,none⟩) yA).trans u3) (And.intro ((hSw.cell (p:=⟨w.heap.size,4,none⟩) yA).trans u4) (And.intro ((hSw.cell (p:=⟨w.heap.size,5,none⟩) yA).trans u5) (And.intro ((hSw.cell (p:=⟨w.heap.size,6,none⟩) yA).trans u6) (And.intro ((hSw.cell (p:=⟨w.heap.size,7,none⟩) yA).trans u7) ((hSw.cell (p:=⟨w.heap.size,8,none⟩) yA).trans u8)))))))));refine zBP (fun w'=>Below w1.heap.size w1 w') (fun _=>false) (by kernel_rfl) ?_;have ab:Below w1.heap.size w1 w1.drew:=(Below.refl _ _).drew;generalize w1.drew=ag at ab ⊢;refine' tkR 0 8 ab ?o1
 refine' tkQ 1 9 ab ?hyv ?o2
 case hyv=>
  intro wz hSw;have bk:=aM.out wz hSw;go_simp
  try rfl
 try simp only [Act.put,sT,sZ,sS]
 refine tnQ 2 (fun K hK=>?_);go_simp;refine (zBv 105 ag).mono ?_;rintro eq aw ⟨rfl,cY⟩;have af:Below w1.heap.size w1 aw:=ab.trans (cY.mono ab.size);refine hK.out _ _ (fun _=>af) ?_;clear hK K
 try simp only [Act.put,sT,sZ,sS]
 refine' zBS (i:=3) (oi:=⟨some 11,_,_,_,_,_⟩) (v:=.bool q1) rfl (by kernel_rfl) (by kernel_rfl) (by kernel_rfl) (by kernel_rfl) (fun _ _ _ h=>h) af (by rfl) ?hyv ?o3
 case hyv=>
  intro wz hSw;go_simp;rw [ib.out];unfold Sk.same;by_cases h1:t.o.elem=(Sk.sc 105).elem<;>by_cases h2:t.o.n=(Sk.sc 105).n<;>simp [h1,h2]
 try simp only [Act.put,sT,sZ,sS]
 refine' tkR 4 12 af ?o4
 cases q1
 case false=>
  refine' tkR 5 13 af ?o5
  refine' tkQ 6 14 af ?hyv ?o6
  case hyv=>
   intro wz hSw;have bk:=aM.out wz hSw;go_simp
   try rfl
  try simp only [Act.put,sT,sZ,sS]
  refine tnQ 7 (fun K hK=>?_);go_simp;refine (zBv 98 aw).mono ?_;rintro eq aJ ⟨rfl,dz⟩;have ay:Below w1.heap.size w1 aJ:=af.trans (dz.mono af.size);refine hK.out _ _ (fun _=>ay) ?_;clear hK K
  try simp only [Act.put,sT,sZ,sS]
  refine' zBS (i:=8) (oi:=⟨some 16,_,_,_,_,_⟩) (v:=.bool q2) rfl (by kernel_rfl) (by kernel_rfl) (by kernel_rfl) (by kernel_rfl) (fun _ _ _ h=>h) ay (by rfl) ?hyv ?o7
  case hyv=>
   intro wz hSw;go_simp;rw [eK.out];unfold Sk.same;by_cases h1:t.o.elem=(Sk.sc 98).elem<;>by_cases h2:t.o.n=(Sk.sc 98).n<;>simp [h1,h2]
  try simp only [Act.put,sT,sZ,sS]
  refine' tkR 9 17 ay ?o8
  cases q2
  case false=>
   refine' tsQ 10 18 ay ?_
   refine' tsQ 11 19 ay ?_
   refine' tsQ 12 20 ay ?_
   refine' tsQ 13 21 ay ?_
   refine' tkR 14 22 ay ?o9
   refine' tkR 15 23 ay ?o10
   refine' tkR 16 2 ay ?o11
   refine zBN (by kernel_rfl) ?_ _;go_wp2;go_ret;refine ⟨?_,b1.trans (ay.mono b1.size)⟩;rw [HR.out]
   first | rfl | simp
  case true=>
   refine' tkR 10 18 ay ?o12
   refine' tkR 11 19 ay ?o13
   refine' tkQ 12 20 ay ?hyv ?o14
   case hyv=>
    intro wz hSw;have bk:=aM.out wz hSw;go_simp
    try rfl
   try simp only [Act.put,sT,sZ,sS]
   refine tnQ 13 (fun K hK=>?_);go_simp;refine (La aJ).mono ?_;rintro eq bF ⟨rfl,fJ⟩;have aD:Below w1.heap.size w1 bF:=ay.trans (fJ.mono ay.size);refine hK.out _ _ (fun _=>aD) ?_;clear hK K
   try simp only [Act.put,sT,sZ,sS]
   refine' tkR 14 22 aD ?o15
   refine' tkR 15 23 aD ?o16
   refine' tkR 16 2 aD ?o17
   refine zBN (by kernel_rfl) ?_ _;go_wp2;go_ret;refine ⟨?_,b1.trans (aD.mono b1.size)⟩;rw [HR.out]
   first | rfl | simp
 case true=>
  refine' tsQ 5 13 af ?_
  refine' tsQ 6 14 af ?_
  refine' tsQ 7 15 af ?_
  refine' tsQ 8 16 af ?_
  refine' tsQ 9 17 af ?_
  refine' tsQ 10 18 af ?_
  refine' tsQ 11 19 af ?_
  refine' tsQ 12 20 af ?_
  refine' tsQ 13 21 af ?_
  refine' tsQ 14 22 af ?_
  refine' tkR 15 23 af ?o18
  refine' tkR 16 2 af ?o19
  refine zBN (by kernel_rfl) ?_ _;go_wp2;go_ret;refine ⟨?_,b1.trans (af.mono b1.size)⟩;rw [HR.out]
  first | rfl | simp
theorem fits3_any {ok:Nat->Prop} (t:TRv) {aa:Option Addr} {na ca:Nat} (f:Sk.Vr) (r:List Sk.Vr) (w:World) (hG:GlobK w) (hl:HVars ok w (.slice aa na ca) (f :: r)) :
  Calls Tryz.prog 83 #[.agg #[.int .i64 3,.int .i64 t.k,.int .i64 t.out,.int .i64 t.n,.slice t.aA t.nA t.cA,.slice t.aE t.nE t.cE,.int .u8 t.o.elem,.int .i64 t.o.n,.slice aa na ca]] w fun e w'=>e=.returned (.bool (Sk.operates t.k t.o (f :: r)))/\Below w.heap.size w w':=by
 have b1:Below w.heap.size w (w.alloc (.cells #[.int .i64 3,.int .i64 t.k,.int .i64 t.out,.int .i64 t.n,.slice t.aA t.nA t.cA,.slice t.aE t.nE t.cE,.int .u8 t.o.elem,.int .i64 t.o.n,.slice aa na ca] 109 (0,0))):=(Below.refl _ _).alloc zBR _;have kA:=zBO w (.cells #[.int .i64 3,.int .i64 t.k,.int .i64 t.out,.int .i64 t.n,.slice t.aA t.nA t.cA,.slice t.aE t.nE t.cE,.int .u8 t.o.elem,.int .i64 t.o.n,.slice aa na ca] 109 (0,0));have hc:=zDD { t with op:=3 } f r _ (hG.under b1) (hl.under b1);have e:Sk.operates ({ t with op:=3 }:TRv).k ({ t with op:=3 }:TRv).o (f :: r)=Sk.operates t.k t.o (f :: r):=rfl;rw [e] at hc;clear e;generalize Sk.operates t.k t.o (f :: r)=R at hc;clear hl hG;go_enter Tryz.func83,Tryz.ntmps83;go_upto_region 8 with fail;generalize w.alloc (.cells #[.int .i64 3,.int .i64 t.k,.int .i64 t.out,.int .i64 t.n,.slice t.aA t.nA t.cA,.slice t.aE t.nE t.cE,.int .u8 t.o.elem,.int .i64 t.o.n,.slice aa na ca] 109 (0,0))=w1 at b1 kA hc ⊢;have u0:=coQ kA 0;have u1:=coQ kA 1;have u2:=coQ kA 2;have u3:=coQ kA 3;have u4:=coQ kA 4;have u5:=coQ kA 5;have u6:=coQ kA 6;have u7:=coQ kA 7;have u8:=coQ kA 8;simp at u0 u1 u2 u3 u4 u5 u6 u7 u8;have yA:=zBM kA;go_wp2_with fail;refine hc.mono ?_;rintro e w2 ⟨rfl,b2⟩;go_wp2;go_ret;exact ⟨rfl,b1.trans (b2.mono b1.size)⟩
theorem fits4_any {ok:Nat->Prop} (t:TRv) {aa:Option Addr} {na ca:Nat} (f:Sk.Vr) (r:List Sk.Vr) (w:World) (hG:GlobK w) (hl:HVars ok w (.slice aa na ca) (f :: r)) :
  Calls Tryz.prog 83 #[.agg #[.int .i64 4,.int .i64 t.k,.int .i64 t.out,.int .i64 t.n,.slice t.aA t.nA t.cA,.slice t.aE t.nE t.cE,.int .u8 t.o.elem,.int .i64 t.o.n,.slice aa na ca]] w fun e w'=>e=.returned (.bool (Sk.operates t.k t.o (f :: r)))/\Below w.heap.size w w':=by
 have b1:Below w.heap.size w (w.alloc (.cells #[.int .i64 4,.int .i64 t.k,.int .i64 t.out,.int .i64 t.n,.slice t.aA t.nA t.cA,.slice t.aE t.nE t.cE,.int .u8 t.o.elem,.int .i64 t.o.n,.slice aa na ca] 109 (0,0))):=(Below.refl _ _).alloc zBR _;have kA:=zBO w (.cells #[.int .i64 4,.int .i64 t.k,.int .i64 t.out,.int .i64 t.n,.slice t.aA t.nA t.cA,.slice t.aE t.nE t.cE,.int .u8 t.o.elem,.int .i64 t.o.n,.slice aa na ca] 109 (0,0));have hc:=zDD { t with op:=4 } f r _ (hG.under b1) (hl.under b1);have e:Sk.operates ({ t with op:=4 }:TRv).k ({ t with op:=4 }:TRv).o (f :: r)=Sk.operates t.k t.o (f :: r):=rfl;rw [e] at hc;clear e;generalize Sk.operates t.k t.o (f :: r)=R at hc;clear hl hG;go_enter Tryz.func83,Tryz.ntmps83;go_upto_region 8 with fail;generalize w.alloc (.cells #[.int .i64 4,.int .i64 t.k,.int .i64 t.out,.int .i64 t.n,.slice t.aA t.nA t.cA,.slice t.aE t.nE t.cE,.int .u8 t.o.elem,.int .i64 t.o.n,.slice aa na ca] 109 (0,0))=w1 at b1 kA hc ⊢;have u0:=coQ kA 0;have u1:=coQ kA 1;have u2:=coQ kA 2;have u3:=coQ kA 3;have u4:=coQ kA 4;have u5:=coQ kA 5;have u6:=coQ kA 6;have u7:=coQ kA 7;have u8:=coQ kA 8;simp at u0 u1 u2 u3 u4 u5 u6 u7 u8;have yA:=zBM kA;go_wp2_with fail;refine hc.mono ?_;rintro e w2 ⟨rfl,b2⟩;go_wp2;go_ret;exact ⟨rfl,b1.trans (b2.mono b1.size)⟩
end Go.Proofs.YtfhghlpfeeiaeaaGreatDoor
namespace Go.Proofs.YtfhghlpfeeiaeaaGreatDoor
open Go.RowKit Go.IntWalk
namespace Sk
def tooMany (nV nI nO nR:Nat):Bool:=decide (400<nV) || decide (400<nI) || decide (400<nO) || decide (400<nR)
def partsT:List Int:=[0,0,1,1,2,3,2,2,1,3,3,1,2,2,0,1,1]
def hasForm (op:Int) (nA:Nat):Bool:=(decide (1<=op)&&decide (op<=16))&&((nA:Int)==partsT.getD op.toNat 0)
end Sk
def GlobP (w:World):Prop:=0<w.heap.size/\∀ k,k<17->w.cell? ⟨0,k,none⟩=some (.int .i64 (Sk.partsT.getD k 0))
theorem GlobP.under {w w':World} (h:GlobP w) (b:Below w.heap.size w w'):GlobP w' :=
 ⟨Nat.lt_of_lt_of_le h.1 b.size,fun k hk=>(b.cell (p:=⟨0,k,none⟩) h.1).trans (h.2 k hk)⟩
theorem zAd (aV aI aO aR:Option Addr) (nV cV nI cI nO cO nR cR:Nat) (h1:nV<=cV/\cV<=maxLen) (h2:nI<=cI/\cI<=maxLen) (h3:nO<=cO/\cO<=maxLen) (h4:nR<=cR/\cR<=maxLen) (w:World) :
  Calls Tryz.prog 39 #[.agg #[.slice aV nV cV,.slice aI nI cI,.slice aO nO cO,.slice aR nR cR]] w fun e w'=>e=.returned (.bool (Sk.tooMany nV nI nO nR))/\Below w.heap.size w w':=by
 have bA:Below w.heap.size w (w.alloc (.cells #[.slice aV nV cV,.slice aI nI cI,.slice aO nO cO,.slice aR nR cR] 26 (0,0))):=(Below.refl _ _).alloc zBR _;unfold maxLen at h1 h2 h3 h4;unfold Sk.tooMany;go_enter Tryz.func39,Tryz.ntmps39;go_wp2
 all_goals go_ret
 all_goals refine ⟨?_,bA⟩
 all_goals refine congrArg (fun q=>Ending.returned (Value.bool q)) ?_
 all_goals apply Bool.eq_iff_iff.2
 all_goals simp
 all_goals omega
theorem hasForm_low (op:Int) (k out n:Int) (aA aE:Option Addr) (nA cA nE cE:Nat) (hA:nA<=cA) (la:cA<=9223372036854775807) (h:op<1) (w:World) (hP:GlobP w) :
  Calls Tryz.prog 68 #[.agg #[.int .i64 op,.int .i64 k,.int .i64 out,.int .i64 n,.slice aA nA cA,.slice aE nE cE]] w fun e w'=>e=.returned (.bool (false))/\Below w.heap.size w w':=by
  have b1:Below w.heap.size w (w.alloc (.cells #[.int .i64 op,.int .i64 k,.int .i64 out,.int .i64 n,.slice aA nA cA,.slice aE nE cE] 42 (0,0))):=(Below.refl _ _).alloc zBR _;have kA:=zBO w (.cells #[.int .i64 op,.int .i64 k,.int .i64 out,.int .i64 n,.slice aA nA cA,.slice aE nE cE] 42 (0,0));have qU:=zBK (hP.under b1);clear hP;go_enter Tryz.func68,Tryz.ntmps68;go_upto_region 1 with fail;generalize w.alloc (.cells #[.int .i64 op,.int .i64 k,.int .i64 out,.int .i64 n,.slice aA nA cA,.slice aE nE cE] 42 (0,0))=w1 at b1 kA qU ⊢;have a0:=coQ kA 0;have a1:=coQ kA 1;have a2:=coQ kA 2;have a3:=coQ kA 3;have a4:=coQ kA 4;have a5:=coQ kA 5;simp at a0 a1 a2 a3 a4 a5;have yA:=zBM kA;refine zBP (fun w'=>Below w1.heap.size w1 w') (fun _=>false) (by kernel_rfl) ?_;have ab:Below w1.heap.size w1 w1.drew:=(Below.refl _ _).drew;generalize w1.drew=ag at ab ⊢;refine' tkR 0 3 ab ?o1
  refine' tkQ 1 4 ab ?hyv ?o2
  case hyv=>
   intro wz hSw;have aq:=(hSw.cell (p:=⟨w.heap.size,0,none⟩) yA).trans a0;have av:=(hSw.cell (p:=⟨w.heap.size,1,none⟩) yA).trans a1;have az:=(hSw.cell (p:=⟨w.heap.size,2,none⟩) yA).trans a2;have aF:=(hSw.cell (p:=⟨w.heap.size,3,none⟩) yA).trans a3;have aP:=(hSw.cell (p:=⟨w.heap.size,4,none⟩) yA).trans a4;have ba:=(hSw.cell (p:=⟨w.heap.size,5,none⟩) yA).trans a5;go_simp
   try rfl
  try simp only [Act.put,sT,sZ,sS]
  refine' zBS (i:=2) (oi:=⟨some 5,_,_,_,_,_⟩) (v:=.bool false) rfl (by kernel_rfl) (by kernel_rfl) (by kernel_rfl) (by kernel_rfl) (fun _ _ _ h=>h) ab (by rfl) ?hyv ?o3
  case hyv=>
   intro wz hSw;go_simp
   try simp
   try omega
  try simp only [Act.put,sT,sZ,sS]
  refine' tkR 3 6 ab ?o4
  refine' tsQ 4 7 ab ?_
  refine' tsQ 5 8 ab ?_
  refine' tsQ 6 9 ab ?_
  refine' tkR 7 10 ab ?o5
  refine' tkR 8 11 ab ?o6
  refine' tsQ 9 12 ab ?_
  refine' tsQ 10 13 ab ?_
  refine' tsQ 11 14 ab ?_
  refine' tsQ 12 15 ab ?_
  refine' tsQ 13 16 ab ?_
  refine' tsQ 14 17 ab ?_
  refine' tsQ 15 18 ab ?_
  refine' tsQ 16 19 ab ?_
  refine' tkR 17 20 ab ?o7
  refine' tkR 18 2 ab ?o8
  refine zBN (by kernel_rfl) ?_ _;go_wp2;go_ret;exact ⟨rfl,b1.trans (ab.mono b1.size)⟩
theorem hasForm_high (op:Int) (k out n:Int) (aA aE:Option Addr) (nA cA nE cE:Nat) (hA:nA<=cA) (la:cA<=9223372036854775807) (h:16<op) (w:World) (hP:GlobP w) :
  Calls Tryz.prog 68 #[.agg #[.int .i64 op,.int .i64 k,.int .i64 out,.int .i64 n,.slice aA nA cA,.slice aE nE cE]] w fun e w'=>e=.returned (.bool (false))/\Below w.heap.size w w':=by
  have b1:Below w.heap.size w (w.alloc (.cells #[.int .i64 op,.int .i64 k,.int .i64 out,.int .i64 n,.slice aA nA cA,.slice aE nE cE] 42 (0,0))):=(Below.refl _ _).alloc zBR _;have kA:=zBO w (.cells #[.int .i64 op,.int .i64 k,.int .i64 out,.int .i64 n,.slice aA nA cA,.slice aE nE cE] 42 (0,0));have qU:=zBK (hP.under b1);clear hP;go_enter Tryz.func68,Tryz.ntmps68;go_upto_region 1 with fail;generalize w.alloc (.cells #[.int .i64 op,.int .i64 k,.int .i64 out,.int .i64 n,.slice aA nA cA,.slice aE nE cE] 42 (0,0))=w1 at b1 kA qU ⊢;have a0:=coQ kA 0;have a1:=coQ kA 1;have a2:=coQ kA 2;have a3:=coQ kA 3;have a4:=coQ kA 4;have a5:=coQ kA 5;simp at a0 a1 a2 a3 a4 a5;have yA:=zBM kA;have aM:=zBK (fun (wz:World) (hSw:Below w1.heap.size w1 wz)=>And.intro ((hSw.cell (p:=⟨w.heap.size,0,none⟩) yA).trans a0) (And.intro ((hSw.cell (p:=⟨w.heap.size,1,none⟩) yA).trans a1) (And.intro ((hSw.cell (p:=⟨w.heap.size,2,none⟩) yA).trans a2) (And.intro ((hSw.cell (p:=⟨w.heap.size,3,none⟩) yA).trans a3) (And.intro ((hSw.cell (p:=⟨w.heap.size,4,none⟩) yA).trans a4) ((hSw.cell (p:=⟨w.heap.size,5,none⟩) yA).trans a5))))));refine zBP (fun w'=>Below w1.heap.size w1 w') (fun _=>false) (by kernel_rfl) ?_;have ab:Below w1.heap.size w1 w1.drew:=(Below.refl _ _).drew;generalize w1.drew=ag at ab ⊢;refine' tkR 0 3 ab ?o9
  refine' tkQ 1 4 ab ?hyv ?o10
  case hyv=>
   intro wz hSw;have bk:=aM.out wz hSw;go_simp
   try rfl
  try simp only [Act.put,sT,sZ,sS]
  refine' zBS (i:=2) (oi:=⟨some 5,_,_,_,_,_⟩) (v:=.bool true) rfl (by kernel_rfl) (by kernel_rfl) (by kernel_rfl) (by kernel_rfl) (fun _ _ _ h=>h) ab (by rfl) ?hyv ?o11
  case hyv=>
   intro wz hSw;go_simp
   try simp
   try omega
  try simp only [Act.put,sT,sZ,sS]
  refine' tkR 3 6 ab ?o12
  refine' tkR 4 7 ab ?o13
  refine' tkQ 5 8 ab ?hyv ?o14
  case hyv=>
   intro wz hSw;have bk:=aM.out wz hSw;go_simp
   try rfl
  try simp only [Act.put,sT,sZ,sS]
  refine' zBS (i:=6) (oi:=⟨some 9,_,_,_,_,_⟩) (v:=.bool false) rfl (by kernel_rfl) (by kernel_rfl) (by kernel_rfl) (by kernel_rfl) (fun _ _ _ h=>h) ab (by rfl) ?hyv ?o15
  case hyv=>
   intro wz hSw;go_simp
   try simp
   try omega
  try simp only [Act.put,sT,sZ,sS]
  refine' tkR 7 10 ab ?o16
  refine' tkR 8 11 ab ?o17
  refine' tsQ 9 12 ab ?_
  refine' tsQ 10 13 ab ?_
  refine' tsQ 11 14 ab ?_
  refine' tsQ 12 15 ab ?_
  refine' tsQ 13 16 ab ?_
  refine' tsQ 14 17 ab ?_
  refine' tsQ 15 18 ab ?_
  refine' tsQ 16 19 ab ?_
  refine' tkR 17 20 ab ?o18
  refine' tkR 18 2 ab ?o19
  refine zBN (by kernel_rfl) ?_ _;go_wp2;go_ret;exact ⟨rfl,b1.trans (ab.mono b1.size)⟩
theorem hasForm_mid (j:Nat) (k out n:Int) (aA aE:Option Addr) (nA cA nE cE:Nat) (hA:nA<=cA) (la:cA<=9223372036854775807) (h:1<=j) (h2:j<=16) (w:World) (hP:GlobP w) :
  Calls Tryz.prog 68 #[.agg #[.int .i64 (j:Int),.int .i64 k,.int .i64 out,.int .i64 n,.slice aA nA cA,.slice aE nE cE]] w fun e w'=>e=.returned (.bool ((nA:Int)==Sk.partsT.getD j 0))/\Below w.heap.size w w':=by
  have b1:Below w.heap.size w (w.alloc (.cells #[.int .i64 (j:Int),.int .i64 k,.int .i64 out,.int .i64 n,.slice aA nA cA,.slice aE nE cE] 42 (0,0))):=(Below.refl _ _).alloc zBR _;have kA:=zBO w (.cells #[.int .i64 (j:Int),.int .i64 k,.int .i64 out,.int .i64 n,.slice aA nA cA,.slice aE nE cE] 42 (0,0));have qU:=zBK (hP.under b1);clear hP;obtain ⟨pj,Hb⟩:=nmQ (Sk.partsT.getD j 0);rw [<-Hb];have M2:=zBK Hb;clear Hb;go_enter Tryz.func68,Tryz.ntmps68;go_upto_region 1 with fail;generalize w.alloc (.cells #[.int .i64 (j:Int),.int .i64 k,.int .i64 out,.int .i64 n,.slice aA nA cA,.slice aE nE cE] 42 (0,0))=w1 at b1 kA qU ⊢;have a0:=coQ kA 0;have a1:=coQ kA 1;have a2:=coQ kA 2;have a3:=coQ kA 3;have a4:=coQ kA 4;have a5:=coQ kA 5;simp at a0 a1 a2 a3 a4 a5;have yA:=zBM kA;have c0:=qU.out.2 j (by omega);rw [<-M2.out] at c0;have y0:=qU.out.1;have aM:=zBK (fun (wz:World) (hSw:Below w1.heap.size w1 wz)=>And.intro ((hSw.cell (p:=⟨w.heap.size,0,none⟩) yA).trans a0) (And.intro ((hSw.cell (p:=⟨w.heap.size,1,none⟩) yA).trans a1) (And.intro ((hSw.cell (p:=⟨w.heap.size,2,none⟩) yA).trans a2) (And.intro ((hSw.cell (p:=⟨w.heap.size,3,none⟩) yA).trans a3) (And.intro ((hSw.cell (p:=⟨w.heap.size,4,none⟩) yA).trans a4) (And.intro ((hSw.cell (p:=⟨w.heap.size,5,none⟩) yA).trans a5) ((hSw.cell (p:=⟨0,j,none⟩) y0).trans c0)))))));refine zBP (fun w'=>Below w1.heap.size w1 w') (fun _=>false) (by kernel_rfl) ?_;have ab:Below w1.heap.size w1 w1.drew:=(Below.refl _ _).drew;generalize w1.drew=ag at ab ⊢;refine' tkR 0 3 ab ?o20
  refine' tkQ 1 4 ab ?hyv ?o21
  case hyv=>
   intro wz hSw;have bk:=aM.out wz hSw;go_simp
   try rfl
  try simp only [Act.put,sT,sZ,sS]
  refine' zBS (i:=2) (oi:=⟨some 5,_,_,_,_,_⟩) (v:=.bool true) rfl (by kernel_rfl) (by kernel_rfl) (by kernel_rfl) (by kernel_rfl) (fun _ _ _ h=>h) ab (by rfl) ?hyv ?o22
  case hyv=>
   intro wz hSw;go_simp
   try simp
   try omega
  try simp only [Act.put,sT,sZ,sS]
  refine' tkR 3 6 ab ?o23
  refine' tkR 4 7 ab ?o24
  refine' tkQ 5 8 ab ?hyv ?o25
  case hyv=>
   intro wz hSw;have bk:=aM.out wz hSw;go_simp
   try rfl
  try simp only [Act.put,sT,sZ,sS]
  refine' zBS (i:=6) (oi:=⟨some 9,_,_,_,_,_⟩) (v:=.bool true) rfl (by kernel_rfl) (by kernel_rfl) (by kernel_rfl) (by kernel_rfl) (fun _ _ _ h=>h) ab (by rfl) ?hyv ?o26
  case hyv=>
   intro wz hSw;go_simp
   try simp
   try omega
  try simp only [Act.put,sT,sZ,sS]
  refine' tkR 7 10 ab ?o27
  refine' tkR 8 11 ab ?o28
  refine' tkR 9 12 ab ?o29
  refine' tkQ 10 13 ab ?hyv ?o30
  case hyv=>
   intro wz hSw;have bk:=aM.out wz hSw;go_simp
   try rfl
  try simp only [Act.put,sT,sZ,sS]
  refine' tkR 11 14 ab ?o31
  refine' tkR 12 15 ab ?o32
  refine' tkQ 13 16 ab ?hyv ?o33
  case hyv=>
   intro wz hSw;have bk:=aM.out wz hSw;go_simp
   try rfl
  try simp only [Act.put,sT,sZ,sS]
  refine' zBS (i:=14) (oi:=⟨some 17,_,_,_,_,_⟩) (v:=.pointer (some ⟨0,j,none⟩)) rfl (by kernel_rfl) (by kernel_rfl) (by kernel_rfl) (by kernel_rfl) (fun _ _ _ h=>h) ab (by rfl) ?hyv ?o34
  case hyv=>
   intro wz hSw;go_simp;intro hh;omega
  try simp only [Act.put,sT,sZ,sS]
  refine' tkQ 15 18 ab ?hyv ?o35
  case hyv=>
   intro wz hSw;have bk:=aM.out wz hSw;go_simp
   try rfl
  try simp only [Act.put,sT,sZ,sS]
  refine' zBS (i:=16) (oi:=⟨some 19,_,_,_,_,_⟩) (v:=.bool ((nA:Int)==pj)) rfl (by kernel_rfl) (by kernel_rfl) (by kernel_rfl) (by kernel_rfl) (fun _ _ _ h=>h) ab (by rfl) ?hyv ?o36
  case hyv=>
   intro wz hSw;go_simp
   try rfl
  try simp only [Act.put,sT,sZ,sS]
  refine' tkR 17 20 ab ?o37
  refine' tkR 18 2 ab ?o38
  refine zBN (by kernel_rfl) ?_ _;go_wp2;go_ret;exact ⟨rfl,b1.trans (ab.mono b1.size)⟩
theorem own_low (op k out n:Int) (aA aE:Option Addr) (nA cA nE cE:Nat) (h:op<14) (w:World) :
  Calls Tryz.prog 69 #[.agg #[.int .i64 op,.int .i64 k,.int .i64 out,.int .i64 n,.slice aA nA cA,.slice aE nE cE]] w fun e w'=>e=.returned (.agg #[.int .i64 op,.int .i64 k,.int .i64 out,.int .i64 n,.slice aA nA cA,.slice none 0 0])/\Below w.heap.size w w':=by
 go_enter Tryz.func69,Tryz.ntmps69;go_wp2;exact bodyPost_ret (v:=.agg #[.int .i64 op,.int .i64 k,.int .i64 out,.int .i64 n,.slice aA nA cA,.slice none 0 0]) (by simp [results,Tryz.results69,go_sem]) rfl ⟨rfl,by
  repeat (first | exact Below.refl _ _ | refine Below.setCell ?_ (by simp) _ | refine Below.alloc ?_ (by simp) _)⟩
theorem own_tree (op k out n:Int) (aA aE:Option Addr) (nA cA nE cE:Nat) (h:14<=op) (w:World) :
  Calls Tryz.prog 69 #[.agg #[.int .i64 op,.int .i64 k,.int .i64 out,.int .i64 n,.slice aA nA cA,.slice aE nE cE]] w fun e w'=>e=.returned (.agg #[.int .i64 op,.int .i64 k,.int .i64 out,.int .i64 n,.slice aA nA cA,.slice aE nE cE])/\Below w.heap.size w w':=by
 go_enter Tryz.func69,Tryz.ntmps69;go_wp2;exact bodyPost_ret (v:=.agg #[.int .i64 op,.int .i64 k,.int .i64 out,.int .i64 n,.slice aA nA cA,.slice aE nE cE]) (by simp [results,Tryz.results69,go_sem]) rfl ⟨rfl,by
  repeat (first | exact Below.refl _ _ | refine Below.setCell ?_ (by simp) _ | refine Below.alloc ?_ (by simp) _)⟩
end Go.Proofs.YtfhghlpfeeiaeaaGreatDoor
