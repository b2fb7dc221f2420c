import Derived.Test.YtegakbobaecdlaaGreatDoorL14
import Derived.WalkKit
import Derived.WalkSpells
import Derived.IntWalk
import Derived.Deep.Cut
import Derived.Deep.LoopGhost
import Derived.Laws.Cover1
import Derived.Lib.Hide
set_option linter.unusedVariables false
set_option linter.unusedSimpArgs false
set_option maxHeartbeats 64000000
set_option maxRecDepth 100000
namespace Go.Proofs.YtegakbobaecdlaaGreatDoor
open Go.RowKit Go.IntWalk
namespace Sk
def tooMany (nV nI nO nR:Nat):Bool:=decide (400<nV) || decide (400<nI) || decide (400<nO) || decide (400<nR)
def partsT:List Int:=[0,0,1,1,2,3,2,2,1,3,3,1,2,2,0,1,1]
def hasForm (op:Int) (nA:Nat):Bool:=(decide (1<=op)&&decide (op<=16))&&((nA:Int)==partsT.getD op.toNat 0)
end Sk
def GlobP (w:World):Prop:=0<w.heap.size/\∀ k,k<17->w.cell? ⟨0,k,none⟩=some (.int .i64 (Sk.partsT.getD k 0))
theorem GlobP.under {w w':World} (h:GlobP w) (b:Below w.heap.size w w'):GlobP w' :=
 ⟨Nat.lt_of_lt_of_le h.1 b.size,fun k hk=>(b.cell (p:=⟨0,k,none⟩) h.1).trans (h.2 k hk)⟩
theorem zAO (aV aI aO aR:Option Addr) (nV cV nI cI nO cO nR cR:Nat) (h1:nV<=cV/\cV<=maxLen) (h2:nI<=cI/\cI<=maxLen) (h3:nO<=cO/\cO<=maxLen) (h4:nR<=cR/\cR<=maxLen) (w:World) :
  Calls Tryz.prog 80 #[.agg #[.slice aV nV cV,.slice aI nI cI,.slice aO nO cO,.slice aR nR cR]] w fun e w'=>e=.returned (.bool (Sk.tooMany nV nI nO nR))/\Below w.heap.size w w':=by
 have bA:Below w.heap.size w (w.alloc (.cells #[.slice aV nV cV,.slice aI nI cI,.slice aO nO cO,.slice aR nR cR] 26 (0,0))):=(Below.refl _ _).alloc zM _;unfold maxLen at h1 h2 h3 h4;unfold Sk.tooMany;go_enter Tryz.func80,Tryz.ntmps80;go_wp2
 all_goals go_ret
 all_goals refine ⟨?_,bA⟩
 all_goals refine congrArg (fun q=>Ending.returned (Value.bool q)) ?_
 all_goals apply Bool.eq_iff_iff.2
 all_goals simp
 all_goals omega
theorem hasForm_low (op:Int) (k out n:Int) (aA aE:Option Addr) (nA cA nE cE:Nat) (hA:nA<=cA) (hA2:cA<=9223372036854775807) (h:op<1) (w:World) (hP:GlobP w) :
  Calls Tryz.prog 113 #[.agg #[.int .i64 op,.int .i64 k,.int .i64 out,.int .i64 n,.slice aA nA cA,.slice aE nE cE]] w fun e w'=>e=.returned (.bool (false))/\Below w.heap.size w w':=by
  have b1:Below w.heap.size w (w.alloc (.cells #[.int .i64 op,.int .i64 k,.int .i64 out,.int .i64 n,.slice aA nA cA,.slice aE nE cE] 40 (0,0))):=(Below.refl _ _).alloc zM _;have kA:=zI w (.cells #[.int .i64 op,.int .i64 k,.int .i64 out,.int .i64 n,.slice aA nA cA,.slice aE nE cE] 40 (0,0));have HP1:=zE (hP.under b1);clear hP;go_enter Tryz.func113,Tryz.ntmps113;go_upto_region 1 with fail;generalize w.alloc (.cells #[.int .i64 op,.int .i64 k,.int .i64 out,.int .i64 n,.slice aA nA cA,.slice aE nE cE] 40 (0,0))=w1 at b1 kA HP1 ⊢;have a0:=coQ kA 0;have a1:=coQ kA 1;have a2:=coQ kA 2;have a3:=coQ kA 3;have a4:=coQ kA 4;have a5:=coQ kA 5;simp at a0 a1 a2 a3 a4 a5;have yA:=zG kA;refine zK (fun w'=>Below w1.heap.size w1 w') (fun _=>false) (by kernel_rfl) ?_;have hH0:Below w1.heap.size w1 w1.drew:=(Below.refl _ _).drew;generalize w1.drew=wd0 at hH0 ⊢;refine' tkR 0 3 hH0 ?o1
  refine' tkQ 1 4 hH0 ?hyv ?o2
  case hyv=>
   intro wz hSw;have zc0:=(hSw.cell (p:=⟨w.heap.size,0,none⟩) yA).trans a0;have zc1:=(hSw.cell (p:=⟨w.heap.size,1,none⟩) yA).trans a1;have zc2:=(hSw.cell (p:=⟨w.heap.size,2,none⟩) yA).trans a2;have zc3:=(hSw.cell (p:=⟨w.heap.size,3,none⟩) yA).trans a3;have zc4:=(hSw.cell (p:=⟨w.heap.size,4,none⟩) yA).trans a4;have zc5:=(hSw.cell (p:=⟨w.heap.size,5,none⟩) yA).trans a5;go_simp
   try rfl
  try simp only [Act.put,sT,sZ,sS]
  refine' zO (i:=2) (oi:=⟨some 5,_,_,_,_,_⟩) (v:=.bool false) rfl (by kernel_rfl) (by kernel_rfl) (by kernel_rfl) (by kernel_rfl) (fun _ _ _ h=>h) hH0 (by rfl) ?hyv ?o3
  case hyv=>
   intro wz hSw;go_simp
   try simp
   try omega
  try simp only [Act.put,sT,sZ,sS]
  refine' tkR 3 6 hH0 ?o4
  refine zD (i:=4) (oi:=⟨some 7,_,_,_,_,_⟩) rfl (by kernel_rfl) (by kernel_rfl) (by kernel_rfl) (by kernel_rfl) (fun _ _ _ h=>h) hH0 (by rfl) ?_
  try simp only [Act.put,sT,sZ,sS]
  refine zD (i:=5) (oi:=⟨some 8,_,_,_,_,_⟩) rfl (by kernel_rfl) (by kernel_rfl) (by kernel_rfl) (by kernel_rfl) (fun _ _ _ h=>h) hH0 (by rfl) ?_
  try simp only [Act.put,sT,sZ,sS]
  refine zD (i:=6) (oi:=⟨some 9,_,_,_,_,_⟩) rfl (by kernel_rfl) (by kernel_rfl) (by kernel_rfl) (by kernel_rfl) (fun _ _ _ h=>h) hH0 (by rfl) ?_
  try simp only [Act.put,sT,sZ,sS]
  refine' tkR 7 10 hH0 ?o5
  refine' tkR 8 11 hH0 ?o6
  refine zD (i:=9) (oi:=⟨some 12,_,_,_,_,_⟩) rfl (by kernel_rfl) (by kernel_rfl) (by kernel_rfl) (by kernel_rfl) (fun _ _ _ h=>h) hH0 (by rfl) ?_
  try simp only [Act.put,sT,sZ,sS]
  refine zD (i:=10) (oi:=⟨some 13,_,_,_,_,_⟩) rfl (by kernel_rfl) (by kernel_rfl) (by kernel_rfl) (by kernel_rfl) (fun _ _ _ h=>h) hH0 (by rfl) ?_
  try simp only [Act.put,sT,sZ,sS]
  refine zD (i:=11) (oi:=⟨some 14,_,_,_,_,_⟩) rfl (by kernel_rfl) (by kernel_rfl) (by kernel_rfl) (by kernel_rfl) (fun _ _ _ h=>h) hH0 (by rfl) ?_
  try simp only [Act.put,sT,sZ,sS]
  refine zD (i:=12) (oi:=⟨some 15,_,_,_,_,_⟩) rfl (by kernel_rfl) (by kernel_rfl) (by kernel_rfl) (by kernel_rfl) (fun _ _ _ h=>h) hH0 (by rfl) ?_
  try simp only [Act.put,sT,sZ,sS]
  refine zD (i:=13) (oi:=⟨some 16,_,_,_,_,_⟩) rfl (by kernel_rfl) (by kernel_rfl) (by kernel_rfl) (by kernel_rfl) (fun _ _ _ h=>h) hH0 (by rfl) ?_
  try simp only [Act.put,sT,sZ,sS]
  refine zD (i:=14) (oi:=⟨some 17,_,_,_,_,_⟩) rfl (by kernel_rfl) (by kernel_rfl) (by kernel_rfl) (by kernel_rfl) (fun _ _ _ h=>h) hH0 (by rfl) ?_
  try simp only [Act.put,sT,sZ,sS]
  refine zD (i:=15) (oi:=⟨some 18,_,_,_,_,_⟩) rfl (by kernel_rfl) (by kernel_rfl) (by kernel_rfl) (by kernel_rfl) (fun _ _ _ h=>h) hH0 (by rfl) ?_
  try simp only [Act.put,sT,sZ,sS]
  refine zD (i:=16) (oi:=⟨some 19,_,_,_,_,_⟩) rfl (by kernel_rfl) (by kernel_rfl) (by kernel_rfl) (by kernel_rfl) (fun _ _ _ h=>h) hH0 (by rfl) ?_
  try simp only [Act.put,sT,sZ,sS]
  refine' tkR 17 20 hH0 ?o7
  refine' tkR 18 2 hH0 ?o8
  refine zH (by kernel_rfl) ?_ _;go_wp2;go_ret;exact ⟨rfl,b1.trans (hH0.mono b1.size)⟩
theorem hasForm_high (op:Int) (k out n:Int) (aA aE:Option Addr) (nA cA nE cE:Nat) (hA:nA<=cA) (hA2:cA<=9223372036854775807) (h:16<op) (w:World) (hP:GlobP w) :
  Calls Tryz.prog 113 #[.agg #[.int .i64 op,.int .i64 k,.int .i64 out,.int .i64 n,.slice aA nA cA,.slice aE nE cE]] w fun e w'=>e=.returned (.bool (false))/\Below w.heap.size w w':=by
  have b1:Below w.heap.size w (w.alloc (.cells #[.int .i64 op,.int .i64 k,.int .i64 out,.int .i64 n,.slice aA nA cA,.slice aE nE cE] 40 (0,0))):=(Below.refl _ _).alloc zM _;have kA:=zI w (.cells #[.int .i64 op,.int .i64 k,.int .i64 out,.int .i64 n,.slice aA nA cA,.slice aE nE cE] 40 (0,0));have HP1:=zE (hP.under b1);clear hP;go_enter Tryz.func113,Tryz.ntmps113;go_upto_region 1 with fail;generalize w.alloc (.cells #[.int .i64 op,.int .i64 k,.int .i64 out,.int .i64 n,.slice aA nA cA,.slice aE nE cE] 40 (0,0))=w1 at b1 kA HP1 ⊢;have a0:=coQ kA 0;have a1:=coQ kA 1;have a2:=coQ kA 2;have a3:=coQ kA 3;have a4:=coQ kA 4;have a5:=coQ kA 5;simp at a0 a1 a2 a3 a4 a5;have yA:=zG kA;refine zK (fun w'=>Below w1.heap.size w1 w') (fun _=>false) (by kernel_rfl) ?_;have hH0:Below w1.heap.size w1 w1.drew:=(Below.refl _ _).drew;generalize w1.drew=wd0 at hH0 ⊢;refine' tkR 0 3 hH0 ?o9
  refine' tkQ 1 4 hH0 ?hyv ?o10
  case hyv=>
   intro wz hSw;have zc0:=(hSw.cell (p:=⟨w.heap.size,0,none⟩) yA).trans a0;have zc1:=(hSw.cell (p:=⟨w.heap.size,1,none⟩) yA).trans a1;have zc2:=(hSw.cell (p:=⟨w.heap.size,2,none⟩) yA).trans a2;have zc3:=(hSw.cell (p:=⟨w.heap.size,3,none⟩) yA).trans a3;have zc4:=(hSw.cell (p:=⟨w.heap.size,4,none⟩) yA).trans a4;have zc5:=(hSw.cell (p:=⟨w.heap.size,5,none⟩) yA).trans a5;go_simp
   try rfl
  try simp only [Act.put,sT,sZ,sS]
  refine' zO (i:=2) (oi:=⟨some 5,_,_,_,_,_⟩) (v:=.bool true) rfl (by kernel_rfl) (by kernel_rfl) (by kernel_rfl) (by kernel_rfl) (fun _ _ _ h=>h) hH0 (by rfl) ?hyv ?o11
  case hyv=>
   intro wz hSw;go_simp
   try simp
   try omega
  try simp only [Act.put,sT,sZ,sS]
  refine' tkR 3 6 hH0 ?o12
  refine' tkR 4 7 hH0 ?o13
  refine' tkQ 5 8 hH0 ?hyv ?o14
  case hyv=>
   intro wz hSw;have zc0:=(hSw.cell (p:=⟨w.heap.size,0,none⟩) yA).trans a0;have zc1:=(hSw.cell (p:=⟨w.heap.size,1,none⟩) yA).trans a1;have zc2:=(hSw.cell (p:=⟨w.heap.size,2,none⟩) yA).trans a2;have zc3:=(hSw.cell (p:=⟨w.heap.size,3,none⟩) yA).trans a3;have zc4:=(hSw.cell (p:=⟨w.heap.size,4,none⟩) yA).trans a4;have zc5:=(hSw.cell (p:=⟨w.heap.size,5,none⟩) yA).trans a5;go_simp
   try rfl
  try simp only [Act.put,sT,sZ,sS]
  refine' zO (i:=6) (oi:=⟨some 9,_,_,_,_,_⟩) (v:=.bool false) rfl (by kernel_rfl) (by kernel_rfl) (by kernel_rfl) (by kernel_rfl) (fun _ _ _ h=>h) hH0 (by rfl) ?hyv ?o15
  case hyv=>
   intro wz hSw;go_simp
   try simp
   try omega
  try simp only [Act.put,sT,sZ,sS]
  refine' tkR 7 10 hH0 ?o16
  refine' tkR 8 11 hH0 ?o17
  refine zD (i:=9) (oi:=⟨some 12,_,_,_,_,_⟩) rfl (by kernel_rfl) (by kernel_rfl) (by kernel_rfl) (by kernel_rfl) (fun _ _ _ h=>h) hH0 (by rfl) ?_
  try simp only [Act.put,sT,sZ,sS]
  refine zD (i:=10) (oi:=⟨some 13,_,_,_,_,_⟩) rfl (by kernel_rfl) (by kernel_rfl) (by kernel_rfl) (by kernel_rfl) (fun _ _ _ h=>h) hH0 (by rfl) ?_
  try simp only [Act.put,sT,sZ,sS]
  refine zD (i:=11) (oi:=⟨some 14,_,_,_,_,_⟩) rfl (by kernel_rfl) (by kernel_rfl) (by kernel_rfl) (by kernel_rfl) (fun _ _ _ h=>h) hH0 (by rfl) ?_
  try simp only [Act.put,sT,sZ,sS]
  refine zD (i:=12) (oi:=⟨some 15,_,_,_,_,_⟩) rfl (by kernel_rfl) (by kernel_rfl) (by kernel_rfl) (by kernel_rfl) (fun _ _ _ h=>h) hH0 (by rfl) ?_
  try simp only [Act.put,sT,sZ,sS]
  refine zD (i:=13) (oi:=⟨some 16,_,_,_,_,_⟩) rfl (by kernel_rfl) (by kernel_rfl) (by kernel_rfl) (by kernel_rfl) (fun _ _ _ h=>h) hH0 (by rfl) ?_
  try simp only [Act.put,sT,sZ,sS]
  refine zD (i:=14) (oi:=⟨some 17,_,_,_,_,_⟩) rfl (by kernel_rfl) (by kernel_rfl) (by kernel_rfl) (by kernel_rfl) (fun _ _ _ h=>h) hH0 (by rfl) ?_
  try simp only [Act.put,sT,sZ,sS]
  refine zD (i:=15) (oi:=⟨some 18,_,_,_,_,_⟩) rfl (by kernel_rfl) (by kernel_rfl) (by kernel_rfl) (by kernel_rfl) (fun _ _ _ h=>h) hH0 (by rfl) ?_
  try simp only [Act.put,sT,sZ,sS]
  refine zD (i:=16) (oi:=⟨some 19,_,_,_,_,_⟩) rfl (by kernel_rfl) (by kernel_rfl) (by kernel_rfl) (by kernel_rfl) (fun _ _ _ h=>h) hH0 (by rfl) ?_
  try simp only [Act.put,sT,sZ,sS]
  refine' tkR 17 20 hH0 ?o18
  refine' tkR 18 2 hH0 ?o19
  refine zH (by kernel_rfl) ?_ _;go_wp2;go_ret;exact ⟨rfl,b1.trans (hH0.mono b1.size)⟩
theorem hasForm_mid (j:Nat) (k out n:Int) (aA aE:Option Addr) (nA cA nE cE:Nat) (hA:nA<=cA) (hA2:cA<=9223372036854775807) (h:1<=j) (h2:j<=16) (w:World) (hP:GlobP w) :
  Calls Tryz.prog 113 #[.agg #[.int .i64 (j:Int),.int .i64 k,.int .i64 out,.int .i64 n,.slice aA nA cA,.slice aE nE cE]] w fun e w'=>e=.returned (.bool ((nA:Int)==Sk.partsT.getD j 0))/\Below w.heap.size w w':=by
  have b1:Below w.heap.size w (w.alloc (.cells #[.int .i64 (j:Int),.int .i64 k,.int .i64 out,.int .i64 n,.slice aA nA cA,.slice aE nE cE] 40 (0,0))):=(Below.refl _ _).alloc zM _;have kA:=zI w (.cells #[.int .i64 (j:Int),.int .i64 k,.int .i64 out,.int .i64 n,.slice aA nA cA,.slice aE nE cE] 40 (0,0));have HP1:=zE (hP.under b1);clear hP;obtain ⟨pj,hpj⟩:=nmQ (Sk.partsT.getD j 0);rw [<-hpj];have HPJ:=zE hpj;clear hpj;go_enter Tryz.func113,Tryz.ntmps113;go_upto_region 1 with fail;generalize w.alloc (.cells #[.int .i64 (j:Int),.int .i64 k,.int .i64 out,.int .i64 n,.slice aA nA cA,.slice aE nE cE] 40 (0,0))=w1 at b1 kA HP1 ⊢;have a0:=coQ kA 0;have a1:=coQ kA 1;have a2:=coQ kA 2;have a3:=coQ kA 3;have a4:=coQ kA 4;have a5:=coQ kA 5;simp at a0 a1 a2 a3 a4 a5;have yA:=zG kA;have c0:=HP1.out.2 j (by omega);rw [<-HPJ.out] at c0;have y0:=HP1.out.1;refine zK (fun w'=>Below w1.heap.size w1 w') (fun _=>false) (by kernel_rfl) ?_;have hH0:Below w1.heap.size w1 w1.drew:=(Below.refl _ _).drew;generalize w1.drew=wd0 at hH0 ⊢;refine' tkR 0 3 hH0 ?o20
  refine' tkQ 1 4 hH0 ?hyv ?o21
  case hyv=>
   intro wz hSw;have zc0:=(hSw.cell (p:=⟨w.heap.size,0,none⟩) yA).trans a0;have zc1:=(hSw.cell (p:=⟨w.heap.size,1,none⟩) yA).trans a1;have zc2:=(hSw.cell (p:=⟨w.heap.size,2,none⟩) yA).trans a2;have zc3:=(hSw.cell (p:=⟨w.heap.size,3,none⟩) yA).trans a3;have zc4:=(hSw.cell (p:=⟨w.heap.size,4,none⟩) yA).trans a4;have zc5:=(hSw.cell (p:=⟨w.heap.size,5,none⟩) yA).trans a5;have zc6:=(hSw.cell (p:=⟨0,j,none⟩) y0).trans c0;go_simp
   try rfl
  try simp only [Act.put,sT,sZ,sS]
  refine' zO (i:=2) (oi:=⟨some 5,_,_,_,_,_⟩) (v:=.bool true) rfl (by kernel_rfl) (by kernel_rfl) (by kernel_rfl) (by kernel_rfl) (fun _ _ _ h=>h) hH0 (by rfl) ?hyv ?o22
  case hyv=>
   intro wz hSw;go_simp
   try simp
   try omega
  try simp only [Act.put,sT,sZ,sS]
  refine' tkR 3 6 hH0 ?o23
  refine' tkR 4 7 hH0 ?o24
  refine' tkQ 5 8 hH0 ?hyv ?o25
  case hyv=>
   intro wz hSw;have zc0:=(hSw.cell (p:=⟨w.heap.size,0,none⟩) yA).trans a0;have zc1:=(hSw.cell (p:=⟨w.heap.size,1,none⟩) yA).trans a1;have zc2:=(hSw.cell (p:=⟨w.heap.size,2,none⟩) yA).trans a2;have zc3:=(hSw.cell (p:=⟨w.heap.size,3,none⟩) yA).trans a3;have zc4:=(hSw.cell (p:=⟨w.heap.size,4,none⟩) yA).trans a4;have zc5:=(hSw.cell (p:=⟨w.heap.size,5,none⟩) yA).trans a5;have zc6:=(hSw.cell (p:=⟨0,j,none⟩) y0).trans c0;go_simp
   try rfl
  try simp only [Act.put,sT,sZ,sS]
  refine' zO (i:=6) (oi:=⟨some 9,_,_,_,_,_⟩) (v:=.bool true) rfl (by kernel_rfl) (by kernel_rfl) (by kernel_rfl) (by kernel_rfl) (fun _ _ _ h=>h) hH0 (by rfl) ?hyv ?o26
  case hyv=>
   intro wz hSw;go_simp
   try simp
   try omega
  try simp only [Act.put,sT,sZ,sS]
  refine' tkR 7 10 hH0 ?o27
  refine' tkR 8 11 hH0 ?o28
  refine' tkR 9 12 hH0 ?o29
  refine' tkQ 10 13 hH0 ?hyv ?o30
  case hyv=>
   intro wz hSw;have zc0:=(hSw.cell (p:=⟨w.heap.size,0,none⟩) yA).trans a0;have zc1:=(hSw.cell (p:=⟨w.heap.size,1,none⟩) yA).trans a1;have zc2:=(hSw.cell (p:=⟨w.heap.size,2,none⟩) yA).trans a2;have zc3:=(hSw.cell (p:=⟨w.heap.size,3,none⟩) yA).trans a3;have zc4:=(hSw.cell (p:=⟨w.heap.size,4,none⟩) yA).trans a4;have zc5:=(hSw.cell (p:=⟨w.heap.size,5,none⟩) yA).trans a5;have zc6:=(hSw.cell (p:=⟨0,j,none⟩) y0).trans c0;go_simp
   try rfl
  try simp only [Act.put,sT,sZ,sS]
  refine' tkR 11 14 hH0 ?o31
  refine' tkR 12 15 hH0 ?o32
  refine' tkQ 13 16 hH0 ?hyv ?o33
  case hyv=>
   intro wz hSw;have zc0:=(hSw.cell (p:=⟨w.heap.size,0,none⟩) yA).trans a0;have zc1:=(hSw.cell (p:=⟨w.heap.size,1,none⟩) yA).trans a1;have zc2:=(hSw.cell (p:=⟨w.heap.size,2,none⟩) yA).trans a2;have zc3:=(hSw.cell (p:=⟨w.heap.size,3,none⟩) yA).trans a3;have zc4:=(hSw.cell (p:=⟨w.heap.size,4,none⟩) yA).trans a4;have zc5:=(hSw.cell (p:=⟨w.heap.size,5,none⟩) yA).trans a5;have zc6:=(hSw.cell (p:=⟨0,j,none⟩) y0).trans c0;go_simp
   try rfl
  try simp only [Act.put,sT,sZ,sS]
  refine' zO (i:=14) (oi:=⟨some 17,_,_,_,_,_⟩) (v:=.pointer (some ⟨0,j,none⟩)) rfl (by kernel_rfl) (by kernel_rfl) (by kernel_rfl) (by kernel_rfl) (fun _ _ _ h=>h) hH0 (by rfl) ?hyv ?o34
  case hyv=>
   intro wz hSw;go_simp;intro hh;omega
  try simp only [Act.put,sT,sZ,sS]
  refine' tkQ 15 18 hH0 ?hyv ?o35
  case hyv=>
   intro wz hSw;have zc0:=(hSw.cell (p:=⟨w.heap.size,0,none⟩) yA).trans a0;have zc1:=(hSw.cell (p:=⟨w.heap.size,1,none⟩) yA).trans a1;have zc2:=(hSw.cell (p:=⟨w.heap.size,2,none⟩) yA).trans a2;have zc3:=(hSw.cell (p:=⟨w.heap.size,3,none⟩) yA).trans a3;have zc4:=(hSw.cell (p:=⟨w.heap.size,4,none⟩) yA).trans a4;have zc5:=(hSw.cell (p:=⟨w.heap.size,5,none⟩) yA).trans a5;have zc6:=(hSw.cell (p:=⟨0,j,none⟩) y0).trans c0;go_simp
   try rfl
  try simp only [Act.put,sT,sZ,sS]
  refine' zO (i:=16) (oi:=⟨some 19,_,_,_,_,_⟩) (v:=.bool ((nA:Int)==pj)) rfl (by kernel_rfl) (by kernel_rfl) (by kernel_rfl) (by kernel_rfl) (fun _ _ _ h=>h) hH0 (by rfl) ?hyv ?o36
  case hyv=>
   intro wz hSw;go_simp
   try rfl
  try simp only [Act.put,sT,sZ,sS]
  refine' tkR 17 20 hH0 ?o37
  refine' tkR 18 2 hH0 ?o38
  refine zH (by kernel_rfl) ?_ _;go_wp2;go_ret;exact ⟨rfl,b1.trans (hH0.mono b1.size)⟩
theorem own_low (op k out n:Int) (aA aE:Option Addr) (nA cA nE cE:Nat) (h:op<14) (w:World) :
  Calls Tryz.prog 114 #[.agg #[.int .i64 op,.int .i64 k,.int .i64 out,.int .i64 n,.slice aA nA cA,.slice aE nE cE]] w fun e w'=>e=.returned (.agg #[.int .i64 op,.int .i64 k,.int .i64 out,.int .i64 n,.slice aA nA cA,.slice none 0 0])/\Below w.heap.size w w':=by
 go_enter Tryz.func114,Tryz.ntmps114;go_wp2;exact bodyPost_ret (v:=.agg #[.int .i64 op,.int .i64 k,.int .i64 out,.int .i64 n,.slice aA nA cA,.slice none 0 0]) (by simp [results,Tryz.results114,go_sem]) rfl ⟨rfl,by
  repeat (first | exact Below.refl _ _ | refine Below.setCell ?_ (by simp) _ | refine Below.alloc ?_ (by simp) _)⟩
theorem own_tree (op k out n:Int) (aA aE:Option Addr) (nA cA nE cE:Nat) (h:14<=op) (w:World) :
  Calls Tryz.prog 114 #[.agg #[.int .i64 op,.int .i64 k,.int .i64 out,.int .i64 n,.slice aA nA cA,.slice aE nE cE]] w fun e w'=>e=.returned (.agg #[.int .i64 op,.int .i64 k,.int .i64 out,.int .i64 n,.slice aA nA cA,.slice aE nE cE])/\Below w.heap.size w w':=by
 go_enter Tryz.func114,Tryz.ntmps114;go_wp2;exact bodyPost_ret (v:=.agg #[.int .i64 op,.int .i64 k,.int .i64 out,.int .i64 n,.slice aA nA cA,.slice aE nE cE]) (by simp [results,Tryz.results114,go_sem]) rfl ⟨rfl,by
  repeat (first | exact Below.refl _ _ | refine Below.setCell ?_ (by simp) _ | refine Below.alloc ?_ (by simp) _)⟩
end Go.Proofs.YtegakbobaecdlaaGreatDoor
