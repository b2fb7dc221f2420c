import Derived.Test.YtnhmcpnbaajjcaaGreatDoorC13
import Derived.Laws.Cover1
import Derived.Test.YtnhmcpnbaajjcaaGreatDoorC09
set_option linter.unusedVariables false
set_option linter.unusedSimpArgs false
set_option maxHeartbeats 64000000
set_option maxRecDepth 100000
namespace Go.Proofs.YtnhmcpnbaajjcaaGreatDoor
open Go.RowKit Go.IntWalk
namespace Sk
def tooMany (nV nI nO nR:Nat):Bool:=decide (400<nV) || decide (400<nI) || decide (400<nO) || decide (400<nR)
def partsT:List Int:=[0,0,1,1,2,3,2,2,1,3,3,1,2,2,0,1,1]
def hasForm (op:Int) (nA:Nat):Bool:=(decide (1≤op)&&decide (op≤16))&&((nA:Int)==partsT.getD op.toNat 0)
end Sk
def GlobP (w:World):Prop:=0<w.heap.size∧∀ k,k<17→w.cell? ⟨0,k,none⟩=some (.int .i64 (Sk.partsT.getD k 0))
theorem GlobP.under {w w':World} (h:GlobP w) (b:Below w.heap.size w w'):GlobP w' :=
 ⟨Nat.lt_of_lt_of_le h.1 b.size,fun k hk=>(b.cell (p:=⟨0,k,none⟩) h.1).trans (h.2 k hk)⟩
theorem hasTooMany_any (aV aI aO aR:Option Addr) (nV cV nI cI nO cO nR cR:Nat) (h1:nV≤cV∧cV≤maxLen) (h2:nI≤cI∧cI≤maxLen) (h3:nO≤cO∧cO≤maxLen) (h4:nR≤cR∧cR≤maxLen) (w:World) :
  Calls Tryz.prog 74 #[.agg #[.slice aV nV cV,.slice aI nI cI,.slice aO nO cO,.slice aR nR cR]] w fun e w'=>e=.returned (.bool (Sk.tooMany nV nI nO nR))∧Below w.heap.size w w':=by
 have bA:Below w.heap.size w (w.alloc (.cells #[.slice aV nV cV,.slice aI nI cI,.slice aO nO cO,.slice aR nR cR] 26 (0,0))):=(Below.refl _ _).alloc (Nat.le_refl _) _;unfold maxLen at h1 h2 h3 h4;unfold Sk.tooMany;go_enter Tryz.func74,Tryz.ntmps74;go_wp2
 all_goals go_ret
 all_goals refine ⟨?_,bA⟩
 all_goals refine congrArg (fun q=>Ending.returned (Value.bool q)) ?_
 all_goals apply Bool.eq_iff_iff.2
 all_goals simp
 all_goals omega
theorem hasForm_low (op:Int) (k out n:Int) (aA aE:Option Addr) (nA cA nE cE:Nat) (hA:nA≤cA) (hA2:cA≤9223372036854775807) (h:op<1) (w:World) (hP:GlobP w) :
  Calls Tryz.prog 112 #[.agg #[.int .i64 op,.int .i64 k,.int .i64 out,.int .i64 n,.slice aA nA cA,.slice aE nE cE]] w fun e w'=>e=.returned (.bool (false))∧Below w.heap.size w w':=by
  have b1:Below w.heap.size w (w.alloc (.cells #[.int .i64 op,.int .i64 k,.int .i64 out,.int .i64 n,.slice aA nA cA,.slice aE nE cE] 40 (0,0))):=(Below.refl _ _).alloc (Nat.le_refl _) _;have kA:=heap_new w (.cells #[.int .i64 op,.int .i64 k,.int .i64 out,.int .i64 n,.slice aA nA cA,.slice aE nE cE] 40 (0,0));have HP1:=hide (hP.under b1);clear hP;go_enter Tryz.func112,Tryz.ntmps112;go_upto_region 1 with fail;generalize w.alloc (.cells #[.int .i64 op,.int .i64 k,.int .i64 out,.int .i64 n,.slice aA nA cA,.slice aE nE cE] 40 (0,0))=w1 at b1 kA HP1 ⊢;have a0:=co kA 0;have a1:=co kA 1;have a2:=co kA 2;have a3:=co kA 3;have a4:=co kA 4;have a5:=co kA 5;simp at a0 a1 a2 a3 a4 a5;have yA:=lt_of kA;refine wp_region_late (fun w'=>Below w1.heap.size w1 w') (fun _=>false) (by kernel_rfl) ?_;have hH0:Below w1.heap.size w1 w1.drew:=(Below.refl _ _).drew;generalize w1.drew=wd0 at hH0 ⊢;refine' tkR 0 3 hH0 ?o1
  refine' tkQ 1 4 hH0 ?hyv ?o2
  case hyv=>
   intro wz hSw;have zc0:=(hSw.cell (p:=⟨w.heap.size,0,none⟩) yA).trans a0;have zc1:=(hSw.cell (p:=⟨w.heap.size,1,none⟩) yA).trans a1;have zc2:=(hSw.cell (p:=⟨w.heap.size,2,none⟩) yA).trans a2;have zc3:=(hSw.cell (p:=⟨w.heap.size,3,none⟩) yA).trans a3;have zc4:=(hSw.cell (p:=⟨w.heap.size,4,none⟩) yA).trans a4;have zc5:=(hSw.cell (p:=⟨w.heap.size,5,none⟩) yA).trans a5;go_simp
   try rfl
  try simp only [Act.put,sT,sZ,sS]
  refine' wpAnyL_take (i:=2) (oi:=⟨some 5,_,_,_,_,_⟩) (v:=.bool false) rfl (by kernel_rfl) (by kernel_rfl) (by kernel_rfl) (by kernel_rfl) (fun _ _ _ h=>h) hH0 (by rfl) ?hyv ?o3
  case hyv=>
   intro wz hSw;go_simp
   try simp
   try omega
  try simp only [Act.put,sT,sZ,sS]
  refine' tkR 3 6 hH0 ?o4
  refine wpAnyL_skip (i:=4) (oi:=⟨some 7,_,_,_,_,_⟩) rfl (by kernel_rfl) (by kernel_rfl) (by kernel_rfl) (by kernel_rfl) (fun _ _ _ h=>h) hH0 (by rfl) ?_
  try simp only [Act.put,sT,sZ,sS]
  refine wpAnyL_skip (i:=5) (oi:=⟨some 8,_,_,_,_,_⟩) rfl (by kernel_rfl) (by kernel_rfl) (by kernel_rfl) (by kernel_rfl) (fun _ _ _ h=>h) hH0 (by rfl) ?_
  try simp only [Act.put,sT,sZ,sS]
  refine wpAnyL_skip (i:=6) (oi:=⟨some 9,_,_,_,_,_⟩) rfl (by kernel_rfl) (by kernel_rfl) (by kernel_rfl) (by kernel_rfl) (fun _ _ _ h=>h) hH0 (by rfl) ?_
  try simp only [Act.put,sT,sZ,sS]
  refine' tkR 7 10 hH0 ?o5
  refine' tkR 8 11 hH0 ?o6
  refine wpAnyL_skip (i:=9) (oi:=⟨some 12,_,_,_,_,_⟩) rfl (by kernel_rfl) (by kernel_rfl) (by kernel_rfl) (by kernel_rfl) (fun _ _ _ h=>h) hH0 (by rfl) ?_
  try simp only [Act.put,sT,sZ,sS]
  refine wpAnyL_skip (i:=10) (oi:=⟨some 13,_,_,_,_,_⟩) rfl (by kernel_rfl) (by kernel_rfl) (by kernel_rfl) (by kernel_rfl) (fun _ _ _ h=>h) hH0 (by rfl) ?_
  try simp only [Act.put,sT,sZ,sS]
  refine wpAnyL_skip (i:=11) (oi:=⟨some 14,_,_,_,_,_⟩) rfl (by kernel_rfl) (by kernel_rfl) (by kernel_rfl) (by kernel_rfl) (fun _ _ _ h=>h) hH0 (by rfl) ?_
  try simp only [Act.put,sT,sZ,sS]
  refine wpAnyL_skip (i:=12) (oi:=⟨some 15,_,_,_,_,_⟩) rfl (by kernel_rfl) (by kernel_rfl) (by kernel_rfl) (by kernel_rfl) (fun _ _ _ h=>h) hH0 (by rfl) ?_
  try simp only [Act.put,sT,sZ,sS]
  refine wpAnyL_skip (i:=13) (oi:=⟨some 16,_,_,_,_,_⟩) rfl (by kernel_rfl) (by kernel_rfl) (by kernel_rfl) (by kernel_rfl) (fun _ _ _ h=>h) hH0 (by rfl) ?_
  try simp only [Act.put,sT,sZ,sS]
  refine wpAnyL_skip (i:=14) (oi:=⟨some 17,_,_,_,_,_⟩) rfl (by kernel_rfl) (by kernel_rfl) (by kernel_rfl) (by kernel_rfl) (fun _ _ _ h=>h) hH0 (by rfl) ?_
  try simp only [Act.put,sT,sZ,sS]
  refine wpAnyL_skip (i:=15) (oi:=⟨some 18,_,_,_,_,_⟩) rfl (by kernel_rfl) (by kernel_rfl) (by kernel_rfl) (by kernel_rfl) (fun _ _ _ h=>h) hH0 (by rfl) ?_
  try simp only [Act.put,sT,sZ,sS]
  refine wpAnyL_skip (i:=16) (oi:=⟨some 19,_,_,_,_,_⟩) rfl (by kernel_rfl) (by kernel_rfl) (by kernel_rfl) (by kernel_rfl) (fun _ _ _ h=>h) hH0 (by rfl) ?_
  try simp only [Act.put,sT,sZ,sS]
  refine' tkR 17 20 hH0 ?o7
  refine' tkR 18 2 hH0 ?o8
  refine wpAnyL_done (by kernel_rfl) ?_ _;go_wp2;go_ret;exact ⟨rfl,b1.trans (hH0.mono b1.size)⟩
theorem hasForm_high (op:Int) (k out n:Int) (aA aE:Option Addr) (nA cA nE cE:Nat) (hA:nA≤cA) (hA2:cA≤9223372036854775807) (h:16<op) (w:World) (hP:GlobP w) :
  Calls Tryz.prog 112 #[.agg #[.int .i64 op,.int .i64 k,.int .i64 out,.int .i64 n,.slice aA nA cA,.slice aE nE cE]] w fun e w'=>e=.returned (.bool (false))∧Below w.heap.size w w':=by
  have b1:Below w.heap.size w (w.alloc (.cells #[.int .i64 op,.int .i64 k,.int .i64 out,.int .i64 n,.slice aA nA cA,.slice aE nE cE] 40 (0,0))):=(Below.refl _ _).alloc (Nat.le_refl _) _;have kA:=heap_new w (.cells #[.int .i64 op,.int .i64 k,.int .i64 out,.int .i64 n,.slice aA nA cA,.slice aE nE cE] 40 (0,0));have HP1:=hide (hP.under b1);clear hP;go_enter Tryz.func112,Tryz.ntmps112;go_upto_region 1 with fail;generalize w.alloc (.cells #[.int .i64 op,.int .i64 k,.int .i64 out,.int .i64 n,.slice aA nA cA,.slice aE nE cE] 40 (0,0))=w1 at b1 kA HP1 ⊢;have a0:=co kA 0;have a1:=co kA 1;have a2:=co kA 2;have a3:=co kA 3;have a4:=co kA 4;have a5:=co kA 5;simp at a0 a1 a2 a3 a4 a5;have yA:=lt_of kA;refine wp_region_late (fun w'=>Below w1.heap.size w1 w') (fun _=>false) (by kernel_rfl) ?_;have hH0:Below w1.heap.size w1 w1.drew:=(Below.refl _ _).drew;generalize w1.drew=wd0 at hH0 ⊢;refine' tkR 0 3 hH0 ?o9
  refine' tkQ 1 4 hH0 ?hyv ?o10
  case hyv=>
   intro wz hSw;have zc0:=(hSw.cell (p:=⟨w.heap.size,0,none⟩) yA).trans a0;have zc1:=(hSw.cell (p:=⟨w.heap.size,1,none⟩) yA).trans a1;have zc2:=(hSw.cell (p:=⟨w.heap.size,2,none⟩) yA).trans a2;have zc3:=(hSw.cell (p:=⟨w.heap.size,3,none⟩) yA).trans a3;have zc4:=(hSw.cell (p:=⟨w.heap.size,4,none⟩) yA).trans a4;have zc5:=(hSw.cell (p:=⟨w.heap.size,5,none⟩) yA).trans a5;go_simp
   try rfl
  try simp only [Act.put,sT,sZ,sS]
  refine' wpAnyL_take (i:=2) (oi:=⟨some 5,_,_,_,_,_⟩) (v:=.bool true) rfl (by kernel_rfl) (by kernel_rfl) (by kernel_rfl) (by kernel_rfl) (fun _ _ _ h=>h) hH0 (by rfl) ?hyv ?o11
  case hyv=>
   intro wz hSw;go_simp
   try simp
   try omega
  try simp only [Act.put,sT,sZ,sS]
  refine' tkR 3 6 hH0 ?o12
  refine' tkR 4 7 hH0 ?o13
  refine' tkQ 5 8 hH0 ?hyv ?o14
  case hyv=>
   intro wz hSw;have zc0:=(hSw.cell (p:=⟨w.heap.size,0,none⟩) yA).trans a0;have zc1:=(hSw.cell (p:=⟨w.heap.size,1,none⟩) yA).trans a1;have zc2:=(hSw.cell (p:=⟨w.heap.size,2,none⟩) yA).trans a2;have zc3:=(hSw.cell (p:=⟨w.heap.size,3,none⟩) yA).trans a3;have zc4:=(hSw.cell (p:=⟨w.heap.size,4,none⟩) yA).trans a4;have zc5:=(hSw.cell (p:=⟨w.heap.size,5,none⟩) yA).trans a5;go_simp
   try rfl
  try simp only [Act.put,sT,sZ,sS]
  refine' wpAnyL_take (i:=6) (oi:=⟨some 9,_,_,_,_,_⟩) (v:=.bool false) rfl (by kernel_rfl) (by kernel_rfl) (by kernel_rfl) (by kernel_rfl) (fun _ _ _ h=>h) hH0 (by rfl) ?hyv ?o15
  case hyv=>
   intro wz hSw;go_simp
   try simp
   try omega
  try simp only [Act.put,sT,sZ,sS]
  refine' tkR 7 10 hH0 ?o16
  refine' tkR 8 11 hH0 ?o17
  refine wpAnyL_skip (i:=9) (oi:=⟨some 12,_,_,_,_,_⟩) rfl (by kernel_rfl) (by kernel_rfl) (by kernel_rfl) (by kernel_rfl) (fun _ _ _ h=>h) hH0 (by rfl) ?_
  try simp only [Act.put,sT,sZ,sS]
  refine wpAnyL_skip (i:=10) (oi:=⟨some 13,_,_,_,_,_⟩) rfl (by kernel_rfl) (by kernel_rfl) (by kernel_rfl) (by kernel_rfl) (fun _ _ _ h=>h) hH0 (by rfl) ?_
  try simp only [Act.put,sT,sZ,sS]
  refine wpAnyL_skip (i:=11) (oi:=⟨some 14,_,_,_,_,_⟩) rfl (by kernel_rfl) (by kernel_rfl) (by kernel_rfl) (by kernel_rfl) (fun _ _ _ h=>h) hH0 (by rfl) ?_
  try simp only [Act.put,sT,sZ,sS]
  refine wpAnyL_skip (i:=12) (oi:=⟨some 15,_,_,_,_,_⟩) rfl (by kernel_rfl) (by kernel_rfl) (by kernel_rfl) (by kernel_rfl) (fun _ _ _ h=>h) hH0 (by rfl) ?_
  try simp only [Act.put,sT,sZ,sS]
  refine wpAnyL_skip (i:=13) (oi:=⟨some 16,_,_,_,_,_⟩) rfl (by kernel_rfl) (by kernel_rfl) (by kernel_rfl) (by kernel_rfl) (fun _ _ _ h=>h) hH0 (by rfl) ?_
  try simp only [Act.put,sT,sZ,sS]
  refine wpAnyL_skip (i:=14) (oi:=⟨some 17,_,_,_,_,_⟩) rfl (by kernel_rfl) (by kernel_rfl) (by kernel_rfl) (by kernel_rfl) (fun _ _ _ h=>h) hH0 (by rfl) ?_
  try simp only [Act.put,sT,sZ,sS]
  refine wpAnyL_skip (i:=15) (oi:=⟨some 18,_,_,_,_,_⟩) rfl (by kernel_rfl) (by kernel_rfl) (by kernel_rfl) (by kernel_rfl) (fun _ _ _ h=>h) hH0 (by rfl) ?_
  try simp only [Act.put,sT,sZ,sS]
  refine wpAnyL_skip (i:=16) (oi:=⟨some 19,_,_,_,_,_⟩) rfl (by kernel_rfl) (by kernel_rfl) (by kernel_rfl) (by kernel_rfl) (fun _ _ _ h=>h) hH0 (by rfl) ?_
  try simp only [Act.put,sT,sZ,sS]
  refine' tkR 17 20 hH0 ?o18
  refine' tkR 18 2 hH0 ?o19
  refine wpAnyL_done (by kernel_rfl) ?_ _;go_wp2;go_ret;exact ⟨rfl,b1.trans (hH0.mono b1.size)⟩
theorem hasForm_mid (j:Nat) (k out n:Int) (aA aE:Option Addr) (nA cA nE cE:Nat) (hA:nA≤cA) (hA2:cA≤9223372036854775807) (h:1≤j) (h2:j≤16) (w:World) (hP:GlobP w) :
  Calls Tryz.prog 112 #[.agg #[.int .i64 (j:Int),.int .i64 k,.int .i64 out,.int .i64 n,.slice aA nA cA,.slice aE nE cE]] w fun e w'=>e=.returned (.bool ((nA:Int)==Sk.partsT.getD j 0))∧Below w.heap.size w w':=by
  have b1:Below w.heap.size w (w.alloc (.cells #[.int .i64 (j:Int),.int .i64 k,.int .i64 out,.int .i64 n,.slice aA nA cA,.slice aE nE cE] 40 (0,0))):=(Below.refl _ _).alloc (Nat.le_refl _) _;have kA:=heap_new w (.cells #[.int .i64 (j:Int),.int .i64 k,.int .i64 out,.int .i64 n,.slice aA nA cA,.slice aE nE cE] 40 (0,0));have HP1:=hide (hP.under b1);clear hP;obtain ⟨pj,hpj⟩:=nmQ (Sk.partsT.getD j 0);rw [←hpj];have HPJ:=hide hpj;clear hpj;go_enter Tryz.func112,Tryz.ntmps112;go_upto_region 1 with fail;generalize w.alloc (.cells #[.int .i64 (j:Int),.int .i64 k,.int .i64 out,.int .i64 n,.slice aA nA cA,.slice aE nE cE] 40 (0,0))=w1 at b1 kA HP1 ⊢;have a0:=co kA 0;have a1:=co kA 1;have a2:=co kA 2;have a3:=co kA 3;have a4:=co kA 4;have a5:=co kA 5;simp at a0 a1 a2 a3 a4 a5;have yA:=lt_of kA;have c0:=HP1.out.2 j (by omega);rw [←HPJ.out] at c0;have y0:=HP1.out.1;refine wp_region_late (fun w'=>Below w1.heap.size w1 w') (fun _=>false) (by kernel_rfl) ?_;have hH0:Below w1.heap.size w1 w1.drew:=(Below.refl _ _).drew;generalize w1.drew=wd0 at hH0 ⊢;refine' tkR 0 3 hH0 ?o20
  refine' tkQ 1 4 hH0 ?hyv ?o21
  case hyv=>
   intro wz hSw;have zc0:=(hSw.cell (p:=⟨w.heap.size,0,none⟩) yA).trans a0;have zc1:=(hSw.cell (p:=⟨w.heap.size,1,none⟩) yA).trans a1;have zc2:=(hSw.cell (p:=⟨w.heap.size,2,none⟩) yA).trans a2;have zc3:=(hSw.cell (p:=⟨w.heap.size,3,none⟩) yA).trans a3;have zc4:=(hSw.cell (p:=⟨w.heap.size,4,none⟩) yA).trans a4;have zc5:=(hSw.cell (p:=⟨w.heap.size,5,none⟩) yA).trans a5;have zc6:=(hSw.cell (p:=⟨0,j,none⟩) y0).trans c0;go_simp
   try rfl
  try simp only [Act.put,sT,sZ,sS]
  refine' wpAnyL_take (i:=2) (oi:=⟨some 5,_,_,_,_,_⟩) (v:=.bool true) rfl (by kernel_rfl) (by kernel_rfl) (by kernel_rfl) (by kernel_rfl) (fun _ _ _ h=>h) hH0 (by rfl) ?hyv ?o22
  case hyv=>
   intro wz hSw;go_simp
   try simp
   try omega
  try simp only [Act.put,sT,sZ,sS]
  refine' tkR 3 6 hH0 ?o23
  refine' tkR 4 7 hH0 ?o24
  refine' tkQ 5 8 hH0 ?hyv ?o25
  case hyv=>
   intro wz hSw;have zc0:=(hSw.cell (p:=⟨w.heap.size,0,none⟩) yA).trans a0;have zc1:=(hSw.cell (p:=⟨w.heap.size,1,none⟩) yA).trans a1;have zc2:=(hSw.cell (p:=⟨w.heap.size,2,none⟩) yA).trans a2;have zc3:=(hSw.cell (p:=⟨w.heap.size,3,none⟩) yA).trans a3;have zc4:=(hSw.cell (p:=⟨w.heap.size,4,none⟩) yA).trans a4;have zc5:=(hSw.cell (p:=⟨w.heap.size,5,none⟩) yA).trans a5;have zc6:=(hSw.cell (p:=⟨0,j,none⟩) y0).trans c0;go_simp
   try rfl
  try simp only [Act.put,sT,sZ,sS]
  refine' wpAnyL_take (i:=6) (oi:=⟨some 9,_,_,_,_,_⟩) (v:=.bool true) rfl (by kernel_rfl) (by kernel_rfl) (by kernel_rfl) (by kernel_rfl) (fun _ _ _ h=>h) hH0 (by rfl) ?hyv ?o26
  case hyv=>
   intro wz hSw;go_simp
   try simp
   try omega
  try simp only [Act.put,sT,sZ,sS]
  refine' tkR 7 10 hH0 ?o27
  refine' tkR 8 11 hH0 ?o28
  refine' tkR 9 12 hH0 ?o29
  refine' tkQ 10 13 hH0 ?hyv ?o30
  case hyv=>
   intro wz hSw;have zc0:=(hSw.cell (p:=⟨w.heap.size,0,none⟩) yA).trans a0;have zc1:=(hSw.cell (p:=⟨w.heap.size,1,none⟩) yA).trans a1;have zc2:=(hSw.cell (p:=⟨w.heap.size,2,none⟩) yA).trans a2;have zc3:=(hSw.cell (p:=⟨w.heap.size,3,none⟩) yA).trans a3;have zc4:=(hSw.cell (p:=⟨w.heap.size,4,none⟩) yA).trans a4;have zc5:=(hSw.cell (p:=⟨w.heap.size,5,none⟩) yA).trans a5;have zc6:=(hSw.cell (p:=⟨0,j,none⟩) y0).trans c0;go_simp
   try rfl
  try simp only [Act.put,sT,sZ,sS]
  refine' tkR 11 14 hH0 ?o31
  refine' tkR 12 15 hH0 ?o32
  refine' tkQ 13 16 hH0 ?hyv ?o33
  case hyv=>
   intro wz hSw;have zc0:=(hSw.cell (p:=⟨w.heap.size,0,none⟩) yA).trans a0;have zc1:=(hSw.cell (p:=⟨w.heap.size,1,none⟩) yA).trans a1;have zc2:=(hSw.cell (p:=⟨w.heap.size,2,none⟩) yA).trans a2;have zc3:=(hSw.cell (p:=⟨w.heap.size,3,none⟩) yA).trans a3;have zc4:=(hSw.cell (p:=⟨w.heap.size,4,none⟩) yA).trans a4;have zc5:=(hSw.cell (p:=⟨w.heap.size,5,none⟩) yA).trans a5;have zc6:=(hSw.cell (p:=⟨0,j,none⟩) y0).trans c0;go_simp
   try rfl
  try simp only [Act.put,sT,sZ,sS]
  refine' wpAnyL_take (i:=14) (oi:=⟨some 17,_,_,_,_,_⟩) (v:=.pointer (some ⟨0,j,none⟩)) rfl (by kernel_rfl) (by kernel_rfl) (by kernel_rfl) (by kernel_rfl) (fun _ _ _ h=>h) hH0 (by rfl) ?hyv ?o34
  case hyv=>
   intro wz hSw;go_simp;intro hh;omega
  try simp only [Act.put,sT,sZ,sS]
  refine' tkQ 15 18 hH0 ?hyv ?o35
  case hyv=>
   intro wz hSw;have zc0:=(hSw.cell (p:=⟨w.heap.size,0,none⟩) yA).trans a0;have zc1:=(hSw.cell (p:=⟨w.heap.size,1,none⟩) yA).trans a1;have zc2:=(hSw.cell (p:=⟨w.heap.size,2,none⟩) yA).trans a2;have zc3:=(hSw.cell (p:=⟨w.heap.size,3,none⟩) yA).trans a3;have zc4:=(hSw.cell (p:=⟨w.heap.size,4,none⟩) yA).trans a4;have zc5:=(hSw.cell (p:=⟨w.heap.size,5,none⟩) yA).trans a5;have zc6:=(hSw.cell (p:=⟨0,j,none⟩) y0).trans c0;go_simp
   try rfl
  try simp only [Act.put,sT,sZ,sS]
  refine' wpAnyL_take (i:=16) (oi:=⟨some 19,_,_,_,_,_⟩) (v:=.bool ((nA:Int)==pj)) rfl (by kernel_rfl) (by kernel_rfl) (by kernel_rfl) (by kernel_rfl) (fun _ _ _ h=>h) hH0 (by rfl) ?hyv ?o36
  case hyv=>
   intro wz hSw;go_simp
   try rfl
  try simp only [Act.put,sT,sZ,sS]
  refine' tkR 17 20 hH0 ?o37
  refine' tkR 18 2 hH0 ?o38
  refine wpAnyL_done (by kernel_rfl) ?_ _;go_wp2;go_ret;exact ⟨rfl,b1.trans (hH0.mono b1.size)⟩
theorem own_low (op k out n:Int) (aA aE:Option Addr) (nA cA nE cE:Nat) (h:op<14) (w:World) :
  Calls Tryz.prog 113 #[.agg #[.int .i64 op,.int .i64 k,.int .i64 out,.int .i64 n,.slice aA nA cA,.slice aE nE cE]] w fun e w'=>e=.returned (.agg #[.int .i64 op,.int .i64 k,.int .i64 out,.int .i64 n,.slice aA nA cA,.slice none 0 0])∧Below w.heap.size w w':=by
 go_enter Tryz.func113,Tryz.ntmps113;go_wp2;exact bodyPost_ret (v:=.agg #[.int .i64 op,.int .i64 k,.int .i64 out,.int .i64 n,.slice aA nA cA,.slice none 0 0]) (by simp [results,Tryz.results113,go_sem]) rfl ⟨rfl,by
  repeat (first | exact Below.refl _ _ | refine Below.setCell ?_ (by simp) _ | refine Below.alloc ?_ (by simp) _)⟩
theorem own_tree (op k out n:Int) (aA aE:Option Addr) (nA cA nE cE:Nat) (h:14≤op) (w:World) :
  Calls Tryz.prog 113 #[.agg #[.int .i64 op,.int .i64 k,.int .i64 out,.int .i64 n,.slice aA nA cA,.slice aE nE cE]] w fun e w'=>e=.returned (.agg #[.int .i64 op,.int .i64 k,.int .i64 out,.int .i64 n,.slice aA nA cA,.slice aE nE cE])∧Below w.heap.size w w':=by
 go_enter Tryz.func113,Tryz.ntmps113;go_wp2;exact bodyPost_ret (v:=.agg #[.int .i64 op,.int .i64 k,.int .i64 out,.int .i64 n,.slice aA nA cA,.slice aE nE cE]) (by simp [results,Tryz.results113,go_sem]) rfl ⟨rfl,by
  repeat (first | exact Below.refl _ _ | refine Below.setCell ?_ (by simp) _ | refine Below.alloc ?_ (by simp) _)⟩
end Go.Proofs.YtnhmcpnbaajjcaaGreatDoor
namespace Go.Proofs.YtnhmcpnbaajjcaaGreatDoor
open Go.RowKit Go.IntWalk
namespace Sk
def nt (a:List Vr) (i:Nat):Vr:=a.getD i (sc 0)
def fits (op k n:Int) (o:Vr) (a:List Vr):Bool :=
 if op=1 then same o (sc 105) || (same o (sc 98)&&truth n)
 else if op=2 then same o (nt a 0)
 else if op=3∨op=4 then operates k o a
 else if op=5 then (same (nt a 0) (sc 98)&&same (nt a 1) (nt a 2))&&same o (nt a 1)
 else if op=6 then goesOver k (nt a 0) (nt a 1)&&same o (nt a 0)
 else if op=7 then goesOver k (nt a 0) (nt a 1)&&same o (nt a 1)
 else if op=8 then arrOf o (nt a 0)
 else if op=9 then hasPlace (nt a 0) (nt a 1) (nt a 2)&&same o (nt a 2)
 else if op=10 then hasPlace (nt a 0) (nt a 1) (nt a 2)&&same o (nt a 0)
 else if op=11 then ((arr (nt a 0)&&arrOf o (sc (nt a 0).elem))&&decide (0≤n))&&decide (n≤(nt a 0).n-o.n)
 else if op=12 then (arr (nt a 0)&&arrOf (nt a 1) (sc (nt a 0).elem))&&same o ⟨(nt a 0).elem,(nt a 0).n+(nt a 1).n⟩
 else same (nt a 0) (nt a 1)&&same o (nt a 0)
theorem len0 {a:List Vr} (h:a.length=0):a=[]:=List.length_eq_zero_iff.1 h
theorem len1 {a:List Vr} (h:a.length=1):∃ x,a=[x]:=by
 match a,h with
 | [x],_=>exact ⟨x,rfl⟩
theorem len2 {a:List Vr} (h:a.length=2):∃ x y,a=[x,y]:=by
 match a,h with
 | [x,y],_=>exact ⟨x,y,rfl⟩
theorem len3 {a:List Vr} (h:a.length=3):∃ x y z,a=[x,y,z]:=by
 match a,h with
 | [x,y,z],_=>exact ⟨x,y,z,rfl⟩
end Sk
theorem fits_any {ok:Nat→Prop} (t:TRv) {aa:Option Addr} {na ca:Nat} (a:List Sk.Vr) (w:World) (hG:GlobK w) (hl:HVars ok w (.slice aa na ca) a) (h1:1≤t.op) (h2:t.op≤13) (hn:(a.length:Int)=Sk.partsT.getD t.op.toNat 0)
  (hb:∀ v ∈ a,0≤v.n∧v.n≤300) (ho:0≤t.o.n∧t.o.n≤300):Calls Tryz.prog 136 #[tv t aa na ca] w fun e w'=>e=.returned (.bool (Sk.fits t.op t.k t.n t.o a))∧Below w.heap.size w w':=by
 obtain ⟨op,k,out,n,aA,nA,cA,aE,nE,cE,o⟩:=t
 dsimp only at h1 h2 hn ho
 have hc:op=1∨op=2∨op=3∨op=4∨op=5∨op=6∨op=7∨op=8∨op=9∨op=10∨op=11∨op=12∨op=13:=(by omega);rcases hc with rfl | rfl | rfl | rfl | rfl | rfl | rfl | rfl | rfl | rfl | rfl | rfl | rfl
 ·have e:Sk.partsT.getD (1:Int).toNat 0=0:=rfl
  rw [e] at hn;have hn:a.length=0:=(by omega);obtain rfl:=Sk.len0 hn;exact fits1_any ⟨1,k,out,n,aA,nA,cA,aE,nE,cE,o⟩ w hG
 ·have e:Sk.partsT.getD (2:Int).toNat 0=1:=rfl
  rw [e] at hn;have hn:a.length=1:=(by omega);obtain ⟨x,rfl⟩:=Sk.len1 hn;exact fits2_any ⟨2,k,out,n,aA,nA,cA,aE,nE,cE,o⟩ x w hG hl
 ·have e:Sk.partsT.getD (3:Int).toNat 0=1:=rfl
  rw [e] at hn;have hn:a.length=1:=(by omega);obtain ⟨x,rfl⟩:=Sk.len1 hn;exact fits3_any ⟨3,k,out,n,aA,nA,cA,aE,nE,cE,o⟩ x [] w hG hl
 ·have e:Sk.partsT.getD (4:Int).toNat 0=2:=rfl
  rw [e] at hn;have hn:a.length=2:=(by omega);obtain ⟨x,y,rfl⟩:=Sk.len2 hn;exact fits4_any ⟨4,k,out,n,aA,nA,cA,aE,nE,cE,o⟩ x [y] w hG hl
 ·have e:Sk.partsT.getD (5:Int).toNat 0=3:=rfl
  rw [e] at hn;have hn:a.length=3:=(by omega);obtain ⟨x,y,z,rfl⟩:=Sk.len3 hn;exact fits5_any ⟨5,k,out,n,aA,nA,cA,aE,nE,cE,o⟩ x y z w hG hl
 ·have e:Sk.partsT.getD (6:Int).toNat 0=2:=rfl
  rw [e] at hn;have hn:a.length=2:=(by omega);obtain ⟨x,y,rfl⟩:=Sk.len2 hn;exact fits6_any ⟨6,k,out,n,aA,nA,cA,aE,nE,cE,o⟩ x y w hG hl
 ·have e:Sk.partsT.getD (7:Int).toNat 0=2:=rfl
  rw [e] at hn;have hn:a.length=2:=(by omega);obtain ⟨x,y,rfl⟩:=Sk.len2 hn;exact fits7_any ⟨7,k,out,n,aA,nA,cA,aE,nE,cE,o⟩ x y w hG hl
 ·have e:Sk.partsT.getD (8:Int).toNat 0=1:=rfl
  rw [e] at hn;have hn:a.length=1:=(by omega);obtain ⟨x,rfl⟩:=Sk.len1 hn;exact fits8_any ⟨8,k,out,n,aA,nA,cA,aE,nE,cE,o⟩ x w hG hl
 ·have e:Sk.partsT.getD (9:Int).toNat 0=3:=rfl
  rw [e] at hn;have hn:a.length=3:=(by omega);obtain ⟨x,y,z,rfl⟩:=Sk.len3 hn;exact fits9_any ⟨9,k,out,n,aA,nA,cA,aE,nE,cE,o⟩ x y z w hG hl
 ·have e:Sk.partsT.getD (10:Int).toNat 0=3:=rfl
  rw [e] at hn;have hn:a.length=3:=(by omega);obtain ⟨x,y,z,rfl⟩:=Sk.len3 hn;exact fits10_any ⟨10,k,out,n,aA,nA,cA,aE,nE,cE,o⟩ x y z w hG hl
 ·have e:Sk.partsT.getD (11:Int).toNat 0=1:=rfl
  rw [e] at hn;have hn:a.length=1:=(by omega);obtain ⟨x,rfl⟩:=Sk.len1 hn;exact fits11_any ⟨11,k,out,n,aA,nA,cA,aE,nE,cE,o⟩ x w hG hl (hb x (by simp)).1 (hb x (by simp)).2 ho.1 ho.2
 ·have e:Sk.partsT.getD (12:Int).toNat 0=2:=rfl
  rw [e] at hn;have hn:a.length=2:=(by omega);obtain ⟨x,y,rfl⟩:=Sk.len2 hn;exact fits12_any ⟨12,k,out,n,aA,nA,cA,aE,nE,cE,o⟩ x y w hG hl (hb x (by simp)).1 (hb x (by simp)).2 (hb y (by simp)).1 (hb y (by simp)).2
 ·have e:Sk.partsT.getD (13:Int).toNat 0=2:=rfl
  rw [e] at hn;have hn:a.length=2:=(by omega);obtain ⟨x,y,rfl⟩:=Sk.len2 hn;exact fits13_any ⟨13,k,out,n,aA,nA,cA,aE,nE,cE,o⟩ x y w hG hl
end Go.Proofs.YtnhmcpnbaajjcaaGreatDoor
namespace Go.Proofs.YtnhmcpnbaajjcaaGreatDoor
open Go.RowKit Go.IntWalk
def HBy (ok:Nat→Prop) (w:World) (v:Value) (L:List Int):Prop:=∃ C,Sl ok 1 w v L.length C∧∀ i (h:i<L.length),C i=[.int .u8 L[i]]
theorem HBy.keep {ok:Nat→Prop} {w w':World} {v:Value} {l:List Int} (h:HBy ok w v l) (h1:w.heap.size≤w'.heap.size) (h2:∀ i,ok i→i<w.heap.size→w'.heap[i]?=w.heap[i]?):HBy ok w' v l:=by
 obtain ⟨C,h3,h4⟩:=h;exact ⟨C,h3.keep h1 h2,h4⟩
theorem HBy.under {ok:Nat→Prop} {w w':World} {v:Value} {l:List Int} (h:HBy ok w v l) (b:Below w.heap.size w w'):HBy ok w' v l:=h.keep b.size fun i _ hl=>b.block i hl
theorem HBy.wide {ok ok':Nat→Prop} {w:World} {v:Value} {l:List Int} (h:HBy ok w v l) (hk:∀ i,ok i→i<w.heap.size→ok' i):HBy ok' w v l:=by
 obtain ⟨C,h3,h4⟩:=h;exact ⟨C,h3.wide hk,h4⟩
theorem HBy.at {ok:Nat→Prop} {w:World} {v:Value} {l:List Int} (h:HBy ok w v l) :
  ∃ ao cap,v=.slice ao l.length cap∧l.length≤cap∧cap≤maxLen∧∀ i (h:i<l.length),∃ b o,ao=some ⟨b,o,none⟩∧b<w.heap.size∧w.cell? ⟨b,o+i,none⟩=some (.int .u8 l[i]):=by
 obtain ⟨C,⟨ao,cap,hv,h1,h2,h3⟩,hC⟩:=h;refine ⟨ao,cap,hv,h1,h2,fun i hi=>?_⟩;obtain ⟨b,o,ha,hob,hb,hc⟩:=h3 (by omega);have hcc:=(hc i hi).2 0 (by decide);rw [hC i hi] at hcc;exact ⟨b,o,ha,hb,by simpa using hcc⟩
theorem HBy.hnil {ok:Nat→Prop} {w:World}:HBy ok w (.slice none 0 0) []:=⟨fun _=>[],⟨Option.none,0,rfl,Nat.le_refl _,Nat.zero_le _,fun h=>absurd h (Nat.lt_irrefl _)⟩,fun i h=>absurd h (Nat.not_lt_zero _)⟩
theorem HBy.lit {w:World} (l:List Int) (hl:l.length≤1000) (t:TypeId):HBy (fun i=>w.heap.size≤i) (w.alloc (.cells (l.map (Value.int .u8)).toArray t (0,0))) (.slice (some ⟨w.heap.size,0,none⟩) l.length l.length) l:=by
 have hn:=heap_new w (.cells (l.map (Value.int .u8)).toArray t (0,0));refine ⟨fun i=>[.int .u8 (l.getD i 0)],⟨_,_,rfl,Nat.le_refl _,by unfold maxLen;omega,fun _=>⟨w.heap.size,0,rfl,Nat.le_refl _,lt_of hn,fun i hi=>⟨rfl,fun j hj=>?_⟩⟩⟩,fun i hi=>?_⟩
 ·have e:j=0:=by omega
  subst e;rw [co hn];simp [hi]
 ·simp [hi]
namespace Sk
def choice (l:List Int):List Int × Int:=match l.getLast? with
 | none=>([],0)
 | some t=>([98,t,t],t)
end Sk
theorem effectOfChoice_any {ok:Nat→Prop} {w:World} {v:Value} {l:List Int} (hl:HBy ok w v l) :
  Calls Tryz.prog 169 #[v] w fun r w'=>∃ u,r=.returned (.tuple #[u,.int .u8 (Sk.choice l).2])∧HBy (fun i=>w.heap.size≤i) w' u (Sk.choice l).1∧Below w.heap.size w w':=by
 obtain ⟨ao,cap,rfl,hc1,hc2,hat⟩:=hl.at;unfold maxLen at hc2;by_cases h0:l=[]
 ·subst h0
  clear hl hat;go_enter Tryz.func169,Tryz.ntmps169;go_wp2
  go_ret2
  exact ⟨_,rfl,HBy.hnil,Below.refl _ _⟩
 ·obtain ⟨m,hm⟩:∃ m,l.length=m+1:=⟨l.length-1,by have:=List.length_pos_iff.2 h0;omega⟩
  obtain ⟨b,o,rfl,hb,hcell⟩:=hat m (by omega);have hlast:l.getLast?=some (l[m]'(by omega)):=by
   rw [List.getLast?_eq_getElem?,show l.length-1=m by omega,List.getElem?_eq_getElem]
  obtain ⟨tp,htp⟩:=nmQ (l[m]'(by omega));rw [←htp] at hcell hlast;have HC:=hide (show Sk.choice l=([98,tp,tp],tp) by unfold Sk.choice;rw [hlast]);rw [hm] at hc1 ⊢;clear hl hat hlast htp;have HM:=hide hm;clear hm h0;generalize Sk.choice l=R at HC ⊢;go_enter Tryz.func169,Tryz.ntmps169;go_wp2
  go_ret2
  rw [HC.out];exact ⟨_,rfl,HBy.lit [98,tp,tp] (by simp) _,(Below.refl _ _).alloc nR _⟩
end Go.Proofs.YtnhmcpnbaajjcaaGreatDoor
namespace Go.Proofs.YtnhmcpnbaajjcaaGreatDoor
open Go.RowKit Go.IntWalk
namespace Sk
def firstV:Nat→List Vr→Int × Int
 | _,[]=>(0,0)
 | i,v :: r=>if codeType v≠0 then (codeType v,-2-(i:Int)) else firstV (i+1) r
end Sk
theorem firstFaultV_any {ok:Nat→Prop} {w:World} {v:Value} {l:List Sk.Vr} (hl:HVars ok w v l) (hlen:l.length≤1000000) :
  Calls Tryz.prog 76 #[v,.func (.func 77) #[] #[],.func (.func 78) #[] #[]] w fun r w'=>r=.returned (.agg #[.int .i64 (Sk.firstV 0 l).1,.int .i64 (Sk.firstV 0 l).2])∧Below w.heap.size w w':=by
 obtain ⟨ao,cap,rfl,hc1,hc2,_⟩:=hl.at;unfold maxLen at hc2;obtain ⟨R,hR⟩:=nmQ (Sk.firstV 0 l);rw [←hR];have HR:=hide (show R=Sk.firstV 0 (l.drop 0) by rw [List.drop_zero];exact hR);clear hR;have b0:Below w.heap.size w (w.alloc (.cells #[.int .i64 0,.int .i64 0] 30 (0,0))):=(Below.refl _ _).alloc nR _;have k0:=heap_new w (.cells #[.int .i64 0,.int .i64 0] 30 (0,0));have HL:=hide hl;clear hl;obtain ⟨n,hn⟩:=nmQ (l.length);rw [←hn] at hc1 hlen ⊢;have HN:=hide hn;clear hn;go_enter Tryz.func76,Tryz.ntmps76;go_upto_region 1 with fail;generalize w.alloc (.cells #[.int .i64 0,.int .i64 0] 30 (0,0))=w0 at b0 k0 ⊢;go_wp2_with fail;go_loopg [12] n (fun k v wr=>∃ i,i≤n∧k=n-i∧v=.int .i64 (i:Nat)∧Hid (R=Sk.firstV i (l.drop i))∧Below w.heap.size w wr∧wr.heap[w.heap.size]?=some (.cells #[.int .i64 0,.int .i64 0] 30 (0,0)))
 case atStart=>exact ⟨0,Nat.zero_le _,rfl,rfl,HR,b0,k0⟩
 case round=>
  clear b0 k0 HR;obtain ⟨i,hi,rfl,rfl,H,hbr,kr⟩:=hrel;by_cases hlt:i<n
  case neg=>
   have hin:i=n:=(by omega);subst hin;have e1:l.drop i=[]:=List.drop_of_length_le (by have:=HN.out;omega);have hz:R=(0,0):=(by rw [H.out,e1];rfl);have HZ:=hide hz;clear hz e1;have st0:=co kr 0;have st1:=co kr 1;have fr0:=fo kr 0;have fr1:=fo kr 1;simp at st0 st1;have KR:=set_in (set_in kr 0 (.int .i64 0)) 1 (.int .i64 0);have r0:=co KR 0;have r1:=co KR 1;simp at r0 r1;have BR:=(hbr.setCell (p:=⟨w.heap.size,0,none⟩) nR (.int .i64 0)).setCell (p:=⟨w.heap.size,1,none⟩) nR (.int .i64 0);clear KR;go_wp2;exact bodyPost_ret (v:=.agg #[.int .i64 0,.int .i64 0]) (by simp [results,Tryz.results76,go_sem,r0,r1]) rfl ⟨by rw [HZ.out],BR⟩
  case pos=>
   have hil:i<l.length:=(by have:=HN.out;omega);have hdr:l.drop i=l[i] :: l.drop (i+1):=List.drop_eq_getElem_cons hil;have hR1:=H.out;rw [hdr] at hR1;obtain ⟨ao',cap',eqs,_,_,hat2⟩:=(HL.out.under hbr).at;injection eqs with q1 q2 q3;subst q1;obtain ⟨b,o,rfl,hb,e0,e1⟩:=hat2 i hil;obtain ⟨y,hy⟩:=nmQ (l[i]);rw [←hy] at e0 e1 hR1;unfold Sk.firstV at hR1;have hc:=codeOfType_any y;have bA:Below wr.heap.size wr (wr.alloc (.cells #[.int .u8 y.elem,.int .i64 y.n] 61 (0,0))):=(Below.refl _ _).alloc nR _;have BA:=hbr.trans (bA.mono hbr.size);have kA:=(bA.block _ (lt_of kr)).trans kr;generalize Sk.codeType y=cd at hc hR1;have HR1:=hide hR1;clear hat2 q2 q3 hy hdr hR1 H;go_upto_region 4 with fail;have kV:=heap_new wr (.cells #[.int .u8 y.elem,.int .i64 y.n] 61 (0,0));generalize wr.alloc (.cells #[.int .u8 y.elem,.int .i64 y.n] 61 (0,0))=wa at bA BA kA kV ⊢;have v0:=co kV 0;have v1:=co kV 1;simp at v0 v1;go_wp2_with fail;refine (hc wa).mono ?_;rintro e w4 ⟨rfl,b4⟩;have B4:=BA.trans (b4.mono BA.size);have k4:=(b4.block _ (lt_of kA)).trans kA;clear hc v0 v1 kV;by_cases hz:cd=0
   case pos=>
    have hz2:(cd != 0)=false:=(by simp [hz]);have HZ:Hid (R=Sk.firstV (i+1) (l.drop (i+1))):=hide (by rw [HR1.out,if_neg (by simp [hz])]);clear HR1 hz;go_wp2_with fail;go_roundg (n-(i+1))
    case measure=>omega
    case rel=>exact ⟨i+1,by omega,rfl,by go_num,HZ,B4,k4⟩
   case neg=>
    have hz2:(cd != 0)=true:=(by simp [hz]);have HZ:Hid (R=(cd,-2-(i:Int))):=hide (by rw [HR1.out,if_pos hz]);clear HR1 hz;go_wp2_with fail;refine (atVariable_any i (by omega) w4).mono ?_;rintro e w5 ⟨rfl,b5⟩;have B5:=B4.trans (b5.mono B4.size);have k5:=(b5.block _ (lt_of k4)).trans k4;have st0:=co k5 0;have st1:=co k5 1;have fr0:=fo k5 0;have fr1:=fo k5 1;simp at st0 st1;have KR:=set_in (set_in k5 0 (.int .i64 cd)) 1 (.int .i64 (-2-(i:Int)));have r0:=co KR 0;have r1:=co KR 1;simp at r0 r1;have BR:=(B5.setCell (p:=⟨w.heap.size,0,none⟩) nR (.int .i64 cd)).setCell (p:=⟨w.heap.size,1,none⟩) nR (.int .i64 (-2-(i:Int)));clear KR;go_wp2;exact bodyPost_ret (v:=.agg #[.int .i64 cd,.int .i64 (-2-(i:Int))]) (by simp [results,Tryz.results76,go_sem,r0,r1]) rfl ⟨by rw [HZ.out],BR⟩
end Go.Proofs.YtnhmcpnbaajjcaaGreatDoor
