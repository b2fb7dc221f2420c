import Derived.Test.YtegakbobaecdlaaGreatDoorL20
import Derived.WalkKit
import Derived.WalkSpells
import Derived.IntWalk
import Derived.Deep.Cut
import Derived.Deep.LoopGhost
import Derived.Lib.Hide
set_option linter.unusedVariables false
set_option linter.unusedSimpArgs false
set_option maxHeartbeats 64000000
set_option maxRecDepth 100000
namespace Go.Proofs.YtegakbobaecdlaaGreatDoor
open Go.RowKit Go.IntWalk
theorem xE (b:Bool) (e:Int) (w:World):Calls Tryz.prog 162 #[.bool b,.int .u8 e] w fun r w'=>r=.returned (.int .u8 (Sk.when b e))/\Below w.heap.size w w' :=
 (whenS_any b e w).mono fun _ _ ⟨h1,h2⟩=>⟨h1,h2 ▸ Below.refl _ _⟩
abbrev pv (p:Pu):Value:=.agg #[.int .i64 p.op,.int .i64 p.k,.int .i64 p.v,.int .i64 p.n]
theorem jJ (p:Pu) (w:World):Calls Tryz.prog 160 #[pv p] w fun e w'=>e=.returned (.int .u8 (Sk.madeNum p))/\Below w.heap.size w w':=by
 have b1:Below w.heap.size w (w.alloc (.cells #[.int .i64 p.op,.int .i64 p.k,.int .i64 p.v,.int .i64 p.n] 79 (0,0))):=(Below.refl _ _).alloc zM _;have kA:=zI w (.cells #[.int .i64 p.op,.int .i64 p.k,.int .i64 p.v,.int .i64 p.n] 79 (0,0));obtain ⟨R,hR⟩:=nmQ (Sk.madeNum p);rw [<-hR];unfold Sk.madeNum at hR;have hc1:=vZ p.n;generalize Sk.truth p.n=q at hc1 hR;by_cases h0:p.k=0
 ·rw [if_pos h0] at hR
  have e0:(p.k==0)=true:=(by simp [h0]);have HR:=zE hR;clear hR h0 kA;go_enter Tryz.func160,Tryz.ntmps160;go_wp2;go_ret;exact ⟨by rw [HR.out];rfl,b1⟩
 ·rw [if_neg h0] at hR
  have e0:(p.k==0)=false:=(by simp [h0]);by_cases h1:p.k=1
  ·rw [if_pos h1] at hR
   have e1:(p.k==1)=true:=(by simp [h1]);have HR:=zE hR;clear hR h0 h1;go_enter Tryz.func160,Tryz.ntmps160;go_upto_region 5 with fail;generalize w.alloc (.cells #[.int .i64 p.op,.int .i64 p.k,.int .i64 p.v,.int .i64 p.n] 79 (0,0))=w1 at b1 kA ⊢;have a3:=coQ kA 3;simp at a3;go_wp2_with fail;refine (hc1 _).mono ?_;rintro e w2 ⟨rfl,b2⟩;go_wp2_with fail;refine (xE _ _ _).mono ?_;rintro e w3 ⟨rfl,b3⟩;have B2:=b1.trans (b2.mono b1.size);go_wp2;go_ret;exact ⟨by rw [HR.out];rfl,B2.trans (b3.mono B2.size)⟩
  ·rw [if_neg h1] at hR
   have e1:(p.k==1)=false:=(by simp [h1]);have HR:=zE hR;clear hR h0 h1 kA;go_enter Tryz.func160,Tryz.ntmps160;go_wp2;go_ret;exact ⟨by rw [HR.out];rfl,b1⟩
theorem xZ (p:Pu) (v:Sk.Vr) (cells:Int) (hc0:0<=cells) (hc9:cells<=300) (hv0:0<=v.n) (hv9:v.n<=300) (w:World):Calls Tryz.prog 161 #[pv p,vv v,.int .i64 cells] w fun e w'=>e=.returned (.int .u8 (Sk.madeVar p v cells))/\Below w.heap.size w w':=by
 have b1:Below w.heap.size w ((w.alloc (.cells #[.int .i64 p.op,.int .i64 p.k,.int .i64 p.v,.int .i64 p.n] 79 (0,0))).alloc (.cells #[.int .u8 v.elem,.int .i64 v.n] 55 (0,0))):=((Below.refl _ _).alloc zM _).alloc (by simp) _;have kA:((w.alloc (.cells #[.int .i64 p.op,.int .i64 p.k,.int .i64 p.v,.int .i64 p.n] 79 (0,0))).alloc (.cells #[.int .u8 v.elem,.int .i64 v.n] 55 (0,0))).heap[w.heap.size]?=some (.cells #[.int .i64 p.op,.int .i64 p.k,.int .i64 p.v,.int .i64 p.n] 79 (0,0)):=(Below.heap_alloc _ _ _ (by simp)).trans (zI w _);have kB:((w.alloc (.cells #[.int .i64 p.op,.int .i64 p.k,.int .i64 p.v,.int .i64 p.n] 79 (0,0))).alloc (.cells #[.int .u8 v.elem,.int .i64 v.n] 55 (0,0))).heap[w.heap.size+1]?=some (.cells #[.int .u8 v.elem,.int .i64 v.n] 55 (0,0)):=by
  have:=zI (w.alloc (.cells #[.int .i64 p.op,.int .i64 p.k,.int .i64 p.v,.int .i64 p.n] 79 (0,0))) (.cells #[.int .u8 v.elem,.int .i64 v.n] 55 (0,0))
  simpa using this
 obtain ⟨R,hR⟩:=nmQ (Sk.madeVar p v cells);rw [<-hR];unfold Sk.madeVar at hR;have hc1:=xN v;obtain ⟨q1,hq1⟩:=nmQ (Sk.arr v);rw [<-hq1] at hc1 hR;obtain ⟨q3,hq3⟩:=nmQ (decide (0<=p.n));obtain ⟨q4,hq4⟩:=nmQ (decide (p.n<=v.n-cells));rw [<-hq3,<-hq4] at hR;have HQ3:=zE hq3;have HQ4:=zE hq4;clear hq1 hq3 hq4;by_cases h2:p.op=2
 case pos=>
  rw [if_pos h2] at hR;have e2:(p.op==2)=true:=(by simp [h2]);have HR:=zE hR;clear hR h2;go_enter Tryz.func161,Tryz.ntmps161;go_upto_region 2 with fail;generalize (w.alloc (.cells #[.int .i64 p.op,.int .i64 p.k,.int .i64 p.v,.int .i64 p.n] 79 (0,0))).alloc (.cells #[.int .u8 v.elem,.int .i64 v.n] 55 (0,0))=w1 at b1 kA kB ⊢;have a0:=coQ kA 0;have a1:=coQ kA 1;have a2:=coQ kA 2;have a3:=coQ kA 3;simp at a0 a1 a2 a3;have yA:=zG kA;have c0:=coQ kB 0;have c1:=coQ kB 1;simp at c0 c1;have yB:=zG kB;refine zK (fun w'=>Below w1.heap.size w1 w') (fun _=>false) (by kernel_rfl) ?_;have hH0:Below w1.heap.size w1 w1.drew:=(Below.refl _ _).drew;generalize w1.drew=wd0 at hH0 ⊢;refine' tkQ 0 10 hH0 ?hyv ?o1
  case hyv=>
   intro wz hSw;have zc0:=(hSw.cell (p:=⟨w.heap.size,0,none⟩) yA).trans a0;have zc1:=(hSw.cell (p:=⟨w.heap.size,1,none⟩) yA).trans a1;have zc2:=(hSw.cell (p:=⟨w.heap.size,2,none⟩) yA).trans a2;have zc3:=(hSw.cell (p:=⟨w.heap.size,3,none⟩) yA).trans a3;have zc4:=(hSw.cell (p:=⟨w.heap.size+1,0,none⟩) yB).trans c0;have zc5:=(hSw.cell (p:=⟨w.heap.size+1,1,none⟩) yB).trans c1;go_simp
   try rfl
  try simp only [Act.put,sT,sZ,sS]
  refine' tkR 3 13 hH0 ?o2
  refine' tkQ 4 14 hH0 ?hyv ?o3
  case hyv=>
   intro wz hSw;have zc0:=(hSw.cell (p:=⟨w.heap.size,0,none⟩) yA).trans a0;have zc1:=(hSw.cell (p:=⟨w.heap.size,1,none⟩) yA).trans a1;have zc2:=(hSw.cell (p:=⟨w.heap.size,2,none⟩) yA).trans a2;have zc3:=(hSw.cell (p:=⟨w.heap.size,3,none⟩) yA).trans a3;have zc4:=(hSw.cell (p:=⟨w.heap.size+1,0,none⟩) yB).trans c0;have zc5:=(hSw.cell (p:=⟨w.heap.size+1,1,none⟩) yB).trans c1;go_simp
   try rfl
  try simp only [Act.put,sT,sZ,sS]
  refine tnQ 1 (fun K hK=>?_);go_simp;refine (hc1 wd0).mono ?_;rintro eq wd1 ⟨rfl,bq1⟩;have hH1:Below w1.heap.size w1 wd1:=hH0.trans (bq1.mono hH0.size);refine hK.out _ _ (fun _=>hH1) ?_;clear hK K
  try simp only [Act.put,sT,sZ,sS]
  refine' tkR 2 12 hH1 ?o4
  refine tnQ 5 (fun K hK=>?_);go_simp;refine (xE _ _ wd1).mono ?_;rintro eq wd2 ⟨rfl,bq2⟩;have hH2:Below w1.heap.size w1 wd2:=hH1.trans (bq2.mono hH1.size);refine hK.out _ _ (fun _=>hH2) ?_;clear hK K
  try simp only [Act.put,sT,sZ,sS]
  refine' tkR 6 6 hH2 ?o5
  refine zH (by kernel_rfl) ?_ _;go_wp2;go_ret;exact ⟨by rw [HR.out];rfl,b1.trans (hH2.mono b1.size)⟩
 case neg=>
  rw [if_neg h2] at hR;have e2:(p.op==2)=false:=(by simp [h2]);have HR:=zE hR;clear hR h2;go_enter Tryz.func161,Tryz.ntmps161;go_upto_region 3 with fail;generalize (w.alloc (.cells #[.int .i64 p.op,.int .i64 p.k,.int .i64 p.v,.int .i64 p.n] 79 (0,0))).alloc (.cells #[.int .u8 v.elem,.int .i64 v.n] 55 (0,0))=w1 at b1 kA kB ⊢;have a0:=coQ kA 0;have a1:=coQ kA 1;have a2:=coQ kA 2;have a3:=coQ kA 3;simp at a0 a1 a2 a3;have yA:=zG kA;have c0:=coQ kB 0;have c1:=coQ kB 1;simp at c0 c1;have yB:=zG kB;refine zK (fun w'=>Below w1.heap.size w1 w') (fun _=>false) (by kernel_rfl) ?_;have hH0:Below w1.heap.size w1 w1.drew:=(Below.refl _ _).drew;generalize w1.drew=wd0 at hH0 ⊢;refine' tkQ 0 16 hH0 ?hyv ?o6
  case hyv=>
   intro wz hSw;have zc0:=(hSw.cell (p:=⟨w.heap.size,0,none⟩) yA).trans a0;have zc1:=(hSw.cell (p:=⟨w.heap.size,1,none⟩) yA).trans a1;have zc2:=(hSw.cell (p:=⟨w.heap.size,2,none⟩) yA).trans a2;have zc3:=(hSw.cell (p:=⟨w.heap.size,3,none⟩) yA).trans a3;have zc4:=(hSw.cell (p:=⟨w.heap.size+1,0,none⟩) yB).trans c0;have zc5:=(hSw.cell (p:=⟨w.heap.size+1,1,none⟩) yB).trans c1;go_simp
   try rfl
  try simp only [Act.put,sT,sZ,sS]
  refine' tkR 16 32 hH0 ?o7
  refine' tkQ 17 33 hH0 ?hyv ?o8
  case hyv=>
   intro wz hSw;have zc0:=(hSw.cell (p:=⟨w.heap.size,0,none⟩) yA).trans a0;have zc1:=(hSw.cell (p:=⟨w.heap.size,1,none⟩) yA).trans a1;have zc2:=(hSw.cell (p:=⟨w.heap.size,2,none⟩) yA).trans a2;have zc3:=(hSw.cell (p:=⟨w.heap.size,3,none⟩) yA).trans a3;have zc4:=(hSw.cell (p:=⟨w.heap.size+1,0,none⟩) yB).trans c0;have zc5:=(hSw.cell (p:=⟨w.heap.size+1,1,none⟩) yB).trans c1;go_simp
   try rfl
  try simp only [Act.put,sT,sZ,sS]
  refine tnQ 1 (fun K hK=>?_);go_simp;refine (hc1 wd0).mono ?_;rintro eq wd1 ⟨rfl,bq1⟩;have hH1:Below w1.heap.size w1 wd1:=hH0.trans (bq1.mono hH0.size);refine hK.out _ _ (fun _=>hH1) ?_;clear hK K
  try simp only [Act.put,sT,sZ,sS]
  refine' tkR 2 18 hH1 ?o9
  cases q1
  case false=>
   refine zD (i:=3) (oi:=⟨some 19,_,_,_,_,_⟩) rfl (by kernel_rfl) (by kernel_rfl) (by kernel_rfl) (by kernel_rfl) (fun _ _ _ h=>h) hH1 (by rfl) ?_
   try simp only [Act.put,sT,sZ,sS]
   refine zD (i:=4) (oi:=⟨some 20,_,_,_,_,_⟩) rfl (by kernel_rfl) (by kernel_rfl) (by kernel_rfl) (by kernel_rfl) (fun _ _ _ h=>h) hH1 (by rfl) ?_
   try simp only [Act.put,sT,sZ,sS]
   refine zD (i:=5) (oi:=⟨some 21,_,_,_,_,_⟩) rfl (by kernel_rfl) (by kernel_rfl) (by kernel_rfl) (by kernel_rfl) (fun _ _ _ h=>h) hH1 (by rfl) ?_
   try simp only [Act.put,sT,sZ,sS]
   refine' tkR 6 22 hH1 ?o10
   refine' tkR 7 23 hH1 ?o11
   refine zD (i:=8) (oi:=⟨some 24,_,_,_,_,_⟩) rfl (by kernel_rfl) (by kernel_rfl) (by kernel_rfl) (by kernel_rfl) (fun _ _ _ h=>h) hH1 (by rfl) ?_
   try simp only [Act.put,sT,sZ,sS]
   refine zD (i:=9) (oi:=⟨some 25,_,_,_,_,_⟩) rfl (by kernel_rfl) (by kernel_rfl) (by kernel_rfl) (by kernel_rfl) (fun _ _ _ h=>h) hH1 (by rfl) ?_
   try simp only [Act.put,sT,sZ,sS]
   refine zD (i:=10) (oi:=⟨some 26,_,_,_,_,_⟩) rfl (by kernel_rfl) (by kernel_rfl) (by kernel_rfl) (by kernel_rfl) (fun _ _ _ h=>h) hH1 (by rfl) ?_
   try simp only [Act.put,sT,sZ,sS]
   refine zD (i:=11) (oi:=⟨some 27,_,_,_,_,_⟩) rfl (by kernel_rfl) (by kernel_rfl) (by kernel_rfl) (by kernel_rfl) (fun _ _ _ h=>h) hH1 (by rfl) ?_
   try simp only [Act.put,sT,sZ,sS]
   refine zD (i:=12) (oi:=⟨some 28,_,_,_,_,_⟩) rfl (by kernel_rfl) (by kernel_rfl) (by kernel_rfl) (by kernel_rfl) (fun _ _ _ h=>h) hH1 (by rfl) ?_
   try simp only [Act.put,sT,sZ,sS]
   refine zD (i:=13) (oi:=⟨some 29,_,_,_,_,_⟩) rfl (by kernel_rfl) (by kernel_rfl) (by kernel_rfl) (by kernel_rfl) (fun _ _ _ h=>h) hH1 (by rfl) ?_
   try simp only [Act.put,sT,sZ,sS]
   refine zD (i:=14) (oi:=⟨some 30,_,_,_,_,_⟩) rfl (by kernel_rfl) (by kernel_rfl) (by kernel_rfl) (by kernel_rfl) (fun _ _ _ h=>h) hH1 (by rfl) ?_
   try simp only [Act.put,sT,sZ,sS]
   refine' tkR 15 31 hH1 ?o12
   refine tnQ 18 (fun K hK=>?_);go_simp;refine (xE _ _ wd1).mono ?_;rintro eq wd2 ⟨rfl,bq2⟩;have hH2:Below w1.heap.size w1 wd2:=hH1.trans (bq2.mono hH1.size);refine hK.out _ _ (fun _=>hH2) ?_;clear hK K
   try simp only [Act.put,sT,sZ,sS]
   refine' tkR 19 6 hH2 ?o13
   refine zH (by kernel_rfl) ?_ _;go_wp2;go_ret;refine ⟨?_,b1.trans (hH2.mono b1.size)⟩;rw [HR.out]
   first | rfl | simp
  case true=>
   refine' tkR 3 19 hH1 ?o14
   refine' tkQ 4 20 hH1 ?hyv ?o15
   case hyv=>
    intro wz hSw;have zc0:=(hSw.cell (p:=⟨w.heap.size,0,none⟩) yA).trans a0;have zc1:=(hSw.cell (p:=⟨w.heap.size,1,none⟩) yA).trans a1;have zc2:=(hSw.cell (p:=⟨w.heap.size,2,none⟩) yA).trans a2;have zc3:=(hSw.cell (p:=⟨w.heap.size,3,none⟩) yA).trans a3;have zc4:=(hSw.cell (p:=⟨w.heap.size+1,0,none⟩) yB).trans c0;have zc5:=(hSw.cell (p:=⟨w.heap.size+1,1,none⟩) yB).trans c1;go_simp
    try rfl
   try simp only [Act.put,sT,sZ,sS]
   refine' zO (i:=5) (oi:=⟨some 21,_,_,_,_,_⟩) (v:=.bool q3) rfl (by kernel_rfl) (by kernel_rfl) (by kernel_rfl) (by kernel_rfl) (fun _ _ _ h=>h) hH1 (by rfl) ?hyv ?o16
   case hyv=>
    intro wz hSw;go_simp;rw [HQ3.out]
    try rfl
   try simp only [Act.put,sT,sZ,sS]
   refine' tkR 6 22 hH1 ?o17
   refine' tkR 7 23 hH1 ?o18
   cases q3
   case false=>
    refine zD (i:=8) (oi:=⟨some 24,_,_,_,_,_⟩) rfl (by kernel_rfl) (by kernel_rfl) (by kernel_rfl) (by kernel_rfl) (fun _ _ _ h=>h) hH1 (by rfl) ?_
    try simp only [Act.put,sT,sZ,sS]
    refine zD (i:=9) (oi:=⟨some 25,_,_,_,_,_⟩) rfl (by kernel_rfl) (by kernel_rfl) (by kernel_rfl) (by kernel_rfl) (fun _ _ _ h=>h) hH1 (by rfl) ?_
    try simp only [Act.put,sT,sZ,sS]
    refine zD (i:=10) (oi:=⟨some 26,_,_,_,_,_⟩) rfl (by kernel_rfl) (by kernel_rfl) (by kernel_rfl) (by kernel_rfl) (fun _ _ _ h=>h) hH1 (by rfl) ?_
    try simp only [Act.put,sT,sZ,sS]
    refine zD (i:=11) (oi:=⟨some 27,_,_,_,_,_⟩) rfl (by kernel_rfl) (by kernel_rfl) (by kernel_rfl) (by kernel_rfl) (fun _ _ _ h=>h) hH1 (by rfl) ?_
    try simp only [Act.put,sT,sZ,sS]
    refine zD (i:=12) (oi:=⟨some 28,_,_,_,_,_⟩) rfl (by kernel_rfl) (by kernel_rfl) (by kernel_rfl) (by kernel_rfl) (fun _ _ _ h=>h) hH1 (by rfl) ?_
    try simp only [Act.put,sT,sZ,sS]
    refine zD (i:=13) (oi:=⟨some 29,_,_,_,_,_⟩) rfl (by kernel_rfl) (by kernel_rfl) (by kernel_rfl) (by kernel_rfl) (fun _ _ _ h=>h) hH1 (by rfl) ?_
    try simp only [Act.put,sT,sZ,sS]
    refine zD (i:=14) (oi:=⟨some 30,_,_,_,_,_⟩) rfl (by kernel_rfl) (by kernel_rfl) (by kernel_rfl) (by kernel_rfl) (fun _ _ _ h=>h) hH1 (by rfl) ?_
    try simp only [Act.put,sT,sZ,sS]
    refine' tkR 15 31 hH1 ?o19
    refine tnQ 18 (fun K hK=>?_);go_simp;refine (xE _ _ wd1).mono ?_;rintro eq wd2 ⟨rfl,bq2⟩;have hH2:Below w1.heap.size w1 wd2:=hH1.trans (bq2.mono hH1.size);refine hK.out _ _ (fun _=>hH2) ?_;clear hK K
    try simp only [Act.put,sT,sZ,sS]
    refine' tkR 19 6 hH2 ?o20
    refine zH (by kernel_rfl) ?_ _;go_wp2;go_ret;refine ⟨?_,b1.trans (hH2.mono b1.size)⟩;rw [HR.out]
    first | rfl | simp
   case true=>
    refine' tkR 8 24 hH1 ?o21
    refine' tkQ 9 25 hH1 ?hyv ?o22
    case hyv=>
     intro wz hSw;have zc0:=(hSw.cell (p:=⟨w.heap.size,0,none⟩) yA).trans a0;have zc1:=(hSw.cell (p:=⟨w.heap.size,1,none⟩) yA).trans a1;have zc2:=(hSw.cell (p:=⟨w.heap.size,2,none⟩) yA).trans a2;have zc3:=(hSw.cell (p:=⟨w.heap.size,3,none⟩) yA).trans a3;have zc4:=(hSw.cell (p:=⟨w.heap.size+1,0,none⟩) yB).trans c0;have zc5:=(hSw.cell (p:=⟨w.heap.size+1,1,none⟩) yB).trans c1;go_simp
     try rfl
    try simp only [Act.put,sT,sZ,sS]
    refine' tkR 10 26 hH1 ?o23
    refine' tkQ 11 27 hH1 ?hyv ?o24
    case hyv=>
     intro wz hSw;have zc0:=(hSw.cell (p:=⟨w.heap.size,0,none⟩) yA).trans a0;have zc1:=(hSw.cell (p:=⟨w.heap.size,1,none⟩) yA).trans a1;have zc2:=(hSw.cell (p:=⟨w.heap.size,2,none⟩) yA).trans a2;have zc3:=(hSw.cell (p:=⟨w.heap.size,3,none⟩) yA).trans a3;have zc4:=(hSw.cell (p:=⟨w.heap.size+1,0,none⟩) yB).trans c0;have zc5:=(hSw.cell (p:=⟨w.heap.size+1,1,none⟩) yB).trans c1;go_simp
     try rfl
    try simp only [Act.put,sT,sZ,sS]
    refine' tkR 12 28 hH1 ?o25
    refine' tkR 13 29 hH1 ?o26
    refine' zO (i:=14) (oi:=⟨some 30,_,_,_,_,_⟩) (v:=.bool q4) rfl (by kernel_rfl) (by kernel_rfl) (by kernel_rfl) (by kernel_rfl) (fun _ _ _ h=>h) hH1 (by rfl) ?hyv ?o27
    case hyv=>
     intro wz hSw;go_simp;rw [HQ4.out,wrapS (x:=v.n-cells) (by omega) (by omega)]
    try simp only [Act.put,sT,sZ,sS]
    refine' tkR 15 31 hH1 ?o28
    refine tnQ 18 (fun K hK=>?_);go_simp;refine (xE _ _ wd1).mono ?_;rintro eq wd2 ⟨rfl,bq2⟩;have hH2:Below w1.heap.size w1 wd2:=hH1.trans (bq2.mono hH1.size);refine hK.out _ _ (fun _=>hH2) ?_;clear hK K
    try simp only [Act.put,sT,sZ,sS]
    refine' tkR 19 6 hH2 ?o29
    refine zH (by kernel_rfl) ?_ _;go_wp2;go_ret;refine ⟨?_,b1.trans (hH2.mono b1.size)⟩;rw [HR.out]
    first | rfl | simp
end Go.Proofs.YtegakbobaecdlaaGreatDoor
