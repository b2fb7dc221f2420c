import Derived.Test.YtnhmcpnbaajjcaaGreatDoorC12
set_option linter.unusedVariables false
set_option linter.unusedSimpArgs false
set_option maxHeartbeats 64000000
set_option maxRecDepth 100000
namespace Go.Proofs.YtnhmcpnbaajjcaaGreatDoor
open Go.RowKit Go.IntWalk
theorem whenB_any (b:Bool) (e:Int) (w:World):Calls Tryz.prog 167 #[.bool b,.int .u8 e] w fun r w'=>r=.returned (.int .u8 (Sk.when b e))∧Below w.heap.size w w' :=
 (whenS_any b e w).mono fun _ _ ⟨h1,h2⟩=>⟨h1,h2 ▸ Below.refl _ _⟩
abbrev pv (p:Pu):Value:=.agg #[.int .i64 p.op,.int .i64 p.k,.int .i64 p.v,.int .i64 p.n]
theorem madeByNumber_any (p:Pu) (w:World):Calls Tryz.prog 165 #[pv p] w fun e w'=>e=.returned (.int .u8 (Sk.madeNum p))∧Below w.heap.size w w':=by
 have b1:Below w.heap.size w (w.alloc (.cells #[.int .i64 p.op,.int .i64 p.k,.int .i64 p.v,.int .i64 p.n] 98 (0,0))):=(Below.refl _ _).alloc nR _;have kA:=heap_new w (.cells #[.int .i64 p.op,.int .i64 p.k,.int .i64 p.v,.int .i64 p.n] 98 (0,0));obtain ⟨R,hR⟩:=nmQ (Sk.madeNum p);rw [←hR];unfold Sk.madeNum at hR;have hc1:=isTruthB_any p.n;generalize Sk.truth p.n=q at hc1 hR;by_cases h0:p.k=0
 ·rw [if_pos h0] at hR
  have e0:(p.k==0)=true:=(by simp [h0]);have HR:=hide hR;clear hR h0 kA;go_enter Tryz.func165,Tryz.ntmps165;go_wp2;go_ret;exact ⟨by rw [HR.out];rfl,b1⟩
 ·rw [if_neg h0] at hR
  have e0:(p.k==0)=false:=(by simp [h0]);by_cases h1:p.k=1
  ·rw [if_pos h1] at hR
   have e1:(p.k==1)=true:=(by simp [h1]);have HR:=hide hR;clear hR h0 h1;go_enter Tryz.func165,Tryz.ntmps165;go_upto_region 5 with fail;generalize w.alloc (.cells #[.int .i64 p.op,.int .i64 p.k,.int .i64 p.v,.int .i64 p.n] 98 (0,0))=w1 at b1 kA ⊢;have a3:=co kA 3;simp at a3;go_wp2_with fail;refine (hc1 _).mono ?_;rintro e w2 ⟨rfl,b2⟩;go_wp2_with fail;refine (whenB_any _ _ _).mono ?_;rintro e w3 ⟨rfl,b3⟩;have B2:=b1.trans (b2.mono b1.size);go_wp2;go_ret;exact ⟨by rw [HR.out];rfl,B2.trans (b3.mono B2.size)⟩
  ·rw [if_neg h1] at hR
   have e1:(p.k==1)=false:=(by simp [h1]);have HR:=hide hR;clear hR h0 h1 kA;go_enter Tryz.func165,Tryz.ntmps165;go_wp2;go_ret;exact ⟨by rw [HR.out];rfl,b1⟩
theorem madeByVariable_any (p:Pu) (v:Sk.Vr) (cells:Int) (hc0:0≤cells) (hc9:cells≤300) (hv0:0≤v.n) (hv9:v.n≤300) (w:World):Calls Tryz.prog 166 #[pv p,vv v,.int .i64 cells] w fun e w'=>e=.returned (.int .u8 (Sk.madeVar p v cells))∧Below w.heap.size w w':=by
 obtain ⟨b1,kA,kB⟩:=nw2 w (.cells #[.int .i64 p.op,.int .i64 p.k,.int .i64 p.v,.int .i64 p.n] 98 (0,0)) (.cells #[.int .u8 v.elem,.int .i64 v.n] 61 (0,0))
 obtain ⟨R,hR⟩:=nmQ (Sk.madeVar p v cells);rw [←hR];unfold Sk.madeVar at hR;have hc1:=isArrayS_any v;obtain ⟨q1,hq1⟩:=nmQ (Sk.arr v);rw [←hq1] at hc1 hR;obtain ⟨q3,hq3⟩:=nmQ (decide (0≤p.n));obtain ⟨q4,hq4⟩:=nmQ (decide (p.n≤v.n-cells));rw [←hq3,←hq4] at hR;have HQ3:=hide hq3;have HQ4:=hide hq4;clear hq1 hq3 hq4;by_cases h2:p.op=2
 case pos=>
  rw [if_pos h2] at hR;have e2:(p.op==2)=true:=(by simp [h2]);have HR:=hide hR;clear hR h2;go_enter Tryz.func166,Tryz.ntmps166;go_upto_region 2 with fail;generalize (w.alloc (.cells #[.int .i64 p.op,.int .i64 p.k,.int .i64 p.v,.int .i64 p.n] 98 (0,0))).alloc (.cells #[.int .u8 v.elem,.int .i64 v.n] 61 (0,0))=w1 at b1 kA kB ⊢;have a0:=co kA 0;have a1:=co kA 1;have a2:=co kA 2;have a3:=co kA 3;simp at a0 a1 a2 a3;have yA:=lt_of kA;have c0:=co kB 0;have c1:=co kB 1;simp at c0 c1;have yB:=lt_of kB;refine wp_region_late (fun w'=>Below w1.heap.size w1 w') (fun _=>false) (by kernel_rfl) ?_;have hH0:Below w1.heap.size w1 w1.drew:=(Below.refl _ _).drew;generalize w1.drew=wd0 at hH0 ⊢;refine' tkQ 0 10 hH0 ?hyv ?o1
  case hyv=>
   intro wz hSw;have zc0:=(hSw.cell (p:=⟨w.heap.size,0,none⟩) yA).trans a0;have zc1:=(hSw.cell (p:=⟨w.heap.size,1,none⟩) yA).trans a1;have zc2:=(hSw.cell (p:=⟨w.heap.size,2,none⟩) yA).trans a2;have zc3:=(hSw.cell (p:=⟨w.heap.size,3,none⟩) yA).trans a3;have zc4:=(hSw.cell (p:=⟨w.heap.size+1,0,none⟩) yB).trans c0;have zc5:=(hSw.cell (p:=⟨w.heap.size+1,1,none⟩) yB).trans c1;go_simp
   try rfl
  try simp only [Act.put,sT,sZ,sS]
  refine' tkR 3 13 hH0 ?o2
  refine' tkQ 4 14 hH0 ?hyv ?o3
  case hyv=>
   intro wz hSw;have zc0:=(hSw.cell (p:=⟨w.heap.size,0,none⟩) yA).trans a0;have zc1:=(hSw.cell (p:=⟨w.heap.size,1,none⟩) yA).trans a1;have zc2:=(hSw.cell (p:=⟨w.heap.size,2,none⟩) yA).trans a2;have zc3:=(hSw.cell (p:=⟨w.heap.size,3,none⟩) yA).trans a3;have zc4:=(hSw.cell (p:=⟨w.heap.size+1,0,none⟩) yB).trans c0;have zc5:=(hSw.cell (p:=⟨w.heap.size+1,1,none⟩) yB).trans c1;go_simp
   try rfl
  try simp only [Act.put,sT,sZ,sS]
  refine tnQ 1 (fun K hK=>?_);go_simp;refine (hc1 wd0).mono ?_;rintro eq wd1 ⟨rfl,bq1⟩;have hH1:Below w1.heap.size w1 wd1:=hH0.trans (bq1.mono hH0.size);refine hK.out _ _ (fun _=>hH1) ?_;clear hK K
  try simp only [Act.put,sT,sZ,sS]
  refine' tkR 2 12 hH1 ?o4
  refine tnQ 5 (fun K hK=>?_);go_simp;refine (whenB_any _ _ wd1).mono ?_;rintro eq wd2 ⟨rfl,bq2⟩;have hH2:Below w1.heap.size w1 wd2:=hH1.trans (bq2.mono hH1.size);refine hK.out _ _ (fun _=>hH2) ?_;clear hK K
  try simp only [Act.put,sT,sZ,sS]
  refine' tkR 6 6 hH2 ?o5
  refine wpAnyL_done (by kernel_rfl) ?_ _;go_wp2;go_ret;exact ⟨by rw [HR.out];rfl,b1.trans (hH2.mono b1.size)⟩
 case neg=>
  rw [if_neg h2] at hR;have e2:(p.op==2)=false:=(by simp [h2]);have HR:=hide hR;clear hR h2;go_enter Tryz.func166,Tryz.ntmps166;go_upto_region 3 with fail;generalize (w.alloc (.cells #[.int .i64 p.op,.int .i64 p.k,.int .i64 p.v,.int .i64 p.n] 98 (0,0))).alloc (.cells #[.int .u8 v.elem,.int .i64 v.n] 61 (0,0))=w1 at b1 kA kB ⊢;have a0:=co kA 0;have a1:=co kA 1;have a2:=co kA 2;have a3:=co kA 3;simp at a0 a1 a2 a3;have yA:=lt_of kA;have c0:=co kB 0;have c1:=co kB 1;simp at c0 c1;have yB:=lt_of kB;refine wp_region_late (fun w'=>Below w1.heap.size w1 w') (fun _=>false) (by kernel_rfl) ?_;have hH0:Below w1.heap.size w1 w1.drew:=(Below.refl _ _).drew;generalize w1.drew=wd0 at hH0 ⊢;refine' tkQ 0 16 hH0 ?hyv ?o6
  case hyv=>
   intro wz hSw;have zc0:=(hSw.cell (p:=⟨w.heap.size,0,none⟩) yA).trans a0;have zc1:=(hSw.cell (p:=⟨w.heap.size,1,none⟩) yA).trans a1;have zc2:=(hSw.cell (p:=⟨w.heap.size,2,none⟩) yA).trans a2;have zc3:=(hSw.cell (p:=⟨w.heap.size,3,none⟩) yA).trans a3;have zc4:=(hSw.cell (p:=⟨w.heap.size+1,0,none⟩) yB).trans c0;have zc5:=(hSw.cell (p:=⟨w.heap.size+1,1,none⟩) yB).trans c1;go_simp
   try rfl
  try simp only [Act.put,sT,sZ,sS]
  refine' tkR 16 32 hH0 ?o7
  refine' tkQ 17 33 hH0 ?hyv ?o8
  case hyv=>
   intro wz hSw;have zc0:=(hSw.cell (p:=⟨w.heap.size,0,none⟩) yA).trans a0;have zc1:=(hSw.cell (p:=⟨w.heap.size,1,none⟩) yA).trans a1;have zc2:=(hSw.cell (p:=⟨w.heap.size,2,none⟩) yA).trans a2;have zc3:=(hSw.cell (p:=⟨w.heap.size,3,none⟩) yA).trans a3;have zc4:=(hSw.cell (p:=⟨w.heap.size+1,0,none⟩) yB).trans c0;have zc5:=(hSw.cell (p:=⟨w.heap.size+1,1,none⟩) yB).trans c1;go_simp
   try rfl
  try simp only [Act.put,sT,sZ,sS]
  refine tnQ 1 (fun K hK=>?_);go_simp;refine (hc1 wd0).mono ?_;rintro eq wd1 ⟨rfl,bq1⟩;have hH1:Below w1.heap.size w1 wd1:=hH0.trans (bq1.mono hH0.size);refine hK.out _ _ (fun _=>hH1) ?_;clear hK K
  try simp only [Act.put,sT,sZ,sS]
  refine' tkR 2 18 hH1 ?o9
  cases q1
  case false=>
   refine wpAnyL_skip (i:=3) (oi:=⟨some 19,_,_,_,_,_⟩) rfl (by kernel_rfl) (by kernel_rfl) (by kernel_rfl) (by kernel_rfl) (fun _ _ _ h=>h) hH1 (by rfl) ?_
   try simp only [Act.put,sT,sZ,sS]
   refine wpAnyL_skip (i:=4) (oi:=⟨some 20,_,_,_,_,_⟩) rfl (by kernel_rfl) (by kernel_rfl) (by kernel_rfl) (by kernel_rfl) (fun _ _ _ h=>h) hH1 (by rfl) ?_
   try simp only [Act.put,sT,sZ,sS]
   refine wpAnyL_skip (i:=5) (oi:=⟨some 21,_,_,_,_,_⟩) rfl (by kernel_rfl) (by kernel_rfl) (by kernel_rfl) (by kernel_rfl) (fun _ _ _ h=>h) hH1 (by rfl) ?_
   try simp only [Act.put,sT,sZ,sS]
   refine' tkR 6 22 hH1 ?o10
   refine' tkR 7 23 hH1 ?o11
   refine wpAnyL_skip (i:=8) (oi:=⟨some 24,_,_,_,_,_⟩) rfl (by kernel_rfl) (by kernel_rfl) (by kernel_rfl) (by kernel_rfl) (fun _ _ _ h=>h) hH1 (by rfl) ?_
   try simp only [Act.put,sT,sZ,sS]
   refine wpAnyL_skip (i:=9) (oi:=⟨some 25,_,_,_,_,_⟩) rfl (by kernel_rfl) (by kernel_rfl) (by kernel_rfl) (by kernel_rfl) (fun _ _ _ h=>h) hH1 (by rfl) ?_
   try simp only [Act.put,sT,sZ,sS]
   refine wpAnyL_skip (i:=10) (oi:=⟨some 26,_,_,_,_,_⟩) rfl (by kernel_rfl) (by kernel_rfl) (by kernel_rfl) (by kernel_rfl) (fun _ _ _ h=>h) hH1 (by rfl) ?_
   try simp only [Act.put,sT,sZ,sS]
   refine wpAnyL_skip (i:=11) (oi:=⟨some 27,_,_,_,_,_⟩) rfl (by kernel_rfl) (by kernel_rfl) (by kernel_rfl) (by kernel_rfl) (fun _ _ _ h=>h) hH1 (by rfl) ?_
   try simp only [Act.put,sT,sZ,sS]
   refine wpAnyL_skip (i:=12) (oi:=⟨some 28,_,_,_,_,_⟩) rfl (by kernel_rfl) (by kernel_rfl) (by kernel_rfl) (by kernel_rfl) (fun _ _ _ h=>h) hH1 (by rfl) ?_
   try simp only [Act.put,sT,sZ,sS]
   refine wpAnyL_skip (i:=13) (oi:=⟨some 29,_,_,_,_,_⟩) rfl (by kernel_rfl) (by kernel_rfl) (by kernel_rfl) (by kernel_rfl) (fun _ _ _ h=>h) hH1 (by rfl) ?_
   try simp only [Act.put,sT,sZ,sS]
   refine wpAnyL_skip (i:=14) (oi:=⟨some 30,_,_,_,_,_⟩) rfl (by kernel_rfl) (by kernel_rfl) (by kernel_rfl) (by kernel_rfl) (fun _ _ _ h=>h) hH1 (by rfl) ?_
   try simp only [Act.put,sT,sZ,sS]
   refine' tkR 15 31 hH1 ?o12
   refine tnQ 18 (fun K hK=>?_);go_simp;refine (whenB_any _ _ wd1).mono ?_;rintro eq wd2 ⟨rfl,bq2⟩;have hH2:Below w1.heap.size w1 wd2:=hH1.trans (bq2.mono hH1.size);refine hK.out _ _ (fun _=>hH2) ?_;clear hK K
   try simp only [Act.put,sT,sZ,sS]
   refine' tkR 19 6 hH2 ?o13
   refine wpAnyL_done (by kernel_rfl) ?_ _;go_wp2;go_ret;refine ⟨?_,b1.trans (hH2.mono b1.size)⟩;rw [HR.out]
   first | rfl | simp
  case true=>
   refine' tkR 3 19 hH1 ?o14
   refine' tkQ 4 20 hH1 ?hyv ?o15
   case hyv=>
    intro wz hSw;have zc0:=(hSw.cell (p:=⟨w.heap.size,0,none⟩) yA).trans a0;have zc1:=(hSw.cell (p:=⟨w.heap.size,1,none⟩) yA).trans a1;have zc2:=(hSw.cell (p:=⟨w.heap.size,2,none⟩) yA).trans a2;have zc3:=(hSw.cell (p:=⟨w.heap.size,3,none⟩) yA).trans a3;have zc4:=(hSw.cell (p:=⟨w.heap.size+1,0,none⟩) yB).trans c0;have zc5:=(hSw.cell (p:=⟨w.heap.size+1,1,none⟩) yB).trans c1;go_simp
    try rfl
   try simp only [Act.put,sT,sZ,sS]
   refine' wpAnyL_take (i:=5) (oi:=⟨some 21,_,_,_,_,_⟩) (v:=.bool q3) rfl (by kernel_rfl) (by kernel_rfl) (by kernel_rfl) (by kernel_rfl) (fun _ _ _ h=>h) hH1 (by rfl) ?hyv ?o16
   case hyv=>
    intro wz hSw;go_simp;rw [HQ3.out]
    try rfl
   try simp only [Act.put,sT,sZ,sS]
   refine' tkR 6 22 hH1 ?o17
   refine' tkR 7 23 hH1 ?o18
   cases q3
   case false=>
    refine wpAnyL_skip (i:=8) (oi:=⟨some 24,_,_,_,_,_⟩) rfl (by kernel_rfl) (by kernel_rfl) (by kernel_rfl) (by kernel_rfl) (fun _ _ _ h=>h) hH1 (by rfl) ?_
    try simp only [Act.put,sT,sZ,sS]
    refine wpAnyL_skip (i:=9) (oi:=⟨some 25,_,_,_,_,_⟩) rfl (by kernel_rfl) (by kernel_rfl) (by kernel_rfl) (by kernel_rfl) (fun _ _ _ h=>h) hH1 (by rfl) ?_
    try simp only [Act.put,sT,sZ,sS]
    refine wpAnyL_skip (i:=10) (oi:=⟨some 26,_,_,_,_,_⟩) rfl (by kernel_rfl) (by kernel_rfl) (by kernel_rfl) (by kernel_rfl) (fun _ _ _ h=>h) hH1 (by rfl) ?_
    try simp only [Act.put,sT,sZ,sS]
    refine wpAnyL_skip (i:=11) (oi:=⟨some 27,_,_,_,_,_⟩) rfl (by kernel_rfl) (by kernel_rfl) (by kernel_rfl) (by kernel_rfl) (fun _ _ _ h=>h) hH1 (by rfl) ?_
    try simp only [Act.put,sT,sZ,sS]
    refine wpAnyL_skip (i:=12) (oi:=⟨some 28,_,_,_,_,_⟩) rfl (by kernel_rfl) (by kernel_rfl) (by kernel_rfl) (by kernel_rfl) (fun _ _ _ h=>h) hH1 (by rfl) ?_
    try simp only [Act.put,sT,sZ,sS]
    refine wpAnyL_skip (i:=13) (oi:=⟨some 29,_,_,_,_,_⟩) rfl (by kernel_rfl) (by kernel_rfl) (by kernel_rfl) (by kernel_rfl) (fun _ _ _ h=>h) hH1 (by rfl) ?_
    try simp only [Act.put,sT,sZ,sS]
    refine wpAnyL_skip (i:=14) (oi:=⟨some 30,_,_,_,_,_⟩) rfl (by kernel_rfl) (by kernel_rfl) (by kernel_rfl) (by kernel_rfl) (fun _ _ _ h=>h) hH1 (by rfl) ?_
    try simp only [Act.put,sT,sZ,sS]
    refine' tkR 15 31 hH1 ?o19
    refine tnQ 18 (fun K hK=>?_);go_simp;refine (whenB_any _ _ wd1).mono ?_;rintro eq wd2 ⟨rfl,bq2⟩;have hH2:Below w1.heap.size w1 wd2:=hH1.trans (bq2.mono hH1.size);refine hK.out _ _ (fun _=>hH2) ?_;clear hK K
    try simp only [Act.put,sT,sZ,sS]
    refine' tkR 19 6 hH2 ?o20
    refine wpAnyL_done (by kernel_rfl) ?_ _;go_wp2;go_ret;refine ⟨?_,b1.trans (hH2.mono b1.size)⟩;rw [HR.out]
    first | rfl | simp
   case true=>
    refine' tkR 8 24 hH1 ?o21
    refine' tkQ 9 25 hH1 ?hyv ?o22
    case hyv=>
     intro wz hSw;have zc0:=(hSw.cell (p:=⟨w.heap.size,0,none⟩) yA).trans a0;have zc1:=(hSw.cell (p:=⟨w.heap.size,1,none⟩) yA).trans a1;have zc2:=(hSw.cell (p:=⟨w.heap.size,2,none⟩) yA).trans a2;have zc3:=(hSw.cell (p:=⟨w.heap.size,3,none⟩) yA).trans a3;have zc4:=(hSw.cell (p:=⟨w.heap.size+1,0,none⟩) yB).trans c0;have zc5:=(hSw.cell (p:=⟨w.heap.size+1,1,none⟩) yB).trans c1;go_simp
     try rfl
    try simp only [Act.put,sT,sZ,sS]
    refine' tkR 10 26 hH1 ?o23
    refine' tkQ 11 27 hH1 ?hyv ?o24
    case hyv=>
     intro wz hSw;have zc0:=(hSw.cell (p:=⟨w.heap.size,0,none⟩) yA).trans a0;have zc1:=(hSw.cell (p:=⟨w.heap.size,1,none⟩) yA).trans a1;have zc2:=(hSw.cell (p:=⟨w.heap.size,2,none⟩) yA).trans a2;have zc3:=(hSw.cell (p:=⟨w.heap.size,3,none⟩) yA).trans a3;have zc4:=(hSw.cell (p:=⟨w.heap.size+1,0,none⟩) yB).trans c0;have zc5:=(hSw.cell (p:=⟨w.heap.size+1,1,none⟩) yB).trans c1;go_simp
     try rfl
    try simp only [Act.put,sT,sZ,sS]
    refine' tkR 12 28 hH1 ?o25
    refine' tkR 13 29 hH1 ?o26
    refine' wpAnyL_take (i:=14) (oi:=⟨some 30,_,_,_,_,_⟩) (v:=.bool q4) rfl (by kernel_rfl) (by kernel_rfl) (by kernel_rfl) (by kernel_rfl) (fun _ _ _ h=>h) hH1 (by rfl) ?hyv ?o27
    case hyv=>
     intro wz hSw;go_simp;rw [HQ4.out,wrapS (x:=v.n-cells) (by omega) (by omega)]
    try simp only [Act.put,sT,sZ,sS]
    refine' tkR 15 31 hH1 ?o28
    refine tnQ 18 (fun K hK=>?_);go_simp;refine (whenB_any _ _ wd1).mono ?_;rintro eq wd2 ⟨rfl,bq2⟩;have hH2:Below w1.heap.size w1 wd2:=hH1.trans (bq2.mono hH1.size);refine hK.out _ _ (fun _=>hH2) ?_;clear hK K
    try simp only [Act.put,sT,sZ,sS]
    refine' tkR 19 6 hH2 ?o29
    refine wpAnyL_done (by kernel_rfl) ?_ _;go_wp2;go_ret;refine ⟨?_,b1.trans (hH2.mono b1.size)⟩;rw [HR.out]
    first | rfl | simp
end Go.Proofs.YtnhmcpnbaajjcaaGreatDoor
namespace Go.Proofs.YtnhmcpnbaajjcaaGreatDoor
open Go.RowKit Go.IntWalk
def Md (w:World) (g:Nat) (m:List Bool):Prop:=w.heap[g]?=some (.cells (m.map Value.bool).toArray 4 (0,0))
theorem Md.under {w w':World} {g:Nat} {m:List Bool} (h:Md w g m) (a:Below w.heap.size w w'):Md w' g m:=(a.block _ (lt_of h)).trans h
theorem Md.cell {w:World} {g:Nat} {m:List Bool} (h:Md w g m) {i:Nat} (hi:i<m.length):w.cell? ⟨g,i,none⟩=some (.bool m[i]):=by
 have:=co h i;rw [this];simp [hi]
theorem Md.put {w:World} {g:Nat} {m:List Bool} (h:Md w g m) {i:Nat} (hi:i<m.length) (q:Bool):Md (w.setCell ⟨g,i,none⟩ (.bool q)) g (m.set i q):=by
 have:=set_in h i (.bool q);unfold Md;rw [this]
 congr 2
 apply Array.ext_getElem?
 intro k;by_cases hk:k=i
 ·subst hk
  simp [hi]
 ·simp [Array.getElem?_setIfInBounds,List.getElem?_set,Ne.symm hk]
namespace Sk
def unmade (m:List Bool) (v:Nat):Int:=if m.getD v false=true then 0 else 9
def given (m:List Bool) (v:Int):Int × List Bool:=if isNone m.length v=true then (16,m) else if m.getD v.toNat false=true then (8,m) else (0,m.set v.toNat true)
end Sk
theorem codeOfUnmade_any {w:World} {b:Nat} {x:LkV} {m:List Bool} (h:LkAt w b x) (hm:Md w x.g m) (hn:x.nV=m.length) (v:Nat) (hv:v<m.length) (hmx:m.length≤1000000) :
  Calls Tryz.prog 92 #[.pointer (some ⟨b,0,none⟩),.int .i64 (v:Int)] w fun e w'=>e=.returned (.int .i64 (Sk.unmade m v))∧Below w.heap.size w w':=by
 unfold LkAt at h;have c4:=co h 4;simp at c4;have yb:=lt_of h;have yg:=lt_of hm;have cv:=hm.cell hv;have hvn:v<x.nV:=(by omega);obtain ⟨R,hR⟩:=nmQ (Sk.unmade m v);rw [←hR];unfold Sk.unmade at hR;rw [List.getD_eq_getElem?_getD,List.getElem?_eq_getElem hv,Option.getD_some] at hR;generalize m[v]=q at cv hR;have HR:=hide hR;clear hR h hm hn hv hmx
 cases q
 ·go_enter Tryz.func92,Tryz.ntmps92
  go_wp2;go_ret;exact ⟨by rw [HR.out];rfl,Below.refl _ _⟩
 ·go_enter Tryz.func92,Tryz.ntmps92
  go_wp2;go_ret;exact ⟨by rw [HR.out];rfl,Below.refl _ _⟩
theorem codeOfGiven_any {w:World} {b:Nat} {x:LkV} {m:List Bool} (h:LkAt w b x) (hm:Md w x.g m) (hn:x.nV=m.length) (hbg:b≠x.g) (v:Int) :
  Calls Tryz.prog 81 #[.pointer (some ⟨b,0,none⟩),.int .i64 v] w fun e w'=>e=.returned (.int .i64 (Sk.given m v).1)∧LkAt w' b x∧Md w' x.g (Sk.given m v).2∧Aside [x.g] w.heap.size w w':=by
 have hc:=isNoneS_any h v;rw [hn] at hc;obtain ⟨R,hR⟩:=nmQ (Sk.given m v);rw [←hR];unfold Sk.given at hR;by_cases hq:Sk.isNone m.length v=true
 ·rw [hq] at hc
  rw [if_pos hq] at hR;have HR:=hide hR;have HH:=hide h;have HM:=hide hm;clear hR h hm hq hn;go_enter Tryz.func81,Tryz.ntmps81;go_wp2_with fail;refine hc.mono ?_;rintro e w1 ⟨rfl,b1⟩;go_wp2;go_ret;exact ⟨by rw [HR.out];rfl,HH.out.under b1,by rw [HR.out];exact HM.out.under b1,aside b1⟩
 ·have hq2:Sk.isNone m.length v=false:=by simpa using hq
  rw [hq2] at hc;rw [if_neg hq] at hR;have hv2:0≤v∧v<m.length:=by
   unfold Sk.isNone at hq2;simp at hq2;omega
  obtain ⟨i,rfl⟩:∃ i:Nat,v=(i:Int):=⟨v.toNat,by omega⟩;have hi:i<m.length:=(by omega);have hin:i<x.nV:=(by omega);rw [Int.toNat_natCast,List.getD_eq_getElem?_getD,List.getElem?_eq_getElem hi,Option.getD_some] at hR;obtain ⟨q,hqq⟩:=nmQ (m[i]);rw [←hqq] at hR;have HR:=hide hR;have HH:=hide h;have HM:=hide hm;have HQ:=hide hqq;have HI:=hide (show i<m.length from hi);have HB:=hide hbg;clear hR h hm hq hqq hv2 hq2 hn hbg;go_enter Tryz.func81,Tryz.ntmps81;go_wp2_with fail;refine hc.mono ?_;rintro e w1 ⟨rfl,b1⟩;have h1:=HH.out.under b1;unfold LkAt at h1;have c4:=co h1 4;simp at c4;have yb:=lt_of h1;have m1:=HM.out.under b1;have yg:=lt_of m1;have cv:=m1.cell HI.out;rw [←HQ.out] at cv;have fr:=fo m1 i;have HM1:=hide m1;have HH1:=hide (HH.out.under b1);clear h1 m1 hc
  cases q
  ·go_wp2
   go_ret;refine ⟨by rw [HR.out];rfl,?_,?_,(aside b1).trans (Aside.setCell (S:=[x.g]) (B:=w1.heap.size) (p:=⟨x.g,i,none⟩) (by simp) _) b1.size⟩
   ·exact keep_set HH1.out (fun e=>HB.out e.symm) _
   ·rw [HR.out]
    exact HM1.out.put HI.out true
  ·go_wp2
   go_ret;exact ⟨by rw [HR.out];rfl,HH1.out,by rw [HR.out];exact HM1.out,aside b1⟩
end Go.Proofs.YtnhmcpnbaajjcaaGreatDoor
