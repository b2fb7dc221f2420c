import Derived.Test.YtegakbobaecdlaaGreatDoorG47
set_option linter.unusedVariables false
set_option linter.unusedSimpArgs false
set_option maxHeartbeats 64000000
set_option maxRecDepth 100000
namespace Go.Proofs.YtegakbobaecdlaaGreatDoor
open Go.RowKit Go.IntWalk
theorem vQ {ok:Nat->Prop} {w:World} {aV aI aO aR:Option Addr} {cV cI cO cR:Nat} {S:Sk.Sys} {r:Sk.Ru} {y:RuV} (hS:HSys ok w aV aI aO aR cV cI cO cR S) (hR:HRu ok w y r) (ho:0<=r.out/\r.out<S.V.length) (u:Nat) (hu:u<S.V.length) (hEl:r.E.length<=1000000) :
  Calls Tryz.prog 22 #[.agg #[.slice aV S.V.length cV,.slice aI S.I.length cI,.slice aO S.O.length cO,.slice aR S.R.length cR],.agg #[.int .i64 r.op,.int .i64 r.k,.int .i64 r.out,.int .i64 r.n,.slice y.aA y.nA y.cA,.slice y.aE y.nE y.cE],.int .i64 (u:Int)] w fun e w'=>e=.returned (.bool (Sk.over S r (u:Int)))/\Below w.heap.size w w':=by
 obtain ⟨x,hx⟩:∃ x:Nat,(x:Int)=r.out:=⟨r.out.toNat,by omega⟩;have hxl:x<S.V.length:=(by omega);have e1:Sk.over S r (u:Int)=(!((((r.op != 14)&&(r.op != 16)) || ((S.V[x]).n != (S.V[u]).n)) || (r.A.any fun z=>z==(u:Int))) && !(r.E.any (Sk.usesOther (u:Int)))):=by
  unfold Sk.over Sk.vAt;rw [<-hx,Int.toNat_natCast,Int.toNat_natCast,List.getD_eq_getElem?_getD,List.getD_eq_getElem?_getD,List.getElem?_eq_getElem hxl,List.getElem?_eq_getElem hu];have e2:(r.A.any fun z=>(u:Int)==z)=(r.A.any fun z=>z==(u:Int)):=(by congr 1;funext z;rw [Bool.eq_iff_iff,beq_iff_eq,beq_iff_eq];exact eq_comm);rw [e2]
  show _=_
  simp only [Option.getD_some,bne]
  cases (r.op==14)<;>cases (r.op==16)<;>cases ((S.V[x]).n==(S.V[u]).n)<;>cases (r.A.any fun z=>z==(u:Int))<;>rfl
 rw [e1];clear e1;obtain ⟨aoV,capV,evV,hV1,hV2,hatV⟩:=hS.V.at;injection evV with q1 q2 q3;subst q1 q3;obtain ⟨bV,oV,eb,yV,-,cx⟩:=hatV x hxl;obtain ⟨bV2,oV2,eb2,-,-,cy⟩:=hatV u hu;rw [eb] at eb2;injection eb2 with eb2;injection eb2 with f1 f2;subst f1 f2;subst eb;unfold maxLen at hV2;obtain ⟨op,rk,out,rn,A,E⟩:=r;obtain ⟨aA,nA,cA,aE,nE,cE⟩:=y
 dsimp only at hx hR hEl ⊢
 subst hx;have b0:Below w.heap.size w (w.alloc (.cells #[.slice (some ⟨bV,oV,none⟩) S.V.length cV,.slice aI S.I.length cI,.slice aO S.O.length cO,.slice aR S.R.length cR] 26 (0,0))):=(Below.refl _ _).alloc zL _;have b1:=b0.alloc b0.size (.cells #[.int .i64 op,.int .i64 rk,.int .i64 (x:Int),.int .i64 rn,.slice aA nA cA,.slice aE nE cE] 40 (0,0));have kS:((w.alloc (.cells #[.slice (some ⟨bV,oV,none⟩) S.V.length cV,.slice aI S.I.length cI,.slice aO S.O.length cO,.slice aR S.R.length cR] 26 (0,0))).alloc (.cells #[.int .i64 op,.int .i64 rk,.int .i64 (x:Int),.int .i64 rn,.slice aA nA cA,.slice aE nE cE] 40 (0,0))).heap[w.heap.size]?=some (.cells #[.slice (some ⟨bV,oV,none⟩) S.V.length cV,.slice aI S.I.length cI,.slice aO S.O.length cO,.slice aR S.R.length cR] 26 (0,0)):=(Below.heap_alloc _ _ _ (by simp)).trans (zJ w _);have kR:((w.alloc (.cells #[.slice (some ⟨bV,oV,none⟩) S.V.length cV,.slice aI S.I.length cI,.slice aO S.O.length cO,.slice aR S.R.length cR] 26 (0,0))).alloc (.cells #[.int .i64 op,.int .i64 rk,.int .i64 (x:Int),.int .i64 rn,.slice aA nA cA,.slice aE nE cE] 40 (0,0))).heap[w.heap.size+1]?=some (.cells #[.int .i64 op,.int .i64 rk,.int .i64 (x:Int),.int .i64 rn,.slice aA nA cA,.slice aE nE cE] 40 (0,0)):=by
  have:=zJ (w.alloc (.cells #[.slice (some ⟨bV,oV,none⟩) S.V.length cV,.slice aI S.I.length cI,.slice aO S.O.length cO,.slice aR S.R.length cR] 26 (0,0))) (.cells #[.int .i64 op,.int .i64 rk,.int .i64 (x:Int),.int .i64 rn,.slice aA nA cA,.slice aE nE cE] 40 (0,0))
  simpa using this
 have HRU:=zG (hR.under b1);have cx1:=(b1.cell (p:=⟨bV,oV+x*2+1,none⟩) yV).trans cx;have cy1:=(b1.cell (p:=⟨bV,oV+u*2+1,none⟩) yV).trans cy;generalize (S.V[x]).n=nx at cx1 cx ⊢;generalize (S.V[u]).n=ny at cy1 cy ⊢;have hinA:=fun (W:World) (hW:Below ((w.alloc (.cells #[.slice (some ⟨bV,oV,none⟩) S.V.length cV,.slice aI S.I.length cI,.slice aO S.O.length cO,.slice aR S.R.length cR] 26 (0,0))).alloc (.cells #[.int .i64 op,.int .i64 rk,.int .i64 (x:Int),.int .i64 rn,.slice aA nA cA,.slice aE nE cE] 40 (0,0))).heap.size ((w.alloc (.cells #[.slice (some ⟨bV,oV,none⟩) S.V.length cV,.slice aI S.I.length cI,.slice aO S.O.length cO,.slice aR S.R.length cR] 26 (0,0))).alloc (.cells #[.int .i64 op,.int .i64 rk,.int .i64 (x:Int),.int .i64 rn,.slice aA nA cA,.slice aE nE cE] 40 (0,0))) W)=>qL (u:Int) (HRU.out.A.under hW)
 dsimp only at hinA
 generalize (A.any fun z=>z==(u:Int))=q4 at hinA ⊢;have HIN:=zG hinA;obtain ⟨q1,hq1⟩:=nmQ ((op != 14));obtain ⟨q2,hq2⟩:=nmQ ((op != 16));obtain ⟨q3,hq3⟩:=nmQ ((nx != ny));rw [<-hq1,<-hq2,<-hq3];obtain ⟨QQ,hQQ⟩:=nmQ ((((q1&&q2) || q3) || q4));rw [<-hQQ];have HQQ:=zG hQQ;clear hQQ;have HQ1:=zG hq1;have HQ2:=zG hq2;have HQ3:=zG hq3;obtain ⟨RR,hRR⟩:=nmQ (E.any (Sk.usesOther (u:Int)));rw [<-hRR];have HRR:=zG hRR;have yV1:=Nat.lt_of_lt_of_le yV b1.size;obtain ⟨nv,hnv⟩:=nmQ (S.V.length);rw [<-hnv] at hxl hu hV1 b1 kS kR HRU cx1 cy1 HIN yV1 ⊢;clear hq1 hq2 hq3 hRR hS hR ho hatV cx cy b0 hinA hnv yV;go_enter Tryz.func22,Tryz.ntmps22;go_upto_region 1 with fail;generalize (w.alloc (.cells #[.slice (some ⟨bV,oV,none⟩) nv cV,.slice aI S.I.length cI,.slice aO S.O.length cO,.slice aR S.R.length cR] 26 (0,0))).alloc (.cells #[.int .i64 op,.int .i64 rk,.int .i64 (x:Int),.int .i64 rn,.slice aA nA cA,.slice aE nE cE] 40 (0,0))=w1 at b1 kS kR HRU cx1 cy1 HIN yV1 ⊢;have s0:=coQ kS 0;have r0:=coQ kR 0;have r2:=coQ kR 2;have r4:=coQ kR 4;have r5:=coQ kR 5;simp at s0 r0 r2 r4 r5;have yS:=zH kS;have yR:=zH kR;go_cut [38] (fun v wd=>v=.bool QQ/\Below w1.heap.size w1 wd)
 case first=>
  refine zK (fun w'=>Below w1.heap.size w1 w') (fun _=>false) (by kernel_rfl) ?_;have hH0:Below w1.heap.size w1 w1.drew:=(Below.refl _ _).drew;generalize w1.drew=wd0 at hH0 ⊢;refine' tkR 0 9 hH0 ?o1
  refine' tkQ 1 10 hH0 ?hyv ?o2
  case hyv=>
   intro wz hSw;have zc0:=(hSw.cell (p:=⟨w.heap.size,0,none⟩) yS).trans s0;have zc1:=(hSw.cell (p:=⟨w.heap.size+1,0,none⟩) yR).trans r0;have zc2:=(hSw.cell (p:=⟨w.heap.size+1,2,none⟩) yR).trans r2;have zc3:=(hSw.cell (p:=⟨w.heap.size+1,4,none⟩) yR).trans r4;have zc4:=(hSw.cell (p:=⟨bV,oV+x*2+1,none⟩) yV1).trans cx1;have zc5:=(hSw.cell (p:=⟨bV,oV+u*2+1,none⟩) yV1).trans cy1;go_simp
   try rfl
  try simp only [Act.put,sT,sZ,sS]
  refine' zM (i:=2) (oi:=⟨some 11,_,_,_,_,_⟩) (v:=.bool q1) rfl (by kernel_rfl) (by kernel_rfl) (by kernel_rfl) (by kernel_rfl) (fun _ _ _ h=>h) hH0 (by rfl) ?hyv ?o3
  case hyv=>
   intro wz hSw;go_simp;rw [HQ1.out]
   try rfl
  try simp only [Act.put,sT,sZ,sS]
  refine' tkR 3 12 hH0 ?o4
  cases q1
  case false=>
   refine zD (i:=4) (oi:=⟨some 13,_,_,_,_,_⟩) rfl (by kernel_rfl) (by kernel_rfl) (by kernel_rfl) (by kernel_rfl) (fun _ _ _ h=>h) hH0 (by rfl) ?_
   try simp only [Act.put,sT,sZ,sS]
   refine zD (i:=5) (oi:=⟨some 14,_,_,_,_,_⟩) rfl (by kernel_rfl) (by kernel_rfl) (by kernel_rfl) (by kernel_rfl) (fun _ _ _ h=>h) hH0 (by rfl) ?_
   try simp only [Act.put,sT,sZ,sS]
   refine zD (i:=6) (oi:=⟨some 15,_,_,_,_,_⟩) rfl (by kernel_rfl) (by kernel_rfl) (by kernel_rfl) (by kernel_rfl) (fun _ _ _ h=>h) hH0 (by rfl) ?_
   try simp only [Act.put,sT,sZ,sS]
   refine' tkR 7 16 hH0 ?o5
   refine' tkR 8 17 hH0 ?o6
   refine' tkR 9 18 hH0 ?o7
   refine' tkQ 10 19 hH0 ?hyv ?o8
   case hyv=>
    intro wz hSw;have zc0:=(hSw.cell (p:=⟨w.heap.size,0,none⟩) yS).trans s0;have zc1:=(hSw.cell (p:=⟨w.heap.size+1,0,none⟩) yR).trans r0;have zc2:=(hSw.cell (p:=⟨w.heap.size+1,2,none⟩) yR).trans r2;have zc3:=(hSw.cell (p:=⟨w.heap.size+1,4,none⟩) yR).trans r4;have zc4:=(hSw.cell (p:=⟨bV,oV+x*2+1,none⟩) yV1).trans cx1;have zc5:=(hSw.cell (p:=⟨bV,oV+u*2+1,none⟩) yV1).trans cy1;go_simp
    try rfl
   try simp only [Act.put,sT,sZ,sS]
   refine' tkR 11 20 hH0 ?o9
   refine' tkQ 12 21 hH0 ?hyv ?o10
   case hyv=>
    intro wz hSw;have zc0:=(hSw.cell (p:=⟨w.heap.size,0,none⟩) yS).trans s0;have zc1:=(hSw.cell (p:=⟨w.heap.size+1,0,none⟩) yR).trans r0;have zc2:=(hSw.cell (p:=⟨w.heap.size+1,2,none⟩) yR).trans r2;have zc3:=(hSw.cell (p:=⟨w.heap.size+1,4,none⟩) yR).trans r4;have zc4:=(hSw.cell (p:=⟨bV,oV+x*2+1,none⟩) yV1).trans cx1;have zc5:=(hSw.cell (p:=⟨bV,oV+u*2+1,none⟩) yV1).trans cy1;go_simp
    try rfl
   try simp only [Act.put,sT,sZ,sS]
   refine' tkR 13 22 hH0 ?o11
   refine' tkR 14 23 hH0 ?o12
   refine' tkQ 15 24 hH0 ?hyv ?o13
   case hyv=>
    intro wz hSw;have zc0:=(hSw.cell (p:=⟨w.heap.size,0,none⟩) yS).trans s0;have zc1:=(hSw.cell (p:=⟨w.heap.size+1,0,none⟩) yR).trans r0;have zc2:=(hSw.cell (p:=⟨w.heap.size+1,2,none⟩) yR).trans r2;have zc3:=(hSw.cell (p:=⟨w.heap.size+1,4,none⟩) yR).trans r4;have zc4:=(hSw.cell (p:=⟨bV,oV+x*2+1,none⟩) yV1).trans cx1;have zc5:=(hSw.cell (p:=⟨bV,oV+u*2+1,none⟩) yV1).trans cy1;go_simp
    try rfl
   try simp only [Act.put,sT,sZ,sS]
   refine' tkR 16 25 hH0 ?o14
   refine' tkQ 17 26 hH0 ?hyv ?o15
   case hyv=>
    intro wz hSw;have zc0:=(hSw.cell (p:=⟨w.heap.size,0,none⟩) yS).trans s0;have zc1:=(hSw.cell (p:=⟨w.heap.size+1,0,none⟩) yR).trans r0;have zc2:=(hSw.cell (p:=⟨w.heap.size+1,2,none⟩) yR).trans r2;have zc3:=(hSw.cell (p:=⟨w.heap.size+1,4,none⟩) yR).trans r4;have zc4:=(hSw.cell (p:=⟨bV,oV+x*2+1,none⟩) yV1).trans cx1;have zc5:=(hSw.cell (p:=⟨bV,oV+u*2+1,none⟩) yV1).trans cy1;go_simp
    try rfl
   try simp only [Act.put,sT,sZ,sS]
   refine' tkR 18 27 hH0 ?o16
   refine' tkR 19 28 hH0 ?o17
   refine' tkR 20 29 hH0 ?o18
   refine' tkQ 21 30 hH0 ?hyv ?o19
   case hyv=>
    intro wz hSw;have zc0:=(hSw.cell (p:=⟨w.heap.size,0,none⟩) yS).trans s0;have zc1:=(hSw.cell (p:=⟨w.heap.size+1,0,none⟩) yR).trans r0;have zc2:=(hSw.cell (p:=⟨w.heap.size+1,2,none⟩) yR).trans r2;have zc3:=(hSw.cell (p:=⟨w.heap.size+1,4,none⟩) yR).trans r4;have zc4:=(hSw.cell (p:=⟨bV,oV+x*2+1,none⟩) yV1).trans cx1;have zc5:=(hSw.cell (p:=⟨bV,oV+u*2+1,none⟩) yV1).trans cy1;go_simp
    try rfl
   try simp only [Act.put,sT,sZ,sS]
   refine' zM (i:=22) (oi:=⟨some 31,_,_,_,_,_⟩) (v:=.bool q3) rfl (by kernel_rfl) (by kernel_rfl) (by kernel_rfl) (by kernel_rfl) (fun _ _ _ h=>h) hH0 (by rfl) ?hyv ?o20
   case hyv=>
    intro wz hSw;go_simp;rw [HQ3.out]
    try rfl
   try simp only [Act.put,sT,sZ,sS]
   refine' tkR 23 32 hH0 ?o21
   refine' tkR 24 33 hH0 ?o22
   cases q3
   case false=>
    refine' tkR 25 34 hH0 ?o23
    refine' tkQ 26 35 hH0 ?hyv ?o24
    case hyv=>
     intro wz hSw;have zc0:=(hSw.cell (p:=⟨w.heap.size,0,none⟩) yS).trans s0;have zc1:=(hSw.cell (p:=⟨w.heap.size+1,0,none⟩) yR).trans r0;have zc2:=(hSw.cell (p:=⟨w.heap.size+1,2,none⟩) yR).trans r2;have zc3:=(hSw.cell (p:=⟨w.heap.size+1,4,none⟩) yR).trans r4;have zc4:=(hSw.cell (p:=⟨bV,oV+x*2+1,none⟩) yV1).trans cx1;have zc5:=(hSw.cell (p:=⟨bV,oV+u*2+1,none⟩) yV1).trans cy1;go_simp
     try rfl
    try simp only [Act.put,sT,sZ,sS]
    refine' tkR 27 36 hH0 ?o25
    refine tnQ 28 (fun K hK=>?_);go_simp;refine (HIN.out wd0 hH0).mono ?_;rintro eq wd1 ⟨rfl,bq1⟩;have hH1:Below w1.heap.size w1 wd1:=hH0.trans (bq1.mono hH0.size);refine hK.out _ _ (fun _=>hH1) ?_;clear hK K
    try simp only [Act.put,sT,sZ,sS]
    refine' tkR 29 38 hH1 ?o26
    refine zI (by kernel_rfl) ?_ _;go_wp2_with fail;go_meet
    case rel=>exact ⟨by rw [HQQ.out];simp,hH1⟩
   case true=>
    refine zD (i:=25) (oi:=⟨some 34,_,_,_,_,_⟩) rfl (by kernel_rfl) (by kernel_rfl) (by kernel_rfl) (by kernel_rfl) (fun _ _ _ h=>h) hH0 (by rfl) ?_
    try simp only [Act.put,sT,sZ,sS]
    refine zD (i:=26) (oi:=⟨some 35,_,_,_,_,_⟩) rfl (by kernel_rfl) (by kernel_rfl) (by kernel_rfl) (by kernel_rfl) (fun _ _ _ h=>h) hH0 (by rfl) ?_
    try simp only [Act.put,sT,sZ,sS]
    refine zD (i:=27) (oi:=⟨some 36,_,_,_,_,_⟩) rfl (by kernel_rfl) (by kernel_rfl) (by kernel_rfl) (by kernel_rfl) (fun _ _ _ h=>h) hH0 (by rfl) ?_
    try simp only [Act.put,sT,sZ,sS]
    refine zD (i:=28) (oi:=⟨some 37,_,_,_,_,_⟩) rfl (by kernel_rfl) (by kernel_rfl) (by kernel_rfl) (by kernel_rfl) (fun _ _ _ h=>h) hH0 (by rfl) ?_
    try simp only [Act.put,sT,sZ,sS]
    refine' tkR 29 38 hH0 ?o27
    refine zI (by kernel_rfl) ?_ _;go_wp2_with fail;go_meet
    case rel=>exact ⟨by rw [HQQ.out];simp,hH0⟩
  case true=>
   refine' tkR 4 13 hH0 ?o28
   refine' tkQ 5 14 hH0 ?hyv ?o29
   case hyv=>
    intro wz hSw;have zc0:=(hSw.cell (p:=⟨w.heap.size,0,none⟩) yS).trans s0;have zc1:=(hSw.cell (p:=⟨w.heap.size+1,0,none⟩) yR).trans r0;have zc2:=(hSw.cell (p:=⟨w.heap.size+1,2,none⟩) yR).trans r2;have zc3:=(hSw.cell (p:=⟨w.heap.size+1,4,none⟩) yR).trans r4;have zc4:=(hSw.cell (p:=⟨bV,oV+x*2+1,none⟩) yV1).trans cx1;have zc5:=(hSw.cell (p:=⟨bV,oV+u*2+1,none⟩) yV1).trans cy1;go_simp
    try rfl
   try simp only [Act.put,sT,sZ,sS]
   refine' zM (i:=6) (oi:=⟨some 15,_,_,_,_,_⟩) (v:=.bool q2) rfl (by kernel_rfl) (by kernel_rfl) (by kernel_rfl) (by kernel_rfl) (fun _ _ _ h=>h) hH0 (by rfl) ?hyv ?o30
   case hyv=>
    intro wz hSw;go_simp;rw [HQ2.out]
    try rfl
   try simp only [Act.put,sT,sZ,sS]
   refine' tkR 7 16 hH0 ?o31
   refine' tkR 8 17 hH0 ?o32
   cases q2
   case false=>
    refine' tkR 9 18 hH0 ?o33
    refine' tkQ 10 19 hH0 ?hyv ?o34
    case hyv=>
     intro wz hSw;have zc0:=(hSw.cell (p:=⟨w.heap.size,0,none⟩) yS).trans s0;have zc1:=(hSw.cell (p:=⟨w.heap.size+1,0,none⟩) yR).trans r0;have zc2:=(hSw.cell (p:=⟨w.heap.size+1,2,none⟩) yR).trans r2;have zc3:=(hSw.cell (p:=⟨w.heap.size+1,4,none⟩) yR).trans r4;have zc4:=(hSw.cell (p:=⟨bV,oV+x*2+1,none⟩) yV1).trans cx1;have zc5:=(hSw.cell (p:=⟨bV,oV+u*2+1,none⟩) yV1).trans cy1;go_simp
     try rfl
    try simp only [Act.put,sT,sZ,sS]
    refine' tkR 11 20 hH0 ?o35
    refine' tkQ 12 21 hH0 ?hyv ?o36
    case hyv=>
     intro wz hSw;have zc0:=(hSw.cell (p:=⟨w.heap.size,0,none⟩) yS).trans s0;have zc1:=(hSw.cell (p:=⟨w.heap.size+1,0,none⟩) yR).trans r0;have zc2:=(hSw.cell (p:=⟨w.heap.size+1,2,none⟩) yR).trans r2;have zc3:=(hSw.cell (p:=⟨w.heap.size+1,4,none⟩) yR).trans r4;have zc4:=(hSw.cell (p:=⟨bV,oV+x*2+1,none⟩) yV1).trans cx1;have zc5:=(hSw.cell (p:=⟨bV,oV+u*2+1,none⟩) yV1).trans cy1;go_simp
     try rfl
    try simp only [Act.put,sT,sZ,sS]
    refine' tkR 13 22 hH0 ?o37
    refine' tkR 14 23 hH0 ?o38
    refine' tkQ 15 24 hH0 ?hyv ?o39
    case hyv=>
     intro wz hSw;have zc0:=(hSw.cell (p:=⟨w.heap.size,0,none⟩) yS).trans s0;have zc1:=(hSw.cell (p:=⟨w.heap.size+1,0,none⟩) yR).trans r0;have zc2:=(hSw.cell (p:=⟨w.heap.size+1,2,none⟩) yR).trans r2;have zc3:=(hSw.cell (p:=⟨w.heap.size+1,4,none⟩) yR).trans r4;have zc4:=(hSw.cell (p:=⟨bV,oV+x*2+1,none⟩) yV1).trans cx1;have zc5:=(hSw.cell (p:=⟨bV,oV+u*2+1,none⟩) yV1).trans cy1;go_simp
     try rfl
    try simp only [Act.put,sT,sZ,sS]
    refine' tkR 16 25 hH0 ?o40
    refine' tkQ 17 26 hH0 ?hyv ?o41
    case hyv=>
     intro wz hSw;have zc0:=(hSw.cell (p:=⟨w.heap.size,0,none⟩) yS).trans s0;have zc1:=(hSw.cell (p:=⟨w.heap.size+1,0,none⟩) yR).trans r0;have zc2:=(hSw.cell (p:=⟨w.heap.size+1,2,none⟩) yR).trans r2;have zc3:=(hSw.cell (p:=⟨w.heap.size+1,4,none⟩) yR).trans r4;have zc4:=(hSw.cell (p:=⟨bV,oV+x*2+1,none⟩) yV1).trans cx1;have zc5:=(hSw.cell (p:=⟨bV,oV+u*2+1,none⟩) yV1).trans cy1;go_simp
     try rfl
    try simp only [Act.put,sT,sZ,sS]
    refine' tkR 18 27 hH0 ?o42
    refine' tkR 19 28 hH0 ?o43
    refine' tkR 20 29 hH0 ?o44
    refine' tkQ 21 30 hH0 ?hyv ?o45
    case hyv=>
     intro wz hSw;have zc0:=(hSw.cell (p:=⟨w.heap.size,0,none⟩) yS).trans s0;have zc1:=(hSw.cell (p:=⟨w.heap.size+1,0,none⟩) yR).trans r0;have zc2:=(hSw.cell (p:=⟨w.heap.size+1,2,none⟩) yR).trans r2;have zc3:=(hSw.cell (p:=⟨w.heap.size+1,4,none⟩) yR).trans r4;have zc4:=(hSw.cell (p:=⟨bV,oV+x*2+1,none⟩) yV1).trans cx1;have zc5:=(hSw.cell (p:=⟨bV,oV+u*2+1,none⟩) yV1).trans cy1;go_simp
     try rfl
    try simp only [Act.put,sT,sZ,sS]
    refine' zM (i:=22) (oi:=⟨some 31,_,_,_,_,_⟩) (v:=.bool q3) rfl (by kernel_rfl) (by kernel_rfl) (by kernel_rfl) (by kernel_rfl) (fun _ _ _ h=>h) hH0 (by rfl) ?hyv ?o46
    case hyv=>
     intro wz hSw;go_simp;rw [HQ3.out]
     try rfl
    try simp only [Act.put,sT,sZ,sS]
    refine' tkR 23 32 hH0 ?o47
    refine' tkR 24 33 hH0 ?o48
    cases q3
    case false=>
     refine' tkR 25 34 hH0 ?o49
     refine' tkQ 26 35 hH0 ?hyv ?o50
     case hyv=>
      intro wz hSw;have zc0:=(hSw.cell (p:=⟨w.heap.size,0,none⟩) yS).trans s0;have zc1:=(hSw.cell (p:=⟨w.heap.size+1,0,none⟩) yR).trans r0;have zc2:=(hSw.cell (p:=⟨w.heap.size+1,2,none⟩) yR).trans r2;have zc3:=(hSw.cell (p:=⟨w.heap.size+1,4,none⟩) yR).trans r4;have zc4:=(hSw.cell (p:=⟨bV,oV+x*2+1,none⟩) yV1).trans cx1;have zc5:=(hSw.cell (p:=⟨bV,oV+u*2+1,none⟩) yV1).trans cy1;go_simp
      try rfl
     try simp only [Act.put,sT,sZ,sS]
     refine' tkR 27 36 hH0 ?o51
     refine tnQ 28 (fun K hK=>?_);go_simp;refine (HIN.out wd0 hH0).mono ?_;rintro eq wd1 ⟨rfl,bq1⟩;have hH1:Below w1.heap.size w1 wd1:=hH0.trans (bq1.mono hH0.size);refine hK.out _ _ (fun _=>hH1) ?_;clear hK K
     try simp only [Act.put,sT,sZ,sS]
     refine' tkR 29 38 hH1 ?o52
     refine zI (by kernel_rfl) ?_ _;go_wp2_with fail;go_meet
     case rel=>exact ⟨by rw [HQQ.out];simp,hH1⟩
    case true=>
     refine zD (i:=25) (oi:=⟨some 34,_,_,_,_,_⟩) rfl (by kernel_rfl) (by kernel_rfl) (by kernel_rfl) (by kernel_rfl) (fun _ _ _ h=>h) hH0 (by rfl) ?_
     try simp only [Act.put,sT,sZ,sS]
     refine zD (i:=26) (oi:=⟨some 35,_,_,_,_,_⟩) rfl (by kernel_rfl) (by kernel_rfl) (by kernel_rfl) (by kernel_rfl) (fun _ _ _ h=>h) hH0 (by rfl) ?_
     try simp only [Act.put,sT,sZ,sS]
     refine zD (i:=27) (oi:=⟨some 36,_,_,_,_,_⟩) rfl (by kernel_rfl) (by kernel_rfl) (by kernel_rfl) (by kernel_rfl) (fun _ _ _ h=>h) hH0 (by rfl) ?_
     try simp only [Act.put,sT,sZ,sS]
     refine zD (i:=28) (oi:=⟨some 37,_,_,_,_,_⟩) rfl (by kernel_rfl) (by kernel_rfl) (by kernel_rfl) (by kernel_rfl) (fun _ _ _ h=>h) hH0 (by rfl) ?_
     try simp only [Act.put,sT,sZ,sS]
     refine' tkR 29 38 hH0 ?o53
     refine zI (by kernel_rfl) ?_ _;go_wp2_with fail;go_meet
     case rel=>exact ⟨by rw [HQQ.out];simp,hH0⟩
   case true=>
    refine zD (i:=9) (oi:=⟨some 18,_,_,_,_,_⟩) rfl (by kernel_rfl) (by kernel_rfl) (by kernel_rfl) (by kernel_rfl) (fun _ _ _ h=>h) hH0 (by rfl) ?_
    try simp only [Act.put,sT,sZ,sS]
    refine zD (i:=10) (oi:=⟨some 19,_,_,_,_,_⟩) rfl (by kernel_rfl) (by kernel_rfl) (by kernel_rfl) (by kernel_rfl) (fun _ _ _ h=>h) hH0 (by rfl) ?_
    try simp only [Act.put,sT,sZ,sS]
    refine zD (i:=11) (oi:=⟨some 20,_,_,_,_,_⟩) rfl (by kernel_rfl) (by kernel_rfl) (by kernel_rfl) (by kernel_rfl) (fun _ _ _ h=>h) hH0 (by rfl) ?_
    try simp only [Act.put,sT,sZ,sS]
    refine zD (i:=12) (oi:=⟨some 21,_,_,_,_,_⟩) rfl (by kernel_rfl) (by kernel_rfl) (by kernel_rfl) (by kernel_rfl) (fun _ _ _ h=>h) hH0 (by rfl) ?_
    try simp only [Act.put,sT,sZ,sS]
    refine zD (i:=13) (oi:=⟨some 22,_,_,_,_,_⟩) rfl (by kernel_rfl) (by kernel_rfl) (by kernel_rfl) (by kernel_rfl) (fun _ _ _ h=>h) hH0 (by rfl) ?_
    try simp only [Act.put,sT,sZ,sS]
    refine zD (i:=14) (oi:=⟨some 23,_,_,_,_,_⟩) rfl (by kernel_rfl) (by kernel_rfl) (by kernel_rfl) (by kernel_rfl) (fun _ _ _ h=>h) hH0 (by rfl) ?_
    try simp only [Act.put,sT,sZ,sS]
    refine zD (i:=15) (oi:=⟨some 24,_,_,_,_,_⟩) rfl (by kernel_rfl) (by kernel_rfl) (by kernel_rfl) (by kernel_rfl) (fun _ _ _ h=>h) hH0 (by rfl) ?_
    try simp only [Act.put,sT,sZ,sS]
    refine zD (i:=16) (oi:=⟨some 25,_,_,_,_,_⟩) rfl (by kernel_rfl) (by kernel_rfl) (by kernel_rfl) (by kernel_rfl) (fun _ _ _ h=>h) hH0 (by rfl) ?_
    try simp only [Act.put,sT,sZ,sS]
    refine zD (i:=17) (oi:=⟨some 26,_,_,_,_,_⟩) rfl (by kernel_rfl) (by kernel_rfl) (by kernel_rfl) (by kernel_rfl) (fun _ _ _ h=>h) hH0 (by rfl) ?_
    try simp only [Act.put,sT,sZ,sS]
    refine zD (i:=18) (oi:=⟨some 27,_,_,_,_,_⟩) rfl (by kernel_rfl) (by kernel_rfl) (by kernel_rfl) (by kernel_rfl) (fun _ _ _ h=>h) hH0 (by rfl) ?_
    try simp only [Act.put,sT,sZ,sS]
    refine zD (i:=19) (oi:=⟨some 28,_,_,_,_,_⟩) rfl (by kernel_rfl) (by kernel_rfl) (by kernel_rfl) (by kernel_rfl) (fun _ _ _ h=>h) hH0 (by rfl) ?_
    try simp only [Act.put,sT,sZ,sS]
    refine zD (i:=20) (oi:=⟨some 29,_,_,_,_,_⟩) rfl (by kernel_rfl) (by kernel_rfl) (by kernel_rfl) (by kernel_rfl) (fun _ _ _ h=>h) hH0 (by rfl) ?_
    try simp only [Act.put,sT,sZ,sS]
    refine zD (i:=21) (oi:=⟨some 30,_,_,_,_,_⟩) rfl (by kernel_rfl) (by kernel_rfl) (by kernel_rfl) (by kernel_rfl) (fun _ _ _ h=>h) hH0 (by rfl) ?_
    try simp only [Act.put,sT,sZ,sS]
    refine zD (i:=22) (oi:=⟨some 31,_,_,_,_,_⟩) rfl (by kernel_rfl) (by kernel_rfl) (by kernel_rfl) (by kernel_rfl) (fun _ _ _ h=>h) hH0 (by rfl) ?_
    try simp only [Act.put,sT,sZ,sS]
    refine' tkR 23 32 hH0 ?o54
    refine' tkR 24 33 hH0 ?o55
    refine zD (i:=25) (oi:=⟨some 34,_,_,_,_,_⟩) rfl (by kernel_rfl) (by kernel_rfl) (by kernel_rfl) (by kernel_rfl) (fun _ _ _ h=>h) hH0 (by rfl) ?_
    try simp only [Act.put,sT,sZ,sS]
    refine zD (i:=26) (oi:=⟨some 35,_,_,_,_,_⟩) rfl (by kernel_rfl) (by kernel_rfl) (by kernel_rfl) (by kernel_rfl) (fun _ _ _ h=>h) hH0 (by rfl) ?_
    try simp only [Act.put,sT,sZ,sS]
    refine zD (i:=27) (oi:=⟨some 36,_,_,_,_,_⟩) rfl (by kernel_rfl) (by kernel_rfl) (by kernel_rfl) (by kernel_rfl) (fun _ _ _ h=>h) hH0 (by rfl) ?_
    try simp only [Act.put,sT,sZ,sS]
    refine zD (i:=28) (oi:=⟨some 37,_,_,_,_,_⟩) rfl (by kernel_rfl) (by kernel_rfl) (by kernel_rfl) (by kernel_rfl) (fun _ _ _ h=>h) hH0 (by rfl) ?_
    try simp only [Act.put,sT,sZ,sS]
    refine' tkR 29 38 hH0 ?o56
    refine zI (by kernel_rfl) ?_ _;go_wp2_with fail;go_meet
    case rel=>exact ⟨by rw [HQQ.out];simp,hH0⟩
 case rest=>
  obtain ⟨rfl,bc⟩:=hcut;have Bc:=b1.trans (bc.mono b1.size);have kRc:=(bc.block _ yR).trans kR;have HEc:=zG ((HRU.out.E.under bc));clear s0 r0 r2 r4 r5 cx1 cy1 HIN HRU HQ1 HQ2 HQ3 kS kR;clear HQQ
  cases QQ
  case true=>
   go_wp2;go_ret;exact ⟨by simp,Bc⟩
  case false=>
   have HRR2:=zG (show RR=(E.drop 0).any (Sk.usesOther (u:Int)) by rw [List.drop_zero];exact HRR.out);obtain ⟨aoE,cpE,eE,hE1,hE2,-⟩:=HEc.out.at
   dsimp only at eE
   injection eE with g1 g2 g3;subst g3;unfold maxLen at hE2;obtain ⟨ne,hne⟩:=nmQ (E.length);rw [<-hne] at g2 hE1;subst g2;have HNE:=zG hne;clear hne HRR g1;go_wp2_with fail;go_loopg [7] nE (fun k v7 wr=>∃ i,i<=nE/\k=nE-i/\v7=.int .i64 (i:Nat)/\Hid (RR=(E.drop i).any (Sk.usesOther (u:Int)))/\Below wc.heap.size wc wr)
   case atStart=>exact ⟨0,Nat.zero_le _,rfl,rfl,HRR2,Below.refl _ _⟩
   case round=>
    clear HRR2;obtain ⟨i,hi,rfl,rfl,H,hbr⟩:=hrel;have kRr:=(hbr.block _ (zH kRc)).trans kRc;have r5:=coQ kRr 5;simp at r5;clear kRr;by_cases hlt:i<nE
    case neg=>
     have hin:i=nE:=(by omega);subst hin;have HZ:=zG (show RR=false by rw [H.out,List.drop_of_length_le (by have:=HNE.out;omega)];rfl);clear H;go_wp2;go_ret;exact ⟨by rw [HZ.out];rfl,Bc.trans (hbr.mono Bc.size)⟩
    case pos=>
     have hil:i<E.length:=(by have:=HNE.out;omega);have hR1:=H.out;rw [List.drop_eq_getElem_cons hil,List.any_cons] at hR1;obtain ⟨ao',cap',eqs,-,-,hat2⟩:=(HEc.out.under hbr).at;injection eqs with z1 z2 z3;subst z1;obtain ⟨bb,oo,rfl,hb,e0,e1,e2,e3⟩:=hat2 i hil;generalize E[i]=p at e0 e1 e2 e3 hR1;obtain ⟨op',k',v',n'⟩:=p
     dsimp only at e0 e1 e2 e3
     have b2:Below wr.heap.size wr (wr.alloc (.cells #[.int .i64 op',.int .i64 k',.int .i64 v',.int .i64 n'] 79 (0,0))):=(Below.refl _ _).alloc zL _;have kP:=zJ wr (.cells #[.int .i64 op',.int .i64 k',.int .i64 v',.int .i64 n'] 79 (0,0));have B2:=hbr.trans (b2.mono hbr.size);have HR1:=zG hR1;clear hat2 z2 z3 hR1 H hil;go_upto_region 7 with fail;generalize wr.alloc (.cells #[.int .i64 op',.int .i64 k',.int .i64 v',.int .i64 n'] 79 (0,0))=w3 at b2 kP B2 ⊢;have a0:=coQ kP 0;have a2:=coQ kP 2;have a3:=coQ kP 3;simp at a0 a2 a3;clear e0 e1 e2 e3 r5 kP;by_cases hv:v'=(u:Int)
     case neg=>
      have HZ:Hid (RR=(E.drop (i+1)).any (Sk.usesOther (u:Int))):=zG (by rw [HR1.out];simp [Sk.usesOther, *]);clear HR1;go_wp2_with fail;go_roundg (nE-(i+1))
      case measure=>omega
      case rel=>exact ⟨i+1,by omega,rfl,by go_num,HZ,B2⟩
     case pos=>
      subst hv;by_cases h8:op'=8
      case pos=>
       subst h8;have HZ:Hid (RR=true):=zG (by rw [HR1.out];simp [Sk.usesOther, *]);clear HR1;go_wp2;go_ret;exact ⟨by rw [HZ.out];rfl,Bc.trans (B2.mono Bc.size)⟩
      case neg=>
       by_cases h3:op'=3
       case neg=>
        have HZ:Hid (RR=(E.drop (i+1)).any (Sk.usesOther (u:Int))):=zG (by rw [HR1.out];simp [Sk.usesOther, *]);clear HR1;go_wp2_with fail;go_roundg (nE-(i+1))
        case measure=>omega
        case rel=>exact ⟨i+1,by omega,rfl,by go_num,HZ,B2⟩
       case pos=>
        subst h3;by_cases h0:n'=0
        case pos=>
         subst h0;have HZ:Hid (RR=(E.drop (i+1)).any (Sk.usesOther (u:Int))):=zG (by rw [HR1.out];simp [Sk.usesOther, *]);clear HR1;go_wp2_with fail;go_roundg (nE-(i+1))
         case measure=>omega
         case rel=>exact ⟨i+1,by omega,rfl,by go_num,HZ,B2⟩
        case neg=>
         have HZ:Hid (RR=true):=zG (by rw [HR1.out];simp [Sk.usesOther, *]);clear HR1;go_wp2;go_ret;exact ⟨by rw [HZ.out];rfl,Bc.trans (B2.mono Bc.size)⟩
end Go.Proofs.YtegakbobaecdlaaGreatDoor
