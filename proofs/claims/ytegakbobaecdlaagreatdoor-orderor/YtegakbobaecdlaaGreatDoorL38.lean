import Derived.Test.YtegakbobaecdlaaGreatDoorL32
set_option linter.unusedVariables false
set_option linter.unusedSimpArgs false
set_option maxHeartbeats 64000000
set_option maxRecDepth 100000
namespace Go.Proofs.YtegakbobaecdlaaGreatDoor
open Go.RowKit Go.IntWalk
theorem sameRule_ne (w:World) (va ve ua ue:Value) (op k out n op' k' out' n':Int) (ho:out≠out') :
  Calls Tryz.prog 15 #[.agg #[.int .i64 op,.int .i64 k,.int .i64 out,.int .i64 n,va,ve],.agg #[.int .i64 op',.int .i64 k',.int .i64 out',.int .i64 n',ua,ue]] w fun e w'=>e=.returned (.bool false)/\Below w.heap.size w w':=by
 have bA:Below w.heap.size w ((w.alloc (.cells #[.int .i64 op,.int .i64 k,.int .i64 out,.int .i64 n,va,ve] 40 (0,0))).alloc (.cells #[.int .i64 op',.int .i64 k',.int .i64 out',.int .i64 n',ua,ue] 40 (0,0))):=((Below.refl _ _).alloc zM _).alloc (by simp) _;have k1:((w.alloc (.cells #[.int .i64 op,.int .i64 k,.int .i64 out,.int .i64 n,va,ve] 40 (0,0))).alloc (.cells #[.int .i64 op',.int .i64 k',.int .i64 out',.int .i64 n',ua,ue] 40 (0,0))).heap[w.heap.size]?=some (.cells #[.int .i64 op,.int .i64 k,.int .i64 out,.int .i64 n,va,ve] 40 (0,0)):=(Below.heap_alloc _ _ _ (by simp)).trans (zI w _);have k2:((w.alloc (.cells #[.int .i64 op,.int .i64 k,.int .i64 out,.int .i64 n,va,ve] 40 (0,0))).alloc (.cells #[.int .i64 op',.int .i64 k',.int .i64 out',.int .i64 n',ua,ue] 40 (0,0))).heap[w.heap.size+1]?=some (.cells #[.int .i64 op',.int .i64 k',.int .i64 out',.int .i64 n',ua,ue] 40 (0,0)):=by
  have h7:=zI (w.alloc (.cells #[.int .i64 op,.int .i64 k,.int .i64 out,.int .i64 n,va,ve] 40 (0,0))) (.cells #[.int .i64 op',.int .i64 k',.int .i64 out',.int .i64 n',ua,ue] 40 (0,0));have h8:((w.alloc (.cells #[.int .i64 op,.int .i64 k,.int .i64 out,.int .i64 n,va,ve] 40 (0,0))).alloc (.cells #[.int .i64 op',.int .i64 k',.int .i64 out',.int .i64 n',ua,ue] 40 (0,0))).heap[w.heap.size+1]?=some (.cells #[.int .i64 op',.int .i64 k',.int .i64 out',.int .i64 n',ua,ue] 40 (0,0)):=(by simpa using h7);exact h8
 go_enter Tryz.func15,Tryz.ntmps15;go_upto_region 1 with fail;generalize (w.alloc (.cells #[.int .i64 op,.int .i64 k,.int .i64 out,.int .i64 n,va,ve] 40 (0,0))).alloc (.cells #[.int .i64 op',.int .i64 k',.int .i64 out',.int .i64 n',ua,ue] 40 (0,0))=w1 at bA k1 k2 ⊢;have a0:=coQ k1 0;have a1:=coQ k1 1;have a2:=coQ k1 2;have b0:=coQ k2 0;have b1:=coQ k2 1;have b2:=coQ k2 2;simp at a0 a1 a2 b0 b1 b2;have hob:(out==out')=false:=(by simp [ho]);by_cases h1:op=op'
 case neg=>
  have h1b:(op==op')=false:=(by simp [h1]);go_wp2;go_ret;exact ⟨rfl,bA⟩
 case pos=>
  subst h1;by_cases h2:k=k'
  case neg=>
   have h2b:(k==k')=false:=(by simp [h2]);go_wp2;go_ret;exact ⟨rfl,bA⟩
  case pos=>
   subst h2;go_wp2;go_ret;exact ⟨rfl,bA⟩
theorem eqL_self (l:List Int):eqL ieq l l=true:=(eqL_ieq l l).2 rfl
theorem zAy {ok ok':Nat->Prop} {w:World} {aV aI aO aR bV bI bO bR:Option Addr} {cV cI cO cR dV dI dO dR:Nat} {S:Sk.Sys} (hS:HSys ok w aV aI aO aR cV cI cO cR S) (hT:HSys ok' w bV bI bO bR dV dI dO dR S) :
  Calls Tryz.prog 16 #[.agg #[.slice aV S.V.length cV,.slice aI S.I.length cI,.slice aO S.O.length cO,.slice aR S.R.length cR],.agg #[.slice bV S.V.length dV,.slice bI S.I.length dI,.slice bO S.O.length dO,.slice bR S.R.length dR]] w fun e w'=>e=.returned (.bool true)/\Below w.heap.size w w':=by
 obtain ⟨ao1,cp1,e1,hv1,hv2,-⟩:=hS.V.at;injection e1 with q1 q2 q3;rw [<-q3] at hv1 hv2;clear q1 q2 q3;obtain ⟨ao2,cp2,e2,hr1,hr2,-⟩:=hS.R.at;injection e2 with q1 q2 q3;rw [<-q3] at hr1 hr2;clear q1 q2 q3;unfold maxLen at hv2 hr2;have b0:Below w.heap.size w ((w.alloc (.cells #[.slice aV S.V.length cV,.slice aI S.I.length cI,.slice aO S.O.length cO,.slice aR S.R.length cR] 26 (0,0))).alloc (.cells #[.slice bV S.V.length dV,.slice bI S.I.length dI,.slice bO S.O.length dO,.slice bR S.R.length dR] 26 (0,0))):=((Below.refl _ _).alloc zM _).alloc (by simp) _;have k1:((w.alloc (.cells #[.slice aV S.V.length cV,.slice aI S.I.length cI,.slice aO S.O.length cO,.slice aR S.R.length cR] 26 (0,0))).alloc (.cells #[.slice bV S.V.length dV,.slice bI S.I.length dI,.slice bO S.O.length dO,.slice bR S.R.length dR] 26 (0,0))).heap[w.heap.size]?=some (.cells #[.slice aV S.V.length cV,.slice aI S.I.length cI,.slice aO S.O.length cO,.slice aR S.R.length cR] 26 (0,0)):=(Below.heap_alloc _ _ _ (by simp)).trans (zI w _);have k2:((w.alloc (.cells #[.slice aV S.V.length cV,.slice aI S.I.length cI,.slice aO S.O.length cO,.slice aR S.R.length cR] 26 (0,0))).alloc (.cells #[.slice bV S.V.length dV,.slice bI S.I.length dI,.slice bO S.O.length dO,.slice bR S.R.length dR] 26 (0,0))).heap[w.heap.size+1]?=some (.cells #[.slice bV S.V.length dV,.slice bI S.I.length dI,.slice bO S.O.length dO,.slice bR S.R.length dR] 26 (0,0)):=by
  have h7:=zI (w.alloc (.cells #[.slice aV S.V.length cV,.slice aI S.I.length cI,.slice aO S.O.length cO,.slice aR S.R.length cR] 26 (0,0))) (.cells #[.slice bV S.V.length dV,.slice bI S.I.length dI,.slice bO S.O.length dO,.slice bR S.R.length dR] 26 (0,0));have h8:((w.alloc (.cells #[.slice aV S.V.length cV,.slice aI S.I.length cI,.slice aO S.O.length cO,.slice aR S.R.length cR] 26 (0,0))).alloc (.cells #[.slice bV S.V.length dV,.slice bI S.I.length dI,.slice bO S.O.length dO,.slice bR S.R.length dR] 26 (0,0))).heap[w.heap.size+1]?=some (.cells #[.slice bV S.V.length dV,.slice bI S.I.length dI,.slice bO S.O.length dO,.slice bR S.R.length dR] 26 (0,0)):=(by simpa using h7);exact h8
 have HS:=zE (fun (W:World) (hb:Below w.heap.size w W)=>And.intro (hS.under hb) (hT.under hb));clear hS hT;go_enter Tryz.func16,Tryz.ntmps16;go_upto_region 1 with fail;generalize (w.alloc (.cells #[.slice aV S.V.length cV,.slice aI S.I.length cI,.slice aO S.O.length cO,.slice aR S.R.length cR] 26 (0,0))).alloc (.cells #[.slice bV S.V.length dV,.slice bI S.I.length dI,.slice bO S.O.length dO,.slice bR S.R.length dR] 26 (0,0))=w1 at b0 k1 k2 ⊢;have y1:=zG k1;have y2:=zG k2;have HA:=zE (zAw (HS.out _ b0).1.I (HS.out _ b0).2.I);rw [eqL_self] at HA;have a0:=coQ k1 0;have a1:=coQ k1 1;have a2:=coQ k1 2;have a3:=coQ k1 3;have c0:=coQ k2 0;have c1:=coQ k2 1;have c2:=coQ k2 2;have c3:=coQ k2 3;simp at a0 a1 a2 a3 c0 c1 c2 c3;obtain ⟨nV,hnV⟩:=nmQ (S.V.length);obtain ⟨nR,hnR⟩:=nmQ (S.R.length);obtain ⟨nI,hnI⟩:=nmQ (S.I.length);obtain ⟨nO,hnO⟩:=nmQ (S.O.length);have hv1':nV<=cV:=(by omega);have hr1':nR<=cR:=(by omega);have HNV:=zE hnV;have HNR:=zE hnR;rw [<-hnI] at HA;rw [<-hnV] at a0 c0;rw [<-hnI] at a1 c1;rw [<-hnO] at a2 c2;rw [<-hnR] at a3 c3;rw [<-hnV,<-hnI,<-hnO,<-hnR] at k1 k2 ⊢;have HNO:=zE hnO;clear hv1 hr1 hnV hnR hnI hnO;go_wp2_with fail;refine HA.out.mono ?_;rintro e w2 ⟨rfl,m2,hm2⟩;have b2:Below w1.heap.size w1 w2:=(by rw [hm2];exact zS (Below.refl _ _) _);clear HA hm2;have HO:=zE (zAw (HS.out _ (b0.trans (b2.mono b0.size))).1.O (HS.out _ (b0.trans (b2.mono b0.size))).2.O);rw [eqL_self,<-HNO.out] at HO;have k1b:=(b2.block _ y1).trans k1;have k2b:=(b2.block _ y2).trans k2;clear a0 a1 a2 a3 c0 c1 c2 c3;have a2:=coQ k1b 2;have c2:=coQ k2b 2;simp at a2 c2;go_wp2_with fail;refine HO.out.mono ?_;rintro e w3 ⟨rfl,m3,hm3⟩;have b3:Below w1.heap.size w1 w3:=b2.trans (by rw [hm3];exact zS (Below.refl _ _) _);clear HO hm3 a2 c2 k1b k2b b2;go_wp2_with fail;go_loopg [5] nV (fun kk v5 wr=>∃ (i:Nat),i<=nV/\kk=nV-i/\v5=.int .i64 (i:Nat)/\Below w1.heap.size w1 wr)
 case atStart=>exact ⟨0,Nat.zero_le _,rfl,rfl,b3⟩
 case round=>
  clear b3;obtain ⟨i,hi,rfl,rfl,hbr⟩:=hrel;have k1r:=(hbr.block _ y1).trans k1;have k2r:=(hbr.block _ y2).trans k2;have a0:=coQ k1r 0;have c0:=coQ k2r 0;simp at a0 c0;by_cases hlt:i<nV
  case pos=>
   have hil:i<S.V.length:=(by have:=HNV.out;omega);have Br:=b0.trans (hbr.mono b0.size);obtain ⟨ao,cp,e1,-,-,hat⟩:=(HS.out _ Br).1.V.at;injection e1 with q1 q2 q3;obtain ⟨bA,oA,hbA,yA,x0,x1⟩:=hat i hil;rw [hbA] at q1;subst q1;obtain ⟨ao4,cp4,e4,-,-,hat4⟩:=(HS.out _ Br).2.V.at;injection e4 with q4 q5 q6;obtain ⟨bB,oB,hbB,yB,z0,z1⟩:=hat4 i hil;rw [hbB] at q4;subst q4;generalize S.V[i]=vv at x0 x1 z0 z1;obtain ⟨el,vn⟩:=vv
   dsimp only at x0 x1 z0 z1
   have yS:=zG k1r;have yT:=zG k2r;clear hat hat4 q2 q3 q5 q6 hbA hbB;go_upto_region 6 with fail;refine zK (fun w'=>Below wr.heap.size wr w') (fun _=>false) (by kernel_rfl) ?_;have hH0:Below wr.heap.size wr wr.drew:=(Below.refl _ _).drew;generalize wr.drew=wd0 at hH0 ⊢;refine' tkR 0 46 hH0 ?o1
   refine' tkQ 1 47 hH0 ?hyv ?o2
   case hyv=>
    intro wz hSw;have zc0:=(hSw.cell (p:=⟨w.heap.size,0,none⟩) yS).trans a0;have zc1:=(hSw.cell (p:=⟨w.heap.size+1,0,none⟩) yT).trans c0;have zc2:=(hSw.cell (p:=⟨bA,oA+i*2,none⟩) yA).trans x0;have zc3:=(hSw.cell (p:=⟨bA,oA+i*2+1,none⟩) yA).trans x1;have zc4:=(hSw.cell (p:=⟨bB,oB+i*2,none⟩) yB).trans z0;have zc5:=(hSw.cell (p:=⟨bB,oB+i*2+1,none⟩) yB).trans z1;go_simp
    try rfl
   try simp only [Act.put,sT,sZ,sS]
   refine' tkR 2 48 hH0 ?o3
   refine' tkR 3 49 hH0 ?o4
   refine' tkQ 4 50 hH0 ?hyv ?o5
   case hyv=>
    intro wz hSw;have zc0:=(hSw.cell (p:=⟨w.heap.size,0,none⟩) yS).trans a0;have zc1:=(hSw.cell (p:=⟨w.heap.size+1,0,none⟩) yT).trans c0;have zc2:=(hSw.cell (p:=⟨bA,oA+i*2,none⟩) yA).trans x0;have zc3:=(hSw.cell (p:=⟨bA,oA+i*2+1,none⟩) yA).trans x1;have zc4:=(hSw.cell (p:=⟨bB,oB+i*2,none⟩) yB).trans z0;have zc5:=(hSw.cell (p:=⟨bB,oB+i*2+1,none⟩) yB).trans z1;go_simp
    try rfl
   try simp only [Act.put,sT,sZ,sS]
   refine' tkR 5 51 hH0 ?o6
   refine' tkQ 6 52 hH0 ?hyv ?o7
   case hyv=>
    intro wz hSw;have zc0:=(hSw.cell (p:=⟨w.heap.size,0,none⟩) yS).trans a0;have zc1:=(hSw.cell (p:=⟨w.heap.size+1,0,none⟩) yT).trans c0;have zc2:=(hSw.cell (p:=⟨bA,oA+i*2,none⟩) yA).trans x0;have zc3:=(hSw.cell (p:=⟨bA,oA+i*2+1,none⟩) yA).trans x1;have zc4:=(hSw.cell (p:=⟨bB,oB+i*2,none⟩) yB).trans z0;have zc5:=(hSw.cell (p:=⟨bB,oB+i*2+1,none⟩) yB).trans z1;go_simp
    try rfl
   try simp only [Act.put,sT,sZ,sS]
   refine' tkR 7 53 hH0 ?o8
   refine' tkR 8 54 hH0 ?o9
   refine' tkQ 9 55 hH0 ?hyv ?o10
   case hyv=>
    intro wz hSw;have zc0:=(hSw.cell (p:=⟨w.heap.size,0,none⟩) yS).trans a0;have zc1:=(hSw.cell (p:=⟨w.heap.size+1,0,none⟩) yT).trans c0;have zc2:=(hSw.cell (p:=⟨bA,oA+i*2,none⟩) yA).trans x0;have zc3:=(hSw.cell (p:=⟨bA,oA+i*2+1,none⟩) yA).trans x1;have zc4:=(hSw.cell (p:=⟨bB,oB+i*2,none⟩) yB).trans z0;have zc5:=(hSw.cell (p:=⟨bB,oB+i*2+1,none⟩) yB).trans z1;go_simp
    try rfl
   try simp only [Act.put,sT,sZ,sS]
   refine' zO (i:=10) (oi:=⟨some 56,_,_,_,_,_⟩) (v:=.bool false) rfl (by kernel_rfl) (by kernel_rfl) (by kernel_rfl) (by kernel_rfl) (fun _ _ _ h=>h) hH0 (by rfl) ?hyv ?o11
   case hyv=>
    intro wz hSw;go_simp
    try simp
    try rfl
   try simp only [Act.put,sT,sZ,sS]
   refine zH (by kernel_rfl) ?_ _;have BX:=hbr.trans (hH0.mono hbr.size);go_wp2_with fail;go_roundg (nV-(i+1))
   case measure=>omega
   case rel=>exact ⟨i+1,by omega,rfl,by go_num,BX⟩
  case neg=>
   have hin:i=nV:=(by omega);subst hin;clear c0;have a3:=coQ k1r 3;have c3:=coQ k2r 3;simp at a3 c3;obtain ⟨wq,hwq⟩:=nmQ (wr);subst hwq;go_wp2_with fail;clear a0 a3 c3 k1r k2r;go_loopg [6] nR (fun kk v6 wr=>∃ (i:Nat),i<=nR/\kk=nR-i/\v6=.int .i64 (i:Nat)/\Below w1.heap.size w1 wr)
   case atStart=>exact ⟨0,Nat.zero_le _,rfl,rfl,hbr⟩
   case round=>
    clear hbr;obtain ⟨i,hi,rfl,rfl,hbr⟩:=hrel;have k1r:=(hbr.block _ y1).trans k1;have k2r:=(hbr.block _ y2).trans k2;have a3:=coQ k1r 3;have c3:=coQ k2r 3;simp at a3 c3;by_cases hlt:i<nR
    case neg=>
     go_wp2;go_ret;exact ⟨rfl,b0.trans (hbr.mono b0.size)⟩
    case pos=>
     have hil:i<S.R.length:=(by have:=HNR.out;omega);have Br:=b0.trans (hbr.mono b0.size);obtain ⟨ao,cp,e1,-,-,hat⟩:=(HS.out _ Br).1.R.at;injection e1 with q1 q2 q3;obtain ⟨bA,oA,y,hbA,yA,hrat,hru⟩:=hat i hil;rw [hbA] at q1;subst q1;obtain ⟨ao4,cp4,e4,-,-,hat4⟩:=(HS.out _ Br).2.R.at;injection e4 with q4 q5 q6;obtain ⟨bB,oB,y',hbB,yB,hrat',hru'⟩:=hat4 i hil;rw [hbB] at q4;subst q4;generalize S.R[i]=r at hrat hru hrat' hru';obtain ⟨op,k,out,n,A,E⟩:=r;obtain ⟨d0,d1,d2,d3,d4,d5⟩:=hrat;obtain ⟨f0,f1,f2,f3,f4,f5⟩:=hrat'
     dsimp only at d0 d1 d2 d3 d4 d5 f0 f1 f2 f3 f4 f5
     have HCT:=zE (fun (W:World) (hW:Below wr.heap.size wr W)=>zAx op k out n (hru.under hW).A (hru.under hW).E (hru'.under hW).A (hru'.under hW).E);have yS:=zG k1r;have yT:=zG k2r;clear hat hat4 q2 q3 q5 q6 hbA hbB hru hru';go_upto_region 11 with fail;refine zK (fun w'=>Below wr.heap.size wr w') (fun _=>false) (by kernel_rfl) ?_;have hH0:Below wr.heap.size wr wr.drew:=(Below.refl _ _).drew;generalize wr.drew=wd0 at hH0 ⊢;refine' tkR 0 64 hH0 ?o12
     refine' tkQ 1 65 hH0 ?hyv ?o13
     case hyv=>
      intro wz hSw;have zc0:=(hSw.cell (p:=⟨w.heap.size,3,none⟩) yS).trans a3;have zc1:=(hSw.cell (p:=⟨w.heap.size+1,3,none⟩) yT).trans c3;have zc2:=(hSw.cell (p:=⟨bA,oA+i*6,none⟩) yA).trans d0;have zc3:=(hSw.cell (p:=⟨bB,oB+i*6,none⟩) yB).trans f0;have zc4:=(hSw.cell (p:=⟨bA,oA+i*6+1,none⟩) yA).trans d1;have zc5:=(hSw.cell (p:=⟨bB,oB+i*6+1,none⟩) yB).trans f1;have zc6:=(hSw.cell (p:=⟨bA,oA+i*6+2,none⟩) yA).trans d2;have zc7:=(hSw.cell (p:=⟨bB,oB+i*6+2,none⟩) yB).trans f2;have zc8:=(hSw.cell (p:=⟨bA,oA+i*6+3,none⟩) yA).trans d3;have zc9:=(hSw.cell (p:=⟨bB,oB+i*6+3,none⟩) yB).trans f3;have zc10:=(hSw.cell (p:=⟨bA,oA+i*6+4,none⟩) yA).trans d4;have zc11:=(hSw.cell (p:=⟨bB,oB+i*6+4,none⟩) yB).trans f4;have zc12:=(hSw.cell (p:=⟨bA,oA+i*6+5,none⟩) yA).trans d5;have zc13:=(hSw.cell (p:=⟨bB,oB+i*6+5,none⟩) yB).trans f5;go_simp
      try rfl
     try simp only [Act.put,sT,sZ,sS]
     refine' tkR 2 66 hH0 ?o14
     refine' tkR 3 67 hH0 ?o15
     refine' tkQ 4 68 hH0 ?hyv ?o16
     case hyv=>
      intro wz hSw;have zc0:=(hSw.cell (p:=⟨w.heap.size,3,none⟩) yS).trans a3;have zc1:=(hSw.cell (p:=⟨w.heap.size+1,3,none⟩) yT).trans c3;have zc2:=(hSw.cell (p:=⟨bA,oA+i*6,none⟩) yA).trans d0;have zc3:=(hSw.cell (p:=⟨bB,oB+i*6,none⟩) yB).trans f0;have zc4:=(hSw.cell (p:=⟨bA,oA+i*6+1,none⟩) yA).trans d1;have zc5:=(hSw.cell (p:=⟨bB,oB+i*6+1,none⟩) yB).trans f1;have zc6:=(hSw.cell (p:=⟨bA,oA+i*6+2,none⟩) yA).trans d2;have zc7:=(hSw.cell (p:=⟨bB,oB+i*6+2,none⟩) yB).trans f2;have zc8:=(hSw.cell (p:=⟨bA,oA+i*6+3,none⟩) yA).trans d3;have zc9:=(hSw.cell (p:=⟨bB,oB+i*6+3,none⟩) yB).trans f3;have zc10:=(hSw.cell (p:=⟨bA,oA+i*6+4,none⟩) yA).trans d4;have zc11:=(hSw.cell (p:=⟨bB,oB+i*6+4,none⟩) yB).trans f4;have zc12:=(hSw.cell (p:=⟨bA,oA+i*6+5,none⟩) yA).trans d5;have zc13:=(hSw.cell (p:=⟨bB,oB+i*6+5,none⟩) yB).trans f5;go_simp
      try rfl
     try simp only [Act.put,sT,sZ,sS]
     refine' tkR 5 69 hH0 ?o17
     refine' tkQ 6 70 hH0 ?hyv ?o18
     case hyv=>
      intro wz hSw;have zc0:=(hSw.cell (p:=⟨w.heap.size,3,none⟩) yS).trans a3;have zc1:=(hSw.cell (p:=⟨w.heap.size+1,3,none⟩) yT).trans c3;have zc2:=(hSw.cell (p:=⟨bA,oA+i*6,none⟩) yA).trans d0;have zc3:=(hSw.cell (p:=⟨bB,oB+i*6,none⟩) yB).trans f0;have zc4:=(hSw.cell (p:=⟨bA,oA+i*6+1,none⟩) yA).trans d1;have zc5:=(hSw.cell (p:=⟨bB,oB+i*6+1,none⟩) yB).trans f1;have zc6:=(hSw.cell (p:=⟨bA,oA+i*6+2,none⟩) yA).trans d2;have zc7:=(hSw.cell (p:=⟨bB,oB+i*6+2,none⟩) yB).trans f2;have zc8:=(hSw.cell (p:=⟨bA,oA+i*6+3,none⟩) yA).trans d3;have zc9:=(hSw.cell (p:=⟨bB,oB+i*6+3,none⟩) yB).trans f3;have zc10:=(hSw.cell (p:=⟨bA,oA+i*6+4,none⟩) yA).trans d4;have zc11:=(hSw.cell (p:=⟨bB,oB+i*6+4,none⟩) yB).trans f4;have zc12:=(hSw.cell (p:=⟨bA,oA+i*6+5,none⟩) yA).trans d5;have zc13:=(hSw.cell (p:=⟨bB,oB+i*6+5,none⟩) yB).trans f5;go_simp
      try rfl
     try simp only [Act.put,sT,sZ,sS]
     refine' tkR 7 71 hH0 ?o19
     refine' tkR 8 72 hH0 ?o20
     refine' tkQ 9 73 hH0 ?hyv ?o21
     case hyv=>
      intro wz hSw;have zc0:=(hSw.cell (p:=⟨w.heap.size,3,none⟩) yS).trans a3;have zc1:=(hSw.cell (p:=⟨w.heap.size+1,3,none⟩) yT).trans c3;have zc2:=(hSw.cell (p:=⟨bA,oA+i*6,none⟩) yA).trans d0;have zc3:=(hSw.cell (p:=⟨bB,oB+i*6,none⟩) yB).trans f0;have zc4:=(hSw.cell (p:=⟨bA,oA+i*6+1,none⟩) yA).trans d1;have zc5:=(hSw.cell (p:=⟨bB,oB+i*6+1,none⟩) yB).trans f1;have zc6:=(hSw.cell (p:=⟨bA,oA+i*6+2,none⟩) yA).trans d2;have zc7:=(hSw.cell (p:=⟨bB,oB+i*6+2,none⟩) yB).trans f2;have zc8:=(hSw.cell (p:=⟨bA,oA+i*6+3,none⟩) yA).trans d3;have zc9:=(hSw.cell (p:=⟨bB,oB+i*6+3,none⟩) yB).trans f3;have zc10:=(hSw.cell (p:=⟨bA,oA+i*6+4,none⟩) yA).trans d4;have zc11:=(hSw.cell (p:=⟨bB,oB+i*6+4,none⟩) yB).trans f4;have zc12:=(hSw.cell (p:=⟨bA,oA+i*6+5,none⟩) yA).trans d5;have zc13:=(hSw.cell (p:=⟨bB,oB+i*6+5,none⟩) yB).trans f5;go_simp
      try rfl
     try simp only [Act.put,sT,sZ,sS]
     refine tnQ 10 (fun K hK=>?_);go_simp;refine (HCT.out wd0 hH0).mono ?_;rintro eq wd1 ⟨rfl,bq1⟩;have hH1:Below wr.heap.size wr wd1:=hH0.trans (bq1.mono hH0.size);refine hK.out _ _ (fun _=>hH1) ?_;clear hK K
     try simp only [Act.put,sT,sZ,sS]
     refine' tkR 11 75 hH1 ?o22
     refine zH (by kernel_rfl) ?_ _;have BX:=hbr.trans (hH1.mono hbr.size);go_wp2_with fail;go_roundg (nR-(i+1))
     case measure=>omega
     case rel=>exact ⟨i+1,by omega,rfl,by go_num,BX⟩
end Go.Proofs.YtegakbobaecdlaaGreatDoor
