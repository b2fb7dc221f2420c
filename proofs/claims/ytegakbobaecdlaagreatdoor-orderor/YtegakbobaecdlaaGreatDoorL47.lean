import Derived.Test.YtegakbobaecdlaaGreatDoorL46
import Derived.Test.YtegakbobaecdlaaGreatDoorL40
set_option linter.unusedVariables false
set_option linter.unusedSimpArgs false
set_option maxHeartbeats 64000000
set_option maxRecDepth 100000
namespace Go.Proofs.YtegakbobaecdlaaGreatDoor
open Go.RowKit Go.IntWalk
namespace Sk
theorem parts_form {op:Int} {n:Nat} (h:0<=partsD op) (h2:partsD op=(n:Int)):hasForm op n=true:=by
 unfold partsD at h h2;by_cases ho:0<=op/\op<17
 case neg=>rw [if_neg ho] at h;omega
 case pos=>
  rw [if_pos ho] at h h2;obtain ⟨j,rfl⟩:∃ j:Nat,op=(j:Int):=⟨op.toNat,by omega⟩;rw [Int.toNat_natCast] at h h2;have h8:∀ j:Fin 17,0<=pT.getD j.1 0->1<=j.1/\partsT.getD j.1 0=pT.getD j.1 0:=(by decide);have h9:=h8 ⟨j,by omega⟩ h
  dsimp only at h9
  unfold hasForm;rw [Int.toNat_natCast,h9.2,h2];simp;omega
def AllR (S:Sys) (l:List Ru):Prop:=(∀ r ∈ l,((0<=r.out/\r.out<(S.V.length:Int))/\r.out ∉ S.I)/\RuOk S.V r)/\(l.map (·.out)).Nodup
theorem AllR.nil (S:Sys):AllR S []:=⟨fun r h=>(by cases h),by simp⟩
theorem AllR.snoc {S:Sys} {l:List Ru} {r:Ru} (h:AllR S l) (h1:0<=r.out/\r.out<(S.V.length:Int)) (h2:r.out ∉ S.I) (h3:r.out ∉ l.map (·.out)) (h4:RuOk S.V r):AllR S (l++[r]):=by
 refine ⟨fun q hq=>?_,?_⟩
 ·rcases List.mem_append.1 hq with hq | hq
  ·exact h.1 q hq
  ·simp at hq;rw [hq];exact ⟨⟨h1,h2⟩,h4⟩
 ·rw [List.map_append,List.nodup_append]
  refine ⟨h.2,by simp,fun a ha b hb=>?_⟩;simp at hb;rw [hb];exact fun e=>h3 (e ▸ ha)
theorem ownE_le {op:Int} {E:List Pu} (h:E.length<=24):(ownE op E).length<=24:=by
 unfold ownE
 split
 ·exact Nat.zero_le _
 ·exact h
end Sk
def FaultPost (w:World) (S:Sk.Sys) (e:Ending) (w':World):Prop:=∃ c a:Int,e=.returned (.agg #[.int .i64 c,.int .i64 a])/\(c=0->Sk.Okay S)/\Below w.heap.size w w'
theorem zAs {ok:Nat->Prop} {w:World} {aV aI aO aR:Option Addr} {cV cI cO cR:Nat} {S:Sk.Sys} (hS:HSys ok w aV aI aO aR cV cI cO cR S) (hfit:∀ r ∈ S.R,r.A.length<=1000000/\r.E.length<=1000000):Calls Tryz.prog 9 #[.agg #[.slice aV S.V.length cV,.slice aI S.I.length cI,.slice aO S.O.length cO,.slice aR S.R.length cR]] w (FaultPost w S):=by
 obtain ⟨aoR,capR,evR,hR1,hR2,-⟩:=hS.R.at;injection evR with q1 q2 q3;rw [<-q3] at hR1 hR2;clear q1 q2 q3;obtain ⟨aoO,capO,evO,hO1,hO2,-⟩:=hS.O.at;injection evO with q1 q2 q3;rw [<-q3] at hO1 hO2;clear q1 q2 q3;unfold maxLen at hR2 hO2;have b0:Below w.heap.size w (w.alloc (.cells #[.slice aV S.V.length cV,.slice aI S.I.length cI,.slice aO S.O.length cO,.slice aR S.R.length cR] 26 (0,0))):=(Below.refl _ _).alloc zM _;have b1:=b0.alloc b0.size (.cells #[.int .i64 0,.int .i64 0] 30 (0,0));have kS:((w.alloc (.cells #[.slice aV S.V.length cV,.slice aI S.I.length cI,.slice aO S.O.length cO,.slice aR S.R.length cR] 26 (0,0))).alloc (.cells #[.int .i64 0,.int .i64 0] 30 (0,0))).heap[w.heap.size]?=some (.cells #[.slice aV S.V.length cV,.slice aI S.I.length cI,.slice aO S.O.length cO,.slice aR S.R.length cR] 26 (0,0)):=(Below.heap_alloc _ _ _ (by simp)).trans (zI w _);have kF:((w.alloc (.cells #[.slice aV S.V.length cV,.slice aI S.I.length cI,.slice aO S.O.length cO,.slice aR S.R.length cR] 26 (0,0))).alloc (.cells #[.int .i64 0,.int .i64 0] 30 (0,0))).heap[w.heap.size+1]?=some (.cells #[.int .i64 0,.int .i64 0] 30 (0,0)):=by
  have:=zI (w.alloc (.cells #[.slice aV S.V.length cV,.slice aI S.I.length cI,.slice aO S.O.length cO,.slice aR S.R.length cR] 26 (0,0))) (.cells #[.int .i64 0,.int .i64 0] 30 (0,0))
  simpa using this
 have HS:=zE (fun (W:World) (hb:Below w.heap.size w W)=>hS.under hb);have HFIT:=zE hfit;clear hS b0 hfit;go_enter Tryz.func9,Tryz.ntmps9;go_upto_region 1 with fail;generalize (w.alloc (.cells #[.slice aV S.V.length cV,.slice aI S.I.length cI,.slice aO S.O.length cO,.slice aR S.R.length cR] 26 (0,0))).alloc (.cells #[.int .i64 0,.int .i64 0] 30 (0,0))=w1 at b1 kS kF ⊢;have yS1:=zG kS;have yF1:=zG kF;have s0:=coQ kS 0;have s1:=coQ kS 1;have s2:=coQ kS 2;have s3:=coQ kS 3;simp at s0 s1 s2 s3;go_wp2_with fail;refine (headOf_any (HS.out _ b1)).mono ?_;rintro e w2 ⟨hc,ha,rfl,hhead,b2⟩;have B2:=b2;have bf:Below w2.heap.size w2 (w2.alloc (.cells #[.int .i64 hc,.int .i64 ha] 30 (0,0))):=(Below.refl _ _).alloc zM _;have kQ:=zI w2 (.cells #[.int .i64 hc,.int .i64 ha] 30 (0,0));have B3:=b2.trans (bf.mono b2.size);clear s0 s1 s2 s3;have HHD:=zE hhead;clear hhead;go_upto_region 2 with fail;generalize w2.alloc (.cells #[.int .i64 hc,.int .i64 ha] 30 (0,0))=w3 at bf kQ B3 ⊢;have kS3:=(B3.block _ yS1).trans kS;have kF3:=(B3.block _ yF1).trans kF;have q0:=coQ kQ 0;have q1:=coQ kQ 1;simp at q0 q1;by_cases hz:hc=0
 case neg=>
  have hzb:(hc != 0)=true:=(by simp [hz]);have B4:=b1.trans (B3.mono b1.size);have s0z:=coQ kF3 0;have s1z:=coQ kF3 1;have f0z:=foQ kF3 0;have f1z:=foQ kF3 1;simp at s0z s1z;have KE:=zJ (zJ kF3 0 (.int .i64 (hc))) 1 (.int .i64 (ha));have BE:=(B4.setCell (p:=⟨w.heap.size+1,0,none⟩) (by show w.heap.size<=w.heap.size+1;omega) (.int .i64 (hc))).setCell (p:=⟨w.heap.size+1,1,none⟩) (by show w.heap.size<=w.heap.size+1;omega) (.int .i64 (ha));have t0:=coQ KE 0;have t1:=coQ KE 1;simp at t0 t1;have HFIN:=zE (show FaultPost w S (.returned (.agg #[.int .i64 (hc),.int .i64 (ha)])) _ from ⟨hc,ha,rfl,fun h=>absurd h hz,BE⟩);clear KE BE;go_wp2;exact bodyPost_ret (v:=.agg #[.int .i64 (hc),.int .i64 (ha)]) (by simp [results,Tryz.results9,go_sem,t0,t1]) rfl HFIN.out
 case pos=>
  subst hz;have hd:=HHD.out rfl;have nR:=hd.nR;have nO:=hd.nO;have HD:=zE hd;clear hd HHD b2 B2 bf;go_wp2_with fail;clear q0 q1 kQ;go_loopg [4] S.R.length (fun kk v4 wr=>∃ (i:Nat),i<=S.R.length/\kk=S.R.length-i/\v4=.int .i64 (i:Nat)/\Hid (Sk.AllR S (S.R.take i))/\Below w1.heap.size w1 wr)
  case atStart=>exact ⟨0,Nat.zero_le _,rfl,rfl,zE (Sk.AllR.nil S),B3⟩
  case round=>
   clear B3 kS3 kF3;obtain ⟨i,hi,rfl,rfl,HAL,hbr⟩:=hrel;have kSr:=(hbr.block _ yS1).trans kS;have kFr:=(hbr.block _ yF1).trans kF;have Br:=b1.trans (hbr.mono b1.size);have s3:=coQ kSr 3;simp at s3;by_cases hlt:i<S.R.length
   case pos=>
    obtain ⟨ao,cp,e1,-,-,hat⟩:=(HS.out _ Br).R.at;injection e1 with q1 q2 q3;obtain ⟨bR,oR,y,hbR,yR,hrat,hru⟩:=hat i hlt;rw [hbR] at q1;subst q1;have hft:=HFIT.out S.R[i] (List.getElem_mem hlt);have HTK:=zE (show S.R.take (i+1)=S.R.take i++[S.R[i]] from List.take_succ_eq_append_getElem hlt);generalize S.R[i]=r at hrat hru hft HTK;obtain ⟨op,k,out,x,A,E⟩:=r;obtain ⟨aA,nA,cA,aE,nE,cE⟩:=y;obtain ⟨d0,d1,d2,d3,d4,d5⟩:=hrat
    dsimp only at d0 d1 d2 d3 d4 d5 hft
    have hrA:=hru.A;have hrE:=hru.E
    dsimp only at hrA hrE
    obtain ⟨aoA,capA,evA,-,-,-⟩:=hrA.at;injection evA with e1 e2 e3;subst e1 e2 e3;obtain ⟨aoE,capE,evE,hE1,hE2,-⟩:=hrE.at;injection evE with e1 e2 e3;subst e1 e2 e3;unfold maxLen at hE2;have bA:Below wr.heap.size wr (wr.alloc (.cells #[.int .i64 op,.int .i64 k,.int .i64 out,.int .i64 x,.slice aA A.length cA,.slice aE E.length cE] 40 (0,0))):=(Below.refl _ _).alloc zM _;have kR:=zI wr (.cells #[.int .i64 op,.int .i64 k,.int .i64 out,.int .i64 x,.slice aA A.length cA,.slice aE E.length cE] 40 (0,0));have BA:=hbr.trans (bA.mono hbr.size);have HRA:=zE (fun (W:World) (hW:Below wr.heap.size wr W)=>And.intro (hrA.under hW) (hrE.under hW));have HFT:=zE hft;have HSW:=zE (fun (W:World) (hW:Below wr.heap.size wr W)=>(HS.out W (Br.trans (hW.mono Br.size))));clear hat q2 q3 hbR hru hrA hrE hft;go_upto_region 8 with fail;generalize wr.alloc (.cells #[.int .i64 op,.int .i64 k,.int .i64 out,.int .i64 x,.slice aA A.length cA,.slice aE E.length cE] 40 (0,0))=wa at bA kR BA ⊢;clear d0 d1 d2 d3 d4 d5 s3;have yR:=zG kR;have kSa:=(BA.block _ yS1).trans kS;have kFa:=(BA.block _ yF1).trans kF;have Ba:=b1.trans (BA.mono b1.size);have s0:=coQ kSa 0;have s1:=coQ kSa 1;have s2:=coQ kSa 2;have s3:=coQ kSa 3;have r0:=coQ kR 0;have r1:=coQ kR 1;have r2:=coQ kR 2;have r3:=coQ kR 3;have r4:=coQ kR 4;have r5:=coQ kR 5;simp at s0 s1 s2 s3 r0 r1 r2 r3 r4 r5;by_cases ho1:out<0
    case pos=>
     go_wp2_with fail;refine (zV (16) ((i:Int)) wa).mono ?_;rintro e wz ⟨rfl,bz⟩;have kFz:=(bz.block _ (zG kFa)).trans kFa;have BZ:=Ba.trans (bz.mono Ba.size);have s0z:=coQ kFz 0;have s1z:=coQ kFz 1;have f0z:=foQ kFz 0;have f1z:=foQ kFz 1;simp at s0z s1z;have KE:=zJ (zJ kFz 0 (.int .i64 (16))) 1 (.int .i64 ((i:Int)));have BE:=(BZ.setCell (p:=⟨w.heap.size+1,0,none⟩) (by show w.heap.size<=w.heap.size+1;omega) (.int .i64 (16))).setCell (p:=⟨w.heap.size+1,1,none⟩) (by show w.heap.size<=w.heap.size+1;omega) (.int .i64 ((i:Int)));have t0:=coQ KE 0;have t1:=coQ KE 1;simp at t0 t1;have HFIN:=zE (show FaultPost w S (.returned (.agg #[.int .i64 (16),.int .i64 ((i:Int))])) _ from ⟨16,(i:Int),rfl,fun h=>absurd h (by decide),BE⟩);clear KE BE;go_wp2;exact bodyPost_ret (v:=.agg #[.int .i64 (16),.int .i64 ((i:Int))]) (by simp [results,Tryz.results9,go_sem,t0,t1]) rfl HFIN.out
    case neg=>
     by_cases ho2:(S.V.length:Int)<=out
     case pos=>
      go_wp2_with fail;refine (zV (16) ((i:Int)) wa).mono ?_;rintro e wz ⟨rfl,bz⟩;have kFz:=(bz.block _ (zG kFa)).trans kFa;have BZ:=Ba.trans (bz.mono Ba.size);have s0z:=coQ kFz 0;have s1z:=coQ kFz 1;have f0z:=foQ kFz 0;have f1z:=foQ kFz 1;simp at s0z s1z;have KE:=zJ (zJ kFz 0 (.int .i64 (16))) 1 (.int .i64 ((i:Int)));have BE:=(BZ.setCell (p:=⟨w.heap.size+1,0,none⟩) (by show w.heap.size<=w.heap.size+1;omega) (.int .i64 (16))).setCell (p:=⟨w.heap.size+1,1,none⟩) (by show w.heap.size<=w.heap.size+1;omega) (.int .i64 ((i:Int)));have t0:=coQ KE 0;have t1:=coQ KE 1;simp at t0 t1;have HFIN:=zE (show FaultPost w S (.returned (.agg #[.int .i64 (16),.int .i64 ((i:Int))])) _ from ⟨16,(i:Int),rfl,fun h=>absurd h (by decide),BE⟩);clear KE BE;go_wp2;exact bodyPost_ret (v:=.agg #[.int .i64 (16),.int .i64 ((i:Int))]) (by simp [results,Tryz.results9,go_sem,t0,t1]) rfl HFIN.out
     case neg=>
      have hor:0<=out/\out<(S.V.length:Int):=(by omega);have HI1:=zE (fun (W:World) (hW:Below wa.heap.size wa W)=>xT out (HSW.out W (bA.trans (hW.mono bA.size))).I);have HMD:=zE (fun (W:World) (hW:Below wa.heap.size wa W)=>zAU (HSW.out W (bA.trans (hW.mono bA.size))) i (Nat.le_of_lt hlt) (by omega));have HI2:=zE (fun (W:World) (v:Value) (B:Nat) (h:OwnL kInt B W v ((S.R.take i).map (·.out)))=>xT out (zR h.row));obtain ⟨q1,hq1⟩:=nmQ (S.I.any (fun z=>z==out));obtain ⟨q2,hq2⟩:=nmQ (((S.R.take i).map (·.out)).any (fun z=>z==out));rw [<-hq1] at HI1;rw [<-hq2] at HI2;have HQ1:=zE hq1;have HQ2:=zE hq2;have yS:=zG kSa;clear hq1 hq2;go_upto_region 10 with fail;refine zK (fun w'=>Below wa.heap.size wa w') (fun _=>false) (by kernel_rfl) ?_;have hH0:Below wa.heap.size wa wa.drew:=(Below.refl _ _).drew;generalize wa.drew=wd0 at hH0 ⊢;refine' tkR 0 44 hH0 ?o1
      refine' tkQ 1 45 hH0 ?hyv ?o2
      case hyv=>
       intro wz hSw;have zc0:=(hSw.cell (p:=⟨w.heap.size,0,none⟩) yS).trans s0;have zc1:=(hSw.cell (p:=⟨w.heap.size,1,none⟩) yS).trans s1;have zc2:=(hSw.cell (p:=⟨w.heap.size,2,none⟩) yS).trans s2;have zc3:=(hSw.cell (p:=⟨w.heap.size,3,none⟩) yS).trans s3;have zc4:=(hSw.cell (p:=⟨wr.heap.size,0,none⟩) yR).trans r0;have zc5:=(hSw.cell (p:=⟨wr.heap.size,2,none⟩) yR).trans r2;have zc6:=(hSw.cell (p:=⟨wr.heap.size,4,none⟩) yR).trans r4;have zc7:=(hSw.cell (p:=⟨wr.heap.size,5,none⟩) yR).trans r5;go_simp
       try rfl
      try simp only [Act.put,sT,sZ,sS]
      refine' tkR 2 46 hH0 ?o3
      refine' tkQ 3 47 hH0 ?hyv ?o4
      case hyv=>
       intro wz hSw;have zc0:=(hSw.cell (p:=⟨w.heap.size,0,none⟩) yS).trans s0;have zc1:=(hSw.cell (p:=⟨w.heap.size,1,none⟩) yS).trans s1;have zc2:=(hSw.cell (p:=⟨w.heap.size,2,none⟩) yS).trans s2;have zc3:=(hSw.cell (p:=⟨w.heap.size,3,none⟩) yS).trans s3;have zc4:=(hSw.cell (p:=⟨wr.heap.size,0,none⟩) yR).trans r0;have zc5:=(hSw.cell (p:=⟨wr.heap.size,2,none⟩) yR).trans r2;have zc6:=(hSw.cell (p:=⟨wr.heap.size,4,none⟩) yR).trans r4;have zc7:=(hSw.cell (p:=⟨wr.heap.size,5,none⟩) yR).trans r5;go_simp
       try rfl
      try simp only [Act.put,sT,sZ,sS]
      refine tnQ 4 (fun K hK=>?_);go_simp;refine (HI1.out wd0 hH0).mono ?_;rintro eq wd1 ⟨rfl,bq1⟩;have hH1:Below wa.heap.size wa wd1:=hH0.trans (bq1.mono hH0.size);refine hK.out _ _ (fun _=>hH1) ?_;clear hK K
      try simp only [Act.put,sT,sZ,sS]
      refine' tkR 5 49 hH1 ?o5
      cases q1
      case false=>
       refine' tkQ 6 50 hH1 ?hyv ?o6
       case hyv=>
        intro wz hSw;have zc0:=(hSw.cell (p:=⟨w.heap.size,0,none⟩) yS).trans s0;have zc1:=(hSw.cell (p:=⟨w.heap.size,1,none⟩) yS).trans s1;have zc2:=(hSw.cell (p:=⟨w.heap.size,2,none⟩) yS).trans s2;have zc3:=(hSw.cell (p:=⟨w.heap.size,3,none⟩) yS).trans s3;have zc4:=(hSw.cell (p:=⟨wr.heap.size,0,none⟩) yR).trans r0;have zc5:=(hSw.cell (p:=⟨wr.heap.size,2,none⟩) yR).trans r2;have zc6:=(hSw.cell (p:=⟨wr.heap.size,4,none⟩) yR).trans r4;have zc7:=(hSw.cell (p:=⟨wr.heap.size,5,none⟩) yR).trans r5;go_simp
        try rfl
       try simp only [Act.put,sT,sZ,sS]
       refine' tkR 7 51 hH1 ?o7
       refine' tkR 9 53 hH1 ?o8
       refine' tkQ 10 54 hH1 ?hyv ?o9
       case hyv=>
        intro wz hSw;have zc0:=(hSw.cell (p:=⟨w.heap.size,0,none⟩) yS).trans s0;have zc1:=(hSw.cell (p:=⟨w.heap.size,1,none⟩) yS).trans s1;have zc2:=(hSw.cell (p:=⟨w.heap.size,2,none⟩) yS).trans s2;have zc3:=(hSw.cell (p:=⟨w.heap.size,3,none⟩) yS).trans s3;have zc4:=(hSw.cell (p:=⟨wr.heap.size,0,none⟩) yR).trans r0;have zc5:=(hSw.cell (p:=⟨wr.heap.size,2,none⟩) yR).trans r2;have zc6:=(hSw.cell (p:=⟨wr.heap.size,4,none⟩) yR).trans r4;have zc7:=(hSw.cell (p:=⟨wr.heap.size,5,none⟩) yR).trans r5;go_simp
        try rfl
       try simp only [Act.put,sT,sZ,sS]
       refine tnQ 8 (fun K hK=>?_);go_simp;refine (HMD.out wd1 hH1).mono ?_;rintro eq wd2 ⟨mv2,rfl,hmv2,bq2⟩;have hH2:Below wa.heap.size wa wd2:=hH1.trans (bq2.mono hH1.size);refine hK.out _ _ (fun _=>hH2) ?_;clear hK K
       try simp only [Act.put,sT,sZ,sS]
       refine tnQ 11 (fun K hK=>?_);go_simp;refine (HI2.out wd2 _ _ hmv2).mono ?_;rintro eq wd3 ⟨rfl,bq3⟩;have hH3:Below wa.heap.size wa wd3:=hH2.trans (bq3.mono hH2.size);refine hK.out _ _ (fun _=>hH3) ?_;clear hK K
       try simp only [Act.put,sT,sZ,sS]
       refine' tkR 12 56 hH3 ?o10
       refine zH (by kernel_rfl) ?_ _;obtain ⟨w4,hwx⟩:∃ wx,wx=wd3:=⟨_,rfl⟩;subst hwx;have b4:=hH3;have kS4:=(b4.block _ (zG kSa)).trans kSa;have kR4:=(b4.block _ (zG kR)).trans kR;have kF4:=(b4.block _ (zG kFa)).trans kFa;have BA4:=BA.trans (b4.mono BA.size);have B4:=b1.trans (BA4.mono b1.size);have bW4:=bA.trans (b4.mono bA.size)
       cases q2
       case true=>
        go_wp2_with fail;refine (zV (8) ((i:Int)) w4).mono ?_;rintro e wz ⟨rfl,bz⟩;have kFz:=(bz.block _ (zG kF4)).trans kF4;have BZ:=B4.trans (bz.mono B4.size);have s0z:=coQ kFz 0;have s1z:=coQ kFz 1;have f0z:=foQ kFz 0;have f1z:=foQ kFz 1;simp at s0z s1z;have KE:=zJ (zJ kFz 0 (.int .i64 (8))) 1 (.int .i64 ((i:Int)));have BE:=(BZ.setCell (p:=⟨w.heap.size+1,0,none⟩) (by show w.heap.size<=w.heap.size+1;omega) (.int .i64 (8))).setCell (p:=⟨w.heap.size+1,1,none⟩) (by show w.heap.size<=w.heap.size+1;omega) (.int .i64 ((i:Int)));have t0:=coQ KE 0;have t1:=coQ KE 1;simp at t0 t1;have HFIN:=zE (show FaultPost w S (.returned (.agg #[.int .i64 (8),.int .i64 ((i:Int))])) _ from ⟨8,(i:Int),rfl,fun h=>absurd h (by decide),BE⟩);clear KE BE;go_wp2;exact bodyPost_ret (v:=.agg #[.int .i64 (8),.int .i64 ((i:Int))]) (by simp [results,Tryz.results9,go_sem,t0,t1]) rfl HFIN.out
       case false=>
        clear s0 s1 s2 s3 r0 r1 r2 r3 r4 r5 yS yR;have s0:=coQ kS4 0;have s1:=coQ kS4 1;have s2:=coQ kS4 2;have s3:=coQ kS4 3;have r0:=coQ kR4 0;have r1:=coQ kR4 1;have r2:=coQ kR4 2;have r3:=coQ kR4 3;have r4:=coQ kR4 4;have r5:=coQ kR4 5;simp at s0 s1 s2 s3 r0 r1 r2 r3 r4 r5;have yS:=zG kS4;have yR:=zG kR4;have hni:out ∉ S.I:=fun hm=>by have h6:=qY.2 hm;rw [<-HQ1.out] at h6;cases h6
        have hnm:out ∉ (S.R.take i).map (·.out):=fun hm=>by have h6:=qY.2 hm;rw [<-HQ2.out] at h6;cases h6
        have HPD:=zE (fun (W:World)=>parts29_any op W);obtain ⟨pd,hpd⟩:=nmQ (Sk.partsD op);rw [<-hpd] at HPD;obtain ⟨q3,hq3⟩:=nmQ (decide (pd<0));obtain ⟨q4,hq4⟩:=nmQ ((pd != (A.length:Int)));have HP:=zE hpd;have HQ3:=zE hq3;have HQ4:=zE hq4;clear hpd hq3 hq4 HI1 HI2 HMD kSa kR kFa BA Ba;go_upto_region 12 with fail;refine zK (fun w'=>Below w4.heap.size w4 w') (fun _=>false) (by kernel_rfl) ?_;have hH0:Below w4.heap.size w4 w4.drew:=(Below.refl _ _).drew;generalize w4.drew=wd0 at hH0 ⊢;refine' tkR 0 59 hH0 ?o11
        refine' tkQ 1 60 hH0 ?hyv ?o12
        case hyv=>
         intro wz hSw;have zc0:=(hSw.cell (p:=⟨w.heap.size,0,none⟩) yS).trans s0;have zc1:=(hSw.cell (p:=⟨w.heap.size,1,none⟩) yS).trans s1;have zc2:=(hSw.cell (p:=⟨w.heap.size,2,none⟩) yS).trans s2;have zc3:=(hSw.cell (p:=⟨w.heap.size,3,none⟩) yS).trans s3;have zc4:=(hSw.cell (p:=⟨wr.heap.size,0,none⟩) yR).trans r0;have zc5:=(hSw.cell (p:=⟨wr.heap.size,2,none⟩) yR).trans r2;have zc6:=(hSw.cell (p:=⟨wr.heap.size,4,none⟩) yR).trans r4;have zc7:=(hSw.cell (p:=⟨wr.heap.size,5,none⟩) yR).trans r5;go_simp
         try rfl
        try simp only [Act.put,sT,sZ,sS]
        refine tnQ 2 (fun K hK=>?_);go_simp;refine (HPD.out wd0).mono ?_;rintro eq wd1 ⟨rfl,bq1⟩;have hH1:Below w4.heap.size w4 wd1:=hH0.trans (bq1.mono hH0.size);refine hK.out _ _ (fun _=>hH1) ?_;clear hK K
        try simp only [Act.put,sT,sZ,sS]
        refine' zO (i:=3) (oi:=⟨some 62,_,_,_,_,_⟩) (v:=.bool q3) rfl (by kernel_rfl) (by kernel_rfl) (by kernel_rfl) (by kernel_rfl) (fun _ _ _ h=>h) hH1 (by rfl) ?hyv ?o13
        case hyv=>
         intro wz hSw;go_simp;rw [HQ3.out]
         try rfl
        try simp only [Act.put,sT,sZ,sS]
        refine' tkR 4 63 hH1 ?o14
        cases q3
        case false=>
         refine' tkR 5 64 hH1 ?o15
         refine' tkQ 6 65 hH1 ?hyv ?o16
         case hyv=>
          intro wz hSw;have zc0:=(hSw.cell (p:=⟨w.heap.size,0,none⟩) yS).trans s0;have zc1:=(hSw.cell (p:=⟨w.heap.size,1,none⟩) yS).trans s1;have zc2:=(hSw.cell (p:=⟨w.heap.size,2,none⟩) yS).trans s2;have zc3:=(hSw.cell (p:=⟨w.heap.size,3,none⟩) yS).trans s3;have zc4:=(hSw.cell (p:=⟨wr.heap.size,0,none⟩) yR).trans r0;have zc5:=(hSw.cell (p:=⟨wr.heap.size,2,none⟩) yR).trans r2;have zc6:=(hSw.cell (p:=⟨wr.heap.size,4,none⟩) yR).trans r4;have zc7:=(hSw.cell (p:=⟨wr.heap.size,5,none⟩) yR).trans r5;go_simp
          try rfl
         try simp only [Act.put,sT,sZ,sS]
         refine' tkR 8 67 hH1 ?o17
         refine' tkQ 9 68 hH1 ?hyv ?o18
         case hyv=>
          intro wz hSw;have zc0:=(hSw.cell (p:=⟨w.heap.size,0,none⟩) yS).trans s0;have zc1:=(hSw.cell (p:=⟨w.heap.size,1,none⟩) yS).trans s1;have zc2:=(hSw.cell (p:=⟨w.heap.size,2,none⟩) yS).trans s2;have zc3:=(hSw.cell (p:=⟨w.heap.size,3,none⟩) yS).trans s3;have zc4:=(hSw.cell (p:=⟨wr.heap.size,0,none⟩) yR).trans r0;have zc5:=(hSw.cell (p:=⟨wr.heap.size,2,none⟩) yR).trans r2;have zc6:=(hSw.cell (p:=⟨wr.heap.size,4,none⟩) yR).trans r4;have zc7:=(hSw.cell (p:=⟨wr.heap.size,5,none⟩) yR).trans r5;go_simp
          try rfl
         try simp only [Act.put,sT,sZ,sS]
         refine' tkR 10 69 hH1 ?o19
         refine tnQ 7 (fun K hK=>?_);go_simp;refine (HPD.out wd1).mono ?_;rintro eq wd2 ⟨rfl,bq2⟩;have hH2:Below w4.heap.size w4 wd2:=hH1.trans (bq2.mono hH1.size);refine hK.out _ _ (fun _=>hH2) ?_;clear hK K
         try simp only [Act.put,sT,sZ,sS]
         refine' zO (i:=11) (oi:=⟨some 70,_,_,_,_,_⟩) (v:=.bool q4) rfl (by kernel_rfl) (by kernel_rfl) (by kernel_rfl) (by kernel_rfl) (fun _ _ _ h=>h) hH2 (by rfl) ?hyv ?o20
         case hyv=>
          intro wz hSw;go_simp;rw [HQ4.out]
          try rfl
         try simp only [Act.put,sT,sZ,sS]
         refine' tkR 12 71 hH2 ?o21
         refine zH (by kernel_rfl) ?_ _;obtain ⟨w5,hwx⟩:∃ wx,wx=wd2:=⟨_,rfl⟩;subst hwx;have b5:=hH2;have kS5:=(b5.block _ (zG kS4)).trans kS4;have kR5:=(b5.block _ (zG kR4)).trans kR4;have kF5:=(b5.block _ (zG kF4)).trans kF4;have BA5:=BA4.trans (b5.mono BA4.size);have B5:=b1.trans (BA5.mono b1.size);have bW5:=bW4.trans (b5.mono bW4.size)
         cases q4
         case true=>
          go_wp2_with fail;refine (zV (4) ((i:Int)) w5).mono ?_;rintro e wz ⟨rfl,bz⟩;have kFz:=(bz.block _ (zG kF5)).trans kF5;have BZ:=B5.trans (bz.mono B5.size);have s0z:=coQ kFz 0;have s1z:=coQ kFz 1;have f0z:=foQ kFz 0;have f1z:=foQ kFz 1;simp at s0z s1z;have KE:=zJ (zJ kFz 0 (.int .i64 (4))) 1 (.int .i64 ((i:Int)));have BE:=(BZ.setCell (p:=⟨w.heap.size+1,0,none⟩) (by show w.heap.size<=w.heap.size+1;omega) (.int .i64 (4))).setCell (p:=⟨w.heap.size+1,1,none⟩) (by show w.heap.size<=w.heap.size+1;omega) (.int .i64 ((i:Int)));have t0:=coQ KE 0;have t1:=coQ KE 1;simp at t0 t1;have HFIN:=zE (show FaultPost w S (.returned (.agg #[.int .i64 (4),.int .i64 ((i:Int))])) _ from ⟨4,(i:Int),rfl,fun h=>absurd h (by decide),BE⟩);clear KE BE;go_wp2;exact bodyPost_ret (v:=.agg #[.int .i64 (4),.int .i64 ((i:Int))]) (by simp [results,Tryz.results9,go_sem,t0,t1]) rfl HFIN.out
         case false=>
          clear s0 s1 s2 s3 r0 r1 r2 r3 r4 r5 yS yR;have s0:=coQ kS5 0;have s1:=coQ kS5 1;have s2:=coQ kS5 2;have s3:=coQ kS5 3;have r0:=coQ kR5 0;have r1:=coQ kR5 1;have r2:=coQ kR5 2;have r3:=coQ kR5 3;have r4:=coQ kR5 4;have r5:=coQ kR5 5;simp at s0 s1 s2 s3 r0 r1 r2 r3 r4 r5;have yS:=zG kS5;have yR:=zG kR5;have HFORM:=zE (show Sk.hasForm op A.length=true from Sk.parts_form (by have h1:=HQ3.out;rw [HP.out] at h1;simpa using h1.symm) (by have h1:=HQ4.out;rw [HP.out] at h1;simpa using h1.symm));by_cases hE24:24<E.length
          case pos=>
           have hE24b:(24:Int)<(E.length:Int):=(by omega);go_wp2_with fail;refine (zV (7) ((i:Int)) w5).mono ?_;rintro e wz ⟨rfl,bz⟩;have kFz:=(bz.block _ (zG kF5)).trans kF5;have BZ:=B5.trans (bz.mono B5.size);have s0z:=coQ kFz 0;have s1z:=coQ kFz 1;have f0z:=foQ kFz 0;have f1z:=foQ kFz 1;simp at s0z s1z;have KE:=zJ (zJ kFz 0 (.int .i64 (7))) 1 (.int .i64 ((i:Int)));have BE:=(BZ.setCell (p:=⟨w.heap.size+1,0,none⟩) (by show w.heap.size<=w.heap.size+1;omega) (.int .i64 (7))).setCell (p:=⟨w.heap.size+1,1,none⟩) (by show w.heap.size<=w.heap.size+1;omega) (.int .i64 ((i:Int)));have t0:=coQ KE 0;have t1:=coQ KE 1;simp at t0 t1;have HFIN:=zE (show FaultPost w S (.returned (.agg #[.int .i64 (7),.int .i64 ((i:Int))])) _ from ⟨7,(i:Int),rfl,fun h=>absurd h (by decide),BE⟩);clear KE BE;go_wp2;exact bodyPost_ret (v:=.agg #[.int .i64 (7),.int .i64 ((i:Int))]) (by simp [results,Tryz.results9,go_sem,t0,t1]) rfl HFIN.out
          case neg=>
           have hE24b:¬(24:Int)<(E.length:Int):=(by omega);have hEl:E.length<=24:=(by omega);go_wp2_with fail;refine (zAp (op:=op) (k:=k) (out:=out) (n:=x) (HRA.out _ bW5).1 (HRA.out _ bW5).2 HFT.out.1 HFT.out.2).mono ?_;rintro e w6 ⟨uv,rfl,huv,b6'⟩;have b6:=b6';have kS6:=(b6.block _ (zG kS5)).trans kS5;have kR6:=(b6.block _ (zG kR5)).trans kR5;have kF6:=(b6.block _ (zG kF5)).trans kF5;have BA6:=BA5.trans (b6.mono BA5.size);have B6:=b1.trans (BA6.mono b1.size);have bW6:=bW5.trans (b6.mono bW5.size);clear b6' kS4 kR4 kF4 BA4 B4 kS5 kR5 kF5 B5;obtain ⟨U,hU⟩:=nmQ (usesT A (Sk.ownE op E));rw [<-hU] at huv;have HU:=zE hU;have HUV:=zE (huv.wide (ok':=fun i=>i<w6.heap.size) fun i _ h=>h);obtain ⟨ua,uc,rfl,hu1,hu2,-⟩:=huv.at;unfold maxLen at hu2;clear huv hU s0 s1 s2 s3 r0 r1 r2 r3 r4 r5 yS yR;go_wp2_with fail;go_loopg [7] U.length (fun kk v7 wt=>∃ (j:Nat),j<=U.length/\kk=U.length-j/\v7=.int .i64 (j:Nat)/\Hid (∀ z ∈ U.take j,0<=z/\z<(S.V.length:Int))/\Below w6.heap.size w6 wt)
           case atStart=>exact ⟨0,Nat.zero_le _,rfl,rfl,zE (fun z hz=>by simp at hz),Below.refl _ _⟩
           case round=>
            obtain ⟨j,hj,rfl,rfl,HUJ,hbt⟩:=hrel;obtain ⟨wt,hwt⟩:=nmQ (wr);subst hwt;have bt:=hbt;have kSt:=(bt.block _ (zG kS6)).trans kS6;have kRt:=(bt.block _ (zG kR6)).trans kR6;have kFt:=(bt.block _ (zG kF6)).trans kF6;have BAt:=BA6.trans (bt.mono BA6.size);have Bt:=b1.trans (BAt.mono b1.size);have bWt:=bW6.trans (bt.mono bW6.size);have s0:=coQ kSt 0;simp at s0;have yS:=zG kSt;by_cases hjt:j<U.length
            case pos=>
             obtain ⟨ao2,cp2,e2,-,-,hat2⟩:=(HUV.out.under hbt).at;injection e2 with z1 z2 z3;obtain ⟨bU,oU,hbU,yU,xU⟩:=hat2 j hjt;rw [hbU] at z1;subst z1;have HNJ:=zE (fun (h:0<=U[j]/\U[j]<(S.V.length:Int))=>qD (P:=fun z=>0<=z/\z<(S.V.length:Int)) hjt HUJ.out h);generalize U[j]=z at xU HNJ;obtain ⟨q5,hq5⟩:=nmQ (decide (z<0));obtain ⟨q6,hq6⟩:=nmQ (decide (z≥(S.V.length:Int)));have HQ5:=zE hq5;have HQ6:=zE hq6;clear hat2 z2 z3 hbU hq5 hq6 HUJ;go_upto_region 20 with fail;refine zK (fun w'=>Below wt.heap.size wt w') (fun _=>false) (by kernel_rfl) ?_;have hH0:Below wt.heap.size wt wt.drew:=(Below.refl _ _).drew;generalize wt.drew=wd0 at hH0 ⊢;refine' tkR 0 88 hH0 ?o22
             refine' tkR 1 89 hH0 ?o23
             refine' tkR 2 90 hH0 ?o24
             refine' tkQ 3 91 hH0 ?hyv ?o25
             case hyv=>
              intro wz hSw;have zc0:=(hSw.cell (p:=⟨w.heap.size,0,none⟩) yS).trans s0;have zc1:=(hSw.cell (p:=⟨bU,oU+j,none⟩) yU).trans xU;go_simp
              try rfl
             try simp only [Act.put,sT,sZ,sS]
             refine' zO (i:=4) (oi:=⟨some 92,_,_,_,_,_⟩) (v:=.bool q5) rfl (by kernel_rfl) (by kernel_rfl) (by kernel_rfl) (by kernel_rfl) (fun _ _ _ h=>h) hH0 (by rfl) ?hyv ?o26
             case hyv=>
              intro wz hSw;go_simp;rw [HQ5.out]
              try rfl
             try simp only [Act.put,sT,sZ,sS]
             refine' tkR 5 93 hH0 ?o27
             cases q5
             case false=>
              refine' tkR 6 94 hH0 ?o28
              refine' tkR 7 95 hH0 ?o29
              refine' tkR 8 96 hH0 ?o30
              refine' tkQ 9 97 hH0 ?hyv ?o31
              case hyv=>
               intro wz hSw;have zc0:=(hSw.cell (p:=⟨w.heap.size,0,none⟩) yS).trans s0;have zc1:=(hSw.cell (p:=⟨bU,oU+j,none⟩) yU).trans xU;go_simp
               try rfl
              try simp only [Act.put,sT,sZ,sS]
              refine' tkR 10 98 hH0 ?o32
              refine' tkQ 11 99 hH0 ?hyv ?o33
              case hyv=>
               intro wz hSw;have zc0:=(hSw.cell (p:=⟨w.heap.size,0,none⟩) yS).trans s0;have zc1:=(hSw.cell (p:=⟨bU,oU+j,none⟩) yU).trans xU;go_simp
               try rfl
              try simp only [Act.put,sT,sZ,sS]
              refine' tkR 12 100 hH0 ?o34
              refine' zO (i:=13) (oi:=⟨some 101,_,_,_,_,_⟩) (v:=.bool q6) rfl (by kernel_rfl) (by kernel_rfl) (by kernel_rfl) (by kernel_rfl) (fun _ _ _ h=>h) hH0 (by rfl) ?hyv ?o35
              case hyv=>
               intro wz hSw;go_simp;rw [HQ6.out]
               try rfl
              try simp only [Act.put,sT,sZ,sS]
              refine' tkR 14 102 hH0 ?o36
              refine zH (by kernel_rfl) ?_ _;obtain ⟨wu,hwx⟩:∃ wx,wx=wd0:=⟨_,rfl⟩;subst hwx;have bu:=hH0;have kSu:=(bu.block _ (zG kSt)).trans kSt;have kRu:=(bu.block _ (zG kRt)).trans kRt;have kFu:=(bu.block _ (zG kFt)).trans kFt;have BAu:=BAt.trans (bu.mono BAt.size);have Bu:=b1.trans (BAu.mono b1.size);have bWu:=bWt.trans (bu.mono bWt.size)
              cases q6
              case true=>
               go_wp2_with fail;refine (zV (16) ((i:Int)) wu).mono ?_;rintro e wz ⟨rfl,bz⟩;have kFz:=(bz.block _ (zG kFu)).trans kFu;have BZ:=Bu.trans (bz.mono Bu.size);have s0z:=coQ kFz 0;have s1z:=coQ kFz 1;have f0z:=foQ kFz 0;have f1z:=foQ kFz 1;simp at s0z s1z;have KE:=zJ (zJ kFz 0 (.int .i64 (16))) 1 (.int .i64 ((i:Int)));have BE:=(BZ.setCell (p:=⟨w.heap.size+1,0,none⟩) (by show w.heap.size<=w.heap.size+1;omega) (.int .i64 (16))).setCell (p:=⟨w.heap.size+1,1,none⟩) (by show w.heap.size<=w.heap.size+1;omega) (.int .i64 ((i:Int)));have t0:=coQ KE 0;have t1:=coQ KE 1;simp at t0 t1;have HFIN:=zE (show FaultPost w S (.returned (.agg #[.int .i64 (16),.int .i64 ((i:Int))])) _ from ⟨16,(i:Int),rfl,fun h=>absurd h (by decide),BE⟩);clear KE BE;go_wp2;exact bodyPost_ret (v:=.agg #[.int .i64 (16),.int .i64 ((i:Int))]) (by simp [results,Tryz.results9,go_sem,t0,t1]) rfl HFIN.out
              case false=>
               have HN2:=zE (HNJ.out (by
                have h1:=HQ5.out;have h2:=HQ6.out;simp at h1 h2;exact ⟨h1,h2⟩))
               have BX:=hbt.trans (bu.mono hbt.size);go_wp2_with fail;go_roundg (U.length-(j+1))
               case measure=>omega
               case rel=>exact ⟨j+1,by omega,rfl,by go_num,HN2,BX⟩
             case true=>
              refine zD (i:=6) (oi:=⟨some 94,_,_,_,_,_⟩) rfl (by kernel_rfl) (by kernel_rfl) (by kernel_rfl) (by kernel_rfl) (fun _ _ _ h=>h) hH0 (by rfl) ?_
              try simp only [Act.put,sT,sZ,sS]
              refine zD (i:=7) (oi:=⟨some 95,_,_,_,_,_⟩) rfl (by kernel_rfl) (by kernel_rfl) (by kernel_rfl) (by kernel_rfl) (fun _ _ _ h=>h) hH0 (by rfl) ?_
              try simp only [Act.put,sT,sZ,sS]
              refine zD (i:=8) (oi:=⟨some 96,_,_,_,_,_⟩) rfl (by kernel_rfl) (by kernel_rfl) (by kernel_rfl) (by kernel_rfl) (fun _ _ _ h=>h) hH0 (by rfl) ?_
              try simp only [Act.put,sT,sZ,sS]
              refine zD (i:=9) (oi:=⟨some 97,_,_,_,_,_⟩) rfl (by kernel_rfl) (by kernel_rfl) (by kernel_rfl) (by kernel_rfl) (fun _ _ _ h=>h) hH0 (by rfl) ?_
              try simp only [Act.put,sT,sZ,sS]
              refine zD (i:=10) (oi:=⟨some 98,_,_,_,_,_⟩) rfl (by kernel_rfl) (by kernel_rfl) (by kernel_rfl) (by kernel_rfl) (fun _ _ _ h=>h) hH0 (by rfl) ?_
              try simp only [Act.put,sT,sZ,sS]
              refine zD (i:=11) (oi:=⟨some 99,_,_,_,_,_⟩) rfl (by kernel_rfl) (by kernel_rfl) (by kernel_rfl) (by kernel_rfl) (fun _ _ _ h=>h) hH0 (by rfl) ?_
              try simp only [Act.put,sT,sZ,sS]
              refine zD (i:=12) (oi:=⟨some 100,_,_,_,_,_⟩) rfl (by kernel_rfl) (by kernel_rfl) (by kernel_rfl) (by kernel_rfl) (fun _ _ _ h=>h) hH0 (by rfl) ?_
              try simp only [Act.put,sT,sZ,sS]
              refine zD (i:=13) (oi:=⟨some 101,_,_,_,_,_⟩) rfl (by kernel_rfl) (by kernel_rfl) (by kernel_rfl) (by kernel_rfl) (fun _ _ _ h=>h) hH0 (by rfl) ?_
              try simp only [Act.put,sT,sZ,sS]
              refine' tkR 14 102 hH0 ?o37
              refine zH (by kernel_rfl) ?_ _;obtain ⟨wu,hwx⟩:∃ wx,wx=wd0:=⟨_,rfl⟩;subst hwx;have bu:=hH0;have kSu:=(bu.block _ (zG kSt)).trans kSt;have kRu:=(bu.block _ (zG kRt)).trans kRt;have kFu:=(bu.block _ (zG kFt)).trans kFt;have BAu:=BAt.trans (bu.mono BAt.size);have Bu:=b1.trans (BAu.mono b1.size);have bWu:=bWt.trans (bu.mono bWt.size);go_wp2_with fail;refine (zV (16) ((i:Int)) wu).mono ?_;rintro e wz ⟨rfl,bz⟩;have kFz:=(bz.block _ (zG kFu)).trans kFu;have BZ:=Bu.trans (bz.mono Bu.size);have s0z:=coQ kFz 0;have s1z:=coQ kFz 1;have f0z:=foQ kFz 0;have f1z:=foQ kFz 1;simp at s0z s1z;have KE:=zJ (zJ kFz 0 (.int .i64 (16))) 1 (.int .i64 ((i:Int)));have BE:=(BZ.setCell (p:=⟨w.heap.size+1,0,none⟩) (by show w.heap.size<=w.heap.size+1;omega) (.int .i64 (16))).setCell (p:=⟨w.heap.size+1,1,none⟩) (by show w.heap.size<=w.heap.size+1;omega) (.int .i64 ((i:Int)));have t0:=coQ KE 0;have t1:=coQ KE 1;simp at t0 t1;have HFIN:=zE (show FaultPost w S (.returned (.agg #[.int .i64 (16),.int .i64 ((i:Int))])) _ from ⟨16,(i:Int),rfl,fun h=>absurd h (by decide),BE⟩);clear KE BE;go_wp2;exact bodyPost_ret (v:=.agg #[.int .i64 (16),.int .i64 ((i:Int))]) (by simp [results,Tryz.results9,go_sem,t0,t1]) rfl HFIN.out
            case neg=>
             have hjn:j=U.length:=(by omega);subst hjn;have hus:∀ z ∈ usesT A (Sk.ownE op E),0<=z/\z<(S.V.length:Int):=fun z hz=>by have h5:=HUJ.out;rw [List.take_length] at h5;exact h5 z (by rw [HU.out];exact hz)
             have HTY:=zE (zAN (k:=k) (x:=x) (HSW.out _ bWt) HD.out.vars (HRA.out _ bWt).1 (HRA.out _ bWt).2 hor HFORM.out hEl hus);have HUS:=zE hus;clear s0 yS hus;have s0:=coQ kSt 0;have s1:=coQ kSt 1;have s2:=coQ kSt 2;have s3:=coQ kSt 3;have r0:=coQ kRt 0;have r1:=coQ kRt 1;have r2:=coQ kRt 2;have r3:=coQ kRt 3;have r4:=coQ kRt 4;have r5:=coQ kRt 5;simp at s0 s1 s2 s3 r0 r1 r2 r3 r4 r5;go_wp2_with fail;refine HTY.out.mono ?_;rintro e wv ⟨tf,rfl,htf,bv⟩;have bv:=bv;have kSv:=(bv.block _ (zG kSt)).trans kSt;have kRv:=(bv.block _ (zG kRt)).trans kRt;have kFv:=(bv.block _ (zG kFt)).trans kFt;have BAv:=BAt.trans (bv.mono BAt.size);have Bv:=b1.trans (BAv.mono b1.size);have bWv:=bWt.trans (bv.mono bWt.size);clear s0 s1 s2 s3 r0 r1 r2 r3 r4 r5
             cases tf
             case false=>
              go_wp2_with fail;refine (zV (10) ((i:Int)) wv).mono ?_;rintro e wz ⟨rfl,bz⟩;have kFz:=(bz.block _ (zG kFv)).trans kFv;have BZ:=Bv.trans (bz.mono Bv.size);have s0z:=coQ kFz 0;have s1z:=coQ kFz 1;have f0z:=foQ kFz 0;have f1z:=foQ kFz 1;simp at s0z s1z;have KE:=zJ (zJ kFz 0 (.int .i64 (10))) 1 (.int .i64 ((i:Int)));have BE:=(BZ.setCell (p:=⟨w.heap.size+1,0,none⟩) (by show w.heap.size<=w.heap.size+1;omega) (.int .i64 (10))).setCell (p:=⟨w.heap.size+1,1,none⟩) (by show w.heap.size<=w.heap.size+1;omega) (.int .i64 ((i:Int)));have t0:=coQ KE 0;have t1:=coQ KE 1;simp at t0 t1;have HFIN:=zE (show FaultPost w S (.returned (.agg #[.int .i64 (10),.int .i64 ((i:Int))])) _ from ⟨10,(i:Int),rfl,fun h=>absurd h (by decide),BE⟩);clear KE BE;go_wp2;exact bodyPost_ret (v:=.agg #[.int .i64 (10),.int .i64 ((i:Int))]) (by simp [results,Tryz.results9,go_sem,t0,t1]) rfl HFIN.out
             case true=>
              have HAL2:=zE (show Sk.AllR S (S.R.take (i+1)) by
               rw [HTK.out];exact HAL.out.snoc hor hni hnm ⟨HFORM.out,Sk.ownE_le hEl,HUS.out,htf rfl⟩)
              clear htf;go_wp2_with fail;go_roundg (S.R.length-(i+1))
              case measure=>omega
              case rel=>exact ⟨i+1,by omega,rfl,by go_num,HAL2,BAv⟩
        case true=>
         refine zD (i:=5) (oi:=⟨some 64,_,_,_,_,_⟩) rfl (by kernel_rfl) (by kernel_rfl) (by kernel_rfl) (by kernel_rfl) (fun _ _ _ h=>h) hH1 (by rfl) ?_
         try simp only [Act.put,sT,sZ,sS]
         refine zD (i:=6) (oi:=⟨some 65,_,_,_,_,_⟩) rfl (by kernel_rfl) (by kernel_rfl) (by kernel_rfl) (by kernel_rfl) (fun _ _ _ h=>h) hH1 (by rfl) ?_
         try simp only [Act.put,sT,sZ,sS]
         refine zD (i:=7) (oi:=⟨some 66,_,_,_,_,_⟩) rfl (by kernel_rfl) (by kernel_rfl) (by kernel_rfl) (by kernel_rfl) (fun _ _ _ h=>h) hH1 (by rfl) ?_
         try simp only [Act.put,sT,sZ,sS]
         refine zD (i:=8) (oi:=⟨some 67,_,_,_,_,_⟩) rfl (by kernel_rfl) (by kernel_rfl) (by kernel_rfl) (by kernel_rfl) (fun _ _ _ h=>h) hH1 (by rfl) ?_
         try simp only [Act.put,sT,sZ,sS]
         refine zD (i:=9) (oi:=⟨some 68,_,_,_,_,_⟩) rfl (by kernel_rfl) (by kernel_rfl) (by kernel_rfl) (by kernel_rfl) (fun _ _ _ h=>h) hH1 (by rfl) ?_
         try simp only [Act.put,sT,sZ,sS]
         refine zD (i:=10) (oi:=⟨some 69,_,_,_,_,_⟩) rfl (by kernel_rfl) (by kernel_rfl) (by kernel_rfl) (by kernel_rfl) (fun _ _ _ h=>h) hH1 (by rfl) ?_
         try simp only [Act.put,sT,sZ,sS]
         refine zD (i:=11) (oi:=⟨some 70,_,_,_,_,_⟩) rfl (by kernel_rfl) (by kernel_rfl) (by kernel_rfl) (by kernel_rfl) (fun _ _ _ h=>h) hH1 (by rfl) ?_
         try simp only [Act.put,sT,sZ,sS]
         refine' tkR 12 71 hH1 ?o38
         refine zH (by kernel_rfl) ?_ _;obtain ⟨w5,hwx⟩:∃ wx,wx=wd1:=⟨_,rfl⟩;subst hwx;have b5:=hH1;have kS5:=(b5.block _ (zG kS4)).trans kS4;have kR5:=(b5.block _ (zG kR4)).trans kR4;have kF5:=(b5.block _ (zG kF4)).trans kF4;have BA5:=BA4.trans (b5.mono BA4.size);have B5:=b1.trans (BA5.mono b1.size);have bW5:=bW4.trans (b5.mono bW4.size);go_wp2_with fail;refine (zV (4) ((i:Int)) w5).mono ?_;rintro e wz ⟨rfl,bz⟩;have kFz:=(bz.block _ (zG kF5)).trans kF5;have BZ:=B5.trans (bz.mono B5.size);have s0z:=coQ kFz 0;have s1z:=coQ kFz 1;have f0z:=foQ kFz 0;have f1z:=foQ kFz 1;simp at s0z s1z;have KE:=zJ (zJ kFz 0 (.int .i64 (4))) 1 (.int .i64 ((i:Int)));have BE:=(BZ.setCell (p:=⟨w.heap.size+1,0,none⟩) (by show w.heap.size<=w.heap.size+1;omega) (.int .i64 (4))).setCell (p:=⟨w.heap.size+1,1,none⟩) (by show w.heap.size<=w.heap.size+1;omega) (.int .i64 ((i:Int)));have t0:=coQ KE 0;have t1:=coQ KE 1;simp at t0 t1;have HFIN:=zE (show FaultPost w S (.returned (.agg #[.int .i64 (4),.int .i64 ((i:Int))])) _ from ⟨4,(i:Int),rfl,fun h=>absurd h (by decide),BE⟩);clear KE BE;go_wp2;exact bodyPost_ret (v:=.agg #[.int .i64 (4),.int .i64 ((i:Int))]) (by simp [results,Tryz.results9,go_sem,t0,t1]) rfl HFIN.out
      case true=>
       refine zD (i:=6) (oi:=⟨some 50,_,_,_,_,_⟩) rfl (by kernel_rfl) (by kernel_rfl) (by kernel_rfl) (by kernel_rfl) (fun _ _ _ h=>h) hH1 (by rfl) ?_
       try simp only [Act.put,sT,sZ,sS]
       refine zD (i:=7) (oi:=⟨some 51,_,_,_,_,_⟩) rfl (by kernel_rfl) (by kernel_rfl) (by kernel_rfl) (by kernel_rfl) (fun _ _ _ h=>h) hH1 (by rfl) ?_
       try simp only [Act.put,sT,sZ,sS]
       refine zD (i:=8) (oi:=⟨some 52,_,_,_,_,_⟩) rfl (by kernel_rfl) (by kernel_rfl) (by kernel_rfl) (by kernel_rfl) (fun _ _ _ h=>h) hH1 (by rfl) ?_
       try simp only [Act.put,sT,sZ,sS]
       refine zD (i:=9) (oi:=⟨some 53,_,_,_,_,_⟩) rfl (by kernel_rfl) (by kernel_rfl) (by kernel_rfl) (by kernel_rfl) (fun _ _ _ h=>h) hH1 (by rfl) ?_
       try simp only [Act.put,sT,sZ,sS]
       refine zD (i:=10) (oi:=⟨some 54,_,_,_,_,_⟩) rfl (by kernel_rfl) (by kernel_rfl) (by kernel_rfl) (by kernel_rfl) (fun _ _ _ h=>h) hH1 (by rfl) ?_
       try simp only [Act.put,sT,sZ,sS]
       refine zD (i:=11) (oi:=⟨some 55,_,_,_,_,_⟩) rfl (by kernel_rfl) (by kernel_rfl) (by kernel_rfl) (by kernel_rfl) (fun _ _ _ h=>h) hH1 (by rfl) ?_
       try simp only [Act.put,sT,sZ,sS]
       refine' tkR 12 56 hH1 ?o39
       refine zH (by kernel_rfl) ?_ _;obtain ⟨w4,hwx⟩:∃ wx,wx=wd1:=⟨_,rfl⟩;subst hwx;have b4:=hH1;have kS4:=(b4.block _ (zG kSa)).trans kSa;have kR4:=(b4.block _ (zG kR)).trans kR;have kF4:=(b4.block _ (zG kFa)).trans kFa;have BA4:=BA.trans (b4.mono BA.size);have B4:=b1.trans (BA4.mono b1.size);have bW4:=bA.trans (b4.mono bA.size);go_wp2_with fail;refine (zV (8) ((i:Int)) w4).mono ?_;rintro e wz ⟨rfl,bz⟩;have kFz:=(bz.block _ (zG kF4)).trans kF4;have BZ:=B4.trans (bz.mono B4.size);have s0z:=coQ kFz 0;have s1z:=coQ kFz 1;have f0z:=foQ kFz 0;have f1z:=foQ kFz 1;simp at s0z s1z;have KE:=zJ (zJ kFz 0 (.int .i64 (8))) 1 (.int .i64 ((i:Int)));have BE:=(BZ.setCell (p:=⟨w.heap.size+1,0,none⟩) (by show w.heap.size<=w.heap.size+1;omega) (.int .i64 (8))).setCell (p:=⟨w.heap.size+1,1,none⟩) (by show w.heap.size<=w.heap.size+1;omega) (.int .i64 ((i:Int)));have t0:=coQ KE 0;have t1:=coQ KE 1;simp at t0 t1;have HFIN:=zE (show FaultPost w S (.returned (.agg #[.int .i64 (8),.int .i64 ((i:Int))])) _ from ⟨8,(i:Int),rfl,fun h=>absurd h (by decide),BE⟩);clear KE BE;go_wp2;exact bodyPost_ret (v:=.agg #[.int .i64 (8),.int .i64 ((i:Int))]) (by simp [results,Tryz.results9,go_sem,t0,t1]) rfl HFIN.out
   case neg=>
    have hin:i=S.R.length:=(by omega);subst hin;have HAS:=zE (show Sk.AllR S S.R by have h5:=HAL.out;rw [List.take_length] at h5;exact h5);have s0:=coQ kSr 0;have s1:=coQ kSr 1;have s2:=coQ kSr 2;simp at s0 s1 s2;clear HAL;go_wp2_with fail;refine (zAU (HS.out _ Br) S.R.length zM (by omega)).mono ?_;rintro e w4 ⟨mv,rfl,hmv,b4⟩;rw [List.take_length] at hmv;have B4:=hbr.trans (b4.mono hbr.size);obtain ⟨ma,mc,rfl,hm1,hm2⟩:=hmv.form;unfold maxLen at hm2;have hmi:=zR hmv.row;have HM:=zE (hmi.wide (ok':=fun i=>i<w4.heap.size) fun i _ h=>h);have hMl:(S.R.map (·.out)).length=S.R.length:=(by simp);obtain ⟨ml,hml⟩:=nmQ ((S.R.map (·.out)).length);rw [<-hml] at HM hm1 ⊢;clear hmv hmi s0 s1 s2 s3 kSr kFr Br hbr hMl hml;go_wp2_with fail;go_loopg [9] S.R.length (fun kk v9 wr=>∃ (i:Nat),i<=S.R.length/\kk=S.R.length-i/\v9=.int .i64 (i:Nat)/\Hid (∀ r ∈ S.R.take i,∀ z ∈ Sk.uses r,z ∈ S.I\/z ∈ S.R.map (·.out))/\Hid (Below w4.heap.size w4 wr)/\Below w1.heap.size w1 wr)
    case atStart=>exact ⟨0,Nat.zero_le _,rfl,rfl,zE (fun r hr=>by simp at hr),zE (Below.refl _ _),B4⟩
    case round=>
     clear B4;obtain ⟨i,hi,rfl,rfl,HUS,HB4,hbr⟩:=hrel;have kSr:=(hbr.block _ yS1).trans kS;have kFr:=(hbr.block _ yF1).trans kF;have Br:=b1.trans (hbr.mono b1.size);have s1:=coQ kSr 1;have s2:=coQ kSr 2;have s3:=coQ kSr 3;simp at s1 s2 s3;by_cases hlt:i<S.R.length
     case pos=>
      obtain ⟨ao,cp,e1,-,-,hat⟩:=(HS.out _ Br).R.at;injection e1 with q1 q2 q3;obtain ⟨bR,oR,y,hbR,yR,hrat,hru⟩:=hat i hlt;rw [hbR] at q1;subst q1;have hft:=HFIT.out S.R[i] (List.getElem_mem hlt);have HNX:=zE (fun (h:∀ z ∈ Sk.uses S.R[i],z ∈ S.I\/z ∈ S.R.map (·.out))=>qD (P:=fun r=>∀ z ∈ Sk.uses r,z ∈ S.I\/z ∈ S.R.map (·.out)) hlt HUS.out h);generalize S.R[i]=r at hrat hru hft HNX;obtain ⟨op,k,out,x,A,E⟩:=r;obtain ⟨aA,nA,cA,aE,nE,cE⟩:=y;obtain ⟨d0,d1,d2,d3,d4,d5⟩:=hrat
      dsimp only at d0 d1 d2 d3 d4 d5 hft
      have hrA:=hru.A;have hrE:=hru.E
      dsimp only at hrA hrE
      have HCT:=zE (zAp (op:=op) (k:=k) (out:=out) (n:=x) hrA hrE hft.1 hft.2);clear hat q2 q3 hbR hru hrA hrE hft HUS;go_wp2_with fail;refine HCT.out.mono ?_;rintro e w6 ⟨uv,rfl,huv,b6⟩;have B6:=hbr.trans (b6.mono hbr.size);have HB6:=zE (HB4.out.trans (b6.mono HB4.out.size));obtain ⟨U,hU⟩:=nmQ (usesT A (Sk.ownE op E));rw [<-hU] at huv;have HU:=zE (show Sk.uses ⟨op,k,out,x,A,E⟩=U from hU.symm);have HUV:=zE (huv.wide (ok':=fun i=>i<w6.heap.size) fun i _ h=>h);obtain ⟨ua,uc,rfl,hu1,hu2,-⟩:=huv.at;unfold maxLen at hu2;clear huv hU s1 s2 s3 d0 d1 d2 d3 d4 d5 HCT;go_wp2_with fail;go_loopg [11] U.length (fun kk v11 wt=>∃ (j:Nat),j<=U.length/\kk=U.length-j/\v11=.int .i64 (j:Nat)/\Hid (∀ z ∈ U.take j,z ∈ S.I\/z ∈ S.R.map (·.out))/\Below w6.heap.size w6 wt)
      case atStart=>exact ⟨0,Nat.zero_le _,rfl,rfl,zE (fun z hz=>by simp at hz),Below.refl _ _⟩
      case round=>
       obtain ⟨j,hj,rfl,rfl,HUJ,hbt⟩:=hrel;obtain ⟨wt,hwt⟩:=nmQ (wr);subst hwt;have BT:=B6.trans (hbt.mono B6.size);have kSt:=(BT.block _ yS1).trans kS;have kFt:=(BT.block _ yF1).trans kF;have Bt:=b1.trans (BT.mono b1.size);have HBT:=zE (HB6.out.trans (hbt.mono HB6.out.size));have s1:=coQ kSt 1;simp at s1;have yS:=zG kSt;by_cases hjt:j<U.length
       case pos=>
        obtain ⟨ao2,cp2,e2,-,-,hat2⟩:=(HUV.out.under hbt).at;injection e2 with z1 z2 z3;obtain ⟨bU,oU,hbU,yU,xU⟩:=hat2 j hjt;rw [hbU] at z1;subst z1;have HNJ:=zE (fun (h:U[j] ∈ S.I\/U[j] ∈ S.R.map (·.out))=>qD (P:=fun z=>z ∈ S.I\/z ∈ S.R.map (·.out)) hjt HUJ.out h);generalize U[j]=z at xU HNJ;have HI1:=zE (fun (W:World) (hW:Below wt.heap.size wt W)=>xT z (HS.out W (Bt.trans (hW.mono Bt.size))).I);have HI2:=zE (fun (W:World) (hW:Below wt.heap.size wt W)=>xT z (HM.out.under (HBT.out.trans (hW.mono HBT.out.size))));obtain ⟨q7,hq7⟩:=nmQ (S.I.any (fun y=>y==z));obtain ⟨q8,hq8⟩:=nmQ ((S.R.map (·.out)).any (fun y=>y==z));rw [<-hq7] at HI1;rw [<-hq8] at HI2;have HQ7:=zE hq7;have HQ8:=zE hq8;clear hat2 z2 z3 hbU hq7 hq8 HUJ;go_upto_region 32 with fail;refine zK (fun w'=>Below wt.heap.size wt w') (fun _=>false) (by kernel_rfl) ?_;have hH0:Below wt.heap.size wt wt.drew:=(Below.refl _ _).drew;generalize wt.drew=wd0 at hH0 ⊢;refine' tkR 0 135 hH0 ?o40
        refine' tkQ 1 136 hH0 ?hyv ?o41
        case hyv=>
         intro wz hSw;have zc0:=(hSw.cell (p:=⟨w.heap.size,1,none⟩) yS).trans s1;have zc1:=(hSw.cell (p:=⟨bU,oU+j,none⟩) yU).trans xU;go_simp
         try rfl
        try simp only [Act.put,sT,sZ,sS]
        refine' tkR 2 137 hH0 ?o42
        refine' tkR 3 138 hH0 ?o43
        refine' tkR 4 139 hH0 ?o44
        refine' tkQ 5 140 hH0 ?hyv ?o45
        case hyv=>
         intro wz hSw;have zc0:=(hSw.cell (p:=⟨w.heap.size,1,none⟩) yS).trans s1;have zc1:=(hSw.cell (p:=⟨bU,oU+j,none⟩) yU).trans xU;go_simp
         try rfl
        try simp only [Act.put,sT,sZ,sS]
        refine tnQ 6 (fun K hK=>?_);go_simp;refine (HI1.out wd0 hH0).mono ?_;rintro eq wd1 ⟨rfl,bq1⟩;have hH1:Below wt.heap.size wt wd1:=hH0.trans (bq1.mono hH0.size);refine hK.out _ _ (fun _=>hH1) ?_;clear hK K
        try simp only [Act.put,sT,sZ,sS]
        refine' tkR 7 142 hH1 ?o46
        refine' tkR 8 143 hH1 ?o47
        cases q7
        case false=>
         refine' tkR 9 144 hH1 ?o48
         refine' tkR 10 145 hH1 ?o49
         refine' tkR 11 146 hH1 ?o50
         refine' tkR 12 147 hH1 ?o51
         refine' tkQ 13 148 hH1 ?hyv ?o52
         case hyv=>
          intro wz hSw;have zc0:=(hSw.cell (p:=⟨w.heap.size,1,none⟩) yS).trans s1;have zc1:=(hSw.cell (p:=⟨bU,oU+j,none⟩) yU).trans xU;go_simp
          try rfl
         try simp only [Act.put,sT,sZ,sS]
         refine tnQ 14 (fun K hK=>?_);go_simp;refine (HI2.out wd1 hH1).mono ?_;rintro eq wd2 ⟨rfl,bq2⟩;have hH2:Below wt.heap.size wt wd2:=hH1.trans (bq2.mono hH1.size);refine hK.out _ _ (fun _=>hH2) ?_;clear hK K
         try simp only [Act.put,sT,sZ,sS]
         refine' tkR 15 150 hH2 ?o53
         refine' tkR 16 151 hH2 ?o54
         refine zH (by kernel_rfl) ?_ _;obtain ⟨wu,hwx⟩:∃ wx,wx=wd2:=⟨_,rfl⟩;subst hwx;have bu:=hH2;have BU:=BT.trans (bu.mono BT.size);have kFu:=(bu.block _ (zG kFt)).trans kFt;have Bu:=b1.trans (BU.mono b1.size);have BX:=hbt.trans (bu.mono hbt.size)
         cases q8
         case false=>
          go_wp2_with fail;refine (zV (9) ((i:Int)) wu).mono ?_;rintro e wz ⟨rfl,bz⟩;have kFz:=(bz.block _ (zG kFu)).trans kFu;have BZ:=Bu.trans (bz.mono Bu.size);have s0z:=coQ kFz 0;have s1z:=coQ kFz 1;have f0z:=foQ kFz 0;have f1z:=foQ kFz 1;simp at s0z s1z;have KE:=zJ (zJ kFz 0 (.int .i64 (9))) 1 (.int .i64 ((i:Int)));have BE:=(BZ.setCell (p:=⟨w.heap.size+1,0,none⟩) (by show w.heap.size<=w.heap.size+1;omega) (.int .i64 (9))).setCell (p:=⟨w.heap.size+1,1,none⟩) (by show w.heap.size<=w.heap.size+1;omega) (.int .i64 ((i:Int)));have t0:=coQ KE 0;have t1:=coQ KE 1;simp at t0 t1;have HFIN:=zE (show FaultPost w S (.returned (.agg #[.int .i64 (9),.int .i64 ((i:Int))])) _ from ⟨9,(i:Int),rfl,fun h=>absurd h (by decide),BE⟩);clear KE BE;go_wp2;exact bodyPost_ret (v:=.agg #[.int .i64 (9),.int .i64 ((i:Int))]) (by simp [results,Tryz.results9,go_sem,t0,t1]) rfl HFIN.out
         case true=>
          have HN2:=zE (HNJ.out (.inr (qY.1 HQ8.out.symm)));go_wp2_with fail;go_roundg (U.length-(j+1))
          case measure=>omega
          case rel=>exact ⟨j+1,by omega,rfl,by go_num,HN2,BX⟩
        case true=>
         refine zD (i:=9) (oi:=⟨some 144,_,_,_,_,_⟩) rfl (by kernel_rfl) (by kernel_rfl) (by kernel_rfl) (by kernel_rfl) (fun _ _ _ h=>h) hH1 (by rfl) ?_
         try simp only [Act.put,sT,sZ,sS]
         refine zD (i:=10) (oi:=⟨some 145,_,_,_,_,_⟩) rfl (by kernel_rfl) (by kernel_rfl) (by kernel_rfl) (by kernel_rfl) (fun _ _ _ h=>h) hH1 (by rfl) ?_
         try simp only [Act.put,sT,sZ,sS]
         refine zD (i:=11) (oi:=⟨some 146,_,_,_,_,_⟩) rfl (by kernel_rfl) (by kernel_rfl) (by kernel_rfl) (by kernel_rfl) (fun _ _ _ h=>h) hH1 (by rfl) ?_
         try simp only [Act.put,sT,sZ,sS]
         refine zD (i:=12) (oi:=⟨some 147,_,_,_,_,_⟩) rfl (by kernel_rfl) (by kernel_rfl) (by kernel_rfl) (by kernel_rfl) (fun _ _ _ h=>h) hH1 (by rfl) ?_
         try simp only [Act.put,sT,sZ,sS]
         refine zD (i:=13) (oi:=⟨some 148,_,_,_,_,_⟩) rfl (by kernel_rfl) (by kernel_rfl) (by kernel_rfl) (by kernel_rfl) (fun _ _ _ h=>h) hH1 (by rfl) ?_
         try simp only [Act.put,sT,sZ,sS]
         refine zD (i:=14) (oi:=⟨some 149,_,_,_,_,_⟩) rfl (by kernel_rfl) (by kernel_rfl) (by kernel_rfl) (by kernel_rfl) (fun _ _ _ h=>h) hH1 (by rfl) ?_
         try simp only [Act.put,sT,sZ,sS]
         refine zD (i:=15) (oi:=⟨some 150,_,_,_,_,_⟩) rfl (by kernel_rfl) (by kernel_rfl) (by kernel_rfl) (by kernel_rfl) (fun _ _ _ h=>h) hH1 (by rfl) ?_
         try simp only [Act.put,sT,sZ,sS]
         refine' tkR 16 151 hH1 ?o55
         refine zH (by kernel_rfl) ?_ _;obtain ⟨wu,hwx⟩:∃ wx,wx=wd1:=⟨_,rfl⟩;subst hwx;have bu:=hH1;have BU:=BT.trans (bu.mono BT.size);have kFu:=(bu.block _ (zG kFt)).trans kFt;have Bu:=b1.trans (BU.mono b1.size);have BX:=hbt.trans (bu.mono hbt.size);have HN2:=zE (HNJ.out (.inl (qY.1 HQ7.out.symm)));go_wp2_with fail;go_roundg (U.length-(j+1))
         case measure=>omega
         case rel=>exact ⟨j+1,by omega,rfl,by go_num,HN2,BX⟩
       case neg=>
        have hjn:j=U.length:=(by omega);subst hjn;have HN3:=zE (HNX.out (fun z hz=>by have h5:=HUJ.out;rw [List.take_length] at h5;rw [HU.out] at hz;exact h5 z hz));clear s1 yS;go_wp2_with fail;go_roundg (S.R.length-(i+1))
        case measure=>omega
        case rel=>exact ⟨i+1,by omega,rfl,by go_num,HN3,HBT,BT⟩
     case neg=>
      have hin:i=S.R.length:=(by omega);subst hin;have HUA:=zE (show ∀ r ∈ S.R,∀ z ∈ Sk.uses r,z ∈ S.I\/z ∈ S.R.map (·.out) by have h5:=HUS.out;rw [List.take_length] at h5;exact h5);clear HUS;obtain ⟨wq,hwq⟩:=nmQ (wr);subst hwq;go_wp2_with fail;clear s1 s2 s3;go_loopg [12] S.O.length (fun kk v12 wr=>∃ (j:Nat),j<=S.O.length/\kk=S.O.length-j/\v12=.int .i64 (j:Nat)/\Hid (∀ z ∈ S.O.take j,z ∈ S.I\/z ∈ S.R.map (·.out))/\Hid (Below w4.heap.size w4 wr)/\Below w1.heap.size w1 wr)
      case atStart=>exact ⟨0,Nat.zero_le _,rfl,rfl,zE (fun z hz=>by simp at hz),HB4,hbr⟩
      case round=>
       clear kSr kFr Br;obtain ⟨j,hj,rfl,rfl,HOJ,HBT,BT⟩:=hrel;have kSt:=(BT.block _ yS1).trans kS;have kFt:=(BT.block _ yF1).trans kF;have Bt:=b1.trans (BT.mono b1.size);have s1:=coQ kSt 1;have s2:=coQ kSt 2;simp at s1 s2;have yS:=zG kSt;obtain ⟨wt,hwt⟩:=nmQ (wr);subst hwt;by_cases hjt:j<S.O.length
       case pos=>
        obtain ⟨ao2,cp2,e2,-,-,hat2⟩:=(HS.out _ Bt).O.at;injection e2 with z1 z2 z3;obtain ⟨bU,oU,hbU,yU,xU⟩:=hat2 j hjt;rw [hbU] at z1;subst z1;have HNJ:=zE (fun (h:S.O[j] ∈ S.I\/S.O[j] ∈ S.R.map (·.out))=>qD (P:=fun z=>z ∈ S.I\/z ∈ S.R.map (·.out)) hjt HOJ.out h);generalize S.O[j]=z at xU HNJ;have HI1:=zE (fun (W:World) (hW:Below wt.heap.size wt W)=>xT z (HS.out W (Bt.trans (hW.mono Bt.size))).I);have HI2:=zE (fun (W:World) (hW:Below wt.heap.size wt W)=>xT z (HM.out.under (HBT.out.trans (hW.mono HBT.out.size))));obtain ⟨q7,hq7⟩:=nmQ (S.I.any (fun y=>y==z));obtain ⟨q8,hq8⟩:=nmQ ((S.R.map (·.out)).any (fun y=>y==z));rw [<-hq7] at HI1;rw [<-hq8] at HI2;have HQ7:=zE hq7;have HQ8:=zE hq8;clear hat2 z2 z3 hbU hq7 hq8 HOJ;go_upto_region 37 with fail;refine zK (fun w'=>Below wt.heap.size wt w') (fun _=>false) (by kernel_rfl) ?_;have hH0:Below wt.heap.size wt wt.drew:=(Below.refl _ _).drew;generalize wt.drew=wd0 at hH0 ⊢;refine' tkR 0 161 hH0 ?o56
        refine' tkQ 1 162 hH0 ?hyv ?o57
        case hyv=>
         intro wz hSw;have zc0:=(hSw.cell (p:=⟨w.heap.size,1,none⟩) yS).trans s1;have zc1:=(hSw.cell (p:=⟨w.heap.size,2,none⟩) yS).trans s2;have zc2:=(hSw.cell (p:=⟨bU,oU+j,none⟩) yU).trans xU;go_simp
         try rfl
        try simp only [Act.put,sT,sZ,sS]
        refine' tkR 2 163 hH0 ?o58
        refine' tkQ 3 164 hH0 ?hyv ?o59
        case hyv=>
         intro wz hSw;have zc0:=(hSw.cell (p:=⟨w.heap.size,1,none⟩) yS).trans s1;have zc1:=(hSw.cell (p:=⟨w.heap.size,2,none⟩) yS).trans s2;have zc2:=(hSw.cell (p:=⟨bU,oU+j,none⟩) yU).trans xU;go_simp
         try rfl
        try simp only [Act.put,sT,sZ,sS]
        refine' tkR 4 165 hH0 ?o60
        refine' tkR 5 166 hH0 ?o61
        refine' tkQ 6 167 hH0 ?hyv ?o62
        case hyv=>
         intro wz hSw;have zc0:=(hSw.cell (p:=⟨w.heap.size,1,none⟩) yS).trans s1;have zc1:=(hSw.cell (p:=⟨w.heap.size,2,none⟩) yS).trans s2;have zc2:=(hSw.cell (p:=⟨bU,oU+j,none⟩) yU).trans xU;go_simp
         try rfl
        try simp only [Act.put,sT,sZ,sS]
        refine tnQ 7 (fun K hK=>?_);go_simp;refine (HI1.out wd0 hH0).mono ?_;rintro eq wd1 ⟨rfl,bq1⟩;have hH1:Below wt.heap.size wt wd1:=hH0.trans (bq1.mono hH0.size);refine hK.out _ _ (fun _=>hH1) ?_;clear hK K
        try simp only [Act.put,sT,sZ,sS]
        refine' tkR 8 169 hH1 ?o63
        refine' tkR 9 170 hH1 ?o64
        cases q7
        case false=>
         refine' tkR 10 171 hH1 ?o65
         refine' tkR 11 172 hH1 ?o66
         refine' tkQ 12 173 hH1 ?hyv ?o67
         case hyv=>
          intro wz hSw;have zc0:=(hSw.cell (p:=⟨w.heap.size,1,none⟩) yS).trans s1;have zc1:=(hSw.cell (p:=⟨w.heap.size,2,none⟩) yS).trans s2;have zc2:=(hSw.cell (p:=⟨bU,oU+j,none⟩) yU).trans xU;go_simp
          try rfl
         try simp only [Act.put,sT,sZ,sS]
         refine' tkR 13 174 hH1 ?o68
         refine' tkR 14 175 hH1 ?o69
         refine' tkQ 15 176 hH1 ?hyv ?o70
         case hyv=>
          intro wz hSw;have zc0:=(hSw.cell (p:=⟨w.heap.size,1,none⟩) yS).trans s1;have zc1:=(hSw.cell (p:=⟨w.heap.size,2,none⟩) yS).trans s2;have zc2:=(hSw.cell (p:=⟨bU,oU+j,none⟩) yU).trans xU;go_simp
          try rfl
         try simp only [Act.put,sT,sZ,sS]
         refine tnQ 16 (fun K hK=>?_);go_simp;refine (HI2.out wd1 hH1).mono ?_;rintro eq wd2 ⟨rfl,bq2⟩;have hH2:Below wt.heap.size wt wd2:=hH1.trans (bq2.mono hH1.size);refine hK.out _ _ (fun _=>hH2) ?_;clear hK K
         try simp only [Act.put,sT,sZ,sS]
         refine' tkR 17 178 hH2 ?o71
         refine' tkR 18 179 hH2 ?o72
         refine zH (by kernel_rfl) ?_ _;obtain ⟨wu,hwx⟩:∃ wx,wx=wd2:=⟨_,rfl⟩;subst hwx;have bu:=hH2;have BU:=BT.trans (bu.mono BT.size);have kFu:=(bu.block _ (zG kFt)).trans kFt;have Bu:=b1.trans (BU.mono b1.size);have HBU:=zE (HBT.out.trans (bu.mono HBT.out.size))
         cases q8
         case false=>
          go_wp2_with fail;refine (zV (9) (-1) wu).mono ?_;rintro e wz ⟨rfl,bz⟩;have kFz:=(bz.block _ (zG kFu)).trans kFu;have BZ:=Bu.trans (bz.mono Bu.size);have s0z:=coQ kFz 0;have s1z:=coQ kFz 1;have f0z:=foQ kFz 0;have f1z:=foQ kFz 1;simp at s0z s1z;have KE:=zJ (zJ kFz 0 (.int .i64 (9))) 1 (.int .i64 (-1));have BE:=(BZ.setCell (p:=⟨w.heap.size+1,0,none⟩) (by show w.heap.size<=w.heap.size+1;omega) (.int .i64 (9))).setCell (p:=⟨w.heap.size+1,1,none⟩) (by show w.heap.size<=w.heap.size+1;omega) (.int .i64 (-1));have t0:=coQ KE 0;have t1:=coQ KE 1;simp at t0 t1;have HFIN:=zE (show FaultPost w S (.returned (.agg #[.int .i64 (9),.int .i64 (-1)])) _ from ⟨9,-1,rfl,fun h=>absurd h (by decide),BE⟩);clear KE BE;go_wp2;exact bodyPost_ret (v:=.agg #[.int .i64 (9),.int .i64 (-1)]) (by simp [results,Tryz.results9,go_sem,t0,t1]) rfl HFIN.out
         case true=>
          have HN2:=zE (HNJ.out (.inr (qY.1 HQ8.out.symm)));go_wp2_with fail;go_roundg (S.O.length-(j+1))
          case measure=>omega
          case rel=>exact ⟨j+1,by omega,rfl,by go_num,HN2,HBU,BU⟩
        case true=>
         refine zD (i:=10) (oi:=⟨some 171,_,_,_,_,_⟩) rfl (by kernel_rfl) (by kernel_rfl) (by kernel_rfl) (by kernel_rfl) (fun _ _ _ h=>h) hH1 (by rfl) ?_
         try simp only [Act.put,sT,sZ,sS]
         refine zD (i:=11) (oi:=⟨some 172,_,_,_,_,_⟩) rfl (by kernel_rfl) (by kernel_rfl) (by kernel_rfl) (by kernel_rfl) (fun _ _ _ h=>h) hH1 (by rfl) ?_
         try simp only [Act.put,sT,sZ,sS]
         refine zD (i:=12) (oi:=⟨some 173,_,_,_,_,_⟩) rfl (by kernel_rfl) (by kernel_rfl) (by kernel_rfl) (by kernel_rfl) (fun _ _ _ h=>h) hH1 (by rfl) ?_
         try simp only [Act.put,sT,sZ,sS]
         refine zD (i:=13) (oi:=⟨some 174,_,_,_,_,_⟩) rfl (by kernel_rfl) (by kernel_rfl) (by kernel_rfl) (by kernel_rfl) (fun _ _ _ h=>h) hH1 (by rfl) ?_
         try simp only [Act.put,sT,sZ,sS]
         refine zD (i:=14) (oi:=⟨some 175,_,_,_,_,_⟩) rfl (by kernel_rfl) (by kernel_rfl) (by kernel_rfl) (by kernel_rfl) (fun _ _ _ h=>h) hH1 (by rfl) ?_
         try simp only [Act.put,sT,sZ,sS]
         refine zD (i:=15) (oi:=⟨some 176,_,_,_,_,_⟩) rfl (by kernel_rfl) (by kernel_rfl) (by kernel_rfl) (by kernel_rfl) (fun _ _ _ h=>h) hH1 (by rfl) ?_
         try simp only [Act.put,sT,sZ,sS]
         refine zD (i:=16) (oi:=⟨some 177,_,_,_,_,_⟩) rfl (by kernel_rfl) (by kernel_rfl) (by kernel_rfl) (by kernel_rfl) (fun _ _ _ h=>h) hH1 (by rfl) ?_
         try simp only [Act.put,sT,sZ,sS]
         refine zD (i:=17) (oi:=⟨some 178,_,_,_,_,_⟩) rfl (by kernel_rfl) (by kernel_rfl) (by kernel_rfl) (by kernel_rfl) (fun _ _ _ h=>h) hH1 (by rfl) ?_
         try simp only [Act.put,sT,sZ,sS]
         refine' tkR 18 179 hH1 ?o73
         refine zH (by kernel_rfl) ?_ _;obtain ⟨wu,hwx⟩:∃ wx,wx=wd1:=⟨_,rfl⟩;subst hwx;have bu:=hH1;have BU:=BT.trans (bu.mono BT.size);have kFu:=(bu.block _ (zG kFt)).trans kFt;have Bu:=b1.trans (BU.mono b1.size);have HBU:=zE (HBT.out.trans (bu.mono HBT.out.size));have HN2:=zE (HNJ.out (.inl (qY.1 HQ7.out.symm)));go_wp2_with fail;go_roundg (S.O.length-(j+1))
         case measure=>omega
         case rel=>exact ⟨j+1,by omega,rfl,by go_num,HN2,HBU,BU⟩
       case neg=>
        have hjn:j=S.O.length:=(by omega);subst hjn;have HOA:=zE (show ∀ z ∈ S.O,z ∈ S.I\/z ∈ S.R.map (·.out) by have h5:=HOJ.out;rw [List.take_length] at h5;exact h5);have HOKAY:=zE (show Sk.Okay S from ⟨HD.out.nV,HD.out.nI,HD.out.nO,HD.out.nR,HD.out.vars,HD.out.ins,HD.out.insN,HD.out.outs,HAS.out.1,HAS.out.2,HUA.out,HOA.out⟩);clear s1 yS HOJ;have s0z:=coQ kFt 0;have s1z:=coQ kFt 1;have f0z:=foQ kFt 0;have f1z:=foQ kFt 1;simp at s0z s1z;have KE:=zJ (zJ kFt 0 (.int .i64 (0))) 1 (.int .i64 (0));have BE:=(Bt.setCell (p:=⟨w.heap.size+1,0,none⟩) (by show w.heap.size<=w.heap.size+1;omega) (.int .i64 (0))).setCell (p:=⟨w.heap.size+1,1,none⟩) (by show w.heap.size<=w.heap.size+1;omega) (.int .i64 (0));have t0:=coQ KE 0;have t1:=coQ KE 1;simp at t0 t1;have HFIN:=zE (show FaultPost w S (.returned (.agg #[.int .i64 (0),.int .i64 (0)])) _ from ⟨0,0,rfl,fun _=>HOKAY.out,BE⟩);clear KE BE;go_wp2;exact bodyPost_ret (v:=.agg #[.int .i64 (0),.int .i64 (0)]) (by simp [results,Tryz.results9,go_sem,t0,t1]) rfl HFIN.out
end Go.Proofs.YtegakbobaecdlaaGreatDoor
