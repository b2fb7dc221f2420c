import Derived.Test.YtfhghlpfeeiaeaaGreatDoorX38
import Derived.Test.YtfhghlpfeeiaeaaGreatDoorX35
set_option linter.unusedVariables false
set_option linter.unusedSimpArgs false
set_option maxHeartbeats 64000000
set_option maxRecDepth 100000
namespace Go.Proofs.YtfhghlpfeeiaeaaGreatDoor
open Go.RowKit Go.IntWalk
namespace Sk
theorem parts_form {op:Int} {n:Nat} (h:0<=partsD op) (h2:partsD op=(n:Int)):hasForm op n=true:=by
 unfold partsD at h h2;by_cases ho:0<=op/\op<17
 case neg=>rw [if_neg ho] at h;omega
 case pos=>
  rw [if_pos ho] at h h2;obtain ⟨j,rfl⟩:∃ j:Nat,op=(j:Int):=⟨op.toNat,by omega⟩;rw [Int.toNat_natCast] at h h2;have h8:∀ j:Fin 17,0<=pT.getD j.1 0->1<=j.1/\partsT.getD j.1 0=pT.getD j.1 0:=(by decide);have h9:=h8 ⟨j,by omega⟩ h
  dsimp only at h9
  unfold hasForm;rw [Int.toNat_natCast,h9.2,h2];simp;omega
def OkayD (S:Sys):Prop:=Okay S/\∀ r ∈ S.R,r.E.length<=24
theorem OkayD.rule {S:Sys} (hk:OkayD S) {i:Nat} (hi:i<S.R.length):(((0<=(S.R[i]).out/\(S.R[i]).out<(S.V.length:Int))/\(S.R[i]).out ∉ S.I)/\RuOk S.V S.R[i])/\(S.R[i]).E.length<=24/\(S.R[i]).out ∉ (S.R.take i).map (·.out):=by
 refine ⟨hk.1.rules _ (List.getElem_mem hi),hk.2 _ (List.getElem_mem hi),?_⟩;have h:=nodup_not (l:=S.R.map (·.out)) (i:=i) (by simpa using hi) hk.1.rulesN
 simpa [List.map_take] using h
theorem form_parts {op:Int} {n:Nat} (h:hasForm op n=true):0<=partsD op/\partsD op=(n:Int):=by
 unfold hasForm at h;rw [Bool.and_eq_true,Bool.and_eq_true,decide_eq_true_iff,decide_eq_true_iff,beq_iff_eq] at h;obtain ⟨⟨h1,h2⟩,h3⟩:=h;obtain ⟨j,rfl⟩:∃ j:Nat,op=(j:Int):=⟨op.toNat,by omega⟩;rw [Int.toNat_natCast] at h3;have h8:∀ j:Fin 17,1<=j.1->partsT.getD j.1 0=pT.getD j.1 0:=(by decide);have h9:=h8 ⟨j,by omega⟩ (by dsimp only;omega)
 dsimp only at h9
 unfold partsD;rw [if_pos (by omega),Int.toNat_natCast,<-h9,<-h3];omega
def AllR (S:Sys) (l:List Ru):Prop:=(∀ r ∈ l,((0<=r.out/\r.out<(S.V.length:Int))/\r.out ∉ S.I)/\RuOk S.V r)/\(l.map (·.out)).Nodup/\∀ r ∈ l,r.E.length<=24
theorem AllR.nil (S:Sys):AllR S []:=⟨fun r h=>(by cases h),by simp,fun r h=>(by cases h)⟩
theorem AllR.snoc {S:Sys} {l:List Ru} {r:Ru} (h:AllR S l) (h1:0<=r.out/\r.out<(S.V.length:Int)) (h2:r.out ∉ S.I) (h3:r.out ∉ l.map (·.out)) (h4:RuOk S.V r) (h5:r.E.length<=24):AllR S (l++[r]):=by
 refine ⟨fun q hq=>?_,?_,fun q hq=>?_⟩
 ·rcases List.mem_append.1 hq with hq | hq
  ·exact h.1 q hq
  ·simp at hq;rw [hq];exact ⟨⟨h1,h2⟩,h4⟩
 ·rw [List.map_append,List.nodup_append]
  refine ⟨h.2.1,by simp,fun a ha b hb=>?_⟩;simp at hb;rw [hb];exact fun e=>h3 (e ▸ ha)
 ·rcases List.mem_append.1 hq with hq | hq
  ·exact h.2.2 q hq
  ·simp at hq;rw [hq];exact h5
theorem ownE_le {op:Int} {E:List Pu} (h:E.length<=24):(ownE op E).length<=24:=by
 unfold ownE
 split
 ·exact Nat.zero_le _
 ·exact h
end Sk
def FaultPost (w:World) (S:Sk.Sys) (e:Ending) (w':World):Prop:=∃ c a:Int,e=.returned (.agg #[.int .i64 c,.int .i64 a])/\(c=0↔Sk.OkayD S)/\Below w.heap.size w w'
theorem zBI {ok:Nat->Prop} {w:World} {aV aI aO aR:Option Addr} {cV cI cO cR:Nat} {S:Sk.Sys} (hS:HSys ok w aV aI aO aR cV cI cO cR S) (aB:∀ r ∈ S.R,r.A.length<=1000000/\r.E.length<=1000000):Calls Tryz.prog 18 #[.agg #[.slice aV S.V.length cV,.slice aI S.I.length cI,.slice aO S.O.length cO,.slice aR S.R.length cR]] w (FaultPost w S):=by
 obtain ⟨om,jI,iQ,bY,ik,-⟩:=hS.R.at;injection iQ with q1 q2 q3;rw [<-q3] at bY ik;clear q1 q2 q3;obtain ⟨FQ,FY,wB,yQ,ri,-⟩:=hS.O.at;injection wB with q1 q2 q3;rw [<-q3] at yQ ri;clear q1 q2 q3;unfold maxLen at ik ri;have b0:Below w.heap.size w (w.alloc (.cells #[.slice aV S.V.length cV,.slice aI S.I.length cI,.slice aO S.O.length cO,.slice aR S.R.length cR] 26 (0,0))):=(Below.refl _ _).alloc zBR _;have b1:=b0.alloc b0.size (.cells #[.int .i64 0,.int .i64 0] 32 (0,0));have kS:((w.alloc (.cells #[.slice aV S.V.length cV,.slice aI S.I.length cI,.slice aO S.O.length cO,.slice aR S.R.length cR] 26 (0,0))).alloc (.cells #[.int .i64 0,.int .i64 0] 32 (0,0))).heap[w.heap.size]?=some (.cells #[.slice aV S.V.length cV,.slice aI S.I.length cI,.slice aO S.O.length cO,.slice aR S.R.length cR] 26 (0,0)):=(Below.heap_alloc _ _ _ (by simp)).trans (zBO w _);have kF:((w.alloc (.cells #[.slice aV S.V.length cV,.slice aI S.I.length cI,.slice aO S.O.length cO,.slice aR S.R.length cR] 26 (0,0))).alloc (.cells #[.int .i64 0,.int .i64 0] 32 (0,0))).heap[w.heap.size+1]?=some (.cells #[.int .i64 0,.int .i64 0] 32 (0,0)):=by
  have:=zBO (w.alloc (.cells #[.slice aV S.V.length cV,.slice aI S.I.length cI,.slice aO S.O.length cO,.slice aR S.R.length cR] 26 (0,0))) (.cells #[.int .i64 0,.int .i64 0] 32 (0,0))
  simpa using this
 have HS:=zBK (fun (W:World) (hb:Below w.heap.size w W)=>hS.under hb);have mh:=zBK aB;clear hS b0 aB;go_enter Tryz.func18,Tryz.ntmps18;go_upto_region 1 with fail;generalize (w.alloc (.cells #[.slice aV S.V.length cV,.slice aI S.I.length cI,.slice aO S.O.length cO,.slice aR S.R.length cR] 26 (0,0))).alloc (.cells #[.int .i64 0,.int .i64 0] 32 (0,0))=w1 at b1 kS kF ⊢;have jD:=zBM kS;have pa:=zBM kF;have s0:=coQ kS 0;have s1:=coQ kS 1;have s2:=coQ kS 2;have s3:=coQ kS 3;simp at s0 s1 s2 s3;go_wp2_with fail;refine (headOf_any (HS.out _ b1)).mono ?_;rintro e w2 ⟨hc,ha,rfl,ud,b2⟩;have B2:=b2;have bf:Below w2.heap.size w2 (w2.alloc (.cells #[.int .i64 hc,.int .i64 ha] 32 (0,0))):=(Below.refl _ _).alloc zBR _;have kQ:=zBO w2 (.cells #[.int .i64 hc,.int .i64 ha] 32 (0,0));have B3:=b2.trans (bf.mono b2.size);clear s0 s1 s2 s3;have tz:=zBK ud;clear ud;go_upto_region 2 with fail;generalize w2.alloc (.cells #[.int .i64 hc,.int .i64 ha] 32 (0,0))=w3 at bf kQ B3 ⊢;have fG:=(B3.block _ jD).trans kS;have fC:=(B3.block _ pa).trans kF;have q0:=coQ kQ 0;have q1:=coQ kQ 1;simp at q0 q1;by_cases hz:hc=0
 case neg=>
  have Ec:(hc != 0)=true:=(by simp [hz]);have B4:=b1.trans (B3.mono b1.size);have dJ:=coQ fC 0;have dK:=coQ fC 1;have gJ:=foQ fC 0;have gK:=foQ fC 1;simp at dJ dK;have KE:=zBQ (zBQ fC 0 (.int .i64 (hc))) 1 (.int .i64 (ha));have BE:=(B4.setCell (p:=⟨w.heap.size+1,0,none⟩) (by show w.heap.size<=w.heap.size+1;omega) (.int .i64 (hc))).setCell (p:=⟨w.heap.size+1,1,none⟩) (by show w.heap.size<=w.heap.size+1;omega) (.int .i64 (ha));have t0:=coQ KE 0;have t1:=coQ KE 1;simp at t0 t1;have aQ:=zBK (show FaultPost w S (.returned (.agg #[.int .i64 (hc),.int .i64 (ha)])) _ from ⟨hc,ha,rfl,⟨fun h=>absurd h hz,fun hk=>absurd (tz.out.2 ⟨hk.1.nV,hk.1.nI,hk.1.nO,hk.1.nR,hk.1.vars,hk.1.ins,hk.1.insN,hk.1.outs⟩) hz⟩,BE⟩);clear KE BE;go_wp2;exact bodyPost_ret (v:=.agg #[.int .i64 (hc),.int .i64 (ha)]) (by simp [results,Tryz.results18,go_sem,t0,t1]) rfl aQ.out
 case pos=>
  subst hz;have hd:=tz.out.1 rfl;have nR:=hd.nR;have nO:=hd.nO;have HD:=zBK hd;clear hd tz b2 B2 bf;go_wp2_with fail;clear q0 q1 kQ;go_loopg [4] S.R.length (fun kk v4 wr=>∃ (i:Nat),i<=S.R.length/\kk=S.R.length-i/\v4=.int .i64 (i:Nat)/\Hid (Sk.AllR S (S.R.take i))/\Below w1.heap.size w1 wr)
  case atStart=>exact ⟨0,Nat.zero_le _,rfl,rfl,zBK (Sk.AllR.nil S),B3⟩
  case round=>
   clear B3 fG fC;obtain ⟨i,hi,rfl,rfl,eI,aH⟩:=hrel;have ep:=(aH.block _ jD).trans kS;have dE:=(aH.block _ pa).trans kF;have Br:=b1.trans (aH.mono b1.size);have s3:=coQ ep 3;simp at s3;by_cases bd:i<S.R.length
   case pos=>
    obtain ⟨ao,cp,e1,-,-,bo⟩:=(HS.out _ Br).R.at;injection e1 with q1 q2 q3;obtain ⟨bR,oR,y,fU,yR,iT,dA⟩:=bo i bd;rw [fU] at q1;subst q1;have il:=mh.out S.R[i] (List.getElem_mem bd);have pC:=zBK (show S.R.take (i+1)=S.R.take i++[S.R[i]] from List.take_succ_eq_append_getElem bd);have vr:=zBK (show Sk.OkayD S->(((0<=(S.R[i]).out/\(S.R[i]).out<(S.V.length:Int))/\(S.R[i]).out ∉ S.I)/\Sk.RuOk S.V S.R[i])/\(S.R[i]).E.length<=24/\(S.R[i]).out ∉ (S.R.take i).map (·.out) from fun hk=>hk.rule bd);generalize S.R[i]=r at iT dA il pC vr;obtain ⟨op,k,out,x,A,E⟩:=r;have mi:=zBK (show Sk.OkayD S->(((0<=out/\out<(S.V.length:Int))/\out ∉ S.I)/\Sk.RuOk S.V ⟨op,k,out,x,A,E⟩)/\E.length<=24/\out ∉ (S.R.take i).map (·.out) from vr.out);clear vr;obtain ⟨aA,nA,cA,aE,nE,cE⟩:=y;obtain ⟨d0,d1,d2,d3,d4,d5⟩:=iT
    dsimp only at d0 d1 d2 d3 d4 d5 il
    have lH:=dA.A;have nU:=dA.E
    dsimp only at lH nU
    obtain ⟨AO,pJ,pK,-,-,-⟩:=lH.at;injection pK with e1 e2 e3;subst e1 e2 e3;obtain ⟨FP,we,wk,tN,tP,-⟩:=nU.at;injection wk with e1 e2 e3;subst e1 e2 e3;unfold maxLen at tP;have bA:Below wr.heap.size wr (wr.alloc (.cells #[.int .i64 op,.int .i64 k,.int .i64 out,.int .i64 x,.slice aA A.length cA,.slice aE E.length cE] 42 (0,0))):=(Below.refl _ _).alloc zBR _;have kR:=zBO wr (.cells #[.int .i64 op,.int .i64 k,.int .i64 out,.int .i64 x,.slice aA A.length cA,.slice aE E.length cE] 42 (0,0));have BA:=aH.trans (bA.mono aH.size);have vA:=zBK (fun (W:World) (hW:Below wr.heap.size wr W)=>And.intro (lH.under hW) (nU.under hW));have vh:=zBK il;have ko:=zBK (fun (W:World) (hW:Below wr.heap.size wr W)=>(HS.out W (Br.trans (hW.mono Br.size))));clear bo q2 q3 fU dA lH nU il;go_upto_region 8 with fail;generalize wr.alloc (.cells #[.int .i64 op,.int .i64 k,.int .i64 out,.int .i64 x,.slice aA A.length cA,.slice aE E.length cE] 42 (0,0))=wa at bA kR BA ⊢;clear d0 d1 d2 d3 d4 d5 s3;have yR:=zBM kR;have mD:=(BA.block _ jD).trans kS;have s9:=(BA.block _ pa).trans kF;have Ba:=b1.trans (BA.mono b1.size);have s0:=coQ mD 0;have s1:=coQ mD 1;have s2:=coQ mD 2;have s3:=coQ mD 3;have r0:=coQ kR 0;have r1:=coQ kR 1;have r2:=coQ kR 2;have r3:=coQ kR 3;have r4:=coQ kR 4;have r5:=coQ kR 5;simp at s0 s1 s2 s3 r0 r1 r2 r3 r4 r5;by_cases uo:out<0
    case pos=>
     have bQ:=zBK (show ¬Sk.OkayD S from fun hk=>by have h7:=(mi.out hk).1.1.1;omega);go_wp2_with fail;refine (zBZ (16) ((i:Int)) wa).mono ?_;rintro e wz ⟨rfl,bz⟩;have aZ:=(bz.block _ (zBM s9)).trans s9;have BZ:=Ba.trans (bz.mono Ba.size);have dJ:=coQ aZ 0;have dK:=coQ aZ 1;have gJ:=foQ aZ 0;have gK:=foQ aZ 1;simp at dJ dK;have KE:=zBQ (zBQ aZ 0 (.int .i64 (16))) 1 (.int .i64 ((i:Int)));have BE:=(BZ.setCell (p:=⟨w.heap.size+1,0,none⟩) (by show w.heap.size<=w.heap.size+1;omega) (.int .i64 (16))).setCell (p:=⟨w.heap.size+1,1,none⟩) (by show w.heap.size<=w.heap.size+1;omega) (.int .i64 ((i:Int)));have t0:=coQ KE 0;have t1:=coQ KE 1;simp at t0 t1;have aQ:=zBK (show FaultPost w S (.returned (.agg #[.int .i64 (16),.int .i64 ((i:Int))])) _ from ⟨16,(i:Int),rfl,⟨fun h=>absurd h (by decide),fun h=>absurd h bQ.out⟩,BE⟩);clear KE BE;go_wp2;exact bodyPost_ret (v:=.agg #[.int .i64 (16),.int .i64 ((i:Int))]) (by simp [results,Tryz.results18,go_sem,t0,t1]) rfl aQ.out
    case neg=>
     by_cases rr:(S.V.length:Int)<=out
     case pos=>
      have bQ:=zBK (show ¬Sk.OkayD S from fun hk=>by have h7:=(mi.out hk).1.1.1;omega);go_wp2_with fail;refine (zBZ (16) ((i:Int)) wa).mono ?_;rintro e wz ⟨rfl,bz⟩;have aZ:=(bz.block _ (zBM s9)).trans s9;have BZ:=Ba.trans (bz.mono Ba.size);have dJ:=coQ aZ 0;have dK:=coQ aZ 1;have gJ:=foQ aZ 0;have gK:=foQ aZ 1;simp at dJ dK;have KE:=zBQ (zBQ aZ 0 (.int .i64 (16))) 1 (.int .i64 ((i:Int)));have BE:=(BZ.setCell (p:=⟨w.heap.size+1,0,none⟩) (by show w.heap.size<=w.heap.size+1;omega) (.int .i64 (16))).setCell (p:=⟨w.heap.size+1,1,none⟩) (by show w.heap.size<=w.heap.size+1;omega) (.int .i64 ((i:Int)));have t0:=coQ KE 0;have t1:=coQ KE 1;simp at t0 t1;have aQ:=zBK (show FaultPost w S (.returned (.agg #[.int .i64 (16),.int .i64 ((i:Int))])) _ from ⟨16,(i:Int),rfl,⟨fun h=>absurd h (by decide),fun h=>absurd h bQ.out⟩,BE⟩);clear KE BE;go_wp2;exact bodyPost_ret (v:=.agg #[.int .i64 (16),.int .i64 ((i:Int))]) (by simp [results,Tryz.results18,go_sem,t0,t1]) rfl aQ.out
     case neg=>
      have LA:0<=out/\out<(S.V.length:Int):=(by omega);have iG:=zBK (fun (W:World) (hW:Below wa.heap.size wa W)=>zBr out (ko.out W (bA.trans (hW.mono bA.size))).I);have od:=zBK (fun (W:World) (hW:Below wa.heap.size wa W)=>zAt (ko.out W (bA.trans (hW.mono bA.size))) i (Nat.le_of_lt bd) (by omega));have km:=zBK (fun (W:World) (v:Value) (B:Nat) (h:OwnL kInt B W v ((S.R.take i).map (·.out)))=>zBr out (zBj h.row));obtain ⟨q1,bm⟩:=nmQ (S.I.any (fun z=>z==out));obtain ⟨q2,aY⟩:=nmQ (((S.R.take i).map (·.out)).any (fun z=>z==out));rw [<-bm] at iG;rw [<-aY] at km;have ib:=zBK bm;have eK:=zBK aY;have yS:=zBM mD;clear bm aY;go_upto_region 10 with fail;have aM:=zBK (fun (wz:World) (hSw:Below wa.heap.size wa wz)=>And.intro ((hSw.cell (p:=⟨w.heap.size,0,none⟩) yS).trans s0) (And.intro ((hSw.cell (p:=⟨w.heap.size,1,none⟩) yS).trans s1) (And.intro ((hSw.cell (p:=⟨w.heap.size,2,none⟩) yS).trans s2) (And.intro ((hSw.cell (p:=⟨w.heap.size,3,none⟩) yS).trans s3) (And.intro ((hSw.cell (p:=⟨wr.heap.size,0,none⟩) yR).trans r0) (And.intro ((hSw.cell (p:=⟨wr.heap.size,2,none⟩) yR).trans r2) (And.intro ((hSw.cell (p:=⟨wr.heap.size,4,none⟩) yR).trans r4) ((hSw.cell (p:=⟨wr.heap.size,5,none⟩) yR).trans r5))))))));refine zBP (fun w'=>Below wa.heap.size wa w') (fun _=>false) (by kernel_rfl) ?_;have ab:Below wa.heap.size wa wa.drew:=(Below.refl _ _).drew;generalize wa.drew=ag at ab ⊢;refine' tkR 0 44 ab ?o1
      refine' tkQ 1 45 ab ?hyv ?o2
      case hyv=>
       intro wz hSw;have bk:=aM.out wz hSw;go_simp
       try rfl
      try simp only [Act.put,sT,sZ,sS]
      refine' tkR 2 46 ab ?o3
      refine' tkQ 3 47 ab ?hyv ?o4
      case hyv=>
       intro wz hSw;have bk:=aM.out wz hSw;go_simp
       try rfl
      try simp only [Act.put,sT,sZ,sS]
      refine tnQ 4 (fun K hK=>?_);go_simp;refine (iG.out ag ab).mono ?_;rintro eq aw ⟨rfl,cY⟩;have af:Below wa.heap.size wa aw:=ab.trans (cY.mono ab.size);refine hK.out _ _ (fun _=>af) ?_;clear hK K
      try simp only [Act.put,sT,sZ,sS]
      refine' tkR 5 49 af ?o5
      cases q1
      case false=>
       refine' tkQ 6 50 af ?hyv ?o6
       case hyv=>
        intro wz hSw;have bk:=aM.out wz hSw;go_simp
        try rfl
       try simp only [Act.put,sT,sZ,sS]
       refine' tkR 7 51 af ?o7
       refine' tkR 9 53 af ?o8
       refine' tkQ 10 54 af ?hyv ?o9
       case hyv=>
        intro wz hSw;have bk:=aM.out wz hSw;go_simp
        try rfl
       try simp only [Act.put,sT,sZ,sS]
       refine tnQ 8 (fun K hK=>?_);go_simp;refine (od.out aw af).mono ?_;rintro eq aJ ⟨RC,rfl,G0,dz⟩;have ay:Below wa.heap.size wa aJ:=af.trans (dz.mono af.size);refine hK.out _ _ (fun _=>ay) ?_;clear hK K
       try simp only [Act.put,sT,sZ,sS]
       refine tnQ 11 (fun K hK=>?_);go_simp;refine (km.out aJ _ _ G0).mono ?_;rintro eq bF ⟨rfl,fJ⟩;have aD:Below wa.heap.size wa bF:=ay.trans (fJ.mono ay.size);refine hK.out _ _ (fun _=>aD) ?_;clear hK K
       try simp only [Act.put,sT,sZ,sS]
       refine' tkR 12 56 aD ?o10
       refine zBN (by kernel_rfl) ?_ _;obtain ⟨w4,gm⟩:∃ wx,wx=bF:=⟨_,rfl⟩;subst gm;have b4:=aD;have ir:=(b4.block _ (zBM mD)).trans mD;have lg:=(b4.block _ (zBM kR)).trans kR;have gH:=(b4.block _ (zBM s9)).trans s9;have tq:=BA.trans (b4.mono BA.size);have B4:=b1.trans (tq.mono b1.size);have AP:=bA.trans (b4.mono bA.size)
       cases q2
       case true=>
        have bQ:=zBK (show ¬Sk.OkayD S from fun hk=>(mi.out hk).2.2 (zBw.1 eK.out.symm));go_wp2_with fail;refine (zBZ (8) ((i:Int)) w4).mono ?_;rintro e wz ⟨rfl,bz⟩;have aZ:=(bz.block _ (zBM gH)).trans gH;have BZ:=B4.trans (bz.mono B4.size);have dJ:=coQ aZ 0;have dK:=coQ aZ 1;have gJ:=foQ aZ 0;have gK:=foQ aZ 1;simp at dJ dK;have KE:=zBQ (zBQ aZ 0 (.int .i64 (8))) 1 (.int .i64 ((i:Int)));have BE:=(BZ.setCell (p:=⟨w.heap.size+1,0,none⟩) (by show w.heap.size<=w.heap.size+1;omega) (.int .i64 (8))).setCell (p:=⟨w.heap.size+1,1,none⟩) (by show w.heap.size<=w.heap.size+1;omega) (.int .i64 ((i:Int)));have t0:=coQ KE 0;have t1:=coQ KE 1;simp at t0 t1;have aQ:=zBK (show FaultPost w S (.returned (.agg #[.int .i64 (8),.int .i64 ((i:Int))])) _ from ⟨8,(i:Int),rfl,⟨fun h=>absurd h (by decide),fun h=>absurd h bQ.out⟩,BE⟩);clear KE BE;go_wp2;exact bodyPost_ret (v:=.agg #[.int .i64 (8),.int .i64 ((i:Int))]) (by simp [results,Tryz.results18,go_sem,t0,t1]) rfl aQ.out
       case false=>
        clear s0 s1 s2 s3 r0 r1 r2 r3 r4 r5 yS yR;have s0:=coQ ir 0;have s1:=coQ ir 1;have s2:=coQ ir 2;have s3:=coQ ir 3;have r0:=coQ lg 0;have r1:=coQ lg 1;have r2:=coQ lg 2;have r3:=coQ lg 3;have r4:=coQ lg 4;have r5:=coQ lg 5;simp at s0 s1 s2 s3 r0 r1 r2 r3 r4 r5;have yS:=zBM ir;have yR:=zBM lg;have xr:out ∉ S.I:=fun hm=>by have h6:=zBw.2 hm;rw [<-ib.out] at h6;cases h6
        have oJ:out ∉ (S.R.take i).map (·.out):=fun hm=>by have h6:=zBw.2 hm;rw [<-eK.out] at h6;cases h6
        have Fu:=zBK (fun (W:World)=>parts29_any op W);obtain ⟨pd,Ha⟩:=nmQ (Sk.partsD op);rw [<-Ha] at Fu;obtain ⟨q3,da⟩:=nmQ (decide (pd<0));obtain ⟨q4,fx⟩:=nmQ ((pd != (A.length:Int)));have HP:=zBK Ha;have ja:=zBK da;have qW:=zBK fx;clear Ha da fx iG km od mD kR s9 BA Ba;go_upto_region 12 with fail;have aM:=zBK (fun (wz:World) (hSw:Below w4.heap.size w4 wz)=>And.intro ((hSw.cell (p:=⟨w.heap.size,0,none⟩) yS).trans s0) (And.intro ((hSw.cell (p:=⟨w.heap.size,1,none⟩) yS).trans s1) (And.intro ((hSw.cell (p:=⟨w.heap.size,2,none⟩) yS).trans s2) (And.intro ((hSw.cell (p:=⟨w.heap.size,3,none⟩) yS).trans s3) (And.intro ((hSw.cell (p:=⟨wr.heap.size,0,none⟩) yR).trans r0) (And.intro ((hSw.cell (p:=⟨wr.heap.size,2,none⟩) yR).trans r2) (And.intro ((hSw.cell (p:=⟨wr.heap.size,4,none⟩) yR).trans r4) ((hSw.cell (p:=⟨wr.heap.size,5,none⟩) yR).trans r5))))))));refine zBP (fun w'=>Below w4.heap.size w4 w') (fun _=>false) (by kernel_rfl) ?_;have ab:Below w4.heap.size w4 w4.drew:=(Below.refl _ _).drew;generalize w4.drew=ag at ab ⊢;refine' tkR 0 59 ab ?o11
        refine' tkQ 1 60 ab ?hyv ?o12
        case hyv=>
         intro wz hSw;have bk:=aM.out wz hSw;go_simp
         try rfl
        try simp only [Act.put,sT,sZ,sS]
        refine tnQ 2 (fun K hK=>?_);go_simp;refine (Fu.out ag).mono ?_;rintro eq aw ⟨rfl,cY⟩;have af:Below w4.heap.size w4 aw:=ab.trans (cY.mono ab.size);refine hK.out _ _ (fun _=>af) ?_;clear hK K
        try simp only [Act.put,sT,sZ,sS]
        refine' zBS (i:=3) (oi:=⟨some 62,_,_,_,_,_⟩) (v:=.bool q3) rfl (by kernel_rfl) (by kernel_rfl) (by kernel_rfl) (by kernel_rfl) (fun _ _ _ h=>h) af (by rfl) ?hyv ?o13
        case hyv=>
         intro wz hSw;go_simp;rw [ja.out]
         try rfl
        try simp only [Act.put,sT,sZ,sS]
        refine' tkR 4 63 af ?o14
        cases q3
        case false=>
         refine' tkR 5 64 af ?o15
         refine' tkQ 6 65 af ?hyv ?o16
         case hyv=>
          intro wz hSw;have bk:=aM.out wz hSw;go_simp
          try rfl
         try simp only [Act.put,sT,sZ,sS]
         refine' tkR 8 67 af ?o17
         refine' tkQ 9 68 af ?hyv ?o18
         case hyv=>
          intro wz hSw;have bk:=aM.out wz hSw;go_simp
          try rfl
         try simp only [Act.put,sT,sZ,sS]
         refine' tkR 10 69 af ?o19
         refine tnQ 7 (fun K hK=>?_);go_simp;refine (Fu.out aw).mono ?_;rintro eq aJ ⟨rfl,dz⟩;have ay:Below w4.heap.size w4 aJ:=af.trans (dz.mono af.size);refine hK.out _ _ (fun _=>ay) ?_;clear hK K
         try simp only [Act.put,sT,sZ,sS]
         refine' zBS (i:=11) (oi:=⟨some 70,_,_,_,_,_⟩) (v:=.bool q4) rfl (by kernel_rfl) (by kernel_rfl) (by kernel_rfl) (by kernel_rfl) (fun _ _ _ h=>h) ay (by rfl) ?hyv ?o20
         case hyv=>
          intro wz hSw;go_simp;rw [qW.out]
          try rfl
         try simp only [Act.put,sT,sZ,sS]
         refine' tkR 12 71 ay ?o21
         refine zBN (by kernel_rfl) ?_ _;obtain ⟨w5,gm⟩:∃ wx,wx=aJ:=⟨_,rfl⟩;subst gm;have b5:=ay;have iN:=(b5.block _ (zBM ir)).trans ir;have dT:=(b5.block _ (zBM lg)).trans lg;have jB:=(b5.block _ (zBM gH)).trans gH;have zJ:=tq.trans (b5.mono tq.size);have B5:=b1.trans (zJ.mono b1.size);have AQ:=AP.trans (b5.mono AP.size)
         cases q4
         case true=>
          have bQ:=zBK (show ¬Sk.OkayD S from fun hk=>by have h7:=Sk.form_parts (mi.out hk).1.2.form;have h1:=qW.out;rw [HP.out] at h1;simp at h1;exact h1 h7.2);go_wp2_with fail;refine (zBZ (4) ((i:Int)) w5).mono ?_;rintro e wz ⟨rfl,bz⟩;have aZ:=(bz.block _ (zBM jB)).trans jB;have BZ:=B5.trans (bz.mono B5.size);have dJ:=coQ aZ 0;have dK:=coQ aZ 1;have gJ:=foQ aZ 0;have gK:=foQ aZ 1;simp at dJ dK;have KE:=zBQ (zBQ aZ 0 (.int .i64 (4))) 1 (.int .i64 ((i:Int)));have BE:=(BZ.setCell (p:=⟨w.heap.size+1,0,none⟩) (by show w.heap.size<=w.heap.size+1;omega) (.int .i64 (4))).setCell (p:=⟨w.heap.size+1,1,none⟩) (by show w.heap.size<=w.heap.size+1;omega) (.int .i64 ((i:Int)));have t0:=coQ KE 0;have t1:=coQ KE 1;simp at t0 t1;have aQ:=zBK (show FaultPost w S (.returned (.agg #[.int .i64 (4),.int .i64 ((i:Int))])) _ from ⟨4,(i:Int),rfl,⟨fun h=>absurd h (by decide),fun h=>absurd h bQ.out⟩,BE⟩);clear KE BE;go_wp2;exact bodyPost_ret (v:=.agg #[.int .i64 (4),.int .i64 ((i:Int))]) (by simp [results,Tryz.results18,go_sem,t0,t1]) rfl aQ.out
         case false=>
          clear s0 s1 s2 s3 r0 r1 r2 r3 r4 r5 yS yR;have s0:=coQ iN 0;have s1:=coQ iN 1;have s2:=coQ iN 2;have s3:=coQ iN 3;have r0:=coQ dT 0;have r1:=coQ dT 1;have r2:=coQ dT 2;have r3:=coQ dT 3;have r4:=coQ dT 4;have r5:=coQ dT 5;simp at s0 s1 s2 s3 r0 r1 r2 r3 r4 r5;have yS:=zBM iN;have yR:=zBM dT;have pg:=zBK (show Sk.hasForm op A.length=true from Sk.parts_form (by have h1:=ja.out;rw [HP.out] at h1;simpa using h1.symm) (by have h1:=qW.out;rw [HP.out] at h1;simpa using h1.symm));by_cases hE24:24<E.length
          case pos=>
           have A2:(24:Int)<(E.length:Int):=(by omega);have bQ:=zBK (show ¬Sk.OkayD S from fun hk=>by have h7:=(mi.out hk).2.1;omega);go_wp2_with fail;refine (zBZ (7) ((i:Int)) w5).mono ?_;rintro e wz ⟨rfl,bz⟩;have aZ:=(bz.block _ (zBM jB)).trans jB;have BZ:=B5.trans (bz.mono B5.size);have dJ:=coQ aZ 0;have dK:=coQ aZ 1;have gJ:=foQ aZ 0;have gK:=foQ aZ 1;simp at dJ dK;have KE:=zBQ (zBQ aZ 0 (.int .i64 (7))) 1 (.int .i64 ((i:Int)));have BE:=(BZ.setCell (p:=⟨w.heap.size+1,0,none⟩) (by show w.heap.size<=w.heap.size+1;omega) (.int .i64 (7))).setCell (p:=⟨w.heap.size+1,1,none⟩) (by show w.heap.size<=w.heap.size+1;omega) (.int .i64 ((i:Int)));have t0:=coQ KE 0;have t1:=coQ KE 1;simp at t0 t1;have aQ:=zBK (show FaultPost w S (.returned (.agg #[.int .i64 (7),.int .i64 ((i:Int))])) _ from ⟨7,(i:Int),rfl,⟨fun h=>absurd h (by decide),fun h=>absurd h bQ.out⟩,BE⟩);clear KE BE;go_wp2;exact bodyPost_ret (v:=.agg #[.int .i64 (7),.int .i64 ((i:Int))]) (by simp [results,Tryz.results18,go_sem,t0,t1]) rfl aQ.out
          case neg=>
           have A2:¬(24:Int)<(E.length:Int):=(by omega);have fo:E.length<=24:=(by omega);go_wp2_with fail;refine (zCg (op:=op) (k:=k) (out:=out) (n:=x) (vA.out _ AQ).1 (vA.out _ AQ).2 vh.out.1 vh.out.2).mono ?_;rintro e w6 ⟨uv,rfl,sU,JN⟩;have b6:=JN;have oX:=(b6.block _ (zBM iN)).trans iN;have L8:=(b6.block _ (zBM dT)).trans dT;have gq:=(b6.block _ (zBM jB)).trans jB;have En:=zJ.trans (b6.mono zJ.size);have B6:=b1.trans (En.mono b1.size);have JO:=AQ.trans (b6.mono AQ.size);clear JN ir lg gH tq B4 iN dT jB B5;obtain ⟨U,hU⟩:=nmQ (usesT A (Sk.ownE op E));rw [<-hU] at sU;have HU:=zBK hU;have FI:=zBK (sU.wide (ok':=fun i=>i<w6.heap.size) fun i _ h=>h);obtain ⟨ua,uc,rfl,lL,j8,-⟩:=sU.at;unfold maxLen at j8;clear sU hU s0 s1 s2 s3 r0 r1 r2 r3 r4 r5 yS yR;go_wp2_with fail;go_loopg [7] U.length (fun kk v7 wt=>∃ (j:Nat),j<=U.length/\kk=U.length-j/\v7=.int .i64 (j:Nat)/\Hid (∀ z ∈ U.take j,0<=z/\z<(S.V.length:Int))/\Below w6.heap.size w6 wt)
           case atStart=>exact ⟨0,Nat.zero_le _,rfl,rfl,zBK (fun z hz=>by simp at hz),Below.refl _ _⟩
           case round=>
            obtain ⟨j,hj,rfl,rfl,vQ,ow⟩:=hrel;obtain ⟨wt,jA⟩:=nmQ (wr);subst jA;have bt:=ow;have kW:=(bt.block _ (zBM oX)).trans oX;have l8:=(bt.block _ (zBM L8)).trans L8;have jO:=(bt.block _ (zBM gq)).trans gq;have uV:=En.trans (bt.mono En.size);have Bt:=b1.trans (uV.mono b1.size);have se:=JO.trans (bt.mono JO.size);have s0:=coQ kW 0;simp at s0;have yS:=zBM kW;by_cases hjt:j<U.length
            case pos=>
             obtain ⟨vX,DH,e2,-,-,bg⟩:=(FI.out.under ow).at;injection e2 with z1 z2 z3;obtain ⟨bU,oU,tU,yU,xU⟩:=bg j hjt;rw [tU] at z1;subst z1;have qQ:=zBK (fun (h:0<=U[j]/\U[j]<(S.V.length:Int))=>qS (P:=fun z=>0<=z/\z<(S.V.length:Int)) hjt vQ.out h);have rQ:=zBK (show Sk.OkayD S->0<=U[j]/\U[j]<(S.V.length:Int) from fun hk=>(mi.out hk).1.2.uses _ (show U[j] ∈ usesT A (Sk.ownE op E) by rw [<-HU.out];exact List.getElem_mem hjt));generalize U[j]=z at xU qQ rQ;obtain ⟨q5,gz⟩:=nmQ (decide (z<0));obtain ⟨q6,iK⟩:=nmQ (decide (z≥(S.V.length:Int)));have vz:=zBK gz;have Fv:=zBK iK;clear bg z2 z3 tU gz iK vQ;go_upto_region 20 with fail;have aM:=zBK (fun (wz:World) (hSw:Below wt.heap.size wt wz)=>And.intro ((hSw.cell (p:=⟨w.heap.size,0,none⟩) yS).trans s0) ((hSw.cell (p:=⟨bU,oU+j,none⟩) yU).trans xU));refine zBP (fun w'=>Below wt.heap.size wt w') (fun _=>false) (by kernel_rfl) ?_;have ab:Below wt.heap.size wt wt.drew:=(Below.refl _ _).drew;generalize wt.drew=ag at ab ⊢;refine' tkR 0 88 ab ?o22
             refine' tkR 1 89 ab ?o23
             refine' tkR 2 90 ab ?o24
             refine' tkQ 3 91 ab ?hyv ?o25
             case hyv=>
              intro wz hSw;have bk:=aM.out wz hSw;go_simp
              try rfl
             try simp only [Act.put,sT,sZ,sS]
             refine' zBS (i:=4) (oi:=⟨some 92,_,_,_,_,_⟩) (v:=.bool q5) rfl (by kernel_rfl) (by kernel_rfl) (by kernel_rfl) (by kernel_rfl) (fun _ _ _ h=>h) ab (by rfl) ?hyv ?o26
             case hyv=>
              intro wz hSw;go_simp;rw [vz.out]
              try rfl
             try simp only [Act.put,sT,sZ,sS]
             refine' tkR 5 93 ab ?o27
             cases q5
             case false=>
              refine' tkR 6 94 ab ?o28
              refine' tkR 7 95 ab ?o29
              refine' tkR 8 96 ab ?o30
              refine' tkQ 9 97 ab ?hyv ?o31
              case hyv=>
               intro wz hSw;have bk:=aM.out wz hSw;go_simp
               try rfl
              try simp only [Act.put,sT,sZ,sS]
              refine' tkR 10 98 ab ?o32
              refine' tkQ 11 99 ab ?hyv ?o33
              case hyv=>
               intro wz hSw;have bk:=aM.out wz hSw;go_simp
               try rfl
              try simp only [Act.put,sT,sZ,sS]
              refine' tkR 12 100 ab ?o34
              refine' zBS (i:=13) (oi:=⟨some 101,_,_,_,_,_⟩) (v:=.bool q6) rfl (by kernel_rfl) (by kernel_rfl) (by kernel_rfl) (by kernel_rfl) (fun _ _ _ h=>h) ab (by rfl) ?hyv ?o35
              case hyv=>
               intro wz hSw;go_simp;rw [Fv.out]
               try rfl
              try simp only [Act.put,sT,sZ,sS]
              refine' tkR 14 102 ab ?o36
              refine zBN (by kernel_rfl) ?_ _;obtain ⟨wu,gm⟩:∃ wx,wx=ag:=⟨_,rfl⟩;subst gm;have bu:=ab;have PR:=(bu.block _ (zBM kW)).trans kW;have kRu:=(bu.block _ (zBM l8)).trans l8;have nZ:=(bu.block _ (zBM jO)).trans jO;have Eo:=uV.trans (bu.mono uV.size);have Bu:=b1.trans (Eo.mono b1.size);have Nt:=se.trans (bu.mono se.size)
              cases q6
              case true=>
               have bQ:=zBK (show ¬Sk.OkayD S from fun hk=>by have h1:=Fv.out;have h2:=rQ.out hk;simp at h1;omega);go_wp2_with fail;refine (zBZ (16) ((i:Int)) wu).mono ?_;rintro e wz ⟨rfl,bz⟩;have aZ:=(bz.block _ (zBM nZ)).trans nZ;have BZ:=Bu.trans (bz.mono Bu.size);have dJ:=coQ aZ 0;have dK:=coQ aZ 1;have gJ:=foQ aZ 0;have gK:=foQ aZ 1;simp at dJ dK;have KE:=zBQ (zBQ aZ 0 (.int .i64 (16))) 1 (.int .i64 ((i:Int)));have BE:=(BZ.setCell (p:=⟨w.heap.size+1,0,none⟩) (by show w.heap.size<=w.heap.size+1;omega) (.int .i64 (16))).setCell (p:=⟨w.heap.size+1,1,none⟩) (by show w.heap.size<=w.heap.size+1;omega) (.int .i64 ((i:Int)));have t0:=coQ KE 0;have t1:=coQ KE 1;simp at t0 t1;have aQ:=zBK (show FaultPost w S (.returned (.agg #[.int .i64 (16),.int .i64 ((i:Int))])) _ from ⟨16,(i:Int),rfl,⟨fun h=>absurd h (by decide),fun h=>absurd h bQ.out⟩,BE⟩);clear KE BE;go_wp2;exact bodyPost_ret (v:=.agg #[.int .i64 (16),.int .i64 ((i:Int))]) (by simp [results,Tryz.results18,go_sem,t0,t1]) rfl aQ.out
              case false=>
               have lT:=zBK (qQ.out (by
                have h1:=vz.out;have h2:=Fv.out;simp at h1 h2;exact ⟨h1,h2⟩))
               have BX:=ow.trans (bu.mono ow.size);go_wp2_with fail;go_roundg (U.length-(j+1))
               case measure=>omega
               case rel=>exact ⟨j+1,by omega,rfl,by go_num,lT,BX⟩
             case true=>
              refine' tsQ 6 94 ab ?_
              refine' tsQ 7 95 ab ?_
              refine' tsQ 8 96 ab ?_
              refine' tsQ 9 97 ab ?_
              refine' tsQ 10 98 ab ?_
              refine' tsQ 11 99 ab ?_
              refine' tsQ 12 100 ab ?_
              refine' tsQ 13 101 ab ?_
              refine' tkR 14 102 ab ?o37
              refine zBN (by kernel_rfl) ?_ _;obtain ⟨wu,gm⟩:∃ wx,wx=ag:=⟨_,rfl⟩;subst gm;have bu:=ab;have PR:=(bu.block _ (zBM kW)).trans kW;have kRu:=(bu.block _ (zBM l8)).trans l8;have nZ:=(bu.block _ (zBM jO)).trans jO;have Eo:=uV.trans (bu.mono uV.size);have Bu:=b1.trans (Eo.mono b1.size);have Nt:=se.trans (bu.mono se.size);have bQ:=zBK (show ¬Sk.OkayD S from fun hk=>by have h1:=vz.out;have h2:=rQ.out hk;simp at h1;omega);go_wp2_with fail;refine (zBZ (16) ((i:Int)) wu).mono ?_;rintro e wz ⟨rfl,bz⟩;have aZ:=(bz.block _ (zBM nZ)).trans nZ;have BZ:=Bu.trans (bz.mono Bu.size);have dJ:=coQ aZ 0;have dK:=coQ aZ 1;have gJ:=foQ aZ 0;have gK:=foQ aZ 1;simp at dJ dK;have KE:=zBQ (zBQ aZ 0 (.int .i64 (16))) 1 (.int .i64 ((i:Int)));have BE:=(BZ.setCell (p:=⟨w.heap.size+1,0,none⟩) (by show w.heap.size<=w.heap.size+1;omega) (.int .i64 (16))).setCell (p:=⟨w.heap.size+1,1,none⟩) (by show w.heap.size<=w.heap.size+1;omega) (.int .i64 ((i:Int)));have t0:=coQ KE 0;have t1:=coQ KE 1;simp at t0 t1;have aQ:=zBK (show FaultPost w S (.returned (.agg #[.int .i64 (16),.int .i64 ((i:Int))])) _ from ⟨16,(i:Int),rfl,⟨fun h=>absurd h (by decide),fun h=>absurd h bQ.out⟩,BE⟩);clear KE BE;go_wp2;exact bodyPost_ret (v:=.agg #[.int .i64 (16),.int .i64 ((i:Int))]) (by simp [results,Tryz.results18,go_sem,t0,t1]) rfl aQ.out
            case neg=>
             have oC:j=U.length:=(by omega);subst oC;have zj:∀ z ∈ usesT A (Sk.ownE op E),0<=z/\z<(S.V.length:Int):=fun z hz=>by have h5:=vQ.out;rw [List.take_length] at h5;exact h5 z (by rw [HU.out];exact hz)
             have Nc:=zBK (zAw (k:=k) (x:=x) (ko.out _ se) HD.out.vars (vA.out _ se).1 (vA.out _ se).2 LA pg.out fo zj);have mm:=zBK zj;clear s0 yS zj;have s0:=coQ kW 0;have s1:=coQ kW 1;have s2:=coQ kW 2;have s3:=coQ kW 3;have r0:=coQ l8 0;have r1:=coQ l8 1;have r2:=coQ l8 2;have r3:=coQ l8 3;have r4:=coQ l8 4;have r5:=coQ l8 5;simp at s0 s1 s2 s3 r0 r1 r2 r3 r4 r5;go_wp2_with fail;refine Nc.out.mono ?_;rintro e wv ⟨tf,rfl,D7,bv⟩;have bv:=bv;have RB:=(bv.block _ (zBM kW)).trans kW;have RA:=(bv.block _ (zBM l8)).trans l8;have L6:=(bv.block _ (zBM jO)).trans jO;have ID:=uV.trans (bv.mono uV.size);have Bv:=b1.trans (ID.mono b1.size);have QJ:=se.trans (bv.mono se.size);clear s0 s1 s2 s3 r0 r1 r2 r3 r4 r5
             cases tf
             case false=>
              have bQ:=zBK (show ¬Sk.OkayD S from fun hk=>by have h7:=(mi.out hk).1.2.fit;rw [D7] at h7;cases h7);clear D7;go_wp2_with fail;refine (zBZ (10) ((i:Int)) wv).mono ?_;rintro e wz ⟨rfl,bz⟩;have aZ:=(bz.block _ (zBM L6)).trans L6;have BZ:=Bv.trans (bz.mono Bv.size);have dJ:=coQ aZ 0;have dK:=coQ aZ 1;have gJ:=foQ aZ 0;have gK:=foQ aZ 1;simp at dJ dK;have KE:=zBQ (zBQ aZ 0 (.int .i64 (10))) 1 (.int .i64 ((i:Int)));have BE:=(BZ.setCell (p:=⟨w.heap.size+1,0,none⟩) (by show w.heap.size<=w.heap.size+1;omega) (.int .i64 (10))).setCell (p:=⟨w.heap.size+1,1,none⟩) (by show w.heap.size<=w.heap.size+1;omega) (.int .i64 ((i:Int)));have t0:=coQ KE 0;have t1:=coQ KE 1;simp at t0 t1;have aQ:=zBK (show FaultPost w S (.returned (.agg #[.int .i64 (10),.int .i64 ((i:Int))])) _ from ⟨10,(i:Int),rfl,⟨fun h=>absurd h (by decide),fun h=>absurd h bQ.out⟩,BE⟩);clear KE BE;go_wp2;exact bodyPost_ret (v:=.agg #[.int .i64 (10),.int .i64 ((i:Int))]) (by simp [results,Tryz.results18,go_sem,t0,t1]) rfl aQ.out
             case true=>
              have Ew:=zBK (show Sk.AllR S (S.R.take (i+1)) by
               rw [pC.out];exact eI.out.snoc LA xr oJ ⟨pg.out,Sk.ownE_le fo,mm.out,D7⟩ fo)
              clear D7;go_wp2_with fail;go_roundg (S.R.length-(i+1))
              case measure=>omega
              case rel=>exact ⟨i+1,by omega,rfl,by go_num,Ew,ID⟩
        case true=>
         refine' tsQ 5 64 af ?_
         refine' tsQ 6 65 af ?_
         refine' tsQ 7 66 af ?_
         refine' tsQ 8 67 af ?_
         refine' tsQ 9 68 af ?_
         refine' tsQ 10 69 af ?_
         refine' tsQ 11 70 af ?_
         refine' tkR 12 71 af ?o38
         refine zBN (by kernel_rfl) ?_ _;obtain ⟨w5,gm⟩:∃ wx,wx=aw:=⟨_,rfl⟩;subst gm;have b5:=af;have iN:=(b5.block _ (zBM ir)).trans ir;have dT:=(b5.block _ (zBM lg)).trans lg;have jB:=(b5.block _ (zBM gH)).trans gH;have zJ:=tq.trans (b5.mono tq.size);have B5:=b1.trans (zJ.mono b1.size);have AQ:=AP.trans (b5.mono AP.size);have bQ:=zBK (show ¬Sk.OkayD S from fun hk=>by have h7:=Sk.form_parts (mi.out hk).1.2.form;have h1:=ja.out;rw [HP.out] at h1;simp at h1;dsimp only at h7;omega);go_wp2_with fail;refine (zBZ (4) ((i:Int)) w5).mono ?_;rintro e wz ⟨rfl,bz⟩;have aZ:=(bz.block _ (zBM jB)).trans jB;have BZ:=B5.trans (bz.mono B5.size);have dJ:=coQ aZ 0;have dK:=coQ aZ 1;have gJ:=foQ aZ 0;have gK:=foQ aZ 1;simp at dJ dK;have KE:=zBQ (zBQ aZ 0 (.int .i64 (4))) 1 (.int .i64 ((i:Int)));have BE:=(BZ.setCell (p:=⟨w.heap.size+1,0,none⟩) (by show w.heap.size<=w.heap.size+1;omega) (.int .i64 (4))).setCell (p:=⟨w.heap.size+1,1,none⟩) (by show w.heap.size<=w.heap.size+1;omega) (.int .i64 ((i:Int)));have t0:=coQ KE 0;have t1:=coQ KE 1;simp at t0 t1;have aQ:=zBK (show FaultPost w S (.returned (.agg #[.int .i64 (4),.int .i64 ((i:Int))])) _ from ⟨4,(i:Int),rfl,⟨fun h=>absurd h (by decide),fun h=>absurd h bQ.out⟩,BE⟩);clear KE BE;go_wp2;exact bodyPost_ret (v:=.agg #[.int .i64 (4),.int .i64 ((i:Int))]) (by simp [results,Tryz.results18,go_sem,t0,t1]) rfl aQ.out
      case true=>
       refine' tsQ 6 50 af ?_
       refine' tsQ 7 51 af ?_
       refine' tsQ 8 52 af ?_
       refine' tsQ 9 53 af ?_
       refine' tsQ 10 54 af ?_
       refine' tsQ 11 55 af ?_
       refine' tkR 12 56 af ?o39
       refine zBN (by kernel_rfl) ?_ _;obtain ⟨w4,gm⟩:∃ wx,wx=aw:=⟨_,rfl⟩;subst gm;have b4:=af;have ir:=(b4.block _ (zBM mD)).trans mD;have lg:=(b4.block _ (zBM kR)).trans kR;have gH:=(b4.block _ (zBM s9)).trans s9;have tq:=BA.trans (b4.mono BA.size);have B4:=b1.trans (tq.mono b1.size);have AP:=bA.trans (b4.mono bA.size);have bQ:=zBK (show ¬Sk.OkayD S from fun hk=>(mi.out hk).1.1.2 (zBw.1 ib.out.symm));go_wp2_with fail;refine (zBZ (8) ((i:Int)) w4).mono ?_;rintro e wz ⟨rfl,bz⟩;have aZ:=(bz.block _ (zBM gH)).trans gH;have BZ:=B4.trans (bz.mono B4.size);have dJ:=coQ aZ 0;have dK:=coQ aZ 1;have gJ:=foQ aZ 0;have gK:=foQ aZ 1;simp at dJ dK;have KE:=zBQ (zBQ aZ 0 (.int .i64 (8))) 1 (.int .i64 ((i:Int)));have BE:=(BZ.setCell (p:=⟨w.heap.size+1,0,none⟩) (by show w.heap.size<=w.heap.size+1;omega) (.int .i64 (8))).setCell (p:=⟨w.heap.size+1,1,none⟩) (by show w.heap.size<=w.heap.size+1;omega) (.int .i64 ((i:Int)));have t0:=coQ KE 0;have t1:=coQ KE 1;simp at t0 t1;have aQ:=zBK (show FaultPost w S (.returned (.agg #[.int .i64 (8),.int .i64 ((i:Int))])) _ from ⟨8,(i:Int),rfl,⟨fun h=>absurd h (by decide),fun h=>absurd h bQ.out⟩,BE⟩);clear KE BE;go_wp2;exact bodyPost_ret (v:=.agg #[.int .i64 (8),.int .i64 ((i:Int))]) (by simp [results,Tryz.results18,go_sem,t0,t1]) rfl aQ.out
   case neg=>
    have bp:i=S.R.length:=(by omega);subst bp;have HAS:=zBK (show Sk.AllR S S.R by have h5:=eI.out;rw [List.take_length] at h5;exact h5);have s0:=coQ ep 0;have s1:=coQ ep 1;have s2:=coQ ep 2;simp at s0 s1 s2;clear eI;go_wp2_with fail;refine (zAt (HS.out _ Br) S.R.length zBR (by omega)).mono ?_;rintro e w4 ⟨mv,rfl,gF,b4⟩;rw [List.take_length] at gF;have B4:=aH.trans (b4.mono aH.size);obtain ⟨ma,mc,rfl,fM,jW⟩:=gF.form;unfold maxLen at jW;have Lv:=zBj gF.row;have HM:=zBK (Lv.wide (ok':=fun i=>i<w4.heap.size) fun i _ h=>h);have Oe:(S.R.map (·.out)).length=S.R.length:=(by simp);obtain ⟨ml,zb⟩:=nmQ ((S.R.map (·.out)).length);rw [<-zb] at HM fM ⊢;clear gF Lv s0 s1 s2 s3 ep dE Br aH Oe zb;go_wp2_with fail;go_loopg [9] S.R.length (fun kk v9 wr=>∃ (i:Nat),i<=S.R.length/\kk=S.R.length-i/\v9=.int .i64 (i:Nat)/\Hid (∀ r ∈ S.R.take i,∀ z ∈ Sk.uses r,z ∈ S.I\/z ∈ S.R.map (·.out))/\Hid (Below w4.heap.size w4 wr)/\Below w1.heap.size w1 wr)
    case atStart=>exact ⟨0,Nat.zero_le _,rfl,rfl,zBK (fun r hr=>by simp at hr),zBK (Below.refl _ _),B4⟩
    case round=>
     clear B4;obtain ⟨i,hi,rfl,rfl,mm,Ez,aH⟩:=hrel;have ep:=(aH.block _ jD).trans kS;have dE:=(aH.block _ pa).trans kF;have Br:=b1.trans (aH.mono b1.size);have s1:=coQ ep 1;have s2:=coQ ep 2;have s3:=coQ ep 3;simp at s1 s2 s3;by_cases bd:i<S.R.length
     case pos=>
      obtain ⟨ao,cp,e1,-,-,bo⟩:=(HS.out _ Br).R.at;injection e1 with q1 q2 q3;obtain ⟨bR,oR,y,fU,yR,iT,dA⟩:=bo i bd;rw [fU] at q1;subst q1;have il:=mh.out S.R[i] (List.getElem_mem bd);have Ad:=zBK (show Sk.OkayD S->∀ z ∈ Sk.uses S.R[i],z ∈ S.I\/z ∈ S.R.map (·.out) from fun hk=>hk.1.used _ (List.getElem_mem bd));have tF:=zBK (fun (h:∀ z ∈ Sk.uses S.R[i],z ∈ S.I\/z ∈ S.R.map (·.out))=>qS (P:=fun r=>∀ z ∈ Sk.uses r,z ∈ S.I\/z ∈ S.R.map (·.out)) bd mm.out h);generalize S.R[i]=r at iT dA il tF Ad;obtain ⟨op,k,out,x,A,E⟩:=r;obtain ⟨aA,nA,cA,aE,nE,cE⟩:=y;obtain ⟨d0,d1,d2,d3,d4,d5⟩:=iT
      dsimp only at d0 d1 d2 d3 d4 d5 il
      have lH:=dA.A;have nU:=dA.E
      dsimp only at lH nU
      have Dd:=zBK (zCg (op:=op) (k:=k) (out:=out) (n:=x) lH nU il.1 il.2);clear bo q2 q3 fU dA lH nU il mm;go_wp2_with fail;refine Dd.out.mono ?_;rintro e w6 ⟨uv,rfl,sU,b6⟩;have B6:=aH.trans (b6.mono aH.size);have IU:=zBK (Ez.out.trans (b6.mono Ez.out.size));obtain ⟨U,hU⟩:=nmQ (usesT A (Sk.ownE op E));rw [<-hU] at sU;have HU:=zBK (show Sk.uses ⟨op,k,out,x,A,E⟩=U from hU.symm);have FI:=zBK (sU.wide (ok':=fun i=>i<w6.heap.size) fun i _ h=>h);obtain ⟨ua,uc,rfl,lL,j8,-⟩:=sU.at;unfold maxLen at j8;clear sU hU s1 s2 s3 d0 d1 d2 d3 d4 d5 Dd;go_wp2_with fail;go_loopg [11] U.length (fun kk v11 wt=>∃ (j:Nat),j<=U.length/\kk=U.length-j/\v11=.int .i64 (j:Nat)/\Hid (∀ z ∈ U.take j,z ∈ S.I\/z ∈ S.R.map (·.out))/\Below w6.heap.size w6 wt)
      case atStart=>exact ⟨0,Nat.zero_le _,rfl,rfl,zBK (fun z hz=>by simp at hz),Below.refl _ _⟩
      case round=>
       obtain ⟨j,hj,rfl,rfl,vQ,ow⟩:=hrel;obtain ⟨wt,jA⟩:=nmQ (wr);subst jA;have BT:=B6.trans (ow.mono B6.size);have kW:=(BT.block _ jD).trans kS;have jO:=(BT.block _ pa).trans kF;have Bt:=b1.trans (BT.mono b1.size);have qL:=zBK (IU.out.trans (ow.mono IU.out.size));have s1:=coQ kW 1;simp at s1;have yS:=zBM kW;by_cases hjt:j<U.length
       case pos=>
        obtain ⟨vX,DH,e2,-,-,bg⟩:=(FI.out.under ow).at;injection e2 with z1 z2 z3;obtain ⟨bU,oU,tU,yU,xU⟩:=bg j hjt;rw [tU] at z1;subst z1;have qQ:=zBK (fun (h:U[j] ∈ S.I\/U[j] ∈ S.R.map (·.out))=>qS (P:=fun z=>z ∈ S.I\/z ∈ S.R.map (·.out)) hjt vQ.out h);have rQ:=zBK (show Sk.OkayD S->U[j] ∈ S.I\/U[j] ∈ S.R.map (·.out) from fun hk=>Ad.out hk _ (by rw [HU.out];exact List.getElem_mem hjt));generalize U[j]=z at xU qQ rQ;have iG:=zBK (fun (W:World) (hW:Below wt.heap.size wt W)=>zBr z (HS.out W (Bt.trans (hW.mono Bt.size))).I);have km:=zBK (fun (W:World) (hW:Below wt.heap.size wt W)=>zBr z (HM.out.under (qL.out.trans (hW.mono qL.out.size))));obtain ⟨q7,xz⟩:=nmQ (S.I.any (fun y=>y==z));obtain ⟨q8,xB⟩:=nmQ ((S.R.map (·.out)).any (fun y=>y==z));rw [<-xz] at iG;rw [<-xB] at km;have Ay:=zBK xz;have Az:=zBK xB;clear bg z2 z3 tU xz xB vQ;go_upto_region 32 with fail;have aM:=zBK (fun (wz:World) (hSw:Below wt.heap.size wt wz)=>And.intro ((hSw.cell (p:=⟨w.heap.size,1,none⟩) yS).trans s1) ((hSw.cell (p:=⟨bU,oU+j,none⟩) yU).trans xU));refine zBP (fun w'=>Below wt.heap.size wt w') (fun _=>false) (by kernel_rfl) ?_;have ab:Below wt.heap.size wt wt.drew:=(Below.refl _ _).drew;generalize wt.drew=ag at ab ⊢;refine' tkR 0 135 ab ?o40
        refine' tkQ 1 136 ab ?hyv ?o41
        case hyv=>
         intro wz hSw;have bk:=aM.out wz hSw;go_simp
         try rfl
        try simp only [Act.put,sT,sZ,sS]
        refine' tkR 2 137 ab ?o42
        refine' tkR 3 138 ab ?o43
        refine' tkR 4 139 ab ?o44
        refine' tkQ 5 140 ab ?hyv ?o45
        case hyv=>
         intro wz hSw;have bk:=aM.out wz hSw;go_simp
         try rfl
        try simp only [Act.put,sT,sZ,sS]
        refine tnQ 6 (fun K hK=>?_);go_simp;refine (iG.out ag ab).mono ?_;rintro eq aw ⟨rfl,cY⟩;have af:Below wt.heap.size wt aw:=ab.trans (cY.mono ab.size);refine hK.out _ _ (fun _=>af) ?_;clear hK K
        try simp only [Act.put,sT,sZ,sS]
        refine' tkR 7 142 af ?o46
        refine' tkR 8 143 af ?o47
        cases q7
        case false=>
         refine' tkR 9 144 af ?o48
         refine' tkR 10 145 af ?o49
         refine' tkR 11 146 af ?o50
         refine' tkR 12 147 af ?o51
         refine' tkQ 13 148 af ?hyv ?o52
         case hyv=>
          intro wz hSw;have bk:=aM.out wz hSw;go_simp
          try rfl
         try simp only [Act.put,sT,sZ,sS]
         refine tnQ 14 (fun K hK=>?_);go_simp;refine (km.out aw af).mono ?_;rintro eq aJ ⟨rfl,dz⟩;have ay:Below wt.heap.size wt aJ:=af.trans (dz.mono af.size);refine hK.out _ _ (fun _=>ay) ?_;clear hK K
         try simp only [Act.put,sT,sZ,sS]
         refine' tkR 15 150 ay ?o53
         refine' tkR 16 151 ay ?o54
         refine zBN (by kernel_rfl) ?_ _;obtain ⟨wu,gm⟩:∃ wx,wx=aJ:=⟨_,rfl⟩;subst gm;have bu:=ay;have BU:=BT.trans (bu.mono BT.size);have nZ:=(bu.block _ (zBM jO)).trans jO;have Bu:=b1.trans (BU.mono b1.size);have BX:=ow.trans (bu.mono ow.size)
         cases q8
         case false=>
          have bQ:=zBK (show ¬Sk.OkayD S from fun hk=>by rcases rQ.out hk with h | h;have h7:=zBw.2 h;rw [<-Ay.out] at h7;cases h7;have h7:=zBw.2 h;rw [<-Az.out] at h7;cases h7);go_wp2_with fail;refine (zBZ (9) ((i:Int)) wu).mono ?_;rintro e wz ⟨rfl,bz⟩;have aZ:=(bz.block _ (zBM nZ)).trans nZ;have BZ:=Bu.trans (bz.mono Bu.size);have dJ:=coQ aZ 0;have dK:=coQ aZ 1;have gJ:=foQ aZ 0;have gK:=foQ aZ 1;simp at dJ dK;have KE:=zBQ (zBQ aZ 0 (.int .i64 (9))) 1 (.int .i64 ((i:Int)));have BE:=(BZ.setCell (p:=⟨w.heap.size+1,0,none⟩) (by show w.heap.size<=w.heap.size+1;omega) (.int .i64 (9))).setCell (p:=⟨w.heap.size+1,1,none⟩) (by show w.heap.size<=w.heap.size+1;omega) (.int .i64 ((i:Int)));have t0:=coQ KE 0;have t1:=coQ KE 1;simp at t0 t1;have aQ:=zBK (show FaultPost w S (.returned (.agg #[.int .i64 (9),.int .i64 ((i:Int))])) _ from ⟨9,(i:Int),rfl,⟨fun h=>absurd h (by decide),fun h=>absurd h bQ.out⟩,BE⟩);clear KE BE;go_wp2;exact bodyPost_ret (v:=.agg #[.int .i64 (9),.int .i64 ((i:Int))]) (by simp [results,Tryz.results18,go_sem,t0,t1]) rfl aQ.out
         case true=>
          have lT:=zBK (qQ.out (.inr (zBw.1 Az.out.symm)));go_wp2_with fail;go_roundg (U.length-(j+1))
          case measure=>omega
          case rel=>exact ⟨j+1,by omega,rfl,by go_num,lT,BX⟩
        case true=>
         refine' tsQ 9 144 af ?_
         refine' tsQ 10 145 af ?_
         refine' tsQ 11 146 af ?_
         refine' tsQ 12 147 af ?_
         refine' tsQ 13 148 af ?_
         refine' tsQ 14 149 af ?_
         refine' tsQ 15 150 af ?_
         refine' tkR 16 151 af ?o55
         refine zBN (by kernel_rfl) ?_ _;obtain ⟨wu,gm⟩:∃ wx,wx=aw:=⟨_,rfl⟩;subst gm;have bu:=af;have BU:=BT.trans (bu.mono BT.size);have nZ:=(bu.block _ (zBM jO)).trans jO;have Bu:=b1.trans (BU.mono b1.size);have BX:=ow.trans (bu.mono ow.size);have lT:=zBK (qQ.out (.inl (zBw.1 Ay.out.symm)));go_wp2_with fail;go_roundg (U.length-(j+1))
         case measure=>omega
         case rel=>exact ⟨j+1,by omega,rfl,by go_num,lT,BX⟩
       case neg=>
        have oC:j=U.length:=(by omega);subst oC;have MU:=zBK (tF.out (fun z hz=>by have h5:=vQ.out;rw [List.take_length] at h5;rw [HU.out] at hz;exact h5 z hz));clear s1 yS;go_wp2_with fail;go_roundg (S.R.length-(i+1))
        case measure=>omega
        case rel=>exact ⟨i+1,by omega,rfl,by go_num,MU,qL,BT⟩
     case neg=>
      have bp:i=S.R.length:=(by omega);subst bp;have Nf:=zBK (show ∀ r ∈ S.R,∀ z ∈ Sk.uses r,z ∈ S.I\/z ∈ S.R.map (·.out) by have h5:=mm.out;rw [List.take_length] at h5;exact h5);clear mm;obtain ⟨wq,nX⟩:=nmQ (wr);subst nX;go_wp2_with fail;clear s1 s2 s3;go_loopg [12] S.O.length (fun kk v12 wr=>∃ (j:Nat),j<=S.O.length/\kk=S.O.length-j/\v12=.int .i64 (j:Nat)/\Hid (∀ z ∈ S.O.take j,z ∈ S.I\/z ∈ S.R.map (·.out))/\Hid (Below w4.heap.size w4 wr)/\Below w1.heap.size w1 wr)
      case atStart=>exact ⟨0,Nat.zero_le _,rfl,rfl,zBK (fun z hz=>by simp at hz),Ez,aH⟩
      case round=>
       clear ep dE Br;obtain ⟨j,hj,rfl,rfl,Dr,qL,BT⟩:=hrel;have kW:=(BT.block _ jD).trans kS;have jO:=(BT.block _ pa).trans kF;have Bt:=b1.trans (BT.mono b1.size);have s1:=coQ kW 1;have s2:=coQ kW 2;simp at s1 s2;have yS:=zBM kW;obtain ⟨wt,jA⟩:=nmQ (wr);subst jA;by_cases hjt:j<S.O.length
       case pos=>
        obtain ⟨vX,DH,e2,-,-,bg⟩:=(HS.out _ Bt).O.at;injection e2 with z1 z2 z3;obtain ⟨bU,oU,tU,yU,xU⟩:=bg j hjt;rw [tU] at z1;subst z1;have qQ:=zBK (fun (h:S.O[j] ∈ S.I\/S.O[j] ∈ S.R.map (·.out))=>qS (P:=fun z=>z ∈ S.I\/z ∈ S.R.map (·.out)) hjt Dr.out h);have rQ:=zBK (show Sk.OkayD S->S.O[j] ∈ S.I\/S.O[j] ∈ S.R.map (·.out) from fun hk=>hk.1.told _ (List.getElem_mem hjt));generalize S.O[j]=z at xU qQ rQ;have iG:=zBK (fun (W:World) (hW:Below wt.heap.size wt W)=>zBr z (HS.out W (Bt.trans (hW.mono Bt.size))).I);have km:=zBK (fun (W:World) (hW:Below wt.heap.size wt W)=>zBr z (HM.out.under (qL.out.trans (hW.mono qL.out.size))));obtain ⟨q7,xz⟩:=nmQ (S.I.any (fun y=>y==z));obtain ⟨q8,xB⟩:=nmQ ((S.R.map (·.out)).any (fun y=>y==z));rw [<-xz] at iG;rw [<-xB] at km;have Ay:=zBK xz;have Az:=zBK xB;clear bg z2 z3 tU xz xB Dr;go_upto_region 37 with fail;have aM:=zBK (fun (wz:World) (hSw:Below wt.heap.size wt wz)=>And.intro ((hSw.cell (p:=⟨w.heap.size,1,none⟩) yS).trans s1) (And.intro ((hSw.cell (p:=⟨w.heap.size,2,none⟩) yS).trans s2) ((hSw.cell (p:=⟨bU,oU+j,none⟩) yU).trans xU)));refine zBP (fun w'=>Below wt.heap.size wt w') (fun _=>false) (by kernel_rfl) ?_;have ab:Below wt.heap.size wt wt.drew:=(Below.refl _ _).drew;generalize wt.drew=ag at ab ⊢;refine' tkR 0 161 ab ?o56
        refine' tkQ 1 162 ab ?hyv ?o57
        case hyv=>
         intro wz hSw;have bk:=aM.out wz hSw;go_simp
         try rfl
        try simp only [Act.put,sT,sZ,sS]
        refine' tkR 2 163 ab ?o58
        refine' tkQ 3 164 ab ?hyv ?o59
        case hyv=>
         intro wz hSw;have bk:=aM.out wz hSw;go_simp
         try rfl
        try simp only [Act.put,sT,sZ,sS]
        refine' tkR 4 165 ab ?o60
        refine' tkR 5 166 ab ?o61
        refine' tkQ 6 167 ab ?hyv ?o62
        case hyv=>
         intro wz hSw;have bk:=aM.out wz hSw;go_simp
         try rfl
        try simp only [Act.put,sT,sZ,sS]
        refine tnQ 7 (fun K hK=>?_);go_simp;refine (iG.out ag ab).mono ?_;rintro eq aw ⟨rfl,cY⟩;have af:Below wt.heap.size wt aw:=ab.trans (cY.mono ab.size);refine hK.out _ _ (fun _=>af) ?_;clear hK K
        try simp only [Act.put,sT,sZ,sS]
        refine' tkR 8 169 af ?o63
        refine' tkR 9 170 af ?o64
        cases q7
        case false=>
         refine' tkR 10 171 af ?o65
         refine' tkR 11 172 af ?o66
         refine' tkQ 12 173 af ?hyv ?o67
         case hyv=>
          intro wz hSw;have bk:=aM.out wz hSw;go_simp
          try rfl
         try simp only [Act.put,sT,sZ,sS]
         refine' tkR 13 174 af ?o68
         refine' tkR 14 175 af ?o69
         refine' tkQ 15 176 af ?hyv ?o70
         case hyv=>
          intro wz hSw;have bk:=aM.out wz hSw;go_simp
          try rfl
         try simp only [Act.put,sT,sZ,sS]
         refine tnQ 16 (fun K hK=>?_);go_simp;refine (km.out aw af).mono ?_;rintro eq aJ ⟨rfl,dz⟩;have ay:Below wt.heap.size wt aJ:=af.trans (dz.mono af.size);refine hK.out _ _ (fun _=>ay) ?_;clear hK K
         try simp only [Act.put,sT,sZ,sS]
         refine' tkR 17 178 ay ?o71
         refine' tkR 18 179 ay ?o72
         refine zBN (by kernel_rfl) ?_ _;obtain ⟨wu,gm⟩:∃ wx,wx=aJ:=⟨_,rfl⟩;subst gm;have bu:=ay;have BU:=BT.trans (bu.mono BT.size);have nZ:=(bu.block _ (zBM jO)).trans jO;have Bu:=b1.trans (BU.mono b1.size);have EB:=zBK (qL.out.trans (bu.mono qL.out.size))
         cases q8
         case false=>
          have bQ:=zBK (show ¬Sk.OkayD S from fun hk=>by rcases rQ.out hk with h | h;have h7:=zBw.2 h;rw [<-Ay.out] at h7;cases h7;have h7:=zBw.2 h;rw [<-Az.out] at h7;cases h7);go_wp2_with fail;refine (zBZ (9) (-1) wu).mono ?_;rintro e wz ⟨rfl,bz⟩;have aZ:=(bz.block _ (zBM nZ)).trans nZ;have BZ:=Bu.trans (bz.mono Bu.size);have dJ:=coQ aZ 0;have dK:=coQ aZ 1;have gJ:=foQ aZ 0;have gK:=foQ aZ 1;simp at dJ dK;have KE:=zBQ (zBQ aZ 0 (.int .i64 (9))) 1 (.int .i64 (-1));have BE:=(BZ.setCell (p:=⟨w.heap.size+1,0,none⟩) (by show w.heap.size<=w.heap.size+1;omega) (.int .i64 (9))).setCell (p:=⟨w.heap.size+1,1,none⟩) (by show w.heap.size<=w.heap.size+1;omega) (.int .i64 (-1));have t0:=coQ KE 0;have t1:=coQ KE 1;simp at t0 t1;have aQ:=zBK (show FaultPost w S (.returned (.agg #[.int .i64 (9),.int .i64 (-1)])) _ from ⟨9,-1,rfl,⟨fun h=>absurd h (by decide),fun h=>absurd h bQ.out⟩,BE⟩);clear KE BE;go_wp2;exact bodyPost_ret (v:=.agg #[.int .i64 (9),.int .i64 (-1)]) (by simp [results,Tryz.results18,go_sem,t0,t1]) rfl aQ.out
         case true=>
          have lT:=zBK (qQ.out (.inr (zBw.1 Az.out.symm)));go_wp2_with fail;go_roundg (S.O.length-(j+1))
          case measure=>omega
          case rel=>exact ⟨j+1,by omega,rfl,by go_num,lT,EB,BU⟩
        case true=>
         refine' tsQ 10 171 af ?_
         refine' tsQ 11 172 af ?_
         refine' tsQ 12 173 af ?_
         refine' tsQ 13 174 af ?_
         refine' tsQ 14 175 af ?_
         refine' tsQ 15 176 af ?_
         refine' tsQ 16 177 af ?_
         refine' tsQ 17 178 af ?_
         refine' tkR 18 179 af ?o73
         refine zBN (by kernel_rfl) ?_ _;obtain ⟨wu,gm⟩:∃ wx,wx=aw:=⟨_,rfl⟩;subst gm;have bu:=af;have BU:=BT.trans (bu.mono BT.size);have nZ:=(bu.block _ (zBM jO)).trans jO;have Bu:=b1.trans (BU.mono b1.size);have EB:=zBK (qL.out.trans (bu.mono qL.out.size));have lT:=zBK (qQ.out (.inl (zBw.1 Ay.out.symm)));go_wp2_with fail;go_roundg (S.O.length-(j+1))
         case measure=>omega
         case rel=>exact ⟨j+1,by omega,rfl,by go_num,lT,EB,BU⟩
       case neg=>
        have oC:j=S.O.length:=(by omega);subst oC;have MY:=zBK (show ∀ z ∈ S.O,z ∈ S.I\/z ∈ S.R.map (·.out) by have h5:=Dr.out;rw [List.take_length] at h5;exact h5);have Ar:=zBK (show Sk.OkayD S from ⟨⟨HD.out.nV,HD.out.nI,HD.out.nO,HD.out.nR,HD.out.vars,HD.out.ins,HD.out.insN,HD.out.outs,HAS.out.1,HAS.out.2.1,Nf.out,MY.out⟩,HAS.out.2.2⟩);clear s1 yS Dr;have dJ:=coQ jO 0;have dK:=coQ jO 1;have gJ:=foQ jO 0;have gK:=foQ jO 1;simp at dJ dK;have KE:=zBQ (zBQ jO 0 (.int .i64 (0))) 1 (.int .i64 (0));have BE:=(Bt.setCell (p:=⟨w.heap.size+1,0,none⟩) (by show w.heap.size<=w.heap.size+1;omega) (.int .i64 (0))).setCell (p:=⟨w.heap.size+1,1,none⟩) (by show w.heap.size<=w.heap.size+1;omega) (.int .i64 (0));have t0:=coQ KE 0;have t1:=coQ KE 1;simp at t0 t1;have aQ:=zBK (show FaultPost w S (.returned (.agg #[.int .i64 (0),.int .i64 (0)])) _ from ⟨0,0,rfl,⟨fun _=>Ar.out,fun _=>rfl⟩,BE⟩);clear KE BE;go_wp2;exact bodyPost_ret (v:=.agg #[.int .i64 (0),.int .i64 (0)]) (by simp [results,Tryz.results18,go_sem,t0,t1]) rfl aQ.out
end Go.Proofs.YtfhghlpfeeiaeaaGreatDoor
