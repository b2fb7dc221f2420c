import Derived.Test.YtfhghlpfeeiaeaaGreatDoorX34
set_option linter.unusedVariables false
set_option linter.unusedSimpArgs false
set_option maxHeartbeats 64000000
set_option maxRecDepth 100000
namespace Go.Proofs.YtfhghlpfeeiaeaaGreatDoor
open Go.RowKit Go.IntWalk
abbrev noTruthD (n:Int):Bool:=Sk.noTruth n
def RowFD (w:World) (S:Sk.Sys) (inp:List Int) (e:Ending) (w':World):Prop:=e=.returned (.agg #[.int .i64 (Sk.rowF S inp).1,.int .i64 (Sk.rowF S inp).2])/\Below w.heap.size w w'
theorem zAW {ok:Nat->Prop} {w:World} {aV aI aO aR:Option Addr} {cV cI cO cR:Nat} {S:Sk.Sys} (hS:HSys ok w aV aI aO aR cV cI cO cR S) (okay:Sk.Okay S) {Il:Nat->Prop} {an:Option Addr} {k9:Nat} {inp:List Int} (hi:HInts Il w (.slice an inp.length k9) inp) :
  Calls Tryz.prog 37 #[.agg #[.slice aV S.V.length cV,.slice aI S.I.length cI,.slice aO S.O.length cO,.slice aR S.R.length cR],.slice an inp.length k9] w (RowFD w S inp):=by
 obtain ⟨ao,cap,ev,bH,cG,-⟩:=hi.at;injection ev with q1 q2 q3;rw [<-q3] at bH cG;clear q1 q2 q3;unfold maxLen at cG;obtain ⟨DC,DG,wm,dS,fT,-⟩:=hS.I.at;injection wm with q1 q2 q3;rw [<-q3] at dS fT;clear q1 q2 q3;unfold maxLen at fT;have ze:=okay.nI;have b1:Below w.heap.size w ((w.alloc (.cells #[.slice aV S.V.length cV,.slice aI S.I.length cI,.slice aO S.O.length cO,.slice aR S.R.length cR] 26 (0,0))).alloc (.cells #[.int .i64 0,.int .i64 0] 32 (0,0))):=((Below.refl _ _).alloc zBR _).alloc (by simp) _;have kS:((w.alloc (.cells #[.slice aV S.V.length cV,.slice aI S.I.length cI,.slice aO S.O.length cO,.slice aR S.R.length cR] 26 (0,0))).alloc (.cells #[.int .i64 0,.int .i64 0] 32 (0,0))).heap[w.heap.size]?=some (.cells #[.slice aV S.V.length cV,.slice aI S.I.length cI,.slice aO S.O.length cO,.slice aR S.R.length cR] 26 (0,0)):=(Below.heap_alloc _ _ _ (by simp)).trans (zBO w _);have kF:((w.alloc (.cells #[.slice aV S.V.length cV,.slice aI S.I.length cI,.slice aO S.O.length cO,.slice aR S.R.length cR] 26 (0,0))).alloc (.cells #[.int .i64 0,.int .i64 0] 32 (0,0))).heap[w.heap.size+1]?=some (.cells #[.int .i64 0,.int .i64 0] 32 (0,0)):=by
  have:=zBO (w.alloc (.cells #[.slice aV S.V.length cV,.slice aI S.I.length cI,.slice aO S.O.length cO,.slice aR S.R.length cR] 26 (0,0))) (.cells #[.int .i64 0,.int .i64 0] 32 (0,0))
  simpa using this
 have HS:=zBK (fun (W:World) (hb:Below w.heap.size w W)=>hS.under hb);have HI:=zBK (fun (W:World) (hb:Below w.heap.size w W)=>hi.under hb);have eV:=zBK okay;have xM:=Sk.width_wid (V:=S.V) S.I okay.ins;have PC:=Sk.wid_le okay.vars S.I okay.ins;obtain ⟨nw,xt⟩:=nmQ (Sk.wid S.V S.I);have JE:=zBK (fun (W:World) (hb:Below w.heap.size w W)=>width65_any (hS.under hb) okay.vars (hS.I.under hb) okay.ins (by omega));rw [<-xt] at JE PC xM;have Fl:=zBK xt;obtain ⟨ni,xr⟩:=nmQ (inp.length);rw [<-xr] at bH ⊢;have Dq:=zBK xr;have uF:=xM;clear hS hi okay xt xr;go_enter Tryz.func37,Tryz.ntmps37;go_upto_region 1 with fail;generalize (w.alloc (.cells #[.slice aV S.V.length cV,.slice aI S.I.length cI,.slice aO S.O.length cO,.slice aR S.R.length cR] 26 (0,0))).alloc (.cells #[.int .i64 0,.int .i64 0] 32 (0,0))=w1 at b1 kS kF ⊢;have jD:=zBM kS;have pa:=zBM kF;have s0:=coQ kS 0;have s1:=coQ kS 1;have s2:=coQ kS 2;have s3:=coQ kS 3;simp at s0 s1 s2 s3;clear xM;go_wp2_with fail;refine (JE.out _ b1).mono ?_;rintro e w2 ⟨rfl,ny⟩;have B2:=b1.trans (ny.mono b1.size);have fP:=(ny.block _ pa).trans kF;have gu:=(ny.block _ jD).trans kS;have Qm:=zBM gu;have Mn:=zBM fP;have JG:=zBK uF;clear s0 s1 s2 s3 uF;by_cases hne:ni=nw
 case neg=>
  have G3:((ni:Int) != (nw:Int))=true:=(by simp;omega);have vD:=zBK (show Sk.rowF S inp=(17,-1) from by unfold Sk.rowF;rw [if_pos (by rw [JG.out,<-Dq.out];exact hne)]);clear hne;go_wp2_with fail;refine (zBZ (17) (-1) w2).mono ?_;rintro e wz ⟨rfl,bz⟩;have aZ:=(bz.block _ (zBM fP)).trans fP;have BZ:=B2.trans (bz.mono B2.size);have dJ:=coQ aZ 0;have dK:=coQ aZ 1;have gJ:=foQ aZ 0;have gK:=foQ aZ 1;simp at dJ dK;have KE:=zBQ (zBQ aZ 0 (.int .i64 (17))) 1 (.int .i64 (-1));have BE:=(BZ.setCell (p:=⟨w.heap.size+1,0,none⟩) (by show w.heap.size<=w.heap.size+1;omega) (.int .i64 (17))).setCell (p:=⟨w.heap.size+1,1,none⟩) (by show w.heap.size<=w.heap.size+1;omega) (.int .i64 (-1));have t0:=coQ KE 0;have t1:=coQ KE 1;simp at t0 t1;have aQ:=zBK (show RowFD w S inp (.returned (.agg #[.int .i64 (17),.int .i64 (-1)])) _ from ⟨by rw [vD.out],BE⟩);clear KE BE;go_wp2;exact bodyPost_ret (v:=.agg #[.int .i64 (17),.int .i64 (-1)]) (by simp [results,Tryz.results37,go_sem,t0,t1]) rfl aQ.out
 case pos=>
  have G3:((ni:Int) != (nw:Int))=false:=(by simp;omega);have vD:=zBK (show Sk.rowF S inp=(Sk.takeV S.V inp 0 S.I []).1 from by unfold Sk.rowF;rw [if_neg (by rw [JG.out,<-Dq.out];simpa using hne)]);have O9:nw<=120000:=(by omega);go_wp2_with fail;go_loopg [5,6] S.I.length (fun gh v5 v6 wr=>∃ (i at_:Nat),i<=S.I.length/\gh=S.I.length-i/\v6=.int .i64 (i:Nat)/\v5=.int .i64 (at_:Nat)/\Hid (at_=Sk.wid S.V (S.I.take i))/\Hid (Sk.rowF S inp=(Sk.takeV S.V inp at_ (S.I.drop i) []).1)/\Below w2.heap.size w2 wr)
  case atStart=>exact ⟨0,0,Nat.zero_le _,rfl,rfl,rfl,zBK rfl,vD,Below.refl _ _⟩
  case round=>
   obtain ⟨i,at_,hi,rfl,rfl,rfl,tw,rb,aH⟩:=hrel;obtain ⟨wq,nX⟩:=nmQ (wr);subst nX;have BQ:=B2.trans (aH.mono B2.size);have Ic:=(aH.block _ Qm).trans gu;have CM:=(aH.block _ Mn).trans fP;have s0:=coQ Ic 0;have s1:=coQ Ic 1;simp at s0 s1;have yS:=zBM Ic;by_cases bd:i<S.I.length
   case neg=>
    have bp:i=S.I.length:=(by omega);subst bp;have HZ:=zBK (show Sk.rowF S inp=(0,0) by rw [rb.out,List.drop_length];rfl);have dJ:=coQ CM 0;have dK:=coQ CM 1;have gJ:=foQ CM 0;have gK:=foQ CM 1;simp at dJ dK;have KE:=zBQ (zBQ CM 0 (.int .i64 (0))) 1 (.int .i64 (0));have BE:=(BQ.setCell (p:=⟨w.heap.size+1,0,none⟩) (by show w.heap.size<=w.heap.size+1;omega) (.int .i64 (0))).setCell (p:=⟨w.heap.size+1,1,none⟩) (by show w.heap.size<=w.heap.size+1;omega) (.int .i64 (0));have t0:=coQ KE 0;have t1:=coQ KE 1;simp at t0 t1;have aQ:=zBK (show RowFD w S inp (.returned (.agg #[.int .i64 (0),.int .i64 (0)])) _ from ⟨by rw [HZ.out],BE⟩);clear KE BE;go_wp2;exact bodyPost_ret (v:=.agg #[.int .i64 (0),.int .i64 (0)]) (by simp [results,Tryz.results37,go_sem,t0,t1]) rfl aQ.out
   case pos=>
    have hdr:S.I.drop i=S.I[i] :: S.I.drop (i+1):=List.drop_eq_getElem_cons bd;have DP:=rb.out;rw [hdr] at DP;obtain ⟨a',c',eqs,_,_,bo⟩:=(HS.out _ BQ).I.at;injection eqs with q1 q2 q3;obtain ⟨bI,oI,nF,yI,xI⟩:=bo i bd;rw [nF] at q1;subst q1;have sX:=eV.out.ins S.I[i] (List.getElem_mem bd);have nh:=Sk.wid_succ S.V S.I i bd;have jA:=Sk.wid_take_le S.V S.I i bd;rw [<-tw.out,<-Fl.out] at jA;rw [<-tw.out] at nh;generalize S.I[i]=x at xI sX nh jA DP;obtain ⟨j,rfl⟩:∃ j:Nat,x=(j:Int):=⟨x.toNat,by omega⟩;have hj:j<S.V.length:=(by omega);obtain ⟨a2,c2,eqv,iy,jg,gN⟩:=(HS.out _ BQ).V.at;injection eqv with q4 q5 q6;obtain ⟨bV,oV,gV,yV,v0,v1⟩:=gN j hj;rw [gV] at q4;subst q4;rw [<-q6] at iy jg;unfold maxLen at jg;have jL:=zBo hj;obtain ⟨vv,iz⟩:=nmQ (S.V[j]);rw [<-iz] at v0 v1 jL;rw [jL] at nh jA;have gE:=zCH vv;obtain ⟨cn,lC⟩:=nmQ (Sk.cnt vv);rw [<-lC] at gE nh jA;have mR:=zBK gE;have lq:=zBK jL;have gU:=zBK lC;have AM:=zBK DP;have nr:=zBK nh;have G4:at_+cn<=ni:=(by omega);obtain ⟨el,vn⟩:=vv
    dsimp only at v0 v1
    dsimp only at mR
    clear bo gN q2 q3 q5 q6 nF gV jL iz lC hdr DP gE nh;go_upto_region 7 with fail;have aM:=zBK (fun (wz:World) (hSw:Below wq.heap.size wq wz)=>And.intro ((hSw.cell (p:=⟨w.heap.size,0,none⟩) yS).trans s0) (And.intro ((hSw.cell (p:=⟨w.heap.size,1,none⟩) yS).trans s1) (And.intro ((hSw.cell (p:=⟨bI,oI+i,none⟩) yI).trans xI) (And.intro ((hSw.cell (p:=⟨bV,oV+j*2,none⟩) yV).trans v0) ((hSw.cell (p:=⟨bV,oV+j*2+1,none⟩) yV).trans v1)))));refine zBP (fun w'=>Below wq.heap.size wq w') (fun _=>false) (by kernel_rfl) ?_;have ab:Below wq.heap.size wq wq.drew:=(Below.refl _ _).drew;generalize wq.drew=ag at ab ⊢;refine' tkR 0 24 ab ?o1
    refine' tkQ 1 25 ab ?hyv ?o2
    case hyv=>
     intro wz hSw;have bk:=aM.out wz hSw;go_simp
     try rfl
    try simp only [Act.put,sT,sZ,sS]
    refine' tkR 2 26 ab ?o3
    refine' tkQ 3 27 ab ?hyv ?o4
    case hyv=>
     intro wz hSw;have bk:=aM.out wz hSw;go_simp
     try rfl
    try simp only [Act.put,sT,sZ,sS]
    refine' tkR 4 28 ab ?o5
    refine' tkR 5 29 ab ?o6
    refine' tkQ 6 30 ab ?hyv ?o7
    case hyv=>
     intro wz hSw;have bk:=aM.out wz hSw;go_simp
     try rfl
    try simp only [Act.put,sT,sZ,sS]
    refine' tkR 7 31 ab ?o8
    refine' tkQ 8 32 ab ?hyv ?o9
    case hyv=>
     intro wz hSw;have bk:=aM.out wz hSw;go_simp
     try rfl
    try simp only [Act.put,sT,sZ,sS]
    refine tnQ 9 (fun K hK=>?_);go_simp;have af:Below wq.heap.size wq (ag.alloc (.cells #[.int .u8 0,.int .i64 0] 39 (0,0))):=ab.alloc ab.size _;have dP:=zBO ag (.cells #[.int .u8 0,.int .i64 0] 39 (0,0));have tn:=ab.size;refine hK.out _ _ (fun _=>af) ?_;clear hK K
    try simp only [Act.put,sT,sZ,sS]
    generalize ag.alloc (.cells #[.int .u8 0,.int .i64 0] 39 (0,0))=aw at af dP ⊢;refine tnQ 10 (fun K hK=>?_);have cJ:=coQ dP 0;have cW:=coQ dP 1;have eO:=foQ dP 0;have fl:=foQ dP 1;simp at cJ cW;have kX:=zBQ (zBQ dP 0 (.int .u8 el)) 1 (.int .i64 vn);simp at kX;have ay:Below wq.heap.size wq ((aw.setCell ⟨ag.heap.size,0,none⟩ (.int .u8 el)).setCell ⟨ag.heap.size,1,none⟩ (.int .i64 vn)):=(af.setCell (p:=⟨ag.heap.size,0,none⟩) ab.size _).setCell (p:=⟨ag.heap.size,1,none⟩) ab.size _;have PJ:wq.heap.size<=ag.heap.size:=ab.size;go_simp;refine hK.out _ _ (fun _=>ay) ?_;clear hK K cJ cW eO fl
    try simp only [Act.put,sT,sZ,sS]
    generalize ((aw.setCell ⟨ag.heap.size,0,none⟩ (.int .u8 el)).setCell ⟨ag.heap.size,1,none⟩ (.int .i64 vn))=aJ at ay kX ⊢;obtain ⟨xb,CI⟩:=nmQ (ag.heap.size);rw [<-CI] at kX PJ ⊢;clear CI;refine zBN (by kernel_rfl) ?_ _;obtain ⟨w4,CG⟩:∃ x,x=aJ:=⟨_,rfl⟩;subst CG;have B4:=aH.trans (ay.mono aH.size);clear s0 s1 v0 v1 xI;go_wp2_with fail;go_loopg [5,8] cn (fun gh v5 v8 wr=>∃ (k:Nat),k<=cn/\gh=cn-k/\v8=.int .i64 (k:Nat)/\v5=.int .i64 ((at_+k:Nat):Int)/\Hid (el=98->∀ m (hm:m<k) (h2:at_+m<inp.length),noTruthD inp[at_+m]=false)/\Below w4.heap.size w4 wr)
    case atStart=>exact ⟨0,Nat.zero_le _,rfl,rfl,rfl,zBK (fun _ m hm=>absurd hm (Nat.not_lt_zero _)),Below.refl _ _⟩
    case round=>
     obtain ⟨k,hk,rfl,rfl,rfl,eI,Bk⟩:=hrel;have BK:=B4.trans (Bk.mono B4.size);have Ep:=B2.trans (BK.mono B2.size);have L9:=(Bk.block _ (zBM kX)).trans kX;have x0:=coQ L9 0;have x1:=coQ L9 1;simp at x0 x1;have L5:=(BK.block _ Mn).trans fP;by_cases m7:k<cn
     case neg=>
      have nK:k=cn:=(by omega);subst nK;have tF:=zBK (show Sk.rowF S inp=(Sk.takeV S.V inp (at_+k) (S.I.drop (i+1)) []).1 from by
       rw [AM.out,Sk.takeV_go]
       ·rw [lq.out,<-gU.out]
       ·rw [lq.out,<-gU.out,<-Dq.out];exact G4
       ·intro he m hm
        have jW:m<k:=(by have h:=hm;rw [lq.out,<-gU.out] at h;exact h);exact eI.out (by rw [lq.out] at he;exact he) m jW _)
      have pD:=zBK (show at_+k=Sk.wid S.V (S.I.take (i+1)) from nr.out.symm);clear eI;go_wp2_with fail;refine (mR.out _).mono ?_;rintro e wz ⟨rfl,rfl⟩;clear x0 x1;go_wp2_with fail;go_roundg (S.I.length-(i+1))
      case measure=>omega
      case rel=>exact ⟨i+1,at_+k,by omega,rfl,by go_num,rfl,pD,tF,BK⟩
     case pos=>
      have zb:at_+k<inp.length:=(by rw [<-Dq.out];omega);obtain ⟨a3,c3,NR,-,-,gB⟩:=(HI.out _ Ep).at;injection NR with z1 z2 z3;obtain ⟨bn,on,ss,yn,xn⟩:=gB (at_+k) zb;rw [ss] at z1;subst z1;have tu:=zBK (fun (h:el=98->noTruthD inp[at_+k]=false)=>show el=98->∀ m (hm:m<k+1) (h2:at_+m<inp.length),noTruthD inp[at_+m]=false from fun he m hm h2=>by
       rcases Nat.lt_or_ge m k with q | q
       ·exact eI.out he m q h2
       ·have e:m=k:=by omega
        subst e;exact h he)
      have u9:=zBK (fun (he:el=98) (hb:noTruthD inp[at_+k]=true)=>show Sk.rowF S inp=(17,((at_+k:Nat):Int)) from by
       rw [AM.out];refine Sk.takeV_bad (by rw [lq.out];exact he) (by rw [lq.out,<-gU.out];exact m7) zb hb (fun m hm=>eI.out he m hm _))
      generalize inp[at_+k]=z at xn tu u9;clear gB z2 z3 ss eI;have sm:IntKind.i64.wrap ((at_+k:Nat):Int)=((at_+k:Nat):Int):=i64_in _ ⟨by omega,by omega⟩;obtain ⟨ak,Gt⟩:=nmQ (at_+k);rw [<-Gt] at xn u9 sm ⊢;have Ol:ak<ni:=(by omega);have uZ:=zBK Gt;clear Gt;by_cases eo:el=98
      case neg=>
       go_wp2_with fail;refine (mR.out _).mono ?_;rintro e wz ⟨rfl,rfl⟩;have OD:(el==98)=false:=(by simp [eo]);have hJ:=zBK (tu.out (fun he=>absurd he eo));clear tu u9;go_wp2_with fail;go_roundg (cn-(k+1))
       case measure=>omega
       case rel=>exact ⟨k+1,by omega,rfl,by go_num,by rw [uZ.out];go_num,hJ,Bk⟩
      case pos=>
       subst eo;go_wp2_with fail;refine (mR.out _).mono ?_;rintro e wz ⟨rfl,rfl⟩;by_cases iM:z=0
       case pos=>
        subst iM;have hJ:=zBK (tu.out (fun _=>rfl));clear tu u9;go_wp2_with fail;go_roundg (cn-(k+1))
        case measure=>omega
        case rel=>exact ⟨k+1,by omega,rfl,by go_num,by rw [uZ.out];go_num,hJ,Bk⟩
       case neg=>
        have PN:(z != 0)=true:=(by simp [iM]);by_cases jw:z=1
        case pos=>
         subst jw;have hJ:=zBK (tu.out (fun _=>rfl));clear tu u9;go_wp2_with fail;go_roundg (cn-(k+1))
         case measure=>omega
         case rel=>exact ⟨k+1,by omega,rfl,by go_num,by rw [uZ.out];go_num,hJ,Bk⟩
        case neg=>
         have PO:(z != 1)=true:=(by simp [jw]);have M8:=zBK (u9.out (by first | rfl | trivial) (by unfold noTruthD Sk.noTruth;simp [iM,jw]));clear u9 tu iM jw;go_wp2_with fail;refine (zBZ (17) ((ak:Int)) wr).mono ?_;rintro e wz ⟨rfl,bz⟩;have aZ:=(bz.block _ (zBM L5)).trans L5;have BZ:=Ep.trans (bz.mono Ep.size);have dJ:=coQ aZ 0;have dK:=coQ aZ 1;have gJ:=foQ aZ 0;have gK:=foQ aZ 1;simp at dJ dK;have KE:=zBQ (zBQ aZ 0 (.int .i64 (17))) 1 (.int .i64 ((ak:Int)));have BE:=(BZ.setCell (p:=⟨w.heap.size+1,0,none⟩) (by show w.heap.size<=w.heap.size+1;omega) (.int .i64 (17))).setCell (p:=⟨w.heap.size+1,1,none⟩) (by show w.heap.size<=w.heap.size+1;omega) (.int .i64 ((ak:Int)));have t0:=coQ KE 0;have t1:=coQ KE 1;simp at t0 t1;have aQ:=zBK (show RowFD w S inp (.returned (.agg #[.int .i64 (17),.int .i64 ((ak:Int))])) _ from ⟨by rw [M8.out],BE⟩);clear KE BE;go_wp2;exact bodyPost_ret (v:=.agg #[.int .i64 (17),.int .i64 ((ak:Int))]) (by simp [results,Tryz.results37,go_sem,t0,t1]) rfl aQ.out
theorem HInts.cut {ok:Nat->Prop} {w:World} {b o cap:Nat} {M:List Int} (h:HInts ok w (.slice (some ⟨b,o,none⟩) M.length cap) M) {v n:Nat} (hn:0<n) (hv:v+n<=M.length):HInts ok w (.slice (some ⟨b,o+v,none⟩) n (cap-v)) ((M.drop v).take n):=by
 obtain ⟨C,⟨ao,cp,e,h1,h2,h3⟩,hC⟩:=h;injection e with e1 e2 e3;subst e1 e3;have hl:((M.drop v).take n).length=n:=(by rw [List.length_take,List.length_drop];omega);obtain ⟨b2,o2,lb,gG,tX,gO⟩:=h3 (by omega);injection lb with lb;injection lb with q1 q2;subst q1 q2;refine ⟨fun i=>C (v+i),⟨_,_,by rw [hl],by rw [hl];omega,by omega,fun _=>⟨_,_,rfl,gG,tX,fun i hi=>⟨(gO (v+i) (by omega)).1,fun j hj=>?_⟩⟩⟩,fun j hj=>?_⟩
 ·rw [<-(gO (v+i) (by omega)).2 j hj]
  congr 2
  omega
 ·show C (v+j)=_
  rw [hC (v+j) (by omega),List.getElem_take,List.getElem_drop]
theorem zCe (c:Nat) (hn:c<=1000000) (V:World):(Instr.makeSlice 27 (.int .i64 (c:Int)) (.int .i64 (c:Int))).run Tryz.prog V=.ok (.slice (some ⟨V.heap.size,0,none⟩) c c) (V.alloc (.cells (Array.replicate c (.slice none 0 0)) 44 (0,0))):=by
 obtain ⟨i0,hi,iM,jw,dZ⟩:=info_parts Tryz.infoLL;have h:=run_make (P:=Tryz.prog) V 27 44 i0 (.slice none 0 0) Tryz.underlying27 hi iM .i64 .i64 (c:Int) (c:Int) (by omega) (by omega) (by rw [dZ];simp;omega) (by omega);have e:madeCells (Value.slice none 0 0).cells (((c:Int)).toNat*i0.size)=Array.replicate c (.slice none 0 0):=by
  rw [jw]
  apply Array.ext_getElem?
  intro j;by_cases hj:j<c
  ·simp [madeCells,Value.cells,hj,Nat.mod_one]
  ·simp [madeCells,Value.cells,hj]
 rw [e] at h
 simpa using h
abbrev mgB (g:MgV) (S:Sk.Sys) (v:Value):Array Value:=#[.slice g.aV S.V.length g.cV,.slice g.aI S.I.length g.cI,.slice g.aO S.O.length g.cO,.slice g.aR S.R.length g.cR,g.vK,v,.int .i64 g.rows]
structure MgAt (L:List Nat) (mb:Nat) (S:Sk.Sys) (ah:Int->Option (List Int)) (n:Nat) (w:World):Prop where
 st:∃ (g:MgV) (v:Value),w.heap[mb]?=some (.cells (mgB g S v) 73 (0,0))/\g.rows=(n:Int)/\HSys (· ∉ L) w g.aV g.aI g.aO g.aR g.cV g.cI g.cO g.cR S/\KeepM L w g.vK g.rows S ah
 mL:mb ∈ L
 lt:∀ q ∈ L,q<w.heap.size
theorem MgAt.keep {L:List Nat} {mb n:Nat} {S:Sk.Sys} {ah:Int->Option (List Int)} {w w':World} (h:MgAt L mb S ah n w) (h1:w.heap.size<=w'.heap.size) (h0:w'.heap[mb]?=w.heap[mb]?) (h2:∀ i,i ∉ L->i<w.heap.size->w'.heap[i]?=w.heap[i]?):MgAt L mb S ah n w':=by
 obtain ⟨g,v,hm,hr,hS,hK⟩:=h.st;exact ⟨⟨g,v,h0.trans hm,hr,hS.keep h1 h2,hK.keep h1 h2⟩,h.mL,fun q hq=>Nat.lt_of_lt_of_le (h.lt q hq) h1⟩
theorem MgAt.under {L:List Nat} {mb n:Nat} {S:Sk.Sys} {ah:Int->Option (List Int)} {w w':World} (h:MgAt L mb S ah n w) (b:Below w.heap.size w w'):MgAt L mb S ah n w':=h.keep b.size (b.block _ (h.lt _ h.mL)) (fun i _ hl=>b.block i hl)
theorem MgAt.past {L:List Nat} {mb n q:Nat} {S:Sk.Sys} {ah:Int->Option (List Int)} {w w':World} (h:MgAt L mb S ah n w) (a:Aside [q] w.heap.size w w') (hq:q ∈ L) (hne:mb≠q):MgAt L mb S ah n w':=h.keep a.size (a.block _ (h.lt _ h.mL) (by simpa using hne)) (fun i hi hl=>a.block i hl (by simp;exact fun e=>hi (e ▸ hq)))
theorem KeepM.grow {L:List Nat} {w w':World} {vK:Value} {rows:Int} {S:Sk.Sys} {ah:Int->Option (List Int)} {q:Nat} (h:KeepM L w vK rows S ah) (h1:w.heap.size<=w'.heap.size) (h2:∀ i,i ∉ L->i<w.heap.size->w'.heap[i]?=w.heap[i]?) (hq:q ∈ L\/w.heap.size<=q):KeepM (q :: L) w' vK rows S ah:=by
 rcases h with h0 | ⟨h0,kb,ks,e,rp,hh,hr⟩
 ·exact .inl h0
 ·refine .inr ⟨h0,kb,ks,e,?_,(h2 kb rp (zBM hh)).trans hh,fun i hi ho=>?_⟩
  ·simp
   refine ⟨fun e=>?_,rp⟩;rcases hq with q1 | q1
   ·exact rp (e ▸ q1)
   ·have:=zBM hh;omega
  ·obtain ⟨l,u,e1,e2,h3⟩:=hr i hi ho
   exact ⟨l,u,e1,e2,h3.grow h1 h2 hq⟩
theorem HSys.growL {L:List Nat} {w w':World} {aV aI aO aR:Option Addr} {cV cI cO cR:Nat} {S:Sk.Sys} {q:Nat} (h:HSys (· ∉ L) w aV aI aO aR cV cI cO cR S) (h1:w.heap.size<=w'.heap.size) (h2:∀ i,i ∉ L->i<w.heap.size->w'.heap[i]?=w.heap[i]?) (hq:q ∈ L\/w.heap.size<=q):HSys (· ∉ q :: L) w' aV aI aO aR cV cI cO cR S :=
 ((h.wide (ok':=fun i=>i ∉ L/\i<w.heap.size) fun i hi hl=>⟨hi,hl⟩).keep h1 fun i hi hl=>h2 i hi.1 hl).wide fun i hi _=>by
  simp;refine ⟨fun e=>?_,hi.1⟩;rcases hq with q1 | q1
  ·exact hi.1 (e ▸ q1)
  ·have:=hi.2;omega
def MemoI (L:List Nat) (w:World) (vb:Nat) (S:Sk.Sys) (C:List (List Int)) (i:Nat):Prop :=
 ∃ cs:Array Value,w.heap[vb]?=some (.cells cs 44 (0,0))/\cs.size=S.V.length/\(∀ i,i<S.V.length->cs[i]?=some (.slice none 0 0)\/∃ u,cs[i]?=some u/\RowS L w u (Sk.cAt C (i:Int)))/\∀ x ∈ S.I.take i,∃ u,cs[x.toNat]?=some u/\RowS L w u (Sk.cAt C x)
theorem MemoI.set {L:List Nat} {w:World} {vb:Nat} {S:Sk.Sys} {C:List (List Int)} {i:Nat} (h:MemoI L w vb S C i) (hL:vb ∈ L) (hb:∀ x ∈ S.I,0<=x/\x<S.V.length) (hi:i<S.I.length) {x:Nat} {u:Value} (hx:S.I[i]=(x:Int)) (hu:RowS L w u (Sk.cAt C (x:Int))):MemoI L (w.setCell ⟨vb,x,none⟩ u) vb S C (i+1):=by
 obtain ⟨cs,k,hs,hm,hI⟩:=h;have dt:w.heap.size<=(w.setCell ⟨vb,x,none⟩ u).heap.size:=(by simp [World.setCell]);have jN:∀ j,j ∉ L->j<w.heap.size->(w.setCell ⟨vb,x,none⟩ u).heap[j]?=w.heap[j]?:=fun j hj _=>zBU _ _ _ (fun e=>hj (by rw [<-e];exact hL));have sX:=hb _ (List.getElem_mem hi);rw [hx] at sX;have PK:x<S.V.length:=(by omega);have uz:(cs.setIfInBounds x u)[x]?=some u:=(by rw [Array.getElem?_setIfInBounds_self_of_lt (by omega)]);refine ⟨_,zBQ k x u,by rw [Array.size_setIfInBounds];exact hs,fun j hj=>?_,fun z hz=>?_⟩
 ·by_cases e:x=j
  ·subst e
   exact .inr ⟨u,uz,hu.keep dt jN⟩
  ·rw [Array.getElem?_setIfInBounds_ne e]
   rcases hm j hj with h | ⟨v,e,hr⟩
   ·exact .inl h
   ·exact .inr ⟨v,e,hr.keep dt jN⟩
 ·rw [List.take_succ_eq_append_getElem hi] at hz
  have iM:0<=z:=by
   rcases List.mem_append.1 hz with q | q
   ·exact (hb z (List.mem_of_mem_take q)).1
   ·simp at q;rw [q,hx];omega
  by_cases e:x=z.toNat
  ·have ez:z=(x:Int):=by omega
   rw [ez,Int.toNat_natCast];exact ⟨u,uz,hu.keep dt jN⟩
  ·rcases List.mem_append.1 hz with q | q
   ·obtain ⟨v,e2,hr⟩:=hI z q
    exact ⟨v,by rw [Array.getElem?_setIfInBounds_ne e];exact e2,hr.keep dt jN⟩
   ·simp at q
    rw [q,hx] at e;exact absurd (by simp) e
theorem MemoI.keep {L:List Nat} {w w':World} {vb:Nat} {S:Sk.Sys} {C:List (List Int)} {i:Nat} (h:MemoI L w vb S C i) (h0:w'.heap[vb]?=w.heap[vb]?) (h1:w.heap.size<=w'.heap.size) (h2:∀ i,i ∉ L->i<w.heap.size->w'.heap[i]?=w.heap[i]?):MemoI L w' vb S C i:=by
 obtain ⟨cs,k,hs,hm,hI⟩:=h;refine ⟨cs,h0.trans k,hs,fun i hi=>?_,fun x hx=>?_⟩
 ·rcases hm i hi with h | ⟨u,e,hr⟩
  ·exact .inl h
  ·exact .inr ⟨u,e,hr.keep h1 h2⟩
 ·obtain ⟨u,e,hr⟩:=hI x hx
  exact ⟨u,e,hr.keep h1 h2⟩
theorem MemoI.start {L:List Nat} {w:World} {vb:Nat} {S:Sk.Sys} {C:List (List Int)} (h:w.heap[vb]?=some (.cells (Array.replicate S.V.length (.slice none 0 0)) 44 (0,0))):MemoI L w vb S C 0 :=
 ⟨_,h,by simp,fun i hi=>.inl (by simp [hi]),fun x hx=>by simp at hx⟩
theorem MemoI.all {L:List Nat} {w:World} {vb:Nat} {S:Sk.Sys} {C:List (List Int)} (h:MemoI L w vb S C S.I.length):Memo L w vb S C:=by
 obtain ⟨cs,k,hs,hm,hI⟩:=h;rw [List.take_length] at hI;exact ⟨cs,k,hs,hm,hI⟩
structure OutM (L L':List Nat) (mb vb:Nat) (g:MgV) (S:Sk.Sys) (ah:Int->Option (List Int)) (C:List (List Int)) (B:Nat) (w:World) (vo:Value) (l:List Int):Prop where
 st:MgSt L' mb vb g S ah C w
 own:OwnL kLong B w vo l
 blk:∀ q,vo.ownBlock=some q->q ∈ L'
 sub:∀ q ∈ L,q ∈ L'
 lo:mb<B/\vb<B
 sz:B<=w.heap.size
theorem OutM.past {L L':List Nat} {mb vb:Nat} {g:MgV} {S:Sk.Sys} {ah:Int->Option (List Int)} {C:List (List Int)} {B:Nat} {w w':World} {vo:Value} {l:List Int} (h:OutM L L' mb vb g S ah C B w vo l) (a:Aside [vb] w.heap.size w w') (hs:MgSt L' mb vb g S ah C w'):OutM L L' mb vb g S ah C B w' vo l :=
 ⟨hs,h.own.past a (by intro k hk;simp at hk;rw [hk];exact h.lo.2),h.blk,h.sub,h.lo,Nat.le_trans h.sz a.size⟩
theorem OutM.more {L L':List Nat} {mb vb:Nat} {g:MgV} {S:Sk.Sys} {ah:Int->Option (List Int)} {C:List (List Int)} {B:Nat} {w:World} {vo u:Value} {l r:List Int} (h:OutM L L' mb vb g S ah C B w vo l) (hu:RowS L' w u r) (hn:l.length+r.length<=2000000) :
  ∃ L2 a c w',(Builtin.append_ #[44,44] 44 #[vo,u]).run Tryz.prog w=.ok (.slice a (l++r).length c) w'/\OutM L L2 mb vb g S ah C B w' (.slice a (l++r).length c) (l++r)/\Below B w w':=by
 obtain ⟨au,cu,eu,hu⟩:=hu;obtain ⟨v',w',cH,hX,hg,gF⟩:=zCA kLong 44 44 Tryz.underlying44 (zCY h.own) (show HRow kLong (· ∉ L') w u r from hu) (fun k hk hq=>hq (h.blk k hk)) (by show (l.length+r.length)*8<=140737488355328;omega) (by unfold maxLen;omega);obtain ⟨a,c,rfl,-,-⟩:=hX.form;have own:OwnL kLong B w' (.slice a (l++r).length c) (l++r):=zBt hX (fun k hk=>by
  rcases gF with q | ⟨z,hz,dZ⟩
  ·exact (h.own.lt k (q ▸ hk)).1
  ·rw [hz] at hk
   injection hk with hk;have:=h.sz;omega) (fun _ _ _ _ _ h=>h)
 have ix:=zDH hg (fun k hk=>(h.own.lt k hk).1) h.sz;have hne:∀ i,i ∉ L'->i<w.heap.size->w'.heap[i]?=w.heap[i]?:=fun i hi hl=>hg.block i hl (fun e=>hi (h.blk i e.symm))
 cases hq:(Value.slice a (l++r).length c).ownBlock with
 | none=>
  refine ⟨mb :: L',a,c,w',cH,⟨h.st.grow hg.size hne (ix.block _ h.lo.1) (ix.block _ h.lo.2) (.inl h.st.mL) (Nat.lt_of_lt_of_le (h.st.lt _ h.st.mL) hg.size),own,fun q hk=>(by rw [hq] at hk;cases hk),fun q hk=>by simp [h.sub q hk],h.lo,Nat.le_trans h.sz hg.size⟩,ix⟩
 | some q=>
  have je:q ∈ L'\/w.heap.size<=q:=by
   rcases gF with e | ⟨k,e,hk⟩
   ·exact .inl (h.blk q (e ▸ hq))
   ·rw [hq] at e
    injection e with e;subst e;exact .inr hk
  refine ⟨q :: L',a,c,w',cH,⟨h.st.grow hg.size hne (ix.block _ h.lo.1) (ix.block _ h.lo.2) je (own.lt q hq).2,own,fun k hk=>?_,fun k hk=>by simp [h.sub k hk],h.lo,Nat.le_trans h.sz hg.size⟩,ix⟩;rw [hq] at hk;injection hk with hk;rw [<-hk];simp
theorem MgSt.other {L:List Nat} {mb vb:Nat} {g:MgV} {S:Sk.Sys} {ah:Int->Option (List Int)} {C:List (List Int)} {w:World} (h:MgSt L mb vb g S ah C w) {q i:Nat} (hq:q ∈ L) (h1:mb≠q) (h2:vb≠q) (u:Value):MgSt L mb vb g S ah C (w.setCell ⟨q,i,none⟩ u):=by
 have dt:w.heap.size<=(w.setCell ⟨q,i,none⟩ u).heap.size:=(by simp [World.setCell]);have jN:∀ j,j ∉ L->j<w.heap.size->(w.setCell ⟨q,i,none⟩ u).heap[j]?=w.heap[j]?:=fun j hj _=>zBU _ _ _ (fun e=>hj (by rw [<-e];exact hq));exact ⟨(zBU _ _ _ (fun e=>h1 e.symm)).trans h.m,h.sys.keep dt jN,h.keep.keep dt jN,h.memo.keep (zBU _ _ _ (fun e=>h2 e.symm)) dt jN,h.mL,h.vL,fun z hz=>Nat.lt_of_lt_of_le (h.lt z hz) dt,h.ne⟩
def KeepI (L:List Nat) (w:World) (kb:Nat) (S:Sk.Sys) (C:List (List Int)) (i:Nat):Prop :=
 ∃ ks:Array Value,w.heap[kb]?=some (.cells ks 44 (0,0))/\ks.size=S.R.length/\∀ j (hj:j<S.R.length),j<i->(S.R[j]).op=13->∃ u,ks[j]?=some u/\RowS L w u (Sk.cAt C (Sk.aN S.R[j] 1))
theorem KeepI.keep {L:List Nat} {w w':World} {kb:Nat} {S:Sk.Sys} {C:List (List Int)} {i:Nat} (h:KeepI L w kb S C i) (h0:w'.heap[kb]?=w.heap[kb]?) (h1:w.heap.size<=w'.heap.size) (h2:∀ i,i ∉ L->i<w.heap.size->w'.heap[i]?=w.heap[i]?):KeepI L w' kb S C i:=by
 obtain ⟨ks,k,hs,hm⟩:=h;refine ⟨ks,h0.trans k,hs,fun j hj lG ho=>?_⟩;obtain ⟨u,e,hr⟩:=hm j hj lG ho;exact ⟨u,e,hr.keep h1 h2⟩
theorem KeepI.set {L:List Nat} {w:World} {kb:Nat} {S:Sk.Sys} {C:List (List Int)} {i:Nat} (h:KeepI L w kb S C i) (hL:kb ∈ L) (hi:i<S.R.length) {u:Value} (hu:RowS L w u (Sk.cAt C (Sk.aN S.R[i] 1))):KeepI L (w.setCell ⟨kb,i,none⟩ u) kb S C (i+1):=by
 obtain ⟨ks,k,hs,hm⟩:=h;have dt:w.heap.size<=(w.setCell ⟨kb,i,none⟩ u).heap.size:=(by simp [World.setCell]);have jN:∀ j,j ∉ L->j<w.heap.size->(w.setCell ⟨kb,i,none⟩ u).heap[j]?=w.heap[j]?:=fun j hj _=>zBU _ _ _ (fun e=>hj (by rw [<-e];exact hL));refine ⟨_,zBQ k i u,by rw [Array.size_setIfInBounds];exact hs,fun j hj lG ho=>?_⟩;by_cases e:i=j
 ·subst e
  exact ⟨u,by rw [Array.getElem?_setIfInBounds_self_of_lt (by omega)],hu.keep dt jN⟩
 ·obtain ⟨v,e2,hr⟩:=hm j hj (by omega) ho
  exact ⟨v,by rw [Array.getElem?_setIfInBounds_ne e];exact e2,hr.keep dt jN⟩
theorem KeepI.skip {L:List Nat} {w:World} {kb:Nat} {S:Sk.Sys} {C:List (List Int)} {i:Nat} (h:KeepI L w kb S C i) (hi:i<S.R.length) (hn:(S.R[i]).op≠13):KeepI L w kb S C (i+1):=by
 obtain ⟨ks,k,hs,hm⟩:=h;refine ⟨ks,k,hs,fun j hj lG ho=>?_⟩;by_cases e:i=j
 ·subst e;exact absurd ho hn
 ·exact hm j hj (by omega) ho
theorem toldL_succ {C:List (List Int)} {O:List Int} {i:Nat} (h:i<O.length):Sk.toldL C (O.take (i+1))=Sk.toldL C (O.take i)++Sk.cAt C O[i]:=by
 unfold Sk.toldL;rw [List.take_succ_eq_append_getElem h,List.map_append,List.flatten_append];simp
theorem toldL_le {C:List (List Int)} (hs:∀ z,(Sk.cAt C z).length<=300):∀ (O:List Int),(Sk.toldL C O).length<=300*O.length
 | []=>by simp [Sk.toldL]
 | x :: r=>by
  have h1:=hs x;have h2:=toldL_le hs r;unfold Sk.toldL at h2 ⊢;rw [List.map_cons,List.flatten_cons,List.length_append,List.length_cons];omega
def RowD (L:List Nat) (mb:Nat) (S:Sk.Sys) (ah:Int->Option (List Int)) (n:Nat) (inp:List Int) (w:World) (e:Ending) (w':World):Prop :=
 ∃ a c n',e=.returned (.tuple #[.slice a (Sk.rowT (Sk.sortS S) ah inp).1.1.length c,.agg #[.int .i64 (Sk.rowT (Sk.sortS S) ah inp).1.2.1,.int .i64 (Sk.rowT (Sk.sortS S) ah inp).1.2.2]])/\HInts (fun i=>w.heap.size<=i) w' (.slice a (Sk.rowT (Sk.sortS S) ah inp).1.1.length c) (Sk.rowT (Sk.sortS S) ah inp).1.1/\n'<=n+1/\MgAt L mb S (Sk.rowT (Sk.sortS S) ah inp).2 n' w'/\Aside [mb] w.heap.size w w'
end Go.Proofs.YtfhghlpfeeiaeaaGreatDoor
