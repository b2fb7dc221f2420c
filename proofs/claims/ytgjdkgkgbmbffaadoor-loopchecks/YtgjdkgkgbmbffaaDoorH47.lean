import Derived.Test.YtgjdkgkgbmbffaaDoorH46
import Derived.WalkKit
import Derived.WalkSpells
import Derived.IntWalk
import Derived.Deep.Cut
import Derived.Deep.LoopGhost
import Derived.Laws.Cover1
import Derived.Lib.Hide
set_option linter.unusedVariables false
set_option linter.unusedSimpArgs false
set_option maxHeartbeats 64000000
set_option maxRecDepth 100000
namespace Go.Proofs.YtgjdkgkgbmbffaaDoor
open Go.RowKit Go.IntWalk
theorem zAq {ok:Nat->Prop} {w:World} {aP aG aS:Option Addr} {cP cG cS:Nat} {L:Lo.Lp} (hL:HLp ok w aP aG aS cP cG cS L):Calls Tryd.prog 9 #[Value.agg #[.int .i64 L.c,.slice aP L.P.length cP,.slice aG L.G.length cG,.slice aS L.S.length cS]] w fun e w'=>e=.returned (.agg #[.int .i64 (Lo.fault L).1,.int .i64 (Lo.fault L).2])/\Below w.heap.size w w':=by
 obtain ⟨c,P,G,S⟩:=L;obtain ⟨hP,hG,hS,-⟩:=hL
 dsimp only at hP hG hS ⊢
 have b1:Below w.heap.size w ((w.alloc (.cells #[.int .i64 c,.slice aP P.length cP,.slice aG G.length cG,.slice aS S.length cS] 25 (0,0))).alloc (.cells #[.int .i64 0,.int .i64 0] 29 (0,0))):=((Below.refl _ _).alloc zL _).alloc (by simp) _;have kL:(((w.alloc (.cells #[.int .i64 c,.slice aP P.length cP,.slice aG G.length cG,.slice aS S.length cS] 25 (0,0))).alloc (.cells #[.int .i64 0,.int .i64 0] 29 (0,0)))).heap[w.heap.size]?=some (.cells #[.int .i64 c,.slice aP P.length cP,.slice aG G.length cG,.slice aS S.length cS] 25 (0,0)):=(Below.heap_alloc _ _ _ (by simp)).trans (zJ w _);have kF:(((w.alloc (.cells #[.int .i64 c,.slice aP P.length cP,.slice aG G.length cG,.slice aS S.length cS] 25 (0,0))).alloc (.cells #[.int .i64 0,.int .i64 0] 29 (0,0)))).heap[w.heap.size+1]?=some (.cells #[.int .i64 0,.int .i64 0] 29 (0,0)):=by
  have:=zJ (w.alloc (.cells #[.int .i64 c,.slice aP P.length cP,.slice aG G.length cG,.slice aS S.length cS] 25 (0,0))) (.cells #[.int .i64 0,.int .i64 0] 29 (0,0))
  simpa using this
 unfold Lo.fault
 dsimp only
 obtain ⟨R,hR⟩:∃ R:Int × Int,R=(if c<1\/6000<c then (13,-1) else if 6000<P.length\/120000<G.length\/1200<S.length then (7,-1) else if (P.any fun x => !Lo.hasN c x 1)=true\/(G.any fun x => !Lo.hasN c x 1)=true then (16,-1) else if 0<=Lo.idx (Lo.bars c) 0 S then (4,Lo.idx (Lo.bars c) 0 S) else (0,0)):=⟨_,rfl⟩;rw [<-hR];obtain ⟨nP,hnP⟩:∃ n,n=P.length:=⟨_,rfl⟩;obtain ⟨nG,hnG⟩:∃ n,n=G.length:=⟨_,rfl⟩;obtain ⟨nS,hnS⟩:∃ n,n=S.length:=⟨_,rfl⟩;have hR2:=hR;rw [<-hnP,<-hnG,<-hnS] at hR2;rw [<-hnP,<-hnG,<-hnS] at b1 kL kF ⊢;have HR:=zG hR2;have HP:=zG hP;have HG:=zG hG;have HS:=zG hS;have HNP:=zG hnP;have HNG:=zG hnG;have HNS:=zG hnS;clear hP hG hS hR hR2 hnP hnG hnS;go_enter Tryd.func9,Tryd.ntmps9;go_upto_region 1 with fail;generalize ((w.alloc (.cells #[.int .i64 c,.slice aP nP cP,.slice aG nG cG,.slice aS nS cS] 25 (0,0))).alloc (.cells #[.int .i64 0,.int .i64 0] 29 (0,0)))=w1 at b1 kL kF ⊢;have s0:=coQ kL 0;have s1:=coQ kL 1;have s2:=coQ kL 2;have s3:=coQ kL 3;simp at s0 s1 s2 s3;by_cases h1:c<1
 case pos=>
  have HZ:=zG (show R=(13,-1) by rw [HR.out];rw [if_pos (.inl h1)]);clear HR;go_wp2_with fail;refine (zAS _ _ _).mono ?_;rintro e wf ⟨rfl,bf⟩;have kFf:=(bf.block _ (zH kF)).trans kF;have BFf:=b1.trans (bf.mono b1.size);have st0:=coQ kFf 0;have st1:=coQ kFf 1;have fr0:=foQ kFf 0;have fr1:=foQ kFf 1;simp at st0 st1;have KR:=zO (zO kFf 0 (.int .i64 13)) 1 (.int .i64 (-1));have r0:=coQ KR 0;have r1:=coQ KR 1;simp at r0 r1;have BR:=(BFf.setCell (p:=⟨w.heap.size+1,0,none⟩) (by simp) (.int .i64 13)).setCell (p:=⟨w.heap.size+1,1,none⟩) (by simp) (.int .i64 (-1));clear KR;go_wp2;exact bodyPost_ret (v:=.agg #[.int .i64 13,.int .i64 (-1)]) (by simp [results,Tryd.results9,go_sem,r0,r1]) rfl ⟨by rw [HZ.out],BR⟩
 by_cases h2:6000<c
 case pos=>
  have HZ:=zG (show R=(13,-1) by rw [HR.out];rw [if_pos (.inr h2)]);clear HR;go_wp2_with fail;refine (zAS _ _ _).mono ?_;rintro e wf ⟨rfl,bf⟩;have kFf:=(bf.block _ (zH kF)).trans kF;have BFf:=b1.trans (bf.mono b1.size);have st0:=coQ kFf 0;have st1:=coQ kFf 1;have fr0:=foQ kFf 0;have fr1:=foQ kFf 1;simp at st0 st1;have KR:=zO (zO kFf 0 (.int .i64 13)) 1 (.int .i64 (-1));have r0:=coQ KR 0;have r1:=coQ KR 1;simp at r0 r1;have BR:=(BFf.setCell (p:=⟨w.heap.size+1,0,none⟩) (by simp) (.int .i64 13)).setCell (p:=⟨w.heap.size+1,1,none⟩) (by simp) (.int .i64 (-1));clear KR;go_wp2;exact bodyPost_ret (v:=.agg #[.int .i64 13,.int .i64 (-1)]) (by simp [results,Tryd.results9,go_sem,r0,r1]) rfl ⟨by rw [HZ.out],BR⟩
 have hcc:1<=c/\c<=6000:=(by omega);have HCC:=zG hcc;have HR1:=zG (HR.out.trans (if_neg (by omega)));clear HR hcc;have HR:=HR1;clear HR1;by_cases h3:6000<nP
 case pos=>
  have HZ:=zG (show R=(7,-1) by rw [HR.out];rw [if_pos (.inl h3)]);clear HR;go_wp2_with fail;refine (zAS _ _ _).mono ?_;rintro e wf ⟨rfl,bf⟩;have kFf:=(bf.block _ (zH kF)).trans kF;have BFf:=b1.trans (bf.mono b1.size);have st0:=coQ kFf 0;have st1:=coQ kFf 1;have fr0:=foQ kFf 0;have fr1:=foQ kFf 1;simp at st0 st1;have KR:=zO (zO kFf 0 (.int .i64 7)) 1 (.int .i64 (-1));have r0:=coQ KR 0;have r1:=coQ KR 1;simp at r0 r1;have BR:=(BFf.setCell (p:=⟨w.heap.size+1,0,none⟩) (by simp) (.int .i64 7)).setCell (p:=⟨w.heap.size+1,1,none⟩) (by simp) (.int .i64 (-1));clear KR;go_wp2;exact bodyPost_ret (v:=.agg #[.int .i64 7,.int .i64 (-1)]) (by simp [results,Tryd.results9,go_sem,r0,r1]) rfl ⟨by rw [HZ.out],BR⟩
 by_cases h4:120000<nG
 case pos=>
  have HZ:=zG (show R=(7,-1) by rw [HR.out];rw [if_pos (.inr (.inl h4))]);clear HR;go_wp2_with fail;refine (zAS _ _ _).mono ?_;rintro e wf ⟨rfl,bf⟩;have kFf:=(bf.block _ (zH kF)).trans kF;have BFf:=b1.trans (bf.mono b1.size);have st0:=coQ kFf 0;have st1:=coQ kFf 1;have fr0:=foQ kFf 0;have fr1:=foQ kFf 1;simp at st0 st1;have KR:=zO (zO kFf 0 (.int .i64 7)) 1 (.int .i64 (-1));have r0:=coQ KR 0;have r1:=coQ KR 1;simp at r0 r1;have BR:=(BFf.setCell (p:=⟨w.heap.size+1,0,none⟩) (by simp) (.int .i64 7)).setCell (p:=⟨w.heap.size+1,1,none⟩) (by simp) (.int .i64 (-1));clear KR;go_wp2;exact bodyPost_ret (v:=.agg #[.int .i64 7,.int .i64 (-1)]) (by simp [results,Tryd.results9,go_sem,r0,r1]) rfl ⟨by rw [HZ.out],BR⟩
 by_cases h5:1200<nS
 case pos=>
  have HZ:=zG (show R=(7,-1) by rw [HR.out];rw [if_pos (.inr (.inr h5))]);clear HR;go_wp2_with fail;refine (zAS _ _ _).mono ?_;rintro e wf ⟨rfl,bf⟩;have kFf:=(bf.block _ (zH kF)).trans kF;have BFf:=b1.trans (bf.mono b1.size);have st0:=coQ kFf 0;have st1:=coQ kFf 1;have fr0:=foQ kFf 0;have fr1:=foQ kFf 1;simp at st0 st1;have KR:=zO (zO kFf 0 (.int .i64 7)) 1 (.int .i64 (-1));have r0:=coQ KR 0;have r1:=coQ KR 1;simp at r0 r1;have BR:=(BFf.setCell (p:=⟨w.heap.size+1,0,none⟩) (by simp) (.int .i64 7)).setCell (p:=⟨w.heap.size+1,1,none⟩) (by simp) (.int .i64 (-1));clear KR;go_wp2;exact bodyPost_ret (v:=.agg #[.int .i64 7,.int .i64 (-1)]) (by simp [results,Tryd.results9,go_sem,r0,r1]) rfl ⟨by rw [HZ.out],BR⟩
 have HR1:=zG (HR.out.trans (if_neg (by omega)));clear HR;obtain ⟨RS,hRS⟩:∃ RS:Int × Int,RS=(if 0<=Lo.idx (Lo.bars c) 0 S then (4,Lo.idx (Lo.bars c) 0 S) else (0,0)):=⟨_,rfl⟩;have HRS:=zG (show RS=(if 0<=Lo.idx (Lo.bars c) 0 (S.drop 0) then (4,Lo.idx (Lo.bars c) 0 (S.drop 0)) else (0,0)) by rw [List.drop_zero];exact hRS);obtain ⟨RG,hRG⟩:∃ RG:Int × Int,RG=(if ((G.drop 0).any fun x => !Lo.hasN c x 1)=true then (16,-1) else RS):=⟨_,rfl⟩;have HRG:=zG hRG;have HRP:=zG (show R=(if ((P.drop 0).any fun x => !Lo.hasN c x 1)=true then (16,-1) else RG) by
  rw [HR1.out,hRG,<-hRS,List.drop_zero,List.drop_zero]
  cases (P.any fun x => !Lo.hasN c x 1)<;>cases (G.any fun x => !Lo.hasN c x 1)<;>simp)
 have HT:=zG (fun v W=>zAb c v 1 (aP:=aP) (aG:=aG) (aS:=aS) (nP:=nP) (nG:=nG) (nS:=nS) (cP:=cP) (cG:=cG) (cS:=cS) W HCC.out);clear HR1 hRS hRG;go_wp2_with fail;go_loopg [3] nP (fun k v wr=>∃ i,i<=nP/\k=nP-i/\v=.int .i64 (i:Nat)/\Hid (R=(if ((P.drop i).any fun x => !Lo.hasN c x 1)=true then (16,-1) else RG))/\Below w1.heap.size w1 wr)
 case atStart=>exact ⟨0,Nat.zero_le _,rfl,rfl,HRP,Below.refl _ _⟩
 case round=>
  clear HRP s0 s1 s2 s3;obtain ⟨i,hi,rfl,rfl,H,hbr⟩:=hrel;have BP:=b1.trans (hbr.mono b1.size);have kLP:=(hbr.block _ (zH kL)).trans kL;have kFP:=(hbr.block _ (zH kF)).trans kF;clear kL kF;have s0:=coQ kLP 0;have s1:=coQ kLP 1;have s2:=coQ kLP 2;have s3:=coQ kLP 3;simp at s0 s1 s2 s3;have ySr:=zH kLP;by_cases hlt:i<nP
  case pos=>
   have hil:i<P.length:=(by have:=HNP.out;omega);have hR1:=H.out;rw [List.drop_eq_getElem_cons hil,List.any_cons] at hR1;obtain ⟨ao',cap',eqs,hx1,hx2,hat2⟩:=(HP.out.under BP).at;injection eqs with z1 z2 z3;subst z1;obtain ⟨bb,oo,rfl,hb,e0⟩:=hat2 i hil;generalize P[i]=x at e0 hR1;have hq:=HT.out x;rw [Lo.there_has (by decide)] at hq;generalize Lo.hasN c x 1=q at hq hR1;have HQ:=zG hq;have HR2:=zG hR1;clear hat2 z2 z3 hR1 H hil hq hx1 hx2;go_upto_region 8 with fail;go_cut [46] (fun v wd=>v=.bool (!q)/\Below wr.heap.size wr wd)
   case first=>
    refine zK (fun w'=>Below wr.heap.size wr w') (fun _=>false) (by kernel_rfl) ?_;have hH0:Below wr.heap.size wr wr.drew:=(Below.refl _ _).drew;generalize wr.drew=wd0 at hH0 ⊢;refine' tkQ 0 39 hH0 ?hyv ?o1
    case hyv=>
     intro wz hSw;have zc0:=(hSw.cell (p:=⟨w.heap.size,0,none⟩) ySr).trans s0;have zc1:=(hSw.cell (p:=⟨w.heap.size,1,none⟩) ySr).trans s1;have zc2:=(hSw.cell (p:=⟨w.heap.size,2,none⟩) ySr).trans s2;have zc3:=(hSw.cell (p:=⟨w.heap.size,3,none⟩) ySr).trans s3;have zc4:=(hSw.cell (p:=⟨bb,oo+i,none⟩) hb).trans e0;go_simp
     try rfl
    try simp only [Act.put,sT,sZ,sS]
    refine' tkR 1 40 hH0 ?o2
    refine' tkQ 2 41 hH0 ?hyv ?o3
    case hyv=>
     intro wz hSw;have zc0:=(hSw.cell (p:=⟨w.heap.size,0,none⟩) ySr).trans s0;have zc1:=(hSw.cell (p:=⟨w.heap.size,1,none⟩) ySr).trans s1;have zc2:=(hSw.cell (p:=⟨w.heap.size,2,none⟩) ySr).trans s2;have zc3:=(hSw.cell (p:=⟨w.heap.size,3,none⟩) ySr).trans s3;have zc4:=(hSw.cell (p:=⟨bb,oo+i,none⟩) hb).trans e0;go_simp
     try rfl
    try simp only [Act.put,sT,sZ,sS]
    refine' tkR 3 42 hH0 ?o4
    refine' tkR 4 43 hH0 ?o5
    refine' tkQ 5 44 hH0 ?hyv ?o6
    case hyv=>
     intro wz hSw;have zc0:=(hSw.cell (p:=⟨w.heap.size,0,none⟩) ySr).trans s0;have zc1:=(hSw.cell (p:=⟨w.heap.size,1,none⟩) ySr).trans s1;have zc2:=(hSw.cell (p:=⟨w.heap.size,2,none⟩) ySr).trans s2;have zc3:=(hSw.cell (p:=⟨w.heap.size,3,none⟩) ySr).trans s3;have zc4:=(hSw.cell (p:=⟨bb,oo+i,none⟩) hb).trans e0;go_simp
     try rfl
    try simp only [Act.put,sT,sZ,sS]
    refine tnQ 6 (fun K hK=>?_);go_simp;refine (HQ.out _).mono ?_;rintro eq wd1 ⟨rfl,bq1⟩;have hH1:Below wr.heap.size wr wd1:=hH0.trans (bq1.mono hH0.size);refine hK.out _ _ (fun _=>hH1) ?_;clear hK K
    try simp only [Act.put,sT,sZ,sS]
    refine' tkR 7 46 hH1 ?o7
    refine zI (by kernel_rfl) ?_ _;go_wp2_with fail;go_meet
    case rel=>exact ⟨rfl,hH1⟩
   case rest=>
    obtain ⟨rfl,bc⟩:=hcut;have Bc:=BP.trans (bc.mono BP.size);have kFc:=(bc.block _ (zH kFP)).trans kFP;have Hc:=hbr.trans (bc.mono hbr.size);clear s0 s1 s2 s3 e0 HQ kLP kFP hbr
    cases q
    case false=>
     have HZ:=zG (show R=(16,-1) by rw [HR2.out];rfl);clear HR2;have HZ0:=HZ;clear HZ;have HZ:=HZ0;clear HZ0;go_wp2_with fail;refine (zAS _ _ _).mono ?_;rintro e wf ⟨rfl,bf⟩;have kFf:=(bf.block _ (zH kFc)).trans kFc;have BFf:=Bc.trans (bf.mono Bc.size);have st0:=coQ kFf 0;have st1:=coQ kFf 1;have fr0:=foQ kFf 0;have fr1:=foQ kFf 1;simp at st0 st1;have KR:=zO (zO kFf 0 (.int .i64 16)) 1 (.int .i64 (-1));have r0:=coQ KR 0;have r1:=coQ KR 1;simp at r0 r1;have BR:=(BFf.setCell (p:=⟨w.heap.size+1,0,none⟩) (by simp) (.int .i64 16)).setCell (p:=⟨w.heap.size+1,1,none⟩) (by simp) (.int .i64 (-1));clear KR;go_wp2;exact bodyPost_ret (v:=.agg #[.int .i64 16,.int .i64 (-1)]) (by simp [results,Tryd.results9,go_sem,r0,r1]) rfl ⟨by rw [HZ.out],BR⟩
    case true=>
     have HZ:=zG (show R=_ from HR2.out);clear HR2;go_wp2_with fail;go_roundg (nP-(i+1))
     case measure=>omega
     case rel=>exact ⟨i+1,by omega,rfl,by go_num,zG (by rw [HZ.out];simp),Hc⟩
  case neg=>
   have hin:i=nP:=(by omega);have HZ:=zG (show R=RG by rw [H.out,List.drop_of_length_le (by have:=HNP.out;omega)];rfl);clear H hin;have HRG2:=zG (HZ.out.trans HRG.out);clear HZ HRG;obtain ⟨w2,hw2⟩:=nmQ (wr);subst hw2;clear hbr;go_wp2_with fail;go_loopg [4] nG (fun k v wr=>∃ i,i<=nG/\k=nG-i/\v=.int .i64 (i:Nat)/\Hid (R=(if ((G.drop i).any fun x => !Lo.hasN c x 1)=true then (16,-1) else RS))/\Below w2.heap.size w2 wr)
   case atStart=>exact ⟨0,Nat.zero_le _,rfl,rfl,HRG2,Below.refl _ _⟩
   case round=>
    clear HRG2 s0 s1 s2 s3;obtain ⟨i,hi,rfl,rfl,H,hbr⟩:=hrel;have BG:=BP.trans (hbr.mono BP.size);have kLG:=(hbr.block _ (zH kLP)).trans kLP;have kFG:=(hbr.block _ (zH kFP)).trans kFP;clear kLP kFP;have s0:=coQ kLG 0;have s1:=coQ kLG 1;have s2:=coQ kLG 2;have s3:=coQ kLG 3;simp at s0 s1 s2 s3;have ySr:=zH kLG;by_cases hlt:i<nG
    case pos=>
     have hil:i<G.length:=(by have:=HNG.out;omega);have hR1:=H.out;rw [List.drop_eq_getElem_cons hil,List.any_cons] at hR1;obtain ⟨ao',cap',eqs,hx1,hx2,hat2⟩:=(HG.out.under BG).at;injection eqs with z1 z2 z3;subst z1;obtain ⟨bb,oo,rfl,hb,e0⟩:=hat2 i hil;generalize G[i]=x at e0 hR1;have hq:=HT.out x;rw [Lo.there_has (by decide)] at hq;generalize Lo.hasN c x 1=q at hq hR1;have HQ:=zG hq;have HR2:=zG hR1;clear hat2 z2 z3 hR1 H hil hq hx1 hx2;go_upto_region 13 with fail;go_cut [62] (fun v wd=>v=.bool (!q)/\Below wr.heap.size wr wd)
     case first=>
      refine zK (fun w'=>Below wr.heap.size wr w') (fun _=>false) (by kernel_rfl) ?_;have hH0:Below wr.heap.size wr wr.drew:=(Below.refl _ _).drew;generalize wr.drew=wd0 at hH0 ⊢;refine' tkQ 0 55 hH0 ?hyv ?o8
      case hyv=>
       intro wz hSw;have zc0:=(hSw.cell (p:=⟨w.heap.size,0,none⟩) ySr).trans s0;have zc1:=(hSw.cell (p:=⟨w.heap.size,1,none⟩) ySr).trans s1;have zc2:=(hSw.cell (p:=⟨w.heap.size,2,none⟩) ySr).trans s2;have zc3:=(hSw.cell (p:=⟨w.heap.size,3,none⟩) ySr).trans s3;have zc4:=(hSw.cell (p:=⟨bb,oo+i,none⟩) hb).trans e0;go_simp
       try rfl
      try simp only [Act.put,sT,sZ,sS]
      refine' tkR 1 56 hH0 ?o9
      refine' tkQ 2 57 hH0 ?hyv ?o10
      case hyv=>
       intro wz hSw;have zc0:=(hSw.cell (p:=⟨w.heap.size,0,none⟩) ySr).trans s0;have zc1:=(hSw.cell (p:=⟨w.heap.size,1,none⟩) ySr).trans s1;have zc2:=(hSw.cell (p:=⟨w.heap.size,2,none⟩) ySr).trans s2;have zc3:=(hSw.cell (p:=⟨w.heap.size,3,none⟩) ySr).trans s3;have zc4:=(hSw.cell (p:=⟨bb,oo+i,none⟩) hb).trans e0;go_simp
       try rfl
      try simp only [Act.put,sT,sZ,sS]
      refine' tkR 3 58 hH0 ?o11
      refine' tkR 4 59 hH0 ?o12
      refine' tkQ 5 60 hH0 ?hyv ?o13
      case hyv=>
       intro wz hSw;have zc0:=(hSw.cell (p:=⟨w.heap.size,0,none⟩) ySr).trans s0;have zc1:=(hSw.cell (p:=⟨w.heap.size,1,none⟩) ySr).trans s1;have zc2:=(hSw.cell (p:=⟨w.heap.size,2,none⟩) ySr).trans s2;have zc3:=(hSw.cell (p:=⟨w.heap.size,3,none⟩) ySr).trans s3;have zc4:=(hSw.cell (p:=⟨bb,oo+i,none⟩) hb).trans e0;go_simp
       try rfl
      try simp only [Act.put,sT,sZ,sS]
      refine tnQ 6 (fun K hK=>?_);go_simp;refine (HQ.out _).mono ?_;rintro eq wd1 ⟨rfl,bq1⟩;have hH1:Below wr.heap.size wr wd1:=hH0.trans (bq1.mono hH0.size);refine hK.out _ _ (fun _=>hH1) ?_;clear hK K
      try simp only [Act.put,sT,sZ,sS]
      refine' tkR 7 62 hH1 ?o14
      refine zI (by kernel_rfl) ?_ _;go_wp2_with fail;go_meet
      case rel=>exact ⟨rfl,hH1⟩
     case rest=>
      obtain ⟨rfl,bc⟩:=hcut;have Bc:=BG.trans (bc.mono BG.size);have kFc:=(bc.block _ (zH kFG)).trans kFG;have Hc:=hbr.trans (bc.mono hbr.size);clear s0 s1 s2 s3 e0 HQ kLG kFG hbr
      cases q
      case false=>
       have HZ:=zG (show R=(16,-1) by rw [HR2.out];rfl);clear HR2;have HZ0:=HZ;clear HZ;have HZ:=HZ0;clear HZ0;go_wp2_with fail;refine (zAS _ _ _).mono ?_;rintro e wf ⟨rfl,bf⟩;have kFf:=(bf.block _ (zH kFc)).trans kFc;have BFf:=Bc.trans (bf.mono Bc.size);have st0:=coQ kFf 0;have st1:=coQ kFf 1;have fr0:=foQ kFf 0;have fr1:=foQ kFf 1;simp at st0 st1;have KR:=zO (zO kFf 0 (.int .i64 16)) 1 (.int .i64 (-1));have r0:=coQ KR 0;have r1:=coQ KR 1;simp at r0 r1;have BR:=(BFf.setCell (p:=⟨w.heap.size+1,0,none⟩) (by simp) (.int .i64 16)).setCell (p:=⟨w.heap.size+1,1,none⟩) (by simp) (.int .i64 (-1));clear KR;go_wp2;exact bodyPost_ret (v:=.agg #[.int .i64 16,.int .i64 (-1)]) (by simp [results,Tryd.results9,go_sem,r0,r1]) rfl ⟨by rw [HZ.out],BR⟩
      case true=>
       have HZ:=zG (show R=_ from HR2.out);clear HR2;go_wp2_with fail;go_roundg (nG-(i+1))
       case measure=>omega
       case rel=>exact ⟨i+1,by omega,rfl,by go_num,zG (by rw [HZ.out];simp),Hc⟩
    case neg=>
     have hin:i=nG:=(by omega);have HZ:=zG (show R=RS by rw [H.out,List.drop_of_length_le (by have:=HNG.out;omega)];rfl);clear H hin;have HRS2:=zG (HZ.out.trans HRS.out);have HR0:=zG HZ.out;clear HZ HRS;obtain ⟨w3,hw3⟩:=nmQ (wr);subst hw3;clear hbr;go_wp2_with fail;go_loopg [5] nS (fun k v wr=>∃ i,i<=nS/\k=nS-i/\v=.int .i64 (i:Nat)/\Hid (R=(if 0<=Lo.idx (Lo.bars c) i (S.drop i) then (4,Lo.idx (Lo.bars c) i (S.drop i)) else (0,0)))/\Below w3.heap.size w3 wr)
     case atStart=>exact ⟨0,Nat.zero_le _,rfl,rfl,HRS2,Below.refl _ _⟩
     case round=>
      clear HRS2 s0 s1 s2 s3;obtain ⟨i,hi,rfl,rfl,H,hbr⟩:=hrel;have Bq:=BG.trans (hbr.mono BG.size);have kLq:=(hbr.block _ (zH kLG)).trans kLG;have kFq:=(hbr.block _ (zH kFG)).trans kFG;clear kLG kFG;have s0:=coQ kLq 0;have s1:=coQ kLq 1;have s2:=coQ kLq 2;have s3:=coQ kLq 3;simp at s0 s1 s2 s3;have ySr:=zH kLq;by_cases hlt:i<nS
      case neg=>
       have hin:i=nS:=(by omega);subst hin;have HZ:=zG (show R=(0,0) by rw [H.out,List.drop_of_length_le (by have:=HNS.out;omega)];rfl);clear H;have st0:=coQ kFq 0;have st1:=coQ kFq 1;have fr0:=foQ kFq 0;have fr1:=foQ kFq 1;simp at st0 st1;have KR:=zO (zO kFq 0 (.int .i64 0)) 1 (.int .i64 0);have r0:=coQ KR 0;have r1:=coQ KR 1;simp at r0 r1;have BR:=(Bq.setCell (p:=⟨w.heap.size+1,0,none⟩) (by simp) (.int .i64 0)).setCell (p:=⟨w.heap.size+1,1,none⟩) (by simp) (.int .i64 0);clear KR;go_wp2;exact bodyPost_ret (v:=.agg #[.int .i64 0,.int .i64 0]) (by simp [results,Tryd.results9,go_sem,r0,r1]) rfl ⟨by rw [HZ.out],BR⟩
      case pos=>
       have hil:i<S.length:=(by have:=HNS.out;omega);have hR1:=H.out;rw [List.drop_eq_getElem_cons hil] at hR1;obtain ⟨ao',cap',eqs,hx1,hx2,hat2⟩:=(HS.out.under Bq).at;injection eqs with z1 z2 z3;subst z1;obtain ⟨bb,oo,y,rfl,hb,⟨e0,e1,e2,e3,e4,e5⟩,hy⟩:=hat2 i hil;generalize S[i]=x at e0 e1 e2 e3 hy hR1;obtain ⟨op,k,n,t,F,E⟩:=x
       dsimp only at e0 e1 e2 e3
       have hq:=fun (W:World) (b:Below wr.heap.size wr W)=>loopOK27_any c op k n t (aP:=aP) (aG:=aG) (aS:=some ⟨bb,oo,none⟩) (nP:=nP) (nG:=nG) (nS:=nS) (cP:=cP) (cG:=cG) (cS:=cS) (hy.under b).F (hy.under b).E HCC.out;unfold Lo.idx at hR1;generalize Lo.bars c ⟨op,k,n,t,F,E⟩=q at hq hR1;have HQ:=zG hq;have HR2:=zG hR1;clear hat2 z2 z3 hR1 H hil hq hx1 hx2 hy;go_upto_region 18 with fail;go_cut [78] (fun v wd=>v=.bool q/\Below wr.heap.size wr wd)
       case first=>
        refine zK (fun w'=>Below wr.heap.size wr w') (fun _=>false) (by kernel_rfl) ?_;have hH0:Below wr.heap.size wr wr.drew:=(Below.refl _ _).drew;generalize wr.drew=wd0 at hH0 ⊢;refine' tkQ 0 71 hH0 ?hyv ?o15
        case hyv=>
         intro wz hSw;have zc0:=(hSw.cell (p:=⟨w.heap.size,0,none⟩) ySr).trans s0;have zc1:=(hSw.cell (p:=⟨w.heap.size,1,none⟩) ySr).trans s1;have zc2:=(hSw.cell (p:=⟨w.heap.size,2,none⟩) ySr).trans s2;have zc3:=(hSw.cell (p:=⟨w.heap.size,3,none⟩) ySr).trans s3;have zc4:=(hSw.cell (p:=⟨bb,oo+i*6,none⟩) hb).trans e0;have zc5:=(hSw.cell (p:=⟨bb,oo+i*6+1,none⟩) hb).trans e1;have zc6:=(hSw.cell (p:=⟨bb,oo+i*6+2,none⟩) hb).trans e2;have zc7:=(hSw.cell (p:=⟨bb,oo+i*6+3,none⟩) hb).trans e3;have zc8:=(hSw.cell (p:=⟨bb,oo+i*6+4,none⟩) hb).trans e4;have zc9:=(hSw.cell (p:=⟨bb,oo+i*6+5,none⟩) hb).trans e5;go_simp
         try rfl
        try simp only [Act.put,sT,sZ,sS]
        refine' tkR 1 72 hH0 ?o16
        refine' tkQ 2 73 hH0 ?hyv ?o17
        case hyv=>
         intro wz hSw;have zc0:=(hSw.cell (p:=⟨w.heap.size,0,none⟩) ySr).trans s0;have zc1:=(hSw.cell (p:=⟨w.heap.size,1,none⟩) ySr).trans s1;have zc2:=(hSw.cell (p:=⟨w.heap.size,2,none⟩) ySr).trans s2;have zc3:=(hSw.cell (p:=⟨w.heap.size,3,none⟩) ySr).trans s3;have zc4:=(hSw.cell (p:=⟨bb,oo+i*6,none⟩) hb).trans e0;have zc5:=(hSw.cell (p:=⟨bb,oo+i*6+1,none⟩) hb).trans e1;have zc6:=(hSw.cell (p:=⟨bb,oo+i*6+2,none⟩) hb).trans e2;have zc7:=(hSw.cell (p:=⟨bb,oo+i*6+3,none⟩) hb).trans e3;have zc8:=(hSw.cell (p:=⟨bb,oo+i*6+4,none⟩) hb).trans e4;have zc9:=(hSw.cell (p:=⟨bb,oo+i*6+5,none⟩) hb).trans e5;go_simp
         try rfl
        try simp only [Act.put,sT,sZ,sS]
        refine' tkR 3 74 hH0 ?o18
        refine' tkR 4 75 hH0 ?o19
        refine' tkQ 5 76 hH0 ?hyv ?o20
        case hyv=>
         intro wz hSw;have zc0:=(hSw.cell (p:=⟨w.heap.size,0,none⟩) ySr).trans s0;have zc1:=(hSw.cell (p:=⟨w.heap.size,1,none⟩) ySr).trans s1;have zc2:=(hSw.cell (p:=⟨w.heap.size,2,none⟩) ySr).trans s2;have zc3:=(hSw.cell (p:=⟨w.heap.size,3,none⟩) ySr).trans s3;have zc4:=(hSw.cell (p:=⟨bb,oo+i*6,none⟩) hb).trans e0;have zc5:=(hSw.cell (p:=⟨bb,oo+i*6+1,none⟩) hb).trans e1;have zc6:=(hSw.cell (p:=⟨bb,oo+i*6+2,none⟩) hb).trans e2;have zc7:=(hSw.cell (p:=⟨bb,oo+i*6+3,none⟩) hb).trans e3;have zc8:=(hSw.cell (p:=⟨bb,oo+i*6+4,none⟩) hb).trans e4;have zc9:=(hSw.cell (p:=⟨bb,oo+i*6+5,none⟩) hb).trans e5;go_simp
         try rfl
        try simp only [Act.put,sT,sZ,sS]
        refine tnQ 6 (fun K hK=>?_);go_simp;refine (HQ.out _ hH0).mono ?_;rintro eq wd1 ⟨rfl,bq1⟩;have hH1:Below wr.heap.size wr wd1:=hH0.trans (bq1.mono hH0.size);refine hK.out _ _ (fun _=>hH1) ?_;clear hK K
        try simp only [Act.put,sT,sZ,sS]
        refine' tkR 7 78 hH1 ?o21
        refine zI (by kernel_rfl) ?_ _;go_wp2_with fail;go_meet
        case rel=>exact ⟨by simp,hH1⟩
       case rest=>
        obtain ⟨rfl,bc⟩:=hcut;have Bc:=Bq.trans (bc.mono Bq.size);have kFc:=(bc.block _ (zH kFq)).trans kFq;have Hc:=hbr.trans (bc.mono hbr.size);clear s0 s1 s2 s3 e0 e1 e2 e3 e4 e5 HQ kLq kFq hbr
        cases q
        case true=>
         have HZ:=zG (show R=(4,(i:Int)) by rw [HR2.out,if_pos rfl,if_pos (by omega)]);clear HR2;go_wp2_with fail;refine (zAS _ _ _).mono ?_;rintro e wf ⟨rfl,bf⟩;have kFf:=(bf.block _ (zH kFc)).trans kFc;have BFf:=Bc.trans (bf.mono Bc.size);have st0:=coQ kFf 0;have st1:=coQ kFf 1;have fr0:=foQ kFf 0;have fr1:=foQ kFf 1;simp at st0 st1;have KR:=zO (zO kFf 0 (.int .i64 4)) 1 (.int .i64 (i:Int));have r0:=coQ KR 0;have r1:=coQ KR 1;simp at r0 r1;have BR:=(BFf.setCell (p:=⟨w.heap.size+1,0,none⟩) (by simp) (.int .i64 4)).setCell (p:=⟨w.heap.size+1,1,none⟩) (by simp) (.int .i64 (i:Int));clear KR;go_wp2;exact bodyPost_ret (v:=.agg #[.int .i64 4,.int .i64 (i:Int)]) (by simp [results,Tryd.results9,go_sem,r0,r1]) rfl ⟨by rw [HZ.out],BR⟩
        case false=>
         have HZ:=zG (show R=(if 0<=Lo.idx (Lo.bars c) (i+1) (S.drop (i+1)) then (4,Lo.idx (Lo.bars c) (i+1) (S.drop (i+1))) else (0,0)) by rw [HR2.out];simp only [Bool.false_eq_true,if_false]);clear HR2;go_wp2_with fail;go_roundg (nS-(i+1))
         case measure=>omega
         case rel=>exact ⟨i+1,by omega,rfl,by go_num,HZ,Hc⟩
end Go.Proofs.YtgjdkgkgbmbffaaDoor
