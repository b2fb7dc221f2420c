import Derived.Test.YtoldepieaafakaaGreatDoorC47
import Derived.Test.YtoldepieaafakaaGreatDoorC43
set_option linter.unusedVariables false
set_option linter.unusedSimpArgs false
set_option maxHeartbeats 64000000
set_option maxRecDepth 100000
namespace Go.Proofs.YtoldepieaafakaaGreatDoor
open Go.RowKit Go.IntWalk
namespace Sk
theorem vAt_get {V:List Vr} {x:Nat} (h:x<V.length):vAt V (x:Int)=V[x]:=by
 unfold vAt;rw [Int.toNat_natCast,List.getD_eq_getElem?_getD,List.getElem?_eq_getElem h];rfl
theorem sum_take {f:Int->Nat} {l:List Int} {j:Nat} (h:j<l.length):((l.take (j+1)).map f).sum=((l.take j).map f).sum+f l[j]:=by
 rw [List.take_add_one,List.getElem?_eq_getElem h,Option.toList,List.map_append,List.sum_append];simp
theorem sum_ones {α:Type}:∀ l:List α,(l.map fun _=>1).sum=l.length
 | []=>rfl
 | x :: r=>by rw [List.map_cons,List.sum_cons,sum_ones r,List.length_cons];omega
theorem needs_len {S:Sys} (ok:Okay S) {r:Ru} (hr:r ∈ S.R):(needs r).length<=S.V.length:=by
 have hz:=needs_in ok r hr;have h:=sum_sub (f:=fun _=>1) ((needs r).map Int.toNat) (List.range S.V.length) (nodup_toNat _ (zAc r) fun z h=>(hz z h).1) (fun x hx=>by
  obtain ⟨z,h1,rfl⟩:=List.mem_map.1 hx;rw [List.mem_range];have:=hz z h1;omega)
 rwa [sum_ones,sum_ones,List.length_map,List.length_range] at h
end Sk
theorem zBF {ok:Nat->Prop} {w:World} {aV aI aO aR:Option Addr} {cV cI cO cR:Nat} {S:Sk.Sys} (hG:GlobK w) (hP:GlobP w) (hS:HSys ok w aV aI aO aR cV cI cO cR S) :
  Calls Tryz.prog 3 #[.agg #[.slice aV S.V.length cV,.slice aI S.I.length cI,.slice aO S.O.length cO,.slice aR S.R.length cR]] w fun e w'=>e=.returned (.bool true)/\Below w.heap.size w w':=by
 obtain ⟨aoV,capV,evV,hV1,hV2,-⟩:=hS.V.at;injection evV with q1 q2 q3;rw [<-q3] at hV1 hV2;clear q1 q2 q3;obtain ⟨aoR,capR,evR,hR1,hR2,-⟩:=hS.R.at;injection evR with q1 q2 q3;rw [<-q3] at hR1 hR2;clear q1 q2 q3;unfold maxLen at hV2 hR2;have b1:Below w.heap.size w (w.alloc (.cells #[.slice aV S.V.length cV,.slice aI S.I.length cI,.slice aO S.O.length cO,.slice aR S.R.length cR] 26 (0,0))):=(Below.refl _ _).alloc zL _;have kS:=zH w (.cells #[.slice aV S.V.length cV,.slice aI S.I.length cI,.slice aO S.O.length cO,.slice aR S.R.length cR] 26 (0,0));have HS:=zD (hS.under b1);have HG:=zD (hG.under b1);have HP:=zD (hP.under b1);clear hS hG hP;go_enter Tryz.func3,Tryz.ntmps3;go_upto_region 1 with fail;generalize w.alloc (.cells #[.slice aV S.V.length cV,.slice aI S.I.length cI,.slice aO S.O.length cO,.slice aR S.R.length cR] 26 (0,0))=w1 at b1 kS HS HG HP ⊢;go_wp2_with fail;refine (zBH HG.out HP.out).mono ?_;rintro e w2 ⟨rfl,b2⟩;have B2:=b1.trans (b2.mono b1.size);have kS2:=(b2.block _ (zG kS)).trans kS;have HS2:=zD (HS.out.under b2);have HG2:=zD (HG.out.under b2);have HP2:=zD (HP.out.under b2);have s0:=coQ kS2 0;have s1:=coQ kS2 1;have s2:=coQ kS2 2;have s3:=coQ kS2 3;simp at s0 s1 s2 s3;clear HS HG HP kS;go_wp2_with fail;refine (great8_any HS2.out).mono ?_;rintro e w3 ⟨⟨bg,rfl,hfew,b3⟩⟩;have B3:=B2.trans (b3.mono B2.size)
 cases bg
 case true=>
  clear hfew s0 s1 s2 s3;go_wp2;go_ret;exact ⟨rfl,B3⟩
 case false=>
  obtain ⟨⟨lV,lI,lO,lR⟩,hfits⟩:=hfew rfl;have HFIT:=zD (show ∀ r ∈ S.R,r.A.length<=1000000/\r.E.length<=1000000 from fun r hr=>by have:=hfits r hr;exact ⟨by omega,by omega⟩);have kS3:=(b3.block _ (zG kS2)).trans kS2;have HS3:=zD (HS2.out.under b3);have HG3:=zD (HG2.out.under b3);have HP3:=zD (HP2.out.under b3);clear s0 s1 s2 s3 hfew hfits HS2 HG2 HP2 kS2;have s0:=coQ kS3 0;have s1:=coQ kS3 1;have s2:=coQ kS3 2;have s3:=coQ kS3 3;simp at s0 s1 s2 s3;go_wp2_with fail;refine (zR HG3.out HP3.out HS3.out HFIT.out).mono ?_;intro e w4 hp4;have hp4:SpansPost w3 S e w4:=hp4;unfold SpansPost at hp4;clear s0 s1 s2 s3;rcases hp4 with ⟨fc,fa,hfi,hc0,rfl,b4⟩ | ⟨okS,had,g,rfl,hrow,hg,b4⟩
  case inl=>
   have b5:=b4.alloc b4.size (.cells #[.int .i64 fc,.int .i64 fa] 31 (0,0));have kF:=zH w4 (.cells #[.int .i64 fc,.int .i64 fa] 31 (0,0));have kS5:=(b5.block _ (zG kS3)).trans kS3;have HMO:=zD (most7_any (HG3.out.under b5) (HP3.out.under b5) (HS3.out.under b5) HFIT.out);have B5:=B3.trans (b5.mono B3.size);have HFI:=zD hfi;have HC0:=zD hc0;clear HS3 HG3 HP3 kS3 hfi hc0;go_upto_region 6 with fail;generalize w4.alloc (.cells #[.int .i64 fc,.int .i64 fa] 31 (0,0))=w5 at b5 kF kS5 HMO B5 ⊢;have s0:=coQ kS5 0;have s1:=coQ kS5 1;have s2:=coQ kS5 2;have s3:=coQ kS5 3;simp at s0 s1 s2 s3;go_wp2_with fail;refine HMO.out.mono ?_;intro e w6 hp6;have hp6:MostPost w5 S e w6:=hp6;unfold MostPost at hp6;clear s0 s1 s2 s3 HMO;rcases hp6 with ⟨fc2,fa2,hfi2,-,rfl,b6⟩ | ⟨ok2,ah2,m,-⟩
   case inr=>exact absurd (HFI.out.det (.inr (.inr ⟨ok2,ah2,rfl,rfl⟩))).1 HC0.out
   case inl=>
    obtain ⟨e1,e2⟩:=hfi2.det HFI.out;subst e1 e2;have b7:=b6.alloc b6.size (.cells #[.int .i64 fc2,.int .i64 fa2] 31 (0,0));have kH:=zH w6 (.cells #[.int .i64 fc2,.int .i64 fa2] 31 (0,0));have kF7:=(b7.block _ (zG kF)).trans kF;have HE:=zD (B5.trans (b7.mono B5.size));have hq:(fc2 != 0)=true:=(by simpa using HC0.out);clear kF kS5 B5;go_upto_region 7 with fail;generalize w6.alloc (.cells #[.int .i64 fc2,.int .i64 fa2] 31 (0,0))=w7 at b7 kH kF7 HE ⊢;have f0:=coQ kF7 0;have f1:=coQ kF7 1;have g0:=coQ kH 0;have g1:=coQ kH 1;simp at f0 f1 g0 g1;clear kF7 kH;go_wp2;go_ret;exact ⟨by simp,HE.out⟩
  case inr=>
   have b5:=b4.alloc b4.size (.cells #[.int .i64 0,.int .i64 0] 31 (0,0));have kF:=zH w4 (.cells #[.int .i64 0,.int .i64 0] 31 (0,0));have kS5:=(b5.block _ (zG kS3)).trans kS3;have HMO:=zD (most7_any (HG3.out.under b5) (HP3.out.under b5) (HS3.out.under b5) HFIT.out);have B5:=B3.trans (b5.mono B3.size);have HS5:=zD (HS3.out.under b5);have HB5:=zD (hrow.under ((Below.refl w4.heap.size w4).alloc zL (.cells #[.int .i64 0,.int .i64 0] 31 (0,0))));have hnV:=okS.nV;have hnR:=okS.nR;have hln:=(Sk.spans_spanned okS).len;have HOK:=zD okS;have HAD:=zD had;clear HS3 HG3 HP3 kS3 okS had hrow;go_upto_region 6 with fail;generalize w4.alloc (.cells #[.int .i64 0,.int .i64 0] 31 (0,0))=w5 at b5 kF kS5 HMO B5 HS5 HB5 ⊢;have s0:=coQ kS5 0;have s1:=coQ kS5 1;have s2:=coQ kS5 2;have s3:=coQ kS5 3;simp at s0 s1 s2 s3;go_wp2_with fail;refine HMO.out.mono ?_;intro e w6 hp6;have hp6:MostPost w5 S e w6:=hp6;unfold MostPost at hp6;clear s0 s1 s2 s3 HMO;rcases hp6 with ⟨fc2,fa2,hfi2,hc2,rfl,b6⟩ | ⟨-,-,m,rfl,hmo,b6⟩
   case inl=>exact absurd (hfi2.det (.inr (.inr ⟨HOK.out,HAD.out,rfl,rfl⟩))).1 hc2
   case inr=>
    have b7:=b6.alloc b6.size (.cells #[.int .i64 0,.int .i64 0] 31 (0,0));have kH:=zH w6 (.cells #[.int .i64 0,.int .i64 0] 31 (0,0));have kF7:=(b7.block _ (zG kF)).trans kF;have kS7:=(b7.block _ (zG kS5)).trans kS5;have HS7:=zD (HS5.out.under b7);have HB7:=zD (HB5.out.under b7);have B7:=B5.trans (b7.mono B5.size);have HMO:=zD hmo;clear kF kS5 HS5 HB5 B5 hmo;go_upto_region 7 with fail;generalize w6.alloc (.cells #[.int .i64 0,.int .i64 0] 31 (0,0))=w7 at b7 kH kF7 kS7 HS7 HB7 B7 ⊢;have f0:=coQ kF7 0;have g0:=coQ kH 0;simp at f0 g0;have yS7:=zG kS7;clear kF7 kH;go_upto_region 9 with fail;clear f0 g0;go_wp2_with fail;go_loopg [7] S.R.length (fun k v wr=>∃ (i:Nat),i<=S.R.length/\k=S.R.length-i/\v=.int .i64 (i:Nat)/\Below w7.heap.size w7 wr)
    case atStart=>exact ⟨0,Nat.zero_le _,rfl,rfl,Below.refl _ _⟩
    case round=>
     obtain ⟨i,hi,rfl,rfl,hbr⟩:=hrel;by_cases hlt:i<S.R.length
     case neg=>
      have hin:i=S.R.length:=(by omega);subst hin;have kSr:=(hbr.block _ yS7).trans kS7;have s0:=coQ kSr 0;have s1:=coQ kSr 1;have s2:=coQ kSr 2;have s3:=coQ kSr 3;simp at s0 s1 s2 s3;clear kSr;obtain ⟨wo,hwo⟩:=nmQ (wr);subst hwo;go_wp2_with fail;clear s0 s1 s2 s3;go_loopg [12] S.V.length (fun k v wr=>∃ (x:Nat),x<=S.V.length/\k=S.V.length-x/\v=.int .i64 (x:Nat)/\Below w7.heap.size w7 wr)
      case atStart=>exact ⟨0,Nat.zero_le _,rfl,rfl,hbr⟩
      case round=>
       obtain ⟨x,hx,rfl,rfl,hbx⟩:=hrel;have kSx:=(hbx.block _ yS7).trans kS7;have s0:=coQ kSx 0;have s1:=coQ kSx 1;have s2:=coQ kSx 2;have s3:=coQ kSx 3;simp at s0 s1 s2 s3;by_cases hlt:x<S.V.length
       case neg=>
        have hxn:x=S.V.length:=(by omega);subst hxn;clear kSx s0 s1 s2 s3;go_wp2;go_ret;exact ⟨rfl,B7.trans (hbx.mono B7.size)⟩
       case pos=>
        have hxl:x<(Sk.spans S).length:=(by omega);obtain ⟨x0,x1⟩:=(HB7.out.under hbx).at hxl;have hwhy:=fun h=>(Sk.spans_spanned HOK.out).whyAt HOK.out (v:=(x:Int)) (Int.natCast_nonneg x) h;rw [Sk.spAt_get hxl] at hwhy;obtain ⟨u,hu⟩:=nmQ (((Sk.spans S)[x]).1);obtain ⟨v,hv⟩:=nmQ (((Sk.spans S)[x]).2);rw [<-hu] at x0 hwhy;rw [<-hv] at x1 hwhy;have HWY:=zD hwhy;have b8:=hbx.alloc hbx.size (.cells #[.int .i64 u,.int .i64 v] 44 (0,0));have kX:=zH wr (.cells #[.int .i64 u,.int .i64 v] 44 (0,0));have kSy:=(b8.block _ yS7).trans kS7;clear hu hv hwhy kSx;go_upto_region 27 with fail;clear s0 s1 s2 s3 x0 x1;generalize wr.alloc (.cells #[.int .i64 u,.int .i64 v] 44 (0,0))=w8 at b8 kX kSy ⊢;have c0:=coQ kX 0;have c1:=coQ kX 1;simp at c0 c1;have s0:=coQ kSy 0;have s1:=coQ kSy 1;have s2:=coQ kSy 2;have s3:=coQ kSy 3;simp at s0 s1 s2 s3;clear kX kSy;by_cases hle:v<=u
        case pos=>
         have hd:decide (v<=u)=true:=(by simp [hle]);go_wp2_with fail;go_roundg (S.V.length-(x+1))
         case measure=>omega
         case rel=>exact ⟨x+1,by omega,rfl,by go_num,b8⟩
        case neg=>
         have hd:decide (v<=u)=false:=(by simp [hle]);rcases HWY.out (by omega) with ev | ⟨k,hk,ev,hm⟩
         case inl=>
          subst ev;have hb:(((S.R.length:Nat):Int)==((S.R.length:Nat):Int))=true:=(by simp);go_wp2_with fail;go_roundg (S.V.length-(x+1))
          case measure=>omega
          case rel=>exact ⟨x+1,by omega,rfl,by go_num,b8⟩
         case inr=>
          subst ev;have hb:(((k:Nat):Int)==((S.R.length:Nat):Int))=false:=(by simp;omega);obtain ⟨ao,cp,e1,-,-,hat⟩:=(HS7.out.under b8).R.at;injection e1 with q1 q2 q3;obtain ⟨bR,oR,⟨aA,nA,cA,aE,nE,cE⟩,hbR,yR,hrat,hru⟩:=hat k hk;rw [hbR] at q1;subst q1;obtain ⟨r,hr⟩:=nmQ (S.R[k]);have hfr:=HFIT.out r (by rw [hr];exact List.getElem_mem hk);rw [<-hr] at hrat hru hm;obtain ⟨d0,d1,d2,d3,d4,d5⟩:=hrat;simp only at d4 d5;have HRU:=zD hru;have HFR:=zD hfr;have HIN:=zD (show (Sk.needs r).any (fun z=>z==(x:Int))=true by rw [List.any_eq_true];exact ⟨_,hm,by simp⟩);clear hat q2 q3 hbR hr hfr hru hm;go_wp2_with fail;refine (vA HRU.out HFR.out.1 HFR.out.2).mono ?_;rintro e w9 ⟨vn,rfl,hn,b9⟩;have b10:=b8.trans (b9.mono b8.size);have HNL:=zD hn;obtain ⟨an,cn,rfl,-,-,-⟩:=hn.at;clear hn d0 d1 d2 d3 d4 d5 HRU;go_wp2_with fail;refine (in12_any (x:Int) HNL.out).mono ?_;rw [HIN.out];rintro e w10 ⟨rfl,b11⟩;have b12:=b10.trans (b11.mono b10.size);clear HNL;go_wp2_with fail;go_roundg (S.V.length-(x+1))
          case measure=>omega
          case rel=>exact ⟨x+1,by omega,rfl,by go_num,b12⟩
     case pos=>
      have kSr:=(hbr.block _ yS7).trans kS7;have s0:=coQ kSr 0;have s1:=coQ kSr 1;have s2:=coQ kSr 2;have s3:=coQ kSr 3;simp at s0 s1 s2 s3;obtain ⟨wo,hwo⟩:=nmQ (wr);subst hwo;obtain ⟨ao,cp,e1,-,-,hat⟩:=(HS7.out.under hbr).R.at;injection e1 with q1 q2 q3;obtain ⟨bR,oR,⟨aA,nA,cA,aE,nE,cE⟩,hbR,yR,hrat,hru⟩:=hat i hlt;rw [hbR] at q1;subst q1;have HNA:=zD (fun (z:Int) (hz:z ∈ Sk.needs S.R[i])=>(Sk.spans_spanned HOK.out).needAt HOK.out HAD.out hlt hz);have HPA:=zD (fun e=>(Sk.spans_spanned HOK.out).preAt HOK.out hlt e);have HMS:=zD (Nat.le_trans ((Sk.spans_spanned HOK.out).most HOK.out HAD.out hlt (zAc _)) (HMO.out i hlt));obtain ⟨r,hr⟩:=nmQ (S.R[i]);have hrm:r ∈ S.R:=(by rw [hr];exact List.getElem_mem hlt);have HNI:=zD (Sk.needs_in HOK.out r hrm);have hnl:=Sk.needs_len HOK.out hrm;have HPR:=zD (fun e=>Sk.pre_in HOK.out hrm e);have hout:=(HOK.out.rules r hrm).1.1;have HFR:=zD (HFIT.out r hrm);rw [<-hr] at hrat hru HNA HPA HMS;obtain ⟨d0,d1,d2,d3,d4,d5⟩:=hrat;simp only at d4 d5;have HRU:=zD hru;clear hat q2 q3 hbR hr hrm hru;go_wp2_with fail;refine (vA HRU.out HFR.out.1 HFR.out.2).mono ?_;rintro e w8 ⟨vn,rfl,hn,b8⟩;have HNL:=zD hn;obtain ⟨an,cn,rfl,hn1,hn2,-⟩:=hn.at;unfold maxLen at hn2;have B8:=hbr.trans (b8.mono hbr.size);have kS8:=(b8.block _ (zG kSr)).trans kSr;have z8:=b8.size;have yR8:bR<w8.heap.size:=Nat.lt_of_lt_of_le yR z8;have D0:=(b8.cell (p:=⟨bR,oR+i*6,none⟩) yR).trans d0;have D2:=(b8.cell (p:=⟨bR,oR+i*6+2,none⟩) yR).trans d2;have D4:=(b8.cell (p:=⟨bR,oR+i*6+4,none⟩) yR).trans d4;clear s0 s1 s2 s3 kSr hn d0 d1 d2 d3 d4 d5;have yS8:=zG kS8;have s0:=coQ kS8 0;have s1:=coQ kS8 1;have s2:=coQ kS8 2;have s3:=coQ kS8 3;simp at s0 s1 s2 s3;obtain ⟨xo,hxo⟩:∃ xo:Nat,(xo:Int)=r.out:=⟨r.out.toNat,by omega⟩;rw [<-hxo] at D2 hout;have hxoV:xo<S.V.length:=(by omega);obtain ⟨avV,cvV,evV2,-,-,hatV⟩:=(HS7.out.under B8).V.at;injection evV2 with q1 q2 q3;obtain ⟨bV,oV,hbV,yV,-,V1⟩:=hatV xo hxoV;rw [hbV] at q1;subst q1;obtain ⟨vx,hvx⟩:=nmQ (S.V[xo]);rw [<-hvx] at V1;have HCV:=zD (show Sk.cnt vx=Sk.cnt (Sk.vAt S.V r.out) by rw [hvx,<-hxo,Sk.vAt_get hxoV]);have hcx:Sk.cnt vx<=300:=(by rw [HCV.out];exact Sk.cnt_le8 HOK.out r.out (by omega) (by omega));clear hatV q2 q3 hbV hvx hout hxo;go_upto_region 13 with fail;refine zK (fun w'=>Below w8.heap.size w8 w') (fun _=>false) (by kernel_rfl) ?_;have hH0:Below w8.heap.size w8 w8.drew:=(Below.refl _ _).drew;generalize w8.drew=wd0 at hH0 ⊢;refine' tkR 0 53 hH0 ?o1
      refine' tkQ 1 54 hH0 ?hyv ?o2
      case hyv=>
       intro wz hSw;have zc0:=(hSw.cell (p:=⟨w.heap.size,0,none⟩) yS8).trans s0;have zc1:=(hSw.cell (p:=⟨w.heap.size,3,none⟩) yS8).trans s3;have zc2:=(hSw.cell (p:=⟨bR,oR+i*6+2,none⟩) yR8).trans D2;have zc3:=(hSw.cell (p:=⟨bV,oV+xo*2+1,none⟩) yV).trans V1;go_simp
       try rfl
      try simp only [Act.put,sT,sZ,sS]
      refine' tkR 2 55 hH0 ?o3
      refine' tkQ 3 56 hH0 ?hyv ?o4
      case hyv=>
       intro wz hSw;have zc0:=(hSw.cell (p:=⟨w.heap.size,0,none⟩) yS8).trans s0;have zc1:=(hSw.cell (p:=⟨w.heap.size,3,none⟩) yS8).trans s3;have zc2:=(hSw.cell (p:=⟨bR,oR+i*6+2,none⟩) yR8).trans D2;have zc3:=(hSw.cell (p:=⟨bV,oV+xo*2+1,none⟩) yV).trans V1;go_simp
       try rfl
      try simp only [Act.put,sT,sZ,sS]
      refine' tkR 4 57 hH0 ?o5
      refine' tkR 5 58 hH0 ?o6
      refine' tkR 6 59 hH0 ?o7
      refine' tkQ 7 60 hH0 ?hyv ?o8
      case hyv=>
       intro wz hSw;have zc0:=(hSw.cell (p:=⟨w.heap.size,0,none⟩) yS8).trans s0;have zc1:=(hSw.cell (p:=⟨w.heap.size,3,none⟩) yS8).trans s3;have zc2:=(hSw.cell (p:=⟨bR,oR+i*6+2,none⟩) yR8).trans D2;have zc3:=(hSw.cell (p:=⟨bV,oV+xo*2+1,none⟩) yV).trans V1;go_simp
       try rfl
      try simp only [Act.put,sT,sZ,sS]
      refine' tkR 8 61 hH0 ?o9
      refine' tkR 9 62 hH0 ?o10
      refine' tkQ 10 63 hH0 ?hyv ?o11
      case hyv=>
       intro wz hSw;have zc0:=(hSw.cell (p:=⟨w.heap.size,0,none⟩) yS8).trans s0;have zc1:=(hSw.cell (p:=⟨w.heap.size,3,none⟩) yS8).trans s3;have zc2:=(hSw.cell (p:=⟨bR,oR+i*6+2,none⟩) yR8).trans D2;have zc3:=(hSw.cell (p:=⟨bV,oV+xo*2+1,none⟩) yV).trans V1;go_simp
       try rfl
      try simp only [Act.put,sT,sZ,sS]
      refine tnQ 11 (fun K hK=>?_);go_simp;refine (zBD vx wd0).mono ?_;rintro eq wd1 ⟨rfl,ew1⟩;have hH1:Below w8.heap.size w8 wd1:=(by rw [<-ew1];exact hH0);refine hK.out _ _ (fun _=>hH1) ?_;clear hK K
      try simp only [Act.put,sT,sZ,sS]
      refine' tkR 12 9 hH1 ?o12
      refine zJ (by kernel_rfl) ?_ _;obtain ⟨c0,hc0⟩:=nmQ (Sk.cnt vx);rw [<-hc0] at hcx ⊢;have HC0:=zD (hc0.trans HCV.out);clear hc0 HCV s0 s1 s2 s3 V1 D2 kS8;have B9:=B8.trans (hH1.mono B8.size);go_wp2_with fail;go_loopg [9,10] (Sk.needs r).length (fun k v9 v10 wr=>∃ (j s:Nat),j<=(Sk.needs r).length/\k=(Sk.needs r).length-j/\v9=.int .i64 (s:Nat)/\v10=.int .i64 (j:Nat)/\s<=300*(j+1)/\Hid (s=c0+(((Sk.needs r).take j).map fun z=>Sk.cnt (Sk.vAt S.V z)).sum)/\Below wd1.heap.size wd1 wr)
      case atStart=>exact ⟨0,c0,Nat.zero_le _,rfl,rfl,rfl,by omega,zD (by simp),Below.refl _ _⟩
      case round=>
       obtain ⟨j,s,hj,rfl,rfl,rfl,hs,HSM,fx⟩:=hrel;have Bx:=B9.trans (fx.mono B9.size);have b8x:=hH1.trans (fx.mono hH1.size);have kSx:=(Bx.block _ yS7).trans kS7;have s0:=coQ kSx 0;have s1:=coQ kSx 1;have s2:=coQ kSx 2;have s3:=coQ kSx 3;simp at s0 s1 s2 s3;have ySx:=zG kSx;by_cases hjl:j<(Sk.needs r).length
       case pos=>
        obtain ⟨ann,cnn,e2,-,-,hatn⟩:=(HNL.out.under b8x).at;injection e2 with q1 q2 q3;obtain ⟨bN,oN,hbN,yN,xN⟩:=hatn j hjl;rw [hbN] at q1;subst q1;have hzm:(Sk.needs r)[j] ∈ Sk.needs r:=List.getElem_mem hjl;have hzin:=HNI.out _ hzm;have hna:=HNA.out _ hzm;obtain ⟨x,hx⟩:∃ x:Nat,(x:Int)=(Sk.needs r)[j]:=⟨((Sk.needs r)[j]).toNat,by omega⟩;have HST:=zD (Sk.sum_take (f:=fun z=>Sk.cnt (Sk.vAt S.V z)) hjl);rw [<-hx] at xN hzin hna HST;have hxV:x<S.V.length:=(by omega);have hxl:x<(Sk.spans S).length:=(by omega);rw [Sk.spAt_get hxl] at hna;obtain ⟨x0,x1⟩:=(HB7.out.under Bx).at hxl;have yg:=(HB7.out.under Bx).lt;obtain ⟨u,hu⟩:=nmQ (((Sk.spans S)[x]).1);obtain ⟨v,hv⟩:=nmQ (((Sk.spans S)[x]).2);rw [<-hu] at x0 hna;rw [<-hv] at x1 hna;obtain ⟨avV,cvV,evV2,-,-,hatV⟩:=(HS7.out.under Bx).V.at;injection evV2 with q1 q5 q6;obtain ⟨bV2,oV2,hbV,yV2,-,V2⟩:=hatV x hxV;rw [hbV] at q1;injection q1 with q1;injection q1 with q7 q8 q9;subst q7 q8;obtain ⟨vz,hvz⟩:=nmQ (S.V[x]);rw [<-hvz] at V2;have HCZ:=zD (show Sk.cnt vz=Sk.cnt (Sk.vAt S.V (x:Int)) by rw [hvz,Sk.vAt_get hxV]);have hcz:Sk.cnt vz<=300:=(by rw [HCZ.out];exact Sk.cnt_le8 HOK.out (x:Int) (by omega) (by omega));have hd1:decide (u≥(i:Int))=false:=(by simp;omega);have hd1':decide ((i:Int)<=u)=false:=(by simp;omega);have hd2:decide (v<(i:Int))=false:=(by simp;omega);have b3:=(Below.refl wr.heap.size wr).alloc zL (.cells #[.int .i64 u,.int .i64 v] 44 (0,0));have kX:=zH wr (.cells #[.int .i64 u,.int .i64 v] 44 (0,0));have zX:=b3.size;have S0:=(b3.cell (p:=⟨w.heap.size,0,none⟩) ySx).trans s0;have XN:=(b3.cell (p:=⟨bN,oN+j,none⟩) yN).trans xN;have V3:=(b3.cell (p:=⟨bV,oV+x*2+1,none⟩) yV2).trans V2;have yS3:w.heap.size<(wr.alloc (.cells #[.int .i64 u,.int .i64 v] 44 (0,0))).heap.size:=Nat.lt_of_lt_of_le ySx zX;have yN3:bN<(wr.alloc (.cells #[.int .i64 u,.int .i64 v] 44 (0,0))).heap.size:=Nat.lt_of_lt_of_le yN zX;have yV3:bV<(wr.alloc (.cells #[.int .i64 u,.int .i64 v] 44 (0,0))).heap.size:=Nat.lt_of_lt_of_le yV2 zX;clear hatn hatV q2 q3 hbN q5 q6 q9 hbV hu hv hvz hzm hzin hna hx kSx V2;go_upto_region 18 with fail;generalize wr.alloc (.cells #[.int .i64 u,.int .i64 v] 44 (0,0))=w10 at b3 kX zX S0 XN V3 yS3 yN3 yV3 ⊢;have c0x:=coQ kX 0;have c1x:=coQ kX 1;simp at c0x c1x;clear kX s0 s1 s2 s3 x0 x1 xN;go_upto_region 20 with fail;clear c0x c1x;refine zK (fun w'=>Below w10.heap.size w10 w') (fun _=>false) (by kernel_rfl) ?_;have hH0:Below w10.heap.size w10 w10.drew:=(Below.refl _ _).drew;generalize w10.drew=wd0 at hH0 ⊢;refine' tkR 0 88 hH0 ?o13
        refine' tkR 1 89 hH0 ?o14
        refine' tkQ 2 90 hH0 ?hyv ?o15
        case hyv=>
         intro wz hSw;have zc0:=(hSw.cell (p:=⟨w.heap.size,0,none⟩) yS3).trans S0;have zc1:=(hSw.cell (p:=⟨bN,oN+j,none⟩) yN3).trans XN;have zc2:=(hSw.cell (p:=⟨bV,oV+x*2+1,none⟩) yV3).trans V3;go_simp
         try rfl
        try simp only [Act.put,sT,sZ,sS]
        refine' tkR 3 91 hH0 ?o16
        refine' tkR 4 92 hH0 ?o17
        refine' tkR 5 93 hH0 ?o18
        refine' tkQ 6 94 hH0 ?hyv ?o19
        case hyv=>
         intro wz hSw;have zc0:=(hSw.cell (p:=⟨w.heap.size,0,none⟩) yS3).trans S0;have zc1:=(hSw.cell (p:=⟨bN,oN+j,none⟩) yN3).trans XN;have zc2:=(hSw.cell (p:=⟨bV,oV+x*2+1,none⟩) yV3).trans V3;go_simp
         try rfl
        try simp only [Act.put,sT,sZ,sS]
        refine' tkR 7 95 hH0 ?o20
        refine' tkR 8 96 hH0 ?o21
        refine' tkQ 9 97 hH0 ?hyv ?o22
        case hyv=>
         intro wz hSw;have zc0:=(hSw.cell (p:=⟨w.heap.size,0,none⟩) yS3).trans S0;have zc1:=(hSw.cell (p:=⟨bN,oN+j,none⟩) yN3).trans XN;have zc2:=(hSw.cell (p:=⟨bV,oV+x*2+1,none⟩) yV3).trans V3;go_simp
         try rfl
        try simp only [Act.put,sT,sZ,sS]
        refine tnQ 10 (fun K hK=>?_);go_simp;refine (zBD vz wd0).mono ?_;rintro eq wd1 ⟨rfl,ew1⟩;have hH1:Below w10.heap.size w10 wd1:=(by rw [<-ew1];exact hH0);refine hK.out _ _ (fun _=>hH1) ?_;clear hK K
        try simp only [Act.put,sT,sZ,sS]
        refine' tkR 11 99 hH1 ?o23
        refine' tkR 12 9 hH1 ?o24
        refine zJ (by kernel_rfl) ?_ _;obtain ⟨cz,hcz2⟩:=nmQ (Sk.cnt vz);rw [<-hcz2] at hcz ⊢;have HE:=zD (show s+cz=c0+(((Sk.needs r).take (j+1)).map fun z=>Sk.cnt (Sk.vAt S.V z)).sum by
         have h1:=HST.out;have h2:=HSM.out;have h3:=hcz2.trans HCZ.out;omega)
        have HBn:=zD ((fx.trans (b3.mono fx.size)).trans (hH1.mono (fx.trans (b3.mono fx.size)).size));clear hcz2 HST HSM HCZ S0 XN V3;go_wp2_with fail;go_roundg ((Sk.needs r).length-(j+1))
        case measure=>omega
        case rel=>exact ⟨j+1,s+cz,by omega,rfl,by rw [i64_in ((s:Int)+(cz:Int)) (by omega)];go_num,by go_num,by omega,zD HE.out,HBn.out⟩
       case neg=>
        have hjn:j=(Sk.needs r).length:=(by omega);have hsm:s<=m:=by
         have h1:=HSM.out;rw [hjn,List.take_length,HC0.out] at h1;rw [h1];exact HMS.out
        have hms:decide ((m:Int)<(s:Int))=false:=(by simp;omega);have yRx:bR<wr.heap.size:=Nat.lt_of_lt_of_le yR8 b8x.size;have E0:=(b8x.cell (p:=⟨bR,oR+i*6,none⟩) yR8).trans D0;have E4:=(b8x.cell (p:=⟨bR,oR+i*6+4,none⟩) yR8).trans D4;clear kSx D0 D4;subst hjn;by_cases hop:r.op=13
        case pos=>
         obtain ⟨hA2,hA3,hA4⟩:=HPR.out hop;have hTo:=HPA.out hop;obtain ⟨aaA,caA,evA,-,-,hatA⟩:=((HRU.out.A).under (b8.trans (b8x.mono b8.size))).at;injection evA with q1 q2 q3;obtain ⟨bA,oA,hbA,yA,xA⟩:=hatA 1 (by omega);rw [hbA] at q1;simp only at q1 q2;subst q1;have eA:r.A[1]'(by omega)=r.A.getD 1 0:=(by simp [List.getD_eq_getElem?_getD,show 1<r.A.length by omega]);rw [eA] at xA;obtain ⟨x,hx⟩:∃ x:Nat,(x:Int)=r.A.getD 1 0:=⟨(r.A.getD 1 0).toNat,by omega⟩;rw [<-hx] at xA hA3 hA4 hTo;have hxl:x<(Sk.spans S).length:=(by omega);obtain ⟨-,x1⟩:=(HB7.out.under Bx).at hxl;have yg:=(HB7.out.under Bx).lt;rw [Sk.spAt_get hxl] at hTo;rw [hTo] at x1;rw [hop] at E0;rw [q2,hA2] at E4;have hxV:x<S.V.length:=(by omega);have hne:(((S.R.length:Nat):Int) != ((S.R.length:Nat):Int))=false:=(by simp);clear hatA q3 hbA hx hTo hA2 hA3 hA4 eA q2;go_upto_region 21 with fail;refine zK (fun w'=>Below wr.heap.size wr w') (fun _=>false) (by kernel_rfl) ?_;have hH0:Below wr.heap.size wr wr.drew:=(Below.refl _ _).drew;generalize wr.drew=wd0 at hH0 ⊢;refine' tkR 0 100 hH0 ?o25
         refine' tkQ 1 101 hH0 ?hyv ?o26
         case hyv=>
          intro wz hSw;have zc0:=(hSw.cell (p:=⟨w.heap.size,3,none⟩) ySx).trans s3;have zc1:=(hSw.cell (p:=⟨bR,oR+i*6,none⟩) yRx).trans E0;have zc2:=(hSw.cell (p:=⟨bR,oR+i*6+4,none⟩) yRx).trans E4;have zc3:=(hSw.cell (p:=⟨bA,oA+1,none⟩) yA).trans xA;have zc4:=(hSw.cell (p:=⟨g,x*2+1,none⟩) yg).trans x1;go_simp
          try rfl
         try simp only [Act.put,sT,sZ,sS]
         refine' tkR 2 102 hH0 ?o27
         refine' tkR 3 103 hH0 ?o28
         refine' tkR 4 104 hH0 ?o29
         refine' tkQ 5 105 hH0 ?hyv ?o30
         case hyv=>
          intro wz hSw;have zc0:=(hSw.cell (p:=⟨w.heap.size,3,none⟩) ySx).trans s3;have zc1:=(hSw.cell (p:=⟨bR,oR+i*6,none⟩) yRx).trans E0;have zc2:=(hSw.cell (p:=⟨bR,oR+i*6+4,none⟩) yRx).trans E4;have zc3:=(hSw.cell (p:=⟨bA,oA+1,none⟩) yA).trans xA;have zc4:=(hSw.cell (p:=⟨g,x*2+1,none⟩) yg).trans x1;go_simp
          try rfl
         try simp only [Act.put,sT,sZ,sS]
         refine' tkR 6 106 hH0 ?o31
         refine' tkR 7 107 hH0 ?o32
         refine' tkR 8 108 hH0 ?o33
         refine' tkR 9 109 hH0 ?o34
         refine' tkQ 10 110 hH0 ?hyv ?o35
         case hyv=>
          intro wz hSw;have zc0:=(hSw.cell (p:=⟨w.heap.size,3,none⟩) ySx).trans s3;have zc1:=(hSw.cell (p:=⟨bR,oR+i*6,none⟩) yRx).trans E0;have zc2:=(hSw.cell (p:=⟨bR,oR+i*6+4,none⟩) yRx).trans E4;have zc3:=(hSw.cell (p:=⟨bA,oA+1,none⟩) yA).trans xA;have zc4:=(hSw.cell (p:=⟨g,x*2+1,none⟩) yg).trans x1;go_simp
          try rfl
         try simp only [Act.put,sT,sZ,sS]
         refine' tkR 11 111 hH0 ?o36
         refine' tkR 12 112 hH0 ?o37
         refine' tkR 13 113 hH0 ?o38
         refine' tkQ 14 114 hH0 ?hyv ?o39
         case hyv=>
          intro wz hSw;have zc0:=(hSw.cell (p:=⟨w.heap.size,3,none⟩) ySx).trans s3;have zc1:=(hSw.cell (p:=⟨bR,oR+i*6,none⟩) yRx).trans E0;have zc2:=(hSw.cell (p:=⟨bR,oR+i*6+4,none⟩) yRx).trans E4;have zc3:=(hSw.cell (p:=⟨bA,oA+1,none⟩) yA).trans xA;have zc4:=(hSw.cell (p:=⟨g,x*2+1,none⟩) yg).trans x1;go_simp
          try rfl
         try simp only [Act.put,sT,sZ,sS]
         refine' tkR 15 115 hH0 ?o40
         refine' tkQ 16 116 hH0 ?hyv ?o41
         case hyv=>
          intro wz hSw;have zc0:=(hSw.cell (p:=⟨w.heap.size,3,none⟩) ySx).trans s3;have zc1:=(hSw.cell (p:=⟨bR,oR+i*6,none⟩) yRx).trans E0;have zc2:=(hSw.cell (p:=⟨bR,oR+i*6+4,none⟩) yRx).trans E4;have zc3:=(hSw.cell (p:=⟨bA,oA+1,none⟩) yA).trans xA;have zc4:=(hSw.cell (p:=⟨g,x*2+1,none⟩) yg).trans x1;go_simp
          try rfl
         try simp only [Act.put,sT,sZ,sS]
         refine' tkR 17 117 hH0 ?o42
         refine' tkR 18 118 hH0 ?o43
         refine' tkQ 19 119 hH0 ?hyv ?o44
         case hyv=>
          intro wz hSw;have zc0:=(hSw.cell (p:=⟨w.heap.size,3,none⟩) ySx).trans s3;have zc1:=(hSw.cell (p:=⟨bR,oR+i*6,none⟩) yRx).trans E0;have zc2:=(hSw.cell (p:=⟨bR,oR+i*6+4,none⟩) yRx).trans E4;have zc3:=(hSw.cell (p:=⟨bA,oA+1,none⟩) yA).trans xA;have zc4:=(hSw.cell (p:=⟨g,x*2+1,none⟩) yg).trans x1;go_simp
          try rfl
         try simp only [Act.put,sT,sZ,sS]
         refine' tkR 20 120 hH0 ?o45
         refine' tkQ 21 121 hH0 ?hyv ?o46
         case hyv=>
          intro wz hSw;have zc0:=(hSw.cell (p:=⟨w.heap.size,3,none⟩) ySx).trans s3;have zc1:=(hSw.cell (p:=⟨bR,oR+i*6,none⟩) yRx).trans E0;have zc2:=(hSw.cell (p:=⟨bR,oR+i*6+4,none⟩) yRx).trans E4;have zc3:=(hSw.cell (p:=⟨bA,oA+1,none⟩) yA).trans xA;have zc4:=(hSw.cell (p:=⟨g,x*2+1,none⟩) yg).trans x1;go_simp
          try rfl
         try simp only [Act.put,sT,sZ,sS]
         refine' tkR 22 122 hH0 ?o47
         refine' tkR 23 123 hH0 ?o48
         refine' tkR 24 124 hH0 ?o49
         refine' tkR 25 125 hH0 ?o50
         refine' tkR 26 126 hH0 ?o51
         refine' tkR 27 127 hH0 ?o52
         refine' tkR 28 128 hH0 ?o53
         refine' tkR 29 129 hH0 ?o54
         refine zJ (by kernel_rfl) ?_ _;have HBn:=zD (Bx.trans (hH0.mono Bx.size));clear E0 E4 s0 s1 s2 s3;go_wp2_with fail;go_roundg (S.R.length-(i+1))
         case measure=>omega
         case rel=>exact ⟨i+1,by omega,rfl,by go_num,HBn.out⟩
        case neg=>
         have hb13:(r.op==13)=false:=(by simpa using hop);go_upto_region 21 with fail;refine zK (fun w'=>Below wr.heap.size wr w') (fun _=>false) (by kernel_rfl) ?_;have hH0:Below wr.heap.size wr wr.drew:=(Below.refl _ _).drew;generalize wr.drew=wd0 at hH0 ⊢;refine' tkR 0 100 hH0 ?o55
         refine' tkQ 1 101 hH0 ?hyv ?o56
         case hyv=>
          intro wz hSw;have zc0:=(hSw.cell (p:=⟨w.heap.size,3,none⟩) ySx).trans s3;have zc1:=(hSw.cell (p:=⟨bR,oR+i*6,none⟩) yRx).trans E0;go_simp
          try rfl
         try simp only [Act.put,sT,sZ,sS]
         refine' tkR 2 102 hH0 ?o57
         refine' tkR 3 103 hH0 ?o58
         refine' tkR 4 104 hH0 ?o59
         refine' tkQ 5 105 hH0 ?hyv ?o60
         case hyv=>
          intro wz hSw;have zc0:=(hSw.cell (p:=⟨w.heap.size,3,none⟩) ySx).trans s3;have zc1:=(hSw.cell (p:=⟨bR,oR+i*6,none⟩) yRx).trans E0;go_simp
          try rfl
         try simp only [Act.put,sT,sZ,sS]
         refine' tkR 6 106 hH0 ?o61
         refine' tkR 7 107 hH0 ?o62
         refine zE (i:=8) (oi:=⟨some 108,_,_,_,_,_⟩) rfl (by kernel_rfl) (by kernel_rfl) (by kernel_rfl) (by kernel_rfl) (fun _ _ _ h=>h) hH0 (by rfl) ?_
         try simp only [Act.put,sT,sZ,sS]
         refine zE (i:=9) (oi:=⟨some 109,_,_,_,_,_⟩) rfl (by kernel_rfl) (by kernel_rfl) (by kernel_rfl) (by kernel_rfl) (fun _ _ _ h=>h) hH0 (by rfl) ?_
         try simp only [Act.put,sT,sZ,sS]
         refine zE (i:=10) (oi:=⟨some 110,_,_,_,_,_⟩) rfl (by kernel_rfl) (by kernel_rfl) (by kernel_rfl) (by kernel_rfl) (fun _ _ _ h=>h) hH0 (by rfl) ?_
         try simp only [Act.put,sT,sZ,sS]
         refine zE (i:=11) (oi:=⟨some 111,_,_,_,_,_⟩) rfl (by kernel_rfl) (by kernel_rfl) (by kernel_rfl) (by kernel_rfl) (fun _ _ _ h=>h) hH0 (by rfl) ?_
         try simp only [Act.put,sT,sZ,sS]
         refine zE (i:=12) (oi:=⟨some 112,_,_,_,_,_⟩) rfl (by kernel_rfl) (by kernel_rfl) (by kernel_rfl) (by kernel_rfl) (fun _ _ _ h=>h) hH0 (by rfl) ?_
         try simp only [Act.put,sT,sZ,sS]
         refine zE (i:=13) (oi:=⟨some 113,_,_,_,_,_⟩) rfl (by kernel_rfl) (by kernel_rfl) (by kernel_rfl) (by kernel_rfl) (fun _ _ _ h=>h) hH0 (by rfl) ?_
         try simp only [Act.put,sT,sZ,sS]
         refine zE (i:=14) (oi:=⟨some 114,_,_,_,_,_⟩) rfl (by kernel_rfl) (by kernel_rfl) (by kernel_rfl) (by kernel_rfl) (fun _ _ _ h=>h) hH0 (by rfl) ?_
         try simp only [Act.put,sT,sZ,sS]
         refine zE (i:=15) (oi:=⟨some 115,_,_,_,_,_⟩) rfl (by kernel_rfl) (by kernel_rfl) (by kernel_rfl) (by kernel_rfl) (fun _ _ _ h=>h) hH0 (by rfl) ?_
         try simp only [Act.put,sT,sZ,sS]
         refine zE (i:=16) (oi:=⟨some 116,_,_,_,_,_⟩) rfl (by kernel_rfl) (by kernel_rfl) (by kernel_rfl) (by kernel_rfl) (fun _ _ _ h=>h) hH0 (by rfl) ?_
         try simp only [Act.put,sT,sZ,sS]
         refine zE (i:=17) (oi:=⟨some 117,_,_,_,_,_⟩) rfl (by kernel_rfl) (by kernel_rfl) (by kernel_rfl) (by kernel_rfl) (fun _ _ _ h=>h) hH0 (by rfl) ?_
         try simp only [Act.put,sT,sZ,sS]
         refine zE (i:=18) (oi:=⟨some 118,_,_,_,_,_⟩) rfl (by kernel_rfl) (by kernel_rfl) (by kernel_rfl) (by kernel_rfl) (fun _ _ _ h=>h) hH0 (by rfl) ?_
         try simp only [Act.put,sT,sZ,sS]
         refine zE (i:=19) (oi:=⟨some 119,_,_,_,_,_⟩) rfl (by kernel_rfl) (by kernel_rfl) (by kernel_rfl) (by kernel_rfl) (fun _ _ _ h=>h) hH0 (by rfl) ?_
         try simp only [Act.put,sT,sZ,sS]
         refine zE (i:=20) (oi:=⟨some 120,_,_,_,_,_⟩) rfl (by kernel_rfl) (by kernel_rfl) (by kernel_rfl) (by kernel_rfl) (fun _ _ _ h=>h) hH0 (by rfl) ?_
         try simp only [Act.put,sT,sZ,sS]
         refine zE (i:=21) (oi:=⟨some 121,_,_,_,_,_⟩) rfl (by kernel_rfl) (by kernel_rfl) (by kernel_rfl) (by kernel_rfl) (fun _ _ _ h=>h) hH0 (by rfl) ?_
         try simp only [Act.put,sT,sZ,sS]
         refine zE (i:=22) (oi:=⟨some 122,_,_,_,_,_⟩) rfl (by kernel_rfl) (by kernel_rfl) (by kernel_rfl) (by kernel_rfl) (fun _ _ _ h=>h) hH0 (by rfl) ?_
         try simp only [Act.put,sT,sZ,sS]
         refine zE (i:=23) (oi:=⟨some 123,_,_,_,_,_⟩) rfl (by kernel_rfl) (by kernel_rfl) (by kernel_rfl) (by kernel_rfl) (fun _ _ _ h=>h) hH0 (by rfl) ?_
         try simp only [Act.put,sT,sZ,sS]
         refine' tkR 24 124 hH0 ?o63
         refine' tkR 25 125 hH0 ?o64
         refine' tkR 26 126 hH0 ?o65
         refine' tkR 27 127 hH0 ?o66
         refine' tkR 28 128 hH0 ?o67
         refine' tkR 29 129 hH0 ?o68
         refine zJ (by kernel_rfl) ?_ _;have HBn:=zD (Bx.trans (hH0.mono Bx.size));clear E0 E4 s0 s1 s2 s3;go_wp2_with fail;go_roundg (S.R.length-(i+1))
         case measure=>omega
         case rel=>exact ⟨i+1,by omega,rfl,by go_num,HBn.out⟩
end Go.Proofs.YtoldepieaafakaaGreatDoor
