import Derived.Test.YtegakbobaecdlaaGreatDoorF47
import Derived.Test.YtegakbobaecdlaaGreatDoorF48
import Derived.Test.YtegakbobaecdlaaGreatDoorF46
set_option linter.unusedVariables false
set_option linter.unusedSimpArgs false
set_option maxHeartbeats 64000000
set_option maxRecDepth 100000
namespace Go.Proofs.YtegakbobaecdlaaGreatDoor
open Go.RowKit Go.IntWalk
namespace Sk
theorem vAt_get {V:List Vr} {x:Nat} (h:x<V.length):vAt V (x:Int)=V[x]:=by
 unfold vAt;rw [Int.toNat_natCast,List.getD_eq_getElem?_getD,List.getElem?_eq_getElem h];rfl
def sumR (S:Sys) (i:Nat):Nat:=((S.R.take i).map fun r=>ct S r.out).sum
def sumI (S:Sys) (i:Nat):Nat:=((S.I.take i).map (ct S)).sum
theorem sumR_succ (S:Sys) {i:Nat} (h:i<S.R.length):sumR S (i+1)=sumR S i+ct S (S.R[i]).out:=by
 unfold sumR;rw [List.take_succ_eq_append_getElem h,List.map_append,List.sum_append];simp
theorem sumI_succ (S:Sys) {i:Nat} (h:i<S.I.length):sumI S (i+1)=sumI S i+ct S S.I[i]:=by
 unfold sumI;rw [List.take_succ_eq_append_getElem h,List.map_append,List.sum_append];simp
end Sk
theorem placeFew_any {ok:Nat->Prop} {w:World} {aV aI aO aR:Option Addr} {cV cI cO cR:Nat} {S:Sk.Sys} (hG:GlobK w) (hP:GlobP w) (hS:HSys ok w aV aI aO aR cV cI cO cR S) :
  Calls Tryz.prog 6 #[.agg #[.slice aV S.V.length cV,.slice aI S.I.length cI,.slice aO S.O.length cO,.slice aR S.R.length cR]] w fun e w'=>e=.returned (.bool true)/\Below w.heap.size w w':=by
 obtain ⟨aoV,capV,evV,hV1,hV2,-⟩:=hS.V.at;injection evV with q1 q2 q3;rw [<-q3] at hV1 hV2;clear q1 q2 q3;obtain ⟨aoI,capI,evI,hI1,hI2,-⟩:=hS.I.at;injection evI with q1 q2 q3;rw [<-q3] at hI1 hI2;clear q1 q2 q3;obtain ⟨aoR,capR,evR,hR1,hR2,-⟩:=hS.R.at;injection evR with q1 q2 q3;rw [<-q3] at hR1 hR2;clear q1 q2 q3;unfold maxLen at hV2 hR2 hI2;have b1:Below w.heap.size w (w.alloc (.cells #[.slice aV S.V.length cV,.slice aI S.I.length cI,.slice aO S.O.length cO,.slice aR S.R.length cR] 26 (0,0))):=(Below.refl _ _).alloc zL _;have kS:=zI w (.cells #[.slice aV S.V.length cV,.slice aI S.I.length cI,.slice aO S.O.length cO,.slice aR S.R.length cR] 26 (0,0));have HS:=zG (hS.under b1);have HG:=zG (hG.under b1);have HP:=zG (hP.under b1);clear hS hG hP;go_enter Tryz.func6,Tryz.ntmps6;go_upto_region 1 with fail;generalize w.alloc (.cells #[.slice aV S.V.length cV,.slice aI S.I.length cI,.slice aO S.O.length cO,.slice aR S.R.length cR] 26 (0,0))=w1 at b1 kS HS HG HP ⊢;go_wp2_with fail;refine (jW HG.out HP.out).mono ?_;rintro e w2 ⟨rfl,b2⟩;have B2:=b1.trans (b2.mono b1.size);have kS2:=(b2.block _ (zH kS)).trans kS;have HS2:=zG (HS.out.under b2);have HG2:=zG (HG.out.under b2);have HP2:=zG (HP.out.under b2);have s0:=coQ kS2 0;have s1:=coQ kS2 1;have s2:=coQ kS2 2;have s3:=coQ kS2 3;simp at s0 s1 s2 s3;clear HS HG HP kS;go_wp2_with fail;refine (great8_any HS2.out).mono ?_;rintro e w3 ⟨⟨bg,rfl,hfew,b3⟩⟩;have B3:=B2.trans (b3.mono B2.size)
 cases bg
 case true=>
  clear hfew s0 s1 s2 s3;go_wp2;go_ret;exact ⟨rfl,B3⟩
 case false=>
  have hf:=hfew rfl;have hfit:∀ r ∈ S.R,r.A.length<=1000000/\r.E.length<=1000000:=fun r hr=>by have:=hf.2 r hr;omega
  have HFIT:=zG hfit;have kS3:=(b3.block _ (zH kS2)).trans kS2;have HS3:=zG (HS2.out.under b3);have hmk:=make_any (HG2.out.under b3) (HP2.out.under b3) HS3.out hfit;clear hfew hf hfit s0 s1 s2 s3 HS2 HG2 HP2 kS2;have s0:=coQ kS3 0;have s1:=coQ kS3 1;have s2:=coQ kS3 2;have s3:=coQ kS3 3;simp at s0 s1 s2 s3;go_wp2_with fail;refine hmk.mono ?_;intro e w4 hpost;clear hmk;unfold MakePost at hpost;rcases hpost with ⟨c,a,hc,-,rfl,b4⟩ | ⟨okS,had,ga,gk,KK,st,rfl,hkt,hkl,hld,hc6,hia,hik,b4⟩
  case inl=>
   have B4:=B3.trans (b4.mono B3.size);have hq:(c != 0)=true:=(by simpa using hc);have b5:Below w4.heap.size w4 (w4.alloc (.cells #[.slice none 0 0,.slice none 0 0,.int .i64 0] 48 (0,0))):=(Below.refl _ _).alloc zL _;have b6:=b5.alloc b5.size (.cells #[.int .i64 c,.int .i64 a] 30 (0,0));have kF:((w4.alloc (.cells #[.slice none 0 0,.slice none 0 0,.int .i64 0] 48 (0,0))).alloc (.cells #[.int .i64 c,.int .i64 a] 30 (0,0))).heap[w4.heap.size+1]?=some (.cells #[.int .i64 c,.int .i64 a] 30 (0,0)):=by
    have:=zI (w4.alloc (.cells #[.slice none 0 0,.slice none 0 0,.int .i64 0] 48 (0,0))) (.cells #[.int .i64 c,.int .i64 a] 30 (0,0))
    simpa using this
   have B6:=B4.trans (b6.mono B4.size);clear hc s0 s1 s2 s3 b5;go_upto_region 6 with fail;generalize (w4.alloc (.cells #[.slice none 0 0,.slice none 0 0,.int .i64 0] 48 (0,0))).alloc (.cells #[.int .i64 c,.int .i64 a] 30 (0,0))=w6 at b6 kF B6 ⊢;have f0:=coQ kF 0;simp at f0;go_wp2;go_ret;exact ⟨rfl,B6⟩
  case inr=>
   have B4:=B3.trans (b4.mono B3.size);have I:=(hld.inv okS).2;have HI:=zG I;have HOK:=zG okS;have HKT:=zG hkt;have nI:=okS.nI;have nR:=okS.nR;have nV:=okS.nV;have hkp:=Sk.kept_le okS S.R.length zL;have PL:∃ PLN:Nat,PLN=st.c:=⟨_,rfl⟩;obtain ⟨sc,hsc⟩:=PL;rw [<-hsc];have hsc6:sc<=6000:=(by omega);have HSC:=zG hsc;have b5:Below w4.heap.size w4 (w4.alloc (.cells #[.slice (some ⟨ga,0,none⟩) S.V.length S.V.length,.slice (some ⟨gk,0,none⟩) S.R.length S.R.length,.int .i64 (sc:Int)] 48 (0,0))):=(Below.refl _ _).alloc zL _;have b6:=b5.alloc b5.size (.cells #[.int .i64 0,.int .i64 0] 30 (0,0));have kP:((w4.alloc (.cells #[.slice (some ⟨ga,0,none⟩) S.V.length S.V.length,.slice (some ⟨gk,0,none⟩) S.R.length S.R.length,.int .i64 (sc:Int)] 48 (0,0))).alloc (.cells #[.int .i64 0,.int .i64 0] 30 (0,0))).heap[w4.heap.size]?=some (.cells #[.slice (some ⟨ga,0,none⟩) S.V.length S.V.length,.slice (some ⟨gk,0,none⟩) S.R.length S.R.length,.int .i64 (sc:Int)] 48 (0,0)):=(Below.heap_alloc _ _ _ (by simp)).trans (zI w4 _);have kF:((w4.alloc (.cells #[.slice (some ⟨ga,0,none⟩) S.V.length S.V.length,.slice (some ⟨gk,0,none⟩) S.R.length S.R.length,.int .i64 (sc:Int)] 48 (0,0))).alloc (.cells #[.int .i64 0,.int .i64 0] 30 (0,0))).heap[w4.heap.size+1]?=some (.cells #[.int .i64 0,.int .i64 0] 30 (0,0)):=by
    have:=zI (w4.alloc (.cells #[.slice (some ⟨ga,0,none⟩) S.V.length S.V.length,.slice (some ⟨gk,0,none⟩) S.R.length S.R.length,.int .i64 (sc:Int)] 48 (0,0))) (.cells #[.int .i64 0,.int .i64 0] 30 (0,0))
    simpa using this
   have B6:=B4.trans (b6.mono B4.size);have HS6:=zG ((HS3.out.under b4).under b6);have kS4:=(b4.block _ (zH kS3)).trans kS3;have kS6:=(b6.block _ (zH kS4)).trans kS4;have HIA:=zG (hia.under b6);have HIK:=zG (hik.under b6);have HKL:=zG hkl;clear hld I okS hkt had hc6 hia hik hkl hsc s0 s1 s2 s3 b5 kS3 kS4 HS3;go_upto_region 6 with fail;generalize (w4.alloc (.cells #[.slice (some ⟨ga,0,none⟩) S.V.length S.V.length,.slice (some ⟨gk,0,none⟩) S.R.length S.R.length,.int .i64 (sc:Int)] 48 (0,0))).alloc (.cells #[.int .i64 0,.int .i64 0] 30 (0,0))=w6 at b6 kP kF B6 HS6 kS6 HIA HIK ⊢;have f0:=coQ kF 0;simp at f0;have yS6:=zH kS6;have yP6:=zH kP;clear HIA HIK HKT HKL;go_wp2_with fail;clear f0;go_loopg [5,6,7,8] S.R.length (fun k v5 v6 v7 v8 wr=>∃ (i g:Nat),i<=S.R.length/\k=S.R.length-i/\v5=.int .i64 ((Sk.kept S i:Nat):Int)/\v6=.int .i64 ((Sk.sumR S i:Nat):Int)/\v7=.int .i64 (g:Nat)/\v8=.int .i64 (i:Nat)/\Hid (∀ r ∈ S.R.take i,Sk.ct S r.out<=g)/\g<=300/\Sk.kept S i<=1+300*i/\Sk.sumR S i<=300*i/\Below w6.heap.size w6 wr)
   case atStart=>exact ⟨0,0,Nat.zero_le _,rfl,rfl,rfl,rfl,rfl,zG (fun r hr=>by simp at hr),by omega,by rw [Sk.kept_zero];omega,by unfold Sk.sumR;simp,Below.refl _ _⟩
   case round=>
    obtain ⟨i,g,hi,rfl,rfl,rfl,rfl,rfl,HGR,hg3,hkb,hsb,hbr⟩:=hrel;have kSr:=(hbr.block _ yS6).trans kS6;have s0:=coQ kSr 0;have s1:=coQ kSr 1;have s2:=coQ kSr 2;have s3:=coQ kSr 3;simp at s0 s1 s2 s3;have yS:=zH kSr;by_cases hlt:i<S.R.length
    case pos=>
     obtain ⟨ao,cp,e1,-,-,hat⟩:=(HS6.out.under hbr).R.at;injection e1 with q1 q2 q3;obtain ⟨bR,oR,y,hbR,yR,hrat,-⟩:=hat i hlt;rw [hbR] at q1;subst q1;obtain ⟨r,hr⟩:=nmQ (S.R[i]);have hrm:r ∈ S.R:=(by rw [hr];exact List.getElem_mem hlt);have hout:=(HOK.out.rules r hrm).1.1;rw [<-hr] at hrat;obtain ⟨d0,-,d2,-,-,-⟩:=hrat;obtain ⟨o,ho⟩:∃ o:Nat,(o:Int)=r.out:=⟨r.out.toNat,by omega⟩;have hol:o<S.V.length:=(by omega);rw [<-ho] at d2;obtain ⟨aoW,cpW,evW,-,-,hatW⟩:=(HS6.out.under hbr).V.at;injection evW with z1 z2 z3;obtain ⟨bV,oV,ebW,yV,-,cN⟩:=hatW o hol;rw [ebW] at z1;subst z1;have eC:Sk.ct S (o:Int)=Sk.cnt S.V[o]:=(by unfold Sk.ct;rw [Sk.vAt_get hol]);have hce:=fun W=>qK S.V[o] W;rw [<-eC] at hce;have hcl:=Sk.ct_le HOK.out (o:Int) (by omega) (by omega);have hks:=Sk.kept_succ S hlt;have hss:=Sk.sumR_succ S hlt;rw [<-hr,<-ho] at hks hss;generalize (S.V[o]).n=vn at cN hce;obtain ⟨cn,hcn⟩:=nmQ (Sk.ct S (o:Int));rw [<-hcn] at hce hcl hks hss;have HGN:=zG (fun (G:Nat) (h1:g<=G) (h2:cn<=G)=>show ∀ r ∈ S.R.take (i+1),Sk.ct S r.out<=G from fun r' hr'=>by
      rw [List.take_succ_eq_append_getElem hlt] at hr';rcases List.mem_append.1 hr' with q | q
      ·exact Nat.le_trans (HGR.out r' q) h1
      ·simp at q;rw [q,<-hr,<-ho,<-hcn];exact h2)
     obtain ⟨rop,hrop⟩:=nmQ (r.op);rw [<-hrop] at d0 hks;obtain ⟨kp,hkpe⟩:=nmQ (Sk.kept S i);obtain ⟨sr,hsre⟩:=nmQ (Sk.sumR S i);rw [<-hkpe] at hks hkb ⊢;rw [<-hsre] at hss hsb ⊢;have HKS:=zG hks;have HSS:=zG hss;have HCE:=zG hce;clear hat q2 q3 hbR hr hrm hout ho hatW z2 z3 ebW eC hcn hrop hks hss hce hkpe hsre HGR kSr;go_upto_region 12 with fail;refine zK (fun w'=>Below wr.heap.size wr w') (fun _=>false) (by kernel_rfl) ?_;have hH0:Below wr.heap.size wr wr.drew:=(Below.refl _ _).drew;generalize wr.drew=wd0 at hH0 ⊢;refine' tkR 0 30 hH0 ?o1
     refine' tkQ 1 31 hH0 ?hyv ?o2
     case hyv=>
      intro wz hSw;have zc0:=(hSw.cell (p:=⟨w.heap.size,0,none⟩) yS).trans s0;have zc1:=(hSw.cell (p:=⟨w.heap.size,3,none⟩) yS).trans s3;have zc2:=(hSw.cell (p:=⟨bR,oR+i*6+2,none⟩) yR).trans d2;have zc3:=(hSw.cell (p:=⟨bV,oV+o*2+1,none⟩) yV).trans cN;go_simp
      try rfl
     try simp only [Act.put,sT,sZ,sS]
     refine' tkR 2 32 hH0 ?o3
     refine' tkQ 3 33 hH0 ?hyv ?o4
     case hyv=>
      intro wz hSw;have zc0:=(hSw.cell (p:=⟨w.heap.size,0,none⟩) yS).trans s0;have zc1:=(hSw.cell (p:=⟨w.heap.size,3,none⟩) yS).trans s3;have zc2:=(hSw.cell (p:=⟨bR,oR+i*6+2,none⟩) yR).trans d2;have zc3:=(hSw.cell (p:=⟨bV,oV+o*2+1,none⟩) yV).trans cN;go_simp
      try rfl
     try simp only [Act.put,sT,sZ,sS]
     refine' tkR 4 34 hH0 ?o5
     refine' tkR 5 35 hH0 ?o6
     refine' tkR 6 36 hH0 ?o7
     refine' tkQ 7 37 hH0 ?hyv ?o8
     case hyv=>
      intro wz hSw;have zc0:=(hSw.cell (p:=⟨w.heap.size,0,none⟩) yS).trans s0;have zc1:=(hSw.cell (p:=⟨w.heap.size,3,none⟩) yS).trans s3;have zc2:=(hSw.cell (p:=⟨bR,oR+i*6+2,none⟩) yR).trans d2;have zc3:=(hSw.cell (p:=⟨bV,oV+o*2+1,none⟩) yV).trans cN;go_simp
      try rfl
     try simp only [Act.put,sT,sZ,sS]
     refine' tkR 8 38 hH0 ?o9
     refine' tkR 9 39 hH0 ?o10
     refine' tkQ 10 40 hH0 ?hyv ?o11
     case hyv=>
      intro wz hSw;have zc0:=(hSw.cell (p:=⟨w.heap.size,0,none⟩) yS).trans s0;have zc1:=(hSw.cell (p:=⟨w.heap.size,3,none⟩) yS).trans s3;have zc2:=(hSw.cell (p:=⟨bR,oR+i*6+2,none⟩) yR).trans d2;have zc3:=(hSw.cell (p:=⟨bV,oV+o*2+1,none⟩) yV).trans cN;go_simp
      try rfl
     try simp only [Act.put,sT,sZ,sS]
     refine tnQ 11 (fun K hK=>?_);go_simp;refine (HCE.out wd0).mono ?_;rintro eq wd1 ⟨rfl,hq1⟩;have hH1:Below wr.heap.size wr wd1:=hq1 ▸ hH0;refine hK.out _ _ (fun _=>hH1) ?_;clear hK K
     try simp only [Act.put,sT,sZ,sS]
     refine' tkR 12 9 hH1 ?o12
     refine zJ (by kernel_rfl) ?_ _;obtain ⟨wx,hwx⟩:=nmQ (wd1);subst hwx;have hX:=hH1;have BX:=hbr.trans (hX.mono hbr.size);have s3x:=(hX.cell (p:=⟨w.heap.size,3,none⟩) yS).trans s3;have d0x:=(hX.cell (p:=⟨bR,oR+i*6,none⟩) yR).trans d0;clear s0 s1 s2 s3 d0 d2 cN;by_cases hop:rop=13
     case pos=>
      have hk2:kp+cn=Sk.kept S (i+1):=(by rw [HKS.out,if_pos hop]);have hs2:sr+cn=Sk.sumR S (i+1):=HSS.out.symm;have HK2:=zG hk2;have HS2:=zG hs2;have HG3:=zG (HGN.out (max g cn) (by omega) (by omega));subst hop;clear HKS HSS hk2 hs2 HGN HCE;go_wp2_with fail;go_roundg (S.R.length-(i+1))
      case measure=>omega
      case rel=>exact ⟨i+1,max g cn,by omega,rfl,by rw [<-HK2.out];first | rfl | (congr 1;omega),by rw [<-HS2.out];first | rfl | (congr 1;omega),by first | rfl | (congr 1;omega),by go_num,HG3,by omega,by rw [<-HK2.out];omega,by rw [<-HS2.out];omega,BX⟩
     case neg=>
      have hk2:kp=Sk.kept S (i+1):=(by rw [HKS.out,if_neg hop,Nat.add_zero]);have hs2:sr+cn=Sk.sumR S (i+1):=HSS.out.symm;have HK2:=zG hk2;have HS2:=zG hs2;have HG3:=zG (HGN.out (max g cn) (by omega) (by omega));clear HKS HSS hk2 hs2 HGN HCE;go_wp2_with fail;go_roundg (S.R.length-(i+1))
      case measure=>omega
      case rel=>exact ⟨i+1,max g cn,by omega,rfl,by rw [<-HK2.out],by rw [<-HS2.out];first | rfl | (congr 1;omega),by first | rfl | (congr 1;omega),by go_num,HG3,by omega,by rw [<-HK2.out];omega,by rw [<-HS2.out];omega,BX⟩
    case neg=>
     have hin:i=S.R.length:=(by omega);subst hin;have HG9:=zG (show ∀ r ∈ S.R,Sk.ct S r.out<=g from fun r hr=>HGR.out r (by rw [List.take_length];exact hr));obtain ⟨kp,hkpe⟩:=nmQ (Sk.kept S S.R.length);obtain ⟨sr,hsre⟩:=nmQ (Sk.sumR S S.R.length);rw [<-hkpe] at hkb ⊢;rw [<-hsre] at hsb ⊢;have HKE:=zG hkpe;have HSE:=zG hsre;obtain ⟨w7,hw7⟩:=nmQ (wr);subst hw7;clear hkpe hsre HGR;go_wp2_with fail;clear s0 s1 s2 s3;go_loopg [6,10] S.I.length (fun k v6 v10 wr=>∃ (i:Nat),i<=S.I.length/\k=S.I.length-i/\v6=.int .i64 ((sr+Sk.sumI S i:Nat):Int)/\v10=.int .i64 (i:Nat)/\Sk.sumI S i<=300*i/\Below w7.heap.size w7 wr)
     case atStart=>exact ⟨0,Nat.zero_le _,rfl,by unfold Sk.sumI;simp,rfl,by unfold Sk.sumI;simp,Below.refl _ _⟩
     case round=>
      obtain ⟨i,hi,rfl,rfl,rfl,hib,hbi⟩:=hrel;have BI:=hbr.trans (hbi.mono hbr.size);have kSr2:=(BI.block _ yS6).trans kS6;have s0:=coQ kSr2 0;have s1:=coQ kSr2 1;have s2:=coQ kSr2 2;have s3:=coQ kSr2 3;simp at s0 s1 s2 s3;have yS2:=zH kSr2;by_cases hlt:i<S.I.length
      case pos=>
       obtain ⟨ao,cp,e1,-,-,hat⟩:=(HS6.out.under BI).I.at;injection e1 with q1 q2 q3;obtain ⟨bI,oI,hbI,yI,xI⟩:=hat i hlt;rw [hbI] at q1;subst q1;have hin:=HOK.out.ins _ (List.getElem_mem hlt);obtain ⟨o,ho⟩:∃ o:Nat,(o:Int)=S.I[i]:=⟨(S.I[i]).toNat,by omega⟩;have hol:o<S.V.length:=(by omega);rw [<-ho] at xI;obtain ⟨aoW,cpW,evW,-,-,hatW⟩:=(HS6.out.under BI).V.at;injection evW with z1 z2 z3;obtain ⟨bV,oV,ebW,yV,-,cN⟩:=hatW o hol;rw [ebW] at z1;subst z1;have eC:Sk.ct S (o:Int)=Sk.cnt S.V[o]:=(by unfold Sk.ct;rw [Sk.vAt_get hol]);have hce:=fun W=>qK S.V[o] W;rw [<-eC] at hce;have hcl:=Sk.ct_le HOK.out (o:Int) (by omega) (by omega);have hss:=Sk.sumI_succ S hlt;rw [<-ho] at hss;generalize (S.V[o]).n=vn at cN hce;generalize Sk.ct S (o:Int)=cn at hce hcl hss;obtain ⟨si,hsie⟩:=nmQ (sr+Sk.sumI S i);rw [<-hsie];have hsi6:si<=300000:=(by omega);have HSS:=zG (show si+cn=sr+Sk.sumI S (i+1) by rw [hss,hsie];omega);have HIB:=zG (show Sk.sumI S (i+1)<=300*(i+1) by rw [hss];omega);have HCE:=zG hce;clear hat q2 q3 hbI hin ho hatW z2 z3 ebW eC hss hce hsie kSr2 hib;go_upto_region 20 with fail;refine zK (fun w'=>Below wr.heap.size wr w') (fun _=>false) (by kernel_rfl) ?_;have hH0:Below wr.heap.size wr wr.drew:=(Below.refl _ _).drew;generalize wr.drew=wd0 at hH0 ⊢;refine' tkR 0 65 hH0 ?o13
       refine' tkR 1 66 hH0 ?o14
       refine' tkQ 2 67 hH0 ?hyv ?o15
       case hyv=>
        intro wz hSw;have zc0:=(hSw.cell (p:=⟨w.heap.size,0,none⟩) yS2).trans s0;have zc1:=(hSw.cell (p:=⟨w.heap.size,1,none⟩) yS2).trans s1;have zc2:=(hSw.cell (p:=⟨bI,oI+i,none⟩) yI).trans xI;have zc3:=(hSw.cell (p:=⟨bV,oV+o*2+1,none⟩) yV).trans cN;go_simp
        try rfl
       try simp only [Act.put,sT,sZ,sS]
       refine' tkR 3 68 hH0 ?o16
       refine' tkQ 4 69 hH0 ?hyv ?o17
       case hyv=>
        intro wz hSw;have zc0:=(hSw.cell (p:=⟨w.heap.size,0,none⟩) yS2).trans s0;have zc1:=(hSw.cell (p:=⟨w.heap.size,1,none⟩) yS2).trans s1;have zc2:=(hSw.cell (p:=⟨bI,oI+i,none⟩) yI).trans xI;have zc3:=(hSw.cell (p:=⟨bV,oV+o*2+1,none⟩) yV).trans cN;go_simp
        try rfl
       try simp only [Act.put,sT,sZ,sS]
       refine' tkR 5 70 hH0 ?o18
       refine' tkR 6 71 hH0 ?o19
       refine' tkQ 7 72 hH0 ?hyv ?o20
       case hyv=>
        intro wz hSw;have zc0:=(hSw.cell (p:=⟨w.heap.size,0,none⟩) yS2).trans s0;have zc1:=(hSw.cell (p:=⟨w.heap.size,1,none⟩) yS2).trans s1;have zc2:=(hSw.cell (p:=⟨bI,oI+i,none⟩) yI).trans xI;have zc3:=(hSw.cell (p:=⟨bV,oV+o*2+1,none⟩) yV).trans cN;go_simp
        try rfl
       try simp only [Act.put,sT,sZ,sS]
       refine' tkR 8 73 hH0 ?o21
       refine' tkR 9 74 hH0 ?o22
       refine' tkQ 10 75 hH0 ?hyv ?o23
       case hyv=>
        intro wz hSw;have zc0:=(hSw.cell (p:=⟨w.heap.size,0,none⟩) yS2).trans s0;have zc1:=(hSw.cell (p:=⟨w.heap.size,1,none⟩) yS2).trans s1;have zc2:=(hSw.cell (p:=⟨bI,oI+i,none⟩) yI).trans xI;have zc3:=(hSw.cell (p:=⟨bV,oV+o*2+1,none⟩) yV).trans cN;go_simp
        try rfl
       try simp only [Act.put,sT,sZ,sS]
       refine tnQ 11 (fun K hK=>?_);go_simp;refine (HCE.out wd0).mono ?_;rintro eq wd1 ⟨rfl,hq1⟩;have hH1:Below wr.heap.size wr wd1:=hq1 ▸ hH0;refine hK.out _ _ (fun _=>hH1) ?_;clear hK K
       try simp only [Act.put,sT,sZ,sS]
       refine' zO (i:=12) (oi:=⟨some 77,_,_,_,_,_⟩) (v:=.int .i64 ((si:Int)+(cn:Int))) rfl (by kernel_rfl) (by kernel_rfl) (by kernel_rfl) (by kernel_rfl) (fun _ _ _ h=>h) hH1 (by rfl) ?hyv ?o24
       case hyv=>
        intro wz hSw;go_simp;rw [i64_in _ ⟨by omega,by omega⟩]
       try simp only [Act.put,sT,sZ,sS]
       refine' tkR 13 6 hH1 ?o25
       refine zJ (by kernel_rfl) ?_ _;go_wp2_with fail;go_roundg (S.I.length-(i+1))
       case measure=>omega
       case rel=>exact ⟨i+1,by omega,rfl,by rw [<-HSS.out];first | rfl | (congr 1;omega),by go_num,HIB.out,hbi.trans (hH1.mono hbi.size)⟩
      case neg=>
       have hin:i=S.I.length:=(by omega);subst hin;have kP7:=(BI.block _ yP6).trans kP;have p2:=coQ kP7 2;simp at p2;have yP:=zH kP7;obtain ⟨si,hsie⟩:=nmQ (sr+Sk.sumI S S.I.length);rw [<-hsie];have hsi6:si<=300000:=(by omega);have hup:sc<=kp+si:=by
        have h1:=HI.out.cells;rw [HI.out.sum] at h1;have e1:Sk.sumR S S.R.length=(S.R.map fun r=>Sk.ct S r.out).sum:=(by unfold Sk.sumR;rw [List.take_length]);have e2:Sk.sumI S S.I.length=(S.I.map (Sk.ct S)).sum:=(by unfold Sk.sumI;rw [List.take_length]);rw [hsie,HSE.out,HKE.out,HSC.out,e1,e2];omega
       have HLOW:=zG (fun (m:Nat) (hm:MostIs S m)=>show kp+m<=sc+g from by
        rcases hm with q | ⟨p,q⟩
        ·have:=HI.out.cge
         rw [q,HKE.out,HSC.out];omega
        ·have:=HI.out.few HOK.out p g HG9.out
         rw [q,HKE.out,HSC.out];omega)
       have HMO:=zG (fun (W:World) (hW:Below wr.heap.size wr W)=>mostOf_any ((HS6.out.under BI).under hW) HOK.out HFIT.out);have BE:=B6.trans (BI.mono B6.size);clear hsie kP7 kSr2 hib HI HSE HKE HSC HG9;go_upto_region 21 with fail;refine zK (fun w'=>Below wr.heap.size wr w') (fun _=>false) (by kernel_rfl) ?_;have hH0:Below wr.heap.size wr wr.drew:=(Below.refl _ _).drew;generalize wr.drew=wd0 at hH0 ⊢;refine' tkR 0 78 hH0 ?o26
       refine' tkQ 1 79 hH0 ?hyv ?o27
       case hyv=>
        intro wz hSw;have zc0:=(hSw.cell (p:=⟨w4.heap.size,2,none⟩) yP).trans p2;have zc1:=(hSw.cell (p:=⟨w.heap.size,0,none⟩) yS2).trans s0;have zc2:=(hSw.cell (p:=⟨w.heap.size,1,none⟩) yS2).trans s1;have zc3:=(hSw.cell (p:=⟨w.heap.size,2,none⟩) yS2).trans s2;have zc4:=(hSw.cell (p:=⟨w.heap.size,3,none⟩) yS2).trans s3;go_simp
        try rfl
       try simp only [Act.put,sT,sZ,sS]
       refine' tkR 2 80 hH0 ?o28
       refine' tkR 3 81 hH0 ?o29
       refine' zO (i:=4) (oi:=⟨some 82,_,_,_,_,_⟩) (v:=.int .i64 ((kp:Int)+(si:Int))) rfl (by kernel_rfl) (by kernel_rfl) (by kernel_rfl) (by kernel_rfl) (fun _ _ _ h=>h) hH0 (by rfl) ?hyv ?o30
       case hyv=>
        intro wz hSw;go_simp;rw [i64_in _ ⟨by omega,by omega⟩]
       try simp only [Act.put,sT,sZ,sS]
       refine' zO (i:=5) (oi:=⟨some 83,_,_,_,_,_⟩) (v:=.bool true) rfl (by kernel_rfl) (by kernel_rfl) (by kernel_rfl) (by kernel_rfl) (fun _ _ _ h=>h) hH0 (by rfl) ?hyv ?o31
       case hyv=>
        intro wz hSw;go_simp
        try simp
        try omega
       try simp only [Act.put,sT,sZ,sS]
       refine' tkR 6 84 hH0 ?o32
       refine' tkR 7 85 hH0 ?o33
       refine' tkQ 8 86 hH0 ?hyv ?o34
       case hyv=>
        intro wz hSw;have zc0:=(hSw.cell (p:=⟨w4.heap.size,2,none⟩) yP).trans p2;have zc1:=(hSw.cell (p:=⟨w.heap.size,0,none⟩) yS2).trans s0;have zc2:=(hSw.cell (p:=⟨w.heap.size,1,none⟩) yS2).trans s1;have zc3:=(hSw.cell (p:=⟨w.heap.size,2,none⟩) yS2).trans s2;have zc4:=(hSw.cell (p:=⟨w.heap.size,3,none⟩) yS2).trans s3;go_simp
        try rfl
       try simp only [Act.put,sT,sZ,sS]
       refine' tkR 9 87 hH0 ?o35
       refine' tkQ 10 88 hH0 ?hyv ?o36
       case hyv=>
        intro wz hSw;have zc0:=(hSw.cell (p:=⟨w4.heap.size,2,none⟩) yP).trans p2;have zc1:=(hSw.cell (p:=⟨w.heap.size,0,none⟩) yS2).trans s0;have zc2:=(hSw.cell (p:=⟨w.heap.size,1,none⟩) yS2).trans s1;have zc3:=(hSw.cell (p:=⟨w.heap.size,2,none⟩) yS2).trans s2;have zc4:=(hSw.cell (p:=⟨w.heap.size,3,none⟩) yS2).trans s3;go_simp
        try rfl
       try simp only [Act.put,sT,sZ,sS]
       refine' tkR 13 91 hH0 ?o37
       refine tnQ 11 (fun K hK=>?_);go_simp;refine (HMO.out wd0 hH0).mono ?_;rintro eq wd1 ⟨m,rfl,hmi,hmb,bq1⟩;have hH1:Below wr.heap.size wr wd1:=hH0.trans (bq1.mono hH0.size);have hlow:=HLOW.out m hmi;clear hmi;refine hK.out _ _ (fun _=>hH1) ?_;clear hK K
       try simp only [Act.put,sT,sZ,sS]
       refine' zO (i:=12) (oi:=⟨some 90,_,_,_,_,_⟩) (v:=.int .i64 ((kp:Int)+(m:Int))) rfl (by kernel_rfl) (by kernel_rfl) (by kernel_rfl) (by kernel_rfl) (fun _ _ _ h=>h) hH1 (by rfl) ?hyv ?o38
       case hyv=>
        intro wz hSw;go_simp;rw [i64_in _ ⟨by omega,by omega⟩]
       try simp only [Act.put,sT,sZ,sS]
       refine' zO (i:=14) (oi:=⟨some 92,_,_,_,_,_⟩) (v:=.int .i64 ((kp:Int)+(m:Int)-(g:Int))) rfl (by kernel_rfl) (by kernel_rfl) (by kernel_rfl) (by kernel_rfl) (fun _ _ _ h=>h) hH1 (by rfl) ?hyv ?o39
       case hyv=>
        intro wz hSw;go_simp;rw [i64_in _ ⟨by omega,by omega⟩]
       try simp only [Act.put,sT,sZ,sS]
       refine' zO (i:=15) (oi:=⟨some 93,_,_,_,_,_⟩) (v:=.bool true) rfl (by kernel_rfl) (by kernel_rfl) (by kernel_rfl) (by kernel_rfl) (fun _ _ _ h=>h) hH1 (by rfl) ?hyv ?o40
       case hyv=>
        intro wz hSw;go_simp
        try simp
        try omega
       try simp only [Act.put,sT,sZ,sS]
       refine' tkR 16 94 hH1 ?o41
       refine' tkR 17 2 hH1 ?o42
       refine zJ (by kernel_rfl) ?_ _;go_wp2;go_ret;exact ⟨by rfl,BE.trans (hH1.mono BE.size)⟩
end Go.Proofs.YtegakbobaecdlaaGreatDoor
