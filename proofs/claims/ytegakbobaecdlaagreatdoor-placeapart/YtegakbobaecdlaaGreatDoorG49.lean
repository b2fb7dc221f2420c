import Derived.Test.YtegakbobaecdlaaGreatDoorG48
import Derived.Test.YtegakbobaecdlaaGreatDoorG45
set_option linter.unusedVariables false
set_option linter.unusedSimpArgs false
set_option maxHeartbeats 64000000
set_option maxRecDepth 100000
namespace Go.Proofs.YtegakbobaecdlaaGreatDoor
open Go.RowKit Go.IntWalk
theorem jN {ok:Nat->Prop} {w:World} {aV aI aO aR:Option Addr} {cV cI cO cR:Nat} {S:Sk.Sys} (hG:GlobK w) (hP:GlobP w) (hS:HSys ok w aV aI aO aR cV cI cO cR S) :
  Calls Tryz.prog 5 #[.agg #[.slice aV S.V.length cV,.slice aI S.I.length cI,.slice aO S.O.length cO,.slice aR S.R.length cR]] w fun e w'=>e=.returned (.bool true)/\Below w.heap.size w w':=by
 obtain ⟨aoV,capV,evV,hV1,hV2,-⟩:=hS.V.at;injection evV with q1 q2 q3;rw [<-q3] at hV1 hV2;clear q1 q2 q3;obtain ⟨aoI,capI,evI,hI1,hI2,-⟩:=hS.I.at;injection evI with q1 q2 q3;rw [<-q3] at hI1 hI2;clear q1 q2 q3;obtain ⟨aoR,capR,evR,hR1,hR2,-⟩:=hS.R.at;injection evR with q1 q2 q3;rw [<-q3] at hR1 hR2;clear q1 q2 q3;unfold maxLen at hV2 hR2 hI2;have b1:Below w.heap.size w (w.alloc (.cells #[.slice aV S.V.length cV,.slice aI S.I.length cI,.slice aO S.O.length cO,.slice aR S.R.length cR] 26 (0,0))):=(Below.refl _ _).alloc zL _;have kS:=zJ w (.cells #[.slice aV S.V.length cV,.slice aI S.I.length cI,.slice aO S.O.length cO,.slice aR S.R.length cR] 26 (0,0));have HS:=zG (hS.under b1);have HG:=zG (hG.under b1);have HP:=zG (hP.under b1);clear hS hG hP;go_enter Tryz.func5,Tryz.ntmps5;go_upto_region 1 with fail;generalize w.alloc (.cells #[.slice aV S.V.length cV,.slice aI S.I.length cI,.slice aO S.O.length cO,.slice aR S.R.length cR] 26 (0,0))=w1 at b1 kS HS HG HP ⊢;go_wp2_with fail;refine (zAA HG.out HP.out).mono ?_;rintro e w2 ⟨rfl,b2⟩;have B2:=b1.trans (b2.mono b1.size);have kS2:=(b2.block _ (zH kS)).trans kS;have HS2:=zG (HS.out.under b2);have HG2:=zG (HG.out.under b2);have HP2:=zG (HP.out.under b2);have s0:=coQ kS2 0;have s1:=coQ kS2 1;have s2:=coQ kS2 2;have s3:=coQ kS2 3;simp at s0 s1 s2 s3;clear HS HG HP kS;go_wp2_with fail;refine (great8_any HS2.out).mono ?_;rintro e w3 ⟨⟨bg,rfl,hfew,b3⟩⟩;have B3:=B2.trans (b3.mono B2.size)
 cases bg
 case true=>
  clear hfew s0 s1 s2 s3;go_wp2;go_ret;exact ⟨rfl,B3⟩
 case false=>
  have hf:=hfew rfl;have hfit:∀ r ∈ S.R,r.A.length<=1000000/\r.E.length<=1000000:=fun r hr=>by have:=hf.2 r hr;omega
  have HFIT:=zG hfit;have kS3:=(b3.block _ (zH kS2)).trans kS2;have HS3:=zG (HS2.out.under b3);have hmk:=make_any (HG2.out.under b3) (HP2.out.under b3) HS3.out hfit;clear hfew hf hfit s0 s1 s2 s3 HS2 HG2 HP2 kS2;have s0:=coQ kS3 0;have s1:=coQ kS3 1;have s2:=coQ kS3 2;have s3:=coQ kS3 3;simp at s0 s1 s2 s3;go_wp2_with fail;refine hmk.mono ?_;intro e w4 hpost;clear hmk;unfold MakePost at hpost;rcases hpost with ⟨c,a,hc,-,rfl,b4⟩ | ⟨okS,had,ga,gk,KK,st,rfl,hkt,hkl,hld,hc6,hia,hik,b4⟩
  case inl=>
   have B4:=B3.trans (b4.mono B3.size);have hq:(c != 0)=true:=(by simpa using hc);have b5:Below w4.heap.size w4 (w4.alloc (.cells #[.slice none 0 0,.slice none 0 0,.int .i64 0] 48 (0,0))):=(Below.refl _ _).alloc zL _;have b6:=b5.alloc b5.size (.cells #[.int .i64 c,.int .i64 a] 30 (0,0));have kF:((w4.alloc (.cells #[.slice none 0 0,.slice none 0 0,.int .i64 0] 48 (0,0))).alloc (.cells #[.int .i64 c,.int .i64 a] 30 (0,0))).heap[w4.heap.size+1]?=some (.cells #[.int .i64 c,.int .i64 a] 30 (0,0)):=by
    have:=zJ (w4.alloc (.cells #[.slice none 0 0,.slice none 0 0,.int .i64 0] 48 (0,0))) (.cells #[.int .i64 c,.int .i64 a] 30 (0,0))
    simpa using this
   have B6:=B4.trans (b6.mono B4.size);clear hc s0 s1 s2 s3 b5;go_upto_region 6 with fail;generalize (w4.alloc (.cells #[.slice none 0 0,.slice none 0 0,.int .i64 0] 48 (0,0))).alloc (.cells #[.int .i64 c,.int .i64 a] 30 (0,0))=w6 at b6 kF B6 ⊢;have f0:=coQ kF 0;simp at f0;go_wp2;go_ret;exact ⟨rfl,B6⟩
  case inr=>
   have B4:=B3.trans (b4.mono B3.size);have I:=(hld.inv okS).2;have HI:=zG I;have HOK:=zG okS;have HKT:=zG hkt;have nI:=okS.nI;have nR:=okS.nR;have nV:=okS.nV;have hkp:=Sk.kept_le okS S.R.length zL;have PL:∃ PLN:Nat,PLN=st.c:=⟨_,rfl⟩;obtain ⟨sc,hsc⟩:=PL;rw [<-hsc];have hsc6:sc<=6000:=(by omega);have HSC:=zG hsc;have b5:Below w4.heap.size w4 (w4.alloc (.cells #[.slice (some ⟨ga,0,none⟩) S.V.length S.V.length,.slice (some ⟨gk,0,none⟩) S.R.length S.R.length,.int .i64 (sc:Int)] 48 (0,0))):=(Below.refl _ _).alloc zL _;have b6:=b5.alloc b5.size (.cells #[.int .i64 0,.int .i64 0] 30 (0,0));have kP:((w4.alloc (.cells #[.slice (some ⟨ga,0,none⟩) S.V.length S.V.length,.slice (some ⟨gk,0,none⟩) S.R.length S.R.length,.int .i64 (sc:Int)] 48 (0,0))).alloc (.cells #[.int .i64 0,.int .i64 0] 30 (0,0))).heap[w4.heap.size]?=some (.cells #[.slice (some ⟨ga,0,none⟩) S.V.length S.V.length,.slice (some ⟨gk,0,none⟩) S.R.length S.R.length,.int .i64 (sc:Int)] 48 (0,0)):=(Below.heap_alloc _ _ _ (by simp)).trans (zJ w4 _);have kF:((w4.alloc (.cells #[.slice (some ⟨ga,0,none⟩) S.V.length S.V.length,.slice (some ⟨gk,0,none⟩) S.R.length S.R.length,.int .i64 (sc:Int)] 48 (0,0))).alloc (.cells #[.int .i64 0,.int .i64 0] 30 (0,0))).heap[w4.heap.size+1]?=some (.cells #[.int .i64 0,.int .i64 0] 30 (0,0)):=by
    have:=zJ (w4.alloc (.cells #[.slice (some ⟨ga,0,none⟩) S.V.length S.V.length,.slice (some ⟨gk,0,none⟩) S.R.length S.R.length,.int .i64 (sc:Int)] 48 (0,0))) (.cells #[.int .i64 0,.int .i64 0] 30 (0,0))
    simpa using this
   have B6:=B4.trans (b6.mono B4.size);have HS6:=zG ((HS3.out.under b4).under b6);have kS4:=(b4.block _ (zH kS3)).trans kS3;have kS6:=(b6.block _ (zH kS4)).trans kS4;have HIA:=zG (hia.under b6);have HIK:=zG (hik.under b6);have HKL:=zG hkl;clear hld I okS hkt had hc6 hia hik hkl hsc s0 s1 s2 s3 b5 kS3 kS4 HS3;go_upto_region 6 with fail;generalize (w4.alloc (.cells #[.slice (some ⟨ga,0,none⟩) S.V.length S.V.length,.slice (some ⟨gk,0,none⟩) S.R.length S.R.length,.int .i64 (sc:Int)] 48 (0,0))).alloc (.cells #[.int .i64 0,.int .i64 0] 30 (0,0))=w6 at b6 kP kF B6 HS6 kS6 HIA HIK ⊢;have f0:=coQ kF 0;simp at f0;have yS6:=zH kS6;have yP6:=zH kP;have s0:=coQ kS6 0;have s1:=coQ kS6 1;have s2:=coQ kS6 2;have s3:=coQ kS6 3;simp at s0 s1 s2 s3;have hsp:=spansOf_any HS6.out HOK.out HFIT.out;have hsl:(Sk.spans S).length=S.V.length:=(Sk.spans_spanned HOK.out).len;go_wp2_with fail;refine hsp.mono ?_;rintro e w7 ⟨vl,rfl,hown,b7⟩;obtain ⟨aL,cL,evl,hl1,hl2⟩:=hown.form;rw [hsl] at evl hl1;subst evl;unfold maxLen at hl2;have HROW:=zG hown.row;have kS7:=(b7.block _ yS6).trans kS6;have kP7:=(b7.block _ yP6).trans kP;have HS7:=zG (HS6.out.under b7);have IA7:=HIA.out.under b7;have IK7:=HIK.out.under b7;have B7:=B6.trans (b7.mono B6.size);have hla:st.A.length=S.V.length:=HI.out.lenA;have HSL:=zG hsl;have yS7:=zH kS7;have yP7:=zH kP7;have yA7:ga<w7.heap.size:=IA7.lt;have yK7:gk<w7.heap.size:=IK7.lt;have HCA:=zG (fun (x:Nat) (hx:x<S.V.length)=>show w7.cell? ⟨ga,x,none⟩=some (.int .i64 (Sk.aAt st.A (x:Int))) from by
    have hxa:x<st.A.length:=(by rw [hla];exact hx);rw [IA7.at hxa];unfold Sk.aAt;rw [Int.toNat_natCast,List.getD_eq_getElem?_getD,List.getElem?_eq_getElem hxa];rfl)
   have HCK:=zG (fun (x:Nat) (hx:x<S.R.length)=>show w7.cell? ⟨gk,x,none⟩=some (.int .i64 (if (S.R[x]).op=13 then (Sk.kept S x:Int) else -1)) from by
    have hxk:x<KK.length:=(by rw [HKL.out];exact hx);have h5:=HKT.out x hx;rw [List.getD_eq_getElem?_getD,List.getElem?_eq_getElem hxk] at h5;have h6:KK[x]=if x<S.R.length/\(S.R[x]).op=13 then (Sk.kept S x:Int) else -1:=h5
    rw [IK7.at hxk,h6];by_cases q:(S.R[x]).op=13
    ·rw [if_pos ⟨hx,q⟩,if_pos q]
    ·rw [if_neg (fun z=>q z.2),if_neg q])
   clear hsp hown s0 s1 s2 s3 f0 kS6 kP kF HS6 HIA HIK IA7 IK7 yS6 yP6 HKT HKL hsl b7 b6;go_wp2_with fail;go_loopg [6,7] S.R.length (fun k v6 v7 wr=>∃ (i:Nat),i<=S.R.length/\k=S.R.length-i/\v6=.int .i64 ((Sk.kept S i:Nat):Int)/\v7=.int .i64 (i:Nat)/\Sk.kept S i<=1+300*i/\Below w7.heap.size w7 wr)
   case atStart=>exact ⟨0,Nat.zero_le _,rfl,rfl,rfl,by rw [Sk.kept_zero];omega,Below.refl _ _⟩
   case round=>
    obtain ⟨i,hi,rfl,rfl,rfl,hkb,hbr⟩:=hrel;have kSr:=(hbr.block _ yS7).trans kS7;have kPr:=(hbr.block _ yP7).trans kP7;have s0:=coQ kSr 0;have s1:=coQ kSr 1;have s2:=coQ kSr 2;have s3:=coQ kSr 3;have p0:=coQ kPr 0;have p1:=coQ kPr 1;have p2:=coQ kPr 2;simp at s0 s1 s2 s3 p0 p1 p2;have yS:=zH kSr;have yP:=zH kPr;by_cases hlt:i<S.R.length
    case pos=>
     obtain ⟨ao,cp,e1,-,-,hat⟩:=(HS7.out.under hbr).R.at;injection e1 with q1 q2 q3;obtain ⟨bR,oR,y,hbR,yR,hrat,-⟩:=hat i hlt;rw [hbR] at q1;subst q1;have hck:=(hbr.cell (p:=⟨gk,i,none⟩) yK7).trans (HCK.out i hlt);have yK:=Nat.lt_of_lt_of_le yK7 hbr.size;have hks:=Sk.kept_succ S hlt;obtain ⟨r,hr⟩:=nmQ (S.R[i]);have hrm:r ∈ S.R:=(by rw [hr];exact List.getElem_mem hlt);have hout:=(HOK.out.rules r hrm).1.1;rw [<-hr] at hrat hck hks;obtain ⟨d0,-,d2,-,-,-⟩:=hrat;obtain ⟨kp,hkpe⟩:=nmQ (Sk.kept S i);rw [<-hkpe] at hks hkb hck ⊢;obtain ⟨o,ho⟩:∃ o:Nat,(o:Int)=r.out:=⟨r.out.toNat,by omega⟩;have hol:o<S.V.length:=(by omega);rw [<-ho] at d2 hks;by_cases hop:r.op=13
     case neg=>
      rw [if_neg hop] at hck hks;have HK2:=zG (show kp=Sk.kept S (i+1) by rw [hks,Nat.add_zero]);obtain ⟨rop,hrop⟩:=nmQ (r.op);rw [<-hrop] at d0 hop;clear hat q2 q3 hbR hr hrm hout ho hrop hks hkpe kSr kPr d2;go_wp2_with fail;go_roundg (S.R.length-(i+1))
      case measure=>omega
      case rel=>exact ⟨i+1,by omega,rfl,by rw [<-HK2.out],by go_num,by rw [<-HK2.out];omega,hbr⟩
     case pos=>
      as_aux_lemma=>
       rw [if_pos hop] at hck hks;rw [hop] at d0;obtain ⟨aoW,cpW,evW,-,-,hatW⟩:=(HS7.out.under hbr).V.at;injection evW with z1 z2 z3;obtain ⟨bV,oV,ebW,yV,-,cN⟩:=hatW o hol;rw [ebW] at z1;subst z1;have eC:Sk.ct S (o:Int)=Sk.cnt S.V[o]:=(by unfold Sk.ct;rw [Sk.vAt_get hol]);have hce:=fun W=>jZ S.V[o] W;rw [<-eC] at hce;have hcl:=Sk.ct_le HOK.out (o:Int) (by omega) (by omega);generalize (S.V[o]).n=vn at cN hce;generalize Sk.ct S (o:Int)=cn at hce hcl hks;have HK2:=zG (show kp+cn=Sk.kept S (i+1) from hks.symm);have HCE:=zG hce;clear hat q2 q3 hbR hr hrm hout ho hks hkpe kSr kPr hatW z2 z3 ebW eC hce hop;go_upto_region 16 with fail;refine zK (fun w'=>Below wr.heap.size wr w') (fun _=>false) (by kernel_rfl) ?_;have hH0:Below wr.heap.size wr wr.drew:=(Below.refl _ _).drew;generalize wr.drew=wd0 at hH0 ⊢;refine' tkR 0 48 hH0 ?o1
       refine' tkR 1 49 hH0 ?o2
       refine' tkQ 2 50 hH0 ?hyv ?o3
       case hyv=>
        intro wz hSw;have zc0:=(hSw.cell (p:=⟨w.heap.size,0,none⟩) yS).trans s0;have zc1:=(hSw.cell (p:=⟨w.heap.size,3,none⟩) yS).trans s3;have zc2:=(hSw.cell (p:=⟨bR,oR+i*6+2,none⟩) yR).trans d2;have zc3:=(hSw.cell (p:=⟨bV,oV+o*2+1,none⟩) yV).trans cN;go_simp
        try rfl
       try simp only [Act.put,sT,sZ,sS]
       refine' tkR 3 51 hH0 ?o4
       refine' tkQ 4 52 hH0 ?hyv ?o5
       case hyv=>
        intro wz hSw;have zc0:=(hSw.cell (p:=⟨w.heap.size,0,none⟩) yS).trans s0;have zc1:=(hSw.cell (p:=⟨w.heap.size,3,none⟩) yS).trans s3;have zc2:=(hSw.cell (p:=⟨bR,oR+i*6+2,none⟩) yR).trans d2;have zc3:=(hSw.cell (p:=⟨bV,oV+o*2+1,none⟩) yV).trans cN;go_simp
        try rfl
       try simp only [Act.put,sT,sZ,sS]
       refine' tkR 5 53 hH0 ?o6
       refine' tkR 6 54 hH0 ?o7
       refine' tkR 7 55 hH0 ?o8
       refine' tkQ 8 56 hH0 ?hyv ?o9
       case hyv=>
        intro wz hSw;have zc0:=(hSw.cell (p:=⟨w.heap.size,0,none⟩) yS).trans s0;have zc1:=(hSw.cell (p:=⟨w.heap.size,3,none⟩) yS).trans s3;have zc2:=(hSw.cell (p:=⟨bR,oR+i*6+2,none⟩) yR).trans d2;have zc3:=(hSw.cell (p:=⟨bV,oV+o*2+1,none⟩) yV).trans cN;go_simp
        try rfl
       try simp only [Act.put,sT,sZ,sS]
       refine' tkR 9 57 hH0 ?o10
       refine' tkR 10 58 hH0 ?o11
       refine' tkQ 11 59 hH0 ?hyv ?o12
       case hyv=>
        intro wz hSw;have zc0:=(hSw.cell (p:=⟨w.heap.size,0,none⟩) yS).trans s0;have zc1:=(hSw.cell (p:=⟨w.heap.size,3,none⟩) yS).trans s3;have zc2:=(hSw.cell (p:=⟨bR,oR+i*6+2,none⟩) yR).trans d2;have zc3:=(hSw.cell (p:=⟨bV,oV+o*2+1,none⟩) yV).trans cN;go_simp
        try rfl
       try simp only [Act.put,sT,sZ,sS]
       refine tnQ 12 (fun K hK=>?_);go_simp;refine (HCE.out wd0).mono ?_;rintro eq wd1 ⟨rfl,hq1⟩;have hH1:Below wr.heap.size wr wd1:=hq1 ▸ hH0;refine hK.out _ _ (fun _=>hH1) ?_;clear hK K
       try simp only [Act.put,sT,sZ,sS]
       refine' zM (i:=13) (oi:=⟨some 61,_,_,_,_,_⟩) (v:=.int .i64 ((kp:Int)+(cn:Int))) rfl (by kernel_rfl) (by kernel_rfl) (by kernel_rfl) (by kernel_rfl) (fun _ _ _ h=>h) hH1 (by rfl) ?hyv ?o13
       case hyv=>
        intro wz hSw;go_simp;rw [i64_in _ ⟨by omega,by omega⟩]
       try simp only [Act.put,sT,sZ,sS]
       refine' tkR 14 6 hH1 ?o14
       refine zI (by kernel_rfl) ?_ _;go_wp2_with fail;go_roundg (S.R.length-(i+1))
       case measure=>omega
       case rel=>exact ⟨i+1,by omega,rfl,by rw [<-HK2.out];first | rfl | (congr 1;omega),by go_num,by rw [<-HK2.out];omega,hbr.trans (hH1.mono hbr.size)⟩
    case neg=>
     have hin:i=S.R.length:=(by omega);subst hin;obtain ⟨kp,hkpe⟩:=nmQ (Sk.kept S S.R.length);rw [<-hkpe] at hkb ⊢;have HKE:=zG hkpe;have hbr0:=hbr;obtain ⟨w8,hw8⟩:=nmQ (wr);subst hw8;clear hkpe kSr kPr;go_wp2_with fail;clear s0 s1 s2 s3 p0 p1 p2;go_loopg [8] S.V.length (fun k v8 wr=>∃ (u:Nat),u<=S.V.length/\k=S.V.length-u/\v8=.int .i64 (u:Nat)/\Below w7.heap.size w7 wr)
     case atStart=>exact ⟨0,Nat.zero_le _,rfl,rfl,hbr0⟩
     case round=>
      clear hbr0 hbr;obtain ⟨u,hu,rfl,rfl,hbr⟩:=hrel;have kSr:=(hbr.block _ yS7).trans kS7;have kPr:=(hbr.block _ yP7).trans kP7;have s0:=coQ kSr 0;have s1:=coQ kSr 1;have s2:=coQ kSr 2;have s3:=coQ kSr 3;have p0:=coQ kPr 0;have p1:=coQ kPr 1;have p2:=coQ kPr 2;simp at s0 s1 s2 s3 p0 p1 p2;have yS:=zH kSr;have yP:=zH kPr;by_cases hlt:u<S.V.length
      case neg=>
       clear kSr kPr;go_wp2;go_ret;exact ⟨rfl,B7.trans (hbr.mono B7.size)⟩
      case pos=>
       have hus:u<(Sk.spans S).length:=(by rw [HSL.out];exact hlt);obtain ⟨aoL,cpL,evL,-,-,hatL⟩:=HROW.out.spAt;injection evL with y1 y2 y3;obtain ⟨bL,oL,ebL,yL7,-,-⟩:=hatL u hus;rw [ebL] at y1;subst y1;have HCS:=zG (fun (x:Nat) (hx:x<S.V.length)=>show w7.cell? ⟨bL,oL+x*2,none⟩=some (.int .i64 (Sk.spAt (Sk.spans S) (x:Int)).1)/\w7.cell? ⟨bL,oL+x*2+1,none⟩=some (.int .i64 (Sk.spAt (Sk.spans S) (x:Int)).2) from by
        have hxs:x<(Sk.spans S).length:=(by rw [HSL.out];exact hx);obtain ⟨b',o',eb',-,c1,c2⟩:=hatL x hxs;rw [ebL] at eb';injection eb' with eb';injection eb' with f1 f2;subst f1 f2;have eS:Sk.spAt (Sk.spans S) (x:Int)=(Sk.spans S)[x]:=by
         unfold Sk.spAt;rw [Int.toNat_natCast,List.getD_eq_getElem?_getD,List.getElem?_eq_getElem hxs];rfl
        rw [eS];exact ⟨c1,c2⟩)
       obtain ⟨aoW,cpW,evW,-,-,hatW⟩:=HS7.out.V.at;injection evW with z1 z2 z3;obtain ⟨bV,oV,ebW,yV7,-,-⟩:=hatW u hlt;rw [ebW] at z1;subst z1;have HCN:=zG (fun (x:Nat) (hx:x<S.V.length)=>show w7.cell? ⟨bV,oV+x*2+1,none⟩=some (.int .i64 (S.V[x]).n) from by
        obtain ⟨b',o',eb',-,-,c2⟩:=hatW x hx;rw [ebW] at eb';injection eb' with eb';injection eb' with f1 f2;subst f1 f2;exact c2)
       have HCE:=zG (fun (x:Nat) (hx:x<S.V.length) (W:World)=>show Calls Tryz.prog 21 #[.int .i64 (S.V[x]).n] W fun e w'=>e=.returned (.int .i64 ((Sk.ct S (x:Int):Nat):Int))/\W=w' from by
        have eC:Sk.ct S (x:Int)=Sk.cnt S.V[x]:=(by unfold Sk.ct;rw [Sk.vAt_get hx]);rw [eC];exact jZ S.V[x] W)
       have cNu:=(hbr.cell (p:=⟨bV,oV+u*2+1,none⟩) yV7).trans (HCN.out u hlt);have hceu:=HCE.out u hlt;have hclu:=Sk.ct_le HOK.out (u:Int) (by omega) (by omega);have cAu:=(hbr.cell (p:=⟨ga,u,none⟩) yA7).trans (HCA.out u hlt);have cFu:=(hbr.cell (p:=⟨bL,oL+u*2,none⟩) yL7).trans (HCS.out u hlt).1;have cTu:=(hbr.cell (p:=⟨bL,oL+u*2+1,none⟩) yL7).trans (HCS.out u hlt).2;have HNONE:=zG (fun h=>HI.out.none (v:=(u:Int)) HOK.out ⟨by omega,by omega⟩ h);have HINN:=zG (show 0<=Sk.aAt st.A (u:Int)->(Sk.kept S S.R.length:Int)<=Sk.aAt st.A (u:Int)/\Sk.aAt st.A (u:Int)+Sk.ct S (u:Int)<=st.c from fun h=>by
        obtain ⟨j,hj,e⟩:=HI.out.laid (v:=(u:Int)) HOK.out ⟨by omega,by omega⟩ h;have h5:=HI.out.at hj;rw [<-e] at h5;exact h5)
       obtain ⟨Au,hAu⟩:=nmQ (Sk.aAt st.A (u:Int));obtain ⟨nu,hnu⟩:=nmQ (Sk.ct S (u:Int));obtain ⟨Fu,hFu⟩:=nmQ ((Sk.spAt (Sk.spans S) (u:Int)).1);obtain ⟨Tu,hTu⟩:=nmQ ((Sk.spAt (Sk.spans S) (u:Int)).2);rw [<-hAu] at cAu HNONE HINN;rw [<-hnu] at hceu hclu HINN;rw [<-hFu] at cFu HNONE;rw [<-hTu] at cTu HNONE;rw [<-HKE.out,<-HSC.out] at HINN;have HAu:=zG hAu;have Hnu:=zG hnu;have HFu:=zG hFu;have HTu:=zG hTu;generalize (S.V[u]).n=vnu at cNu hceu;have yL:=Nat.lt_of_lt_of_le yL7 hbr.size;have yV:=Nat.lt_of_lt_of_le yV7 hbr.size;have yA:=Nat.lt_of_lt_of_le yA7 hbr.size;have HCEU:=zG (hceu wr);clear hatL y2 y3 ebL hus hatW z2 z3 ebW hceu hAu hnu hFu hTu kSr kPr;go_wp2_with fail;refine HCEU.out.mono ?_;rintro e w9 ⟨rfl,hw9⟩;subst hw9;clear HCEU;by_cases hneg:Au<0
       case pos=>
        as_aux_lemma=>
         have hnone:=HNONE.out hneg;clear HNONE HINN;go_upto_region 24 with fail;refine zK (fun w'=>Below wr.heap.size wr w') (fun _=>false) (by kernel_rfl) ?_;have hH0:Below wr.heap.size wr wr.drew:=(Below.refl _ _).drew;generalize wr.drew=wd0 at hH0 ⊢;refine' tkR 0 88 hH0 ?o15
         refine' tkR 1 89 hH0 ?o16
         refine' tkR 2 90 hH0 ?o17
         refine' tkR 3 91 hH0 ?o18
         refine' tkQ 4 92 hH0 ?hyv ?o19
         case hyv=>
          intro wz hSw;have zc3:=(hSw.cell (p:=⟨bL,oL+u*2,none⟩) yL).trans cFu;go_simp
          try rfl
         try simp only [Act.put,sT,sZ,sS]
         refine' tkR 5 93 hH0 ?o20
         refine' tkR 6 94 hH0 ?o21
         refine' tkR 7 95 hH0 ?o22
         refine' tkR 8 96 hH0 ?o23
         refine' tkQ 9 97 hH0 ?hyv ?o24
         case hyv=>
          intro wz hSw;have zc4:=(hSw.cell (p:=⟨bL,oL+u*2+1,none⟩) yL).trans cTu;go_simp
          try rfl
         try simp only [Act.put,sT,sZ,sS]
         refine' zM (i:=10) (oi:=⟨some 98,_,_,_,_,_⟩) (v:=.bool false) rfl (by kernel_rfl) (by kernel_rfl) (by kernel_rfl) (by kernel_rfl) (fun _ _ _ h=>h) hH0 (by rfl) ?hyv ?o25
         case hyv=>
          intro wz hSw;go_simp
          try simp
          try omega
         try simp only [Act.put,sT,sZ,sS]
         refine zI (by kernel_rfl) ?_ _;go_wp2_with fail;go_roundg (S.V.length-(u+1))
         case measure=>omega
         case rel=>exact ⟨u+1,by omega,rfl,by go_num,hbr.trans (hH0.mono hbr.size)⟩
       case neg=>
        have hinn:=HINN.out (by omega);have hin1:=hinn.1;have hin2:=hinn.2;clear HNONE HINN hinn;go_upto_region 26 with fail;refine zK (fun w'=>Below wr.heap.size wr w') (fun _=>false) (by kernel_rfl) ?_;have hH0:Below wr.heap.size wr wr.drew:=(Below.refl _ _).drew;generalize wr.drew=wd0 at hH0 ⊢;refine' tkR 0 99 hH0 ?o26
        refine' tkQ 1 100 hH0 ?hyv ?o27
        case hyv=>
         intro wz hSw;have zc0:=(hSw.cell (p:=⟨w4.heap.size,0,none⟩) yP).trans p0;go_simp
         try rfl
        try simp only [Act.put,sT,sZ,sS]
        refine' tkR 2 101 hH0 ?o28
        refine' tkR 3 102 hH0 ?o29
        refine' tkQ 4 103 hH0 ?hyv ?o30
        case hyv=>
         intro wz hSw;have zc2:=(hSw.cell (p:=⟨ga,u,none⟩) yA).trans cAu;go_simp
         try rfl
        try simp only [Act.put,sT,sZ,sS]
        refine' tkR 5 104 hH0 ?o31
        refine' zM (i:=6) (oi:=⟨some 105,_,_,_,_,_⟩) (v:=.bool false) rfl (by kernel_rfl) (by kernel_rfl) (by kernel_rfl) (by kernel_rfl) (fun _ _ _ h=>h) hH0 (by rfl) ?hyv ?o32
        case hyv=>
         intro wz hSw;go_simp
         try simp
         try omega
        try simp only [Act.put,sT,sZ,sS]
        refine' tkR 7 106 hH0 ?o33
        refine' tkR 8 107 hH0 ?o34
        refine' tkQ 9 108 hH0 ?hyv ?o35
        case hyv=>
         intro wz hSw;have zc0:=(hSw.cell (p:=⟨w4.heap.size,0,none⟩) yP).trans p0;go_simp
         try rfl
        try simp only [Act.put,sT,sZ,sS]
        refine' tkR 10 109 hH0 ?o36
        refine' tkR 11 110 hH0 ?o37
        refine' tkQ 12 111 hH0 ?hyv ?o38
        case hyv=>
         intro wz hSw;have zc2:=(hSw.cell (p:=⟨ga,u,none⟩) yA).trans cAu;go_simp
         try rfl
        try simp only [Act.put,sT,sZ,sS]
        refine' tkR 13 112 hH0 ?o39
        refine' zM (i:=14) (oi:=⟨some 113,_,_,_,_,_⟩) (v:=.int .i64 (Au+(nu:Int))) rfl (by kernel_rfl) (by kernel_rfl) (by kernel_rfl) (by kernel_rfl) (fun _ _ _ h=>h) hH0 (by rfl) ?hyv ?o40
        case hyv=>
         intro wz hSw;go_simp;rw [i64_in _ ⟨by omega,by omega⟩]
        try simp only [Act.put,sT,sZ,sS]
        refine' tkR 15 114 hH0 ?o41
        refine' tkQ 16 115 hH0 ?hyv ?o42
        case hyv=>
         intro wz hSw;have zc1:=(hSw.cell (p:=⟨w4.heap.size,2,none⟩) yP).trans p2;go_simp
         try rfl
        try simp only [Act.put,sT,sZ,sS]
        refine' zM (i:=17) (oi:=⟨some 116,_,_,_,_,_⟩) (v:=.bool false) rfl (by kernel_rfl) (by kernel_rfl) (by kernel_rfl) (by kernel_rfl) (fun _ _ _ h=>h) hH0 (by rfl) ?hyv ?o43
        case hyv=>
         intro wz hSw;go_simp
         try simp
         try omega
        try simp only [Act.put,sT,sZ,sS]
        refine' tkR 18 117 hH0 ?o44
        refine zI (by kernel_rfl) ?_ _;obtain ⟨wx,hwx⟩:=nmQ (wd0);subst hwx;have hX:=hH0;have BX:=hbr.trans (hX.mono hbr.size);clear s0 s1 s2 s3 p0 p1 p2 cAu cFu cTu cNu yS yP yL yV yA;have kSx:=(BX.block _ yS7).trans kS7;have s0x:=coQ kSx 0;simp at s0x;go_wp2_with fail;clear s0x kSx;go_loopg [10] S.V.length (fun k v10 wr=>∃ (v:Nat),v<=S.V.length/\k=S.V.length-v/\v10=.int .i64 (v:Nat)/\Below w7.heap.size w7 wr)
        case atStart=>exact ⟨0,Nat.zero_le _,rfl,rfl,BX⟩
        case round=>
         clear BX hX hbr;obtain ⟨v,hv,rfl,rfl,hbr⟩:=hrel;have kSr:=(hbr.block _ yS7).trans kS7;have kPr:=(hbr.block _ yP7).trans kP7;have s0:=coQ kSr 0;have s1:=coQ kSr 1;have s2:=coQ kSr 2;have s3:=coQ kSr 3;have p0:=coQ kPr 0;have p1:=coQ kPr 1;have p2:=coQ kPr 2;simp at s0 s1 s2 s3 p0 p1 p2;have yS:=zH kSr;have yP:=zH kPr;by_cases hltv:v<S.V.length
         case neg=>
          clear kSr kPr;go_wp2_with fail;go_roundg (S.V.length-(u+1))
          case measure=>omega
          case rel=>exact ⟨u+1,by omega,rfl,by go_num,hbr⟩
         case pos=>
          have cNv:=(hbr.cell (p:=⟨bV,oV+v*2+1,none⟩) yV7).trans (HCN.out v hltv);have hclv:=Sk.ct_le HOK.out (v:Int) (by omega) (by omega);have cAu:=(hbr.cell (p:=⟨ga,u,none⟩) yA7).trans (HCA.out u hlt);have cFu:=(hbr.cell (p:=⟨bL,oL+u*2,none⟩) yL7).trans (HCS.out u hlt).1;have cTu:=(hbr.cell (p:=⟨bL,oL+u*2+1,none⟩) yL7).trans (HCS.out u hlt).2;have cAv:=(hbr.cell (p:=⟨ga,v,none⟩) yA7).trans (HCA.out v hltv);have cFv:=(hbr.cell (p:=⟨bL,oL+v*2,none⟩) yL7).trans (HCS.out v hltv).1;have cTv:=(hbr.cell (p:=⟨bL,oL+v*2+1,none⟩) yL7).trans (HCS.out v hltv).2;have hcev:=fun W=>HCE.out v hltv W;have HAP:=zG (fun ne au av o1 o2 hle=>HI.out.apart_of (u:=(u:Int)) (v:=(v:Int)) HOK.out ⟨by omega,by omega⟩ ⟨by omega,by omega⟩ ne au av o1 o2 hle);have HPA:=zG (fun ne au av o1 o2 hle=>HI.out.apart_of (u:=(v:Int)) (v:=(u:Int)) HOK.out ⟨by omega,by omega⟩ ⟨by omega,by omega⟩ ne au av o1 o2 hle);obtain ⟨Av,hAv⟩:=nmQ (Sk.aAt st.A (v:Int));obtain ⟨nv,hnv⟩:=nmQ (Sk.ct S (v:Int));obtain ⟨Fv,hFv⟩:=nmQ ((Sk.spAt (Sk.spans S) (v:Int)).1);obtain ⟨Tv,hTv⟩:=nmQ ((Sk.spAt (Sk.spans S) (v:Int)).2);have hAvb:0<=Av->Av<=6000:=fun h=>by
           obtain ⟨j,hj,e⟩:=HI.out.laid (v:=(v:Int)) HOK.out ⟨by omega,by omega⟩ (hAv ▸ h);have h5:=HI.out.at hj;rw [<-e,<-hAv,<-HSC.out] at h5;omega
          rw [<-HAu.out] at cAu;rw [<-HFu.out] at cFu;rw [<-HTu.out] at cTu;rw [<-hAv] at cAv;rw [<-hFv] at cFv;rw [<-hTv] at cTv;rw [<-hnv] at hcev hclv;rw [<-HAu.out,<-hAv,<-Hnu.out,<-hnv,<-HFu.out,<-hFv,<-HTu.out] at HAP;rw [<-HAu.out,<-hAv,<-Hnu.out,<-hnv,<-HFu.out,<-hFv,<-hTv] at HPA;generalize (S.V[v]).n=vnv at cNv hcev;have HCEV:=zG hcev;have yL:=Nat.lt_of_lt_of_le yL7 hbr.size;have yV:=Nat.lt_of_lt_of_le yV7 hbr.size;have yA:=Nat.lt_of_lt_of_le yA7 hbr.size;obtain ⟨q1,hq1⟩:=nmQ (((v:Int)==(u:Int)));obtain ⟨q2,hq2⟩:=nmQ (decide (Av<0));obtain ⟨q3,hq3⟩:=nmQ (decide (Au+(nu:Int)<=Av));obtain ⟨q4,hq4⟩:=nmQ (decide (Av+(nv:Int)<=Au));have HQ1:=zG hq1;have HQ2:=zG hq2;have HQ3:=zG hq3;have HQ4:=zG hq4;obtain ⟨QQ,hQQ⟩:=nmQ ((((q1 || q2) || q3) || q4));have HQQ:=zG hQQ;have HAVB:=zG hAvb;have HAv:=zG hAv;have HFv:=zG hFv;have HTv:=zG hTv;clear hAv hnv hFv hTv hcev hq1 hq2 hq3 hq4 hQQ hAvb kSr kPr;go_upto_region 31 with fail;go_cut [171] (fun x wd=>x=.bool QQ/\Below wr.heap.size wr wd)
          case first=>
           as_aux_lemma=>
            refine zK (fun w'=>Below wr.heap.size wr w') (fun _=>false) (by kernel_rfl) ?_;have hH0:Below wr.heap.size wr wr.drew:=(Below.refl _ _).drew;generalize wr.drew=wd0 at hH0 ⊢;refine' tkR 0 125 hH0 ?o45
            refine' tkR 1 126 hH0 ?o46
            refine' zM (i:=2) (oi:=⟨some 127,_,_,_,_,_⟩) (v:=.bool q1) rfl (by kernel_rfl) (by kernel_rfl) (by kernel_rfl) (by kernel_rfl) (fun _ _ _ h=>h) hH0 (by rfl) ?hyv ?o47
            case hyv=>
             intro wz hSw;go_simp;rw [HQ1.out]
             try rfl
            try simp only [Act.put,sT,sZ,sS]
            refine' tkR 3 128 hH0 ?o48
            cases q1
            case false=>
             refine' tkR 4 129 hH0 ?o49
             refine' tkQ 5 130 hH0 ?hyv ?o50
             case hyv=>
              intro wz hSw;have zc1:=(hSw.cell (p:=⟨w4.heap.size,0,none⟩) yP).trans p0;go_simp
              try rfl
             try simp only [Act.put,sT,sZ,sS]
             refine' tkR 6 131 hH0 ?o51
             refine' tkR 7 132 hH0 ?o52
             refine' tkQ 8 133 hH0 ?hyv ?o53
             case hyv=>
              intro wz hSw;have zc3:=(hSw.cell (p:=⟨ga,v,none⟩) yA).trans cAv;go_simp
              try rfl
             try simp only [Act.put,sT,sZ,sS]
             refine' zM (i:=9) (oi:=⟨some 134,_,_,_,_,_⟩) (v:=.bool q2) rfl (by kernel_rfl) (by kernel_rfl) (by kernel_rfl) (by kernel_rfl) (fun _ _ _ h=>h) hH0 (by rfl) ?hyv ?o54
             case hyv=>
              intro wz hSw;go_simp;rw [HQ2.out]
              try rfl
             try simp only [Act.put,sT,sZ,sS]
             refine' tkR 10 135 hH0 ?o55
             refine' tkR 11 136 hH0 ?o56
             cases q2
             case false=>
              refine' tkR 12 137 hH0 ?o57
              refine' tkQ 13 138 hH0 ?hyv ?o58
              case hyv=>
               intro wz hSw;have zc1:=(hSw.cell (p:=⟨w4.heap.size,0,none⟩) yP).trans p0;go_simp
               try rfl
              try simp only [Act.put,sT,sZ,sS]
              refine' tkR 14 139 hH0 ?o59
              refine' tkR 15 140 hH0 ?o60
              refine' tkQ 16 141 hH0 ?hyv ?o61
              case hyv=>
               intro wz hSw;have zc2:=(hSw.cell (p:=⟨ga,u,none⟩) yA).trans cAu;go_simp
               try rfl
              try simp only [Act.put,sT,sZ,sS]
              refine' tkR 17 142 hH0 ?o62
              refine' zM (i:=18) (oi:=⟨some 143,_,_,_,_,_⟩) (v:=.int .i64 (Au+(nu:Int))) rfl (by kernel_rfl) (by kernel_rfl) (by kernel_rfl) (by kernel_rfl) (fun _ _ _ h=>h) hH0 (by rfl) ?hyv ?o63
              case hyv=>
               intro wz hSw;go_simp;rw [i64_in _ ⟨by omega,by omega⟩]
              try simp only [Act.put,sT,sZ,sS]
              refine' tkR 19 144 hH0 ?o64
              refine' tkQ 20 145 hH0 ?hyv ?o65
              case hyv=>
               intro wz hSw;have zc1:=(hSw.cell (p:=⟨w4.heap.size,0,none⟩) yP).trans p0;go_simp
               try rfl
              try simp only [Act.put,sT,sZ,sS]
              refine' tkR 21 146 hH0 ?o66
              refine' tkR 22 147 hH0 ?o67
              refine' tkQ 23 148 hH0 ?hyv ?o68
              case hyv=>
               intro wz hSw;have zc3:=(hSw.cell (p:=⟨ga,v,none⟩) yA).trans cAv;go_simp
               try rfl
              try simp only [Act.put,sT,sZ,sS]
              refine' zM (i:=24) (oi:=⟨some 149,_,_,_,_,_⟩) (v:=.bool q3) rfl (by kernel_rfl) (by kernel_rfl) (by kernel_rfl) (by kernel_rfl) (fun _ _ _ h=>h) hH0 (by rfl) ?hyv ?o69
              case hyv=>
               intro wz hSw;go_simp;rw [HQ3.out]
               try rfl
              try simp only [Act.put,sT,sZ,sS]
              refine' tkR 25 150 hH0 ?o70
              refine' tkR 26 151 hH0 ?o71
              cases q3
              case false=>
               refine' tkR 27 152 hH0 ?o72
               refine' tkQ 28 153 hH0 ?hyv ?o73
               case hyv=>
                intro wz hSw;have zc1:=(hSw.cell (p:=⟨w4.heap.size,0,none⟩) yP).trans p0;go_simp
                try rfl
               try simp only [Act.put,sT,sZ,sS]
               refine' tkR 29 154 hH0 ?o74
               refine' tkR 30 155 hH0 ?o75
               refine' tkQ 31 156 hH0 ?hyv ?o76
               case hyv=>
                intro wz hSw;have zc3:=(hSw.cell (p:=⟨ga,v,none⟩) yA).trans cAv;go_simp
                try rfl
               try simp only [Act.put,sT,sZ,sS]
               refine' tkR 32 157 hH0 ?o77
               refine' tkQ 33 158 hH0 ?hyv ?o78
               case hyv=>
                intro wz hSw;have zc0:=(hSw.cell (p:=⟨w.heap.size,0,none⟩) yS).trans s0;go_simp
                try rfl
               try simp only [Act.put,sT,sZ,sS]
               refine' tkR 34 159 hH0 ?o79
               refine' tkR 35 160 hH0 ?o80
               refine' tkR 36 161 hH0 ?o81
               refine' tkQ 37 162 hH0 ?hyv ?o82
               case hyv=>
                intro wz hSw;have zc4:=(hSw.cell (p:=⟨bV,oV+v*2+1,none⟩) yV).trans cNv;go_simp
                try rfl
               try simp only [Act.put,sT,sZ,sS]
               refine' tkR 40 165 hH0 ?o83
               refine' tkQ 41 166 hH0 ?hyv ?o84
               case hyv=>
                intro wz hSw;have zc1:=(hSw.cell (p:=⟨w4.heap.size,0,none⟩) yP).trans p0;go_simp
                try rfl
               try simp only [Act.put,sT,sZ,sS]
               refine' tkR 42 167 hH0 ?o85
               refine' tkR 43 168 hH0 ?o86
               refine' tkQ 44 169 hH0 ?hyv ?o87
               case hyv=>
                intro wz hSw;have zc2:=(hSw.cell (p:=⟨ga,u,none⟩) yA).trans cAu;go_simp
                try rfl
               try simp only [Act.put,sT,sZ,sS]
               refine tnQ 38 (fun K hK=>?_);go_simp;refine (HCEV.out wd0).mono ?_;rintro eq wd1 ⟨rfl,hq1⟩;have hH1:Below wr.heap.size wr wd1:=hq1 ▸ hH0;refine hK.out _ _ (fun _=>hH1) ?_;clear hK K
               try simp only [Act.put,sT,sZ,sS]
               refine' zM (i:=39) (oi:=⟨some 164,_,_,_,_,_⟩) (v:=.int .i64 (Av+(nv:Int))) rfl (by kernel_rfl) (by kernel_rfl) (by kernel_rfl) (by kernel_rfl) (fun _ _ _ h=>h) hH1 (by rfl) ?hyv ?o88
               case hyv=>
                intro wz hSw;go_simp;have h8:0<=Av:=(by have h7:=HQ2.out;simp at h7;omega);have h6:=HAVB.out h8;rw [i64_in _ ⟨by omega,by omega⟩]
               try simp only [Act.put,sT,sZ,sS]
               refine' zM (i:=45) (oi:=⟨some 170,_,_,_,_,_⟩) (v:=.bool q4) rfl (by kernel_rfl) (by kernel_rfl) (by kernel_rfl) (by kernel_rfl) (fun _ _ _ h=>h) hH1 (by rfl) ?hyv ?o89
               case hyv=>
                intro wz hSw;go_simp;rw [HQ4.out]
                try rfl
               try simp only [Act.put,sT,sZ,sS]
               refine' tkR 46 171 hH1 ?o90
               refine zI (by kernel_rfl) ?_ _;go_wp2_with fail;go_meet
               case rel=>exact ⟨by rw [HQQ.out];simp,hH1⟩
              case true=>
               refine zD (i:=27) (oi:=⟨some 152,_,_,_,_,_⟩) rfl (by kernel_rfl) (by kernel_rfl) (by kernel_rfl) (by kernel_rfl) (fun _ _ _ h=>h) hH0 (by rfl) ?_
               try simp only [Act.put,sT,sZ,sS]
               refine zD (i:=28) (oi:=⟨some 153,_,_,_,_,_⟩) rfl (by kernel_rfl) (by kernel_rfl) (by kernel_rfl) (by kernel_rfl) (fun _ _ _ h=>h) hH0 (by rfl) ?_
               try simp only [Act.put,sT,sZ,sS]
               refine zD (i:=29) (oi:=⟨some 154,_,_,_,_,_⟩) rfl (by kernel_rfl) (by kernel_rfl) (by kernel_rfl) (by kernel_rfl) (fun _ _ _ h=>h) hH0 (by rfl) ?_
               try simp only [Act.put,sT,sZ,sS]
               refine zD (i:=30) (oi:=⟨some 155,_,_,_,_,_⟩) rfl (by kernel_rfl) (by kernel_rfl) (by kernel_rfl) (by kernel_rfl) (fun _ _ _ h=>h) hH0 (by rfl) ?_
               try simp only [Act.put,sT,sZ,sS]
               refine zD (i:=31) (oi:=⟨some 156,_,_,_,_,_⟩) rfl (by kernel_rfl) (by kernel_rfl) (by kernel_rfl) (by kernel_rfl) (fun _ _ _ h=>h) hH0 (by rfl) ?_
               try simp only [Act.put,sT,sZ,sS]
               refine zD (i:=32) (oi:=⟨some 157,_,_,_,_,_⟩) rfl (by kernel_rfl) (by kernel_rfl) (by kernel_rfl) (by kernel_rfl) (fun _ _ _ h=>h) hH0 (by rfl) ?_
               try simp only [Act.put,sT,sZ,sS]
               refine zD (i:=33) (oi:=⟨some 158,_,_,_,_,_⟩) rfl (by kernel_rfl) (by kernel_rfl) (by kernel_rfl) (by kernel_rfl) (fun _ _ _ h=>h) hH0 (by rfl) ?_
               try simp only [Act.put,sT,sZ,sS]
               refine zD (i:=34) (oi:=⟨some 159,_,_,_,_,_⟩) rfl (by kernel_rfl) (by kernel_rfl) (by kernel_rfl) (by kernel_rfl) (fun _ _ _ h=>h) hH0 (by rfl) ?_
               try simp only [Act.put,sT,sZ,sS]
               refine zD (i:=35) (oi:=⟨some 160,_,_,_,_,_⟩) rfl (by kernel_rfl) (by kernel_rfl) (by kernel_rfl) (by kernel_rfl) (fun _ _ _ h=>h) hH0 (by rfl) ?_
               try simp only [Act.put,sT,sZ,sS]
               refine zD (i:=36) (oi:=⟨some 161,_,_,_,_,_⟩) rfl (by kernel_rfl) (by kernel_rfl) (by kernel_rfl) (by kernel_rfl) (fun _ _ _ h=>h) hH0 (by rfl) ?_
               try simp only [Act.put,sT,sZ,sS]
               refine zD (i:=37) (oi:=⟨some 162,_,_,_,_,_⟩) rfl (by kernel_rfl) (by kernel_rfl) (by kernel_rfl) (by kernel_rfl) (fun _ _ _ h=>h) hH0 (by rfl) ?_
               try simp only [Act.put,sT,sZ,sS]
               refine zD (i:=38) (oi:=⟨some 163,_,_,_,_,_⟩) rfl (by kernel_rfl) (by kernel_rfl) (by kernel_rfl) (by kernel_rfl) (fun _ _ _ h=>h) hH0 (by rfl) ?_
               try simp only [Act.put,sT,sZ,sS]
               refine zD (i:=39) (oi:=⟨some 164,_,_,_,_,_⟩) rfl (by kernel_rfl) (by kernel_rfl) (by kernel_rfl) (by kernel_rfl) (fun _ _ _ h=>h) hH0 (by rfl) ?_
               try simp only [Act.put,sT,sZ,sS]
               refine zD (i:=40) (oi:=⟨some 165,_,_,_,_,_⟩) rfl (by kernel_rfl) (by kernel_rfl) (by kernel_rfl) (by kernel_rfl) (fun _ _ _ h=>h) hH0 (by rfl) ?_
               try simp only [Act.put,sT,sZ,sS]
               refine zD (i:=41) (oi:=⟨some 166,_,_,_,_,_⟩) rfl (by kernel_rfl) (by kernel_rfl) (by kernel_rfl) (by kernel_rfl) (fun _ _ _ h=>h) hH0 (by rfl) ?_
               try simp only [Act.put,sT,sZ,sS]
               refine zD (i:=42) (oi:=⟨some 167,_,_,_,_,_⟩) rfl (by kernel_rfl) (by kernel_rfl) (by kernel_rfl) (by kernel_rfl) (fun _ _ _ h=>h) hH0 (by rfl) ?_
               try simp only [Act.put,sT,sZ,sS]
               refine zD (i:=43) (oi:=⟨some 168,_,_,_,_,_⟩) rfl (by kernel_rfl) (by kernel_rfl) (by kernel_rfl) (by kernel_rfl) (fun _ _ _ h=>h) hH0 (by rfl) ?_
               try simp only [Act.put,sT,sZ,sS]
               refine zD (i:=44) (oi:=⟨some 169,_,_,_,_,_⟩) rfl (by kernel_rfl) (by kernel_rfl) (by kernel_rfl) (by kernel_rfl) (fun _ _ _ h=>h) hH0 (by rfl) ?_
               try simp only [Act.put,sT,sZ,sS]
               refine zD (i:=45) (oi:=⟨some 170,_,_,_,_,_⟩) rfl (by kernel_rfl) (by kernel_rfl) (by kernel_rfl) (by kernel_rfl) (fun _ _ _ h=>h) hH0 (by rfl) ?_
               try simp only [Act.put,sT,sZ,sS]
               refine' tkR 46 171 hH0 ?o91
               refine zI (by kernel_rfl) ?_ _;go_wp2_with fail;go_meet
               case rel=>exact ⟨by rw [HQQ.out];simp,hH0⟩
             case true=>
              refine zD (i:=12) (oi:=⟨some 137,_,_,_,_,_⟩) rfl (by kernel_rfl) (by kernel_rfl) (by kernel_rfl) (by kernel_rfl) (fun _ _ _ h=>h) hH0 (by rfl) ?_
              try simp only [Act.put,sT,sZ,sS]
              refine zD (i:=13) (oi:=⟨some 138,_,_,_,_,_⟩) rfl (by kernel_rfl) (by kernel_rfl) (by kernel_rfl) (by kernel_rfl) (fun _ _ _ h=>h) hH0 (by rfl) ?_
              try simp only [Act.put,sT,sZ,sS]
              refine zD (i:=14) (oi:=⟨some 139,_,_,_,_,_⟩) rfl (by kernel_rfl) (by kernel_rfl) (by kernel_rfl) (by kernel_rfl) (fun _ _ _ h=>h) hH0 (by rfl) ?_
              try simp only [Act.put,sT,sZ,sS]
              refine zD (i:=15) (oi:=⟨some 140,_,_,_,_,_⟩) rfl (by kernel_rfl) (by kernel_rfl) (by kernel_rfl) (by kernel_rfl) (fun _ _ _ h=>h) hH0 (by rfl) ?_
              try simp only [Act.put,sT,sZ,sS]
              refine zD (i:=16) (oi:=⟨some 141,_,_,_,_,_⟩) rfl (by kernel_rfl) (by kernel_rfl) (by kernel_rfl) (by kernel_rfl) (fun _ _ _ h=>h) hH0 (by rfl) ?_
              try simp only [Act.put,sT,sZ,sS]
              refine zD (i:=17) (oi:=⟨some 142,_,_,_,_,_⟩) rfl (by kernel_rfl) (by kernel_rfl) (by kernel_rfl) (by kernel_rfl) (fun _ _ _ h=>h) hH0 (by rfl) ?_
              try simp only [Act.put,sT,sZ,sS]
              refine zD (i:=18) (oi:=⟨some 143,_,_,_,_,_⟩) rfl (by kernel_rfl) (by kernel_rfl) (by kernel_rfl) (by kernel_rfl) (fun _ _ _ h=>h) hH0 (by rfl) ?_
              try simp only [Act.put,sT,sZ,sS]
              refine zD (i:=19) (oi:=⟨some 144,_,_,_,_,_⟩) rfl (by kernel_rfl) (by kernel_rfl) (by kernel_rfl) (by kernel_rfl) (fun _ _ _ h=>h) hH0 (by rfl) ?_
              try simp only [Act.put,sT,sZ,sS]
              refine zD (i:=20) (oi:=⟨some 145,_,_,_,_,_⟩) rfl (by kernel_rfl) (by kernel_rfl) (by kernel_rfl) (by kernel_rfl) (fun _ _ _ h=>h) hH0 (by rfl) ?_
              try simp only [Act.put,sT,sZ,sS]
              refine zD (i:=21) (oi:=⟨some 146,_,_,_,_,_⟩) rfl (by kernel_rfl) (by kernel_rfl) (by kernel_rfl) (by kernel_rfl) (fun _ _ _ h=>h) hH0 (by rfl) ?_
              try simp only [Act.put,sT,sZ,sS]
              refine zD (i:=22) (oi:=⟨some 147,_,_,_,_,_⟩) rfl (by kernel_rfl) (by kernel_rfl) (by kernel_rfl) (by kernel_rfl) (fun _ _ _ h=>h) hH0 (by rfl) ?_
              try simp only [Act.put,sT,sZ,sS]
              refine zD (i:=23) (oi:=⟨some 148,_,_,_,_,_⟩) rfl (by kernel_rfl) (by kernel_rfl) (by kernel_rfl) (by kernel_rfl) (fun _ _ _ h=>h) hH0 (by rfl) ?_
              try simp only [Act.put,sT,sZ,sS]
              refine zD (i:=24) (oi:=⟨some 149,_,_,_,_,_⟩) rfl (by kernel_rfl) (by kernel_rfl) (by kernel_rfl) (by kernel_rfl) (fun _ _ _ h=>h) hH0 (by rfl) ?_
              try simp only [Act.put,sT,sZ,sS]
              refine' tkR 25 150 hH0 ?o92
              refine' tkR 26 151 hH0 ?o93
              refine zD (i:=27) (oi:=⟨some 152,_,_,_,_,_⟩) rfl (by kernel_rfl) (by kernel_rfl) (by kernel_rfl) (by kernel_rfl) (fun _ _ _ h=>h) hH0 (by rfl) ?_
              try simp only [Act.put,sT,sZ,sS]
              refine zD (i:=28) (oi:=⟨some 153,_,_,_,_,_⟩) rfl (by kernel_rfl) (by kernel_rfl) (by kernel_rfl) (by kernel_rfl) (fun _ _ _ h=>h) hH0 (by rfl) ?_
              try simp only [Act.put,sT,sZ,sS]
              refine zD (i:=29) (oi:=⟨some 154,_,_,_,_,_⟩) rfl (by kernel_rfl) (by kernel_rfl) (by kernel_rfl) (by kernel_rfl) (fun _ _ _ h=>h) hH0 (by rfl) ?_
              try simp only [Act.put,sT,sZ,sS]
              refine zD (i:=30) (oi:=⟨some 155,_,_,_,_,_⟩) rfl (by kernel_rfl) (by kernel_rfl) (by kernel_rfl) (by kernel_rfl) (fun _ _ _ h=>h) hH0 (by rfl) ?_
              try simp only [Act.put,sT,sZ,sS]
              refine zD (i:=31) (oi:=⟨some 156,_,_,_,_,_⟩) rfl (by kernel_rfl) (by kernel_rfl) (by kernel_rfl) (by kernel_rfl) (fun _ _ _ h=>h) hH0 (by rfl) ?_
              try simp only [Act.put,sT,sZ,sS]
              refine zD (i:=32) (oi:=⟨some 157,_,_,_,_,_⟩) rfl (by kernel_rfl) (by kernel_rfl) (by kernel_rfl) (by kernel_rfl) (fun _ _ _ h=>h) hH0 (by rfl) ?_
              try simp only [Act.put,sT,sZ,sS]
              refine zD (i:=33) (oi:=⟨some 158,_,_,_,_,_⟩) rfl (by kernel_rfl) (by kernel_rfl) (by kernel_rfl) (by kernel_rfl) (fun _ _ _ h=>h) hH0 (by rfl) ?_
              try simp only [Act.put,sT,sZ,sS]
              refine zD (i:=34) (oi:=⟨some 159,_,_,_,_,_⟩) rfl (by kernel_rfl) (by kernel_rfl) (by kernel_rfl) (by kernel_rfl) (fun _ _ _ h=>h) hH0 (by rfl) ?_
              try simp only [Act.put,sT,sZ,sS]
              refine zD (i:=35) (oi:=⟨some 160,_,_,_,_,_⟩) rfl (by kernel_rfl) (by kernel_rfl) (by kernel_rfl) (by kernel_rfl) (fun _ _ _ h=>h) hH0 (by rfl) ?_
              try simp only [Act.put,sT,sZ,sS]
              refine zD (i:=36) (oi:=⟨some 161,_,_,_,_,_⟩) rfl (by kernel_rfl) (by kernel_rfl) (by kernel_rfl) (by kernel_rfl) (fun _ _ _ h=>h) hH0 (by rfl) ?_
              try simp only [Act.put,sT,sZ,sS]
              refine zD (i:=37) (oi:=⟨some 162,_,_,_,_,_⟩) rfl (by kernel_rfl) (by kernel_rfl) (by kernel_rfl) (by kernel_rfl) (fun _ _ _ h=>h) hH0 (by rfl) ?_
              try simp only [Act.put,sT,sZ,sS]
              refine zD (i:=38) (oi:=⟨some 163,_,_,_,_,_⟩) rfl (by kernel_rfl) (by kernel_rfl) (by kernel_rfl) (by kernel_rfl) (fun _ _ _ h=>h) hH0 (by rfl) ?_
              try simp only [Act.put,sT,sZ,sS]
              refine zD (i:=39) (oi:=⟨some 164,_,_,_,_,_⟩) rfl (by kernel_rfl) (by kernel_rfl) (by kernel_rfl) (by kernel_rfl) (fun _ _ _ h=>h) hH0 (by rfl) ?_
              try simp only [Act.put,sT,sZ,sS]
              refine zD (i:=40) (oi:=⟨some 165,_,_,_,_,_⟩) rfl (by kernel_rfl) (by kernel_rfl) (by kernel_rfl) (by kernel_rfl) (fun _ _ _ h=>h) hH0 (by rfl) ?_
              try simp only [Act.put,sT,sZ,sS]
              refine zD (i:=41) (oi:=⟨some 166,_,_,_,_,_⟩) rfl (by kernel_rfl) (by kernel_rfl) (by kernel_rfl) (by kernel_rfl) (fun _ _ _ h=>h) hH0 (by rfl) ?_
              try simp only [Act.put,sT,sZ,sS]
              refine zD (i:=42) (oi:=⟨some 167,_,_,_,_,_⟩) rfl (by kernel_rfl) (by kernel_rfl) (by kernel_rfl) (by kernel_rfl) (fun _ _ _ h=>h) hH0 (by rfl) ?_
              try simp only [Act.put,sT,sZ,sS]
              refine zD (i:=43) (oi:=⟨some 168,_,_,_,_,_⟩) rfl (by kernel_rfl) (by kernel_rfl) (by kernel_rfl) (by kernel_rfl) (fun _ _ _ h=>h) hH0 (by rfl) ?_
              try simp only [Act.put,sT,sZ,sS]
              refine zD (i:=44) (oi:=⟨some 169,_,_,_,_,_⟩) rfl (by kernel_rfl) (by kernel_rfl) (by kernel_rfl) (by kernel_rfl) (fun _ _ _ h=>h) hH0 (by rfl) ?_
              try simp only [Act.put,sT,sZ,sS]
              refine zD (i:=45) (oi:=⟨some 170,_,_,_,_,_⟩) rfl (by kernel_rfl) (by kernel_rfl) (by kernel_rfl) (by kernel_rfl) (fun _ _ _ h=>h) hH0 (by rfl) ?_
              try simp only [Act.put,sT,sZ,sS]
              refine' tkR 46 171 hH0 ?o94
              refine zI (by kernel_rfl) ?_ _;go_wp2_with fail;go_meet
              case rel=>exact ⟨by rw [HQQ.out];simp,hH0⟩
            case true=>
             refine zD (i:=4) (oi:=⟨some 129,_,_,_,_,_⟩) rfl (by kernel_rfl) (by kernel_rfl) (by kernel_rfl) (by kernel_rfl) (fun _ _ _ h=>h) hH0 (by rfl) ?_
             try simp only [Act.put,sT,sZ,sS]
             refine zD (i:=5) (oi:=⟨some 130,_,_,_,_,_⟩) rfl (by kernel_rfl) (by kernel_rfl) (by kernel_rfl) (by kernel_rfl) (fun _ _ _ h=>h) hH0 (by rfl) ?_
             try simp only [Act.put,sT,sZ,sS]
             refine zD (i:=6) (oi:=⟨some 131,_,_,_,_,_⟩) rfl (by kernel_rfl) (by kernel_rfl) (by kernel_rfl) (by kernel_rfl) (fun _ _ _ h=>h) hH0 (by rfl) ?_
             try simp only [Act.put,sT,sZ,sS]
             refine zD (i:=7) (oi:=⟨some 132,_,_,_,_,_⟩) rfl (by kernel_rfl) (by kernel_rfl) (by kernel_rfl) (by kernel_rfl) (fun _ _ _ h=>h) hH0 (by rfl) ?_
             try simp only [Act.put,sT,sZ,sS]
             refine zD (i:=8) (oi:=⟨some 133,_,_,_,_,_⟩) rfl (by kernel_rfl) (by kernel_rfl) (by kernel_rfl) (by kernel_rfl) (fun _ _ _ h=>h) hH0 (by rfl) ?_
             try simp only [Act.put,sT,sZ,sS]
             refine zD (i:=9) (oi:=⟨some 134,_,_,_,_,_⟩) rfl (by kernel_rfl) (by kernel_rfl) (by kernel_rfl) (by kernel_rfl) (fun _ _ _ h=>h) hH0 (by rfl) ?_
             try simp only [Act.put,sT,sZ,sS]
             refine' tkR 10 135 hH0 ?o95
             refine' tkR 11 136 hH0 ?o96
             refine zD (i:=12) (oi:=⟨some 137,_,_,_,_,_⟩) rfl (by kernel_rfl) (by kernel_rfl) (by kernel_rfl) (by kernel_rfl) (fun _ _ _ h=>h) hH0 (by rfl) ?_
             try simp only [Act.put,sT,sZ,sS]
             refine zD (i:=13) (oi:=⟨some 138,_,_,_,_,_⟩) rfl (by kernel_rfl) (by kernel_rfl) (by kernel_rfl) (by kernel_rfl) (fun _ _ _ h=>h) hH0 (by rfl) ?_
             try simp only [Act.put,sT,sZ,sS]
             refine zD (i:=14) (oi:=⟨some 139,_,_,_,_,_⟩) rfl (by kernel_rfl) (by kernel_rfl) (by kernel_rfl) (by kernel_rfl) (fun _ _ _ h=>h) hH0 (by rfl) ?_
             try simp only [Act.put,sT,sZ,sS]
             refine zD (i:=15) (oi:=⟨some 140,_,_,_,_,_⟩) rfl (by kernel_rfl) (by kernel_rfl) (by kernel_rfl) (by kernel_rfl) (fun _ _ _ h=>h) hH0 (by rfl) ?_
             try simp only [Act.put,sT,sZ,sS]
             refine zD (i:=16) (oi:=⟨some 141,_,_,_,_,_⟩) rfl (by kernel_rfl) (by kernel_rfl) (by kernel_rfl) (by kernel_rfl) (fun _ _ _ h=>h) hH0 (by rfl) ?_
             try simp only [Act.put,sT,sZ,sS]
             refine zD (i:=17) (oi:=⟨some 142,_,_,_,_,_⟩) rfl (by kernel_rfl) (by kernel_rfl) (by kernel_rfl) (by kernel_rfl) (fun _ _ _ h=>h) hH0 (by rfl) ?_
             try simp only [Act.put,sT,sZ,sS]
             refine zD (i:=18) (oi:=⟨some 143,_,_,_,_,_⟩) rfl (by kernel_rfl) (by kernel_rfl) (by kernel_rfl) (by kernel_rfl) (fun _ _ _ h=>h) hH0 (by rfl) ?_
             try simp only [Act.put,sT,sZ,sS]
             refine zD (i:=19) (oi:=⟨some 144,_,_,_,_,_⟩) rfl (by kernel_rfl) (by kernel_rfl) (by kernel_rfl) (by kernel_rfl) (fun _ _ _ h=>h) hH0 (by rfl) ?_
             try simp only [Act.put,sT,sZ,sS]
             refine zD (i:=20) (oi:=⟨some 145,_,_,_,_,_⟩) rfl (by kernel_rfl) (by kernel_rfl) (by kernel_rfl) (by kernel_rfl) (fun _ _ _ h=>h) hH0 (by rfl) ?_
             try simp only [Act.put,sT,sZ,sS]
             refine zD (i:=21) (oi:=⟨some 146,_,_,_,_,_⟩) rfl (by kernel_rfl) (by kernel_rfl) (by kernel_rfl) (by kernel_rfl) (fun _ _ _ h=>h) hH0 (by rfl) ?_
             try simp only [Act.put,sT,sZ,sS]
             refine zD (i:=22) (oi:=⟨some 147,_,_,_,_,_⟩) rfl (by kernel_rfl) (by kernel_rfl) (by kernel_rfl) (by kernel_rfl) (fun _ _ _ h=>h) hH0 (by rfl) ?_
             try simp only [Act.put,sT,sZ,sS]
             refine zD (i:=23) (oi:=⟨some 148,_,_,_,_,_⟩) rfl (by kernel_rfl) (by kernel_rfl) (by kernel_rfl) (by kernel_rfl) (fun _ _ _ h=>h) hH0 (by rfl) ?_
             try simp only [Act.put,sT,sZ,sS]
             refine zD (i:=24) (oi:=⟨some 149,_,_,_,_,_⟩) rfl (by kernel_rfl) (by kernel_rfl) (by kernel_rfl) (by kernel_rfl) (fun _ _ _ h=>h) hH0 (by rfl) ?_
             try simp only [Act.put,sT,sZ,sS]
             refine' tkR 25 150 hH0 ?o97
             refine' tkR 26 151 hH0 ?o98
             refine zD (i:=27) (oi:=⟨some 152,_,_,_,_,_⟩) rfl (by kernel_rfl) (by kernel_rfl) (by kernel_rfl) (by kernel_rfl) (fun _ _ _ h=>h) hH0 (by rfl) ?_
             try simp only [Act.put,sT,sZ,sS]
             refine zD (i:=28) (oi:=⟨some 153,_,_,_,_,_⟩) rfl (by kernel_rfl) (by kernel_rfl) (by kernel_rfl) (by kernel_rfl) (fun _ _ _ h=>h) hH0 (by rfl) ?_
             try simp only [Act.put,sT,sZ,sS]
             refine zD (i:=29) (oi:=⟨some 154,_,_,_,_,_⟩) rfl (by kernel_rfl) (by kernel_rfl) (by kernel_rfl) (by kernel_rfl) (fun _ _ _ h=>h) hH0 (by rfl) ?_
             try simp only [Act.put,sT,sZ,sS]
             refine zD (i:=30) (oi:=⟨some 155,_,_,_,_,_⟩) rfl (by kernel_rfl) (by kernel_rfl) (by kernel_rfl) (by kernel_rfl) (fun _ _ _ h=>h) hH0 (by rfl) ?_
             try simp only [Act.put,sT,sZ,sS]
             refine zD (i:=31) (oi:=⟨some 156,_,_,_,_,_⟩) rfl (by kernel_rfl) (by kernel_rfl) (by kernel_rfl) (by kernel_rfl) (fun _ _ _ h=>h) hH0 (by rfl) ?_
             try simp only [Act.put,sT,sZ,sS]
             refine zD (i:=32) (oi:=⟨some 157,_,_,_,_,_⟩) rfl (by kernel_rfl) (by kernel_rfl) (by kernel_rfl) (by kernel_rfl) (fun _ _ _ h=>h) hH0 (by rfl) ?_
             try simp only [Act.put,sT,sZ,sS]
             refine zD (i:=33) (oi:=⟨some 158,_,_,_,_,_⟩) rfl (by kernel_rfl) (by kernel_rfl) (by kernel_rfl) (by kernel_rfl) (fun _ _ _ h=>h) hH0 (by rfl) ?_
             try simp only [Act.put,sT,sZ,sS]
             refine zD (i:=34) (oi:=⟨some 159,_,_,_,_,_⟩) rfl (by kernel_rfl) (by kernel_rfl) (by kernel_rfl) (by kernel_rfl) (fun _ _ _ h=>h) hH0 (by rfl) ?_
             try simp only [Act.put,sT,sZ,sS]
             refine zD (i:=35) (oi:=⟨some 160,_,_,_,_,_⟩) rfl (by kernel_rfl) (by kernel_rfl) (by kernel_rfl) (by kernel_rfl) (fun _ _ _ h=>h) hH0 (by rfl) ?_
             try simp only [Act.put,sT,sZ,sS]
             refine zD (i:=36) (oi:=⟨some 161,_,_,_,_,_⟩) rfl (by kernel_rfl) (by kernel_rfl) (by kernel_rfl) (by kernel_rfl) (fun _ _ _ h=>h) hH0 (by rfl) ?_
             try simp only [Act.put,sT,sZ,sS]
             refine zD (i:=37) (oi:=⟨some 162,_,_,_,_,_⟩) rfl (by kernel_rfl) (by kernel_rfl) (by kernel_rfl) (by kernel_rfl) (fun _ _ _ h=>h) hH0 (by rfl) ?_
             try simp only [Act.put,sT,sZ,sS]
             refine zD (i:=38) (oi:=⟨some 163,_,_,_,_,_⟩) rfl (by kernel_rfl) (by kernel_rfl) (by kernel_rfl) (by kernel_rfl) (fun _ _ _ h=>h) hH0 (by rfl) ?_
             try simp only [Act.put,sT,sZ,sS]
             refine zD (i:=39) (oi:=⟨some 164,_,_,_,_,_⟩) rfl (by kernel_rfl) (by kernel_rfl) (by kernel_rfl) (by kernel_rfl) (fun _ _ _ h=>h) hH0 (by rfl) ?_
             try simp only [Act.put,sT,sZ,sS]
             refine zD (i:=40) (oi:=⟨some 165,_,_,_,_,_⟩) rfl (by kernel_rfl) (by kernel_rfl) (by kernel_rfl) (by kernel_rfl) (fun _ _ _ h=>h) hH0 (by rfl) ?_
             try simp only [Act.put,sT,sZ,sS]
             refine zD (i:=41) (oi:=⟨some 166,_,_,_,_,_⟩) rfl (by kernel_rfl) (by kernel_rfl) (by kernel_rfl) (by kernel_rfl) (fun _ _ _ h=>h) hH0 (by rfl) ?_
             try simp only [Act.put,sT,sZ,sS]
             refine zD (i:=42) (oi:=⟨some 167,_,_,_,_,_⟩) rfl (by kernel_rfl) (by kernel_rfl) (by kernel_rfl) (by kernel_rfl) (fun _ _ _ h=>h) hH0 (by rfl) ?_
             try simp only [Act.put,sT,sZ,sS]
             refine zD (i:=43) (oi:=⟨some 168,_,_,_,_,_⟩) rfl (by kernel_rfl) (by kernel_rfl) (by kernel_rfl) (by kernel_rfl) (fun _ _ _ h=>h) hH0 (by rfl) ?_
             try simp only [Act.put,sT,sZ,sS]
             refine zD (i:=44) (oi:=⟨some 169,_,_,_,_,_⟩) rfl (by kernel_rfl) (by kernel_rfl) (by kernel_rfl) (by kernel_rfl) (fun _ _ _ h=>h) hH0 (by rfl) ?_
             try simp only [Act.put,sT,sZ,sS]
             refine zD (i:=45) (oi:=⟨some 170,_,_,_,_,_⟩) rfl (by kernel_rfl) (by kernel_rfl) (by kernel_rfl) (by kernel_rfl) (fun _ _ _ h=>h) hH0 (by rfl) ?_
             try simp only [Act.put,sT,sZ,sS]
             refine' tkR 46 171 hH0 ?o99
             refine zI (by kernel_rfl) ?_ _;go_wp2_with fail;go_meet
             case rel=>exact ⟨by rw [HQQ.out];simp,hH0⟩
          case rest=>
           obtain ⟨rfl,bcc⟩:=hcut;have Bc:=hbr.trans (bcc.mono hbr.size);have hqq:=HQQ.out;clear HQQ HCEV
           cases QQ
           case true=>
            clear hqq s0 s1 s2 s3 p0 p1 p2 cNv cAu cFu cTu cAv cFv cTv;go_wp2_with fail;go_roundg (S.V.length-(v+1))
            case measure=>omega
            case rel=>exact ⟨v+1,by omega,rfl,by go_num,Bc⟩
           case false=>
            have hqq2:=hqq.symm;simp only [Bool.or_eq_false_iff] at hqq2;obtain ⟨⟨⟨g1,g2⟩,g3⟩,g4⟩:=hqq2;rw [HQ1.out] at g1;rw [HQ2.out] at g2;rw [HQ3.out] at g3;rw [HQ4.out] at g4;simp at g1 g2 g3 g4;have nvu:(u:Int)≠(v:Int):=(by omega);have HAP2:=zG (fun hle=>HAP.out nvu (by omega) (by omega) (by omega) (by omega) hle);have HPA2:=zG (fun hle=>HPA.out (Ne.symm nvu) (by omega) (by omega) (by omega) (by omega) hle);clear hqq HAP HPA HQ1 HQ2 HQ3 HQ4 HAVB s0 s1 s2 s3 p0 p1 p2 cNv cAu cFu cTu cAv cFv cTv yS yP yL yV yA;obtain ⟨wd,hwd⟩:=nmQ (wc);subst hwd;have kSd:=(Bc.block _ yS7).trans kS7;have kPd:=(Bc.block _ yP7).trans kP7;have s0:=coQ kSd 0;have s1:=coQ kSd 1;have s2:=coQ kSd 2;have s3:=coQ kSd 3;have p0:=coQ kPd 0;simp at s0 s1 s2 s3 p0;have yS:=zH kSd;have yP:=zH kPd;have yL:=Nat.lt_of_lt_of_le yL7 Bc.size;have yA:=Nat.lt_of_lt_of_le yA7 Bc.size;have hlu:=hlt;have hlv:=hltv;have cAu:=(Bc.cell (p:=⟨ga,u,none⟩) yA7).trans (HCA.out u hlu);have cAv:=(Bc.cell (p:=⟨ga,v,none⟩) yA7).trans (HCA.out v hlv);have cFu:=(Bc.cell (p:=⟨bL,oL+u*2,none⟩) yL7).trans (HCS.out u hlu).1;have cFv:=(Bc.cell (p:=⟨bL,oL+v*2,none⟩) yL7).trans (HCS.out v hlv).1;have cTu:=(Bc.cell (p:=⟨bL,oL+u*2+1,none⟩) yL7).trans (HCS.out u hlu).2;have cTv:=(Bc.cell (p:=⟨bL,oL+v*2+1,none⟩) yL7).trans (HCS.out v hlv).2;rw [<-HAu.out] at cAu;rw [<-HAv.out] at cAv;rw [<-HFu.out] at cFu;rw [<-HFv.out] at cFv;rw [<-HTu.out] at cTu;rw [<-HTv.out] at cTv;clear kSd kPd HAu HAv HFu HFv HTu HTv Hnu;by_cases hle:Fu<=Fv
            case pos=>
             as_aux_lemma=>
              go_upto_region 33 with fail;refine zK (fun w'=>Below wd.heap.size wd w') (fun _=>false) (by kernel_rfl) ?_;have hH0:Below wd.heap.size wd wd.drew:=(Below.refl _ _).drew;generalize wd.drew=wd0 at hH0 ⊢;refine' tkR 0 174 hH0 ?o100
              refine' tkR 1 175 hH0 ?o101
              refine' tkR 2 176 hH0 ?o102
              refine' tkR 3 177 hH0 ?o103
              refine' tkQ 4 178 hH0 ?hyv ?o104
              case hyv=>
               intro wz hSw;have zc7:=(hSw.cell (p:=⟨bL,oL+u*2,none⟩) yL).trans cFu;go_simp
               try rfl
              try simp only [Act.put,sT,sZ,sS]
              refine' tkR 5 179 hH0 ?o105
              refine' tkR 6 180 hH0 ?o106
              refine' tkR 7 181 hH0 ?o107
              refine' tkR 8 182 hH0 ?o108
              refine' tkQ 9 183 hH0 ?hyv ?o109
              case hyv=>
               intro wz hSw;have zc8:=(hSw.cell (p:=⟨bL,oL+v*2,none⟩) yL).trans cFv;go_simp
               try rfl
              try simp only [Act.put,sT,sZ,sS]
              refine' zM (i:=10) (oi:=⟨some 184,_,_,_,_,_⟩) (v:=.bool false) rfl (by kernel_rfl) (by kernel_rfl) (by kernel_rfl) (by kernel_rfl) (fun _ _ _ h=>h) hH0 (by rfl) ?hyv ?o110
              case hyv=>
               intro wz hSw;go_simp
               try simp
               try omega
              try simp only [Act.put,sT,sZ,sS]
              refine zI (by kernel_rfl) ?_ _;obtain ⟨we,hwe⟩:=nmQ (wd0);subst hwe;have hXwe:=hH0;have Be:=Bc.trans (hXwe.mono Bc.size)
              replace s0:=(hXwe.cell (p:=⟨w.heap.size,0,none⟩) yS).trans s0
              replace s1:=(hXwe.cell (p:=⟨w.heap.size,1,none⟩) yS).trans s1
              replace s2:=(hXwe.cell (p:=⟨w.heap.size,2,none⟩) yS).trans s2
              replace s3:=(hXwe.cell (p:=⟨w.heap.size,3,none⟩) yS).trans s3
              replace p0:=(hXwe.cell (p:=⟨w4.heap.size,0,none⟩) yP).trans p0
              replace cAu:=(hXwe.cell (p:=⟨ga,u,none⟩) yA).trans cAu
              replace cAv:=(hXwe.cell (p:=⟨ga,v,none⟩) yA).trans cAv
              replace cFu:=(hXwe.cell (p:=⟨bL,oL+u*2,none⟩) yL).trans cFu
              replace cFv:=(hXwe.cell (p:=⟨bL,oL+v*2,none⟩) yL).trans cFv
              replace cTu:=(hXwe.cell (p:=⟨bL,oL+u*2+1,none⟩) yL).trans cTu
              replace cTv:=(hXwe.cell (p:=⟨bL,oL+v*2+1,none⟩) yL).trans cTv
              replace yS:=Nat.lt_of_lt_of_le yS hXwe.size
              replace yP:=Nat.lt_of_lt_of_le yP hXwe.size
              replace yA:=Nat.lt_of_lt_of_le yA hXwe.size
              replace yL:=Nat.lt_of_lt_of_le yL hXwe.size
              clear hXwe;obtain ⟨h1,h2,h3⟩:=HAP2.out (by omega);have H3:=zG h3;clear h3;go_upto_region 35 with fail;refine zK (fun w'=>Below we.heap.size we w') (fun _=>false) (by kernel_rfl) ?_;have hH0:Below we.heap.size we we.drew:=(Below.refl _ _).drew;generalize we.drew=wd0 at hH0 ⊢;refine' tkR 0 187 hH0 ?o111
              refine' tkR 1 188 hH0 ?o112
              refine' tkR 2 189 hH0 ?o113
              refine' tkR 3 190 hH0 ?o114
              refine' tkQ 4 191 hH0 ?hyv ?o115
              case hyv=>
               intro wz hSw;have zc7:=(hSw.cell (p:=⟨bL,oL+u*2,none⟩) yL).trans cFu;go_simp
               try rfl
              try simp only [Act.put,sT,sZ,sS]
              refine' tkR 5 192 hH0 ?o116
              refine' tkR 6 193 hH0 ?o117
              refine' tkR 7 194 hH0 ?o118
              refine' tkR 8 195 hH0 ?o119
              refine' tkQ 9 196 hH0 ?hyv ?o120
              case hyv=>
               intro wz hSw;have zc8:=(hSw.cell (p:=⟨bL,oL+v*2,none⟩) yL).trans cFv;go_simp
               try rfl
              try simp only [Act.put,sT,sZ,sS]
              refine' zM (i:=10) (oi:=⟨some 197,_,_,_,_,_⟩) (v:=.bool false) rfl (by kernel_rfl) (by kernel_rfl) (by kernel_rfl) (by kernel_rfl) (fun _ _ _ h=>h) hH0 (by rfl) ?hyv ?o121
              case hyv=>
               intro wz hSw;go_simp
               try simp
               try omega
              try simp only [Act.put,sT,sZ,sS]
              refine' tkR 11 198 hH0 ?o122
              refine' tkR 12 199 hH0 ?o123
              refine' tkR 13 200 hH0 ?o124
              refine' tkR 14 201 hH0 ?o125
              refine' tkR 15 202 hH0 ?o126
              refine' tkQ 16 203 hH0 ?hyv ?o127
              case hyv=>
               intro wz hSw;have zc9:=(hSw.cell (p:=⟨bL,oL+u*2+1,none⟩) yL).trans cTu;go_simp
               try rfl
              try simp only [Act.put,sT,sZ,sS]
              refine' tkR 17 204 hH0 ?o128
              refine' tkR 18 205 hH0 ?o129
              refine' tkR 19 206 hH0 ?o130
              refine' tkR 20 207 hH0 ?o131
              refine' tkQ 21 208 hH0 ?hyv ?o132
              case hyv=>
               intro wz hSw;have zc8:=(hSw.cell (p:=⟨bL,oL+v*2,none⟩) yL).trans cFv;go_simp
               try rfl
              try simp only [Act.put,sT,sZ,sS]
              refine' zM (i:=22) (oi:=⟨some 209,_,_,_,_,_⟩) (v:=.bool false) rfl (by kernel_rfl) (by kernel_rfl) (by kernel_rfl) (by kernel_rfl) (fun _ _ _ h=>h) hH0 (by rfl) ?hyv ?o133
              case hyv=>
               intro wz hSw;go_simp
               try simp
               try omega
              try simp only [Act.put,sT,sZ,sS]
              refine' tkR 23 210 hH0 ?o134
              refine zI (by kernel_rfl) ?_ _;obtain ⟨wf,hwf⟩:=nmQ (wd0);subst hwf;have hXwf:=hH0;have Bf:=Be.trans (hXwf.mono Be.size)
              replace s0:=(hXwf.cell (p:=⟨w.heap.size,0,none⟩) yS).trans s0
              replace s1:=(hXwf.cell (p:=⟨w.heap.size,1,none⟩) yS).trans s1
              replace s2:=(hXwf.cell (p:=⟨w.heap.size,2,none⟩) yS).trans s2
              replace s3:=(hXwf.cell (p:=⟨w.heap.size,3,none⟩) yS).trans s3
              replace p0:=(hXwf.cell (p:=⟨w4.heap.size,0,none⟩) yP).trans p0
              replace cAu:=(hXwf.cell (p:=⟨ga,u,none⟩) yA).trans cAu
              replace cAv:=(hXwf.cell (p:=⟨ga,v,none⟩) yA).trans cAv
              replace cFu:=(hXwf.cell (p:=⟨bL,oL+u*2,none⟩) yL).trans cFu
              replace cFv:=(hXwf.cell (p:=⟨bL,oL+v*2,none⟩) yL).trans cFv
              replace cTu:=(hXwf.cell (p:=⟨bL,oL+u*2+1,none⟩) yL).trans cTu
              replace cTv:=(hXwf.cell (p:=⟨bL,oL+v*2+1,none⟩) yL).trans cTv
              replace yS:=Nat.lt_of_lt_of_le yS hXwf.size
              replace yP:=Nat.lt_of_lt_of_le yP hXwf.size
              replace yA:=Nat.lt_of_lt_of_le yA hXwf.size
              replace yL:=Nat.lt_of_lt_of_le yL hXwf.size
              clear hXwf;by_cases hte:Tu=Fv
              case neg=>
               as_aux_lemma=>
                clear H3 h2 h1;go_upto_region 37 with fail;refine zK (fun w'=>Below wf.heap.size wf w') (fun _=>false) (by kernel_rfl) ?_;have hH0:Below wf.heap.size wf wf.drew:=(Below.refl _ _).drew;generalize wf.drew=wd0 at hH0 ⊢;refine' tkR 0 211 hH0 ?o135
                refine' tkR 1 212 hH0 ?o136
                refine' tkR 2 213 hH0 ?o137
                refine' tkR 3 214 hH0 ?o138
                refine' tkQ 4 215 hH0 ?hyv ?o139
                case hyv=>
                 intro wz hSw;have zc9:=(hSw.cell (p:=⟨bL,oL+u*2+1,none⟩) yL).trans cTu;go_simp
                 try rfl
                try simp only [Act.put,sT,sZ,sS]
                refine' tkR 5 216 hH0 ?o140
                refine' tkR 6 217 hH0 ?o141
                refine' tkR 7 218 hH0 ?o142
                refine' tkR 8 219 hH0 ?o143
                refine' tkQ 9 220 hH0 ?hyv ?o144
                case hyv=>
                 intro wz hSw;have zc8:=(hSw.cell (p:=⟨bL,oL+v*2,none⟩) yL).trans cFv;go_simp
                 try rfl
                try simp only [Act.put,sT,sZ,sS]
                refine' zM (i:=10) (oi:=⟨some 221,_,_,_,_,_⟩) (v:=.bool false) rfl (by kernel_rfl) (by kernel_rfl) (by kernel_rfl) (by kernel_rfl) (fun _ _ _ h=>h) hH0 (by rfl) ?hyv ?o145
                case hyv=>
                 intro wz hSw;go_simp
                 try simp
                 try omega
                try simp only [Act.put,sT,sZ,sS]
                refine' tkR 11 222 hH0 ?o146
                refine zD (i:=12) (oi:=⟨some 223,_,_,_,_,_⟩) rfl (by kernel_rfl) (by kernel_rfl) (by kernel_rfl) (by kernel_rfl) (fun _ _ _ h=>h) hH0 (by rfl) ?_
                try simp only [Act.put,sT,sZ,sS]
                refine zD (i:=13) (oi:=⟨some 224,_,_,_,_,_⟩) rfl (by kernel_rfl) (by kernel_rfl) (by kernel_rfl) (by kernel_rfl) (fun _ _ _ h=>h) hH0 (by rfl) ?_
                try simp only [Act.put,sT,sZ,sS]
                refine zD (i:=14) (oi:=⟨some 225,_,_,_,_,_⟩) rfl (by kernel_rfl) (by kernel_rfl) (by kernel_rfl) (by kernel_rfl) (fun _ _ _ h=>h) hH0 (by rfl) ?_
                try simp only [Act.put,sT,sZ,sS]
                refine zD (i:=15) (oi:=⟨some 226,_,_,_,_,_⟩) rfl (by kernel_rfl) (by kernel_rfl) (by kernel_rfl) (by kernel_rfl) (fun _ _ _ h=>h) hH0 (by rfl) ?_
                try simp only [Act.put,sT,sZ,sS]
                refine zD (i:=16) (oi:=⟨some 227,_,_,_,_,_⟩) rfl (by kernel_rfl) (by kernel_rfl) (by kernel_rfl) (by kernel_rfl) (fun _ _ _ h=>h) hH0 (by rfl) ?_
                try simp only [Act.put,sT,sZ,sS]
                refine zD (i:=17) (oi:=⟨some 228,_,_,_,_,_⟩) rfl (by kernel_rfl) (by kernel_rfl) (by kernel_rfl) (by kernel_rfl) (fun _ _ _ h=>h) hH0 (by rfl) ?_
                try simp only [Act.put,sT,sZ,sS]
                refine zD (i:=18) (oi:=⟨some 229,_,_,_,_,_⟩) rfl (by kernel_rfl) (by kernel_rfl) (by kernel_rfl) (by kernel_rfl) (fun _ _ _ h=>h) hH0 (by rfl) ?_
                try simp only [Act.put,sT,sZ,sS]
                refine zD (i:=19) (oi:=⟨some 230,_,_,_,_,_⟩) rfl (by kernel_rfl) (by kernel_rfl) (by kernel_rfl) (by kernel_rfl) (fun _ _ _ h=>h) hH0 (by rfl) ?_
                try simp only [Act.put,sT,sZ,sS]
                refine zD (i:=20) (oi:=⟨some 231,_,_,_,_,_⟩) rfl (by kernel_rfl) (by kernel_rfl) (by kernel_rfl) (by kernel_rfl) (fun _ _ _ h=>h) hH0 (by rfl) ?_
                try simp only [Act.put,sT,sZ,sS]
                refine zD (i:=21) (oi:=⟨some 232,_,_,_,_,_⟩) rfl (by kernel_rfl) (by kernel_rfl) (by kernel_rfl) (by kernel_rfl) (fun _ _ _ h=>h) hH0 (by rfl) ?_
                try simp only [Act.put,sT,sZ,sS]
                refine zD (i:=22) (oi:=⟨some 233,_,_,_,_,_⟩) rfl (by kernel_rfl) (by kernel_rfl) (by kernel_rfl) (by kernel_rfl) (fun _ _ _ h=>h) hH0 (by rfl) ?_
                try simp only [Act.put,sT,sZ,sS]
                refine zD (i:=23) (oi:=⟨some 234,_,_,_,_,_⟩) rfl (by kernel_rfl) (by kernel_rfl) (by kernel_rfl) (by kernel_rfl) (fun _ _ _ h=>h) hH0 (by rfl) ?_
                try simp only [Act.put,sT,sZ,sS]
                refine zD (i:=24) (oi:=⟨some 235,_,_,_,_,_⟩) rfl (by kernel_rfl) (by kernel_rfl) (by kernel_rfl) (by kernel_rfl) (fun _ _ _ h=>h) hH0 (by rfl) ?_
                try simp only [Act.put,sT,sZ,sS]
                refine zD (i:=25) (oi:=⟨some 236,_,_,_,_,_⟩) rfl (by kernel_rfl) (by kernel_rfl) (by kernel_rfl) (by kernel_rfl) (fun _ _ _ h=>h) hH0 (by rfl) ?_
                try simp only [Act.put,sT,sZ,sS]
                refine zD (i:=26) (oi:=⟨some 237,_,_,_,_,_⟩) rfl (by kernel_rfl) (by kernel_rfl) (by kernel_rfl) (by kernel_rfl) (fun _ _ _ h=>h) hH0 (by rfl) ?_
                try simp only [Act.put,sT,sZ,sS]
                refine zD (i:=27) (oi:=⟨some 238,_,_,_,_,_⟩) rfl (by kernel_rfl) (by kernel_rfl) (by kernel_rfl) (by kernel_rfl) (fun _ _ _ h=>h) hH0 (by rfl) ?_
                try simp only [Act.put,sT,sZ,sS]
                refine zD (i:=28) (oi:=⟨some 239,_,_,_,_,_⟩) rfl (by kernel_rfl) (by kernel_rfl) (by kernel_rfl) (by kernel_rfl) (fun _ _ _ h=>h) hH0 (by rfl) ?_
                try simp only [Act.put,sT,sZ,sS]
                refine zD (i:=29) (oi:=⟨some 240,_,_,_,_,_⟩) rfl (by kernel_rfl) (by kernel_rfl) (by kernel_rfl) (by kernel_rfl) (fun _ _ _ h=>h) hH0 (by rfl) ?_
                try simp only [Act.put,sT,sZ,sS]
                refine zD (i:=30) (oi:=⟨some 241,_,_,_,_,_⟩) rfl (by kernel_rfl) (by kernel_rfl) (by kernel_rfl) (by kernel_rfl) (fun _ _ _ h=>h) hH0 (by rfl) ?_
                try simp only [Act.put,sT,sZ,sS]
                refine zD (i:=31) (oi:=⟨some 242,_,_,_,_,_⟩) rfl (by kernel_rfl) (by kernel_rfl) (by kernel_rfl) (by kernel_rfl) (fun _ _ _ h=>h) hH0 (by rfl) ?_
                try simp only [Act.put,sT,sZ,sS]
                refine zD (i:=32) (oi:=⟨some 243,_,_,_,_,_⟩) rfl (by kernel_rfl) (by kernel_rfl) (by kernel_rfl) (by kernel_rfl) (fun _ _ _ h=>h) hH0 (by rfl) ?_
                try simp only [Act.put,sT,sZ,sS]
                refine zD (i:=33) (oi:=⟨some 244,_,_,_,_,_⟩) rfl (by kernel_rfl) (by kernel_rfl) (by kernel_rfl) (by kernel_rfl) (fun _ _ _ h=>h) hH0 (by rfl) ?_
                try simp only [Act.put,sT,sZ,sS]
                refine zD (i:=34) (oi:=⟨some 245,_,_,_,_,_⟩) rfl (by kernel_rfl) (by kernel_rfl) (by kernel_rfl) (by kernel_rfl) (fun _ _ _ h=>h) hH0 (by rfl) ?_
                try simp only [Act.put,sT,sZ,sS]
                refine zD (i:=35) (oi:=⟨some 246,_,_,_,_,_⟩) rfl (by kernel_rfl) (by kernel_rfl) (by kernel_rfl) (by kernel_rfl) (fun _ _ _ h=>h) hH0 (by rfl) ?_
                try simp only [Act.put,sT,sZ,sS]
                refine zD (i:=36) (oi:=⟨some 247,_,_,_,_,_⟩) rfl (by kernel_rfl) (by kernel_rfl) (by kernel_rfl) (by kernel_rfl) (fun _ _ _ h=>h) hH0 (by rfl) ?_
                try simp only [Act.put,sT,sZ,sS]
                refine zD (i:=37) (oi:=⟨some 248,_,_,_,_,_⟩) rfl (by kernel_rfl) (by kernel_rfl) (by kernel_rfl) (by kernel_rfl) (fun _ _ _ h=>h) hH0 (by rfl) ?_
                try simp only [Act.put,sT,sZ,sS]
                refine zD (i:=38) (oi:=⟨some 249,_,_,_,_,_⟩) rfl (by kernel_rfl) (by kernel_rfl) (by kernel_rfl) (by kernel_rfl) (fun _ _ _ h=>h) hH0 (by rfl) ?_
                try simp only [Act.put,sT,sZ,sS]
                refine zD (i:=39) (oi:=⟨some 250,_,_,_,_,_⟩) rfl (by kernel_rfl) (by kernel_rfl) (by kernel_rfl) (by kernel_rfl) (fun _ _ _ h=>h) hH0 (by rfl) ?_
                try simp only [Act.put,sT,sZ,sS]
                refine zD (i:=40) (oi:=⟨some 251,_,_,_,_,_⟩) rfl (by kernel_rfl) (by kernel_rfl) (by kernel_rfl) (by kernel_rfl) (fun _ _ _ h=>h) hH0 (by rfl) ?_
                try simp only [Act.put,sT,sZ,sS]
                refine zD (i:=41) (oi:=⟨some 252,_,_,_,_,_⟩) rfl (by kernel_rfl) (by kernel_rfl) (by kernel_rfl) (by kernel_rfl) (fun _ _ _ h=>h) hH0 (by rfl) ?_
                try simp only [Act.put,sT,sZ,sS]
                refine zD (i:=42) (oi:=⟨some 253,_,_,_,_,_⟩) rfl (by kernel_rfl) (by kernel_rfl) (by kernel_rfl) (by kernel_rfl) (fun _ _ _ h=>h) hH0 (by rfl) ?_
                try simp only [Act.put,sT,sZ,sS]
                refine zD (i:=43) (oi:=⟨some 254,_,_,_,_,_⟩) rfl (by kernel_rfl) (by kernel_rfl) (by kernel_rfl) (by kernel_rfl) (fun _ _ _ h=>h) hH0 (by rfl) ?_
                try simp only [Act.put,sT,sZ,sS]
                refine zD (i:=44) (oi:=⟨some 255,_,_,_,_,_⟩) rfl (by kernel_rfl) (by kernel_rfl) (by kernel_rfl) (by kernel_rfl) (fun _ _ _ h=>h) hH0 (by rfl) ?_
                try simp only [Act.put,sT,sZ,sS]
                refine zD (i:=45) (oi:=⟨some 256,_,_,_,_,_⟩) rfl (by kernel_rfl) (by kernel_rfl) (by kernel_rfl) (by kernel_rfl) (fun _ _ _ h=>h) hH0 (by rfl) ?_
                try simp only [Act.put,sT,sZ,sS]
                refine' tkR 46 257 hH0 ?o147
                refine zI (by kernel_rfl) ?_ _;go_wp2_with fail;go_roundg (S.V.length-(v+1))
                case measure=>omega
                case rel=>exact ⟨v+1,by omega,rfl,by go_num,Bf.trans (hH0.mono Bf.size)⟩
              case pos=>
               as_aux_lemma=>
                obtain ⟨hAeq,k,hk,hFk,hov⟩:=H3.out hte;subst hFk;subst hte;subst hAeq;obtain ⟨ao,cp,e1,-,-,hat⟩:=HS7.out.R.at;injection e1 with q1 q2 q3;obtain ⟨bR,oR,⟨aA,nA,cA,aE,nE,cE⟩,hbR,yR7,hrat,hru⟩:=hat k hk;rw [hbR] at q1;subst q1;obtain ⟨r,hr⟩:=nmQ (S.R[k]);have hrm:r ∈ S.R:=(by rw [hr];exact List.getElem_mem hk);rw [<-hr] at hrat hru hov;obtain ⟨d0,d1,d2,d3,d4,d5⟩:=hrat
                dsimp only at d4 d5
                have HMO:=zG (fun (W:World) (hW:Below wf.heap.size wf W)=>vQ ((HS7.out.under Bf).under hW) ((hru.under Bf).under hW) (HOK.out.rules r hrm).1.1 u hlu (HFIT.out r hrm).2);rw [hov] at HMO
                dsimp only at HMO
                replace d0:=(Bf.cell (p:=⟨bR,oR+k*6,none⟩) yR7).trans d0
                replace d1:=(Bf.cell (p:=⟨bR,oR+k*6+1,none⟩) yR7).trans d1
                replace d2:=(Bf.cell (p:=⟨bR,oR+k*6+2,none⟩) yR7).trans d2
                replace d3:=(Bf.cell (p:=⟨bR,oR+k*6+3,none⟩) yR7).trans d3
                replace d4:=(Bf.cell (p:=⟨bR,oR+k*6+4,none⟩) yR7).trans d4
                replace d5:=(Bf.cell (p:=⟨bR,oR+k*6+5,none⟩) yR7).trans d5
                have yR:=Nat.lt_of_lt_of_le yR7 Bf.size;clear H3 hat q2 q3 hbR hr hrm hov hru h1 h2;go_upto_region 37 with fail;refine zK (fun w'=>Below wf.heap.size wf w') (fun _=>false) (by kernel_rfl) ?_;have hH0:Below wf.heap.size wf wf.drew:=(Below.refl _ _).drew;generalize wf.drew=wd0 at hH0 ⊢;refine' tkR 0 211 hH0 ?o148
                refine' tkR 1 212 hH0 ?o149
                refine' tkR 2 213 hH0 ?o150
                refine' tkR 3 214 hH0 ?o151
                refine' tkQ 4 215 hH0 ?hyv ?o152
                case hyv=>
                 intro wz hSw;have zc9:=(hSw.cell (p:=⟨bL,oL+u*2+1,none⟩) yL).trans cTu;go_simp
                 try rfl
                try simp only [Act.put,sT,sZ,sS]
                refine' tkR 5 216 hH0 ?o153
                refine' tkR 6 217 hH0 ?o154
                refine' tkR 7 218 hH0 ?o155
                refine' tkR 8 219 hH0 ?o156
                refine' tkQ 9 220 hH0 ?hyv ?o157
                case hyv=>
                 intro wz hSw;have zc8:=(hSw.cell (p:=⟨bL,oL+v*2,none⟩) yL).trans cFv;go_simp
                 try rfl
                try simp only [Act.put,sT,sZ,sS]
                refine' zM (i:=10) (oi:=⟨some 221,_,_,_,_,_⟩) (v:=.bool true) rfl (by kernel_rfl) (by kernel_rfl) (by kernel_rfl) (by kernel_rfl) (fun _ _ _ h=>h) hH0 (by rfl) ?hyv ?o158
                case hyv=>
                 intro wz hSw;go_simp
                 try simp
                 try omega
                try simp only [Act.put,sT,sZ,sS]
                refine' tkR 11 222 hH0 ?o159
                refine' tkR 12 223 hH0 ?o160
                refine' tkQ 13 224 hH0 ?hyv ?o161
                case hyv=>
                 intro wz hSw;have zc4:=(hSw.cell (p:=⟨w4.heap.size,0,none⟩) yP).trans p0;go_simp
                 try rfl
                try simp only [Act.put,sT,sZ,sS]
                refine' tkR 14 225 hH0 ?o162
                refine' tkR 15 226 hH0 ?o163
                refine' tkQ 16 227 hH0 ?hyv ?o164
                case hyv=>
                 intro wz hSw;have zc5:=(hSw.cell (p:=⟨ga,u,none⟩) yA).trans cAu;go_simp
                 try rfl
                try simp only [Act.put,sT,sZ,sS]
                refine' tkR 17 228 hH0 ?o165
                refine' tkQ 18 229 hH0 ?hyv ?o166
                case hyv=>
                 intro wz hSw;have zc4:=(hSw.cell (p:=⟨w4.heap.size,0,none⟩) yP).trans p0;go_simp
                 try rfl
                try simp only [Act.put,sT,sZ,sS]
                refine' tkR 19 230 hH0 ?o167
                refine' tkR 20 231 hH0 ?o168
                refine' tkQ 21 232 hH0 ?hyv ?o169
                case hyv=>
                 intro wz hSw;have zc6:=(hSw.cell (p:=⟨ga,v,none⟩) yA).trans cAv;go_simp
                 try rfl
                try simp only [Act.put,sT,sZ,sS]
                refine' zM (i:=22) (oi:=⟨some 233,_,_,_,_,_⟩) (v:=.bool false) rfl (by kernel_rfl) (by kernel_rfl) (by kernel_rfl) (by kernel_rfl) (fun _ _ _ h=>h) hH0 (by rfl) ?hyv ?o170
                case hyv=>
                 intro wz hSw;go_simp
                 try simp
                 try omega
                try simp only [Act.put,sT,sZ,sS]
                refine' tkR 23 234 hH0 ?o171
                refine' tkR 24 235 hH0 ?o172
                refine' tkR 25 236 hH0 ?o173
                refine' tkR 26 237 hH0 ?o174
                refine' tkR 27 238 hH0 ?o175
                refine' tkQ 28 239 hH0 ?hyv ?o176
                case hyv=>
                 intro wz hSw;have zc8:=(hSw.cell (p:=⟨bL,oL+v*2,none⟩) yL).trans cFv;go_simp
                 try rfl
                try simp only [Act.put,sT,sZ,sS]
                refine' zM (i:=29) (oi:=⟨some 240,_,_,_,_,_⟩) (v:=.bool false) rfl (by kernel_rfl) (by kernel_rfl) (by kernel_rfl) (by kernel_rfl) (fun _ _ _ h=>h) hH0 (by rfl) ?hyv ?o177
                case hyv=>
                 intro wz hSw;go_simp
                 try simp
                 try omega
                try simp only [Act.put,sT,sZ,sS]
                refine' tkR 30 241 hH0 ?o178
                refine' tkR 31 242 hH0 ?o179
                refine' tkQ 32 243 hH0 ?hyv ?o180
                case hyv=>
                 intro wz hSw;have zc0:=(hSw.cell (p:=⟨w.heap.size,0,none⟩) yS).trans s0;have zc1:=(hSw.cell (p:=⟨w.heap.size,1,none⟩) yS).trans s1;have zc2:=(hSw.cell (p:=⟨w.heap.size,2,none⟩) yS).trans s2;have zc3:=(hSw.cell (p:=⟨w.heap.size,3,none⟩) yS).trans s3;go_simp
                 try rfl
                try simp only [Act.put,sT,sZ,sS]
                refine' tkR 33 244 hH0 ?o181
                refine' tkQ 34 245 hH0 ?hyv ?o182
                case hyv=>
                 intro wz hSw;have zc3:=(hSw.cell (p:=⟨w.heap.size,3,none⟩) yS).trans s3;go_simp
                 try rfl
                try simp only [Act.put,sT,sZ,sS]
                refine' tkR 35 246 hH0 ?o183
                refine' tkR 36 247 hH0 ?o184
                refine' tkR 37 248 hH0 ?o185
                refine' tkR 38 249 hH0 ?o186
                refine' tkQ 39 250 hH0 ?hyv ?o187
                case hyv=>
                 intro wz hSw;have zc8:=(hSw.cell (p:=⟨bL,oL+v*2,none⟩) yL).trans cFv;go_simp
                 try rfl
                try simp only [Act.put,sT,sZ,sS]
                refine' tkR 40 251 hH0 ?o188
                refine' tkQ 41 252 hH0 ?hyv ?o189
                case hyv=>
                 intro wz hSw;have zc11:=(hSw.cell (p:=⟨bR,oR+k*6,none⟩) yR).trans d0;have zc12:=(hSw.cell (p:=⟨bR,oR+k*6+1,none⟩) yR).trans d1;have zc13:=(hSw.cell (p:=⟨bR,oR+k*6+2,none⟩) yR).trans d2;have zc14:=(hSw.cell (p:=⟨bR,oR+k*6+3,none⟩) yR).trans d3;have zc15:=(hSw.cell (p:=⟨bR,oR+k*6+4,none⟩) yR).trans d4;have zc16:=(hSw.cell (p:=⟨bR,oR+k*6+5,none⟩) yR).trans d5;go_simp
                 try rfl
                try simp only [Act.put,sT,sZ,sS]
                refine' tkR 42 253 hH0 ?o190
                refine tnQ 43 (fun K hK=>?_);go_simp;refine (HMO.out wd0 hH0).mono ?_;rintro eq wd1 ⟨rfl,bq1⟩;have hH1:Below wf.heap.size wf wd1:=hH0.trans (bq1.mono hH0.size);refine hK.out _ _ (fun _=>hH1) ?_;clear hK K
                try simp only [Act.put,sT,sZ,sS]
                refine' tkR 44 255 hH1 ?o191
                refine' tkR 45 256 hH1 ?o192
                refine' tkR 46 257 hH1 ?o193
                refine zI (by kernel_rfl) ?_ _;go_wp2_with fail;go_roundg (S.V.length-(v+1))
                case measure=>omega
                case rel=>exact ⟨v+1,by omega,rfl,by go_num,Bf.trans (hH1.mono Bf.size)⟩
            case neg=>
             as_aux_lemma=>
              go_upto_region 33 with fail;refine zK (fun w'=>Below wd.heap.size wd w') (fun _=>false) (by kernel_rfl) ?_;have hH0:Below wd.heap.size wd wd.drew:=(Below.refl _ _).drew;generalize wd.drew=wd0 at hH0 ⊢;refine' tkR 0 174 hH0 ?o194
              refine' tkR 1 175 hH0 ?o195
              refine' tkR 2 176 hH0 ?o196
              refine' tkR 3 177 hH0 ?o197
              refine' tkQ 4 178 hH0 ?hyv ?o198
              case hyv=>
               intro wz hSw;have zc7:=(hSw.cell (p:=⟨bL,oL+u*2,none⟩) yL).trans cFu;go_simp
               try rfl
              try simp only [Act.put,sT,sZ,sS]
              refine' tkR 5 179 hH0 ?o199
              refine' tkR 6 180 hH0 ?o200
              refine' tkR 7 181 hH0 ?o201
              refine' tkR 8 182 hH0 ?o202
              refine' tkQ 9 183 hH0 ?hyv ?o203
              case hyv=>
               intro wz hSw;have zc8:=(hSw.cell (p:=⟨bL,oL+v*2,none⟩) yL).trans cFv;go_simp
               try rfl
              try simp only [Act.put,sT,sZ,sS]
              refine' zM (i:=10) (oi:=⟨some 184,_,_,_,_,_⟩) (v:=.bool true) rfl (by kernel_rfl) (by kernel_rfl) (by kernel_rfl) (by kernel_rfl) (fun _ _ _ h=>h) hH0 (by rfl) ?hyv ?o204
              case hyv=>
               intro wz hSw;go_simp
               try simp
               try omega
              try simp only [Act.put,sT,sZ,sS]
              refine zI (by kernel_rfl) ?_ _;obtain ⟨we,hwe⟩:=nmQ (wd0);subst hwe;have hXwe:=hH0;have Be:=Bc.trans (hXwe.mono Bc.size)
              replace s0:=(hXwe.cell (p:=⟨w.heap.size,0,none⟩) yS).trans s0
              replace s1:=(hXwe.cell (p:=⟨w.heap.size,1,none⟩) yS).trans s1
              replace s2:=(hXwe.cell (p:=⟨w.heap.size,2,none⟩) yS).trans s2
              replace s3:=(hXwe.cell (p:=⟨w.heap.size,3,none⟩) yS).trans s3
              replace p0:=(hXwe.cell (p:=⟨w4.heap.size,0,none⟩) yP).trans p0
              replace cAu:=(hXwe.cell (p:=⟨ga,u,none⟩) yA).trans cAu
              replace cAv:=(hXwe.cell (p:=⟨ga,v,none⟩) yA).trans cAv
              replace cFu:=(hXwe.cell (p:=⟨bL,oL+u*2,none⟩) yL).trans cFu
              replace cFv:=(hXwe.cell (p:=⟨bL,oL+v*2,none⟩) yL).trans cFv
              replace cTu:=(hXwe.cell (p:=⟨bL,oL+u*2+1,none⟩) yL).trans cTu
              replace cTv:=(hXwe.cell (p:=⟨bL,oL+v*2+1,none⟩) yL).trans cTv
              replace yS:=Nat.lt_of_lt_of_le yS hXwe.size
              replace yP:=Nat.lt_of_lt_of_le yP hXwe.size
              replace yA:=Nat.lt_of_lt_of_le yA hXwe.size
              replace yL:=Nat.lt_of_lt_of_le yL hXwe.size
              clear hXwe;obtain ⟨h1,h2,h3⟩:=HPA2.out (by omega);have H3:=zG h3;clear h3;go_upto_region 35 with fail;refine zK (fun w'=>Below we.heap.size we w') (fun _=>false) (by kernel_rfl) ?_;have hH0:Below we.heap.size we we.drew:=(Below.refl _ _).drew;generalize we.drew=wd0 at hH0 ⊢;refine' tkR 0 187 hH0 ?o205
              refine' tkR 1 188 hH0 ?o206
              refine' tkR 2 189 hH0 ?o207
              refine' tkR 3 190 hH0 ?o208
              refine' tkQ 4 191 hH0 ?hyv ?o209
              case hyv=>
               intro wz hSw;have zc8:=(hSw.cell (p:=⟨bL,oL+v*2,none⟩) yL).trans cFv;go_simp
               try rfl
              try simp only [Act.put,sT,sZ,sS]
              refine' tkR 5 192 hH0 ?o210
              refine' tkR 6 193 hH0 ?o211
              refine' tkR 7 194 hH0 ?o212
              refine' tkR 8 195 hH0 ?o213
              refine' tkQ 9 196 hH0 ?hyv ?o214
              case hyv=>
               intro wz hSw;have zc7:=(hSw.cell (p:=⟨bL,oL+u*2,none⟩) yL).trans cFu;go_simp
               try rfl
              try simp only [Act.put,sT,sZ,sS]
              refine' zM (i:=10) (oi:=⟨some 197,_,_,_,_,_⟩) (v:=.bool false) rfl (by kernel_rfl) (by kernel_rfl) (by kernel_rfl) (by kernel_rfl) (fun _ _ _ h=>h) hH0 (by rfl) ?hyv ?o215
              case hyv=>
               intro wz hSw;go_simp
               try simp
               try omega
              try simp only [Act.put,sT,sZ,sS]
              refine' tkR 11 198 hH0 ?o216
              refine' tkR 12 199 hH0 ?o217
              refine' tkR 13 200 hH0 ?o218
              refine' tkR 14 201 hH0 ?o219
              refine' tkR 15 202 hH0 ?o220
              refine' tkQ 16 203 hH0 ?hyv ?o221
              case hyv=>
               intro wz hSw;have zc10:=(hSw.cell (p:=⟨bL,oL+v*2+1,none⟩) yL).trans cTv;go_simp
               try rfl
              try simp only [Act.put,sT,sZ,sS]
              refine' tkR 17 204 hH0 ?o222
              refine' tkR 18 205 hH0 ?o223
              refine' tkR 19 206 hH0 ?o224
              refine' tkR 20 207 hH0 ?o225
              refine' tkQ 21 208 hH0 ?hyv ?o226
              case hyv=>
               intro wz hSw;have zc7:=(hSw.cell (p:=⟨bL,oL+u*2,none⟩) yL).trans cFu;go_simp
               try rfl
              try simp only [Act.put,sT,sZ,sS]
              refine' zM (i:=22) (oi:=⟨some 209,_,_,_,_,_⟩) (v:=.bool false) rfl (by kernel_rfl) (by kernel_rfl) (by kernel_rfl) (by kernel_rfl) (fun _ _ _ h=>h) hH0 (by rfl) ?hyv ?o227
              case hyv=>
               intro wz hSw;go_simp
               try simp
               try omega
              try simp only [Act.put,sT,sZ,sS]
              refine' tkR 23 210 hH0 ?o228
              refine zI (by kernel_rfl) ?_ _;obtain ⟨wf,hwf⟩:=nmQ (wd0);subst hwf;have hXwf:=hH0;have Bf:=Be.trans (hXwf.mono Be.size)
              replace s0:=(hXwf.cell (p:=⟨w.heap.size,0,none⟩) yS).trans s0
              replace s1:=(hXwf.cell (p:=⟨w.heap.size,1,none⟩) yS).trans s1
              replace s2:=(hXwf.cell (p:=⟨w.heap.size,2,none⟩) yS).trans s2
              replace s3:=(hXwf.cell (p:=⟨w.heap.size,3,none⟩) yS).trans s3
              replace p0:=(hXwf.cell (p:=⟨w4.heap.size,0,none⟩) yP).trans p0
              replace cAu:=(hXwf.cell (p:=⟨ga,u,none⟩) yA).trans cAu
              replace cAv:=(hXwf.cell (p:=⟨ga,v,none⟩) yA).trans cAv
              replace cFu:=(hXwf.cell (p:=⟨bL,oL+u*2,none⟩) yL).trans cFu
              replace cFv:=(hXwf.cell (p:=⟨bL,oL+v*2,none⟩) yL).trans cFv
              replace cTu:=(hXwf.cell (p:=⟨bL,oL+u*2+1,none⟩) yL).trans cTu
              replace cTv:=(hXwf.cell (p:=⟨bL,oL+v*2+1,none⟩) yL).trans cTv
              replace yS:=Nat.lt_of_lt_of_le yS hXwf.size
              replace yP:=Nat.lt_of_lt_of_le yP hXwf.size
              replace yA:=Nat.lt_of_lt_of_le yA hXwf.size
              replace yL:=Nat.lt_of_lt_of_le yL hXwf.size
              clear hXwf;by_cases hte:Tv=Fu
              case neg=>
               as_aux_lemma=>
                clear H3 h2 h1;go_upto_region 37 with fail;refine zK (fun w'=>Below wf.heap.size wf w') (fun _=>false) (by kernel_rfl) ?_;have hH0:Below wf.heap.size wf wf.drew:=(Below.refl _ _).drew;generalize wf.drew=wd0 at hH0 ⊢;refine' tkR 0 211 hH0 ?o229
                refine' tkR 1 212 hH0 ?o230
                refine' tkR 2 213 hH0 ?o231
                refine' tkR 3 214 hH0 ?o232
                refine' tkQ 4 215 hH0 ?hyv ?o233
                case hyv=>
                 intro wz hSw;have zc10:=(hSw.cell (p:=⟨bL,oL+v*2+1,none⟩) yL).trans cTv;go_simp
                 try rfl
                try simp only [Act.put,sT,sZ,sS]
                refine' tkR 5 216 hH0 ?o234
                refine' tkR 6 217 hH0 ?o235
                refine' tkR 7 218 hH0 ?o236
                refine' tkR 8 219 hH0 ?o237
                refine' tkQ 9 220 hH0 ?hyv ?o238
                case hyv=>
                 intro wz hSw;have zc7:=(hSw.cell (p:=⟨bL,oL+u*2,none⟩) yL).trans cFu;go_simp
                 try rfl
                try simp only [Act.put,sT,sZ,sS]
                refine' zM (i:=10) (oi:=⟨some 221,_,_,_,_,_⟩) (v:=.bool false) rfl (by kernel_rfl) (by kernel_rfl) (by kernel_rfl) (by kernel_rfl) (fun _ _ _ h=>h) hH0 (by rfl) ?hyv ?o239
                case hyv=>
                 intro wz hSw;go_simp
                 try simp
                 try omega
                try simp only [Act.put,sT,sZ,sS]
                refine' tkR 11 222 hH0 ?o240
                refine zD (i:=12) (oi:=⟨some 223,_,_,_,_,_⟩) rfl (by kernel_rfl) (by kernel_rfl) (by kernel_rfl) (by kernel_rfl) (fun _ _ _ h=>h) hH0 (by rfl) ?_
                try simp only [Act.put,sT,sZ,sS]
                refine zD (i:=13) (oi:=⟨some 224,_,_,_,_,_⟩) rfl (by kernel_rfl) (by kernel_rfl) (by kernel_rfl) (by kernel_rfl) (fun _ _ _ h=>h) hH0 (by rfl) ?_
                try simp only [Act.put,sT,sZ,sS]
                refine zD (i:=14) (oi:=⟨some 225,_,_,_,_,_⟩) rfl (by kernel_rfl) (by kernel_rfl) (by kernel_rfl) (by kernel_rfl) (fun _ _ _ h=>h) hH0 (by rfl) ?_
                try simp only [Act.put,sT,sZ,sS]
                refine zD (i:=15) (oi:=⟨some 226,_,_,_,_,_⟩) rfl (by kernel_rfl) (by kernel_rfl) (by kernel_rfl) (by kernel_rfl) (fun _ _ _ h=>h) hH0 (by rfl) ?_
                try simp only [Act.put,sT,sZ,sS]
                refine zD (i:=16) (oi:=⟨some 227,_,_,_,_,_⟩) rfl (by kernel_rfl) (by kernel_rfl) (by kernel_rfl) (by kernel_rfl) (fun _ _ _ h=>h) hH0 (by rfl) ?_
                try simp only [Act.put,sT,sZ,sS]
                refine zD (i:=17) (oi:=⟨some 228,_,_,_,_,_⟩) rfl (by kernel_rfl) (by kernel_rfl) (by kernel_rfl) (by kernel_rfl) (fun _ _ _ h=>h) hH0 (by rfl) ?_
                try simp only [Act.put,sT,sZ,sS]
                refine zD (i:=18) (oi:=⟨some 229,_,_,_,_,_⟩) rfl (by kernel_rfl) (by kernel_rfl) (by kernel_rfl) (by kernel_rfl) (fun _ _ _ h=>h) hH0 (by rfl) ?_
                try simp only [Act.put,sT,sZ,sS]
                refine zD (i:=19) (oi:=⟨some 230,_,_,_,_,_⟩) rfl (by kernel_rfl) (by kernel_rfl) (by kernel_rfl) (by kernel_rfl) (fun _ _ _ h=>h) hH0 (by rfl) ?_
                try simp only [Act.put,sT,sZ,sS]
                refine zD (i:=20) (oi:=⟨some 231,_,_,_,_,_⟩) rfl (by kernel_rfl) (by kernel_rfl) (by kernel_rfl) (by kernel_rfl) (fun _ _ _ h=>h) hH0 (by rfl) ?_
                try simp only [Act.put,sT,sZ,sS]
                refine zD (i:=21) (oi:=⟨some 232,_,_,_,_,_⟩) rfl (by kernel_rfl) (by kernel_rfl) (by kernel_rfl) (by kernel_rfl) (fun _ _ _ h=>h) hH0 (by rfl) ?_
                try simp only [Act.put,sT,sZ,sS]
                refine zD (i:=22) (oi:=⟨some 233,_,_,_,_,_⟩) rfl (by kernel_rfl) (by kernel_rfl) (by kernel_rfl) (by kernel_rfl) (fun _ _ _ h=>h) hH0 (by rfl) ?_
                try simp only [Act.put,sT,sZ,sS]
                refine zD (i:=23) (oi:=⟨some 234,_,_,_,_,_⟩) rfl (by kernel_rfl) (by kernel_rfl) (by kernel_rfl) (by kernel_rfl) (fun _ _ _ h=>h) hH0 (by rfl) ?_
                try simp only [Act.put,sT,sZ,sS]
                refine zD (i:=24) (oi:=⟨some 235,_,_,_,_,_⟩) rfl (by kernel_rfl) (by kernel_rfl) (by kernel_rfl) (by kernel_rfl) (fun _ _ _ h=>h) hH0 (by rfl) ?_
                try simp only [Act.put,sT,sZ,sS]
                refine zD (i:=25) (oi:=⟨some 236,_,_,_,_,_⟩) rfl (by kernel_rfl) (by kernel_rfl) (by kernel_rfl) (by kernel_rfl) (fun _ _ _ h=>h) hH0 (by rfl) ?_
                try simp only [Act.put,sT,sZ,sS]
                refine zD (i:=26) (oi:=⟨some 237,_,_,_,_,_⟩) rfl (by kernel_rfl) (by kernel_rfl) (by kernel_rfl) (by kernel_rfl) (fun _ _ _ h=>h) hH0 (by rfl) ?_
                try simp only [Act.put,sT,sZ,sS]
                refine zD (i:=27) (oi:=⟨some 238,_,_,_,_,_⟩) rfl (by kernel_rfl) (by kernel_rfl) (by kernel_rfl) (by kernel_rfl) (fun _ _ _ h=>h) hH0 (by rfl) ?_
                try simp only [Act.put,sT,sZ,sS]
                refine zD (i:=28) (oi:=⟨some 239,_,_,_,_,_⟩) rfl (by kernel_rfl) (by kernel_rfl) (by kernel_rfl) (by kernel_rfl) (fun _ _ _ h=>h) hH0 (by rfl) ?_
                try simp only [Act.put,sT,sZ,sS]
                refine zD (i:=29) (oi:=⟨some 240,_,_,_,_,_⟩) rfl (by kernel_rfl) (by kernel_rfl) (by kernel_rfl) (by kernel_rfl) (fun _ _ _ h=>h) hH0 (by rfl) ?_
                try simp only [Act.put,sT,sZ,sS]
                refine zD (i:=30) (oi:=⟨some 241,_,_,_,_,_⟩) rfl (by kernel_rfl) (by kernel_rfl) (by kernel_rfl) (by kernel_rfl) (fun _ _ _ h=>h) hH0 (by rfl) ?_
                try simp only [Act.put,sT,sZ,sS]
                refine zD (i:=31) (oi:=⟨some 242,_,_,_,_,_⟩) rfl (by kernel_rfl) (by kernel_rfl) (by kernel_rfl) (by kernel_rfl) (fun _ _ _ h=>h) hH0 (by rfl) ?_
                try simp only [Act.put,sT,sZ,sS]
                refine zD (i:=32) (oi:=⟨some 243,_,_,_,_,_⟩) rfl (by kernel_rfl) (by kernel_rfl) (by kernel_rfl) (by kernel_rfl) (fun _ _ _ h=>h) hH0 (by rfl) ?_
                try simp only [Act.put,sT,sZ,sS]
                refine zD (i:=33) (oi:=⟨some 244,_,_,_,_,_⟩) rfl (by kernel_rfl) (by kernel_rfl) (by kernel_rfl) (by kernel_rfl) (fun _ _ _ h=>h) hH0 (by rfl) ?_
                try simp only [Act.put,sT,sZ,sS]
                refine zD (i:=34) (oi:=⟨some 245,_,_,_,_,_⟩) rfl (by kernel_rfl) (by kernel_rfl) (by kernel_rfl) (by kernel_rfl) (fun _ _ _ h=>h) hH0 (by rfl) ?_
                try simp only [Act.put,sT,sZ,sS]
                refine zD (i:=35) (oi:=⟨some 246,_,_,_,_,_⟩) rfl (by kernel_rfl) (by kernel_rfl) (by kernel_rfl) (by kernel_rfl) (fun _ _ _ h=>h) hH0 (by rfl) ?_
                try simp only [Act.put,sT,sZ,sS]
                refine zD (i:=36) (oi:=⟨some 247,_,_,_,_,_⟩) rfl (by kernel_rfl) (by kernel_rfl) (by kernel_rfl) (by kernel_rfl) (fun _ _ _ h=>h) hH0 (by rfl) ?_
                try simp only [Act.put,sT,sZ,sS]
                refine zD (i:=37) (oi:=⟨some 248,_,_,_,_,_⟩) rfl (by kernel_rfl) (by kernel_rfl) (by kernel_rfl) (by kernel_rfl) (fun _ _ _ h=>h) hH0 (by rfl) ?_
                try simp only [Act.put,sT,sZ,sS]
                refine zD (i:=38) (oi:=⟨some 249,_,_,_,_,_⟩) rfl (by kernel_rfl) (by kernel_rfl) (by kernel_rfl) (by kernel_rfl) (fun _ _ _ h=>h) hH0 (by rfl) ?_
                try simp only [Act.put,sT,sZ,sS]
                refine zD (i:=39) (oi:=⟨some 250,_,_,_,_,_⟩) rfl (by kernel_rfl) (by kernel_rfl) (by kernel_rfl) (by kernel_rfl) (fun _ _ _ h=>h) hH0 (by rfl) ?_
                try simp only [Act.put,sT,sZ,sS]
                refine zD (i:=40) (oi:=⟨some 251,_,_,_,_,_⟩) rfl (by kernel_rfl) (by kernel_rfl) (by kernel_rfl) (by kernel_rfl) (fun _ _ _ h=>h) hH0 (by rfl) ?_
                try simp only [Act.put,sT,sZ,sS]
                refine zD (i:=41) (oi:=⟨some 252,_,_,_,_,_⟩) rfl (by kernel_rfl) (by kernel_rfl) (by kernel_rfl) (by kernel_rfl) (fun _ _ _ h=>h) hH0 (by rfl) ?_
                try simp only [Act.put,sT,sZ,sS]
                refine zD (i:=42) (oi:=⟨some 253,_,_,_,_,_⟩) rfl (by kernel_rfl) (by kernel_rfl) (by kernel_rfl) (by kernel_rfl) (fun _ _ _ h=>h) hH0 (by rfl) ?_
                try simp only [Act.put,sT,sZ,sS]
                refine zD (i:=43) (oi:=⟨some 254,_,_,_,_,_⟩) rfl (by kernel_rfl) (by kernel_rfl) (by kernel_rfl) (by kernel_rfl) (fun _ _ _ h=>h) hH0 (by rfl) ?_
                try simp only [Act.put,sT,sZ,sS]
                refine zD (i:=44) (oi:=⟨some 255,_,_,_,_,_⟩) rfl (by kernel_rfl) (by kernel_rfl) (by kernel_rfl) (by kernel_rfl) (fun _ _ _ h=>h) hH0 (by rfl) ?_
                try simp only [Act.put,sT,sZ,sS]
                refine zD (i:=45) (oi:=⟨some 256,_,_,_,_,_⟩) rfl (by kernel_rfl) (by kernel_rfl) (by kernel_rfl) (by kernel_rfl) (fun _ _ _ h=>h) hH0 (by rfl) ?_
                try simp only [Act.put,sT,sZ,sS]
                refine' tkR 46 257 hH0 ?o241
                refine zI (by kernel_rfl) ?_ _;go_wp2_with fail;go_roundg (S.V.length-(v+1))
                case measure=>omega
                case rel=>exact ⟨v+1,by omega,rfl,by go_num,Bf.trans (hH0.mono Bf.size)⟩
              case pos=>
               as_aux_lemma=>
                obtain ⟨hAeq,k,hk,hFk,hov⟩:=H3.out hte;subst hFk;subst hte;subst hAeq;obtain ⟨ao,cp,e1,-,-,hat⟩:=HS7.out.R.at;injection e1 with q1 q2 q3;obtain ⟨bR,oR,⟨aA,nA,cA,aE,nE,cE⟩,hbR,yR7,hrat,hru⟩:=hat k hk;rw [hbR] at q1;subst q1;obtain ⟨r,hr⟩:=nmQ (S.R[k]);have hrm:r ∈ S.R:=(by rw [hr];exact List.getElem_mem hk);rw [<-hr] at hrat hru hov;obtain ⟨d0,d1,d2,d3,d4,d5⟩:=hrat
                dsimp only at d4 d5
                have HMO:=zG (fun (W:World) (hW:Below wf.heap.size wf W)=>vQ ((HS7.out.under Bf).under hW) ((hru.under Bf).under hW) (HOK.out.rules r hrm).1.1 v hlv (HFIT.out r hrm).2);rw [hov] at HMO
                dsimp only at HMO
                replace d0:=(Bf.cell (p:=⟨bR,oR+k*6,none⟩) yR7).trans d0
                replace d1:=(Bf.cell (p:=⟨bR,oR+k*6+1,none⟩) yR7).trans d1
                replace d2:=(Bf.cell (p:=⟨bR,oR+k*6+2,none⟩) yR7).trans d2
                replace d3:=(Bf.cell (p:=⟨bR,oR+k*6+3,none⟩) yR7).trans d3
                replace d4:=(Bf.cell (p:=⟨bR,oR+k*6+4,none⟩) yR7).trans d4
                replace d5:=(Bf.cell (p:=⟨bR,oR+k*6+5,none⟩) yR7).trans d5
                have yR:=Nat.lt_of_lt_of_le yR7 Bf.size;clear H3 hat q2 q3 hbR hr hrm hov hru h1 h2;go_upto_region 37 with fail;refine zK (fun w'=>Below wf.heap.size wf w') (fun _=>false) (by kernel_rfl) ?_;have hH0:Below wf.heap.size wf wf.drew:=(Below.refl _ _).drew;generalize wf.drew=wd0 at hH0 ⊢;refine' tkR 0 211 hH0 ?o242
                refine' tkR 1 212 hH0 ?o243
                refine' tkR 2 213 hH0 ?o244
                refine' tkR 3 214 hH0 ?o245
                refine' tkQ 4 215 hH0 ?hyv ?o246
                case hyv=>
                 intro wz hSw;have zc10:=(hSw.cell (p:=⟨bL,oL+v*2+1,none⟩) yL).trans cTv;go_simp
                 try rfl
                try simp only [Act.put,sT,sZ,sS]
                refine' tkR 5 216 hH0 ?o247
                refine' tkR 6 217 hH0 ?o248
                refine' tkR 7 218 hH0 ?o249
                refine' tkR 8 219 hH0 ?o250
                refine' tkQ 9 220 hH0 ?hyv ?o251
                case hyv=>
                 intro wz hSw;have zc7:=(hSw.cell (p:=⟨bL,oL+u*2,none⟩) yL).trans cFu;go_simp
                 try rfl
                try simp only [Act.put,sT,sZ,sS]
                refine' zM (i:=10) (oi:=⟨some 221,_,_,_,_,_⟩) (v:=.bool true) rfl (by kernel_rfl) (by kernel_rfl) (by kernel_rfl) (by kernel_rfl) (fun _ _ _ h=>h) hH0 (by rfl) ?hyv ?o252
                case hyv=>
                 intro wz hSw;go_simp
                 try simp
                 try omega
                try simp only [Act.put,sT,sZ,sS]
                refine' tkR 11 222 hH0 ?o253
                refine' tkR 12 223 hH0 ?o254
                refine' tkQ 13 224 hH0 ?hyv ?o255
                case hyv=>
                 intro wz hSw;have zc4:=(hSw.cell (p:=⟨w4.heap.size,0,none⟩) yP).trans p0;go_simp
                 try rfl
                try simp only [Act.put,sT,sZ,sS]
                refine' tkR 14 225 hH0 ?o256
                refine' tkR 15 226 hH0 ?o257
                refine' tkQ 16 227 hH0 ?hyv ?o258
                case hyv=>
                 intro wz hSw;have zc6:=(hSw.cell (p:=⟨ga,v,none⟩) yA).trans cAv;go_simp
                 try rfl
                try simp only [Act.put,sT,sZ,sS]
                refine' tkR 17 228 hH0 ?o259
                refine' tkQ 18 229 hH0 ?hyv ?o260
                case hyv=>
                 intro wz hSw;have zc4:=(hSw.cell (p:=⟨w4.heap.size,0,none⟩) yP).trans p0;go_simp
                 try rfl
                try simp only [Act.put,sT,sZ,sS]
                refine' tkR 19 230 hH0 ?o261
                refine' tkR 20 231 hH0 ?o262
                refine' tkQ 21 232 hH0 ?hyv ?o263
                case hyv=>
                 intro wz hSw;have zc5:=(hSw.cell (p:=⟨ga,u,none⟩) yA).trans cAu;go_simp
                 try rfl
                try simp only [Act.put,sT,sZ,sS]
                refine' zM (i:=22) (oi:=⟨some 233,_,_,_,_,_⟩) (v:=.bool false) rfl (by kernel_rfl) (by kernel_rfl) (by kernel_rfl) (by kernel_rfl) (fun _ _ _ h=>h) hH0 (by rfl) ?hyv ?o264
                case hyv=>
                 intro wz hSw;go_simp
                 try simp
                 try omega
                try simp only [Act.put,sT,sZ,sS]
                refine' tkR 23 234 hH0 ?o265
                refine' tkR 24 235 hH0 ?o266
                refine' tkR 25 236 hH0 ?o267
                refine' tkR 26 237 hH0 ?o268
                refine' tkR 27 238 hH0 ?o269
                refine' tkQ 28 239 hH0 ?hyv ?o270
                case hyv=>
                 intro wz hSw;have zc7:=(hSw.cell (p:=⟨bL,oL+u*2,none⟩) yL).trans cFu;go_simp
                 try rfl
                try simp only [Act.put,sT,sZ,sS]
                refine' zM (i:=29) (oi:=⟨some 240,_,_,_,_,_⟩) (v:=.bool false) rfl (by kernel_rfl) (by kernel_rfl) (by kernel_rfl) (by kernel_rfl) (fun _ _ _ h=>h) hH0 (by rfl) ?hyv ?o271
                case hyv=>
                 intro wz hSw;go_simp
                 try simp
                 try omega
                try simp only [Act.put,sT,sZ,sS]
                refine' tkR 30 241 hH0 ?o272
                refine' tkR 31 242 hH0 ?o273
                refine' tkQ 32 243 hH0 ?hyv ?o274
                case hyv=>
                 intro wz hSw;have zc0:=(hSw.cell (p:=⟨w.heap.size,0,none⟩) yS).trans s0;have zc1:=(hSw.cell (p:=⟨w.heap.size,1,none⟩) yS).trans s1;have zc2:=(hSw.cell (p:=⟨w.heap.size,2,none⟩) yS).trans s2;have zc3:=(hSw.cell (p:=⟨w.heap.size,3,none⟩) yS).trans s3;go_simp
                 try rfl
                try simp only [Act.put,sT,sZ,sS]
                refine' tkR 33 244 hH0 ?o275
                refine' tkQ 34 245 hH0 ?hyv ?o276
                case hyv=>
                 intro wz hSw;have zc3:=(hSw.cell (p:=⟨w.heap.size,3,none⟩) yS).trans s3;go_simp
                 try rfl
                try simp only [Act.put,sT,sZ,sS]
                refine' tkR 35 246 hH0 ?o277
                refine' tkR 36 247 hH0 ?o278
                refine' tkR 37 248 hH0 ?o279
                refine' tkR 38 249 hH0 ?o280
                refine' tkQ 39 250 hH0 ?hyv ?o281
                case hyv=>
                 intro wz hSw;have zc7:=(hSw.cell (p:=⟨bL,oL+u*2,none⟩) yL).trans cFu;go_simp
                 try rfl
                try simp only [Act.put,sT,sZ,sS]
                refine' tkR 40 251 hH0 ?o282
                refine' tkQ 41 252 hH0 ?hyv ?o283
                case hyv=>
                 intro wz hSw;have zc11:=(hSw.cell (p:=⟨bR,oR+k*6,none⟩) yR).trans d0;have zc12:=(hSw.cell (p:=⟨bR,oR+k*6+1,none⟩) yR).trans d1;have zc13:=(hSw.cell (p:=⟨bR,oR+k*6+2,none⟩) yR).trans d2;have zc14:=(hSw.cell (p:=⟨bR,oR+k*6+3,none⟩) yR).trans d3;have zc15:=(hSw.cell (p:=⟨bR,oR+k*6+4,none⟩) yR).trans d4;have zc16:=(hSw.cell (p:=⟨bR,oR+k*6+5,none⟩) yR).trans d5;go_simp
                 try rfl
                try simp only [Act.put,sT,sZ,sS]
                refine' tkR 42 253 hH0 ?o284
                refine tnQ 43 (fun K hK=>?_);go_simp;refine (HMO.out wd0 hH0).mono ?_;rintro eq wd1 ⟨rfl,bq1⟩;have hH1:Below wf.heap.size wf wd1:=hH0.trans (bq1.mono hH0.size);refine hK.out _ _ (fun _=>hH1) ?_;clear hK K
                try simp only [Act.put,sT,sZ,sS]
                refine' tkR 44 255 hH1 ?o285
                refine' tkR 45 256 hH1 ?o286
                refine' tkR 46 257 hH1 ?o287
                refine zI (by kernel_rfl) ?_ _;go_wp2_with fail;go_roundg (S.V.length-(v+1))
                case measure=>omega
                case rel=>exact ⟨v+1,by omega,rfl,by go_num,Bf.trans (hH1.mono Bf.size)⟩
end Go.Proofs.YtegakbobaecdlaaGreatDoor
