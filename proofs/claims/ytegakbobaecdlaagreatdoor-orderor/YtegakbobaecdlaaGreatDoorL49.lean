import Derived.Test.YtegakbobaecdlaaGreatDoorL48
import Derived.Test.YtegakbobaecdlaaGreatDoorL38
set_option linter.unusedVariables false
set_option linter.unusedSimpArgs false
set_option maxHeartbeats 64000000
set_option maxRecDepth 100000
namespace Go.Proofs.YtegakbobaecdlaaGreatDoor
open Go.RowKit Go.IntWalk
def SortB (w:World) (S:Sk.Sys) (e:Ending) (w':World):Prop :=
 ((Sk.sortF S).1≠0/\e=.returned (.tuple #[.agg #[.slice none 0 0,.slice none 0 0,.slice none 0 0,.slice none 0 0],.agg #[.int .i64 (Sk.sortF S).1,.int .i64 (Sk.sortF S).2]])/\Below w.heap.size w w') \/
 ((Sk.turns S).2.2=[]/\∃ T pV pI pO pR qV qI qO qR,T=Sk.sortS S/\e=.returned (.tuple #[.agg #[.slice pV T.V.length qV,.slice pI T.I.length qI,.slice pO T.O.length qO,.slice pR T.R.length qR],.agg #[.int .i64 0,.int .i64 0]])/\HSys (fun i=>w.heap.size<=i) w' pV pI pO pR qV qI qO qR T/\Below w.heap.size w w')
theorem sortB_any {ok:Nat->Prop} {w:World} {aV aI aO aR:Option Addr} {cV cI cO cR:Nat} {S:Sk.Sys} (hG:GlobK w) (hP:GlobP w) (hS:HSys ok w aV aI aO aR cV cI cO cR S) (hfit:∀ r ∈ S.R,r.A.length<=1000000/\r.E.length<=1000000):Calls Tryz.prog 10 #[.agg #[.slice aV S.V.length cV,.slice aI S.I.length cI,.slice aO S.O.length cO,.slice aR S.R.length cR]] w (SortB w S):=by
 refine (sort_any2 hG hP hS hfit).mono ?_;rintro e w' (⟨hc,rfl,b⟩ | ⟨hz,okay,htl,eV,eI,eO,eR,gV,gI,gO,gR,rfl,hT,b⟩)
 ·exact .inl ⟨hc,rfl,b⟩
 ·have hl:(Sk.turns S).1.length=(Sk.sortS S).R.length:=by unfold Sk.sortS;simp
  rw [hl];exact .inr ⟨htl,Sk.sortS S,eV,eI,eO,eR,gV,gI,gO,gR,rfl,rfl,hT,b⟩
theorem round_goes {S:Sk.Sys} (okay:Sk.Okay S) {way:List Nat} {k:Nat} {hk:k<way.length} (h:Sk.WayAt S (Sk.turns S).2.2 way way[k]):Sk.Goes S (way.drop k) :=
 h.goes (fun j hj=>(Sk.turns_taken okay (Sk.needs_in okay)).lt hj) hk rfl
theorem sortF_round {S:Sk.Sys} (okay:Sk.Okay S) (h:(Sk.sortF S).1≠0):(Sk.turns S).2.2≠[]/\(Sk.sortF S).1=15:=by
 have hn:(Sk.turns S).2.2≠[]:=fun e=>h ((Sk.sortF_zero S).2 ⟨okay,e⟩);refine ⟨hn,?_⟩;have hc:=(Sk.check_zero S).2 okay;unfold Sk.sortF;rw [if_neg (by rw [hc];simp)]
 cases e:(Sk.turns S).2.2 with
 | nil=>exact absurd e hn
 | cons j r=>rfl
theorem nI_at {l:List Nat} {i:Nat} (h:i<l.length) {h2:i<(nI l).length}:(nI l)[i]=((l[i]:Nat):Int):=jM l i h2
theorem getD_get {S:Sk.Sys} {j:Nat} (h:j<S.R.length):S.R.getD j Sk.noRu=S.R[j]:=by simp [List.getD_eq_getElem?_getD,h]
theorem filter_take {l:List Sk.Ru} {k:Nat} (h:k<l.length) (p:Sk.Ru->Bool):((l.take (k+1)).filter p).length=((l.take k).filter p).length+(if p l[k]=true then 1 else 0):=by
 rw [List.take_succ_eq_append_getElem h,List.filter_append,List.length_append]
 congr 1
 cases hp:p l[k]<;>simp [hp]
theorem orderOr_walk {ok:Nat->Prop} {w:World} {aV aI aO aR:Option Addr} {cV cI cO cR:Nat} {S:Sk.Sys} (hG:GlobK w) (hP:GlobP w) (hS:HSys ok w aV aI aO aR cV cI cO cR S) :
  Calls Tryz.prog 3 #[.agg #[.slice aV S.V.length cV,.slice aI S.I.length cI,.slice aO S.O.length cO,.slice aR S.R.length cR]] w fun e w'=>e=.returned (.bool true)/\Below w.heap.size w w':=by
 obtain ⟨aoR,capR,evR,hcR1,hcR2,-⟩:=hS.R.at;injection evR with g1 g2 g3;rw [<-g3] at hcR1 hcR2;unfold maxLen at hcR2;have b0:Below w.heap.size w (w.alloc (.cells #[.slice aV S.V.length cV,.slice aI S.I.length cI,.slice aO S.O.length cO,.slice aR S.R.length cR] 26 (0,0))):=(Below.refl _ _).alloc zM _;have kS:=zI w (.cells #[.slice aV S.V.length cV,.slice aI S.I.length cI,.slice aO S.O.length cO,.slice aR S.R.length cR] 26 (0,0));have HB0:=zE b0;have HBEG:=zE (zAC (hG.under b0) (hP.under b0));have HS:=zE (fun (W:World) (hb:Below w.heap.size w W)=>hS.under hb);have HGP:=zE (fun (W:World) (hb:Below w.heap.size w W)=>And.intro (hG.under hb) (hP.under hb));clear hG hP hS b0 g1 g2 g3;go_enter Tryz.func3,Tryz.ntmps3;go_upto_region 1 with fail;generalize w.alloc (.cells #[.slice aV S.V.length cV,.slice aI S.I.length cI,.slice aO S.O.length cO,.slice aR S.R.length cR] 26 (0,0))=w0 at kS HB0 HBEG ⊢;have yS:=zG kS;have HK:=zE kS;clear kS;go_wp2_with fail;refine HBEG.out.mono ?_;rintro e w1 ⟨rfl,C1⟩;clear HBEG;have kS:=(C1.block _ yS).trans HK.out;have k0:=coQ kS 0;have k1:=coQ kS 1;have k2:=coQ kS 2;have k3:=coQ kS 3;simp at k0 k1 k2 k3;go_wp2_with fail;refine (great8_any (HS.out _ (HB0.out.trans (C1.mono HB0.out.size)))).mono ?_;rintro e w2 ⟨bg,rfl,hfew,b2⟩;clear kS k0 k1 k2 k3;have C2:=C1.trans (b2.mono C1.size);clear b2;have kS:=(C2.block _ yS).trans HK.out;have k0:=coQ kS 0;have k1:=coQ kS 1;have k2:=coQ kS 2;have k3:=coQ kS 3;simp at k0 k1 k2 k3
 cases bg
 case true=>
  go_wp2;go_ret;exact ⟨rfl,HB0.out.trans (C2.mono HB0.out.size)⟩
 have HFEW:=zE (hfew rfl).2;obtain ⟨lV,lI,lO,lR⟩:=(hfew rfl).1;clear hfew;have HFIT:=zE (show ∀ r ∈ S.R,r.A.length<=1000000/\r.E.length<=1000000 from fun r hr=>by have:=HFEW.out r hr;omega);clear HFEW;have HSF:=zE (zAs (HS.out _ (HB0.out.trans (C2.mono HB0.out.size))) HFIT.out);go_wp2_with fail;refine HSF.out.mono ?_;rintro e w3 ⟨fc,fa,rfl,hok,b3⟩;have HOK0:=zE hok;clear HSF kS k0 k1 k2 k3 hok;have C3:=C2.trans (b3.mono C2.size);clear b3;have hfl:(Instr.field 30 (.agg #[.int .i64 fc,.int .i64 fa]) 0).run Tryz.prog w3=.ok (.int .i64 fc) w3:=(by kernel_rfl);by_cases hfc:fc=0
 case neg=>
  have hfb:(fc != 0)=true:=(by simp [hfc]);go_wp2;go_ret;exact ⟨rfl,HB0.out.trans (C3.mono HB0.out.size)⟩
 subst hfc;have HOK:=zE (HOK0.out rfl);clear C1 C2 HOK0;go_upto_region 5 with fail;clear hfl;have HSO:=zE (fun (W:World) (hb:Below w.heap.size w W)=>sortB_any (HGP.out W hb).1 (HGP.out W hb).2 (HS.out W hb) HFIT.out);have HRO:=zE (fun (W:World) (hb:Below w.heap.size w W)=>zBA (HGP.out W hb).1 (HGP.out W hb).2 (HS.out W hb) HFIT.out HOK.out);have kS:=(C3.block _ yS).trans HK.out;have k0:=coQ kS 0;have k1:=coQ kS 1;have k2:=coQ kS 2;have k3:=coQ kS 3;simp at k0 k1 k2 k3;go_wp2_with fail;refine (HSO.out _ (HB0.out.trans (C3.mono HB0.out.size))).mono ?_;clear kS k0 k1 k2 k3 HSO;rintro e w4 (⟨hc,rfl,b4⟩ | ⟨htl,T,pV,pI,pO,pR,qV,qI,qO,qR,hTS,rfl,hT,b4⟩)
 case inl=>
  have C4:=C3.trans (b4.mono C3.size);have b5:Below w4.heap.size w4 ((w4.alloc (.cells #[.slice none 0 0,.slice none 0 0,.slice none 0 0,.slice none 0 0] 26 (0,0))).alloc (.cells #[.int .i64 (Sk.sortF S).1,.int .i64 (Sk.sortF S).2] 30 (0,0))):=((Below.refl _ _).alloc zM _).alloc (by simp) _;have kA:((w4.alloc (.cells #[.slice none 0 0,.slice none 0 0,.slice none 0 0,.slice none 0 0] 26 (0,0))).alloc (.cells #[.int .i64 (Sk.sortF S).1,.int .i64 (Sk.sortF S).2] 30 (0,0))).heap[w4.heap.size]?=some (.cells #[.slice none 0 0,.slice none 0 0,.slice none 0 0,.slice none 0 0] 26 (0,0)):=(Below.heap_alloc _ _ _ (by simp)).trans (zI w4 _);have kF:((w4.alloc (.cells #[.slice none 0 0,.slice none 0 0,.slice none 0 0,.slice none 0 0] 26 (0,0))).alloc (.cells #[.int .i64 (Sk.sortF S).1,.int .i64 (Sk.sortF S).2] 30 (0,0))).heap[w4.heap.size+1]?=some (.cells #[.int .i64 (Sk.sortF S).1,.int .i64 (Sk.sortF S).2] 30 (0,0)):=by
   have h7:=zI (w4.alloc (.cells #[.slice none 0 0,.slice none 0 0,.slice none 0 0,.slice none 0 0] 26 (0,0))) (.cells #[.int .i64 (Sk.sortF S).1,.int .i64 (Sk.sortF S).2] 30 (0,0));have h8:((w4.alloc (.cells #[.slice none 0 0,.slice none 0 0,.slice none 0 0,.slice none 0 0] 26 (0,0))).alloc (.cells #[.int .i64 (Sk.sortF S).1,.int .i64 (Sk.sortF S).2] 30 (0,0))).heap[w4.heap.size+1]?=some (.cells #[.int .i64 (Sk.sortF S).1,.int .i64 (Sk.sortF S).2] 30 (0,0)):=(by simpa using h7);exact h8
  have C5:=C4.trans (b5.mono C4.size);go_upto_region 6 with fail
  skip
  generalize (w4.alloc (.cells #[.slice none 0 0,.slice none 0 0,.slice none 0 0,.slice none 0 0] 26 (0,0))).alloc (.cells #[.int .i64 (Sk.sortF S).1,.int .i64 (Sk.sortF S).2] 30 (0,0))=w5 at b5 kA kF C5  ⊢;have kS:=(C5.block _ yS).trans HK.out;have k0:=coQ kS 0;have k1:=coQ kS 1;have k2:=coQ kS 2;have k3:=coQ kS 3;simp at k0 k1 k2 k3;go_wp2_with fail;refine (HRO.out _ (HB0.out.trans (C5.mono HB0.out.size))).mono ?_;clear kS k0 k1 k2 k3 HRO;rintro e w6 ⟨l,v,rfl,hl,hl0,hl1,b6⟩;have b7:Below w6.heap.size w6 (w6.alloc (.cells #[.int .i64 0,.int .i64 0] 30 (0,0))):=(Below.refl _ _).alloc zM _;have kG:=zI w6 (.cells #[.int .i64 0,.int .i64 0] 30 (0,0));have d7:=b6.trans (b7.mono b6.size);have kA7:=(d7.block _ (zG kA)).trans kA;have kF7:=(d7.block _ (zG kF)).trans kF;have C7:=C5.trans (d7.mono C5.size);have hl7:=(HInts.under hl b7).wide (ok':=fun j=>j<(w6.alloc (.cells #[.int .i64 0,.int .i64 0] 30 (0,0))).heap.size) fun j _ h=>h;have hsr:=sortF_round HOK.out hc;obtain ⟨way,k,hk,hlw,hway⟩:=hl1 hsr.1;have HGO:=zE (show Sk.Goes S l by rw [hlw];exact round_goes HOK.out hway);have hlp:=HGO.out.some;have hfc:=hsr.2;generalize (Sk.sortF S).1=sf at kF7 hfc;generalize (Sk.sortF S).2=sg at kF7;subst hfc;clear hl0 hl1 hlw hway hk hl kA kF hsr hc b4 b5 b6;go_upto_region 7 with fail;generalize w6.alloc (.cells #[.int .i64 0,.int .i64 0] 30 (0,0))=w7 at b7 kG d7 kA7 kF7 C7 hl7 ⊢;clear b7 d7;obtain ⟨va,vc,rfl,hv1,hv2,-⟩:=hl7.at;unfold maxLen at hv2;have HLI:=zE hl7;have hnl:(nI l).length=l.length:=(by unfold nI;simp);rw [hnl] at HLI hv1 ⊢;clear hl7;obtain ⟨ln,hln⟩:=nmQ (l.length);rw [<-hln] at HLI hv1 hlp ⊢;have HLN:=zE hln;clear hln hnl;have f0:=coQ kF7 0;have g0:=coQ kG 0;simp at f0 g0;have hl0b:((ln:Int)==0)=false:=(by simp;omega);go_wp2_with fail;clear f0 g0 hl0b;have yA7:=zG kA7;have yF7:=zG kF7;go_loopg [7] ln (fun kk v7 wr=>∃ (i:Nat),i<=ln/\kk=ln-i/\v7=.int .i64 (i:Nat)/\Below w7.heap.size w7 wr)
  case atStart=>exact ⟨0,Nat.zero_le _,rfl,rfl,Below.refl _ _⟩
  case round=>
   obtain ⟨i,hi,rfl,rfl,hbr⟩:=hrel;have Cr:=C7.trans (hbr.mono C7.size);have Br:=HB0.out.trans (Cr.mono HB0.out.size);by_cases hlt:i<ln
   case neg=>
    have f0:=coQ ((hbr.block _ yF7).trans kF7) 0;have t3:=coQ ((hbr.block _ yA7).trans kA7) 3;simp at f0 t3;go_wp2;go_ret;exact ⟨rfl,Br⟩
   case pos=>
    have hil:i<l.length:=(by have:=HLN.out;omega);have h0l:0<l.length:=(by omega);obtain ⟨ao,cp,e1,-,-,hat⟩:=(HLI.out.under hbr).at;injection e1 with z1 z2 z3;have hnl:(nI l).length=l.length:=(by unfold nI;simp);obtain ⟨bl,ol,hbl,yl,xi⟩:=hat i (by omega);obtain ⟨bl0,ol0,hbl0,yl0,x0⟩:=hat 0 (by omega);rw [hbl] at hbl0;injection hbl0 with hbl0;injection hbl0 with z4 z5;subst z4 z5;rw [hbl] at z1;subst z1;rw [nI_at hil] at xi;rw [nI_at h0l] at x0
    replace x0:wr.cell? ⟨bl,ol,none⟩=some (.int .i64 ((l[0]:Nat):Int)):=x0
    have hj:=HGO.out.lt l[i] (List.getElem_mem hil);obtain ⟨ao4,cp4,e4,-,-,hat4⟩:=(HS.out _ Br).R.at;injection e4 with q4 q5 q6;obtain ⟨bR,oR,y,hbR,yR,hrat,hru⟩:=hat4 l[i] hj;rw [hbR] at q4;subst q4;have hft:=HFIT.out S.R[l[i]] (List.getElem_mem hj);have HND:=zE (fun (W:World) (hW:Below wr.heap.size wr W)=>needs_any (hru.under hW) hft.1 hft.2);have hnx:∀ b,b<S.R.length->Sk.Nx S l[i] b->(Sk.needs S.R[l[i]]).any (fun z=>z==(S.R.getD b Sk.noRu).out)=true:=fun b _ h=>qY.2 (by unfold Sk.Nx at h;rw [getD_get hj] at h;exact h);have HNX:=zE hnx;have kSr:=(Cr.block _ yS).trans HK.out;have s3:=coQ kSr 3;simp at s3;have yS2:=zG kSr;have HOUT:=zE (fun b (hb:b<S.R.length)=>(show wr.cell? ⟨bR,oR+b*6+2,none⟩=some (.int .i64 (S.R.getD b Sk.noRu).out) by
     obtain ⟨b3,o3,y3,hb3,-,hr3,-⟩:=hat4 b hb;rw [hbR] at hb3;injection hb3 with hb3;injection hb3 with z6 z7;subst z6 z7;obtain ⟨-,-,d2,-,-,-⟩:=hr3;rw [getD_get hb];exact d2))
    obtain ⟨d0,d1,d2,d3,d4,d5⟩:=hrat;have HNXT:=zE (show ∀ (h:i+1<l.length),Sk.Nx S (l[i]'hil) (l[i+1]'h) from fun h=>HGO.out.next i h);have HBCK:=zE (show ∀ (h:l.length-1=i),Sk.Nx S l[i] l[0] from fun h=>by
     have h2:=HGO.out.back;have e:l[l.length-1]'(by omega)=l[i]:=(by congr 1);rw [e] at h2;exact h2)
    have HLT:=zE HGO.out.lt;generalize hjj:l[i]=j at *;generalize S.R[j]=r at d0 d1 d2 d3 d4 d5 HND HNX hru hft hnx;obtain ⟨op,kk,out,x,A,E⟩:=r;obtain ⟨aA,nA,cA,aE,nE,cE⟩:=y
    dsimp only at d0 d1 d2 d3 d4 d5
    clear hat hat4 z2 z3 q5 q6 hbl hbR hru hft hnx hnl;by_cases hnx1:i+1<ln
    case pos=>
     have h1l:i+1<l.length:=(by have:=HLN.out;omega);obtain ⟨ao5,cp5,e5,-,-,hat5⟩:=(HLI.out.under hbr).at;injection e5 with z1 z2 z3;obtain ⟨bl1,ol1,hbl1,yl1,x1⟩:=hat5 (i+1) (by unfold nI;simp;omega);rw [hbl1] at z1;injection z1 with z1;injection z1 with z4 z5;subst z4 z5;rw [nI_at h1l] at x1;have hkb:=HLT.out l[i+1] (List.getElem_mem h1l);have hkn:=HNXT.out h1l;generalize l[i+1]=b at x1 hkb hkn;have hx1b:(i:Int)+1<(ln:Int):=(by omega);clear hat5 z2 z3 hbl1;have HKB:=zE (HOUT.out b hkb);have hko:=HNX.out b hkb (hkn);have hkc:=HKB.out;generalize (S.R.getD b Sk.noRu).out=ou at hko hkc;have HIN:=zE (fun (ok2:Nat->Prop) (W:World) (v:Value) (h:HInts ok2 W v (Sk.needs ⟨op,kk,out,x,A,E⟩))=>xT ou h);rw [hko] at HIN;clear HKB hko HOUT HNX;go_upto_region 15 with fail;refine zK (fun w'=>Below wr.heap.size wr w') (fun _=>false) (by kernel_rfl) ?_;have hH0:Below wr.heap.size wr wr.drew:=(Below.refl _ _).drew;generalize wr.drew=wd0 at hH0 ⊢;refine' tkR 0 65 hH0 ?o1
     refine' tkQ 1 66 hH0 ?hyv ?o2
     case hyv=>
      intro wz hSw;have zc0:=(hSw.cell (p:=⟨w.heap.size,3,none⟩) yS2).trans s3;have zc1:=(hSw.cell (p:=⟨bl,ol+i,none⟩) yl).trans xi;have zc2:=(hSw.cell (p:=⟨bR,oR+j*6,none⟩) yR).trans d0;have zc3:=(hSw.cell (p:=⟨bR,oR+j*6+1,none⟩) yR).trans d1;have zc4:=(hSw.cell (p:=⟨bR,oR+j*6+2,none⟩) yR).trans d2;have zc5:=(hSw.cell (p:=⟨bR,oR+j*6+3,none⟩) yR).trans d3;have zc6:=(hSw.cell (p:=⟨bR,oR+j*6+4,none⟩) yR).trans d4;have zc7:=(hSw.cell (p:=⟨bR,oR+j*6+5,none⟩) yR).trans d5;have zc8:=(hSw.cell (p:=⟨bR,oR+b*6+2,none⟩) yR).trans hkc;go_simp
      try rfl
     try simp only [Act.put,sT,sZ,sS]
     refine' tkR 2 67 hH0 ?o3
     refine' tkR 3 68 hH0 ?o4
     refine' tkR 4 69 hH0 ?o5
     refine' tkQ 5 70 hH0 ?hyv ?o6
     case hyv=>
      intro wz hSw;have zc0:=(hSw.cell (p:=⟨w.heap.size,3,none⟩) yS2).trans s3;have zc1:=(hSw.cell (p:=⟨bl,ol+i,none⟩) yl).trans xi;have zc2:=(hSw.cell (p:=⟨bR,oR+j*6,none⟩) yR).trans d0;have zc3:=(hSw.cell (p:=⟨bR,oR+j*6+1,none⟩) yR).trans d1;have zc4:=(hSw.cell (p:=⟨bR,oR+j*6+2,none⟩) yR).trans d2;have zc5:=(hSw.cell (p:=⟨bR,oR+j*6+3,none⟩) yR).trans d3;have zc6:=(hSw.cell (p:=⟨bR,oR+j*6+4,none⟩) yR).trans d4;have zc7:=(hSw.cell (p:=⟨bR,oR+j*6+5,none⟩) yR).trans d5;have zc8:=(hSw.cell (p:=⟨bR,oR+b*6+2,none⟩) yR).trans hkc;go_simp
      try rfl
     try simp only [Act.put,sT,sZ,sS]
     refine' tkR 6 71 hH0 ?o7
     refine' tkQ 7 72 hH0 ?hyv ?o8
     case hyv=>
      intro wz hSw;have zc0:=(hSw.cell (p:=⟨w.heap.size,3,none⟩) yS2).trans s3;have zc1:=(hSw.cell (p:=⟨bl,ol+i,none⟩) yl).trans xi;have zc2:=(hSw.cell (p:=⟨bR,oR+j*6,none⟩) yR).trans d0;have zc3:=(hSw.cell (p:=⟨bR,oR+j*6+1,none⟩) yR).trans d1;have zc4:=(hSw.cell (p:=⟨bR,oR+j*6+2,none⟩) yR).trans d2;have zc5:=(hSw.cell (p:=⟨bR,oR+j*6+3,none⟩) yR).trans d3;have zc6:=(hSw.cell (p:=⟨bR,oR+j*6+4,none⟩) yR).trans d4;have zc7:=(hSw.cell (p:=⟨bR,oR+j*6+5,none⟩) yR).trans d5;have zc8:=(hSw.cell (p:=⟨bR,oR+b*6+2,none⟩) yR).trans hkc;go_simp
      try rfl
     try simp only [Act.put,sT,sZ,sS]
     refine' tkR 9 74 hH0 ?o9
     refine' tkQ 10 75 hH0 ?hyv ?o10
     case hyv=>
      intro wz hSw;have zc0:=(hSw.cell (p:=⟨w.heap.size,3,none⟩) yS2).trans s3;have zc1:=(hSw.cell (p:=⟨bl,ol+i,none⟩) yl).trans xi;have zc2:=(hSw.cell (p:=⟨bR,oR+j*6,none⟩) yR).trans d0;have zc3:=(hSw.cell (p:=⟨bR,oR+j*6+1,none⟩) yR).trans d1;have zc4:=(hSw.cell (p:=⟨bR,oR+j*6+2,none⟩) yR).trans d2;have zc5:=(hSw.cell (p:=⟨bR,oR+j*6+3,none⟩) yR).trans d3;have zc6:=(hSw.cell (p:=⟨bR,oR+j*6+4,none⟩) yR).trans d4;have zc7:=(hSw.cell (p:=⟨bR,oR+j*6+5,none⟩) yR).trans d5;have zc8:=(hSw.cell (p:=⟨bR,oR+b*6+2,none⟩) yR).trans hkc;go_simp
      try rfl
     try simp only [Act.put,sT,sZ,sS]
     refine' tkR 11 76 hH0 ?o11
     refine' tkR 12 77 hH0 ?o12
     refine' tkR 13 78 hH0 ?o13
     refine' tkQ 14 79 hH0 ?hyv ?o14
     case hyv=>
      intro wz hSw;have zc0:=(hSw.cell (p:=⟨w.heap.size,3,none⟩) yS2).trans s3;have zc1:=(hSw.cell (p:=⟨bl,ol+i,none⟩) yl).trans xi;have zc2:=(hSw.cell (p:=⟨bR,oR+j*6,none⟩) yR).trans d0;have zc3:=(hSw.cell (p:=⟨bR,oR+j*6+1,none⟩) yR).trans d1;have zc4:=(hSw.cell (p:=⟨bR,oR+j*6+2,none⟩) yR).trans d2;have zc5:=(hSw.cell (p:=⟨bR,oR+j*6+3,none⟩) yR).trans d3;have zc6:=(hSw.cell (p:=⟨bR,oR+j*6+4,none⟩) yR).trans d4;have zc7:=(hSw.cell (p:=⟨bR,oR+j*6+5,none⟩) yR).trans d5;have zc8:=(hSw.cell (p:=⟨bR,oR+b*6+2,none⟩) yR).trans hkc;go_simp
      try rfl
     try simp only [Act.put,sT,sZ,sS]
     refine tnQ 8 (fun K hK=>?_);go_simp;refine (HND.out wd0 hH0).mono ?_;rintro eq wd1 ⟨nv1,rfl,hnv1,bq1⟩;have hH1:Below wr.heap.size wr wd1:=hH0.trans (bq1.mono hH0.size);refine hK.out _ _ (fun _=>hH1) ?_;clear hK K
     try simp only [Act.put,sT,sZ,sS]
     refine tnQ 15 (fun K hK=>?_);go_simp;refine (HIN.out _ wd1 _ hnv1).mono ?_;rintro eq wd2 ⟨rfl,bq2⟩;have hH2:Below wr.heap.size wr wd2:=hH1.trans (bq2.mono hH1.size);refine hK.out _ _ (fun _=>hH2) ?_;clear hK K
     try simp only [Act.put,sT,sZ,sS]
     refine' tkR 16 81 hH2 ?o15
     refine zH (by kernel_rfl) ?_ _;have BX:=hbr.trans (hH2.mono hbr.size);go_wp2_with fail;go_roundg (ln-(i+1))
     case measure=>omega
     case rel=>exact ⟨i+1,by omega,rfl,by go_num,BX⟩
    case neg=>
     have hkb:=HLT.out l[0] (List.getElem_mem h0l);have hkn:=HBCK.out (by have:=HLN.out;omega);generalize l[0]=b at x0 hkb hkn;have hx1b:¬(i:Int)+1<(ln:Int):=(by omega);have HKB:=zE (HOUT.out b hkb);have hko:=HNX.out b hkb (hkn);have hkc:=HKB.out;generalize (S.R.getD b Sk.noRu).out=ou at hko hkc;have HIN:=zE (fun (ok2:Nat->Prop) (W:World) (v:Value) (h:HInts ok2 W v (Sk.needs ⟨op,kk,out,x,A,E⟩))=>xT ou h);rw [hko] at HIN;clear HKB hko HOUT HNX;go_upto_region 15 with fail;refine zK (fun w'=>Below wr.heap.size wr w') (fun _=>false) (by kernel_rfl) ?_;have hH0:Below wr.heap.size wr wr.drew:=(Below.refl _ _).drew;generalize wr.drew=wd0 at hH0 ⊢;refine' tkR 0 65 hH0 ?o16
     refine' tkQ 1 66 hH0 ?hyv ?o17
     case hyv=>
      intro wz hSw;have zc0:=(hSw.cell (p:=⟨w.heap.size,3,none⟩) yS2).trans s3;have zc1:=(hSw.cell (p:=⟨bl,ol+i,none⟩) yl).trans xi;have zc2:=(hSw.cell (p:=⟨bR,oR+j*6,none⟩) yR).trans d0;have zc3:=(hSw.cell (p:=⟨bR,oR+j*6+1,none⟩) yR).trans d1;have zc4:=(hSw.cell (p:=⟨bR,oR+j*6+2,none⟩) yR).trans d2;have zc5:=(hSw.cell (p:=⟨bR,oR+j*6+3,none⟩) yR).trans d3;have zc6:=(hSw.cell (p:=⟨bR,oR+j*6+4,none⟩) yR).trans d4;have zc7:=(hSw.cell (p:=⟨bR,oR+j*6+5,none⟩) yR).trans d5;have zc8:=(hSw.cell (p:=⟨bR,oR+b*6+2,none⟩) yR).trans hkc;go_simp
      try rfl
     try simp only [Act.put,sT,sZ,sS]
     refine' tkR 2 67 hH0 ?o18
     refine' tkR 3 68 hH0 ?o19
     refine' tkR 4 69 hH0 ?o20
     refine' tkQ 5 70 hH0 ?hyv ?o21
     case hyv=>
      intro wz hSw;have zc0:=(hSw.cell (p:=⟨w.heap.size,3,none⟩) yS2).trans s3;have zc1:=(hSw.cell (p:=⟨bl,ol+i,none⟩) yl).trans xi;have zc2:=(hSw.cell (p:=⟨bR,oR+j*6,none⟩) yR).trans d0;have zc3:=(hSw.cell (p:=⟨bR,oR+j*6+1,none⟩) yR).trans d1;have zc4:=(hSw.cell (p:=⟨bR,oR+j*6+2,none⟩) yR).trans d2;have zc5:=(hSw.cell (p:=⟨bR,oR+j*6+3,none⟩) yR).trans d3;have zc6:=(hSw.cell (p:=⟨bR,oR+j*6+4,none⟩) yR).trans d4;have zc7:=(hSw.cell (p:=⟨bR,oR+j*6+5,none⟩) yR).trans d5;have zc8:=(hSw.cell (p:=⟨bR,oR+b*6+2,none⟩) yR).trans hkc;go_simp
      try rfl
     try simp only [Act.put,sT,sZ,sS]
     refine' tkR 6 71 hH0 ?o22
     refine' tkQ 7 72 hH0 ?hyv ?o23
     case hyv=>
      intro wz hSw;have zc0:=(hSw.cell (p:=⟨w.heap.size,3,none⟩) yS2).trans s3;have zc1:=(hSw.cell (p:=⟨bl,ol+i,none⟩) yl).trans xi;have zc2:=(hSw.cell (p:=⟨bR,oR+j*6,none⟩) yR).trans d0;have zc3:=(hSw.cell (p:=⟨bR,oR+j*6+1,none⟩) yR).trans d1;have zc4:=(hSw.cell (p:=⟨bR,oR+j*6+2,none⟩) yR).trans d2;have zc5:=(hSw.cell (p:=⟨bR,oR+j*6+3,none⟩) yR).trans d3;have zc6:=(hSw.cell (p:=⟨bR,oR+j*6+4,none⟩) yR).trans d4;have zc7:=(hSw.cell (p:=⟨bR,oR+j*6+5,none⟩) yR).trans d5;have zc8:=(hSw.cell (p:=⟨bR,oR+b*6+2,none⟩) yR).trans hkc;go_simp
      try rfl
     try simp only [Act.put,sT,sZ,sS]
     refine' tkR 9 74 hH0 ?o24
     refine' tkQ 10 75 hH0 ?hyv ?o25
     case hyv=>
      intro wz hSw;have zc0:=(hSw.cell (p:=⟨w.heap.size,3,none⟩) yS2).trans s3;have zc1:=(hSw.cell (p:=⟨bl,ol+i,none⟩) yl).trans xi;have zc2:=(hSw.cell (p:=⟨bR,oR+j*6,none⟩) yR).trans d0;have zc3:=(hSw.cell (p:=⟨bR,oR+j*6+1,none⟩) yR).trans d1;have zc4:=(hSw.cell (p:=⟨bR,oR+j*6+2,none⟩) yR).trans d2;have zc5:=(hSw.cell (p:=⟨bR,oR+j*6+3,none⟩) yR).trans d3;have zc6:=(hSw.cell (p:=⟨bR,oR+j*6+4,none⟩) yR).trans d4;have zc7:=(hSw.cell (p:=⟨bR,oR+j*6+5,none⟩) yR).trans d5;have zc8:=(hSw.cell (p:=⟨bR,oR+b*6+2,none⟩) yR).trans hkc;go_simp
      try rfl
     try simp only [Act.put,sT,sZ,sS]
     refine' tkR 11 76 hH0 ?o26
     refine' tkR 12 77 hH0 ?o27
     refine' tkR 13 78 hH0 ?o28
     refine' tkQ 14 79 hH0 ?hyv ?o29
     case hyv=>
      intro wz hSw;have zc0:=(hSw.cell (p:=⟨w.heap.size,3,none⟩) yS2).trans s3;have zc1:=(hSw.cell (p:=⟨bl,ol+i,none⟩) yl).trans xi;have zc2:=(hSw.cell (p:=⟨bR,oR+j*6,none⟩) yR).trans d0;have zc3:=(hSw.cell (p:=⟨bR,oR+j*6+1,none⟩) yR).trans d1;have zc4:=(hSw.cell (p:=⟨bR,oR+j*6+2,none⟩) yR).trans d2;have zc5:=(hSw.cell (p:=⟨bR,oR+j*6+3,none⟩) yR).trans d3;have zc6:=(hSw.cell (p:=⟨bR,oR+j*6+4,none⟩) yR).trans d4;have zc7:=(hSw.cell (p:=⟨bR,oR+j*6+5,none⟩) yR).trans d5;have zc8:=(hSw.cell (p:=⟨bR,oR+b*6+2,none⟩) yR).trans hkc;go_simp
      try rfl
     try simp only [Act.put,sT,sZ,sS]
     refine tnQ 8 (fun K hK=>?_);go_simp;refine (HND.out wd0 hH0).mono ?_;rintro eq wd1 ⟨nv1,rfl,hnv1,bq1⟩;have hH1:Below wr.heap.size wr wd1:=hH0.trans (bq1.mono hH0.size);refine hK.out _ _ (fun _=>hH1) ?_;clear hK K
     try simp only [Act.put,sT,sZ,sS]
     refine tnQ 15 (fun K hK=>?_);go_simp;refine (HIN.out _ wd1 _ hnv1).mono ?_;rintro eq wd2 ⟨rfl,bq2⟩;have hH2:Below wr.heap.size wr wd2:=hH1.trans (bq2.mono hH1.size);refine hK.out _ _ (fun _=>hH2) ?_;clear hK K
     try simp only [Act.put,sT,sZ,sS]
     refine' tkR 16 81 hH2 ?o30
     refine zH (by kernel_rfl) ?_ _;have BX:=hbr.trans (hH2.mono hbr.size);go_wp2_with fail;go_roundg (ln-(i+1))
     case measure=>omega
     case rel=>exact ⟨i+1,by omega,rfl,by go_num,BX⟩
 case inr=>
  have HTSS:=zE hTS;have HTL:=zE htl;clear hTS htl;have C4:=C3.trans (b4.mono C3.size);have b5:Below w4.heap.size w4 ((w4.alloc (.cells #[.slice pV T.V.length qV,.slice pI T.I.length qI,.slice pO T.O.length qO,.slice pR T.R.length qR] 26 (0,0))).alloc (.cells #[.int .i64 0,.int .i64 0] 30 (0,0))):=((Below.refl _ _).alloc zM _).alloc (by simp) _;have kA:((w4.alloc (.cells #[.slice pV T.V.length qV,.slice pI T.I.length qI,.slice pO T.O.length qO,.slice pR T.R.length qR] 26 (0,0))).alloc (.cells #[.int .i64 0,.int .i64 0] 30 (0,0))).heap[w4.heap.size]?=some (.cells #[.slice pV T.V.length qV,.slice pI T.I.length qI,.slice pO T.O.length qO,.slice pR T.R.length qR] 26 (0,0)):=(Below.heap_alloc _ _ _ (by simp)).trans (zI w4 _);have kF:((w4.alloc (.cells #[.slice pV T.V.length qV,.slice pI T.I.length qI,.slice pO T.O.length qO,.slice pR T.R.length qR] 26 (0,0))).alloc (.cells #[.int .i64 0,.int .i64 0] 30 (0,0))).heap[w4.heap.size+1]?=some (.cells #[.int .i64 0,.int .i64 0] 30 (0,0)):=by
   have h7:=zI (w4.alloc (.cells #[.slice pV T.V.length qV,.slice pI T.I.length qI,.slice pO T.O.length qO,.slice pR T.R.length qR] 26 (0,0))) (.cells #[.int .i64 0,.int .i64 0] 30 (0,0));have h8:((w4.alloc (.cells #[.slice pV T.V.length qV,.slice pI T.I.length qI,.slice pO T.O.length qO,.slice pR T.R.length qR] 26 (0,0))).alloc (.cells #[.int .i64 0,.int .i64 0] 30 (0,0))).heap[w4.heap.size+1]?=some (.cells #[.int .i64 0,.int .i64 0] 30 (0,0)):=(by simpa using h7);exact h8
  have C5:=C4.trans (b5.mono C4.size);go_upto_region 6 with fail;have HT5:=zE (hT.under b5);generalize (w4.alloc (.cells #[.slice pV T.V.length qV,.slice pI T.I.length qI,.slice pO T.O.length qO,.slice pR T.R.length qR] 26 (0,0))).alloc (.cells #[.int .i64 0,.int .i64 0] 30 (0,0))=w5 at b5 kA kF C5 HT5 ⊢;have kS:=(C5.block _ yS).trans HK.out;have k0:=coQ kS 0;have k1:=coQ kS 1;have k2:=coQ kS 2;have k3:=coQ kS 3;simp at k0 k1 k2 k3;go_wp2_with fail;refine (HRO.out _ (HB0.out.trans (C5.mono HB0.out.size))).mono ?_;clear kS k0 k1 k2 k3 HRO;rintro e w6 ⟨l,v,rfl,hl,hl0,hl1,b6⟩;have b7:Below w6.heap.size w6 (w6.alloc (.cells #[.int .i64 0,.int .i64 0] 30 (0,0))):=(Below.refl _ _).alloc zM _;have kG:=zI w6 (.cells #[.int .i64 0,.int .i64 0] 30 (0,0));have d7:=b6.trans (b7.mono b6.size);have kA7:=(d7.block _ (zG kA)).trans kA;have kF7:=(d7.block _ (zG kF)).trans kF;have C7:=C5.trans (d7.mono C5.size);have hl7:=(HInts.under hl b7).wide (ok':=fun j=>j<(w6.alloc (.cells #[.int .i64 0,.int .i64 0] 30 (0,0))).heap.size) fun j _ h=>h;have hl2:=hl0 HTL.out;subst hl2;have HTOK:=zE (show Sk.Okay T by rw [HTSS.out];exact Sk.sort_okay HOK.out (Sk.needs_in HOK.out) HTL.out);have HTAH:=zE (show Sk.Ahead T by rw [HTSS.out];exact Sk.sort_ahead HOK.out (Sk.needs_in HOK.out) HTL.out);have hperm:S.R.Perm T.R:=(by rw [HTSS.out];exact Sk.sort_perm HOK.out (Sk.needs_in HOK.out) HTL.out);have HLEN:=zE (show T.R.length=S.R.length from hperm.length_eq.symm);have HTFIT:=zE (show ∀ r ∈ T.R,r.A.length<=1000000/\r.E.length<=1000000 from fun r hr=>HFIT.out r (hperm.mem_iff.2 hr));have HPM:=zE (fun r (hr:r ∈ S.R)=>hperm.mem_iff.1 hr);have HT7:=zE (HT5.out.under d7);have HGPT:=zE (fun (W:World) (hb:Below w.heap.size w W)=>HGP.out W hb);clear hl0 hl1 hl kA kF b4 b5 b6 hT hperm HT5;go_upto_region 7 with fail;generalize w6.alloc (.cells #[.int .i64 0,.int .i64 0] 30 (0,0))=w7 at b7 kG d7 kA7 kF7 C7 hl7 HT7 ⊢;clear b7 d7;obtain ⟨va,vc,rfl,hv1,hv2,-⟩:=hl7.at;clear hl7;rw [show (nI []).length=0 from rfl];have f0:=coQ kF7 0;have g0:=coQ kG 0;simp at f0 g0;go_wp2_with fail;go_loopg [7] 0 (fun kk v7 wr=>v7=.int .i64 0/\wr=w7)
  case atStart=>exact ⟨rfl,rfl⟩
  case round=>
   obtain ⟨rfl,rfl⟩:=hrel;have yA7:=zG kA7;have hTR:T.R.length<=400:=HTOK.out.nR;have HTS:=zE (fun (W:World) (hb:Below wr.heap.size wr W)=>HT7.out.under hb);have B7:=HB0.out.trans (C7.mono HB0.out.size);have HST:=zE (sorted14_any (HGPT.out _ B7).1 (HGPT.out _ B7).2 HT7.out HTFIT.out HTOK.out);have t0:=coQ kA7 0;have t1:=coQ kA7 1;have t2:=coQ kA7 2;have t3:=coQ kA7 3;have kSr:=(C7.block _ yS).trans HK.out;have s3:=coQ kSr 3;simp at t0 t1 t2 t3 s3;have hne:((T.R.length:Int) != (S.R.length:Int))=false:=(by simp [HLEN.out]);go_wp2_with fail;refine HST.out.mono ?_;rintro e w8 ⟨⟨q,rfl,hq,b8⟩⟩;have hqt:q=true:=hq.2 HTAH.out;subst hqt;clear HST hne t0 t1 t2 t3 s3 f0 g0 kSr hq;go_wp2_with fail;obtain ⟨w7,hw7⟩:=nmQ (wr);subst hw7;go_loopg [9] S.R.length (fun kk v9 wr=>∃ (i:Nat),i<=S.R.length/\kk=S.R.length-i/\v9=.int .i64 (i:Nat)/\Below w7.heap.size w7 wr)
   case atStart=>exact ⟨0,Nat.zero_le _,rfl,rfl,b8⟩
   case round=>
    clear b8;obtain ⟨i,hi,rfl,rfl,hbr⟩:=hrel;have Cr:=C7.trans (hbr.mono C7.size);have Br:=HB0.out.trans (Cr.mono HB0.out.size);have kSr:=(Cr.block _ yS).trans HK.out;have kAr:=(hbr.block _ yA7).trans kA7;have s3:=coQ kSr 3;simp at s3;by_cases hlt:i<S.R.length
    case pos=>
     have HON:=zE (Sk.once_of T.R HTOK.out.rulesN S.R[i] (HPM.out _ (List.getElem_mem hlt)));have HSO2:=zE (fun r (hr:r ∈ T.R) (e:S.R[i].out=r.out)=>Sk.same_out HTOK.out.rulesN (HPM.out _ (List.getElem_mem hlt)) hr e);go_wp2_with fail;go_loopg [10,11] T.R.length (fun kk v10 v11 wt=>∃ (k:Nat),k<=T.R.length/\kk=T.R.length-k/\v11=.int .i64 (k:Nat)/\v10=.int .i64 ((((T.R.take k).filter (fun t=>t.out==S.R[i].out)).length:Nat):Int)/\Below w7.heap.size w7 wt)
     case atStart=>exact ⟨0,Nat.zero_le _,rfl,rfl,rfl,hbr⟩
     case round=>
      clear hbr Cr Br kSr kAr s3;obtain ⟨k,hk,rfl,rfl,rfl,hbt⟩:=hrel;obtain ⟨wt,hwt⟩:=nmQ (wr);subst hwt;have Ct:=C7.trans (hbt.mono C7.size);have Bt:=HB0.out.trans (Ct.mono HB0.out.size);have kSt:=(Ct.block _ yS).trans HK.out;have kAt:=(hbt.block _ yA7).trans kA7;have s3:=coQ kSt 3;have t3:=coQ kAt 3;simp at s3 t3;have hnk:((T.R.take k).filter (fun t=>t.out==S.R[i].out)).length<=k:=by
       have h1:=List.length_filter_le (fun t=>t.out==S.R[i].out) (T.R.take k);rw [List.length_take] at h1;omega
      by_cases hkt:k<T.R.length
      case pos=>
       have HFT:=zE (filter_take hkt (fun t=>t.out==S.R[i].out));obtain ⟨nn,hnn⟩:=nmQ (((T.R.take k).filter (fun t=>t.out==S.R[i].out)).length);rw [<-hnn] at hnk HFT ⊢;obtain ⟨ao,cp,e1,-,-,hat⟩:=(HS.out _ Bt).R.at;injection e1 with z1 z2 z3;obtain ⟨bA,oA,y,hbA,yA,hrat,hru⟩:=hat i hlt;rw [hbA] at z1;subst z1;obtain ⟨ao4,cp4,e4,-,-,hat4⟩:=(HTS.out _ hbt).R.at;injection e4 with q4 q5 q6;obtain ⟨bB,oB,y',hbB,yB,hrat',hru'⟩:=hat4 k hkt;rw [hbB] at q4;subst q4;have hsame:=HSO2.out T.R[k] (List.getElem_mem hkt);have HCT:=zE (fun (W:World) (hW:Below wt.heap.size wt W)=>(show Calls Tryz.prog 15 #[.agg #[.int .i64 S.R[i].op,.int .i64 S.R[i].k,.int .i64 S.R[i].out,.int .i64 S.R[i].n,.slice y.aA y.nA y.cA,.slice y.aE y.nE y.cE],.agg #[.int .i64 T.R[k].op,.int .i64 T.R[k].k,.int .i64 T.R[k].out,.int .i64 T.R[k].n,.slice y'.aA y'.nA y'.cA,.slice y'.aE y'.nE y'.cE]] W (fun e W'=>e=.returned (.bool (T.R[k].out==S.R[i].out))/\Below W.heap.size W W') by
        by_cases ho:S.R[i].out=T.R[k].out
        ·have er:=hsame ho
         rw [show (T.R[k].out==S.R[i].out)=true by simp [ho]];have hu2:=hru'.under hW;rw [<-er] at hu2 ⊢;exact zAx _ _ _ _ (hru.under hW).A (hru.under hW).E hu2.A hu2.E
        ·rw [show (T.R[k].out==S.R[i].out)=false by simp;exact fun h=>ho h.symm]
         exact sameRule_ne W _ _ _ _ _ _ _ _ _ _ _ _ ho))
       obtain ⟨qq,hqq⟩:=nmQ ((T.R[k].out==S.R[i].out));rw [<-hqq] at HCT;have HFT2:=zE (show ((T.R.take (k+1)).filter (fun t=>t.out==S.R[i].out)).length=nn+(if qq=true then 1 else 0) by rw [HFT.out,hqq]);clear hsame HFT hqq hnn;generalize S.R[i]=r at hrat HCT hru;generalize T.R[k]=r' at hrat' HCT hru';obtain ⟨op,kk,out,x,A,E⟩:=r;obtain ⟨op',kk',out',x',A',E'⟩:=r';obtain ⟨aA,nA,cA,aE,nE,cE⟩:=y;obtain ⟨aA',nA',cA',aE',nE',cE'⟩:=y';obtain ⟨d0,d1,d2,d3,d4,d5⟩:=hrat;obtain ⟨f0,f1,f2,f3,f4,f5⟩:=hrat'
       dsimp only at d0 d1 d2 d3 d4 d5 f0 f1 f2 f3 f4 f5 HCT
       have yS2:=zG kSt;have yA2:=zG kAt;clear hat hat4 z2 z3 q5 q6 hbA hbB hru hru';go_upto_region 28 with fail;refine zK (fun w'=>Below wt.heap.size wt w') (fun _=>false) (by kernel_rfl) ?_;have hH0:Below wt.heap.size wt wt.drew:=(Below.refl _ _).drew;generalize wt.drew=wd0 at hH0 ⊢;refine' tkR 0 120 hH0 ?o31
       refine' tkQ 1 121 hH0 ?hyv ?o32
       case hyv=>
        intro wz hSw;have zc0:=(hSw.cell (p:=⟨w.heap.size,3,none⟩) yS2).trans s3;have zc1:=(hSw.cell (p:=⟨w4.heap.size,3,none⟩) yA2).trans t3;have zc2:=(hSw.cell (p:=⟨bA,oA+i*6,none⟩) yA).trans d0;have zc3:=(hSw.cell (p:=⟨bB,oB+k*6,none⟩) yB).trans f0;have zc4:=(hSw.cell (p:=⟨bA,oA+i*6+1,none⟩) yA).trans d1;have zc5:=(hSw.cell (p:=⟨bB,oB+k*6+1,none⟩) yB).trans f1;have zc6:=(hSw.cell (p:=⟨bA,oA+i*6+2,none⟩) yA).trans d2;have zc7:=(hSw.cell (p:=⟨bB,oB+k*6+2,none⟩) yB).trans f2;have zc8:=(hSw.cell (p:=⟨bA,oA+i*6+3,none⟩) yA).trans d3;have zc9:=(hSw.cell (p:=⟨bB,oB+k*6+3,none⟩) yB).trans f3;have zc10:=(hSw.cell (p:=⟨bA,oA+i*6+4,none⟩) yA).trans d4;have zc11:=(hSw.cell (p:=⟨bB,oB+k*6+4,none⟩) yB).trans f4;have zc12:=(hSw.cell (p:=⟨bA,oA+i*6+5,none⟩) yA).trans d5;have zc13:=(hSw.cell (p:=⟨bB,oB+k*6+5,none⟩) yB).trans f5;go_simp
        try rfl
       try simp only [Act.put,sT,sZ,sS]
       refine' tkR 2 122 hH0 ?o33
       refine' tkR 3 123 hH0 ?o34
       refine' tkQ 4 124 hH0 ?hyv ?o35
       case hyv=>
        intro wz hSw;have zc0:=(hSw.cell (p:=⟨w.heap.size,3,none⟩) yS2).trans s3;have zc1:=(hSw.cell (p:=⟨w4.heap.size,3,none⟩) yA2).trans t3;have zc2:=(hSw.cell (p:=⟨bA,oA+i*6,none⟩) yA).trans d0;have zc3:=(hSw.cell (p:=⟨bB,oB+k*6,none⟩) yB).trans f0;have zc4:=(hSw.cell (p:=⟨bA,oA+i*6+1,none⟩) yA).trans d1;have zc5:=(hSw.cell (p:=⟨bB,oB+k*6+1,none⟩) yB).trans f1;have zc6:=(hSw.cell (p:=⟨bA,oA+i*6+2,none⟩) yA).trans d2;have zc7:=(hSw.cell (p:=⟨bB,oB+k*6+2,none⟩) yB).trans f2;have zc8:=(hSw.cell (p:=⟨bA,oA+i*6+3,none⟩) yA).trans d3;have zc9:=(hSw.cell (p:=⟨bB,oB+k*6+3,none⟩) yB).trans f3;have zc10:=(hSw.cell (p:=⟨bA,oA+i*6+4,none⟩) yA).trans d4;have zc11:=(hSw.cell (p:=⟨bB,oB+k*6+4,none⟩) yB).trans f4;have zc12:=(hSw.cell (p:=⟨bA,oA+i*6+5,none⟩) yA).trans d5;have zc13:=(hSw.cell (p:=⟨bB,oB+k*6+5,none⟩) yB).trans f5;go_simp
        try rfl
       try simp only [Act.put,sT,sZ,sS]
       refine' tkR 5 125 hH0 ?o36
       refine' tkQ 6 126 hH0 ?hyv ?o37
       case hyv=>
        intro wz hSw;have zc0:=(hSw.cell (p:=⟨w.heap.size,3,none⟩) yS2).trans s3;have zc1:=(hSw.cell (p:=⟨w4.heap.size,3,none⟩) yA2).trans t3;have zc2:=(hSw.cell (p:=⟨bA,oA+i*6,none⟩) yA).trans d0;have zc3:=(hSw.cell (p:=⟨bB,oB+k*6,none⟩) yB).trans f0;have zc4:=(hSw.cell (p:=⟨bA,oA+i*6+1,none⟩) yA).trans d1;have zc5:=(hSw.cell (p:=⟨bB,oB+k*6+1,none⟩) yB).trans f1;have zc6:=(hSw.cell (p:=⟨bA,oA+i*6+2,none⟩) yA).trans d2;have zc7:=(hSw.cell (p:=⟨bB,oB+k*6+2,none⟩) yB).trans f2;have zc8:=(hSw.cell (p:=⟨bA,oA+i*6+3,none⟩) yA).trans d3;have zc9:=(hSw.cell (p:=⟨bB,oB+k*6+3,none⟩) yB).trans f3;have zc10:=(hSw.cell (p:=⟨bA,oA+i*6+4,none⟩) yA).trans d4;have zc11:=(hSw.cell (p:=⟨bB,oB+k*6+4,none⟩) yB).trans f4;have zc12:=(hSw.cell (p:=⟨bA,oA+i*6+5,none⟩) yA).trans d5;have zc13:=(hSw.cell (p:=⟨bB,oB+k*6+5,none⟩) yB).trans f5;go_simp
        try rfl
       try simp only [Act.put,sT,sZ,sS]
       refine' tkR 7 127 hH0 ?o38
       refine' tkR 8 128 hH0 ?o39
       refine' tkQ 9 129 hH0 ?hyv ?o40
       case hyv=>
        intro wz hSw;have zc0:=(hSw.cell (p:=⟨w.heap.size,3,none⟩) yS2).trans s3;have zc1:=(hSw.cell (p:=⟨w4.heap.size,3,none⟩) yA2).trans t3;have zc2:=(hSw.cell (p:=⟨bA,oA+i*6,none⟩) yA).trans d0;have zc3:=(hSw.cell (p:=⟨bB,oB+k*6,none⟩) yB).trans f0;have zc4:=(hSw.cell (p:=⟨bA,oA+i*6+1,none⟩) yA).trans d1;have zc5:=(hSw.cell (p:=⟨bB,oB+k*6+1,none⟩) yB).trans f1;have zc6:=(hSw.cell (p:=⟨bA,oA+i*6+2,none⟩) yA).trans d2;have zc7:=(hSw.cell (p:=⟨bB,oB+k*6+2,none⟩) yB).trans f2;have zc8:=(hSw.cell (p:=⟨bA,oA+i*6+3,none⟩) yA).trans d3;have zc9:=(hSw.cell (p:=⟨bB,oB+k*6+3,none⟩) yB).trans f3;have zc10:=(hSw.cell (p:=⟨bA,oA+i*6+4,none⟩) yA).trans d4;have zc11:=(hSw.cell (p:=⟨bB,oB+k*6+4,none⟩) yB).trans f4;have zc12:=(hSw.cell (p:=⟨bA,oA+i*6+5,none⟩) yA).trans d5;have zc13:=(hSw.cell (p:=⟨bB,oB+k*6+5,none⟩) yB).trans f5;go_simp
        try rfl
       try simp only [Act.put,sT,sZ,sS]
       refine tnQ 10 (fun K hK=>?_);go_simp;refine (HCT.out wd0 hH0).mono ?_;rintro eq wd1 ⟨rfl,bq1⟩;have hH1:Below wt.heap.size wt wd1:=hH0.trans (bq1.mono hH0.size);refine hK.out _ _ (fun _=>hH1) ?_;clear hK K
       try simp only [Act.put,sT,sZ,sS]
       refine zH (by kernel_rfl) ?_ _;have BX:=hbt.trans (hH1.mono hbt.size)
       cases qq
       case false=>
        have HF3:=zE (show ((T.R.take (k+1)).filter (fun t=>t.out==S.R[i].out)).length=nn by rw [HFT2.out];simp);go_wp2_with fail;go_roundg (T.R.length-(k+1))
        case measure=>omega
        case rel=>exact ⟨k+1,by omega,rfl,by go_num,by rw [HF3.out],BX⟩
       case true=>
        have HF3:=zE (show ((T.R.take (k+1)).filter (fun t=>t.out==S.R[i].out)).length=nn+1 by rw [HFT2.out];simp);go_wp2_with fail;go_roundg (T.R.length-(k+1))
        case measure=>omega
        case rel=>exact ⟨k+1,by omega,rfl,by go_num,by rw [HF3.out];go_num,BX⟩
      case neg=>
       have hkn:k=T.R.length:=(by omega);subst hkn;have hn1:((T.R.take T.R.length).filter (fun t=>t.out==S.R[i].out)).length=1:=(by rw [List.take_length];exact HON.out);rw [hn1];clear hn1 hnk;go_wp2_with fail;go_roundg (S.R.length-(i+1))
       case measure=>omega
       case rel=>exact ⟨i+1,by omega,rfl,by go_num,hbt⟩
    case neg=>
     have HSR:=zE (sortB_any (HGPT.out _ Br).1 (HGPT.out _ Br).2 (HTS.out _ hbr) HTFIT.out);have t0:=coQ kAr 0;have t1:=coQ kAr 1;have t2:=coQ kAr 2;have t3:=coQ kAr 3;simp at t0 t1 t2 t3;go_wp2_with fail;refine HSR.out.mono ?_;clear HSR t0 t1 t2 t3 s3;have hsa:=Sk.sort_again HTOK.out HTAH.out;rintro e w9 (⟨hc,-⟩ | ⟨-,U,uV,uI,uO,uR,xV,xI,xO,xR,hUT,rfl,hU,b9⟩)
     case inl=>exact absurd (by rw [hsa.2]) hc
     rw [hsa.1] at hUT;subst hUT;have B9:=hbr.trans (b9.mono hbr.size);have b10:Below w9.heap.size w9 ((w9.alloc (.cells #[.slice uV U.V.length xV,.slice uI U.I.length xI,.slice uO U.O.length xO,.slice uR U.R.length xR] 26 (0,0))).alloc (.cells #[.int .i64 0,.int .i64 0] 30 (0,0))):=((Below.refl _ _).alloc zM _).alloc (by simp) _;have kU:((w9.alloc (.cells #[.slice uV U.V.length xV,.slice uI U.I.length xI,.slice uO U.O.length xO,.slice uR U.R.length xR] 26 (0,0))).alloc (.cells #[.int .i64 0,.int .i64 0] 30 (0,0))).heap[w9.heap.size]?=some (.cells #[.slice uV U.V.length xV,.slice uI U.I.length xI,.slice uO U.O.length xO,.slice uR U.R.length xR] 26 (0,0)):=(Below.heap_alloc _ _ _ (by simp)).trans (zI w9 _);have kH:((w9.alloc (.cells #[.slice uV U.V.length xV,.slice uI U.I.length xI,.slice uO U.O.length xO,.slice uR U.R.length xR] 26 (0,0))).alloc (.cells #[.int .i64 0,.int .i64 0] 30 (0,0))).heap[w9.heap.size+1]?=some (.cells #[.int .i64 0,.int .i64 0] 30 (0,0)):=by
      have h7:=zI (w9.alloc (.cells #[.slice uV U.V.length xV,.slice uI U.I.length xI,.slice uO U.O.length xO,.slice uR U.R.length xR] 26 (0,0))) (.cells #[.int .i64 0,.int .i64 0] 30 (0,0));have h8:((w9.alloc (.cells #[.slice uV U.V.length xV,.slice uI U.I.length xI,.slice uO U.O.length xO,.slice uR U.R.length xR] 26 (0,0))).alloc (.cells #[.int .i64 0,.int .i64 0] 30 (0,0))).heap[w9.heap.size+1]?=some (.cells #[.int .i64 0,.int .i64 0] 30 (0,0)):=(by simpa using h7);exact h8
     have B10:=B9.trans (b10.mono B9.size);have HSS:=zE (zAy (hU.under b10) (HTS.out _ B10));have kA10:=(B10.block _ yA7).trans kA7;clear hU hsa b9 B9;go_upto_region 33 with fail;generalize (w9.alloc (.cells #[.slice uV U.V.length xV,.slice uI U.I.length xI,.slice uO U.O.length xO,.slice uR U.R.length xR] 26 (0,0))).alloc (.cells #[.int .i64 0,.int .i64 0] 30 (0,0))=w10 at b10 kU kH B10 HSS kA10 ⊢;have h0:=coQ kH 0;have u0:=coQ kU 0;have u1:=coQ kU 1;have u2:=coQ kU 2;have u3:=coQ kU 3;have t0:=coQ kA10 0;have t1:=coQ kA10 1;have t2:=coQ kA10 2;have t3:=coQ kA10 3;simp at h0 u0 u1 u2 u3 t0 t1 t2 t3;go_wp2_with fail;refine HSS.out.mono ?_;rintro e w11 ⟨rfl,b11⟩;clear HSS;have B11:=B10.trans (b11.mono B10.size);go_wp2;go_ret;exact ⟨rfl,HB0.out.trans ((C7.trans (B11.mono C7.size)).mono HB0.out.size)⟩
end Go.Proofs.YtegakbobaecdlaaGreatDoor
