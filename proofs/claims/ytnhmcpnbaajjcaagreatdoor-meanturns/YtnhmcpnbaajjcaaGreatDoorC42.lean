import Derived.Test.YtnhmcpnbaajjcaaGreatDoorC41
import Derived.Deep.Cut
import Derived.Deep.LoopGhost
import Derived.Ground.NamesProg
import Derived.IntWalk
import Derived.Laws.Cover1
import Derived.Laws.EntriesVeiled
import Derived.Laws.Externs
import Derived.Lib.Hide
import Derived.Lib.MakeNoZero
import Derived.Lib.SlBuf
import Derived.Maps.OwnSet
import Derived.Shelf.Bytes.SlSmallAll
import Derived.Shelf.Lay
import Derived.WalkKit
import Derived.WalkSpells
set_option linter.unusedVariables false
set_option linter.unusedSimpArgs false
set_option maxHeartbeats 64000000
set_option maxRecDepth 100000
namespace Go.Proofs.YtnhmcpnbaajjcaaGreatDoor
open Go.RowKit Go.IntWalk
theorem row_mid {ok:Nat->Prop} {w:World} {ao:Option Addr} {n cap c d:Nat} {l:List Int} (h:HRow kLong ok w (.slice ao n cap) l) (hc:c+d<=n):HRow kLong ok w (sliced ao c (c+d) cap 1) ((l.drop c).take d):=by
 have h1:=zAR (c:=c) (row_head (c:=c+d) h hc) (by omega);rw [List.drop_take,Nat.add_sub_cancel_left] at h1;exact h1
theorem CellsAt.wide {ok ok':Nat->Prop} {w:World} {cb:Nat} {C:List (List Int)} (h:CellsAt ok w cb C) (hk:∀ i,ok i->i<w.heap.size->ok' i):CellsAt ok' w cb C:=by
 obtain ⟨cur,k,hz,hc⟩:=h;refine ⟨cur,k,hz,fun i hi=>?_⟩;obtain ⟨a,n,c,e,hu⟩:=hc i hi;exact ⟨a,n,c,e,hu.wide hk⟩
theorem CellsAt.past {ok:Nat->Prop} {S:List Nat} {w w':World} {cb:Nat} {C:List (List Int)} (h:CellsAt ok w cb C) (a:Aside S w.heap.size w w') (hS:∀ i,ok i->i ∉ S) (hc:cb ∉ S):CellsAt ok w' cb C:=h.keep (a.block _ h.lt hc) a.size (fun i hi hl=>a.block i hl (hS i hi))
theorem jF {w:World} {b:Nat} {u v:Value}:Aside [b] w.heap.size w ((w.setCell ⟨b,0,none⟩ u).setCell ⟨b,1,none⟩ v):=(Aside.setCell (p:=⟨b,0,none⟩) (by simp) u).trans (Aside.setCell (B:=w.heap.size) (p:=⟨b,1,none⟩) (by simp) v) zL
def Sk.takeT (S:Sk.Sys) (inp:List Int) (C:List (List Int)):(Int × Int) × List (List Int):=if inp.length≠Sk.width S.V S.I then ((17,-1),C) else Sk.takeV S.V inp 0 S.I C
theorem take42_any {w:World} {rb cb:Nat} {oA:Option Nat} {okS ok:Nat->Prop} {aV aI aO aR:Option Addr} {cV cI cO cR:Nat} {S:Sk.Sys} {C0:List (List Int)} {okI:Nat->Prop} {u:Value} {inp:List Int} (hr:RowAt w rb ⟨aV,S.V.length,cV,aI,S.I.length,cI,aO,S.O.length,cO,aR,S.R.length,cR,0⟩ (.slice (some ⟨cb,0,none⟩) S.V.length S.V.length) (.map oA)) (hS:HSys okS w aV aI aO aR cV cI cO cR S) (hC:CellsAt ok w cb C0) (hin:HInts okI w u inp) (hokS:¬okS cb) (hokI:¬okI cb) (hok:¬ok cb) (hnew:∀ i,w.heap.size<=i->ok i) (hrc:rb≠cb) (okay:Sk.Okay S) (hCl:C0.length=S.V.length) :
  Calls Tryz.prog 42 #[.pointer (some ⟨rb,0,none⟩),u] w fun e w'=>e=.returned (.agg #[.int .i64 (Sk.takeT S inp C0).1.1,.int .i64 (Sk.takeT S inp C0).1.2])/\CellsAt ok w' cb (Sk.takeT S inp C0).2/\Aside [cb] w.heap.size w w':=by
 obtain ⟨aoI,capI,evI,hI1,hI2,-⟩:=hS.I.at;injection evI with q1 q2 q3;subst q1 q3;clear q2;unfold maxLen at hI2;obtain ⟨aL,cL,rfl,hL1,hL2,-⟩:=hin.at;unfold maxLen at hL2;have hr0:=hr;unfold RowAt at hr0;have yR:=zG hr0;have yC:=hC.lt;have zI:=okay.nI;have zV:=okay.nV;have b0:Below w.heap.size w (w.alloc (.cells #[.int .i64 0,.int .i64 0] 30 (0,0))):=(Below.refl _ _).alloc zL _;have kF:=zH w (.cells #[.int .i64 0,.int .i64 0] 30 (0,0));have hmk:=fun W (hb:Below w.heap.size w W)=>vH (aI:=aI) (aO:=aO) (aR:=aR) (nI:=S.I.length) (cI:=cI) (nO:=S.O.length) (cO:=cO) (nR:=S.R.length) (cR:=cR) (hS.V.under hb) (hS.I.under hb) (fun x h0 h1=>Sk.cnt_le (Sk.vAt_ok okay.vars ⟨h0,h1⟩)) (by omega);obtain ⟨TK,hTK⟩:=nmQ (Sk.takeT S inp C0);rw [<-hTK];unfold Sk.takeT at hTK;have hwl:=Sk.width_le okay.vars S.I;obtain ⟨L,hL⟩:=nmQ (inp.length);obtain ⟨wi,hwi⟩:=nmQ (Sk.width S.V S.I);rw [<-hwi] at hmk hwl hTK;rw [<-hL] at hTK hL1 hin ⊢;have HROW:=zD hr0;have HS:=zD hS;have HC:=zD ((hC.wide (ok':=fun i=>ok i/\i≠w.heap.size) fun i h1 h2=>⟨h1,Nat.ne_of_lt h2⟩).under b0);have HIN:=zD hin;have HOS:=zD hokS;have HOI:=zD hokI;have HOK:=zD hok;have HNW:=zD hnew;have HRC:=zD hrc;have HO:=zD okay;have HCL:=zD hCl;have HMK:=zD hmk;have HTK:=zD hTK;have HL:=zD hL;have HWI:=zD hwi;have hrA:=(b0.block _ yR).trans hr0;clear hr hr0 hS hC hin hokS hokI hok hnew hrc okay hCl hmk hTK hL hwi
 cases hq:((L:Int) != (wi:Int))
 case false=>
  go_enter Tryz.func42,Tryz.ntmps42;go_upto_region 1 with fail;generalize w.alloc (.cells #[.int .i64 0,.int .i64 0] 30 (0,0))=w1 at b0 kF HC hrA ⊢;have k0:=coQ hrA 0;have k1:=coQ hrA 1;have k2:=coQ hrA 2;have k3:=coQ hrA 3;simp at k0 k1 k2 k3;have yR1:=zG hrA;have y1:=zG kF;refine zK (fun w'=>Below w1.heap.size w1 w') (fun _=>false) (by kernel_rfl) ?_;have hH0:Below w1.heap.size w1 w1.drew:=(Below.refl _ _).drew;generalize w1.drew=wd0 at hH0 ⊢;refine' tkR 0 11 hH0 ?o1
  refine' tkR 1 12 hH0 ?o2
  refine' tkR 2 13 hH0 ?o3
  refine' tkR 3 14 hH0 ?o4
  refine' tkR 4 15 hH0 ?o5
  refine' tkQ 5 16 hH0 ?hyv ?o6
  case hyv=>
   intro wz hSw;have zc0:=(hSw.cell (p:=⟨rb,0,none⟩) yR1).trans k0;have zc1:=(hSw.cell (p:=⟨rb,1,none⟩) yR1).trans k1;have zc2:=(hSw.cell (p:=⟨rb,2,none⟩) yR1).trans k2;have zc3:=(hSw.cell (p:=⟨rb,3,none⟩) yR1).trans k3;go_simp
   try rfl
  try simp only [Act.put,sT,sZ,sS]
  refine' tkR 6 17 hH0 ?o7
  refine' tkR 7 18 hH0 ?o8
  refine' tkR 8 19 hH0 ?o9
  refine' tkR 9 20 hH0 ?o10
  refine' tkQ 10 21 hH0 ?hyv ?o11
  case hyv=>
   intro wz hSw;have zc0:=(hSw.cell (p:=⟨rb,0,none⟩) yR1).trans k0;have zc1:=(hSw.cell (p:=⟨rb,1,none⟩) yR1).trans k1;have zc2:=(hSw.cell (p:=⟨rb,2,none⟩) yR1).trans k2;have zc3:=(hSw.cell (p:=⟨rb,3,none⟩) yR1).trans k3;go_simp
   try rfl
  try simp only [Act.put,sT,sZ,sS]
  refine tnQ 11 (fun K hK=>?_);go_simp;refine (HMK.out wd0 (b0.trans (hH0.mono b0.size))).mono ?_;rintro eq wd1 ⟨rfl,bq1⟩;have hH1:Below w1.heap.size w1 wd1:=hH0.trans (bq1.mono hH0.size);refine hK.out _ _ (fun _=>hH1) ?_;clear hK K
  try simp only [Act.put,sT,sZ,sS]
  refine' tkR 12 23 hH1 ?o12
  refine zJ (by kernel_rfl) ?_ _;have HZ:=zD (show TK=Sk.takeV S.V inp 0 (S.I.drop 0) C0 by rw [HTK.out,if_neg (by have h:(L:Int)=(wi:Int):=(by simpa using hq);omega),List.drop_zero]);have HLW:=zD (show L=Sk.width S.V S.I by have h:(L:Int)=(wi:Int):=(by simpa using hq);have:=HWI.out;omega);obtain ⟨wS,hwS⟩:=nmQ (wd1);rw [<-hwS] at hH1 ⊢;have BS:Below w.heap.size w wS:=b0.trans (hH1.mono b0.size);have kFS:=zD ((hH1.block _ y1).trans kF);have HCS:=zD (HC.out.under hH1);have k1S:=(hH1.cell (p:=⟨rb,1,none⟩) yR1).trans k1;clear k0 k1 k2 k3 hwS kF HC hrA hH1 HTK hq;go_wp2_with fail;clear k1S;go_loopg [5,31] S.I.length (fun k uu v wr=>∃ (i at_:Nat) (C:List (List Int)),i<=S.I.length/\k=S.I.length-i/\uu=.int .i64 (at_:Nat)/\v=.int .i64 (i:Nat)/\Hid (TK=Sk.takeV S.V inp at_ (S.I.drop i) C)/\Hid (at_+Sk.wid S.V (S.I.drop i)=L)/\Hid (C.length=S.V.length)/\Hid (CellsAt (fun i=>ok i/\i≠w.heap.size) wr cb C)/\Hid (wr.heap[w.heap.size]?=some (.cells #[.int .i64 0,.int .i64 0] 30 (0,0)))/\Aside [cb] w.heap.size w wr)
  case atStart=>exact ⟨0,0,C0,Nat.zero_le _,rfl,rfl,rfl,HZ,zD (by rw [List.drop_zero,Nat.zero_add,<-Sk.width_wid S.I HO.out.ins];exact HLW.out.symm),HCL,HCS,kFS,aside BS⟩
  case round=>
   clear HZ HCS kFS BS;obtain ⟨i,at_,C,hi,rfl,rfl,rfl,H,HAT,HCl,HC,HK,fr⟩:=hrel;have zr:=fr.size;by_cases hlt:i<S.I.length
   case neg=>
    have hin:i=S.I.length:=(by omega);subst hin;have e1:S.I.drop S.I.length=[]:=List.drop_of_length_le zL;have HZ:=zD (show TK=((0,0),C) by rw [H.out,e1];rfl);have kr:=HK.out;clear e1 H;have st0:=coQ kr 0;have st1:=coQ kr 1;have fr0:=foQ kr 0;have fr1:=foQ kr 1;simp at st0 st1;have KR:=zP (zP kr 0 (.int .i64 0)) 1 (.int .i64 0);have r0:=coQ KR 0;have r1:=coQ KR 1;simp at r0 r1;have HE:=zD (show CellsAt ok (((wr).setCell ⟨w.heap.size,0,none⟩ (.int .i64 0)).setCell ⟨w.heap.size,1,none⟩ (.int .i64 0)) cb C/\Aside [cb] w.heap.size w (((wr).setCell ⟨w.heap.size,0,none⟩ (.int .i64 0)).setCell ⟨w.heap.size,1,none⟩ (.int .i64 0)) from ⟨(HC.out.past jF (fun i hi=>by simpa using hi.2) (by simp;omega)).wide fun i hi _=>hi.1,(fr.set (p:=⟨w.heap.size,0,none⟩) zL _).set (p:=⟨w.heap.size,1,none⟩) zL _⟩);clear KR;go_wp2;exact bodyPost_ret (v:=.agg #[.int .i64 0,.int .i64 0]) (by simp [results,Tryz.results42,go_sem,r0,r1]) rfl ⟨by rw [HZ.out],by rw [HZ.out];exact HE.out.1,HE.out.2⟩
   case pos=>
    have hdr:S.I.drop i=S.I[i] :: S.I.drop (i+1):=List.drop_eq_getElem_cons hlt;have hT:=H.out;have hat:=HAT.out;rw [hdr] at hT hat;unfold Sk.takeV at hT;unfold Sk.wid at hat;have hSr:HSys okS wr aV aI aO aR cV cI cO cR S:=HS.out.keep zr (fun j hj hl=>fr.block j hl (by simp;exact fun e=>HOS.out (e ▸ hj)));have hrow:RowAt wr rb ⟨aV,S.V.length,cV,aI,S.I.length,cI,aO,S.O.length,cO,aR,S.R.length,cR,0⟩ (.slice (some ⟨cb,0,none⟩) S.V.length S.V.length) (.map oA):=fr.keep HROW.out yR (by simp;exact HRC.out);have hx:=HO.out.ins S.I[i] (List.getElem_mem hlt);obtain ⟨q,hq⟩:∃ q:Nat,S.I[i]=(q:Int):=⟨(S.I[i]).toNat,by omega⟩;have hqV:q<S.V.length:=(by omega);have hev:Sk.vAt S.V S.I[i]=S.V[q]:=(by rw [hq];exact qW hqV);obtain ⟨ao',cap',eqs,-,-,hat2⟩:=hSr.I.at;injection eqs with q1 q2 q3;obtain ⟨bb,oo,hbb,yb,e0⟩:=hat2 i hlt;rw [hbb] at q1;subst q1;obtain ⟨ao3,cap3,eq3,hv1,hv2,hat3⟩:=hSr.V.at;injection eq3 with z1 z2 z3;obtain ⟨bV,oV,hbV,yV0,x0,y0⟩:=hat3 q hqV;rw [hbV] at z1;subst z1 z3;unfold maxLen at hv2;rw [hev] at hT hat;rw [hq] at e0 hT;rw [Int.toNat_natCast] at hT;have hcl:=Sk.cnt_le (HO.out.vars S.V[q] (List.getElem_mem hqV));have hcp:=Sk.cnt_pos S.V[q];generalize S.V[q]=va at x0 y0 hT hat hcl hcp;have HCT:=zD (fun W=>qM va W);generalize Sk.cnt va=cc at hT hat hcl hcp HCT;have hac:at_+cc<=L:=(by omega);have hrowA:=hrow;unfold RowAt at hrowA;have k0:=coQ hrowA 0;simp at k0;have bA:Below wr.heap.size wr (wr.alloc (.cells #[.int .u8 va.elem,.int .i64 va.n] 61 (0,0))):=(Below.refl _ _).alloc zL _;have kV:=zH wr (.cells #[.int .u8 va.elem,.int .i64 va.n] 61 (0,0));have HT:=zD hT;have HA2:=zD hat;have HHR:=zD hrow;clear hat2 q2 q3 z2 hat3 hx hq hev hdr hT hat H HAT hSr hbb hbV hrow hrowA;unfold vv at HCT;go_upto_region 8 with fail;generalize wr.alloc (.cells #[.int .u8 va.elem,.int .i64 va.n] 61 (0,0))=wA at bA kV ⊢;have v0:=coQ kV 0;have v1:=coQ kV 1;simp at v0 v1;clear x0 y0 k0 e0;go_wp2_with fail;refine (HCT.out _).mono ?_;rintro e w2 ⟨rfl,b2⟩;have B2:Below wr.heap.size wr w2:=bA.trans (b2.mono bA.size);have kV2:=(b2.block _ (zG kV)).trans kV;clear v0 v1 kV HCT;go_wp2_with fail;have hin2:HInts okI w2 (.slice aL L cL) inp:=HIN.out.keep (Nat.le_trans zr B2.size) (fun j hj hl=>(B2.block j (Nat.lt_of_lt_of_le hl zr)).trans (fr.block j hl (by simp;exact fun e=>HOI.out (e ▸ hj))));refine (clone66_any (ok:=okI) (l:=(inp.drop at_).take cc) ?hrow ?hlen).mono ?_
    case hrow=>
     have h:=row_mid (c:=at_) (d:=cc) hin2 hac;unfold sliced at h;rw [if_neg (by omega),Nat.mul_one,Nat.add_sub_cancel_left] at h;exact h
    case hlen=>rw [List.length_take];omega
    rintro e w3 ⟨vc,rfl,own,b3⟩;have B3:Below wr.heap.size wr w3:=B2.trans (b3.mono B2.size);have kV3:=(b3.block _ (zG kV2)).trans kV2;have hsl:((inp.drop at_).take cc).length=cc:=(by rw [List.length_take,List.length_drop];have:=HL.out;omega);obtain ⟨ac,c3,e3,-,-⟩:=own.form;rw [hsl] at e3;subst e3;generalize (inp.drop at_).take cc=sub at own HT hsl;have HOW:=zD own;have HSL:=zD hsl;have HIX:=zD (And.intro (Sk.idxI_neg Sk.noTruth sub 0) (Sk.idxI_find Sk.noTruth sub 0));have hif:=zAJ eg68 (p:=Sk.noTruth) (xP own.row) (fun x _ W hb=>zAt x W);generalize Sk.idxI Sk.noTruth 0 sub=ix at hif HIX;have HIF:=zD hif;clear hin2 own hsl hif kV2 b3 b2;go_wp2_with fail;refine HIF.out.mono ?_;rintro e w4 ⟨rfl,b4⟩;have B4:Below wr.heap.size wr w4:=B3.trans (b4.mono B3.size);have kV4:=(b4.block _ (zG kV3)).trans kV3;have v0:=coQ kV4 0;simp at v0;have HC4:=zD (HC.out.under B4);have kF4:=(B4.block _ (zG HK.out)).trans HK.out;have fr4:Aside [cb] w.heap.size w w4:=fr.trans (aside B4) zr;have HR4:=zD (HHR.out.under B4);have HOW4:=zD (show HInts (fun i=>ok i/\i≠w.heap.size) w4 (.slice ac cc c3) sub from ((xP HOW.out.row).under b4).wide fun k hk _=>by have h1:=B2.size;have h2:w2.heap.size<=k:=hk;have h3:=zG HK.out;exact ⟨HNW.out k (by omega),by omega⟩);have hwl2:L<=120000:=(by have:=HLW.out;have:=HWI.out;omega);clear HIF kV3 kV4 HC HK HHR HOW fr
    cases hq1:(va.elem==98)
    case false=>
     have HT2:=zD (show TK=Sk.takeV S.V inp (at_+cc) (S.I.drop (i+1)) (C.set q sub) by rw [HT.out,if_neg (by intro h;simp [h.1] at hq1)]);clear HT;have hqC:q<C.length:=(by have:=HCl.out;omega);obtain ⟨sa,sn,sc,stc,-⟩:=HC4.out.at q hqC;have frc:=HC4.out.free q;have rowq:=HR4.out;unfold RowAt at rowq;have k4:=coQ rowq 4;simp at k4;have NEW:=HC4.out.set (by intro h;exact HOK.out h.1) hqC (l:=sub) HOW4.out;have AS:Aside [cb] w.heap.size w (w4.setCell ⟨cb,q,none⟩ (.slice ac cc c3)):=fr4.trans (Aside.setCell (B:=w.heap.size) (p:=⟨cb,q,none⟩) (by simp) _) zL;have KF5:=zQ (p:=⟨cb,q,none⟩) kF4 (by show cb≠w.heap.size;omega) (.slice ac cc c3);have HEND:=zD (And.intro NEW (And.intro KF5 AS));have HCl2:=zD (show (C.set q sub).length=S.V.length by rw [List.length_set];exact HCl.out);have HA3:=zD (show at_+cc+Sk.wid S.V (S.I.drop (i+1))=L by have:=HA2.out;omega);clear NEW AS KF5 kF4 fr4 rowq hqC;go_wp2_with fail;go_roundg (S.I.length-(i+1))
     case measure=>omega
     case rel=>exact ⟨i+1,at_+cc,C.set q sub,by omega,rfl,by go_num,by go_num,HT2,HA3,HCl2,zD HEND.out.1,zD HEND.out.2.1,HEND.out.2.2⟩
    case true=>
     by_cases h0:0<=ix
     case neg=>
      have hany:sub.any Sk.noTruth=false:=by
       cases hc:sub.any Sk.noTruth with
       | false=>rfl
       | true=>exact absurd (HIX.out.1.1.2 hc) h0
      have HT2:=zD (show TK=Sk.takeV S.V inp (at_+cc) (S.I.drop (i+1)) (C.set q sub) by rw [HT.out,if_neg (by intro h;rw [hany] at h;exact absurd h.2 (by decide))]);have h1:ix<0:=(by omega);clear HT hany h0;have hqC:q<C.length:=(by have:=HCl.out;omega);obtain ⟨sa,sn,sc,stc,-⟩:=HC4.out.at q hqC;have frc:=HC4.out.free q;have rowq:=HR4.out;unfold RowAt at rowq;have k4:=coQ rowq 4;simp at k4;have NEW:=HC4.out.set (by intro h;exact HOK.out h.1) hqC (l:=sub) HOW4.out;have AS:Aside [cb] w.heap.size w (w4.setCell ⟨cb,q,none⟩ (.slice ac cc c3)):=fr4.trans (Aside.setCell (B:=w.heap.size) (p:=⟨cb,q,none⟩) (by simp) _) zL;have KF5:=zQ (p:=⟨cb,q,none⟩) kF4 (by show cb≠w.heap.size;omega) (.slice ac cc c3);have HEND:=zD (And.intro NEW (And.intro KF5 AS));have HCl2:=zD (show (C.set q sub).length=S.V.length by rw [List.length_set];exact HCl.out);have HA3:=zD (show at_+cc+Sk.wid S.V (S.I.drop (i+1))=L by have:=HA2.out;omega);clear NEW AS KF5 kF4 fr4 rowq hqC;go_wp2_with fail;go_roundg (S.I.length-(i+1))
      case measure=>omega
      case rel=>exact ⟨i+1,at_+cc,C.set q sub,by omega,rfl,by go_num,by go_num,HT2,HA3,HCl2,zD HEND.out.1,zD HEND.out.2.1,HEND.out.2.2⟩
     case pos=>
      have hany:=HIX.out.1.1.1 h0;have hix:=HIX.out.2 hany;rw [Nat.zero_add] at hix;have HZ:=zD (show TK=((17,((at_+sub.findIdx Sk.noTruth:Nat):Int)),C) by rw [HT.out,if_pos ⟨by simpa using hq1,hany⟩]);have hfl:sub.findIdx Sk.noTruth<=sub.length:=List.findIdx_le_length;rw [HSL.out] at hfl;generalize sub.findIdx Sk.noTruth=m at hix HZ hfl;subst hix;clear HT hany HIX;have st0:=coQ kF4 0;have st1:=coQ kF4 1;have fr0:=foQ kF4 0;have fr1:=foQ kF4 1;simp at st0 st1;have KR:=zP (zP kF4 0 (.int .i64 17)) 1 (.int .i64 ((at_:Int)+(m:Int)));have r0:=coQ KR 0;have r1:=coQ KR 1;simp at r0 r1;have HE:=zD (show CellsAt ok (((w4).setCell ⟨w.heap.size,0,none⟩ (.int .i64 17)).setCell ⟨w.heap.size,1,none⟩ (.int .i64 ((at_:Int)+(m:Int)))) cb C/\Aside [cb] w.heap.size w (((w4).setCell ⟨w.heap.size,0,none⟩ (.int .i64 17)).setCell ⟨w.heap.size,1,none⟩ (.int .i64 ((at_:Int)+(m:Int)))) from ⟨(HC4.out.past jF (fun i hi=>by simpa using hi.2) (by simp;omega)).wide fun i hi _=>hi.1,(fr4.set (p:=⟨w.heap.size,0,none⟩) zL _).set (p:=⟨w.heap.size,1,none⟩) zL _⟩);clear KR;go_wp2;exact bodyPost_ret (v:=.agg #[.int .i64 17,.int .i64 ((at_:Int)+(m:Int))]) (by simp [results,Tryz.results42,go_sem,r0,r1]) rfl ⟨by rw [HZ.out];simp,by rw [HZ.out];exact HE.out.1,HE.out.2⟩
 case true=>
  go_enter Tryz.func42,Tryz.ntmps42;go_upto_region 1 with fail;generalize w.alloc (.cells #[.int .i64 0,.int .i64 0] 30 (0,0))=w1 at b0 kF HC hrA ⊢;have k0:=coQ hrA 0;have k1:=coQ hrA 1;have k2:=coQ hrA 2;have k3:=coQ hrA 3;simp at k0 k1 k2 k3;have yR1:=zG hrA;have y1:=zG kF;refine zK (fun w'=>Below w1.heap.size w1 w') (fun _=>false) (by kernel_rfl) ?_;have hH0:Below w1.heap.size w1 w1.drew:=(Below.refl _ _).drew;generalize w1.drew=wd0 at hH0 ⊢;refine' tkR 0 11 hH0 ?o13
  refine' tkR 1 12 hH0 ?o14
  refine' tkR 2 13 hH0 ?o15
  refine' tkR 3 14 hH0 ?o16
  refine' tkR 4 15 hH0 ?o17
  refine' tkQ 5 16 hH0 ?hyv ?o18
  case hyv=>
   intro wz hSw;have zc0:=(hSw.cell (p:=⟨rb,0,none⟩) yR1).trans k0;have zc1:=(hSw.cell (p:=⟨rb,1,none⟩) yR1).trans k1;have zc2:=(hSw.cell (p:=⟨rb,2,none⟩) yR1).trans k2;have zc3:=(hSw.cell (p:=⟨rb,3,none⟩) yR1).trans k3;go_simp
   try rfl
  try simp only [Act.put,sT,sZ,sS]
  refine' tkR 6 17 hH0 ?o19
  refine' tkR 7 18 hH0 ?o20
  refine' tkR 8 19 hH0 ?o21
  refine' tkR 9 20 hH0 ?o22
  refine' tkQ 10 21 hH0 ?hyv ?o23
  case hyv=>
   intro wz hSw;have zc0:=(hSw.cell (p:=⟨rb,0,none⟩) yR1).trans k0;have zc1:=(hSw.cell (p:=⟨rb,1,none⟩) yR1).trans k1;have zc2:=(hSw.cell (p:=⟨rb,2,none⟩) yR1).trans k2;have zc3:=(hSw.cell (p:=⟨rb,3,none⟩) yR1).trans k3;go_simp
   try rfl
  try simp only [Act.put,sT,sZ,sS]
  refine tnQ 11 (fun K hK=>?_);go_simp;refine (HMK.out wd0 (b0.trans (hH0.mono b0.size))).mono ?_;rintro eq wd1 ⟨rfl,bq1⟩;have hH1:Below w1.heap.size w1 wd1:=hH0.trans (bq1.mono hH0.size);refine hK.out _ _ (fun _=>hH1) ?_;clear hK K
  try simp only [Act.put,sT,sZ,sS]
  refine' tkR 12 23 hH1 ?o24
  refine zJ (by kernel_rfl) ?_ _;have HZ:=zD (show TK=((17,-1),C0) by rw [HTK.out,if_pos (by have h:¬((L:Int)=(wi:Int)):=(by simpa using hq);omega)]);have kF2:=(hH1.block _ y1).trans kF;have HC2:=zD (HC.out.under hH1);have fr2:Aside [cb] w.heap.size w wd1:=aside (b0.trans (hH1.mono b0.size));clear k0 k1 k2 k3 HTK;have st0:=coQ kF2 0;have st1:=coQ kF2 1;have fr0:=foQ kF2 0;have fr1:=foQ kF2 1;simp at st0 st1;have KR:=zP (zP kF2 0 (.int .i64 17)) 1 (.int .i64 (-1));have r0:=coQ KR 0;have r1:=coQ KR 1;simp at r0 r1;have HE:=zD (show CellsAt ok (((wd1).setCell ⟨w.heap.size,0,none⟩ (.int .i64 17)).setCell ⟨w.heap.size,1,none⟩ (.int .i64 (-1))) cb C0/\Aside [cb] w.heap.size w (((wd1).setCell ⟨w.heap.size,0,none⟩ (.int .i64 17)).setCell ⟨w.heap.size,1,none⟩ (.int .i64 (-1))) from ⟨(HC2.out.past jF (fun i hi=>by simpa using hi.2) (by simp;omega)).wide fun i hi _=>hi.1,(fr2.set (p:=⟨w.heap.size,0,none⟩) zL _).set (p:=⟨w.heap.size,1,none⟩) zL _⟩);clear KR;go_wp2;exact bodyPost_ret (v:=.agg #[.int .i64 17,.int .i64 (-1)]) (by simp [results,Tryz.results42,go_sem,r0,r1]) rfl ⟨by rw [HZ.out],by rw [HZ.out];exact HE.out.1,HE.out.2⟩
end Go.Proofs.YtnhmcpnbaajjcaaGreatDoor
