import Derived.Test.YtegakbobaecdlaaGreatDoorL26
import Derived.WalkKit
import Derived.WalkSpells
import Derived.IntWalk
import Derived.Deep.Cut
import Derived.Deep.LoopGhost
import Derived.Laws.Cover1
import Derived.Lib.Hide
import Derived.Lib.MakeNoZero
import Derived.Ground.NamesProg
import Derived.Laws.Externs
import Derived.Lib.SlBuf
import Derived.Shelf.Bytes.SlSmallAll
import Derived.Shelf.Lay
set_option linter.unusedVariables false
set_option linter.unusedSimpArgs false
set_option maxHeartbeats 64000000
set_option maxRecDepth 100000
namespace Go.Proofs.YtegakbobaecdlaaGreatDoor
open Go.RowKit Go.IntWalk
namespace Sk
def idxI (p:Int->Bool):Nat->List Int->Int
 | _,[] => -1
 | i,x :: r=>if p x=true then (i:Int) else idxI p (i+1) r
theorem idxI_neg (p:Int->Bool):∀ (l:List Int) (i:Nat),(0<=idxI p i l↔l.any p=true)/\(l.any p=false->idxI p i l = -1)
 | [],i=>by simp [idxI]
 | x :: r,i=>by
  unfold idxI;by_cases h:p x=true
  ·rw [if_pos h]
   simp [h]
  ·rw [if_neg h]
   have:=idxI_neg p r (i+1);simp [h]
   simpa using this
end Sk
theorem qE {ok:Nat->Prop} {w:World} {v:Value} {l:List Int} {N:Nat} {a:Value} {p:Int->Bool} (eg:∀ args w,(callFunc N args).run Tryz.prog w=.ok (.enter N args) w) (hl:HInts ok w v l) (hp:∀ x ∈ l,∀ W,Below w.heap.size w W->Calls Tryz.prog N #[a,.int .i64 x] W fun e W'=>e=.returned (.bool (p x))/\Below W.heap.size W W') :
  Calls Tryz.prog 50 #[v,.func (.func N) #[a] #[]] w fun e w'=>e=.returned (.int .i64 (Sk.idxI p 0 l))/\Below w.heap.size w w':=by
 obtain ⟨ao,cap,rfl,hc1,hc2,-⟩:=hl.at;unfold maxLen at hc2;obtain ⟨R,hR⟩:=nmQ (Sk.idxI p 0 l);rw [<-hR];have HR:=zE (show R=Sk.idxI p 0 (l.drop 0) by rw [List.drop_zero];exact hR);have HL:=zE hl;have HP:=zE hp;clear hR hl hp;obtain ⟨n,hn⟩:=nmQ (l.length);rw [<-hn] at hc1 ⊢;have HN:=zE hn;clear hn;go_enter Tryz.func50,Tryz.ntmps50;go_wp2_with fail;go_loopg [8] n (fun k v wr=>∃ i,i<=n/\k=n-i/\v=.int .i64 (i:Nat)/\Hid (R=Sk.idxI p i (l.drop i))/\Below w.heap.size w wr)
 case atStart=>exact ⟨0,Nat.zero_le _,rfl,rfl,HR,Below.refl _ _⟩
 case round=>
  clear HR;obtain ⟨i,hi,rfl,rfl,H,hbr⟩:=hrel;by_cases hlt:i<n
  case neg=>
   have hin:i=n:=(by omega);subst hin;have e1:l.drop i=[]:=List.drop_of_length_le (by have:=HN.out;omega);have HZ:=zE (show R = -1 by rw [H.out,e1];rfl);clear e1;go_wp2;go_ret;exact ⟨by rw [HZ.out];rfl,hbr⟩
  case pos=>
   have hil:i<l.length:=(by have:=HN.out;omega);have hdr:l.drop i=l[i] :: l.drop (i+1):=List.drop_eq_getElem_cons hil;have hR1:=H.out;rw [hdr] at hR1;obtain ⟨ao',cap',eqs,-,-,hat2⟩:=(HL.out.under hbr).at;injection eqs with q1 q2 q3;subst q1;obtain ⟨bb,o,rfl,hb,e0⟩:=hat2 i hil;obtain ⟨y,hy⟩:=nmQ (l[i]);have hc:=HP.out y (by rw [hy];exact List.getElem_mem hil) wr hbr;rw [<-hy] at e0 hR1;unfold Sk.idxI at hR1;generalize p y=q at hc hR1;have HR1:=zE hR1;clear hat2 q2 q3 hy hdr hR1 H;go_wp2_with fail;refine hc.mono ?_;rintro e w4 ⟨rfl,b4⟩;have B4:=hbr.trans (b4.mono hbr.size);clear hc
   cases q
   case false=>
    have HZ:Hid (R=Sk.idxI p (i+1) (l.drop (i+1))):=zE (by rw [HR1.out];simp);clear HR1;go_wp2_with fail;go_roundg (n-(i+1))
    case measure=>omega
    case rel=>exact ⟨i+1,by omega,rfl,by go_num,HZ,B4⟩
   case true=>
    have HZ:Hid (R=(i:Int)):=zE (by rw [HR1.out];simp);clear HR1;go_wp2;go_ret;exact ⟨by rw [HZ.out];rfl,B4⟩
theorem qG {ok:Nat->Prop} {w:World} {v:Value} {l:List Int} {N:Nat} {a:Value} {p:Int->Bool} (eg:∀ args w,(callFunc N args).run Tryz.prog w=.ok (.enter N args) w) (hl:HInts ok w v l) (hp:∀ x ∈ l,∀ W,Below w.heap.size w W->Calls Tryz.prog N #[a,.int .i64 x] W fun e W'=>e=.returned (.bool (p x))/\Below W.heap.size W W') :
  Calls Tryz.prog 60 #[v,.func (.func N) #[a] #[]] w fun e w'=>e=.returned (.bool (l.any p))/\Below w.heap.size w w':=by
 have hc:=qE eg hl hp;have hi:=Sk.idxI_neg p l 0;obtain ⟨ao,cap,rfl,-⟩:=hl.at;generalize Sk.idxI p 0 l=R at hc hi;have HI:=zE hi;clear hi hl hp eg;generalize l.any p=q at HI ⊢;go_enter Tryz.func60,Tryz.ntmps60;go_wp2_with fail;refine hc.mono ?_;rintro e w4 ⟨rfl,b4⟩;have hq:(decide (0<=R))=q:=by
  have:=HI.out.1
  cases q<;>simp at this ⊢<;>omega
 go_wp2;go_ret;exact ⟨by rw [<-hq];rfl,b4⟩
end Go.Proofs.YtegakbobaecdlaaGreatDoor
namespace Go.Proofs.YtegakbobaecdlaaGreatDoor
open Go.RowKit Go.IntWalk
theorem hasForm_any (op k out n:Int) (aA aE:Option Addr) (nA cA nE cE:Nat) (hA:nA<=cA) (hA2:cA<=9223372036854775807) (w:World) (hP:GlobP w) :
  Calls Tryz.prog 113 #[.agg #[.int .i64 op,.int .i64 k,.int .i64 out,.int .i64 n,.slice aA nA cA,.slice aE nE cE]] w fun e w'=>e=.returned (.bool (Sk.hasForm op nA))/\Below w.heap.size w w':=by
 by_cases h1:op<1
 ·have e:Sk.hasForm op nA=false:=by unfold Sk.hasForm;rw [decide_eq_false (by omega:¬1<=op)];rfl
  rw [e];exact hasForm_low op k out n aA aE nA cA nE cE hA hA2 h1 w hP
 ·by_cases h2:16<op
  ·have e:Sk.hasForm op nA=false:=by unfold Sk.hasForm;rw [decide_eq_false (by omega:¬op<=16),Bool.and_false];rfl
   rw [e];exact hasForm_high op k out n aA aE nA cA nE cE hA hA2 h2 w hP
  ·obtain ⟨j,rfl⟩:∃ j:Nat,op=(j:Int):=⟨op.toNat,by omega⟩
   have e:Sk.hasForm (j:Int) nA=((nA:Int)==Sk.partsT.getD j 0):=(by unfold Sk.hasForm;rw [decide_eq_true (by omega:1<=(j:Int)),decide_eq_true (by omega:(j:Int)<=16),Int.toNat_natCast];rfl);rw [e];exact hasForm_mid j k out n aA aE nA cA nE cE hA hA2 (by omega) (by omega) w hP
theorem eg111:∀ args w,(callFunc 112 args).run Tryz.prog w=.ok (.enter 112 args) w:=enters_of Tryz.func112 (by kernel_rfl) rfl
theorem zAG {ok okR:Nat->Prop} {w:World} {b:Nat} {x:LkV} {V:List Sk.Vr} {m:List Bool} {op k out n:Int} {aA aE:Option Addr} {nA cA nE cE:Nat} {A:List Int} {E:List Pu} (hk:LkAt w b x) (hm:Md w x.g m) (hn:x.nV=m.length) (hbg:b≠x.g) (hV:HVars ok w (.slice x.aV x.nV x.cV) V) (hVr:∀ v ∈ V,Sk.VrOk v) (hG:GlobK w) (hP:GlobP w) (hA:HInts okR w (.slice aA nA cA) A) (hE:HPu okR w (.slice aE nE cE) E) (hAl:A.length<=1000000) (hEl:E.length<=1000000) :
  Calls Tryz.prog 93 #[.pointer (some ⟨b,0,none⟩),.agg #[.int .i64 op,.int .i64 k,.int .i64 out,.int .i64 n,.slice aA nA cA,.slice aE nE cE]] w fun e w'=>e=.returned (.int .i64 (Sk.codeRule V m ⟨op,k,out,n,A,E⟩).1)/\LkAt w' b x/\Md w' x.g (Sk.codeRule V m ⟨op,k,out,n,A,E⟩).2/\Aside [x.g] w.heap.size w w':=by
 obtain ⟨R,hR⟩:=nmQ (Sk.codeRule V m ⟨op,k,out,n,A,E⟩);rw [<-hR];unfold Sk.codeRule at hR
 dsimp only at hR
 obtain ⟨ao,cap,ev,hc1,hc2,-⟩:=hA.at;injection ev with e1 e2 e3;rw [<-e2,<-e3] at hc1;rw [<-e3] at hc2;unfold maxLen at hc2;have HAL:=zE e2;obtain ⟨ao',cap',ev',-⟩:=hV.at;injection ev' with e1' e2' e3';have HVL:=zE (show V.length=m.length by omega);clear e1 e2 e3 e1' e2' e3';have b1:Below w.heap.size w (w.alloc (.cells #[.int .i64 op,.int .i64 k,.int .i64 out,.int .i64 n,.slice aA nA cA,.slice aE nE cE] 40 (0,0))):=(Below.refl _ _).alloc zM _;have kA:=zI w (.cells #[.int .i64 op,.int .i64 k,.int .i64 out,.int .i64 n,.slice aA nA cA,.slice aE nE cE] 40 (0,0));have hk1:=hk.under b1;have hm1:=hm.under b1;have hcN:=qH hk1 out;rw [hn] at hcN;have HK:=zE hk1;have HM:=zE hm1;have HV:=zE (hV.under b1);have HG:=zE (hG.under b1);have HP:=zE (hP.under b1);have HA:=zE (hA.under b1);have HE:=zE (hE.under b1);have HVR:=zE hVr;have HN:=zE hn;have HBG:=zE hbg;have hbw:b<w.heap.size:=zG hk;have hgw:x.g<w.heap.size:=zG hm;clear hk hm hV hG hP hA hE hVr hn hbg hk1 hm1;obtain ⟨q0,hq0⟩:=nmQ (Sk.isNone m.length out);rw [<-hq0] at hcN hR;have HQ0:=zE hq0;have HR:=zE hR;clear hq0 hR;go_enter Tryz.func93,Tryz.ntmps93;go_upto_region 1 with fail;generalize w.alloc (.cells #[.int .i64 op,.int .i64 k,.int .i64 out,.int .i64 n,.slice aA nA cA,.slice aE nE cE] 40 (0,0))=w1 at b1 kA hcN HK HM HV HG HP HA HE ⊢;have c0:=coQ kA 0;have c1:=coQ kA 1;have c2:=coQ kA 2;have c3:=coQ kA 3;have c4:=coQ kA 4;have c5:=coQ kA 5;simp at c0 c1 c2 c3 c4 c5;go_wp2_with fail;refine hcN.mono ?_;rintro e w2 ⟨rfl,b2⟩;have B2:=b1.trans (b2.mono b1.size);have kA2:=(b2.block _ (zG kA)).trans kA;have HK2:=zE (HK.out.under b2);have HM2:=zE (HM.out.under b2);clear hcN c0 c1 c2 c3 c4 c5
 cases q0
 case true=>
  have HZ:=zE (show R=(16,m) by rw [HR.out];rfl);clear HR;go_wp2;go_ret;exact ⟨by rw [HZ.out];rfl,HK2.out,by rw [HZ.out];exact HM2.out,aside B2⟩
 case false=>
 have hr0:=Sk.isNone_false.1 HQ0.out.symm;obtain ⟨oi,rfl⟩:∃ oi:Nat,out=(oi:Int):=⟨out.toNat,by omega⟩;have hoi:oi<m.length:=(by omega);obtain ⟨qm,hqm⟩:=nmQ (m.getD oi false);have hcm:w2.cell? ⟨x.g,oi,none⟩=some (.bool qm):=by
  rw [HM2.out.cell hoi,hqm];simp [List.getD_eq_getElem?_getD,hoi]
 have hoiN:oi<x.nV:=(by have:=HN.out;omega);have k4:=coQ HK2.out 4;simp at k4;have yb:b<w2.heap.size:=Nat.lt_of_lt_of_le hbw B2.size;have yg:x.g<w2.heap.size:=Nat.lt_of_lt_of_le hgw B2.size;have yA:=zG kA2;have a2:=coQ kA2 2;simp at a2;have hX:=HR.out;rw [if_neg (by simp),Int.toNat_natCast,<-hqm] at hX;have HR1:=zE hX;clear hX;have HQM:=zE hqm;clear hqm HR hr0;go_upto_region 3 with fail;refine zK (fun w'=>Below w2.heap.size w2 w') (fun _=>false) (by kernel_rfl) ?_;have hH0:Below w2.heap.size w2 w2.drew:=(Below.refl _ _).drew;generalize w2.drew=wd0 at hH0 ⊢;refine' tkR 0 11 hH0 ?o1
 refine' tkR 1 12 hH0 ?o2
 refine' tkR 2 13 hH0 ?o3
 refine' tkQ 3 14 hH0 ?hyv ?o4
 case hyv=>
  intro wz hSw;have zc0:=(hSw.cell (p:=⟨w.heap.size,2,none⟩) yA).trans a2;have zc1:=(hSw.cell (p:=⟨b,4,none⟩) yb).trans k4;have zc2:=(hSw.cell (p:=⟨x.g,oi,none⟩) yg).trans hcm;go_simp
  try rfl
 try simp only [Act.put,sT,sZ,sS]
 refine' tkR 4 15 hH0 ?o5
 refine' tkQ 5 16 hH0 ?hyv ?o6
 case hyv=>
  intro wz hSw;have zc0:=(hSw.cell (p:=⟨w.heap.size,2,none⟩) yA).trans a2;have zc1:=(hSw.cell (p:=⟨b,4,none⟩) yb).trans k4;have zc2:=(hSw.cell (p:=⟨x.g,oi,none⟩) yg).trans hcm;go_simp
  try rfl
 try simp only [Act.put,sT,sZ,sS]
 refine' tkR 6 17 hH0 ?o7
 refine' tkQ 7 18 hH0 ?hyv ?o8
 case hyv=>
  intro wz hSw;have zc0:=(hSw.cell (p:=⟨w.heap.size,2,none⟩) yA).trans a2;have zc1:=(hSw.cell (p:=⟨b,4,none⟩) yb).trans k4;have zc2:=(hSw.cell (p:=⟨x.g,oi,none⟩) yg).trans hcm;go_simp
  try rfl
 try simp only [Act.put,sT,sZ,sS]
 refine' tkR 8 10 hH0 ?o9
 refine zH (by kernel_rfl) ?_ _;have B3:=B2.trans (hH0.mono B2.size);have kA3:=(hH0.block _ (zG kA2)).trans kA2;have HB23:=zE hH0;generalize wd0=w3 at B3 kA3 HB23 ⊢;clear hH0 a2 yA yb yg k4 hcm kA2 HK HM;have HK3:=zE (HK2.out.under HB23.out);have HM3:=zE (HM2.out.under HB23.out);have B13:=b2.trans (HB23.out.mono b2.size);have HV3:=zE (HV.out.under B13);have HG3:=zE (HG.out.under B13);have HP3:=zE (HP.out.under B13);have HA3:=zE (HA.out.under B13);have HE3:=zE (HE.out.under B13);clear HK2 HM2 HV HG HP HA HE
 cases qm
 case true=>
  have HZ:=zE (show R=(8,m) by rw [HR1.out];rfl);clear HR1;go_wp2;go_ret;exact ⟨by rw [HZ.out];rfl,HK3.out,by rw [HZ.out];exact HM3.out,aside B3⟩
 case false=>
 have d0:=coQ kA3 0;have d1:=coQ kA3 1;have d2:=coQ kA3 2;have d3:=coQ kA3 3;have d4:=coQ kA3 4;have d5:=coQ kA3 5;simp at d0 d1 d2 d3 d4 d5;have hcF:=hasForm_any op k (oi:Int) n aA aE nA cA nE cE hc1 (by omega) w3 HP3.out;obtain ⟨qf,hqf⟩:=nmQ (Sk.hasForm op nA);rw [<-hqf] at hcF;have HQF:=zE hqf;have hX:=HR1.out;rw [if_neg (by simp),<-HAL.out,<-hqf] at hX;have HR2:=zE hX;clear hX;clear HR1 hqf;go_wp2_with fail;refine hcF.mono ?_;rintro e w4 ⟨rfl,b4⟩;have B4:=B3.trans (b4.mono B3.size);have kA4:=(b4.block _ (zG kA3)).trans kA3;have HK4:=zE (HK3.out.under b4);have HM4:=zE (HM3.out.under b4);have HV4:=zE (HV3.out.under b4);have HG4:=zE (HG3.out.under b4);have HA4:=zE (HA3.out.under b4);have HE4:=zE (HE3.out.under b4);clear hcF d0 d1 d2 d3 d4 d5 kA3 HK3 HM3 HV3 HG3 HP3 HA3 HE3
 cases qf
 case false=>
  have HZ:=zE (show R=(4,m) by rw [HR2.out];rfl);clear HR2;go_wp2;go_ret;exact ⟨by rw [HZ.out];rfl,HK4.out,by rw [HZ.out];exact HM4.out,aside B4⟩
 case true=>
 have d0:=coQ kA4 0;have d1:=coQ kA4 1;have d2:=coQ kA4 2;have d3:=coQ kA4 3;have d4:=coQ kA4 4;have d5:=coQ kA4 5;simp at d0 d1 d2 d3 d4 d5;have hco:=own_row op k (oi:Int) n aA aE nA cA nE cE HE4.out;have hel2:(Sk.ownE op E).length<=1000000:=(by unfold Sk.ownE;split;exact Nat.zero_le _;exact hEl);go_wp2_with fail;refine hco.mono ?_;rintro e w5 ⟨ea,en,ec,rfl,hE5,b5⟩;obtain ⟨ao5,cap5,ev5,hd1,hd2,-⟩:=hE5.at;injection ev5 with f1 f2 f3;rw [<-f2,<-f3] at hd1;rw [<-f3] at hd2;unfold maxLen at hd2;have HEN:=zE f2;clear f1 f2 f3 hE5;have hfl:(Instr.field 40 (.agg #[.int .i64 op,.int .i64 k,.int .i64 (oi:Int),.int .i64 n,.slice aA nA cA,.slice ea en ec]) 5).run Tryz.prog w5=.ok (.slice ea en ec) w5:=(by kernel_rfl);have B5:=B4.trans (b5.mono B4.size);have kA5:=(b5.block _ (zG kA4)).trans kA4;have HK5:=zE (HK4.out.under b5);have HM5:=zE (HM4.out.under b5);have HV5:=zE (HV4.out.under b5);have HG5:=zE (HG4.out.under b5);have HA5:=zE (HA4.out.under b5);have HE5:=zE (HE4.out.under b5);clear hco d0 d1 d2 d3 d4 d5 kA4 HK4 HM4 HV4 HG4 HA4 HE4;by_cases hq24:24<en
 case pos=>
  have hi24:(24:Int)<(en:Int):=(by omega);have HZ:=zE (show R=(7,m) by rw [HR2.out,if_neg (by simp),if_pos (by rw [<-HEN.out];exact hq24)]);clear HR2;go_wp2;go_ret;exact ⟨by rw [HZ.out];rfl,HK5.out,by rw [HZ.out];exact HM5.out,aside B5⟩
 case neg=>
 have hi24:¬(24:Int)<(en:Int):=(by omega);have hX:=HR2.out;rw [if_neg (by simp),if_neg (by rw [<-HEN.out];exact hq24)] at hX;have HR3:=zE hX;clear hX;clear HR2;have d0:=coQ kA5 0;have d1:=coQ kA5 1;have d2:=coQ kA5 2;have d3:=coQ kA5 3;have d4:=coQ kA5 4;have d5:=coQ kA5 5;simp at d0 d1 d2 d3 d4 d5;have hco:=own_row op k (oi:Int) n aA aE nA cA nE cE HE5.out;go_wp2_with fail;refine hco.mono ?_;rintro e w6 ⟨ea6,en6,ec6,rfl,hE6,b6⟩;have B6:=B5.trans (b6.mono B5.size);have kA6:=(b6.block _ (zG kA5)).trans kA5;have HK6:=zE (HK5.out.under b6);have HM6:=zE (HM5.out.under b6);have HV6:=zE (HV5.out.under b6);have HG6:=zE (HG5.out.under b6);have HA6:=zE (HA5.out.under b6);have HEX6:=zE (HE5.out.under b6);have hcu:=jI op k (oi:Int) n HA6.out hE6 hAl hel2;clear hco d0 d1 d2 d3 d4 d5 kA5 HK5 HM5 HV5 HG5 HA5 HE5 hE6;go_wp2_with fail;refine hcu.mono ?_;rintro e w7 ⟨u,rfl,own7,b7⟩;have B7:=B6.trans (b7.mono B6.size);have kA7:=(b7.block _ (zG kA6)).trans kA6;have HK7:=zE (HK6.out.under b7);have HM7:=zE (HM6.out.under b7);have HV7:=zE (HV6.out.under b7);have HG7:=zE (HG6.out.under b7);have HA7:=zE (HA6.out.under b7);have HE7:=zE (HEX6.out.under b7);have hcc:=qG (p:=Sk.isNone m.length) eg111 (zR own7.row) (a:=.pointer (some ⟨b,0,none⟩)) (fun z hz W hW=>by have:=qH (HK7.out.under hW) z;rw [HN.out] at this;exact this);obtain ⟨qu,hqu⟩:=nmQ ((usesT A (Sk.ownE op E)).any (Sk.isNone m.length));rw [<-hqu] at hcc;have hX:=HR3.out;rw [<-hqu] at hX;have HR4:=zE hX;clear hX;have HQU:=zE hqu;clear hcu kA6 HK6 HM6 HV6 HG6 HA6 HEX6 own7 hqu HR3;go_wp2_with fail;refine hcc.mono ?_;rintro e w8 ⟨rfl,b8⟩;have B8:=B7.trans (b8.mono B7.size);have kA8:=(b8.block _ (zG kA7)).trans kA7;have HK8:=zE (HK7.out.under b8);have HM8:=zE (HM7.out.under b8);have HV8:=zE (HV7.out.under b8);have HG8:=zE (HG7.out.under b8);have HA8:=zE (HA7.out.under b8);have HE8:=zE (HE7.out.under b8);clear hcc kA7 HK7 HM7 HV7 HG7 HA7 HE7
 cases qu
 case true=>
  have HZ:=zE (show R=(16,m) by rw [HR4.out];rfl);clear HR4;go_wp2;go_ret;exact ⟨by rw [HZ.out];rfl,HK8.out,by rw [HZ.out];exact HM8.out,aside B8⟩
 case false=>
 have d0:=coQ kA8 0;have d1:=coQ kA8 1;have d2:=coQ kA8 2;have d3:=coQ kA8 3;have d4:=coQ kA8 4;have d5:=coQ kA8 5;simp at d0 d1 d2 d3 d4 d5;have HUS:=zE (show ∀ z ∈ usesT A (Sk.ownE op E),0<=z/\z<V.length by
  intro z hz;rw [HVL.out];refine Sk.isNone_false.1 ?_;have:=List.any_eq_false.1 HQU.out.symm z hz
  simpa using this)
 have hcl:=lookFits_any (r:=⟨op,k,(oi:Int),n,A,E⟩) (y:=⟨aA,nA,cA,aE,nE,cE⟩) HK8.out HV8.out HVR.out HG8.out ⟨HA8.out,HE8.out⟩ (by show Sk.hasForm op A.length=true;rw [<-HAL.out];exact HQF.out.symm) (by show 0<=(oi:Int)/\(oi:Int)<V.length;have:=HVL.out;omega) (fun z hz=>HUS.out z (xC.2 (.inl hz))) (fun h14 p hp hnm=>HUS.out p.v (xC.2 (.inr ⟨p,(by have h15:(14:Int)<=op:=h14;unfold Sk.ownE;rw [if_neg (by omega)];exact hp),hnm,rfl⟩))) (fun h14=>by
  have h15:(14:Int)<=op:=h14;have e:Sk.ownE op E=E:=(by unfold Sk.ownE;rw [if_neg (by omega)]);have:=HEN.out;rw [e] at this
  show E.length<=24
  omega)
 dsimp only at hcl
 obtain ⟨qt,hqt⟩:=nmQ (Sk.fitsR V ⟨op,k,(oi:Int),n,A,E⟩);rw [<-hqt] at hcl;have hX:=HR4.out;rw [if_neg (by simp),<-hqt] at hX;have HR5:=zE hX;clear hX;clear hqt HR4;go_wp2_with fail;refine hcl.mono ?_;rintro e w9 ⟨rfl,b9⟩;have B9:=B8.trans (b9.mono B8.size);have kA9:=(b9.block _ (zG kA8)).trans kA8;have HK9:=zE (HK8.out.under b9);have HM9:=zE (HM8.out.under b9);clear hcl d0 d1 d2 d3 d4 d5 kA8 HK8 HM8 HV8 HG8 HA8 HE8
 cases qt
 case false=>
  have HZ:=zE (show R=(10,m) by rw [HR5.out];rfl);clear HR5;go_wp2;go_ret;exact ⟨by rw [HZ.out];rfl,HK9.out,by rw [HZ.out];exact HM9.out,aside B9⟩
 case true=>
 have HZ:=zE (show R=(0,m.set oi true) by rw [HR5.out,if_neg (by simp)]);clear HR5;have k4:=coQ HK9.out 4;simp at k4;have a2:=coQ kA9 2;simp at a2;have yA:=zG kA9;have yb:b<w9.heap.size:=Nat.lt_of_lt_of_le hbw B9.size;have yg:x.g<w9.heap.size:=Nat.lt_of_lt_of_le hgw B9.size;have hcm:=HM9.out.cell hoi;have hfr:=foQ HM9.out oi;go_upto_region 13 with fail;refine zK (fun w'=>Below w9.heap.size w9 w') (fun i=>i==7) (by kernel_rfl) ?_;have hH0:Below w9.heap.size w9 w9.drew:=(Below.refl _ _).drew;generalize w9.drew=wd0 at hH0 ⊢;refine' tkR 0 41 hH0 ?o10
 refine' tkR 1 42 hH0 ?o11
 refine' tkR 2 43 hH0 ?o12
 refine' tkQ 3 44 hH0 ?hyv ?o13
 case hyv=>
  intro wz hSw;have zc0:=(hSw.cell (p:=⟨w.heap.size,2,none⟩) yA).trans a2;have zc1:=(hSw.cell (p:=⟨b,4,none⟩) yb).trans k4;have zc2:=(hSw.cell (p:=⟨x.g,oi,none⟩) yg).trans hcm;go_simp
  try rfl
 try simp only [Act.put,sT,sZ,sS]
 refine' tkR 4 45 hH0 ?o14
 refine' tkQ 5 46 hH0 ?hyv ?o15
 case hyv=>
  intro wz hSw;have zc0:=(hSw.cell (p:=⟨w.heap.size,2,none⟩) yA).trans a2;have zc1:=(hSw.cell (p:=⟨b,4,none⟩) yb).trans k4;have zc2:=(hSw.cell (p:=⟨x.g,oi,none⟩) yg).trans hcm;go_simp
  try rfl
 try simp only [Act.put,sT,sZ,sS]
 refine' tkR 6 47 hH0 ?o16
 refine tnQ 7 (fun K hK=>?_);have MD:=HM9.out.under hH0;have LK:=HK9.out.under hH0;have cm2:=MD.cell hoi;have fr2:=foQ MD oi;have HEND:=zE (And.intro (Md.put MD hoi true) (And.intro (show LkAt (wd0.setCell ⟨x.g,oi,none⟩ (.bool true)) b x from zP LK (by show x.g≠b;exact fun e=>HBG.out e.symm) _) ((show Aside [x.g] w.heap.size w wd0 from aside (B9.trans (hH0.mono B9.size))).trans (Aside.setCell (B:=w.heap.size) (p:=⟨x.g,oi,none⟩) (by simp) (.bool true)) zM)));clear MD LK;go_simp;refine hK.out _ _ (fun h=>absurd h (by decide)) ?_;clear hK K
 try simp only [Act.put,sT,sZ,sS]
 generalize wd0.setCell ⟨x.g,oi,none⟩ (.bool true)=wd1 at HEND ⊢;refine zH (by kernel_rfl) ?_ _;go_wp2;go_ret;exact ⟨by rw [HZ.out];rfl,HEND.out.2.1,by rw [HZ.out];exact HEND.out.1,HEND.out.2.2⟩
theorem zAd {ok okR:Nat->Prop} {w:World} {b:Nat} {x:LkV} {V:List Sk.Vr} {m:List Bool} {r:Sk.Ru} {y:RuV} (hk:LkAt w b x) (hm:Md w x.g m) (hn:x.nV=m.length) (hbg:b≠x.g) (hV:HVars ok w (.slice x.aV x.nV x.cV) V) (hVr:∀ v ∈ V,Sk.VrOk v) (hG:GlobK w) (hP:GlobP w) (hR:HRu okR w y r) (hAl:r.A.length<=1000000) (hEl:r.E.length<=1000000) :
  Calls Tryz.prog 93 #[.pointer (some ⟨b,0,none⟩),.agg #[.int .i64 r.op,.int .i64 r.k,.int .i64 r.out,.int .i64 r.n,.slice y.aA y.nA y.cA,.slice y.aE y.nE y.cE]] w fun e w'=>e=.returned (.int .i64 (Sk.codeRule V m r).1)/\LkAt w' b x/\Md w' x.g (Sk.codeRule V m r).2/\Aside [x.g] w.heap.size w w':=by
 obtain ⟨op,k,out,n,A,E⟩:=r;obtain ⟨aA,nA,cA,aE,nE,cE⟩:=y;exact zAG hk hm hn hbg hV hVr hG hP hR.A hR.E hAl hEl
end Go.Proofs.YtegakbobaecdlaaGreatDoor
