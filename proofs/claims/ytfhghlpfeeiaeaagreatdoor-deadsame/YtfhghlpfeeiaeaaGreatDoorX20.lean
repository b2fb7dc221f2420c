import Derived.Test.YtfhghlpfeeiaeaaGreatDoorX19
import Derived.Deep.Cut
import Derived.Deep.LoopGhost
import Derived.IntWalk
import Derived.Laws.Cover1
import Derived.Lib.Hide
import Derived.Lib.MakeNoZero
import Derived.WalkKit
import Derived.WalkSpells
import Derived.Ground.NamesProg
import Derived.Laws.Externs
import Derived.Lib.SlBuf
import Derived.Shelf.Bytes.SlSmallAll
import Derived.Shelf.Lay
set_option linter.unusedVariables false
set_option linter.unusedSimpArgs false
set_option maxHeartbeats 64000000
set_option maxRecDepth 100000
namespace Go.Proofs.YtfhghlpfeeiaeaaGreatDoor
open Go.RowKit Go.IntWalk
namespace Sk
def idxI (p:Int->Bool):Nat->List Int->Int
 | _,[] => -1
 | i,x :: r=>if p x=true then (i:Int) else idxI p (i+1) r
theorem idxI_neg (p:Int->Bool):∀ (l:List Int) (i:Nat),(0<=idxI p i l↔l.any p=true)/\(l.any p=false->idxI p i l = -1)
 | [],i=>by simp [idxI]
 | x :: r,i=>by
  unfold idxI;by_cases h:p x=true
  ·rw [if_pos h]
   simp [h]
  ·rw [if_neg h]
   have:=idxI_neg p r (i+1);simp [h]
   simpa using this
end Sk
theorem zAu {ok:Nat->Prop} {w:World} {v:Value} {l:List Int} {N:Nat} {a:Value} {p:Int->Bool} (eg:∀ args w,(callFunc N args).run Tryz.prog w=.ok (.enter N args) w) (hl:HInts ok w v l) (hp:∀ x ∈ l,∀ W,Below w.heap.size w W->Calls Tryz.prog N #[a,.int .i64 x] W fun e W'=>e=.returned (.bool (p x))/\Below W.heap.size W W') :
  Calls Tryz.prog 79 #[v,.func (.func N) #[a] #[]] w fun e w'=>e=.returned (.int .i64 (Sk.idxI p 0 l))/\Below w.heap.size w w':=by
 obtain ⟨ao,cap,rfl,bH,cG,-⟩:=hl.at;unfold maxLen at cG;obtain ⟨R,hR⟩:=nmQ (Sk.idxI p 0 l);rw [<-hR];have HR:=zBK (show R=Sk.idxI p 0 (l.drop 0) by rw [List.drop_zero];exact hR);have HL:=zBK hl;have HP:=zBK hp;clear hR hl hp;obtain ⟨n,hn⟩:=nmQ (l.length);rw [<-hn] at bH ⊢;have HN:=zBK hn;clear hn;go_enter Tryz.func79,Tryz.ntmps79;go_wp2_with fail;go_loopg [8] n (fun k v wr=>∃ i,i<=n/\k=n-i/\v=.int .i64 (i:Nat)/\Hid (R=Sk.idxI p i (l.drop i))/\Below w.heap.size w wr)
 case atStart=>exact ⟨0,Nat.zero_le _,rfl,rfl,HR,Below.refl _ _⟩
 case round=>
  clear HR;obtain ⟨i,hi,rfl,rfl,H,aH⟩:=hrel;by_cases bd:i<n
  case neg=>
   have bp:i=n:=(by omega);subst bp;have e1:l.drop i=[]:=List.drop_of_length_le (by have:=HN.out;omega);have HZ:=zBK (show R = -1 by rw [H.out,e1];rfl);clear e1;go_wp2;go_ret;exact ⟨by rw [HZ.out];rfl,aH⟩
  case pos=>
   have dj:i<l.length:=(by have:=HN.out;omega);have hdr:l.drop i=l[i] :: l.drop (i+1):=List.drop_eq_getElem_cons dj;have bY:=H.out;rw [hdr] at bY;obtain ⟨gw,dk,eqs,-,-,bg⟩:=(HL.out.under aH).at;injection eqs with q1 q2 q3;subst q1;obtain ⟨bb,o,rfl,hb,e0⟩:=bg i dj;obtain ⟨y,hy⟩:=nmQ (l[i]);have hc:=HP.out y (by rw [hy];exact List.getElem_mem dj) wr aH;rw [<-hy] at e0 bY;unfold Sk.idxI at bY;generalize p y=q at hc bY;have cq:=zBK bY;clear bg q2 q3 hy hdr bY H;go_wp2_with fail;refine hc.mono ?_;rintro e w4 ⟨rfl,b4⟩;have B4:=aH.trans (b4.mono aH.size);clear hc
   cases q
   case false=>
    have HZ:Hid (R=Sk.idxI p (i+1) (l.drop (i+1))):=zBK (by rw [cq.out];simp);clear cq;go_wp2_with fail;go_roundg (n-(i+1))
    case measure=>omega
    case rel=>exact ⟨i+1,by omega,rfl,by go_num,HZ,B4⟩
   case true=>
    have HZ:Hid (R=(i:Int)):=zBK (by rw [cq.out];simp);clear cq;go_wp2;go_ret;exact ⟨by rw [HZ.out];rfl,B4⟩
theorem zDB {ok:Nat->Prop} {w:World} {v:Value} {l:List Int} {N:Nat} {a:Value} {p:Int->Bool} (eg:∀ args w,(callFunc N args).run Tryz.prog w=.ok (.enter N args) w) (hl:HInts ok w v l) (hp:∀ x ∈ l,∀ W,Below w.heap.size w W->Calls Tryz.prog N #[a,.int .i64 x] W fun e W'=>e=.returned (.bool (p x))/\Below W.heap.size W W') :
  Calls Tryz.prog 70 #[v,.func (.func N) #[a] #[]] w fun e w'=>e=.returned (.bool (l.any p))/\Below w.heap.size w w':=by
 have hc:=zAu eg hl hp;have hi:=Sk.idxI_neg p l 0;obtain ⟨ao,cap,rfl,-⟩:=hl.at;generalize Sk.idxI p 0 l=R at hc hi;have HI:=zBK hi;clear hi hl hp eg;generalize l.any p=q at HI ⊢;go_enter Tryz.func70,Tryz.ntmps70;go_wp2_with fail;refine hc.mono ?_;rintro e w4 ⟨rfl,b4⟩;have hq:(decide (0<=R))=q:=by
  have:=HI.out.1
  cases q<;>simp at this ⊢<;>omega
 go_wp2;go_ret;exact ⟨by rw [<-hq];rfl,b4⟩
end Go.Proofs.YtfhghlpfeeiaeaaGreatDoor
namespace Go.Proofs.YtfhghlpfeeiaeaaGreatDoor
open Go.RowKit Go.IntWalk
theorem hasForm_any (op k out n:Int) (aA aE:Option Addr) (nA cA nE cE:Nat) (hA:nA<=cA) (la:cA<=9223372036854775807) (w:World) (hP:GlobP w) :
  Calls Tryz.prog 68 #[.agg #[.int .i64 op,.int .i64 k,.int .i64 out,.int .i64 n,.slice aA nA cA,.slice aE nE cE]] w fun e w'=>e=.returned (.bool (Sk.hasForm op nA))/\Below w.heap.size w w':=by
 by_cases h1:op<1
 ·have e:Sk.hasForm op nA=false:=by unfold Sk.hasForm;rw [decide_eq_false (by omega:¬1<=op)];rfl
  rw [e];exact hasForm_low op k out n aA aE nA cA nE cE hA la h1 w hP
 ·by_cases h2:16<op
  ·have e:Sk.hasForm op nA=false:=by unfold Sk.hasForm;rw [decide_eq_false (by omega:¬op<=16),Bool.and_false];rfl
   rw [e];exact hasForm_high op k out n aA aE nA cA nE cE hA la h2 w hP
  ·obtain ⟨j,rfl⟩:∃ j:Nat,op=(j:Int):=⟨op.toNat,by omega⟩
   have e:Sk.hasForm (j:Int) nA=((nA:Int)==Sk.partsT.getD j 0):=(by unfold Sk.hasForm;rw [decide_eq_true (by omega:1<=(j:Int)),decide_eq_true (by omega:(j:Int)<=16),Int.toNat_natCast];rfl);rw [e];exact hasForm_mid j k out n aA aE nA cA nE cE hA la (by omega) (by omega) w hP
theorem eg111:∀ args w,(callFunc 67 args).run Tryz.prog w=.ok (.enter 67 args) w:=enters_of Tryz.func67 (by kernel_rfl) rfl
theorem zAS {ok mH:Nat->Prop} {w:World} {b:Nat} {x:LkV} {V:List Sk.Vr} {m:List Bool} {op k out n:Int} {aA aE:Option Addr} {nA cA nE cE:Nat} {A:List Int} {E:List Pu} (hk:LkAt w b x) (hm:Md w x.g m) (hn:x.nV=m.length) (gx:b≠x.g) (hV:HVars ok w (.slice x.aV x.nV x.cV) V) (gj:∀ v ∈ V,Sk.VrOk v) (hG:GlobK w) (hP:GlobP w) (hA:HInts mH w (.slice aA nA cA) A) (hE:HPu mH w (.slice aE nE cE) E) (dm:A.length<=1000000) (fo:E.length<=1000000) :
  Calls Tryz.prog 52 #[.pointer (some ⟨b,0,none⟩),.agg #[.int .i64 op,.int .i64 k,.int .i64 out,.int .i64 n,.slice aA nA cA,.slice aE nE cE]] w fun e w'=>e=.returned (.int .i64 (Sk.codeRule V m ⟨op,k,out,n,A,E⟩).1)/\LkAt w' b x/\Md w' x.g (Sk.codeRule V m ⟨op,k,out,n,A,E⟩).2/\Aside [x.g] w.heap.size w w':=by
 obtain ⟨R,hR⟩:=nmQ (Sk.codeRule V m ⟨op,k,out,n,A,E⟩);rw [<-hR];unfold Sk.codeRule at hR
 dsimp only at hR
 obtain ⟨ao,cap,ev,bH,cG,-⟩:=hA.at;injection ev with e1 e2 e3;rw [<-e2,<-e3] at bH;rw [<-e3] at cG;unfold maxLen at cG;have eI:=zBK e2;obtain ⟨gw,dk,NT,-⟩:=hV.at;injection NT with NJ NK NL;have fF:=zBK (show V.length=m.length by omega);clear e1 e2 e3 NJ NK NL;have b1:Below w.heap.size w (w.alloc (.cells #[.int .i64 op,.int .i64 k,.int .i64 out,.int .i64 n,.slice aA nA cA,.slice aE nE cE] 42 (0,0))):=(Below.refl _ _).alloc zBR _;have kA:=zBO w (.cells #[.int .i64 op,.int .i64 k,.int .i64 out,.int .i64 n,.slice aA nA cA,.slice aE nE cE] 42 (0,0));have fZ:=hk.under b1;have fM:=hm.under b1;have Bm:=zCK fZ out;rw [hn] at Bm;have HK:=zBK fZ;have HM:=zBK fM;have HV:=zBK (hV.under b1);have HG:=zBK (hG.under b1);have HP:=zBK (hP.under b1);have HA:=zBK (hA.under b1);have HE:=zBK (hE.under b1);have kv:=zBK gj;have HN:=zBK hn;have zN:=zBK gx;have su:b<w.heap.size:=zBM hk;have jy:x.g<w.heap.size:=zBM hm;clear hk hm hV hG hP hA hE gj hn gx fZ fM;obtain ⟨q0,eZ⟩:=nmQ (Sk.isNone m.length out);rw [<-eZ] at Bm hR;have M3:=zBK eZ;have HR:=zBK hR;clear eZ hR;go_enter Tryz.func52,Tryz.ntmps52;go_upto_region 1 with fail;generalize w.alloc (.cells #[.int .i64 op,.int .i64 k,.int .i64 out,.int .i64 n,.slice aA nA cA,.slice aE nE cE] 42 (0,0))=w1 at b1 kA Bm HK HM HV HG HP HA HE ⊢;have c0:=coQ kA 0;have c1:=coQ kA 1;have c2:=coQ kA 2;have c3:=coQ kA 3;have c4:=coQ kA 4;have c5:=coQ kA 5;simp at c0 c1 c2 c3 c4 c5;go_wp2_with fail;refine Bm.mono ?_;rintro e w2 ⟨rfl,b2⟩;have B2:=b1.trans (b2.mono b1.size);have kc:=(b2.block _ (zBM kA)).trans kA;have qN:=zBK (HK.out.under b2);have tD:=zBK (HM.out.under b2);clear Bm c0 c1 c2 c3 c4 c5
 cases q0
 case true=>
  have HZ:=zBK (show R=(16,m) by rw [HR.out];rfl);clear HR;go_wp2;go_ret;exact ⟨by rw [HZ.out];rfl,qN.out,by rw [HZ.out];exact tD.out,aside B2⟩
 case false=>
 have Hg:=Sk.isNone_false.1 M3.out.symm;obtain ⟨oi,rfl⟩:∃ oi:Nat,out=(oi:Int):=⟨out.toNat,by omega⟩;have xu:oi<m.length:=(by omega);obtain ⟨qm,zh⟩:=nmQ (m.getD oi false);have jU:w2.cell? ⟨x.g,oi,none⟩=some (.bool qm):=by
  rw [tD.out.cell xu,zh];simp [List.getD_eq_getElem?_getD,xu]
 have Pc:oi<x.nV:=(by have:=HN.out;omega);have k4:=coQ qN.out 4;simp at k4;have yb:b<w2.heap.size:=Nat.lt_of_lt_of_le su B2.size;have yg:x.g<w2.heap.size:=Nat.lt_of_lt_of_le jy B2.size;have yA:=zBM kc;have a2:=coQ kc 2;simp at a2;have hX:=HR.out;rw [if_neg (by simp),Int.toNat_natCast,<-zh] at hX;have cq:=zBK hX;clear hX;have QD:=zBK zh;clear zh HR Hg;go_upto_region 3 with fail;have aM:=zBK (fun (wz:World) (hSw:Below w2.heap.size w2 wz)=>And.intro ((hSw.cell (p:=⟨w.heap.size,2,none⟩) yA).trans a2) (And.intro ((hSw.cell (p:=⟨b,4,none⟩) yb).trans k4) ((hSw.cell (p:=⟨x.g,oi,none⟩) yg).trans jU)));refine zBP (fun w'=>Below w2.heap.size w2 w') (fun _=>false) (by kernel_rfl) ?_;have ab:Below w2.heap.size w2 w2.drew:=(Below.refl _ _).drew;generalize w2.drew=ag at ab ⊢;refine' tkR 0 11 ab ?o1
 refine' tkR 1 12 ab ?o2
 refine' tkR 2 13 ab ?o3
 refine' tkQ 3 14 ab ?hyv ?o4
 case hyv=>
  intro wz hSw;have bk:=aM.out wz hSw;go_simp
  try rfl
 try simp only [Act.put,sT,sZ,sS]
 refine' tkR 4 15 ab ?o5
 refine' tkQ 5 16 ab ?hyv ?o6
 case hyv=>
  intro wz hSw;have bk:=aM.out wz hSw;go_simp
  try rfl
 try simp only [Act.put,sT,sZ,sS]
 refine' tkR 6 17 ab ?o7
 refine' tkQ 7 18 ab ?hyv ?o8
 case hyv=>
  intro wz hSw;have bk:=aM.out wz hSw;go_simp
  try rfl
 try simp only [Act.put,sT,sZ,sS]
 refine' tkR 8 10 ab ?o9
 refine zBN (by kernel_rfl) ?_ _;have B3:=B2.trans (ab.mono B2.size);have rB:=(ab.block _ (zBM kc)).trans kc;have rJ:=zBK ab;generalize ag=w3 at B3 rB rJ ⊢;clear ab a2 yA yb yg k4 jU kc HK HM;have EX:=zBK (qN.out.under rJ.out);have Fc:=zBK (tD.out.under rJ.out);have zI:=b2.trans (rJ.out.mono b2.size);have Jy:=zBK (HV.out.under zI);have I3:=zBK (HG.out.under zI);have rZ:=zBK (HP.out.under zI);have IG:=zBK (HA.out.under zI);have yq:=zBK (HE.out.under zI);clear qN tD HV HG HP HA HE
 cases qm
 case true=>
  have HZ:=zBK (show R=(8,m) by rw [cq.out];rfl);clear cq;go_wp2;go_ret;exact ⟨by rw [HZ.out];rfl,EX.out,by rw [HZ.out];exact Fc.out,aside B3⟩
 case false=>
 have d0:=coQ rB 0;have d1:=coQ rB 1;have d2:=coQ rB 2;have d3:=coQ rB 3;have d4:=coQ rB 4;have d5:=coQ rB 5;simp at d0 d1 d2 d3 d4 d5;have yY:=hasForm_any op k (oi:Int) n aA aE nA cA nE cE bH (by omega) w3 rZ.out;obtain ⟨qf,j6⟩:=nmQ (Sk.hasForm op nA);rw [<-j6] at yY;have mj:=zBK j6;have hX:=cq.out;rw [if_neg (by simp),<-eI.out,<-j6] at hX;have qX:=zBK hX;clear hX;clear cq j6;go_wp2_with fail;refine yY.mono ?_;rintro e w4 ⟨rfl,b4⟩;have B4:=B3.trans (b4.mono B3.size);have sY:=(b4.block _ (zBM rB)).trans rB;have EY:=zBK (EX.out.under b4);have Fe:=zBK (Fc.out.under b4);have Jz:=zBK (Jy.out.under b4);have I4:=zBK (I3.out.under b4);have II:=zBK (IG.out.under b4);have EH:=zBK (yq.out.under b4);clear yY d0 d1 d2 d3 d4 d5 rB EX Fc Jy I3 rZ IG yq
 cases qf
 case false=>
  have HZ:=zBK (show R=(4,m) by rw [qX.out];rfl);clear qX;go_wp2;go_ret;exact ⟨by rw [HZ.out];rfl,EY.out,by rw [HZ.out];exact Fe.out,aside B4⟩
 case true=>
 have d0:=coQ sY 0;have d1:=coQ sY 1;have d2:=coQ sY 2;have d3:=coQ sY 3;have d4:=coQ sY 4;have d5:=coQ sY 5;simp at d0 d1 d2 d3 d4 d5;have gy:=own_row op k (oi:Int) n aA aE nA cA nE cE EH.out;have sB:(Sk.ownE op E).length<=1000000:=(by unfold Sk.ownE;split;exact Nat.zero_le _;exact fo);go_wp2_with fail;refine gy.mono ?_;rintro e w5 ⟨ea,en,ec,rfl,Km,b5⟩;obtain ⟨Nr,FW,F3,Bp,y6,-⟩:=Km.at;injection F3 with f1 f2 f3;rw [<-f2,<-f3] at Bp;rw [<-f3] at y6;unfold maxLen at y6;have EL:=zBK f2;clear f1 f2 f3 Km;have Rk:(Instr.field 42 (.agg #[.int .i64 op,.int .i64 k,.int .i64 (oi:Int),.int .i64 n,.slice aA nA cA,.slice ea en ec]) 5).run Tryz.prog w5=.ok (.slice ea en ec) w5:=(by kernel_rfl);have B5:=B4.trans (b5.mono B4.size);have s8:=(b5.block _ (zBM sY)).trans sY;have EZ:=zBK (EY.out.under b5);have Ff:=zBK (Fe.out.under b5);have JA:=zBK (Jz.out.under b5);have Dh:=zBK (I4.out.under b5);have IJ:=zBK (II.out.under b5);have EI:=zBK (EH.out.under b5);clear gy d0 d1 d2 d3 d4 d5 sY EY Fe Jz I4 II EH;by_cases hq24:24<en
 case pos=>
  have GM:(24:Int)<(en:Int):=(by omega);have HZ:=zBK (show R=(7,m) by rw [qX.out,if_neg (by simp),if_pos (by rw [<-EL.out];exact hq24)]);clear qX;go_wp2;go_ret;exact ⟨by rw [HZ.out];rfl,EZ.out,by rw [HZ.out];exact Ff.out,aside B5⟩
 case neg=>
 have GM:¬(24:Int)<(en:Int):=(by omega);have hX:=qX.out;rw [if_neg (by simp),if_neg (by rw [<-EL.out];exact hq24)] at hX;have Jq:=zBK hX;clear hX;clear qX;have d0:=coQ s8 0;have d1:=coQ s8 1;have d2:=coQ s8 2;have d3:=coQ s8 3;have d4:=coQ s8 4;have d5:=coQ s8 5;simp at d0 d1 d2 d3 d4 d5;have gy:=own_row op k (oi:Int) n aA aE nA cA nE cE EI.out;go_wp2_with fail;refine gy.mono ?_;rintro e w6 ⟨Q5,Q8,Q6,rfl,Kn,b6⟩;have B6:=B5.trans (b6.mono B5.size);have H8:=(b6.block _ (zBM s8)).trans s8;have I9:=zBK (EZ.out.under b6);have Jg:=zBK (Ff.out.under b6);have JB:=zBK (JA.out.under b6);have I5:=zBK (Dh.out.under b6);have Eu:=zBK (IJ.out.under b6);have zQ:=zBK (EI.out.under b6);have ld:=zCm op k (oi:Int) n Eu.out Kn dm sB;clear gy d0 d1 d2 d3 d4 d5 s8 EZ Ff JA Dh IJ EI Kn;go_wp2_with fail;refine ld.mono ?_;rintro e w7 ⟨u,rfl,CX,b7⟩;have B7:=B6.trans (b7.mono B6.size);have xT:=(b7.block _ (zBM H8)).trans H8;have E0:=zBK (I9.out.under b7);have Jh:=zBK (Jg.out.under b7);have JC:=zBK (JB.out.under b7);have I6:=zBK (I5.out.under b7);have zK:=zBK (Eu.out.under b7);have I0:=zBK (zQ.out.under b7);have eh:=zDB (p:=Sk.isNone m.length) eg111 (zBj CX.row) (a:=.pointer (some ⟨b,0,none⟩)) (fun z hz W hW=>by have:=zCK (E0.out.under hW) z;rw [HN.out] at this;exact this);obtain ⟨qu,D4⟩:=nmQ ((usesT A (Sk.ownE op E)).any (Sk.isNone m.length));rw [<-D4] at eh;have hX:=Jq.out;rw [<-D4] at hX;have Du:=zBK hX;clear hX;have M4:=zBK D4;clear ld H8 I9 Jg JB I5 Eu zQ CX D4 Jq;go_wp2_with fail;refine eh.mono ?_;rintro e w8 ⟨rfl,b8⟩;have B8:=B7.trans (b8.mono B7.size);have lf:=(b8.block _ (zBM xT)).trans xT;have Dk:=zBK (E0.out.under b8);have eN:=zBK (Jh.out.under b8);have JD:=zBK (JC.out.under b8);have eQ:=zBK (I6.out.under b8);have mP:=zBK (zK.out.under b8);have pe:=zBK (I0.out.under b8);clear eh xT E0 Jh JC I6 zK I0
 cases qu
 case true=>
  have HZ:=zBK (show R=(16,m) by rw [Du.out];rfl);clear Du;go_wp2;go_ret;exact ⟨by rw [HZ.out];rfl,Dk.out,by rw [HZ.out];exact eN.out,aside B8⟩
 case false=>
 have d0:=coQ lf 0;have d1:=coQ lf 1;have d2:=coQ lf 2;have d3:=coQ lf 3;have d4:=coQ lf 4;have d5:=coQ lf 5;simp at d0 d1 d2 d3 d4 d5;have mm:=zBK (show ∀ z ∈ usesT A (Sk.ownE op E),0<=z/\z<V.length by
  intro z hz;rw [fF.out];refine Sk.isNone_false.1 ?_;have:=List.any_eq_false.1 M4.out.symm z hz
  simpa using this)
 have gE:=lookFits_any (r:=⟨op,k,(oi:Int),n,A,E⟩) (y:=⟨aA,nA,cA,aE,nE,cE⟩) Dk.out JD.out kv.out eQ.out ⟨mP.out,pe.out⟩ (by show Sk.hasForm op A.length=true;rw [<-eI.out];exact mj.out.symm) (by show 0<=(oi:Int)/\(oi:Int)<V.length;have:=fF.out;omega) (fun z hz=>mm.out z (zBi.2 (.inl hz))) (fun mX p hp oJ=>mm.out p.v (zBi.2 (.inr ⟨p,(by have yN:(14:Int)<=op:=mX;unfold Sk.ownE;rw [if_neg (by omega)];exact hp),oJ,rfl⟩))) (fun mX=>by
  have yN:(14:Int)<=op:=mX;have e:Sk.ownE op E=E:=(by unfold Sk.ownE;rw [if_neg (by omega)]);have:=EL.out;rw [e] at this
  show E.length<=24
  omega)
 dsimp only at gE
 obtain ⟨qt,Hf⟩:=nmQ (Sk.fitsR V ⟨op,k,(oi:Int),n,A,E⟩);rw [<-Hf] at gE;have hX:=Du.out;rw [if_neg (by simp),<-Hf] at hX;have Dv:=zBK hX;clear hX;clear Hf Du;go_wp2_with fail;refine gE.mono ?_;rintro e w9 ⟨rfl,b9⟩;have B9:=B8.trans (b9.mono B8.size);have xV:=(b9.block _ (zBM lf)).trans lf;have E1:=zBK (Dk.out.under b9);have Dl:=zBK (eN.out.under b9);clear gE d0 d1 d2 d3 d4 d5 lf Dk eN JD eQ mP pe
 cases qt
 case false=>
  have HZ:=zBK (show R=(10,m) by rw [Dv.out];rfl);clear Dv;go_wp2;go_ret;exact ⟨by rw [HZ.out];rfl,E1.out,by rw [HZ.out];exact Dl.out,aside B9⟩
 case true=>
 have HZ:=zBK (show R=(0,m.set oi true) by rw [Dv.out,if_neg (by simp)]);clear Dv;have k4:=coQ E1.out 4;simp at k4;have a2:=coQ xV 2;simp at a2;have yA:=zBM xV;have yb:b<w9.heap.size:=Nat.lt_of_lt_of_le su B9.size;have yg:x.g<w9.heap.size:=Nat.lt_of_lt_of_le jy B9.size;have jU:=Dl.out.cell xu;have jV:=foQ Dl.out oi;go_upto_region 13 with fail;have aM:=zBK (fun (wz:World) (hSw:Below w9.heap.size w9 wz)=>And.intro ((hSw.cell (p:=⟨w.heap.size,2,none⟩) yA).trans a2) (And.intro ((hSw.cell (p:=⟨b,4,none⟩) yb).trans k4) ((hSw.cell (p:=⟨x.g,oi,none⟩) yg).trans jU)));refine zBP (fun w'=>Below w9.heap.size w9 w') (fun i=>i==7) (by kernel_rfl) ?_;have ab:Below w9.heap.size w9 w9.drew:=(Below.refl _ _).drew;generalize w9.drew=ag at ab ⊢;refine' tkR 0 41 ab ?o10
 refine' tkR 1 42 ab ?o11
 refine' tkR 2 43 ab ?o12
 refine' tkQ 3 44 ab ?hyv ?o13
 case hyv=>
  intro wz hSw;have bk:=aM.out wz hSw;go_simp
  try rfl
 try simp only [Act.put,sT,sZ,sS]
 refine' tkR 4 45 ab ?o14
 refine' tkQ 5 46 ab ?hyv ?o15
 case hyv=>
  intro wz hSw;have bk:=aM.out wz hSw;go_simp
  try rfl
 try simp only [Act.put,sT,sZ,sS]
 refine' tkR 6 47 ab ?o16
 refine tnQ 7 (fun K hK=>?_);have MD:=Dl.out.under ab;have LK:=E1.out.under ab;have QT:=MD.cell xu;have rh:=foQ MD oi;have gA:=zBK (And.intro (Md.put MD xu true) (And.intro (show LkAt (ag.setCell ⟨x.g,oi,none⟩ (.bool true)) b x from zBT LK (by show x.g≠b;exact fun e=>zN.out e.symm) _) ((show Aside [x.g] w.heap.size w ag from aside (B9.trans (ab.mono B9.size))).trans (Aside.setCell (B:=w.heap.size) (p:=⟨x.g,oi,none⟩) (by simp) (.bool true)) zBR)));clear MD LK;go_simp;refine hK.out _ _ (fun h=>absurd h (by decide)) ?_;clear hK K
 try simp only [Act.put,sT,sZ,sS]
 generalize ag.setCell ⟨x.g,oi,none⟩ (.bool true)=aw at gA ⊢;refine zBN (by kernel_rfl) ?_ _;go_wp2;go_ret;exact ⟨by rw [HZ.out];rfl,gA.out.2.1,by rw [HZ.out];exact gA.out.1,gA.out.2.2⟩
theorem zAv {ok mH:Nat->Prop} {w:World} {b:Nat} {x:LkV} {V:List Sk.Vr} {m:List Bool} {r:Sk.Ru} {y:RuV} (hk:LkAt w b x) (hm:Md w x.g m) (hn:x.nV=m.length) (gx:b≠x.g) (hV:HVars ok w (.slice x.aV x.nV x.cV) V) (gj:∀ v ∈ V,Sk.VrOk v) (hG:GlobK w) (hP:GlobP w) (hR:HRu mH w y r) (dm:r.A.length<=1000000) (fo:r.E.length<=1000000) :
  Calls Tryz.prog 52 #[.pointer (some ⟨b,0,none⟩),.agg #[.int .i64 r.op,.int .i64 r.k,.int .i64 r.out,.int .i64 r.n,.slice y.aA y.nA y.cA,.slice y.aE y.nE y.cE]] w fun e w'=>e=.returned (.int .i64 (Sk.codeRule V m r).1)/\LkAt w' b x/\Md w' x.g (Sk.codeRule V m r).2/\Aside [x.g] w.heap.size w w':=by
 obtain ⟨op,k,out,n,A,E⟩:=r;obtain ⟨aA,nA,cA,aE,nE,cE⟩:=y;exact zAS hk hm hn gx hV gj hG hP hR.A hR.E dm fo
end Go.Proofs.YtfhghlpfeeiaeaaGreatDoor
namespace Go.Proofs.YtfhghlpfeeiaeaaGreatDoor
open Go.RowKit Go.IntWalk
theorem zBL {S:List Nat} {B:Nat} {w w':World} (h:Aside S B w w') {p:Addr} (hp:p.block<B) (hs:p.block ∉ S):w'.cell? p=w.cell? p:=by
 unfold World.cell?;rw [h.block p.block hp hs]
theorem glob_aside {S:List Nat} {B:Nat} {w w':World} (h:GlobK w) (a:Aside S B w w') (hS:1 ∉ S) (hB:1<B:=by omega):GlobK w':=by
 refine ⟨Nat.lt_of_lt_of_le h.1 a.size,fun k hk=>?_⟩;obtain ⟨h0,h1,h2⟩:=h.2 k hk;exact ⟨(zBL a (p:=⟨1,k*3,none⟩) hB hS).trans h0,(zBL a (p:=⟨1,k*3+1,none⟩) hB hS).trans h1,(zBL a (p:=⟨1,k*3+2,none⟩) hB hS).trans h2⟩
theorem globP_aside {S:List Nat} {B:Nat} {w w':World} (h:GlobP w) (a:Aside S B w w') (hS:0 ∉ S) (hB:0<B:=by omega):GlobP w' :=
 ⟨Nat.lt_of_lt_of_le h.1 a.size,fun k hk=>(zBL a (p:=⟨0,k,none⟩) hB hS).trans (h.2 k hk)⟩
namespace Sk
theorem codeRule_fault {V:List Vr} {m:List Bool} {r:Ru} (h:(codeRule V m r).1≠0):(codeRule V m r).2=m:=by
 unfold codeRule at h ⊢
 split
 ·rfl
 ·rename_i h1
  rw [if_neg h1] at h
  split
  ·rfl
  ·rename_i h2
   rw [if_neg h2] at h
   split
   ·rfl
   ·rename_i h3
    rw [if_neg h3] at h
    split
    ·rfl
    ·rename_i h4
     rw [if_neg h4] at h
     split
     ·rfl
     ·rename_i h5
      rw [if_neg h5] at h
      split
      ·rfl
      ·rename_i h6
       rw [if_neg h6] at h;exact absurd rfl h
theorem codeRule_len (V:List Vr) (m:List Bool) (r:Ru):(codeRule V m r).2.length=m.length:=by
 by_cases h:(codeRule V m r).1=0
 ·unfold codeRule at h ⊢
  split
  ·rfl
  ·split
   ·rfl
   ·split
    ·rfl
    ·split
     ·rfl
     ·split
      ·rfl
      ·split
       ·rfl
       ·simp
 ·rw [codeRule_fault h]
end Sk
theorem zAD {ok Ik:Nat->Prop} {w:World} {b:Nat} {x:LkV} {V:List Sk.Vr} {m0:List Bool} {v:Value} {l:List Sk.Ru} (hk:LkAt w b x) (hm:Md w x.g m0) (hn:x.nV=m0.length) (gx:b≠x.g) (hV:HVars Ik w (.slice x.aV x.nV x.cV) V) (gj:∀ v ∈ V,Sk.VrOk v) (hG:GlobK w) (hP:GlobP w) (Lh:1<x.g) (hl:HRus ok w v l) (Cn:¬ok x.g) (LC:¬Ik x.g)
  (aB:∀ r ∈ l,r.A.length<=1000000/\r.E.length<=1000000) :
  Calls Tryz.prog 51 #[v,.func (.func 52) #[.pointer (some ⟨b,0,none⟩)] #[],.func (.func 53) #[] #[]] w fun r w'=>r=.returned (.agg #[.int .i64 (Sk.rulesL V m0 0 l).1.1,.int .i64 (Sk.rulesL V m0 0 l).1.2])/\LkAt w' b x/\Md w' x.g (Sk.rulesL V m0 0 l).2/\Aside [x.g] w.heap.size w w':=by
 obtain ⟨ao,cap,rfl,bH,cG,-⟩:=hl.at;unfold maxLen at cG;obtain ⟨R,hR⟩:=nmQ (Sk.rulesL V m0 0 l);rw [<-hR];have HR:=zBK (show R=Sk.rulesL V m0 0 (l.drop 0) by rw [List.drop_zero];exact hR);clear hR;have yb:b<w.heap.size:=zBM hk;have yg:x.g<w.heap.size:=zBM hm;have A0:Aside [x.g] w.heap.size w (w.alloc (.cells #[.int .i64 0,.int .i64 0] 32 (0,0))):=(Aside.refl (S:=[x.g]) (B:=w.heap.size) w).alloc zBR _;have b0:Below w.heap.size w (w.alloc (.cells #[.int .i64 0,.int .i64 0] 32 (0,0))):=(Below.refl _ _).alloc zBR _;have k0:=zBO w (.cells #[.int .i64 0,.int .i64 0] 32 (0,0));have H0:=zBK (show LkAt (w.alloc (.cells #[.int .i64 0,.int .i64 0] 32 (0,0))) b x/\Md (w.alloc (.cells #[.int .i64 0,.int .i64 0] 32 (0,0))) x.g m0 from ⟨hk.under b0,hm.under b0⟩);have HL:=zBK hl;have Fp:=zBK Cn;have eW:=zBK LC;have zN:=zBK gx;have rX:=zBK hn;have HV:=zBK hV;have kv:=zBK gj;have HG:=zBK hG;have HP:=zBK hP;have HF:=zBK aB;clear hl hk hm Cn LC gx hn b0 hV gj hG hP aB;obtain ⟨n,hn⟩:=nmQ (l.length);rw [<-hn] at bH ⊢;have HN:=zBK hn;clear hn;go_enter Tryz.func51,Tryz.ntmps51;go_upto_region 1 with fail;generalize w.alloc (.cells #[.int .i64 0,.int .i64 0] 32 (0,0))=w0 at A0 k0 H0 ⊢;go_wp2_with fail;go_loopg [12] n (fun k v wr=>∃ (i:Nat) (m:List Bool),i<=n/\k=n-i/\v=.int .i64 (i:Nat)/\Hid (R=Sk.rulesL V m i (l.drop i))/\Hid (m.length=m0.length)/\Aside [x.g] w.heap.size w wr/\Hid (LkAt wr b x/\Md wr x.g m)/\wr.heap[w.heap.size]?=some (.cells #[.int .i64 0,.int .i64 0] 32 (0,0)))
 case atStart=>exact ⟨0,m0,Nat.zero_le _,rfl,rfl,HR,zBK rfl,A0,H0,k0⟩
 case round=>
  clear A0 k0 HR H0;obtain ⟨i,m,hi,rfl,rfl,H,fQ,aH,HI,kr⟩:=hrel;have zr:=aH.size;by_cases bd:i<n
  case neg=>
   have bp:i=n:=(by omega);subst bp;have e1:l.drop i=[]:=List.drop_of_length_le (by have:=HN.out;omega);have HZ:=zBK (show R=((0,0),m) by rw [H.out,e1];rfl);clear e1;have cJ:=coQ kr 0;have cW:=coQ kr 1;have eO:=foQ kr 0;have fl:=foQ kr 1;simp at cJ cW;have KR:=zBQ (zBQ kr 0 (.int .i64 0)) 1 (.int .i64 0);have r0:=coQ KR 0;have r1:=coQ KR 1;simp at r0 r1;have BR:=(aH.set (p:=⟨w.heap.size,0,none⟩) zBR (.int .i64 0)).set (p:=⟨w.heap.size,1,none⟩) zBR (.int .i64 0);have HE:=zBK (show LkAt ((wr.setCell ⟨w.heap.size,0,none⟩ (.int .i64 0)).setCell ⟨w.heap.size,1,none⟩ (.int .i64 0)) b x/\Md ((wr.setCell ⟨w.heap.size,0,none⟩ (.int .i64 0)).setCell ⟨w.heap.size,1,none⟩ (.int .i64 0)) x.g m from ⟨zBT (zBT HI.out.1 (by show w.heap.size≠b;omega) _) (by show w.heap.size≠b;omega) _,zBT (zBT HI.out.2 (by show w.heap.size≠x.g;omega) _) (by show w.heap.size≠x.g;omega) _⟩);clear KR;go_wp2;exact bodyPost_ret (v:=.agg #[.int .i64 0,.int .i64 0]) (by simp [results,Tryz.results51,go_sem,r0,r1]) rfl ⟨by rw [HZ.out],HE.out.1,by rw [HZ.out];exact HE.out.2,BR⟩
  case pos=>
   have dj:i<l.length:=(by have:=HN.out;omega);have hdr:l.drop i=l[i] :: l.drop (i+1):=List.drop_eq_getElem_cons dj;have bY:=H.out;rw [hdr] at bY;have Je:=HL.out.keep zr (fun j hj BO=>aH.block j BO (by simp;intro e;exact Fp.out (e ▸ hj)));obtain ⟨gw,dk,eqs,-,-,bg⟩:=Je.at;injection eqs with q1 q2 q3;subst q1;obtain ⟨bb,o,z,rfl,hb,bo,dA⟩:=bg i dj;obtain ⟨y,hy⟩:=nmQ (l[i]);have lF:=HF.out y (by rw [hy];exact List.getElem_mem dj);rw [<-hy] at bo dA bY;obtain ⟨e0,e1,e2,e3,e4,e5⟩:=bo;unfold Sk.rulesL at bY;have bA:Below wr.heap.size wr (wr.alloc (.cells #[.int .i64 y.op,.int .i64 y.k,.int .i64 y.out,.int .i64 y.n,.slice z.aA z.nA z.cA,.slice z.aE z.nE z.cE] 42 (0,0))):=(Below.refl _ _).alloc zBR _;have AA:=aH.trans (aside (S:=[x.g]) bA) zr;have kA:=(bA.block _ (zBM kr)).trans kr;have kV:=zBO wr (.cells #[.int .i64 y.op,.int .i64 y.k,.int .i64 y.out,.int .i64 y.n,.slice z.aA z.nA z.cA,.slice z.aE z.nE z.cE] 42 (0,0));have KK:HVars Ik wr (.slice x.aV x.nV x.cV) V:=HV.out.keep zr (fun j hj BO=>aH.block j BO (by simp;intro e;exact eW.out (e ▸ hj)));have Kp:GlobK wr:=glob_aside HG.out aH (by simp;omega);have KD:GlobP wr:=globP_aside HP.out aH (by simp;omega);have hc:=zAv (HI.out.1.under bA) (HI.out.2.under bA) (by rw [rX.out,fQ.out]) zN.out (KK.under bA) kv.out (Kp.under bA) (KD.under bA) (dA.under bA) lF.1 lF.2;have hlen:=Sk.codeRule_len V m y;have sC:=@Sk.codeRule_fault V m y;generalize Sk.codeRule V m y=G at hc bY hlen sC;obtain ⟨cd,m2⟩:=G
   dsimp only at hc bY hlen sC
   have cq:=zBK bY;have vu:=zBK (show m2.length=m0.length by rw [hlen];exact fQ.out);have MF:=zBK sC;clear bg q2 q3 hy hdr bY H dA lF Je KK Kp KD hlen sC;go_upto_region 4 with fail;generalize wr.alloc (.cells #[.int .i64 y.op,.int .i64 y.k,.int .i64 y.out,.int .i64 y.n,.slice z.aA z.nA z.cA,.slice z.aE z.nE z.cE] 42 (0,0))=wa at bA AA kA kV hc ⊢;have v0:=coQ kV 0;have v1:=coQ kV 1;have v2:=coQ kV 2;have v3:=coQ kV 3;have v4:=coQ kV 4;have v5:=coQ kV 5;simp at v0 v1 v2 v3 v4 v5;go_wp2_with fail;refine hc.mono ?_;rintro e w4 ⟨rfl,l4,m4,a4⟩;have zA:=AA.size;have z4:=a4.size;have A4:=AA.trans a4 zA;have k4:=a4.keep kA (zBM kA) (by simp;omega);have H4:=zBK (show LkAt w4 b x/\Md w4 x.g m2 from ⟨l4,m4⟩);clear hc l4 m4 v0 v1 v2 v3 v4 v5 kV kA;by_cases hz:cd=0
   case pos=>
    have dZ:(cd != 0)=false:=(by simp [hz]);have HZ:Hid (R=Sk.rulesL V m2 (i+1) (l.drop (i+1))):=zBK (by rw [cq.out,if_neg (by simp [hz])]);clear cq hz;go_wp2_with fail;go_roundg (n-(i+1))
    case measure=>omega
    case rel=>exact ⟨i+1,m2,by omega,rfl,by go_num,HZ,vu,A4,H4,k4⟩
   case neg=>
    have dZ:(cd != 0)=true:=(by simp [hz]);have HZ:Hid (R=((cd,(i:Int)),m2)):=zBK (by rw [cq.out,if_pos hz,MF.out hz]);clear cq hz;go_wp2_with fail;refine (zAy i w4).mono ?_;rintro e w5 ⟨rfl,b5⟩;have A5:=A4.trans (aside b5) (Nat.le_trans zA z4);have z5:=b5.size;have k5:=(b5.block _ (zBM k4)).trans k4;have H5:=zBK (show LkAt w5 b x/\Md w5 x.g m2 from ⟨H4.out.1.under b5,H4.out.2.under b5⟩);have cJ:=coQ k5 0;have cW:=coQ k5 1;have eO:=foQ k5 0;have fl:=foQ k5 1;simp at cJ cW;have KR:=zBQ (zBQ k5 0 (.int .i64 cd)) 1 (.int .i64 (i:Int));have r0:=coQ KR 0;have r1:=coQ KR 1;simp at r0 r1;have BR:=(A5.set (p:=⟨w.heap.size,0,none⟩) zBR (.int .i64 cd)).set (p:=⟨w.heap.size,1,none⟩) zBR (.int .i64 (i:Int));have HE:=zBK (show LkAt ((w5.setCell ⟨w.heap.size,0,none⟩ (.int .i64 cd)).setCell ⟨w.heap.size,1,none⟩ (.int .i64 (i:Int))) b x/\Md ((w5.setCell ⟨w.heap.size,0,none⟩ (.int .i64 cd)).setCell ⟨w.heap.size,1,none⟩ (.int .i64 (i:Int))) x.g m2 from ⟨zBT (zBT H5.out.1 (by show w.heap.size≠b;omega) _) (by show w.heap.size≠b;omega) _,zBT (zBT H5.out.2 (by show w.heap.size≠x.g;omega) _) (by show w.heap.size≠x.g;omega) _⟩);clear KR;go_wp2;exact bodyPost_ret (v:=.agg #[.int .i64 cd,.int .i64 (i:Int)]) (by simp [results,Tryz.results51,go_sem,r0,r1]) rfl ⟨by rw [HZ.out],HE.out.1,by rw [HZ.out];exact HE.out.2,BR⟩
end Go.Proofs.YtfhghlpfeeiaeaaGreatDoor
