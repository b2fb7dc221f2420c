import Derived.Test.YtkfgbhlpjkkgfaaGreatDoorT12
import Derived.Test.YtkfgbhlpjkkgfaaGreatDoorT02
import Derived.Test.YtkfgbhlpjkkgfaaGreatDoorT00
import Derived.Lib.ItoaNum
set_option linter.unusedVariables false
set_option linter.unusedSimpArgs false
set_option maxHeartbeats 64000000
set_option maxRecDepth 100000
namespace Go.Proofs.YtkfgbhlpjkkgfaaGreatDoor
open Go.RowKit Go.IntWalk
theorem size_zero {s:ByteArray} (h:s.size=0):s.toList=[]:=by
 rw [Lib.toList_data];exact List.length_eq_zero_iff.1 ((Array.length_toList).trans h)
theorem size_pos {s:ByteArray} (h:s.size≠0):s.toList≠[]:=by
 rw [Lib.toList_data];intro e
 apply h
 have:s.data.toList.length=0:=(by rw [e];rfl);exact (Array.length_toList).symm.trans this
theorem termCode_any {ok:Nat->Prop} {w:World} {x:SB} {E:Kd.Env} {mk done:List ByteArray} (hS:Scp ok w x E mk done) {B:Nat} (hB:w.heap[B]?=some (.cells #[.pointer (some ⟨x.b,0,none⟩)] 99 (0,0))) (t:Tm) (ht:t.2.size<=maxLen) :
  Calls Tryz.prog 162 #[.agg #[.int .i64 t.1,.string t.2],.pointer (some ⟨B,0,none⟩)] w fun r w'=>r=.returned (.int .i64 (Kd.termN E.sizes t))/\Below w.heap.size w w':=by
 obtain ⟨n,s⟩:=t
 dsimp only at ht ⊢
 have bA:Below w.heap.size w (w.alloc (.cells #[.int .i64 n,.string s] 83 (0,0))):=(Below.refl _ _).alloc nR _;have h1:=hS.keep bA;have kA:=zAC w (.cells #[.int .i64 n,.string s] 83 (0,0));have kB:=(bA.block _ (zAB hB)).trans hB;obtain ⟨R,hR⟩:=nmQ (Kd.termN E.sizes (n,s));rw [<-hR];unfold Kd.termN at hR
 dsimp only at hR
 go_enter Tryz.func162,Tryz.ntmps162;go_upto_region 1 with fail;generalize w.alloc (.cells #[.int .i64 n,.string s] 83 (0,0))=w1 at bA h1 kA kB ⊢;obtain ⟨v,hv⟩:=h1.lookSize ht;have kS:=h1.blk;have yA:=zAB kA;have yB:=zAB kB;have yS:=zAB kS;have c0:=co kA 0;have c1:=co kA 1;have d0:=co kB 0;have e1:=co kS 1;simp at c0 c1 d0 e1;generalize Kd.hasN E.sizes s=q at hv hR;clear hS h1 kS hB kB kA;go_cut [5] (fun v5 wd=>v5=.bool q/\Below w1.heap.size w1 wd)
 case first=>
  refine zAE (fun w'=>Below w1.heap.size w1 w') (fun _=>false) (by kernel_rfl) ?_;have af:Below w1.heap.size w1 w1.drew:=(Below.refl _ _).drew;generalize w1.drew=aW at af ⊢;refine' tkQ 0 7 af ?hyv ?o1
  case hyv=>
   intro wz ae;have bI:=(ae.cell (p:=⟨B,0,none⟩) yB).trans d0;go_simp
   try rfl
  try simp only [Act.put,sT,sZ,sS]
  refine' tkR 1 8 af ?o2
  refine' tkR 2 9 af ?o3
  refine' tkQ 3 10 af ?hyv ?o4
  case hyv=>
   intro wz ae;have bI:=(ae.cell (p:=⟨x.b,1,none⟩) yS).trans e1;go_simp
   try rfl
  try simp only [Act.put,sT,sZ,sS]
  refine' tkR 4 11 af ?o5
  refine' tkQ 5 12 af ?hyv ?o6
  case hyv=>
   intro wz ae;have bI:=(ae.cell (p:=⟨w.heap.size,0,none⟩) yA).trans c0;have d9:=(ae.cell (p:=⟨w.heap.size,1,none⟩) yA).trans c1;go_simp
   try rfl
  try simp only [Act.put,sT,sZ,sS]
  refine' tkQ 6 13 af ?hyv ?o7
  case hyv=>
   intro wz ae;have hl:=hv _ ae;go_simp
   try rfl
  try simp only [Act.put,sT,sZ,sS]
  refine' tkR 7 6 af ?o8
  refine' tkR 8 14 af ?o9
  refine' tkR 9 15 af ?o10
  refine' tkR 10 4 af ?o11
  refine' tkR 11 5 af ?o12
  refine zAF (by kernel_rfl) ?_ _;go_wp2_with fail;go_meet
  case rel=>exact ⟨rfl,af⟩
 case rest=>
  obtain ⟨rfl,bc⟩:=hcut;have B2:=bA.trans (bc.mono bA.size);have f1:=(bc.cell (p:=⟨w.heap.size,1,none⟩) yA).trans c1;by_cases hz:s.size=0
  ·have bY:s.toList=[]:=size_zero hz
   have L9:(s.toList==([]:List UInt8))=true:=(by simp [bY]);have LZ:(s.toList != ([]:List UInt8))=false:=(by simp [bY]);rw [if_neg (by simp [hz])] at hR;subst hR
   cases q
   ·go_wp2
    go_ret;exact ⟨rfl,B2⟩
   ·go_wp2
    go_ret;exact ⟨rfl,B2⟩
  ·have bY:s.toList≠[]:=size_pos hz
   have L9:(s.toList==([]:List UInt8))=false:=(by simp [bY]);have LZ:(s.toList != ([]:List UInt8))=true:=(by simp [bY])
   cases q
   ·rw [if_pos (by simp [hz])] at hR
    subst hR;go_wp2;go_ret;exact ⟨rfl,B2⟩
   ·rw [if_neg (by simp)] at hR
    subst hR;go_wp2;go_ret;exact ⟨rfl,B2⟩
theorem zFR {ok:Nat->Prop} {w:World} {x:SB} {E:Kd.Env} {mk done:List ByteArray} (hS:Scp ok w x E mk done) {B:Nat} (hB:w.heap[B]?=some (.cells #[.pointer (some ⟨x.b,0,none⟩)] 99 (0,0))) {v:Value} {l:List Tm} {oM:Nat->Prop} (hl:HTerms oM w v l) (hF:Rn.szF l) :
  Calls Tryz.prog 161 #[v,.func (.func 162) #[] #[.pointer (some ⟨B,0,none⟩)]] w fun e w'=>e=.returned (.int .i64 (Rn.firstC (Kd.termN E.sizes) l))/\Below w.heap.size w w':=by
 obtain ⟨ao,cap,rfl,aC,av,ai⟩:=hl.at;unfold maxLen at av;obtain ⟨R,hR⟩:=nmQ (Rn.firstC (Kd.termN E.sizes) l);rw [<-hR];have HR:=zAA hR;clear hR;obtain ⟨n,hn⟩:=nmQ (l.length);rw [<-hn] at aC ⊢;have HN:=zAA hn;clear hn;have HS:=zAA hS;have HB:=zAA hB;have HF:=zAA hF;clear hS hB hF hl;go_enter Tryz.func161,Tryz.ntmps161;go_wp2_with fail;go_loopg [10] n (fun k v wr=>∃ i,i<=n/\k=n-i/\v=.int .i64 (i:Nat)/\Hid (∀ j (h:j<l.length),j<i->(Kd.termN E.sizes) l[j]=0)/\Below w.heap.size w wr)
 case atStart=>exact ⟨0,Nat.zero_le _,rfl,rfl,fun j _ h=>absurd h (Nat.not_lt_zero _),Below.refl _ _⟩
 case round=>
  obtain ⟨i,hi,rfl,rfl,H,aj⟩:=hrel;by_cases ak:i<n
  case neg=>
   have bH:i=n:=(by omega);subst bH;go_wp2;go_ret;refine ⟨?_,aj⟩;rw [HR.out,Rn.firstC_none _ l (fun j hj=>H.out j hj (by have:=HN.out;omega))];rfl
  case pos=>
   have ap:i<l.length:=(by have:=HN.out;omega);obtain ⟨x1,ie⟩:=nmQ (l[i]);have cw:x1.2.size<=maxLen:=(by rw [ie];exact HF.out _ (List.getElem_mem ap));obtain ⟨b,o,rfl,hb,eQ,aC⟩:=ai i ap;rw [<-ie] at eQ aC;have e0:=(aj.cell (p:=⟨b,o+i*2,none⟩) hb).trans eQ;have e1:=(aj.cell (p:=⟨b,o+i*2+1,none⟩) hb).trans aC;obtain ⟨Gk,Gh⟩:=x1
   dsimp only at e0 e1
   have fm:Below w.heap.size w (wr.alloc (.cells #[.int .i64 Gk,.string Gh] 83 (0,0))):=aj.alloc aj.size _;have ag:=termCode_any (HS.out.keep fm) ((fm.block _ (zAB HB.out)).trans HB.out) (Gk,Gh) cw;have HX:=zAA ie;clear ai ie;go_wp2_with fail;refine (ag ).mono ?_;rintro e w4 ⟨rfl,b4⟩;have BW:=fm.trans (b4.mono fm.size);obtain ⟨c,cR⟩:=nmQ ((Kd.termN E.sizes) (Gk,Gh));have HC:=zAA cR
   try rw [<-cR]
   clear cR;by_cases hz:c=0
   ·subst hz
    go_wp2_with fail;go_roundg (n-(i+1))
    case measure=>omega
    case rel=>
     refine ⟨i+1,by omega,rfl,by go_num,fun j hj bJ=>?_,BW⟩;by_cases e:j=i
     ·subst e
      rw [<-HX.out,<-HC.out]
     ·exact H.out j hj (by omega)
   ·have bY:(c != 0)=true:=by simpa using hz
    go_wp2;go_ret;refine ⟨?_,BW⟩;rw [HR.out,Rn.firstC_step _ l i ap (fun j hj bJ=>H.out j hj bJ) (by rw [<-HX.out,<-HC.out];exact hz),<-HX.out,<-HC.out];rfl
theorem zCL {ok:Nat->Prop} {w:World} {x:SB} {E:Kd.Env} {mk done:List ByteArray} (hS:Scp ok w x E mk done) {v:Value} {l:List Tm} {oM:Nat->Prop} (hl:HTerms oM w v l) (hF:Rn.szF l) :
  Calls Tryz.prog 114 #[.pointer (some ⟨x.b,0,none⟩),v] w fun r w'=>r=.returned (.int .i64 (Kd.codeSz E.sizes l))/\Below w.heap.size w w':=by
 have bA:Below w.heap.size w (w.alloc (.cells #[.pointer (some ⟨x.b,0,none⟩)] 99 (0,0))):=(Below.refl _ _).alloc nR _;have kA:=zAC w (.cells #[.pointer (some ⟨x.b,0,none⟩)] 99 (0,0));have hc:=zFR (hS.keep bA) kA (hl.under bA) hF;have HL:=zAA (hl.under bA);obtain ⟨ao,cap,rfl,_,_,_⟩:=hl.at;clear hS hl kA;obtain ⟨R,hR⟩:=nmQ (Kd.codeSz E.sizes l);rw [<-hR];unfold Kd.codeSz at hR;generalize Rn.firstC (Kd.termN E.sizes) l=c at hc hR;go_enter Tryz.func114,Tryz.ntmps114;go_wp2_with fail;refine hc.mono ?_;rintro r w1 ⟨rfl,b1⟩;have B1:=bA.trans (b1.mono bA.size);by_cases hz:c=0
 ·subst hz
  rw [if_neg (by simp)] at hR;subst hR;have hr:=zBP (HL.out.under b1);go_wp2_with fail;refine hr.mono ?_;rintro r w2 ⟨rfl,b2⟩;go_wp2;go_ret;exact ⟨rfl,B1.trans (b2.mono B1.size)⟩
 ·rw [if_pos hz] at hR
  subst hR;have bY:(R != 0)=true:=(by simpa using hz);go_wp2;go_ret;exact ⟨rfl,B1⟩
theorem zCZ {ok:Nat->Prop} {w:World} {x:SB} {E:Kd.Env} {mk done:List ByteArray} (hS:Scp ok w x E mk done) {v:Value} {l:List (List Tm)} {oM:Nat->Prop} (hl:HSizes oM w v l) (hF:∀ s ∈ l,Rn.szF s) :
  Calls Tryz.prog 115 #[v,.func (.func 114) #[.pointer (some ⟨x.b,0,none⟩)] #[]] w fun e w'=>e=.returned (.int .i64 (Rn.firstC (Kd.codeSz E.sizes) l))/\Below w.heap.size w w':=by
 obtain ⟨ao,cap,rfl,aC,av,ai⟩:=hl.at;unfold maxLen at av;obtain ⟨R,hR⟩:=nmQ (Rn.firstC (Kd.codeSz E.sizes) l);rw [<-hR];have HR:=zAA hR;clear hR;obtain ⟨n,hn⟩:=nmQ (l.length);rw [<-hn] at aC ⊢;have HN:=zAA hn;clear hn;have HS:=zAA hS;have HF:=zAA hF;clear hS hF hl;go_enter Tryz.func115,Tryz.ntmps115;go_wp2_with fail;go_loopg [10] n (fun k v wr=>∃ i,i<=n/\k=n-i/\v=.int .i64 (i:Nat)/\Hid (∀ j (h:j<l.length),j<i->(Kd.codeSz E.sizes) l[j]=0)/\Below w.heap.size w wr)
 case atStart=>exact ⟨0,Nat.zero_le _,rfl,rfl,fun j _ h=>absurd h (Nat.not_lt_zero _),Below.refl _ _⟩
 case round=>
  obtain ⟨i,hi,rfl,rfl,H,aj⟩:=hrel;by_cases ak:i<n
  case neg=>
   have bH:i=n:=(by omega);subst bH;go_wp2;go_ret;refine ⟨?_,aj⟩;rw [HR.out,Rn.firstC_none _ l (fun j hj=>H.out j hj (by have:=HN.out;omega))];rfl
  case pos=>
   have ap:i<l.length:=(by have:=HN.out;omega);obtain ⟨x1,ie⟩:=nmQ (l[i]);have cw:Rn.szF x1:=(by rw [ie];exact HF.out _ (List.getElem_mem ap));obtain ⟨b,o,au,nu,cu,rfl,hb,eQ,hu⟩:=ai i ap;rw [<-ie] at hu;have e0:=(aj.cell (p:=⟨b,o+i,none⟩) hb).trans eQ;have fm:=aj;have ag:=zCL (HS.out.keep fm) (hu.under fm) cw;have HX:=zAA ie;clear ai ie;go_wp2_with fail;refine (ag ).mono ?_;rintro e w4 ⟨rfl,b4⟩;have BW:=fm.trans (b4.mono fm.size);obtain ⟨c,cR⟩:=nmQ ((Kd.codeSz E.sizes) x1);have HC:=zAA cR
   try rw [<-cR]
   clear cR;by_cases hz:c=0
   ·subst hz
    go_wp2_with fail;go_roundg (n-(i+1))
    case measure=>omega
    case rel=>
     refine ⟨i+1,by omega,rfl,by go_num,fun j hj bJ=>?_,BW⟩;by_cases e:j=i
     ·subst e
      rw [<-HX.out,<-HC.out]
     ·exact H.out j hj (by omega)
   ·have bY:(c != 0)=true:=by simpa using hz
    go_wp2;go_ret;refine ⟨?_,BW⟩;rw [HR.out,Rn.firstC_step _ l i ap (fun j hj bJ=>H.out j hj bJ) (by rw [<-HX.out,<-HC.out];exact hz),<-HX.out,<-HC.out];rfl
end Go.Proofs.YtkfgbhlpjkkgfaaGreatDoor
namespace Go.Proofs.YtkfgbhlpjkkgfaaGreatDoor
open Go.RowKit Go.IntWalk Go.Maps Go.WideMaps
theorem zDe (l:List ByteArray) (a s:ByteArray):Kd.hasN (l++[a]) s=(Kd.hasN l s || (a.data.toList==s.data.toList)):=by
 unfold Kd.hasN;simp
theorem findD_app (l:List De) (d:De) (s:ByteArray):Kd.findD (l++[d]) s=match Kd.findD l s with
  | some e=>some e
  | none=>if d.name.data.toList=s.data.toList then some d else none:=by
 unfold Kd.findD;rw [List.find?_append]
 cases h:List.find? (fun d=>d.name.data.toList==s.data.toList) l with
 | some e=>rfl
 | none=>
  by_cases e:d.name.data.toList=s.data.toList
  ·have e2:(d.name.data.toList==s.data.toList)=true:=beq_iff_eq.2 e
   simp only [if_pos e,List.find?_cons,List.find?_nil,e2];rfl
  ·have e2:(d.name.data.toList==s.data.toList)=false:=by rw [beq_eq_false_iff_ne];exact e
   simp only [if_neg e,List.find?_cons,List.find?_nil,e2];rfl
theorem findN_app (l:List Nd) (d:Nd) (s:ByteArray):Kd.findN (l++[d]) s=match Kd.findN l s with
  | some e=>some e
  | none=>if d.name.data.toList=s.data.toList then some d else none:=by
 unfold Kd.findN;rw [List.find?_append]
 cases h:List.find? (fun d=>d.name.data.toList==s.data.toList) l with
 | some e=>rfl
 | none=>
  by_cases e:d.name.data.toList=s.data.toList
  ·have e2:(d.name.data.toList==s.data.toList)=true:=beq_iff_eq.2 e
   simp only [if_pos e,List.find?_cons,List.find?_nil,e2];rfl
  ·have e2:(d.name.data.toList==s.data.toList)=false:=by rw [beq_eq_false_iff_ne];exact e
   simp only [if_neg e,List.find?_cons,List.find?_nil,e2];rfl
def SB.maps (x:SB):List Nat:=[x.m0,x.m1,x.m2,x.m3]
theorem zBd {S:List Nat} {B:Nat} {w w':World} {b:Nat} (hb:b ∈ S) (g:w.grownBy w' (some b)) (hB:B<=w.heap.size):Aside S B w w' :=
 ⟨g.os,g.tape,g.output,g.size,fun k hk hn=>g.block k (Nat.lt_of_lt_of_le hk hB) (fun e=>hn (by injection e with e;exact e ▸ hb))⟩
section
variable {ok:Nat->Prop} {w w':World} {x:SB} {E:Kd.Env} {mk done:List ByteArray} {f:List UInt8->Option Value}
theorem zDO {b:Nat} (hn:¬ok b) (hg:w.grownBy w' (some b)):∀ i,ok i->i<w.heap.size->w'.heap[i]?=w.heap[i]? :=
 fun i hi hl=>hg.block i hl (fun e=>hn (by injection e with e;exact e ▸ hi))
theorem zDP {b c:Nat} {o:Obj} (hg:w.grownBy w' (some b)) (hc:w.heap[c]?=some o) (cG:c≠b):w'.heap[c]?=some o :=
 (hg.block c (zAB hc) (fun e=>cG (by injection e))).trans hc
theorem zAt {b c n:Nat} (hg:w.grownBy w' (some b)) (hc:MapIs w c n f) (cG:c≠b):MapIs w' c n f:=hc.keep (hg.block c hc.lt (fun e=>cG (by injection e)))
theorem blkNe (h:Scp ok w x E mk done):x.b≠x.m0/\x.b≠x.m1/\x.b≠x.m2/\x.b≠x.m3:=by
 have hb:=h.blk;refine ⟨?_,?_,?_,?_⟩
 ·intro e
  obtain ⟨f,⟨D,⟨es,clock,hm,_⟩,_⟩,_⟩:=h.h0;rw [<-e,hb] at hm;cases hm
 ·intro e
  obtain ⟨f,⟨D,⟨es,clock,hm,_⟩,_⟩,_⟩:=h.h1;rw [<-e,hb] at hm;cases hm
 ·intro e
  obtain ⟨f,⟨D,⟨es,clock,hm,_⟩,_⟩,_⟩:=h.h2;rw [<-e,hb] at hm;cases hm
 ·intro e
  obtain ⟨f,⟨D,⟨es,clock,hm,_⟩,_⟩,_⟩:=h.h3;rw [<-e,hb] at hm;cases hm
theorem Scp.afterType (h:Scp ok w x E mk done) (hT:TyF ok w E.types f) {d:De} {v:Value} (hm:MapIs w' x.m2 (E.types.length+1) (putF f d.name.data.toList v)) (hg:w.grownBy w' (some x.m2)) (hv:HTy ok w v (Kd.tyD d)) (hn:Kd.findD E.types d.name=none) :
  Scp ok w' x ⟨E.above,E.sizes,E.types++[d]⟩ mk done:=by
 have cG:=blkNe h;have hk:=zDO h.n2 hg;refine ⟨zDP hg h.blk cG.2.2.1,h.nb,h.n0,h.n1,h.n2,h.n3,h.d01,h.d02,h.d03,h.d12,h.d13,h.d23,?_,?_,?_,?_⟩
 ·obtain ⟨g,a,c⟩:=h.h0
  exact ⟨g,zAt hg a h.d02,c.keep hg.size hk⟩
 ·obtain ⟨g,a,c⟩:=h.h1
  exact ⟨g,zAt hg a h.d12,c⟩
 ·refine ⟨_,by simpa using hm,fun s=>?_⟩
  have:=hT.keep hg.size hk s;rw [findD_app];unfold putF;by_cases e:d.name.data.toList=s.data.toList
  ·have hs:Kd.findD E.types s=none:=by
    unfold Kd.findD at hn ⊢;rw [e] at hn;exact hn
   rw [hs];simp only [e,if_true];exact ⟨v,rfl,hv.keep hg.size hk⟩
  ·have e2:¬s.data.toList=d.name.data.toList:=fun q=>e q.symm
   cases hs:Kd.findD E.types s with
   | none=>
    rw [hs] at this;simp only [if_neg e,if_neg e2];exact this
   | some c=>
    rw [hs] at this;simp only [if_neg e2];exact this
 ·obtain ⟨g,a,c⟩:=h.h3
  exact ⟨g,zAt hg a h.d23.symm,c⟩
theorem Scp.afterSize (h:Scp ok w x E mk done) (hT:SzF E.sizes f) {s:ByteArray} {v:Value} (hm:MapIs w' x.m1 (E.sizes.length+1) (putF f s.data.toList v)) (hg:w.grownBy w' (some x.m1)) :
  Scp ok w' x ⟨E.above,E.sizes++[s],E.types⟩ mk done:=by
 have cG:=blkNe h;have hk:=zDO h.n1 hg;refine ⟨zDP hg h.blk cG.2.1,h.nb,h.n0,h.n1,h.n2,h.n3,h.d01,h.d02,h.d03,h.d12,h.d13,h.d23,?_,?_,?_,?_⟩
 ·obtain ⟨g,a,c⟩:=h.h0
  exact ⟨g,zAt hg a h.d01,c.keep hg.size hk⟩
 ·refine ⟨_,by simpa using hm,fun t=>?_⟩
  have:=hT t;rw [zDe];unfold putF;by_cases e:t.data.toList=s.data.toList
  ·simp [e]
  ·have e2:(s.data.toList==t.data.toList)=false:=by rw [beq_eq_false_iff_ne];exact fun q=>e q.symm
   rw [if_neg e,this,e2,Bool.or_false]
 ·obtain ⟨g,a,c⟩:=h.h2
  exact ⟨g,zAt hg a h.d12.symm,c.keep hg.size hk⟩
 ·obtain ⟨g,a,c⟩:=h.h3
  exact ⟨g,zAt hg a h.d13.symm,c⟩
theorem Scp.afterMk (h:Scp ok w x E mk []) (hT:MkF mk [] f) {s:ByteArray} (hm:MapIs w' x.m3 (mk.length+1) (putF f s.data.toList (.int .i64 0))) (hg:w.grownBy w' (some x.m3)) :
  Scp ok w' x E (mk++[s]) []:=by
 have cG:=blkNe h;have hk:=zDO h.n3 hg;refine ⟨zDP hg h.blk cG.2.2.2,h.nb,h.n0,h.n1,h.n2,h.n3,h.d01,h.d02,h.d03,h.d12,h.d13,h.d23,?_,?_,?_,?_⟩
 ·obtain ⟨g,a,c⟩:=h.h0
  exact ⟨g,zAt hg a h.d03,c.keep hg.size hk⟩
 ·obtain ⟨g,a,c⟩:=h.h1
  exact ⟨g,zAt hg a h.d13,c⟩
 ·obtain ⟨g,a,c⟩:=h.h2
  exact ⟨g,zAt hg a h.d23,c.keep hg.size hk⟩
 ·refine ⟨_,by simpa using hm,fun t=>?_⟩
  have:=hT t;rw [zDe];unfold putF;by_cases e:t.data.toList=s.data.toList
  ·simp [e,Kd.hasN]
  ·rw [if_neg e,this]
   have e2:(s.data.toList==t.data.toList)=false:=(by rw [beq_eq_false_iff_ne];exact fun q=>e q.symm);rw [e2,Bool.or_false]
theorem Scp.afterDone (h:Scp ok w x E mk done) (hT:MkF mk done f) {s:ByteArray} (hm:MapIs w' x.m3 (mk.length+done.length+1) (putF f s.data.toList (.int .i64 1))) (hg:w.grownBy w' (some x.m3)) :
  Scp ok w' x E mk (done++[s]):=by
 have cG:=blkNe h;have hk:=zDO h.n3 hg;refine ⟨zDP hg h.blk cG.2.2.2,h.nb,h.n0,h.n1,h.n2,h.n3,h.d01,h.d02,h.d03,h.d12,h.d13,h.d23,?_,?_,?_,?_⟩
 ·obtain ⟨g,a,c⟩:=h.h0
  exact ⟨g,zAt hg a h.d03,c.keep hg.size hk⟩
 ·obtain ⟨g,a,c⟩:=h.h1
  exact ⟨g,zAt hg a h.d13,c⟩
 ·obtain ⟨g,a,c⟩:=h.h2
  exact ⟨g,zAt hg a h.d23,c.keep hg.size hk⟩
 ·refine ⟨_,by simpa [Nat.add_assoc] using hm,fun t=>?_⟩
  have:=hT t;rw [zDe];unfold putF;by_cases e:t.data.toList=s.data.toList
  ·simp [e]
  ·rw [if_neg e,this]
   have e2:(s.data.toList==t.data.toList)=false:=(by rw [beq_eq_false_iff_ne];exact fun q=>e q.symm);rw [e2,Bool.or_false]
end
end Go.Proofs.YtkfgbhlpjkkgfaaGreatDoor
namespace Go.Proofs.YtkfgbhlpjkkgfaaGreatDoor
open Go.RowKit Go.IntWalk
def HTys (ok:Nat->Prop) (w:World) (v:Value) (l:List Kd.Ty):Prop:=∃ C,Sl ok 2 w v l.length C/\∀ i (h:i<l.length),∃ u,C i=[.int .u8 (l[i]).elem,u]/\HTerms ok w u (l[i]).n
theorem HTys.keep {ok:Nat->Prop} {w w':World} {v:Value} {l:List Kd.Ty} (h:HTys ok w v l) (hs:w.heap.size<=w'.heap.size) (hk:∀ i,ok i->i<w.heap.size->w'.heap[i]?=w.heap[i]?):HTys ok w' v l:=by
 obtain ⟨C,h1,h2⟩:=h;refine ⟨C,h1.keep hs hk,fun i hi=>?_⟩;obtain ⟨u,e,hu⟩:=h2 i hi;exact ⟨u,e,hu.keep hs hk⟩
theorem HTys.under {ok:Nat->Prop} {w w':World} {v:Value} {l:List Kd.Ty} (h:HTys ok w v l) (a:Below w.heap.size w w'):HTys ok w' v l:=h.keep a.size fun i _ hl=>a.block i hl
theorem HTys.at {ok:Nat->Prop} {w:World} {v:Value} {l:List Kd.Ty} (h:HTys ok w v l) :
  ∃ ao cap,v=.slice ao l.length cap/\l.length<=cap/\cap<=maxLen/\∀ i (h:i<l.length),∃ b o au nu cu,ao=some ⟨b,o,none⟩/\b<w.heap.size/\w.cell? ⟨b,o+i*2,none⟩=some (.int .u8 (l[i]).elem)/\w.cell? ⟨b,o+i*2+1,none⟩=some (.slice au nu cu)/\HTy ok w (.agg #[.int .u8 (l[i]).elem,.slice au nu cu]) l[i]:=by
 obtain ⟨C,⟨ao,cap,hv,h1,h2,h3⟩,hC⟩:=h;refine ⟨ao,cap,hv,h1,h2,fun i hi=>?_⟩;obtain ⟨b,o,ha,gA,hb,hc⟩:=h3 (by omega);obtain ⟨u,hu,ht⟩:=hC i hi;obtain ⟨au,nu,cu,rfl⟩:=ht.slice;have dX:=(hc i hi).2;rw [hu] at dX;exact ⟨b,o,au,nu,cu,ha,hb,(by have:=dX 0 (by decide);simpa only [Nat.add_zero,gZ] using this),(by have:=dX 1 (by decide);simpa only [gS,gZ] using this),⟨_,rfl,ht⟩⟩
def RowT (ok:Nat->Prop) (w:World) (g n:Nat) (T:List Kd.Ty):Prop :=
 ∃ A:Array Value,w.heap[g]?=some (.cells A 35 (0,0))/\A.size=n*2/\∀ j (h:j<T.length),∃ u,A[j*2]?=some (.int .u8 (T[j]).elem)/\A[j*2+1]?=some u/\HTerms ok w u (T[j]).n
theorem RowT.keep {ok:Nat->Prop} {w w':World} {g n:Nat} {T:List Kd.Ty} (h:RowT ok w g n T) (hb:Below w.heap.size w w'):RowT ok w' g n T:=by
 obtain ⟨A,h1,h2,h3⟩:=h;refine ⟨A,(hb.block _ (zAB h1)).trans h1,h2,fun j hj=>?_⟩;obtain ⟨u,a,b,c⟩:=h3 j hj;exact ⟨u,a,b,c.under hb⟩
theorem RowT.lt {ok:Nat->Prop} {w:World} {g n:Nat} {T:List Kd.Ty} (h:RowT ok w g n T):g<w.heap.size:=by
 obtain ⟨A,h1,_⟩:=h;exact zAB h1
theorem RowT.put {ok:Nat->Prop} {w:World} {g n:Nat} {T:List Kd.Ty} (h:RowT ok w g n T) {t:Kd.Ty} {u:Value} (hu:HTerms ok w u t.n) (hg:¬ok g) (hn:T.length<n) :
  RowT ok ((w.setCell ⟨g,T.length*2,none⟩ (.int .u8 t.elem)).setCell ⟨g,T.length*2+1,none⟩ u) g n (T++[t]):=by
 obtain ⟨A,h1,h2,h3⟩:=h;have ny:∀ {v:Value} {l:List Tm},HTerms ok w v l->HTerms ok ((w.setCell ⟨g,T.length*2,none⟩ (.int .u8 t.elem)).setCell ⟨g,T.length*2+1,none⟩ u) v l:=fun h=>(h.set (p:=⟨g,T.length*2,none⟩) hg _).set (p:=⟨g,T.length*2+1,none⟩) hg _;refine ⟨_,zAD (zAD h1 _ _) _ _,by simp [h2],fun j hj=>?_⟩;by_cases e:j=T.length
 ·subst e
  refine ⟨u,?_,?_,by simpa using ny hu⟩
  ·rw [Array.getElem?_setIfInBounds_ne (by omega),Array.getElem?_setIfInBounds_self_of_lt (by omega)]
   simp
  ·rw [Array.getElem?_setIfInBounds_self_of_lt (by simp;omega)]
 ·have qe:j<T.length:=by simp at hj;omega
  obtain ⟨v,a,b,c⟩:=h3 j qe;have eT:(T++[t])[j]=T[j]:=List.getElem_append_left qe;refine ⟨v,?_,?_,by rw [eT];exact ny c⟩
  ·rw [Array.getElem?_setIfInBounds_ne (by omega),Array.getElem?_setIfInBounds_ne (by omega),eT]
   exact a
  ·rw [Array.getElem?_setIfInBounds_ne (by omega),Array.getElem?_setIfInBounds_ne (by omega)]
   exact b
theorem RowT.full {ok ok':Nat->Prop} {w:World} {g n:Nat} {T:List Kd.Ty} (h:RowT ok w g n T) (hT:T.length=n) (hn:n<=maxLen) (hk:∀ i,ok i->ok' i) (hg:ok' g):HTys ok' w (.slice (some ⟨g,0,none⟩) n n) T:=by
 obtain ⟨A,h1,h2,h3⟩:=h;refine ⟨fun i=>[A.getD (i*2) undef,A.getD (i*2+1) undef],⟨_,_,by rw [hT],by omega,hn,fun _=>⟨g,0,rfl,hg,zAB h1,fun i hi=>⟨rfl,fun j hj=>?_⟩⟩⟩,fun i hi=>?_⟩
 ·obtain ⟨u,a,b,_⟩:=h3 i hi
  have c:=co h1 (i*2+j)
  match j,hj with
  | 0,_=>simpa [a,Array.getD_eq_getD_getElem?] using c
  | 1,_=>simpa [b,Array.getD_eq_getD_getElem?] using c
 ·obtain ⟨u,a,b,c⟩:=h3 i hi
  refine ⟨u,?_,c.wide (fun i hi _=>hk i hi)⟩;simp [Array.getD_eq_getD_getElem?,a,b]
theorem zFS {ok:Nat->Prop} {w:World} {x:SB} {E:Kd.Env} {mk done:List ByteArray} (hS:Scp ok w x E mk done) (s:ByteArray) (hs:s.size<=maxLen) :
  Calls Tryz.prog 122 #[.pointer (some ⟨x.b,0,none⟩),.string s] w fun r w'=>∃ u c,r=.returned (.tuple #[u,.int .i64 c])/\TRes ok w' u c (Kd.tyN E s)/\Below w.heap.size w w':=by
 have bA:Below w.heap.size w (w.alloc (.cells #[.int .u8 0,.slice none 0 0] 35 (0,0))):=(Below.refl _ _).alloc nR _;obtain ⟨te,ta,tn,tc,hv,_,dD⟩:=hS.lookType hs;have hl:=hv _ bA;have kS:=(hS.keep bA).blk;have e2:=co kS 2;simp at e2;obtain ⟨R,hR⟩:=nmQ (Kd.tyN E s);rw [<-hR];have HT:=zAA dD;have HR:=zAA (show R=Kd.tyN E s from hR);generalize hq:(Kd.findD E.types s).isSome=q at hl;clear hS hv hR kS dD
 cases q
 ·go_enter Tryz.func122,Tryz.ntmps122
  go_wp2;refine bodyPost_ret (v:=.tuple #[.agg #[.int .u8 0,.slice none 0 0],.int .i64 9]) (by simp [results,Tryz.results122,go_sem]) rfl ⟨_,_,rfl,?_,?_⟩
  ·rw [HR.out]
   have hn:Kd.findD E.types s=none:=(by simpa using hq);unfold Kd.tyN;rw [hn];exact ⟨rfl,by decide,rfl⟩
  ·repeat (first | exact Below.refl _ _ | refine Below.setCell ?_ (by simp) _ | refine Below.alloc ?_ (by simp) _)
 ·obtain ⟨d,hd⟩:=Option.isSome_iff_exists.1 hq
  have h1:R=.ok (Kd.tyD d):=(by rw [HR.out];unfold Kd.tyN;rw [hd]);have h2:=HT.out;unfold Kd.typ at h2;rw [hd] at h2;have H2:=zAA h2;subst h1;clear h2 hd hq HT HR;go_enter Tryz.func122,Tryz.ntmps122;go_wp2;refine bodyPost_ret (v:=.tuple #[.agg #[.int .u8 te,.slice ta tn tc],.int .i64 0]) (by simp [results,Tryz.results122,go_sem]) rfl ?_;refine (fun h=>⟨_,_,rfl,⟨rfl,H2.out.under h⟩,h⟩:Below w.heap.size w _->_) ?_
  repeat (first | exact Below.refl _ _ | refine Below.setCell ?_ (by simp) _ | refine Below.alloc ?_ (by simp) _)
def LRes (ok:Nat->Prop) (w:World) (v:Value) (c:Int):Except Int (List Kd.Ty)->Prop
 | .error k=>c=k/\k≠0/\v=.slice none 0 0
 | .ok l=>c=0/\HTys ok w v l
def TyDoes (x:SB) (E:Kd.Env) (e:Ex):Prop:=∀ (ok:Nat->Prop) (w:World) (mk done:List ByteArray) (y:ExV),Scp ok w x E mk done->GlobK w->HEx ok w y.cells e->(∀ i,ok i->i<w.heap.size) ->
 Calls Tryz.prog 87 #[.pointer (some ⟨x.b,0,none⟩),.agg #[.int .i64 y.op,.int .i64 y.k,.int .i64 y.n,.string y.name,.slice y.aS y.nS y.cS,.slice y.aL y.nL y.cL]] w fun r w'=>∃ u c,r=.returned (.tuple #[u,.int .i64 c])/\TRes (okU ok w.heap.size) w' u c (Kd.tyX E e)/\Below w.heap.size w w'
noncomputable def tyTo (E:Kd.Env) (T:List Kd.Ty) (r:List Ex):Except Int (List Kd.Ty):=match Kd.tyL E r with
 | .error c=>.error c
 | .ok l=>.ok (T++l)
theorem tyTo_nil (E:Kd.Env) (T:List Kd.Ty):tyTo E T []=.ok T:=by simp [tyTo,Kd.tyL]
theorem tyTo_err {E:Kd.Env} {T:List Kd.Ty} {x:Ex} {r:List Ex} {c:Int} (h:Kd.tyX E x=.error c):tyTo E T (x :: r)=.error c:=by
 simp [tyTo,Kd.tyL,h]
theorem tyTo_ok {E:Kd.Env} {T:List Kd.Ty} {x:Ex} {r:List Ex} {t:Kd.Ty} (h:Kd.tyX E x=.ok t):tyTo E T (x :: r)=tyTo E (T++[t]) r:=by
 unfold tyTo;simp only [Kd.tyL,h]
 cases Kd.tyL E r with
 | error c=>rfl
 | ok l=>simp
theorem info35k:(Tryz.prog.info? 35).map (fun i=>(i.zero,i.size,i.bytes))=some (some (.agg #[.int .u8 0,.slice none 0 0]),2,32):=by kernel_rfl
theorem zEQ {ok:Nat->Prop} {w:World} {x:SB} {E:Kd.Env} {mk done:List ByteArray} (hS:Scp ok w x E mk done) (hG:GlobK w) {v:Value} {L:List Ex} (hl:HExs ok w v L) (bm:∀ i,ok i->i<w.heap.size) (hX:∀ e ∈ L,TyDoes x E e) (aP:L.length<=1000000) :
  Calls Tryz.prog 116 #[v,.func (.func 87) #[.pointer (some ⟨x.b,0,none⟩)] #[]] w fun r w'=>∃ u c,r=.returned (.tuple #[u,.int .i64 c])/\LRes (okU ok w.heap.size) w' u c (Kd.tyL E L)/\Below w.heap.size w w':=by
 obtain ⟨i0,hi,db,bP,bY⟩:=info_parts info35k;obtain ⟨M,hM⟩:=nmQ (madeCells (Value.agg #[.int .u8 0,.slice none 0 0]).cells (L.length*i0.size));have mV:∀ W:World,(Instr.makeSlice 144 (.int .i64 (L.length:Int)) (.int .i64 (L.length:Int))).run Tryz.prog W=.ok (.slice (some ⟨W.heap.size,0,none⟩) L.length L.length) (W.alloc (.cells M 35)):=fun W=>by
  have h:=run_make (P:=Tryz.prog) W 144 35 i0 (.agg #[.int .u8 0,.slice none 0 0]) Tryz.underlying144 hi db .i64 .i64 (L.length:Int) (L.length:Int) (by omega) (by omega) (by rw [bY];omega) (by omega)
  simpa [hM] using h
 have xb:M.size=L.length*2:=(by rw [hM,size_madeCells,bP]);obtain ⟨ao,cap,rfl,aC,av,ai⟩:=hl.at;unfold maxLen at av;obtain ⟨R,hR⟩:=nmQ (Kd.tyL E L);rw [<-hR];have HR:=zAA (show R=tyTo E [] L by rw [hR];unfold tyTo;cases Kd.tyL E L<;>simp);have HX:=zAA hX;have HS:=zAA hS;have HG:=zAA hG;have tS:=zAA ai;have HL:=zAA hl;have HO:=zAA bm;have D0:¬ok w.heap.size:=fun h=>absurd (bm _ h) (Nat.lt_irrefl _);clear hX hS hG hl bm ai hR hM hi db bP bY;obtain ⟨n,hn⟩:=nmQ (L.length);rw [<-hn] at aC mV xb aP ⊢;have HN:=zAA hn;clear hn;go_enter Tryz.func116,Tryz.ntmps116;go_wp2_with fail;go_loopg [16] n (fun gh v wr=>∃ (i:Nat) (T:List Kd.Ty),i<=n/\gh=n-i/\v=.int .i64 (i:Nat)/\T.length=i/\Hid (R=tyTo E T (L.drop i))/\Hid (RowT (fun j=>ok j\/w.heap.size+1<=j) wr w.heap.size n T)/\Below w.heap.size w wr)
 case atStart=>exact ⟨0,[],Nat.zero_le _,rfl,rfl,rfl,zAA (by simpa using HR.out),zAA ⟨M,zAC w _,xb,fun j h=>absurd h (Nat.not_lt_zero _)⟩,(Below.refl _ _).alloc nR _⟩
 case round=>
  obtain ⟨i,T,hi,rfl,rfl,oJ,H,HRow,aj⟩:=hrel;by_cases ak:i<n
  case neg=>
   have bH:i=n:=(by omega);subst bH;have e1:L.drop i=[]:=List.drop_of_length_le (by have:=HN.out;omega);have hz:R=.ok T:=(by rw [H.out,e1,tyTo_nil]);go_wp2
   go_ret2
   refine ⟨_,_,rfl,?_,aj⟩;rw [hz];exact ⟨rfl,HRow.out.full oJ (by unfold maxLen;omega) (fun j hj=>hj.imp id (fun h=>by omega)) (.inr nR)⟩
  case pos=>
   have ap:i<L.length:=(by have:=HN.out;omega);have jG:L.drop i=L[i] :: L.drop (i+1):=List.drop_eq_getElem_cons ap;have hX:=HX.out _ (List.getElem_mem ap);have aY:=H.out;rw [jG] at aY;obtain ⟨fj,bE,eqs,_,_,br⟩:=(HL.out.under aj).at;injection eqs with q1 q2 q3;subst q1;obtain ⟨b,o,y,rfl,gA,hb,hy,hex⟩:=br i ap;obtain ⟨e0,e1,e2,e3,e4,e5⟩:=hy;obtain ⟨xx,rZ⟩:=nmQ (L[i]);rw [<-rZ] at hX aY hex;have bA:Below wr.heap.size wr (wr.alloc (.cells #[.int .i64 y.op,.int .i64 y.k,.int .i64 y.n,.string y.name,.slice y.aS y.nS y.cS,.slice y.aL y.nL y.cL] 54 (0,0))):=(Below.refl _ _).alloc nR _;have BA:=aj.trans (bA.mono aj.size);have ag:=hX ok _ mk done y (HS.out.keep BA) (HG.out.under BA) (hex.under bA) (fun j hj=>Nat.lt_of_lt_of_le (HO.out j hj) BA.size);have AB:=HRow.out.lt;have aU:=HRow.out.keep bA;have bo:(wr.alloc (.cells #[.int .i64 y.op,.int .i64 y.k,.int .i64 y.n,.string y.name,.slice y.aS y.nS y.cS,.slice y.aL y.nL y.cL] 54 (0,0))).heap.size=wr.heap.size+1:=(by simp);clear br hX hex q2 q3 rZ jG;go_wp2_with fail;refine ag.mono ?_;rintro e w4 ⟨u,c,rfl,hT,b4⟩;have B4:=BA.trans (b4.mono BA.size);clear ag
   cases dD:Kd.tyX E xx with
   | error k=>
    rw [dD] at hT;obtain ⟨rfl,gm,rfl⟩:=hT;have bY:(c != 0)=true:=(by simpa using gm);have hz:R=.error c:=(by rw [aY,tyTo_err dD]);clear aU HRow H aY dD;go_wp2
    go_ret2
    refine ⟨_,_,rfl,?_,?_⟩
    ·rw [hz]
     exact ⟨rfl,gm,rfl⟩
    ·exact B4.alloc B4.size _
   | ok t=>
    rw [dD] at hT;obtain ⟨rfl,uu,rfl,hu⟩:=hT;obtain ⟨ua,un,uc,rfl⟩:=hu.slice;have hz:R=tyTo E (T++[t]) (L.drop (i+1)):=(by rw [aY,tyTo_ok dD]);have kC:=aU.keep b4;have AO:=hu.wide (ok':=fun j=>ok j\/w.heap.size+1<=j) (fun j hj _=>hj.imp id (fun h=>by rw [bo] at h;omega));have Dd:¬(ok w.heap.size\/w.heap.size+1<=w.heap.size):=by
     rintro (h | h)
     ·exact D0 h
     ·omega
    have jC:=zAA (kC.put AO Dd (by omega));have HZ:=zAA hz;obtain ⟨A,hA,uj,_⟩:=kC;obtain ⟨a0,aX⟩:∃ a0,w4.cell? ⟨w.heap.size,i*2,none⟩=some a0:=⟨A[i*2]'(by omega),by rw [co hA];exact Array.getElem?_eq_getElem (by omega)⟩;obtain ⟨a1,st1⟩:∃ a1,w4.cell? ⟨w.heap.size,i*2+1,none⟩=some a1:=⟨A[i*2+1]'(by omega),by rw [co hA];exact Array.getElem?_eq_getElem (by omega)⟩;have dr:=fo hA (i*2);have dp:=fo hA (i*2+1);have y4:w.heap.size<w4.heap.size:=zAB hA;clear aU HRow H aY dD hu AO hA uj hz;go_wp2_with fail;go_roundg (n-(i+1))
    case measure=>omega
    case rel=>
     refine ⟨i+1,T++[t],by omega,rfl,by go_num,by simp [oJ],HZ,?_,?_⟩
     ·have:=jC.out
      rw [oJ] at this;exact zAA (this.keep ((Below.refl _ _).alloc nR _))
     ·exact ((B4.setCell (p:=⟨w.heap.size,i*2,none⟩) nR _).setCell (p:=⟨w.heap.size,i*2+1,none⟩) nR _).alloc (by simp;omega) _
end Go.Proofs.YtkfgbhlpjkkgfaaGreatDoor
namespace Go.Proofs.YtkfgbhlpjkkgfaaGreatDoor
namespace Bk
open Tk
structure Bt where
 kind:Int
 text:List UInt8
 n:Int
end Bk
end Go.Proofs.YtkfgbhlpjkkgfaaGreatDoor
namespace Go.Proofs.YtkfgbhlpjkkgfaaGreatDoor
open Go.RowKit Go.IntWalk
namespace Tx
def put (t s:ByteArray):ByteArray:=if 12000<t.size then t else t++s
def puts (t:ByteArray) (l:List ByteArray):ByteArray:=l.foldl put t
def cat:List ByteArray->ByteArray
 | []=>ByteArray.empty
 | s :: l=>s++cat l
theorem puts_nil (t:ByteArray):puts t []=t:=rfl
theorem puts_cons (t s:ByteArray) (l:List ByteArray):puts t (s :: l)=puts (put t s) l:=rfl
theorem puts_append (t:ByteArray) (a b:List ByteArray):puts t (a++b)=puts (puts t a) b:=by simp [puts]
theorem puts_full {t:ByteArray} (h:12000<t.size):∀ l,puts t l=t
 | []=>rfl
 | s :: l=>by rw [puts_cons,put,if_pos h];exact puts_full h l
theorem cat_append:∀ a b:List ByteArray,cat (a++b)=cat a++cat b
 | [],b=>by simp [cat,ByteArray.empty_append]
 | s :: a,b=>by simp [cat,cat_append a b,ByteArray.append_assoc]
theorem puts_fit:∀ (l:List ByteArray) (t:ByteArray),t.size+(cat l).size<=12000->puts t l=t++cat l
 | [],t,_=>by simp [puts,cat,ByteArray.append_empty]
 | s :: l,t,h=>by
  simp only [cat,ByteArray.size_append] at h;rw [puts_cons,put,if_neg (by omega),puts_fit l (t++s) (by rw [ByteArray.size_append];omega),cat,ByteArray.append_assoc]
theorem puts_over:∀ (l:List ByteArray) (t:ByteArray),12000<t.size+(cat l).size->12000<(puts t l).size
 | [],t,h=>by simpa [puts,cat] using h
 | s :: l,t,h=>by
  by_cases ht:12000<t.size
  ·rw [puts_full ht];exact ht
  simp only [cat,ByteArray.size_append] at h;rw [puts_cons,put,if_neg ht];exact puts_over l (t++s) (by rw [ByteArray.size_append];omega)
def num (n:Int):ByteArray:=⟨(Lib.itoa n).toArray⟩
def abs (n:Int):Int:=if n<0 then -n else n
def signP (n:Int) (first:Bool):ByteArray:=if first=true then (if n<0 then ⟨#[45]⟩ else ⟨#[]⟩) else (if n<0 then ⟨#[32,45,32]⟩ else ⟨#[32,43,32]⟩)
def termP (t:Tm):List ByteArray:=if t.2.size=0 then [num (abs t.1)] else if abs t.1=1 then [t.2] else [num (abs t.1),⟨#[42]⟩,t.2]
def rowP {α:Type} (g:Nat->α->List ByteArray):Nat->List α->List ByteArray
 | _,[]=>[]
 | i,x :: l=>g i x++rowP g (i+1) l
theorem rowP_append {α:Type} (g:Nat->α->List ByteArray):∀ (i:Nat) (a b:List α),rowP g i (a++b)=rowP g i a++rowP g (i+a.length) b
 | i,[],b=>by simp [rowP]
 | i,x :: a,b=>by
  rw [List.cons_append,rowP,rowP,rowP_append g (i+1) a b,List.append_assoc,List.length_cons];rw [show i+1+a.length=i+(a.length+1) by omega]
theorem rowP_take {α:Type} (g:Nat->α->List ByteArray) (l:List α) (i:Nat) (h:i<l.length):rowP g 0 (l.take (i+1))=rowP g 0 (l.take i)++g i l[i]:=by
 rw [List.take_succ_eq_append_getElem h,rowP_append];rw [List.length_take,Nat.min_eq_left (by omega)];simp [rowP]
theorem puts_take {α:Type} (g:Nat->α->List ByteArray) (t:ByteArray) (l:List α) (i:Nat) (h:i<l.length):puts t (rowP g 0 (l.take (i+1)))=puts (puts t (rowP g 0 (l.take i))) (g i l[i]):=by
 rw [rowP_take g l i h,puts_append]
def comma {α:Type} (f:α->List ByteArray) (i:Nat) (x:α):List ByteArray:=if i=0 then f x else [⟨#[44,32]⟩]++f x
def commas {α:Type} (f:α->List ByteArray) (l:List α):List ByteArray:=rowP (comma f) 0 l
def sizeAt (i:Nat) (t:Tm):List ByteArray:=[signP t.1 (decide (i=0))]++termP t
def sizeP (s:List Tm):List ByteArray:=rowP sizeAt 0 s
def declP (d:De):List ByteArray:=[d.name,⟨#[58,32]⟩]++([if d.elem=105 then ⟨#[105,110,116]⟩ else ⟨#[98,111,111,108]⟩]++(if d.n.length=0 then [] else [⟨#[94]⟩]++sizeP d.n))
def angP {α:Type} (f:α->List ByteArray) (l:List α):List ByteArray:=if l.length=0 then [] else [⟨#[60]⟩]++(commas f l++[⟨#[62]⟩])
def wordP (s:ByteArray):List ByteArray:=[s]
def opsT:List (ByteArray × ByteArray × Int):=[(⟨#[]⟩,⟨#[]⟩,0),(⟨#[97,100,100]⟩,⟨#[32,43,32]⟩,4),(⟨#[115,117,98]⟩,⟨#[32,45,32]⟩,4),(⟨#[109,117,108]⟩,⟨#[32,42,32]⟩,5),(⟨#[100,105,118]⟩,⟨#[32,47,32]⟩,5),(⟨#[109,111,100]⟩,⟨#[32,37,32]⟩,5),(⟨#[109,105,110]⟩,⟨#[]⟩,7),(⟨#[109,97,120]⟩,⟨#[]⟩,7),(⟨#[108,101,115,115]⟩,⟨#[32,60,32]⟩,3),(⟨#[101,113]⟩,⟨#[32,61,61,32]⟩,3),(⟨#[97,110,100]⟩,⟨#[32,97,110,100,32]⟩,2),(⟨#[111,114]⟩,⟨#[32,111,114,32]⟩,1),(⟨#[120,111,114]⟩,⟨#[32,120,111,114,32]⟩,1),(⟨#[110,101,103]⟩,⟨#[45]⟩,6),(⟨#[110,111,116]⟩,⟨#[110,111,116,32]⟩,6)]
def opT (k:Nat):ByteArray × ByteArray × Int:=opsT.getD k (⟨#[]⟩,⟨#[]⟩,0)
def rankE (op k:Int):Int:=if op=4\/op=5 then (opT k.toNat).2.2 else if op=6 then 0 else 7
def partQ (r:Int) (p:List ByteArray) (least:Int):List ByteArray:=if least<=r then p else [⟨#[40]⟩]++(p++[⟨#[41]⟩])
abbrev Pt:=Int × List ByteArray
def nth (l:List Pt) (i:Nat):Pt:=l.getD i (0,[])
def at0 (p:Pt):List ByteArray:=partQ p.1 p.2 0
def sizesP (S:List (List Tm)):List ByteArray:=rowP (fun _ s=>[⟨#[44,32]⟩]++sizeP s) 0 S
def pairP (k:Int) (l:List Pt):List ByteArray :=
 if (opT k.toNat).2.1.size=0 then [(opT k.toNat).1,⟨#[40]⟩]++(commas at0 l++[⟨#[41]⟩])
 else partQ (nth l 0).1 (nth l 0).2 (if (opT k.toNat).2.2=3 then 4 else (opT k.toNat).2.2)++([(opT k.toNat).2.1]++partQ (nth l 1).1 (nth l 1).2 ((opT k.toNat).2.2+1))
def choiceP (l:List Pt):List ByteArray:=[⟨#[105,102,32]⟩]++(at0 (nth l 0)++([⟨#[32,116,104,101,110,32]⟩]++(at0 (nth l 1)++([⟨#[32,101,108,115,101,32]⟩]++at0 (nth l 2)))))
def indexP (l:List Pt):List ByteArray:=partQ (nth l 0).1 (nth l 0).2 7++([⟨#[91]⟩]++(at0 (nth l 1)++([⟨#[32,58,32]⟩]++(at0 (nth l 2)++[⟨#[93]⟩]))))
def formP (op k:Int) (S:List (List Tm)) (l:List Pt):List ByteArray :=
 [(Rn.shp op.toNat).1,⟨#[40]⟩]++((if k=0 then [] else [(opT k.toNat).1,⟨#[44,32]⟩])++(commas at0 l++(sizesP S++[⟨#[41]⟩])))
def bareOf (op k n:Int) (name:ByteArray) (S:List (List Tm)) (l:List Pt):List ByteArray :=
 if op=1 then [num n] else if op=2 then [if n=1 then ⟨#[116,114,117,101]⟩ else ⟨#[102,97,108,115,101]⟩] else if op=3 then [name]
 else if op=4 then [(opT k.toNat).2.1]++partQ (nth l 0).1 (nth l 0).2 6
 else if op=5 then pairP k l else if op=6 then choiceP l else if op=11 then indexP l else formP op k S l
def rank:Ex->Int
 | .mk op k _ _ _ _=>rankE op k
mutual
def bare:Ex->List ByteArray
 | .mk op k n name S L=>bareOf op k n name S (bares L)
def bares:List Ex->List Pt
 | []=>[]
 | x :: l=>(rank x,bare x) :: bares l
end
theorem bares_eq:∀ l:List Ex,bares l=l.map (fun x=>(rank x,bare x))
 | []=>by simp [bares]
 | x :: l=>by rw [bares,bares_eq l];rfl
theorem rowP_map {α β:Type} (f:α->β) (g:Nat->β->List ByteArray):∀ (i:Nat) (l:List α),rowP g i (l.map f)=rowP (fun i x=>g i (f x)) i l
 | i,[]=>rfl
 | i,x :: l=>by rw [List.map_cons,rowP,rowP,rowP_map f g (i+1) l]
def partP (e:Ex) (least:Int):List ByteArray:=partQ (rank e) (bare e) least
def exprP (e:Ex):List ByteArray:=partP e 0
theorem commas_bares (l:List Ex):commas at0 (bares l)=commas exprP l:=by
 rw [bares_eq,commas,commas,rowP_map];rfl
def callP (q:Eqn):List ByteArray:=[⟨#[99,97,108,108,32]⟩,q.node]++(angP sizeP q.S++([⟨#[40]⟩]++(commas exprP q.E++[⟨#[41]⟩])))
def eqP (q:Eqn):List ByteArray:=[⟨#[9]⟩]++(commas wordP q.names++([⟨#[32,61,32]⟩]++((if q.node.size=0 then (match q.E with | []=>[] | x :: _=>exprP x) else callP q)++[⟨#[59,10]⟩])))
def localP (d:De):List ByteArray:=[⟨#[9,118,97,114,32]⟩]++(declP d++[⟨#[59,10]⟩])
def nodeP (n:Nd):List ByteArray :=
 [⟨#[110,111,100,101,32]⟩,n.name]++(angP wordP n.sizes++([⟨#[40]⟩]++(commas declP n.inn++([⟨#[41,32,45,62,32,40]⟩]++(commas declP n.out++([⟨#[41,32,123,10]⟩]++(rowP (fun _ d=>localP d) 0 n.loc++(rowP (fun _ q=>eqP q) 0 n.eqs++[⟨#[125,10]⟩]))))))))
def progP (l:List Nd):List ByteArray:=rowP (fun _ n=>nodeP n) 0 l
end Tx
end Go.Proofs.YtkfgbhlpjkkgfaaGreatDoor
