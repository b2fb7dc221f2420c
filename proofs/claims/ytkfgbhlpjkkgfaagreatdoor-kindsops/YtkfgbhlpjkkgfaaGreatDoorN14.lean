import Derived.Test.YtkfgbhlpjkkgfaaGreatDoorN13
import Derived.Test.YtkfgbhlpjkkgfaaGreatDoorN03
set_option linter.unusedVariables false
set_option linter.unusedSimpArgs false
set_option maxHeartbeats 64000000
set_option maxRecDepth 100000
namespace Go.Proofs.YtkfgbhlpjkkgfaaGreatDoor
open Go.RowKit Go.IntWalk
theorem size_zero {s:ByteArray} (h:s.size=0):s.toList=[]:=by
 rw [Lib.toList_data];exact List.length_eq_zero_iff.1 ((Array.length_toList).trans h)
theorem size_pos {s:ByteArray} (h:s.size≠0):s.toList≠[]:=by
 rw [Lib.toList_data];intro e
 apply h
 have:s.data.toList.length=0:=(by rw [e];rfl);exact (Array.length_toList).symm.trans this
theorem termCode_any {ok:Nat→Prop} {w:World} {x:SB} {E:Kd.Env} {mk done:List ByteArray} (hS:Scp ok w x E mk done) {B:Nat} (hB:w.heap[B]?=some (.cells #[.pointer (some ⟨x.b,0,none⟩)] 99 (0,0))) (t:Tm) (ht:t.2.size≤maxLen) :
  Calls Tryz.prog 162 #[.agg #[.int .i64 t.1,.string t.2],.pointer (some ⟨B,0,none⟩)] w fun r w'=>r=.returned (.int .i64 (Kd.termN E.sizes t))∧Below w.heap.size w w':=by
 obtain ⟨n,s⟩:=t
 dsimp only at ht ⊢
 have bA:Below w.heap.size w (w.alloc (.cells #[.int .i64 n,.string s] 83 (0,0))):=(Below.refl _ _).alloc nR _;have h1:=hS.keep bA;have kA:=heap_new w (.cells #[.int .i64 n,.string s] 83 (0,0));have kB:=(bA.block _ (lt_of hB)).trans hB;obtain ⟨R,hR⟩:=nmQ (Kd.termN E.sizes (n,s));rw [←hR];unfold Kd.termN at hR
 dsimp only at hR
 go_enter Tryz.func162,Tryz.ntmps162;go_upto_region 1 with fail;generalize w.alloc (.cells #[.int .i64 n,.string s] 83 (0,0))=w1 at bA h1 kA kB ⊢;obtain ⟨v,hv⟩:=h1.lookSize ht;have kS:=h1.blk;have yA:=lt_of kA;have yB:=lt_of kB;have yS:=lt_of kS;have c0:=co kA 0;have c1:=co kA 1;have d0:=co kB 0;have e1:=co kS 1;simp at c0 c1 d0 e1;generalize Kd.hasN E.sizes s=q at hv hR;clear hS h1 kS hB kB kA;go_cut [5] (fun v5 wd=>v5=.bool q∧Below w1.heap.size w1 wd)
 case first=>
  refine wp_region_late (fun w'=>Below w1.heap.size w1 w') (fun _=>false) (by kernel_rfl) ?_;have hH0:Below w1.heap.size w1 w1.drew:=(Below.refl _ _).drew;generalize w1.drew=wd0 at hH0 ⊢;refine' wpAnyL_take (i:=0) (oi:=⟨some 7,_,_,_,_,_⟩) (v:=_) rfl (by kernel_rfl) (by kernel_rfl) (by kernel_rfl) (by kernel_rfl) (fun _ _ _ h=>h) hH0 (by rfl) ?hyv ?o1
  case hyv=>
   intro wz hSw;have zc0:=(hSw.cell (p:=⟨B,0,none⟩) yB).trans d0;go_simp
   try rfl
  try simp only [Act.put,sT,sZ,sS]
  refine' wpAnyL_take (i:=1) (oi:=⟨some 8,_,_,_,_,_⟩) (v:=_) rfl (by kernel_rfl) (by kernel_rfl) (by kernel_rfl) (by kernel_rfl) (fun _ _ _ h=>h) hH0 (by rfl) ?hyv ?o2
  case hyv=>
   intro wz hSw;go_simp
   try rfl
  try simp only [Act.put,sT,sZ,sS]
  refine' wpAnyL_take (i:=2) (oi:=⟨some 9,_,_,_,_,_⟩) (v:=_) rfl (by kernel_rfl) (by kernel_rfl) (by kernel_rfl) (by kernel_rfl) (fun _ _ _ h=>h) hH0 (by rfl) ?hyv ?o3
  case hyv=>
   intro wz hSw;go_simp
   try rfl
  try simp only [Act.put,sT,sZ,sS]
  refine' wpAnyL_take (i:=3) (oi:=⟨some 10,_,_,_,_,_⟩) (v:=_) rfl (by kernel_rfl) (by kernel_rfl) (by kernel_rfl) (by kernel_rfl) (fun _ _ _ h=>h) hH0 (by rfl) ?hyv ?o4
  case hyv=>
   intro wz hSw;have zc0:=(hSw.cell (p:=⟨x.b,1,none⟩) yS).trans e1;go_simp
   try rfl
  try simp only [Act.put,sT,sZ,sS]
  refine' wpAnyL_take (i:=4) (oi:=⟨some 11,_,_,_,_,_⟩) (v:=_) rfl (by kernel_rfl) (by kernel_rfl) (by kernel_rfl) (by kernel_rfl) (fun _ _ _ h=>h) hH0 (by rfl) ?hyv ?o5
  case hyv=>
   intro wz hSw;go_simp
   try rfl
  try simp only [Act.put,sT,sZ,sS]
  refine' wpAnyL_take (i:=5) (oi:=⟨some 12,_,_,_,_,_⟩) (v:=_) rfl (by kernel_rfl) (by kernel_rfl) (by kernel_rfl) (by kernel_rfl) (fun _ _ _ h=>h) hH0 (by rfl) ?hyv ?o6
  case hyv=>
   intro wz hSw;have zc0:=(hSw.cell (p:=⟨w.heap.size,0,none⟩) yA).trans c0;have zc1:=(hSw.cell (p:=⟨w.heap.size,1,none⟩) yA).trans c1;go_simp
   try rfl
  try simp only [Act.put,sT,sZ,sS]
  refine' wpAnyL_take (i:=6) (oi:=⟨some 13,_,_,_,_,_⟩) (v:=_) rfl (by kernel_rfl) (by kernel_rfl) (by kernel_rfl) (by kernel_rfl) (fun _ _ _ h=>h) hH0 (by rfl) ?hyv ?o7
  case hyv=>
   intro wz hSw;have hl:=hv _ hSw;go_simp
   try rfl
  try simp only [Act.put,sT,sZ,sS]
  refine' wpAnyL_take (i:=7) (oi:=⟨some 6,_,_,_,_,_⟩) (v:=_) rfl (by kernel_rfl) (by kernel_rfl) (by kernel_rfl) (by kernel_rfl) (fun _ _ _ h=>h) hH0 (by rfl) ?hyv ?o8
  case hyv=>
   intro wz hSw;go_simp
   try rfl
  try simp only [Act.put,sT,sZ,sS]
  refine' wpAnyL_take (i:=8) (oi:=⟨some 14,_,_,_,_,_⟩) (v:=_) rfl (by kernel_rfl) (by kernel_rfl) (by kernel_rfl) (by kernel_rfl) (fun _ _ _ h=>h) hH0 (by rfl) ?hyv ?o9
  case hyv=>
   intro wz hSw;go_simp
   try rfl
  try simp only [Act.put,sT,sZ,sS]
  refine' wpAnyL_take (i:=9) (oi:=⟨some 15,_,_,_,_,_⟩) (v:=_) rfl (by kernel_rfl) (by kernel_rfl) (by kernel_rfl) (by kernel_rfl) (fun _ _ _ h=>h) hH0 (by rfl) ?hyv ?o10
  case hyv=>
   intro wz hSw;go_simp
   try rfl
  try simp only [Act.put,sT,sZ,sS]
  refine' wpAnyL_take (i:=10) (oi:=⟨some 4,_,_,_,_,_⟩) (v:=_) rfl (by kernel_rfl) (by kernel_rfl) (by kernel_rfl) (by kernel_rfl) (fun _ _ _ h=>h) hH0 (by rfl) ?hyv ?o11
  case hyv=>
   intro wz hSw;go_simp
   try rfl
  try simp only [Act.put,sT,sZ,sS]
  refine' wpAnyL_take (i:=11) (oi:=⟨some 5,_,_,_,_,_⟩) (v:=_) rfl (by kernel_rfl) (by kernel_rfl) (by kernel_rfl) (by kernel_rfl) (fun _ _ _ h=>h) hH0 (by rfl) ?hyv ?o12
  case hyv=>
   intro wz hSw;go_simp
   try rfl
  try simp only [Act.put,sT,sZ,sS]
  refine wpAnyL_done (by kernel_rfl) ?_ _;go_wp2_with fail;go_meet
  case rel=>exact ⟨rfl,hH0⟩
 case rest=>
  obtain ⟨rfl,bc⟩:=hcut;have B2:=bA.trans (bc.mono bA.size);have f1:=(bc.cell (p:=⟨w.heap.size,1,none⟩) yA).trans c1;by_cases hz:s.size=0
  ·have hz2:s.toList=[]:=size_zero hz
   have hz3:(s.toList==([]:List UInt8))=true:=(by simp [hz2]);have hz4:(s.toList != ([]:List UInt8))=false:=(by simp [hz2]);rw [if_neg (by simp [hz])] at hR;subst hR
   cases q
   ·go_wp2
    go_ret;exact ⟨rfl,B2⟩
   ·go_wp2
    go_ret;exact ⟨rfl,B2⟩
  ·have hz2:s.toList≠[]:=size_pos hz
   have hz3:(s.toList==([]:List UInt8))=false:=(by simp [hz2]);have hz4:(s.toList != ([]:List UInt8))=true:=(by simp [hz2])
   cases q
   ·rw [if_pos (by simp [hz])] at hR
    subst hR;go_wp2;go_ret;exact ⟨rfl,B2⟩
   ·rw [if_neg (by simp)] at hR
    subst hR;go_wp2;go_ret;exact ⟨rfl,B2⟩
theorem kfirstTerm_any {ok:Nat→Prop} {w:World} {x:SB} {E:Kd.Env} {mk done:List ByteArray} (hS:Scp ok w x E mk done) {B:Nat} (hB:w.heap[B]?=some (.cells #[.pointer (some ⟨x.b,0,none⟩)] 99 (0,0))) {v:Value} {l:List Tm} {ok2:Nat→Prop} (hl:HTerms ok2 w v l) (hF:Rn.szF l) :
  Calls Tryz.prog 161 #[v,.func (.func 162) #[] #[.pointer (some ⟨B,0,none⟩)]] w fun e w'=>e=.returned (.int .i64 (Rn.firstC (Kd.termN E.sizes) l))∧Below w.heap.size w w':=by
 obtain ⟨ao,cap,rfl,hc1,hc2,hat⟩:=hl.at;unfold maxLen at hc2;obtain ⟨R,hR⟩:=nmQ (Rn.firstC (Kd.termN E.sizes) l);rw [←hR];have HR:=hide hR;clear hR;obtain ⟨n,hn⟩:=nmQ (l.length);rw [←hn] at hc1 ⊢;have HN:=hide hn;clear hn;have HS:=hide hS;have HB:=hide hB;have HF:=hide hF;clear hS hB hF hl;go_enter Tryz.func161,Tryz.ntmps161;go_wp2_with fail;go_loopg [10] n (fun k v wr=>∃ i,i≤n∧k=n-i∧v=.int .i64 (i:Nat)∧Hid (∀ j (h:j<l.length),j<i→(Kd.termN E.sizes) l[j]=0)∧Below w.heap.size w wr)
 case atStart=>exact ⟨0,Nat.zero_le _,rfl,rfl,fun j _ h=>absurd h (Nat.not_lt_zero _),Below.refl _ _⟩
 case round=>
  obtain ⟨i,hi,rfl,rfl,H,hbr⟩:=hrel;by_cases hlt:i<n
  case neg=>
   have hin:i=n:=(by omega);subst hin;go_wp2;go_ret;refine ⟨?_,hbr⟩;rw [HR.out,Rn.firstC_none _ l (fun j hj=>H.out j hj (by have:=HN.out;omega))];rfl
  case pos=>
   have hil:i<l.length:=(by have:=HN.out;omega);obtain ⟨x1,hx1⟩:=nmQ (l[i]);have hfi:x1.2.size≤maxLen:=(by rw [hx1];exact HF.out _ (List.getElem_mem hil));obtain ⟨b,o,rfl,hb,hc0,hc1⟩:=hat i hil;rw [←hx1] at hc0 hc1;have e0:=(hbr.cell (p:=⟨b,o+i*2,none⟩) hb).trans hc0;have e1:=(hbr.cell (p:=⟨b,o+i*2+1,none⟩) hb).trans hc1;obtain ⟨x1n,x1s⟩:=x1
   dsimp only at e0 e1
   have hbA:Below w.heap.size w (wr.alloc (.cells #[.int .i64 x1n,.string x1s] 83 (0,0))):=hbr.alloc hbr.size _;have hcall:=termCode_any (HS.out.keep hbA) ((hbA.block _ (lt_of HB.out)).trans HB.out) (x1n,x1s) hfi;have HX:=hide hx1;clear hat hx1;go_wp2_with fail;refine (hcall ).mono ?_;rintro e w4 ⟨rfl,b4⟩;have BW:=hbA.trans (b4.mono hbA.size);obtain ⟨c,hcx⟩:=nmQ ((Kd.termN E.sizes) (x1n,x1s));have HC:=hide hcx
   try rw [←hcx]
   clear hcx;by_cases hz:c=0
   ·subst hz
    go_wp2_with fail;go_roundg (n-(i+1))
    case measure=>omega
    case rel=>
     refine ⟨i+1,by omega,rfl,by go_num,fun j hj hji=>?_,BW⟩;by_cases e:j=i
     ·subst e
      rw [←HX.out,←HC.out]
     ·exact H.out j hj (by omega)
   ·have hz2:(c != 0)=true:=by simpa using hz
    go_wp2;go_ret;refine ⟨?_,BW⟩;rw [HR.out,Rn.firstC_step _ l i hil (fun j hj hji=>H.out j hj hji) (by rw [←HX.out,←HC.out];exact hz),←HX.out,←HC.out];rfl
theorem kcodeOfSize_any {ok:Nat→Prop} {w:World} {x:SB} {E:Kd.Env} {mk done:List ByteArray} (hS:Scp ok w x E mk done) {v:Value} {l:List Tm} {ok2:Nat→Prop} (hl:HTerms ok2 w v l) (hF:Rn.szF l) :
  Calls Tryz.prog 114 #[.pointer (some ⟨x.b,0,none⟩),v] w fun r w'=>r=.returned (.int .i64 (Kd.codeSz E.sizes l))∧Below w.heap.size w w':=by
 have bA:Below w.heap.size w (w.alloc (.cells #[.pointer (some ⟨x.b,0,none⟩)] 99 (0,0))):=(Below.refl _ _).alloc nR _;have kA:=heap_new w (.cells #[.pointer (some ⟨x.b,0,none⟩)] 99 (0,0));have hc:=kfirstTerm_any (hS.keep bA) kA (hl.under bA) hF;have HL:=hide (hl.under bA);obtain ⟨ao,cap,rfl,_,_,_⟩:=hl.at;clear hS hl kA;obtain ⟨R,hR⟩:=nmQ (Kd.codeSz E.sizes l);rw [←hR];unfold Kd.codeSz at hR;generalize Rn.firstC (Kd.termN E.sizes) l=c at hc hR;go_enter Tryz.func114,Tryz.ntmps114;go_wp2_with fail;refine hc.mono ?_;rintro r w1 ⟨rfl,b1⟩;have B1:=bA.trans (b1.mono bA.size);by_cases hz:c=0
 ·subst hz
  rw [if_neg (by simp)] at hR;subst hR;have hr:=codeOfRange_any (HL.out.under b1);go_wp2_with fail;refine hr.mono ?_;rintro r w2 ⟨rfl,b2⟩;go_wp2;go_ret;exact ⟨rfl,B1.trans (b2.mono B1.size)⟩
 ·rw [if_pos hz] at hR
  subst hR;have hz2:(R != 0)=true:=(by simpa using hz);go_wp2;go_ret;exact ⟨rfl,B1⟩
theorem kfirstSize_any {ok:Nat→Prop} {w:World} {x:SB} {E:Kd.Env} {mk done:List ByteArray} (hS:Scp ok w x E mk done) {v:Value} {l:List (List Tm)} {ok2:Nat→Prop} (hl:HSizes ok2 w v l) (hF:∀ s ∈ l,Rn.szF s) :
  Calls Tryz.prog 115 #[v,.func (.func 114) #[.pointer (some ⟨x.b,0,none⟩)] #[]] w fun e w'=>e=.returned (.int .i64 (Rn.firstC (Kd.codeSz E.sizes) l))∧Below w.heap.size w w':=by
 obtain ⟨ao,cap,rfl,hc1,hc2,hat⟩:=hl.at;unfold maxLen at hc2;obtain ⟨R,hR⟩:=nmQ (Rn.firstC (Kd.codeSz E.sizes) l);rw [←hR];have HR:=hide hR;clear hR;obtain ⟨n,hn⟩:=nmQ (l.length);rw [←hn] at hc1 ⊢;have HN:=hide hn;clear hn;have HS:=hide hS;have HF:=hide hF;clear hS hF hl;go_enter Tryz.func115,Tryz.ntmps115;go_wp2_with fail;go_loopg [10] n (fun k v wr=>∃ i,i≤n∧k=n-i∧v=.int .i64 (i:Nat)∧Hid (∀ j (h:j<l.length),j<i→(Kd.codeSz E.sizes) l[j]=0)∧Below w.heap.size w wr)
 case atStart=>exact ⟨0,Nat.zero_le _,rfl,rfl,fun j _ h=>absurd h (Nat.not_lt_zero _),Below.refl _ _⟩
 case round=>
  obtain ⟨i,hi,rfl,rfl,H,hbr⟩:=hrel;by_cases hlt:i<n
  case neg=>
   have hin:i=n:=(by omega);subst hin;go_wp2;go_ret;refine ⟨?_,hbr⟩;rw [HR.out,Rn.firstC_none _ l (fun j hj=>H.out j hj (by have:=HN.out;omega))];rfl
  case pos=>
   have hil:i<l.length:=(by have:=HN.out;omega);obtain ⟨x1,hx1⟩:=nmQ (l[i]);have hfi:Rn.szF x1:=(by rw [hx1];exact HF.out _ (List.getElem_mem hil));obtain ⟨b,o,au,nu,cu,rfl,hb,hc0,hu⟩:=hat i hil;rw [←hx1] at hu;have e0:=(hbr.cell (p:=⟨b,o+i,none⟩) hb).trans hc0;have hbA:=hbr;have hcall:=kcodeOfSize_any (HS.out.keep hbA) (hu.under hbA) hfi;have HX:=hide hx1;clear hat hx1;go_wp2_with fail;refine (hcall ).mono ?_;rintro e w4 ⟨rfl,b4⟩;have BW:=hbA.trans (b4.mono hbA.size);obtain ⟨c,hcx⟩:=nmQ ((Kd.codeSz E.sizes) x1);have HC:=hide hcx
   try rw [←hcx]
   clear hcx;by_cases hz:c=0
   ·subst hz
    go_wp2_with fail;go_roundg (n-(i+1))
    case measure=>omega
    case rel=>
     refine ⟨i+1,by omega,rfl,by go_num,fun j hj hji=>?_,BW⟩;by_cases e:j=i
     ·subst e
      rw [←HX.out,←HC.out]
     ·exact H.out j hj (by omega)
   ·have hz2:(c != 0)=true:=by simpa using hz
    go_wp2;go_ret;refine ⟨?_,BW⟩;rw [HR.out,Rn.firstC_step _ l i hil (fun j hj hji=>H.out j hj hji) (by rw [←HX.out,←HC.out];exact hz),←HX.out,←HC.out];rfl
end Go.Proofs.YtkfgbhlpjkkgfaaGreatDoor
namespace Go.Proofs.YtkfgbhlpjkkgfaaGreatDoor
open Go.RowKit Go.IntWalk Go.Maps Go.WideMaps
theorem hasN_app (l:List ByteArray) (a s:ByteArray):Kd.hasN (l++[a]) s=(Kd.hasN l s || (a.data.toList==s.data.toList)):=by
 unfold Kd.hasN;simp
theorem findD_app (l:List De) (d:De) (s:ByteArray):Kd.findD (l++[d]) s=match Kd.findD l s with
  | some e=>some e
  | none=>if d.name.data.toList=s.data.toList then some d else none:=by
 unfold Kd.findD;rw [List.find?_append]
 cases h:List.find? (fun d=>d.name.data.toList==s.data.toList) l with
 | some e=>rfl
 | none=>
  by_cases e:d.name.data.toList=s.data.toList
  ·have e2:(d.name.data.toList==s.data.toList)=true:=beq_iff_eq.2 e
   simp only [if_pos e,List.find?_cons,List.find?_nil,e2];rfl
  ·have e2:(d.name.data.toList==s.data.toList)=false:=by rw [beq_eq_false_iff_ne];exact e
   simp only [if_neg e,List.find?_cons,List.find?_nil,e2];rfl
theorem findN_app (l:List Nd) (d:Nd) (s:ByteArray):Kd.findN (l++[d]) s=match Kd.findN l s with
  | some e=>some e
  | none=>if d.name.data.toList=s.data.toList then some d else none:=by
 unfold Kd.findN;rw [List.find?_append]
 cases h:List.find? (fun d=>d.name.data.toList==s.data.toList) l with
 | some e=>rfl
 | none=>
  by_cases e:d.name.data.toList=s.data.toList
  ·have e2:(d.name.data.toList==s.data.toList)=true:=beq_iff_eq.2 e
   simp only [if_pos e,List.find?_cons,List.find?_nil,e2];rfl
  ·have e2:(d.name.data.toList==s.data.toList)=false:=by rw [beq_eq_false_iff_ne];exact e
   simp only [if_neg e,List.find?_cons,List.find?_nil,e2];rfl
def SB.maps (x:SB):List Nat:=[x.m0,x.m1,x.m2,x.m3]
theorem aside_grown {S:List Nat} {B:Nat} {w w':World} {b:Nat} (hb:b ∈ S) (g:w.grownBy w' (some b)) (hB:B≤w.heap.size):Aside S B w w' :=
 ⟨g.os,g.tape,g.output,g.size,fun k hk hn=>g.block k (Nat.lt_of_lt_of_le hk hB) (fun e=>hn (by injection e with e;exact e ▸ hb))⟩
section
variable {ok:Nat→Prop} {w w':World} {x:SB} {E:Kd.Env} {mk done:List ByteArray} {f:List UInt8→Option Value}
theorem keepOk {b:Nat} (hn:¬ok b) (hg:w.grownBy w' (some b)):∀ i,ok i→i<w.heap.size→w'.heap[i]?=w.heap[i]? :=
 fun i hi hl=>hg.block i hl (fun e=>hn (by injection e with e;exact e ▸ hi))
theorem keepNe {b c:Nat} {o:Obj} (hg:w.grownBy w' (some b)) (hc:w.heap[c]?=some o) (hne:c≠b):w'.heap[c]?=some o :=
 (hg.block c (lt_of hc) (fun e=>hne (by injection e))).trans hc
theorem keepMap {b c n:Nat} (hg:w.grownBy w' (some b)) (hc:MapIs w c n f) (hne:c≠b):MapIs w' c n f:=hc.keep (hg.block c hc.lt (fun e=>hne (by injection e)))
theorem blkNe (h:Scp ok w x E mk done):x.b≠x.m0∧x.b≠x.m1∧x.b≠x.m2∧x.b≠x.m3:=by
 have hb:=h.blk;refine ⟨?_,?_,?_,?_⟩
 ·intro e
  obtain ⟨f,⟨D,⟨es,clock,hm,_⟩,_⟩,_⟩:=h.h0;rw [←e,hb] at hm;cases hm
 ·intro e
  obtain ⟨f,⟨D,⟨es,clock,hm,_⟩,_⟩,_⟩:=h.h1;rw [←e,hb] at hm;cases hm
 ·intro e
  obtain ⟨f,⟨D,⟨es,clock,hm,_⟩,_⟩,_⟩:=h.h2;rw [←e,hb] at hm;cases hm
 ·intro e
  obtain ⟨f,⟨D,⟨es,clock,hm,_⟩,_⟩,_⟩:=h.h3;rw [←e,hb] at hm;cases hm
theorem Scp.afterType (h:Scp ok w x E mk done) (hT:TyF ok w E.types f) {d:De} {v:Value} (hm:MapIs w' x.m2 (E.types.length+1) (putF f d.name.data.toList v)) (hg:w.grownBy w' (some x.m2)) (hv:HTy ok w v (Kd.tyD d)) (hn:Kd.findD E.types d.name=none) :
  Scp ok w' x ⟨E.above,E.sizes,E.types++[d]⟩ mk done:=by
 have hne:=blkNe h;have hk:=keepOk h.n2 hg;refine ⟨keepNe hg h.blk hne.2.2.1,h.nb,h.n0,h.n1,h.n2,h.n3,h.d01,h.d02,h.d03,h.d12,h.d13,h.d23,?_,?_,?_,?_⟩
 ·obtain ⟨g,a,c⟩:=h.h0
  exact ⟨g,keepMap hg a h.d02,c.keep hg.size hk⟩
 ·obtain ⟨g,a,c⟩:=h.h1
  exact ⟨g,keepMap hg a h.d12,c⟩
 ·refine ⟨_,by simpa using hm,fun s=>?_⟩
  have:=hT.keep hg.size hk s;rw [findD_app];unfold putF;by_cases e:d.name.data.toList=s.data.toList
  ·have hs:Kd.findD E.types s=none:=by
    unfold Kd.findD at hn ⊢;rw [e] at hn;exact hn
   rw [hs];simp only [e,if_true];exact ⟨v,rfl,hv.keep hg.size hk⟩
  ·have e2:¬s.data.toList=d.name.data.toList:=fun q=>e q.symm
   cases hs:Kd.findD E.types s with
   | none=>
    rw [hs] at this;simp only [if_neg e,if_neg e2];exact this
   | some c=>
    rw [hs] at this;simp only [if_neg e2];exact this
 ·obtain ⟨g,a,c⟩:=h.h3
  exact ⟨g,keepMap hg a h.d23.symm,c⟩
theorem Scp.afterSize (h:Scp ok w x E mk done) (hT:SzF E.sizes f) {s:ByteArray} {v:Value} (hm:MapIs w' x.m1 (E.sizes.length+1) (putF f s.data.toList v)) (hg:w.grownBy w' (some x.m1)) :
  Scp ok w' x ⟨E.above,E.sizes++[s],E.types⟩ mk done:=by
 have hne:=blkNe h;have hk:=keepOk h.n1 hg;refine ⟨keepNe hg h.blk hne.2.1,h.nb,h.n0,h.n1,h.n2,h.n3,h.d01,h.d02,h.d03,h.d12,h.d13,h.d23,?_,?_,?_,?_⟩
 ·obtain ⟨g,a,c⟩:=h.h0
  exact ⟨g,keepMap hg a h.d01,c.keep hg.size hk⟩
 ·refine ⟨_,by simpa using hm,fun t=>?_⟩
  have:=hT t;rw [hasN_app];unfold putF;by_cases e:t.data.toList=s.data.toList
  ·simp [e]
  ·have e2:(s.data.toList==t.data.toList)=false:=by rw [beq_eq_false_iff_ne];exact fun q=>e q.symm
   rw [if_neg e,this,e2,Bool.or_false]
 ·obtain ⟨g,a,c⟩:=h.h2
  exact ⟨g,keepMap hg a h.d12.symm,c.keep hg.size hk⟩
 ·obtain ⟨g,a,c⟩:=h.h3
  exact ⟨g,keepMap hg a h.d13.symm,c⟩
theorem Scp.afterMk (h:Scp ok w x E mk []) (hT:MkF mk [] f) {s:ByteArray} (hm:MapIs w' x.m3 (mk.length+1) (putF f s.data.toList (.int .i64 0))) (hg:w.grownBy w' (some x.m3)) :
  Scp ok w' x E (mk++[s]) []:=by
 have hne:=blkNe h;have hk:=keepOk h.n3 hg;refine ⟨keepNe hg h.blk hne.2.2.2,h.nb,h.n0,h.n1,h.n2,h.n3,h.d01,h.d02,h.d03,h.d12,h.d13,h.d23,?_,?_,?_,?_⟩
 ·obtain ⟨g,a,c⟩:=h.h0
  exact ⟨g,keepMap hg a h.d03,c.keep hg.size hk⟩
 ·obtain ⟨g,a,c⟩:=h.h1
  exact ⟨g,keepMap hg a h.d13,c⟩
 ·obtain ⟨g,a,c⟩:=h.h2
  exact ⟨g,keepMap hg a h.d23,c.keep hg.size hk⟩
 ·refine ⟨_,by simpa using hm,fun t=>?_⟩
  have:=hT t;rw [hasN_app];unfold putF;by_cases e:t.data.toList=s.data.toList
  ·simp [e,Kd.hasN]
  ·rw [if_neg e,this]
   have e2:(s.data.toList==t.data.toList)=false:=(by rw [beq_eq_false_iff_ne];exact fun q=>e q.symm);rw [e2,Bool.or_false]
theorem Scp.afterDone (h:Scp ok w x E mk done) (hT:MkF mk done f) {s:ByteArray} (hm:MapIs w' x.m3 (mk.length+done.length+1) (putF f s.data.toList (.int .i64 1))) (hg:w.grownBy w' (some x.m3)) :
  Scp ok w' x E mk (done++[s]):=by
 have hne:=blkNe h;have hk:=keepOk h.n3 hg;refine ⟨keepNe hg h.blk hne.2.2.2,h.nb,h.n0,h.n1,h.n2,h.n3,h.d01,h.d02,h.d03,h.d12,h.d13,h.d23,?_,?_,?_,?_⟩
 ·obtain ⟨g,a,c⟩:=h.h0
  exact ⟨g,keepMap hg a h.d03,c.keep hg.size hk⟩
 ·obtain ⟨g,a,c⟩:=h.h1
  exact ⟨g,keepMap hg a h.d13,c⟩
 ·obtain ⟨g,a,c⟩:=h.h2
  exact ⟨g,keepMap hg a h.d23,c.keep hg.size hk⟩
 ·refine ⟨_,by simpa [Nat.add_assoc] using hm,fun t=>?_⟩
  have:=hT t;rw [hasN_app];unfold putF;by_cases e:t.data.toList=s.data.toList
  ·simp [e]
  ·rw [if_neg e,this]
   have e2:(s.data.toList==t.data.toList)=false:=(by rw [beq_eq_false_iff_ne];exact fun q=>e q.symm);rw [e2,Bool.or_false]
end
end Go.Proofs.YtkfgbhlpjkkgfaaGreatDoor
