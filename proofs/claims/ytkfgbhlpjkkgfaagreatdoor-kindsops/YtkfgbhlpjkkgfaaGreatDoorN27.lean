import Derived.Test.YtkfgbhlpjkkgfaaGreatDoorN26
import Derived.Test.YtkfgbhlpjkkgfaaGreatDoorN25
set_option linter.unusedVariables false
set_option linter.unusedSimpArgs false
set_option maxHeartbeats 64000000
set_option maxRecDepth 100000
namespace Go.Proofs.YtkfgbhlpjkkgfaaGreatDoor
open Go.RowKit Go.IntWalk
namespace Kd
def un1 (done:List ByteArray) (d:De):Int:=if hasN done d.name=true then 0 else 9
def mk1 (mk done:List ByteArray) (s:ByteArray):Int:=if hasN mk s=false then 9 else if hasN done s=true then 8 else 0
end Kd
def Subs (done mk:List ByteArray):Prop:=∀ s,Kd.hasN done s=true→Kd.hasN mk s=true
structure MadeP (ok:Nat→Prop) (w:World) (x:SB) (E:Kd.Env) (mk done:List ByteArray) (s:ByteArray) (r:Ending) (w':World):Prop where
 ret:r=.returned (.int .i64 (Kd.mk1 mk done s))
 asd:Aside x.maps w.heap.size w w'
 scp:Kd.mk1 mk done s=0→Scp ok w' x E mk (done++[s])
theorem makeName_any {ok:Nat→Prop} {w:World} {x:SB} {E:Kd.Env} {mk done:List ByteArray} (hS:Scp ok w x E mk done) (hsub:Subs done mk) {s:ByteArray} (hs:s.size≤maxLen) (hlen:mk.length+done.length<1000000) :
  Calls Tryz.prog 85 #[.pointer (some ⟨x.b,0,none⟩),.string s] w (MadeP ok w x E mk done s):=by
 obtain ⟨R,hR⟩:=nmQ (Kd.mk1 mk done s);have HR:=hide hR;unfold Kd.mk1 at hR;obtain ⟨hl,_⟩:=hS.lookMade hs (Below.refl _ w);have hsu:=hsub s;have kS:=hS.blk;have e3:=co kS 3;simp at e3;obtain ⟨ff,hm,hT⟩:=hS.h3;have HS:=hide hS;have HTF:=hide hT;clear hS hT kS hsub;generalize Kd.hasN done s=qd at hl hR hsu;generalize Kd.hasN mk s=qm at hl hR hsu
 cases qd
 case true=>
  have:=hsu rfl;subst this;simp at hl hR;go_enter Tryz.func85,Tryz.ntmps85;go_wp2;go_ret;exact ⟨by rw [←HR.out,hR];rfl,Aside.refl _,fun h=>by rw [←HR.out,hR] at h;cases h⟩
 case false=>
  cases qm
  case false=>
   simp at hl hR;go_enter Tryz.func85,Tryz.ntmps85;go_wp2;go_ret;exact ⟨by rw [←HR.out,hR];rfl,Aside.refl _,fun h=>by rw [←HR.out,hR] at h;cases h⟩
  case true=>
   simp at hl hR;go_enter Tryz.func85,Tryz.ntmps85
   go_wp2_with (at_mapUpdate;refine wpList_put rfl _ _ _ 133 rfl 3 u133 hm (by unfold maxLen;omega) hs rfl rfl ?_;intro w3 hm3 hg3)
   go_ret;exact ⟨by rw [←HR.out,hR];rfl,aside_grown (by simp [SB.maps]) hg3 nR,fun _=>HS.out.afterDone (f:=ff) HTF.out hm3 hg3⟩
theorem mkNm_cons (mk done:List ByteArray) (s:ByteArray) (r:List ByteArray):Kd.mkNm mk done (s :: r)=if Kd.mk1 mk done s≠0 then Kd.mk1 mk done s else Kd.mkNm mk (done++[s]) r:=by
 show (if Kd.hasN mk s=false then 9 else if Kd.hasN done s=true then 8 else Kd.mkNm mk (done++[s]) r)=_
 unfold Kd.mk1;by_cases h:Kd.hasN mk s=false
 ·rw [if_pos h,if_pos h,if_pos (by simp)]
 ·rw [if_neg h,if_neg h]
  by_cases h2:Kd.hasN done s=true
  ·rw [if_pos h2,if_pos h2,if_pos (by simp)]
  ·rw [if_neg h2,if_neg h2,if_neg (by simp)]
theorem mk1_zero {mk done:List ByteArray} {s:ByteArray} (h:Kd.mk1 mk done s=0):Kd.hasN mk s=true:=by
 unfold Kd.mk1 at h
 split at h
 ·cases h
 ·rename_i h1;simpa using h1
theorem Subs.more {mk done:List ByteArray} {s:ByteArray} (h:Subs done mk) (hs:Kd.hasN mk s=true):Subs (done++[s]) mk:=by
 intro u hu;rw [hasN_app] at hu;rcases Bool.or_eq_true_iff.1 hu with h1 | h1
 ·exact h u h1
 ·have e:=beq_iff_eq.1 h1
  unfold Kd.hasN at hs ⊢;rw [←e];exact hs
structure NamesP (ok:Nat→Prop) (w:World) (x:SB) (E:Kd.Env) (mk done l:List ByteArray) (r:Ending) (w':World):Prop where
 ret:r=.returned (.int .i64 (Kd.mkNm mk done l))
 asd:Aside x.maps w.heap.size w w'
 scp:Kd.mkNm mk done l=0→Scp ok w' x E mk (done++l)∧Subs (done++l) mk
theorem knames_any {ok:Nat→Prop} {w:World} {x:SB} {E:Kd.Env} {mk done:List ByteArray} (hS:Scp ok w x E mk done) (hsub:Subs done mk) {v:Value} {l:List ByteArray} (hl:HNames ok w v l) (hF:∀ s ∈ l,s.size≤maxLen) (hlen:mk.length+done.length+l.length<1000000) :
  Calls Tryz.prog 84 #[v,.func (.func 85) #[.pointer (some ⟨x.b,0,none⟩)] #[]] w (NamesP ok w x E mk done l):=by
 obtain ⟨ao,cap,rfl,hc1,hc2,hat⟩:=hl.at;unfold maxLen at hc2;obtain ⟨R,hR⟩:=nmQ (Kd.mkNm mk done l);have HR:=hide hR;have HF:=hide hF;have HS:=hide hS;have HOK:=hide hS.okOut;have HSB:=hide hsub;clear hR hF hS hsub;obtain ⟨n,hn⟩:=nmQ (l.length);rw [←hn] at hc1 hlen ⊢;have HN:=hide hn;have HL:=hide hl;clear hn hat hl;go_enter Tryz.func84,Tryz.ntmps84;go_wp2_with fail;go_loopg [10] n (fun k v wr=>∃ i,i≤n∧k=n-i∧v=.int .i64 (i:Nat)∧Hid (R=Kd.mkNm mk (done++l.take i) (l.drop i))∧Hid (Scp ok wr x E mk (done++l.take i))∧Hid (Subs (done++l.take i) mk)∧Aside x.maps w.heap.size w wr)
 case atStart=>exact ⟨0,Nat.zero_le _,rfl,rfl,hide (by simpa using HR.out),hide (by simpa using HS.out),hide (by simpa using HSB.out),Aside.refl _⟩
 case round=>
  obtain ⟨i,hi,rfl,rfl,H,HSc,HSu,hbr⟩:=hrel;by_cases hlt:i<n
  case neg=>
   have hin:i=n:=(by omega);subst hin;have e0:l.take i=l:=List.take_of_length_le (by have:=HN.out;omega);have e1:l.drop i=[]:=List.drop_of_length_le (by have:=HN.out;omega);have hz:R=0:=(by rw [H.out,e1];rfl);go_wp2;go_ret;refine ⟨by rw [←HR.out,hz];rfl,hbr,fun _=>?_⟩;have h1:=HSc.out;have h2:=HSu.out;rw [e0] at h1 h2;exact ⟨h1,h2⟩
  case pos=>
   have hil:i<l.length:=(by have:=HN.out;omega);have hfi:=HF.out _ (List.getElem_mem hil);have hdr:l.drop i=l[i] :: l.drop (i+1):=List.drop_eq_getElem_cons hil;have htk:l.take (i+1)=l.take i++[l[i]]:=List.take_succ_eq_append_getElem hil;have hR1:=H.out;rw [hdr,mkNm_cons] at hR1;have hl2:HNames ok wr (.slice ao l.length cap) l:=HL.out.keep hbr.size (fun j hj hjl=>hbr.block j hjl (HOK.out j hj));obtain ⟨ao',cap',eqs,_,_,hat2⟩:=hl2.at;injection eqs with q1 q2 q3;subst q1;obtain ⟨b,o,rfl,hb,c0⟩:=hat2 i hil;obtain ⟨d,hd⟩:=nmQ (l[i]);rw [←hd] at hfi hR1 htk c0;clear hat2 hl2 q2 q3 hdr hd;have htl:(l.take i).length=i:=(by rw [List.length_take];omega);have hcall:=makeName_any HSc.out HSu.out hfi (by rw [List.length_append,htl];omega);go_wp2_with fail;refine hcall.mono ?_;rintro e w4 ⟨rfl,a4,hS4⟩;have AW:=hbr.trans a4 hbr.size;obtain ⟨c,hcx⟩:=nmQ (Kd.mk1 mk (done++l.take i) d);have hsu2:c=0→Subs (done++l.take i++[d]) mk:=fun h=>HSu.out.more (mk1_zero (hcx ▸ h));rw [←hcx] at hS4 hR1;have HC:=hide hcx
   try rw [←hcx]
   clear hcx hcall;by_cases hz:c=0
   ·subst hz
    rw [if_neg (by simp)] at hR1;have hS5:=hide (hS4 rfl);have hU5:=hide (hsu2 rfl);clear hS4 hsu2;go_wp2_with fail;go_roundg (n-(i+1))
    case measure=>omega
    case rel=>
     refine ⟨i+1,by omega,rfl,by go_num,hide ?_,hide ?_,hide ?_,AW⟩
     ·rw [hR1,htk,←List.append_assoc]
     ·have:=hS5.out
      rw [htk,←List.append_assoc];exact this
     ·have:=hU5.out
      rw [htk,←List.append_assoc];exact this
   ·rw [if_pos hz] at hR1
    have hz2:(c != 0)=true:=(by simpa using hz);clear hS4 hsu2;go_wp2;go_ret;exact ⟨by rw [←HR.out,hR1];rfl,AW,fun h=>absurd (by rw [←HR.out,hR1] at h;exact h) hz⟩
theorem unmadeOne_any {ok:Nat→Prop} {w:World} {x:SB} {E:Kd.Env} {mk done:List ByteArray} (hS:Scp ok w x E mk done) {B:Nat} (hB:w.heap[B]?=some (.cells #[.pointer (some ⟨x.b,0,none⟩)] 99 (0,0))) (d:De) (ua:Option Addr) (un uc:Nat) (ht:d.name.size≤maxLen) :
  Calls Tryz.prog 88 #[.agg #[.string d.name,.int .u8 d.elem,.slice ua un uc],.pointer (some ⟨B,0,none⟩)] w fun r w'=>r=.returned (.int .i64 (Kd.un1 done d))∧Below w.heap.size w w':=by
 have bA:Below w.heap.size w (w.alloc (.cells #[.string d.name,.int .u8 d.elem,.slice ua un uc] 50 (0,0))):=(Below.refl _ _).alloc nR _;have h1:=hS.keep bA;have kA:=heap_new w (.cells #[.string d.name,.int .u8 d.elem,.slice ua un uc] 50 (0,0));have kB:=(bA.block _ (lt_of hB)).trans hB;obtain ⟨R,hR⟩:∃ R:Int,R=Kd.un1 done d:=⟨_,rfl⟩;rw [←hR];unfold Kd.un1 at hR;go_enter Tryz.func88,Tryz.ntmps88;go_upto_region 1 with fail;generalize w.alloc (.cells #[.string d.name,.int .u8 d.elem,.slice ua un uc] 50 (0,0))=w1 at bA h1 kA kB ⊢;have hv:=fun w' (hb:Below w1.heap.size w1 w')=>(h1.lookMade ht hb).2;have kS:=h1.blk;have yA:=lt_of kA;have yB:=lt_of kB;have yS:=lt_of kS;have c0:=co kA 0;have d0:=co kB 0;have e3:=co kS 3;simp at c0 d0 e3;generalize Kd.hasN done d.name=q at hv hR;clear hS h1 kS hB kB kA
 cases q
 case false=>
  rw [if_neg (by simp)] at hR;subst hR;simp at hv;go_cut [11] (fun v11 wd=>v11=.bool true∧Below w1.heap.size w1 wd)
  case first=>
   refine wp_region_late (fun w'=>Below w1.heap.size w1 w') (fun _=>false) (by kernel_rfl) ?_;have hH0:Below w1.heap.size w1 w1.drew:=(Below.refl _ _).drew;generalize w1.drew=wd0 at hH0 ⊢;refine' wpAnyL_take (i:=0) (oi:=⟨some 4,_,_,_,_,_⟩) (v:=_) rfl (by kernel_rfl) (by kernel_rfl) (by kernel_rfl) (by kernel_rfl) (fun _ _ _ h=>h) hH0 (by rfl) ?hyv ?o1
   case hyv=>
    intro wz hSw;have zc0:=(hSw.cell (p:=⟨B,0,none⟩) yB).trans d0;go_simp
    try rfl
   try simp only [Act.put,sT,sZ,sS]
   refine' wpAnyL_take (i:=1) (oi:=⟨some 5,_,_,_,_,_⟩) (v:=_) rfl (by kernel_rfl) (by kernel_rfl) (by kernel_rfl) (by kernel_rfl) (fun _ _ _ h=>h) hH0 (by rfl) ?hyv ?o2
   case hyv=>
    intro wz hSw;go_simp
    try rfl
   try simp only [Act.put,sT,sZ,sS]
   refine' wpAnyL_take (i:=2) (oi:=⟨some 6,_,_,_,_,_⟩) (v:=_) rfl (by kernel_rfl) (by kernel_rfl) (by kernel_rfl) (by kernel_rfl) (fun _ _ _ h=>h) hH0 (by rfl) ?hyv ?o3
   case hyv=>
    intro wz hSw;go_simp
    try rfl
   try simp only [Act.put,sT,sZ,sS]
   refine' wpAnyL_take (i:=3) (oi:=⟨some 7,_,_,_,_,_⟩) (v:=_) rfl (by kernel_rfl) (by kernel_rfl) (by kernel_rfl) (by kernel_rfl) (fun _ _ _ h=>h) hH0 (by rfl) ?hyv ?o4
   case hyv=>
    intro wz hSw;have zc0:=(hSw.cell (p:=⟨x.b,3,none⟩) yS).trans e3;go_simp
    try rfl
   try simp only [Act.put,sT,sZ,sS]
   refine' wpAnyL_take (i:=4) (oi:=⟨some 8,_,_,_,_,_⟩) (v:=_) rfl (by kernel_rfl) (by kernel_rfl) (by kernel_rfl) (by kernel_rfl) (fun _ _ _ h=>h) hH0 (by rfl) ?hyv ?o5
   case hyv=>
    intro wz hSw;go_simp
    try rfl
   try simp only [Act.put,sT,sZ,sS]
   refine' wpAnyL_take (i:=5) (oi:=⟨some 9,_,_,_,_,_⟩) (v:=_) rfl (by kernel_rfl) (by kernel_rfl) (by kernel_rfl) (by kernel_rfl) (fun _ _ _ h=>h) hH0 (by rfl) ?hyv ?o6
   case hyv=>
    intro wz hSw;have zc0:=(hSw.cell (p:=⟨w.heap.size,0,none⟩) yA).trans c0;go_simp
    try rfl
   try simp only [Act.put,sT,sZ,sS]
   refine' wpAnyL_take (i:=6) (oi:=⟨some 10,_,_,_,_,_⟩) (v:=_) rfl (by kernel_rfl) (by kernel_rfl) (by kernel_rfl) (by kernel_rfl) (fun _ _ _ h=>h) hH0 (by rfl) ?hyv ?o7
   case hyv=>
    intro wz hSw;have hlk:=hv _ hSw;go_simp
    try rfl
   try simp only [Act.put,sT,sZ,sS]
   refine' wpAnyL_take (i:=7) (oi:=⟨some 11,_,_,_,_,_⟩) (v:=_) rfl (by kernel_rfl) (by kernel_rfl) (by kernel_rfl) (by kernel_rfl) (fun _ _ _ h=>h) hH0 (by rfl) ?hyv ?o8
   case hyv=>
    intro wz hSw;go_simp
    try rfl
   try simp only [Act.put,sT,sZ,sS]
   refine wpAnyL_done (by kernel_rfl) ?_ _;go_wp2_with fail;go_meet
   case rel=>exact ⟨rfl,hH0⟩
  case rest=>
   obtain ⟨rfl,bc⟩:=hcut;go_wp2;go_ret;exact ⟨rfl,bA.trans (bc.mono bA.size)⟩
 case true=>
  rw [if_pos rfl] at hR;subst hR;simp at hv;go_cut [11] (fun v11 wd=>v11=.bool false∧Below w1.heap.size w1 wd)
  case first=>
   refine wp_region_late (fun w'=>Below w1.heap.size w1 w') (fun _=>false) (by kernel_rfl) ?_;have hH0:Below w1.heap.size w1 w1.drew:=(Below.refl _ _).drew;generalize w1.drew=wd0 at hH0 ⊢;refine' wpAnyL_take (i:=0) (oi:=⟨some 4,_,_,_,_,_⟩) (v:=_) rfl (by kernel_rfl) (by kernel_rfl) (by kernel_rfl) (by kernel_rfl) (fun _ _ _ h=>h) hH0 (by rfl) ?hyv ?o9
   case hyv=>
    intro wz hSw;have zc0:=(hSw.cell (p:=⟨B,0,none⟩) yB).trans d0;go_simp
    try rfl
   try simp only [Act.put,sT,sZ,sS]
   refine' wpAnyL_take (i:=1) (oi:=⟨some 5,_,_,_,_,_⟩) (v:=_) rfl (by kernel_rfl) (by kernel_rfl) (by kernel_rfl) (by kernel_rfl) (fun _ _ _ h=>h) hH0 (by rfl) ?hyv ?o10
   case hyv=>
    intro wz hSw;go_simp
    try rfl
   try simp only [Act.put,sT,sZ,sS]
   refine' wpAnyL_take (i:=2) (oi:=⟨some 6,_,_,_,_,_⟩) (v:=_) rfl (by kernel_rfl) (by kernel_rfl) (by kernel_rfl) (by kernel_rfl) (fun _ _ _ h=>h) hH0 (by rfl) ?hyv ?o11
   case hyv=>
    intro wz hSw;go_simp
    try rfl
   try simp only [Act.put,sT,sZ,sS]
   refine' wpAnyL_take (i:=3) (oi:=⟨some 7,_,_,_,_,_⟩) (v:=_) rfl (by kernel_rfl) (by kernel_rfl) (by kernel_rfl) (by kernel_rfl) (fun _ _ _ h=>h) hH0 (by rfl) ?hyv ?o12
   case hyv=>
    intro wz hSw;have zc0:=(hSw.cell (p:=⟨x.b,3,none⟩) yS).trans e3;go_simp
    try rfl
   try simp only [Act.put,sT,sZ,sS]
   refine' wpAnyL_take (i:=4) (oi:=⟨some 8,_,_,_,_,_⟩) (v:=_) rfl (by kernel_rfl) (by kernel_rfl) (by kernel_rfl) (by kernel_rfl) (fun _ _ _ h=>h) hH0 (by rfl) ?hyv ?o13
   case hyv=>
    intro wz hSw;go_simp
    try rfl
   try simp only [Act.put,sT,sZ,sS]
   refine' wpAnyL_take (i:=5) (oi:=⟨some 9,_,_,_,_,_⟩) (v:=_) rfl (by kernel_rfl) (by kernel_rfl) (by kernel_rfl) (by kernel_rfl) (fun _ _ _ h=>h) hH0 (by rfl) ?hyv ?o14
   case hyv=>
    intro wz hSw;have zc0:=(hSw.cell (p:=⟨w.heap.size,0,none⟩) yA).trans c0;go_simp
    try rfl
   try simp only [Act.put,sT,sZ,sS]
   refine' wpAnyL_take (i:=6) (oi:=⟨some 10,_,_,_,_,_⟩) (v:=_) rfl (by kernel_rfl) (by kernel_rfl) (by kernel_rfl) (by kernel_rfl) (fun _ _ _ h=>h) hH0 (by rfl) ?hyv ?o15
   case hyv=>
    intro wz hSw;have hlk:=hv _ hSw;go_simp
    try rfl
   try simp only [Act.put,sT,sZ,sS]
   refine' wpAnyL_take (i:=7) (oi:=⟨some 11,_,_,_,_,_⟩) (v:=_) rfl (by kernel_rfl) (by kernel_rfl) (by kernel_rfl) (by kernel_rfl) (fun _ _ _ h=>h) hH0 (by rfl) ?hyv ?o16
   case hyv=>
    intro wz hSw;go_simp
    try rfl
   try simp only [Act.put,sT,sZ,sS]
   refine wpAnyL_done (by kernel_rfl) ?_ _;go_wp2_with fail;go_meet
   case rel=>exact ⟨rfl,hH0⟩
  case rest=>
   obtain ⟨rfl,bc⟩:=hcut;go_wp2;go_ret;exact ⟨rfl,bA.trans (bc.mono bA.size)⟩
theorem unmadeL_any {ok:Nat→Prop} {w:World} {x:SB} {E:Kd.Env} {mk done:List ByteArray} (hS:Scp ok w x E mk done) {B:Nat} (hB:w.heap[B]?=some (.cells #[.pointer (some ⟨x.b,0,none⟩)] 99 (0,0))) {v:Value} {l:List De} {ok2:Nat→Prop} (hl:HDes ok2 w v l) (hF:∀ d ∈ l,Rn.deF d) :
  Calls Tryz.prog 81 #[v,.func (.func 88) #[] #[.pointer (some ⟨B,0,none⟩)]] w fun e w'=>e=.returned (.int .i64 (Rn.firstC (Kd.un1 done) l))∧Below w.heap.size w w':=by
 obtain ⟨ao,cap,rfl,hc1,hc2,hat⟩:=hl.at;unfold maxLen at hc2;obtain ⟨R,hR⟩:=nmQ (Rn.firstC (Kd.un1 done) l);rw [←hR];have HR:=hide hR;clear hR;obtain ⟨n,hn⟩:=nmQ (l.length);rw [←hn] at hc1 ⊢;have HN:=hide hn;clear hn;have HS:=hide hS;have HB:=hide hB;have HF:=hide hF;clear hS hB hF hl;go_enter Tryz.func81,Tryz.ntmps81;go_wp2_with fail;go_loopg [10] n (fun k v wr=>∃ i,i≤n∧k=n-i∧v=.int .i64 (i:Nat)∧Hid (∀ j (h:j<l.length),j<i→(Kd.un1 done) l[j]=0)∧Below w.heap.size w wr)
 case atStart=>exact ⟨0,Nat.zero_le _,rfl,rfl,fun j _ h=>absurd h (Nat.not_lt_zero _),Below.refl _ _⟩
 case round=>
  obtain ⟨i,hi,rfl,rfl,H,hbr⟩:=hrel;by_cases hlt:i<n
  case neg=>
   have hin:i=n:=(by omega);subst hin;go_wp2;go_ret;refine ⟨?_,hbr⟩;rw [HR.out,Rn.firstC_none _ l (fun j hj=>H.out j hj (by have:=HN.out;omega))];rfl
  case pos=>
   have hil:i<l.length:=(by have:=HN.out;omega);obtain ⟨x1,hx1⟩:=nmQ (l[i]);have hfi:x1.name.size≤maxLen:=(by rw [hx1];exact (HF.out _ (List.getElem_mem hil)).1);obtain ⟨b,o,ua,un,uc,rfl,hb,hc0,hc1,hc2',_⟩:=hat i hil;rw [←hx1] at hc0 hc1;have e0:=(hbr.cell (p:=⟨b,o+i*3,none⟩) hb).trans hc0;have e1:=(hbr.cell (p:=⟨b,o+i*3+1,none⟩) hb).trans hc1;have e2:=(hbr.cell (p:=⟨b,o+i*3+2,none⟩) hb).trans hc2';have hbA:Below w.heap.size w (wr.alloc (.cells #[.string x1.name,.int .u8 x1.elem,.slice ua un uc] 50 (0,0))):=hbr.alloc hbr.size _;have hcall:=unmadeOne_any (HS.out.keep hbA) ((hbA.block _ (lt_of HB.out)).trans HB.out) x1 ua un uc hfi;have HX:=hide hx1;clear hat hx1;go_wp2_with fail;refine (hcall ).mono ?_;rintro e w4 ⟨rfl,b4⟩;have BW:=hbA.trans (b4.mono hbA.size);obtain ⟨c,hcx⟩:=nmQ ((Kd.un1 done) x1);have HC:=hide hcx
   try rw [←hcx]
   clear hcx;by_cases hz:c=0
   ·subst hz
    go_wp2_with fail;go_roundg (n-(i+1))
    case measure=>omega
    case rel=>
     refine ⟨i+1,by omega,rfl,by go_num,fun j hj hji=>?_,BW⟩;by_cases e:j=i
     ·subst e
      rw [←HX.out,←HC.out]
     ·exact H.out j hj (by omega)
   ·have hz2:(c != 0)=true:=by simpa using hz
    go_wp2;go_ret;refine ⟨?_,BW⟩;rw [HR.out,Rn.firstC_step _ l i hil (fun j hj hji=>H.out j hj hji) (by rw [←HX.out,←HC.out];exact hz),←HX.out,←HC.out];rfl
end Go.Proofs.YtkfgbhlpjkkgfaaGreatDoor
namespace Go.Proofs.YtkfgbhlpjkkgfaaGreatDoor
open Go.RowKit Go.IntWalk
def CallDoes (x:SB) (E:Kd.Env) (q:Eqn):Prop:=∀ (ok:Nat→Prop) (w:World) (mk done:List ByteArray) (y:EqV),Scp ok w x E mk done→GlobK w→HEq ok w y q→(∀ i,ok i→i<w.heap.size) →
 Calls Tryz.prog 86 #[.pointer (some ⟨x.b,0,none⟩),.agg #[.int .i64 y.place,.slice y.aN y.nN y.cN,.string y.node,.slice y.aS y.nS y.cS,.slice y.aE y.nE y.cE]] w fun r w'=>r=.returned (.int .i64 (Kd.codeCall E q))∧Below w.heap.size w w'
structure EqFit (q:Eqn):Prop where
 names:∀ s ∈ q.names,s.size≤maxLen
 one:0<q.names.length
 expr:q.node.size=0→0<q.E.length
structure EqP (ok:Nat→Prop) (w:World) (x:SB) (E:Kd.Env) (mk done:List ByteArray) (q:Eqn) (r:Ending) (w':World):Prop where
 ret:r=.returned (.int .i64 (Kd.codeEq E mk done q))
 asd:Aside x.maps w.heap.size w w'
 scp:Kd.codeEq E mk done q=0→Scp ok w' x E mk (done++q.names)∧Subs (done++q.names) mk
theorem kequation_any {ok:Nat→Prop} {w:World} {x:SB} {E:Kd.Env} {mk done:List ByteArray} {q:Eqn} {y:EqV} (hS:Scp ok w x E mk done) (hsub:Subs done mk) (hG:GlobK w) (h0:¬(0 ∈ x.maps)) (hy:HEq ok w y q) (hok:∀ i,ok i→i<w.heap.size) (hF:EqFit q) (hlen:mk.length+done.length+q.names.length<1000000) (hX:q.node.size=0→∀ e ∈ q.E,TyDoes x E e) (hC:q.node.size≠0→CallDoes x E q) :
  Calls Tryz.prog 54 #[.pointer (some ⟨x.b,0,none⟩),.agg #[.int .i64 y.place,.slice y.aN y.nN y.cN,.string y.node,.slice y.aS y.nS y.cS,.slice y.aE y.nE y.cE]] w (EqP ok w x E mk done q):=by
 obtain ⟨R,hR⟩:=nmQ (Kd.codeEq E mk done q);have HR:=hide hR;unfold Kd.codeEq at hR;have b1:Below w.heap.size w (w.alloc (.cells #[.int .i64 y.place,.slice y.aN y.nN y.cN,.string y.node,.slice y.aS y.nS y.cS,.slice y.aE y.nE y.cE] 56 (0,0))):=(Below.refl _ _).alloc nR _;have kD:=heap_new w (.cells #[.int .i64 y.place,.slice y.aN y.nN y.cN,.string y.node,.slice y.aS y.nS y.cS,.slice y.aE y.nE y.cE] 56 (0,0));have h1:=hS.keep b1;have hy1:=hy.under b1;have hOK:=hS.okOut;have hD:w.heap.size ∉ x.maps:=by
  intro hm;obtain ⟨_,a0,_⟩:=hS.h0;obtain ⟨_,a1,_⟩:=hS.h1;obtain ⟨_,a2,_⟩:=hS.h2;obtain ⟨_,a3,_⟩:=hS.h3;have:=a0.lt;have:=a1.lt;have:=a2.lt;have:=a3.lt;simp only [SB.maps,List.mem_cons,List.not_mem_nil,or_false] at hm;rcases hm with e | e | e | e<;>omega
 have hG1:=hG.under b1;have HQ:=hide hy.node;have HCE:=hide hR;have HXX:=hide hX;have HCC:=hide hC;clear hS hy hG hR hX hC;go_enter Tryz.func54,Tryz.ntmps54;go_upto_region 1 with fail;generalize w.alloc (.cells #[.int .i64 y.place,.slice y.aN y.nN y.cN,.string y.node,.slice y.aS y.nS y.cS,.slice y.aE y.nE y.cE] 56 (0,0))=w1 at b1 kD h1 hy1 hG1 ⊢;have d1:=co kD 1;simp at d1;have hc:=knames_any h1 hsub hy1.names hF.names hlen;have HY1:=hide hy1;clear h1 hy1 hsub;go_wp2_with fail;refine hc.mono ?_;rintro e w2 ⟨rfl,a2,hS2⟩;clear hc d1;have A2:Aside x.maps w.heap.size w w2:=(aside b1).trans a2 b1.size;have hR1:=HCE.out;generalize Kd.mkNm mk done q.names=c1 at hS2 hR1 ⊢;by_cases hz:c1=0
 case neg=>
  rw [if_pos hz] at hR1;have hz2:(c1 != 0)=true:=(by simpa using hz);clear hS2;go_wp2;go_ret;exact ⟨by rw [←HR.out,hR1];rfl,A2,fun h=>absurd (by rw [←HR.out,hR1] at h;exact h) hz⟩
 case pos=>
  subst hz;rw [if_neg (by simp)] at hR1;obtain ⟨hS2',hsub2⟩:=hS2 rfl;clear hS2;have kD2:=(a2.block _ (lt_of kD) hD).trans kD;have hy2:HEq ok w2 y q:=HY1.out.keep a2.size (fun j hj hjl=>a2.block j hjl (hOK j hj));have hG2:GlobK w2:=by
   refine ⟨Nat.lt_of_lt_of_le hG1.1 a2.size,fun k hk=>?_⟩;have e:=a2.block 0 hG1.1 h0;have hc:∀ o,w2.cell? ⟨0,o,none⟩=w1.cell? ⟨0,o,none⟩:=fun o=>World.cell?_of_block (w:=w1) e;rw [hc,hc,hc];exact hG1.2 k hk
  have ho2:∀ i,ok i→i<w2.heap.size:=fun i hi=>Nat.lt_of_lt_of_le (hok i hi) A2.size;have yD:=lt_of kD2;have g0:=co kD2 0;have g1:=co kD2 1;have g2:=co kD2 2;have g3:=co kD2 3;have g4:=co kD2 4;simp at g0 g1 g2 g3 g4;clear kD hG1 HY1;by_cases hn:q.node.size=0
  case neg=>
   rw [if_pos hn] at hR1;have hn1:y.node.toList≠[]:=size_pos (by rw [HQ.out];exact hn);have hn3:(y.node.toList==([]:List UInt8))=false:=(by simp [hn1]);have hn4:(y.node.toList != ([]:List UInt8))=true:=(by simp [hn1]);have hc:=HCC.out hn ok w2 mk (done++q.names) y hS2' hG2 hy2 ho2;have HS2:=hide hS2';have HSU:=hide hsub2;clear hS2' hsub2 hG2 hy2 ho2 kD2;go_wp2_with fail;refine hc.mono ?_;rintro e w3 ⟨rfl,b3⟩;go_wp2;go_ret;exact ⟨by rw [←HR.out,hR1];rfl,A2.trans (aside b3) A2.size,fun _=>⟨HS2.out.keep b3,HSU.out⟩⟩
  case pos=>
   rw [if_neg (by simp [hn])] at hR1;have hn1:y.node.toList=[]:=size_zero (by rw [HQ.out];exact hn);have hn3:(y.node.toList==([]:List UInt8))=true:=(by simp [hn1]);have hn4:(y.node.toList != ([]:List UInt8))=false:=(by simp [hn1]);obtain ⟨e0,er,hE⟩:∃ e0 er,q.E=e0 :: er:=by
    have:=hF.expr hn
    cases h:q.E with
    | nil=>rw [h] at this;cases this
    | cons a b=>exact ⟨a,b,rfl⟩
   obtain ⟨s0,sr,hNm⟩:∃ s0 sr,q.names=s0 :: sr:=by
    have:=hF.one
    cases h:q.names with
    | nil=>rw [h] at this;cases this
    | cons a b=>exact ⟨a,b,rfl⟩
   have hX0:=HXX.out hn e0 (by rw [hE];simp);have hs0:=hF.names s0 (by rw [hNm];simp);rw [hE,hNm] at hR1;simp only [List.getD_cons_zero] at hR1;obtain ⟨aE,cE,eE,_,_,hEat⟩:=hy2.E.at;injection eE with p1 p2 p3;obtain ⟨be,oe,ye,p4,hbe,hlte,hat0,hex0⟩:=hEat 0 (by rw [hE];simp);rw [p4] at p1;rw [p1,p2] at g4;have hEl:(q.E.length:Int)=(er.length:Int)+1:=(by rw [hE];simp);rw [hE] at g4;simp only [hE,List.getElem_cons_zero] at hex0;obtain ⟨t0,t1,t2,t3,t4,t5⟩:=hat0;simp at t0 t1 t2 t3 t4 t5;obtain ⟨aN,cN,eN,_,_,hNat⟩:=hy2.names.at;injection eN with r1 r2 r3;obtain ⟨bn,on,r4,hltn,hn0⟩:=hNat 0 (by rw [hNm];simp);rw [r4] at r1;rw [r1,r2,hNm] at g1;simp only [hNm,List.getElem_cons_zero] at hn0;simp at hn0 g1 g4;have hc:=hX0 ok w2 mk (done++q.names) ye hS2' hG2 hex0 ho2;obtain ⟨te,ta,tn,tc,_,hlook,hty⟩:=hS2'.lookType hs0;have kS2:=hS2'.blk;have yS:=lt_of kS2;have j2:=co kS2 2;simp at j2;have HS2:=hide hS2';have HSU:=hide hsub2;have HTY:=hide hty;have HLK:=hide hlook;clear hS2' hsub2 hG2 hy2 ho2 kD2 hEat hNat p1 p2 p3 p4 r1 r2 r3 r4 hX0 hex0 hty hlook kS2 hEl HCC HXX;go_wp2_with fail;refine hc.mono ?_;rintro e w3 ⟨u,c,rfl,hT,b3⟩;clear hc;obtain ⟨ue,ua,un,uc,rfl⟩:=hT.form;generalize Kd.tyX E e0=RT at hT hR1
   cases RT with
   | error k=>
    obtain ⟨rfl,hk0,_⟩:=hT;simp only at hR1;have hz2:(c != 0)=true:=(by simpa using hk0);go_wp2;go_ret;exact ⟨by rw [←HR.out,hR1];rfl,A2.trans (aside (b3.alloc b3.size _)) A2.size,fun h=>absurd (by rw [←HR.out,hR1] at h;exact h) hk0⟩
   | ok t=>
    obtain ⟨rfl,hTy⟩:=hT;simp only at hR1;have b4:Below w3.heap.size w3 (w3.alloc (.cells #[.int .u8 ue,.slice ua un uc] 35 (0,0))):=(Below.refl _ _).alloc nR _;have k4:=heap_new w3 (.cells #[.int .u8 ue,.slice ua un uc] 35 (0,0));have B4:=b3.trans (b4.mono b3.size);have HT4:=hide (hTy.under b4);clear hTy;go_upto_region 9 with fail;generalize w3.alloc (.cells #[.int .u8 ue,.slice ua un uc] 35 (0,0))=w4 at b4 k4 B4 HT4 ⊢;have y4:=lt_of k4;have m0:=co k4 0;have m1:=co k4 1;simp at m0 m1;have v1:=(B4.cell (p:=⟨w.heap.size,1,none⟩) yD).trans g1;have v2:=(B4.cell (p:=⟨x.b,2,none⟩) yS).trans j2;have v3:=(B4.cell (p:=⟨bn,on,none⟩) hltn).trans hn0;have yD4:=Nat.lt_of_lt_of_le yD B4.size;have yS4:=Nat.lt_of_lt_of_le yS B4.size;have yn4:=Nat.lt_of_lt_of_le hltn B4.size;have HLK4:=hide (fun w' (hb:Below w4.heap.size w4 w')=>HLK.out w' (B4.trans (hb.mono B4.size)));have HTY4:=hide (HTY.out.under B4);generalize hsame:Kd.same t (Kd.typ E.types s0)=qs at hR1;clear k4 g0 g1 g2 g3 g4 t0 t1 t2 t3 t4 t5 hn0 j2 HLK HTY;go_cut [35] (fun v35 wd=>v35=.bool (!qs)∧Below w4.heap.size w4 wd)
    case first=>
     refine wp_region_late (fun w'=>Below w4.heap.size w4 w') (fun _=>false) (by kernel_rfl) ?_;have hH0:Below w4.heap.size w4 w4.drew:=(Below.refl _ _).drew;generalize w4.drew=wd0 at hH0 ⊢;refine' wpAnyL_take (i:=0) (oi:=⟨some 36,_,_,_,_,_⟩) (v:=_) rfl (by kernel_rfl) (by kernel_rfl) (by kernel_rfl) (by kernel_rfl) (fun _ _ _ h=>h) hH0 (by rfl) ?hyv ?o1
     case hyv=>
      intro wz hSw;have zc0:=(hSw.cell (p:=⟨w3.heap.size,0,none⟩) y4).trans m0;have zc1:=(hSw.cell (p:=⟨w3.heap.size,1,none⟩) y4).trans m1;go_simp
      try rfl
     try simp only [Act.put,sT,sZ,sS]
     refine' wpAnyL_take (i:=1) (oi:=⟨some 37,_,_,_,_,_⟩) (v:=_) rfl (by kernel_rfl) (by kernel_rfl) (by kernel_rfl) (by kernel_rfl) (fun _ _ _ h=>h) hH0 (by rfl) ?hyv ?o2
     case hyv=>
      intro wz hSw;go_simp
      try rfl
     try simp only [Act.put,sT,sZ,sS]
     refine' wpAnyL_take (i:=2) (oi:=⟨some 38,_,_,_,_,_⟩) (v:=_) rfl (by kernel_rfl) (by kernel_rfl) (by kernel_rfl) (by kernel_rfl) (fun _ _ _ h=>h) hH0 (by rfl) ?hyv ?o3
     case hyv=>
      intro wz hSw;go_simp
      try rfl
     try simp only [Act.put,sT,sZ,sS]
     refine' wpAnyL_take (i:=3) (oi:=⟨some 39,_,_,_,_,_⟩) (v:=_) rfl (by kernel_rfl) (by kernel_rfl) (by kernel_rfl) (by kernel_rfl) (fun _ _ _ h=>h) hH0 (by rfl) ?hyv ?o4
     case hyv=>
      intro wz hSw;go_simp
      try rfl
     try simp only [Act.put,sT,sZ,sS]
     refine' wpAnyL_take (i:=4) (oi:=⟨some 40,_,_,_,_,_⟩) (v:=_) rfl (by kernel_rfl) (by kernel_rfl) (by kernel_rfl) (by kernel_rfl) (fun _ _ _ h=>h) hH0 (by rfl) ?hyv ?o5
     case hyv=>
      intro wz hSw;have zc0:=(hSw.cell (p:=⟨x.b,2,none⟩) yS4).trans v2;go_simp
      try rfl
     try simp only [Act.put,sT,sZ,sS]
     refine' wpAnyL_take (i:=5) (oi:=⟨some 41,_,_,_,_,_⟩) (v:=_) rfl (by kernel_rfl) (by kernel_rfl) (by kernel_rfl) (by kernel_rfl) (fun _ _ _ h=>h) hH0 (by rfl) ?hyv ?o6
     case hyv=>
      intro wz hSw;go_simp
      try rfl
     try simp only [Act.put,sT,sZ,sS]
     refine' wpAnyL_take (i:=6) (oi:=⟨some 42,_,_,_,_,_⟩) (v:=_) rfl (by kernel_rfl) (by kernel_rfl) (by kernel_rfl) (by kernel_rfl) (fun _ _ _ h=>h) hH0 (by rfl) ?hyv ?o7
     case hyv=>
      intro wz hSw;have zc0:=(hSw.cell (p:=⟨w.heap.size,1,none⟩) yD4).trans v1;go_simp
      try rfl
     try simp only [Act.put,sT,sZ,sS]
     refine' wpAnyL_take (i:=7) (oi:=⟨some 43,_,_,_,_,_⟩) (v:=_) rfl (by kernel_rfl) (by kernel_rfl) (by kernel_rfl) (by kernel_rfl) (fun _ _ _ h=>h) hH0 (by rfl) ?hyv ?o8
     case hyv=>
      intro wz hSw;go_simp
      try rfl
     try simp only [Act.put,sT,sZ,sS]
     refine' wpAnyL_take (i:=8) (oi:=⟨some 44,_,_,_,_,_⟩) (v:=_) rfl (by kernel_rfl) (by kernel_rfl) (by kernel_rfl) (by kernel_rfl) (fun _ _ _ h=>h) hH0 (by rfl) ?hyv ?o9
     case hyv=>
      intro wz hSw;have zc0:=(hSw.cell (p:=⟨bn,on,none⟩) yn4).trans v3;go_simp
      try rfl
     try simp only [Act.put,sT,sZ,sS]
     refine' wpAnyL_take (i:=9) (oi:=⟨some 45,_,_,_,_,_⟩) (v:=_) rfl (by kernel_rfl) (by kernel_rfl) (by kernel_rfl) (by kernel_rfl) (fun _ _ _ h=>h) hH0 (by rfl) ?hyv ?o10
     case hyv=>
      intro wz hSw;have hlk:=HLK4.out _ hSw;go_simp
      try rfl
     try simp only [Act.put,sT,sZ,sS]
     refine wpAnyL_one (i:=10) (o:=_) rfl (by kernel_rfl) (by rfl) (fun K hK=>?_);go_simp;refine (ksame_any (HT4.out.under hH0) (HTY4.out.under hH0)).mono ?_;rintro eq wd1 ⟨rfl,bq1⟩;have hH1:Below w4.heap.size w4 wd1:=hH0.trans (bq1.mono hH0.size);rw [hsame];refine hK.out _ _ (fun _=>hH1) ?_;clear hK K
     try simp only [Act.put,sT,sZ,sS]
     refine' wpAnyL_take (i:=11) (oi:=⟨some 47,_,_,_,_,_⟩) (v:=_) rfl (by kernel_rfl) (by kernel_rfl) (by kernel_rfl) (by kernel_rfl) (fun _ _ _ h=>h) hH1 (by rfl) ?hyv ?o11
     case hyv=>
      intro wz hSw;go_simp
      try rfl
     try simp only [Act.put,sT,sZ,sS]
     refine' wpAnyL_take (i:=12) (oi:=⟨some 35,_,_,_,_,_⟩) (v:=_) rfl (by kernel_rfl) (by kernel_rfl) (by kernel_rfl) (by kernel_rfl) (fun _ _ _ h=>h) hH1 (by rfl) ?hyv ?o12
     case hyv=>
      intro wz hSw;go_simp
      try rfl
     try simp only [Act.put,sT,sZ,sS]
     refine wpAnyL_done (by kernel_rfl) ?_ _;go_wp2_with fail;go_meet
     case rel=>exact ⟨rfl,hH1⟩
    case rest=>
     obtain ⟨rfl,bc⟩:=hcut;have B5:=B4.trans (bc.mono B4.size);have A5:Aside x.maps w.heap.size w wc:=A2.trans (aside B5) A2.size
     cases qs
     ·rw [if_neg (by simp)] at hR1
      go_wp2;go_ret;exact ⟨by rw [←HR.out,hR1];rfl,A5,fun h=>by rw [←HR.out,hR1] at h;cases h⟩
     ·rw [if_pos rfl] at hR1
      go_wp2;go_ret;exact ⟨by rw [←HR.out,hR1];rfl,A5,fun _=>⟨HS2.out.keep B5,HSU.out⟩⟩
end Go.Proofs.YtkfgbhlpjkkgfaaGreatDoor
