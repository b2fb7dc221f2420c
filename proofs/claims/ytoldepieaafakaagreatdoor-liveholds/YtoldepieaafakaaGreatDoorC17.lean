import Derived.Test.YtoldepieaafakaaGreatDoorC16
import Derived.WalkKit
import Derived.WalkSpells
import Derived.IntWalk
import Derived.Deep.Cut
import Derived.Deep.LoopGhost
import Derived.Laws.Cover1
import Derived.Lib.Hide
set_option linter.unusedVariables false
set_option linter.unusedSimpArgs false
set_option maxHeartbeats 64000000
set_option maxRecDepth 100000
namespace Go.Proofs.YtoldepieaafakaaGreatDoor
open Go.RowKit Go.IntWalk
namespace Sk
def firstV:Nat->List Vr->Int × Int
 | _,[]=>(0,0)
 | i,v :: r=>if codeType v≠0 then (codeType v,-2-(i:Int)) else firstV (i+1) r
end Sk
theorem zAE {ok:Nat->Prop} {w:World} {v:Value} {l:List Sk.Vr} (hl:HVars ok w v l) (hlen:l.length<=1000000) :
  Calls Tryz.prog 28 #[v,.func (.func 29) #[] #[],.func (.func 30) #[] #[]] w fun r w'=>r=.returned (.agg #[.int .i64 (Sk.firstV 0 l).1,.int .i64 (Sk.firstV 0 l).2])/\Below w.heap.size w w':=by
 obtain ⟨ao,cap,rfl,hc1,hc2,_⟩:=hl.at;unfold maxLen at hc2;obtain ⟨R,hR⟩:=nmQ (Sk.firstV 0 l);rw [<-hR];have HR:=zD (show R=Sk.firstV 0 (l.drop 0) by rw [List.drop_zero];exact hR);clear hR;have b0:Below w.heap.size w (w.alloc (.cells #[.int .i64 0,.int .i64 0] 31 (0,0))):=(Below.refl _ _).alloc zL _;have k0:=zH w (.cells #[.int .i64 0,.int .i64 0] 31 (0,0));have HL:=zD hl;clear hl;obtain ⟨n,hn⟩:=nmQ (l.length);rw [<-hn] at hc1 hlen ⊢;have HN:=zD hn;clear hn;go_enter Tryz.func28,Tryz.ntmps28;go_upto_region 1 with fail;generalize w.alloc (.cells #[.int .i64 0,.int .i64 0] 31 (0,0))=w0 at b0 k0 ⊢;go_wp2_with fail;go_loopg [12] n (fun k v wr=>∃ i,i<=n/\k=n-i/\v=.int .i64 (i:Nat)/\Hid (R=Sk.firstV i (l.drop i))/\Below w.heap.size w wr/\wr.heap[w.heap.size]?=some (.cells #[.int .i64 0,.int .i64 0] 31 (0,0)))
 case atStart=>exact ⟨0,Nat.zero_le _,rfl,rfl,HR,b0,k0⟩
 case round=>
  clear b0 k0 HR;obtain ⟨i,hi,rfl,rfl,H,hbr,kr⟩:=hrel;by_cases hlt:i<n
  case neg=>
   have hin:i=n:=(by omega);subst hin;have e1:l.drop i=[]:=List.drop_of_length_le (by have:=HN.out;omega);have hz:R=(0,0):=(by rw [H.out,e1];rfl);have HZ:=zD hz;clear hz e1;have st0:=coQ kr 0;have st1:=coQ kr 1;have fr0:=foQ kr 0;have fr1:=foQ kr 1;simp at st0 st1;have KR:=zP (zP kr 0 (.int .i64 0)) 1 (.int .i64 0);have r0:=coQ KR 0;have r1:=coQ KR 1;simp at r0 r1;have BR:=(hbr.setCell (p:=⟨w.heap.size,0,none⟩) zL (.int .i64 0)).setCell (p:=⟨w.heap.size,1,none⟩) zL (.int .i64 0);clear KR;go_wp2;exact bodyPost_ret (v:=.agg #[.int .i64 0,.int .i64 0]) (by simp [results,Tryz.results28,go_sem,r0,r1]) rfl ⟨by rw [HZ.out],BR⟩
  case pos=>
   have hil:i<l.length:=(by have:=HN.out;omega);have hdr:l.drop i=l[i] :: l.drop (i+1):=List.drop_eq_getElem_cons hil;have hR1:=H.out;rw [hdr] at hR1;obtain ⟨ao',cap',eqs,_,_,hat2⟩:=(HL.out.under hbr).at;injection eqs with q1 q2 q3;subst q1;obtain ⟨b,o,rfl,hb,e0,e1⟩:=hat2 i hil;obtain ⟨y,hy⟩:=nmQ (l[i]);rw [<-hy] at e0 e1 hR1;unfold Sk.firstV at hR1;have hc:=zAY y;have bA:Below wr.heap.size wr (wr.alloc (.cells #[.int .u8 y.elem,.int .i64 y.n] 42 (0,0))):=(Below.refl _ _).alloc zL _;have BA:=hbr.trans (bA.mono hbr.size);have kA:=(bA.block _ (zG kr)).trans kr;generalize Sk.codeType y=cd at hc hR1;have HR1:=zD hR1;clear hat2 q2 q3 hy hdr hR1 H;go_upto_region 4 with fail;have kV:=zH wr (.cells #[.int .u8 y.elem,.int .i64 y.n] 42 (0,0));generalize wr.alloc (.cells #[.int .u8 y.elem,.int .i64 y.n] 42 (0,0))=wa at bA BA kA kV ⊢;have v0:=coQ kV 0;have v1:=coQ kV 1;simp at v0 v1;go_wp2_with fail;refine (hc wa).mono ?_;rintro e w4 ⟨rfl,b4⟩;have B4:=BA.trans (b4.mono BA.size);have k4:=(b4.block _ (zG kA)).trans kA;clear hc v0 v1 kV;by_cases hz:cd=0
   case pos=>
    have hz2:(cd != 0)=false:=(by simp [hz]);have HZ:Hid (R=Sk.firstV (i+1) (l.drop (i+1))):=zD (by rw [HR1.out,if_neg (by simp [hz])]);clear HR1 hz;go_wp2_with fail;go_roundg (n-(i+1))
    case measure=>omega
    case rel=>exact ⟨i+1,by omega,rfl,by go_num,HZ,B4,k4⟩
   case neg=>
    have hz2:(cd != 0)=true:=(by simp [hz]);have HZ:Hid (R=(cd,-2-(i:Int))):=zD (by rw [HR1.out,if_pos hz]);clear HR1 hz;go_wp2_with fail;refine (zAa i (by omega) w4).mono ?_;rintro e w5 ⟨rfl,b5⟩;have B5:=B4.trans (b5.mono B4.size);have k5:=(b5.block _ (zG k4)).trans k4;have st0:=coQ k5 0;have st1:=coQ k5 1;have fr0:=foQ k5 0;have fr1:=foQ k5 1;simp at st0 st1;have KR:=zP (zP k5 0 (.int .i64 cd)) 1 (.int .i64 (-2-(i:Int)));have r0:=coQ KR 0;have r1:=coQ KR 1;simp at r0 r1;have BR:=(B5.setCell (p:=⟨w.heap.size,0,none⟩) zL (.int .i64 cd)).setCell (p:=⟨w.heap.size,1,none⟩) zL (.int .i64 (-2-(i:Int)));clear KR;go_wp2;exact bodyPost_ret (v:=.agg #[.int .i64 cd,.int .i64 (-2-(i:Int))]) (by simp [results,Tryz.results28,go_sem,r0,r1]) rfl ⟨by rw [HZ.out],BR⟩
end Go.Proofs.YtoldepieaafakaaGreatDoor
namespace Go.Proofs.YtoldepieaafakaaGreatDoor
open Go.RowKit Go.IntWalk
def Md (w:World) (g:Nat) (m:List Bool):Prop:=w.heap[g]?=some (.cells (m.map Value.bool).toArray 4 (0,0))
theorem Md.under {w w':World} {g:Nat} {m:List Bool} (h:Md w g m) (a:Below w.heap.size w w'):Md w' g m:=(a.block _ (zG h)).trans h
theorem Md.cell {w:World} {g:Nat} {m:List Bool} (h:Md w g m) {i:Nat} (hi:i<m.length):w.cell? ⟨g,i,none⟩=some (.bool m[i]):=by
 have:=coQ h i;rw [this];simp [hi]
theorem Md.put {w:World} {g:Nat} {m:List Bool} (h:Md w g m) {i:Nat} (hi:i<m.length) (q:Bool):Md (w.setCell ⟨g,i,none⟩ (.bool q)) g (m.set i q):=by
 have:=zP h i (.bool q);unfold Md;rw [this]
 congr 2
 apply Array.ext_getElem?
 intro k;by_cases hk:k=i
 ·subst hk
  simp [hi]
 ·simp [Array.getElem?_setIfInBounds,List.getElem?_set,Ne.symm hk]
namespace Sk
def unmade (m:List Bool) (v:Nat):Int:=if m.getD v false=true then 0 else 9
def given (m:List Bool) (v:Int):Int × List Bool:=if isNone m.length v=true then (16,m) else if m.getD v.toNat false=true then (8,m) else (0,m.set v.toNat true)
end Sk
theorem qP {w:World} {b:Nat} {x:LkV} {m:List Bool} (h:LkAt w b x) (hm:Md w x.g m) (hn:x.nV=m.length) (v:Nat) (hv:v<m.length) (hmx:m.length<=1000000) :
  Calls Tryz.prog 44 #[.pointer (some ⟨b,0,none⟩),.int .i64 (v:Int)] w fun e w'=>e=.returned (.int .i64 (Sk.unmade m v))/\Below w.heap.size w w':=by
 unfold LkAt at h;have c4:=coQ h 4;simp at c4;have yb:=zG h;have yg:=zG hm;have cv:=hm.cell hv;have hvn:v<x.nV:=(by omega);obtain ⟨R,hR⟩:=nmQ (Sk.unmade m v);rw [<-hR];unfold Sk.unmade at hR;rw [List.getD_eq_getElem?_getD,List.getElem?_eq_getElem hv,Option.getD_some] at hR;generalize m[v]=q at cv hR;have HR:=zD hR;clear hR h hm hn hv hmx
 cases q
 ·go_enter Tryz.func44,Tryz.ntmps44
  go_wp2;go_ret;exact ⟨by rw [HR.out];rfl,Below.refl _ _⟩
 ·go_enter Tryz.func44,Tryz.ntmps44
  go_wp2;go_ret;exact ⟨by rw [HR.out];rfl,Below.refl _ _⟩
theorem zAF {w:World} {b:Nat} {x:LkV} {m:List Bool} (h:LkAt w b x) (hm:Md w x.g m) (hn:x.nV=m.length) (hbg:b≠x.g) (v:Int) :
  Calls Tryz.prog 33 #[.pointer (some ⟨b,0,none⟩),.int .i64 v] w fun e w'=>e=.returned (.int .i64 (Sk.given m v).1)/\LkAt w' b x/\Md w' x.g (Sk.given m v).2/\Aside [x.g] w.heap.size w w':=by
 have hc:=qJ h v;rw [hn] at hc;obtain ⟨R,hR⟩:=nmQ (Sk.given m v);rw [<-hR];unfold Sk.given at hR;by_cases hq:Sk.isNone m.length v=true
 ·rw [hq] at hc
  rw [if_pos hq] at hR;have HR:=zD hR;have HH:=zD h;have HM:=zD hm;clear hR h hm hq hn;go_enter Tryz.func33,Tryz.ntmps33;go_wp2_with fail;refine hc.mono ?_;rintro e w1 ⟨rfl,b1⟩;go_wp2;go_ret;exact ⟨by rw [HR.out];rfl,HH.out.under b1,by rw [HR.out];exact HM.out.under b1,aside b1⟩
 ·have hq2:Sk.isNone m.length v=false:=by simpa using hq
  rw [hq2] at hc;rw [if_neg hq] at hR;have hv2:0<=v/\v<m.length:=by
   unfold Sk.isNone at hq2;simp at hq2;omega
  obtain ⟨i,rfl⟩:∃ i:Nat,v=(i:Int):=⟨v.toNat,by omega⟩;have hi:i<m.length:=(by omega);have hin:i<x.nV:=(by omega);rw [Int.toNat_natCast,List.getD_eq_getElem?_getD,List.getElem?_eq_getElem hi,Option.getD_some] at hR;obtain ⟨q,hqq⟩:=nmQ (m[i]);rw [<-hqq] at hR;have HR:=zD hR;have HH:=zD h;have HM:=zD hm;have HQ:=zD hqq;have HI:=zD (show i<m.length from hi);have HB:=zD hbg;clear hR h hm hq hqq hv2 hq2 hn hbg;go_enter Tryz.func33,Tryz.ntmps33;go_wp2_with fail;refine hc.mono ?_;rintro e w1 ⟨rfl,b1⟩;have h1:=HH.out.under b1;unfold LkAt at h1;have c4:=coQ h1 4;simp at c4;have yb:=zG h1;have m1:=HM.out.under b1;have yg:=zG m1;have cv:=m1.cell HI.out;rw [<-HQ.out] at cv;have fr:=foQ m1 i;have HM1:=zD m1;have HH1:=zD (HH.out.under b1);clear h1 m1 hc
  cases q
  ·go_wp2
   go_ret;refine ⟨by rw [HR.out];rfl,?_,?_,(aside b1).trans (Aside.setCell (S:=[x.g]) (B:=w1.heap.size) (p:=⟨x.g,i,none⟩) (by simp) _) b1.size⟩
   ·exact zQ HH1.out (fun e=>HB.out e.symm) _
   ·rw [HR.out]
    exact HM1.out.put HI.out true
  ·go_wp2
   go_ret;exact ⟨by rw [HR.out];rfl,HH1.out,by rw [HR.out];exact HM1.out,aside b1⟩
end Go.Proofs.YtoldepieaafakaaGreatDoor
