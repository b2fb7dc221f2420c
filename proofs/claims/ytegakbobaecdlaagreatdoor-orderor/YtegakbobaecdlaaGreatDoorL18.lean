import Derived.Test.YtegakbobaecdlaaGreatDoorL17
import Derived.WalkKit
import Derived.WalkSpells
import Derived.IntWalk
import Derived.Deep.Cut
import Derived.Deep.LoopGhost
import Derived.Laws.Cover1
import Derived.Lib.Hide
set_option linter.unusedVariables false
set_option linter.unusedSimpArgs false
set_option maxHeartbeats 64000000
set_option maxRecDepth 100000
namespace Go.Proofs.YtegakbobaecdlaaGreatDoor
open Go.RowKit Go.IntWalk
namespace Sk
def firstI (f:Int->Int):List Int->Int
 | []=>0
 | x :: r=>if f x≠0 then f x else firstI f r
def atS (c:Int):Int × Int:=if c=0 then (0,0) else (c,-1)
end Sk
theorem zAD {ok:Nat->Prop} {w:World} {b:Nat} {x:LkV} {v:Value} {l:List Int} (hk:LkAt w b x) (hl:HInts ok w v l) :
  Calls Tryz.prog 86 #[v,.func (.func 90) #[.pointer (some ⟨b,0,none⟩)] #[],.func (.func 88) #[] #[]] w fun r w'=>r=.returned (.agg #[.int .i64 (Sk.atS (Sk.firstI (Sk.codeNum x.nV) l)).1,.int .i64 (Sk.atS (Sk.firstI (Sk.codeNum x.nV) l)).2])/\Below w.heap.size w w':=by
 obtain ⟨ao,cap,rfl,hc1,hc2,_⟩:=hl.at;unfold maxLen at hc2;have hstep:Hid (∀ (i:Nat) (hi:i<l.length) V,Below w.heap.size w V->Calls Tryz.prog 90 #[.pointer (some ⟨b,0,none⟩),.int .i64 l[i]] V fun r w'=>r=.returned (.int .i64 ((Sk.codeNum x.nV) l[i]))/\Below V.heap.size V w'):=zE (fun i hi V bV=>jP (hk.under bV) l[i]);obtain ⟨f,hf⟩:∃ f:Int->Int,f=(Sk.codeNum x.nV):=⟨_,rfl⟩;rw [<-hf] at hstep ⊢;clear hf;obtain ⟨R,hR⟩:=nmQ (Sk.firstI f l);rw [<-hR];have HR:=zE (show R=Sk.firstI f (l.drop 0) by rw [List.drop_zero];exact hR);clear hR;have b0:Below w.heap.size w (w.alloc (.cells #[.int .i64 0,.int .i64 0] 30 (0,0))):=(Below.refl _ _).alloc zM _;have k0:=zI w (.cells #[.int .i64 0,.int .i64 0] 30 (0,0));have HL:=zE hl;clear hl;obtain ⟨n,hn⟩:=nmQ (l.length);rw [<-hn] at hc1 ⊢;have HN:=zE hn;clear hn;go_enter Tryz.func86,Tryz.ntmps86;go_upto_region 1 with fail;generalize w.alloc (.cells #[.int .i64 0,.int .i64 0] 30 (0,0))=w0 at b0 k0 ⊢;go_wp2_with fail;go_loopg [12] n (fun k v wr=>∃ i,i<=n/\k=n-i/\v=.int .i64 (i:Nat)/\Hid (R=Sk.firstI f (l.drop i))/\Below w.heap.size w wr/\wr.heap[w.heap.size]?=some (.cells #[.int .i64 0,.int .i64 0] 30 (0,0)))
 case atStart=>exact ⟨0,Nat.zero_le _,rfl,rfl,HR,b0,k0⟩
 case round=>
  clear b0 k0 HR;obtain ⟨i,hi,rfl,rfl,H,hbr,kr⟩:=hrel;by_cases hlt:i<n
  case neg=>
   have hin:i=n:=(by omega);subst hin;have e1:l.drop i=[]:=List.drop_of_length_le (by have:=HN.out;omega);have HZ:=zE (show R=0 by rw [H.out,e1];rfl);clear e1;have st0:=coQ kr 0;have st1:=coQ kr 1;have fr0:=foQ kr 0;have fr1:=foQ kr 1;simp at st0 st1;have KR:=zJ (zJ kr 0 (.int .i64 0)) 1 (.int .i64 0);have r0:=coQ KR 0;have r1:=coQ KR 1;simp at r0 r1;have BR:=(hbr.setCell (p:=⟨w.heap.size,0,none⟩) zM (.int .i64 0)).setCell (p:=⟨w.heap.size,1,none⟩) zM (.int .i64 0);clear KR;go_wp2;exact bodyPost_ret (v:=.agg #[.int .i64 0,.int .i64 0]) (by simp [results,Tryz.results86,go_sem,r0,r1]) rfl ⟨by rw [HZ.out];rfl,BR⟩
  case pos=>
   have hil:i<l.length:=(by have:=HN.out;omega);have hdr:l.drop i=l[i] :: l.drop (i+1):=List.drop_eq_getElem_cons hil;have hR1:=H.out;rw [hdr] at hR1;obtain ⟨ao',cap',eqs,_,_,hat2⟩:=(HL.out.under hbr).at;injection eqs with q1 q2 q3;subst q1;obtain ⟨bb,o,rfl,hb,e0⟩:=hat2 i hil;have hc:=hstep.out i hil wr hbr;obtain ⟨y,hy⟩:=nmQ (l[i]);rw [<-hy] at e0 hR1 hc;unfold Sk.firstI at hR1;generalize f y=cd at hc hR1;have HR1:=zE hR1;clear hat2 q2 q3 hy hdr hR1 H;go_wp2_with fail;refine hc.mono ?_;rintro e w4 ⟨rfl,b4⟩;have B4:=hbr.trans (b4.mono hbr.size);have k4:=(b4.block _ (zG kr)).trans kr;clear hc;by_cases hz:cd=0
   case pos=>
    have hz2:(cd != 0)=false:=(by simp [hz]);have HZ:Hid (R=Sk.firstI f (l.drop (i+1))):=zE (by rw [HR1.out,if_neg (by simp [hz])]);clear HR1 hz;go_wp2_with fail;go_roundg (n-(i+1))
    case measure=>omega
    case rel=>exact ⟨i+1,by omega,rfl,by go_num,HZ,B4,k4⟩
   case neg=>
    have hz2:(cd != 0)=true:=(by simp [hz]);have HZ:Hid (R=cd):=zE (by rw [HR1.out,if_pos hz]);have HN0:=zE hz;clear HR1 hz;go_wp2_with fail;refine (qT i w4).mono ?_;rintro e w5 ⟨rfl,b5⟩;have B5:=B4.trans (b5.mono B4.size);have k5:=(b5.block _ (zG k4)).trans k4;have st0:=coQ k5 0;have st1:=coQ k5 1;have fr0:=foQ k5 0;have fr1:=foQ k5 1;simp at st0 st1;have KR:=zJ (zJ k5 0 (.int .i64 cd)) 1 (.int .i64 (-1));have r0:=coQ KR 0;have r1:=coQ KR 1;simp at r0 r1;have BR:=(B5.setCell (p:=⟨w.heap.size,0,none⟩) zM (.int .i64 cd)).setCell (p:=⟨w.heap.size,1,none⟩) zM (.int .i64 (-1));clear KR;go_wp2;exact bodyPost_ret (v:=.agg #[.int .i64 cd,.int .i64 (-1)]) (by simp [results,Tryz.results86,go_sem,r0,r1]) rfl ⟨by rw [HZ.out];unfold Sk.atS;rw [if_neg HN0.out],BR⟩
theorem zAE {ok:Nat->Prop} {w:World} {b:Nat} {x:LkV} {v:Value} {l:List Int} {m:List Bool} (hk:LkAt w b x) (hm:Md w x.g m) (hn:x.nV=m.length) (hmx:m.length<=1000000) (hin:∀ z ∈ l,0<=z/\z<m.length) (hl:HInts ok w v l) :
  Calls Tryz.prog 86 #[v,.func (.func 98) #[.pointer (some ⟨b,0,none⟩)] #[],.func (.func 88) #[] #[]] w fun r w'=>r=.returned (.agg #[.int .i64 (Sk.atS (Sk.firstI (fun z=>Sk.unmade m z.toNat) l)).1,.int .i64 (Sk.atS (Sk.firstI (fun z=>Sk.unmade m z.toNat) l)).2])/\Below w.heap.size w w':=by
 obtain ⟨ao,cap,rfl,hc1,hc2,_⟩:=hl.at;unfold maxLen at hc2;have hstep:Hid (∀ (i:Nat) (hi:i<l.length) V,Below w.heap.size w V->Calls Tryz.prog 98 #[.pointer (some ⟨b,0,none⟩),.int .i64 l[i]] V fun r w'=>r=.returned (.int .i64 ((fun z=>Sk.unmade m z.toNat) l[i]))/\Below V.heap.size V w'):=zE (fun i hi V bV=>by
  have hz:=hin l[i] (List.getElem_mem hi);have hc:=qL (hk.under bV) (hm.under bV) hn l[i].toNat (by omega) hmx;rw [Int.toNat_of_nonneg hz.1] at hc;exact hc)
 obtain ⟨f,hf⟩:∃ f:Int->Int,f=(fun z=>Sk.unmade m z.toNat):=⟨_,rfl⟩;rw [<-hf] at hstep ⊢;clear hf;obtain ⟨R,hR⟩:=nmQ (Sk.firstI f l);rw [<-hR];have HR:=zE (show R=Sk.firstI f (l.drop 0) by rw [List.drop_zero];exact hR);clear hR;have b0:Below w.heap.size w (w.alloc (.cells #[.int .i64 0,.int .i64 0] 30 (0,0))):=(Below.refl _ _).alloc zM _;have k0:=zI w (.cells #[.int .i64 0,.int .i64 0] 30 (0,0));have HL:=zE hl;clear hl;obtain ⟨n,hn⟩:=nmQ (l.length);rw [<-hn] at hc1 ⊢;have HN:=zE hn;clear hn;go_enter Tryz.func86,Tryz.ntmps86;go_upto_region 1 with fail;generalize w.alloc (.cells #[.int .i64 0,.int .i64 0] 30 (0,0))=w0 at b0 k0 ⊢;go_wp2_with fail;go_loopg [12] n (fun k v wr=>∃ i,i<=n/\k=n-i/\v=.int .i64 (i:Nat)/\Hid (R=Sk.firstI f (l.drop i))/\Below w.heap.size w wr/\wr.heap[w.heap.size]?=some (.cells #[.int .i64 0,.int .i64 0] 30 (0,0)))
 case atStart=>exact ⟨0,Nat.zero_le _,rfl,rfl,HR,b0,k0⟩
 case round=>
  clear b0 k0 HR;obtain ⟨i,hi,rfl,rfl,H,hbr,kr⟩:=hrel;by_cases hlt:i<n
  case neg=>
   have hin:i=n:=(by omega);subst hin;have e1:l.drop i=[]:=List.drop_of_length_le (by have:=HN.out;omega);have HZ:=zE (show R=0 by rw [H.out,e1];rfl);clear e1;have st0:=coQ kr 0;have st1:=coQ kr 1;have fr0:=foQ kr 0;have fr1:=foQ kr 1;simp at st0 st1;have KR:=zJ (zJ kr 0 (.int .i64 0)) 1 (.int .i64 0);have r0:=coQ KR 0;have r1:=coQ KR 1;simp at r0 r1;have BR:=(hbr.setCell (p:=⟨w.heap.size,0,none⟩) zM (.int .i64 0)).setCell (p:=⟨w.heap.size,1,none⟩) zM (.int .i64 0);clear KR;go_wp2;exact bodyPost_ret (v:=.agg #[.int .i64 0,.int .i64 0]) (by simp [results,Tryz.results86,go_sem,r0,r1]) rfl ⟨by rw [HZ.out];rfl,BR⟩
  case pos=>
   have hil:i<l.length:=(by have:=HN.out;omega);have hdr:l.drop i=l[i] :: l.drop (i+1):=List.drop_eq_getElem_cons hil;have hR1:=H.out;rw [hdr] at hR1;obtain ⟨ao',cap',eqs,_,_,hat2⟩:=(HL.out.under hbr).at;injection eqs with q1 q2 q3;subst q1;obtain ⟨bb,o,rfl,hb,e0⟩:=hat2 i hil;have hc:=hstep.out i hil wr hbr;obtain ⟨y,hy⟩:=nmQ (l[i]);rw [<-hy] at e0 hR1 hc;unfold Sk.firstI at hR1;generalize f y=cd at hc hR1;have HR1:=zE hR1;clear hat2 q2 q3 hy hdr hR1 H;go_wp2_with fail;refine hc.mono ?_;rintro e w4 ⟨rfl,b4⟩;have B4:=hbr.trans (b4.mono hbr.size);have k4:=(b4.block _ (zG kr)).trans kr;clear hc;by_cases hz:cd=0
   case pos=>
    have hz2:(cd != 0)=false:=(by simp [hz]);have HZ:Hid (R=Sk.firstI f (l.drop (i+1))):=zE (by rw [HR1.out,if_neg (by simp [hz])]);clear HR1 hz;go_wp2_with fail;go_roundg (n-(i+1))
    case measure=>omega
    case rel=>exact ⟨i+1,by omega,rfl,by go_num,HZ,B4,k4⟩
   case neg=>
    have hz2:(cd != 0)=true:=(by simp [hz]);have HZ:Hid (R=cd):=zE (by rw [HR1.out,if_pos hz]);have HN0:=zE hz;clear HR1 hz;go_wp2_with fail;refine (qT i w4).mono ?_;rintro e w5 ⟨rfl,b5⟩;have B5:=B4.trans (b5.mono B4.size);have k5:=(b5.block _ (zG k4)).trans k4;have st0:=coQ k5 0;have st1:=coQ k5 1;have fr0:=foQ k5 0;have fr1:=foQ k5 1;simp at st0 st1;have KR:=zJ (zJ k5 0 (.int .i64 cd)) 1 (.int .i64 (-1));have r0:=coQ KR 0;have r1:=coQ KR 1;simp at r0 r1;have BR:=(B5.setCell (p:=⟨w.heap.size,0,none⟩) zM (.int .i64 cd)).setCell (p:=⟨w.heap.size,1,none⟩) zM (.int .i64 (-1));clear KR;go_wp2;exact bodyPost_ret (v:=.agg #[.int .i64 cd,.int .i64 (-1)]) (by simp [results,Tryz.results86,go_sem,r0,r1]) rfl ⟨by rw [HZ.out];unfold Sk.atS;rw [if_neg HN0.out],BR⟩
end Go.Proofs.YtegakbobaecdlaaGreatDoor
namespace Go.Proofs.YtegakbobaecdlaaGreatDoor
open Go.RowKit Go.IntWalk
namespace Sk
def givenL:List Bool->List Int->Int × List Bool
 | m,[]=>(0,m)
 | m,x :: r=>if (given m x).1≠0 then given m x else givenL (given m x).2 r
theorem given_len (m:List Bool) (x:Int):(given m x).2.length=m.length:=by
 unfold given
 split
 ·rfl
 ·split
  ·rfl
  ·simp
end Sk
theorem zAF {ok:Nat->Prop} {w:World} {b:Nat} {x:LkV} {v:Value} {l:List Int} {m0:List Bool} (hk:LkAt w b x) (hm:Md w x.g m0) (hn:x.nV=m0.length) (hbg:b≠x.g) (hl:HInts ok w v l) (hog:¬ok x.g) :
  Calls Tryz.prog 86 #[v,.func (.func 87) #[.pointer (some ⟨b,0,none⟩)] #[],.func (.func 88) #[] #[]] w fun r w'=>r=.returned (.agg #[.int .i64 (Sk.atS (Sk.givenL m0 l).1).1,.int .i64 (Sk.atS (Sk.givenL m0 l).1).2])/\LkAt w' b x/\Md w' x.g (Sk.givenL m0 l).2/\Aside [x.g] w.heap.size w w':=by
 obtain ⟨ao,cap,rfl,hc1,hc2,_⟩:=hl.at;unfold maxLen at hc2;obtain ⟨R,hR⟩:=nmQ (Sk.givenL m0 l);rw [<-hR];have HR:=zE (show R=Sk.givenL m0 (l.drop 0) by rw [List.drop_zero];exact hR);clear hR;have yb:b<w.heap.size:=zG hk;have yg:x.g<w.heap.size:=zG hm;have A0:Aside [x.g] w.heap.size w (w.alloc (.cells #[.int .i64 0,.int .i64 0] 30 (0,0))):=(Aside.refl (S:=[x.g]) (B:=w.heap.size) w).alloc zM _;have b0:Below w.heap.size w (w.alloc (.cells #[.int .i64 0,.int .i64 0] 30 (0,0))):=(Below.refl _ _).alloc zM _;have k0:=zI w (.cells #[.int .i64 0,.int .i64 0] 30 (0,0));have H0:=zE (show LkAt (w.alloc (.cells #[.int .i64 0,.int .i64 0] 30 (0,0))) b x/\Md (w.alloc (.cells #[.int .i64 0,.int .i64 0] 30 (0,0))) x.g m0 from ⟨hk.under b0,hm.under b0⟩);have HL:=zE hl;have HOG:=zE hog;have HBG:=zE hbg;have HNV:=zE hn;clear hl hk hm hog hbg hn b0;obtain ⟨n,hn⟩:=nmQ (l.length);rw [<-hn] at hc1 ⊢;have HN:=zE hn;clear hn;go_enter Tryz.func86,Tryz.ntmps86;go_upto_region 1 with fail;generalize w.alloc (.cells #[.int .i64 0,.int .i64 0] 30 (0,0))=w0 at A0 k0 H0 ⊢;go_wp2_with fail;go_loopg [12] n (fun k v wr=>∃ (i:Nat) (m:List Bool),i<=n/\k=n-i/\v=.int .i64 (i:Nat)/\Hid (R=Sk.givenL m (l.drop i))/\Hid (m.length=m0.length)/\Aside [x.g] w.heap.size w wr/\Hid (LkAt wr b x/\Md wr x.g m)/\wr.heap[w.heap.size]?=some (.cells #[.int .i64 0,.int .i64 0] 30 (0,0)))
 case atStart=>exact ⟨0,m0,Nat.zero_le _,rfl,rfl,HR,zE rfl,A0,H0,k0⟩
 case round=>
  clear A0 k0 HR H0;obtain ⟨i,m,hi,rfl,rfl,H,HML,hbr,HI,kr⟩:=hrel;have zr:=hbr.size;by_cases hlt:i<n
  case neg=>
   have hin:i=n:=(by omega);subst hin;have e1:l.drop i=[]:=List.drop_of_length_le (by have:=HN.out;omega);have HZ:=zE (show R=(0,m) by rw [H.out,e1];rfl);clear e1;have st0:=coQ kr 0;have st1:=coQ kr 1;have fr0:=foQ kr 0;have fr1:=foQ kr 1;simp at st0 st1;have KR:=zJ (zJ kr 0 (.int .i64 0)) 1 (.int .i64 0);have r0:=coQ KR 0;have r1:=coQ KR 1;simp at r0 r1;have BR:=(hbr.set (p:=⟨w.heap.size,0,none⟩) zM (.int .i64 0)).set (p:=⟨w.heap.size,1,none⟩) zM (.int .i64 0);have HE:=zE (show LkAt ((wr.setCell ⟨w.heap.size,0,none⟩ (.int .i64 0)).setCell ⟨w.heap.size,1,none⟩ (.int .i64 0)) b x/\Md ((wr.setCell ⟨w.heap.size,0,none⟩ (.int .i64 0)).setCell ⟨w.heap.size,1,none⟩ (.int .i64 0)) x.g m from ⟨zP (zP HI.out.1 (by show w.heap.size≠b;omega) _) (by show w.heap.size≠b;omega) _,zP (zP HI.out.2 (by show w.heap.size≠x.g;omega) _) (by show w.heap.size≠x.g;omega) _⟩);clear KR;go_wp2;exact bodyPost_ret (v:=.agg #[.int .i64 0,.int .i64 0]) (by simp [results,Tryz.results86,go_sem,r0,r1]) rfl ⟨by rw [HZ.out];rfl,HE.out.1,by rw [HZ.out];exact HE.out.2,BR⟩
  case pos=>
   have hil:i<l.length:=(by have:=HN.out;omega);have hdr:l.drop i=l[i] :: l.drop (i+1):=List.drop_eq_getElem_cons hil;have hR1:=H.out;rw [hdr] at hR1;obtain ⟨ao',cap',eqs,_,_,hat2⟩:=(HL.out.keep zr (fun j hj hlj=>hbr.block j hlj (by simp;intro e;exact HOG.out (e ▸ hj)))).at;injection eqs with q1 q2 q3;subst q1;obtain ⟨bb,o,rfl,hb,e0⟩:=hat2 i hil;obtain ⟨y,hy⟩:=nmQ (l[i]);rw [<-hy] at e0 hR1;have hc:=zAI HI.out.1 HI.out.2 (by rw [HNV.out,HML.out]) HBG.out y;unfold Sk.givenL at hR1;have hlen:=Sk.given_len m y;generalize Sk.given m y=G at hc hR1 hlen;obtain ⟨cd,m2⟩:=G
   dsimp only at hc hR1 hlen
   have HR1:=zE hR1;have HML2:=zE (show m2.length=m0.length by rw [hlen];exact HML.out);clear hat2 q2 q3 hy hdr hR1 H hlen;go_wp2_with fail;refine hc.mono ?_;rintro e w4 ⟨rfl,l4,m4,a4⟩;have A4:=hbr.trans a4 zr;have z4:=a4.size;have k4:=a4.keep kr (zG kr) (by simp;omega);have H4:=zE (show LkAt w4 b x/\Md w4 x.g m2 from ⟨l4,m4⟩);clear hc l4 m4;by_cases hz:cd=0
   case pos=>
    have hz2:(cd != 0)=false:=(by simp [hz]);have HZ:Hid (R=Sk.givenL m2 (l.drop (i+1))):=zE (by rw [HR1.out,if_neg (by simp [hz])]);clear HR1 hz;go_wp2_with fail;go_roundg (n-(i+1))
    case measure=>omega
    case rel=>exact ⟨i+1,m2,by omega,rfl,by go_num,HZ,HML2,A4,H4,k4⟩
   case neg=>
    have hz2:(cd != 0)=true:=(by simp [hz]);have HZ:Hid (R=(cd,m2)):=zE (by rw [HR1.out,if_pos hz]);have HN0:=zE hz;clear HR1 hz;go_wp2_with fail;refine (qT i w4).mono ?_;rintro e w5 ⟨rfl,b5⟩;have A5:=A4.trans (aside b5) (Nat.le_trans zr z4);have z5:=b5.size;have k5:=(b5.block _ (zG k4)).trans k4;have H5:=zE (show LkAt w5 b x/\Md w5 x.g m2 from ⟨H4.out.1.under b5,H4.out.2.under b5⟩);have st0:=coQ k5 0;have st1:=coQ k5 1;have fr0:=foQ k5 0;have fr1:=foQ k5 1;simp at st0 st1;have KR:=zJ (zJ k5 0 (.int .i64 cd)) 1 (.int .i64 (-1));have r0:=coQ KR 0;have r1:=coQ KR 1;simp at r0 r1;have BR:=(A5.set (p:=⟨w.heap.size,0,none⟩) zM (.int .i64 cd)).set (p:=⟨w.heap.size,1,none⟩) zM (.int .i64 (-1));have HE:=zE (show LkAt ((w5.setCell ⟨w.heap.size,0,none⟩ (.int .i64 cd)).setCell ⟨w.heap.size,1,none⟩ (.int .i64 (-1))) b x/\Md ((w5.setCell ⟨w.heap.size,0,none⟩ (.int .i64 cd)).setCell ⟨w.heap.size,1,none⟩ (.int .i64 (-1))) x.g m2 from ⟨zP (zP H5.out.1 (by show w.heap.size≠b;omega) _) (by show w.heap.size≠b;omega) _,zP (zP H5.out.2 (by show w.heap.size≠x.g;omega) _) (by show w.heap.size≠x.g;omega) _⟩);clear KR;go_wp2;exact bodyPost_ret (v:=.agg #[.int .i64 cd,.int .i64 (-1)]) (by simp [results,Tryz.results86,go_sem,r0,r1]) rfl ⟨by rw [HZ.out];unfold Sk.atS;rw [if_neg HN0.out],HE.out.1,by rw [HZ.out];exact HE.out.2,BR⟩
end Go.Proofs.YtegakbobaecdlaaGreatDoor
