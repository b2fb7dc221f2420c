import Derived.Test.YtfhghlpfeeiaeaaGreatDoorX11
import Derived.Deep.Cut
import Derived.Deep.LoopGhost
import Derived.IntWalk
import Derived.Laws.Cover1
import Derived.Lib.Hide
import Derived.WalkKit
import Derived.WalkSpells
set_option linter.unusedVariables false
set_option linter.unusedSimpArgs false
set_option maxHeartbeats 64000000
set_option maxRecDepth 100000
namespace Go.Proofs.YtfhghlpfeeiaeaaGreatDoor
open Go.RowKit Go.IntWalk
namespace Sk
def firstI (f:Int->Int):List Int->Int
 | []=>0
 | x :: r=>if f x≠0 then f x else firstI f r
def atS (c:Int):Int × Int:=if c=0 then (0,0) else (c,-1)
end Sk
theorem zAP {ok:Nat->Prop} {w:World} {b:Nat} {x:LkV} {v:Value} {l:List Int} (hk:LkAt w b x) (hl:HInts ok w v l) :
  Calls Tryz.prog 45 #[v,.func (.func 49) #[.pointer (some ⟨b,0,none⟩)] #[],.func (.func 47) #[] #[]] w fun r w'=>r=.returned (.agg #[.int .i64 (Sk.atS (Sk.firstI (Sk.codeNum x.nV) l)).1,.int .i64 (Sk.atS (Sk.firstI (Sk.codeNum x.nV) l)).2])/\Below w.heap.size w w':=by
 obtain ⟨ao,cap,rfl,bH,cG,_⟩:=hl.at;unfold maxLen at cG;have lK:Hid (∀ (i:Nat) (hi:i<l.length) V,Below w.heap.size w V->Calls Tryz.prog 49 #[.pointer (some ⟨b,0,none⟩),.int .i64 l[i]] V fun r w'=>r=.returned (.int .i64 ((Sk.codeNum x.nV) l[i]))/\Below V.heap.size V w'):=zBK (fun i hi V bV=>zAE (hk.under bV) l[i]);obtain ⟨f,hf⟩:∃ f:Int->Int,f=(Sk.codeNum x.nV):=⟨_,rfl⟩;rw [<-hf] at lK ⊢;clear hf;obtain ⟨R,hR⟩:=nmQ (Sk.firstI f l);rw [<-hR];have HR:=zBK (show R=Sk.firstI f (l.drop 0) by rw [List.drop_zero];exact hR);clear hR;have b0:Below w.heap.size w (w.alloc (.cells #[.int .i64 0,.int .i64 0] 32 (0,0))):=(Below.refl _ _).alloc zBR _;have k0:=zBO w (.cells #[.int .i64 0,.int .i64 0] 32 (0,0));have HL:=zBK hl;clear hl;obtain ⟨n,hn⟩:=nmQ (l.length);rw [<-hn] at bH ⊢;have HN:=zBK hn;clear hn;go_enter Tryz.func45,Tryz.ntmps45;go_upto_region 1 with fail;generalize w.alloc (.cells #[.int .i64 0,.int .i64 0] 32 (0,0))=w0 at b0 k0 ⊢;go_wp2_with fail;go_loopg [12] n (fun k v wr=>∃ i,i<=n/\k=n-i/\v=.int .i64 (i:Nat)/\Hid (R=Sk.firstI f (l.drop i))/\Below w.heap.size w wr/\wr.heap[w.heap.size]?=some (.cells #[.int .i64 0,.int .i64 0] 32 (0,0)))
 case atStart=>exact ⟨0,Nat.zero_le _,rfl,rfl,HR,b0,k0⟩
 case round=>
  clear b0 k0 HR;obtain ⟨i,hi,rfl,rfl,H,aH,kr⟩:=hrel;by_cases bd:i<n
  case neg=>
   have bp:i=n:=(by omega);subst bp;have e1:l.drop i=[]:=List.drop_of_length_le (by have:=HN.out;omega);have HZ:=zBK (show R=0 by rw [H.out,e1];rfl);clear e1;have cJ:=coQ kr 0;have cW:=coQ kr 1;have eO:=foQ kr 0;have fl:=foQ kr 1;simp at cJ cW;have KR:=zBQ (zBQ kr 0 (.int .i64 0)) 1 (.int .i64 0);have r0:=coQ KR 0;have r1:=coQ KR 1;simp at r0 r1;have BR:=(aH.setCell (p:=⟨w.heap.size,0,none⟩) zBR (.int .i64 0)).setCell (p:=⟨w.heap.size,1,none⟩) zBR (.int .i64 0);clear KR;go_wp2;exact bodyPost_ret (v:=.agg #[.int .i64 0,.int .i64 0]) (by simp [results,Tryz.results45,go_sem,r0,r1]) rfl ⟨by rw [HZ.out];rfl,BR⟩
  case pos=>
   have dj:i<l.length:=(by have:=HN.out;omega);have hdr:l.drop i=l[i] :: l.drop (i+1):=List.drop_eq_getElem_cons dj;have bY:=H.out;rw [hdr] at bY;obtain ⟨gw,dk,eqs,_,_,bg⟩:=(HL.out.under aH).at;injection eqs with q1 q2 q3;subst q1;obtain ⟨bb,o,rfl,hb,e0⟩:=bg i dj;have hc:=lK.out i dj wr aH;obtain ⟨y,hy⟩:=nmQ (l[i]);rw [<-hy] at e0 bY hc;unfold Sk.firstI at bY;generalize f y=cd at hc bY;have cq:=zBK bY;clear bg q2 q3 hy hdr bY H;go_wp2_with fail;refine hc.mono ?_;rintro e w4 ⟨rfl,b4⟩;have B4:=aH.trans (b4.mono aH.size);have k4:=(b4.block _ (zBM kr)).trans kr;clear hc;by_cases hz:cd=0
   case pos=>
    have dZ:(cd != 0)=false:=(by simp [hz]);have HZ:Hid (R=Sk.firstI f (l.drop (i+1))):=zBK (by rw [cq.out,if_neg (by simp [hz])]);clear cq hz;go_wp2_with fail;go_roundg (n-(i+1))
    case measure=>omega
    case rel=>exact ⟨i+1,by omega,rfl,by go_num,HZ,B4,k4⟩
   case neg=>
    have dZ:(cd != 0)=true:=(by simp [hz]);have HZ:Hid (R=cd):=zBK (by rw [cq.out,if_pos hz]);have Al:=zBK hz;clear cq hz;go_wp2_with fail;refine (zCT i w4).mono ?_;rintro e w5 ⟨rfl,b5⟩;have B5:=B4.trans (b5.mono B4.size);have k5:=(b5.block _ (zBM k4)).trans k4;have cJ:=coQ k5 0;have cW:=coQ k5 1;have eO:=foQ k5 0;have fl:=foQ k5 1;simp at cJ cW;have KR:=zBQ (zBQ k5 0 (.int .i64 cd)) 1 (.int .i64 (-1));have r0:=coQ KR 0;have r1:=coQ KR 1;simp at r0 r1;have BR:=(B5.setCell (p:=⟨w.heap.size,0,none⟩) zBR (.int .i64 cd)).setCell (p:=⟨w.heap.size,1,none⟩) zBR (.int .i64 (-1));clear KR;go_wp2;exact bodyPost_ret (v:=.agg #[.int .i64 cd,.int .i64 (-1)]) (by simp [results,Tryz.results45,go_sem,r0,r1]) rfl ⟨by rw [HZ.out];unfold Sk.atS;rw [if_neg Al.out],BR⟩
theorem zAQ {ok:Nat->Prop} {w:World} {b:Nat} {x:LkV} {v:Value} {l:List Int} {m:List Bool} (hk:LkAt w b x) (hm:Md w x.g m) (hn:x.nV=m.length) (hmx:m.length<=1000000) (bp:∀ z ∈ l,0<=z/\z<m.length) (hl:HInts ok w v l) :
  Calls Tryz.prog 45 #[v,.func (.func 57) #[.pointer (some ⟨b,0,none⟩)] #[],.func (.func 47) #[] #[]] w fun r w'=>r=.returned (.agg #[.int .i64 (Sk.atS (Sk.firstI (fun z=>Sk.unmade m z.toNat) l)).1,.int .i64 (Sk.atS (Sk.firstI (fun z=>Sk.unmade m z.toNat) l)).2])/\Below w.heap.size w w':=by
 obtain ⟨ao,cap,rfl,bH,cG,_⟩:=hl.at;unfold maxLen at cG;have lK:Hid (∀ (i:Nat) (hi:i<l.length) V,Below w.heap.size w V->Calls Tryz.prog 57 #[.pointer (some ⟨b,0,none⟩),.int .i64 l[i]] V fun r w'=>r=.returned (.int .i64 ((fun z=>Sk.unmade m z.toNat) l[i]))/\Below V.heap.size V w'):=zBK (fun i hi V bV=>by
  have hz:=bp l[i] (List.getElem_mem hi);have hc:=zCO (hk.under bV) (hm.under bV) hn l[i].toNat (by omega) hmx;rw [Int.toNat_of_nonneg hz.1] at hc;exact hc)
 obtain ⟨f,hf⟩:∃ f:Int->Int,f=(fun z=>Sk.unmade m z.toNat):=⟨_,rfl⟩;rw [<-hf] at lK ⊢;clear hf;obtain ⟨R,hR⟩:=nmQ (Sk.firstI f l);rw [<-hR];have HR:=zBK (show R=Sk.firstI f (l.drop 0) by rw [List.drop_zero];exact hR);clear hR;have b0:Below w.heap.size w (w.alloc (.cells #[.int .i64 0,.int .i64 0] 32 (0,0))):=(Below.refl _ _).alloc zBR _;have k0:=zBO w (.cells #[.int .i64 0,.int .i64 0] 32 (0,0));have HL:=zBK hl;clear hl;obtain ⟨n,hn⟩:=nmQ (l.length);rw [<-hn] at bH ⊢;have HN:=zBK hn;clear hn;go_enter Tryz.func45,Tryz.ntmps45;go_upto_region 1 with fail;generalize w.alloc (.cells #[.int .i64 0,.int .i64 0] 32 (0,0))=w0 at b0 k0 ⊢;go_wp2_with fail;go_loopg [12] n (fun k v wr=>∃ i,i<=n/\k=n-i/\v=.int .i64 (i:Nat)/\Hid (R=Sk.firstI f (l.drop i))/\Below w.heap.size w wr/\wr.heap[w.heap.size]?=some (.cells #[.int .i64 0,.int .i64 0] 32 (0,0)))
 case atStart=>exact ⟨0,Nat.zero_le _,rfl,rfl,HR,b0,k0⟩
 case round=>
  clear b0 k0 HR;obtain ⟨i,hi,rfl,rfl,H,aH,kr⟩:=hrel;by_cases bd:i<n
  case neg=>
   have bp:i=n:=(by omega);subst bp;have e1:l.drop i=[]:=List.drop_of_length_le (by have:=HN.out;omega);have HZ:=zBK (show R=0 by rw [H.out,e1];rfl);clear e1;have cJ:=coQ kr 0;have cW:=coQ kr 1;have eO:=foQ kr 0;have fl:=foQ kr 1;simp at cJ cW;have KR:=zBQ (zBQ kr 0 (.int .i64 0)) 1 (.int .i64 0);have r0:=coQ KR 0;have r1:=coQ KR 1;simp at r0 r1;have BR:=(aH.setCell (p:=⟨w.heap.size,0,none⟩) zBR (.int .i64 0)).setCell (p:=⟨w.heap.size,1,none⟩) zBR (.int .i64 0);clear KR;go_wp2;exact bodyPost_ret (v:=.agg #[.int .i64 0,.int .i64 0]) (by simp [results,Tryz.results45,go_sem,r0,r1]) rfl ⟨by rw [HZ.out];rfl,BR⟩
  case pos=>
   have dj:i<l.length:=(by have:=HN.out;omega);have hdr:l.drop i=l[i] :: l.drop (i+1):=List.drop_eq_getElem_cons dj;have bY:=H.out;rw [hdr] at bY;obtain ⟨gw,dk,eqs,_,_,bg⟩:=(HL.out.under aH).at;injection eqs with q1 q2 q3;subst q1;obtain ⟨bb,o,rfl,hb,e0⟩:=bg i dj;have hc:=lK.out i dj wr aH;obtain ⟨y,hy⟩:=nmQ (l[i]);rw [<-hy] at e0 bY hc;unfold Sk.firstI at bY;generalize f y=cd at hc bY;have cq:=zBK bY;clear bg q2 q3 hy hdr bY H;go_wp2_with fail;refine hc.mono ?_;rintro e w4 ⟨rfl,b4⟩;have B4:=aH.trans (b4.mono aH.size);have k4:=(b4.block _ (zBM kr)).trans kr;clear hc;by_cases hz:cd=0
   case pos=>
    have dZ:(cd != 0)=false:=(by simp [hz]);have HZ:Hid (R=Sk.firstI f (l.drop (i+1))):=zBK (by rw [cq.out,if_neg (by simp [hz])]);clear cq hz;go_wp2_with fail;go_roundg (n-(i+1))
    case measure=>omega
    case rel=>exact ⟨i+1,by omega,rfl,by go_num,HZ,B4,k4⟩
   case neg=>
    have dZ:(cd != 0)=true:=(by simp [hz]);have HZ:Hid (R=cd):=zBK (by rw [cq.out,if_pos hz]);have Al:=zBK hz;clear cq hz;go_wp2_with fail;refine (zCT i w4).mono ?_;rintro e w5 ⟨rfl,b5⟩;have B5:=B4.trans (b5.mono B4.size);have k5:=(b5.block _ (zBM k4)).trans k4;have cJ:=coQ k5 0;have cW:=coQ k5 1;have eO:=foQ k5 0;have fl:=foQ k5 1;simp at cJ cW;have KR:=zBQ (zBQ k5 0 (.int .i64 cd)) 1 (.int .i64 (-1));have r0:=coQ KR 0;have r1:=coQ KR 1;simp at r0 r1;have BR:=(B5.setCell (p:=⟨w.heap.size,0,none⟩) zBR (.int .i64 cd)).setCell (p:=⟨w.heap.size,1,none⟩) zBR (.int .i64 (-1));clear KR;go_wp2;exact bodyPost_ret (v:=.agg #[.int .i64 cd,.int .i64 (-1)]) (by simp [results,Tryz.results45,go_sem,r0,r1]) rfl ⟨by rw [HZ.out];unfold Sk.atS;rw [if_neg Al.out],BR⟩
end Go.Proofs.YtfhghlpfeeiaeaaGreatDoor
namespace Go.Proofs.YtfhghlpfeeiaeaaGreatDoor
open Go.RowKit Go.IntWalk
namespace Sk
def givenL:List Bool->List Int->Int × List Bool
 | m,[]=>(0,m)
 | m,x :: r=>if (given m x).1≠0 then given m x else givenL (given m x).2 r
theorem given_len (m:List Bool) (x:Int):(given m x).2.length=m.length:=by
 unfold given
 split
 ·rfl
 ·split
  ·rfl
  ·simp
end Sk
theorem zAR {ok:Nat->Prop} {w:World} {b:Nat} {x:LkV} {v:Value} {l:List Int} {m0:List Bool} (hk:LkAt w b x) (hm:Md w x.g m0) (hn:x.nV=m0.length) (gx:b≠x.g) (hl:HInts ok w v l) (Cn:¬ok x.g) :
  Calls Tryz.prog 45 #[v,.func (.func 46) #[.pointer (some ⟨b,0,none⟩)] #[],.func (.func 47) #[] #[]] w fun r w'=>r=.returned (.agg #[.int .i64 (Sk.atS (Sk.givenL m0 l).1).1,.int .i64 (Sk.atS (Sk.givenL m0 l).1).2])/\LkAt w' b x/\Md w' x.g (Sk.givenL m0 l).2/\Aside [x.g] w.heap.size w w':=by
 obtain ⟨ao,cap,rfl,bH,cG,_⟩:=hl.at;unfold maxLen at cG;obtain ⟨R,hR⟩:=nmQ (Sk.givenL m0 l);rw [<-hR];have HR:=zBK (show R=Sk.givenL m0 (l.drop 0) by rw [List.drop_zero];exact hR);clear hR;have yb:b<w.heap.size:=zBM hk;have yg:x.g<w.heap.size:=zBM hm;have A0:Aside [x.g] w.heap.size w (w.alloc (.cells #[.int .i64 0,.int .i64 0] 32 (0,0))):=(Aside.refl (S:=[x.g]) (B:=w.heap.size) w).alloc zBR _;have b0:Below w.heap.size w (w.alloc (.cells #[.int .i64 0,.int .i64 0] 32 (0,0))):=(Below.refl _ _).alloc zBR _;have k0:=zBO w (.cells #[.int .i64 0,.int .i64 0] 32 (0,0));have H0:=zBK (show LkAt (w.alloc (.cells #[.int .i64 0,.int .i64 0] 32 (0,0))) b x/\Md (w.alloc (.cells #[.int .i64 0,.int .i64 0] 32 (0,0))) x.g m0 from ⟨hk.under b0,hm.under b0⟩);have HL:=zBK hl;have Fp:=zBK Cn;have zN:=zBK gx;have rX:=zBK hn;clear hl hk hm Cn gx hn b0;obtain ⟨n,hn⟩:=nmQ (l.length);rw [<-hn] at bH ⊢;have HN:=zBK hn;clear hn;go_enter Tryz.func45,Tryz.ntmps45;go_upto_region 1 with fail;generalize w.alloc (.cells #[.int .i64 0,.int .i64 0] 32 (0,0))=w0 at A0 k0 H0 ⊢;go_wp2_with fail;go_loopg [12] n (fun k v wr=>∃ (i:Nat) (m:List Bool),i<=n/\k=n-i/\v=.int .i64 (i:Nat)/\Hid (R=Sk.givenL m (l.drop i))/\Hid (m.length=m0.length)/\Aside [x.g] w.heap.size w wr/\Hid (LkAt wr b x/\Md wr x.g m)/\wr.heap[w.heap.size]?=some (.cells #[.int .i64 0,.int .i64 0] 32 (0,0)))
 case atStart=>exact ⟨0,m0,Nat.zero_le _,rfl,rfl,HR,zBK rfl,A0,H0,k0⟩
 case round=>
  clear A0 k0 HR H0;obtain ⟨i,m,hi,rfl,rfl,H,fQ,aH,HI,kr⟩:=hrel;have zr:=aH.size;by_cases bd:i<n
  case neg=>
   have bp:i=n:=(by omega);subst bp;have e1:l.drop i=[]:=List.drop_of_length_le (by have:=HN.out;omega);have HZ:=zBK (show R=(0,m) by rw [H.out,e1];rfl);clear e1;have cJ:=coQ kr 0;have cW:=coQ kr 1;have eO:=foQ kr 0;have fl:=foQ kr 1;simp at cJ cW;have KR:=zBQ (zBQ kr 0 (.int .i64 0)) 1 (.int .i64 0);have r0:=coQ KR 0;have r1:=coQ KR 1;simp at r0 r1;have BR:=(aH.set (p:=⟨w.heap.size,0,none⟩) zBR (.int .i64 0)).set (p:=⟨w.heap.size,1,none⟩) zBR (.int .i64 0);have HE:=zBK (show LkAt ((wr.setCell ⟨w.heap.size,0,none⟩ (.int .i64 0)).setCell ⟨w.heap.size,1,none⟩ (.int .i64 0)) b x/\Md ((wr.setCell ⟨w.heap.size,0,none⟩ (.int .i64 0)).setCell ⟨w.heap.size,1,none⟩ (.int .i64 0)) x.g m from ⟨zBT (zBT HI.out.1 (by show w.heap.size≠b;omega) _) (by show w.heap.size≠b;omega) _,zBT (zBT HI.out.2 (by show w.heap.size≠x.g;omega) _) (by show w.heap.size≠x.g;omega) _⟩);clear KR;go_wp2;exact bodyPost_ret (v:=.agg #[.int .i64 0,.int .i64 0]) (by simp [results,Tryz.results45,go_sem,r0,r1]) rfl ⟨by rw [HZ.out];rfl,HE.out.1,by rw [HZ.out];exact HE.out.2,BR⟩
  case pos=>
   have dj:i<l.length:=(by have:=HN.out;omega);have hdr:l.drop i=l[i] :: l.drop (i+1):=List.drop_eq_getElem_cons dj;have bY:=H.out;rw [hdr] at bY;obtain ⟨gw,dk,eqs,_,_,bg⟩:=(HL.out.keep zr (fun j hj BO=>aH.block j BO (by simp;intro e;exact Fp.out (e ▸ hj)))).at;injection eqs with q1 q2 q3;subst q1;obtain ⟨bb,o,rfl,hb,e0⟩:=bg i dj;obtain ⟨y,hy⟩:=nmQ (l[i]);rw [<-hy] at e0 bY;have hc:=zAU HI.out.1 HI.out.2 (by rw [rX.out,fQ.out]) zN.out y;unfold Sk.givenL at bY;have hlen:=Sk.given_len m y;generalize Sk.given m y=G at hc bY hlen;obtain ⟨cd,m2⟩:=G
   dsimp only at hc bY hlen
   have cq:=zBK bY;have vu:=zBK (show m2.length=m0.length by rw [hlen];exact fQ.out);clear bg q2 q3 hy hdr bY H hlen;go_wp2_with fail;refine hc.mono ?_;rintro e w4 ⟨rfl,l4,m4,a4⟩;have A4:=aH.trans a4 zr;have z4:=a4.size;have k4:=a4.keep kr (zBM kr) (by simp;omega);have H4:=zBK (show LkAt w4 b x/\Md w4 x.g m2 from ⟨l4,m4⟩);clear hc l4 m4;by_cases hz:cd=0
   case pos=>
    have dZ:(cd != 0)=false:=(by simp [hz]);have HZ:Hid (R=Sk.givenL m2 (l.drop (i+1))):=zBK (by rw [cq.out,if_neg (by simp [hz])]);clear cq hz;go_wp2_with fail;go_roundg (n-(i+1))
    case measure=>omega
    case rel=>exact ⟨i+1,m2,by omega,rfl,by go_num,HZ,vu,A4,H4,k4⟩
   case neg=>
    have dZ:(cd != 0)=true:=(by simp [hz]);have HZ:Hid (R=(cd,m2)):=zBK (by rw [cq.out,if_pos hz]);have Al:=zBK hz;clear cq hz;go_wp2_with fail;refine (zCT i w4).mono ?_;rintro e w5 ⟨rfl,b5⟩;have A5:=A4.trans (aside b5) (Nat.le_trans zr z4);have z5:=b5.size;have k5:=(b5.block _ (zBM k4)).trans k4;have H5:=zBK (show LkAt w5 b x/\Md w5 x.g m2 from ⟨H4.out.1.under b5,H4.out.2.under b5⟩);have cJ:=coQ k5 0;have cW:=coQ k5 1;have eO:=foQ k5 0;have fl:=foQ k5 1;simp at cJ cW;have KR:=zBQ (zBQ k5 0 (.int .i64 cd)) 1 (.int .i64 (-1));have r0:=coQ KR 0;have r1:=coQ KR 1;simp at r0 r1;have BR:=(A5.set (p:=⟨w.heap.size,0,none⟩) zBR (.int .i64 cd)).set (p:=⟨w.heap.size,1,none⟩) zBR (.int .i64 (-1));have HE:=zBK (show LkAt ((w5.setCell ⟨w.heap.size,0,none⟩ (.int .i64 cd)).setCell ⟨w.heap.size,1,none⟩ (.int .i64 (-1))) b x/\Md ((w5.setCell ⟨w.heap.size,0,none⟩ (.int .i64 cd)).setCell ⟨w.heap.size,1,none⟩ (.int .i64 (-1))) x.g m2 from ⟨zBT (zBT H5.out.1 (by show w.heap.size≠b;omega) _) (by show w.heap.size≠b;omega) _,zBT (zBT H5.out.2 (by show w.heap.size≠x.g;omega) _) (by show w.heap.size≠x.g;omega) _⟩);clear KR;go_wp2;exact bodyPost_ret (v:=.agg #[.int .i64 cd,.int .i64 (-1)]) (by simp [results,Tryz.results45,go_sem,r0,r1]) rfl ⟨by rw [HZ.out];unfold Sk.atS;rw [if_neg Al.out],HE.out.1,by rw [HZ.out];exact HE.out.2,BR⟩
end Go.Proofs.YtfhghlpfeeiaeaaGreatDoor
