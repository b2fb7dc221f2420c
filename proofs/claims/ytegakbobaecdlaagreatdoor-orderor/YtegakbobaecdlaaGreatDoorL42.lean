import Derived.Test.YtegakbobaecdlaaGreatDoorL41
import Derived.Test.YtegakbobaecdlaaGreatDoorL37
set_option linter.unusedVariables false
set_option linter.unusedSimpArgs false
set_option maxHeartbeats 64000000
set_option maxRecDepth 100000
namespace Go.Proofs.YtegakbobaecdlaaGreatDoor
open Go.RowKit Go.IntWalk
theorem flat_ext {D:Nat->List Value} {l:List Int} (h:∀ j (hj:j<l.length),D j=[.int .u8 l[j]]):flat D l.length=l.map (fun x=>Value.int .u8 x):=by
 have hl:∀ i,i<l.length->(D i).length=1:=fun i hi=>by rw [h i hi];rfl
 apply List.ext_getElem?
 intro i;by_cases hi:i<l.length
 ·have:=vW (C:=D) (k:=1) l.length hl i 0 hi (by decide)
  rw [Nat.mul_one,Nat.add_zero] at this;rw [this,h i hi];simp [hi]
 ·rw [List.getElem?_eq_none (by rw [zAu (k:=1) l.length hl];omega),List.getElem?_eq_none (by rw [List.length_map];omega)]
theorem jC {B:Nat} {w:World} {a:Option Addr} {n c:Nat} {l:List Int} (h:OwnL kByte B w (.slice a n c) l) (h0:0<l.length):∃ g cur,a=some ⟨g,0,none⟩/\B<=g/\w.heap[g]?=some (.cells cur 5 (0,0))/\(∀ i (hi:i<l.length),cur[i]?=some (.int .u8 l[i]))/\∀ m (hm:m<l.length) x,OwnL kByte B (w.setCell ⟨g,m,none⟩ (.int .u8 x)) (.slice a n c) (l.set m x):=by
 obtain ⟨D,⟨h1,h2⟩,h3⟩:=h;have hD:∀ j (hj:j<l.length),D j=[.int .u8 l[j]]:=fun j hj=>h3 j hj;have hf:=flat_ext hD;rcases h2 with ⟨e1,e2⟩ | ⟨g,cap,cur,e1,e2,e3,e4,e5,e6,e7⟩
 ·exact absurd e2 (by omega)
 injection e1 with q1 q2 q3;subst q1 q2 q3;have k1:kByte.k=1:=rfl;rw [k1,Nat.mul_one,hf] at e7;have hc:∀ i (hi:i<l.length),cur[i]?=some (.int .u8 l[i]):=fun i hi=>by
  rw [<-Array.getElem?_toList];have:(cur.toList.take l.length)[i]?=cur.toList[i]?:=List.getElem?_take_of_lt hi;rw [<-this,e7];simp [hi]
 refine ⟨g,cur,rfl,e2,e3,hc,fun m hm x=>⟨fun j=>[.int .u8 ((l.set m x).getD j 0)],⟨?_,.inr ⟨g,c,cur.setIfInBounds m (.int .u8 x),?_,e2,zJ e3 m _,?_,e5,?_,?_⟩⟩,fun j hj=>?_⟩⟩
 ·rw [zAu (k:=1) _ (fun _ _=>rfl)];rfl
 ·rw [List.length_set]
 ·rw [List.length_set];exact e4
 ·rw [Array.size_setIfInBounds];exact e6
 ·have hg:flat (fun j=>[Value.int .u8 ((l.set m x).getD j 0)]) (l.set m x).length=(l.set m x).map (fun x=>Value.int .u8 x):=flat_ext fun j hj=>by simp only [List.getD_eq_getElem?_getD,List.getElem?_eq_getElem hj];rfl
  rw [hg,k1,Nat.mul_one,List.length_set,Array.toList_setIfInBounds,List.take_set,e7,List.map_set]
 ·show [Value.int .u8 ((l.set m x).getD j 0)]=[.int .u8 (l.set m x)[j]]
  simp only [List.getD_eq_getElem?_getD,List.getElem?_eq_getElem hj];rfl
theorem set_last {l:List Int} {m:Nat} (h:l.length=m+1) (x:Int):l.set m x=l.take m++[x]:=by
 have hm:m<l.length:=(by omega);have e:(l.set m x).length=m+1:=(by rw [List.length_set];exact h);have e2:=Sk.last1 e (by omega);rw [e2];simp only [List.take_set,List.getElem_set_self];rw [List.set_eq_of_length_le (by rw [List.length_take];omega)]
theorem tree48_any {ok okE:Nat->Prop} {w:World} {aV aI aO aR:Option Addr} {cV cI cO cR:Nat} {S:Sk.Sys} (hV:HVars ok w (.slice aV S.V.length cV) S.V) (hVr:∀ v ∈ S.V,Sk.VrOk v) {aE:Option Addr} {nE cE:Nat} {E:List Pu} (hE:HPu okE w (.slice aE nE cE) E) (hEl:E.length<=24) (hin:∀ p ∈ E,nmd p=true->0<=p.v/\p.v<S.V.length) (n:Int) (hn:1<=n/\n<=300) :
  Calls Tryz.prog 48 #[.agg #[.slice aV S.V.length cV,.slice aI S.I.length cI,.slice aO S.O.length cO,.slice aR S.R.length cR],.slice aE nE cE,.int .i64 n] w fun e w'=>∃ R:Int,e=.returned (.int .u8 R)/\(R≠0->Sk.treeL S.V n [] E=R)/\Below w.heap.size w w':=by
 obtain ⟨ao,cap,ev,hc1,hc2,-⟩:=hE.at;injection ev with q1 q2 q3;subst q1 q2 q3;unfold maxLen at hc2;obtain ⟨TR,hTR⟩:=nmQ (Sk.treeL S.V n [] E);rw [<-hTR];have HR:=zE (show TR=Sk.treeL S.V n [] (E.drop 0) by rw [List.drop_zero];exact hTR);obtain ⟨ne,hne⟩:=nmQ (E.length);rw [<-hne] at hc1 hEl hE ⊢;have b1:Below w.heap.size w (w.alloc (.cells #[.slice aV S.V.length cV,.slice aI S.I.length cI,.slice aO S.O.length cO,.slice aR S.R.length cR] 26 (0,0))):=(Below.refl _ _).alloc zM _;have kS:=zI w (.cells #[.slice aV S.V.length cV,.slice aI S.I.length cI,.slice aO S.O.length cO,.slice aR S.R.length cR] 26 (0,0));have HE:=zE (hE.under b1);have HV:=zE (hV.under b1);have HVR:=zE hVr;have HIN:=zE hin;have HN:=zE hne;have hn1:=hn.1;have hn2:=hn.2;clear hTR hE hV hVr hin hne hn;go_enter Tryz.func48,Tryz.ntmps48;go_upto_region 1 with fail;generalize w.alloc (.cells #[.slice aV S.V.length cV,.slice aI S.I.length cI,.slice aO S.O.length cO,.slice aR S.R.length cR] 26 (0,0))=w1 at b1 kS HE HV ⊢;have yS1:=zG kS;go_wp2_with fail;go_loopg [7,8] ne (fun kk sv iv wr=>∃ (i:Nat) (st:List Int),i<=ne/\kk=ne-i/\iv=.int .i64 (i:Nat)/\Hid (TR=Sk.treeL S.V n st (E.drop i))/\Hid (Sk.Els st)/\Hid (st.length<=i)/\Hid (OwnL kByte w1.heap.size wr sv st)/\Below w1.heap.size w1 wr)
 case atStart=>exact ⟨0,[],Nat.zero_le _,rfl,rfl,HR,zE (fun x hx=>by cases hx),zE (Nat.zero_le _),zE OwnL.nil,Below.refl _ _⟩
 case round=>
  clear HR;obtain ⟨i,st,hi,rfl,rfl,HT,HEL,HSL,HOW,hbr⟩:=hrel;obtain ⟨sa,sc,rfl,hs1,hs2⟩:=HOW.out.form;unfold maxLen at hs2;by_cases hlt:i<ne
  case neg=>
   have hin:i=ne:=(by omega);subst hin;have e1:E.drop i=[]:=List.drop_of_length_le (by have:=HN.out;omega);have hZ:=HT.out;rw [e1] at hZ;unfold Sk.treeL at hZ;have HZ:=zE hZ;clear hZ e1 HT;by_cases hl:st.length=1
   case pos=>
    obtain ⟨y,rfl⟩:∃ y,st=[y]:=List.length_eq_one_iff.1 hl;obtain ⟨ao2,cap2,ev2,_,_,hat⟩:=(by_row HOW.out.row).at;obtain ⟨bs,os,ea,hbs,hcell⟩:=hat 0 (by simp);injection ev2 with q1 q2 q3;subst q1 q3;subst ea;simp at hcell;have HZ2:=zE (show TR=y by rw [HZ.out];rfl);clear HZ hat HOW q2 hl;go_wp2;go_ret;exact ⟨y,rfl,fun _=>HZ2.out,b1.trans (hbr.mono b1.size)⟩
   case neg=>
    have e2:((st.length:Int) != 1)=true:=(by simp;omega);clear HZ;generalize st.length=sl at *;go_wp2;go_ret;exact ⟨0,rfl,fun h=>absurd rfl h,b1.trans (hbr.mono b1.size)⟩
  case pos=>
   have hil:i<E.length:=(by have:=HN.out;omega);have hdr:E.drop i=E[i] :: E.drop (i+1):=List.drop_eq_getElem_cons hil;have hR1:=HT.out;rw [hdr] at hR1;obtain ⟨ao',cap',eqs,-,-,hat2⟩:=(HE.out.under hbr).at;injection eqs with q1 q2 q3;subst q1;obtain ⟨bb,o,rfl,hb,e0,e1,e2,e3⟩:=hat2 i hil;have hiny:=HIN.out E[i] (List.getElem_mem hil);obtain ⟨y,hy⟩:=nmQ (E[i]);rw [<-hy] at e0 e1 e2 e3 hR1 hiny;clear hy;obtain ⟨op,k,v,x⟩:=y
   dsimp only at e0 e1 e2 e3 hiny
   have bA:Below wr.heap.size wr (wr.alloc (.cells #[.int .i64 op,.int .i64 k,.int .i64 v,.int .i64 x] 79 (0,0))):=(Below.refl _ _).alloc zM _;have BA:=hbr.trans (bA.mono hbr.size);have kV:=zI wr (.cells #[.int .i64 op,.int .i64 k,.int .i64 v,.int .i64 x] 79 (0,0));have HO1:=zE (HOW.out.below bA);have HR1:=zE hR1;have HIY:=zE hiny;clear hat2 q2 q3 hdr hR1 HT HOW hiny;go_upto_region 6 with fail;generalize wr.alloc (.cells #[.int .i64 op,.int .i64 k,.int .i64 v,.int .i64 x] 79 (0,0))=wa at bA BA kV HO1 ⊢;clear e0 e1 e2 e3;have v0:=coQ kV 0;have v1:=coQ kV 1;have v2:=coQ kV 2;have v3:=coQ kV 3;simp at v0 v1 v2 v3;have kSa:=(BA.block _ yS1).trans kS;have s0:=coQ kSa 0;simp at s0;have zA:=BA.size;have yA:=zG kV;clear bA;by_cases h1:op=1
   case pos=>
    as_aux_lemma=>
    subst h1;by_cases hk0:k=0
    case pos=>
     subst hk0;have q2:((st).length+1)*1<=140737488355328:=(by have:=HSL.out;omega);have q3:(st).length+1<=maxLen:=(by unfold maxLen;have:=HSL.out;omega);have HNb:=zE (fun k (hk:(Value.slice sa st.length sc).ownBlock=some k)=>(HO1.out.lt k hk).2);have HT2:=zE (HR1.out.trans (Sk.t_num0 v x));have HEL2:=zE (HEL.out.push (.inl rfl));have HSL2:=zE (show (st++[105]).length<=i+1 by rw [List.length_append,List.length_singleton];have:=HSL.out;omega)
     go_wp2_with (at_builtin;refine zQ kByte rfl _ _ 104 5 rfl Tryz.underlying104 w1.heap.size wa.heap.size _ (st) (by rfl) HO1.out [.int .u8 105] 105 rfl (by rfl) HNb.out zA zA q2 q3 ?_;intro v8 w8 own8 b8 _ _;have HO8:=zE own8;clear own8 HO1 HNb q2 q3)
     have B8:=BA.trans b8;go_roundg (ne-(i+1))
     case measure=>omega
     case rel=>exact ⟨i+1,_,by omega,rfl,by go_num,HT2,HEL2,HSL2,HO8,B8⟩
    case neg=>
     by_cases hk1:k=1
     case pos=>
      subst hk1;by_cases hx0:x=0
      case pos=>
       subst hx0;have q2:((st).length+1)*1<=140737488355328:=(by have:=HSL.out;omega);have q3:(st).length+1<=maxLen:=(by unfold maxLen;have:=HSL.out;omega);have HNb:=zE (fun k (hk:(Value.slice sa st.length sc).ownBlock=some k)=>(HO1.out.lt k hk).2);have HT2:=zE (HR1.out.trans (Sk.t_num1 v (.inl rfl)));have HEL2:=zE (HEL.out.push (.inr rfl));have HSL2:=zE (show (st++[98]).length<=i+1 by rw [List.length_append,List.length_singleton];have:=HSL.out;omega)
       go_wp2_with (at_builtin;refine zQ kByte rfl _ _ 104 5 rfl Tryz.underlying104 w1.heap.size wa.heap.size _ (st) (by rfl) HO1.out [.int .u8 98] 98 rfl (by rfl) HNb.out zA zA q2 q3 ?_;intro v8 w8 own8 b8 _ _;have HO8:=zE own8;clear own8 HO1 HNb q2 q3)
       have B8:=BA.trans b8;go_roundg (ne-(i+1))
       case measure=>omega
       case rel=>exact ⟨i+1,_,by omega,rfl,by go_num,HT2,HEL2,HSL2,HO8,B8⟩
      case neg=>
       by_cases hx1:x=1
       case pos=>
        subst hx1;have q2:((st).length+1)*1<=140737488355328:=(by have:=HSL.out;omega);have q3:(st).length+1<=maxLen:=(by unfold maxLen;have:=HSL.out;omega);have HNb:=zE (fun k (hk:(Value.slice sa st.length sc).ownBlock=some k)=>(HO1.out.lt k hk).2);have HT2:=zE (HR1.out.trans (Sk.t_num1 v (.inr rfl)));have HEL2:=zE (HEL.out.push (.inr rfl));have HSL2:=zE (show (st++[98]).length<=i+1 by rw [List.length_append,List.length_singleton];have:=HSL.out;omega)
        go_wp2_with (at_builtin;refine zQ kByte rfl _ _ 104 5 rfl Tryz.underlying104 w1.heap.size wa.heap.size _ (st) (by rfl) HO1.out [.int .u8 98] 98 rfl (by rfl) HNb.out zA zA q2 q3 ?_;intro v8 w8 own8 b8 _ _;have HO8:=zE own8;clear own8 HO1 HNb q2 q3)
        have B8:=BA.trans b8;go_roundg (ne-(i+1))
        case measure=>omega
        case rel=>exact ⟨i+1,_,by omega,rfl,by go_num,HT2,HEL2,HSL2,HO8,B8⟩
       case neg=>
        have hx0b:(x==0)=false:=(by simp [hx0]);have hx1b:(x==1)=false:=(by simp [hx1]);go_wp2;go_ret;exact ⟨0,rfl,fun h=>absurd rfl h,b1.trans (BA.mono b1.size)⟩
     case neg=>
      go_wp2;go_ret;exact ⟨0,rfl,fun h=>absurd rfl h,b1.trans (BA.mono b1.size)⟩
   case neg=>
    by_cases h2:op=2
    case pos=>
     as_aux_lemma=>
     subst h2;have hvr:=HIY.out rfl;obtain ⟨j,rfl⟩:∃ j:Nat,v=(j:Int):=⟨v.toNat,by omega⟩;have hj:j<S.V.length:=(by omega);obtain ⟨ao3,cp3,e3,hcv1,hcv2,hat3⟩:=(HV.out.under BA).at;injection e3 with q1 q2 q3;obtain ⟨bV,oV,hbV,yV,c0,c1⟩:=hat3 j hj;rw [hbV] at q1;subst q1;have hvv:Sk.vAt S.V (j:Int)=S.V[j]:=xQ hj;have hok:=HVR.out S.V[j] (List.getElem_mem hj);obtain ⟨vv,hv⟩:=nmQ (S.V[j]);rw [<-hv] at c0 c1 hvv hok;have HVV:=zE hvv;have HOKV:=zE hok;have hbn:=hok.2;obtain ⟨el,vn⟩:=vv
     dsimp only at c0 c1 hbn
     clear hat3 q2 q3 hbV hv hvv hok hvr;by_cases hvn:vn=0
     case pos=>
      subst hvn;have q2:((st).length+1)*1<=140737488355328:=(by have:=HSL.out;omega);have q3:(st).length+1<=maxLen:=(by unfold maxLen;have:=HSL.out;omega);have HNb:=zE (fun k (hk:(Value.slice sa st.length sc).ownBlock=some k)=>(HO1.out.lt k hk).2);have HT2:=zE (HR1.out.trans ((Sk.t_sca k (j:Int) x (by rw [HVV.out];exact HOKV.out) (by rw [HVV.out])).trans (by rw [HVV.out])));have HEL2:=zE (HEL.out.push HOKV.out.1);have HSL2:=zE (show (st++[el]).length<=i+1 by rw [List.length_append,List.length_singleton];have:=HSL.out;omega)
      go_wp2_with (at_builtin;refine zQ kByte rfl _ _ 104 5 rfl Tryz.underlying104 w1.heap.size wa.heap.size _ (st) (by rfl) HO1.out [.int .u8 el] el rfl (by rfl) HNb.out zA zA q2 q3 ?_;intro v8 w8 own8 b8 _ _;have HO8:=zE own8;clear own8 HO1 HNb q2 q3)
      have B8:=BA.trans b8;go_roundg (ne-(i+1))
      case measure=>omega
      case rel=>exact ⟨i+1,_,by omega,rfl,by go_num,HT2,HEL2,HSL2,HO8,B8⟩
     case neg=>
      have hvn2:(vn != 0)=true:=(by simp [hvn]);go_wp2;go_ret;exact ⟨0,rfl,fun h=>absurd rfl h,b1.trans (BA.mono b1.size)⟩
    case neg=>
     by_cases h3:op=3
     case pos=>
      as_aux_lemma=>
      subst h3;have hvr:=HIY.out rfl;obtain ⟨j,rfl⟩:∃ j:Nat,v=(j:Int):=⟨v.toNat,by omega⟩;have hj:j<S.V.length:=(by omega);obtain ⟨ao3,cp3,e3,hcv1,hcv2,hat3⟩:=(HV.out.under BA).at;injection e3 with q1 q2 q3;obtain ⟨bV,oV,hbV,yV,c0,c1⟩:=hat3 j hj;rw [hbV] at q1;subst q1;have hvv:Sk.vAt S.V (j:Int)=S.V[j]:=xQ hj;have hok:=HVR.out S.V[j] (List.getElem_mem hj);obtain ⟨vv,hv⟩:=nmQ (S.V[j]);rw [<-hv] at c0 c1 hvv hok;have HVV:=zE hvv;have HOKV:=zE hok;have hbn:=hok.2;obtain ⟨el,vn⟩:=vv
      dsimp only at c0 c1 hbn
      clear hat3 q2 q3 hbV hv hvv hok hvr;by_cases hvn:vn=0
      case pos=>
       subst hvn;go_wp2;go_ret;exact ⟨0,rfl,fun h=>absurd rfl h,b1.trans (BA.mono b1.size)⟩
      case neg=>
       have hvn2:(vn==0)=false:=(by simp [hvn]);by_cases hx0:x<0
       case pos=>
        go_wp2;go_ret;exact ⟨0,rfl,fun h=>absurd rfl h,b1.trans (BA.mono b1.size)⟩
       case neg=>
        by_cases hvc:vn<n
        case pos=>
         go_wp2;go_ret;exact ⟨0,rfl,fun h=>absurd rfl h,b1.trans (BA.mono b1.size)⟩
        case neg=>
         by_cases hxc:vn-n<x
         case pos=>
          go_wp2;go_ret;exact ⟨0,rfl,fun h=>absurd rfl h,b1.trans (BA.mono b1.size)⟩
         case neg=>
          have q2:((st).length+1)*1<=140737488355328:=(by have:=HSL.out;omega);have q3:(st).length+1<=maxLen:=(by unfold maxLen;have:=HSL.out;omega);have HNb:=zE (fun k (hk:(Value.slice sa st.length sc).ownBlock=some k)=>(HO1.out.lt k hk).2);have HT2:=zE (HR1.out.trans ((Sk.t_arr k (j:Int) x (by rw [HVV.out];exact HOKV.out) (by rw [HVV.out];exact hvn) (by omega) (by rw [HVV.out];show x<=vn-n;omega)).trans (by rw [HVV.out])));have HEL2:=zE (HEL.out.push HOKV.out.1);have HSL2:=zE (show (st++[el]).length<=i+1 by rw [List.length_append,List.length_singleton];have:=HSL.out;omega)
          go_wp2_with (at_builtin;refine zQ kByte rfl _ _ 104 5 rfl Tryz.underlying104 w1.heap.size wa.heap.size _ (st) (by rfl) HO1.out [.int .u8 el] el rfl (by rfl) HNb.out zA zA q2 q3 ?_;intro v8 w8 own8 b8 _ _;have HO8:=zE own8;clear own8 HO1 HNb q2 q3)
          have B8:=BA.trans b8;go_roundg (ne-(i+1))
          case measure=>omega
          case rel=>exact ⟨i+1,_,by omega,rfl,by go_num,HT2,HEL2,HSL2,HO8,B8⟩
     case neg=>
      by_cases h4:op=4
      case pos=>
       as_aux_lemma=>
       subst h4;have hct:=small79_any x;obtain ⟨q,hq⟩:=nmQ ((decide (-1000000<=x)&&decide (x<=1000000)));rw [<-hq] at hct;have HQ:=zE hq.symm;clear hq;go_wp2_with fail;refine (hct _).mono ?_;rintro e w4 ⟨rfl,rfl⟩;clear hct
       cases q
       case false=>
        go_wp2;go_ret;exact ⟨0,rfl,fun h=>absurd rfl h,b1.trans (BA.mono b1.size)⟩
       case true=>
        have q2:((st).length+1)*1<=140737488355328:=(by have:=HSL.out;omega);have q3:(st).length+1<=maxLen:=(by unfold maxLen;have:=HSL.out;omega);have HNb:=zE (fun k (hk:(Value.slice sa st.length sc).ownBlock=some k)=>(HO1.out.lt k hk).2);have HT2:=zE (HR1.out.trans (Sk.t_idx k v x HQ.out));have HEL2:=zE (HEL.out.push (.inl rfl));have HSL2:=zE (show (st++[105]).length<=i+1 by rw [List.length_append,List.length_singleton];have:=HSL.out;omega)
        go_wp2_with (at_builtin;refine zQ kByte rfl _ _ 104 5 rfl Tryz.underlying104 w1.heap.size wa.heap.size _ (st) (by rfl) HO1.out [.int .u8 105] 105 rfl (by rfl) HNb.out zA zA q2 q3 ?_;intro v8 w8 own8 b8 _ _;have HO8:=zE own8;clear own8 HO1 HNb q2 q3)
        have B8:=BA.trans b8;go_roundg (ne-(i+1))
        case measure=>omega
        case rel=>exact ⟨i+1,_,by omega,rfl,by go_num,HT2,HEL2,HSL2,HO8,B8⟩
      case neg=>
       by_cases h5:op=5
       case pos=>
        as_aux_lemma=>
        subst h5;have hct:=vB k;have hel:=Sk.opT_el k;obtain ⟨oq,hoq⟩:=nmQ (Kd.opT k);rw [<-hoq] at hct hel;obtain ⟨ta,tb,tc⟩:=oq
        dsimp only at hct hel
        have HOP:=zE hoq.symm;have HOE:=zE hel;clear hoq hel;go_wp2_with fail;refine (hct _).mono ?_;rintro e w4 ⟨rfl,b4⟩;have B4:=BA.trans (b4.mono BA.size);have HO4:=zE (HO1.out.below b4);have kV4:=(b4.block _ yA).trans kV;clear hct HO1 v0 v1 v2 v3 s0 kV kSa;by_cases h1:tc=1
        case neg=>
         have h1b:(tc != 1)=true:=(by simp [h1]);generalize st.length=sl at *;go_wp2;go_ret;exact ⟨0,rfl,fun h=>absurd rfl h,b1.trans (B4.mono b1.size)⟩
        case pos=>
         subst h1;by_cases hl0:st.length<1
         case pos=>
          have hl1:(st.length:Int)<1:=(by omega);generalize st.length=sl at *;go_wp2;go_ret;exact ⟨0,rfl,fun h=>absurd rfl h,b1.trans (B4.mono b1.size)⟩
         case neg=>
          obtain ⟨g,cur,rfl,hgB,kG,hcur,hset⟩:=jC HO4.out (by omega);obtain ⟨m,hm⟩:∃ m,st.length=m+1:=⟨st.length-1,by omega⟩;have hmm:m<st.length:=(by omega);have hL:=Sk.last1 hm hmm;have cm:=coQ kG m;rw [hcur m hmm] at cm;have fm:=foQ kG m;have own5:=hset m hmm tb;rw [set_last hm] at own5;have HO5:=zE own5;have HLM:=zE (show (st.take m++[tb]).length<=i+1 by have:=HSL.out;simp;omega);have HELt:=zE (HEL.out.take m);have HLL:=zE hL;have hsl:(st.length:Int)-1=(m:Int):=(by omega);have hlt1:¬(st.length:Int)<1:=(by omega);generalize st[m]=z at cm HLL;have HCM:=zE cm;by_cases hz:z=ta
          case neg=>
           have hzb:(z != ta)=true:=(by simp [hz]);clear hset hcur own5 hm hL;generalize st.length=sl at *;go_wp2;go_ret;exact ⟨0,rfl,fun h=>absurd rfl h,b1.trans (B4.mono b1.size)⟩
          case pos=>
           subst hz;have HT2:=zE (HR1.out.trans (Sk.t_un k v x HOP.out HLL.out));have HEL2:=zE (HELt.out.push (by rcases HOE.out with h | h;cases h;exact h.2));have B5:=B4.setCell (p:=⟨g,m,none⟩) hgB (.int .u8 tb);clear hset hcur own5 hm hL HLL;rw [show (st.take m++[tb]).length=st.length by simp;omega] at HLM;have HO6:=zE (show OwnL kByte w1.heap.size (w4.setCell ⟨g,m,none⟩ (.int .u8 tb)) (.slice (some ⟨g,0,none⟩) st.length sc) (st.take m++[tb]) from HO5.out);have HSL2:=zE (show (st.take m++[tb]).length<=i+1 by have:=HLM.out;simp;omega);clear HO5 HO4 HLM;generalize st.length=sl at *;go_wp2_with fail;go_roundg (ne-(i+1))
           case measure=>omega
           case rel=>exact ⟨i+1,_,by omega,rfl,by go_num,HT2,HEL2,HSL2,HO6,B5⟩
       case neg=>
        by_cases h6:op=6
        case pos=>
         as_aux_lemma=>
         subst h6;have hct:=vB k;have hel:=Sk.opT_el k;obtain ⟨oq,hoq⟩:=nmQ (Kd.opT k);rw [<-hoq] at hct hel;obtain ⟨ta,tb,tc⟩:=oq
         dsimp only at hct hel
         have HOP:=zE hoq.symm;have HOE:=zE hel;clear hoq hel;go_wp2_with fail;refine (hct _).mono ?_;rintro e w4 ⟨rfl,b4⟩;have B4:=BA.trans (b4.mono BA.size);have HO4:=zE (HO1.out.below b4);have kV4:=(b4.block _ yA).trans kV;clear hct HO1 v0 v1 v2 v3 s0 kV kSa;by_cases h1:tc=2
         case neg=>
          have h1b:(tc != 2)=true:=(by simp [h1]);generalize st.length=sl at *;go_wp2;go_ret;exact ⟨0,rfl,fun h=>absurd rfl h,b1.trans (B4.mono b1.size)⟩
         case pos=>
          subst h1;by_cases hl0:st.length<2
          case pos=>
           have hl1:(st.length:Int)<2:=(by omega);generalize st.length=sl at *;go_wp2;go_ret;exact ⟨0,rfl,fun h=>absurd rfl h,b1.trans (B4.mono b1.size)⟩
          case neg=>
           obtain ⟨g,cur,rfl,hgB,kG,hcur,hset⟩:=jC HO4.out (by omega);obtain ⟨m,hm⟩:∃ m,st.length=m+2:=⟨st.length-2,by omega⟩;have hmm:m<st.length:=(by omega);have hm1:m+1<st.length:=(by omega);have HLL:=zE (Sk.last2 hm hmm hm1);have cm:=coQ kG m;rw [hcur m hmm] at cm;have cn:=coQ kG (m+1);rw [hcur (m+1) hm1] at cn;have hsl1:(st.length:Int)-1=((m+1:Nat):Int):=(by omega);have hsl2:(st.length:Int)-2=(m:Int):=(by omega);have hlt1:¬(st.length:Int)<2:=(by omega);generalize st[m]=z at cm HLL;generalize st[m+1]=y at cn HLL;clear hset hcur;by_cases hy:y=ta
           case neg=>
            have hyb:(y != ta)=true:=(by simp [hy]);clear hm;generalize st.length=sl at *;go_wp2;go_ret;exact ⟨0,rfl,fun h=>absurd rfl h,b1.trans (B4.mono b1.size)⟩
           case pos=>
            subst hy;by_cases hz:z=y
            case neg=>
             have hzb:(z != y)=true:=(by simp [hz]);clear hm;generalize st.length=sl at *;go_wp2;go_ret;exact ⟨0,rfl,fun h=>absurd rfl h,b1.trans (B4.mono b1.size)⟩
            case pos=>
             subst hz;have HTL:=zE (show (st.take m).length=m by rw [List.length_take];omega);have HC7:=zE (HO4.out.cut (m:=m) (by omega));have HML:=zE (show m<=i by have:=HSL.out;omega);have hms:m<=st.length:=(by omega);have z7:=B4.size;have q2:((st.take m).length+1)*1<=140737488355328:=(by rw [HTL.out];have:=HML.out;omega);have q3:(st.take m).length+1<=maxLen:=(by unfold maxLen;rw [HTL.out];have:=HML.out;omega);have HNb:=zE (fun k (hk:(Value.slice (some ⟨g,0,none⟩) m sc).ownBlock=some k)=>(HC7.out.lt k hk).2);have HT2:=zE (HR1.out.trans (Sk.t_bin k v x HOP.out HLL.out));have HEL2:=zE ((HEL.out.take m).push (by rcases HOE.out with h | h;cases h;exact h.2));have HSL2:=zE (show (st.take m++[tb]).length<=i+1 by rw [List.length_append,List.length_singleton];rw [HTL.out];have:=HML.out;omega);generalize st.length=sl at *
             go_wp2_with (at_builtin;refine zQ kByte rfl _ _ 104 5 rfl Tryz.underlying104 w1.heap.size w4.heap.size _ (st.take m) (by rfl) HC7.out [.int .u8 tb] tb rfl (by rfl) HNb.out z7 z7 q2 q3 ?_;intro v8 w8 own8 b8 _ _;have HO8:=zE own8;clear own8 HC7 HNb q2 q3)
             have B8:=B4.trans b8;go_roundg (ne-(i+1))
             case measure=>omega
             case rel=>exact ⟨i+1,_,by omega,rfl,by go_num,HT2,HEL2,HSL2,HO8,B8⟩
        case neg=>
         by_cases h7:op=7
         case pos=>
          as_aux_lemma=>
          subst h7;by_cases hl0:st.length<3
          case pos=>
           have hl1:decide ((st.length:Int)<3)=true:=(by simp;omega);generalize st.length=sl at *;go_upto_region 39 with fail;refine zK (fun w'=>Below wa.heap.size wa w') (fun _=>false) (by kernel_rfl) ?_;have hH0:Below wa.heap.size wa wa.drew:=(Below.refl _ _).drew;generalize wa.drew=wd0 at hH0 ⊢;refine' tkR 0 196 hH0 ?o1
           refine' zO (i:=1) (oi:=⟨some 197,_,_,_,_,_⟩) (v:=.bool true) rfl (by kernel_rfl) (by kernel_rfl) (by kernel_rfl) (by kernel_rfl) (fun _ _ _ h=>h) hH0 (by rfl) ?hyv ?o2
           case hyv=>
            intro wz hSw;go_simp
            try rw [hl1]
            try rfl
            try simp [hl1]
           try simp only [Act.put,sT,sZ,sS]
           refine' tkR 2 198 hH0 ?o3
           refine zD (i:=3) (oi:=⟨some 199,_,_,_,_,_⟩) rfl (by kernel_rfl) (by kernel_rfl) (by kernel_rfl) (by kernel_rfl) (fun _ _ _ h=>h) hH0 (by rfl) ?_
           try simp only [Act.put,sT,sZ,sS]
           refine zD (i:=4) (oi:=⟨some 200,_,_,_,_,_⟩) rfl (by kernel_rfl) (by kernel_rfl) (by kernel_rfl) (by kernel_rfl) (fun _ _ _ h=>h) hH0 (by rfl) ?_
           try simp only [Act.put,sT,sZ,sS]
           refine zD (i:=5) (oi:=⟨some 201,_,_,_,_,_⟩) rfl (by kernel_rfl) (by kernel_rfl) (by kernel_rfl) (by kernel_rfl) (fun _ _ _ h=>h) hH0 (by rfl) ?_
           try simp only [Act.put,sT,sZ,sS]
           refine zD (i:=6) (oi:=⟨some 202,_,_,_,_,_⟩) rfl (by kernel_rfl) (by kernel_rfl) (by kernel_rfl) (by kernel_rfl) (fun _ _ _ h=>h) hH0 (by rfl) ?_
           try simp only [Act.put,sT,sZ,sS]
           refine zD (i:=7) (oi:=⟨some 203,_,_,_,_,_⟩) rfl (by kernel_rfl) (by kernel_rfl) (by kernel_rfl) (by kernel_rfl) (fun _ _ _ h=>h) hH0 (by rfl) ?_
           try simp only [Act.put,sT,sZ,sS]
           refine zD (i:=8) (oi:=⟨some 204,_,_,_,_,_⟩) rfl (by kernel_rfl) (by kernel_rfl) (by kernel_rfl) (by kernel_rfl) (fun _ _ _ h=>h) hH0 (by rfl) ?_
           try simp only [Act.put,sT,sZ,sS]
           refine' tkR 9 205 hH0 ?o4
           refine' tkR 10 206 hH0 ?o5
           refine zD (i:=11) (oi:=⟨some 207,_,_,_,_,_⟩) rfl (by kernel_rfl) (by kernel_rfl) (by kernel_rfl) (by kernel_rfl) (fun _ _ _ h=>h) hH0 (by rfl) ?_
           try simp only [Act.put,sT,sZ,sS]
           refine zD (i:=12) (oi:=⟨some 208,_,_,_,_,_⟩) rfl (by kernel_rfl) (by kernel_rfl) (by kernel_rfl) (by kernel_rfl) (fun _ _ _ h=>h) hH0 (by rfl) ?_
           try simp only [Act.put,sT,sZ,sS]
           refine zD (i:=13) (oi:=⟨some 209,_,_,_,_,_⟩) rfl (by kernel_rfl) (by kernel_rfl) (by kernel_rfl) (by kernel_rfl) (fun _ _ _ h=>h) hH0 (by rfl) ?_
           try simp only [Act.put,sT,sZ,sS]
           refine zD (i:=14) (oi:=⟨some 210,_,_,_,_,_⟩) rfl (by kernel_rfl) (by kernel_rfl) (by kernel_rfl) (by kernel_rfl) (fun _ _ _ h=>h) hH0 (by rfl) ?_
           try simp only [Act.put,sT,sZ,sS]
           refine zD (i:=15) (oi:=⟨some 211,_,_,_,_,_⟩) rfl (by kernel_rfl) (by kernel_rfl) (by kernel_rfl) (by kernel_rfl) (fun _ _ _ h=>h) hH0 (by rfl) ?_
           try simp only [Act.put,sT,sZ,sS]
           refine zD (i:=16) (oi:=⟨some 212,_,_,_,_,_⟩) rfl (by kernel_rfl) (by kernel_rfl) (by kernel_rfl) (by kernel_rfl) (fun _ _ _ h=>h) hH0 (by rfl) ?_
           try simp only [Act.put,sT,sZ,sS]
           refine zD (i:=17) (oi:=⟨some 213,_,_,_,_,_⟩) rfl (by kernel_rfl) (by kernel_rfl) (by kernel_rfl) (by kernel_rfl) (fun _ _ _ h=>h) hH0 (by rfl) ?_
           try simp only [Act.put,sT,sZ,sS]
           refine zD (i:=18) (oi:=⟨some 214,_,_,_,_,_⟩) rfl (by kernel_rfl) (by kernel_rfl) (by kernel_rfl) (by kernel_rfl) (fun _ _ _ h=>h) hH0 (by rfl) ?_
           try simp only [Act.put,sT,sZ,sS]
           refine zD (i:=19) (oi:=⟨some 215,_,_,_,_,_⟩) rfl (by kernel_rfl) (by kernel_rfl) (by kernel_rfl) (by kernel_rfl) (fun _ _ _ h=>h) hH0 (by rfl) ?_
           try simp only [Act.put,sT,sZ,sS]
           refine zD (i:=20) (oi:=⟨some 216,_,_,_,_,_⟩) rfl (by kernel_rfl) (by kernel_rfl) (by kernel_rfl) (by kernel_rfl) (fun _ _ _ h=>h) hH0 (by rfl) ?_
           try simp only [Act.put,sT,sZ,sS]
           refine zD (i:=21) (oi:=⟨some 217,_,_,_,_,_⟩) rfl (by kernel_rfl) (by kernel_rfl) (by kernel_rfl) (by kernel_rfl) (fun _ _ _ h=>h) hH0 (by rfl) ?_
           try simp only [Act.put,sT,sZ,sS]
           refine' tkR 22 218 hH0 ?o6
           refine zH (by kernel_rfl) ?_ _;have BX:=BA.trans (hH0.mono BA.size);go_wp2;go_ret;exact ⟨0,rfl,fun h=>absurd rfl h,b1.trans (BX.mono b1.size)⟩
          case neg=>
           obtain ⟨g,cur,rfl,hgB,kG,hcur,hset⟩:=jC HO1.out (by omega);obtain ⟨m,hm⟩:∃ m,st.length=m+3:=⟨st.length-3,by omega⟩;have hmm:m<st.length:=(by omega);have hm1:m+1<st.length:=(by omega);have hm2:m+2<st.length:=(by omega);have HLL:=zE (Sk.last3 hm hmm hm1 hm2);have HZE:=zE (HEL.out.at hm2);have cm:=coQ kG m;rw [hcur m hmm] at cm;have cn:=coQ kG (m+1);rw [hcur (m+1) hm1] at cn;have cp:=coQ kG (m+2);rw [hcur (m+2) hm2] at cp;have yG:=zG kG;generalize st[m]=z at cm HLL;generalize st[m+1]=y at cn HLL;generalize st[m+2]=u at cp HLL HZE;have hw0:IntKind.i64.wrap (m:Int)=(m:Int):=i64_in _ ⟨by omega,by omega⟩;have hw1:IntKind.i64.wrap ((m+1:Nat):Int)=((m+1:Nat):Int):=i64_in _ ⟨by omega,by omega⟩;have hw1b:IntKind.i64.wrap ((m:Int)+1)=(m:Int)+1:=i64_in _ ⟨by omega,by omega⟩;have hi1:0<=(m:Int)+1/\(m:Int)+1<(st.length:Int):=(by omega);have hw2:IntKind.i64.wrap ((m+2:Nat):Int)=((m+2:Nat):Int):=i64_in _ ⟨by omega,by omega⟩;have hw2b:IntKind.i64.wrap ((m:Int)+2)=(m:Int)+2:=i64_in _ ⟨by omega,by omega⟩;have ht2:((m:Int)+2).toNat=m+2:=(by omega);have hi2:0<=(m:Int)+2/\(m:Int)+2<(st.length:Int):=(by omega);have hsl1:(st.length:Int)-1=((m+2:Nat):Int):=(by omega);have hsl2:(st.length:Int)-2=((m+1:Nat):Int):=(by omega);have hsl3:(st.length:Int)-3=(m:Int):=(by omega);have hl1:decide ((st.length:Int)<3)=false:=(by simp;omega);obtain ⟨q2,hq2⟩:=nmQ ((z != 98));obtain ⟨q3,hq3⟩:=nmQ ((y != u));have HQ2:=zE hq2;have HQ3:=zE hq3;clear hset hcur hq2 hq3;obtain ⟨sl,hsl⟩:=nmQ (st.length);have HSLN:=zE hsl;have HOX:=zE (show OwnL kByte w1.heap.size wa (.slice (some ⟨g,0,none⟩) sl sc) st by rw [hsl];exact HO1.out);clear HO1;rw [<-hsl] at hi1 hi2 hmm hm1 hm2 hsl1 hsl2 hsl3 hl1 hs1 hm ⊢;clear hsl hm;go_upto_region 39 with fail;refine zK (fun w'=>Below wa.heap.size wa w') (fun _=>false) (by kernel_rfl) ?_;have hH0:Below wa.heap.size wa wa.drew:=(Below.refl _ _).drew;generalize wa.drew=wd0 at hH0 ⊢;refine' tkR 0 196 hH0 ?o7
           refine' zO (i:=1) (oi:=⟨some 197,_,_,_,_,_⟩) (v:=.bool false) rfl (by kernel_rfl) (by kernel_rfl) (by kernel_rfl) (by kernel_rfl) (fun _ _ _ h=>h) hH0 (by rfl) ?hyv ?o8
           case hyv=>
            intro wz hSw;go_simp
            try rw [hl1]
            try rfl
            try simp [hl1]
           try simp only [Act.put,sT,sZ,sS]
           refine' tkR 2 198 hH0 ?o9
           refine' tkR 3 199 hH0 ?o10
           refine' tkR 4 200 hH0 ?o11
           refine' tkR 5 201 hH0 ?o12
           refine' tkR 6 202 hH0 ?o13
           refine' tkQ 7 203 hH0 ?hyv ?o14
           case hyv=>
            intro wz hSw;have zc0:=(hSw.cell (p:=⟨g,m,none⟩) yG).trans cm;have zc1:=(hSw.cell (p:=⟨g,m+1,none⟩) yG).trans cn;have zc2:=(hSw.cell (p:=⟨g,m+2,none⟩) yG).trans cp;go_simp
            try rfl
           try simp only [Act.put,sT,sZ,sS]
           refine' zO (i:=8) (oi:=⟨some 204,_,_,_,_,_⟩) (v:=.bool q2) rfl (by kernel_rfl) (by kernel_rfl) (by kernel_rfl) (by kernel_rfl) (fun _ _ _ h=>h) hH0 (by rfl) ?hyv ?o15
           case hyv=>
            intro wz hSw;go_simp;rw [HQ2.out]
            try rfl
           try simp only [Act.put,sT,sZ,sS]
           refine' tkR 9 205 hH0 ?o16
           refine' tkR 10 206 hH0 ?o17
           cases q2
           case false=>
            refine' tkR 11 207 hH0 ?o18
            refine' tkR 12 208 hH0 ?o19
            refine' tkR 13 209 hH0 ?o20
            refine' tkR 14 210 hH0 ?o21
            refine' tkQ 15 211 hH0 ?hyv ?o22
            case hyv=>
             intro wz hSw;have zc0:=(hSw.cell (p:=⟨g,m,none⟩) yG).trans cm;have zc1:=(hSw.cell (p:=⟨g,m+1,none⟩) yG).trans cn;have zc2:=(hSw.cell (p:=⟨g,m+2,none⟩) yG).trans cp;go_simp
             try rfl
            try simp only [Act.put,sT,sZ,sS]
            refine' tkR 16 212 hH0 ?o23
            refine' tkR 17 213 hH0 ?o24
            refine' tkR 18 214 hH0 ?o25
            refine' tkR 19 215 hH0 ?o26
            refine' tkQ 20 216 hH0 ?hyv ?o27
            case hyv=>
             intro wz hSw;have zc0:=(hSw.cell (p:=⟨g,m,none⟩) yG).trans cm;have zc1:=(hSw.cell (p:=⟨g,m+1,none⟩) yG).trans cn;have zc2:=(hSw.cell (p:=⟨g,m+2,none⟩) yG).trans cp;go_simp
             try rfl
            try simp only [Act.put,sT,sZ,sS]
            refine' zO (i:=21) (oi:=⟨some 217,_,_,_,_,_⟩) (v:=.bool q3) rfl (by kernel_rfl) (by kernel_rfl) (by kernel_rfl) (by kernel_rfl) (fun _ _ _ h=>h) hH0 (by rfl) ?hyv ?o28
            case hyv=>
             intro wz hSw;go_simp;rw [HQ3.out]
             try rfl
            try simp only [Act.put,sT,sZ,sS]
            refine' tkR 22 218 hH0 ?o29
            refine zH (by kernel_rfl) ?_ _;obtain ⟨wx,hwx⟩:=nmQ (wd0);subst hwx;have bX:=hH0;have BX:=BA.trans (bX.mono BA.size)
            cases q3
            case true=>
             go_wp2;go_ret;exact ⟨0,rfl,fun h=>absurd rfl h,b1.trans (BX.mono b1.size)⟩
            case false=>
             have hz:z=98:=(by have:=HQ2.out;simpa using this.symm);have hy:y=u:=(by have:=HQ3.out;simpa using this.symm);subst hz hy;have HO9:=zE (HOX.out.below bX);have cpx:=(bX.cell (p:=⟨g,m+2,none⟩) yG).trans cp;have yGx:=Nat.lt_of_lt_of_le yG bX.size;have HT2:=zE (HR1.out.trans (Sk.t_sel k v x (a:=y) (by rcases HZE.out with h | h<;>rw [h]<;>decide) HLL.out));have HEL2:=zE ((HEL.out.take m).push HZE.out);have HTL:=zE (show (st.take m).length=m by rw [List.length_take,<-HSLN.out];omega);have HSL2:=zE (show (st.take m++[y]).length<=i+1 by rw [List.length_append,HTL.out,List.length_singleton];have:=HSL.out;rw [<-HSLN.out] at this;omega);have HTK2:=zE (show OwnL kByte w1.heap.size wx (.slice (some ⟨g,0,none⟩) m sc) (st.take m) from OwnL.cut (n:=sl) HO9.out (by rw [<-HSLN.out];omega));have q5:((st.take m).length+1)*1<=140737488355328:=(by rw [HTL.out];have:=HSL.out;rw [<-HSLN.out] at this;omega);have q6:(st.take m).length+1<=maxLen:=(by rw [HTL.out];have:=HSL.out;rw [<-HSLN.out] at this;unfold maxLen;omega);have zx:=BX.size;have hmc:m<=sc:=(by omega);have hms:m<=sl:=(by omega);clear HO9 HOX cm cn cp;go_upto_region 41 with fail;refine zK (fun w'=>Below w1.heap.size wx w') (fun _=>false) (by kernel_rfl) ?_;have hH0:Below w1.heap.size wx wx.drew:=(Below.refl _ _).drew;have ownT:OwnL kByte w1.heap.size wx.drew (.slice (some ⟨g,0,none⟩) m sc) (st.take m):=HTK2.out;have cP:wx.drew.cell? ⟨g,m+2,none⟩=some (.int .u8 y):=cpx;generalize wx.drew=wd0 at hH0 ownT cP ⊢;refine' tkR 0 219 hH0 ?o30
             refine' tkR 1 220 hH0 ?o31
             refine' tkR 2 221 hH0 ?o32
             refine' tkR 3 222 hH0 ?o33
             refine' tkR 4 223 hH0 ?o34
             refine' tkR 5 224 hH0 ?o35
             refine' tkR 6 225 hH0 ?o36
             refine' tkR 7 226 hH0 ?o37
             refine tnQ 8 (fun K hK=>?_);go_simp;refine hK.out _ _ (fun _=>hH0) ?_;clear hK K cP
             try simp only [Act.put,sT,sZ,sS]
             generalize wd0=wd1 at hH0 ownT ⊢;have hH1:=hH0;refine tnQ 9 (fun K hK=>?_);go_simp;have hH2:Below w1.heap.size wx (wd1.alloc (.cells #[.int .u8 y] 5 (0,0))):=hH1.alloc (Nat.le_trans zx hH1.size) _;refine hK.out _ _ (fun _=>hH2) ?_;clear hK K
             try simp only [Act.put,sT,sZ,sS]
             refine tnQ 10 (fun K hK=>?_);refine zAR kByte _ _ 104 5 rfl Tryz.underlying104 w1.heap.size _ _ (by rfl) ownT [.int .u8 y] y rfl (by rfl) (Nat.le_trans zx hH1.size) q5 q6 ?_;intro v8 wd3 own8 b8;have HO8:=zE own8;clear own8;have hH3:Below w1.heap.size wx wd3:=hH1.trans b8;refine hK.out _ _ (fun _=>hH3) ?_;clear hK K
             try simp only [Act.put,sT,sZ,sS]
             refine' tkR 11 7 hH3 ?o38
             refine zH (by kernel_rfl) ?_ _;have B8:=BX.trans hH3;go_wp2_with fail;go_roundg (ne-(i+1))
             case measure=>omega
             case rel=>exact ⟨i+1,_,by omega,rfl,by go_num,HT2,HEL2,HSL2,HO8,B8⟩
           case true=>
            refine zD (i:=11) (oi:=⟨some 207,_,_,_,_,_⟩) rfl (by kernel_rfl) (by kernel_rfl) (by kernel_rfl) (by kernel_rfl) (fun _ _ _ h=>h) hH0 (by rfl) ?_
            try simp only [Act.put,sT,sZ,sS]
            refine zD (i:=12) (oi:=⟨some 208,_,_,_,_,_⟩) rfl (by kernel_rfl) (by kernel_rfl) (by kernel_rfl) (by kernel_rfl) (fun _ _ _ h=>h) hH0 (by rfl) ?_
            try simp only [Act.put,sT,sZ,sS]
            refine zD (i:=13) (oi:=⟨some 209,_,_,_,_,_⟩) rfl (by kernel_rfl) (by kernel_rfl) (by kernel_rfl) (by kernel_rfl) (fun _ _ _ h=>h) hH0 (by rfl) ?_
            try simp only [Act.put,sT,sZ,sS]
            refine zD (i:=14) (oi:=⟨some 210,_,_,_,_,_⟩) rfl (by kernel_rfl) (by kernel_rfl) (by kernel_rfl) (by kernel_rfl) (fun _ _ _ h=>h) hH0 (by rfl) ?_
            try simp only [Act.put,sT,sZ,sS]
            refine zD (i:=15) (oi:=⟨some 211,_,_,_,_,_⟩) rfl (by kernel_rfl) (by kernel_rfl) (by kernel_rfl) (by kernel_rfl) (fun _ _ _ h=>h) hH0 (by rfl) ?_
            try simp only [Act.put,sT,sZ,sS]
            refine zD (i:=16) (oi:=⟨some 212,_,_,_,_,_⟩) rfl (by kernel_rfl) (by kernel_rfl) (by kernel_rfl) (by kernel_rfl) (fun _ _ _ h=>h) hH0 (by rfl) ?_
            try simp only [Act.put,sT,sZ,sS]
            refine zD (i:=17) (oi:=⟨some 213,_,_,_,_,_⟩) rfl (by kernel_rfl) (by kernel_rfl) (by kernel_rfl) (by kernel_rfl) (fun _ _ _ h=>h) hH0 (by rfl) ?_
            try simp only [Act.put,sT,sZ,sS]
            refine zD (i:=18) (oi:=⟨some 214,_,_,_,_,_⟩) rfl (by kernel_rfl) (by kernel_rfl) (by kernel_rfl) (by kernel_rfl) (fun _ _ _ h=>h) hH0 (by rfl) ?_
            try simp only [Act.put,sT,sZ,sS]
            refine zD (i:=19) (oi:=⟨some 215,_,_,_,_,_⟩) rfl (by kernel_rfl) (by kernel_rfl) (by kernel_rfl) (by kernel_rfl) (fun _ _ _ h=>h) hH0 (by rfl) ?_
            try simp only [Act.put,sT,sZ,sS]
            refine zD (i:=20) (oi:=⟨some 216,_,_,_,_,_⟩) rfl (by kernel_rfl) (by kernel_rfl) (by kernel_rfl) (by kernel_rfl) (fun _ _ _ h=>h) hH0 (by rfl) ?_
            try simp only [Act.put,sT,sZ,sS]
            refine zD (i:=21) (oi:=⟨some 217,_,_,_,_,_⟩) rfl (by kernel_rfl) (by kernel_rfl) (by kernel_rfl) (by kernel_rfl) (fun _ _ _ h=>h) hH0 (by rfl) ?_
            try simp only [Act.put,sT,sZ,sS]
            refine' tkR 22 218 hH0 ?o39
            refine zH (by kernel_rfl) ?_ _;obtain ⟨wx,hwx⟩:=nmQ (wd0);subst hwx;have bX:=hH0;have BX:=BA.trans (bX.mono BA.size);go_wp2;go_ret;exact ⟨0,rfl,fun h=>absurd rfl h,b1.trans (BX.mono b1.size)⟩
         case neg=>
          by_cases h8:op=8
          case pos=>
           as_aux_lemma=>
           subst h8;have hvr:=HIY.out rfl;obtain ⟨j,rfl⟩:∃ j:Nat,v=(j:Int):=⟨v.toNat,by omega⟩;have hj:j<S.V.length:=(by omega);obtain ⟨ao3,cp3,e3,hcv1,hcv2,hat3⟩:=(HV.out.under BA).at;injection e3 with q1 q2 q3;obtain ⟨bV,oV,hbV,yV,c0,c1⟩:=hat3 j hj;rw [hbV] at q1;subst q1;have hvv:Sk.vAt S.V (j:Int)=S.V[j]:=xQ hj;have hok:=HVR.out S.V[j] (List.getElem_mem hj);obtain ⟨vv,hv⟩:=nmQ (S.V[j]);rw [<-hv] at c0 c1 hvv hok;have HVV:=zE hvv;have HOKV:=zE hok;have hbn:=hok.2;obtain ⟨el,vn⟩:=vv
           dsimp only at c0 c1 hbn
           clear hat3 q2 q3 hbV hv hvv hok hvr;have bC:Below wa.heap.size wa (wa.alloc (.cells #[.int .u8 el,.int .i64 vn] 55 (0,0))):=(Below.refl _ _).alloc zM _;have BC:=BA.trans (bC.mono BA.size);have kC:=zI wa (.cells #[.int .u8 el,.int .i64 vn] 55 (0,0));have HO2:=zE (HO1.out.below bC);clear HO1;go_upto_region 44 with fail;generalize (wa.alloc (.cells #[.int .u8 el,.int .i64 vn] 55 (0,0)))=wc at bC BC kC HO2 ⊢;have d0:=coQ kC 0;have d1:=coQ kC 1;simp at d0 d1;have yC:=zG kC;have zC:=BC.size;clear v0 v1 v2 v3 s0 kSa kV c0 c1 bC;by_cases hvn:vn=0
           case pos=>
            subst hvn;generalize st.length=sl at *;refine zK (fun w'=>Below wc.heap.size wc w') (fun _=>false) (by kernel_rfl) ?_;have hH0:Below wc.heap.size wc wc.drew:=(Below.refl _ _).drew;generalize wc.drew=wd0 at hH0 ⊢;refine' tkR 0 238 hH0 ?o40
            refine' tkQ 1 239 hH0 ?hyv ?o41
            case hyv=>
             intro wz hSw;have zc0:=(hSw.cell (p:=⟨wa.heap.size,0,none⟩) yC).trans d0;have zc1:=(hSw.cell (p:=⟨wa.heap.size,1,none⟩) yC).trans d1;go_simp
             try rfl
            try simp only [Act.put,sT,sZ,sS]
            refine' zO (i:=2) (oi:=⟨some 240,_,_,_,_,_⟩) (v:=.bool true) rfl (by kernel_rfl) (by kernel_rfl) (by kernel_rfl) (by kernel_rfl) (fun _ _ _ h=>h) hH0 (by rfl) ?hyv ?o42
            case hyv=>
             intro wz hSw;go_simp
             try rfl
            try simp only [Act.put,sT,sZ,sS]
            refine' tkR 3 241 hH0 ?o43
            refine zD (i:=4) (oi:=⟨some 242,_,_,_,_,_⟩) rfl (by kernel_rfl) (by kernel_rfl) (by kernel_rfl) (by kernel_rfl) (fun _ _ _ h=>h) hH0 (by rfl) ?_
            try simp only [Act.put,sT,sZ,sS]
            refine zD (i:=5) (oi:=⟨some 243,_,_,_,_,_⟩) rfl (by kernel_rfl) (by kernel_rfl) (by kernel_rfl) (by kernel_rfl) (fun _ _ _ h=>h) hH0 (by rfl) ?_
            try simp only [Act.put,sT,sZ,sS]
            refine' tkR 6 244 hH0 ?o44
            refine' tkR 7 245 hH0 ?o45
            refine zD (i:=8) (oi:=⟨some 246,_,_,_,_,_⟩) rfl (by kernel_rfl) (by kernel_rfl) (by kernel_rfl) (by kernel_rfl) (fun _ _ _ h=>h) hH0 (by rfl) ?_
            try simp only [Act.put,sT,sZ,sS]
            refine zD (i:=9) (oi:=⟨some 247,_,_,_,_,_⟩) rfl (by kernel_rfl) (by kernel_rfl) (by kernel_rfl) (by kernel_rfl) (fun _ _ _ h=>h) hH0 (by rfl) ?_
            try simp only [Act.put,sT,sZ,sS]
            refine zD (i:=10) (oi:=⟨some 248,_,_,_,_,_⟩) rfl (by kernel_rfl) (by kernel_rfl) (by kernel_rfl) (by kernel_rfl) (fun _ _ _ h=>h) hH0 (by rfl) ?_
            try simp only [Act.put,sT,sZ,sS]
            refine zD (i:=11) (oi:=⟨some 249,_,_,_,_,_⟩) rfl (by kernel_rfl) (by kernel_rfl) (by kernel_rfl) (by kernel_rfl) (fun _ _ _ h=>h) hH0 (by rfl) ?_
            try simp only [Act.put,sT,sZ,sS]
            refine zD (i:=12) (oi:=⟨some 250,_,_,_,_,_⟩) rfl (by kernel_rfl) (by kernel_rfl) (by kernel_rfl) (by kernel_rfl) (fun _ _ _ h=>h) hH0 (by rfl) ?_
            try simp only [Act.put,sT,sZ,sS]
            refine zD (i:=13) (oi:=⟨some 251,_,_,_,_,_⟩) rfl (by kernel_rfl) (by kernel_rfl) (by kernel_rfl) (by kernel_rfl) (fun _ _ _ h=>h) hH0 (by rfl) ?_
            try simp only [Act.put,sT,sZ,sS]
            refine' tkR 14 252 hH0 ?o46
            refine' tkR 15 253 hH0 ?o47
            refine zD (i:=16) (oi:=⟨some 254,_,_,_,_,_⟩) rfl (by kernel_rfl) (by kernel_rfl) (by kernel_rfl) (by kernel_rfl) (fun _ _ _ h=>h) hH0 (by rfl) ?_
            try simp only [Act.put,sT,sZ,sS]
            refine zD (i:=17) (oi:=⟨some 255,_,_,_,_,_⟩) rfl (by kernel_rfl) (by kernel_rfl) (by kernel_rfl) (by kernel_rfl) (fun _ _ _ h=>h) hH0 (by rfl) ?_
            try simp only [Act.put,sT,sZ,sS]
            refine zD (i:=18) (oi:=⟨some 256,_,_,_,_,_⟩) rfl (by kernel_rfl) (by kernel_rfl) (by kernel_rfl) (by kernel_rfl) (fun _ _ _ h=>h) hH0 (by rfl) ?_
            try simp only [Act.put,sT,sZ,sS]
            refine zD (i:=19) (oi:=⟨some 257,_,_,_,_,_⟩) rfl (by kernel_rfl) (by kernel_rfl) (by kernel_rfl) (by kernel_rfl) (fun _ _ _ h=>h) hH0 (by rfl) ?_
            try simp only [Act.put,sT,sZ,sS]
            refine zD (i:=20) (oi:=⟨some 258,_,_,_,_,_⟩) rfl (by kernel_rfl) (by kernel_rfl) (by kernel_rfl) (by kernel_rfl) (fun _ _ _ h=>h) hH0 (by rfl) ?_
            try simp only [Act.put,sT,sZ,sS]
            refine zD (i:=21) (oi:=⟨some 259,_,_,_,_,_⟩) rfl (by kernel_rfl) (by kernel_rfl) (by kernel_rfl) (by kernel_rfl) (fun _ _ _ h=>h) hH0 (by rfl) ?_
            try simp only [Act.put,sT,sZ,sS]
            refine zD (i:=22) (oi:=⟨some 260,_,_,_,_,_⟩) rfl (by kernel_rfl) (by kernel_rfl) (by kernel_rfl) (by kernel_rfl) (fun _ _ _ h=>h) hH0 (by rfl) ?_
            try simp only [Act.put,sT,sZ,sS]
            refine zD (i:=23) (oi:=⟨some 261,_,_,_,_,_⟩) rfl (by kernel_rfl) (by kernel_rfl) (by kernel_rfl) (by kernel_rfl) (fun _ _ _ h=>h) hH0 (by rfl) ?_
            try simp only [Act.put,sT,sZ,sS]
            refine' tkR 24 262 hH0 ?o48
            refine zH (by kernel_rfl) ?_ _;have BX:=BC.trans (hH0.mono BC.size);go_wp2;go_ret;exact ⟨0,rfl,fun h=>absurd rfl h,b1.trans (BX.mono b1.size)⟩
           case neg=>
            have hvn2:(vn==0)=false:=(by simp [hvn]);by_cases hl0:st.length<2
            case pos=>
             have hl1:decide ((st.length:Int)<2)=true:=(by simp;omega);generalize st.length=sl at *;refine zK (fun w'=>Below wc.heap.size wc w') (fun _=>false) (by kernel_rfl) ?_;have hH0:Below wc.heap.size wc wc.drew:=(Below.refl _ _).drew;generalize wc.drew=wd0 at hH0 ⊢;refine' tkR 0 238 hH0 ?o49
             refine' tkQ 1 239 hH0 ?hyv ?o50
             case hyv=>
              intro wz hSw;have zc0:=(hSw.cell (p:=⟨wa.heap.size,0,none⟩) yC).trans d0;have zc1:=(hSw.cell (p:=⟨wa.heap.size,1,none⟩) yC).trans d1;go_simp
              try rfl
             try simp only [Act.put,sT,sZ,sS]
             refine' zO (i:=2) (oi:=⟨some 240,_,_,_,_,_⟩) (v:=.bool false) rfl (by kernel_rfl) (by kernel_rfl) (by kernel_rfl) (by kernel_rfl) (fun _ _ _ h=>h) hH0 (by rfl) ?hyv ?o51
             case hyv=>
              intro wz hSw;go_simp
              try rw [hvn2]
              try rfl
             try simp only [Act.put,sT,sZ,sS]
             refine' tkR 3 241 hH0 ?o52
             refine' tkR 4 242 hH0 ?o53
             refine' zO (i:=5) (oi:=⟨some 243,_,_,_,_,_⟩) (v:=.bool true) rfl (by kernel_rfl) (by kernel_rfl) (by kernel_rfl) (by kernel_rfl) (fun _ _ _ h=>h) hH0 (by rfl) ?hyv ?o54
             case hyv=>
              intro wz hSw;go_simp
              try rw [hl1]
              try rfl
              try simp [hl1]
             try simp only [Act.put,sT,sZ,sS]
             refine' tkR 6 244 hH0 ?o55
             refine' tkR 7 245 hH0 ?o56
             refine zD (i:=8) (oi:=⟨some 246,_,_,_,_,_⟩) rfl (by kernel_rfl) (by kernel_rfl) (by kernel_rfl) (by kernel_rfl) (fun _ _ _ h=>h) hH0 (by rfl) ?_
             try simp only [Act.put,sT,sZ,sS]
             refine zD (i:=9) (oi:=⟨some 247,_,_,_,_,_⟩) rfl (by kernel_rfl) (by kernel_rfl) (by kernel_rfl) (by kernel_rfl) (fun _ _ _ h=>h) hH0 (by rfl) ?_
             try simp only [Act.put,sT,sZ,sS]
             refine zD (i:=10) (oi:=⟨some 248,_,_,_,_,_⟩) rfl (by kernel_rfl) (by kernel_rfl) (by kernel_rfl) (by kernel_rfl) (fun _ _ _ h=>h) hH0 (by rfl) ?_
             try simp only [Act.put,sT,sZ,sS]
             refine zD (i:=11) (oi:=⟨some 249,_,_,_,_,_⟩) rfl (by kernel_rfl) (by kernel_rfl) (by kernel_rfl) (by kernel_rfl) (fun _ _ _ h=>h) hH0 (by rfl) ?_
             try simp only [Act.put,sT,sZ,sS]
             refine zD (i:=12) (oi:=⟨some 250,_,_,_,_,_⟩) rfl (by kernel_rfl) (by kernel_rfl) (by kernel_rfl) (by kernel_rfl) (fun _ _ _ h=>h) hH0 (by rfl) ?_
             try simp only [Act.put,sT,sZ,sS]
             refine zD (i:=13) (oi:=⟨some 251,_,_,_,_,_⟩) rfl (by kernel_rfl) (by kernel_rfl) (by kernel_rfl) (by kernel_rfl) (fun _ _ _ h=>h) hH0 (by rfl) ?_
             try simp only [Act.put,sT,sZ,sS]
             refine' tkR 14 252 hH0 ?o57
             refine' tkR 15 253 hH0 ?o58
             refine zD (i:=16) (oi:=⟨some 254,_,_,_,_,_⟩) rfl (by kernel_rfl) (by kernel_rfl) (by kernel_rfl) (by kernel_rfl) (fun _ _ _ h=>h) hH0 (by rfl) ?_
             try simp only [Act.put,sT,sZ,sS]
             refine zD (i:=17) (oi:=⟨some 255,_,_,_,_,_⟩) rfl (by kernel_rfl) (by kernel_rfl) (by kernel_rfl) (by kernel_rfl) (fun _ _ _ h=>h) hH0 (by rfl) ?_
             try simp only [Act.put,sT,sZ,sS]
             refine zD (i:=18) (oi:=⟨some 256,_,_,_,_,_⟩) rfl (by kernel_rfl) (by kernel_rfl) (by kernel_rfl) (by kernel_rfl) (fun _ _ _ h=>h) hH0 (by rfl) ?_
             try simp only [Act.put,sT,sZ,sS]
             refine zD (i:=19) (oi:=⟨some 257,_,_,_,_,_⟩) rfl (by kernel_rfl) (by kernel_rfl) (by kernel_rfl) (by kernel_rfl) (fun _ _ _ h=>h) hH0 (by rfl) ?_
             try simp only [Act.put,sT,sZ,sS]
             refine zD (i:=20) (oi:=⟨some 258,_,_,_,_,_⟩) rfl (by kernel_rfl) (by kernel_rfl) (by kernel_rfl) (by kernel_rfl) (fun _ _ _ h=>h) hH0 (by rfl) ?_
             try simp only [Act.put,sT,sZ,sS]
             refine zD (i:=21) (oi:=⟨some 259,_,_,_,_,_⟩) rfl (by kernel_rfl) (by kernel_rfl) (by kernel_rfl) (by kernel_rfl) (fun _ _ _ h=>h) hH0 (by rfl) ?_
             try simp only [Act.put,sT,sZ,sS]
             refine zD (i:=22) (oi:=⟨some 260,_,_,_,_,_⟩) rfl (by kernel_rfl) (by kernel_rfl) (by kernel_rfl) (by kernel_rfl) (fun _ _ _ h=>h) hH0 (by rfl) ?_
             try simp only [Act.put,sT,sZ,sS]
             refine zD (i:=23) (oi:=⟨some 261,_,_,_,_,_⟩) rfl (by kernel_rfl) (by kernel_rfl) (by kernel_rfl) (by kernel_rfl) (fun _ _ _ h=>h) hH0 (by rfl) ?_
             try simp only [Act.put,sT,sZ,sS]
             refine' tkR 24 262 hH0 ?o59
             refine zH (by kernel_rfl) ?_ _;have BX:=BC.trans (hH0.mono BC.size);go_wp2;go_ret;exact ⟨0,rfl,fun h=>absurd rfl h,b1.trans (BX.mono b1.size)⟩
            case neg=>
             obtain ⟨g,cur,rfl,hgB,kG,hcur,hset⟩:=jC HO2.out (by omega);obtain ⟨m,hm⟩:∃ m,st.length=m+2:=⟨st.length-2,by omega⟩;have hmm:m<st.length:=(by omega);have hm1:m+1<st.length:=(by omega);have HLL:=zE (Sk.last2 hm hmm hm1);have cm:=coQ kG m;rw [hcur m hmm] at cm;have cn:=coQ kG (m+1);rw [hcur (m+1) hm1] at cn;have yG:=zG kG;generalize st[m]=z at cm HLL;generalize st[m+1]=u at cn HLL;have hw0:IntKind.i64.wrap (m:Int)=(m:Int):=i64_in _ ⟨by omega,by omega⟩;have hw1:IntKind.i64.wrap ((m+1:Nat):Int)=((m+1:Nat):Int):=i64_in _ ⟨by omega,by omega⟩;have hw1b:IntKind.i64.wrap ((m:Int)+1)=(m:Int)+1:=i64_in _ ⟨by omega,by omega⟩;have hi1:0<=(m:Int)+1/\(m:Int)+1<(st.length:Int):=(by omega);have hsl1:(st.length:Int)-1=((m+1:Nat):Int):=(by omega);have hsl2:(st.length:Int)-2=(m:Int):=(by omega);have hl1:decide ((st.length:Int)<2)=false:=(by simp;omega);obtain ⟨q2,hq2⟩:=nmQ ((z != 105));obtain ⟨q3,hq3⟩:=nmQ ((u != el));have HQ2:=zE hq2;have HQ3:=zE hq3;clear hset hcur hq2 hq3;obtain ⟨sl,hsl⟩:=nmQ (st.length);have HSLN:=zE hsl;have HOX:=zE (show OwnL kByte w1.heap.size wc (.slice (some ⟨g,0,none⟩) sl sc) st by rw [hsl];exact HO2.out);clear HO2;rw [<-hsl] at hi1 hmm hm1 hsl1 hsl2 hl1 hs1 hm ⊢;clear hsl hm;refine zK (fun w'=>Below wc.heap.size wc w') (fun _=>false) (by kernel_rfl) ?_;have hH0:Below wc.heap.size wc wc.drew:=(Below.refl _ _).drew;generalize wc.drew=wd0 at hH0 ⊢;refine' tkR 0 238 hH0 ?o60
             refine' tkQ 1 239 hH0 ?hyv ?o61
             case hyv=>
              intro wz hSw;have zc0:=(hSw.cell (p:=⟨wa.heap.size,0,none⟩) yC).trans d0;have zc1:=(hSw.cell (p:=⟨wa.heap.size,1,none⟩) yC).trans d1;have zc2:=(hSw.cell (p:=⟨g,m,none⟩) yG).trans cm;have zc3:=(hSw.cell (p:=⟨g,m+1,none⟩) yG).trans cn;go_simp
              try rfl
             try simp only [Act.put,sT,sZ,sS]
             refine' zO (i:=2) (oi:=⟨some 240,_,_,_,_,_⟩) (v:=.bool false) rfl (by kernel_rfl) (by kernel_rfl) (by kernel_rfl) (by kernel_rfl) (fun _ _ _ h=>h) hH0 (by rfl) ?hyv ?o62
             case hyv=>
              intro wz hSw;go_simp
              try rw [hvn2]
              try rfl
             try simp only [Act.put,sT,sZ,sS]
             refine' tkR 3 241 hH0 ?o63
             refine' tkR 4 242 hH0 ?o64
             refine' zO (i:=5) (oi:=⟨some 243,_,_,_,_,_⟩) (v:=.bool false) rfl (by kernel_rfl) (by kernel_rfl) (by kernel_rfl) (by kernel_rfl) (fun _ _ _ h=>h) hH0 (by rfl) ?hyv ?o65
             case hyv=>
              intro wz hSw;go_simp
              try rw [hl1]
              try rfl
              try simp [hl1]
             try simp only [Act.put,sT,sZ,sS]
             refine' tkR 6 244 hH0 ?o66
             refine' tkR 7 245 hH0 ?o67
             refine' tkR 8 246 hH0 ?o68
             refine' tkR 9 247 hH0 ?o69
             refine' tkR 10 248 hH0 ?o70
             refine' tkR 11 249 hH0 ?o71
             refine' tkQ 12 250 hH0 ?hyv ?o72
             case hyv=>
              intro wz hSw;have zc0:=(hSw.cell (p:=⟨wa.heap.size,0,none⟩) yC).trans d0;have zc1:=(hSw.cell (p:=⟨wa.heap.size,1,none⟩) yC).trans d1;have zc2:=(hSw.cell (p:=⟨g,m,none⟩) yG).trans cm;have zc3:=(hSw.cell (p:=⟨g,m+1,none⟩) yG).trans cn;go_simp
              try rfl
             try simp only [Act.put,sT,sZ,sS]
             refine' zO (i:=13) (oi:=⟨some 251,_,_,_,_,_⟩) (v:=.bool q2) rfl (by kernel_rfl) (by kernel_rfl) (by kernel_rfl) (by kernel_rfl) (fun _ _ _ h=>h) hH0 (by rfl) ?hyv ?o73
             case hyv=>
              intro wz hSw;go_simp;rw [HQ2.out]
              try rfl
             try simp only [Act.put,sT,sZ,sS]
             refine' tkR 14 252 hH0 ?o74
             refine' tkR 15 253 hH0 ?o75
             cases q2
             case false=>
              refine' tkR 16 254 hH0 ?o76
              refine' tkR 17 255 hH0 ?o77
              refine' tkR 18 256 hH0 ?o78
              refine' tkR 19 257 hH0 ?o79
              refine' tkQ 20 258 hH0 ?hyv ?o80
              case hyv=>
               intro wz hSw;have zc0:=(hSw.cell (p:=⟨wa.heap.size,0,none⟩) yC).trans d0;have zc1:=(hSw.cell (p:=⟨wa.heap.size,1,none⟩) yC).trans d1;have zc2:=(hSw.cell (p:=⟨g,m,none⟩) yG).trans cm;have zc3:=(hSw.cell (p:=⟨g,m+1,none⟩) yG).trans cn;go_simp
               try rfl
              try simp only [Act.put,sT,sZ,sS]
              refine' tkR 21 259 hH0 ?o81
              refine' tkQ 22 260 hH0 ?hyv ?o82
              case hyv=>
               intro wz hSw;have zc0:=(hSw.cell (p:=⟨wa.heap.size,0,none⟩) yC).trans d0;have zc1:=(hSw.cell (p:=⟨wa.heap.size,1,none⟩) yC).trans d1;have zc2:=(hSw.cell (p:=⟨g,m,none⟩) yG).trans cm;have zc3:=(hSw.cell (p:=⟨g,m+1,none⟩) yG).trans cn;go_simp
               try rfl
              try simp only [Act.put,sT,sZ,sS]
              refine' zO (i:=23) (oi:=⟨some 261,_,_,_,_,_⟩) (v:=.bool q3) rfl (by kernel_rfl) (by kernel_rfl) (by kernel_rfl) (by kernel_rfl) (fun _ _ _ h=>h) hH0 (by rfl) ?hyv ?o83
              case hyv=>
               intro wz hSw;go_simp;rw [HQ3.out]
               try rfl
              try simp only [Act.put,sT,sZ,sS]
              refine' tkR 24 262 hH0 ?o84
              refine zH (by kernel_rfl) ?_ _;obtain ⟨wx,hwx⟩:=nmQ (wd0);subst hwx;have bX:=hH0;have BX:=BC.trans (bX.mono BC.size)
              cases q3
              case true=>
               go_wp2;go_ret;exact ⟨0,rfl,fun h=>absurd rfl h,b1.trans (BX.mono b1.size)⟩
              case false=>
               have hz:z=105:=(by have:=HQ2.out;simpa using this.symm);have hy:u=el:=(by have:=HQ3.out;simpa using this.symm);subst hz hy;have HO9:=zE (HOX.out.below bX);have d0x:=(bX.cell (p:=⟨wa.heap.size,0,none⟩) yC).trans d0;have yCx:=Nat.lt_of_lt_of_le yC bX.size;have HT2:=zE (HR1.out.trans ((Sk.t_at k (j:Int) x (by rw [HVV.out];exact HOKV.out) (by rw [HVV.out];exact hvn) (by rw [HVV.out];exact HLL.out)).trans (by rw [HVV.out])));have HEL2:=zE ((HEL.out.take m).push HOKV.out.1);have HTL:=zE (show (st.take m).length=m by rw [List.length_take,<-HSLN.out];omega);have HSL2:=zE (show (st.take m++[u]).length<=i+1 by rw [List.length_append,HTL.out,List.length_singleton];have:=HSL.out;rw [<-HSLN.out] at this;omega);have HTK2:=zE (show OwnL kByte w1.heap.size wx (.slice (some ⟨g,0,none⟩) m sc) (st.take m) from OwnL.cut (n:=sl) HO9.out (by rw [<-HSLN.out];omega));have q5:((st.take m).length+1)*1<=140737488355328:=(by rw [HTL.out];have:=HSL.out;rw [<-HSLN.out] at this;omega);have q6:(st.take m).length+1<=maxLen:=(by rw [HTL.out];have:=HSL.out;rw [<-HSLN.out] at this;unfold maxLen;omega);have zx:=BX.size;have hmc:m<=sc:=(by omega);have hms:m<=sl:=(by omega);clear HO9 HOX cm cn d0 d1;go_upto_region 46 with fail;refine zK (fun w'=>Below w1.heap.size wx w') (fun _=>false) (by kernel_rfl) ?_;have hH0:Below w1.heap.size wx wx.drew:=(Below.refl _ _).drew;have ownT:OwnL kByte w1.heap.size wx.drew (.slice (some ⟨g,0,none⟩) m sc) (st.take m):=HTK2.out;have cP:wx.drew.cell? ⟨wa.heap.size,0,none⟩=some (.int .u8 u):=d0x;generalize wx.drew=wd0 at hH0 ownT cP ⊢;refine' tkR 0 263 hH0 ?o85
               refine' tkR 1 264 hH0 ?o86
               refine' tkR 2 265 hH0 ?o87
               refine' tkR 3 266 hH0 ?o88
               refine' tkR 4 267 hH0 ?o89
               refine tnQ 5 (fun K hK=>?_);go_simp;refine hK.out _ _ (fun _=>hH0) ?_;clear hK K cP
               try simp only [Act.put,sT,sZ,sS]
               generalize wd0=wd1 at hH0 ownT ⊢;have hH1:=hH0;refine tnQ 6 (fun K hK=>?_);go_simp;have hH2:Below w1.heap.size wx (wd1.alloc (.cells #[.int .u8 u] 5 (0,0))):=hH1.alloc (Nat.le_trans zx hH1.size) _;refine hK.out _ _ (fun _=>hH2) ?_;clear hK K
               try simp only [Act.put,sT,sZ,sS]
               refine tnQ 7 (fun K hK=>?_);refine zAR kByte _ _ 104 5 rfl Tryz.underlying104 w1.heap.size _ _ (by rfl) ownT [.int .u8 u] u rfl (by rfl) (Nat.le_trans zx hH1.size) q5 q6 ?_;intro v8 wd3 own8 b8;have HO8:=zE own8;clear own8;have hH3:Below w1.heap.size wx wd3:=hH1.trans b8;refine hK.out _ _ (fun _=>hH3) ?_;clear hK K
               try simp only [Act.put,sT,sZ,sS]
               refine' tkR 8 7 hH3 ?o90
               refine zH (by kernel_rfl) ?_ _;have B8:=BX.trans hH3;go_wp2_with fail;go_roundg (ne-(i+1))
               case measure=>omega
               case rel=>exact ⟨i+1,_,by omega,rfl,by go_num,HT2,HEL2,HSL2,HO8,B8⟩
             case true=>
              refine zD (i:=16) (oi:=⟨some 254,_,_,_,_,_⟩) rfl (by kernel_rfl) (by kernel_rfl) (by kernel_rfl) (by kernel_rfl) (fun _ _ _ h=>h) hH0 (by rfl) ?_
              try simp only [Act.put,sT,sZ,sS]
              refine zD (i:=17) (oi:=⟨some 255,_,_,_,_,_⟩) rfl (by kernel_rfl) (by kernel_rfl) (by kernel_rfl) (by kernel_rfl) (fun _ _ _ h=>h) hH0 (by rfl) ?_
              try simp only [Act.put,sT,sZ,sS]
              refine zD (i:=18) (oi:=⟨some 256,_,_,_,_,_⟩) rfl (by kernel_rfl) (by kernel_rfl) (by kernel_rfl) (by kernel_rfl) (fun _ _ _ h=>h) hH0 (by rfl) ?_
              try simp only [Act.put,sT,sZ,sS]
              refine zD (i:=19) (oi:=⟨some 257,_,_,_,_,_⟩) rfl (by kernel_rfl) (by kernel_rfl) (by kernel_rfl) (by kernel_rfl) (fun _ _ _ h=>h) hH0 (by rfl) ?_
              try simp only [Act.put,sT,sZ,sS]
              refine zD (i:=20) (oi:=⟨some 258,_,_,_,_,_⟩) rfl (by kernel_rfl) (by kernel_rfl) (by kernel_rfl) (by kernel_rfl) (fun _ _ _ h=>h) hH0 (by rfl) ?_
              try simp only [Act.put,sT,sZ,sS]
              refine zD (i:=21) (oi:=⟨some 259,_,_,_,_,_⟩) rfl (by kernel_rfl) (by kernel_rfl) (by kernel_rfl) (by kernel_rfl) (fun _ _ _ h=>h) hH0 (by rfl) ?_
              try simp only [Act.put,sT,sZ,sS]
              refine zD (i:=22) (oi:=⟨some 260,_,_,_,_,_⟩) rfl (by kernel_rfl) (by kernel_rfl) (by kernel_rfl) (by kernel_rfl) (fun _ _ _ h=>h) hH0 (by rfl) ?_
              try simp only [Act.put,sT,sZ,sS]
              refine zD (i:=23) (oi:=⟨some 261,_,_,_,_,_⟩) rfl (by kernel_rfl) (by kernel_rfl) (by kernel_rfl) (by kernel_rfl) (fun _ _ _ h=>h) hH0 (by rfl) ?_
              try simp only [Act.put,sT,sZ,sS]
              refine' tkR 24 262 hH0 ?o91
              refine zH (by kernel_rfl) ?_ _;obtain ⟨wx,hwx⟩:=nmQ (wd0);subst hwx;have bX:=hH0;have BX:=BC.trans (bX.mono BC.size);go_wp2;go_ret;exact ⟨0,rfl,fun h=>absurd rfl h,b1.trans (BX.mono b1.size)⟩
          case neg=>
           generalize st.length=sl at *;go_wp2;go_ret;exact ⟨0,rfl,fun h=>absurd rfl h,b1.trans (BA.mono b1.size)⟩
end Go.Proofs.YtegakbobaecdlaaGreatDoor
