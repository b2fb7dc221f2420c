import Derived.Test.YtfhghlpfeeiaeaaGreatDoorX36
set_option linter.unusedVariables false
set_option linter.unusedSimpArgs false
set_option maxHeartbeats 64000000
set_option maxRecDepth 100000
namespace Go.Proofs.YtfhghlpfeeiaeaaGreatDoor
open Go.RowKit Go.IntWalk
theorem flat_ext {D:Nat->List Value} {l:List Int} (h:∀ j (hj:j<l.length),D j=[.int .u8 l[j]]):flat D l.length=l.map (fun x=>Value.int .u8 x):=by
 have hl:∀ i,i<l.length->(D i).length=1:=fun i hi=>by rw [h i hi];rfl
 apply List.ext_getElem?
 intro i;by_cases hi:i<l.length
 ·have:=zCU (C:=D) (k:=1) l.length hl i 0 hi (by decide)
  rw [Nat.mul_one,Nat.add_zero] at this;rw [this,h i hi];simp [hi]
 ·rw [List.getElem?_eq_none (by rw [zBx (k:=1) l.length hl];omega),List.getElem?_eq_none (by rw [List.length_map];omega)]
theorem zCs {B:Nat} {w:World} {a:Option Addr} {n c:Nat} {l:List Int} (h:OwnL kByte B w (.slice a n c) l) (h0:0<l.length):∃ g cur,a=some ⟨g,0,none⟩/\B<=g/\w.heap[g]?=some (.cells cur 5 (0,0))/\(∀ i (hi:i<l.length),cur[i]?=some (.int .u8 l[i]))/\∀ m (hm:m<l.length) x,OwnL kByte B (w.setCell ⟨g,m,none⟩ (.int .u8 x)) (.slice a n c) (l.set m x):=by
 obtain ⟨D,⟨h1,h2⟩,h3⟩:=h;have hD:∀ j (hj:j<l.length),D j=[.int .u8 l[j]]:=fun j hj=>h3 j hj;have hf:=flat_ext hD;rcases h2 with ⟨e1,e2⟩ | ⟨g,cap,cur,e1,e2,e3,e4,e5,e6,e7⟩
 ·exact absurd e2 (by omega)
 injection e1 with q1 q2 q3;subst q1 q2 q3;have k1:kByte.k=1:=rfl;rw [k1,Nat.mul_one,hf] at e7;have hc:∀ i (hi:i<l.length),cur[i]?=some (.int .u8 l[i]):=fun i hi=>by
  rw [<-Array.getElem?_toList];have:(cur.toList.take l.length)[i]?=cur.toList[i]?:=List.getElem?_take_of_lt hi;rw [<-this,e7];simp [hi]
 refine ⟨g,cur,rfl,e2,e3,hc,fun m hm x=>⟨fun j=>[.int .u8 ((l.set m x).getD j 0)],⟨?_,.inr ⟨g,c,cur.setIfInBounds m (.int .u8 x),?_,e2,zBQ e3 m _,?_,e5,?_,?_⟩⟩,fun j hj=>?_⟩⟩
 ·rw [zBx (k:=1) _ (fun _ _=>rfl)];rfl
 ·rw [List.length_set]
 ·rw [List.length_set];exact e4
 ·rw [Array.size_setIfInBounds];exact e6
 ·have hg:flat (fun j=>[Value.int .u8 ((l.set m x).getD j 0)]) (l.set m x).length=(l.set m x).map (fun x=>Value.int .u8 x):=flat_ext fun j hj=>by simp only [List.getD_eq_getElem?_getD,List.getElem?_eq_getElem hj];rfl
  rw [hg,k1,Nat.mul_one,List.length_set,Array.toList_setIfInBounds,List.take_set,e7,List.map_set]
 ·show [Value.int .u8 ((l.set m x).getD j 0)]=[.int .u8 (l.set m x)[j]]
  simp only [List.getD_eq_getElem?_getD,List.getElem?_eq_getElem hj];rfl
theorem set_last {l:List Int} {m:Nat} (h:l.length=m+1) (x:Int):l.set m x=l.take m++[x]:=by
 have hm:m<l.length:=(by omega);have e:(l.set m x).length=m+1:=(by rw [List.length_set];exact h);have e2:=Sk.last1 e (by omega);rw [e2];simp only [List.take_set,List.getElem_set_self];rw [List.set_eq_of_length_le (by rw [List.length_take];omega)]
theorem tree48_any {ok CV:Nat->Prop} {w:World} {aV aI aO aR:Option Addr} {cV cI cO cR:Nat} {S:Sk.Sys} (hV:HVars ok w (.slice aV S.V.length cV) S.V) (gj:∀ v ∈ S.V,Sk.VrOk v) {aE:Option Addr} {nE cE:Nat} {E:List Pu} (hE:HPu CV w (.slice aE nE cE) E) (fo:E.length<=24) (bp:∀ p ∈ E,nmd p=true->0<=p.v/\p.v<S.V.length) (n:Int) (hn:1<=n/\n<=300) :
  Calls Tryz.prog 63 #[.agg #[.slice aV S.V.length cV,.slice aI S.I.length cI,.slice aO S.O.length cO,.slice aR S.R.length cR],.slice aE nE cE,.int .i64 n] w fun e w'=>∃ R:Int,e=.returned (.int .u8 R)/\Sk.treeL S.V n [] E=R/\Below w.heap.size w w':=by
 obtain ⟨ao,cap,ev,bH,cG,-⟩:=hE.at;injection ev with q1 q2 q3;subst q1 q2 q3;unfold maxLen at cG;obtain ⟨TR,wH⟩:=nmQ (Sk.treeL S.V n [] E);rw [<-wH];have HR:=zBK (show TR=Sk.treeL S.V n [] (E.drop 0) by rw [List.drop_zero];exact wH);obtain ⟨ne,hne⟩:=nmQ (E.length);rw [<-hne] at bH fo hE ⊢;have b1:Below w.heap.size w (w.alloc (.cells #[.slice aV S.V.length cV,.slice aI S.I.length cI,.slice aO S.O.length cO,.slice aR S.R.length cR] 26 (0,0))):=(Below.refl _ _).alloc zBR _;have kS:=zBO w (.cells #[.slice aV S.V.length cV,.slice aI S.I.length cI,.slice aO S.O.length cO,.slice aR S.R.length cR] 26 (0,0));have HE:=zBK (hE.under b1);have HV:=zBK (hV.under b1);have kv:=zBK gj;have jF:=zBK bp;have HN:=zBK hne;have jM:=hn.1;have qk:=hn.2;clear wH hE hV gj bp hne hn;go_enter Tryz.func63,Tryz.ntmps63;go_upto_region 1 with fail;generalize w.alloc (.cells #[.slice aV S.V.length cV,.slice aI S.I.length cI,.slice aO S.O.length cO,.slice aR S.R.length cR] 26 (0,0))=w1 at b1 kS HE HV ⊢;have jD:=zBM kS;go_wp2_with fail;go_loopg [7,8] ne (fun kk sv iv wr=>∃ (i:Nat) (st:List Int),i<=ne/\kk=ne-i/\iv=.int .i64 (i:Nat)/\Hid (TR=Sk.treeL S.V n st (E.drop i))/\Hid (Sk.Els st)/\Hid (st.length<=i)/\Hid (OwnL kByte w1.heap.size wr sv st)/\Below w1.heap.size w1 wr)
 case atStart=>exact ⟨0,[],Nat.zero_le _,rfl,rfl,HR,zBK (fun x hx=>by cases hx),zBK (Nat.zero_le _),zBK OwnL.nil,Below.refl _ _⟩
 case round=>
  clear HR;obtain ⟨i,st,hi,rfl,rfl,HT,nn,dy,cK,aH⟩:=hrel;obtain ⟨sa,sc,rfl,nc,kI⟩:=cK.out.form;unfold maxLen at kI;by_cases bd:i<ne
  case neg=>
   have bp:i=ne:=(by omega);subst bp;have e1:E.drop i=[]:=List.drop_of_length_le (by have:=HN.out;omega);have hZ:=HT.out;rw [e1] at hZ;unfold Sk.treeL at hZ;have HZ:=zBK hZ;clear hZ e1 HT;by_cases hl:st.length=1
   case pos=>
    obtain ⟨y,rfl⟩:∃ y,st=[y]:=List.length_eq_one_iff.1 hl;obtain ⟨vX,AU,mw,_,_,bo⟩:=(by_row cK.out.row).at;obtain ⟨bs,os,ea,p4,ct⟩:=bo 0 (by simp);injection mw with q1 q2 q3;subst q1 q3;subst ea;simp at ct;have tL:=zBK (show TR=y by rw [HZ.out];rfl);clear HZ bo cK q2 hl;go_wp2;go_ret;exact ⟨y,rfl,tL.out,b1.trans (aH.mono b1.size)⟩
   case neg=>
    have e2:((st.length:Int) != 1)=true:=(by simp;omega);have bQ:=zBK (show TR=0 by rw [HZ.out,if_neg hl]);clear HZ;generalize st.length=sl at *;go_wp2;go_ret;exact ⟨0,rfl,bQ.out,b1.trans (aH.mono b1.size)⟩
  case pos=>
   have dj:i<E.length:=(by have:=HN.out;omega);have hdr:E.drop i=E[i] :: E.drop (i+1):=List.drop_eq_getElem_cons dj;have bY:=HT.out;rw [hdr] at bY;obtain ⟨gw,dk,eqs,-,-,bg⟩:=(HE.out.under aH).at;injection eqs with q1 q2 q3;subst q1;obtain ⟨bb,o,rfl,hb,e0,e1,e2,e3⟩:=bg i dj;have mz:=jF.out E[i] (List.getElem_mem dj);obtain ⟨y,hy⟩:=nmQ (E[i]);rw [<-hy] at e0 e1 e2 e3 bY mz;clear hy;obtain ⟨op,k,v,x⟩:=y
   dsimp only at e0 e1 e2 e3 mz
   have bA:Below wr.heap.size wr (wr.alloc (.cells #[.int .i64 op,.int .i64 k,.int .i64 v,.int .i64 x] 66 (0,0))):=(Below.refl _ _).alloc zBR _;have BA:=aH.trans (bA.mono aH.size);have kV:=zBO wr (.cells #[.int .i64 op,.int .i64 k,.int .i64 v,.int .i64 x] 66 (0,0));have fY:=zBK (cK.out.below bA);have cq:=zBK bY;have EW:=zBK mz;clear bg q2 q3 hdr bY HT cK mz;go_upto_region 6 with fail;generalize wr.alloc (.cells #[.int .i64 op,.int .i64 k,.int .i64 v,.int .i64 x] 66 (0,0))=wa at bA BA kV fY ⊢;clear e0 e1 e2 e3;have v0:=coQ kV 0;have v1:=coQ kV 1;have v2:=coQ kV 2;have v3:=coQ kV 3;simp at v0 v1 v2 v3;have mD:=(BA.block _ jD).trans kS;have s0:=coQ mD 0;simp at s0;have zA:=BA.size;have yA:=zBM kV;clear bA;by_cases h1:op=1
   case pos=>
    as_aux_lemma=>
    subst h1;by_cases DY:k=0
    case pos=>
     subst DY;have q2:((st).length+1)*1<=140737488355328:=(by have:=dy.out;omega);have q3:(st).length+1<=maxLen:=(by unfold maxLen;have:=dy.out;omega);have dn:=zBK (fun k (hk:(Value.slice sa st.length sc).ownBlock=some k)=>(fY.out.lt k hk).2);have kp:=zBK (cq.out.trans (Sk.t_num0 v x));have fI:=zBK (nn.out.push (.inl rfl));have eR:=zBK (show (st++[105]).length<=i+1 by rw [List.length_append,List.length_singleton];have:=dy.out;omega)
     go_wp2_with (at_builtin;refine zBW kByte rfl _ _ 100 5 rfl Tryz.underlying100 w1.heap.size wa.heap.size _ (st) (by rfl) fY.out [.int .u8 105] 105 rfl (by rfl) dn.out zA zA q2 q3 ?_;intro v8 w8 aG b8 _ _;have di:=zBK aG;clear aG fY dn q2 q3)
     have B8:=BA.trans b8;go_roundg (ne-(i+1))
     case measure=>omega
     case rel=>exact ⟨i+1,_,by omega,rfl,by go_num,kp,fI,eR,di,B8⟩
    case neg=>
     by_cases fZ:k=1
     case pos=>
      subst fZ;by_cases nj:x=0
      case pos=>
       subst nj;have q2:((st).length+1)*1<=140737488355328:=(by have:=dy.out;omega);have q3:(st).length+1<=maxLen:=(by unfold maxLen;have:=dy.out;omega);have dn:=zBK (fun k (hk:(Value.slice sa st.length sc).ownBlock=some k)=>(fY.out.lt k hk).2);have kp:=zBK (cq.out.trans (Sk.t_num1 v (.inl rfl)));have fI:=zBK (nn.out.push (.inr rfl));have eR:=zBK (show (st++[98]).length<=i+1 by rw [List.length_append,List.length_singleton];have:=dy.out;omega)
       go_wp2_with (at_builtin;refine zBW kByte rfl _ _ 100 5 rfl Tryz.underlying100 w1.heap.size wa.heap.size _ (st) (by rfl) fY.out [.int .u8 98] 98 rfl (by rfl) dn.out zA zA q2 q3 ?_;intro v8 w8 aG b8 _ _;have di:=zBK aG;clear aG fY dn q2 q3)
       have B8:=BA.trans b8;go_roundg (ne-(i+1))
       case measure=>omega
       case rel=>exact ⟨i+1,_,by omega,rfl,by go_num,kp,fI,eR,di,B8⟩
      case neg=>
       by_cases nY:x=1
       case pos=>
        subst nY;have q2:((st).length+1)*1<=140737488355328:=(by have:=dy.out;omega);have q3:(st).length+1<=maxLen:=(by unfold maxLen;have:=dy.out;omega);have dn:=zBK (fun k (hk:(Value.slice sa st.length sc).ownBlock=some k)=>(fY.out.lt k hk).2);have kp:=zBK (cq.out.trans (Sk.t_num1 v (.inr rfl)));have fI:=zBK (nn.out.push (.inr rfl));have eR:=zBK (show (st++[98]).length<=i+1 by rw [List.length_append,List.length_singleton];have:=dy.out;omega)
        go_wp2_with (at_builtin;refine zBW kByte rfl _ _ 100 5 rfl Tryz.underlying100 w1.heap.size wa.heap.size _ (st) (by rfl) fY.out [.int .u8 98] 98 rfl (by rfl) dn.out zA zA q2 q3 ?_;intro v8 w8 aG b8 _ _;have di:=zBK aG;clear aG fY dn q2 q3)
        have B8:=BA.trans b8;go_roundg (ne-(i+1))
        case measure=>omega
        case rel=>exact ⟨i+1,_,by omega,rfl,by go_num,kp,fI,eR,di,B8⟩
       case neg=>
        have Hy:(x==0)=false:=(by simp [nj]);have Hz:(x==1)=false:=(by simp [nY]);have bQ:=zBK (show TR=0 from cq.out.trans (Sk.no_1 v (by decide) (fun _=>⟨nj,nY⟩)));go_wp2;go_ret;exact ⟨0,rfl,bQ.out,b1.trans (BA.mono b1.size)⟩
     case neg=>
      have bQ:=zBK (show TR=0 from cq.out.trans (Sk.no_1 v DY (fun e=>absurd e fZ)));go_wp2;go_ret;exact ⟨0,rfl,bQ.out,b1.trans (BA.mono b1.size)⟩
   case neg=>
    by_cases h2:op=2
    case pos=>
     as_aux_lemma=>
     subst h2;have CF:=EW.out rfl;obtain ⟨j,rfl⟩:∃ j:Nat,v=(j:Int):=⟨v.toNat,by omega⟩;have hj:j<S.V.length:=(by omega);obtain ⟨vY,wg,e3,sy,sA,gB⟩:=(HV.out.under BA).at;injection e3 with q1 q2 q3;obtain ⟨bV,oV,gV,yV,c0,c1⟩:=gB j hj;rw [gV] at q1;subst q1;have iz:Sk.vAt S.V (j:Int)=S.V[j]:=zBo hj;have fN:=kv.out S.V[j] (List.getElem_mem hj);obtain ⟨vv,hv⟩:=nmQ (S.V[j]);rw [<-hv] at c0 c1 iz fN;have jS:=zBK iz;have kn:=zBK fN;have ss:=fN.2;obtain ⟨el,vn⟩:=vv
     dsimp only at c0 c1 ss
     clear gB q2 q3 gV hv iz fN CF;by_cases dh:vn=0
     case pos=>
      subst dh;have q2:((st).length+1)*1<=140737488355328:=(by have:=dy.out;omega);have q3:(st).length+1<=maxLen:=(by unfold maxLen;have:=dy.out;omega);have dn:=zBK (fun k (hk:(Value.slice sa st.length sc).ownBlock=some k)=>(fY.out.lt k hk).2);have kp:=zBK (cq.out.trans ((Sk.t_sca k (j:Int) x (by rw [jS.out];exact kn.out) (by rw [jS.out])).trans (by rw [jS.out])));have fI:=zBK (nn.out.push kn.out.1);have eR:=zBK (show (st++[el]).length<=i+1 by rw [List.length_append,List.length_singleton];have:=dy.out;omega)
      go_wp2_with (at_builtin;refine zBW kByte rfl _ _ 100 5 rfl Tryz.underlying100 w1.heap.size wa.heap.size _ (st) (by rfl) fY.out [.int .u8 el] el rfl (by rfl) dn.out zA zA q2 q3 ?_;intro v8 w8 aG b8 _ _;have di:=zBK aG;clear aG fY dn q2 q3)
      have B8:=BA.trans b8;go_roundg (ne-(i+1))
      case measure=>omega
      case rel=>exact ⟨i+1,_,by omega,rfl,by go_num,kp,fI,eR,di,B8⟩
     case neg=>
      have sV:(vn != 0)=true:=(by simp [dh]);have bQ:=zBK (show TR=0 from cq.out.trans (Sk.no_2 k (j:Int) x (by rw [jS.out];exact kn.out) (by rw [jS.out];exact dh)));go_wp2;go_ret;exact ⟨0,rfl,bQ.out,b1.trans (BA.mono b1.size)⟩
    case neg=>
     by_cases h3:op=3
     case pos=>
      as_aux_lemma=>
      subst h3;have CF:=EW.out rfl;obtain ⟨j,rfl⟩:∃ j:Nat,v=(j:Int):=⟨v.toNat,by omega⟩;have hj:j<S.V.length:=(by omega);obtain ⟨vY,wg,e3,sy,sA,gB⟩:=(HV.out.under BA).at;injection e3 with q1 q2 q3;obtain ⟨bV,oV,gV,yV,c0,c1⟩:=gB j hj;rw [gV] at q1;subst q1;have iz:Sk.vAt S.V (j:Int)=S.V[j]:=zBo hj;have fN:=kv.out S.V[j] (List.getElem_mem hj);obtain ⟨vv,hv⟩:=nmQ (S.V[j]);rw [<-hv] at c0 c1 iz fN;have jS:=zBK iz;have kn:=zBK fN;have ss:=fN.2;obtain ⟨el,vn⟩:=vv
      dsimp only at c0 c1 ss
      clear gB q2 q3 gV hv iz fN CF;by_cases dh:vn=0
      case pos=>
       subst dh;have bQ:=zBK (show TR=0 from cq.out.trans (Sk.no_3 k (j:Int) x (.inl (by rw [jS.out]))));go_wp2;go_ret;exact ⟨0,rfl,bQ.out,b1.trans (BA.mono b1.size)⟩
      case neg=>
       have sV:(vn==0)=false:=(by simp [dh]);by_cases nj:x<0
       case pos=>
        have bQ:=zBK (show TR=0 from cq.out.trans (Sk.no_3 k (j:Int) x (.inr (.inl nj))));go_wp2;go_ret;exact ⟨0,rfl,bQ.out,b1.trans (BA.mono b1.size)⟩
       case neg=>
        by_cases hvc:vn<n
        case pos=>
         have bQ:=zBK (show TR=0 from cq.out.trans (Sk.no_3 k (j:Int) x (.inr (.inr (by rw [jS.out];show vn-n<x;omega)))));go_wp2;go_ret;exact ⟨0,rfl,bQ.out,b1.trans (BA.mono b1.size)⟩
        case neg=>
         by_cases hxc:vn-n<x
         case pos=>
          have bQ:=zBK (show TR=0 from cq.out.trans (Sk.no_3 k (j:Int) x (.inr (.inr (by rw [jS.out];exact hxc)))));go_wp2;go_ret;exact ⟨0,rfl,bQ.out,b1.trans (BA.mono b1.size)⟩
         case neg=>
          have q2:((st).length+1)*1<=140737488355328:=(by have:=dy.out;omega);have q3:(st).length+1<=maxLen:=(by unfold maxLen;have:=dy.out;omega);have dn:=zBK (fun k (hk:(Value.slice sa st.length sc).ownBlock=some k)=>(fY.out.lt k hk).2);have kp:=zBK (cq.out.trans ((Sk.t_arr k (j:Int) x (by rw [jS.out];exact kn.out) (by rw [jS.out];exact dh) (by omega) (by rw [jS.out];show x<=vn-n;omega)).trans (by rw [jS.out])));have fI:=zBK (nn.out.push kn.out.1);have eR:=zBK (show (st++[el]).length<=i+1 by rw [List.length_append,List.length_singleton];have:=dy.out;omega)
          go_wp2_with (at_builtin;refine zBW kByte rfl _ _ 100 5 rfl Tryz.underlying100 w1.heap.size wa.heap.size _ (st) (by rfl) fY.out [.int .u8 el] el rfl (by rfl) dn.out zA zA q2 q3 ?_;intro v8 w8 aG b8 _ _;have di:=zBK aG;clear aG fY dn q2 q3)
          have B8:=BA.trans b8;go_roundg (ne-(i+1))
          case measure=>omega
          case rel=>exact ⟨i+1,_,by omega,rfl,by go_num,kp,fI,eR,di,B8⟩
     case neg=>
      by_cases h4:op=4
      case pos=>
       as_aux_lemma=>
       subst h4;have cZ:=small79_any x;obtain ⟨q,hq⟩:=nmQ ((decide (-1000000<=x)&&decide (x<=1000000)));rw [<-hq] at cZ;have HQ:=zBK hq.symm;clear hq;go_wp2_with fail;refine (cZ _).mono ?_;rintro e w4 ⟨rfl,rfl⟩;clear cZ
       cases q
       case false=>
        have bQ:=zBK (show TR=0 from cq.out.trans (Sk.no_4 k v x HQ.out));go_wp2;go_ret;exact ⟨0,rfl,bQ.out,b1.trans (BA.mono b1.size)⟩
       case true=>
        have q2:((st).length+1)*1<=140737488355328:=(by have:=dy.out;omega);have q3:(st).length+1<=maxLen:=(by unfold maxLen;have:=dy.out;omega);have dn:=zBK (fun k (hk:(Value.slice sa st.length sc).ownBlock=some k)=>(fY.out.lt k hk).2);have kp:=zBK (cq.out.trans (Sk.t_idx k v x HQ.out));have fI:=zBK (nn.out.push (.inl rfl));have eR:=zBK (show (st++[105]).length<=i+1 by rw [List.length_append,List.length_singleton];have:=dy.out;omega)
        go_wp2_with (at_builtin;refine zBW kByte rfl _ _ 100 5 rfl Tryz.underlying100 w1.heap.size wa.heap.size _ (st) (by rfl) fY.out [.int .u8 105] 105 rfl (by rfl) dn.out zA zA q2 q3 ?_;intro v8 w8 aG b8 _ _;have di:=zBK aG;clear aG fY dn q2 q3)
        have B8:=BA.trans b8;go_roundg (ne-(i+1))
        case measure=>omega
        case rel=>exact ⟨i+1,_,by omega,rfl,by go_num,kp,fI,eR,di,B8⟩
      case neg=>
       by_cases h5:op=5
       case pos=>
        as_aux_lemma=>
        subst h5;have cZ:=zCb k;have eo:=Sk.opT_el k;obtain ⟨oq,qn⟩:=nmQ (Kd.opT k);rw [<-qn] at cZ eo;obtain ⟨ta,tb,tc⟩:=oq
        dsimp only at cZ eo
        have lU:=zBK qn.symm;have ys:=zBK eo;clear qn eo;go_wp2_with fail;refine (cZ _).mono ?_;rintro e w4 ⟨rfl,b4⟩;have B4:=BA.trans (b4.mono BA.size);have qT:=zBK (fY.out.below b4);have CN:=(b4.block _ yA).trans kV;clear cZ fY v0 v1 v2 v3 s0 kV mD;by_cases h1:tc=1
        case neg=>
         have N8:(tc != 1)=true:=(by simp [h1]);have bQ:=zBK (show TR=0 from cq.out.trans (Sk.no_5 v x lU.out (.inl h1)));generalize st.length=sl at *;go_wp2;go_ret;exact ⟨0,rfl,bQ.out,b1.trans (B4.mono b1.size)⟩
        case pos=>
         subst h1;by_cases gQ:st.length<1
         case pos=>
          have fW:(st.length:Int)<1:=(by omega);have bQ:=zBK (show TR=0 from cq.out.trans (Sk.no_5 v x lU.out (.inr (.inl gQ))));generalize st.length=sl at *;go_wp2;go_ret;exact ⟨0,rfl,bQ.out,b1.trans (B4.mono b1.size)⟩
         case neg=>
          obtain ⟨g,cur,rfl,Bw,kG,fV,gC⟩:=zCs qT.out (by omega);obtain ⟨m,hm⟩:∃ m,st.length=m+1:=⟨st.length-1,by omega⟩;have jX:m<st.length:=(by omega);have hL:=Sk.last1 hm jX;have cm:=coQ kG m;rw [fV m jX] at cm;have fm:=foQ kG m;have mJ:=gC m jX tb;rw [set_last hm] at mJ;have Aq:=zBK mJ;have rS:=zBK (show (st.take m++[tb]).length<=i+1 by have:=dy.out;simp;omega);have EK:=zBK (nn.out.take m);have ed:=zBK hL;have kJ:(st.length:Int)-1=(m:Int):=(by omega);have GY:¬(st.length:Int)<1:=(by omega);generalize st[m]=z at cm ed;have Qz:=zBK cm;by_cases hz:z=ta
          case neg=>
           have Ec:(z != ta)=true:=(by simp [hz]);have bQ:=zBK (show TR=0 from cq.out.trans (Sk.no_5 v x lU.out (.inr (.inr ⟨_,z,ed.out,hz⟩))));clear gC fV mJ hm hL;generalize st.length=sl at *;go_wp2;go_ret;exact ⟨0,rfl,bQ.out,b1.trans (B4.mono b1.size)⟩
          case pos=>
           subst hz;have kp:=zBK (cq.out.trans (Sk.t_un k v x lU.out ed.out));have fI:=zBK (EK.out.push (by rcases ys.out with h | h;cases h;exact h.2));have B5:=B4.setCell (p:=⟨g,m,none⟩) Bw (.int .u8 tb);clear gC fV mJ hm hL ed;rw [show (st.take m++[tb]).length=st.length by simp;omega] at rS;have MX:=zBK (show OwnL kByte w1.heap.size (w4.setCell ⟨g,m,none⟩ (.int .u8 tb)) (.slice (some ⟨g,0,none⟩) st.length sc) (st.take m++[tb]) from Aq.out);have eR:=zBK (show (st.take m++[tb]).length<=i+1 by have:=rS.out;simp;omega);clear Aq qT rS;generalize st.length=sl at *;go_wp2_with fail;go_roundg (ne-(i+1))
           case measure=>omega
           case rel=>exact ⟨i+1,_,by omega,rfl,by go_num,kp,fI,eR,MX,B5⟩
       case neg=>
        by_cases h6:op=6
        case pos=>
         as_aux_lemma=>
         subst h6;have cZ:=zCb k;have eo:=Sk.opT_el k;obtain ⟨oq,qn⟩:=nmQ (Kd.opT k);rw [<-qn] at cZ eo;obtain ⟨ta,tb,tc⟩:=oq
         dsimp only at cZ eo
         have lU:=zBK qn.symm;have ys:=zBK eo;clear qn eo;go_wp2_with fail;refine (cZ _).mono ?_;rintro e w4 ⟨rfl,b4⟩;have B4:=BA.trans (b4.mono BA.size);have qT:=zBK (fY.out.below b4);have CN:=(b4.block _ yA).trans kV;clear cZ fY v0 v1 v2 v3 s0 kV mD;by_cases h1:tc=2
         case neg=>
          have N8:(tc != 2)=true:=(by simp [h1]);have bQ:=zBK (show TR=0 from cq.out.trans (Sk.no_6 v x lU.out (.inl h1)));generalize st.length=sl at *;go_wp2;go_ret;exact ⟨0,rfl,bQ.out,b1.trans (B4.mono b1.size)⟩
         case pos=>
          subst h1;by_cases gQ:st.length<2
          case pos=>
           have fW:(st.length:Int)<2:=(by omega);have bQ:=zBK (show TR=0 from cq.out.trans (Sk.no_6 v x lU.out (.inr (.inl gQ))));generalize st.length=sl at *;go_wp2;go_ret;exact ⟨0,rfl,bQ.out,b1.trans (B4.mono b1.size)⟩
          case neg=>
           obtain ⟨g,cur,rfl,Bw,kG,fV,gC⟩:=zCs qT.out (by omega);obtain ⟨m,hm⟩:∃ m,st.length=m+2:=⟨st.length-2,by omega⟩;have jX:m<st.length:=(by omega);have fM:m+1<st.length:=(by omega);have ed:=zBK (Sk.last2 hm jX fM);have cm:=coQ kG m;rw [fV m jX] at cm;have cn:=coQ kG (m+1);rw [fV (m+1) fM] at cn;have sP:(st.length:Int)-1=((m+1:Nat):Int):=(by omega);have sQ:(st.length:Int)-2=(m:Int):=(by omega);have GY:¬(st.length:Int)<2:=(by omega);generalize st[m]=z at cm ed;generalize st[m+1]=y at cn ed;clear gC fV;by_cases hy:y=ta
           case neg=>
            have Rz:(y != ta)=true:=(by simp [hy]);have bQ:=zBK (show TR=0 from cq.out.trans (Sk.no_6 v x lU.out (.inr (.inr ⟨_,z,y,ed.out,.inl hy⟩))));clear hm;generalize st.length=sl at *;go_wp2;go_ret;exact ⟨0,rfl,bQ.out,b1.trans (B4.mono b1.size)⟩
           case pos=>
            subst hy;by_cases hz:z=y
            case neg=>
             have Ec:(z != y)=true:=(by simp [hz]);have bQ:=zBK (show TR=0 from cq.out.trans (Sk.no_6 v x lU.out (.inr (.inr ⟨_,z,y,ed.out,.inr hz⟩))));clear hm;generalize st.length=sl at *;go_wp2;go_ret;exact ⟨0,rfl,bQ.out,b1.trans (B4.mono b1.size)⟩
            case pos=>
             subst hz;have lY:=zBK (show (st.take m).length=m by rw [List.length_take];omega);have rM:=zBK (qT.out.cut (m:=m) (by omega));have fQ:=zBK (show m<=i by have:=dy.out;omega);have D1:m<=st.length:=(by omega);have z7:=B4.size;have q2:((st.take m).length+1)*1<=140737488355328:=(by rw [lY.out];have:=fQ.out;omega);have q3:(st.take m).length+1<=maxLen:=(by unfold maxLen;rw [lY.out];have:=fQ.out;omega);have dn:=zBK (fun k (hk:(Value.slice (some ⟨g,0,none⟩) m sc).ownBlock=some k)=>(rM.out.lt k hk).2);have kp:=zBK (cq.out.trans (Sk.t_bin k v x lU.out ed.out));have fI:=zBK ((nn.out.take m).push (by rcases ys.out with h | h;cases h;exact h.2));have eR:=zBK (show (st.take m++[tb]).length<=i+1 by rw [List.length_append,List.length_singleton];rw [lY.out];have:=fQ.out;omega);generalize st.length=sl at *
             go_wp2_with (at_builtin;refine zBW kByte rfl _ _ 100 5 rfl Tryz.underlying100 w1.heap.size w4.heap.size _ (st.take m) (by rfl) rM.out [.int .u8 tb] tb rfl (by rfl) dn.out z7 z7 q2 q3 ?_;intro v8 w8 aG b8 _ _;have di:=zBK aG;clear aG rM dn q2 q3)
             have B8:=B4.trans b8;go_roundg (ne-(i+1))
             case measure=>omega
             case rel=>exact ⟨i+1,_,by omega,rfl,by go_num,kp,fI,eR,di,B8⟩
        case neg=>
         by_cases h7:op=7
         case pos=>
          as_aux_lemma=>
          subst h7;by_cases gQ:st.length<3
          case pos=>
           have bQ:=zBK (show TR=0 from cq.out.trans (Sk.no_7 k v x (.inl gQ)));have fW:decide ((st.length:Int)<3)=true:=(by simp;omega);generalize st.length=sl at *;go_upto_region 39 with fail;refine zBP (fun w'=>Below wa.heap.size wa w') (fun _=>false) (by kernel_rfl) ?_;have ab:Below wa.heap.size wa wa.drew:=(Below.refl _ _).drew;generalize wa.drew=ag at ab ⊢;refine' tkR 0 196 ab ?o1
           refine' zBS (i:=1) (oi:=⟨some 197,_,_,_,_,_⟩) (v:=.bool true) rfl (by kernel_rfl) (by kernel_rfl) (by kernel_rfl) (by kernel_rfl) (fun _ _ _ h=>h) ab (by rfl) ?hyv ?o2
           case hyv=>
            intro wz hSw;go_simp
            try rw [fW]
            try rfl
            try simp [fW]
           try simp only [Act.put,sT,sZ,sS]
           refine' tkR 2 198 ab ?o3
           refine' tsQ 3 199 ab ?_
           refine' tsQ 4 200 ab ?_
           refine' tsQ 5 201 ab ?_
           refine' tsQ 6 202 ab ?_
           refine' tsQ 7 203 ab ?_
           refine' tsQ 8 204 ab ?_
           refine' tkR 9 205 ab ?o4
           refine' tkR 10 206 ab ?o5
           refine' tsQ 11 207 ab ?_
           refine' tsQ 12 208 ab ?_
           refine' tsQ 13 209 ab ?_
           refine' tsQ 14 210 ab ?_
           refine' tsQ 15 211 ab ?_
           refine' tsQ 16 212 ab ?_
           refine' tsQ 17 213 ab ?_
           refine' tsQ 18 214 ab ?_
           refine' tsQ 19 215 ab ?_
           refine' tsQ 20 216 ab ?_
           refine' tsQ 21 217 ab ?_
           refine' tkR 22 218 ab ?o6
           refine zBN (by kernel_rfl) ?_ _;have BX:=BA.trans (ab.mono BA.size);go_wp2;go_ret;exact ⟨0,rfl,bQ.out,b1.trans (BX.mono b1.size)⟩
          case neg=>
           obtain ⟨g,cur,rfl,Bw,kG,fV,gC⟩:=zCs fY.out (by omega);obtain ⟨m,hm⟩:∃ m,st.length=m+3:=⟨st.length-3,by omega⟩;have jX:m<st.length:=(by omega);have fM:m+1<st.length:=(by omega);have jW:m+2<st.length:=(by omega);have ed:=zBK (Sk.last3 hm jX fM jW);have FJ:=zBK (nn.out.at jW);have cm:=coQ kG m;rw [fV m jX] at cm;have cn:=coQ kG (m+1);rw [fV (m+1) fM] at cn;have cp:=coQ kG (m+2);rw [fV (m+2) jW] at cp;have yG:=zBM kG;generalize st[m]=z at cm ed;generalize st[m+1]=y at cn ed;generalize st[m+2]=u at cp ed FJ;have Hv:IntKind.i64.wrap (m:Int)=(m:Int):=i64_in _ ⟨by omega,by omega⟩;have iA:IntKind.i64.wrap ((m+1:Nat):Int)=((m+1:Nat):Int):=i64_in _ ⟨by omega,by omega⟩;have Hw:IntKind.i64.wrap ((m:Int)+1)=(m:Int)+1:=i64_in _ ⟨by omega,by omega⟩;have p9:0<=(m:Int)+1/\(m:Int)+1<(st.length:Int):=(by omega);have l7:IntKind.i64.wrap ((m+2:Nat):Int)=((m+2:Nat):Int):=i64_in _ ⟨by omega,by omega⟩;have Pt:IntKind.i64.wrap ((m:Int)+2)=(m:Int)+2:=i64_in _ ⟨by omega,by omega⟩;have Cz:((m:Int)+2).toNat=m+2:=(by omega);have gW:0<=(m:Int)+2/\(m:Int)+2<(st.length:Int):=(by omega);have sP:(st.length:Int)-1=((m+2:Nat):Int):=(by omega);have sQ:(st.length:Int)-2=((m+1:Nat):Int):=(by omega);have Hk:(st.length:Int)-3=(m:Int):=(by omega);have fW:decide ((st.length:Int)<3)=false:=(by simp;omega);obtain ⟨q2,aY⟩:=nmQ ((z != 98));obtain ⟨q3,da⟩:=nmQ ((y != u));have eK:=zBK aY;have ja:=zBK da;have Ap:=zBK (fun (e:q2=true)=>cq.out.trans (Sk.no_7 k v x (.inr ⟨_,z,y,u,ed.out,.inl (by rw [aY] at e;simpa using e)⟩)));have Fm:=zBK (fun (e:q3=true)=>cq.out.trans (Sk.no_7 k v x (.inr ⟨_,z,y,u,ed.out,.inr (by rw [da] at e;simpa using e)⟩)));clear gC fV aY da;obtain ⟨sl,kJ⟩:=nmQ (st.length);have jn:=zBK kJ;have dF:=zBK (show OwnL kByte w1.heap.size wa (.slice (some ⟨g,0,none⟩) sl sc) st by rw [kJ];exact fY.out);clear fY;rw [<-kJ] at p9 gW jX fM jW sP sQ Hk fW nc hm ⊢;clear kJ hm;go_upto_region 39 with fail;have aM:=zBK (fun (wz:World) (hSw:Below wa.heap.size wa wz)=>And.intro ((hSw.cell (p:=⟨g,m,none⟩) yG).trans cm) (And.intro ((hSw.cell (p:=⟨g,m+1,none⟩) yG).trans cn) ((hSw.cell (p:=⟨g,m+2,none⟩) yG).trans cp)));refine zBP (fun w'=>Below wa.heap.size wa w') (fun _=>false) (by kernel_rfl) ?_;have ab:Below wa.heap.size wa wa.drew:=(Below.refl _ _).drew;generalize wa.drew=ag at ab ⊢;refine' tkR 0 196 ab ?o7
           refine' zBS (i:=1) (oi:=⟨some 197,_,_,_,_,_⟩) (v:=.bool false) rfl (by kernel_rfl) (by kernel_rfl) (by kernel_rfl) (by kernel_rfl) (fun _ _ _ h=>h) ab (by rfl) ?hyv ?o8
           case hyv=>
            intro wz hSw;go_simp
            try rw [fW]
            try rfl
            try simp [fW]
           try simp only [Act.put,sT,sZ,sS]
           refine' tkR 2 198 ab ?o9
           refine' tkR 3 199 ab ?o10
           refine' tkR 4 200 ab ?o11
           refine' tkR 5 201 ab ?o12
           refine' tkR 6 202 ab ?o13
           refine' tkQ 7 203 ab ?hyv ?o14
           case hyv=>
            intro wz hSw;have bk:=aM.out wz hSw;go_simp
            try rfl
           try simp only [Act.put,sT,sZ,sS]
           refine' zBS (i:=8) (oi:=⟨some 204,_,_,_,_,_⟩) (v:=.bool q2) rfl (by kernel_rfl) (by kernel_rfl) (by kernel_rfl) (by kernel_rfl) (fun _ _ _ h=>h) ab (by rfl) ?hyv ?o15
           case hyv=>
            intro wz hSw;go_simp;rw [eK.out]
            try rfl
           try simp only [Act.put,sT,sZ,sS]
           refine' tkR 9 205 ab ?o16
           refine' tkR 10 206 ab ?o17
           cases q2
           case false=>
            refine' tkR 11 207 ab ?o18
            refine' tkR 12 208 ab ?o19
            refine' tkR 13 209 ab ?o20
            refine' tkR 14 210 ab ?o21
            refine' tkQ 15 211 ab ?hyv ?o22
            case hyv=>
             intro wz hSw;have bk:=aM.out wz hSw;go_simp
             try rfl
            try simp only [Act.put,sT,sZ,sS]
            refine' tkR 16 212 ab ?o23
            refine' tkR 17 213 ab ?o24
            refine' tkR 18 214 ab ?o25
            refine' tkR 19 215 ab ?o26
            refine' tkQ 20 216 ab ?hyv ?o27
            case hyv=>
             intro wz hSw;have bk:=aM.out wz hSw;go_simp
             try rfl
            try simp only [Act.put,sT,sZ,sS]
            refine' zBS (i:=21) (oi:=⟨some 217,_,_,_,_,_⟩) (v:=.bool q3) rfl (by kernel_rfl) (by kernel_rfl) (by kernel_rfl) (by kernel_rfl) (fun _ _ _ h=>h) ab (by rfl) ?hyv ?o28
            case hyv=>
             intro wz hSw;go_simp;rw [ja.out]
             try rfl
            try simp only [Act.put,sT,sZ,sS]
            refine' tkR 22 218 ab ?o29
            refine zBN (by kernel_rfl) ?_ _;obtain ⟨wx,gm⟩:=nmQ (ag);subst gm;have bX:=ab;have BX:=BA.trans (bX.mono BA.size)
            cases q3
            case true=>
             have bQ:=zBK (Fm.out rfl);go_wp2;go_ret;exact ⟨0,rfl,bQ.out,b1.trans (BX.mono b1.size)⟩
            case false=>
             have hz:z=98:=(by have:=eK.out;simpa using this.symm);have hy:y=u:=(by have:=ja.out;simpa using this.symm);subst hz hy;have og:=zBK (dF.out.below bX);have NC:=(bX.cell (p:=⟨g,m+2,none⟩) yG).trans cp;have RU:=Nat.lt_of_lt_of_le yG bX.size;have kp:=zBK (cq.out.trans (Sk.t_sel k v x (a:=y) (by rcases FJ.out with h | h<;>rw [h]<;>decide) ed.out));have fI:=zBK ((nn.out.take m).push FJ.out);have lY:=zBK (show (st.take m).length=m by rw [List.length_take,<-jn.out];omega);have eR:=zBK (show (st.take m++[y]).length<=i+1 by rw [List.length_append,lY.out,List.length_singleton];have:=dy.out;rw [<-jn.out] at this;omega);have vP:=zBK (show OwnL kByte w1.heap.size wx (.slice (some ⟨g,0,none⟩) m sc) (st.take m) from OwnL.cut (n:=sl) og.out (by rw [<-jn.out];omega));have q5:((st.take m).length+1)*1<=140737488355328:=(by rw [lY.out];have:=dy.out;rw [<-jn.out] at this;omega);have q6:(st.take m).length+1<=maxLen:=(by rw [lY.out];have:=dy.out;rw [<-jn.out] at this;unfold maxLen;omega);have zx:=BX.size;have Lu:m<=sc:=(by omega);have D1:m<=sl:=(by omega);clear og dF cm cn cp;go_upto_region 41 with fail;refine zBP (fun w'=>Below w1.heap.size wx w') (fun _=>false) (by kernel_rfl) ?_;have ab:Below w1.heap.size wx wx.drew:=(Below.refl _ _).drew;have mK:OwnL kByte w1.heap.size wx.drew (.slice (some ⟨g,0,none⟩) m sc) (st.take m):=vP.out;have cP:wx.drew.cell? ⟨g,m+2,none⟩=some (.int .u8 y):=NC;generalize wx.drew=ag at ab mK cP ⊢;refine' tkR 0 219 ab ?o30
             refine' tkR 1 220 ab ?o31
             refine' tkR 2 221 ab ?o32
             refine' tkR 3 222 ab ?o33
             refine' tkR 4 223 ab ?o34
             refine' tkR 5 224 ab ?o35
             refine' tkR 6 225 ab ?o36
             refine' tkR 7 226 ab ?o37
             refine tnQ 8 (fun K hK=>?_);go_simp;refine hK.out _ _ (fun _=>ab) ?_;clear hK K cP
             try simp only [Act.put,sT,sZ,sS]
             generalize ag=aw at ab mK ⊢;have af:=ab;refine tnQ 9 (fun K hK=>?_);go_simp;have ay:Below w1.heap.size wx (aw.alloc (.cells #[.int .u8 y] 5 (0,0))):=af.alloc (Nat.le_trans zx af.size) _;refine hK.out _ _ (fun _=>ay) ?_;clear hK K
             try simp only [Act.put,sT,sZ,sS]
             refine tnQ 10 (fun K hK=>?_);refine zCi kByte _ _ 100 5 rfl Tryz.underlying100 w1.heap.size _ _ (by rfl) mK [.int .u8 y] y rfl (by rfl) (Nat.le_trans zx af.size) q5 q6 ?_;intro v8 bF aG b8;have di:=zBK aG;clear aG;have aD:Below w1.heap.size wx bF:=af.trans b8;refine hK.out _ _ (fun _=>aD) ?_;clear hK K
             try simp only [Act.put,sT,sZ,sS]
             refine' tkR 11 7 aD ?o38
             refine zBN (by kernel_rfl) ?_ _;have B8:=BX.trans aD;go_wp2_with fail;go_roundg (ne-(i+1))
             case measure=>omega
             case rel=>exact ⟨i+1,_,by omega,rfl,by go_num,kp,fI,eR,di,B8⟩
           case true=>
            refine' tsQ 11 207 ab ?_
            refine' tsQ 12 208 ab ?_
            refine' tsQ 13 209 ab ?_
            refine' tsQ 14 210 ab ?_
            refine' tsQ 15 211 ab ?_
            refine' tsQ 16 212 ab ?_
            refine' tsQ 17 213 ab ?_
            refine' tsQ 18 214 ab ?_
            refine' tsQ 19 215 ab ?_
            refine' tsQ 20 216 ab ?_
            refine' tsQ 21 217 ab ?_
            refine' tkR 22 218 ab ?o39
            refine zBN (by kernel_rfl) ?_ _;obtain ⟨wx,gm⟩:=nmQ (ag);subst gm;have bX:=ab;have BX:=BA.trans (bX.mono BA.size);have bQ:=zBK (Ap.out rfl);go_wp2;go_ret;exact ⟨0,rfl,bQ.out,b1.trans (BX.mono b1.size)⟩
         case neg=>
          by_cases h8:op=8
          case pos=>
           as_aux_lemma=>
           subst h8;have CF:=EW.out rfl;obtain ⟨j,rfl⟩:∃ j:Nat,v=(j:Int):=⟨v.toNat,by omega⟩;have hj:j<S.V.length:=(by omega);obtain ⟨vY,wg,e3,sy,sA,gB⟩:=(HV.out.under BA).at;injection e3 with q1 q2 q3;obtain ⟨bV,oV,gV,yV,c0,c1⟩:=gB j hj;rw [gV] at q1;subst q1;have iz:Sk.vAt S.V (j:Int)=S.V[j]:=zBo hj;have fN:=kv.out S.V[j] (List.getElem_mem hj);obtain ⟨vv,hv⟩:=nmQ (S.V[j]);rw [<-hv] at c0 c1 iz fN;have jS:=zBK iz;have kn:=zBK fN;have ss:=fN.2;obtain ⟨el,vn⟩:=vv
           dsimp only at c0 c1 ss
           clear gB q2 q3 gV hv iz fN CF;have bC:Below wa.heap.size wa (wa.alloc (.cells #[.int .u8 el,.int .i64 vn] 39 (0,0))):=(Below.refl _ _).alloc zBR _;have BC:=BA.trans (bC.mono BA.size);have kC:=zBO wa (.cells #[.int .u8 el,.int .i64 vn] 39 (0,0));have tG:=zBK (fY.out.below bC);clear fY;go_upto_region 44 with fail;generalize (wa.alloc (.cells #[.int .u8 el,.int .i64 vn] 39 (0,0)))=wc at bC BC kC tG ⊢;have d0:=coQ kC 0;have d1:=coQ kC 1;simp at d0 d1;have yC:=zBM kC;have zC:=BC.size;clear v0 v1 v2 v3 s0 mD kV c0 c1 bC;by_cases dh:vn=0
           case pos=>
            subst dh;have bQ:=zBK (show TR=0 from cq.out.trans (Sk.no_8 k (j:Int) x (.inl (by rw [jS.out]))));generalize st.length=sl at *;refine zBP (fun w'=>Below wc.heap.size wc w') (fun _=>false) (by kernel_rfl) ?_;have ab:Below wc.heap.size wc wc.drew:=(Below.refl _ _).drew;generalize wc.drew=ag at ab ⊢;refine' tkR 0 238 ab ?o40
            refine' tkQ 1 239 ab ?hyv ?o41
            case hyv=>
             intro wz hSw;have aq:=(hSw.cell (p:=⟨wa.heap.size,0,none⟩) yC).trans d0;have av:=(hSw.cell (p:=⟨wa.heap.size,1,none⟩) yC).trans d1;go_simp
             try rfl
            try simp only [Act.put,sT,sZ,sS]
            refine' zBS (i:=2) (oi:=⟨some 240,_,_,_,_,_⟩) (v:=.bool true) rfl (by kernel_rfl) (by kernel_rfl) (by kernel_rfl) (by kernel_rfl) (fun _ _ _ h=>h) ab (by rfl) ?hyv ?o42
            case hyv=>
             intro wz hSw;go_simp
             try rfl
            try simp only [Act.put,sT,sZ,sS]
            refine' tkR 3 241 ab ?o43
            refine' tsQ 4 242 ab ?_
            refine' tsQ 5 243 ab ?_
            refine' tkR 6 244 ab ?o44
            refine' tkR 7 245 ab ?o45
            refine' tsQ 8 246 ab ?_
            refine' tsQ 9 247 ab ?_
            refine' tsQ 10 248 ab ?_
            refine' tsQ 11 249 ab ?_
            refine' tsQ 12 250 ab ?_
            refine' tsQ 13 251 ab ?_
            refine' tkR 14 252 ab ?o46
            refine' tkR 15 253 ab ?o47
            refine' tsQ 16 254 ab ?_
            refine' tsQ 17 255 ab ?_
            refine' tsQ 18 256 ab ?_
            refine' tsQ 19 257 ab ?_
            refine' tsQ 20 258 ab ?_
            refine' tsQ 21 259 ab ?_
            refine' tsQ 22 260 ab ?_
            refine' tsQ 23 261 ab ?_
            refine' tkR 24 262 ab ?o48
            refine zBN (by kernel_rfl) ?_ _;have BX:=BC.trans (ab.mono BC.size);go_wp2;go_ret;exact ⟨0,rfl,bQ.out,b1.trans (BX.mono b1.size)⟩
           case neg=>
            have sV:(vn==0)=false:=(by simp [dh]);by_cases gQ:st.length<2
            case pos=>
             have bQ:=zBK (show TR=0 from cq.out.trans (Sk.no_8 k (j:Int) x (.inr (.inl gQ))));have fW:decide ((st.length:Int)<2)=true:=(by simp;omega);generalize st.length=sl at *;refine zBP (fun w'=>Below wc.heap.size wc w') (fun _=>false) (by kernel_rfl) ?_;have ab:Below wc.heap.size wc wc.drew:=(Below.refl _ _).drew;generalize wc.drew=ag at ab ⊢;refine' tkR 0 238 ab ?o49
             refine' tkQ 1 239 ab ?hyv ?o50
             case hyv=>
              intro wz hSw;have aq:=(hSw.cell (p:=⟨wa.heap.size,0,none⟩) yC).trans d0;have av:=(hSw.cell (p:=⟨wa.heap.size,1,none⟩) yC).trans d1;go_simp
              try rfl
             try simp only [Act.put,sT,sZ,sS]
             refine' zBS (i:=2) (oi:=⟨some 240,_,_,_,_,_⟩) (v:=.bool false) rfl (by kernel_rfl) (by kernel_rfl) (by kernel_rfl) (by kernel_rfl) (fun _ _ _ h=>h) ab (by rfl) ?hyv ?o51
             case hyv=>
              intro wz hSw;go_simp
              try rw [sV]
              try rfl
             try simp only [Act.put,sT,sZ,sS]
             refine' tkR 3 241 ab ?o52
             refine' tkR 4 242 ab ?o53
             refine' zBS (i:=5) (oi:=⟨some 243,_,_,_,_,_⟩) (v:=.bool true) rfl (by kernel_rfl) (by kernel_rfl) (by kernel_rfl) (by kernel_rfl) (fun _ _ _ h=>h) ab (by rfl) ?hyv ?o54
             case hyv=>
              intro wz hSw;go_simp
              try rw [fW]
              try rfl
              try simp [fW]
             try simp only [Act.put,sT,sZ,sS]
             refine' tkR 6 244 ab ?o55
             refine' tkR 7 245 ab ?o56
             refine' tsQ 8 246 ab ?_
             refine' tsQ 9 247 ab ?_
             refine' tsQ 10 248 ab ?_
             refine' tsQ 11 249 ab ?_
             refine' tsQ 12 250 ab ?_
             refine' tsQ 13 251 ab ?_
             refine' tkR 14 252 ab ?o57
             refine' tkR 15 253 ab ?o58
             refine' tsQ 16 254 ab ?_
             refine' tsQ 17 255 ab ?_
             refine' tsQ 18 256 ab ?_
             refine' tsQ 19 257 ab ?_
             refine' tsQ 20 258 ab ?_
             refine' tsQ 21 259 ab ?_
             refine' tsQ 22 260 ab ?_
             refine' tsQ 23 261 ab ?_
             refine' tkR 24 262 ab ?o59
             refine zBN (by kernel_rfl) ?_ _;have BX:=BC.trans (ab.mono BC.size);go_wp2;go_ret;exact ⟨0,rfl,bQ.out,b1.trans (BX.mono b1.size)⟩
            case neg=>
             obtain ⟨g,cur,rfl,Bw,kG,fV,gC⟩:=zCs tG.out (by omega);obtain ⟨m,hm⟩:∃ m,st.length=m+2:=⟨st.length-2,by omega⟩;have jX:m<st.length:=(by omega);have fM:m+1<st.length:=(by omega);have ed:=zBK (Sk.last2 hm jX fM);have cm:=coQ kG m;rw [fV m jX] at cm;have cn:=coQ kG (m+1);rw [fV (m+1) fM] at cn;have yG:=zBM kG;generalize st[m]=z at cm ed;generalize st[m+1]=u at cn ed;have Hv:IntKind.i64.wrap (m:Int)=(m:Int):=i64_in _ ⟨by omega,by omega⟩;have iA:IntKind.i64.wrap ((m+1:Nat):Int)=((m+1:Nat):Int):=i64_in _ ⟨by omega,by omega⟩;have Hw:IntKind.i64.wrap ((m:Int)+1)=(m:Int)+1:=i64_in _ ⟨by omega,by omega⟩;have p9:0<=(m:Int)+1/\(m:Int)+1<(st.length:Int):=(by omega);have sP:(st.length:Int)-1=((m+1:Nat):Int):=(by omega);have sQ:(st.length:Int)-2=(m:Int):=(by omega);have fW:decide ((st.length:Int)<2)=false:=(by simp;omega);obtain ⟨q2,aY⟩:=nmQ ((z != 105));obtain ⟨q3,da⟩:=nmQ ((u != el));have eK:=zBK aY;have ja:=zBK da;have Ap:=zBK (fun (e:q2=true)=>cq.out.trans (Sk.no_8 k (j:Int) x (.inr (.inr ⟨_,z,u,ed.out,.inl (by rw [aY] at e;simpa using e)⟩))));have Fm:=zBK (fun (e:q3=true)=>cq.out.trans (Sk.no_8 k (j:Int) x (.inr (.inr ⟨_,z,u,ed.out,.inr (by rw [jS.out];rw [da] at e;simpa using e)⟩))));clear gC fV aY da;obtain ⟨sl,kJ⟩:=nmQ (st.length);have jn:=zBK kJ;have dF:=zBK (show OwnL kByte w1.heap.size wc (.slice (some ⟨g,0,none⟩) sl sc) st by rw [kJ];exact tG.out);clear tG;rw [<-kJ] at p9 jX fM sP sQ fW nc hm ⊢;clear kJ hm;have aM:=zBK (fun (wz:World) (hSw:Below wc.heap.size wc wz)=>And.intro ((hSw.cell (p:=⟨wa.heap.size,0,none⟩) yC).trans d0) (And.intro ((hSw.cell (p:=⟨wa.heap.size,1,none⟩) yC).trans d1) (And.intro ((hSw.cell (p:=⟨g,m,none⟩) yG).trans cm) ((hSw.cell (p:=⟨g,m+1,none⟩) yG).trans cn))));refine zBP (fun w'=>Below wc.heap.size wc w') (fun _=>false) (by kernel_rfl) ?_;have ab:Below wc.heap.size wc wc.drew:=(Below.refl _ _).drew;generalize wc.drew=ag at ab ⊢;refine' tkR 0 238 ab ?o60
             refine' tkQ 1 239 ab ?hyv ?o61
             case hyv=>
              intro wz hSw;have bk:=aM.out wz hSw;go_simp
              try rfl
             try simp only [Act.put,sT,sZ,sS]
             refine' zBS (i:=2) (oi:=⟨some 240,_,_,_,_,_⟩) (v:=.bool false) rfl (by kernel_rfl) (by kernel_rfl) (by kernel_rfl) (by kernel_rfl) (fun _ _ _ h=>h) ab (by rfl) ?hyv ?o62
             case hyv=>
              intro wz hSw;go_simp
              try rw [sV]
              try rfl
             try simp only [Act.put,sT,sZ,sS]
             refine' tkR 3 241 ab ?o63
             refine' tkR 4 242 ab ?o64
             refine' zBS (i:=5) (oi:=⟨some 243,_,_,_,_,_⟩) (v:=.bool false) rfl (by kernel_rfl) (by kernel_rfl) (by kernel_rfl) (by kernel_rfl) (fun _ _ _ h=>h) ab (by rfl) ?hyv ?o65
             case hyv=>
              intro wz hSw;go_simp
              try rw [fW]
              try rfl
              try simp [fW]
             try simp only [Act.put,sT,sZ,sS]
             refine' tkR 6 244 ab ?o66
             refine' tkR 7 245 ab ?o67
             refine' tkR 8 246 ab ?o68
             refine' tkR 9 247 ab ?o69
             refine' tkR 10 248 ab ?o70
             refine' tkR 11 249 ab ?o71
             refine' tkQ 12 250 ab ?hyv ?o72
             case hyv=>
              intro wz hSw;have bk:=aM.out wz hSw;go_simp
              try rfl
             try simp only [Act.put,sT,sZ,sS]
             refine' zBS (i:=13) (oi:=⟨some 251,_,_,_,_,_⟩) (v:=.bool q2) rfl (by kernel_rfl) (by kernel_rfl) (by kernel_rfl) (by kernel_rfl) (fun _ _ _ h=>h) ab (by rfl) ?hyv ?o73
             case hyv=>
              intro wz hSw;go_simp;rw [eK.out]
              try rfl
             try simp only [Act.put,sT,sZ,sS]
             refine' tkR 14 252 ab ?o74
             refine' tkR 15 253 ab ?o75
             cases q2
             case false=>
              refine' tkR 16 254 ab ?o76
              refine' tkR 17 255 ab ?o77
              refine' tkR 18 256 ab ?o78
              refine' tkR 19 257 ab ?o79
              refine' tkQ 20 258 ab ?hyv ?o80
              case hyv=>
               intro wz hSw;have bk:=aM.out wz hSw;go_simp
               try rfl
              try simp only [Act.put,sT,sZ,sS]
              refine' tkR 21 259 ab ?o81
              refine' tkQ 22 260 ab ?hyv ?o82
              case hyv=>
               intro wz hSw;have bk:=aM.out wz hSw;go_simp
               try rfl
              try simp only [Act.put,sT,sZ,sS]
              refine' zBS (i:=23) (oi:=⟨some 261,_,_,_,_,_⟩) (v:=.bool q3) rfl (by kernel_rfl) (by kernel_rfl) (by kernel_rfl) (by kernel_rfl) (fun _ _ _ h=>h) ab (by rfl) ?hyv ?o83
              case hyv=>
               intro wz hSw;go_simp;rw [ja.out]
               try rfl
              try simp only [Act.put,sT,sZ,sS]
              refine' tkR 24 262 ab ?o84
              refine zBN (by kernel_rfl) ?_ _;obtain ⟨wx,gm⟩:=nmQ (ag);subst gm;have bX:=ab;have BX:=BC.trans (bX.mono BC.size)
              cases q3
              case true=>
               have bQ:=zBK (Fm.out rfl);go_wp2;go_ret;exact ⟨0,rfl,bQ.out,b1.trans (BX.mono b1.size)⟩
              case false=>
               have hz:z=105:=(by have:=eK.out;simpa using this.symm);have hy:u=el:=(by have:=ja.out;simpa using this.symm);subst hz hy;have og:=zBK (dF.out.below bX);have NI:=(bX.cell (p:=⟨wa.heap.size,0,none⟩) yC).trans d0;have RS:=Nat.lt_of_lt_of_le yC bX.size;have kp:=zBK (cq.out.trans ((Sk.t_at k (j:Int) x (by rw [jS.out];exact kn.out) (by rw [jS.out];exact dh) (by rw [jS.out];exact ed.out)).trans (by rw [jS.out])));have fI:=zBK ((nn.out.take m).push kn.out.1);have lY:=zBK (show (st.take m).length=m by rw [List.length_take,<-jn.out];omega);have eR:=zBK (show (st.take m++[u]).length<=i+1 by rw [List.length_append,lY.out,List.length_singleton];have:=dy.out;rw [<-jn.out] at this;omega);have vP:=zBK (show OwnL kByte w1.heap.size wx (.slice (some ⟨g,0,none⟩) m sc) (st.take m) from OwnL.cut (n:=sl) og.out (by rw [<-jn.out];omega));have q5:((st.take m).length+1)*1<=140737488355328:=(by rw [lY.out];have:=dy.out;rw [<-jn.out] at this;omega);have q6:(st.take m).length+1<=maxLen:=(by rw [lY.out];have:=dy.out;rw [<-jn.out] at this;unfold maxLen;omega);have zx:=BX.size;have Lu:m<=sc:=(by omega);have D1:m<=sl:=(by omega);clear og dF cm cn d0 d1;go_upto_region 46 with fail;refine zBP (fun w'=>Below w1.heap.size wx w') (fun _=>false) (by kernel_rfl) ?_;have ab:Below w1.heap.size wx wx.drew:=(Below.refl _ _).drew;have mK:OwnL kByte w1.heap.size wx.drew (.slice (some ⟨g,0,none⟩) m sc) (st.take m):=vP.out;have cP:wx.drew.cell? ⟨wa.heap.size,0,none⟩=some (.int .u8 u):=NI;generalize wx.drew=ag at ab mK cP ⊢;refine' tkR 0 263 ab ?o85
               refine' tkR 1 264 ab ?o86
               refine' tkR 2 265 ab ?o87
               refine' tkR 3 266 ab ?o88
               refine' tkR 4 267 ab ?o89
               refine tnQ 5 (fun K hK=>?_);go_simp;refine hK.out _ _ (fun _=>ab) ?_;clear hK K cP
               try simp only [Act.put,sT,sZ,sS]
               generalize ag=aw at ab mK ⊢;have af:=ab;refine tnQ 6 (fun K hK=>?_);go_simp;have ay:Below w1.heap.size wx (aw.alloc (.cells #[.int .u8 u] 5 (0,0))):=af.alloc (Nat.le_trans zx af.size) _;refine hK.out _ _ (fun _=>ay) ?_;clear hK K
               try simp only [Act.put,sT,sZ,sS]
               refine tnQ 7 (fun K hK=>?_);refine zCi kByte _ _ 100 5 rfl Tryz.underlying100 w1.heap.size _ _ (by rfl) mK [.int .u8 u] u rfl (by rfl) (Nat.le_trans zx af.size) q5 q6 ?_;intro v8 bF aG b8;have di:=zBK aG;clear aG;have aD:Below w1.heap.size wx bF:=af.trans b8;refine hK.out _ _ (fun _=>aD) ?_;clear hK K
               try simp only [Act.put,sT,sZ,sS]
               refine' tkR 8 7 aD ?o90
               refine zBN (by kernel_rfl) ?_ _;have B8:=BX.trans aD;go_wp2_with fail;go_roundg (ne-(i+1))
               case measure=>omega
               case rel=>exact ⟨i+1,_,by omega,rfl,by go_num,kp,fI,eR,di,B8⟩
             case true=>
              refine' tsQ 16 254 ab ?_
              refine' tsQ 17 255 ab ?_
              refine' tsQ 18 256 ab ?_
              refine' tsQ 19 257 ab ?_
              refine' tsQ 20 258 ab ?_
              refine' tsQ 21 259 ab ?_
              refine' tsQ 22 260 ab ?_
              refine' tsQ 23 261 ab ?_
              refine' tkR 24 262 ab ?o91
              refine zBN (by kernel_rfl) ?_ _;obtain ⟨wx,gm⟩:=nmQ (ag);subst gm;have bX:=ab;have BX:=BC.trans (bX.mono BC.size);have bQ:=zBK (Ap.out rfl);go_wp2;go_ret;exact ⟨0,rfl,bQ.out,b1.trans (BX.mono b1.size)⟩
          case neg=>
           have bQ:=zBK (show TR=0 from cq.out.trans (Sk.no_op k v x ⟨h1,h2,h3,h4,h5,h6,h7,h8⟩));generalize st.length=sl at *;go_wp2;go_ret;exact ⟨0,rfl,bQ.out,b1.trans (BA.mono b1.size)⟩
end Go.Proofs.YtfhghlpfeeiaeaaGreatDoor
