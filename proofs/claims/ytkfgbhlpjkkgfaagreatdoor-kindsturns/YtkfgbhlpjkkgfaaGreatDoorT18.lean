import Derived.Test.YtkfgbhlpjkkgfaaGreatDoorT12
import Derived.Deep.CutBlock
set_option linter.unusedVariables false
set_option linter.unusedSimpArgs false
set_option maxHeartbeats 64000000
set_option maxRecDepth 100000
namespace Go.Proofs.YtkfgbhlpjkkgfaaGreatDoor
open Go.RowKit Go.IntWalk
namespace Rn
mutual
def partC:Ex->Int
 | .mk op k n name S L=>if formOk (.mk op k n name S L)=false then 4 else if op=3/\isName name.data.toList=false then 3 else if n<0\/1000000000000000000<=n then 2 else if firstC sizeC S≠0 then firstC sizeC S else partsC L
def partsC:List Ex->Int
 | []=>0
 | x :: l=>if partC x=0 then partsC l else partC x
end
theorem partsC_eq:∀ l:List Ex,partsC l=firstC partC l
 | []=>by simp [partsC,firstC]
 | x :: l=>by rw [partsC,firstC,partsC_eq l]
mutual
def exF:Ex->Prop
 | .mk _ _ _ name S L=>nmF name/\(∀ s ∈ S,szF s)/\exsF L
def exsF:List Ex->Prop
 | []=>True
 | x :: l=>exF x/\exsF l
end
theorem exsF_mem:∀ {l:List Ex},exsF l->∀ x ∈ l,exF x
 | [],_,x,hx=>by simp at hx
 | y :: l,h,x,hx=>by
  rw [exsF] at h;rcases List.mem_cons.1 hx with rfl | hm
  ·exact h.1
  ·exact exsF_mem h.2 x hm
end Rn
def ExDoes (F:Nat) (f:Ex->Int) (e:Ex):Prop:=∀ (ok:Nat->Prop) (w:World) (x:ExV),HEx ok w x.cells e->GlobS w ->
 Calls Tryz.prog F #[.agg #[.int .i64 x.op,.int .i64 x.k,.int .i64 x.n,.string x.name,.slice x.aS x.nS x.cS,.slice x.aL x.nL x.cL]] w fun r w'=>r=.returned (.int .i64 (f e))/\Below w.heap.size w w'
theorem zFn {f:Ex->Int} {ok:Nat->Prop} {w:World} {v:Value} {l:List Ex} (hl:HExs ok w v l) (hg:GlobS w) (hF:∀ x ∈ l,ExDoes 191 f x) :
  Calls Tryz.prog 153 #[v,.func (.func 191) #[] #[]] w fun e w'=>e=.returned (.int .i64 (Rn.firstC f l))/\Below w.heap.size w w':=by
 obtain ⟨ao,cap,rfl,aC,av,ai⟩:=hl.at;unfold maxLen at av;obtain ⟨R,hR⟩:=nmQ (Rn.firstC f l);rw [<-hR];have HR:=zAA hR;have HF:=zAA hF;clear hR hl hF;obtain ⟨n,hn⟩:=nmQ (l.length);rw [<-hn] at aC ⊢;have HN:=zAA hn;clear hn;go_enter Tryz.func153,Tryz.ntmps153;go_wp2_with fail;go_loopg [10] n (fun k v wr=>∃ i,i<=n/\k=n-i/\v=.int .i64 (i:Nat)/\Hid (∀ j (h:j<l.length),j<i->f l[j]=0)/\Below w.heap.size w wr)
 case atStart=>exact ⟨0,Nat.zero_le _,rfl,rfl,fun j _ h=>absurd h (Nat.not_lt_zero _),Below.refl _ _⟩
 case round=>
  obtain ⟨i,hi,rfl,rfl,H,aj⟩:=hrel;by_cases ak:i<n
  case neg=>
   have bH:i=n:=(by omega);subst bH;go_wp2;go_ret;refine ⟨?_,aj⟩;rw [HR.out,Rn.firstC_none f l (fun j hj=>H.out j hj (by have:=HN.out;omega))];rfl
  case pos=>
   have ap:i<l.length:=(by have:=HN.out;omega);have cw:=HF.out l[i] (List.getElem_mem ap);obtain ⟨x,hx⟩:=nmQ (l[i]);rw [<-hx] at cw;obtain ⟨b,o,y,rfl,gA,hb,hy,hex⟩:=ai i ap;rw [<-hx] at hex;have AK:=hy.keep (w':=wr) (aj.block _ hb);obtain ⟨e0,e1,e2,e3,e4,e5⟩:=AK;obtain ⟨W,hW⟩:=nmQ (wr.alloc (.cells #[.int .i64 y.op,.int .i64 y.k,.int .i64 y.n,.string y.name,.slice y.aS y.nS y.cS,.slice y.aL y.nL y.cL] 54 (0,0)));have bA:=zAk hW;have BA:=aj.trans (bA.mono aj.size);have ag:=cw _ W y (hex.under BA) (hg.under BA);rw [hW] at ag;have HX:=zAA hx;clear ai hx cw hex hy;go_wp2_with fail;refine ag.mono ?_;rintro e w4 ⟨rfl,b4⟩;rw [<-hW] at b4;have BW:=BA.trans (b4.mono BA.size);obtain ⟨c,cR⟩:=nmQ (f x);rw [<-cR];have HC:=zAA cR;clear cR;by_cases hz:c=0
   ·subst hz
    go_wp2_with fail;go_roundg (n-(i+1))
    case measure=>omega
    case rel=>
     refine ⟨i+1,by omega,rfl,by go_num,fun j hj bJ=>?_,BW⟩;by_cases e:j=i
     ·subst e
      rw [<-HX.out,<-HC.out]
     ·exact H.out j hj (by omega)
   ·go_wp2
    go_ret;refine ⟨?_,BW⟩;rw [HR.out,Rn.firstC_step f l i ap (fun j hj bJ=>H.out j hj bJ) (by rw [<-HX.out,<-HC.out];exact hz),<-HX.out,<-HC.out];rfl
theorem zFo {f:Ex->Int} {ok:Nat->Prop} {w:World} {v:Value} {l:List Ex} (hl:HExs ok w v l) (hg:GlobS w) (hF:∀ x ∈ l,ExDoes 154 f x) :
  Calls Tryz.prog 153 #[v,.func (.func 154) #[] #[]] w fun e w'=>e=.returned (.int .i64 (Rn.firstC f l))/\Below w.heap.size w w':=by
 obtain ⟨ao,cap,rfl,aC,av,ai⟩:=hl.at;unfold maxLen at av;obtain ⟨R,hR⟩:=nmQ (Rn.firstC f l);rw [<-hR];have HR:=zAA hR;have HF:=zAA hF;clear hR hl hF;obtain ⟨n,hn⟩:=nmQ (l.length);rw [<-hn] at aC ⊢;have HN:=zAA hn;clear hn;go_enter Tryz.func153,Tryz.ntmps153;go_wp2_with fail;go_loopg [10] n (fun k v wr=>∃ i,i<=n/\k=n-i/\v=.int .i64 (i:Nat)/\Hid (∀ j (h:j<l.length),j<i->f l[j]=0)/\Below w.heap.size w wr)
 case atStart=>exact ⟨0,Nat.zero_le _,rfl,rfl,fun j _ h=>absurd h (Nat.not_lt_zero _),Below.refl _ _⟩
 case round=>
  obtain ⟨i,hi,rfl,rfl,H,aj⟩:=hrel;by_cases ak:i<n
  case neg=>
   have bH:i=n:=(by omega);subst bH;go_wp2;go_ret;refine ⟨?_,aj⟩;rw [HR.out,Rn.firstC_none f l (fun j hj=>H.out j hj (by have:=HN.out;omega))];rfl
  case pos=>
   have ap:i<l.length:=(by have:=HN.out;omega);have cw:=HF.out l[i] (List.getElem_mem ap);obtain ⟨x,hx⟩:=nmQ (l[i]);rw [<-hx] at cw;obtain ⟨b,o,y,rfl,gA,hb,hy,hex⟩:=ai i ap;rw [<-hx] at hex;have AK:=hy.keep (w':=wr) (aj.block _ hb);obtain ⟨e0,e1,e2,e3,e4,e5⟩:=AK;obtain ⟨W,hW⟩:=nmQ (wr.alloc (.cells #[.int .i64 y.op,.int .i64 y.k,.int .i64 y.n,.string y.name,.slice y.aS y.nS y.cS,.slice y.aL y.nL y.cL] 54 (0,0)));have bA:=zAk hW;have BA:=aj.trans (bA.mono aj.size);have ag:=cw _ W y (hex.under BA) (hg.under BA);rw [hW] at ag;have HX:=zAA hx;clear ai hx cw hex hy;go_wp2_with fail;refine ag.mono ?_;rintro e w4 ⟨rfl,b4⟩;rw [<-hW] at b4;have BW:=BA.trans (b4.mono BA.size);obtain ⟨c,cR⟩:=nmQ (f x);rw [<-cR];have HC:=zAA cR;clear cR;by_cases hz:c=0
   ·subst hz
    go_wp2_with fail;go_roundg (n-(i+1))
    case measure=>omega
    case rel=>
     refine ⟨i+1,by omega,rfl,by go_num,fun j hj bJ=>?_,BW⟩;by_cases e:j=i
     ·subst e
      rw [<-HX.out,<-HC.out]
     ·exact H.out j hj (by omega)
   ·go_wp2
    go_ret;refine ⟨?_,BW⟩;rw [HR.out,Rn.firstC_step f l i ap (fun j hj bJ=>H.out j hj bJ) (by rw [<-HX.out,<-HC.out];exact hz),<-HX.out,<-HC.out];rfl
theorem zEZ {op k n:Int} {name:ByteArray} {S:List (List Tm)} {L:List Ex} (hF:Rn.exF (.mk op k n name S L)) (hL:∀ x ∈ L,ExDoes 191 Rn.partC x):ExDoes 191 Rn.partC (.mk op k n name S L):=by
 intro ok w x hx hg;obtain ⟨nG,nq,qz,qj,hS,gF⟩:=hx.parts;obtain ⟨I9,k',n',su,aS,nS,cS,aL,nL,cL⟩:=x
 dsimp only [Ex.op,Ex.k,Ex.n,Ex.name,Ex.S,Ex.L] at nG nq qz qj hS gF ⊢
 obtain rfl:=nG.symm;obtain rfl:=nq.symm;obtain rfl:=qz.symm;obtain rfl:=qj.symm;rw [Rn.exF] at hF;obtain ⟨JI,It,_⟩:=hF;obtain ⟨W,hW⟩:=nmQ (w.alloc (.cells #[.int .i64 op,.int .i64 k,.int .i64 n,.string name,.slice aS nS cS,.slice aL nL cL] 54 (0,0)));have bA:=zAk hW;have KA:=zBa hW;obtain ⟨a1,c1,uP,CL,kz,_⟩:=hS.at;injection uP with e0 e1 e2;subst e0;subst e1;subst e2;obtain ⟨a2,c2,np,Dv,oX,_⟩:=gF.at;injection np with e0 e1 e2;subst e0;subst e1;subst e2;have aV:Calls Tryz.prog 225 #[.agg #[.int .i64 op,.int .i64 k,.int .i64 n,.string name,.slice aS S.length cS,.slice aL L.length cL]] W fun e w'=>e=.returned (.bool (Rn.formOk (.mk op k n name S L)))/\Below W.heap.size W w':=formed_walk op k n name aS aL S.length cS L.length cL W (hg.under bA) Dv oX CL kz;have bp:=fun V=>zBs name V JI;obtain ⟨R,hR⟩:=nmQ (Rn.partC (.mk op k n name S L));rw [<-hR];rw [Rn.partC] at hR;generalize Rn.formOk (.mk op k n name S L)=q at aV hR;have vg:Hid (∀ V,Below w.heap.size w V->Calls Tryz.prog 151 #[.slice aS S.length cS,.func (.func 152) #[] #[]] V fun e w'=>e=.returned (.int .i64 (Rn.firstC Rn.sizeC S))/\Below V.heap.size V w'):=zAA (fun V hV=>zCy (hS.keep hV.size (fun i _ hl=>hV.block i hl)) It);have wN:Hid (∀ V,Below w.heap.size w V->Calls Tryz.prog 153 #[.slice aL L.length cL,.func (.func 191) #[] #[]] V fun e w'=>e=.returned (.int .i64 (Rn.partsC L))/\Below V.heap.size V w'):=zAA (fun V hV=>by rw [Rn.partsC_eq];exact zFn (gF.keep hV.size (fun i _ hl=>hV.block i hl)) (hg.under hV) hL);generalize Rn.firstC Rn.sizeC S=c at vg hR;generalize Rn.partsC L=d at wN hR;generalize isName name.data.toList=nm at bp hR;have HR:=zAA hR;clear hR;clear hS gF hL It JI hx hg;go_enter Tryz.func191,Tryz.ntmps191;have l9:=aV;rw [hW] at l9;go_wp2_with fail;refine l9.mono ?_;clear aV l9;rintro e w3 ⟨rfl,b3⟩;rw [<-hW] at b3;have B3:=bA.trans (b3.mono bA.size);have K3:=(b3.block _ (zAB KA)).trans KA;have lf:=zAB K3;have wR:=zAA (vg.out w3 B3);have p0:=co K3 0;have p2:=co K3 2;have p3:=co K3 3;have p4:=co K3 4;have p5:=co K3 5;simp at p0 p2 p3 p4 p5;clear vg K3 KA hW
 cases q
 ·have hR:=HR.out
  rw [if_pos rfl] at hR;clear HR;subst hR;go_wp2;go_ret;exact ⟨rfl,B3⟩
 by_cases ho:op=3
 case neg=>
  by_cases jo:n<0
  ·have hR:=HR.out
   rw [if_neg (by decide),if_neg (fun h=>ho h.1),if_pos (.inl jo)] at hR;clear HR;subst hR;go_wp2;go_ret;exact ⟨rfl,B3⟩
  by_cases mw:1000000000000000000<=n
  ·have hR:=HR.out
   rw [if_neg (by decide),if_neg (fun h=>ho h.1),if_pos (.inr mw)] at hR;clear HR;subst hR;go_wp2;go_ret;exact ⟨rfl,B3⟩
  have bo:=wR.out;go_wp2_with fail;refine bo.mono ?_;rintro e w5 ⟨rfl,b5⟩;clear bo;have B5:=B3.trans (b5.mono B3.size);by_cases qt:c=0
  case neg=>
   have hR:=HR.out;rw [if_neg (by decide),if_neg (fun h=>ho h.1),if_neg (by omega),if_pos qt] at hR;clear HR;subst hR;go_wp2;go_ret;exact ⟨rfl,B5⟩
  subst qt;have hR:=HR.out;rw [if_neg (by decide),if_neg (fun h=>ho h.1),if_neg (by omega),if_neg (by omega)] at hR;clear HR;subst hR;have Pf:=(b5.cell (p:=⟨w.heap.size,5,none⟩) lf).trans p5;have F8:=wN.out w5 B5;go_wp2_with fail;refine F8.mono ?_;rintro e w6 ⟨rfl,b6⟩;go_wp2;go_ret;exact ⟨rfl,B5.trans (b6.mono B5.size)⟩
 case pos=>
  go_wp2_with fail;refine (bp _).mono ?_;rintro e w4 ⟨rfl,rfl⟩;clear bp
  cases nm
  ·have hR:=HR.out
   rw [if_neg (by decide),if_pos ⟨ho,rfl⟩] at hR;clear HR;subst hR;go_wp2;go_ret;exact ⟨rfl,B3⟩
  by_cases jo:n<0
  ·have hR:=HR.out
   rw [if_neg (by decide),if_neg (by simp),if_pos (.inl jo)] at hR;clear HR;subst hR;go_wp2;go_ret;exact ⟨rfl,B3⟩
  by_cases mw:1000000000000000000<=n
  ·have hR:=HR.out
   rw [if_neg (by decide),if_neg (by simp),if_pos (.inr mw)] at hR;clear HR;subst hR;go_wp2;go_ret;exact ⟨rfl,B3⟩
  have bo:=wR.out;go_wp2_with fail;refine bo.mono ?_;rintro e w5 ⟨rfl,b5⟩;clear bo;have B5:=B3.trans (b5.mono B3.size);by_cases qt:c=0
  case neg=>
   have hR:=HR.out;rw [if_neg (by decide),if_neg (by simp),if_neg (by omega),if_pos qt] at hR;clear HR;subst hR;go_wp2;go_ret;exact ⟨rfl,B5⟩
  subst qt;have hR:=HR.out;rw [if_neg (by decide),if_neg (by simp),if_neg (by omega),if_neg (by omega)] at hR;clear HR;subst hR;have Pf:=(b5.cell (p:=⟨w.heap.size,5,none⟩) lf).trans p5;have F8:=wN.out w5 B5;go_wp2_with fail;refine F8.mono ?_;rintro e w6 ⟨rfl,b6⟩;go_wp2;go_ret;exact ⟨rfl,B5.trans (b6.mono B5.size)⟩
end Go.Proofs.YtkfgbhlpjkkgfaaGreatDoor
namespace Go.Proofs.YtkfgbhlpjkkgfaaGreatDoor
open Go.RowKit Go.IntWalk
theorem zCR:∀ (q:Nat) (e:Ex),parts e<=q->Rn.exF e->ExDoes 191 Rn.partC e
 | 0,.mk _ _ _ _ _ _,h,_=>by simp [parts] at h
 | q+1,.mk op k n name S L,h,hF=>zEZ hF (fun x hx=>by
  rw [parts] at h;rw [Rn.exF] at hF;obtain ⟨i,hi,rfl⟩:=List.getElem_of_mem hx;have:=zBU L i hi;exact zCR q _ (by omega) (Rn.exsF_mem hF.2.2 _ hx))
namespace Rn
def leftC (e:Ex) (left:Int):Int:=if (parts e:Int)<=left then left-parts e else -1
def leftL (L:List Ex) (left:Int) (i:Nat):Int:=if 1+(partsL (L.take i):Int)<=left then left-(1+partsL (L.take i)) else -1
theorem leftL_step {L:List Ex} {left:Int} {i:Nat} (h:i<L.length) (h0:0<=leftL L left i):leftL L left (i+1)=leftC L[i] (leftL L left i):=by
 unfold leftC leftL at *;rw [zBM L i h]
 split at h0
 ·rename_i h1
  rw [if_pos h1]
  split
  ·rw [if_pos (by omega)];omega
  ·rw [if_neg (by omega)]
 ·omega
theorem leftL_low {L:List Ex} {left:Int} {i:Nat} (h0:¬0<=leftL L left i) {op k n:Int} {name:ByteArray} {S:List (List Tm)}:leftL L left i=leftC (.mk op k n name S L) left:=by
 unfold leftC leftL at *;rw [parts];have:=zCm L i
 split at h0
 ·omega
 ·rename_i h1
  rw [if_neg h1,if_neg (by omega)]
theorem leftL_end {L:List Ex} {left:Int} {op k n:Int} {name:ByteArray} {S:List (List Tm)}:leftL L left L.length=leftC (.mk op k n name S L) left:=by
 unfold leftC leftL;rw [parts,List.take_length];simp
theorem leftL_range {L:List Ex} {left:Int} {i:Nat} (h:left<=1000) : -1<=leftL L left i/\leftL L left i<=1000:=by
 unfold leftL
 split<;>omega
end Rn
def LeftDoes (e:Ex):Prop:=∀ (ok:Nat->Prop) (w:World) (x:ExV) (left:Int),HEx ok w x.cells e->0<=left->left<=1000 ->
 Calls Tryz.prog 190 #[.agg #[.int .i64 x.op,.int .i64 x.k,.int .i64 x.n,.string x.name,.slice x.aS x.nS x.cS,.slice x.aL x.nL x.cL],.int .i64 left] w fun r w'=>r=.returned (.int .i64 (Rn.leftC e left))/\Below w.heap.size w w'
theorem zFH {op k n:Int} {name:ByteArray} {S:List (List Tm)} {L:List Ex} (hL:∀ x ∈ L,LeftDoes x):LeftDoes (.mk op k n name S L):=by
 intro ok w x left hx eO bh;obtain ⟨nG,nq,qz,qj,hS,gF⟩:=hx.parts;obtain ⟨I9,k',n',su,aS,nS,cS,aL,nL,cL⟩:=x
 dsimp only [Ex.op,Ex.k,Ex.n,Ex.name,Ex.S,Ex.L] at nG nq qz qj hS gF ⊢
 obtain rfl:=nG.symm;obtain rfl:=nq.symm;obtain rfl:=qz.symm;obtain rfl:=qj.symm;obtain ⟨W,hW⟩:=nmQ (w.alloc (.cells #[.int .i64 op,.int .i64 k,.int .i64 n,.string name,.slice aS nS cS,.slice aL nL cL] 54 (0,0)));have bA:=zAk hW;have KA:=zBa hW;obtain ⟨a2,c2,np,Dv,oX,ai⟩:=gF.at;injection np with e0 e1 e2;subst e0;subst e1;subst e2;unfold maxLen at oX;obtain ⟨R,hR⟩:=nmQ (Rn.leftC (.mk op k n name S L) left);rw [<-hR];have HR:=zAA hR;have HL:=zAA hL;have tS:=zAA ai;obtain ⟨m,hm⟩:=nmQ (L.length);have HM:=zAA hm;rw [<-hm] at Dv hW KA ⊢;clear hR hL ai hm hx hS gF;have cQ:Rn.leftL L left 0=left-1:=by
  unfold Rn.leftL;simp only [List.take_zero,partsL]
  split<;>omega
 have rJ:=zAA cQ;clear cQ;go_enter Tryz.func190,Tryz.ntmps190;go_upto_block 0 with fail;rw [<-hW];clear hW;go_wp2_with fail;go_loopg [1,5] m (fun gh s1 s5 wr=>∃ (i:Nat) (c:Int),i<=m/\gh=m-i/\s5=.int .i64 (i:Int)/\s1=.int .i64 c/\Hid (c=Rn.leftL L left i)/\Below W.heap.size W wr)
 case atStart=>exact ⟨0,left-1,Nat.zero_le _,rfl,rfl,rfl,zAA rJ.out.symm,Below.refl _ _⟩
 case round=>
  obtain ⟨i,c,Od,rfl,rfl,rfl,HC,bR⟩:=hrel;have pM : -1<=c/\c<=1000:=(by rw [HC.out];exact Rn.leftL_range bh);have BR:=bA.trans (bR.mono bA.size);have KR:=(bR.block _ (zAB KA)).trans KA;have p5:=co KR 5;simp at p5;by_cases ak:i<m
  case neg=>
   have bH:i=m:=(by omega);subst bH;have Gx:R=c:=by
    rw [HR.out,HC.out];have:=HM.out;rw [this];exact Rn.leftL_end.symm
   subst Gx;go_wp2;go_ret;exact ⟨rfl,BR⟩
  case pos=>
   have lz:(i:Int)<(m:Int):=(by omega);by_cases eQ:0<=c
   case neg=>
    have Gx:R=c:=by
     rw [HR.out,HC.out];exact (Rn.leftL_low (by rw [<-HC.out];exact eQ)).symm
    subst Gx;go_wp2;go_ret;exact ⟨rfl,BR⟩
   case pos=>
    have ap:i<L.length:=(by have:=HM.out;omega);obtain ⟨b,o,y,rfl,gA,hb,hy,hex⟩:=tS.out i ap;have AK:=hy.keep (w':=wr) (BR.block _ hb);obtain ⟨f0,f1,f2,f3,f4,f5⟩:=AK;have ag:=HL.out L[i] (List.getElem_mem ap) _ wr y c (hex.under BR) eQ pM.2;obtain ⟨d,hd⟩:=nmQ (Rn.leftC L[i] c);rw [<-hd] at ag;have HD:Hid (d=Rn.leftL L left (i+1)):=zAA (by rw [hd,HC.out,Rn.leftL_step ap (by rw [<-HC.out];exact eQ)]);clear hd hy hex KR;go_wp2_with fail;refine ag.mono ?_;rintro e w4 ⟨rfl,b4⟩;clear ag;go_wp2_with fail;go_roundg (m-(i+1))
    case measure=>omega
    case rel=>exact ⟨i+1,d,by omega,rfl,by go_num,rfl,HD,bR.trans (b4.mono bR.size)⟩
theorem zCr:∀ (q:Nat) (e:Ex),parts e<=q->LeftDoes e
 | 0,.mk _ _ _ _ _ _,h=>by simp [parts] at h
 | q+1,.mk op k n name S L,h=>zFH (fun x hx=>by
  rw [parts] at h;obtain ⟨i,hi,rfl⟩:=List.getElem_of_mem hx;have:=zBU L i hi;exact zCr q _ (by omega))
end Go.Proofs.YtkfgbhlpjkkgfaaGreatDoor
namespace Go.Proofs.YtkfgbhlpjkkgfaaGreatDoor
open Go.RowKit Go.IntWalk
namespace Rn
def exprC (e:Ex):Int:=if 30<parts e then 7 else partC e
end Rn
theorem zFI {e:Ex} (hF:Rn.exF e):ExDoes 154 Rn.exprC e:=by
 intro ok w x hx hg;obtain ⟨W,hW⟩:=nmQ (w.alloc (.cells #[.int .i64 x.op,.int .i64 x.k,.int .i64 x.n,.string x.name,.slice x.aS x.nS x.cS,.slice x.aL x.nL x.cL] 54 (0,0)));have bA:=zAk hW;have KA:=zBa hW;have mC:=zCr _ e nR _ W x 30 (hx.under bA) (by omega) (by omega);have HP:Hid (∀ V,Below w.heap.size w V->Calls Tryz.prog 191 #[.agg #[.int .i64 x.op,.int .i64 x.k,.int .i64 x.n,.string x.name,.slice x.aS x.nS x.cS,.slice x.aL x.nL x.cL]] V fun r w'=>r=.returned (.int .i64 (Rn.partC e))/\Below V.heap.size V w'):=zAA (fun V hV=>zCR _ e nR hF _ V x (hx.under hV) (hg.under hV));obtain ⟨c,hc⟩:=nmQ (Rn.leftC e 30);rw [<-hc] at mC;unfold Rn.leftC at hc;unfold Rn.exprC;generalize Rn.partC e=d at HP;generalize parts e=q at hc;clear hx hg hF;obtain ⟨xo,xk,xn,xm,aS,nS,cS,aL,nL,cL⟩:=x
 dsimp only at *
 have iW:=mC;rw [hW] at iW;go_enter Tryz.func154,Tryz.ntmps154;by_cases h30:30<q
 ·rw [if_pos h30]
  rw [if_neg (by omega)] at hc;subst hc;go_wp2_with fail;refine iW.mono ?_;clear mC iW;rintro e w3 ⟨rfl,b3⟩;rw [<-hW] at b3;go_wp2;go_ret;exact ⟨rfl,bA.trans (b3.mono bA.size)⟩
 ·rw [if_neg h30]
  rw [if_pos (by omega)] at hc;have eQ:¬c<0:=(by omega);clear hc;go_wp2_with fail;refine iW.mono ?_;clear mC iW;rintro e w3 ⟨rfl,b3⟩;rw [<-hW] at b3;have B3:=bA.trans (b3.mono bA.size);have K3:=(b3.block _ (zAB KA)).trans KA;have p0:=co K3 0;have p1:=co K3 1;have p2:=co K3 2;have p3:=co K3 3;have p4:=co K3 4;have p5:=co K3 5;simp at p0 p1 p2 p3 p4 p5;have hp:=HP.out w3 B3;clear K3 KA hW;go_wp2_with fail;refine hp.mono ?_;rintro e w4 ⟨rfl,b4⟩;go_wp2;go_ret;exact ⟨rfl,B3.trans (b4.mono B3.size)⟩
end Go.Proofs.YtkfgbhlpjkkgfaaGreatDoor
namespace Go.Proofs.YtkfgbhlpjkkgfaaGreatDoor
open Go.RowKit Go.IntWalk
namespace Rn
def eqC (q:Eqn):Int :=
 if q.names.length=0\/(q.node.size=0/\¬(q.names.length=1/\q.E.length=1/\q.S.length=0)) then 4
 else if 30<q.names.length\/30<q.E.length\/3<q.S.length then 7
 else if firstC nameC q.names≠0\/(q.node.size≠0/\isName q.node.data.toList=false) then 3
 else if firstC sizeC q.S≠0 then firstC sizeC q.S else firstC exprC q.E
def eqF (q:Eqn):Prop:=(∀ s ∈ q.names,nmF s)/\nmF q.node/\(∀ s ∈ q.S,szF s)/\(∀ e ∈ q.E,exF e)
end Rn
theorem zDK {ok:Nat->Prop} {w:World} {x:EqV} {q:Eqn} (hx:HEq ok w x q) (hg:GlobS w) (hF:Rn.eqF q) :
  Calls Tryz.prog 112 #[.agg #[.int .i64 x.place,.slice x.aN x.nN x.cN,.string x.node,.slice x.aS x.nS x.cS,.slice x.aE x.nE x.cE]] w fun e w'=>e=.returned (.int .i64 (Rn.eqC q))/\Below w.heap.size w w':=by
 obtain ⟨nU,nV,rl,nh⟩:=hF;have pu:Hid (∀ V,Below w.heap.size w V->Calls Tryz.prog 148 #[.slice x.aN x.nN x.cN,.func (.func 149) #[] #[]] V fun e w'=>e=.returned (.int .i64 (Rn.firstC Rn.nameC q.names))/\Below V.heap.size V w'):=zAA (fun V hV=>zCx (hx.names.keep hV.size (fun i _ hl=>hV.block i hl)) nU);have wR:Hid (∀ V,Below w.heap.size w V->Calls Tryz.prog 151 #[.slice x.aS x.nS x.cS,.func (.func 152) #[] #[]] V fun e w'=>e=.returned (.int .i64 (Rn.firstC Rn.sizeC q.S))/\Below V.heap.size V w'):=zAA (fun V hV=>zCy (hx.S.keep hV.size (fun i _ hl=>hV.block i hl)) rl);have D5:Hid (∀ V,Below w.heap.size w V->Calls Tryz.prog 153 #[.slice x.aE x.nE x.cE,.func (.func 154) #[] #[]] V fun e w'=>e=.returned (.int .i64 (Rn.firstC Rn.exprC q.E))/\Below V.heap.size V w'):=zAA (fun V hV=>zFo (hx.E.keep hV.size (fun i _ hl=>hV.block i hl)) (hg.under hV) (fun e he=>zFI (nh e he)));have bO:x.node=q.node:=hx.node;obtain ⟨a1,c1,uP,D8,oP,_⟩:=hx.names.at;obtain ⟨a2,c2,np,CL,kz,_⟩:=hx.S.at;obtain ⟨a3,c3,sP,Ec,pD,_⟩:=hx.E.at;injection uP with e0 e1 e2;injection np with f0 f1 f2;injection sP with g0 g1 g2;obtain ⟨R,hR⟩:=nmQ (Rn.eqC q);rw [<-hR];unfold Rn.eqC at hR;rw [<-e1,<-f1,<-g1,<-bO] at hR;rw [<-bO] at nV;rw [<-e1,<-e2] at D8;rw [<-f1,<-f2] at CL;rw [<-g1,<-g2] at Ec;rw [<-e2] at oP;rw [<-f2] at kz;rw [<-g2] at pD;unfold maxLen at oP kz pD;generalize Rn.firstC Rn.nameC q.names=nc at pu hR;generalize Rn.firstC Rn.sizeC q.S=sc at wR hR;generalize Rn.firstC Rn.exprC q.E=ec at D5 hR;clear e0 e1 e2 f0 f1 f2 g0 g1 g2 bO hx hg nU rl nh;obtain ⟨pl,aN,nN,cN,nd,aS,nS,cS,aE,nE,cE⟩:=x
 dsimp only at *
 have bp:=fun V=>zBs nd V nV;generalize isName nd.data.toList=nm at bp hR;have HR:=zAA hR;clear hR nV;obtain ⟨W,hW⟩:=nmQ (w.alloc (.cells #[.int .i64 pl,.slice aN nN cN,.string nd,.slice aS nS cS,.slice aE nE cE] 56 (0,0)));have bA:=zAk hW;have KA:=zBa hW;go_enter Tryz.func112,Tryz.ntmps112;go_upto_region 1 with fail;rw [<-hW];clear hW;have p1:=co KA 1;have p2:=co KA 2;have p3:=co KA 3;have p4:=co KA 4;simp at p1 p2 p3 p4;obtain ⟨ic,tT⟩:∃ ic:Bool,(ic=true↔nd.size≠0):=⟨decide (nd.size≠0),by simp⟩;go_cut [3] (fun v3 wd=>wd=W/\v3=.bool ic)
 case first=>
  by_cases hd:nd.size=0
  ·have hs:nd=⟨#[]⟩:=ByteArray.ext (Array.eq_empty_of_size_eq_zero hd)
   have wL:ic=false:=by
    cases ic
    ·rfl
    ·exact absurd hd (tT.1 rfl)
   subst hs;subst wL;go_wp2_with fail;go_meet
   case rel=>exact ⟨rfl,rfl⟩
  ·have cG:=zEC hd
   have wL:ic=true:=tT.2 hd;subst wL;go_wp2_with fail;go_meet
   case rel=>exact ⟨rfl,rfl⟩
 case rest=>
  obtain ⟨oA,rfl⟩:=hcut;rw [oA];clear oA;go_upto_region 2 with fail;go_cut [4] (fun v4 wd=>wd=W/\∃ p:Bool,v4=.bool p/\(p=true↔nN=1/\nE=1/\nS=0))
  case first=>
   by_cases h1:nN=1
   case neg=>
    have rm:¬(nN:Int)=1:=(by omega);go_wp2_with fail;go_meet
    case rel=>exact ⟨rfl,false,by simp [rm],by simp [h1]⟩
   by_cases h2:nE=1
   case neg=>
    have xJ:¬(nE:Int)=1:=(by omega);subst h1;go_wp2_with fail;go_meet
    case rel=>exact ⟨rfl,false,by simp [xJ],by simp [h2]⟩
   by_cases h3:nS=0
   case neg=>
    have ID:¬(nS:Int)=0:=(by omega);have H3:=zAA h3;subst h1;subst h2;go_wp2_with fail;go_meet
    case rel=>exact ⟨rfl,false,by have:=H3.out;simp [this],by have:=H3.out;simp [this]⟩
   subst h1;subst h2;subst h3;go_wp2_with fail;go_meet
   case rel=>exact ⟨rfl,true,rfl,by simp⟩
  case rest=>
   obtain ⟨oA,pp,rfl,Br⟩:=hcut;rw [oA];clear oA
   cases ic
   case false=>
    have hd:nd.size=0:=Classical.byContradiction (fun h=>by cases tT.2 h);have hs:nd=⟨#[]⟩:=ByteArray.ext (Array.eq_empty_of_size_eq_zero hd);subst hs
    cases pp
    case false=>
     have Im:¬(nN=1/\nE=1/\nS=0):=fun h=>by cases Br.2 h
     have Ou:=zAA Im;clear Br tT Im;by_cases h0:nN=0
     ·subst h0
      have hR:=HR.out;rw [if_pos (.inl rfl)] at hR;clear HR;subst hR;go_wp2;go_ret;exact ⟨rfl,bA⟩
     have rK:¬(nN:Int)=0:=(by omega);have hR:=HR.out;rw [if_pos (.inr ⟨hd,Ou.out⟩)] at hR;clear HR;subst hR;go_wp2;go_ret;exact ⟨rfl,bA⟩
    case true=>
     obtain ⟨h1,h2,h3⟩:=Br.1 rfl;clear Br tT;subst h1;subst h2;subst h3;have je:=pu.out W bA;go_wp2_with fail;refine je.mono ?_;rintro e w3 ⟨rfl,b3⟩;clear je;by_cases eR:nc=0
     case neg=>
      have hR:=HR.out;rw [if_neg (by simp),if_neg (by simp),if_pos (.inl eR)] at hR;clear HR;subst hR;go_wp2;go_ret;exact ⟨rfl,bA.trans (b3.mono bA.size)⟩
     subst eR;have K9:=(b3.block _ (zAB KA)).trans KA;have q3:=co K9 3;have q4:=co K9 4;simp at q3 q4;have bo:=wR.out _ (bA.trans (b3.mono bA.size));go_wp2_with fail;refine bo.mono ?_;rintro e w8 ⟨rfl,b8⟩;clear bo;have rI:=b3.trans (b8.mono b3.size);by_cases hsc:sc=0
     case neg=>
      have hR:=HR.out;rw [if_neg (by simp),if_neg (by simp),if_neg (by simp [hd]),if_pos hsc] at hR;clear HR;subst hR;go_wp2;go_ret;exact ⟨rfl,bA.trans (rI.mono bA.size)⟩
     subst hsc;have hR:=HR.out;rw [if_neg (by simp),if_neg (by simp),if_neg (by simp [hd]),if_neg (by omega)] at hR;clear HR;subst hR;have N8:=(b8.cell (p:=⟨w.heap.size,4,none⟩) (zAB K9)).trans q4;have hex:=D5.out _ (bA.trans (rI.mono bA.size));go_wp2_with fail;refine hex.mono ?_;rintro e w9 ⟨rfl,b9⟩;go_wp2;go_ret;exact ⟨rfl,(bA.trans (rI.mono bA.size)).trans (b9.mono (bA.trans (rI.mono bA.size)).size)⟩
   case true=>
    have hd:nd.size≠0:=tT.1 rfl;clear Br tT;by_cases h0:nN=0
    ·subst h0
     have hR:=HR.out;rw [if_pos (.inl rfl)] at hR;clear HR;subst hR;go_wp2;go_ret;exact ⟨rfl,bA⟩
    have rK:¬(nN:Int)=0:=(by omega);by_cases h1:30<nN
    ·have rm:(30:Int)<(nN:Int):=by omega
     have hR:=HR.out;rw [if_neg (by simp [h0,hd]),if_pos (.inl h1)] at hR;clear HR;subst hR;go_wp2;go_ret;exact ⟨rfl,bA⟩
    have rm:¬(30:Int)<(nN:Int):=(by omega);by_cases h2:30<nE
    ·have xJ:(30:Int)<(nE:Int):=by omega
     have hR:=HR.out;rw [if_neg (by simp [h0,hd]),if_pos (.inr (.inl h2))] at hR;clear HR;subst hR;go_wp2;go_ret;exact ⟨rfl,bA⟩
    have xJ:¬(30:Int)<(nE:Int):=(by omega);by_cases h3:3<nS
    ·have ID:(3:Int)<(nS:Int):=by omega
     have hR:=HR.out;rw [if_neg (by simp [h0,hd]),if_pos (.inr (.inr h3))] at hR;clear HR;subst hR;go_wp2;go_ret;exact ⟨rfl,bA⟩
    have ID:¬(3:Int)<(nS:Int):=(by omega);have je:=pu.out W bA;go_wp2_with fail;refine je.mono ?_;rintro e w3 ⟨rfl,b3⟩;clear je;by_cases eR:nc=0
    case neg=>
     have hR:=HR.out;rw [if_neg (by simp [h0,hd]),if_neg (by omega),if_pos (.inl eR)] at hR;clear HR;subst hR;go_wp2;go_ret;exact ⟨rfl,bA.trans (b3.mono bA.size)⟩
    subst eR;have PV:=(b3.cell (p:=⟨w.heap.size,2,none⟩) (zAB KA)).trans p2;go_wp2_with fail;refine (bp _).mono ?_;rintro e w4 ⟨rfl,rfl⟩;clear bp
    cases nm
    ·skip
     have hR:=HR.out;rw [if_neg (by simp [h0,hd]),if_neg (by omega),if_pos (.inr ⟨hd,rfl⟩)] at hR;clear HR;subst hR;go_wp2;go_ret;exact ⟨rfl,bA.trans (b3.mono bA.size)⟩
    have K9:=(b3.block _ (zAB KA)).trans KA;have q3:=co K9 3;have q4:=co K9 4;simp at q3 q4;have bo:=wR.out _ (bA.trans (b3.mono bA.size));go_wp2_with fail;refine bo.mono ?_;rintro e w8 ⟨rfl,b8⟩;clear bo;have rI:=b3.trans (b8.mono b3.size);by_cases hsc:sc=0
    case neg=>
     have hR:=HR.out;rw [if_neg (by simp [h0,hd]),if_neg (by omega),if_neg (by simp),if_pos hsc] at hR;clear HR;subst hR;go_wp2;go_ret;exact ⟨rfl,bA.trans (rI.mono bA.size)⟩
    subst hsc;have hR:=HR.out;rw [if_neg (by simp [h0,hd]),if_neg (by omega),if_neg (by simp),if_neg (by omega)] at hR;clear HR;subst hR;have N8:=(b8.cell (p:=⟨w.heap.size,4,none⟩) (zAB K9)).trans q4;have hex:=D5.out _ (bA.trans (rI.mono bA.size));go_wp2_with fail;refine hex.mono ?_;rintro e w9 ⟨rfl,b9⟩;go_wp2;go_ret;exact ⟨rfl,(bA.trans (rI.mono bA.size)).trans (b9.mono (bA.trans (rI.mono bA.size)).size)⟩
end Go.Proofs.YtkfgbhlpjkkgfaaGreatDoor
