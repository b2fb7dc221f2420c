import Derived.Test.YtophfbefnaelfaaGreatDoorM41
import Derived.Test.YtophfbefnaelfaaGreatDoorM42
import Derived.Test.YtophfbefnaelfaaGreatDoorM43
import Derived.Test.YtophfbefnaelfaaGreatDoorM44
import Derived.Test.YtophfbefnaelfaaGreatDoorM45
import Derived.Test.YtophfbefnaelfaaGreatDoorM33
import Derived.Test.YtophfbefnaelfaaGreatDoorM21
import Derived.Deep.CutBlock
import Derived.Test.YtophfbefnaelfaaGreatDoorM35
set_option linter.unusedVariables false
set_option linter.unusedSimpArgs false
set_option maxHeartbeats 64000000
set_option maxRecDepth 100000
namespace Go.Proofs.YtophfbefnaelfaaGreatDoor
open Go.RowKit Go.IntWalk
theorem exprText_step {op k n:Int} {name:ByteArray} {S:List (List Tm)} {L:List Ex} (hE:okE (.mk op k n name S L)) (hD:∀ x ∈ L,XtDoes x):XtDoes (.mk op k n name S L):=by
 by_cases h4:op≤4
 ·exact exprText_low hE hD h4
 by_cases h6:op=6
 ·exact exprText_if hE hD h6
 by_cases h11:op=11
 ·exact exprText_index hE hD h11
 by_cases h5:op=5∧(Tx.opT k.toNat).2.1.size≠0
 ·exact exprText_pair hE hD h5.1 h5.2
 ·exact exprText_form hE hD ⟨by omega,h6,h11⟩ (fun h=>by
   by_cases hz:(Tx.opT k.toNat).2.1.size=0
   ·exact hz
   ·exact absurd ⟨h,hz⟩ h5)
theorem exprTextR_any:∀ (q:Nat) (e:Ex),parts e≤q→okE e→XtDoes e
 | 0,.mk _ _ _ _ _ _,h,_=>by simp [parts] at h
 | q+1,.mk op k n name S L,h,hE=>exprText_step hE (fun x hx=>by
  rw [parts] at h;rw [okE] at hE;obtain ⟨i,hi,rfl⟩:=List.getElem_of_mem hx;have:=parts_mem L i hi;exact exprTextR_any q _ (by omega) (okEs_mem hE.2.2.2.2 _ hx))
theorem exprText_any {e:Ex} (h:okE e):XtDoes e:=exprTextR_any _ e nR h
end Go.Proofs.YtophfbefnaelfaaGreatDoor
namespace Go.Proofs.YtophfbefnaelfaaGreatDoor
open Go.RowKit Go.IntWalk
namespace Tx
def eqT (q:Eqn):List ByteArray:=commas wordP q.names++([⟨#[32,61,32]⟩]++(if q.node.size=0 then (match q.E with | []=>[] | x :: _=>exprP x) else callP q))
def texts {α:Type} (f:α→List ByteArray) (l:List α):List ByteArray:=l.map fun x=>cat (f x)
theorem texts_row {α:Type} (f:α→List ByteArray):∀ (i:Nat) (l:List α),cat (rowP (comma wordP) i (texts f l))=cat (rowP (comma f) i l)
 | i,[]=>rfl
 | i,x :: l=>by
  rw [texts,List.map_cons,rowP,rowP,cat_append,cat_append];have h:=texts_row f (i+1) l;rw [texts] at h;rw [h]
  congr 1
  unfold comma wordP
  split
  ·exact cat_one _
  ·rw [cat_append,cat_append,cat_one,cat_one]
theorem texts_commas {α:Type} (f:α→List ByteArray) (l:List α):cat (commas wordP (texts f l))=cat (commas f l):=texts_row f 0 l
theorem texts_take {α:Type} (f:α→List ByteArray) (l:List α) (i:Nat) (h:i<l.length):texts f (l.take (i+1))=texts f (l.take i)++[cat (f l[i])]:=by
 unfold texts;rw [List.take_succ_eq_append_getElem h,List.map_append];rfl
end Tx
theorem own_names {B:Nat} {w:World} {v:Value} {l:List ByteArray} (h:OwnL kName B w v l):HNames (fun i=>B≤i) w v l:=by
 obtain ⟨C,h1,h2⟩:=h.row;exact ⟨C,h1,fun i hi=>h2 i hi⟩
theorem own_form3 {B:Nat} {w:World} {v:Value} {l:List ByteArray} (h:OwnL kName B w v l):∃ a m c,v=.slice a m c:=by
 obtain ⟨a,c,hv,_,_⟩:=h.form;exact ⟨a,_,c,hv⟩
theorem fit_comma {α:Type} {f:α→List ByteArray} {l:List α} (h:Tx.fitX (Tx.commas f l)) {i:Nat} (hi:i<l.length):Tx.fitX (f l[i]):=by
 have h1:=(Tx.fitX.mid (g:=Tx.comma f) h hi).right;unfold Tx.comma at h1
 split at h1
 ·exact h1
 ·exact h1.right
theorem eqText_any {ok:Nat→Prop} {w:World} {x:EqV} {q:Eqn} (hx:HEq ok w x q) (htab:TabN w) (hq:okQ q) (hlS:q.S.length≤1000000) (hlE:q.E.length≤1000000) (hX:Tx.fitX (Tx.eqT q)) :
  Calls Tryz.prog 39 #[.agg #[.int .i64 x.place,.slice x.aN x.nN x.cN,.string x.node,.slice x.aS x.nS x.cS,.slice x.aE x.nE x.cE]] w fun e w'=>e=.returned (.string (Tx.cat (Tx.eqT q)))∧Below w.heap.size w w':=by
 obtain ⟨place,aN,nN,cN,node,aS,nS,cS,aE,nE,cE⟩:=x;have hnode:=hx.node
 dsimp only at hnode ⊢
 obtain ⟨R,hR⟩:=nmQ (Tx.cat (Tx.eqT q));rw [←hR];have hXR:R.size≤1000000000000000000:=(by rw [hR];exact hX);unfold Tx.eqT at hR hX;rw [←hnode] at hR hX;have hnok:okS node:=(by rw [hnode];exact hq.node);obtain ⟨aq,cq,ev,hcS,hcS2,_⟩:=hx.S.at
 dsimp only at ev
 injection ev with ev1 ev2 ev3;subst ev1 ev3;have HNS:Hid (nS=q.S.length):=hide ev2;rw [←ev2] at hcS hlS;clear ev2;obtain ⟨aq,cq,ev,hcE,hcE2,_⟩:=hx.E.at
 dsimp only at ev
 injection ev with ev1 ev2 ev3;subst ev1 ev3;have HNE:Hid (nE=q.E.length):=hide ev2;rw [←ev2] at hcE hlE;clear ev2;unfold maxLen at hcS2 hcE2;have bA:Below w.heap.size w (w.alloc (.cells #[.int .i64 place,.slice aN nN cN,.string node,.slice aS nS cS,.slice aE nE cE] 49 (0,0))):=(Below.refl _ _).alloc nR _;have kA:=heap_new w (.cells #[.int .i64 place,.slice aN nN cN,.string node,.slice aS nS cS,.slice aE nE cE] 49 (0,0));have hnames:=namesText_any (hx.names.under bA) hX.left
 dsimp only at hnames
 have hN1:(Tx.cat (Tx.commas Tx.wordP q.names)).size≤1000000000000000000:=hX.left;have HXS:=hide hx.S;have HXE:=hide hx.E
 dsimp only at HXS HXE
 have HQ:=hide hq;have htA:=htab.under bA;by_cases hz:node.size=0
 case pos=>
  have hpos:=hq.one (by rw [←hnode];exact hz);rw [if_pos hz] at hR hX;obtain ⟨e0,rest,hE0⟩:∃ e0 rest,q.E=e0 :: rest:=by
   cases hh:q.E with
   | nil=>rw [hh] at hpos;simp at hpos
   | cons a l=>exact ⟨a,l,rfl⟩
  rw [hE0] at hR hX
  dsimp only at hR hX
  have hxE:=hx.E;rw [hE0] at hxE;obtain ⟨hnL,_,_,bL,oL,hao,hget⟩:=hxE.getB (by simp)
  dsimp only at hao hnL
  subst hao;obtain ⟨y0,hx0,hy0⟩:=hget 0 (by simp);simp only [List.getElem_cons_zero] at hx0;have hc0:=fun V (b:Below w.heap.size w V)=>exprText_any (hq.E e0 (by rw [hE0];simp)) ok V y0 0 (hx0.under b) (htab.under b) (by omega) (by omega) hX.right.right;have hnE0:(0:Int)<(nE:Int):=(by rw [hnL];simp);have hRR:R=Tx.cat (Tx.commas Tx.wordP q.names)++⟨#[32,61,32]⟩++Tx.cat (Tx.partP e0 0):=(by rw [hR,Tx.cat_append,Tx.cat_append,Tx.cat_one,ByteArray.append_assoc];rfl);generalize Tx.cat (Tx.commas Tx.wordP q.names)=N at hRR hnames hN1;generalize Tx.cat (Tx.partP e0 0)=T0 at hRR hc0;have hs2:N.size+3+T0.size≤1000000000000000000:=(by have:=hXR;rw [hRR] at this;simp only [ByteArray.size_append] at this;exact this);have HE:=hide hRR;have hse:node=⟨#[]⟩:=ByteArray.ext (Array.eq_empty_of_size_eq_zero hz);clear hRR hXR hR hX hget hx0 HXS HXE HQ hx hq hnode hN1 hpos hE0 hxE hnL;obtain ⟨o0,k0_,n0_,s0_,aS0,nS0,cS0,aL0,nL0,cL0⟩:=y0
  dsimp only at hc0 hy0
  subst hse;go_enter Tryz.func39,Tryz.ntmps39;go_wp2_with fail;refine hnames.mono ?_;rintro e w1 ⟨rfl,hw1⟩;have p2:=co kA 2;have p4:=co kA 4;simp at p2 p4;rw [hw1];clear hw1;obtain ⟨d0,d1,d2,d3,d4,d5⟩:=hy0 _ bA;simp at d0 d1 d2 d3 d4 d5;go_wp2_with fail;refine (hc0 _ bA).mono ?_;rintro e w2 ⟨rfl,b2⟩;go_wp2;go_ret;exact ⟨by rw [HE.out];rfl,bA.trans (b2.mono bA.size)⟩
 case neg=>
  rw [if_neg hz] at hR hX;have hne:=str_ne hz;unfold Tx.callP at hR hX;rw [←hnode] at hR hX;have hXa:Tx.fitX (Tx.angP Tx.sizeP q.S):=hX.right.right.right.left;have hXe:Tx.fitX (Tx.commas Tx.exprP q.E):=hX.right.right.right.right.right.left;have hRR:R=Tx.cat (Tx.commas Tx.wordP q.names)++⟨#[32,61,32]⟩++(⟨#[99,97,108,108,32]⟩++node)++Tx.cat (Tx.angP Tx.sizeP q.S)++⟨#[40]⟩++Tx.cat (Tx.commas Tx.exprP q.E)++⟨#[41]⟩:=by
   rw [hR];simp only [Tx.cat_append,Tx.cat,ByteArray.append_empty,ByteArray.append_assoc]
  generalize Tx.cat (Tx.commas Tx.wordP q.names)=N at hRR hnames hN1;have hs2:N.size+3+(5+node.size)+(Tx.cat (Tx.angP Tx.sizeP q.S)).size+1+(Tx.cat (Tx.commas Tx.exprP q.E)).size+1≤1000000000000000000:=(by have:=hXR;rw [hRR] at this;simp only [ByteArray.size_append] at this;exact this);have HE:=hide hRR;have HXa:=hide hXa;have HXe:=hide hXe;clear hRR hXR hR hX hx hq hnode hN1 hXa hXe;go_enter Tryz.func39,Tryz.ntmps39;go_wp2_with fail;refine hnames.mono ?_;rintro e w1 ⟨rfl,hw1⟩;rw [hw1];clear hw1 hnames;generalize (w.alloc (.cells #[.int .i64 place,.slice aN nN cN,.string node,.slice aS nS cS,.slice aE nE cE] 49 (0,0)))=W at bA kA htA ⊢;have p2:=co kA 2;have p3:=co kA 3;simp at p2 p3;obtain ⟨sb,hsb⟩:=nmQ (decide (0<nS));have hsbI:decide (0<nS)=sb:=hsb.symm;have hsbJ:decide ((0:Int)<(nS:Int))=sb:=(by rw [hsb];simp);have HSB:=hide hsb;clear hsb;go_upto_if 30 with fail;clear hsbI hsbJ;have HA:Hid (nS≠0→Tx.cat (Tx.angP Tx.sizeP q.S)=⟨#[60]⟩++Tx.cat (Tx.commas Tx.sizeP q.S)++⟨#[62]⟩):=hide (fun h=>by
   unfold Tx.angP;rw [if_neg (by rw [←HNS.out];exact h)];simp only [Tx.cat_append,Tx.cat,ByteArray.append_empty,ByteArray.append_assoc])
  have HA0:Hid (nS=0→Tx.cat (Tx.angP Tx.sizeP q.S)=ByteArray.empty):=hide (fun h=>by
   unfold Tx.angP;rw [if_pos (by rw [←HNS.out];exact h)];rfl)
  have HXS2:Hid (nS≠0→Tx.fitX ([⟨#[60]⟩]++(Tx.commas Tx.sizeP q.S++[⟨#[62]⟩]))):=hide (fun h=>by
   have:=HXa.out;unfold Tx.angP at this;rw [if_neg (by rw [←HNS.out];exact h)] at this;exact this)
  generalize Tx.cat (Tx.angP Tx.sizeP q.S)=AA at HA HA0 HE hs2;obtain ⟨P2,hP2⟩:=nmQ (N++⟨#[32,61,32]⟩++(⟨#[99,97,108,108,32]⟩++node)++AA);have HP2:=hide hP2.symm;have hP2s:P2.size+1+(Tx.cat (Tx.commas Tx.exprP q.E)).size+1≤1000000000000000000:=(by rw [hP2];simp only [ByteArray.size_append];exact hs2);clear hP2;go_cut [3] (fun v3 wc=>v3=.string P2∧wc.heap[w.heap.size]?=some (.cells #[.int .i64 place,.slice aN nN cN,.string node,.slice aS nS cS,.slice aE nE cE] 49 (0,0))∧Below w.heap.size w wc)
  case first=>
   cases sb
   ·have hS0:nS=0:=by have:=HSB.out;simp at this;exact this
    have hAA:=HA0.out hS0;have HH:Hid (P2=N++⟨#[32,61,32]⟩++(⟨#[99,97,108,108,32]⟩++node)):=hide (by rw [←HP2.out,hAA,ByteArray.append_empty]);clear HA HA0 hAA HXS2;have HS0:=hide hS0;clear hS0;go_wp2_with fail;go_meet
    case rel=>exact ⟨by rw [HH.out],kA,bA⟩
   ·have hS0:nS≠0:=by have:=HSB.out;simp at this;omega
    clear HA0;go_wp2_with fail;go_loopg [4,5] nS (fun gk v4 v5 wr=>∃ i,i≤nS∧gk=nS-i∧v5=.int .i64 (i:Nat)∧OwnL kName W.heap.size wr v4 (Tx.texts Tx.sizeP (q.S.take i))∧Below W.heap.size W wr)
    case atStart=>exact ⟨0,Nat.zero_le _,rfl,rfl,OwnL.nil,Below.refl _ _⟩
    case round=>
     obtain ⟨i,hi,rfl,rfl,own,br⟩:=hrel;have BR:=bA.trans (br.mono bA.size);have kr:=(br.block _ (lt_of kA)).trans kA;have r3:=co kr 3;simp at r3;obtain ⟨va,vm,vc,hvf⟩:=own_form3 own;subst hvf;by_cases hlt:i<nS
     case neg=>
      have hin:i=nS:=(by omega);subst hin;have own2:=own;rw [List.take_of_length_le (by have:=HNS.out;omega)] at own2;have hfit:Tx.fitX (Tx.commas Tx.wordP (Tx.texts Tx.sizeP q.S)):=(by unfold Tx.fitX;rw [Tx.texts_commas];exact (HXS2.out hS0).right.left);have hc:=namesText_any (own_names own2) hfit;rw [Tx.texts_commas] at hc;generalize Tx.cat (Tx.commas Tx.sizeP q.S)=D at hc HA;clear own own2 hfit;go_wp2_with fail;refine hc.mono ?_;rintro e w6 ⟨rfl,hw6⟩;rw [hw6];clear hw6;have hA:=HA.out hS0;have hAs:N.size+3+(5+node.size)+(1+D.size+1)≤1000000000000000000:=(by have:=hs2;rw [hA] at this;simp only [ByteArray.size_append] at this;rw [show (⟨#[60]⟩:ByteArray).size=1 from rfl,show (⟨#[62]⟩:ByteArray).size=1 from rfl] at this;omega);have HA2:=hide hA;clear hA HA hs2;go_wp2_with fail;go_meet
      case rel=>exact ⟨by first | (rw [←HP2.out,HA2.out];done) | (rw [←HP2.out,HA2.out];simp only [ByteArray.append_assoc]),kr,BR⟩
     case pos=>
      have hil:i<q.S.length:=(by have:=HNS.out;omega);obtain ⟨ao',cap',e1,_,_,hat⟩:=(HXS.out.under BR).at;injection e1 with e2 e3 e4;subst e2 e4;obtain ⟨bl,o,au,nu,cu,e5,hbl,d0,hte⟩:=hat i hil;subst e5;clear hat e3;have hfi:Tx.fitX (Tx.sizeP q.S[i]):=fit_comma (f:=Tx.sizeP) (HXS2.out hS0).right.left hil;have hc:=sizeText_any hte (htab.under BR) (HQ.out.S q.S[i] (List.getElem_mem hil)) hfi;obtain ⟨D,hDD⟩:=nmQ (Tx.cat (Tx.sizeP q.S[i]));rw [←hDD] at hc;have HDD:Hid (Tx.cat (Tx.sizeP q.S[i])=D):=hide hDD.symm;clear hDD hte hfi;go_wp2_with fail;refine hc.mono ?_;rintro e w5 ⟨rfl,b5⟩;clear hc;have B5:=br.trans (b5.mono br.size);have own5:=own.below b5;have hNb:=fun k hk=>(own.lt k hk).2;have hlen:(Tx.texts Tx.sizeP (q.S.take i)).length=i:=(by simp [Tx.texts];omega);have q1:kName.E (fun k=>wr.heap.size≤k) w5 [.string D] D:=rfl;have q2:((Tx.texts Tx.sizeP (q.S.take i)).length+1)*kName.bytes≤140737488355328:=(by rw [hlen];show (i+1)*16≤_;omega);have q3:(Tx.texts Tx.sizeP (q.S.take i)).length+1≤maxLen:=(by rw [hlen];unfold maxLen;omega);have zb:=br.size;have z5:=b5.size;have HTK:=hide (Tx.texts_take Tx.sizeP q.S i hil);generalize Tx.texts Tx.sizeP (q.S.take i)=acc at own own5 q2 q3 hlen HTK;clear hlen
      go_wp2_with (at_builtin;refine wpList_more kName rfl _ _ 39 9 rfl Tryz.underlying39 W.heap.size wr.heap.size _ acc (by rfl) own5 [.string D] D q1 (by rfl) hNb zb (by omega) q2 q3 ?_;intro v8 w8 own8 b8 _ _)
      go_roundg (nS-(i+1))
      case measure=>omega
      case rel=>exact ⟨i+1,by omega,rfl,by go_num,by rw [HTK.out,HDD.out];exact own8,B5.trans b8⟩
  case rest=>
   obtain ⟨rfl,kC,BC⟩:=hcut;clear HA HA0 HXS2 hs2 p2 p3 kA bA htA;rw [HP2.out] at HE;obtain ⟨WC,hWC⟩:=nmQ (wc);subst hWC;go_wp2_with fail;go_loopg [6,7] nE (fun gk v4 v5 wr=>∃ i,i≤nE∧gk=nE-i∧v5=.int .i64 (i:Nat)∧OwnL kName WC.heap.size wr v4 (Tx.texts Tx.exprP (q.E.take i))∧Below WC.heap.size WC wr)
   case atStart=>exact ⟨0,Nat.zero_le _,rfl,rfl,OwnL.nil,Below.refl _ _⟩
   case round=>
    obtain ⟨i,hi,rfl,rfl,own,br⟩:=hrel;have BR:=BC.trans (br.mono BC.size);have kr:=(br.block _ (lt_of kC)).trans kC;have r3:=co kr 4;simp at r3;obtain ⟨va,vm,vc,hvf⟩:=own_form3 own;subst hvf;by_cases hlt:i<nE
    case neg=>
     have hin:i=nE:=(by omega);subst hin;have own2:=own;rw [List.take_of_length_le (by have:=HNE.out;omega)] at own2;have hfit:Tx.fitX (Tx.commas Tx.wordP (Tx.texts Tx.exprP q.E)):=(by unfold Tx.fitX;rw [Tx.texts_commas];exact HXe.out);have hc:=namesText_any (own_names own2) hfit;rw [Tx.texts_commas] at hc;generalize Tx.cat (Tx.commas Tx.exprP q.E)=D at hc HE hP2s;clear own own2 hfit;go_wp2_with fail;refine hc.mono ?_;rintro e w6 ⟨rfl,hw6⟩;rw [hw6];clear hw6;go_wp2;go_ret;exact ⟨by rw [HE.out];rfl,BR⟩
    case pos=>
     have hil:i<q.E.length:=(by have:=HNE.out;omega);obtain ⟨ao',cap',e1,_,_,hat⟩:=(HXE.out.under BR).at;injection e1 with e2 e3 e4;subst e2 e4;obtain ⟨bl,o,y,e5,hok,hbl,hy,hex⟩:=hat i hil;subst e5;clear hat e3;obtain ⟨d0,d1,d2,d3,d4,d5⟩:=hy;have hfi:Tx.fitX (Tx.exprP q.E[i]):=fit_comma (f:=Tx.exprP) HXe.out hil;have hc:=exprText_any (HQ.out.E q.E[i] (List.getElem_mem hil)) ok _ y 0 hex (htab.under BR) (by omega) (by omega) hfi;obtain ⟨D,hDD⟩:=nmQ (Tx.cat (Tx.partP q.E[i] 0));rw [←hDD] at hc;have HDD:Hid (Tx.cat (Tx.exprP q.E[i])=D):=hide hDD.symm;obtain ⟨yo,yk,yn,ys,yaS,ynS,ycS,yaL,ynL,ycL⟩:=y
     dsimp only at d0 d1 d2 d3 d4 d5 hc
     clear hDD hex hfi;go_wp2_with fail;refine hc.mono ?_;rintro e w5 ⟨rfl,b5⟩;clear hc;have B5:=br.trans (b5.mono br.size);have own5:=own.below b5;have hNb:=fun k hk=>(own.lt k hk).2;have hlen:(Tx.texts Tx.exprP (q.E.take i)).length=i:=(by simp [Tx.texts];omega);have q1:kName.E (fun k=>wr.heap.size≤k) w5 [.string D] D:=rfl;have q2:((Tx.texts Tx.exprP (q.E.take i)).length+1)*kName.bytes≤140737488355328:=(by rw [hlen];show (i+1)*16≤_;omega);have q3:(Tx.texts Tx.exprP (q.E.take i)).length+1≤maxLen:=(by rw [hlen];unfold maxLen;omega);have zb:=br.size;have z5:=b5.size;have HTK:=hide (Tx.texts_take Tx.exprP q.E i hil);generalize Tx.texts Tx.exprP (q.E.take i)=acc at own own5 q2 q3 hlen HTK;clear hlen
     go_wp2_with (at_builtin;refine wpList_more kName rfl _ _ 39 9 rfl Tryz.underlying39 WC.heap.size wr.heap.size _ acc (by rfl) own5 [.string D] D q1 (by rfl) hNb zb (by omega) q2 q3 ?_;intro v8 w8 own8 b8 _ _)
     go_roundg (nE-(i+1))
     case measure=>omega
     case rel=>exact ⟨i+1,by omega,rfl,by go_num,by rw [HTK.out,HDD.out];exact own8,B5.trans b8⟩
end Go.Proofs.YtophfbefnaelfaaGreatDoor
namespace Go.Proofs.YtophfbefnaelfaaGreatDoor
open Go.RowKit Go.IntWalk
structure okN2 (n:Nd):Prop where
 base:okN n
 inn:∀ d ∈ n.inn,okD2 d
 out:∀ d ∈ n.out,okD2 d
 loc:∀ d ∈ n.loc,okD2 d
 few:∀ q ∈ n.eqs,q.S.length≤1000000∧q.E.length≤1000000
namespace Tx
def dclsP (l:List De):List ByteArray:=[⟨#[40]⟩]++(commas declP l++[⟨#[41]⟩])
theorem eqP_eq (q:Eqn):cat (eqP q)=⟨#[9]⟩++cat (eqT q)++⟨#[59,10]⟩:=by
 obtain ⟨place,names,node,S,E⟩:=q
 cases E with
 | nil=>simp only [eqP,eqT,cat_append,cat,ByteArray.append_empty,ByteArray.append_assoc]
 | cons a l=>simp only [eqP,eqT,cat_append,cat,ByteArray.append_empty,ByteArray.append_assoc]
theorem localP_eq (d:De):cat (localP d)=⟨#[9,118,97,114,32]⟩++cat (declP d)++⟨#[59,10]⟩:=by
 unfold localP;simp only [cat_append,cat,ByteArray.append_empty,ByteArray.append_assoc]
theorem arrow_eq:(⟨#[41,32,45,62,32,40]⟩:ByteArray)=⟨#[41]⟩++(⟨#[32,45,62,32]⟩++⟨#[40]⟩):=rfl
theorem brace_eq:(⟨#[41,32,123,10]⟩:ByteArray)=⟨#[41]⟩++⟨#[32,123,10]⟩:=rfl
theorem nodeP_eq (n:Nd):cat (nodeP n)=(⟨#[110,111,100,101,32]⟩++n.name)++cat (angP wordP n.sizes)++(cat (dclsP n.inn)++⟨#[32,45,62,32]⟩++cat (dclsP n.out)++⟨#[32,123,10]⟩)++cat (rowP (fun _ d=>localP d) 0 n.loc)++cat (rowP (fun _ q=>eqP q) 0 n.eqs)++⟨#[125,10]⟩:=by
 unfold nodeP dclsP;simp only [cat_append,cat,ByteArray.append_empty,ByteArray.append_assoc,arrow_eq,brace_eq]
theorem fit_of {l:List ByteArray} (h:(cat l).size≤1000000000000000000):fitX l:=h
end Tx
theorem text_any {ok:Nat→Prop} {w:World} {v:Value} {l:List Nd} (hl:HNds ok w v l) (htab:TabN w) (hs:∀ n ∈ l,okN2 n) (hX:Tx.fitX (Tx.progP l)) :
  Calls Tryz.prog 15 #[.agg #[v]] w fun e w'=>e=.returned (.string (Tx.cat (Tx.progP l)))∧Below w.heap.size w w':=by
 obtain ⟨ao,cap,rfl,hc1,hc2,_⟩:=hl.at;unfold maxLen at hc2;obtain ⟨R,hR⟩:=nmQ (Tx.cat (Tx.progP l));rw [←hR];have HR:=hide hR;have HX:=hide (show Tx.fitX (Tx.rowP (fun _ n=>Tx.nodeP n) 0 l) from hX);have HS:=hide hs;obtain ⟨n,hn⟩:=nmQ (l.length);rw [←hn] at hc1 hl ⊢;have HL:=hide hl;have HN:=hide hn;clear hn hR hX hs hl;have bA:Below w.heap.size w (w.alloc (.cells #[.slice ao n cap] 24 (0,0))):=(Below.refl _ _).alloc nR _;have kA:=heap_new w (.cells #[.slice ao n cap] 24 (0,0));go_enter Tryz.func15,Tryz.ntmps15;go_upto_block 0 with fail;generalize (w.alloc (.cells #[.slice ao n cap] 24 (0,0)))=W0 at bA kA ⊢;go_wp2_with fail;go_loopg [3,4] n (fun gk v3 v4 wr=>∃ i,i≤n∧gk=n-i∧v4=.int .i64 (i:Nat)∧(∃ s,v3=.string s∧Hid (s=Tx.cat (Tx.rowP (fun _ n=>Tx.nodeP n) 0 (l.take i))))∧Below W0.heap.size W0 wr)
 case atStart=>exact ⟨0,Nat.zero_le _,rfl,rfl,⟨_,rfl,hide (by rfl)⟩,Below.refl _ _⟩
 case round=>
  obtain ⟨i,hi,rfl,rfl,⟨s,rfl,H⟩,br⟩:=hrel;have BR:=bA.trans (br.mono bA.size);have kr:=(br.block _ (lt_of kA)).trans kA;have r0:=co kr 0;simp at r0;by_cases hlt:i<n
  case neg=>
   have hin:i=n:=(by omega);subst hin;have hs:s=R:=(by rw [H.out,HR.out,List.take_of_length_le (by have:=HN.out;omega)];rfl);clear H HR;subst hs;go_wp2;go_ret;exact ⟨rfl,BR⟩
  case pos=>
   have hil:i<l.length:=(by have:=HN.out;omega);have HY:=hide (Tx.cat_take (fun _ n=>Tx.nodeP n) l i hil);have hM:=HX.out.mid hil;unfold Tx.fitX at hM;rw [Tx.cat_append,←H.out,ByteArray.size_append,Tx.nodeP_eq] at hM;rw [Tx.nodeP_eq] at HY;simp only [ByteArray.size_append] at hM;have hsi:=HS.out l[i] (List.getElem_mem hil);obtain ⟨ao',cap',e1,_,_,hat⟩:=(HL.out.under BR).at;injection e1 with e2 e3 e4;subst e2 e4;obtain ⟨bl,o,y,e5,hbl,hy,hye⟩:=hat i hil;subst e5;clear hat e3;obtain ⟨d0,d1,d2,d3,d4,d5,d6⟩:=hy;generalize l[i]=x at HY hM hsi hye;obtain ⟨nm,yp,a2,n2,c2,a3,n3,c3,a4,n4,c4,a5,n5,c5,a6,n6,c6⟩:=y
   dsimp only at d0 d1 d2 d3 d4 d5 d6
   have hnm:=hye.name
   dsimp only at hnm
   rw [←hnm] at hM HY;clear hnm;have bB:Below wr.heap.size wr (wr.alloc (.cells #[.string nm,.int .i64 yp,.slice a2 n2 c2,.slice a3 n3 c3,.slice a4 n4 c4,.slice a5 n5 c5,.slice a6 n6 c6] 43 (0,0))):=(Below.refl _ _).alloc nR _;have BB:=BR.trans (bB.mono BR.size);have kB:=heap_new wr (.cells #[.string nm,.int .i64 yp,.slice a2 n2 c2,.slice a3 n3 c3,.slice a4 n4 c4,.slice a5 n5 c5,.slice a6 n6 c6] 43 (0,0));have hyB:=hye.under bB;have htB:=htab.under BB;obtain ⟨aq,cq,ev,hcz1,hcz2,_⟩:=hye.sizes.at
   dsimp only at ev
   injection ev with ev1 ev2 ev3;subst ev1 ev3;have HN2:Hid (n2=x.sizes.length):=hide ev2;rw [←ev2] at hcz1;clear ev2;obtain ⟨aq,cq,ev,hcl1,hcl2,_⟩:=hye.loc.at
   dsimp only at ev
   injection ev with ev1 ev2 ev3;subst ev1 ev3;have HN5:Hid (n5=x.loc.length):=hide ev2;rw [←ev2] at hcl1;clear ev2;obtain ⟨aq,cq,ev,hce1,hce2,_⟩:=hye.eqs.at
   dsimp only at ev
   injection ev with ev1 ev2 ev3;subst ev1 ev3;have HN6:Hid (n6=x.eqs.length):=hide ev2;rw [←ev2] at hce1;clear ev2;unfold maxLen at hcz2 hcl2 hce2;have hnames:=fun V (b:Below (wr.alloc (.cells #[.string nm,.int .i64 yp,.slice a2 n2 c2,.slice a3 n3 c3,.slice a4 n4 c4,.slice a5 n5 c5,.slice a6 n6 c6] 43 (0,0))).heap.size (wr.alloc (.cells #[.string nm,.int .i64 yp,.slice a2 n2 c2,.slice a3 n3 c3,.slice a4 n4 c4,.slice a5 n5 c5,.slice a6 n6 c6] 43 (0,0))) V) (h:Tx.fitX (Tx.commas Tx.wordP x.sizes))=>namesText_any (hyB.sizes.under b) h;have hdin:=fun V (b:Below (wr.alloc (.cells #[.string nm,.int .i64 yp,.slice a2 n2 c2,.slice a3 n3 c3,.slice a4 n4 c4,.slice a5 n5 c5,.slice a6 n6 c6] 43 (0,0))).heap.size (wr.alloc (.cells #[.string nm,.int .i64 yp,.slice a2 n2 c2,.slice a3 n3 c3,.slice a4 n4 c4,.slice a5 n5 c5,.slice a6 n6 c6] 43 (0,0))) V)=>declsText_any (hyB.inn.under b) (htB.under b) hsi.inn (Tx.fit_of (by show (Tx.cat (Tx.dclsP x.inn)).size≤_;omega));have hdout:=fun V (b:Below (wr.alloc (.cells #[.string nm,.int .i64 yp,.slice a2 n2 c2,.slice a3 n3 c3,.slice a4 n4 c4,.slice a5 n5 c5,.slice a6 n6 c6] 43 (0,0))).heap.size (wr.alloc (.cells #[.string nm,.int .i64 yp,.slice a2 n2 c2,.slice a3 n3 c3,.slice a4 n4 c4,.slice a5 n5 c5,.slice a6 n6 c6] 43 (0,0))) V)=>declsText_any (hyB.out.under b) (htB.under b) hsi.out (Tx.fit_of (by show (Tx.cat (Tx.dclsP x.out)).size≤_;omega))
   dsimp only at hnames hdin hdout
   have hsz5:(⟨#[110,111,100,101,32]⟩:ByteArray).size=5:=rfl;have hsz4:(⟨#[32,45,62,32]⟩:ByteArray).size=4:=rfl;have hsz3:(⟨#[32,123,10]⟩:ByteArray).size=3:=rfl;have hsz2:(⟨#[125,10]⟩:ByteArray).size=2:=rfl;rw [hsz5,hsz4,hsz3,hsz2] at hM;clear hsz5 hsz4 hsz3 hsz2;have HHY:=hide hyB;have HSI:=hide hsi
   change ∀ V (b:Below (wr.alloc (.cells #[.string nm,.int .i64 yp,.slice a2 n2 c2,.slice a3 n3 c3,.slice a4 n4 c4,.slice a5 n5 c5,.slice a6 n6 c6] 43 (0,0))).heap.size (wr.alloc (.cells #[.string nm,.int .i64 yp,.slice a2 n2 c2,.slice a3 n3 c3,.slice a4 n4 c4,.slice a5 n5 c5,.slice a6 n6 c6] 43 (0,0))) V),Calls Tryz.prog 37 #[.slice a3 n3 c3] V fun e w'=>e=.returned (.string (Tx.cat (Tx.dclsP x.inn)))∧Below V.heap.size V w' at hdin
   change ∀ V (b:Below (wr.alloc (.cells #[.string nm,.int .i64 yp,.slice a2 n2 c2,.slice a3 n3 c3,.slice a4 n4 c4,.slice a5 n5 c5,.slice a6 n6 c6] 43 (0,0))).heap.size (wr.alloc (.cells #[.string nm,.int .i64 yp,.slice a2 n2 c2,.slice a3 n3 c3,.slice a4 n4 c4,.slice a5 n5 c5,.slice a6 n6 c6] 43 (0,0))) V),Calls Tryz.prog 37 #[.slice a4 n4 c4] V fun e w'=>e=.returned (.string (Tx.cat (Tx.dclsP x.out)))∧Below V.heap.size V w' at hdout
   have HA:Hid (n2≠0→Tx.cat (Tx.angP Tx.wordP x.sizes)=⟨#[60]⟩++Tx.cat (Tx.commas Tx.wordP x.sizes)++⟨#[62]⟩):=hide (fun h=>by
    unfold Tx.angP;rw [if_neg (by rw [←HN2.out];exact h)];simp only [Tx.cat_append,Tx.cat,ByteArray.append_empty,ByteArray.append_assoc])
   have HA0:Hid (n2=0→Tx.cat (Tx.angP Tx.wordP x.sizes)=ByteArray.empty):=hide (fun h=>by
    unfold Tx.angP;rw [if_pos (by rw [←HN2.out];exact h)];rfl)
   generalize Tx.cat (Tx.angP Tx.wordP x.sizes)=AA at hM HY HA HA0;generalize Tx.cat (Tx.dclsP x.inn)=DI at hM HY hdin;generalize Tx.cat (Tx.dclsP x.out)=DO at hM HY hdout;obtain ⟨sb,hsb⟩:=nmQ (decide (0<n2));have hsbI:decide (0<n2)=sb:=hsb.symm;have hsbJ:decide ((0:Int)<(n2:Int))=sb:=(by rw [hsb];simp);have HSB:=hide hsb;clear hsb hye hyB;go_upto_region 7 with fail;generalize (wr.alloc (.cells #[.string nm,.int .i64 yp,.slice a2 n2 c2,.slice a3 n3 c3,.slice a4 n4 c4,.slice a5 n5 c5,.slice a6 n6 c6] 43 (0,0)))=W at bB BB kB HHY htB hnames hdin hdout ⊢;have p2:=co kB 2;simp at p2;go_upto_if 28 with fail;clear hsbI hsbJ;go_cut [3] (fun v3 wc=>v3=.string (s++(⟨#[110,111,100,101,32]⟩++nm)++AA)∧Below W.heap.size W wc)
   case first=>
    cases sb
    ·have hS0:n2=0:=by have:=HSB.out;simp at this;exact this
     have HAA:=hide (HA0.out hS0);clear HA HA0 hS0;go_wp2_with fail;go_meet
     case rel=>exact ⟨by rw [HAA.out,ByteArray.append_empty],Below.refl _ _⟩
    ·have hS0:n2≠0:=by have:=HSB.out;simp at this;omega
     have hA:=HA.out hS0;have hDs:s.size+(5+nm.size)+(1+(Tx.cat (Tx.commas Tx.wordP x.sizes)).size+1)≤1000000000000000000:=by
      rw [hA] at hM;simp only [ByteArray.size_append] at hM;rw [show (⟨#[60]⟩:ByteArray).size=1 from rfl,show (⟨#[62]⟩:ByteArray).size=1 from rfl] at hM;omega
     have hc:=hnames W (Below.refl _ _) (Tx.fit_of (by omega));generalize Tx.cat (Tx.commas Tx.wordP x.sizes)=D at hA hDs hc;have HAA:=hide hA;clear HA HA0 hA hnames;go_wp2_with fail;refine hc.mono ?_;rintro e w6 ⟨rfl,hw6⟩;rw [hw6];clear hw6;go_wp2_with fail;go_meet
     case rel=>exact ⟨by rw [HAA.out],Below.refl _ _⟩
   case rest=>
    obtain ⟨rfl,bC⟩:=hcut;clear HA HA0 hnames p2;have kC:=(bC.block _ (lt_of kB)).trans kB;obtain ⟨P1,hP1⟩:=nmQ (s++(⟨#[110,111,100,101,32]⟩++nm)++AA);have hP1s:P1.size+(DI.size+4+DO.size+3)+(Tx.cat (Tx.rowP (fun _ d=>Tx.localP d) 0 x.loc)).size+(Tx.cat (Tx.rowP (fun _ q=>Tx.eqP q) 0 x.eqs)).size+2≤1000000000000000000:=by
     rw [hP1];simp only [ByteArray.size_append];rw [show (⟨#[110,111,100,101,32]⟩:ByteArray).size=5 from rfl];omega
    rw [←hP1];have HP1:=hide hP1;clear hP1 hM;go_upto_region 9 with fail;refine wp_region_late (fun w'=>w'.cell? ⟨wr.heap.size,3,none⟩=some (.slice a3 n3 c3)∧w'.cell? ⟨wr.heap.size,4,none⟩=some (.slice a4 n4 c4)) (fun _=>false) (by kernel_rfl) ?_;have bD:=bC.trans ((Below.refl _ wc).drew.mono bC.size);have hS:∀ V:World,V.heap[wr.heap.size]?=some (.cells #[.string nm,.int .i64 yp,.slice a2 n2 c2,.slice a3 n3 c3,.slice a4 n4 c4,.slice a5 n5 c5,.slice a6 n6 c6] 43 (0,0))→(fun w'=>w'.cell? ⟨wr.heap.size,3,none⟩=some (.slice a3 n3 c3)∧w'.cell? ⟨wr.heap.size,4,none⟩=some (.slice a4 n4 c4)) V:=fun V hk=>⟨by have:=co hk 3;simpa using this,by have:=co hk 4;simpa using this⟩;have hH:=hS wc.drew kC;have kD:wc.drew.heap[wr.heap.size]?=some (.cells #[.string nm,.int .i64 yp,.slice a2 n2 c2,.slice a3 n3 c3,.slice a4 n4 c4,.slice a5 n5 c5,.slice a6 n6 c6] 43 (0,0)):=kC;simp only [] at hH;generalize wc.drew=wd at bD hH kD ⊢;refine' wpAnyL_take (i:=0) (v:=_) rfl (by kernel_rfl) (by kernel_rfl) (by kernel_rfl) (by kernel_rfl) (fun _ _ _ h=>h) hH (by rfl) ?hyv ?o1
    case hyv=>
     intro wz hSw;obtain ⟨ca,cb⟩:=hSw;go_simp
     try rfl
    try simp only [Act.put,sT,sZ,sS]
    refine' wpAnyL_take (i:=1) (v:=_) rfl (by kernel_rfl) (by kernel_rfl) (by kernel_rfl) (by kernel_rfl) (fun _ _ _ h=>h) hH (by rfl) ?hyv ?o2
    case hyv=>
     intro wz hSw;obtain ⟨ca,cb⟩:=hSw;go_simp
     try rfl
    try simp only [Act.put,sT,sZ,sS]
    refine' wpAnyL_take (i:=2) (v:=_) rfl (by kernel_rfl) (by kernel_rfl) (by kernel_rfl) (by kernel_rfl) (fun _ _ _ h=>h) hH (by rfl) ?hyv ?o3
    case hyv=>
     intro wz hSw;obtain ⟨ca,cb⟩:=hSw;go_simp
     try rfl
    try simp only [Act.put,sT,sZ,sS]
    refine' wpAnyL_take (i:=5) (v:=_) rfl (by kernel_rfl) (by kernel_rfl) (by kernel_rfl) (by kernel_rfl) (fun _ _ _ h=>h) hH (by rfl) ?hyv ?o4
    case hyv=>
     intro wz hSw;obtain ⟨ca,cb⟩:=hSw;go_simp
     try rfl
    try simp only [Act.put,sT,sZ,sS]
    refine' wpAnyL_take (i:=6) (v:=_) rfl (by kernel_rfl) (by kernel_rfl) (by kernel_rfl) (by kernel_rfl) (fun _ _ _ h=>h) hH (by rfl) ?hyv ?o5
    case hyv=>
     intro wz hSw;obtain ⟨ca,cb⟩:=hSw;go_simp
     try rfl
    try simp only [Act.put,sT,sZ,sS]
    refine wpAnyL_one (i:=3) rfl (by kernel_rfl) (by rfl) (fun K hK=>?_);go_simp;refine (hdin wd bD).mono ?_;rintro e v1 ⟨rfl,bv1⟩;have bE:=bD.trans (bv1.mono bD.size);have kE:=(bv1.block _ (lt_of kD)).trans kD;have hH1:=hS v1 kE;refine hK.out _ _ (fun _=>hH1) ?_;clear hK K
    try simp only [Act.put,sT,sZ,sS]
    refine' wpAnyL_take (i:=4) (v:=_) rfl (by kernel_rfl) (by kernel_rfl) (by kernel_rfl) (by kernel_rfl) (fun _ _ _ h=>h) hH1 (by rfl) ?hyv ?o6
    case hyv=>
     intro wz hSw;obtain ⟨ca,cb⟩:=hSw;go_simp;rw [if_neg (by omega)]
     try rfl
    try simp only [Act.put,sT,sZ,sS]
    refine wpAnyL_one (i:=7) rfl (by kernel_rfl) (by rfl) (fun K hK=>?_);go_simp;refine (hdout v1 bE).mono ?_;rintro e v2 ⟨rfl,bv2⟩;have bF:=bE.trans (bv2.mono bE.size);have kF:=(bv2.block _ (lt_of kE)).trans kE;have hH2:=hS v2 kF;refine hK.out _ _ (fun _=>hH2) ?_;clear hK K
    try simp only [Act.put,sT,sZ,sS]
    refine' wpAnyL_take (i:=8) (v:=_) rfl (by kernel_rfl) (by kernel_rfl) (by kernel_rfl) (by kernel_rfl) (fun _ _ _ h=>h) hH2 (by rfl) ?hyv ?o7
    case hyv=>
     intro wz hSw;obtain ⟨ca,cb⟩:=hSw;go_simp;rw [if_neg (by omega)]
     try rfl
    try simp only [Act.put,sT,sZ,sS]
    refine' wpAnyL_take (i:=9) (v:=_) rfl (by kernel_rfl) (by kernel_rfl) (by kernel_rfl) (by kernel_rfl) (fun _ _ _ h=>h) hH2 (by rfl) ?hyv ?o8
    case hyv=>
     intro wz hSw;obtain ⟨ca,cb⟩:=hSw;go_simp;rw [if_neg (by omega)]
     try rfl
    try simp only [Act.put,sT,sZ,sS]
    refine' wpAnyL_take (i:=10) (v:=_) rfl (by kernel_rfl) (by kernel_rfl) (by kernel_rfl) (by kernel_rfl) (fun _ _ _ h=>h) hH2 (by rfl) ?hyv ?o9
    case hyv=>
     intro wz hSw;obtain ⟨ca,cb⟩:=hSw;go_simp;rw [if_neg (by omega)]
     try rfl
    try simp only [Act.put,sT,sZ,sS]
    refine' wpAnyL_take (i:=11) (v:=_) rfl (by kernel_rfl) (by kernel_rfl) (by kernel_rfl) (by kernel_rfl) (fun _ _ _ h=>h) hH2 (by rfl) ?hyv ?o10
    case hyv=>
     intro wz hSw;obtain ⟨ca,cb⟩:=hSw;go_simp
     try rfl
    try simp only [Act.put,sT,sZ,sS]
    refine wpAnyL_done (by kernel_rfl) ?_ _;obtain ⟨P2,hP2⟩:=nmQ (P1++(DI++⟨#[32,45,62,32]⟩++DO++⟨#[32,123,10]⟩));have hP2s:P2.size+(Tx.cat (Tx.rowP (fun _ d=>Tx.localP d) 0 x.loc)).size+(Tx.cat (Tx.rowP (fun _ q=>Tx.eqP q) 0 x.eqs)).size+2≤1000000000000000000:=by
     rw [hP2];simp only [ByteArray.size_append];rw [show (⟨#[32,45,62,32]⟩:ByteArray).size=4 from rfl,show (⟨#[32,123,10]⟩:ByteArray).size=3 from rfl];omega
    have HP2:=hide hP2;rw [←hP2];clear hP2 hP1s hS hH hH1 hH2 hdin hdout;go_upto_block 2 with fail;go_wp2_with fail;go_loopg [3,6] n5 (fun gk v3 v6 wq=>∃ j,j≤n5∧gk=n5-j∧v6=.int .i64 (j:Nat)∧(∃ z,v3=.string z∧Hid (z=P2++Tx.cat (Tx.rowP (fun _ d=>Tx.localP d) 0 (x.loc.take j))))∧Below W.heap.size W wq)
    case atStart=>exact ⟨0,Nat.zero_le _,rfl,rfl,⟨_,rfl,hide (by show _=P2++ByteArray.empty;rw [ByteArray.append_empty])⟩,bF⟩
    case round=>
     obtain ⟨j,hj,rfl,rfl,⟨z,rfl,Hz⟩,bq⟩:=hrel;have BQ:=BB.trans (bq.mono BB.size);have kq:=(bq.block _ (lt_of kB)).trans kB;have t5:=co kq 5;simp at t5;by_cases hlt2:j<n5
     case neg=>
      have hjn:j=n5:=(by omega);subst hjn;obtain ⟨P3,hP3⟩:=nmQ (z);subst hP3;have HP3:Hid (P3=P2++Tx.cat (Tx.rowP (fun _ d=>Tx.localP d) 0 x.loc)):=hide (by rw [Hz.out,List.take_of_length_le (by have:=HN5.out;omega)]);have hP3s:P3.size+(Tx.cat (Tx.rowP (fun _ q=>Tx.eqP q) 0 x.eqs)).size+2≤1000000000000000000:=(by rw [HP3.out];simp only [ByteArray.size_append];omega);have bq2:=bq;clear Hz hP2s;go_wp2_with fail;go_loopg [3,7] n6 (fun gk v3 v6 wq=>∃ j,j≤n6∧gk=n6-j∧v6=.int .i64 (j:Nat)∧(∃ z,v3=.string z∧Hid (z=P3++Tx.cat (Tx.rowP (fun _ q=>Tx.eqP q) 0 (x.eqs.take j))))∧Below W.heap.size W wq)
      case atStart=>exact ⟨0,Nat.zero_le _,rfl,rfl,⟨_,rfl,hide (by show _=P3++ByteArray.empty;rw [ByteArray.append_empty])⟩,bq2⟩
      case round=>
       obtain ⟨j,hj,rfl,rfl,⟨z,rfl,Hz⟩,bq⟩:=hrel;have BQ:=BB.trans (bq.mono BB.size);have kq:=(bq.block _ (lt_of kB)).trans kB;have t5:=co kq 6;simp at t5;by_cases hlt2:j<n6
       case neg=>
        have hjn:j=n6:=(by omega);subst hjn;have hz:z=P3++Tx.cat (Tx.rowP (fun _ q=>Tx.eqP q) 0 x.eqs):=(by rw [Hz.out,List.take_of_length_le (by have:=HN6.out;omega)]);have hzs:z.size+2≤1000000000000000000:=(by rw [hz];simp only [ByteArray.size_append];omega);have HZ:=hide hz;clear hz Hz;go_wp2_with fail;go_roundg (n-(i+1))
        case measure=>omega
        case rel=>exact ⟨i+1,by omega,rfl,by go_num,⟨_,rfl,hide (by rw [HY.out,HZ.out,HP3.out,HP2.out,HP1.out,←H.out];simp only [ByteArray.append_assoc])⟩,br.trans ((bB.trans (bq.mono bB.size)).mono br.size)⟩
       case pos=>
        have hjl:j<x.eqs.length:=(by have:=HN6.out;omega);have HYj:=hide (Tx.cat_take (fun _ q=>Tx.eqP q) x.eqs j hjl);have hMle:=cat_mid_le (fun _ q=>Tx.eqP q) x.eqs j hjl;have hqj:=HSI.out.base.eqs x.eqs[j] (List.getElem_mem hjl);have hfw:=HSI.out.few x.eqs[j] (List.getElem_mem hjl);obtain ⟨ao',cap',e1,_,_,hat⟩:=(HHY.out.eqs.under bq).at;injection e1 with e2 e3 e4;subst e2 e4;obtain ⟨bl2,o2,yq,e5,hbl2,hy2,hyq⟩:=hat j hjl;subst e5;clear hat e3;obtain ⟨g0,g1,g2,g3,g4⟩:=hy2;rw [Tx.eqP_eq] at HYj hMle;simp only [ByteArray.size_append] at hMle;rw [show (⟨#[9]⟩:ByteArray).size=1 from rfl,show (⟨#[59,10]⟩:ByteArray).size=2 from rfl] at hMle;have hzs:z.size+(1+(Tx.cat (Tx.eqT x.eqs[j])).size+2)≤1000000000000000000:=(by rw [Hz.out];simp only [ByteArray.size_append];omega);have hc:=eqText_any hyq (htab.under BQ) hqj hfw.1 hfw.2 (Tx.fit_of (by omega));generalize Tx.cat (Tx.eqT x.eqs[j])=D at HYj hMle hzs hc;obtain ⟨qp,qaN,qnN,qcN,qn,qaS,qnS,qcS,qaE,qnE,qcE⟩:=yq
        dsimp only at g0 g1 g2 g3 g4 hc
        clear hyq hMle hqj hfw;go_wp2_with fail;refine hc.mono ?_;rintro e w5 ⟨rfl,b5⟩;go_wp2_with fail;go_roundg (n6-(j+1))
        case measure=>omega
        case rel=>exact ⟨j+1,by omega,rfl,by go_num,⟨_,rfl,hide (by rw [HYj.out,←ByteArray.append_assoc (a:=P3),←Hz.out])⟩,bq.trans (b5.mono bq.size)⟩
     case pos=>
      have hjl:j<x.loc.length:=(by have:=HN5.out;omega);have HYj:=hide (Tx.cat_take (fun _ d=>Tx.localP d) x.loc j hjl);have hMle:=cat_mid_le (fun _ d=>Tx.localP d) x.loc j hjl;have hdj:=HSI.out.loc x.loc[j] (List.getElem_mem hjl);obtain ⟨ao',cap',e1,_,_,hat⟩:=(HHY.out.loc.under bq).at;injection e1 with e2 e3 e4;subst e2 e4;obtain ⟨bl2,o2,au,nu,cu,e5,hbl2,g0,g1,g2,hte⟩:=hat j hjl;subst e5;clear hat e3;rw [Tx.localP_eq] at HYj hMle;simp only [ByteArray.size_append] at hMle;rw [show (⟨#[9,118,97,114,32]⟩:ByteArray).size=5 from rfl,show (⟨#[59,10]⟩:ByteArray).size=2 from rfl] at hMle;have hzs:z.size+(5+(Tx.cat (Tx.declP x.loc[j])).size+2)≤1000000000000000000:=(by rw [Hz.out];simp only [ByteArray.size_append];omega);generalize x.loc[j]=dd at HYj hMle hzs hdj g0 g1 hte;obtain ⟨dn,dx,dz⟩:=dd
      dsimp only at g0 g1 hte
      have hc:=declText_any hte (htab.under BQ) hdj (Tx.fit_of (by omega));generalize Tx.cat (Tx.declP ⟨dn,dx,dz⟩)=D at HYj hMle hzs hc;clear hte hMle hdj;go_wp2_with fail;refine hc.mono ?_;rintro e w5 ⟨rfl,b5⟩;go_wp2_with fail;go_roundg (n5-(j+1))
      case measure=>omega
      case rel=>exact ⟨j+1,by omega,rfl,by go_num,⟨_,rfl,hide (by rw [HYj.out,←ByteArray.append_assoc (a:=P2),←Hz.out])⟩,bq.trans (b5.mono bq.size)⟩
end Go.Proofs.YtophfbefnaelfaaGreatDoor
