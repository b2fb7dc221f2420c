import Derived.Test.YtegakbobaecdlaaGreatDoorG35
import Derived.WalkKit
import Derived.WalkSpells
import Derived.IntWalk
import Derived.Deep.Cut
import Derived.Deep.LoopGhost
import Derived.Laws.Cover1
import Derived.Lib.Hide
import Derived.Ground.NamesProg
import Derived.Laws.EntriesVeiled
import Derived.Laws.Externs
import Derived.Lib.MakeNoZero
import Derived.Lib.SlBuf
import Derived.Shelf.Bytes.SlSmallAll
import Derived.Shelf.Lay
set_option linter.unusedVariables false
set_option linter.unusedSimpArgs false
set_option maxHeartbeats 64000000
set_option maxRecDepth 100000
namespace Go.Proofs.YtegakbobaecdlaaGreatDoor
open Go.RowKit Go.IntWalk
namespace Sk
def AheadTo (S:Sys) (n:Nat):Prop:=∀ i (h:i<S.R.length),i<n->∀ z ∈ needs S.R[i],z ∈ S.I\/z ∈ (S.R.take i).map (·.out)
theorem aheadTo_all {S:Sys}:AheadTo S S.R.length↔Ahead S:=⟨fun h i hi z hz=>h i hi hi z hz,fun h i hi _ z hz=>h i hi z hz⟩
theorem can_ahead {S:Sys} (ok:Okay S) {m:List Bool} {i:Nat} (hi:i<S.R.length) (hm:MadeBy m S.V.length (S.I++(S.R.take i).map (·.out))):canC (S.R.map needs) m i=true↔∀ z ∈ needs S.R[i],z ∈ S.I\/z ∈ (S.R.take i).map (·.out):=by
 have hr:S.R[i] ∈ S.R:=List.getElem_mem hi;have e2:(S.R.map needs).getD i []=needs S.R[i]:=(by simp [List.getD_eq_getElem?_getD,hi]);unfold canC;rw [e2]
 constructor
 ·intro h z hz
  have h1:(needs S.R[i]).any (fun x => !(m.getD x.toNat false))=false:=(by simpa using h);rw [List.any_eq_false] at h1;have h2:m.getD z.toNat false=true:=(by simpa using h1 z hz);have:=(hm.at (needs_in ok _ hr z hz)).1 h2
  simpa using this
 ·intro h
  have h1:(needs S.R[i]).any (fun x => !(m.getD x.toNat false))=false:=by
   rw [List.any_eq_false];intro z hz;have:=(hm.at (needs_in ok _ hr z hz)).2 (by rw [List.mem_append];exact h z hz);rw [this]
   decide
  rw [h1];rfl
end Sk
structure SortedR (w:World) (S:Sk.Sys) (e:Ending) (w':World):Prop where
 out:∃ q,e=.returned (.bool q)/\(q=true↔Sk.Ahead S)/\Below w.heap.size w w'
theorem sorted14_any {ok:Nat->Prop} {w:World} {aV aI aO aR:Option Addr} {cV cI cO cR:Nat} {S:Sk.Sys} (hG:GlobK w) (hP:GlobP w) (hS:HSys ok w aV aI aO aR cV cI cO cR S) (hfit:∀ r ∈ S.R,r.A.length<=1000000/\r.E.length<=1000000) (okS:Sk.Okay S) :
  Calls Tryz.prog 14 #[.agg #[.slice aV S.V.length cV,.slice aI S.I.length cI,.slice aO S.O.length cO,.slice aR S.R.length cR]] w (SortedR w S):=by
 have b1:Below w.heap.size w (w.alloc (.cells #[.slice aV S.V.length cV,.slice aI S.I.length cI,.slice aO S.O.length cO,.slice aR S.R.length cR] 26 (0,0))):=(Below.refl _ _).alloc zL _;have kS:=zJ w (.cells #[.slice aV S.V.length cV,.slice aI S.I.length cI,.slice aO S.O.length cO,.slice aR S.R.length cR] 26 (0,0));have hwo:=walkOver_any (hG.under b1) (hP.under b1) (hS.under b1) hfit;have HC:=zG ((Sk.check_zero S).2 okS);have HOK:=zG okS;obtain ⟨aoR,capR,evR,hcR1,hcR2,-⟩:=hS.R.at;injection evR with q1 q2 q3;rw [<-q3] at hcR1 hcR2;unfold maxLen at hcR2;clear hS hG hP hfit okS q1 q2 q3;go_enter Tryz.func14,Tryz.ntmps14;go_upto_region 1 with fail;generalize w.alloc (.cells #[.slice aV S.V.length cV,.slice aI S.I.length cI,.slice aO S.O.length cO,.slice aR S.R.length cR] 26 (0,0))=w1 at b1 kS hwo ⊢;have s0:=coQ kS 0;have s1:=coQ kS 1;have s2:=coQ kS 2;have s3:=coQ kS 3;simp at s0 s1 s2 s3;go_wp2_with fail;refine hwo.mono ?_;rintro e w2 (⟨hne,-⟩ | ⟨hOk,b,g,w5,gb,gg,bw5,gw5,nbg,z5,rfl,hWo,hS2,b2⟩)
 case inl=>exact absurd (by rw [HC.out]) hne
 clear hwo s0 s1 s2 s3;have b3:Below w2.heap.size w2 (w2.alloc (.cells #[.int .i64 0,.int .i64 0] 30 (0,0))):=(Below.refl _ _).alloc zL _;have kE:=zJ w2 (.cells #[.int .i64 0,.int .i64 0] 30 (0,0));have z1:w.heap.size<w1.heap.size:=zH kS;have B3:=(b1.trans (b2.mono b1.size)).trans (b3.mono (Nat.le_trans b1.size b2.size));obtain ⟨vN,vL,okN,hk,hN,hL,hokN,hdis⟩:=hWo.rows;have z2:=b2.size;have hN2:OwnX kIL okN w2 vN (S.R.map Sk.needs):=(by rw [List.take_length] at hN;exact hN);have hlw:∀ k,vL.ownBlock=some k->w5.heap.size<=k/\k<w2.heap.size:=hL.lt;have hni:=Sk.needs_in hOk;have h0:TkAt okN (fun i=>i<w1.heap.size) (w2.alloc (.cells #[.int .i64 0,.int .i64 0] 30 (0,0))) (w2.alloc (.cells #[.int .i64 0,.int .i64 0] 30 (0,0))) b w5.heap.size ⟨aV,S.V.length,cV,aI,S.I.length,cI,aO,S.O.length,cO,aR,S.R.length,cR,g⟩ vN vL.ownBlock (S.R.map Sk.needs) S.R (.slice none 0 0) (Sk.inM S) (List.range S.R.length) []:=
  ⟨⟨vL,hk.under b3,hL.below b3,rfl⟩,hWo.made.under b3,by show S.V.length=(Sk.inM S).length;rw [<-Sk.inMi_all,Sk.inMi_len],hN2.row.keep b3.size (fun i _ hl=>b3.block i hl),(hS2.under b3).R,OwnL.nil,Nat.le_refl _,by simp,List.nodup_range,fun j hj=>by simpa using hj,fun S' _ _ _=>Aside.refl _⟩
 have hbw2:b<w2.heap.size:=zH hk;have hgw2:g<w2.heap.size:=zH hWo.made;have hlen:(Sk.inM S).length=S.V.length:=(by rw [<-Sk.inMi_all,Sk.inMi_len]);have zz:(w2.alloc (.cells #[.int .i64 0,.int .i64 0] 30 (0,0))).heap.size=w2.heap.size+1:=(by simp);have gob:∀ k,vL.ownBlock=some k->k<(w2.alloc (.cells #[.int .i64 0,.int .i64 0] 30 (0,0))).heap.size/\k≠b/\k≠g/\¬okN k/\¬k<w1.heap.size:=fun k hk=>⟨by rw [zz];have:=(hlw k hk).2;omega,by have:=(hlw k hk).1;omega,by show k≠g;have:=(hlw k hk).1;omega,hdis k hk,by show ¬k<w1.heap.size;have:=(hlw k hk).1;omega⟩;have gNb:¬okN b/\¬okN g:=⟨fun q=>by have:=(hokN b q).1;omega,fun q=>by have:=(hokN g q).1;omega⟩;have gNl:∀ i,okN i->i<(w2.alloc (.cells #[.int .i64 0,.int .i64 0] 30 (0,0))).heap.size:=fun i hi=>by rw [zz];have:=(hokN i hi).2;omega
 have HT0:=zG h0;have HGO:=zG gob;have HNB:=zG gNb;have HRNG:=zG (show ∀ j (h:j<(S.R.map Sk.needs).length),∀ z ∈ (S.R.map Sk.needs)[j],0<=z/\z<S.V.length from fun j hj z hz=>by simp at hj;exact hni S.R[j] (List.getElem_mem _) z (by simpa using hz));have HM0:=zG (show Sk.MadeBy (Sk.inM S) S.V.length (S.I++(S.R.take 0).map (·.out)) by have:=(Sk.taken_start hOk).made;simpa using this);have hkb:=zH hk;generalize vL.ownBlock=ob at HT0 HGO;clear hWo hS2 hk hN hL hokN hdis hN2 hni h0 hlen hlw kS b3 hOk gob gNb gNl;go_upto_region 2 with fail;generalize w2.alloc (.cells #[.int .i64 0,.int .i64 0] 30 (0,0))=w3 at B3 HT0 HGO kE zz ⊢;have e0:=coQ kE 0;simp at e0;obtain ⟨vL0,hk0,-,-⟩:=HT0.out.left;unfold WkAt at hk0;have k3:=coQ hk0 3;simp at k3;clear hk0 kE;go_wp2_with fail;clear e0 k3;go_loopg [20] S.R.length (fun k v wr=>∃ (i:Nat) (m:List Bool) (L:List Nat),i<=S.R.length/\k=S.R.length-i/\v=.int .i64 (i:Nat)/\Hid (Sk.MadeBy m S.V.length (S.I++(S.R.take i).map (·.out)))/\Hid (Sk.AheadTo S i)/\Hid (TkAt okN (fun i=>i<w1.heap.size) w3 wr b w5.heap.size ⟨aV,S.V.length,cV,aI,S.I.length,cI,aO,S.O.length,cO,aR,S.R.length,cR,g⟩ vN ob (S.R.map Sk.needs) S.R (.slice none 0 0) m L []))
 case atStart=>exact ⟨0,_,_,Nat.zero_le _,rfl,rfl,HM0,zG (fun i _ h=>absurd h (Nat.not_lt_zero _)),HT0⟩
 case round=>
  clear HT0 HM0;obtain ⟨i,m,L,hi,rfl,rfl,HM,HA,HT⟩:=hrel;have T:=HT.out;have hA4:=T.frame (b :: g :: ob.toList) (by simp) (by simp) (fun k hk=>by rw [hk];simp);have hge:∀ k ∈ (b :: g :: ob.toList),w1.heap.size<=k:=by
   intro k hk;simp at hk;rcases hk with rfl | rfl | hk
   ·exact gb
   ·exact gg
   ·have:=(HGO.out k hk).2.2.2.2;omega
  have BR:Below w.heap.size w wr:=B3.trans ((hA4.mono (by omega)).below (fun k hk=>by have:=hge k hk;omega));by_cases hlt:i<S.R.length
  case neg=>
   have hin:i=S.R.length:=(by omega);subst hin;clear T hA4 hge;go_wp2;go_ret;exact ⟨⟨true,rfl,⟨fun _=>Sk.aheadTo_all.1 HA.out,fun _=>rfl⟩,BR⟩⟩
  case pos=>
   have hjN:i<(S.R.map Sk.needs).length:=(by simpa using hlt);obtain ⟨vL,hk,hL,hvo⟩:=T.left;have hcc:=canCome_any hk T.made T.len T.needs i hjN (fun z hz=>by rw [HM.out.1];exact HRNG.out i hjN z hz);have hca:=Sk.can_ahead HOK.out hlt HM.out;generalize Sk.canC (S.R.map Sk.needs) m i=q at hcc hca;have HCA:=zG hca;clear hca T;go_wp2_with fail;refine hcc.mono ?_;rintro e w6 ⟨rfl,b6⟩;have B6:=BR.trans (b6.mono BR.size);clear hcc
   cases q
   case false=>
    go_wp2;go_ret;exact ⟨⟨false,rfl,⟨fun h=>(by cases h),fun h=>absurd (HCA.out.2 (h i hlt)) (by simp)⟩,B6⟩⟩
   case true=>
    have T:=HT.out;have hr:S.R[i] ∈ S.R:=List.getElem_mem hlt;have hout:=(HOK.out.rules _ hr).1.1;have htk:=take_any (hk.under b6) (T.made.under b6) T.len nbg (T.rules.under b6) (hL.below b6) (by have:=T.few;have:=HOK.out.nR;simp at *;omega) (by have:=T.size;have:=b6.size;omega) (fun e=>by rw [hvo] at e;exact (HGO.out b e).2.1 rfl) (fun e=>by rw [hvo] at e;exact (HGO.out g e).2.2.1 rfl) i hlt (by rw [HM.out.1];exact hout);have HB6:=zG b6;clear T;go_wp2_with fail;refine htk.mono ?_;rintro e w8 ⟨rfl,vL4,hk4,md4,own4,hvo4,hA8⟩;rw [hvo] at hvo4 hA8;have T:=HT.out;have AS:=hA8 (b :: g :: ob.toList) (by simp) (by simp) (fun k hk=>by rw [hk];simp);have z6:=HB6.out.size;have z8:=AS.size;have notS:∀ ok:Nat->Prop,¬ok b->¬ok g->(∀ k,ob=some k->¬ok k)->∀ i,ok i->i ∉ (b :: g :: ob.toList):=by
     intro ok h1 h2 h3 i hi hm;simp at hm;rcases hm with rfl | rfl | hm
     ·exact h1 hi
     ·exact h2 hi
     ·exact h3 i hm hi
    have need8:HRow kIL okN w8 vN (S.R.map Sk.needs):=(T.needs.keep z6 (fun i _ hl=>HB6.out.block i hl)).keep z8 (fun i hi hl=>AS.block i hl (notS okN HNB.out.1 HNB.out.2 (fun k hk=>(HGO.out k hk).2.2.2.1) i hi));have rule8:HRus (fun i=>i<w1.heap.size) w8 (.slice aR S.R.length cR) S.R:=(T.rules.under HB6.out).keep z8 (fun i hi hl=>AS.block i hl (notS (fun i=>i<w1.heap.size) (by show ¬b<w1.heap.size;omega) (by show ¬g<w1.heap.size;omega) (fun k hk=>(HGO.out k hk).2.2.2.2) i hi));have HNM:=zG (show Sk.MadeBy (m.set (S.R[i]).out.toNat true) S.V.length (S.I++(S.R.take (i+1)).map (·.out)) by
     rw [List.take_succ_eq_append_getElem hlt,List.map_append,<-List.append_assoc];exact HM.out.set hout)
    have HNA:=zG (show Sk.AheadTo S (i+1) from fun j hj hlt2 z hz=>by
     by_cases e:j=i
     ·subst e
      exact HCA.out.1 (by trivial) z hz
     ·exact HA.out j hj (by omega) z hz)
    have HNT:=zG (show TkAt okN (fun i=>i<w1.heap.size) w3 w8 b w5.heap.size ⟨aV,S.V.length,cV,aI,S.I.length,cI,aO,S.O.length,cO,aR,S.R.length,cR,g⟩ vN ob (S.R.map Sk.needs) S.R (.slice none 0 0) (m.set (S.R[i]).out.toNat true) (L.filter (· != i)) [] from ⟨⟨vL4,hk4,own4,hvo4⟩,md4,by rw [List.length_set];exact T.len,need8,rule8,OwnL.nil,Nat.le_trans T.size (Nat.le_trans z6 z8),by have h1:=T.few;have h2:=List.length_filter_le (· != i) L;simp at h1 ⊢;omega,T.nodup.filter _,fun j hj=>T.inR j (List.mem_filter.1 hj).1,fun S' s1 s2 s3=>((T.frame S' s1 s2 s3).trans (aside HB6.out) T.size).trans (hA8 S' s1 s2 s3) (Nat.le_trans T.size z6)⟩);clear htk hk4 md4 own4 hvo4 need8 rule8 hA8 AS T notS hk hL hvo;go_wp2_with fail;go_roundg (S.R.length-(i+1))
    case measure=>omega
    case rel=>exact ⟨i+1,_,_,by omega,rfl,by go_num,HNM,HNA,HNT⟩
end Go.Proofs.YtegakbobaecdlaaGreatDoor
namespace Go.Proofs.YtegakbobaecdlaaGreatDoor
open Go.RowKit Go.IntWalk
def FaultIs (S:Sk.Sys) (c a:Int):Prop:=((Sk.check S).1≠0/\(c,a)=Sk.check S)\/(Sk.Okay S/\¬Sk.Ahead S/\c=15/\a = -1)\/(Sk.Okay S/\Sk.Ahead S/\c=0/\a=0)
theorem FaultIs.det {S:Sk.Sys} {c a c' a':Int} (h:FaultIs S c a) (h':FaultIs S c' a'):c=c'/\a=a':=by
 have hz:Sk.Okay S->(Sk.check S).1=0:=fun ok=>by rw [(Sk.check_zero S).2 ok]
 rcases h with ⟨h1,h2⟩ | ⟨h1,h2,rfl,rfl⟩ | ⟨h1,h2,rfl,rfl⟩<;>rcases h' with ⟨g1,g2⟩ | ⟨g1,g2,rfl,rfl⟩ | ⟨g1,g2,rfl,rfl⟩
 ·have e:=h2.trans g2.symm
  injection e with e1 e2;exact ⟨e1,e2⟩
 ·exact absurd (hz g1) h1
 ·exact absurd (hz g1) h1
 ·exact absurd (hz h1) g1
 ·exact ⟨rfl,rfl⟩
 ·exact absurd g2 h2
 ·exact absurd (hz h1) g1
 ·exact absurd h2 g2
 ·exact ⟨rfl,rfl⟩
theorem FaultIs.good {S:Sk.Sys} {c a:Int} (h:FaultIs S c a) (hc:c=0):Sk.Okay S/\Sk.Ahead S/\a=0:=by
 rcases h with ⟨h1,h2⟩ | ⟨h1,h2,rfl,rfl⟩ | ⟨h1,h2,rfl,rfl⟩
 ·exfalso
  rw [<-h2] at h1;exact h1 hc
 ·cases hc
 ·exact ⟨h1,h2,rfl⟩
theorem faultOf_any {ok:Nat->Prop} {w:World} {aV aI aO aR:Option Addr} {cV cI cO cR:Nat} {S:Sk.Sys} (hG:GlobK w) (hP:GlobP w) (hS:HSys ok w aV aI aO aR cV cI cO cR S) (hfit:∀ r ∈ S.R,r.A.length<=1000000/\r.E.length<=1000000) :
  Calls Tryz.prog 64 #[.agg #[.slice aV S.V.length cV,.slice aI S.I.length cI,.slice aO S.O.length cO,.slice aR S.R.length cR]] w fun e w'=>∃ c a,e=.returned (.agg #[.int .i64 c,.int .i64 a])/\FaultIs S c a/\Below w.heap.size w w':=by
 have b1:Below w.heap.size w ((w.alloc (.cells #[.slice aV S.V.length cV,.slice aI S.I.length cI,.slice aO S.O.length cO,.slice aR S.R.length cR] 26 (0,0))).alloc (.cells #[.int .i64 0,.int .i64 0] 30 (0,0))):=((Below.refl _ _).alloc zL _).alloc (by simp) _;have kS:((w.alloc (.cells #[.slice aV S.V.length cV,.slice aI S.I.length cI,.slice aO S.O.length cO,.slice aR S.R.length cR] 26 (0,0))).alloc (.cells #[.int .i64 0,.int .i64 0] 30 (0,0))).heap[w.heap.size]?=some (.cells #[.slice aV S.V.length cV,.slice aI S.I.length cI,.slice aO S.O.length cO,.slice aR S.R.length cR] 26 (0,0)):=(Below.heap_alloc _ _ _ (by simp)).trans (zJ w _);have kF:((w.alloc (.cells #[.slice aV S.V.length cV,.slice aI S.I.length cI,.slice aO S.O.length cO,.slice aR S.R.length cR] 26 (0,0))).alloc (.cells #[.int .i64 0,.int .i64 0] 30 (0,0))).heap[w.heap.size+1]?=some (.cells #[.int .i64 0,.int .i64 0] 30 (0,0)):=by
  have:=zJ (w.alloc (.cells #[.slice aV S.V.length cV,.slice aI S.I.length cI,.slice aO S.O.length cO,.slice aR S.R.length cR] 26 (0,0))) (.cells #[.int .i64 0,.int .i64 0] 30 (0,0))
  simpa using this
 have hck:=check_any (hG.under b1) (hP.under b1) (hS.under b1) hfit;have HSD:=zG (fun (W:World) (hb:Below w.heap.size w W) (ok2:Sk.Okay S)=>sorted14_any (hG.under hb) (hP.under hb) (hS.under hb) hfit ok2);have hz:=(Sk.check_zero S).1;have hcc:=Sk.check_code S;obtain ⟨⟨cc,ca⟩,hF⟩:∃ F,F=Sk.check S:=⟨_,rfl⟩;rw [<-hF] at hck hz hcc;have HFS:=zG (show cc≠0->FaultIs S cc ca from fun h=>.inl ⟨by rw [<-hF];exact h,hF⟩);simp only at hck;have HOK:=zG (show cc=0->Sk.Okay S from fun h=>hz (hcc h));clear hS hG hP hfit hz hcc hF;go_enter Tryz.func64,Tryz.ntmps64;go_upto_region 1 with fail;generalize (w.alloc (.cells #[.slice aV S.V.length cV,.slice aI S.I.length cI,.slice aO S.O.length cO,.slice aR S.R.length cR] 26 (0,0))).alloc (.cells #[.int .i64 0,.int .i64 0] 30 (0,0))=w1 at b1 kS kF hck ⊢;have s0:=coQ kS 0;have s1:=coQ kS 1;have s2:=coQ kS 2;have s3:=coQ kS 3;simp at s0 s1 s2 s3;go_wp2_with fail;refine hck.mono ?_;rintro e w2 ⟨rfl,b2⟩;clear hck s0 s1 s2 s3;have b3:Below w2.heap.size w2 (w2.alloc (.cells #[.int .i64 cc,.int .i64 ca] 30 (0,0))):=(Below.refl _ _).alloc zL _;have kE:=zJ w2 (.cells #[.int .i64 cc,.int .i64 ca] 30 (0,0));have kF3:=(b3.block _ (zH ((b2.block _ (zH kF)).trans kF))).trans ((b2.block _ (zH kF)).trans kF);have kS3:=(b3.block _ (zH ((b2.block _ (zH kS)).trans kS))).trans ((b2.block _ (zH kS)).trans kS);have B3:=(b1.trans (b2.mono b1.size)).trans (b3.mono (Nat.le_trans b1.size b2.size));clear kS kF b1 b2;go_upto_region 2 with fail;generalize w2.alloc (.cells #[.int .i64 cc,.int .i64 ca] 30 (0,0))=w3 at b3 kE kF3 kS3 B3 ⊢;have e0:=coQ kE 0;have e1:=coQ kE 1;simp at e0 e1;by_cases hc0:cc=0
 case neg=>
  have hq:(cc != 0)=true:=(by simpa using hc0);have HF:=zG (HFS.out hc0);clear hc0;have f0:=coQ kF3 0;have f1:=coQ kF3 1;have g0:=foQ kF3 0;have g1:=foQ kF3 1;simp at f0 f1;have KE:=zO (zO kF3 0 (.int .i64 cc)) 1 (.int .i64 ca);simp at KE;have BE:=(B3.setCell (p:=⟨w.heap.size+1,0,none⟩) (by simp) (.int .i64 cc)).setCell (p:=⟨w.heap.size+1,1,none⟩) (by simp) (.int .i64 ca);have r0:=coQ KE 0;have r1:=coQ KE 1;simp at r0 r1;clear KE;go_wp2;exact bodyPost_ret (v:=.agg #[.int .i64 cc,.int .i64 ca]) (by simp [results,Tryz.results64,go_sem,r0,r1]) rfl ⟨cc,ca,rfl,HF.out,BE⟩
 case pos=>
  have okS:=HOK.out hc0;subst hc0;have hsd:=HSD.out w3 B3 okS;have HOKS:=zG okS;have s0:=coQ kS3 0;have s1:=coQ kS3 1;have s2:=coQ kS3 2;have s3:=coQ kS3 3;simp at s0 s1 s2 s3;clear okS HSD;go_wp2_with fail;refine hsd.mono ?_;rintro e w4 ⟨q,rfl,hah,b4⟩;have kF4:=(b4.block _ (zH kF3)).trans kF3;have B4:=B3.trans (b4.mono B3.size);clear hsd s0 s1 s2 s3 e0 e1
  cases q
  case false=>
   have HNA:=zG (show FaultIs S 15 (-1) from .inr (.inl ⟨HOKS.out,fun h=>absurd (hah.2 h) (by decide),rfl,rfl⟩));clear hah;have f0:=coQ kF4 0;have f1:=coQ kF4 1;have g0:=foQ kF4 0;have g1:=foQ kF4 1;simp at f0 f1;have KE:=zO (zO kF4 0 (.int .i64 15)) 1 (.int .i64 (-1));simp at KE;have BE:=(B4.setCell (p:=⟨w.heap.size+1,0,none⟩) (by simp) (.int .i64 15)).setCell (p:=⟨w.heap.size+1,1,none⟩) (by simp) (.int .i64 (-1));have r0:=coQ KE 0;have r1:=coQ KE 1;simp at r0 r1;clear KE;go_wp2;exact bodyPost_ret (v:=.agg #[.int .i64 15,.int .i64 (-1)]) (by simp [results,Tryz.results64,go_sem,r0,r1]) rfl ⟨15,-1,rfl,HNA.out,BE⟩
  case true=>
   have HNA:=zG (show FaultIs S 0 0 from .inr (.inr ⟨HOKS.out,hah.1 rfl,rfl,rfl⟩));clear hah;have f0:=coQ kF4 0;have f1:=coQ kF4 1;have g0:=foQ kF4 0;have g1:=foQ kF4 1;simp at f0 f1;have KE:=zO (zO kF4 0 (.int .i64 0)) 1 (.int .i64 0);simp at KE;have BE:=(B4.setCell (p:=⟨w.heap.size+1,0,none⟩) (by simp) (.int .i64 0)).setCell (p:=⟨w.heap.size+1,1,none⟩) (by simp) (.int .i64 0);have r0:=coQ KE 0;have r1:=coQ KE 1;simp at r0 r1;clear KE;go_wp2;exact bodyPost_ret (v:=.agg #[.int .i64 0,.int .i64 0]) (by simp [results,Tryz.results64,go_sem,r0,r1]) rfl ⟨0,0,rfl,HNA.out,BE⟩
theorem zQ (w:World) (p:Addr) (u:Value) {i:Nat} (h:p.block≠i):(w.setCell p u).heap[i]?=w.heap[i]?:=by
 cases e:w.heap[i]? with
 | none=>
  have hs:(w.setCell p u).heap.size=w.heap.size:=(by simp [World.setCell]);rw [Array.getElem?_eq_none_iff] at e ⊢;omega
 | some o=>exact zN e h u
def SpansPost (w:World) (S:Sk.Sys) (e:Ending) (w':World):Prop :=
 (∃ c a,FaultIs S c a/\c≠0/\e=.returned (.tuple #[.slice none 0 0,.agg #[.int .i64 c,.int .i64 a]])/\Below w.heap.size w w') \/
 (Sk.Okay S/\Sk.Ahead S/\∃ g,e=.returned (.tuple #[.slice (some ⟨g,0,none⟩) S.V.length S.V.length,.agg #[.int .i64 0,.int .i64 0]])/\SpB w' g (Sk.spans S)/\w.heap.size<=g/\Below w.heap.size w w')
theorem spans6_any {ok:Nat->Prop} {w:World} {aV aI aO aR:Option Addr} {cV cI cO cR:Nat} {S:Sk.Sys} (hG:GlobK w) (hP:GlobP w) (hS:HSys ok w aV aI aO aR cV cI cO cR S) (hfit:∀ r ∈ S.R,r.A.length<=1000000/\r.E.length<=1000000):Calls Tryz.prog 41 #[.agg #[.slice aV S.V.length cV,.slice aI S.I.length cI,.slice aO S.O.length cO,.slice aR S.R.length cR]] w (SpansPost w S):=by
 have b1:Below w.heap.size w ((w.alloc (.cells #[.slice aV S.V.length cV,.slice aI S.I.length cI,.slice aO S.O.length cO,.slice aR S.R.length cR] 26 (0,0))).alloc (.cells #[.int .i64 0,.int .i64 0] 30 (0,0))):=((Below.refl _ _).alloc zL _).alloc (by simp) _;have kS:((w.alloc (.cells #[.slice aV S.V.length cV,.slice aI S.I.length cI,.slice aO S.O.length cO,.slice aR S.R.length cR] 26 (0,0))).alloc (.cells #[.int .i64 0,.int .i64 0] 30 (0,0))).heap[w.heap.size]?=some (.cells #[.slice aV S.V.length cV,.slice aI S.I.length cI,.slice aO S.O.length cO,.slice aR S.R.length cR] 26 (0,0)):=(Below.heap_alloc _ _ _ (by simp)).trans (zJ w _);have kF:((w.alloc (.cells #[.slice aV S.V.length cV,.slice aI S.I.length cI,.slice aO S.O.length cO,.slice aR S.R.length cR] 26 (0,0))).alloc (.cells #[.int .i64 0,.int .i64 0] 30 (0,0))).heap[w.heap.size+1]?=some (.cells #[.int .i64 0,.int .i64 0] 30 (0,0)):=by
  have:=zJ (w.alloc (.cells #[.slice aV S.V.length cV,.slice aI S.I.length cI,.slice aO S.O.length cO,.slice aR S.R.length cR] 26 (0,0))) (.cells #[.int .i64 0,.int .i64 0] 30 (0,0))
  simpa using this
 have hfo:=faultOf_any (hG.under b1) (hP.under b1) (hS.under b1) hfit;have HS:=zG ((hS.wide (ok':=fun i=>i<w.heap.size) fun i _ h=>h).under b1);have HFIT:=zG hfit;obtain ⟨aoV,capV,evV,hV1,hV2,-⟩:=hS.V.at;injection evV with q1 q2 q3;rw [<-q3] at hV1 hV2;unfold maxLen at hV2;clear hS hG hP hfit q1 q2 q3;unfold SpansPost;go_enter Tryz.func41,Tryz.ntmps41;go_upto_region 1 with fail;generalize (w.alloc (.cells #[.slice aV S.V.length cV,.slice aI S.I.length cI,.slice aO S.O.length cO,.slice aR S.R.length cR] 26 (0,0))).alloc (.cells #[.int .i64 0,.int .i64 0] 30 (0,0))=w1 at b1 kS kF hfo HS ⊢;have s0:=coQ kS 0;have s1:=coQ kS 1;have s2:=coQ kS 2;have s3:=coQ kS 3;simp at s0 s1 s2 s3;go_wp2_with fail;refine hfo.mono ?_;rintro e w2 ⟨fc,fa,rfl,hfi,b2⟩;have HFI:=zG hfi;clear hfo s0 s1 s2 s3 hfi;have b3:Below w2.heap.size w2 (w2.alloc (.cells #[.int .i64 fc,.int .i64 fa] 30 (0,0))):=(Below.refl _ _).alloc zL _;have kE:=zJ w2 (.cells #[.int .i64 fc,.int .i64 fa] 30 (0,0));have kF3:=(b3.block _ (zH ((b2.block _ (zH kF)).trans kF))).trans ((b2.block _ (zH kF)).trans kF);have kS3:=(b3.block _ (zH ((b2.block _ (zH kS)).trans kS))).trans ((b2.block _ (zH kS)).trans kS);have B3:=(b1.trans (b2.mono b1.size)).trans (b3.mono (Nat.le_trans b1.size b2.size));have HS3:=zG ((HS.out.under b2).under b3);have z1:w.heap.size+1<w1.heap.size:=zH kF;have z2:=b2.size;clear kS kF HS;go_upto_region 2 with fail;generalize w2.alloc (.cells #[.int .i64 fc,.int .i64 fa] 30 (0,0))=w3 at b3 kE kF3 kS3 B3 HS3 ⊢;have e0:=coQ kE 0;have e1:=coQ kE 1;simp at e0 e1;have yE:=zH kE;have yF:=zH kF3;by_cases hc0:fc=0
 case neg=>
  have hq:(fc != 0)=true:=(by simpa using hc0);have HC0:=zG hc0;clear hc0;go_upto_region 3 with fail;refine zK (fun w'=>Below w3.heap.size w3 w') (fun i=>i==2) (by kernel_rfl) ?_;have hH0:Below w3.heap.size w3 w3.drew:=(Below.refl _ _).drew;generalize w3.drew=wd0 at hH0 ⊢;refine' tkQ 0 11 hH0 ?hyv ?o1
  case hyv=>
   intro wz hSw;have zc0:=(hSw.cell (p:=⟨w2.heap.size,0,none⟩) yE).trans e0;have zc1:=(hSw.cell (p:=⟨w2.heap.size,1,none⟩) yE).trans e1;go_simp
   try rfl
  try simp only [Act.put,sT,sZ,sS]
  refine' tkR 1 2 hH0 ?o2
  refine tnQ 2 (fun K hK=>?_);have kF9:=(hH0.block _ yF).trans kF3;have B9:=B3.trans (hH0.mono B3.size);have f0:=coQ kF9 0;have f1:=coQ kF9 1;have g0:=foQ kF9 0;have g1:=foQ kF9 1;simp at f0 f1;have KE:=zO (zO kF9 0 (.int .i64 fc)) 1 (.int .i64 fa);simp at KE;have BE:=(B9.setCell (p:=⟨w.heap.size+1,0,none⟩) (by simp) (.int .i64 fc)).setCell (p:=⟨w.heap.size+1,1,none⟩) (by simp) (.int .i64 fa);have r0:=coQ KE 0;have r1:=coQ KE 1;simp at r0 r1;clear KE;have HBE:=zG BE;clear kF9 BE;go_simp;refine hK.out _ _ (fun h=>absurd h (by decide)) ?_;clear hK K
  try simp only [Act.put,sT,sZ,sS]
  clear f0 f1 g0 g1;generalize (wd0.setCell ⟨w.heap.size+1,0,none⟩ (.int .i64 fc)).setCell ⟨w.heap.size+1,1,none⟩ (.int .i64 fa)=wd1 at r0 r1 HBE ⊢;refine zI (by kernel_rfl) ?_ _;go_wp2;exact bodyPost_ret (v:=.tuple #[.slice none 0 0,.agg #[.int .i64 fc,.int .i64 fa]]) (by simp [results,Tryz.results41,go_sem,r0,r1]) rfl (.inl ⟨fc,fa,HFI.out,HC0.out,rfl,HBE.out⟩)
 case pos=>
  subst hc0;obtain ⟨okS,had,-⟩:=HFI.out.good rfl;have HOK:=zG okS;have HAD:=zG had;have hnV:=okS.nV;have b4:Below w3.heap.size w3 (w3.alloc (.cells #[.int .i64 0,.int .i64 (-1)] 57 (0,0))):=(Below.refl _ _).alloc zL _;have kX:=zJ w3 (.cells #[.int .i64 0,.int .i64 (-1)] 57 (0,0));have kS4:=(b4.block _ (zH kS3)).trans kS3;have kF4:=(b4.block _ (zH kF3)).trans kF3;have z3:w.heap.size+1<w3.heap.size:=zH kF3;obtain ⟨w4,hw4⟩:=nmQ (w3.alloc (.cells #[.int .i64 0,.int .i64 (-1)] 57 (0,0)));rw [<-hw4] at b4 kX kS4 kF4;have hrp:=repeat12_any S.V.length (by omega) kX;have s0:=coQ kS3 0;simp at s0;have yS3:=zH kS3;have HW4:=zG hw4;clear okS had HFI hw4;go_wp2_with fail;rw [<-HW4.out];clear HW4;refine hrp.mono ?_;rintro e w5 ⟨g,rfl,hg,hrow,b5⟩;have b6:Below w5.heap.size w5 (w5.alloc (.cells #[.slice (some ⟨g,0,none⟩) S.V.length S.V.length] 51 (0,0))):=(Below.refl _ _).alloc zL _;have kV:=zJ w5 (.cells #[.slice (some ⟨g,0,none⟩) S.V.length S.V.length] 51 (0,0));have hgl:=hrow.lt;have B6:=((B3.trans (b4.mono B3.size)).trans (b5.mono (Nat.le_trans B3.size b4.size))).trans (b6.mono (Nat.le_trans B3.size (Nat.le_trans b4.size b5.size)));have kS6:=(b6.block _ (zH ((b5.block _ (zH kS4)).trans kS4))).trans ((b5.block _ (zH kS4)).trans kS4);have kF6:=(b6.block _ (zH ((b5.block _ (zH kF4)).trans kF4))).trans ((b5.block _ (zH kF4)).trans kF4);have HV6:=zG (show SpV (w5.alloc (.cells #[.slice (some ⟨g,0,none⟩) S.V.length S.V.length] 51 (0,0))) w5.heap.size g (List.replicate S.V.length (0,-1)) from ⟨by rw [List.length_replicate];exact kV,hrow.under b6,by omega⟩);have HS6:=zG (((HS3.out.under b4).under b5).under b6);have z4:=b4.size;clear hrp hrow s0 kS3 kF3 kS4 kF4 kX e0 e1 kE;go_upto_region 5 with fail;generalize w5.alloc (.cells #[.slice (some ⟨g,0,none⟩) S.V.length S.V.length] 51 (0,0))=w6 at b6 kV B6 kS6 kF6 HV6 HS6 ⊢;have s0:=coQ kS6 0;have s1:=coQ kS6 1;have s2:=coQ kS6 2;have s3:=coQ kS6 3;simp at s0 s1 s2 s3;go_wp2_with fail;refine (zAJ HS6.out HOK.out HV6.out (by rw [List.length_replicate]) (by show ¬g<w.heap.size;omega)).mono ?_;rintro e w7 ⟨rfl,hV7,a7⟩;have z7:=a7.size;have z6:w5.heap.size<w6.heap.size:=zH kV;have kS7:=a7.keep kS6 (zH kS6) (by simp;omega);have kF7:=a7.keep kF6 (zH kF6) (by simp;omega);have B7:Below w.heap.size w w7:=B6.trans ((a7.mono B6.size).below (fun k hk=>by simp at hk;omega));have HS7:=zG (HS6.out.keep a7.size (fun k hk hl=>a7.block k hl (by simp;have h1:k<w.heap.size:=hk;omega)));have HV7:=zG hV7;clear s0 s1 s2 s3 hV7 kS6 kF6 HV6 HS6 kV;have s0:=coQ kS7 0;have s1:=coQ kS7 1;have s2:=coQ kS7 2;have s3:=coQ kS7 3;simp at s0 s1 s2 s3;go_wp2_with fail;refine (eachNeed_any HS7.out HOK.out HFIT.out HV7.out (Sk.start_at HOK.out).1 (by show ¬g<w.heap.size;omega)).mono ?_;rintro e w8 ⟨rfl,hV8,a8⟩;have z8:=a8.size;have kF8:=a8.keep kF7 (zH kF7) (by simp;omega);have B8:Below w.heap.size w w8:=B7.trans ((a8.mono B7.size).below (fun k hk=>by simp at hk;omega));have hln:=(Sk.spans_spanned HOK.out).len;have hvar:=hV8.var;have HR8:=zG (show SpB w8 g (Sk.spans S) from hV8.row);have v0:=coQ hvar 0;simp at v0;have hlv:(Sk.needL (S.R.length:Int) S.O (Sk.needR (S.R.length:Int) 0 S.R (Sk.startR 0 S.R (Sk.startI S.I (List.replicate S.V.length (0,-1)))))).length=S.V.length:=hln;rw [hlv] at v0;clear s0 s1 s2 s3 hV8 kS7 kF7 HV7 HS7 hvar hln hlv;have f0:=coQ kF8 0;have f1:=coQ kF8 1;have g0:=foQ kF8 0;have g1:=foQ kF8 1;simp at f0 f1;have KE:=zO (zO kF8 0 (.int .i64 0)) 1 (.int .i64 0);simp at KE;have BE:=(B8.setCell (p:=⟨w.heap.size+1,0,none⟩) (by simp) (.int .i64 0)).setCell (p:=⟨w.heap.size+1,1,none⟩) (by simp) (.int .i64 0);have r0:=coQ KE 0;have r1:=coQ KE 1;simp at r0 r1;clear KE;have HEND:=zG (show SpB ((w8.setCell ⟨w.heap.size+1,0,none⟩ (.int .i64 0)).setCell ⟨w.heap.size+1,1,none⟩ (.int .i64 0)) g (Sk.spans S) from (HR8.out.keep (zQ _ _ _ (by show w.heap.size+1≠g;omega))).keep (zQ _ _ _ (by show w.heap.size+1≠g;omega)));clear kF8;go_wp2;exact bodyPost_ret (v:=.tuple #[.slice (some ⟨g,0,none⟩) S.V.length S.V.length,.agg #[.int .i64 0,.int .i64 0]]) (by simp [results,Tryz.results41,go_sem,r0,r1]) rfl (.inr ⟨HOK.out,HAD.out,g,rfl,HEND.out,by omega,BE⟩)
end Go.Proofs.YtegakbobaecdlaaGreatDoor
