import Derived.Test.YtoldepieaafakaaGreatDoorC39
set_option linter.unusedVariables false
set_option linter.unusedSimpArgs false
set_option maxHeartbeats 64000000
set_option maxRecDepth 100000
namespace Go.Proofs.YtoldepieaafakaaGreatDoor
open Go.RowKit Go.IntWalk
namespace Sk
def AheadTo (S:Sys) (n:Nat):Prop:=∀ i (h:i<S.R.length),i<n->∀ z ∈ needs S.R[i],z ∈ S.I\/z ∈ (S.R.take i).map (·.out)
theorem aheadTo_all {S:Sys}:AheadTo S S.R.length↔Ahead S:=⟨fun h i hi z hz=>h i hi hi z hz,fun h i hi _ z hz=>h i hi z hz⟩
theorem can_ahead {S:Sys} (ok:Okay S) {m:List Bool} {i:Nat} (hi:i<S.R.length) (hm:MadeBy m S.V.length (S.I++(S.R.take i).map (·.out))):canC (S.R.map needs) m i=true↔∀ z ∈ needs S.R[i],z ∈ S.I\/z ∈ (S.R.take i).map (·.out):=by
 have hr:S.R[i] ∈ S.R:=List.getElem_mem hi;have e2:(S.R.map needs).getD i []=needs S.R[i]:=(by simp [List.getD_eq_getElem?_getD,hi]);unfold canC;rw [e2]
 constructor
 ·intro h z hz
  have h1:(needs S.R[i]).any (fun x => !(m.getD x.toNat false))=false:=(by simpa using h);rw [List.any_eq_false] at h1;have h2:m.getD z.toNat false=true:=(by simpa using h1 z hz);have:=(hm.at (needs_in ok _ hr z hz)).1 h2
  simpa using this
 ·intro h
  have h1:(needs S.R[i]).any (fun x => !(m.getD x.toNat false))=false:=by
   rw [List.any_eq_false];intro z hz;have:=(hm.at (needs_in ok _ hr z hz)).2 (by rw [List.mem_append];exact h z hz);rw [this]
   decide
  rw [h1];rfl
end Sk
structure SortedR (w:World) (S:Sk.Sys) (e:Ending) (w':World):Prop where
 out:∃ q,e=.returned (.bool q)/\(q=true↔Sk.Ahead S)/\Below w.heap.size w w'
theorem sorted14_any {ok:Nat->Prop} {w:World} {aV aI aO aR:Option Addr} {cV cI cO cR:Nat} {S:Sk.Sys} (hG:GlobK w) (hP:GlobP w) (hS:HSys ok w aV aI aO aR cV cI cO cR S) (hfit:∀ r ∈ S.R,r.A.length<=1000000/\r.E.length<=1000000) (okS:Sk.Okay S) :
  Calls Tryz.prog 21 #[.agg #[.slice aV S.V.length cV,.slice aI S.I.length cI,.slice aO S.O.length cO,.slice aR S.R.length cR]] w (SortedR w S):=by
 have b1:Below w.heap.size w (w.alloc (.cells #[.slice aV S.V.length cV,.slice aI S.I.length cI,.slice aO S.O.length cO,.slice aR S.R.length cR] 26 (0,0))):=(Below.refl _ _).alloc zL _;have kS:=zH w (.cells #[.slice aV S.V.length cV,.slice aI S.I.length cI,.slice aO S.O.length cO,.slice aR S.R.length cR] 26 (0,0));have hwo:=walkOver_any (hG.under b1) (hP.under b1) (hS.under b1) hfit;have HC:=zD ((Sk.check_zero S).2 okS);have HOK:=zD okS;obtain ⟨aoR,capR,evR,hcR1,hcR2,-⟩:=hS.R.at;injection evR with q1 q2 q3;rw [<-q3] at hcR1 hcR2;unfold maxLen at hcR2;clear hS hG hP hfit okS q1 q2 q3;go_enter Tryz.func21,Tryz.ntmps21;go_upto_region 1 with fail;generalize w.alloc (.cells #[.slice aV S.V.length cV,.slice aI S.I.length cI,.slice aO S.O.length cO,.slice aR S.R.length cR] 26 (0,0))=w1 at b1 kS hwo ⊢;have s0:=coQ kS 0;have s1:=coQ kS 1;have s2:=coQ kS 2;have s3:=coQ kS 3;simp at s0 s1 s2 s3;go_wp2_with fail;refine hwo.mono ?_;rintro e w2 (⟨hne,-⟩ | ⟨hOk,b,g,w5,gb,gg,bw5,gw5,nbg,z5,rfl,hWo,hS2,b2⟩)
 case inl=>exact absurd (by rw [HC.out]) hne
 clear hwo s0 s1 s2 s3;have b3:Below w2.heap.size w2 (w2.alloc (.cells #[.int .i64 0,.int .i64 0] 31 (0,0))):=(Below.refl _ _).alloc zL _;have kE:=zH w2 (.cells #[.int .i64 0,.int .i64 0] 31 (0,0));have z1:w.heap.size<w1.heap.size:=zG kS;have B3:=(b1.trans (b2.mono b1.size)).trans (b3.mono (Nat.le_trans b1.size b2.size));obtain ⟨vN,vL,okN,hk,hN,hL,hokN,hdis⟩:=hWo.rows;have z2:=b2.size;have hN2:OwnX kIL okN w2 vN (S.R.map Sk.needs):=(by rw [List.take_length] at hN;exact hN);have hlw:∀ k,vL.ownBlock=some k->w5.heap.size<=k/\k<w2.heap.size:=hL.lt;have hni:=Sk.needs_in hOk;have h0:TkAt okN (fun i=>i<w1.heap.size) (w2.alloc (.cells #[.int .i64 0,.int .i64 0] 31 (0,0))) (w2.alloc (.cells #[.int .i64 0,.int .i64 0] 31 (0,0))) b w5.heap.size ⟨aV,S.V.length,cV,aI,S.I.length,cI,aO,S.O.length,cO,aR,S.R.length,cR,g⟩ vN vL.ownBlock (S.R.map Sk.needs) S.R (.slice none 0 0) (Sk.inM S) (List.range S.R.length) []:=
  ⟨⟨vL,hk.under b3,hL.below b3,rfl⟩,hWo.made.under b3,by show S.V.length=(Sk.inM S).length;rw [<-Sk.inMi_all,Sk.inMi_len],hN2.row.keep b3.size (fun i _ hl=>b3.block i hl),(hS2.under b3).R,OwnL.nil,Nat.le_refl _,by simp,List.nodup_range,fun j hj=>by simpa using hj,fun S' _ _ _=>Aside.refl _⟩
 have hbw2:b<w2.heap.size:=zG hk;have hgw2:g<w2.heap.size:=zG hWo.made;have hlen:(Sk.inM S).length=S.V.length:=(by rw [<-Sk.inMi_all,Sk.inMi_len]);have zz:(w2.alloc (.cells #[.int .i64 0,.int .i64 0] 31 (0,0))).heap.size=w2.heap.size+1:=(by simp);have gob:∀ k,vL.ownBlock=some k->k<(w2.alloc (.cells #[.int .i64 0,.int .i64 0] 31 (0,0))).heap.size/\k≠b/\k≠g/\¬okN k/\¬k<w1.heap.size:=fun k hk=>⟨by rw [zz];have:=(hlw k hk).2;omega,by have:=(hlw k hk).1;omega,by show k≠g;have:=(hlw k hk).1;omega,hdis k hk,by show ¬k<w1.heap.size;have:=(hlw k hk).1;omega⟩;have gNb:¬okN b/\¬okN g:=⟨fun q=>by have:=(hokN b q).1;omega,fun q=>by have:=(hokN g q).1;omega⟩;have gNl:∀ i,okN i->i<(w2.alloc (.cells #[.int .i64 0,.int .i64 0] 31 (0,0))).heap.size:=fun i hi=>by rw [zz];have:=(hokN i hi).2;omega
 have HT0:=zD h0;have HGO:=zD gob;have HNB:=zD gNb;have HRNG:=zD (show ∀ j (h:j<(S.R.map Sk.needs).length),∀ z ∈ (S.R.map Sk.needs)[j],0<=z/\z<S.V.length from fun j hj z hz=>by simp at hj;exact hni S.R[j] (List.getElem_mem _) z (by simpa using hz));have HM0:=zD (show Sk.MadeBy (Sk.inM S) S.V.length (S.I++(S.R.take 0).map (·.out)) by have:=(Sk.taken_start hOk).made;simpa using this);have hkb:=zG hk;generalize vL.ownBlock=ob at HT0 HGO;clear hWo hS2 hk hN hL hokN hdis hN2 hni h0 hlen hlw kS b3 hOk gob gNb gNl;go_upto_region 2 with fail;generalize w2.alloc (.cells #[.int .i64 0,.int .i64 0] 31 (0,0))=w3 at B3 HT0 HGO kE zz ⊢;have e0:=coQ kE 0;simp at e0;obtain ⟨vL0,hk0,-,-⟩:=HT0.out.left;unfold WkAt at hk0;have k3:=coQ hk0 3;simp at k3;clear hk0 kE;go_wp2_with fail;clear e0 k3;go_loopg [20] S.R.length (fun k v wr=>∃ (i:Nat) (m:List Bool) (L:List Nat),i<=S.R.length/\k=S.R.length-i/\v=.int .i64 (i:Nat)/\Hid (Sk.MadeBy m S.V.length (S.I++(S.R.take i).map (·.out)))/\Hid (Sk.AheadTo S i)/\Hid (TkAt okN (fun i=>i<w1.heap.size) w3 wr b w5.heap.size ⟨aV,S.V.length,cV,aI,S.I.length,cI,aO,S.O.length,cO,aR,S.R.length,cR,g⟩ vN ob (S.R.map Sk.needs) S.R (.slice none 0 0) m L []))
 case atStart=>exact ⟨0,_,_,Nat.zero_le _,rfl,rfl,HM0,zD (fun i _ h=>absurd h (Nat.not_lt_zero _)),HT0⟩
 case round=>
  clear HT0 HM0;obtain ⟨i,m,L,hi,rfl,rfl,HM,HA,HT⟩:=hrel;have T:=HT.out;have hA4:=T.frame (b :: g :: ob.toList) (by simp) (by simp) (fun k hk=>by rw [hk];simp);have hge:∀ k ∈ (b :: g :: ob.toList),w1.heap.size<=k:=by
   intro k hk;simp at hk;rcases hk with rfl | rfl | hk
   ·exact gb
   ·exact gg
   ·have:=(HGO.out k hk).2.2.2.2;omega
  have BR:Below w.heap.size w wr:=B3.trans ((hA4.mono (by omega)).below (fun k hk=>by have:=hge k hk;omega));by_cases hlt:i<S.R.length
  case neg=>
   have hin:i=S.R.length:=(by omega);subst hin;clear T hA4 hge;go_wp2;go_ret;exact ⟨⟨true,rfl,⟨fun _=>Sk.aheadTo_all.1 HA.out,fun _=>rfl⟩,BR⟩⟩
  case pos=>
   have hjN:i<(S.R.map Sk.needs).length:=(by simpa using hlt);obtain ⟨vL,hk,hL,hvo⟩:=T.left;have hcc:=canCome_any hk T.made T.len T.needs i hjN (fun z hz=>by rw [HM.out.1];exact HRNG.out i hjN z hz);have hca:=Sk.can_ahead HOK.out hlt HM.out;generalize Sk.canC (S.R.map Sk.needs) m i=q at hcc hca;have HCA:=zD hca;clear hca T;go_wp2_with fail;refine hcc.mono ?_;rintro e w6 ⟨rfl,b6⟩;have B6:=BR.trans (b6.mono BR.size);clear hcc
   cases q
   case false=>
    go_wp2;go_ret;exact ⟨⟨false,rfl,⟨fun h=>(by cases h),fun h=>absurd (HCA.out.2 (h i hlt)) (by simp)⟩,B6⟩⟩
   case true=>
    have T:=HT.out;have hr:S.R[i] ∈ S.R:=List.getElem_mem hlt;have hout:=(HOK.out.rules _ hr).1.1;have htk:=take_any (hk.under b6) (T.made.under b6) T.len nbg (T.rules.under b6) (hL.below b6) (by have:=T.few;have:=HOK.out.nR;simp at *;omega) (by have:=T.size;have:=b6.size;omega) (fun e=>by rw [hvo] at e;exact (HGO.out b e).2.1 rfl) (fun e=>by rw [hvo] at e;exact (HGO.out g e).2.2.1 rfl) i hlt (by rw [HM.out.1];exact hout);have HB6:=zD b6;clear T;go_wp2_with fail;refine htk.mono ?_;rintro e w8 ⟨rfl,vL4,hk4,md4,own4,hvo4,hA8⟩;rw [hvo] at hvo4 hA8;have T:=HT.out;have AS:=hA8 (b :: g :: ob.toList) (by simp) (by simp) (fun k hk=>by rw [hk];simp);have z6:=HB6.out.size;have z8:=AS.size;have notS:∀ ok:Nat->Prop,¬ok b->¬ok g->(∀ k,ob=some k->¬ok k)->∀ i,ok i->i ∉ (b :: g :: ob.toList):=by
     intro ok h1 h2 h3 i hi hm;simp at hm;rcases hm with rfl | rfl | hm
     ·exact h1 hi
     ·exact h2 hi
     ·exact h3 i hm hi
    have need8:HRow kIL okN w8 vN (S.R.map Sk.needs):=(T.needs.keep z6 (fun i _ hl=>HB6.out.block i hl)).keep z8 (fun i hi hl=>AS.block i hl (notS okN HNB.out.1 HNB.out.2 (fun k hk=>(HGO.out k hk).2.2.2.1) i hi));have rule8:HRus (fun i=>i<w1.heap.size) w8 (.slice aR S.R.length cR) S.R:=(T.rules.under HB6.out).keep z8 (fun i hi hl=>AS.block i hl (notS (fun i=>i<w1.heap.size) (by show ¬b<w1.heap.size;omega) (by show ¬g<w1.heap.size;omega) (fun k hk=>(HGO.out k hk).2.2.2.2) i hi));have HNM:=zD (show Sk.MadeBy (m.set (S.R[i]).out.toNat true) S.V.length (S.I++(S.R.take (i+1)).map (·.out)) by
     rw [List.take_succ_eq_append_getElem hlt,List.map_append,<-List.append_assoc];exact HM.out.set hout)
    have HNA:=zD (show Sk.AheadTo S (i+1) from fun j hj hlt2 z hz=>by
     by_cases e:j=i
     ·subst e
      exact HCA.out.1 (by trivial) z hz
     ·exact HA.out j hj (by omega) z hz)
    have HNT:=zD (show TkAt okN (fun i=>i<w1.heap.size) w3 w8 b w5.heap.size ⟨aV,S.V.length,cV,aI,S.I.length,cI,aO,S.O.length,cO,aR,S.R.length,cR,g⟩ vN ob (S.R.map Sk.needs) S.R (.slice none 0 0) (m.set (S.R[i]).out.toNat true) (L.filter (· != i)) [] from ⟨⟨vL4,hk4,own4,hvo4⟩,md4,by rw [List.length_set];exact T.len,need8,rule8,OwnL.nil,Nat.le_trans T.size (Nat.le_trans z6 z8),by have h1:=T.few;have h2:=List.length_filter_le (· != i) L;simp at h1 ⊢;omega,T.nodup.filter _,fun j hj=>T.inR j (List.mem_filter.1 hj).1,fun S' s1 s2 s3=>((T.frame S' s1 s2 s3).trans (aside HB6.out) T.size).trans (hA8 S' s1 s2 s3) (Nat.le_trans T.size z6)⟩);clear htk hk4 md4 own4 hvo4 need8 rule8 hA8 AS T notS hk hL hvo;go_wp2_with fail;go_roundg (S.R.length-(i+1))
    case measure=>omega
    case rel=>exact ⟨i+1,_,_,by omega,rfl,by go_num,HNM,HNA,HNT⟩
end Go.Proofs.YtoldepieaafakaaGreatDoor
