import Derived.Test.YtnhmcpnbaajjcaaGreatDoorC40
import Derived.Test.YtnhmcpnbaajjcaaGreatDoorC30
import Derived.Deep.Cut
import Derived.Deep.LoopGhost
import Derived.IntWalk
import Derived.Laws.Cover1
import Derived.Lib.Hide
import Derived.WalkKit
import Derived.WalkSpells
import Derived.Ground.NamesProg
import Derived.Laws.EntriesVeiled
import Derived.Laws.Externs
import Derived.Lib.MakeNoZero
import Derived.Lib.SlBuf
import Derived.Shelf.Bytes.SlSmallAll
import Derived.Shelf.Lay
set_option linter.unusedVariables false
set_option linter.unusedSimpArgs false
set_option maxHeartbeats 64000000
set_option maxRecDepth 100000
namespace Go.Proofs.YtnhmcpnbaajjcaaGreatDoor
open Go.RowKit Go.IntWalk
namespace Sk
theorem stepV_congr {C C':List (List Int)} {p:Pu} (h:nmd p=true->cAt C p.v=cAt C' p.v) (tk:List Int) (k:Nat):stepV C p tk k=stepV C' p tk k:=by
 unfold stepV;by_cases e2:p.op=2
 ·rw [if_pos e2,if_pos e2,h (by unfold nmd;rw [e2];rfl)]
 rw [if_neg e2,if_neg e2];by_cases e3:p.op=3
 ·rw [if_pos e3,if_pos e3,h (by unfold nmd;rw [e3];rfl)]
 rw [if_neg e3,if_neg e3];by_cases e8:p.op=8
 ·have:cAt C p.v=cAt C' p.v:=h (by unfold nmd;rw [e8];rfl)
  simp only [this]
 ·split
  ·rfl
  ·split
   ·rfl
   ·split
    ·rfl
    ·split
     ·rfl
     ·first | rfl | rw [if_neg e8,if_neg e8]
theorem treeV_congr {C C':List (List Int)} {k:Nat}:∀ (E:List Pu) (st:List Int),(∀ p ∈ E,nmd p=true->cAt C p.v=cAt C' p.v)->treeV C k st E=treeV C' k st E
 | [],st,_=>rfl
 | p :: r,st,h=>by
  unfold treeV;rw [stepV_congr (h p (by simp))];exact treeV_congr r _ fun q hq=>h q (by simp [hq])
theorem evalG_congr {V:List Vr} {C C':List (List Int)} {ah:Int->Option (List Int)} {r:Ru} (ok:RuOk V r) (h:∀ z ∈ needs r,cAt C z=cAt C' z) (k:Nat):evalG C ah r k=evalG C' ah r k:=by
 have hform:=ok.form;unfold hasForm at hform;rw [Bool.and_eq_true,Bool.and_eq_true,decide_eq_true_iff,decide_eq_true_iff,beq_iff_eq] at hform;obtain ⟨⟨ho1,ho2⟩,hA⟩:=hform;have hp:r.op≠13->∀ i,i<r.A.length->pt C r i=pt C' r i:=fun q i hi=>by
  unfold pt;refine h _ ?_;unfold needs;rw [if_neg (fun e=>q e.1)];exact uses_A (aN_mem hi)
 have hs:r.op≠13->∀ i,i<r.A.length->sca C r i=sca C' r i:=fun q i hi=>by unfold sca;rw [hp q i hi]
 have ht:14<=r.op->∀ j,treeV C j [] r.E=treeV C' j [] r.E:=fun q j=>treeV_congr r.E [] fun p hp hn=>h _ (by
  unfold needs;rw [if_neg (fun e=>by omega)];exact xK.2 (.inr ⟨p,by unfold ownE;rw [if_neg (by omega)];exact hp,hn,rfl⟩))
 have hop:r.op=1\/r.op=2\/r.op=3\/r.op=4\/r.op=5\/r.op=6\/r.op=7\/r.op=8\/r.op=9\/r.op=10\/r.op=11\/r.op=12\/r.op=13\/r.op=14\/r.op=15\/r.op=16:=(by omega);have lenA:∀ i:Nat,(i:Int)<partsT.getD r.op.toNat 0->i<r.A.length:=(by intro i hi;omega);rcases hop with e | e | e | e | e | e | e | e | e | e | e | e | e | e | e | e
 ·simp [evalG,e]
 ·simp [evalG,e,hp (by omega) 0 (lenA 0 (by rw [e];decide))]
 ·simp [evalG,e,hp (by omega) 0 (lenA 0 (by rw [e];decide))]
 ·simp [evalG,e,hp (by omega) 0 (lenA 0 (by rw [e];decide)),hp (by omega) 1 (lenA 1 (by rw [e];decide))]
 ·simp [evalG,e,hs (by omega) 0 (lenA 0 (by rw [e];decide)),hp (by omega) 1 (lenA 1 (by rw [e];decide)),hp (by omega) 2 (lenA 2 (by rw [e];decide))]
 ·simp [evalG,e,hs (by omega) 0 (lenA 0 (by rw [e];decide)),hp (by omega) 1 (lenA 1 (by rw [e];decide))]
 ·simp [evalG,e,hs (by omega) 0 (lenA 0 (by rw [e];decide)),hp (by omega) 1 (lenA 1 (by rw [e];decide))]
 ·simp [evalG,e,hs (by omega) 0 (lenA 0 (by rw [e];decide))]
 ·simp [evalG,e,hp (by omega) 0 (lenA 0 (by rw [e];decide)),hs (by omega) 1 (lenA 1 (by rw [e];decide)),hs (by omega) 2 (lenA 2 (by rw [e];decide))]
 ·simp [evalG,e,hp (by omega) 0 (lenA 0 (by rw [e];decide)),hs (by omega) 1 (lenA 1 (by rw [e];decide)),hs (by omega) 2 (lenA 2 (by rw [e];decide))]
 ·simp [evalG,e,hp (by omega) 0 (lenA 0 (by rw [e];decide))]
 ·simp [evalG,e,hp (by omega) 0 (lenA 0 (by rw [e];decide)),hp (by omega) 1 (lenA 1 (by rw [e];decide))]
 ·have hl:r.A.length=2:=by rw [e] at hA;have:partsT.getD (13:Int).toNat 0=2:=rfl;omega
  have h0:pt C r 0=pt C' r 0:=h _ (by unfold needs;rw [if_pos ⟨e,hl⟩];simp [aN]);simp [evalG,e,h0]
 ·simp [evalG,e,ht (by omega)]
 ·simp [evalG,e,ht (by omega),hs (by omega) 0 (lenA 0 (by rw [e];decide))]
 ·simp [evalG,e,ht (by omega),hs (by omega) 0 (lenA 0 (by rw [e];decide))]
theorem evalR_congr {V:List Vr} {C C':List (List Int)} {ah:Int->Option (List Int)} {r:Ru} (ok:RuOk V r) (h:∀ z ∈ needs r,cAt C z=cAt C' z):evalR V C ah r=evalR V C' ah r:=by
 unfold evalR;exact List.map_congr_left fun k _=>evalG_congr ok h k
theorem runR_other {V:List Vr} {ah:Int->Option (List Int)}:∀ (R:List Ru) (C:List (List Int)) (x:Int),C.length=V.length->(∀ r ∈ R,0<=r.out/\r.out<V.length)->0<=x->x ∉ R.map (·.out)->cAt (runR V ah C R) x=cAt C x
 | [],C,x,_,_,_,_=>rfl
 | r :: R,C,x,hC,ho,hx,hn=>by
  unfold runR;rw [List.map_cons,List.mem_cons] at hn;rw [runR_other R _ x (by rw [List.length_set];exact hC) (fun q hq=>ho q (by simp [hq])) hx (fun q=>hn (.inr q))];rw [cAt_set (by rw [hC];exact ho r (by simp)) hx,if_neg (fun e=>hn (.inl e))]
theorem runR_append {V:List Vr} {ah:Int->Option (List Int)}:∀ (R R':List Ru) (C:List (List Int)),runR V ah C (R++R')=runR V ah (runR V ah C R) R'
 | [],R',C=>rfl
 | r :: R,R',C=>by
  show runR V ah (C.set r.out.toNat (evalR V C ah r)) (R++R')=runR V ah (runR V ah (C.set r.out.toNat (evalR V C ah r)) R) R'
  exact runR_append R R' _
theorem runR_length {V:List Vr} {ah:Int->Option (List Int)}:∀ (R:List Ru) (C:List (List Int)),(runR V ah C R).length=C.length
 | [],C=>rfl
 | r :: R,C=>by unfold runR;rw [runR_length R];simp
theorem runR_fix {S:Sys} (ok:Okay S) (hh:Ahead S) {ah:Int->Option (List Int)} {C:List (List Int)} (hC:C.length=S.V.length) {i:Nat} (hi:i<S.R.length):cAt (runR S.V ah C S.R) (S.R[i]).out=evalR S.V (runR S.V ah C S.R) ah S.R[i]:=by
 have hsp:S.R=S.R.take i++S.R[i] :: S.R.drop (i+1):=(by rw [<-List.drop_eq_getElem_cons hi,List.take_append_drop]);have hrun:runR S.V ah C S.R=runR S.V ah (runR S.V ah (runR S.V ah C (S.R.take i)) [S.R[i]]) (S.R.drop (i+1)):=by
  have e:S.R.take i++([S.R[i]]++S.R.drop (i+1))=S.R:=(by rw [List.singleton_append];exact hsp.symm);rw [<-runR_append,<-runR_append,e]
 have hnd:=ok.rulesN;rw [hsp,List.map_append,List.map_cons] at hnd;have hr:=ok.rules S.R[i] (List.getElem_mem hi);have hout:∀ q ∈ S.R.drop (i+1),0<=q.out/\q.out<S.V.length:=fun q hq=>(ok.rules q (List.mem_of_mem_drop hq)).1.1;have hn1:=(List.nodup_append.1 hnd);have hni:(S.R[i]).out ∉ (S.R.drop (i+1)).map (·.out):=(List.nodup_cons.1 hn1.2.1).1;have hlp:(runR S.V ah C (S.R.take i)).length=S.V.length:=(by rw [runR_length];exact hC);have hl1:(runR S.V ah (runR S.V ah C (S.R.take i)) [S.R[i]]).length=S.V.length:=(by rw [runR_length];exact hlp);have h1:cAt (runR S.V ah C S.R) (S.R[i]).out=evalR S.V (runR S.V ah C (S.R.take i)) ah S.R[i]:=by
  rw [hrun,runR_other _ _ _ hl1 hout hr.1.1.1 hni]
  show cAt ((runR S.V ah C (S.R.take i)).set (S.R[i]).out.toNat (evalR S.V (runR S.V ah C (S.R.take i)) ah S.R[i])) (S.R[i]).out=_
  rw [cAt_set (by rw [hlp];exact hr.1.1) hr.1.1.1,if_pos rfl]
 rw [h1];refine evalR_congr hr.2 fun z hz=>?_;have hz2:=hh i hi z hz;have hz0:0<=z:=by
  rcases hz2 with q | q
  ·exact (ok.ins z q).1
  ·obtain ⟨r,hr2,e⟩:=List.mem_map.1 q
   rw [<-e];exact (ok.rules r (List.mem_of_mem_take hr2)).1.1.1
 have hnz:z ∉ (S.R[i] :: S.R.drop (i+1)).map (·.out):=by
  intro hm;rcases hz2 with q | q
  ·obtain ⟨r,hr2,e⟩:=List.mem_map.1 hm
   have:r ∈ S.R:=(by rw [hsp];exact List.mem_append.2 (.inr hr2));exact (ok.rules r this).1.2 (e ▸ q)
  ·exact hn1.2.2 z q z (by rw [List.map_cons] at hm;exact hm) rfl
 have e2:runR S.V ah C S.R=runR S.V ah (runR S.V ah C (S.R.take i)) (S.R[i] :: S.R.drop (i+1)):=by
  rw [<-runR_append,<-hsp]
 rw [e2,runR_other _ _ _ hlp (fun q hq=>by
  rcases List.mem_cons.1 hq with e | e
  ·rw [e];exact hr.1.1
  ·exact hout q e) hz0 hnz]
theorem fix_uniq {S:Sys} (ok:Okay S) (hh:Ahead S) {ah:Int->Option (List Int)} {C C':List (List Int)} (hI:∀ x ∈ S.I,cAt C x=cAt C' x) (h1:∀ r ∈ S.R,cAt C r.out=evalR S.V C ah r) (h2:∀ r ∈ S.R,cAt C' r.out=evalR S.V C' ah r):∀ i,∀ (hi:i<S.R.length),cAt C (S.R[i]).out=cAt C' (S.R[i]).out:=by
 intro i
 induction i using Nat.strongRecOn with
 | _ i ih=>
  intro hi;rw [h1 _ (List.getElem_mem hi),h2 _ (List.getElem_mem hi)];refine evalR_congr (ok.rules _ (List.getElem_mem hi)).2 fun z hz=>?_;rcases hh i hi z hz with q | q
  ·exact hI z q
  ·obtain ⟨r,hr,e⟩:=List.mem_map.1 q
   obtain ⟨j,hj,ej⟩:=List.getElem_of_mem hr;have hj2:j<i:=(by rw [List.length_take] at hj;omega);have:=ih j hj2 (by omega);rw [List.getElem_take] at ej;rw [ej,e] at this;exact this
structure Turned (S S':Sys):Prop where
 V:S'.V=S.V
 I:S'.I=S.I
 O:S'.O=S.O
 R:S.R.Perm S'.R
theorem runR_turned {S S':Sys} (ok:Okay S) (ok':Okay S') (hh:Ahead S) (hh':Ahead S') (ht:Turned S S') {ah:Int->Option (List Int)} {C:List (List Int)} (hC:C.length=S.V.length):∀ x,(x ∈ S.I\/x ∈ S.R.map (·.out))->cAt (runR S.V ah C S.R) x=cAt (runR S'.V ah C S'.R) x:=by
 have hC':C.length=S'.V.length:=(by rw [ht.V];exact hC);have hin:∀ x ∈ S.I,cAt (runR S.V ah C S.R) x=cAt (runR S'.V ah C S'.R) x:=fun x hx=>by
  rw [runR_other S.R C x hC (fun r hr=>(ok.rules r hr).1.1) (ok.ins x hx).1 (fun h=>by obtain ⟨r,hr,e⟩:=List.mem_map.1 h;exact (ok.rules r hr).1.2 (e ▸ hx)),
   runR_other S'.R C x hC' (fun r hr=>(ok'.rules r hr).1.1) (ok.ins x hx).1 (fun h=>by obtain ⟨r,hr,e⟩:=List.mem_map.1 h;exact (ok'.rules r hr).1.2 (e ▸ (ht.I ▸ hx)))]
 intro x hx;rcases hx with q | q
 ·exact hin x q
 ·obtain ⟨r,hr,e⟩:=List.mem_map.1 q
  obtain ⟨i,hi,ei⟩:=List.getElem_of_mem hr;have h1:∀ r ∈ S.R,cAt (runR S.V ah C S.R) r.out=evalR S.V (runR S.V ah C S.R) ah r:=fun r hr=>by
   obtain ⟨i,hi,ei⟩:=List.getElem_of_mem hr;have:=runR_fix ok hh (ah:=ah) hC hi;rw [ei] at this;exact this
  have h2:∀ r ∈ S.R,cAt (runR S'.V ah C S'.R) r.out=evalR S.V (runR S'.V ah C S'.R) ah r:=fun r hr=>by
   obtain ⟨i,hi,ei⟩:=List.getElem_of_mem (ht.R.mem_iff.1 hr);have:=runR_fix ok' hh' (ah:=ah) hC' hi;rw [ei] at this;rw [<-ht.V];exact this
  have:=fix_uniq ok hh hin h1 h2 i hi;rw [ei,e] at this;exact this
theorem keepF_at (C:List (List Int)):∀ (R:List Ru) (f:Int->Option (List Int)) (y:Int),keepF C f R y=if ∃ r ∈ R,r.op=13/\aN r 1=y then some (cAt C y) else f y
 | [],f,y=>by unfold keepF;rw [if_neg (by rintro ⟨r,hr,_⟩;cases hr)]
 | r :: R,f,y=>by
  unfold keepF;rw [keepF_at C R];by_cases h:∃ r ∈ R,r.op=13/\aN r 1=y
  ·rw [if_pos h,if_pos (by obtain ⟨q,hq,hq2⟩:=h;exact ⟨q,by simp [hq],hq2⟩)]
  ·rw [if_neg h]
   by_cases e:r.op=13
   ·rw [if_pos e]
    unfold putA;by_cases ey:y=aN r 1
    ·rw [if_pos ey,if_pos ⟨r,by simp,e,ey.symm⟩,ey]
    ·rw [if_neg ey,if_neg (by
      rintro ⟨q,hq,h1,h2⟩;rcases List.mem_cons.1 hq with z | z
      ·rw [z] at h2;exact ey h2.symm
      ·exact h ⟨q,z,h1,h2⟩)]
   ·rw [if_neg e,if_neg (by
     rintro ⟨q,hq,h1,h2⟩;rcases List.mem_cons.1 hq with z | z
     ·rw [z] at h1;exact e h1
     ·exact h ⟨q,z,h1,h2⟩)]
theorem rowT_turned {S S':Sys} (ok:Okay S) (ok':Okay S') (hh:Ahead S) (hh':Ahead S') (ht:Turned S S') (ah:Int->Option (List Int)) (inp:List Int):rowT S ah inp=rowT S' ah inp:=by
 unfold rowT;rw [ht.V,ht.I]
 split
 ·rfl
 ·rename_i hw
  split
  ·rfl
  ·rename_i hz
   have hfin:=takeV_fine ok (by simpa using hw) S.I.length 0 (by omega) (fine_start S.V) (by simpa [wid] using hz);have hC:(takeV S.V inp 0 S.I (List.replicate S.V.length [])).2.length=S.V.length:=(by have:=hfin.len;simpa [wid] using this);have hrun:=runR_turned ok ok' hh hh' ht (ah:=ah) hC;rw [ht.V] at hrun;have h1:toldL (runR S.V ah (takeV S.V inp 0 S.I (List.replicate S.V.length [])).2 S.R) S.O=toldL (runR S.V ah (takeV S.V inp 0 S.I (List.replicate S.V.length [])).2 S'.R) S'.O:=by
    unfold toldL;rw [ht.O]
    congr 1
    exact List.map_congr_left fun x hx=>hrun x (by have:=ok.told x hx;simpa using this)
   have h2:keepF (runR S.V ah (takeV S.V inp 0 S.I (List.replicate S.V.length [])).2 S.R) (fun _=>none) S.R=keepF (runR S.V ah (takeV S.V inp 0 S.I (List.replicate S.V.length [])).2 S'.R) (fun _=>none) S'.R:=by
    funext y
    rw [keepF_at,keepF_at];by_cases h:∃ r ∈ S.R,r.op=13/\aN r 1=y
    ·have h':∃ r ∈ S'.R,r.op=13/\aN r 1=y:=by obtain ⟨r,hr,h2⟩:=h;exact ⟨r,ht.R.mem_iff.1 hr,h2⟩
     rw [if_pos h,if_pos h'];obtain ⟨r,hr,e,ey⟩:=h;have hu:=(pre_used (ok.rules r hr).2 e).2;have:=ok.used r hr _ hu;rw [ey] at this;rw [hrun y (by simpa using this)]
    ·have h':¬∃ r ∈ S'.R,r.op=13/\aN r 1=y:=by rintro ⟨r,hr,h2⟩;exact h ⟨r,ht.R.mem_iff.2 hr,h2⟩
     rw [if_neg h,if_neg h']
   rw [h1,h2]
end Sk
end Go.Proofs.YtnhmcpnbaajjcaaGreatDoor
namespace Go.Proofs.YtnhmcpnbaajjcaaGreatDoor
open Go.RowKit Go.IntWalk
namespace Sk
theorem takeF_stuck {S:Sys} (ok:Okay S) (hu:∀ r ∈ S.R,∀ z ∈ needs r,0<=z/\z<S.V.length):∀ (f:Nat) {m:List Bool} {left tk:List Nat},Taken S m left tk->left.length<=f->(takeF (S.R.map needs) (S.R.map Ru.out) f m left tk).2.2.find? (canC (S.R.map needs) (takeF (S.R.map needs) (S.R.map Ru.out) f m left tk).2.1)=none
 | 0,m,left,tk,h,hl=>by
  have:left=[]:=List.eq_nil_of_length_eq_zero (by omega);subst this;rfl
 | f+1,m,left,tk,h,hl=>by
  unfold takeF
  cases hf:left.find? (canC (S.R.map needs) m) with
  | none=>exact hf
  | some j=>
   have hst:=h.step ok hu hf;have:=length_filter_ne hst.2.1 hst.1;exact takeF_stuck ok hu f hst.2.2.2 (by omega)
theorem turns_stuck {S:Sys} (ok:Okay S) (hu:∀ r ∈ S.R,∀ z ∈ needs r,0<=z/\z<S.V.length):(turns S).2.2.find? (canC (S.R.map needs) (turns S).2.1)=none:=takeF_stuck ok hu _ (taken_start ok) (by simp)
theorem turns_of_ahead {S:Sys} (ok:Okay S) (hu:∀ r ∈ S.R,∀ z ∈ needs r,0<=z/\z<S.V.length) {R':List Ru} (hp:S.R.Perm R') (ha:∀ i (h:i<R'.length),∀ z ∈ needs R'[i],z ∈ S.I\/z ∈ (R'.take i).map (·.out)):(turns S).2.2=[]:=by
 have h:=turns_taken ok hu;have hst:=turns_stuck ok hu;generalize (turns S).2.2=left at h hst ⊢;generalize (turns S).2.1=m at h hst;generalize (turns S).1=tk at h;have hno:∀ i,∀ (hi:i<R'.length),∀ j ∈ left,¬R'[i]=S.R.getD j noRu:=by
  intro i
  induction i using Nat.strongRecOn with
  | _ i ih=>
   intro hi j hj e;have hjl:j<S.R.length:=by
    have:=(h.perm.mem_iff (a:=j)).1 (by simp [hj])
    simpa using this
   have hcan:canC (S.R.map needs) m j=true:=by
    unfold canC;have e2:(S.R.map needs).getD j []=needs (S.R.getD j noRu):=getD_map hjl;rw [e2,<-e];have hr:R'[i] ∈ S.R:=hp.mem_iff.2 (List.getElem_mem hi);have:(needs R'[i]).any (fun x => !(m.getD x.toNat false))=false:=by
     rw [List.any_eq_false];intro z hz;have hz2:z ∈ S.I++tk.map fun j=>(S.R.getD j noRu).out:=by
      rcases ha i hi z hz with q | q
      ·simp [q]
      ·obtain ⟨r,hr2,ez⟩:=List.mem_map.1 q
       obtain ⟨i',hi',ei'⟩:=List.getElem_of_mem hr2;have hlt:i'<i:=(by rw [List.length_take] at hi';omega);rw [List.getElem_take] at ei';have hrS:r ∈ S.R:=hp.mem_iff.2 (List.mem_of_mem_take hr2);obtain ⟨j',hj',ej'⟩:=List.getElem_of_mem hrS;have ejd:S.R.getD j' noRu=r:=(by rw [List.getD_eq_getElem?_getD,List.getElem?_eq_getElem hj',<-ej'];rfl);have hmem:j' ∈ tk++left:=(h.perm.mem_iff (a:=j')).2 (by simpa using hj');rcases List.mem_append.1 hmem with q2 | q2
       ·refine List.mem_append.2 (.inr (List.mem_map.2 ⟨j',q2,?_⟩))
        rw [ejd];exact ez
       ·exact absurd (ei'.trans ejd.symm) (ih i' hlt (by omega) j' q2)
     have h5:=(h.made.at (hu _ hr z hz)).2 hz2;rw [h5]
     decide
    rw [this];rfl
   have:=List.find?_eq_none.1 hst j hj;exact this hcan
 cases left with
 | nil=>rfl
 | cons j l=>
  exfalso
  have hjl:j<S.R.length:=by
   have:=(h.perm.mem_iff (a:=j)).1 (by simp)
   simpa using this
  have hr:S.R[j] ∈ R':=hp.mem_iff.1 (List.getElem_mem hjl);obtain ⟨i,hi,ei⟩:=List.getElem_of_mem hr;refine hno i hi j (by simp) ?_;rw [ei,List.getD_eq_getElem?_getD,List.getElem?_eq_getElem hjl];rfl
theorem Okay.turned {S S':Sys} (ok:Okay S) (ht:Turned S S'):Okay S':=by
 obtain ⟨V,I,O,R⟩:=S;obtain ⟨V',I',O',R'⟩:=S';obtain ⟨h1,h2,h3,h4⟩:=ht;simp only at h1 h2 h3 h4;subst h1 h2 h3;exact ok.perm h4
theorem Turned.symm {S S':Sys} (ht:Turned S S'):Turned S' S:=⟨ht.V.symm,ht.I.symm,ht.O.symm,ht.R.symm⟩
theorem Turned.trans {S S' S2:Sys} (h:Turned S S') (h2:Turned S' S2):Turned S S2:=⟨h2.V.trans h.V,h2.I.trans h.I,h2.O.trans h.O,h.R.trans h2.R⟩
theorem sorted_turned {S:Sys} (ok:Okay S) (hl:(turns S).2.2=[]):Turned S (sortS S):=⟨rfl,rfl,rfl,sort_perm ok (needs_in ok) hl⟩
theorem turns_turned {S S':Sys} (ok:Okay S) (ht:Turned S S') (hl:(turns S).2.2=[]):(turns S').2.2=[]:=by
 have ok':=ok.turned ht;have hs:=sorted_turned ok hl;have ha:=sort_ahead ok (needs_in ok) hl;refine turns_of_ahead ok' (needs_in ok') (R':=(sortS S).R) (ht.R.symm.trans hs.R) fun i hi z hz=>?_;have:=ha i hi z hz;rw [ht.I];exact this
theorem sortF_zero (S:Sys):(sortF S).1=0↔Okay S/\(turns S).2.2=[]:=by
 unfold sortF;by_cases hc:check S=(0,0)
 ·rw [if_neg (by simp [hc])]
  have ok:=(check_zero S).1 hc
  cases ht:(turns S).2.2 with
  | nil=>simp [ok]
  | cons j l=>simp
 ·rw [if_pos hc]
  constructor
  ·intro h;exact absurd (check_code S h) hc
  ·intro h;exact absurd ((check_zero S).2 h.1) hc
theorem sortF_turned {S S':Sys} (ht:Turned S S'):(sortF S).1=0↔(sortF S').1=0:=by
 rw [sortF_zero,sortF_zero];exact ⟨fun h=>⟨h.1.turned ht,turns_turned h.1 ht h.2⟩,fun h=>⟨h.1.turned ht.symm,turns_turned h.1 ht.symm h.2⟩⟩
theorem sorted_rows {S S':Sys} (ht:Turned S S') (ok:Okay S) (hl:(turns S).2.2=[]) (ah:Int->Option (List Int)) (inp:List Int):rowT (sortS S) ah inp=rowT (sortS S') ah inp:=by
 have ok':=ok.turned ht;have hl':=turns_turned ok ht hl;exact rowT_turned (sort_okay ok (needs_in ok) hl) (sort_okay ok' (needs_in ok') hl') (sort_ahead ok (needs_in ok) hl) (sort_ahead ok' (needs_in ok') hl') (((sorted_turned ok hl).symm.trans ht).trans (sorted_turned ok' hl')) ah inp
end Sk
end Go.Proofs.YtnhmcpnbaajjcaaGreatDoor
