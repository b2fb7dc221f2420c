import Derived.Test.YtfhghlpfeeiaeaaGreatDoorX24
import Derived.Deep.Cut
import Derived.Deep.LoopGhost
import Derived.IntWalk
import Derived.Laws.Cover1
import Derived.Lib.Hide
import Derived.WalkKit
import Derived.WalkSpells
import Derived.Ground.NamesProg
import Derived.Laws.EntriesVeiled
import Derived.Laws.Externs
import Derived.Lib.MakeNoZero
import Derived.Lib.SlBuf
import Derived.Shelf.Bytes.SlSmallAll
import Derived.Shelf.Lay
set_option linter.unusedVariables false
set_option linter.unusedSimpArgs false
set_option maxHeartbeats 64000000
set_option maxRecDepth 100000
namespace Go.Proofs.YtfhghlpfeeiaeaaGreatDoor
open Go.RowKit Go.IntWalk
namespace Sk
theorem stepV_congr {C C':List (List Int)} {p:Pu} (h:nmd p=true->cAt C p.v=cAt C' p.v) (tk:List Int) (k:Nat):stepV C p tk k=stepV C' p tk k:=by
 unfold stepV;by_cases e2:p.op=2
 ·rw [if_pos e2,if_pos e2,h (by unfold nmd;rw [e2];rfl)]
 rw [if_neg e2,if_neg e2];by_cases e3:p.op=3
 ·rw [if_pos e3,if_pos e3,h (by unfold nmd;rw [e3];rfl)]
 rw [if_neg e3,if_neg e3];by_cases e8:p.op=8
 ·have:cAt C p.v=cAt C' p.v:=h (by unfold nmd;rw [e8];rfl)
  simp only [this]
 ·split
  ·rfl
  ·split
   ·rfl
   ·split
    ·rfl
    ·split
     ·rfl
     ·first | rfl | rw [if_neg e8,if_neg e8]
theorem treeV_congr {C C':List (List Int)} {k:Nat}:∀ (E:List Pu) (st:List Int),(∀ p ∈ E,nmd p=true->cAt C p.v=cAt C' p.v)->treeV C k st E=treeV C' k st E
 | [],st,_=>rfl
 | p :: r,st,h=>by
  unfold treeV;rw [stepV_congr (h p (by simp))];exact treeV_congr r _ fun q hq=>h q (by simp [hq])
theorem evalG_congr {V:List Vr} {C C':List (List Int)} {ah:Int->Option (List Int)} {r:Ru} (ok:RuOk V r) (h:∀ z ∈ needs r,cAt C z=cAt C' z) (k:Nat):evalG C ah r k=evalG C' ah r k:=by
 have cw:=ok.form;unfold hasForm at cw;rw [Bool.and_eq_true,Bool.and_eq_true,decide_eq_true_iff,decide_eq_true_iff,beq_iff_eq] at cw;obtain ⟨⟨uo,rr⟩,hA⟩:=cw;have hp:r.op≠13->∀ i,i<r.A.length->pt C r i=pt C' r i:=fun q i hi=>by
  unfold pt;refine h _ ?_;unfold needs;rw [if_neg (fun e=>q e.1)];exact uses_A (aN_mem hi)
 have hs:r.op≠13->∀ i,i<r.A.length->sca C r i=sca C' r i:=fun q i hi=>by unfold sca;rw [hp q i hi]
 have ht:14<=r.op->∀ j,treeV C j [] r.E=treeV C' j [] r.E:=fun q j=>treeV_congr r.E [] fun p hp hn=>h _ (by
  unfold needs;rw [if_neg (fun e=>by omega)];exact zBi.2 (.inr ⟨p,by unfold ownE;rw [if_neg (by omega)];exact hp,hn,rfl⟩))
 have eb:r.op=1\/r.op=2\/r.op=3\/r.op=4\/r.op=5\/r.op=6\/r.op=7\/r.op=8\/r.op=9\/r.op=10\/r.op=11\/r.op=12\/r.op=13\/r.op=14\/r.op=15\/r.op=16:=(by omega);have bZ:∀ i:Nat,(i:Int)<partsT.getD r.op.toNat 0->i<r.A.length:=(by intro i hi;omega);rcases eb with e | e | e | e | e | e | e | e | e | e | e | e | e | e | e | e
 ·simp [evalG,e]
 ·simp [evalG,e,hp (by omega) 0 (bZ 0 (by rw [e];decide))]
 ·simp [evalG,e,hp (by omega) 0 (bZ 0 (by rw [e];decide))]
 ·simp [evalG,e,hp (by omega) 0 (bZ 0 (by rw [e];decide)),hp (by omega) 1 (bZ 1 (by rw [e];decide))]
 ·simp [evalG,e,hs (by omega) 0 (bZ 0 (by rw [e];decide)),hp (by omega) 1 (bZ 1 (by rw [e];decide)),hp (by omega) 2 (bZ 2 (by rw [e];decide))]
 ·simp [evalG,e,hs (by omega) 0 (bZ 0 (by rw [e];decide)),hp (by omega) 1 (bZ 1 (by rw [e];decide))]
 ·simp [evalG,e,hs (by omega) 0 (bZ 0 (by rw [e];decide)),hp (by omega) 1 (bZ 1 (by rw [e];decide))]
 ·simp [evalG,e,hs (by omega) 0 (bZ 0 (by rw [e];decide))]
 ·simp [evalG,e,hp (by omega) 0 (bZ 0 (by rw [e];decide)),hs (by omega) 1 (bZ 1 (by rw [e];decide)),hs (by omega) 2 (bZ 2 (by rw [e];decide))]
 ·simp [evalG,e,hp (by omega) 0 (bZ 0 (by rw [e];decide)),hs (by omega) 1 (bZ 1 (by rw [e];decide)),hs (by omega) 2 (bZ 2 (by rw [e];decide))]
 ·simp [evalG,e,hp (by omega) 0 (bZ 0 (by rw [e];decide))]
 ·simp [evalG,e,hp (by omega) 0 (bZ 0 (by rw [e];decide)),hp (by omega) 1 (bZ 1 (by rw [e];decide))]
 ·have hl:r.A.length=2:=by rw [e] at hA;have:partsT.getD (13:Int).toNat 0=2:=rfl;omega
  have h0:pt C r 0=pt C' r 0:=h _ (by unfold needs;rw [if_pos ⟨e,hl⟩];simp [aN]);simp [evalG,e,h0]
 ·simp [evalG,e,ht (by omega)]
 ·simp [evalG,e,ht (by omega),hs (by omega) 0 (bZ 0 (by rw [e];decide))]
 ·simp [evalG,e,ht (by omega),hs (by omega) 0 (bZ 0 (by rw [e];decide))]
theorem evalR_congr {V:List Vr} {C C':List (List Int)} {ah:Int->Option (List Int)} {r:Ru} (ok:RuOk V r) (h:∀ z ∈ needs r,cAt C z=cAt C' z):evalR V C ah r=evalR V C' ah r:=by
 unfold evalR;exact List.map_congr_left fun k _=>evalG_congr ok h k
theorem runR_other {V:List Vr} {ah:Int->Option (List Int)}:∀ (R:List Ru) (C:List (List Int)) (x:Int),C.length=V.length->(∀ r ∈ R,0<=r.out/\r.out<V.length)->0<=x->x ∉ R.map (·.out)->cAt (runR V ah C R) x=cAt C x
 | [],C,x,_,_,_,_=>rfl
 | r :: R,C,x,hC,ho,hx,hn=>by
  unfold runR;rw [List.map_cons,List.mem_cons] at hn;rw [runR_other R _ x (by rw [List.length_set];exact hC) (fun q hq=>ho q (by simp [hq])) hx (fun q=>hn (.inr q))];rw [cAt_set (by rw [hC];exact ho r (by simp)) hx,if_neg (fun e=>hn (.inl e))]
theorem runR_append {V:List Vr} {ah:Int->Option (List Int)}:∀ (R R':List Ru) (C:List (List Int)),runR V ah C (R++R')=runR V ah (runR V ah C R) R'
 | [],R',C=>rfl
 | r :: R,R',C=>by
  show runR V ah (C.set r.out.toNat (evalR V C ah r)) (R++R')=runR V ah (runR V ah (C.set r.out.toNat (evalR V C ah r)) R) R'
  exact runR_append R R' _
theorem runR_length {V:List Vr} {ah:Int->Option (List Int)}:∀ (R:List Ru) (C:List (List Int)),(runR V ah C R).length=C.length
 | [],C=>rfl
 | r :: R,C=>by unfold runR;rw [runR_length R];simp
theorem runR_fix {S:Sys} (ok:Okay S) (hh:Ahead S) {ah:Int->Option (List Int)} {C:List (List Int)} (hC:C.length=S.V.length) {i:Nat} (hi:i<S.R.length):cAt (runR S.V ah C S.R) (S.R[i]).out=evalR S.V (runR S.V ah C S.R) ah S.R[i]:=by
 have zi:S.R=S.R.take i++S.R[i] :: S.R.drop (i+1):=(by rw [<-List.drop_eq_getElem_cons hi,List.take_append_drop]);have cH:runR S.V ah C S.R=runR S.V ah (runR S.V ah (runR S.V ah C (S.R.take i)) [S.R[i]]) (S.R.drop (i+1)):=by
  have e:S.R.take i++([S.R[i]]++S.R.drop (i+1))=S.R:=(by rw [List.singleton_append];exact zi.symm);rw [<-runR_append,<-runR_append,e]
 have jZ:=ok.rulesN;rw [zi,List.map_append,List.map_cons] at jZ;have hr:=ok.rules S.R[i] (List.getElem_mem hi);have fX:∀ q ∈ S.R.drop (i+1),0<=q.out/\q.out<S.V.length:=fun q hq=>(ok.rules q (List.mem_of_mem_drop hq)).1.1;have jM:=(List.nodup_append.1 jZ);have xr:(S.R[i]).out ∉ (S.R.drop (i+1)).map (·.out):=(List.nodup_cons.1 jM.2.1).1;have GW:(runR S.V ah C (S.R.take i)).length=S.V.length:=(by rw [runR_length];exact hC);have fW:(runR S.V ah (runR S.V ah C (S.R.take i)) [S.R[i]]).length=S.V.length:=(by rw [runR_length];exact GW);have h1:cAt (runR S.V ah C S.R) (S.R[i]).out=evalR S.V (runR S.V ah C (S.R.take i)) ah S.R[i]:=by
  rw [cH,runR_other _ _ _ fW fX hr.1.1.1 xr]
  show cAt ((runR S.V ah C (S.R.take i)).set (S.R[i]).out.toNat (evalR S.V (runR S.V ah C (S.R.take i)) ah S.R[i])) (S.R[i]).out=_
  rw [cAt_set (by rw [GW];exact hr.1.1) hr.1.1.1,if_pos rfl]
 rw [h1];refine evalR_congr hr.2 fun z hz=>?_;have dZ:=hh i hi z hz;have iM:0<=z:=by
  rcases dZ with q | q
  ·exact (ok.ins z q).1
  ·obtain ⟨r,fb,e⟩:=List.mem_map.1 q
   rw [<-e];exact (ok.rules r (List.mem_of_mem_take fb)).1.1.1
 have Pa:z ∉ (S.R[i] :: S.R.drop (i+1)).map (·.out):=by
  intro hm;rcases dZ with q | q
  ·obtain ⟨r,fb,e⟩:=List.mem_map.1 hm
   have:r ∈ S.R:=(by rw [zi];exact List.mem_append.2 (.inr fb));exact (ok.rules r this).1.2 (e ▸ q)
  ·exact jM.2.2 z q z (by rw [List.map_cons] at hm;exact hm) rfl
 have e2:runR S.V ah C S.R=runR S.V ah (runR S.V ah C (S.R.take i)) (S.R[i] :: S.R.drop (i+1)):=by
  rw [<-runR_append,<-zi]
 rw [e2,runR_other _ _ _ GW (fun q hq=>by
  rcases List.mem_cons.1 hq with e | e
  ·rw [e];exact hr.1.1
  ·exact fX q e) iM Pa]
theorem fix_uniq {S:Sys} (ok:Okay S) (hh:Ahead S) {ah:Int->Option (List Int)} {C C':List (List Int)} (hI:∀ x ∈ S.I,cAt C x=cAt C' x) (h1:∀ r ∈ S.R,cAt C r.out=evalR S.V C ah r) (h2:∀ r ∈ S.R,cAt C' r.out=evalR S.V C' ah r):∀ i,∀ (hi:i<S.R.length),cAt C (S.R[i]).out=cAt C' (S.R[i]).out:=by
 intro i
 induction i using Nat.strongRecOn with
 | _ i ih=>
  intro hi;rw [h1 _ (List.getElem_mem hi),h2 _ (List.getElem_mem hi)];refine evalR_congr (ok.rules _ (List.getElem_mem hi)).2 fun z hz=>?_;rcases hh i hi z hz with q | q
  ·exact hI z q
  ·obtain ⟨r,hr,e⟩:=List.mem_map.1 q
   obtain ⟨j,hj,ej⟩:=List.getElem_of_mem hr;have gP:j<i:=(by rw [List.length_take] at hj;omega);have:=ih j gP (by omega);rw [List.getElem_take] at ej;rw [ej,e] at this;exact this
structure Turned (S S':Sys):Prop where
 V:S'.V=S.V
 I:S'.I=S.I
 O:S'.O=S.O
 R:S.R.Perm S'.R
theorem runR_turned {S S':Sys} (ok:Okay S) (ok':Okay S') (hh:Ahead S) (GL:Ahead S') (ht:Turned S S') {ah:Int->Option (List Int)} {C:List (List Int)} (hC:C.length=S.V.length):∀ x,(x ∈ S.I\/x ∈ S.R.map (·.out))->cAt (runR S.V ah C S.R) x=cAt (runR S'.V ah C S'.R) x:=by
 have Kj:C.length=S'.V.length:=(by rw [ht.V];exact hC);have bp:∀ x ∈ S.I,cAt (runR S.V ah C S.R) x=cAt (runR S'.V ah C S'.R) x:=fun x hx=>by
  rw [runR_other S.R C x hC (fun r hr=>(ok.rules r hr).1.1) (ok.ins x hx).1 (fun h=>by obtain ⟨r,hr,e⟩:=List.mem_map.1 h;exact (ok.rules r hr).1.2 (e ▸ hx)),
   runR_other S'.R C x Kj (fun r hr=>(ok'.rules r hr).1.1) (ok.ins x hx).1 (fun h=>by obtain ⟨r,hr,e⟩:=List.mem_map.1 h;exact (ok'.rules r hr).1.2 (e ▸ (ht.I ▸ hx)))]
 intro x hx;rcases hx with q | q
 ·exact bp x q
 ·obtain ⟨r,hr,e⟩:=List.mem_map.1 q
  obtain ⟨i,hi,ei⟩:=List.getElem_of_mem hr;have h1:∀ r ∈ S.R,cAt (runR S.V ah C S.R) r.out=evalR S.V (runR S.V ah C S.R) ah r:=fun r hr=>by
   obtain ⟨i,hi,ei⟩:=List.getElem_of_mem hr;have:=runR_fix ok hh (ah:=ah) hC hi;rw [ei] at this;exact this
  have h2:∀ r ∈ S.R,cAt (runR S'.V ah C S'.R) r.out=evalR S.V (runR S'.V ah C S'.R) ah r:=fun r hr=>by
   obtain ⟨i,hi,ei⟩:=List.getElem_of_mem (ht.R.mem_iff.1 hr);have:=runR_fix ok' GL (ah:=ah) Kj hi;rw [ei] at this;rw [<-ht.V];exact this
  have:=fix_uniq ok hh bp h1 h2 i hi;rw [ei,e] at this;exact this
theorem keepF_at (C:List (List Int)):∀ (R:List Ru) (f:Int->Option (List Int)) (y:Int),keepF C f R y=if ∃ r ∈ R,r.op=13/\aN r 1=y then some (cAt C y) else f y
 | [],f,y=>by unfold keepF;rw [if_neg (by rintro ⟨r,hr,_⟩;cases hr)]
 | r :: R,f,y=>by
  unfold keepF;rw [keepF_at C R];by_cases h:∃ r ∈ R,r.op=13/\aN r 1=y
  ·rw [if_pos h,if_pos (by obtain ⟨q,hq,aY⟩:=h;exact ⟨q,by simp [hq],aY⟩)]
  ·rw [if_neg h]
   by_cases e:r.op=13
   ·rw [if_pos e]
    unfold putA;by_cases ey:y=aN r 1
    ·rw [if_pos ey,if_pos ⟨r,by simp,e,ey.symm⟩,ey]
    ·rw [if_neg ey,if_neg (by
      rintro ⟨q,hq,h1,h2⟩;rcases List.mem_cons.1 hq with z | z
      ·rw [z] at h2;exact ey h2.symm
      ·exact h ⟨q,z,h1,h2⟩)]
   ·rw [if_neg e,if_neg (by
     rintro ⟨q,hq,h1,h2⟩;rcases List.mem_cons.1 hq with z | z
     ·rw [z] at h1;exact e h1
     ·exact h ⟨q,z,h1,h2⟩)]
theorem rowT_turned {S S':Sys} (ok:Okay S) (ok':Okay S') (hh:Ahead S) (GL:Ahead S') (ht:Turned S S') (ah:Int->Option (List Int)) (inp:List Int):rowT S ah inp=rowT S' ah inp:=by
 unfold rowT;rw [ht.V,ht.I]
 split
 ·rfl
 ·rename_i hw
  split
  ·rfl
  ·rename_i hz
   have wX:=takeV_fine ok (by simpa using hw) S.I.length 0 (by omega) (fine_start S.V) (by simpa [wid] using hz);have hC:(takeV S.V inp 0 S.I (List.replicate S.V.length [])).2.length=S.V.length:=(by have:=wX.len;simpa [wid] using this);have cH:=runR_turned ok ok' hh GL ht (ah:=ah) hC;rw [ht.V] at cH;have h1:toldL (runR S.V ah (takeV S.V inp 0 S.I (List.replicate S.V.length [])).2 S.R) S.O=toldL (runR S.V ah (takeV S.V inp 0 S.I (List.replicate S.V.length [])).2 S'.R) S'.O:=by
    unfold toldL;rw [ht.O]
    congr 1
    exact List.map_congr_left fun x hx=>cH x (by have:=ok.told x hx;simpa using this)
   have h2:keepF (runR S.V ah (takeV S.V inp 0 S.I (List.replicate S.V.length [])).2 S.R) (fun _=>none) S.R=keepF (runR S.V ah (takeV S.V inp 0 S.I (List.replicate S.V.length [])).2 S'.R) (fun _=>none) S'.R:=by
    funext y
    rw [keepF_at,keepF_at];by_cases h:∃ r ∈ S.R,r.op=13/\aN r 1=y
    ·have h':∃ r ∈ S'.R,r.op=13/\aN r 1=y:=by obtain ⟨r,hr,h2⟩:=h;exact ⟨r,ht.R.mem_iff.1 hr,h2⟩
     rw [if_pos h,if_pos h'];obtain ⟨r,hr,e,ey⟩:=h;have hu:=(pre_used (ok.rules r hr).2 e).2;have:=ok.used r hr _ hu;rw [ey] at this;rw [cH y (by simpa using this)]
    ·have h':¬∃ r ∈ S'.R,r.op=13/\aN r 1=y:=by rintro ⟨r,hr,h2⟩;exact h ⟨r,ht.R.mem_iff.2 hr,h2⟩
     rw [if_neg h,if_neg h']
   rw [h1,h2]
end Sk
end Go.Proofs.YtfhghlpfeeiaeaaGreatDoor
namespace Go.Proofs.YtfhghlpfeeiaeaaGreatDoor
open Go.RowKit Go.IntWalk
namespace Sk
theorem takeF_stuck {S:Sys} (ok:Okay S) (hu:∀ r ∈ S.R,∀ z ∈ needs r,0<=z/\z<S.V.length):∀ (f:Nat) {m:List Bool} {left tk:List Nat},Taken S m left tk->left.length<=f->(takeF (S.R.map needs) (S.R.map Ru.out) f m left tk).2.2.find? (canC (S.R.map needs) (takeF (S.R.map needs) (S.R.map Ru.out) f m left tk).2.1)=none
 | 0,m,left,tk,h,hl=>by
  have:left=[]:=List.eq_nil_of_length_eq_zero (by omega);subst this;rfl
 | f+1,m,left,tk,h,hl=>by
  unfold takeF
  cases hf:left.find? (canC (S.R.map needs) m) with
  | none=>exact hf
  | some j=>
   have cQ:=h.step ok hu hf;have:=length_filter_ne cQ.2.1 cQ.1;exact takeF_stuck ok hu f cQ.2.2.2 (by omega)
theorem turns_stuck {S:Sys} (ok:Okay S) (hu:∀ r ∈ S.R,∀ z ∈ needs r,0<=z/\z<S.V.length):(turns S).2.2.find? (canC (S.R.map needs) (turns S).2.1)=none:=takeF_stuck ok hu _ (taken_start ok) (by simp)
theorem turns_of_ahead {S:Sys} (ok:Okay S) (hu:∀ r ∈ S.R,∀ z ∈ needs r,0<=z/\z<S.V.length) {R':List Ru} (hp:S.R.Perm R') (ha:∀ i (h:i<R'.length),∀ z ∈ needs R'[i],z ∈ S.I\/z ∈ (R'.take i).map (·.out)):(turns S).2.2=[]:=by
 have h:=turns_taken ok hu;have cQ:=turns_stuck ok hu;generalize (turns S).2.2=left at h cQ ⊢;generalize (turns S).2.1=m at h cQ;generalize (turns S).1=tk at h;have sN:∀ i,∀ (hi:i<R'.length),∀ j ∈ left,¬R'[i]=S.R.getD j noRu:=by
  intro i
  induction i using Nat.strongRecOn with
  | _ i ih=>
   intro hi j hj e;have jd:j<S.R.length:=by
    have:=(h.perm.mem_iff (a:=j)).1 (by simp [hj])
    simpa using this
   have p6:canC (S.R.map needs) m j=true:=by
    unfold canC;have e2:(S.R.map needs).getD j []=needs (S.R.getD j noRu):=getD_map jd;rw [e2,<-e];have hr:R'[i] ∈ S.R:=hp.mem_iff.2 (List.getElem_mem hi);have:(needs R'[i]).any (fun x => !(m.getD x.toNat false))=false:=by
     rw [List.any_eq_false];intro z hz;have dZ:z ∈ S.I++tk.map fun j=>(S.R.getD j noRu).out:=by
      rcases ha i hi z hz with q | q
      ·simp [q]
      ·obtain ⟨r,fb,ez⟩:=List.mem_map.1 q
       obtain ⟨i',oz,JW⟩:=List.getElem_of_mem fb;have bd:i'<i:=(by rw [List.length_take] at oz;omega);rw [List.getElem_take] at JW;have ur:r ∈ S.R:=hp.mem_iff.2 (List.mem_of_mem_take fb);obtain ⟨j',Lk,NQ⟩:=List.getElem_of_mem ur;have JX:S.R.getD j' noRu=r:=(by rw [List.getD_eq_getElem?_getD,List.getElem?_eq_getElem Lk,<-NQ];rfl);have nP:j' ∈ tk++left:=(h.perm.mem_iff (a:=j')).2 (by simpa using Lk);rcases List.mem_append.1 nP with q2 | q2
       ·refine List.mem_append.2 (.inr (List.mem_map.2 ⟨j',q2,?_⟩))
        rw [JX];exact ez
       ·exact absurd (JW.trans JX.symm) (ih i' bd (by omega) j' q2)
     have h5:=(h.made.at (hu _ hr z hz)).2 dZ;rw [h5]
     decide
    rw [this];rfl
   have:=List.find?_eq_none.1 cQ j hj;exact this p6
 cases left with
 | nil=>rfl
 | cons j l=>
  exfalso
  have jd:j<S.R.length:=by
   have:=(h.perm.mem_iff (a:=j)).1 (by simp)
   simpa using this
  have hr:S.R[j] ∈ R':=hp.mem_iff.1 (List.getElem_mem jd);obtain ⟨i,hi,ei⟩:=List.getElem_of_mem hr;refine sN i hi j (by simp) ?_;rw [ei,List.getD_eq_getElem?_getD,List.getElem?_eq_getElem jd];rfl
end Sk
end Go.Proofs.YtfhghlpfeeiaeaaGreatDoor
namespace Go.Proofs.YtfhghlpfeeiaeaaGreatDoor
open Go.RowKit Go.IntWalk
namespace Sk
theorem same_out:∀ {R:List Ru},(R.map (·.out)).Nodup->∀ {r t:Ru},r ∈ R->t ∈ R->r.out=t.out->r=t
 | [],_,r,t,hr,_,_=>by cases hr
 | x :: R,hn,r,t,hr,ht,e=>by
  rw [List.map_cons,List.nodup_cons] at hn;rcases List.mem_cons.1 hr with q | q<;>rcases List.mem_cons.1 ht with p | p
  ·rw [q,p]
  ·subst q
   exact absurd (List.mem_map.2 ⟨t,p,e.symm⟩) hn.1
  ·subst p
   exact absurd (List.mem_map.2 ⟨r,q,e⟩) hn.1
  ·exact same_out hn.2 q p e
end Sk
end Go.Proofs.YtfhghlpfeeiaeaaGreatDoor
namespace Go.Proofs.YtfhghlpfeeiaeaaGreatDoor
open Go.RowKit Go.IntWalk
namespace Sk
structure Cut (S T:Sys) (p:Ru->Bool):Prop where
 V:T.V=S.V
 I:T.I=S.I
 O:T.O=S.O
 R:T.R=S.R.filter p
 told:∀ x ∈ S.O,x ∈ S.I\/x ∈ T.R.map (·.out)
 used:∀ r ∈ T.R,∀ z ∈ uses r,z ∈ S.I\/z ∈ T.R.map (·.out)
theorem Cut.mem {S T:Sys} {p:Ru->Bool} (h:Cut S T p) {r:Ru} (hr:r ∈ T.R):r ∈ S.R:=by
 rw [h.R] at hr;exact (List.mem_filter.1 hr).1
theorem Cut.okay {S T:Sys} {p:Ru->Bool} (h:Cut S T p) (ok:Okay S):Okay T where
 nV:=by rw [h.V];exact ok.nV
 nI:=by rw [h.I];exact ok.nI
 nO:=by rw [h.O];exact ok.nO
 nR:=by rw [h.R];exact Nat.le_trans (List.length_filter_le _ _) ok.nR
 vars:=by rw [h.V];exact ok.vars
 ins:=by rw [h.I,h.V];exact ok.ins
 insN:=by rw [h.I];exact ok.insN
 outs:=by rw [h.O,h.V];exact ok.outs
 rules:=fun r hr=>by rw [h.V,h.I];exact ok.rules r (h.mem hr)
 rulesN:=by
  rw [h.R];exact List.Nodup.sublist ((List.filter_sublist (l:=S.R) (p:=p)).map (·.out)) ok.rulesN
 used:=fun r hr z hz=>by rw [h.I];exact h.used r hr z hz
 told:=fun x hx=>by rw [h.I];rw [h.O] at hx;exact h.told x hx
theorem same_outS {S:Sys} (ok:Okay S) {r t:Ru} (hr:r ∈ S.R) (ht:t ∈ S.R) (e:r.out=t.out):r=t:=same_out ok.rulesN hr ht e
theorem needs_sub {S:Sys} (ok:Okay S) {r:Ru} (hr:r ∈ S.R) {z:Int} (hz:z ∈ needs r):z ∈ uses r :=
 needs_uses (ok.rules r hr).2 hz fun y hy=>uses_A hy
theorem Cut.ahead {S T:Sys} {p:Ru->Bool} (h:Cut S T p) (ok:Okay S) (ha:Ahead S):Ahead T:=by
 have key:∀ (A B:List Ru) (r:Ru),S.R=A++r :: B->p r=true->∀ z ∈ needs r,z ∈ S.I\/z ∈ (A.filter p).map (·.out):=by
  intro A B r hs hp z hz;have ur:r ∈ S.R:=(by rw [hs];simp);have hi:A.length<S.R.length:=(by rw [hs];simp);have p8:S.R[A.length]=r:=(by simp [hs]);have h1:=ha A.length hi z (by rw [p8];exact hz);have ht:S.R.take A.length=A:=(by rw [hs];simp);rw [ht] at h1;have Ph:r ∈ T.R:=(by rw [h.R];exact List.mem_filter.2 ⟨ur,hp⟩);rcases h.used r Ph z (needs_sub ok ur hz) with q | q
  ·exact .inl q
  ·rcases h1 with q1 | q1
   ·exact .inl q1
   ·obtain ⟨m,hm,e⟩:=List.mem_map.1 q1
    obtain ⟨m',D0,e'⟩:=List.mem_map.1 q;have:m=m':=same_outS ok (by rw [hs];exact List.mem_append.2 (.inl hm)) (h.mem D0) (by rw [e,e']);subst this;rw [h.R] at D0;exact .inr (List.mem_map.2 ⟨m,List.mem_filter.2 ⟨hm,(List.mem_filter.1 D0).2⟩,e⟩)
 have gen:∀ (B A:List Ru),S.R=A++B->∀ i (hi:i<(B.filter p).length),∀ z ∈ needs (B.filter p)[i],z ∈ S.I\/z ∈ (A.filter p++(B.filter p).take i).map (·.out):=by
  intro B
  induction B with
  | nil=>intro A _ i hi;simp at hi
  | cons b B ih=>
   intro A hs i hi z hz;by_cases hb:p b=true
   ·have ef:(b :: B).filter p=b :: B.filter p:=List.filter_cons_of_pos hb
    simp only [ef] at hi hz ⊢
    cases i with
    | zero=>
     simp at hz ⊢;have:=key A B b hs hb z hz
     simpa using this
    | succ i=>
     have h2:=ih (A++[b]) (by rw [hs];simp) i (by simpa using hi) z (by simpa using hz);rw [List.filter_append,show [b].filter p=[b] by simp [hb]] at h2
     simpa using h2
   ·have ef:(b :: B).filter p=B.filter p:=List.filter_cons_of_neg hb
    simp only [ef] at hi hz ⊢;have h2:=ih (A++[b]) (by rw [hs];simp) i hi z hz;rw [List.filter_append,show [b].filter p=[] by simp [hb],List.append_nil] at h2;exact h2
 intro i hi z hz;have hR:=h.R;have gW:i<(S.R.filter p).length:=(by rw [<-hR];exact hi);have h2:=gen S.R [] rfl i gW z (by simpa only [hR] using hz);rw [h.I]
 simpa [hR] using h2
theorem evalR_ah {V:List Vr} {C:List (List Int)} {f g:Int->Option (List Int)} {r:Ru} (h:r.op=13->f (aN r 1)=g (aN r 1)):evalR V C f r=evalR V C g r:=by
 unfold evalR;refine List.map_congr_left fun k _=>?_;unfold evalG;by_cases e:r.op=13
 ·rw [h e]
 ·simp only [if_neg e]
def Agree (T:Sys) (f g:Int->Option (List Int)):Prop:=∀ r ∈ T.R,r.op=13->f (aN r 1)=g (aN r 1)
theorem runR_cut {S T:Sys} {p:Ru->Bool} (h:Cut S T p) (ok:Okay S) (ha:Ahead S) {f g:Int->Option (List Int)} (oy:Agree T f g) {C:List (List Int)} (hC:C.length=S.V.length):∀ x,(x ∈ S.I\/x ∈ T.R.map (·.out))->cAt (runR S.V f C S.R) x=cAt (runR T.V g C T.R) x:=by
 have lN:=h.okay ok;have KV:=h.ahead ok ha;have Kl:C.length=T.V.length:=(by rw [h.V];exact hC);have bp:∀ x ∈ T.I,cAt (runR S.V f C S.R) x=cAt (runR T.V g C T.R) x:=fun x hx=>by
  rw [runR_other S.R C x hC (fun r hr=>(ok.rules r hr).1.1) (lN.ins x hx).1 (fun q=>by obtain ⟨r,hr,e⟩:=List.mem_map.1 q;exact (ok.rules r hr).1.2 (e ▸ (h.I ▸ hx))),
   runR_other T.R C x Kl (fun r hr=>(lN.rules r hr).1.1) (lN.ins x hx).1 (fun q=>by obtain ⟨r,hr,e⟩:=List.mem_map.1 q;exact (lN.rules r hr).1.2 (e ▸ hx))]
 have h1:∀ r ∈ T.R,cAt (runR S.V f C S.R) r.out=evalR T.V (runR S.V f C S.R) g r:=fun r hr=>by
  obtain ⟨i,hi,ei⟩:=List.getElem_of_mem (h.mem hr);have:=runR_fix ok ha (ah:=f) hC hi;rw [ei] at this;rw [this,h.V];exact evalR_ah (oy r hr)
 have h2:∀ r ∈ T.R,cAt (runR T.V g C T.R) r.out=evalR T.V (runR T.V g C T.R) g r:=fun r hr=>by
  obtain ⟨i,hi,ei⟩:=List.getElem_of_mem hr;have:=runR_fix lN KV (ah:=g) Kl hi;rw [ei] at this;exact this
 intro x hx;rcases hx with q | q
 ·exact bp x (by rw [h.I];exact q)
 ·obtain ⟨r,hr,e⟩:=List.mem_map.1 q
  obtain ⟨i,hi,ei⟩:=List.getElem_of_mem hr;have:=fix_uniq lN KV (ah:=g) bp h1 h2 i hi;rw [ei,e] at this;exact this
theorem rowT_cut {S T:Sys} {p:Ru->Bool} (h:Cut S T p) (ok:Okay S) (ha:Ahead S) {f g:Int->Option (List Int)} (oy:Agree T f g) (inp:List Int):(rowT S f inp).1=(rowT T g inp).1/\Agree T (rowT S f inp).2 (rowT T g inp).2:=by
 unfold rowT;rw [h.V,h.I]
 split
 ·exact ⟨rfl,oy⟩
 ·rename_i hw
  split
  ·exact ⟨rfl,oy⟩
  ·rename_i hz
   have wX:=takeV_fine ok (by simpa using hw) S.I.length 0 (by omega) (fine_start S.V) (by simpa [wid] using hz);have hC:(takeV S.V inp 0 S.I (List.replicate S.V.length [])).2.length=S.V.length:=(by have:=wX.len;simpa [wid] using this);have cH:=runR_cut h ok ha oy hC;rw [h.V] at cH;refine ⟨?_,?_⟩
   ·have h1:toldL (runR S.V f (takeV S.V inp 0 S.I (List.replicate S.V.length [])).2 S.R) S.O=toldL (runR S.V g (takeV S.V inp 0 S.I (List.replicate S.V.length [])).2 T.R) T.O:=by
     unfold toldL;rw [h.O]
     congr 1
     exact List.map_congr_left fun x hx=>cH x (h.told x hx)
    rw [h1]
   ·intro r hr e
    show keepF _ _ S.R (aN r 1)=keepF _ _ T.R (aN r 1)
    rw [keepF_at,keepF_at,if_pos ⟨r,h.mem hr,e,rfl⟩,if_pos ⟨r,hr,e,rfl⟩];have hu:=(pre_used ((h.okay ok).rules r hr).2 e).2;rw [cH _ (h.used r hr _ hu)]
end Sk
end Go.Proofs.YtfhghlpfeeiaeaaGreatDoor
