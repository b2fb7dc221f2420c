import Derived.Test.YtfhghlpfeeiaeaaGreatDoorX25
set_option linter.unusedVariables false
set_option linter.unusedSimpArgs false
set_option maxHeartbeats 64000000
set_option maxRecDepth 100000
namespace Go.Proofs.YtfhghlpfeeiaeaaGreatDoor
open Go.RowKit Go.IntWalk
namespace Sk
inductive Reach (S:Sys):Ru->Prop where
 | out {r:Ru}:r ∈ S.R->r.out ∈ S.O->Reach S r
 | use {r q:Ru}:r ∈ S.R->Reach S q->r.out ∈ uses q->Reach S r
theorem Reach.mem {S:Sys} {r:Ru} (h:Reach S r):r ∈ S.R:=by cases h<;>assumption
def pick:List Ru->List Bool->List Ru
 | r :: R,b :: nd=>if b=true then r :: pick R nd else pick R nd
 | _,_=>[]
theorem pick_mem:∀ {R:List Ru} {nd:List Bool} {r:Ru},r ∈ pick R nd↔∃ i,∃ (h:i<R.length) (h2:i<nd.length),nd[i]=true/\R[i]=r
 | [],nd,r=>by
  constructor
  ·intro h;cases nd<;>simp [pick] at h
  ·rintro ⟨i,h,_⟩;simp at h
 | a :: R,[],r=>by
  constructor
  ·intro h;simp [pick] at h
  ·rintro ⟨i,h,h2,_⟩;simp at h2
 | a :: R,b :: nd,r=>by
  unfold pick
  constructor
  ·intro h
   by_cases hb:b=true
   ·rw [if_pos hb] at h
    rcases List.mem_cons.1 h with e | h
    ·exact ⟨0,by simp,by simp,by simpa using hb,by simpa using e.symm⟩
    ·obtain ⟨i,h1,h2,h3,h4⟩:=pick_mem.1 h
     exact ⟨i+1,by simp;omega,by simp;omega,by simpa using h3,by simpa using h4⟩
   ·rw [if_neg hb] at h
    obtain ⟨i,h1,h2,h3,h4⟩:=pick_mem.1 h;exact ⟨i+1,by simp;omega,by simp;omega,by simpa using h3,by simpa using h4⟩
  ·rintro ⟨i,h1,h2,h3,h4⟩
   cases i with
   | zero=>
    simp at h3 h4;rw [if_pos h3,h4];simp
   | succ i=>
    have h5:r ∈ pick R nd:=pick_mem.2 ⟨i,by simpa using h1,by simpa using h2,by simpa using h3,by simpa using h4⟩
    split
    ·exact List.mem_cons.2 (.inr h5)
    ·exact h5
theorem pick_filter {p:Ru->Bool}:∀ {R:List Ru} {nd:List Bool},nd.length=R.length->(∀ i (h:i<R.length) (h2:i<nd.length),nd[i]=p R[i])->pick R nd=R.filter p
 | [],[],_,_=>rfl
 | r :: R,b :: nd,hl,h=>by
  have h0:b=p r:=h 0 (by simp) (by simp);have ht:=pick_filter (p:=p) (R:=R) (nd:=nd) (by simpa using hl) (fun i h1 h2=>by
   have:=h (i+1) (by simp;omega) (by simp;omega)
   simpa using this)
  unfold pick;rw [ht,h0];by_cases hp:p r=true
  ·rw [if_pos hp,List.filter_cons_of_pos hp]
  ·rw [if_neg hp,List.filter_cons_of_neg hp]
 | [],b :: nd,hl,_=>by simp at hl
 | r :: R,[],hl,_=>by simp at hl
structure Signs (S:Sys) (nd:List Bool):Prop where
 len:nd.length=S.R.length
 iff:∀ i (h:i<S.R.length) (h2:i<nd.length),nd[i]=true↔Reach S S.R[i]
theorem Signs.of {S:Sys} {nd:List Bool} (len:nd.length=S.R.length) (sound:∀ i (h:i<S.R.length) (h2:i<nd.length),nd[i]=true->Reach S S.R[i]) (outs:∀ i (h:i<S.R.length) (h2:i<nd.length),(S.R[i]).out ∈ S.O->nd[i]=true)
  (closed:∀ i (h:i<S.R.length) (h2:i<nd.length) j (h3:j<S.R.length) (h4:j<nd.length),nd[j]=true->(S.R[i]).out ∈ uses S.R[j]->nd[i]=true):Signs S nd where
 len:=len
 iff:=fun i h h2=>⟨sound i h h2,fun hr=>by
  have key:∀ r,Reach S r->∀ i (h:i<S.R.length) (h2:i<nd.length),S.R[i]=r->nd[i]=true:=by
   intro r hr
   induction hr with
   | out hm ho=>intro i h h2 e;exact outs i h h2 (by rw [e];exact ho)
   | use hm hq hu ih=>
    intro i h h2 e;obtain ⟨j,hj,ej⟩:=List.getElem_of_mem hq.mem;exact closed i h h2 j hj (by omega) (ih j hj (by omega) ej) (by rw [e,ej];exact hu)
  exact key _ hr i h h2 rfl⟩
def trimS (S:Sys) (nd:List Bool):Sys:={ S with R:=pick S.R nd }
open Classical in
theorem trim_cut {S:Sys} (ok:Okay S) {nd:List Bool} (h:Signs S nd):Cut S (trimS S nd) (fun r=>decide (Reach S r)) where
 V:=rfl
 I:=rfl
 O:=rfl
 R:=pick_filter h.len fun i h1 h2=>by
  have:=h.iff i h1 h2;by_cases hr:Reach S S.R[i]
  ·rw [this.2 hr];simp [hr]
  ·have hb:¬nd[i]=true:=fun e=>hr (this.1 e)
   simp [hr]
   simpa using hb
 told:=fun x hx=>by
  rcases ok.told x hx with q | q
  ·exact .inl q
  ·obtain ⟨r,hr,e⟩:=List.mem_map.1 q
   obtain ⟨i,hi,ei⟩:=List.getElem_of_mem hr;have gW:i<nd.length:=(by rw [h.len];exact hi);exact .inr (List.mem_map.2 ⟨r,pick_mem.2 ⟨i,hi,gW,(h.iff i hi gW).2 (by rw [ei];exact .out hr (by rw [e];exact hx)),ei⟩,e⟩)
 used:=fun r hr z hz=>by
  obtain ⟨j,hj,gP,hn,ej⟩:=pick_mem.1 hr;have ur:r ∈ S.R:=(by rw [<-ej];exact List.getElem_mem hj);have xC:Reach S r:=(by rw [<-ej];exact (h.iff j hj gP).1 hn);rcases ok.used r ur z hz with q | q
  ·exact .inl q
  ·obtain ⟨m,hm,e⟩:=List.mem_map.1 q
   obtain ⟨i,hi,ei⟩:=List.getElem_of_mem hm;have gW:i<nd.length:=(by rw [h.len];exact hi);exact .inr (List.mem_map.2 ⟨m,pick_mem.2 ⟨i,hi,gW,(h.iff i hi gW).2 (by rw [ei];exact .use hm xC (by rw [e];exact hz)),ei⟩,e⟩)
theorem trim_reach {S:Sys} {nd:List Bool} (h:Signs S nd) {r:Ru} (hr:r ∈ (trimS S nd).R):Reach (trimS S nd) r:=by
 have key:∀ r,Reach S r->Reach (trimS S nd) r:=by
  have bp:∀ r,Reach S r->r ∈ (trimS S nd).R:=fun r hr=>by
   obtain ⟨i,hi,ei⟩:=List.getElem_of_mem hr.mem;have gW:i<nd.length:=(by rw [h.len];exact hi);exact pick_mem.2 ⟨i,hi,gW,(h.iff i hi gW).2 (by rw [ei];exact hr),ei⟩
  intro r hr
  induction hr with
  | out hm ho=>exact .out (bp _ (.out hm ho)) ho
  | use hm hq hu ih=>exact .use (bp _ (.use hm hq hu)) ih hu
 obtain ⟨i,hi,gW,hn,ei⟩:=pick_mem.1 hr;exact key r (by rw [<-ei];exact (h.iff i hi gW).1 hn)
theorem pick_all:∀ (R:List Ru) (nd:List Bool),nd.length=R.length->(∀ i (h:i<nd.length),nd[i]=true)->pick R nd=R
 | [],[],_,_=>rfl
 | r :: R,b :: nd,hl,h=>by
  unfold pick;rw [if_pos (show b=true from h 0 (by simp)),pick_all R nd (by simpa using hl) fun i hi=>by have:=h (i+1) (by simp;omega);simpa using this]
 | [],b :: nd,hl,_=>by simp at hl
 | r :: R,[],hl,_=>by simp at hl
theorem trim_again {S:Sys} {nd Ef:List Bool} (h:Signs S nd) (h':Signs (trimS S nd) Ef):trimS (trimS S nd) Ef=trimS S nd:=by
 have e:pick (trimS S nd).R Ef=(trimS S nd).R:=pick_all _ _ h'.len fun i hi=>(h'.iff i (by rw [<-h'.len];exact hi) hi).2 (trim_reach h (List.getElem_mem _))
 show { trimS S nd with R:=pick (trimS S nd).R Ef }=trimS S nd
 rw [e]
theorem pick_le:∀ (R:List Ru) (nd:List Bool),(pick R nd).length<=R.length
 | [],nd=>by cases nd<;>simp [pick]
 | r :: R,[]=>by simp [pick]
 | r :: R,b :: nd=>by
  unfold pick;have:=pick_le R nd
  split<;>simp<;>omega
theorem trim_rows {S:Sys} (ok:Okay S) {nd:List Bool} (h:Signs S nd) (hl:(turns S).2.2=[]):(turns (trimS S nd)).2.2=[]/\∀ {f g:Int->Option (List Int)},Agree (trimS S nd) f g->∀ inp,(rowT (sortS S) f inp).1=(rowT (sortS (trimS S nd)) g inp).1/\Agree (trimS S nd) (rowT (sortS S) f inp).2 (rowT (sortS (trimS S nd)) g inp).2:=by
 classical
 have cut:=trim_cut ok h;have lN:=cut.okay ok;have hp:=sort_perm ok (needs_in ok) hl;have kh:=sort_okay ok (needs_in ok) hl;have KU:=sort_ahead ok (needs_in ok) hl
 -- the sorted system,trimmed by the same signs
 let U:Sys:={ trimS S nd with R:=(sortS S).R.filter fun r=>decide (Reach S r) }
 have ju:(trimS S nd).R.Perm U.R:=by
  show (trimS S nd).R.Perm ((sortS S).R.filter _)
  rw [cut.R];exact hp.filter _
 have wh:Cut (sortS S) U (fun r=>decide (Reach S r)):={
  V:=rfl
  I:=rfl
  O:=rfl
  R:=rfl
  told:=fun x hx=>by
   rcases cut.told x hx with q | q
   ·exact .inl q
   ·exact .inr ((ju.map (·.out)).mem_iff.1 q)
  used:=fun r hr z hz=>by
   rcases cut.used r (ju.mem_iff.2 hr) z hz with q | q
   ·exact .inl q
   ·exact .inr ((ju.map (·.out)).mem_iff.1 q) }
 have PZ:=wh.okay kh;have Bf:=wh.ahead kh KU;have D6:(turns (trimS S nd)).2.2=[]:=turns_of_ahead lN (needs_in lN) ju Bf;refine ⟨D6,fun {f g} oy inp=>?_⟩;have GF:Agree U f g:=fun r hr e=>oy r (ju.mem_iff.2 hr) e;obtain ⟨r1,r2⟩:=rowT_cut wh kh KU GF inp;have Pe:=sort_perm lN (needs_in lN) D6;have qK:Turned U (sortS (trimS S nd)):=⟨rfl,rfl,rfl,ju.symm.trans Pe⟩;have e:=rowT_turned PZ (sort_okay lN (needs_in lN) D6) Bf (sort_ahead lN (needs_in lN) D6) qK g inp;rw [<-e];exact ⟨r1,fun r hr e=>r2 r (ju.mem_iff.1 hr) e⟩
end Sk
end Go.Proofs.YtfhghlpfeeiaeaaGreatDoor
namespace Go.Proofs.YtfhghlpfeeiaeaaGreatDoor
open Go.RowKit Go.IntWalk
namespace Sk
def stpS (C:List (List Int)) (k:Nat) (st:List Int) (p:Pu):List Int:=st.take (st.length-takesN p.op)++[stepV C p (st.drop (st.length-takesN p.op)) k]
def stkS (C:List (List Int)) (k:Nat) (E:List Pu) (i:Nat):List Int:=(E.take i).foldl (stpS C k) []
theorem stkS_zero (C:List (List Int)) (k:Nat) (E:List Pu):stkS C k E 0=[]:=by simp [stkS]
theorem stkS_succ (C:List (List Int)) (k:Nat) (E:List Pu) {i:Nat} (h:i<E.length):stkS C k E (i+1)=stpS C k (stkS C k E i) E[i]:=by
 unfold stkS;rw [List.take_succ_eq_append_getElem h,List.foldl_append];rfl
theorem treeV_fold (C:List (List Int)) (k:Nat):∀ (E:List Pu) (st:List Int),treeV C k st E=(E.foldl (stpS C k) st).getD 0 0
 | [],st=>rfl
 | p :: r,st=>by
  unfold treeV;rw [treeV_fold C k r];rfl
theorem treeV_stk (C:List (List Int)) (k:Nat) (E:List Pu):treeV C k [] E=(stkS C k E E.length).getD 0 0:=by
 rw [treeV_fold];unfold stkS;rw [List.take_length]
structure FitS (C:List (List Int)) (k:Nat) (E:List Pu):Prop where
 at':∀ i (h:i<E.length),takesN (E[i]).op<=(stkS C k E i).length/\(stkS C k E i).length<=i
 fin:(stkS C k E E.length).length=1
theorem treeL_len {V:List Vr} {n:Int} {C:List (List Int)} {k:Nat} {E:List Pu}:∀ (m i:Nat) (ty:List Int),m+i=E.length->ty.length=(stkS C k E i).length->(stkS C k E i).length<=i->treeL V n ty (E.drop i)≠0 ->
  (∀ j (h:j<E.length),i<=j->takesN (E[j]).op<=(stkS C k E j).length/\(stkS C k E j).length<=j)/\(stkS C k E E.length).length=1
 | 0,i,ty,e,hl,hi,h=>by
  have:i=E.length:=(by omega);subst this;rw [List.drop_length] at h;unfold treeL at h;refine ⟨fun j hj y9=>by omega,?_⟩;by_cases h1:ty.length=1
  ·omega
  ·rw [if_neg h1] at h
   exact absurd rfl h
 | m+1,i,ty,e,hl,hi,h=>by
  have bd:i<E.length:=(by omega);rw [List.drop_eq_getElem_cons bd,treeL] at h
  split at h
  ·exact absurd rfl h
  rename_i hc
  have h2:(effect V E[i] n ty).2≠0:=fun q=>hc (.inl q);have h3:ends ty (effect V E[i] n ty).1=true:=by
   cases hh:ends ty (effect V E[i] n ty).1
   ·exact absurd (Or.inr hh) hc
   ·rfl
  have ht:=effect_takes h2;have hle:takesN (E[i]).op<=ty.length:=by
   unfold ends at h3;rw [Bool.and_eq_true,decide_eq_true_iff,ht] at h3;exact h3.1
  have hs:(stkS C k E (i+1)).length=(stkS C k E i).length-takesN (E[i]).op+1:=by
   rw [stkS_succ C k E bd];unfold stpS;rw [List.length_append,List.length_take,List.length_singleton];omega
  have ih:=treeL_len (C:=C) (k:=k) m (i+1) _ (by omega) (by rw [List.length_append,List.length_take,List.length_singleton,ht,hs];omega) (by omega) h;refine ⟨fun j hj y9=>?_,ih.2⟩;by_cases he:i=j
  ·subst he
   exact ⟨by omega,hi⟩
  ·exact ih.1 j hj (by omega)
theorem fitS_of {V:List Vr} {n:Int} {E:List Pu} (h:treeL V n [] E≠0) (C:List (List Int)) (k:Nat):FitS C k E:=by
 obtain ⟨h1,h2⟩:=treeL_len (C:=C) (k:=k) (E:=E) E.length 0 [] (by omega) (by rw [stkS_zero]) (by rw [stkS_zero];simp) (by rw [List.drop_zero];exact h);exact ⟨fun i hi=>h1 i hi (Nat.zero_le _),h2⟩
def PartS (C:List (List Int)) (k:Nat) (E:List Pu) (i:Nat) (v:Int) (j:Nat):Prop:=j<i/\stkS C k E i=stkS C k E j++[v]
theorem stkS_step {C:List (List Int)} {k:Nat} {E:List Pu} {i:Nat} (h:i<E.length) {S T:List Int} (hs:stkS C k E i=S++T) (hT:T.length=takesN (E[i]).op):stkS C k E (i+1)=S++[stepV C E[i] T k]:=by
 rw [stkS_succ C k E h];unfold stpS;have e:(stkS C k E i).length-takesN (E[i]).op=S.length:=(by rw [hs,List.length_append];omega);rw [e,hs,List.take_left,List.drop_left]
theorem partS_0 {C:List (List Int)} {k:Nat} {E:List Pu} {i:Nat} (h:i<E.length) (ht:takesN (E[i]).op=0):PartS C k E (i+1) (stepV C E[i] [] k) i :=
 ⟨Nat.lt_succ_self i,stkS_step h (by rw [List.append_nil]) (by rw [ht];rfl)⟩
theorem partS_1 {C:List (List Int)} {k:Nat} {E:List Pu} {i j:Nat} {a:Int} (h:i<E.length) (ht:takesN (E[i]).op=1) (ha:PartS C k E i a j):PartS C k E (i+1) (stepV C E[i] [a] k) j :=
 ⟨by have:=ha.1;omega,stkS_step h ha.2 (by rw [ht];rfl)⟩
theorem partS_2 {C:List (List Int)} {k:Nat} {E:List Pu} {i m j:Nat} {a b:Int} (h:i<E.length) (ht:takesN (E[i]).op=2) (hb:PartS C k E i b m) (ha:PartS C k E m a j):PartS C k E (i+1) (stepV C E[i] [a,b] k) j :=
 ⟨by have:=ha.1;have:=hb.1;omega,stkS_step h (by rw [hb.2,ha.2,List.append_assoc];rfl) (by rw [ht];rfl)⟩
theorem partS_3 {C:List (List Int)} {k:Nat} {E:List Pu} {i m t j:Nat} {c a b:Int} (h:i<E.length) (ht:takesN (E[i]).op=3) (hb:PartS C k E i b m) (ha:PartS C k E m a t) (hc:PartS C k E t c j):PartS C k E (i+1) (stepV C E[i] [c,a,b] k) j :=
 ⟨by have:=ha.1;have:=hb.1;have:=hc.1;omega,stkS_step h (by rw [hb.2,ha.2,hc.2,List.append_assoc,List.append_assoc];rfl) (by rw [ht];rfl)⟩
theorem PartS.tree {C:List (List Int)} {k:Nat} {E:List Pu} {j:Nat} {v:Int} (h:PartS C k E E.length v j) (hf:FitS C k E):v=treeV C k [] E:=by
 have h1:=hf.fin;rw [treeV_stk];rw [h.2] at h1 ⊢
 cases hs:stkS C k E j with
 | nil=>rfl
 | cons x r=>rw [hs] at h1;simp at h1
theorem PartS.len {C:List (List Int)} {k:Nat} {E:List Pu} {i j:Nat} {v:Int} (h:PartS C k E i v j):(stkS C k E i).length=(stkS C k E j).length+1:=by rw [h.2];simp
theorem stkS_pos {C:List (List Int)} {k:Nat} {E:List Pu} {q:Nat} (h:0<(stkS C k E q).length):0<q:=by
 rcases Nat.eq_zero_or_pos q with e | e
 ·rw [e,stkS_zero] at h;simp at h
 ·exact e
theorem map_getD (l:List Int) {n:Nat} (h:l.length=n):(List.range n).map (fun k=>l.getD k 0)=l:=by
 apply List.ext_getElem?
 intro i;by_cases hi:i<n
 ·have h2:i<l.length:=by omega
  simp [hi,List.getD_eq_getElem?_getD,h2]
 ·simp [hi]
  omega
def outL (V:List Vr) (C:List (List Int)) (ah:Int->Option (List Int)) (r:Ru) (k:Nat):List Int:=(List.range k).map (evalG C ah r)
theorem outL_succ {V:List Vr} {C:List (List Int)} {ah:Int->Option (List Int)} {r:Ru} (k:Nat):outL V C ah r (k+1)=outL V C ah r k++[evalG C ah r k]:=by
 unfold outL;rw [List.range_succ,List.map_append];rfl
theorem outL_all {V:List Vr} {C:List (List Int)} {ah:Int->Option (List Int)} {r:Ru}:outL V C ah r (cnt (vAt V r.out))=evalR V C ah r:=rfl
def folds (K:Int) (g:Nat->Int) (v:Int) (k:Nat):List Int:=(List.range k).map fun i=>foldV K g v (i+1)
theorem folds_succ {K:Int} {g:Nat->Int} {v:Int} (k:Nat):folds K g v (k+1)=folds K g v k++[apT K (foldV K g v k) (g k)]:=by
 unfold folds;rw [List.range_succ,List.map_append];rfl
theorem folds_len {K:Int} {g:Nat->Int} {v:Int} (k:Nat):(folds K g v k).length=k:=by simp [folds]
theorem folds_last {K:Int} {g:Nat->Int} {v:Int} {k:Nat} (h:0<k):(folds K g v k).drop (k-1)=[foldV K g v k]:=by
 obtain ⟨m,rfl⟩:∃ m,k=m+1:=⟨k-1,by omega⟩;rw [folds_succ,show m+1-1=(folds K g v m).length by rw [folds_len];rfl,List.drop_left];rfl
theorem evalR_1 {V:List Vr} {C:List (List Int)} {ah:Int->Option (List Int)} {r:Ru} (e:r.op=12) (h:(pt C r 0++pt C r 1).length=cnt (vAt V r.out)):evalR V C ah r=pt C r 0++pt C r 1:=by
 rw [<-map_getD _ h];unfold evalR;refine List.map_congr_left fun k _=>?_;simp only [evalG,e];by_cases hk:k<(pt C r 0).length
 ·simp [hk,List.getD_eq_getElem?_getD,List.getElem?_append_left hk]
 ·simp [hk,List.getD_eq_getElem?_getD,List.getElem?_append_right (Nat.not_lt.1 hk)]
theorem evalR_if {V:List Vr} {C:List (List Int)} {ah:Int->Option (List Int)} {r:Ru} (e:r.op=5) (h1:(pt C r 1).length=cnt (vAt V r.out)) (h2:(pt C r 2).length=cnt (vAt V r.out)):evalR V C ah r=if sca C r 0≠0 then pt C r 1 else pt C r 2:=by
 unfold evalR;by_cases hs:sca C r 0≠0
 ·rw [if_pos hs,<-map_getD _ h1]
  refine List.map_congr_left fun k _=>?_;simp only [evalG,e];simp [hs]
 ·rw [if_neg hs,<-map_getD _ h2]
  refine List.map_congr_left fun k _=>?_;simp only [evalG,e];simp [hs]
theorem evalR_pre {V:List Vr} {C:List (List Int)} {ah:Int->Option (List Int)} {r:Ru} (e:r.op=13) (h:((ah (aN r 1)).getD (pt C r 0)).length=cnt (vAt V r.out)):evalR V C ah r=(ah (aN r 1)).getD (pt C r 0):=by
 rw [<-map_getD _ h];unfold evalR;refine List.map_congr_left fun k _=>?_;simp only [evalG,e];simp
theorem evalR_fold {V:List Vr} {C:List (List Int)} {ah:Int->Option (List Int)} {r:Ru} (e:r.op=6) (h:cnt (vAt V r.out)=1) (hp:0<(pt C r 1).length):evalR V C ah r=(folds r.k (fun i=>(pt C r 1).getD i 0) (sca C r 0) (pt C r 1).length).drop ((pt C r 1).length-1):=by
 rw [folds_last hp];unfold evalR;rw [h];simp [evalG,e]
theorem evalR_scan {V:List Vr} {C:List (List Int)} {ah:Int->Option (List Int)} {r:Ru} (e:r.op=7):evalR V C ah r=folds r.k (fun i=>(pt C r 1).getD i 0) (sca C r 0) (cnt (vAt V r.out)):=by
 unfold evalR folds;refine List.map_congr_left fun k _=>?_;simp [evalG,e]
theorem evalR_foldE {V:List Vr} {C:List (List Int)} {ah:Int->Option (List Int)} {r:Ru} (e:r.op=15) (h:cnt (vAt V r.out)=1) (hp:0<r.n.toNat):evalR V C ah r=(folds r.k (fun i=>treeV C i [] r.E) (sca C r 0) r.n.toNat).drop (r.n.toNat-1):=by
 rw [folds_last hp];unfold evalR;rw [h];simp [evalG,e]
theorem evalR_scanE {V:List Vr} {C:List (List Int)} {ah:Int->Option (List Int)} {r:Ru} (e:r.op=16):evalR V C ah r=folds r.k (fun i=>treeV C i [] r.E) (sca C r 0) (cnt (vAt V r.out)):=by
 unfold evalR folds;refine List.map_congr_left fun k _=>?_;simp [evalG,e]
end Sk
end Go.Proofs.YtfhghlpfeeiaeaaGreatDoor
