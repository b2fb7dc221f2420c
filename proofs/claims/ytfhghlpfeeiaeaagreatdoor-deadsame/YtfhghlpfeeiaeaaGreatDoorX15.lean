import Derived.Test.YtfhghlpfeeiaeaaGreatDoorX14
import Derived.Deep.Cut
import Derived.Deep.LoopGhost
import Derived.IntWalk
import Derived.Laws.Cover1
import Derived.Lib.Hide
import Derived.WalkKit
import Derived.WalkSpells
import Derived.Lib.MakeNoZero
set_option linter.unusedVariables false
set_option linter.unusedSimpArgs false
set_option maxHeartbeats 64000000
set_option maxRecDepth 100000
namespace Go.Proofs.YtfhghlpfeeiaeaaGreatDoor
open Go.RowKit Go.IntWalk
namespace Sk
def cnt (v:Vr):Nat:=(max 1 v.n).toNat
def cAt (C:List (List Int)) (x:Int):List Int:=C.getD x.toNat []
def takesN (op:Int):Nat:=if op=5 then 1 else if op=6\/op=8 then 2 else if op=7 then 3 else 0
def cellAt (l:List Int) (p o:Int):Int:=if p<0\/(l.length:Int)<=p then o else l.getD p.toNat 0
def stepV (C:List (List Int)) (p:Pu) (tk:List Int) (k:Nat):Int :=
 if p.op=2 then (cAt C p.v).getD 0 0
 else if p.op=3 then (cAt C p.v).getD (k+p.n.toNat) 0
 else if p.op=4 then (k:Int)+p.n
 else if p.op=5 then apT p.k (tk.getD 0 0) 0
 else if p.op=6 then apT p.k (tk.getD 0 0) (tk.getD 1 0)
 else if p.op=7 then (if tk.getD 0 0≠0 then tk.getD 1 0 else tk.getD 2 0)
 else if p.op=8 then cellAt (cAt C p.v) (tk.getD 0 0) (tk.getD 1 0)
 else p.n
def treeV (C:List (List Int)) (k:Nat):List Int->List Pu->Int
 | st,[]=>st.getD 0 0
 | st,p :: r=>treeV C k (st.take (st.length-takesN p.op)++[stepV C p (st.drop (st.length-takesN p.op)) k]) r
def foldV (K:Int) (g:Nat->Int) (v:Int):Nat->Int
 | 0=>v
 | n+1=>apT K (foldV K g v n) (g n)
def aN (r:Ru) (i:Nat):Int:=r.A.getD i 0
def pt (C:List (List Int)) (r:Ru) (i:Nat):List Int:=cAt C (aN r i)
def sca (C:List (List Int)) (r:Ru) (i:Nat):Int:=(pt C r i).getD 0 0
def evalG (C:List (List Int)) (ah:Int->Option (List Int)) (r:Ru) (k:Nat):Int :=
 if r.op=1 then r.n
 else if r.op=2 then (pt C r 0).getD k 0
 else if r.op=3 then apT r.k ((pt C r 0).getD k 0) 0
 else if r.op=4 then apT r.k ((pt C r 0).getD k 0) ((pt C r 1).getD k 0)
 else if r.op=5 then (if sca C r 0≠0 then (pt C r 1).getD k 0 else (pt C r 2).getD k 0)
 else if r.op=6 then foldV r.k (fun i=>(pt C r 1).getD i 0) (sca C r 0) (pt C r 1).length
 else if r.op=7 then foldV r.k (fun i=>(pt C r 1).getD i 0) (sca C r 0) (k+1)
 else if r.op=8 then sca C r 0
 else if r.op=9 then cellAt (pt C r 0) (sca C r 1) (sca C r 2)
 else if r.op=10 then (if (k:Int)=sca C r 1 then sca C r 2 else (pt C r 0).getD k 0)
 else if r.op=11 then (pt C r 0).getD (r.n.toNat+k) 0
 else if r.op=12 then (if k<(pt C r 0).length then (pt C r 0).getD k 0 else (pt C r 1).getD (k-(pt C r 0).length) 0)
 else if r.op=13 then ((ah (aN r 1)).getD (pt C r 0)).getD k 0
 else if r.op=15 then foldV r.k (fun i=>treeV C i [] r.E) (sca C r 0) r.n.toNat
 else if r.op=16 then foldV r.k (fun i=>treeV C i [] r.E) (sca C r 0) (k+1)
 else treeV C k [] r.E
def evalR (V:List Vr) (C:List (List Int)) (ah:Int->Option (List Int)) (r:Ru):List Int:=(List.range (cnt (vAt V r.out))).map (evalG C ah r)
def runR (V:List Vr) (ah:Int->Option (List Int)):List (List Int)->List Ru->List (List Int)
 | C,[]=>C
 | C,r :: l=>runR V ah (C.set r.out.toNat (evalR V C ah r)) l
def noTruth (n:Int):Bool:=(n != 0)&&(n != 1)
def width (V:List Vr):List Int->Nat
 | []=>0
 | x :: r=>(if 0<=x/\x<V.length then cnt (vAt V x) else 0)+width V r
def takeV (V:List Vr) (inp:List Int):Nat->List Int->List (List Int)->(Int × Int) × List (List Int)
 | _,[],C=>((0,0),C)
 | at_,x :: r,C=>if (vAt V x).elem=98/\((inp.drop at_).take (cnt (vAt V x))).any noTruth=true then ((17,((at_+((inp.drop at_).take (cnt (vAt V x))).findIdx noTruth:Nat):Int)),C)
  else takeV V inp (at_+cnt (vAt V x)) r (C.set x.toNat ((inp.drop at_).take (cnt (vAt V x))))
def putA (f:Int->Option (List Int)) (x:Int) (l:List Int):Int->Option (List Int):=fun y=>if y=x then some l else f y
def keepF (C:List (List Int)):(Int->Option (List Int))->List Ru->Int->Option (List Int)
 | f,[]=>f
 | f,r :: l=>keepF C (if r.op=13 then putA f (aN r 1) (cAt C (aN r 1)) else f) l
def toldL (C:List (List Int)) (O:List Int):List Int:=(O.map (cAt C)).flatten
def rowT (S:Sys) (ah:Int->Option (List Int)) (inp:List Int):(List Int × (Int × Int)) × (Int->Option (List Int)) :=
 if inp.length≠width S.V S.I then (([],(17,-1)),ah)
 else if (takeV S.V inp 0 S.I (List.replicate S.V.length [])).1.1≠0 then (([],(takeV S.V inp 0 S.I (List.replicate S.V.length [])).1),ah)
 else ((toldL (runR S.V ah (takeV S.V inp 0 S.I (List.replicate S.V.length [])).2 S.R) S.O,(0,0)),keepF (runR S.V ah (takeV S.V inp 0 S.I (List.replicate S.V.length [])).2 S.R) (fun _=>none) S.R)
structure StepFit (C:List (List Int)) (n:Nat) (p:Pu):Prop where
 f2:p.op=2->(0<=p.v/\p.v<C.length)/\0<(cAt C p.v).length
 f3:p.op=3->(0<=p.v/\p.v<C.length)/\0<=p.n/\p.n+n<=(cAt C p.v).length
 f4:p.op=4 -> -1000000<=p.n/\p.n<=1000000
 f8:p.op=8->(0<=p.v/\p.v<C.length)
def fitT (C:List (List Int)) (n:Nat):Nat->List Pu->Prop
 | h,[]=>0<h
 | h,p :: r=>takesN p.op<=h/\StepFit C n p/\fitT C n (h-takesN p.op+1) r
theorem when_ne {b:Bool} {e:Int} (h:when b e≠0):b=true:=by
 unfold when at h
 split at h
 ·assumption
 ·exact absurd rfl h
theorem effect_takes {V:List Vr} {p:Pu} {cells:Int} {st:List Int} (h:(effect V p cells st).2≠0):(effect V p cells st).1.length=takesN p.op:=by
 unfold effect at h ⊢;unfold takesN
 split
 case isTrue e=>rw [e];rfl
 case isFalse e1=>
 rw [if_neg e1] at h
 split
 case isTrue e=>
  have h5:¬p.op=5:=(by omega);have h6:¬(p.op=6\/p.op=8):=(by omega);have h7:¬p.op=7:=(by omega);rw [if_neg h5,if_neg h6,if_neg h7];rfl
 case isFalse e2=>
 rw [if_neg e2] at h
 split
 case isTrue e=>rw [e];rfl
 case isFalse e3=>
 rw [if_neg e3] at h
 split
 case isTrue e=>
  rw [if_pos e] at h;unfold opEff at h ⊢;have hw:=when_ne h;simp at hw;rw [List.length_replicate];rcases hw with ⟨a,b⟩ | ⟨a,b⟩
  ·rw [a,b];rfl
  ·rw [a,b];rfl
 case isFalse e4=>
 rw [if_neg e4] at h
 split
 case isTrue e=>
  rw [if_pos e] at h;rw [e];unfold choice at h ⊢
  cases hl:st.getLast? with
  | none=>rw [hl] at h;exact absurd rfl h
  | some t=>rfl
 case isFalse e5=>
 rw [if_neg e5] at h
 split
 case isTrue e=>rw [e];rfl
 case isFalse e6=>rw [if_neg e6] at h;exact absurd rfl h
theorem cnt_pos (v:Vr):0<cnt v:=by unfold cnt;omega
theorem cnt_arr {v:Vr} (h:arr v=true):(cnt v:Int)=v.n:=by
 unfold arr at h;simp at h;unfold cnt;omega
theorem effect_fit {V:List Vr} {C:List (List Int)} {p:Pu} {n:Nat} {st:List Int} (h:(effect V p n st).2≠0) (hc:nmd p=true->(0<=p.v/\p.v<C.length)/\(cAt C p.v).length=cnt (vAt V p.v)):StepFit C n p:=by
 refine ⟨fun e=>?_,fun e=>?_,fun e=>?_,fun e=>?_⟩
 ·have:=hc (by unfold nmd;rw [e];rfl)
  exact ⟨this.1,by rw [this.2];exact cnt_pos _⟩
 ·have hh:=hc (by unfold nmd;rw [e];rfl)
  unfold effect at h;rw [if_neg (by omega),if_pos (by omega)] at h;unfold madeVar at h;rw [if_neg (by omega)] at h;have:=when_ne h;simp at this;have ha:=cnt_arr this.1.1;refine ⟨hh.1,this.1.2,?_⟩;rw [hh.2,ha];omega
 ·unfold effect at h
  rw [if_neg (by omega),if_neg (by omega),if_pos e] at h;have:=when_ne h
  simpa using this
 ·exact (hc (by unfold nmd;rw [e];rfl)).1
theorem treeL_fit {V:List Vr} {C:List (List Int)} {n:Nat}:∀ (E:List Pu) (st:List Int),treeL V n st E≠0->(∀ p ∈ E,nmd p=true->(0<=p.v/\p.v<C.length)/\(cAt C p.v).length=cnt (vAt V p.v))->fitT C n st.length E
 | [],st,h,_=>by
  unfold treeL at h;unfold fitT
  split at h
  ·omega
  ·exact absurd rfl h
 | p :: r,st,h,hc=>by
  unfold treeL at h;unfold fitT
  split at h
  ·exact absurd rfl h
  ·rename_i hn
   have jM:(effect V p n st).2≠0:=fun q=>hn (.inl q);have qk:ends st (effect V p n st).1=true:=by
    cases q:ends st (effect V p n st).1
    ·exact absurd (.inr q) hn
    ·rfl
   have ht:=effect_takes jM;have hle:takesN p.op<=st.length:=by
    unfold ends at qk;simp at qk;omega
   refine ⟨hle,effect_fit jM (hc p (by simp)),?_⟩;have:=treeL_fit r _ h fun q hq=>hc q (by simp [hq]);simp only [List.length_append,List.length_take,List.length_singleton] at this;rw [ht] at this;have e:min (st.length-takesN p.op) st.length=st.length-takesN p.op:=(by omega)
   rwa [e] at this
structure RFit (V:List Vr) (C:List (List Int)) (ah:Int->Option (List Int)) (r:Ru):Prop where
 out:0<=r.out/\r.out<V.length
 op:1<=r.op/\r.op<=16
 nA:(r.A.length:Int)=partsT.getD r.op.toNat 0
 rng:∀ z ∈ r.A,0<=z/\z<C.length
 one:r.op≠13->∀ z ∈ r.A,0<(cAt C z).length
 f2:r.op=2\/r.op=3\/r.op=4\/r.op=10\/r.op=13->cnt (vAt V r.out)<=(pt C r 0).length
 f4:r.op=4\/r.op=5\/r.op=7->cnt (vAt V r.out)<=(pt C r 1).length
 f5:r.op=5->cnt (vAt V r.out)<=(pt C r 2).length
 f6:r.op=6->(pt C r 1).length<=300
 f11:r.op=11->0<=r.n/\r.n+cnt (vAt V r.out)<=(pt C r 0).length/\r.n<=300
 f12:r.op=12->cnt (vAt V r.out)<=(pt C r 0).length+(pt C r 1).length
 f13:r.op=13->∀ l,ah (aN r 1)=some l->cnt (vAt V r.out)<=l.length
 f14:r.op=14\/r.op=16->fitT C (cnt (vAt V r.out)) 0 r.E
 f15:r.op=15->(1<=r.n/\r.n<=300)/\fitT C r.n.toNat 0 r.E
 tree:(ownE r.op r.E).length<=24
 sz:cnt (vAt V r.out)<=300
theorem same_eq {a b:Vr} (h:same a b=true):a=b:=by
 unfold same at h;simp at h;obtain ⟨a1,a2⟩:=a;obtain ⟨b1,b2⟩:=b;simp at h;rw [h.1,h.2]
theorem nt_map {V:List Vr} {r:Ru} {i:Nat} (h:i<r.A.length):nt (r.A.map (vAt V)) i=vAt V (aN r i):=by
 unfold nt aN;simp [List.getD_eq_getElem?_getD,h]
theorem aN_mem {r:Ru} {i:Nat} (h:i<r.A.length):aN r i ∈ r.A:=by
 unfold aN;rw [List.getD_eq_getElem?_getD,List.getElem?_eq_getElem h];exact List.getElem_mem _
theorem vAt_ok {V:List Vr} (h:∀ v ∈ V,VrOk v) {x:Int} (hx:0<=x/\x<V.length):VrOk (vAt V x):=by
 unfold vAt;have:x.toNat<V.length:=(by omega);rw [List.getD_eq_getElem?_getD,List.getElem?_eq_getElem this];exact h _ (List.getElem_mem _)
theorem cnt_le {v:Vr} (h:VrOk v):cnt v<=300:=by
 have:=h.2;unfold cnt;omega
theorem arrOf_eq {v c:Vr} (h:arrOf v c=true):arr v=true/\c=sc v.elem:=by
 unfold arrOf at h;simp at h;exact ⟨h.1,(same_eq h.2).symm⟩
theorem uses_A {r:Ru} {z:Int} (h:z ∈ r.A):z ∈ uses r:=zBi.2 (.inl h)
theorem rfit_of {V:List Vr} {C:List (List Int)} {ah:Int->Option (List Int)} {r:Ru} (hV:∀ v ∈ V,VrOk v) (hC:C.length=V.length) (ho:0<=r.out/\r.out<V.length) (h:RuOk V r) (hn:∀ z ∈ needs r,(cAt C z).length=cnt (vAt V z)) (jK:r.op=13->∀ l,ah (aN r 1)=some l->l.length=cnt (vAt V (aN r 1))):RFit V C ah r:=by
 have cw:=h.form;unfold hasForm at cw;rw [Bool.and_eq_true,Bool.and_eq_true,decide_eq_true_iff,decide_eq_true_iff,beq_iff_eq] at cw;obtain ⟨⟨uo,rr⟩,hA⟩:=cw;have xD:∀ z ∈ r.A,0<=z/\z<C.length:=fun z hz=>by rw [hC];exact h.uses z (uses_A hz)
 have hN:r.op≠13->∀ z ∈ uses r,(cAt C z).length=cnt (vAt V z):=by
  intro q z hz;refine hn z ?_;unfold needs;rw [if_neg (fun e=>q e.1)];exact hz
 have hP:r.op≠13->∀ i,i<r.A.length->(pt C r i).length=cnt (vAt V (aN r i)):=fun q i hi=>hN q _ (uses_A (aN_mem hi));have aB:=h.fit;have hT:14<=r.op->∀ p ∈ r.E,nmd p=true->(0<=p.v/\p.v<C.length)/\(cAt C p.v).length=cnt (vAt V p.v):=by
  intro q p hp oJ;have hu:p.v ∈ uses r:=zBi.2 (.inr ⟨p,by unfold ownE;rw [if_neg (by omega)];exact hp,oJ,rfl⟩);exact ⟨by rw [hC];exact h.uses _ hu,hN (by omega) _ hu⟩
 have eo:(vAt V r.out).elem≠0:=by
  have:=(vAt_ok hV ho).1;omega
 have GB:=cnt_le (vAt_ok hV ho);have bZ:∀ i:Nat,(i:Int)<partsT.getD r.op.toNat 0->i<r.A.length:=(by intro i hi;omega);unfold fitsR at aB;refine ⟨ho,⟨uo,rr⟩,hA,xD,fun q z hz=>by rw [hN q z (uses_A hz)];exact cnt_pos _,?_,?_,?_,?_,?_,?_,?_,?_,?_,h.tree,GB⟩
 ·rintro (e | e | e | e | e)
  ·have l0:=bZ 0 (by rw [e];decide)
   rw [if_pos (by omega),e] at aB;have:=same_eq aB;rw [nt_map l0] at this;rw [hP (by omega) 0 l0,this];exact Nat.le_refl _
  ·have l0:=bZ 0 (by rw [e];decide)
   have hl:r.A.length=1:=(by rw [e] at hA;have:partsT.getD (3:Int).toNat 0=1:=rfl;omega);rw [if_pos (by omega),e] at aB;obtain ⟨x,hx⟩:∃ x,r.A=[x]:=List.length_eq_one_iff.1 hl;have ha:aN r 0=x:=(by unfold aN;rw [hx];rfl);rw [hx] at aB;simp [fits,operates,other] at aB;have h2:=same_eq aB.2.2;rw [hP (by omega) 0 l0,ha];rw [h2];exact Nat.le_refl _
  ·have l0:=bZ 0 (by rw [e];decide)
   have hl:r.A.length=2:=(by rw [e] at hA;have:partsT.getD (4:Int).toNat 0=2:=rfl;omega);rw [if_pos (by omega),e] at aB;obtain ⟨x,y,hx⟩:∃ x y,r.A=[x,y]:=by match hh:r.A,hl with | [x,y],_=>exact ⟨x,y,rfl⟩
   have ha:aN r 0=x:=(by unfold aN;rw [hx];rfl);rw [hx] at aB;simp [fits,operates,other] at aB;have h2:=same_eq aB.2.2;rw [hP (by omega) 0 l0,ha];rw [h2];exact Nat.le_refl _
  ·have l0:=bZ 0 (by rw [e];decide)
   rw [if_pos (by omega),e] at aB;simp [fits] at aB;have:=same_eq aB.2;rw [nt_map l0] at this;rw [hP (by omega) 0 l0,this];exact Nat.le_refl _
  ·have l0:=bZ 0 (by rw [e];decide)
   have hl:r.A.length=2:=(by rw [e] at hA;have:partsT.getD (13:Int).toNat 0=2:=rfl;omega);rw [if_pos (by omega),e] at aB;simp [fits] at aB;have:=same_eq aB.2;rw [nt_map l0] at this;have hz:=hn (aN r 0) (by unfold needs;rw [if_pos ⟨e,hl⟩];simp [aN]);unfold pt;rw [hz,this];exact Nat.le_refl _
 ·rintro (e | e | e)
  ·have l1:=bZ 1 (by rw [e];decide)
   have hl:r.A.length=2:=(by rw [e] at hA;have:partsT.getD (4:Int).toNat 0=2:=rfl;omega);rw [if_pos (by omega),e] at aB;obtain ⟨x,y,hx⟩:∃ x y,r.A=[x,y]:=by match hh:r.A,hl with | [x,y],_=>exact ⟨x,y,rfl⟩
   have ha:aN r 1=y:=(by unfold aN;rw [hx];rfl);rw [hx] at aB;simp [fits,operates,other] at aB;have h2:=same_eq aB.2.2;have h3:=same_eq aB.2.1.2;rw [hP (by omega) 1 l1,ha];rw [h2,h3];exact Nat.le_refl _
  ·have l1:=bZ 1 (by rw [e];decide)
   rw [if_pos (by omega),e] at aB;simp [fits] at aB;have:=same_eq aB.2;rw [nt_map l1] at this;rw [hP (by omega) 1 l1,this];exact Nat.le_refl _
  ·have l1:=bZ 1 (by rw [e];decide)
   rw [if_pos (by omega),e] at aB;simp [fits] at aB;have:=same_eq aB.2;rw [nt_map l1] at this;rw [hP (by omega) 1 l1,this];exact Nat.le_refl _
 ·intro e
  have l1:=bZ 1 (by rw [e];decide);have l2:=bZ 2 (by rw [e];decide);rw [if_pos (by omega),e] at aB;simp [fits] at aB;have h1:=same_eq aB.2;have h2:=same_eq aB.1.2;rw [nt_map l1] at h1;rw [nt_map l1,nt_map l2] at h2;rw [hP (by omega) 2 l2,h1,h2];exact Nat.le_refl _
 ·intro e
  have l1:=bZ 1 (by rw [e];decide);rw [hP (by omega) 1 l1];exact cnt_le (vAt_ok hV (by have:=xD _ (aN_mem l1);rwa [hC] at this))
 ·intro e
  have l0:=bZ 0 (by rw [e];decide);rw [if_pos (by omega),e] at aB;simp [fits] at aB;obtain ⟨⟨⟨a1,a2⟩,a3⟩,a4⟩:=aB;rw [nt_map l0] at a1 a2 a4;have h1:=cnt_arr a1;have h2:=cnt_arr (arrOf_eq a2).1;have h3:=cnt_le (vAt_ok hV (by have:=xD _ (aN_mem l0);rwa [hC] at this:0<=aN r 0/\aN r 0<V.length));rw [hP (by omega) 0 l0];omega
 ·intro e
  have l0:=bZ 0 (by rw [e];decide);have l1:=bZ 1 (by rw [e];decide);rw [if_pos (by omega),e] at aB;simp [fits] at aB;obtain ⟨⟨a1,a2⟩,a3⟩:=aB;rw [nt_map l0] at a1;rw [nt_map l1] at a2;have a4:=same_eq a3;rw [nt_map l0,nt_map l1] at a4;have h1:=cnt_arr a1;have h2:=cnt_arr (arrOf_eq a2).1;rw [hP (by omega) 0 l0,hP (by omega) 1 l1,a4];unfold cnt at h1 h2 ⊢;simp only;omega
 ·intro e l hl
  have l0:=bZ 0 (by rw [e];decide);have l1:=bZ 1 (by rw [e];decide);rw [if_pos (by omega),e] at aB;simp [fits] at aB;have h1:=same_eq aB.2;have h2:=same_eq aB.1;rw [nt_map l0] at h1;rw [nt_map l0,nt_map l1] at h2;rw [jK e l hl,h1,h2];exact Nat.le_refl _
 ·rintro (e | e)
  ·rw [if_neg (by omega),e] at aB
   simp [fitsT] at aB;have hm:max 1 (vAt V r.out).n=((cnt (vAt V r.out):Nat):Int):=(by unfold cnt;omega);rw [hm] at aB;exact treeL_fit r.E [] (by rw [aB];exact eo) (hT (by omega))
  ·rw [if_neg (by omega),e] at aB
   simp [fitsT] at aB;have hm:=cnt_arr (arrOf_eq aB.1.2).1;rw [<-hm] at aB;exact treeL_fit r.E [] (by rw [aB.2];exact eo) (hT (by omega))
 ·intro e
  rw [if_neg (by omega),e] at aB;simp [fitsT] at aB;obtain ⟨⟨⟨_,a2⟩,a3⟩,a4⟩:=aB;have hm:r.n=((r.n.toNat:Nat):Int):=(by omega);rw [hm] at a4;exact ⟨⟨a2,a3⟩,treeL_fit r.E [] (by rw [a4];exact eo) (hT (by omega))⟩
end Sk
end Go.Proofs.YtfhghlpfeeiaeaaGreatDoor
namespace Go.Proofs.YtfhghlpfeeiaeaaGreatDoor
open Go.RowKit Go.IntWalk
theorem zBh (b:Bool) (e:Int) (w:World):Calls Tryz.prog 118 #[.bool b,.int .u8 e] w fun r w'=>r=.returned (.int .u8 (Sk.when b e))/\Below w.heap.size w w' :=
 (whenS_any b e w).mono fun _ _ ⟨h1,h2⟩=>⟨h1,h2 ▸ Below.refl _ _⟩
abbrev pv (p:Pu):Value:=.agg #[.int .i64 p.op,.int .i64 p.k,.int .i64 p.v,.int .i64 p.n]
theorem zAA (p:Pu) (w:World):Calls Tryz.prog 116 #[pv p] w fun e w'=>e=.returned (.int .u8 (Sk.madeNum p))/\Below w.heap.size w w':=by
 have b1:Below w.heap.size w (w.alloc (.cells #[.int .i64 p.op,.int .i64 p.k,.int .i64 p.v,.int .i64 p.n] 66 (0,0))):=(Below.refl _ _).alloc zBR _;have kA:=zBO w (.cells #[.int .i64 p.op,.int .i64 p.k,.int .i64 p.v,.int .i64 p.n] 66 (0,0));obtain ⟨R,hR⟩:=nmQ (Sk.madeNum p);rw [<-hR];unfold Sk.madeNum at hR;have bH:=zCq p.n;generalize Sk.truth p.n=q at bH hR;by_cases h0:p.k=0
 ·rw [if_pos h0] at hR
  have e0:(p.k==0)=true:=(by simp [h0]);have HR:=zBK hR;clear hR h0 kA;go_enter Tryz.func116,Tryz.ntmps116;go_wp2;go_ret;exact ⟨by rw [HR.out];rfl,b1⟩
 ·rw [if_neg h0] at hR
  have e0:(p.k==0)=false:=(by simp [h0]);by_cases h1:p.k=1
  ·rw [if_pos h1] at hR
   have e1:(p.k==1)=true:=(by simp [h1]);have HR:=zBK hR;clear hR h0 h1;go_enter Tryz.func116,Tryz.ntmps116;go_upto_region 5 with fail;generalize w.alloc (.cells #[.int .i64 p.op,.int .i64 p.k,.int .i64 p.v,.int .i64 p.n] 66 (0,0))=w1 at b1 kA ⊢;have a3:=coQ kA 3;simp at a3;go_wp2_with fail;refine (bH _).mono ?_;rintro e w2 ⟨rfl,b2⟩;go_wp2_with fail;refine (zBh _ _ _).mono ?_;rintro e w3 ⟨rfl,b3⟩;have B2:=b1.trans (b2.mono b1.size);go_wp2;go_ret;exact ⟨by rw [HR.out];rfl,B2.trans (b3.mono B2.size)⟩
  ·rw [if_neg h1] at hR
   have e1:(p.k==1)=false:=(by simp [h1]);have HR:=zBK hR;clear hR h0 h1 kA;go_enter Tryz.func116,Tryz.ntmps116;go_wp2;go_ret;exact ⟨by rw [HR.out];rfl,b1⟩
theorem zCJ (p:Pu) (v:Sk.Vr) (cells:Int) (eL:0<=cells) (Rh:cells<=300) (iq:0<=v.n) (Ry:v.n<=300) (w:World):Calls Tryz.prog 117 #[pv p,vv v,.int .i64 cells] w fun e w'=>e=.returned (.int .u8 (Sk.madeVar p v cells))/\Below w.heap.size w w':=by
 have b1:Below w.heap.size w ((w.alloc (.cells #[.int .i64 p.op,.int .i64 p.k,.int .i64 p.v,.int .i64 p.n] 66 (0,0))).alloc (.cells #[.int .u8 v.elem,.int .i64 v.n] 39 (0,0))):=((Below.refl _ _).alloc zBR _).alloc (by simp) _;have kA:((w.alloc (.cells #[.int .i64 p.op,.int .i64 p.k,.int .i64 p.v,.int .i64 p.n] 66 (0,0))).alloc (.cells #[.int .u8 v.elem,.int .i64 v.n] 39 (0,0))).heap[w.heap.size]?=some (.cells #[.int .i64 p.op,.int .i64 p.k,.int .i64 p.v,.int .i64 p.n] 66 (0,0)):=(Below.heap_alloc _ _ _ (by simp)).trans (zBO w _);have kB:((w.alloc (.cells #[.int .i64 p.op,.int .i64 p.k,.int .i64 p.v,.int .i64 p.n] 66 (0,0))).alloc (.cells #[.int .u8 v.elem,.int .i64 v.n] 39 (0,0))).heap[w.heap.size+1]?=some (.cells #[.int .u8 v.elem,.int .i64 v.n] 39 (0,0)):=by
  have:=zBO (w.alloc (.cells #[.int .i64 p.op,.int .i64 p.k,.int .i64 p.v,.int .i64 p.n] 66 (0,0))) (.cells #[.int .u8 v.elem,.int .i64 v.n] 39 (0,0))
  simpa using this
 obtain ⟨R,hR⟩:=nmQ (Sk.madeVar p v cells);rw [<-hR];unfold Sk.madeVar at hR;have bH:=zBz v;obtain ⟨q1,bm⟩:=nmQ (Sk.arr v);rw [<-bm] at bH hR;obtain ⟨q3,da⟩:=nmQ (decide (0<=p.n));obtain ⟨q4,fx⟩:=nmQ (decide (p.n<=v.n-cells));rw [<-da,<-fx] at hR;have ja:=zBK da;have qW:=zBK fx;clear bm da fx;by_cases h2:p.op=2
 case pos=>
  rw [if_pos h2] at hR;have e2:(p.op==2)=true:=(by simp [h2]);have HR:=zBK hR;clear hR h2;go_enter Tryz.func117,Tryz.ntmps117;go_upto_region 2 with fail;generalize (w.alloc (.cells #[.int .i64 p.op,.int .i64 p.k,.int .i64 p.v,.int .i64 p.n] 66 (0,0))).alloc (.cells #[.int .u8 v.elem,.int .i64 v.n] 39 (0,0))=w1 at b1 kA kB ⊢;have a0:=coQ kA 0;have a1:=coQ kA 1;have a2:=coQ kA 2;have a3:=coQ kA 3;simp at a0 a1 a2 a3;have yA:=zBM kA;have c0:=coQ kB 0;have c1:=coQ kB 1;simp at c0 c1;have yB:=zBM kB;have aM:=zBK (fun (wz:World) (hSw:Below w1.heap.size w1 wz)=>And.intro ((hSw.cell (p:=⟨w.heap.size,0,none⟩) yA).trans a0) (And.intro ((hSw.cell (p:=⟨w.heap.size,1,none⟩) yA).trans a1) (And.intro ((hSw.cell (p:=⟨w.heap.size,2,none⟩) yA).trans a2) (And.intro ((hSw.cell (p:=⟨w.heap.size,3,none⟩) yA).trans a3) (And.intro ((hSw.cell (p:=⟨w.heap.size+1,0,none⟩) yB).trans c0) ((hSw.cell (p:=⟨w.heap.size+1,1,none⟩) yB).trans c1))))));refine zBP (fun w'=>Below w1.heap.size w1 w') (fun _=>false) (by kernel_rfl) ?_;have ab:Below w1.heap.size w1 w1.drew:=(Below.refl _ _).drew;generalize w1.drew=ag at ab ⊢;refine' tkQ 0 10 ab ?hyv ?o1
  case hyv=>
   intro wz hSw;have bk:=aM.out wz hSw;go_simp
   try rfl
  try simp only [Act.put,sT,sZ,sS]
  refine' tkR 3 13 ab ?o2
  refine' tkQ 4 14 ab ?hyv ?o3
  case hyv=>
   intro wz hSw;have bk:=aM.out wz hSw;go_simp
   try rfl
  try simp only [Act.put,sT,sZ,sS]
  refine tnQ 1 (fun K hK=>?_);go_simp;refine (bH ag).mono ?_;rintro eq aw ⟨rfl,cY⟩;have af:Below w1.heap.size w1 aw:=ab.trans (cY.mono ab.size);refine hK.out _ _ (fun _=>af) ?_;clear hK K
  try simp only [Act.put,sT,sZ,sS]
  refine' tkR 2 12 af ?o4
  refine tnQ 5 (fun K hK=>?_);go_simp;refine (zBh _ _ aw).mono ?_;rintro eq aJ ⟨rfl,dz⟩;have ay:Below w1.heap.size w1 aJ:=af.trans (dz.mono af.size);refine hK.out _ _ (fun _=>ay) ?_;clear hK K
  try simp only [Act.put,sT,sZ,sS]
  refine' tkR 6 6 ay ?o5
  refine zBN (by kernel_rfl) ?_ _;go_wp2;go_ret;exact ⟨by rw [HR.out];rfl,b1.trans (ay.mono b1.size)⟩
 case neg=>
  rw [if_neg h2] at hR;have e2:(p.op==2)=false:=(by simp [h2]);have HR:=zBK hR;clear hR h2;go_enter Tryz.func117,Tryz.ntmps117;go_upto_region 3 with fail;generalize (w.alloc (.cells #[.int .i64 p.op,.int .i64 p.k,.int .i64 p.v,.int .i64 p.n] 66 (0,0))).alloc (.cells #[.int .u8 v.elem,.int .i64 v.n] 39 (0,0))=w1 at b1 kA kB ⊢;have a0:=coQ kA 0;have a1:=coQ kA 1;have a2:=coQ kA 2;have a3:=coQ kA 3;simp at a0 a1 a2 a3;have yA:=zBM kA;have c0:=coQ kB 0;have c1:=coQ kB 1;simp at c0 c1;have yB:=zBM kB;have aM:=zBK (fun (wz:World) (hSw:Below w1.heap.size w1 wz)=>And.intro ((hSw.cell (p:=⟨w.heap.size,0,none⟩) yA).trans a0) (And.intro ((hSw.cell (p:=⟨w.heap.size,1,none⟩) yA).trans a1) (And.intro ((hSw.cell (p:=⟨w.heap.size,2,none⟩) yA).trans a2) (And.intro ((hSw.cell (p:=⟨w.heap.size,3,none⟩) yA).trans a3) (And.intro ((hSw.cell (p:=⟨w.heap.size+1,0,none⟩) yB).trans c0) ((hSw.cell (p:=⟨w.heap.size+1,1,none⟩) yB).trans c1))))));refine zBP (fun w'=>Below w1.heap.size w1 w') (fun _=>false) (by kernel_rfl) ?_;have ab:Below w1.heap.size w1 w1.drew:=(Below.refl _ _).drew;generalize w1.drew=ag at ab ⊢;refine' tkQ 0 16 ab ?hyv ?o6
  case hyv=>
   intro wz hSw;have bk:=aM.out wz hSw;go_simp
   try rfl
  try simp only [Act.put,sT,sZ,sS]
  refine' tkR 16 32 ab ?o7
  refine' tkQ 17 33 ab ?hyv ?o8
  case hyv=>
   intro wz hSw;have bk:=aM.out wz hSw;go_simp
   try rfl
  try simp only [Act.put,sT,sZ,sS]
  refine tnQ 1 (fun K hK=>?_);go_simp;refine (bH ag).mono ?_;rintro eq aw ⟨rfl,cY⟩;have af:Below w1.heap.size w1 aw:=ab.trans (cY.mono ab.size);refine hK.out _ _ (fun _=>af) ?_;clear hK K
  try simp only [Act.put,sT,sZ,sS]
  refine' tkR 2 18 af ?o9
  cases q1
  case false=>
   refine' tsQ 3 19 af ?_
   refine' tsQ 4 20 af ?_
   refine' tsQ 5 21 af ?_
   refine' tkR 6 22 af ?o10
   refine' tkR 7 23 af ?o11
   refine' tsQ 8 24 af ?_
   refine' tsQ 9 25 af ?_
   refine' tsQ 10 26 af ?_
   refine' tsQ 11 27 af ?_
   refine' tsQ 12 28 af ?_
   refine' tsQ 13 29 af ?_
   refine' tsQ 14 30 af ?_
   refine' tkR 15 31 af ?o12
   refine tnQ 18 (fun K hK=>?_);go_simp;refine (zBh _ _ aw).mono ?_;rintro eq aJ ⟨rfl,dz⟩;have ay:Below w1.heap.size w1 aJ:=af.trans (dz.mono af.size);refine hK.out _ _ (fun _=>ay) ?_;clear hK K
   try simp only [Act.put,sT,sZ,sS]
   refine' tkR 19 6 ay ?o13
   refine zBN (by kernel_rfl) ?_ _;go_wp2;go_ret;refine ⟨?_,b1.trans (ay.mono b1.size)⟩;rw [HR.out]
   first | rfl | simp
  case true=>
   refine' tkR 3 19 af ?o14
   refine' tkQ 4 20 af ?hyv ?o15
   case hyv=>
    intro wz hSw;have bk:=aM.out wz hSw;go_simp
    try rfl
   try simp only [Act.put,sT,sZ,sS]
   refine' zBS (i:=5) (oi:=⟨some 21,_,_,_,_,_⟩) (v:=.bool q3) rfl (by kernel_rfl) (by kernel_rfl) (by kernel_rfl) (by kernel_rfl) (fun _ _ _ h=>h) af (by rfl) ?hyv ?o16
   case hyv=>
    intro wz hSw;go_simp;rw [ja.out]
    try rfl
   try simp only [Act.put,sT,sZ,sS]
   refine' tkR 6 22 af ?o17
   refine' tkR 7 23 af ?o18
   cases q3
   case false=>
    refine' tsQ 8 24 af ?_
    refine' tsQ 9 25 af ?_
    refine' tsQ 10 26 af ?_
    refine' tsQ 11 27 af ?_
    refine' tsQ 12 28 af ?_
    refine' tsQ 13 29 af ?_
    refine' tsQ 14 30 af ?_
    refine' tkR 15 31 af ?o19
    refine tnQ 18 (fun K hK=>?_);go_simp;refine (zBh _ _ aw).mono ?_;rintro eq aJ ⟨rfl,dz⟩;have ay:Below w1.heap.size w1 aJ:=af.trans (dz.mono af.size);refine hK.out _ _ (fun _=>ay) ?_;clear hK K
    try simp only [Act.put,sT,sZ,sS]
    refine' tkR 19 6 ay ?o20
    refine zBN (by kernel_rfl) ?_ _;go_wp2;go_ret;refine ⟨?_,b1.trans (ay.mono b1.size)⟩;rw [HR.out]
    first | rfl | simp
   case true=>
    refine' tkR 8 24 af ?o21
    refine' tkQ 9 25 af ?hyv ?o22
    case hyv=>
     intro wz hSw;have bk:=aM.out wz hSw;go_simp
     try rfl
    try simp only [Act.put,sT,sZ,sS]
    refine' tkR 10 26 af ?o23
    refine' tkQ 11 27 af ?hyv ?o24
    case hyv=>
     intro wz hSw;have bk:=aM.out wz hSw;go_simp
     try rfl
    try simp only [Act.put,sT,sZ,sS]
    refine' tkR 12 28 af ?o25
    refine' tkR 13 29 af ?o26
    refine' zBS (i:=14) (oi:=⟨some 30,_,_,_,_,_⟩) (v:=.bool q4) rfl (by kernel_rfl) (by kernel_rfl) (by kernel_rfl) (by kernel_rfl) (fun _ _ _ h=>h) af (by rfl) ?hyv ?o27
    case hyv=>
     intro wz hSw;go_simp;rw [qW.out,wrapS (x:=v.n-cells) (by omega) (by omega)]
    try simp only [Act.put,sT,sZ,sS]
    refine' tkR 15 31 af ?o28
    refine tnQ 18 (fun K hK=>?_);go_simp;refine (zBh _ _ aw).mono ?_;rintro eq aJ ⟨rfl,dz⟩;have ay:Below w1.heap.size w1 aJ:=af.trans (dz.mono af.size);refine hK.out _ _ (fun _=>ay) ?_;clear hK K
    try simp only [Act.put,sT,sZ,sS]
    refine' tkR 19 6 ay ?o29
    refine zBN (by kernel_rfl) ?_ _;go_wp2;go_ret;refine ⟨?_,b1.trans (ay.mono b1.size)⟩;rw [HR.out]
    first | rfl | simp
theorem mul64_1 (w:World):Calls Tryz.prog 134 #[.int .u64 1,.int .u64 1] w fun e w'=>e=.returned (.tuple #[.int .u64 0,.int .u64 1])/\w'=w:=by
 go_enter Tryz.func134,Tryz.ntmps134;go_wp2
 go_ret2
 exact ⟨rfl,rfl⟩
theorem mul_1 (w:World):Calls Tryz.prog 131 #[.int .u64 1,.int .u64 1] w fun e w'=>e=.returned (.tuple #[.int .u64 0,.int .u64 1])/\w'=w:=by
 go_enter Tryz.func131,Tryz.ntmps131;go_wp2_with fail;refine (mul64_1 w).mono ?_;rintro e w1 ⟨rfl,rfl⟩;go_wp2
 go_ret2
 exact ⟨rfl,rfl⟩
theorem mul64_2 (w:World):Calls Tryz.prog 134 #[.int .u64 1,.int .u64 2] w fun e w'=>e=.returned (.tuple #[.int .u64 0,.int .u64 2])/\w'=w:=by
 go_enter Tryz.func134,Tryz.ntmps134;go_wp2
 go_ret2
 exact ⟨rfl,rfl⟩
theorem mul_2 (w:World):Calls Tryz.prog 131 #[.int .u64 1,.int .u64 2] w fun e w'=>e=.returned (.tuple #[.int .u64 0,.int .u64 2])/\w'=w:=by
 go_enter Tryz.func131,Tryz.ntmps131;go_wp2_with fail;refine (mul64_2 w).mono ?_;rintro e w1 ⟨rfl,rfl⟩;go_wp2
 go_ret2
 exact ⟨rfl,rfl⟩
end Go.Proofs.YtfhghlpfeeiaeaaGreatDoor
namespace Go.Proofs.YtfhghlpfeeiaeaaGreatDoor
open Go.RowKit Go.IntWalk
namespace Sk
theorem opT_ok (k:Int):((Kd.opT k).1=0\/(Kd.opT k).1=105\/(Kd.opT k).1=98)/\((Kd.opT k).2.1=0\/(Kd.opT k).2.1=105\/(Kd.opT k).2.1=98)/\((Kd.opT k).2.2=0\/(Kd.opT k).2.2=1\/(Kd.opT k).2.2=2):=by
 have H:∀ t ∈ Kd.opsT,(t.1=0\/t.1=105\/t.1=98)/\(t.2.1=0\/t.2.1=105\/t.2.1=98)/\(t.2.2=0\/t.2.2=1\/t.2.2=2):=(by decide);unfold Kd.opT
 split
 ·decide
 ·unfold Kd.opN
  rw [List.getD_eq_getElem?_getD]
  cases h:Kd.opsT[k.toNat]? with
  | none=>decide
  | some t=>exact H t (List.mem_of_getElem? h)
def By (l:List Int):Prop:=∀ x ∈ l,0<=x/\x<256
theorem vAt_elem {V:List Vr} (h:∀ v ∈ V,VrOk v) (x:Int):(vAt V x).elem=0\/(vAt V x).elem=105\/(vAt V x).elem=98:=by
 unfold vAt;rw [List.getD_eq_getElem?_getD]
 cases e:V[x.toNat]? with
 | none=>exact .inl rfl
 | some t=>exact .inr (h t (List.mem_of_getElem? e)).1
theorem when_by {b:Bool} {e:Int} (h:0<=e/\e<256):0<=when b e/\when b e<256:=by
 unfold when
 split
 ·exact h
 ·omega
theorem effect_by {V:List Vr} (hV:∀ v ∈ V,VrOk v) {p:Pu} {c:Int} {st:List Int} (hs:By st):By (effect V p c st).1/\0<=(effect V p c st).2/\(effect V p c st).2<256:=by
 have hnil:By []:=fun x hx=>by cases hx
 have hv:=vAt_elem hV p.v;unfold effect
 split
 ·refine ⟨hnil,?_⟩
  show 0<=madeNum p/\madeNum p<256
  unfold madeNum
  split
  ·omega
  ·split
   ·exact when_by (by omega)
   ·omega
 ·split
  ·refine ⟨hnil,?_⟩
   show 0<=madeVar p (vAt V p.v) c/\madeVar p (vAt V p.v) c<256
   unfold madeVar
   split
   ·exact when_by (by omega)
   ·exact when_by (by omega)
  ·split
   ·exact ⟨hnil,when_by (by omega)⟩
   ·split
    ·have:=opT_ok p.k
     unfold opEff;refine ⟨fun x hx=>?_,when_by (by omega)⟩;have:=(List.mem_replicate.1 hx).2;omega
    ·split
     ·unfold choice
      cases h:st.getLast? with
      | none=>exact ⟨hnil,by simp⟩
      | some t=>
       have ht:0<=t/\t<256:=hs t (List.mem_of_getLast? h);refine ⟨fun x hx=>?_,ht⟩;simp at hx;omega
     ·split
      ·refine ⟨fun x hx=>?_,when_by (by omega)⟩
       simp at hx;omega
      ·exact ⟨hnil,by simp⟩
theorem take_by {st:List Int} (hs:By st) (n:Nat):By (st.take n):=fun x hx=>hs x (List.mem_of_mem_take hx)
theorem push_by {st:List Int} (hs:By st) {e:Int} (he:0<=e/\e<256):By (st++[e]):=by
 intro x hx;rcases List.mem_append.1 hx with q | q
 ·exact hs x q
 ·simp at q
  omega
theorem effect_len {V:List Vr} {p:Pu} {c:Int} {st:List Int}:(effect V p c st).1.length<=3:=by
 unfold effect
 split
 ·simp
 ·split
  ·simp
  ·split
   ·simp
   ·split
    ·have:=opT_ok p.k
     unfold opEff;rw [List.length_replicate];omega
    ·split
     ·unfold choice
      split<;>simp
     ·split<;>simp
end Sk
end Go.Proofs.YtfhghlpfeeiaeaaGreatDoor
