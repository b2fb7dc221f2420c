import Derived.Test.YtnhmcpnbaajjcaaGreatDoorC16
set_option linter.unusedVariables false
set_option linter.unusedSimpArgs false
set_option maxHeartbeats 64000000
set_option maxRecDepth 100000
namespace Go.Proofs.YtnhmcpnbaajjcaaGreatDoor
open Go.RowKit Go.IntWalk
namespace Sk
theorem Okay.perm {S:Sys} (h:Okay S) {R':List Ru} (p:S.R.Perm R'):Okay { S with R:=R' } where
 nV:=h.nV
 nI:=h.nI
 nO:=h.nO
 nR:=by show R'.length≤400;rw [←p.length_eq];exact h.nR
 vars:=h.vars
 ins:=h.ins
 insN:=h.insN
 outs:=h.outs
 rules:=fun r hr=>h.rules r (p.mem_iff.2 hr)
 rulesN:=(p.map (·.out)).nodup_iff.1 h.rulesN
 used:=fun r hr z hz=>(h.used r (p.mem_iff.2 hr) z hz).imp id fun q=>(p.map (·.out)).mem_iff.1 q
 told:=fun x hx=>(h.told x hx).imp id fun q=>(p.map (·.out)).mem_iff.1 q
def needs (r:Ru):List Int:=if r.op=13∧r.A.length=2 then [r.A.getD 0 0] else uses r
def canC (N:List (List Int)) (m:List Bool) (j:Nat):Bool := !((N.getD j []).any fun x => !(m.getD x.toNat false))
def takeF (N:List (List Int)) (outs:List Int):Nat→List Bool→List Nat→List Nat→List Nat × List Bool × List Nat
 | 0,m,left,tk=>(tk,m,left)
 | f+1,m,left,tk=>match left.find? (canC N m) with
  | none=>(tk,m,left)
  | some j=>takeF N outs f (m.set (outs.getD j 0).toNat true) (left.filter (· != j)) (tk++[j])
def inM (S:Sys):List Bool:=S.I.foldl (fun m x=>m.set x.toNat true) (List.replicate S.V.length false)
def turns (S:Sys):List Nat × List Bool × List Nat:=takeF (S.R.map needs) (S.R.map Ru.out) S.R.length (inM S) (List.range S.R.length) []
def noRu:Ru:=⟨0,0,0,0,[],[]⟩
def sortS (S:Sys):Sys:={ S with R:=(turns S).1.map fun j=>S.R.getD j noRu }
def sortF (S:Sys):Int × Int:=if check S≠(0,0) then check S else match (turns S).2.2 with
 | []=>(0,0)
 | j :: _=>(15,(j:Int))
def Ahead (S:Sys):Prop:=∀ i (h:i<S.R.length),∀ z ∈ needs S.R[i],z ∈ S.I∨z ∈ (S.R.take i).map (·.out)
theorem inM_made {n:Nat}:∀ (I:List Int) {m:List Bool} {L:List Int},MadeBy m n L→(∀ x ∈ I,0≤x∧x<(n:Int))→MadeBy (I.foldl (fun m x=>m.set x.toNat true) m) n (L++I)
 | [],m,L,h,_=>by simpa using h
 | x :: r,m,L,h,hr=>by
  have:=inM_made r (h.set (hr x (by simp))) fun y hy=>hr y (by simp [hy])
  simpa using this
theorem length_filter_ne {left:List Nat} (hn:left.Nodup) {j:Nat} (hj:j ∈ left):(left.filter (· != j)).length+1=left.length:=by
 induction left with
 | nil=>cases hj
 | cons x r ih=>
  rw [List.nodup_cons] at hn;by_cases e:x=j
  ·subst e
   rw [List.filter_cons_of_neg (by simp)];have:r.filter (· != x)=r:=List.filter_eq_self.2 fun y hy=>by
    have:y≠x:=fun q=>hn.1 (q ▸ hy)
    simpa using this
   rw [this,List.length_cons]
  ·rw [List.filter_cons_of_pos (by simpa using e),List.length_cons,List.length_cons]
   have hj2:j ∈ r:=by
    rcases List.mem_cons.1 hj with q | q
    ·exact absurd q.symm e
    ·exact q
   have:=ih hn.2 hj2;omega
theorem perm_filter_ne {left:List Nat} (hn:left.Nodup) {j:Nat} (hj:j ∈ left):left.Perm (j :: left.filter (· != j)):=by
 induction left with
 | nil=>cases hj
 | cons x r ih=>
  rw [List.nodup_cons] at hn;by_cases e:x=j
  ·subst e
   rw [List.filter_cons_of_neg (by simp)];have:r.filter (· != x)=r:=List.filter_eq_self.2 fun y hy=>by
    have:y≠x:=fun q=>hn.1 (q ▸ hy)
    simpa using this
   rw [this]
  ·rw [List.filter_cons_of_pos (by simpa using e)]
   have hj2:j ∈ r:=by
    rcases List.mem_cons.1 hj with q | q
    ·exact absurd q.symm e
    ·exact q
   exact ((ih hn.2 hj2).cons x).trans (List.Perm.swap _ _ _)
structure Taken (S:Sys) (m:List Bool) (left tk:List Nat):Prop where
 perm:(tk++left).Perm (List.range S.R.length)
 made:MadeBy m S.V.length (S.I++tk.map fun j=>(S.R.getD j noRu).out)
 ahead:∀ i (h:i<tk.length),∀ z ∈ needs (S.R.getD tk[i] noRu),z ∈ S.I∨z ∈ (tk.take i).map fun j=>(S.R.getD j noRu).out
theorem needs_uses {r:Ru} {V:List Vr} (h:RuOk V r) {z:Int} (hz:z ∈ needs r) (hu:∀ y ∈ r.A,y ∈ uses r):z ∈ uses r:=by
 unfold needs at hz
 split at hz
 case isTrue e=>
  simp at hz;subst hz
  apply hu
  have:0<r.A.length:=(by omega);rw [List.getElem?_eq_getElem this];exact List.getElem_mem _
 case isFalse=>exact hz
theorem getD_map {α β:Type} {f:α→β} {d:α} {e:β} {l:List α} {j:Nat} (h:j<l.length):(l.map f).getD j e=f (l.getD j d):=by
 simp [List.getD_eq_getElem?_getD,h]
theorem Taken.step {S:Sys} (ok:Okay S) (hu:∀ r ∈ S.R,∀ z ∈ needs r,0≤z∧z<S.V.length) {m:List Bool} {left tk:List Nat} (h:Taken S m left tk) {j:Nat} (hj:left.find? (canC (S.R.map needs) m)=some j) :
  j ∈ left∧left.Nodup∧j<S.R.length∧Taken S (m.set ((S.R.map Ru.out).getD j 0).toNat true) (left.filter (· != j)) (tk++[j]):=by
 have hjm:j ∈ left:=List.mem_of_find?_eq_some hj;have hcan:canC (S.R.map needs) m j=true:=List.find?_some hj;have hnd:(tk++left).Nodup:=h.perm.nodup_iff.2 List.nodup_range;have hln:left.Nodup:=(List.nodup_append.1 hnd).2.1;have hjl:j<S.R.length:=by
  have:=(h.perm.mem_iff (a:=j)).1 (by simp [hjm])
  simpa using this
 have hr:S.R.getD j noRu ∈ S.R:=by
  rw [List.getD_eq_getElem?_getD,List.getElem?_eq_getElem hjl];exact List.getElem_mem _
 have e1:(S.R.map Ru.out).getD j 0=(S.R.getD j noRu).out:=getD_map hjl;have e2:(S.R.map needs).getD j []=needs (S.R.getD j noRu):=getD_map hjl;refine ⟨hjm,hln,hjl,?_,?_,?_⟩
 ·rw [List.append_assoc,List.singleton_append]
  exact ((perm_filter_ne hln hjm).symm.append_left tk).trans h.perm
 ·rw [e1]
  have:=h.made.set (ok.rules _ hr).1.1
  simpa using this
 ·intro i hi z hz
  by_cases e:i<tk.length
  ·have e3:(tk++[j])[i]=tk[i]:=List.getElem_append_left e
   rw [e3] at hz;have:=h.ahead i e z hz
   rwa [List.take_append_of_le_length (by omega)]
  ·have e4:i=tk.length:=by simp at hi;omega
   subst e4;have e3:(tk++[j])[tk.length]=j:=(by simp);rw [e3] at hz;unfold canC at hcan;rw [e2] at hcan;have hc2:(needs (S.R.getD j noRu)).any (fun x => !(m.getD x.toNat false))=false:=(by simpa using hcan);rw [List.any_eq_false] at hc2;have hz2:m.getD z.toNat false=true:=(by simpa using hc2 z hz);have:=(h.made.at (hu _ hr z hz)).1 hz2;rw [List.take_left']
   ·simpa using this
   ·rfl
theorem takeF_taken {S:Sys} (ok:Okay S) (hu:∀ r ∈ S.R,∀ z ∈ needs r,0≤z∧z<S.V.length):∀ (f:Nat) {m:List Bool} {left tk:List Nat},Taken S m left tk→Taken S (takeF (S.R.map needs) (S.R.map Ru.out) f m left tk).2.1 (takeF (S.R.map needs) (S.R.map Ru.out) f m left tk).2.2 (takeF (S.R.map needs) (S.R.map Ru.out) f m left tk).1
 | 0,m,left,tk,h=>h
 | f+1,m,left,tk,h=>by
  unfold takeF
  cases hf:left.find? (canC (S.R.map needs) m) with
  | none=>exact h
  | some j=>exact takeF_taken ok hu f (h.step ok hu hf).2.2.2
theorem taken_start {S:Sys} (ok:Okay S):Taken S (inM S) (List.range S.R.length) []:=by
 refine ⟨by simp,?_,fun i hi=>absurd hi (Nat.not_lt_zero _)⟩;have:=inM_made S.I (MadeBy.start S.V.length) ok.ins
 simpa [inM] using this
theorem turns_taken {S:Sys} (ok:Okay S) (hu:∀ r ∈ S.R,∀ z ∈ needs r,0≤z∧z<S.V.length):Taken S (turns S).2.1 (turns S).2.2 (turns S).1:=takeF_taken ok hu _ (taken_start ok)
theorem map_range_self (R:List Ru):(List.range R.length).map (fun j=>R.getD j noRu)=R:=by
 apply List.ext_getElem
 ·simp
 ·intro i h1 h2
  simp [h2]
theorem sort_perm {S:Sys} (ok:Okay S) (hu:∀ r ∈ S.R,∀ z ∈ needs r,0≤z∧z<S.V.length) (hl:(turns S).2.2=[]):S.R.Perm (sortS S).R:=by
 have h:=turns_taken ok hu;rw [hl] at h;have hp:(turns S).1.Perm (List.range S.R.length):=(by have:=h.perm;simpa using this);have:=(hp.map fun j=>S.R.getD j noRu).symm
 rwa [map_range_self] at this
theorem sort_okay {S:Sys} (ok:Okay S) (hu:∀ r ∈ S.R,∀ z ∈ needs r,0≤z∧z<S.V.length) (hl:(turns S).2.2=[]):Okay (sortS S):=ok.perm (sort_perm ok hu hl)
theorem sort_ahead {S:Sys} (ok:Okay S) (hu:∀ r ∈ S.R,∀ z ∈ needs r,0≤z∧z<S.V.length) (hl:(turns S).2.2=[]):Ahead (sortS S):=by
 have h:=turns_taken ok hu;intro i hi z hz;have hi2:i<(turns S).1.length:=(by simpa [sortS] using hi);have e1:(sortS S).R[i]=S.R.getD (turns S).1[i] noRu:=(by simp [sortS]);rw [e1] at hz;have:=h.ahead i hi2 z hz;have e2:((sortS S).R.take i).map (·.out)=((turns S).1.take i).map fun j=>(S.R.getD j noRu).out:=(by simp [sortS,List.map_take,Function.comp_def]);rw [e2];exact this
end Sk
end Go.Proofs.YtnhmcpnbaajjcaaGreatDoor
namespace Go.Proofs.YtnhmcpnbaajjcaaGreatDoor
open Go.RowKit Go.IntWalk
theorem mem_compactI {l:List Int} {z:Int}:z ∈ Lib.compact l↔z ∈ l:=by
 unfold Lib.compact Lib.compactUpTo
 constructor
 ·intro h
  obtain ⟨j,hj,e⟩:=List.mem_map.1 h;have hj2:j<l.length:=(by simpa using (List.mem_filter.1 hj).1);rw [←e];have:l.toArray[j]! = l[j]:=(by simp [hj2]);rw [this];exact List.getElem_mem _
 ·intro h
  obtain ⟨i,hi,e⟩:=List.mem_iff_getElem.1 h;have key:∀ n i (hi:i<l.length),i≤n→l[i]=z→z ∈ ((List.range l.length).filter (Lib.keeps l.toArray)).map (l.toArray[·]!):=by
   intro n
   induction n with
   | zero=>
    intro i hi h0 e;obtain rfl:i=0:=by omega
    refine List.mem_map.2 ⟨0,List.mem_filter.2 ⟨by simpa using hi,by simp [Lib.keeps]⟩,?_⟩;simp [hi,e]
   | succ n ih=>
    intro i hi h0 e;by_cases hk:Lib.keeps l.toArray i=true
    ·refine List.mem_map.2 ⟨i,List.mem_filter.2 ⟨by simpa using hi,hk⟩,?_⟩
     simp [hi,e]
    ·have hk2:¬(i=0∨l.toArray[i]! ≠ l.toArray[i-1]!):=by simpa [Lib.keeps] using hk
     have hi0:i≠0:=fun q=>hk2 (.inl q);have heq:l.toArray[i]! = l.toArray[i-1]! := Decidable.byContradiction fun q=>hk2 (.inr q);have hi1:i-1<l.length:=(by omega);refine ih (i-1) hi1 (by omega) ?_;have e1:l.toArray[i]! = l[i]:=(by simp [hi]);have e2:l.toArray[i-1]! = l[i-1]:=(by simp [hi1]);rw [←e2,←heq,e1,e]
  exact key i i hi nR e
theorem mem_usesT {A:List Int} {E:List Pu} {z:Int}:z ∈ usesT A E↔z ∈ A∨∃ p ∈ E,nmd p=true∧z=p.v:=by
 unfold usesT usesL;rw [mem_compactI,(List.mergeSort_perm _ _).mem_iff,List.mem_append,List.mem_map]
 constructor
 ·rintro (h | ⟨p,hp,e⟩)
  ·exact .inl h
  ·obtain ⟨h1,h2⟩:=List.mem_filter.1 hp
   exact .inr ⟨p,h1,h2,e.symm⟩
 ·rintro (h | ⟨p,hp,h2,e⟩)
  ·exact .inl h
  ·exact .inr ⟨p,List.mem_filter.2 ⟨hp,h2⟩,e.symm⟩
end Go.Proofs.YtnhmcpnbaajjcaaGreatDoor
namespace Go.Proofs.YtnhmcpnbaajjcaaGreatDoor
open Go.RowKit Go.IntWalk
namespace Sk
def cnt (v:Vr):Nat:=(max 1 v.n).toNat
def cAt (C:List (List Int)) (x:Int):List Int:=C.getD x.toNat []
def takesN (op:Int):Nat:=if op=5 then 1 else if op=6∨op=8 then 2 else if op=7 then 3 else 0
def cellAt (l:List Int) (p o:Int):Int:=if p<0∨(l.length:Int)≤p then o else l.getD p.toNat 0
def stepV (C:List (List Int)) (p:Pu) (tk:List Int) (k:Nat):Int :=
 if p.op=2 then (cAt C p.v).getD 0 0
 else if p.op=3 then (cAt C p.v).getD (k+p.n.toNat) 0
 else if p.op=4 then (k:Int)+p.n
 else if p.op=5 then apT p.k (tk.getD 0 0) 0
 else if p.op=6 then apT p.k (tk.getD 0 0) (tk.getD 1 0)
 else if p.op=7 then (if tk.getD 0 0≠0 then tk.getD 1 0 else tk.getD 2 0)
 else if p.op=8 then cellAt (cAt C p.v) (tk.getD 0 0) (tk.getD 1 0)
 else p.n
def treeV (C:List (List Int)) (k:Nat):List Int→List Pu→Int
 | st,[]=>st.getD 0 0
 | st,p :: r=>treeV C k (st.take (st.length-takesN p.op)++[stepV C p (st.drop (st.length-takesN p.op)) k]) r
def foldV (K:Int) (g:Nat→Int) (v:Int):Nat→Int
 | 0=>v
 | n+1=>apT K (foldV K g v n) (g n)
def aN (r:Ru) (i:Nat):Int:=r.A.getD i 0
def pt (C:List (List Int)) (r:Ru) (i:Nat):List Int:=cAt C (aN r i)
def sca (C:List (List Int)) (r:Ru) (i:Nat):Int:=(pt C r i).getD 0 0
def evalG (C:List (List Int)) (ah:Int→Option (List Int)) (r:Ru) (k:Nat):Int :=
 if r.op=1 then r.n
 else if r.op=2 then (pt C r 0).getD k 0
 else if r.op=3 then apT r.k ((pt C r 0).getD k 0) 0
 else if r.op=4 then apT r.k ((pt C r 0).getD k 0) ((pt C r 1).getD k 0)
 else if r.op=5 then (if sca C r 0≠0 then (pt C r 1).getD k 0 else (pt C r 2).getD k 0)
 else if r.op=6 then foldV r.k (fun i=>(pt C r 1).getD i 0) (sca C r 0) (pt C r 1).length
 else if r.op=7 then foldV r.k (fun i=>(pt C r 1).getD i 0) (sca C r 0) (k+1)
 else if r.op=8 then sca C r 0
 else if r.op=9 then cellAt (pt C r 0) (sca C r 1) (sca C r 2)
 else if r.op=10 then (if (k:Int)=sca C r 1 then sca C r 2 else (pt C r 0).getD k 0)
 else if r.op=11 then (pt C r 0).getD (r.n.toNat+k) 0
 else if r.op=12 then (if k<(pt C r 0).length then (pt C r 0).getD k 0 else (pt C r 1).getD (k-(pt C r 0).length) 0)
 else if r.op=13 then ((ah (aN r 1)).getD (pt C r 0)).getD k 0
 else if r.op=15 then foldV r.k (fun i=>treeV C i [] r.E) (sca C r 0) r.n.toNat
 else if r.op=16 then foldV r.k (fun i=>treeV C i [] r.E) (sca C r 0) (k+1)
 else treeV C k [] r.E
def evalR (V:List Vr) (C:List (List Int)) (ah:Int→Option (List Int)) (r:Ru):List Int:=(List.range (cnt (vAt V r.out))).map (evalG C ah r)
def runR (V:List Vr) (ah:Int→Option (List Int)):List (List Int)→List Ru→List (List Int)
 | C,[]=>C
 | C,r :: l=>runR V ah (C.set r.out.toNat (evalR V C ah r)) l
def noTruth (n:Int):Bool:=(n != 0)&&(n != 1)
def width (V:List Vr):List Int→Nat
 | []=>0
 | x :: r=>(if 0≤x∧x<V.length then cnt (vAt V x) else 0)+width V r
def takeV (V:List Vr) (inp:List Int):Nat→List Int→List (List Int)→(Int × Int) × List (List Int)
 | _,[],C=>((0,0),C)
 | at_,x :: r,C=>if (vAt V x).elem=98∧((inp.drop at_).take (cnt (vAt V x))).any noTruth=true then ((17,((at_+((inp.drop at_).take (cnt (vAt V x))).findIdx noTruth:Nat):Int)),C)
  else takeV V inp (at_+cnt (vAt V x)) r (C.set x.toNat ((inp.drop at_).take (cnt (vAt V x))))
def putA (f:Int→Option (List Int)) (x:Int) (l:List Int):Int→Option (List Int):=fun y=>if y=x then some l else f y
def keepF (C:List (List Int)):(Int→Option (List Int))→List Ru→Int→Option (List Int)
 | f,[]=>f
 | f,r :: l=>keepF C (if r.op=13 then putA f (aN r 1) (cAt C (aN r 1)) else f) l
def toldL (C:List (List Int)) (O:List Int):List Int:=(O.map (cAt C)).flatten
def rowT (S:Sys) (ah:Int→Option (List Int)) (inp:List Int):(List Int × (Int × Int)) × (Int→Option (List Int)) :=
 if inp.length≠width S.V S.I then (([],(17,-1)),ah)
 else if (takeV S.V inp 0 S.I (List.replicate S.V.length [])).1.1≠0 then (([],(takeV S.V inp 0 S.I (List.replicate S.V.length [])).1),ah)
 else ((toldL (runR S.V ah (takeV S.V inp 0 S.I (List.replicate S.V.length [])).2 S.R) S.O,(0,0)),keepF (runR S.V ah (takeV S.V inp 0 S.I (List.replicate S.V.length [])).2 S.R) (fun _=>none) S.R)
structure StepFit (C:List (List Int)) (n:Nat) (p:Pu):Prop where
 f2:p.op=2→(0≤p.v∧p.v<C.length)∧0<(cAt C p.v).length
 f3:p.op=3→(0≤p.v∧p.v<C.length)∧0≤p.n∧p.n+n≤(cAt C p.v).length
 f4:p.op=4 → -1000000≤p.n∧p.n≤1000000
 f8:p.op=8→(0≤p.v∧p.v<C.length)
def fitT (C:List (List Int)) (n:Nat):Nat→List Pu→Prop
 | h,[]=>0<h
 | h,p :: r=>takesN p.op≤h∧StepFit C n p∧fitT C n (h-takesN p.op+1) r
theorem when_ne {b:Bool} {e:Int} (h:when b e≠0):b=true:=by
 unfold when at h
 split at h
 ·assumption
 ·exact absurd rfl h
theorem effect_takes {V:List Vr} {p:Pu} {cells:Int} {st:List Int} (h:(effect V p cells st).2≠0):(effect V p cells st).1.length=takesN p.op:=by
 unfold effect at h ⊢;unfold takesN
 split
 case isTrue e=>rw [e];rfl
 case isFalse e1=>
 rw [if_neg e1] at h
 split
 case isTrue e=>
  have h5:¬p.op=5:=(by omega);have h6:¬(p.op=6∨p.op=8):=(by omega);have h7:¬p.op=7:=(by omega);rw [if_neg h5,if_neg h6,if_neg h7];rfl
 case isFalse e2=>
 rw [if_neg e2] at h
 split
 case isTrue e=>rw [e];rfl
 case isFalse e3=>
 rw [if_neg e3] at h
 split
 case isTrue e=>
  rw [if_pos e] at h;unfold opEff at h ⊢;have hw:=when_ne h;simp at hw;rw [List.length_replicate];rcases hw with ⟨a,b⟩ | ⟨a,b⟩
  ·rw [a,b];rfl
  ·rw [a,b];rfl
 case isFalse e4=>
 rw [if_neg e4] at h
 split
 case isTrue e=>
  rw [if_pos e] at h;rw [e];unfold choice at h ⊢
  cases hl:st.getLast? with
  | none=>rw [hl] at h;exact absurd rfl h
  | some t=>rfl
 case isFalse e5=>
 rw [if_neg e5] at h
 split
 case isTrue e=>rw [e];rfl
 case isFalse e6=>rw [if_neg e6] at h;exact absurd rfl h
theorem cnt_pos (v:Vr):0<cnt v:=by unfold cnt;omega
theorem cnt_arr {v:Vr} (h:arr v=true):(cnt v:Int)=v.n:=by
 unfold arr at h;simp at h;unfold cnt;omega
theorem effect_fit {V:List Vr} {C:List (List Int)} {p:Pu} {n:Nat} {st:List Int} (h:(effect V p n st).2≠0) (hc:nmd p=true→(0≤p.v∧p.v<C.length)∧(cAt C p.v).length=cnt (vAt V p.v)):StepFit C n p:=by
 refine ⟨fun e=>?_,fun e=>?_,fun e=>?_,fun e=>?_⟩
 ·have:=hc (by unfold nmd;rw [e];rfl)
  exact ⟨this.1,by rw [this.2];exact cnt_pos _⟩
 ·have hh:=hc (by unfold nmd;rw [e];rfl)
  unfold effect at h;rw [if_neg (by omega),if_pos (by omega)] at h;unfold madeVar at h;rw [if_neg (by omega)] at h;have:=when_ne h;simp at this;have ha:=cnt_arr this.1.1;refine ⟨hh.1,this.1.2,?_⟩;rw [hh.2,ha];omega
 ·unfold effect at h
  rw [if_neg (by omega),if_neg (by omega),if_pos e] at h;have:=when_ne h
  simpa using this
 ·exact (hc (by unfold nmd;rw [e];rfl)).1
theorem treeL_fit {V:List Vr} {C:List (List Int)} {n:Nat}:∀ (E:List Pu) (st:List Int),treeL V n st E≠0→(∀ p ∈ E,nmd p=true→(0≤p.v∧p.v<C.length)∧(cAt C p.v).length=cnt (vAt V p.v))→fitT C n st.length E
 | [],st,h,_=>by
  unfold treeL at h;unfold fitT
  split at h
  ·omega
  ·exact absurd rfl h
 | p :: r,st,h,hc=>by
  unfold treeL at h;unfold fitT
  split at h
  ·exact absurd rfl h
  ·rename_i hn
   have hn1:(effect V p n st).2≠0:=fun q=>hn (.inl q);have hn2:ends st (effect V p n st).1=true:=by
    cases q:ends st (effect V p n st).1
    ·exact absurd (.inr q) hn
    ·rfl
   have ht:=effect_takes hn1;have hle:takesN p.op≤st.length:=by
    unfold ends at hn2;simp at hn2;omega
   refine ⟨hle,effect_fit hn1 (hc p (by simp)),?_⟩;have:=treeL_fit r _ h fun q hq=>hc q (by simp [hq]);simp only [List.length_append,List.length_take,List.length_singleton] at this;rw [ht] at this;have e:min (st.length-takesN p.op) st.length=st.length-takesN p.op:=(by omega)
   rwa [e] at this
structure RFit (V:List Vr) (C:List (List Int)) (ah:Int→Option (List Int)) (r:Ru):Prop where
 out:0≤r.out∧r.out<V.length
 op:1≤r.op∧r.op≤16
 nA:(r.A.length:Int)=partsT.getD r.op.toNat 0
 rng:∀ z ∈ r.A,0≤z∧z<C.length
 one:r.op≠13→∀ z ∈ r.A,0<(cAt C z).length
 f2:r.op=2∨r.op=3∨r.op=4∨r.op=10∨r.op=13→cnt (vAt V r.out)≤(pt C r 0).length
 f4:r.op=4∨r.op=5∨r.op=7→cnt (vAt V r.out)≤(pt C r 1).length
 f5:r.op=5→cnt (vAt V r.out)≤(pt C r 2).length
 f6:r.op=6→(pt C r 1).length≤300
 f11:r.op=11→0≤r.n∧r.n+cnt (vAt V r.out)≤(pt C r 0).length∧r.n≤300
 f12:r.op=12→cnt (vAt V r.out)≤(pt C r 0).length+(pt C r 1).length
 f13:r.op=13→∀ l,ah (aN r 1)=some l→cnt (vAt V r.out)≤l.length
 f14:r.op=14∨r.op=16→fitT C (cnt (vAt V r.out)) 0 r.E
 f15:r.op=15→(1≤r.n∧r.n≤300)∧fitT C r.n.toNat 0 r.E
 tree:(ownE r.op r.E).length≤24
 sz:cnt (vAt V r.out)≤300
theorem same_eq {a b:Vr} (h:same a b=true):a=b:=by
 unfold same at h;simp at h;obtain ⟨a1,a2⟩:=a;obtain ⟨b1,b2⟩:=b;simp at h;rw [h.1,h.2]
theorem nt_map {V:List Vr} {r:Ru} {i:Nat} (h:i<r.A.length):nt (r.A.map (vAt V)) i=vAt V (aN r i):=by
 unfold nt aN;simp [List.getD_eq_getElem?_getD,h]
theorem aN_mem {r:Ru} {i:Nat} (h:i<r.A.length):aN r i ∈ r.A:=by
 unfold aN;rw [List.getD_eq_getElem?_getD,List.getElem?_eq_getElem h];exact List.getElem_mem _
theorem vAt_ok {V:List Vr} (h:∀ v ∈ V,VrOk v) {x:Int} (hx:0≤x∧x<V.length):VrOk (vAt V x):=by
 unfold vAt;have:x.toNat<V.length:=(by omega);rw [List.getD_eq_getElem?_getD,List.getElem?_eq_getElem this];exact h _ (List.getElem_mem _)
theorem cnt_le {v:Vr} (h:VrOk v):cnt v≤300:=by
 have:=h.2;unfold cnt;omega
theorem arrOf_eq {v c:Vr} (h:arrOf v c=true):arr v=true∧c=sc v.elem:=by
 unfold arrOf at h;simp at h;exact ⟨h.1,(same_eq h.2).symm⟩
theorem uses_A {r:Ru} {z:Int} (h:z ∈ r.A):z ∈ uses r:=mem_usesT.2 (.inl h)
theorem rfit_of {V:List Vr} {C:List (List Int)} {ah:Int→Option (List Int)} {r:Ru} (hV:∀ v ∈ V,VrOk v) (hC:C.length=V.length) (ho:0≤r.out∧r.out<V.length) (h:RuOk V r) (hn:∀ z ∈ needs r,(cAt C z).length=cnt (vAt V z)) (hah:r.op=13→∀ l,ah (aN r 1)=some l→l.length=cnt (vAt V (aN r 1))):RFit V C ah r:=by
 have hform:=h.form;unfold hasForm at hform;rw [Bool.and_eq_true,Bool.and_eq_true,decide_eq_true_iff,decide_eq_true_iff,beq_iff_eq] at hform;obtain ⟨⟨ho1,ho2⟩,hA⟩:=hform;have hrng:∀ z ∈ r.A,0≤z∧z<C.length:=fun z hz=>by rw [hC];exact h.uses z (uses_A hz)
 have hN:r.op≠13→∀ z ∈ uses r,(cAt C z).length=cnt (vAt V z):=by
  intro q z hz;refine hn z ?_;unfold needs;rw [if_neg (fun e=>q e.1)];exact hz
 have hP:r.op≠13→∀ i,i<r.A.length→(pt C r i).length=cnt (vAt V (aN r i)):=fun q i hi=>hN q _ (uses_A (aN_mem hi));have hfit:=h.fit;have hT:14≤r.op→∀ p ∈ r.E,nmd p=true→(0≤p.v∧p.v<C.length)∧(cAt C p.v).length=cnt (vAt V p.v):=by
  intro q p hp hnm;have hu:p.v ∈ uses r:=mem_usesT.2 (.inr ⟨p,by unfold ownE;rw [if_neg (by omega)];exact hp,hnm,rfl⟩);exact ⟨by rw [hC];exact h.uses _ hu,hN (by omega) _ hu⟩
 have hel:(vAt V r.out).elem≠0:=by
  have:=(vAt_ok hV ho).1;omega
 have hcnt:=cnt_le (vAt_ok hV ho);have lenA:∀ i:Nat,(i:Int)<partsT.getD r.op.toNat 0→i<r.A.length:=(by intro i hi;omega);unfold fitsR at hfit;refine ⟨ho,⟨ho1,ho2⟩,hA,hrng,fun q z hz=>by rw [hN q z (uses_A hz)];exact cnt_pos _,?_,?_,?_,?_,?_,?_,?_,?_,?_,h.tree,hcnt⟩
 ·rintro (e | e | e | e | e)
  ·have l0:=lenA 0 (by rw [e];decide)
   rw [if_pos (by omega),e] at hfit;have:=same_eq hfit;rw [nt_map l0] at this;rw [hP (by omega) 0 l0,this];exact Nat.le_refl _
  ·have l0:=lenA 0 (by rw [e];decide)
   have hl:r.A.length=1:=(by rw [e] at hA;have:partsT.getD (3:Int).toNat 0=1:=rfl;omega);rw [if_pos (by omega),e] at hfit;obtain ⟨x,hx⟩:∃ x,r.A=[x]:=List.length_eq_one_iff.1 hl;have ha:aN r 0=x:=(by unfold aN;rw [hx];rfl);rw [hx] at hfit;simp [fits,operates,other] at hfit;have h2:=same_eq hfit.2.2;rw [hP (by omega) 0 l0,ha];rw [h2];exact Nat.le_refl _
  ·have l0:=lenA 0 (by rw [e];decide)
   have hl:r.A.length=2:=(by rw [e] at hA;have:partsT.getD (4:Int).toNat 0=2:=rfl;omega);rw [if_pos (by omega),e] at hfit;obtain ⟨x,y,hx⟩:∃ x y,r.A=[x,y]:=by match hh:r.A,hl with | [x,y],_=>exact ⟨x,y,rfl⟩
   have ha:aN r 0=x:=(by unfold aN;rw [hx];rfl);rw [hx] at hfit;simp [fits,operates,other] at hfit;have h2:=same_eq hfit.2.2;rw [hP (by omega) 0 l0,ha];rw [h2];exact Nat.le_refl _
  ·have l0:=lenA 0 (by rw [e];decide)
   rw [if_pos (by omega),e] at hfit;simp [fits] at hfit;have:=same_eq hfit.2;rw [nt_map l0] at this;rw [hP (by omega) 0 l0,this];exact Nat.le_refl _
  ·have l0:=lenA 0 (by rw [e];decide)
   have hl:r.A.length=2:=(by rw [e] at hA;have:partsT.getD (13:Int).toNat 0=2:=rfl;omega);rw [if_pos (by omega),e] at hfit;simp [fits] at hfit;have:=same_eq hfit.2;rw [nt_map l0] at this;have hz:=hn (aN r 0) (by unfold needs;rw [if_pos ⟨e,hl⟩];simp [aN]);unfold pt;rw [hz,this];exact Nat.le_refl _
 ·rintro (e | e | e)
  ·have l1:=lenA 1 (by rw [e];decide)
   have hl:r.A.length=2:=(by rw [e] at hA;have:partsT.getD (4:Int).toNat 0=2:=rfl;omega);rw [if_pos (by omega),e] at hfit;obtain ⟨x,y,hx⟩:∃ x y,r.A=[x,y]:=by match hh:r.A,hl with | [x,y],_=>exact ⟨x,y,rfl⟩
   have ha:aN r 1=y:=(by unfold aN;rw [hx];rfl);rw [hx] at hfit;simp [fits,operates,other] at hfit;have h2:=same_eq hfit.2.2;have h3:=same_eq hfit.2.1.2;rw [hP (by omega) 1 l1,ha];rw [h2,h3];exact Nat.le_refl _
  ·have l1:=lenA 1 (by rw [e];decide)
   rw [if_pos (by omega),e] at hfit;simp [fits] at hfit;have:=same_eq hfit.2;rw [nt_map l1] at this;rw [hP (by omega) 1 l1,this];exact Nat.le_refl _
  ·have l1:=lenA 1 (by rw [e];decide)
   rw [if_pos (by omega),e] at hfit;simp [fits] at hfit;have:=same_eq hfit.2;rw [nt_map l1] at this;rw [hP (by omega) 1 l1,this];exact Nat.le_refl _
 ·intro e
  have l1:=lenA 1 (by rw [e];decide);have l2:=lenA 2 (by rw [e];decide);rw [if_pos (by omega),e] at hfit;simp [fits] at hfit;have h1:=same_eq hfit.2;have h2:=same_eq hfit.1.2;rw [nt_map l1] at h1;rw [nt_map l1,nt_map l2] at h2;rw [hP (by omega) 2 l2,h1,h2];exact Nat.le_refl _
 ·intro e
  have l1:=lenA 1 (by rw [e];decide);rw [hP (by omega) 1 l1];exact cnt_le (vAt_ok hV (by have:=hrng _ (aN_mem l1);rwa [hC] at this))
 ·intro e
  have l0:=lenA 0 (by rw [e];decide);rw [if_pos (by omega),e] at hfit;simp [fits] at hfit;obtain ⟨⟨⟨a1,a2⟩,a3⟩,a4⟩:=hfit;rw [nt_map l0] at a1 a2 a4;have h1:=cnt_arr a1;have h2:=cnt_arr (arrOf_eq a2).1;have h3:=cnt_le (vAt_ok hV (by have:=hrng _ (aN_mem l0);rwa [hC] at this:0≤aN r 0∧aN r 0<V.length));rw [hP (by omega) 0 l0];omega
 ·intro e
  have l0:=lenA 0 (by rw [e];decide);have l1:=lenA 1 (by rw [e];decide);rw [if_pos (by omega),e] at hfit;simp [fits] at hfit;obtain ⟨⟨a1,a2⟩,a3⟩:=hfit;rw [nt_map l0] at a1;rw [nt_map l1] at a2;have a4:=same_eq a3;rw [nt_map l0,nt_map l1] at a4;have h1:=cnt_arr a1;have h2:=cnt_arr (arrOf_eq a2).1;rw [hP (by omega) 0 l0,hP (by omega) 1 l1,a4];unfold cnt at h1 h2 ⊢;simp only;omega
 ·intro e l hl
  have l0:=lenA 0 (by rw [e];decide);have l1:=lenA 1 (by rw [e];decide);rw [if_pos (by omega),e] at hfit;simp [fits] at hfit;have h1:=same_eq hfit.2;have h2:=same_eq hfit.1;rw [nt_map l0] at h1;rw [nt_map l0,nt_map l1] at h2;rw [hah e l hl,h1,h2];exact Nat.le_refl _
 ·rintro (e | e)
  ·rw [if_neg (by omega),e] at hfit
   simp [fitsT] at hfit;have hm:max 1 (vAt V r.out).n=((cnt (vAt V r.out):Nat):Int):=(by unfold cnt;omega);rw [hm] at hfit;exact treeL_fit r.E [] (by rw [hfit];exact hel) (hT (by omega))
  ·rw [if_neg (by omega),e] at hfit
   simp [fitsT] at hfit;have hm:=cnt_arr (arrOf_eq hfit.1.2).1;rw [←hm] at hfit;exact treeL_fit r.E [] (by rw [hfit.2];exact hel) (hT (by omega))
 ·intro e
  rw [if_neg (by omega),e] at hfit;simp [fitsT] at hfit;obtain ⟨⟨⟨_,a2⟩,a3⟩,a4⟩:=hfit;have hm:r.n=((r.n.toNat:Nat):Int):=(by omega);rw [hm] at a4;exact ⟨⟨a2,a3⟩,treeL_fit r.E [] (by rw [a4];exact hel) (hT (by omega))⟩
end Sk
end Go.Proofs.YtnhmcpnbaajjcaaGreatDoor
