import Derived.Test.YtfhghlpfeeiaeaaGreatDoorX13
import Derived.Deep.Cut
import Derived.Deep.LoopGhost
import Derived.IntWalk
import Derived.Laws.Cover1
import Derived.Lib.Hide
import Derived.WalkKit
import Derived.WalkSpells
set_option linter.unusedVariables false
set_option linter.unusedSimpArgs false
set_option maxHeartbeats 64000000
set_option maxRecDepth 100000
namespace Go.Proofs.YtfhghlpfeeiaeaaGreatDoor
open Go.RowKit Go.IntWalk
namespace Sk
def MadeBy (m:List Bool) (n:Nat) (L:List Int):Prop:=m.length=n/\∀ i,i<n->(m.getD i false=true↔(i:Int) ∈ L)
theorem isNone_false {n:Nat} {x:Int}:isNone n x=false↔0<=x/\x<n:=by
 unfold isNone;simp
theorem MadeBy.at {m:List Bool} {n:Nat} {L:List Int} (h:MadeBy m n L) {x:Int} (hx:0<=x/\x<n):m.getD x.toNat false=true↔x ∈ L:=by
 have:=h.2 x.toNat (by omega)
 rwa [Int.toNat_of_nonneg hx.1] at this
theorem MadeBy.set {m:List Bool} {n:Nat} {L:List Int} (h:MadeBy m n L) {x:Int} (hx:0<=x/\x<n):MadeBy (m.set x.toNat true) n (L++[x]):=by
 refine ⟨by rw [List.length_set];exact h.1,fun i hi=>?_⟩;by_cases e:x.toNat=i
 ·subst e
  have hl:x.toNat<m.length:=(by rw [h.1];exact hi);have:(m.set x.toNat true).getD x.toNat false=true:=(by simp [List.getD_eq_getElem?_getD,hl]);rw [this];simp [Int.toNat_of_nonneg hx.1]
 ·have e2:(m.set x.toNat true).getD i false=m.getD i false:=by simp [List.getD_eq_getElem?_getD,List.getElem?_set,e]
  rw [e2,h.2 i hi];simp;intro q;omega
theorem MadeBy.start (n:Nat):MadeBy (List.replicate n false) n []:=by
 refine ⟨by simp,fun i hi=>?_⟩;simp [List.getD_eq_getElem?_getD,List.getElem?_replicate,hi]
theorem given_zero {m:List Bool} {n:Nat} {L:List Int} (h:MadeBy m n L) (x:Int):(given m x).1=0↔(0<=x/\x<n)/\x ∉ L:=by
 unfold given;rw [h.1];by_cases hx:isNone n x=true
 ·rw [if_pos hx]
  constructor
  ·intro q;simp at q
  ·rintro ⟨q,_⟩
   rw [isNone_false.2 q] at hx
   cases hx
 ·have lM:=isNone_false.1 (by simpa using hx)
  rw [if_neg hx];by_cases hm:m.getD x.toNat false=true
  ·rw [if_pos hm]
   constructor
   ·intro q;simp at q
   ·rintro ⟨_,q⟩
    exact absurd ((h.at lM).1 hm) q
  ·rw [if_neg hm]
   constructor
   ·intro _;exact ⟨lM,fun q=>hm ((h.at lM).2 q)⟩
   ·intro _;rfl
theorem given_made {m:List Bool} {n:Nat} {L:List Int} (h:MadeBy m n L) {x:Int} (hz:(given m x).1=0):MadeBy (given m x).2 n (L++[x]):=by
 have hx:=(given_zero h x).1 hz;have h1:isNone n x=false:=isNone_false.2 hx.1;have h2:¬m.getD x.toNat false=true:=fun q=>hx.2 ((h.at hx.1).1 q);have e:given m x=(0,m.set x.toNat true):=by
  unfold given;rw [h.1,if_neg (by rw [h1];simp),if_neg h2]
 rw [e];exact h.set hx.1
theorem givenL_spec {n:Nat}:∀ (I:List Int) {m:List Bool} {L:List Int},MadeBy m n L->(((givenL m I).1=0↔(∀ x ∈ I,(0<=x/\x<n)/\x ∉ L)/\I.Nodup)/\((givenL m I).1=0->MadeBy (givenL m I).2 n (L++I)))
 | [],m,L,h=>⟨by simp [givenL],fun _=>by simpa [givenL] using h⟩
 | x :: r,m,L,h=>by
  unfold givenL;by_cases hz:(given m x).1=0
  ·rw [if_neg (by simpa using hz)]
   have h2:=given_made h hz;have hx:=(given_zero h x).1 hz;obtain ⟨i1,i2⟩:=givenL_spec r h2;refine ⟨?_,fun q=>by have:=i2 q;simpa using this⟩;rw [i1,List.nodup_cons]
   constructor
   ·rintro ⟨a,b⟩
    refine ⟨fun y hy=>?_,?_,b⟩
    ·rcases List.mem_cons.1 hy with rfl | hy
     ·exact hx
     ·exact ⟨(a y hy).1,fun q=>(a y hy).2 (by simp [q])⟩
    ·intro q
     exact (a x q).2 (by simp)
   ·rintro ⟨a,b,c⟩
    refine ⟨fun y hy=>⟨(a y (by simp [hy])).1,fun q=>?_⟩,c⟩;rcases List.mem_append.1 q with q | q
    ·exact (a y (by simp [hy])).2 q
    ·simp at q
     subst q;exact b hy
  ·rw [if_pos (by simpa using hz)]
   refine ⟨?_,fun q=>absurd q hz⟩
   constructor
   ·intro q;exact absurd q hz
   ·rintro ⟨a,_⟩
    exact absurd ((given_zero h x).2 (a x (by simp))) hz
structure RuOk (V:List Vr) (r:Ru):Prop where
 form:hasForm r.op r.A.length=true
 tree:(ownE r.op r.E).length<=24
 uses:∀ z ∈ usesT r.A (ownE r.op r.E),0<=z/\z<V.length
 fit:fitsR V r=true
theorem codeRule_zero {V:List Vr} {m:List Bool} {L:List Int} (h:MadeBy m V.length L) (r:Ru):((codeRule V m r).1=0↔((0<=r.out/\r.out<V.length)/\r.out ∉ L)/\RuOk V r)/\((codeRule V m r).1=0->MadeBy (codeRule V m r).2 V.length (L++[r.out])):=by
 unfold codeRule;rw [h.1];by_cases hx:isNone V.length r.out=true
 ·rw [if_pos hx]
  refine ⟨⟨fun q=>by simp at q,fun q=>?_⟩,fun q=>by simp at q⟩;rw [isNone_false.2 q.1.1] at hx
  cases hx
 ·have lM:=isNone_false.1 (by simpa using hx)
  rw [if_neg hx];by_cases hm:m.getD r.out.toNat false=true
  ·rw [if_pos hm]
   exact ⟨⟨fun q=>by simp at q,fun q=>absurd ((h.at lM).1 hm) q.1.2⟩,fun q=>by simp at q⟩
  ·rw [if_neg hm]
   have D2:r.out ∉ L:=fun q=>hm ((h.at lM).2 q);by_cases hf:hasForm r.op r.A.length=false
   ·rw [if_pos hf]
    exact ⟨⟨fun q=>by simp at q,fun q=>by rw [q.2.form] at hf;cases hf⟩,fun q=>by simp at q⟩
   ·rw [if_neg hf]
    by_cases ht:24<(ownE r.op r.E).length
    ·rw [if_pos ht]
     exact ⟨⟨fun q=>by simp at q,fun q=>by have:=q.2.tree;omega⟩,fun q=>by simp at q⟩
    ·rw [if_neg ht]
     by_cases hu:(usesT r.A (ownE r.op r.E)).any (isNone V.length)=true
     ·rw [if_pos hu]
      refine ⟨⟨fun q=>by simp at q,fun q=>?_⟩,fun q=>by simp at q⟩;obtain ⟨z,hz,dZ⟩:=List.any_eq_true.1 hu;rw [isNone_false.2 (q.2.uses z hz)] at dZ
      cases dZ
     ·rw [if_neg hu]
      have j8:∀ z ∈ usesT r.A (ownE r.op r.E),0<=z/\z<V.length:=by
       intro z hz;refine isNone_false.1 ?_;have:(usesT r.A (ownE r.op r.E)).any (isNone V.length)=false:=(by simpa using hu);rw [List.any_eq_false] at this
       simpa using this z hz
      by_cases hg:fitsR V r=false
      ·rw [if_pos hg]
       exact ⟨⟨fun q=>by simp at q,fun q=>by rw [q.2.fit] at hg;cases hg⟩,fun q=>by simp at q⟩
      ·rw [if_neg hg]
       exact ⟨⟨fun _=>⟨⟨lM,D2⟩,by simpa using hf,by omega,j8,by simpa using hg⟩,fun _=>rfl⟩,fun _=>h.set lM⟩
theorem rulesL_spec {V:List Vr}:∀ (R:List Ru) (i:Nat) {m:List Bool} {L:List Int},MadeBy m V.length L->(((rulesL V m i R).1.1=0↔(∀ r ∈ R,((0<=r.out/\r.out<V.length)/\r.out ∉ L)/\RuOk V r)/\(R.map (·.out)).Nodup)/\((rulesL V m i R).1.1=0->MadeBy (rulesL V m i R).2 V.length (L++R.map (·.out))))
 | [],i,m,L,h=>⟨by simp [rulesL],fun _=>by simpa [rulesL] using h⟩
 | r :: l,i,m,L,h=>by
  unfold rulesL;obtain ⟨c1,c2⟩:=codeRule_zero h r;by_cases hz:(codeRule V m r).1=0
  ·rw [if_neg (by simpa using hz)]
   have h2:=c2 hz;have hx:=c1.1 hz;obtain ⟨i1,i2⟩:=rulesL_spec l (i+1) h2;refine ⟨?_,fun q=>by have:=i2 q;simpa using this⟩;rw [i1,List.map_cons,List.nodup_cons]
   constructor
   ·rintro ⟨a,b⟩
    refine ⟨fun y hy=>?_,?_,b⟩
    ·rcases List.mem_cons.1 hy with rfl | hy
     ·exact hx
     ·exact ⟨⟨(a y hy).1.1,fun q=>(a y hy).1.2 (by simp [q])⟩,(a y hy).2⟩
    ·intro q
     obtain ⟨y,hy,e⟩:=List.mem_map.1 q;exact (a y hy).1.2 (by simp [e])
   ·rintro ⟨a,b,c⟩
    refine ⟨fun y hy=>⟨⟨(a y (by simp [hy])).1.1,fun q=>?_⟩,(a y (by simp [hy])).2⟩,c⟩;rcases List.mem_append.1 q with q | q
    ·exact (a y (by simp [hy])).1.2 q
    ·simp at q
     exact b (List.mem_map.2 ⟨y,hy,q⟩)
  ·rw [if_pos (by simpa using hz)]
   refine ⟨?_,fun q=>absurd q hz⟩
   constructor
   ·intro q;exact absurd q hz
   ·rintro ⟨a,_⟩
    exact absurd (c1.2 (a r (by simp))) hz
theorem firstI_zero {f:Int->Int}:∀ (l:List Int),firstI f l=0↔∀ x ∈ l,f x=0
 | []=>by simp [firstI]
 | x :: r=>by
  unfold firstI;by_cases h:f x=0
  ·rw [if_neg (by simpa using h),firstI_zero r]
   simp [h]
  ·rw [if_pos (by simpa using h)]
   simp [h]
theorem firstR_zero {f:Ru->Int}:∀ (l:List Ru) (i:Nat),((firstR f i l).1=0↔∀ x ∈ l,f x=0)
 | [],i=>by simp [firstR]
 | x :: r,i=>by
  unfold firstR;by_cases h:f x=0
  ·rw [if_neg (by simpa using h),firstR_zero r]
   simp [h]
  ·rw [if_pos (by simpa using h)]
   simp [h]
def VrOk (v:Vr):Prop:=(v.elem=105\/v.elem=98)/\0<=v.n/\v.n<=300
theorem codeType_zero (v:Vr):codeType v=0↔VrOk v:=by
 unfold codeType VrOk;by_cases h:v.elem≠105/\v.elem≠98
 ·rw [if_pos h]
  constructor
  ·intro q;simp at q
  ·rintro ⟨q | q,_⟩
   ·exact absurd q h.1
   ·exact absurd q h.2
 ·rw [if_neg h]
  by_cases h2:v.n<0\/300<v.n
  ·rw [if_pos h2]
   constructor
   ·intro q;simp at q
   ·rintro ⟨_,q⟩
    omega
  ·rw [if_neg h2]
   constructor
   ·intro _
    exact ⟨by omega,by omega,by omega⟩
   ·intro _;rfl
theorem firstV_zero:∀ (l:List Vr) (i:Nat),((firstV i l).1=0↔∀ x ∈ l,VrOk x)
 | [],i=>by simp [firstV]
 | x :: r,i=>by
  unfold firstV;by_cases h:codeType x=0
  ·rw [if_neg (by simpa using h),firstV_zero r]
   have:=(codeType_zero x).1 h;simp [this]
  ·rw [if_pos (by simpa using h)]
   constructor
   ·intro q;exact absurd q h
   ·intro q;exact absurd ((codeType_zero x).2 (q x (by simp))) h
def uses (r:Ru):List Int:=usesT r.A (ownE r.op r.E)
structure Okay (S:Sys):Prop where
 nV:S.V.length<=400
 nI:S.I.length<=400
 nO:S.O.length<=400
 nR:S.R.length<=400
 vars:∀ v ∈ S.V,VrOk v
 ins:∀ x ∈ S.I,0<=x/\x<S.V.length
 insN:S.I.Nodup
 outs:∀ x ∈ S.O,0<=x/\x<S.V.length
 rules:∀ r ∈ S.R,((0<=r.out/\r.out<S.V.length)/\r.out ∉ S.I)/\RuOk S.V r
 rulesN:(S.R.map (·.out)).Nodup
 used:∀ r ∈ S.R,∀ z ∈ uses r,z ∈ S.I\/z ∈ S.R.map (·.out)
 told:∀ x ∈ S.O,x ∈ S.I\/x ∈ S.R.map (·.out)
theorem unmade_zero {m:List Bool} {n:Nat} {L:List Int} (h:MadeBy m n L) {z:Int} (hz:0<=z/\z<n):unmade m z.toNat=0↔z ∈ L:=by
 unfold unmade;by_cases q:m.getD z.toNat false=true
 ·rw [if_pos q]
  simp [(h.at hz).1 q]
 ·rw [if_neg q]
  constructor
  ·intro e;simp at e
  ·intro e;exact absurd ((h.at hz).2 e) q
theorem check_zero (S:Sys):check S=(0,0)↔Okay S:=by
 unfold check;have cQ:=MadeBy.start S.V.length;obtain ⟨g1,g2⟩:=givenL_spec (n:=S.V.length) S.I cQ;by_cases ht:tooMany S.V.length S.I.length S.O.length S.R.length=true
 ·rw [if_pos ht]
  constructor
  ·intro q;simp at q
  ·intro q
   have:=q.nV;have:=q.nI;have:=q.nO;have:=q.nR;unfold tooMany at ht;simp at ht;omega
 rw [if_neg ht];have Cz:S.V.length<=400/\S.I.length<=400/\S.O.length<=400/\S.R.length<=400:=by
  unfold tooMany at ht;simp at ht;omega
 by_cases hv:(firstV 0 S.V).1=0
 case neg=>
  rw [if_pos (by simpa using hv)]
  constructor
  ·intro q;rw [q] at hv;exact absurd rfl hv
  ·intro q;exact absurd ((firstV_zero S.V 0).2 q.vars) hv
 rw [if_neg (by simpa using hv)];by_cases hg:(givenL (List.replicate S.V.length false) S.I).1=0
 case neg=>
  rw [if_pos (by simpa using hg)]
  constructor
  ·intro q;injection q with q1 q2;exact absurd q1 hg
  ·intro q;exact absurd (g1.2 ⟨fun x hx=>⟨q.ins x hx,by simp⟩,q.insN⟩) hg
 rw [if_neg (by simpa using hg)];have qi:MadeBy (m0 S) S.V.length S.I:=(by have:=g2 hg;simpa [m0] using this);by_cases ho:firstI (codeNum S.V.length) S.O=0
 case neg=>
  rw [if_pos (by simpa using ho)]
  constructor
  ·intro q;injection q with q1 q2;exact absurd q1 ho
  ·intro q
   refine absurd ((firstI_zero S.O).2 fun x hx=>?_) ho;unfold codeNum;rw [isNone_false.2 (q.outs x hx)];rfl
 rw [if_neg (by simpa using ho)];have rr:∀ x ∈ S.O,0<=x/\x<S.V.length:=by
  intro x hx;have:=(firstI_zero S.O).1 ho x hx;unfold codeNum at this;refine isNone_false.1 ?_
  cases h:isNone S.V.length x
  ·rfl
  ·rw [h] at this;simp at this
 obtain ⟨r1,r2⟩:=rulesL_spec (V:=S.V) S.R 0 qi;by_cases hr:(rulesL S.V (m0 S) 0 S.R).1.1=0
 case neg=>
  rw [if_pos (by simpa using hr)]
  constructor
  ·intro q;rw [q] at hr;exact absurd rfl hr
  ·intro q;exact absurd (r1.2 ⟨q.rules,q.rulesN⟩) hr
 rw [if_neg (by simpa using hr)];have fM:MadeBy (m1 S) S.V.length (S.I++S.R.map (·.out)):=r2 hr;obtain ⟨jf,fb⟩:=r1.1 hr;by_cases hu:(firstR (usesC (m1 S)) 0 S.R).1=0
 case neg=>
  rw [if_pos (by simpa using hu)]
  constructor
  ·intro q;rw [q] at hu;exact absurd rfl hu
  ·intro q
   refine absurd ((firstR_zero S.R 0).2 fun r hr=>?_) hu;refine (firstI_zero _).2 fun z hz=>?_;have:=q.used r hr z hz;exact (unmade_zero fM ((jf r hr).2.uses z hz)).2 (by simpa using this)
 rw [if_neg (by simpa using hu)];have j8:∀ r ∈ S.R,∀ z ∈ uses r,z ∈ S.I\/z ∈ S.R.map (·.out):=by
  intro r hr z hz;have:=(firstI_zero _).1 ((firstR_zero S.R 0).1 hu r hr) z hz;have:=(unmade_zero fM ((jf r hr).2.uses z hz)).1 this
  simpa using this
 by_cases hn:firstI (fun z=>unmade (m1 S) z.toNat) S.O=0
 case neg=>
  rw [if_pos (by simpa using hn)]
  constructor
  ·intro q;injection q with q1 q2;exact absurd q1 hn
  ·intro q
   refine absurd ((firstI_zero S.O).2 fun x hx=>?_) hn;exact (unmade_zero fM (rr x hx)).2 (by have:=q.told x hx;simpa using this)
 rw [if_neg (by simpa using hn)];refine ⟨fun _=>⟨Cz.1,Cz.2.1,Cz.2.2.1,Cz.2.2.2,(firstV_zero S.V 0).1 hv,fun x hx=>((g1.1 hg).1 x hx).1,(g1.1 hg).2,rr,jf,fb,j8,fun x hx=>?_⟩,fun _=>rfl⟩;have:=(unmade_zero fM (rr x hx)).1 ((firstI_zero S.O).1 hn x hx)
 simpa using this
end Sk
end Go.Proofs.YtfhghlpfeeiaeaaGreatDoor
namespace Go.Proofs.YtfhghlpfeeiaeaaGreatDoor
open Go.RowKit Go.IntWalk
namespace Sk
theorem Okay.perm {S:Sys} (h:Okay S) {R':List Ru} (p:S.R.Perm R'):Okay { S with R:=R' } where
 nV:=h.nV
 nI:=h.nI
 nO:=h.nO
 nR:=by show R'.length<=400;rw [<-p.length_eq];exact h.nR
 vars:=h.vars
 ins:=h.ins
 insN:=h.insN
 outs:=h.outs
 rules:=fun r hr=>h.rules r (p.mem_iff.2 hr)
 rulesN:=(p.map (·.out)).nodup_iff.1 h.rulesN
 used:=fun r hr z hz=>(h.used r (p.mem_iff.2 hr) z hz).imp id fun q=>(p.map (·.out)).mem_iff.1 q
 told:=fun x hx=>(h.told x hx).imp id fun q=>(p.map (·.out)).mem_iff.1 q
def needs (r:Ru):List Int:=if r.op=13/\r.A.length=2 then [r.A.getD 0 0] else uses r
def canC (N:List (List Int)) (m:List Bool) (j:Nat):Bool := !((N.getD j []).any fun x => !(m.getD x.toNat false))
def takeF (N:List (List Int)) (outs:List Int):Nat->List Bool->List Nat->List Nat->List Nat × List Bool × List Nat
 | 0,m,left,tk=>(tk,m,left)
 | f+1,m,left,tk=>match left.find? (canC N m) with
  | none=>(tk,m,left)
  | some j=>takeF N outs f (m.set (outs.getD j 0).toNat true) (left.filter (· != j)) (tk++[j])
def inM (S:Sys):List Bool:=S.I.foldl (fun m x=>m.set x.toNat true) (List.replicate S.V.length false)
def turns (S:Sys):List Nat × List Bool × List Nat:=takeF (S.R.map needs) (S.R.map Ru.out) S.R.length (inM S) (List.range S.R.length) []
def noRu:Ru:=⟨0,0,0,0,[],[]⟩
def sortS (S:Sys):Sys:={ S with R:=(turns S).1.map fun j=>S.R.getD j noRu }
def Ahead (S:Sys):Prop:=∀ i (h:i<S.R.length),∀ z ∈ needs S.R[i],z ∈ S.I\/z ∈ (S.R.take i).map (·.out)
theorem inM_made {n:Nat}:∀ (I:List Int) {m:List Bool} {L:List Int},MadeBy m n L->(∀ x ∈ I,0<=x/\x<(n:Int))->MadeBy (I.foldl (fun m x=>m.set x.toNat true) m) n (L++I)
 | [],m,L,h,_=>by simpa using h
 | x :: r,m,L,h,hr=>by
  have:=inM_made r (h.set (hr x (by simp))) fun y hy=>hr y (by simp [hy])
  simpa using this
theorem length_filter_ne {left:List Nat} (hn:left.Nodup) {j:Nat} (hj:j ∈ left):(left.filter (· != j)).length+1=left.length:=by
 induction left with
 | nil=>cases hj
 | cons x r ih=>
  rw [List.nodup_cons] at hn;by_cases e:x=j
  ·subst e
   rw [List.filter_cons_of_neg (by simp)];have:r.filter (· != x)=r:=List.filter_eq_self.2 fun y hy=>by
    have:y≠x:=fun q=>hn.1 (q ▸ hy)
    simpa using this
   rw [this,List.length_cons]
  ·rw [List.filter_cons_of_pos (by simpa using e),List.length_cons,List.length_cons]
   have gP:j ∈ r:=by
    rcases List.mem_cons.1 hj with q | q
    ·exact absurd q.symm e
    ·exact q
   have:=ih hn.2 gP;omega
theorem perm_filter_ne {left:List Nat} (hn:left.Nodup) {j:Nat} (hj:j ∈ left):left.Perm (j :: left.filter (· != j)):=by
 induction left with
 | nil=>cases hj
 | cons x r ih=>
  rw [List.nodup_cons] at hn;by_cases e:x=j
  ·subst e
   rw [List.filter_cons_of_neg (by simp)];have:r.filter (· != x)=r:=List.filter_eq_self.2 fun y hy=>by
    have:y≠x:=fun q=>hn.1 (q ▸ hy)
    simpa using this
   rw [this]
  ·rw [List.filter_cons_of_pos (by simpa using e)]
   have gP:j ∈ r:=by
    rcases List.mem_cons.1 hj with q | q
    ·exact absurd q.symm e
    ·exact q
   exact ((ih hn.2 gP).cons x).trans (List.Perm.swap _ _ _)
structure Taken (S:Sys) (m:List Bool) (left tk:List Nat):Prop where
 perm:(tk++left).Perm (List.range S.R.length)
 made:MadeBy m S.V.length (S.I++tk.map fun j=>(S.R.getD j noRu).out)
 ahead:∀ i (h:i<tk.length),∀ z ∈ needs (S.R.getD tk[i] noRu),z ∈ S.I\/z ∈ (tk.take i).map fun j=>(S.R.getD j noRu).out
theorem needs_uses {r:Ru} {V:List Vr} (h:RuOk V r) {z:Int} (hz:z ∈ needs r) (hu:∀ y ∈ r.A,y ∈ uses r):z ∈ uses r:=by
 unfold needs at hz
 split at hz
 case isTrue e=>
  simp at hz;subst hz
  apply hu
  have:0<r.A.length:=(by omega);rw [List.getElem?_eq_getElem this];exact List.getElem_mem _
 case isFalse=>exact hz
theorem getD_map {α β:Type} {f:α->β} {d:α} {e:β} {l:List α} {j:Nat} (h:j<l.length):(l.map f).getD j e=f (l.getD j d):=by
 simp [List.getD_eq_getElem?_getD,h]
theorem Taken.step {S:Sys} (ok:Okay S) (hu:∀ r ∈ S.R,∀ z ∈ needs r,0<=z/\z<S.V.length) {m:List Bool} {left tk:List Nat} (h:Taken S m left tk) {j:Nat} (hj:left.find? (canC (S.R.map needs) m)=some j) :
  j ∈ left/\left.Nodup/\j<S.R.length/\Taken S (m.set ((S.R.map Ru.out).getD j 0).toNat true) (left.filter (· != j)) (tk++[j]):=by
 have sF:j ∈ left:=List.mem_of_find?_eq_some hj;have p6:canC (S.R.map needs) m j=true:=List.find?_some hj;have jZ:(tk++left).Nodup:=h.perm.nodup_iff.2 List.nodup_range;have xf:left.Nodup:=(List.nodup_append.1 jZ).2.1;have jd:j<S.R.length:=by
  have:=(h.perm.mem_iff (a:=j)).1 (by simp [sF])
  simpa using this
 have hr:S.R.getD j noRu ∈ S.R:=by
  rw [List.getD_eq_getElem?_getD,List.getElem?_eq_getElem jd];exact List.getElem_mem _
 have e1:(S.R.map Ru.out).getD j 0=(S.R.getD j noRu).out:=getD_map jd;have e2:(S.R.map needs).getD j []=needs (S.R.getD j noRu):=getD_map jd;refine ⟨sF,xf,jd,?_,?_,?_⟩
 ·rw [List.append_assoc,List.singleton_append]
  exact ((perm_filter_ne xf sF).symm.append_left tk).trans h.perm
 ·rw [e1]
  have:=h.made.set (ok.rules _ hr).1.1
  simpa using this
 ·intro i hi z hz
  by_cases e:i<tk.length
  ·have e3:(tk++[j])[i]=tk[i]:=List.getElem_append_left e
   rw [e3] at hz;have:=h.ahead i e z hz
   rwa [List.take_append_of_le_length (by omega)]
  ·have e4:i=tk.length:=by simp at hi;omega
   subst e4;have e3:(tk++[j])[tk.length]=j:=(by simp);rw [e3] at hz;unfold canC at p6;rw [e2] at p6;have cG:(needs (S.R.getD j noRu)).any (fun x => !(m.getD x.toNat false))=false:=(by simpa using p6);rw [List.any_eq_false] at cG;have dZ:m.getD z.toNat false=true:=(by simpa using cG z hz);have:=(h.made.at (hu _ hr z hz)).1 dZ;rw [List.take_left']
   ·simpa using this
   ·rfl
theorem takeF_taken {S:Sys} (ok:Okay S) (hu:∀ r ∈ S.R,∀ z ∈ needs r,0<=z/\z<S.V.length):∀ (f:Nat) {m:List Bool} {left tk:List Nat},Taken S m left tk->Taken S (takeF (S.R.map needs) (S.R.map Ru.out) f m left tk).2.1 (takeF (S.R.map needs) (S.R.map Ru.out) f m left tk).2.2 (takeF (S.R.map needs) (S.R.map Ru.out) f m left tk).1
 | 0,m,left,tk,h=>h
 | f+1,m,left,tk,h=>by
  unfold takeF
  cases hf:left.find? (canC (S.R.map needs) m) with
  | none=>exact h
  | some j=>exact takeF_taken ok hu f (h.step ok hu hf).2.2.2
theorem taken_start {S:Sys} (ok:Okay S):Taken S (inM S) (List.range S.R.length) []:=by
 refine ⟨by simp,?_,fun i hi=>absurd hi (Nat.not_lt_zero _)⟩;have:=inM_made S.I (MadeBy.start S.V.length) ok.ins
 simpa [inM] using this
theorem turns_taken {S:Sys} (ok:Okay S) (hu:∀ r ∈ S.R,∀ z ∈ needs r,0<=z/\z<S.V.length):Taken S (turns S).2.1 (turns S).2.2 (turns S).1:=takeF_taken ok hu _ (taken_start ok)
theorem map_range_self (R:List Ru):(List.range R.length).map (fun j=>R.getD j noRu)=R:=by
 apply List.ext_getElem
 ·simp
 ·intro i h1 h2
  simp [h2]
theorem sort_perm {S:Sys} (ok:Okay S) (hu:∀ r ∈ S.R,∀ z ∈ needs r,0<=z/\z<S.V.length) (hl:(turns S).2.2=[]):S.R.Perm (sortS S).R:=by
 have h:=turns_taken ok hu;rw [hl] at h;have hp:(turns S).1.Perm (List.range S.R.length):=(by have:=h.perm;simpa using this);have:=(hp.map fun j=>S.R.getD j noRu).symm
 rwa [map_range_self] at this
theorem sort_okay {S:Sys} (ok:Okay S) (hu:∀ r ∈ S.R,∀ z ∈ needs r,0<=z/\z<S.V.length) (hl:(turns S).2.2=[]):Okay (sortS S):=ok.perm (sort_perm ok hu hl)
theorem sort_ahead {S:Sys} (ok:Okay S) (hu:∀ r ∈ S.R,∀ z ∈ needs r,0<=z/\z<S.V.length) (hl:(turns S).2.2=[]):Ahead (sortS S):=by
 have h:=turns_taken ok hu;intro i hi z hz;have gW:i<(turns S).1.length:=(by simpa [sortS] using hi);have e1:(sortS S).R[i]=S.R.getD (turns S).1[i] noRu:=(by simp [sortS]);rw [e1] at hz;have:=h.ahead i gW z hz;have e2:((sortS S).R.take i).map (·.out)=((turns S).1.take i).map fun j=>(S.R.getD j noRu).out:=(by simp [sortS,List.map_take,Function.comp_def]);rw [e2];exact this
end Sk
end Go.Proofs.YtfhghlpfeeiaeaaGreatDoor
namespace Go.Proofs.YtfhghlpfeeiaeaaGreatDoor
open Go.RowKit Go.IntWalk
theorem mem_compactI {l:List Int} {z:Int}:z ∈ Lib.compact l↔z ∈ l:=by
 unfold Lib.compact Lib.compactUpTo
 constructor
 ·intro h
  obtain ⟨j,hj,e⟩:=List.mem_map.1 h;have gP:j<l.length:=(by simpa using (List.mem_filter.1 hj).1);rw [<-e];have:l.toArray[j]! = l[j]:=(by simp [gP]);rw [this];exact List.getElem_mem _
 ·intro h
  obtain ⟨i,hi,e⟩:=List.mem_iff_getElem.1 h;have key:∀ n i (hi:i<l.length),i<=n->l[i]=z->z ∈ ((List.range l.length).filter (Lib.keeps l.toArray)).map (l.toArray[·]!):=by
   intro n
   induction n with
   | zero=>
    intro i hi h0 e;obtain rfl:i=0:=by omega
    refine List.mem_map.2 ⟨0,List.mem_filter.2 ⟨by simpa using hi,by simp [Lib.keeps]⟩,?_⟩;simp [hi,e]
   | succ n ih=>
    intro i hi h0 e;by_cases hk:Lib.keeps l.toArray i=true
    ·refine List.mem_map.2 ⟨i,List.mem_filter.2 ⟨by simpa using hi,hk⟩,?_⟩
     simp [hi,e]
    ·have iI:¬(i=0\/l.toArray[i]! ≠ l.toArray[i-1]!):=by simpa [Lib.keeps] using hk
     have y7:i≠0:=fun q=>iI (.inl q);have heq:l.toArray[i]! = l.toArray[i-1]! := Decidable.byContradiction fun q=>iI (.inr q);have p9:i-1<l.length:=(by omega);refine ih (i-1) p9 (by omega) ?_;have e1:l.toArray[i]! = l[i]:=(by simp [hi]);have e2:l.toArray[i-1]! = l[i-1]:=(by simp [p9]);rw [<-e2,<-heq,e1,e]
  exact key i i hi zBR e
theorem zBi {A:List Int} {E:List Pu} {z:Int}:z ∈ usesT A E↔z ∈ A\/∃ p ∈ E,nmd p=true/\z=p.v:=by
 unfold usesT usesL;rw [mem_compactI,(List.mergeSort_perm _ _).mem_iff,List.mem_append,List.mem_map]
 constructor
 ·rintro (h | ⟨p,hp,e⟩)
  ·exact .inl h
  ·obtain ⟨h1,h2⟩:=List.mem_filter.1 hp
   exact .inr ⟨p,h1,h2,e.symm⟩
 ·rintro (h | ⟨p,hp,h2,e⟩)
  ·exact .inl h
  ·exact .inr ⟨p,List.mem_filter.2 ⟨hp,h2⟩,e.symm⟩
end Go.Proofs.YtfhghlpfeeiaeaaGreatDoor
