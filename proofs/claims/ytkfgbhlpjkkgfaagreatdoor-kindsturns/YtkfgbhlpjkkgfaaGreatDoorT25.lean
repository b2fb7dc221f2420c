import Derived.Test.YtkfgbhlpjkkgfaaGreatDoorT24
set_option linter.unusedVariables false
set_option linter.unusedSimpArgs false
set_option maxHeartbeats 64000000
set_option maxRecDepth 100000
namespace Go.Proofs.YtkfgbhlpjkkgfaaGreatDoor
open Go.RowKit Go.IntWalk
theorem Kd.hasN_iff {l:List ByteArray} {s:ByteArray}:Kd.hasN l s=true↔s.data.toList ∈ l.map fun x=>x.data.toList:=by
 unfold Kd.hasN;rw [List.any_eq_true,List.mem_map]
 constructor
 ·rintro ⟨x,hx,h⟩
  exact ⟨x,hx,by simpa using h⟩
 ·rintro ⟨x,hx,h⟩
  exact ⟨x,hx,by simpa using h⟩
theorem Kd.hasN_false {l:List ByteArray} {s:ByteArray}:Kd.hasN l s=false↔s.data.toList ∉ l.map fun x=>x.data.toList:=by
 rw [<-Kd.hasN_iff]
 cases Kd.hasN l s<;>simp
theorem Kd.hasN_congr {l r:List ByteArray} (h:∀ x,x ∈ l↔x ∈ r) (s:ByteArray):Kd.hasN l s=Kd.hasN r s:=by
 apply Bool.eq_iff_iff.2
 rw [Kd.hasN_iff,Kd.hasN_iff,List.mem_map,List.mem_map]
 constructor
 ·rintro ⟨x,hx,e⟩
  exact ⟨x,(h x).1 hx,e⟩
 ·rintro ⟨x,hx,e⟩
  exact ⟨x,(h x).2 hx,e⟩
def Kd.Mks (mk done l:List ByteArray):Prop:=(∀ x ∈ l,Kd.hasN mk x=true)/\(l.map fun x=>x.data.toList).Nodup/\∀ x ∈ l,Kd.hasN done x=false
theorem Kd.mkNm_iff (mk:List ByteArray):∀ (l done:List ByteArray),Kd.mkNm mk done l=0↔Kd.Mks mk done l
 | [],done=>by simp [Kd.mkNm,Kd.Mks]
 | x :: r,done=>by
  unfold Kd.mkNm;by_cases h1:Kd.hasN mk x=false
  ·rw [if_pos h1]
   constructor
   ·intro h;simp at h
   ·intro h
    have:=h.1 x (by simp);rw [h1] at this
    cases this
  ·rw [if_neg h1]
   by_cases h2:Kd.hasN done x=true
   ·rw [if_pos h2]
    constructor
    ·intro h;simp at h
    ·intro h
     have:=h.2.2 x (by simp);rw [h2] at this
     cases this
   ·rw [if_neg h2,Kd.mkNm_iff mk r (done++[x])]
    have ur:Kd.hasN mk x=true:=(by simpa using h1);have vG:Kd.hasN done x=false:=(by simpa using h2);unfold Kd.Mks
    constructor
    ·rintro ⟨a,b,c⟩
     refine ⟨fun y hy=>?_,?_,fun y hy=>?_⟩
     ·rcases List.mem_cons.1 hy with e | hy
      ·rw [e];exact ur
      ·exact a y hy
     ·rw [List.map_cons,List.nodup_cons]
      refine ⟨fun hm=>?_,b⟩;obtain ⟨y,hy,e⟩:=List.mem_map.1 hm;have:=Kd.hasN_false.1 (c y hy)
      apply this
      rw [List.map_append];simp [e]
     ·rcases List.mem_cons.1 hy with e | hy
      ·rw [e];exact vG
      ·have:=Kd.hasN_false.1 (c y hy)
       rw [Kd.hasN_false];intro hm
       apply this
       rw [List.map_append];exact List.mem_append.2 (.inl hm)
    ·rintro ⟨a,b,c⟩
     rw [List.map_cons,List.nodup_cons] at b;refine ⟨fun y hy=>a y (by simp [hy]),b.2,fun y hy=>?_⟩;rw [Kd.hasN_false,List.map_append,List.mem_append];rintro (hm | hm)
     ·exact Kd.hasN_false.1 (c y (by simp [hy])) hm
     ·apply b.1
      have e:y.data.toList=x.data.toList:=(by simpa using hm);rw [<-e];exact List.mem_map.2 ⟨y,hy,rfl⟩
theorem Kd.mks_append (mk done a b:List ByteArray):Kd.Mks mk done (a++b)↔Kd.Mks mk done a/\Kd.Mks mk (done++a) b:=by
 unfold Kd.Mks;rw [List.map_append,List.nodup_append]
 constructor
 ·rintro ⟨h1,⟨h2,h3,h4⟩,h5⟩
  refine ⟨⟨fun x hx=>h1 x (by simp [hx]),h2,fun x hx=>h5 x (by simp [hx])⟩,fun x hx=>h1 x (by simp [hx]),h3,fun x hx=>?_⟩;rw [Kd.hasN_false,List.map_append,List.mem_append];rintro (hm | hm)
  ·exact Kd.hasN_false.1 (h5 x (by simp [hx])) hm
  ·exact h4 _ hm _ (List.mem_map.2 ⟨x,hx,rfl⟩) rfl
 ·rintro ⟨⟨h1,h2,h3⟩,h4,h5,h6⟩
  refine ⟨fun x hx=>?_,⟨h2,h5,fun y hy z hz e=>?_⟩,fun x hx=>?_⟩
  ·rcases List.mem_append.1 hx with hx | hx
   ·exact h1 x hx
   ·exact h4 x hx
  ·obtain ⟨x,hx,e2⟩:=List.mem_map.1 hz
   have:=Kd.hasN_false.1 (h6 x hx)
   apply this
   rw [List.map_append,List.mem_append];refine .inr ?_;rw [e2,<-e];exact hy
  ·rcases List.mem_append.1 hx with hx | hx
   ·exact h3 x hx
   ·have:=Kd.hasN_false.1 (h6 x hx)
    rw [Kd.hasN_false];intro hm
    apply this
    rw [List.map_append,List.mem_append];exact .inl hm
theorem Kd.mks_perm {mk done a b:List ByteArray} (h:a.Perm b):Kd.Mks mk done a↔Kd.Mks mk done b:=by
 unfold Kd.Mks;rw [(h.map fun x=>x.data.toList).nodup_iff]
 constructor
 ·rintro ⟨h1,h2,h3⟩
  exact ⟨fun x hx=>h1 x (h.mem_iff.2 hx),h2,fun x hx=>h3 x (h.mem_iff.2 hx)⟩
 ·rintro ⟨h1,h2,h3⟩
  exact ⟨fun x hx=>h1 x (h.mem_iff.1 hx),h2,fun x hx=>h3 x (h.mem_iff.1 hx)⟩
noncomputable def Kd.bodyC (E:Kd.Env) (q:Eqn):Int :=
 if q.node.size≠0 then Kd.codeCall E q
 else match Kd.tyX E (q.E.getD 0 (.mk 0 0 0 ⟨#[]⟩ [] [])) with
  | .error c=>c
  | .ok t=>if Kd.same t (Kd.typ E.types (q.names.getD 0 ⟨#[]⟩))=true then 0 else 10
theorem Kd.codeEq_eq (E:Kd.Env) (mk done:List ByteArray) (q:Eqn):Kd.codeEq E mk done q=if Kd.mkNm mk done q.names≠0 then Kd.mkNm mk done q.names else Kd.bodyC E q:=rfl
theorem Kd.codeEq_zero (E:Kd.Env) (mk done:List ByteArray) (q:Eqn):Kd.codeEq E mk done q=0↔Kd.Mks mk done q.names/\Kd.bodyC E q=0:=by
 rw [Kd.codeEq_eq,<-Kd.mkNm_iff];by_cases h:Kd.mkNm mk done q.names=0
 ·rw [if_neg (by simp [h])]
  simp [h]
 ·rw [if_pos h]
  simp [h]
theorem Kd.goE_none (E:Kd.Env) (mk:List ByteArray):∀ (l:List Eqn) (done:List ByteArray) (i:Nat),Kd.goE E mk done l i=none↔Kd.Mks mk done (l.flatMap Eqn.names)/\∀ q ∈ l,Kd.bodyC E q=0
 | [],done,i=>by simp [Kd.goE,Kd.Mks]
 | q :: r,done,i=>by
  unfold Kd.goE;by_cases h:Kd.codeEq E mk done q=0
  ·rw [if_neg (by simp [h]),Kd.goE_none E mk r,List.flatMap_cons,Kd.mks_append]
   rw [Kd.codeEq_zero] at h
   constructor
   ·rintro ⟨a,b⟩
    refine ⟨⟨h.1,a⟩,fun x hx=>?_⟩;rcases List.mem_cons.1 hx with e | hx
    ·rw [e];exact h.2
    ·exact b x hx
   ·rintro ⟨a,b⟩
    exact ⟨a.2,fun x hx=>b x (by simp [hx])⟩
  ·rw [if_pos h]
   constructor
   ·intro e;cases e
   ·rintro ⟨a,b⟩
    rw [List.flatMap_cons,Kd.mks_append] at a;exact absurd ((Kd.codeEq_zero E mk done q).2 ⟨a.1,b q (by simp)⟩) h
theorem Kd.goE_code (E:Kd.Env) (mk:List ByteArray):∀ (l:List Eqn) (done:List ByteArray) (i:Nat) (c:Int) (k:Nat),Kd.goE E mk done l i=some (c,k)->c≠0
 | [],done,i,c,k,h=>by simp [Kd.goE] at h
 | q :: r,done,i,c,k,h=>by
  unfold Kd.goE at h;by_cases hz:Kd.codeEq E mk done q=0
  ·rw [if_neg (by simp [hz])] at h
   exact Kd.goE_code E mk r _ _ c k h
  ·rw [if_pos hz] at h
   injection h with h;injection h with h1 h2;rw [<-h1];exact hz
def Kd.NodeOk (above:List Nd) (n:Nd):Prop:=Kd.headC above n=0/\(Kd.Mks (Kd.mkOf n) [] (Kd.doneOf n)/\∀ q ∈ n.eqs,Kd.bodyC (Kd.envOf above n) q=0)/\Kd.unmade (Kd.doneOf n) (n.out++n.loc)=0
theorem Kd.nodeF_none (above:List Nd) (n:Nd) (i k:Nat):Kd.nodeF above n i k=none↔Kd.NodeOk above n:=by
 unfold Kd.nodeF Kd.NodeOk;by_cases h:Kd.headC above n=0
 ·rw [if_neg (by simp [h])]
  cases hg:Kd.goE (Kd.envOf above n) (Kd.mkOf n) [] n.eqs k with
  | some f=>
   obtain ⟨c,j⟩:=f;simp only [h,true_and]
   constructor
   ·intro e;cases e
   ·rintro ⟨a,b⟩
    have:=(Kd.goE_none (Kd.envOf above n) (Kd.mkOf n) n.eqs [] k).2 a;rw [hg] at this
    cases this
  | none=>
   have e:=(Kd.goE_none (Kd.envOf above n) (Kd.mkOf n) n.eqs [] k).1 hg;simp only [h,true_and];by_cases hu:Kd.unmade (Kd.doneOf n) (n.out++n.loc)=0
   ·rw [if_neg (by simp [hu])]
    exact ⟨fun _=>⟨e,hu⟩,fun _=>rfl⟩
   ·rw [if_pos hu]
    constructor
    ·intro e;cases e
    ·rintro ⟨_,b⟩
     exact absurd b hu
 ·rw [if_pos h]
  constructor
  ·intro e;cases e
  ·rintro ⟨a,_⟩
   exact absurd a h
theorem Kd.nodeF_code (above:List Nd) (n:Nd) (i k:Nat) (f:Int × Int) (h:Kd.nodeF above n i k=some f):f.1≠0:=by
 unfold Kd.nodeF at h;by_cases h1:Kd.headC above n=0
 ·rw [if_neg (by simp [h1])] at h
  cases hg:Kd.goE (Kd.envOf above n) (Kd.mkOf n) [] n.eqs k with
  | some g=>
   obtain ⟨c,j⟩:=g;rw [hg] at h;injection h with h;rw [<-h];exact Kd.goE_code _ _ _ _ _ _ _ hg
  | none=>
   rw [hg] at h;by_cases hu:Kd.unmade (Kd.doneOf n) (n.out++n.loc)=0
   ·dsimp only at h
    rw [if_neg (by simp [hu])] at h
    cases h
   ·dsimp only at h
    rw [if_pos hu] at h;injection h with h;rw [<-h];exact hu
 ·rw [if_pos h1] at h
  injection h with h;rw [<-h];exact h1
def Kd.NodesOk:List Nd->List Nd->Prop
 | _,[]=>True
 | above,n :: r=>Kd.NodeOk above n/\Kd.NodesOk (above++[n]) r
theorem Kd.goN_zero:∀ (l above:List Nd) (i k:Nat),(Kd.goN above l i k).1=0↔Kd.NodesOk above l
 | [],above,i,k=>by simp [Kd.goN,Kd.NodesOk]
 | n :: r,above,i,k=>by
  unfold Kd.goN Kd.NodesOk
  cases h:Kd.nodeF above n i k with
  | none=>
   rw [Kd.nodeF_none] at h
   dsimp only
   rw [Kd.goN_zero r];exact ⟨fun a=>⟨h,a⟩,fun a=>a.2⟩
  | some f=>
   have e:=Kd.nodeF_code _ _ _ _ _ h
   dsimp only
   constructor
   ·intro a;exact absurd a e
   ·rintro ⟨a,_⟩
    have:=(Kd.nodeF_none above n i k).2 a;rw [h] at this
    cases this
theorem Kd.checkN_zero (l:List Nd):(Kd.checkN l).1=0↔Kd.NodesOk [] l/\l.any Kd.isMain=true:=by
 unfold Kd.checkN;by_cases h:(Kd.goN [] l 0 0).1=0
 ·rw [if_neg (by simp [h])]
  rw [Kd.goN_zero] at h;by_cases hm:l.any Kd.isMain=true
  ·rw [if_pos hm]
   exact ⟨fun _=>⟨h,hm⟩,fun _=>rfl⟩
  ·rw [if_neg hm]
   constructor
   ·intro e;simp at e
   ·rintro ⟨_,b⟩
    exact absurd b hm
 ·rw [if_pos h]
  constructor
  ·intro e;exact absurd e h
  ·rintro ⟨a,_⟩
   exact absurd ((Kd.goN_zero _ _ _ _).2 a) h
theorem zDY (l:List Nd):(kcheckC l).1=0↔(Tx.printC l).1=0/\Kd.NodesOk [] l/\l.any Kd.isMain=true:=by
 unfold kcheckC;by_cases h:(Tx.printC l).1=0
 ·rw [if_neg (by simp [h]),Kd.checkN_zero]
  simp [h]
 ·rw [if_pos h]
  simp [h]
theorem Rn.goE_none:∀ (l:List Eqn) (k:Nat),Rn.goE l k=none↔∀ q ∈ l,Rn.eqC q=0
 | [],k=>by simp [Rn.goE]
 | q :: r,k=>by
  unfold Rn.goE;by_cases h:Rn.eqC q=0
  ·simp [h,Rn.goE_none r]
  ·simp [h]
theorem Rn.goE_code:∀ (l:List Eqn) (k:Nat) (f:Int × Int),Rn.goE l k=some f->f.1≠0
 | [],k,f,h=>by simp [Rn.goE] at h
 | q :: r,k,f,h=>by
  unfold Rn.goE at h;by_cases hq:Rn.eqC q=0
  ·rw [if_pos hq] at h
   exact Rn.goE_code r _ f h
  ·rw [if_neg hq] at h
   injection h with h;rw [<-h];exact hq
theorem Rn.goN_zero:∀ (l:List Nd) (i k:Nat),(Rn.goN l i k).1=0↔∀ n ∈ l,Rn.headC n=0/\∀ q ∈ n.eqs,Rn.eqC q=0
 | [],i,k=>by simp [Rn.goN]
 | n :: r,i,k=>by
  unfold Rn.goN;by_cases h:Rn.headC n=0
  ·rw [if_pos h]
   cases hg:Rn.goE n.eqs k with
   | none=>
    have e:=(Rn.goE_none _ _).1 hg;rw [Option.getD_none,Rn.goN_zero r]
    constructor
    ·intro a m hm
     rcases List.mem_cons.1 hm with e2 | hm
     ·rw [e2];exact ⟨h,e⟩
     ·exact a m hm
    ·intro a m hm
     exact a m (by simp [hm])
   | some f=>
    have e:=Rn.goE_code _ _ _ hg;rw [Option.getD_some]
    constructor
    ·intro a;exact absurd a e
    ·intro a
     have:=(Rn.goE_none n.eqs k).2 (a n (by simp)).2;rw [hg] at this
     cases this
  ·rw [if_neg h]
   constructor
   ·intro a;exact absurd a h
   ·intro a
    exact absurd (a n (by simp)).1 h
theorem Tx.printC_zero (l:List Nd):(Tx.printC l).1=0↔(l.length≠0/\l.length<=10/\∀ n ∈ l,Rn.headC n=0/\∀ q ∈ n.eqs,Rn.eqC q=0)/\(Tx.cat (Tx.progP l)).size<=12000:=by
 have e:(Rn.nodesC l).1=0↔(l.length≠0/\l.length<=10/\∀ n ∈ l,Rn.headC n=0/\∀ q ∈ n.eqs,Rn.eqC q=0):=by
  unfold Rn.nodesC;by_cases h1:l.length=0
  ·rw [if_pos h1]
   simp [h1]
  ·rw [if_neg h1]
   by_cases h2:10<l.length
   ·rw [if_pos h2]
    constructor
    ·intro a;simp at a
    ·rintro ⟨_,a,_⟩;omega
   ·rw [if_neg h2,Rn.goN_zero]
    exact ⟨fun a=>⟨h1,by omega,a⟩,fun a=>a.2.2⟩
 rw [<-e];unfold Tx.printC;by_cases h:(Rn.nodesC l).1=0
 ·rw [if_neg (by simp [h])]
  by_cases h2:12000<(Tx.cat (Tx.progP l)).size
  ·rw [if_pos h2]
   constructor
   ·intro a;simp at a
   ·rintro ⟨_,a⟩;omega
  ·rw [if_neg h2]
   exact ⟨fun _=>⟨h,by omega⟩,fun _=>rfl⟩
 ·rw [if_pos h]
  constructor
  ·intro a;exact absurd a h
  ·rintro ⟨a,_⟩;exact absurd a h
theorem Tx.row_size {α:Type} (f:α->List ByteArray):∀ (l:List α) (i:Nat),(Tx.cat (Tx.rowP (fun _ x=>f x) i l)).size=(l.map fun x=>(Tx.cat (f x)).size).sum
 | [],i=>by simp [Tx.rowP,Tx.cat]
 | x :: r,i=>by
  rw [Tx.rowP,Tx.cat_append,ByteArray.size_append,Tx.row_size f r,List.map_cons,List.sum_cons]
end Go.Proofs.YtkfgbhlpjkkgfaaGreatDoor
namespace Go.Proofs.YtkfgbhlpjkkgfaaGreatDoor
open Go.RowKit Go.IntWalk
structure Kd.Turned (n m:Nd):Prop where
 name:n.name=m.name
 sizes:n.sizes=m.sizes
 inn:n.inn=m.inn
 out:n.out=m.out
 loc:n.loc=m.loc
 eqs:n.eqs.Perm m.eqs
theorem Kd.Turned.refl (n:Nd):Kd.Turned n n:=⟨rfl,rfl,rfl,rfl,rfl,List.Perm.refl _⟩
inductive Kd.TL:List Nd->List Nd->Prop
 | nil:Kd.TL [] []
 | cons {n m:Nd} {l r:List Nd}:Kd.Turned n m->Kd.TL l r->Kd.TL (n :: l) (m :: r)
theorem Kd.TL.snoc {l r:List Nd} {n m:Nd} (h:Kd.TL l r) (t:Kd.Turned n m):Kd.TL (l++[n]) (r++[m]):=by
 induction h with
 | nil=>exact .cons t .nil
 | cons a _ ih=>exact .cons a ih
theorem Kd.TL.self:∀ l:List Nd,Kd.TL l l
 | []=>.nil
 | n :: l=>.cons (Kd.Turned.refl n) (Kd.TL.self l)
theorem Kd.TL.len {l r:List Nd} (h:Kd.TL l r):l.length=r.length:=by
 induction h with
 | nil=>rfl
 | cons _ _ ih=>simp [ih]
theorem Kd.TL.set:∀ (l:List Nd) (k:Nat) (h:k<l.length) (m:Nd),Kd.Turned l[k] m->Kd.TL l (l.set k m)
 | [],k,h,m,_=>by simp at h
 | n :: l,0,h,m,t=>.cons t (Kd.TL.self l)
 | n :: l,k+1,h,m,t=>.cons (Kd.Turned.refl n) (Kd.TL.set l k (by simpa using h) m t)
theorem Kd.TL.find {l r:List Nd} (h:Kd.TL l r) (s:ByteArray):(Kd.findN l s=none/\Kd.findN r s=none)\/∃ g g',Kd.findN l s=some g/\Kd.findN r s=some g'/\Kd.Turned g g':=by
 induction h with
 | nil=>exact .inl ⟨rfl,rfl⟩
 | @cons n m l r t _ ih=>
  unfold Kd.findN at ih ⊢;rw [List.find?_cons,List.find?_cons,<-t.name]
  cases (n.name.data.toList==s.data.toList)
  ·exact ih
  ·exact .inr ⟨n,m,rfl,rfl,t⟩
theorem Kd.tyN_above {E F:Kd.Env} (ht:E.types=F.types) (s:ByteArray):Kd.tyN E s=Kd.tyN F s:=by
 unfold Kd.tyN;rw [ht]
mutual
theorem Kd.tyX_above {E F:Kd.Env} (hs:E.sizes=F.sizes) (ht:E.types=F.types):∀ x:Ex,Kd.tyX E x=Kd.tyX F x
 | .mk op k n name S L=>by
  rw [Kd.tyX,Kd.tyX,hs,Kd.tyL_above hs ht L,Kd.tyN_above ht]
theorem Kd.tyL_above {E F:Kd.Env} (hs:E.sizes=F.sizes) (ht:E.types=F.types):∀ l:List Ex,Kd.tyL E l=Kd.tyL F l
 | []=>by rw [Kd.tyL,Kd.tyL]
 | x :: r=>by
  rw [Kd.tyL,Kd.tyL,Kd.tyX_above hs ht x,Kd.tyL_above hs ht r]
end
theorem Kd.bodyC_turned {above bG:List Nd} (h:Kd.TL above bG) {n m:Nd} (t:Kd.Turned n m) (q:Eqn):Kd.bodyC (Kd.envOf above n) q=Kd.bodyC (Kd.envOf bG m) q:=by
 have hs:(Kd.envOf above n).sizes=(Kd.envOf bG m).sizes:=t.sizes;have ht:(Kd.envOf above n).types=(Kd.envOf bG m).types:=by
  show n.inn++n.out++n.loc=m.inn++m.out++m.loc
  rw [t.inn,t.out,t.loc]
 unfold Kd.bodyC;rw [Kd.tyX_above hs ht,ht];have e:Kd.codeCall (Kd.envOf above n) q=Kd.codeCall (Kd.envOf bG m) q:=by
  unfold Kd.codeCall;rw [hs,Kd.tyL_above hs ht,ht];rcases h.find q.node with ⟨a,b⟩ | ⟨g,g',a,b,c⟩
  ·rw [show Kd.findN (Kd.envOf above n).above q.node=none from a,show Kd.findN (Kd.envOf bG m).above q.node=none from b]
  ·rw [show Kd.findN (Kd.envOf above n).above q.node=some g from a,show Kd.findN (Kd.envOf bG m).above q.node=some g' from b]
   dsimp only
   rw [c.sizes,c.inn,c.out]
 rw [e]
theorem Kd.nodeOk_turned {above bG:List Nd} (h:Kd.TL above bG) {n m:Nd} (t:Kd.Turned n m):Kd.NodeOk above n↔Kd.NodeOk bG m:=by
 have hd:(Kd.doneOf n).Perm (Kd.doneOf m):=t.eqs.flatMap_right _;have e1:Kd.headC above n=Kd.headC bG m:=by
  unfold Kd.headC;rw [t.sizes,t.inn,t.out,t.loc,t.name];rcases h.find m.name with ⟨a,b⟩ | ⟨g,g',a,b,c⟩
  ·rw [a,b]
  ·rw [a,b]
   rfl
 have e2:Kd.mkOf n=Kd.mkOf m:=by
  unfold Kd.mkOf;rw [t.out,t.loc]
 have e3:Kd.unmade (Kd.doneOf n) (n.out++n.loc)=Kd.unmade (Kd.doneOf m) (m.out++m.loc):=by
  unfold Kd.unmade;rw [t.out,t.loc]
  congr 1
  funext d
  rw [Kd.hasN_congr (fun x=>hd.mem_iff)]
 unfold Kd.NodeOk;rw [e1,e2,e3,Kd.mks_perm hd];have e4:(∀ q ∈ n.eqs,Kd.bodyC (Kd.envOf above n) q=0)↔∀ q ∈ m.eqs,Kd.bodyC (Kd.envOf bG m) q=0:=by
  constructor
  ·intro a q hq
   rw [<-Kd.bodyC_turned h t];exact a q (t.eqs.mem_iff.2 hq)
  ·intro a q hq
   rw [Kd.bodyC_turned h t];exact a q (t.eqs.mem_iff.1 hq)
 rw [e4]
theorem Kd.nodesOk_turned {l r:List Nd} (h:Kd.TL l r):∀ {above bG:List Nd},Kd.TL above bG->(Kd.NodesOk above l↔Kd.NodesOk bG r):=by
 induction h with
 | nil=>intro above bG _;exact Iff.rfl
 | cons t _ ih=>
  intro above bG ha;unfold Kd.NodesOk;rw [Kd.nodeOk_turned ha t,ih (ha.snoc t)]
theorem Kd.main_turned {l r:List Nd} (h:Kd.TL l r):l.any Kd.isMain=r.any Kd.isMain:=by
 induction h with
 | nil=>rfl
 | cons t _ ih=>
  rw [List.any_cons,List.any_cons,ih];unfold Kd.isMain;rw [t.name,t.sizes]
theorem sum_perm {a b:List Nat} (h:a.Perm b):a.sum=b.sum:=by
 induction h with
 | nil=>rfl
 | cons _ _ ih=>simp [ih]
 | swap x y l=>simp;omega
 | trans _ _ i1 i2=>exact i1.trans i2
theorem Tx.node_turned {n m:Nd} (t:Kd.Turned n m):(Tx.cat (Tx.nodeP n)).size=(Tx.cat (Tx.nodeP m)).size:=by
 unfold Tx.nodeP;simp only [Tx.cat_append,ByteArray.size_append,Tx.row_size];rw [t.name,t.sizes,t.inn,t.out,t.loc,sum_perm (t.eqs.map _)]
theorem Tx.prog_turned {l r:List Nd} (h:Kd.TL l r):(Tx.cat (Tx.progP l)).size=(Tx.cat (Tx.progP r)).size:=by
 unfold Tx.progP;rw [Tx.row_size,Tx.row_size]
 induction h with
 | nil=>rfl
 | cons t _ ih=>rw [List.map_cons,List.map_cons,List.sum_cons,List.sum_cons,ih,Tx.node_turned t]
theorem Rn.head_turned {n m:Nd} (t:Kd.Turned n m):Rn.headC n=Rn.headC m:=by
 unfold Rn.headC;rw [t.name,t.sizes,t.inn,t.out,t.loc,t.eqs.length_eq]
theorem Rn.all_turned {l r:List Nd} (h:Kd.TL l r):(∀ n ∈ l,Rn.headC n=0/\∀ q ∈ n.eqs,Rn.eqC q=0)↔∀ n ∈ r,Rn.headC n=0/\∀ q ∈ n.eqs,Rn.eqC q=0:=by
 induction h with
 | nil=>exact Iff.rfl
 | @cons n m l r t _ ih=>
  rw [List.forall_mem_cons,List.forall_mem_cons,ih,Rn.head_turned t];have e:(∀ q ∈ n.eqs,Rn.eqC q=0)↔∀ q ∈ m.eqs,Rn.eqC q=0:=⟨fun a q hq=>a q (t.eqs.mem_iff.2 hq),fun a q hq=>a q (t.eqs.mem_iff.1 hq)⟩;rw [e]
theorem zFJ {l r:List Nd} (h:Kd.TL l r):(kcheckC l).1=0↔(kcheckC r).1=0:=by
 rw [zDY,zDY,Tx.printC_zero,Tx.printC_zero,Kd.nodesOk_turned h .nil,Kd.main_turned h,Tx.prog_turned h,Rn.all_turned h,h.len]
end Go.Proofs.YtkfgbhlpjkkgfaaGreatDoor
