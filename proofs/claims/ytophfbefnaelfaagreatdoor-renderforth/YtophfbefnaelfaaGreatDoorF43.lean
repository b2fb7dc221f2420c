import Derived.Test.YtophfbefnaelfaaGreatDoorF42
set_option linter.unusedVariables false
set_option linter.unusedSimpArgs false
set_option maxHeartbeats 64000000
set_option maxRecDepth 100000
namespace Go.Proofs.YtophfbefnaelfaaGreatDoor
open Go.RowKit
namespace Bk
open Tk
def At (I:Inp) (n:Nat) (K:List Bt):Prop:=(I.L.drop n).map bt=K
theorem At.lt {I:Inp} {n:Nat} {b:Bt} {K:List Bt} (h:At I n (b :: K)):n<I.L.length:=by
 rcases Nat.lt_or_ge n I.L.length with hn | hn
 ·exact hn
 ·unfold At at h
  rw [List.drop_eq_nil_of_le hn] at h;simp at h
theorem At.pk {I:Inp} {n:Nat} {b:Bt} {K:List Bt} (h:At I n (b :: K)):(I.pk n).kind=b.kind∧(I.pk n).text=b.text∧(I.pk n).n=b.n:=by
 have hn:=h.lt;unfold At at h;rw [List.drop_eq_getElem_cons hn,List.map_cons] at h;have hb:=(List.cons.inj h).1;have:I.pk n=I.L[n]:=(by unfold Inp.pk peekT;rw [dif_pos hn]);rw [this,←hb];exact ⟨rfl,rfl,rfl⟩
theorem At.tail {I:Inp} {n:Nat} {b:Bt} {K:List Bt} (h:At I n (b :: K)):At I (n+1) K:=by
 have hn:=h.lt;unfold At at h ⊢;rw [List.drop_eq_getElem_cons hn,List.map_cons] at h;exact (List.cons.inj h).2
theorem At.app {I:Inp} {n:Nat} {B K:List Bt} (h:At I n (B++K)):At I (n+B.length) K:=by
 unfold At at h ⊢;have:=congrArg (List.drop B.length) h;rw [List.drop_left,←List.map_drop,List.drop_drop] at this;exact this
theorem At.nil {I:Inp} {n:Nat} (h:At I n []):(I.pk n).kind=0∧(I.pk n).text=[]:=by
 unfold At at h;have hn:¬n<I.L.length:=by
  intro hn;rw [List.drop_eq_getElem_cons hn] at h
  cases h
 have:I.pk n=⟨0,I.len,[],0⟩:=(by unfold Inp.pk peekT;rw [dif_neg hn]);rw [this];exact ⟨rfl,rfl⟩
theorem At.sees {I:Inp} {n:Nat} {b:Bt} {K:List Bt} (h:At I n (b :: K)) (s:List UInt8):Ps.sees I s n=(b.text==s):=by
 unfold Ps.sees;rw [h.pk.2.1]
theorem At.need {I:Inp} {n:Nat} {b:Bt} {K:List Bt} {s:List UInt8} (h:At I n (b :: K)) (hs:b.text=s):Ps.need I s n=.ok () (n+1):=by
 unfold Ps.need;rw [h.sees,hs];simp
theorem At.name {I:Inp} {n:Nat} {s:ByteArray} {K:List Bt} (h:At I n (nm s :: K)):Ps.name I n=.ok s (n+1):=by
 unfold Ps.name;rw [if_pos (show (I.pk n).kind=2 from h.pk.1),h.pk.2.1];rfl
def closers:List (List UInt8):=[[41],[44],[62],[59],[93],[58],[116,104,101,110],[101,108,115,101]]
def Cl (K:List Bt):Prop:=∃ b K',K=b :: K'∧b.text ∈ closers
theorem Cl.mk {b:Bt} {K:List Bt} (h:b.text ∈ closers):Cl (b :: K):=⟨b,K,rfl,h⟩
theorem Cl.not {K:List Bt} (h:Cl K) {I:Inp} {n:Nat} (ha:At I n K) {s:List UInt8} (hs:s ∉ closers):Ps.sees I s n=false:=by
 obtain ⟨b,K',rfl,hb⟩:=h;rw [ha.sees];rw [beq_eq_false_iff_ne];intro e;exact hs (e ▸ hb)
theorem row_okQ {α:Type} {I:Inp} {read:Nat→Res α} {g:α→List Bt} (Q:List Bt→Prop) (hQ:∀ K,Q (sg 44 :: K)):∀ (l:List α) (x:α) (acc:List α) (f n:Nat) (K:List Bt),l.length+1≤f→(∀ y ∈ x :: l,∀ n K,At I n (g y++K)→Q K→read n=.ok y (n+(g y).length))→At I n (commasK g (x :: l)++K)→Q K→(∀ m,At I m K→Ps.sees I [44] m=false)→Ps.row I read f acc n=.ok (acc++(x :: l)) (n+(commasK g (x :: l)).length)
 | [],x,acc,f+1,n,K,hf,hr,ha,hc,hk=>by
  simp only [commasK,List.flatMap_nil,List.append_nil] at ha ⊢;unfold Ps.row;rw [hr x (by simp) n K ha hc];simp only [Res.bind];rw [hk _ ha.app];simp
 | y :: l,x,acc,f+1,n,K,hf,hr,ha,hc,hk=>by
  simp only [commasK,List.flatMap_cons,List.append_assoc,List.cons_append] at ha ⊢;have hx:=hr x (by simp) n _ ha (hQ _);unfold Ps.row;rw [hx];simp only [Res.bind];have h1:=ha.app;rw [h1.sees];simp only [sg,beq_self_eq_true,if_true];have h2:=h1.tail;have:=row_okQ Q hQ l y (acc++[x]) f (n+(g x).length+1) K (by simp at hf;omega) (fun z hz=>hr z (by simp at hz ⊢;exact .inr hz)) (by simpa [commasK] using h2) hc hk;rw [this];simp [commasK];omega
theorem row_ok {α:Type} {I:Inp} {read:Nat→Res α} {g:α→List Bt} (l:List α) (x:α) (acc:List α) (f n:Nat) (K:List Bt) (hf:l.length+1≤f) (hr:∀ y ∈ x :: l,∀ n K,At I n (g y++K)→Cl K→read n=.ok y (n+(g y).length)) (ha:At I n (commasK g (x :: l)++K)) (hc:Cl K) (hk:∀ m,At I m K→Ps.sees I [44] m=false):Ps.row I read f acc n=.ok (acc++(x :: l)) (n+(commasK g (x :: l)).length) :=
 row_okQ Cl (fun K=>Cl.mk (by decide)) l x acc f n K hf hr ha hc hk
theorem not_closer {s:List UInt8} (h:(closers.any fun x=>x==s)=false):s ∉ closers:=by
 intro hm;have:(closers.any fun x=>x==s)=true:=List.any_eq_true.2 ⟨s,hm,by simp⟩;rw [h] at this
 cases this
theorem w64s {x:Int} (h : -1000000000000000000<x) (h2:x<1000000000000000000):wrap64 x=x:=by unfold wrap64;omega
theorem byte_empty {s:ByteArray} (h:s.size=0):s=⟨#[]⟩:=by
 obtain ⟨a⟩:=s;have:a.size=0:=h;rw [Array.eq_empty_of_size_eq_zero this]
theorem term_ok {I:Inp} {n:Nat} {t:Tm} {K:List Bt} (h:Rn.termC t=0) (ha:At I n (termK t++K)) (hk:∀ m,At I m K→Ps.sees I [42] m=false):Ps.term I (decide (t.1<0)) n=.ok t (n+(termK t).length):=by
 obtain ⟨h1,h2,h3⟩:=term_of h;have hsg:∀ x:Int,x=Tx.abs t.1→Ps.sg (decide (t.1<0)) x=t.1:=by
  rintro x rfl;unfold Ps.sg Tx.abs;by_cases hz:t.1<0
  ·rw [if_pos (by simpa using hz),if_pos hz,Int.neg_neg,w64s h1 h2]
  ·rw [if_neg (by simpa using hz),if_neg hz]
 obtain ⟨v,s⟩:=t;unfold termK at ha ⊢;unfold Ps.term;by_cases hs:s.size=0
 ·simp only [if_pos hs,List.cons_append,List.nil_append] at ha ⊢
  rw [if_pos (show (I.pk n).kind=3 from ha.pk.1),hk _ ha.tail,if_neg (by simp),ha.pk.2.2];rw [show Ps.sg (decide (v<0)) (nu (Tx.abs v)).n=v from hsg _ rfl,byte_empty hs];rfl
 ·simp only [if_neg hs] at ha ⊢
  by_cases h1':Tx.abs v=1
  ·simp only [if_pos h1',List.cons_append,List.nil_append] at ha ⊢
   have hkind:¬(I.pk n).kind=3:=(by rw [ha.pk.1];simp [nm]);rw [if_neg hkind,ha.name];simp only [Res.bind];rw [show Ps.sg (decide (v<0)) 1=v from hsg 1 h1'.symm];rfl
  ·simp only [if_neg h1',List.cons_append,List.nil_append] at ha ⊢
   rw [if_pos (show (I.pk n).kind=3 from ha.pk.1),ha.tail.sees];simp only [sg,beq_self_eq_true,if_true];rw [ha.tail.tail.name];simp only [Res.bind];rw [ha.pk.2.2,show Ps.sg (decide (v<0)) (nu (Tx.abs v)).n=v from hsg _ rfl];rfl
theorem terms_ok {I:Inp}:∀ (l acc:List Tm) (f n:Nat) (K:List Bt),l.length≤f→(∀ t ∈ l,Rn.termC t=0)→At I n (l.flatMap (fun t=>(if t.1<0 then sg 45 else sg 43) :: termK t)++K)→(∀ m,At I m K→Ps.sees I [42] m=false∧Ps.sees I [43] m=false∧Ps.sees I [45] m=false)→Ps.terms I f acc n=.ok (acc++l) (n+(l.flatMap (fun t=>(if t.1<0 then sg 45 else sg 43) :: termK t)).length)
 | [],acc,f,n,K,hf,hr,ha,hk=>by
  simp only [List.flatMap_nil,List.nil_append,List.append_nil,List.length_nil,Nat.add_zero] at ha ⊢;have:=hk n ha
  cases f with
  | zero=>unfold Ps.terms;rw [if_neg (by simp [this.2.1,this.2.2])]
  | succ f=>unfold Ps.terms;rw [if_neg (by simp [this.2.1,this.2.2])]
 | t :: l,acc,f+1,n,K,hf,hr,ha,hk=>by
  simp only [List.flatMap_cons,List.append_assoc,List.cons_append] at ha ⊢;have hnext:∀ m,At I m (l.flatMap (fun t=>(if t.1<0 then sg 45 else sg 43) :: termK t)++K)→Ps.sees I [42] m=false:=by
   intro m hm
   cases l with
   | nil=>simp only [List.flatMap_nil,List.nil_append] at hm;exact (hk m hm).1
   | cons u l=>
    simp only [List.flatMap_cons,List.append_assoc,List.cons_append] at hm;rw [hm.sees]
    split<;>decide
  have ht:=term_ok (hr t (by simp)) ha.tail hnext;have hsee:(Ps.sees I [43] n=true∨Ps.sees I [45] n=true)∧Ps.sees I [45] n=decide (t.1<0):=by
   rw [ha.sees,ha.sees];by_cases hz:t.1<0
   ·simp [hz,sg]
   ·simp [hz,sg]
  unfold Ps.terms;rw [if_pos hsee.1,hsee.2,ht];simp only [Res.bind];have:=terms_ok l (acc++[t]) f (n+1+(termK t).length) K (by simp at hf;omega) (fun u hu=>hr u (by simp [hu])) ha.tail.app hk;rw [this];simp;omega
theorem size_ok {I:Inp} {n:Nat} {s:List Tm} {K:List Bt} (h:Rn.sizeC s=0) (ha:At I n (sizeK s++K)) (hc:Cl K):Ps.size I n=.ok s (n+(sizeK s).length):=by
 obtain ⟨h1,h2,h3⟩:=size_of h;have hk:∀ m,At I m K→Ps.sees I [42] m=false∧Ps.sees I [43] m=false∧Ps.sees I [45] m=false:=fun m hm=>⟨hc.not hm (not_closer (by decide)),hc.not hm (not_closer (by decide)),hc.not hm (not_closer (by decide))⟩
 cases s with
 | nil=>simp at h1
 | cons t l=>
  have htc:=h3 t (by simp);obtain ⟨t1,t2,t3⟩:=term_of htc;simp only [sizeK] at ha ⊢;have hnext:∀ m,At I m (l.flatMap (fun t=>(if t.1<0 then sg 45 else sg 43) :: termK t)++K)→Ps.sees I [42] m=false:=by
   intro m hm
   cases l with
   | nil=>simp only [List.flatMap_nil,List.nil_append] at hm;exact (hk m hm).1
   | cons u l=>
    simp only [List.flatMap_cons,List.append_assoc,List.cons_append] at hm;rw [hm.sees]
    split<;>decide
  have hl:l.length≤29:=(by simp at h2;omega);unfold Ps.size;by_cases hz:t.1<0
  ·simp only [if_pos hz,List.cons_append,List.nil_append,List.append_assoc] at ha ⊢
   have hs:Ps.sees I [45] n=true:=(by rw [ha.sees];decide);rw [hs];simp only [if_true];have ht:=term_ok htc ha.tail hnext;rw [show decide (t.1<0)=true from decide_eq_true hz] at ht;rw [ht];simp only [Res.bind];rw [terms_ok l [t] 29 _ K hl (fun u hu=>h3 u (by simp [hu])) ha.tail.app hk];simp;omega
  ·simp only [if_neg hz,List.nil_append,List.append_assoc] at ha ⊢
   have hs:Ps.sees I [45] n=false:=by
    unfold termK at ha
    split at ha
    ·rw [List.cons_append,List.nil_append] at ha
     rw [ha.sees];have hn:0≤Tx.abs t.1∧Tx.abs t.1<1000000000000000000:=by unfold Tx.abs;split<;>omega
     obtain ⟨c,r,he,hd,_,_⟩:=num_ok hn.1 hn.2;have hc0:=hd c (by simp);simp only [nu,he,beq_eq_false_iff_ne];intro e;simp at e;rw [e.1] at hc0;exact absurd hc0 (by decide)
    ·split at ha
     ·rename_i hsz _
      rw [List.cons_append,List.nil_append] at ha;rw [ha.sees];obtain ⟨c,r,he,hd,_,_⟩:=isName_iff (t3.resolve_left hsz);have hc0:=hd c (by simp);simp only [nm,he,beq_eq_false_iff_ne];intro e;simp at e;rw [e.1] at hc0;exact absurd hc0 (by decide)
     ·rw [List.cons_append] at ha
      rw [ha.sees];have hn:0≤Tx.abs t.1∧Tx.abs t.1<1000000000000000000:=by unfold Tx.abs;split<;>omega
      obtain ⟨c,r,he,hd,_,_⟩:=num_ok hn.1 hn.2;have hc0:=hd c (by simp);simp only [nu,he,beq_eq_false_iff_ne];intro e;simp at e;rw [e.1] at hc0;exact absurd hc0 (by decide)
   rw [hs];simp only [Bool.false_eq_true,if_false];have ht:=term_ok htc ha hnext;rw [show decide (t.1<0)=false from decide_eq_false hz] at ht;rw [ht];simp only [Res.bind];rw [terms_ok l [t] 29 _ K hl (fun u hu=>h3 u (by simp [hu])) ha.app hk];simp;omega
theorem decl_ok {I:Inp} {n:Nat} {d:De} {K:List Bt} (h:Rn.declC d=0) (ha:At I n (declK d++K)) (hc:Cl K):Ps.decl I n=.ok d (n+(declK d).length):=by
 obtain ⟨h1,h2,h3⟩:=decl_of h;obtain ⟨nme,el,z⟩:=d;unfold declK at ha ⊢;simp only [List.cons_append,List.nil_append] at ha ⊢;unfold Ps.decl;rw [ha.name];simp only [Res.bind];rw [ha.tail.need (by rfl)];simp only [];have h4:=ha.tail.tail;have hN:Ps.declN I nme el (n+1+1+1)=.ok ⟨nme,el,z⟩ (n+3+(if z.length=0 then [] else sg 94 :: sizeK z).length):=by
  have h5:=h4.tail;unfold Ps.declN;by_cases hz:z.length=0
  ·simp only [if_pos hz,List.nil_append] at h5 ⊢
   rw [hc.not h5 (not_closer (by decide)),if_neg (by simp),List.eq_nil_of_length_eq_zero hz];simp
  ·simp only [if_neg hz,List.cons_append] at h5 ⊢
   rw [h5.sees];simp only [sg,beq_self_eq_true,if_true];rw [size_ok (h3 hz) h5.tail hc];simp only [Res.bind,List.length_cons]
   congr 1
   omega
 rw [h4.sees,h4.sees];rcases h2 with rfl | rfl
 ·simp only [if_true,wd,beq_self_eq_true]
  rw [hN];simp;omega
 ·simp only [show ¬(98:Int)=105 by decide,if_false,wd,beq_self_eq_true,if_true]
  rw [if_neg (by decide),hN];simp;omega
end Bk
end Go.Proofs.YtophfbefnaelfaaGreatDoor
