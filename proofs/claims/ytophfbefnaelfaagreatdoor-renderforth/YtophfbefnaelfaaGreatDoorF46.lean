import Derived.Test.YtophfbefnaelfaaGreatDoorF45
set_option linter.unusedVariables false
set_option linter.unusedSimpArgs false
set_option maxHeartbeats 64000000
set_option maxRecDepth 100000
namespace Go.Proofs.YtophfbefnaelfaaGreatDoor
open Go.RowKit
namespace Bk
open Tk
theorem count_eq:∀ (q:Nat) (e:Ex),parts e≤q→Ps.count e=parts e
 | 0,.mk _ _ _ _ _ _,h=>by simp [parts] at h
 | q+1,.mk op k n name S L,h=>by
  simp only [Ps.count,parts] at h ⊢;have:∀ l:List Ex,partsL l≤q→Ps.countL l=partsL l:=by
   intro l
   induction l with
   | nil=>intro _;simp [Ps.countL,partsL]
   | cons x l ih=>
    intro hl;simp only [partsL] at hl;simp only [Ps.countL,partsL];rw [count_eq q x (by omega),ih (by omega)]
  rw [this L (by omega)]
theorem whole_ok {I:Inp} {n:Nat} {e:Ex} {K:List Bt} (h:Rn.exprC e=0) (ha:At I n (exprK e++K)) (hc:Cl K):Ps.whole I n=.ok e (n+(exprK e).length):=by
 unfold Rn.exprC at h
 split at h
 ·simp at h
 ·rename_i hp
  unfold Ps.whole Ps.expr;rw [part0_ok (good_all _ e nR h) h (by omega) ha hc.sp];simp only [Res.bind];rw [count_eq _ e nR,if_neg (by omega)];rfl
def Hd (B:List Bt):Prop:=∃ b B',B=b :: B'∧b.text≠[41]∧b.text≠[99,97,108,108]
theorem Hd.app {A:List Bt} (h:Hd A) (B:List Bt):Hd (A++B):=by
 obtain ⟨b,B',rfl,h1,h2⟩:=h;exact ⟨b,B'++B,rfl,h1,h2⟩
theorem Hd.cons {b:Bt} {B:List Bt} (h1:b.text≠[41]) (h2:b.text≠[99,97,108,108]):Hd (b :: B):=⟨b,B,rfl,h1,h2⟩
theorem Hd.partQ {p:List Bt} (h:Hd p) (r l:Int):Hd (partQK r p l):=by
 unfold partQK
 split
 ·exact h
 ·exact Hd.cons (by decide) (by decide)
theorem Hd.name {s:ByteArray} (h:isName s.data.toList=true) (B:List Bt):Hd (nm s :: B):=by
 obtain ⟨c,t,he,hr,_,_,hw⟩:=isName_iff h;refine Hd.cons ?_ ?_
 ·intro e
  simp only [nm,he] at e;have:=hr c (by simp);rw [(List.cons.inj e).1] at this;exact absurd this (by decide)
 ·intro e
  simp only [nm,he] at e;rw [e] at hw;exact absurd hw (by decide)
theorem hd_all:∀ (q:Nat) (e:Ex),parts e≤q→Rn.partC e=0→Hd (bareK e)
 | 0,.mk op k n name S L,h,_=>by simp [parts] at h
 | q+1,.mk op k n name S L,h,hC=>by
  have hp:=part_of hC;obtain ⟨f1,f2,f3,f4,f5,f6,f7,f8⟩:=form_of hp.form;have ih:∀ x ∈ L,Hd (bareK x):=fun x hx=>hd_all q x (by
   have:=parts_mem hx;simp only [parts] at h;omega) (hp.parts x hx)
  rw [bareK];have hops:op=1∨op=2∨op=3∨op=4∨op=5∨op=6∨op=11∨((7≤op.toNat∧op.toNat≤10)∨(12≤op.toNat∧op.toNat≤15)):=(by omega);unfold bareOfK;rcases hops with rfl | rfl | rfl | rfl | rfl | rfl | rfl | ho
  ·rw [if_pos rfl]
   obtain ⟨c,t,he,hdg,_,_⟩:=num_ok hp.num.1 hp.num.2;have hc0:=hdg c (by simp);refine Hd.cons ?_ ?_ <;>
   ·intro e
    simp only [nu,he] at e;rw [(List.cons.inj e).1] at hc0;exact absurd hc0 (by decide)
  ·rw [if_neg (by decide),if_pos rfl]
   split
   ·exact Hd.cons (by decide) (by decide)
   ·exact Hd.cons (by decide) (by decide)
  ·rw [if_neg (by decide),if_neg (by decide),if_pos rfl]
   exact Hd.name (hp.name rfl) []
  ·rw [if_neg (by decide),if_neg (by decide),if_neg (by decide),if_pos rfl]
   have hk:k=13∨k=14:=(by simp [Rn.shp,Rn.shpT] at f5 f6;omega);rcases hk with rfl | rfl
   ·exact Hd.cons (by decide) (by decide)
   ·exact Hd.cons (by decide) (by decide)
  ·rw [if_neg (by decide),if_neg (by decide),if_neg (by decide),if_neg (by decide),if_pos rfl]
   obtain ⟨x,y,rfl⟩:=len2 (by simp [Rn.shp,Rn.shpT] at f2 f3;omega:L.length=2);have hk:1≤k∧k≤12:=(by simp [Rn.shp,Rn.shpT] at f5 f6;omega);unfold pairK;by_cases hm:k=6∨k=7
   ·rcases hm with rfl | rfl
    ·rw [if_pos (by rfl)];exact Hd.cons (by decide) (by decide)
    ·rw [if_pos (by rfl)];exact Hd.cons (by decide) (by decide)
   ·rw [if_neg (opS_o k.toNat (by omega)).2.2]
    exact ((ih x (by simp)).partQ _ _).app _
  ·rw [if_neg (by decide),if_neg (by decide),if_neg (by decide),if_neg (by decide),if_neg (by decide),if_pos rfl]
   exact Hd.cons (by decide) (by decide)
  ·rw [if_neg (by decide),if_neg (by decide),if_neg (by decide),if_neg (by decide),if_neg (by decide),if_neg (by decide),if_pos rfl]
   obtain ⟨x,y,z,rfl⟩:=len3 (by simp [Rn.shp,Rn.shpT] at f2 f3;omega:L.length=3);exact ((ih x (by simp)).partQ _ _).app _
  ·rw [if_neg (by omega),if_neg (by omega),if_neg (by omega),if_neg (by omega),if_neg (by omega),if_neg (by omega),if_neg (by omega)]
   have h2:op.toNat=7∨op.toNat=8∨op.toNat=9∨op.toNat=10∨op.toNat=12∨op.toNat=13∨op.toNat=14∨op.toNat=15:=(by omega);unfold formK;rcases h2 with e | e | e | e | e | e | e | e<;>rw [e]<;>exact Hd.cons (by decide) (by decide)
theorem hd_expr {e:Ex} (h:Rn.exprC e=0):Hd (exprK e):=by
 unfold Rn.exprC at h
 split at h
 ·simp at h
 ·exact (hd_all _ e nR h).partQ _ _
/-! ### equations -/
def stE (q:Eqn):Eqn:={ q with place:=0 }
def stN (n:Nd):Nd:={ n with place:=0,eqs:=n.eqs.map stE }
theorem no44 {b:Bt} {K:List Bt} {I:Inp} (h:(b.text==[44])=false):∀ m,At I m (b :: K)→Ps.sees I [44] m=false:=fun m hm=>by rw [hm.sees];exact h
theorem ang_ok {α:Type} {I:Inp} {read:Nat→Res α} {g:α→List Bt} {l:List α} {n:Nat} {b:Bt} {K:List Bt} (hl:l.length≤3) (hr:∀ y ∈ l,∀ n K,At I n (g y++K)→Cl K→read n=.ok y (n+(g y).length)) (ha:At I n (angK g l++(b :: K))) (hb:(b.text==[60])=false) :
  (if Ps.sees I [60] n=true then (Ps.row I read 3 [] (n+1)).bind fun z n3=>(Ps.need I [62] n3).bind fun _ n4=>.ok z n4 else .ok [] n)=.ok l (n+(angK g l).length):=by
 unfold angK at ha ⊢
 cases l with
 | nil=>
  simp only [List.length_nil,if_true,List.nil_append] at ha ⊢;rw [ha.sees,hb];simp
 | cons x l=>
  simp only [List.length_cons,Nat.add_one_ne_zero,if_false,List.cons_append,List.append_assoc,List.nil_append] at ha ⊢;rw [ha.sees];simp only [sg,beq_self_eq_true,if_true];rw [row_ok l x [] 3 (n+1) _ (by simpa using hl) hr ha.tail (Cl.mk (by decide)) (no44 (by decide))];simp only [Res.bind,List.nil_append];rw [(ha.tail.app).need (by rfl)];simp only [List.length_append,List.length_cons,List.length_nil]
  congr 1
  omega
theorem names_ok {I:Inp} {x:ByteArray} {l acc:List ByteArray} {f n:Nat} {b:Bt} {K:List Bt} (hf:l.length+1≤f) (ha:At I n (commasK nameK (x :: l)++(b :: K))) (hb:(b.text==[44])=false):Ps.row I (Ps.name I) f acc n=.ok (acc++(x :: l)) (n+(commasK nameK (x :: l)).length) :=
 row_okQ (fun _=>True) (fun _=>trivial) l x acc f n (b :: K) hf (fun y _ n K h _=>h.name) ha trivial (no44 hb)
theorem call_ok {I:Inp} {n:Nat} {q:Eqn} {K:List Bt} (p:Int) (h:Rn.eqC q=0) (hn:q.node.size≠0) (ha:At I n (callK q++(sg 59 :: K))):Ps.call I p q.names n=.ok ⟨p,q.names,q.node,q.S,q.E⟩ (n+(callK q).length):=by
 obtain ⟨h1,h2,h3,h4,h5,h6,h7,h8,h9⟩:=eq_of h;unfold callK at ha ⊢;simp only [List.cons_append,List.append_assoc,List.nil_append] at ha ⊢;unfold Ps.call;rw [ha.need (by rfl)];simp only [Res.bind];rw [ha.tail.name];simp only [];have a2:=ha.tail.tail;have hang:=ang_ok (read:=Ps.size I) h6 (fun s hs n K a c=>size_ok (h8 s hs) a c) a2 (by decide);simp only [Res.bind] at hang;rw [hang];simp only [];have a3:=a2.app;rw [a3.need (by rfl)];simp only [];have a4:=a3.tail;have hE:(if Ps.sees I [41] (n+1+1+(angK sizeK q.S).length+1)=true then Res.ok [] (n+1+1+(angK sizeK q.S).length+1+1) else (Ps.row I (Ps.whole I) 30 [] (n+1+1+(angK sizeK q.S).length+1)).bind fun e n7=>(Ps.need I [41] n7).bind fun _ n8=>.ok e n8)=.ok q.E (n+1+1+(angK sizeK q.S).length+1+(commasK exprK q.E).length+1):=by
  cases hq:q.E with
  | nil=>
   rw [hq] at a4;simp only [commasK,List.nil_append] at a4 ⊢;rw [a4.sees];simp [sg]
  | cons x l=>
   rw [hq] at a4 h7 h9;have hd:Hd (commasK exprK (x :: l)):=by
    unfold commasK;exact (hd_expr (h9 x (by simp))).app _
   obtain ⟨b,B,hB,hb1,hb2⟩:=hd;have a4':=a4;rw [hB,List.cons_append] at a4';rw [a4'.sees,show (b.text==[41])=false by simpa using hb1];simp only [Bool.false_eq_true,if_false];rw [row_ok l x [] 30 _ _ (by simpa using h7) (fun y hy n K a c=>whole_ok (h9 y hy) a c) a4 (Cl.mk (by decide)) (no44 (by decide))];simp only [Res.bind,List.nil_append];rw [a4.app.need (by rfl)]
 simp only [Res.bind] at hE;rw [hE];simp only [List.length_append,List.length_cons,List.length_nil]
 congr 1
 omega
theorem eq_ok {I:Inp} {n:Nat} {q:Eqn} {K:List Bt} (h:Rn.eqC q=0) (ha:At I n (eqK q++K)):∃ q',Ps.equation I n=.ok q' (n+(eqK q).length-1)∧At I (n+(eqK q).length-1) (sg 59 :: K)∧stE q'=stE q:=by
 obtain ⟨h1,h2,h3,h4,h5,h6,h7,h8,h9⟩:=eq_of h
 cases hnm:q.names with
 | nil=>rw [hnm] at h1;simp at h1
 | cons x l=>
  rw [hnm] at h2;unfold eqK at ha ⊢;rw [hnm] at ha ⊢;simp only [List.append_assoc,List.cons_append,List.nil_append] at ha;have hrow:=names_ok (acc:=[]) (f:=30) (by simpa using h2) ha (by decide);have a1:=ha.app;have a2:=a1.tail;unfold Ps.equation;rw [hrow];simp only [Res.bind,List.nil_append];rw [a1.need (by rfl)];simp only [];by_cases hn:q.node.size=0
  ·obtain ⟨g1,g2,g3⟩:=h5 hn
   obtain ⟨e,he⟩:=len1 g2;have hl:l=[]:=by
    rw [hnm] at g1
    simpa using g1
   subst hl;rw [if_pos hn] at a2 ⊢;rw [he] at a2 ⊢;simp only [] at a2 ⊢;have hex:=h9 e (by rw [he];simp);obtain ⟨b,B,hB,hb1,hb2⟩:=hd_expr hex;have a2':=a2;rw [hB,List.cons_append] at a2';rw [if_pos ⟨rfl,by rw [a2'.sees];simpa using hb2⟩];rw [whole_ok hex a2 (Cl.mk (by decide))];refine ⟨⟨(I.pk n).place,[x],⟨#[]⟩,[],[e]⟩,?_,?_,?_⟩
   ·simp only [List.length_append,List.length_cons,List.length_nil]
    congr 1
    omega
   ·have:=a2.app
    simp only [List.length_append,List.length_cons,List.length_nil];rw [show n+(commasK nameK [x]).length+1+(exprK e).length=n+((commasK nameK [x]).length+((exprK e).length+(0+1)+1))-1 by omega] at this;exact this
   ·unfold stE
    rw [←hnm,←he];have hS:q.S=[]:=List.eq_nil_of_length_eq_zero g3;have hN:q.node=⟨#[]⟩:=byte_empty hn;obtain ⟨p,nms,nd,S,E⟩:=q;simp only at hS hN ⊢;rw [hS,hN]
  ·rw [if_neg hn] at a2 ⊢
   have hcall:Ps.sees I [99,97,108,108] (n+(commasK nameK (x :: l)).length+1)=true:=by
    have a2':=a2;unfold callK at a2';simp only [List.cons_append,List.append_assoc] at a2';rw [a2'.sees]
    decide
   have hcl:=call_ok (((I.pk n).place:Nat):Int) h hn a2;rw [hnm] at hcl;rw [hcall,if_neg (by simp),hcl];refine ⟨⟨(I.pk n).place,x :: l,q.node,q.S,q.E⟩,?_,?_,?_⟩
   ·simp only [List.length_append,List.length_cons,List.length_nil]
    congr 1
    omega
   ·have:=a2.app
    simp only [List.length_append,List.length_cons,List.length_nil];rw [show n+(commasK nameK (x :: l)).length+1+(callK q).length=n+((commasK nameK (x :: l)).length+((callK q).length+(0+1)+1))-1 by omega] at this;exact this
   ·unfold stE
    rw [←hnm]
/-! ### nodes -/
theorem eqK_name {q:Eqn} (h:Rn.eqC q=0):∃ x B,eqK q=nm x :: B∧isName x.data.toList=true:=by
 obtain ⟨h1,h2,h3,_⟩:=eq_of h;unfold eqK
 cases hnm:q.names with
 | nil=>rw [hnm] at h1;simp at h1
 | cons x l=>exact ⟨x,_,rfl,h3 x (by rw [hnm];simp)⟩
theorem eqs_ok {I:Inp} (loc:List De):∀ (es acc:List Eqn) (f n:Nat) (K:List Bt),es.length<f→acc.length+es.length≤60→(∀ q ∈ es,Rn.eqC q=0)→At I n (es.flatMap eqK++(sg 125 :: K))→∃ es',Ps.lines I f loc acc n=.ok (loc,acc++es') (n+(es.flatMap eqK).length+1)∧es'.map stE=es.map stE
 | [],acc,f+1,n,K,hf,hc,hq,ha=>by
  simp only [List.flatMap_nil,List.nil_append] at ha;refine ⟨[],?_,rfl⟩;unfold Ps.lines;rw [ha.sees];simp [sg]
 | q :: es,acc,f+1,n,K,hf,hc,hq,ha=>by
  simp only [List.flatMap_cons,List.append_assoc] at ha;have hq0:=hq q (by simp);obtain ⟨x,B,hB,hx⟩:=eqK_name hq0;obtain ⟨q',he,hsem,hst⟩:=eq_ok hq0 ha;have a0:=ha;rw [hB,List.cons_append] at a0;have hne:∀ s:List UInt8,isWord s=true∨(∃ y,s=[y]∧isR (y.toNat:Int)=false)→Ps.sees I s n=false:=by
   intro s hs;obtain ⟨c,t,hce,hr,_,_,hw⟩:=isName_iff hx;rw [a0.sees,beq_eq_false_iff_ne];intro e;have e2:c :: t=s:=(by rw [←e];simp [nm,hce]);rcases hs with hs | ⟨y,rfl,hy⟩
   ·rw [←e2,hw] at hs;cases hs
   ·have:=hr c (by simp)
    rw [(List.cons.inj e2).1,hy] at this
    cases this
  have hlen:1≤(eqK q).length:=(by rw [hB];simp);obtain ⟨es',hL,hm⟩:=eqs_ok loc es (acc++[q']) f (n+(eqK q).length) K (by simp at hf;omega) (by simp at hc ⊢;omega) (fun r hr=>hq r (by simp [hr])) ha.app;refine ⟨q' :: es',?_,by simp [hst,hm]⟩;unfold Ps.lines;rw [hne [125] (.inr ⟨125,rfl,by decide⟩)];simp only [Bool.false_eq_true,if_false];have hline:Ps.line I loc acc n=.ok (loc,acc++[q']) (n+(eqK q).length):=by
   unfold Ps.line;rw [hne [118,97,114] (.inl (by decide))];simp only [Bool.false_eq_true,if_false];rw [if_neg (by simp at hc;omega),he];simp only [Res.bind];rw [hsem.need (by rfl)];simp only []
   congr 1
   omega
  rw [hline];simp only [Res.bind];rw [hL];simp;omega
theorem lines_ok {I:Inp} (es:List Eqn) (hes:es.length≤60) (hq:∀ q ∈ es,Rn.eqC q=0):∀ (ls loc:List De) (f n:Nat) (K:List Bt),ls.length+es.length<f→loc.length+ls.length≤30→(∀ d ∈ ls,Rn.declC d=0)→At I n (ls.flatMap localK++(es.flatMap eqK++(sg 125 :: K)))→∃ es',Ps.lines I f loc [] n=.ok (loc++ls,es') (n+(ls.flatMap localK).length+(es.flatMap eqK).length+1)∧es'.map stE=es.map stE
 | [],loc,f,n,K,hf,hc,hd,ha=>by
  simp only [List.flatMap_nil,List.nil_append] at ha;obtain ⟨es',h1,h2⟩:=eqs_ok loc es [] f n K (by simpa using hf) (by simpa using hes) hq ha;exact ⟨es',by simpa using h1,h2⟩
 | d :: ls,loc,f+1,n,K,hf,hc,hd,ha=>by
  simp only [List.flatMap_cons,List.append_assoc,localK,List.cons_append,List.nil_append] at ha;have a1:=ha.tail;have e1:=decl_ok (hd d (by simp)) a1 (Cl.mk (by decide));have a2:=a1.app;obtain ⟨es',hL,hm⟩:=lines_ok es hes hq ls (loc++[d]) f (n+1+(declK d).length+1) K (by simp at hf;omega) (by simp at hc ⊢;omega) (fun r hr=>hd r (by simp [hr])) a2.tail;refine ⟨es',?_,hm⟩;unfold Ps.lines;rw [show Ps.sees I [125] n=false by rw [ha.sees];decide];simp only [Bool.false_eq_true,if_false];have hline:Ps.line I loc [] n=.ok (loc++[d],[]) (n+1+(declK d).length+1):=by
   unfold Ps.line;rw [show Ps.sees I [118,97,114] n=true by rw [ha.sees];decide];simp only [if_true];rw [if_neg (by simp at hc;omega),e1];simp only [Res.bind];rw [a2.need (by rfl)]
  rw [hline];simp only [Res.bind];rw [hL];simp [localK];omega
theorem At.len {I:Inp} {n:Nat} {K:List Bt} (h:At I n K):I.L.length-n=K.length:=by
 unfold At at h;rw [←h];simp
theorem flat_len {α:Type} (g:α→List Bt) (hg:∀ x,1≤(g x).length):∀ l:List α,l.length≤(l.flatMap g).length
 | []=>by simp
 | x :: l=>by
  have h1:=flat_len g hg l;have h2:=hg x;simp only [List.flatMap_cons,List.length_append,List.length_cons];omega
theorem node_ok {I:Inp} {n:Nat} {m:Nd} {K:List Bt} (h:Rn.headC m=0) (hq:∀ q ∈ m.eqs,Rn.eqC q=0) (ha:At I n (nodeK m++K)):∃ m',Ps.node I n=.ok m' (n+(nodeK m).length)∧stN m'=stN m:=by
 obtain ⟨h1,h2,h3,h4,h5,h6,h7,h8⟩:=head_of h;have hdi:=decls_of h6;have hdo:=decls_of h7;have hdl:=decls_of h8;unfold nodeK at ha ⊢;simp only [List.cons_append,List.append_assoc,List.nil_append] at ha;unfold Ps.node;rw [ha.need (by rfl)];simp only [Res.bind];rw [ha.tail.name];simp only [];have a2:=ha.tail.tail;have hang:=ang_ok (read:=Ps.name I) h2 (fun s hs n K a c=>a.name) a2 (by decide);simp only [Res.bind] at hang;rw [hang];simp only [];have a3:=a2.app;rw [a3.need (by rfl)];simp only [];have a4:=a3.tail;have hI:(if Ps.sees I [41] (n+1+1+(angK nameK m.sizes).length+1)=true then Res.ok [] (n+1+1+(angK nameK m.sizes).length+1+1) else (Ps.row I (Ps.decl I) 30 [] (n+1+1+(angK nameK m.sizes).length+1)).bind fun l n7=>(Ps.need I [41] n7).bind fun _ n8=>.ok l n8)=.ok m.inn (n+1+1+(angK nameK m.sizes).length+1+(commasK declK m.inn).length+1):=by
  cases hin:m.inn with
  | nil=>
   rw [hin] at a4;simp only [commasK,List.nil_append] at a4 ⊢;rw [a4.sees];simp [sg]
  | cons x l=>
   rw [hin] at a4 hdi;have hd:Hd (commasK declK (x :: l)):=by
    unfold commasK;refine Hd.app ?_ _;unfold declK;exact Hd.name (decl_of (hdi.2 x (by simp))).1 _
   obtain ⟨b,B,hB,hb1,hb2⟩:=hd;have a4':=a4;rw [hB,List.cons_append] at a4';rw [a4'.sees,show (b.text==[41])=false by simpa using hb1];simp only [Bool.false_eq_true,if_false];rw [row_ok l x [] 30 _ _ (by simpa using hdi.1) (fun y hy n K a c=>decl_ok (hdi.2 y hy) a c) a4 (Cl.mk (by decide)) (no44 (by decide))];simp only [Res.bind,List.nil_append];rw [a4.app.need (by rfl)]
 simp only [Res.bind] at hI;rw [hI];simp only [];have a5:=a4.app.tail;rw [a5.need (by rfl)];simp only [];rw [a5.tail.need (by rfl)];simp only [];have a6:=a5.tail.tail;have hO:Ps.row I (Ps.decl I) 30 [] (n+1+1+(angK nameK m.sizes).length+1+(commasK declK m.inn).length+1+1+1)=.ok m.out (n+1+1+(angK nameK m.sizes).length+1+(commasK declK m.inn).length+1+1+1+(commasK declK m.out).length):=by
  cases hout:m.out with
  | nil=>rw [hout] at h5;simp at h5
  | cons x l=>
   rw [hout] at a6 hdo;rw [row_ok l x [] 30 _ _ (by simpa using hdo.1) (fun y hy n K a c=>decl_ok (hdo.2 y hy) a c) a6 (Cl.mk (by decide)) (no44 (by decide))];rfl
 rw [hO];simp only [];have a7:=a6.app;rw [a7.need (by rfl)];simp only [];rw [a7.tail.need (by rfl)];simp only [];have a8:=a7.tail.tail;have hlen:=a8.len;have hl1:m.loc.length≤(m.loc.flatMap localK).length:=flat_len localK (fun d=>by simp [localK]) m.loc;have hl2:m.eqs.length≤(m.eqs.flatMap eqK).length:=flat_len eqK (fun q=>by unfold eqK;simp;omega) m.eqs;obtain ⟨es',hL,hm⟩:=lines_ok m.eqs h3 hq m.loc [] (I.L.length-(n+1+1+(angK nameK m.sizes).length+1+(commasK declK m.inn).length+1+1+1+(commasK declK m.out).length+1+1)+1) _ K (by
  rw [hlen];simp only [List.length_append,List.length_cons];omega) (by simpa using hdl.1) hdl.2 a8
 rw [hL];simp only [List.nil_append];refine ⟨⟨m.name,(I.pk n).place,m.sizes,m.inn,m.out,m.loc,es'⟩,?_,?_⟩
 ·congr 1
  simp only [List.length_append,List.length_cons,List.length_nil];omega
 ·obtain ⟨nme,pl,szs,inn,out,loc,eqs⟩:=m
  simp only [stN] at hm ⊢;rw [hm]
theorem nodes_ok {I:Inp}:∀ (l:List Nd) (acc:List Nd) (f n:Nat),l.length≤f→(∀ m ∈ l,Rn.headC m=0∧∀ q ∈ m.eqs,Rn.eqC q=0)→At I n (l.flatMap nodeK)→∃ l' e,Ps.nodes I f acc n=.ok (acc++l') e∧l'.map stN=l.map stN
 | [],acc,f,n,hf,hh,ha=>by
  simp only [List.flatMap_nil] at ha;refine ⟨[],n,?_,rfl⟩
  cases f with
  | zero=>unfold Ps.nodes;rw [if_pos ha.nil.1];simp
  | succ f=>unfold Ps.nodes;rw [if_pos ha.nil.1];simp
 | m :: l,acc,f+1,n,hf,hh,ha=>by
  simp only [List.flatMap_cons] at ha;obtain ⟨m',he,hs⟩:=node_ok (hh m (by simp)).1 (hh m (by simp)).2 ha;have hk:¬(I.pk n).kind=0:=by
   have a0:=ha;unfold nodeK at a0;simp only [List.cons_append,List.append_assoc] at a0;rw [a0.pk.1];simp [wd]
  obtain ⟨l',e,hL,hm⟩:=nodes_ok l (acc++[m']) f (n+(nodeK m).length) (by simp at hf;omega) (fun x hx=>hh x (by simp [hx])) ha.app;refine ⟨m' :: l',e,?_,by simp [hs,hm]⟩;unfold Ps.nodes;rw [if_neg hk,he];simp only [Res.bind];rw [hL];simp
theorem parse_print {l:List Nd} (h:(Tx.printC l).1=0):∃ l',parseT (Tx.printT l).data.toList=(l',0,0)∧l'.map stN=l.map stN:=by
 obtain ⟨L,hL,hB⟩:=scan_prog h;have h0:(Rn.nodesC l).1=0:=by
  unfold Tx.printC at h
  split at h
  ·rename_i hn;exact absurd h hn
  ·rename_i hn;simpa using hn
 obtain ⟨p1,p2,p3⟩:=prog_of h0;unfold parseT;rw [hL];simp only [if_true]
 cases l with
 | nil=>simp at p1
 | cons m l=>
  have ha:At ⟨L,(Tx.printT (m :: l)).data.toList.length⟩ 0 (nodeK m++l.flatMap nodeK):=by
   unfold At;simp only [List.drop_zero];rw [hB];rfl
  obtain ⟨m',he,hs⟩:=node_ok (p3 m (by simp)).1 (p3 m (by simp)).2 ha;obtain ⟨l',e,hN,hm⟩:=nodes_ok l [m'] 9 _ (by simpa using p2) (fun x hx=>p3 x (by simp [hx])) ha.app;unfold Ps.program;rw [he];simp only [Res.bind];rw [hN];exact ⟨m' :: l',rfl,by simp [hs,hm]⟩
end Bk
end Go.Proofs.YtophfbefnaelfaaGreatDoor
