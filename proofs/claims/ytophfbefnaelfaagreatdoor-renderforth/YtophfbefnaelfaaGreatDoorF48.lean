import Derived.Test.YtophfbefnaelfaaGreatDoorF47
set_option linter.unusedVariables false
set_option linter.unusedSimpArgs false
set_option maxHeartbeats 64000000
set_option maxRecDepth 100000
namespace Go.Proofs.YtophfbefnaelfaaGreatDoor
open Go.RowKit
namespace Bk
open Tk
theorem partsC_zero:∀ {L:List Ex},(∀ x ∈ L,Rn.partC x=0)→Rn.partsC L=0
 | [],_=>by simp [Rn.partsC]
 | x :: l,h=>by
  unfold Rn.partsC;rw [if_pos (h x (by simp))];exact partsC_zero (fun y hy=>h y (by simp [hy]))
theorem partC_of {op k n:Int} {name:ByteArray} {S:List (List Tm)} {L:List Ex} (h:PartOk op k n name S L):Rn.partC (.mk op k n name S L)=0:=by
 unfold Rn.partC;have hS:Rn.firstC Rn.sizeC S=0:=firstC_zero h.sizes;rw [if_neg (by simp [h.form]),if_neg (by rintro ⟨e,hn⟩;rw [h.name e] at hn;cases hn),if_neg (by have:=h.num;omega),if_neg (by simp [hS])];exact partsC_zero h.parts
theorem form_mk {op k n:Int} {name:ByteArray} {S:List (List Tm)} {L:List Ex} (h1:1≤op∧op≤15) (h2:(Rn.shp op.toNat).2.1≤(L.length:Int)) (h3:(L.length:Int)≤(Rn.shp op.toNat).2.2.1) (h4:(S.length:Int)=(Rn.shp op.toNat).2.2.2.1) (h5:(Rn.shp op.toNat).2.2.2.2.1≤k) (h6:k≤(Rn.shp op.toNat).2.2.2.2.2) (h7:Rn.numOk op n=true) (h8:op=3∨name.size=0):Rn.formOk (.mk op k n name S L)=true:=by
 unfold Rn.formOk;simp only [Bool.and_eq_true,Bool.or_eq_true,Ex.op,Ex.k,Ex.n,Ex.name,Ex.S,Ex.L];exact ⟨decide_eq_true h1,⟨⟨⟨⟨⟨decide_eq_true h2,decide_eq_true h3⟩,decide_eq_true h4⟩,decide_eq_true h5⟩,decide_eq_true h6⟩,h7⟩,h8.imp decide_eq_true decide_eq_true⟩
theorem right_mk {op k:Int} {S:List (List Tm)} {L:List Ex} (ho:4≤op∧op≤15) (h2:(Rn.shp op.toNat).2.1≤(L.length:Int)) (h3:(L.length:Int)≤(Rn.shp op.toNat).2.2.1) (h4:(S.length:Int)=(Rn.shp op.toNat).2.2.2.1) (h5:(Rn.shp op.toNat).2.2.2.2.1≤k) (h6:k≤(Rn.shp op.toNat).2.2.2.2.2) (hS:∀ s ∈ S,Rn.sizeC s=0) (hL:∀ x ∈ L,Rn.partC x=0):Rn.partC (.mk op k 0 ⟨#[]⟩ S L)=0:=by
 refine partC_of ⟨form_mk (by omega) h2 h3 h4 h5 h6 ?_ (.inr rfl),fun e=>by omega,by omega,hS,hL⟩;unfold Rn.numOk;rw [if_neg (by omega),if_neg (by omega)];simp
theorem bin_r {k:Int} {x y:Ex} (hk:1≤k∧k≤12) (hx:Rn.partC x=0) (hy:Rn.partC y=0):Rn.partC (.mk 5 k 0 ⟨#[]⟩ [] [x,y])=0 :=
 right_mk (by omega) (by simp [Rn.shp,Rn.shpT]) (by simp [Rn.shp,Rn.shpT]) (by simp [Rn.shp,Rn.shpT]) (by simpa [Rn.shp,Rn.shpT] using hk.1) (by simpa [Rn.shp,Rn.shpT] using hk.2) (by simp) (by intro z hz;simp at hz;rcases hz with rfl | rfl<;>assumption)
def RA (A:Nat→Res Ex):Prop:=∀ n e m,A n=.ok e m→Rn.partC e=0
theorem btw_in {a c:Int} {t:List UInt8} (h:btw a c t≠0):a≤btw a c t∧btw a c t≤c:=by
 unfold btw at h ⊢
 split at h
 ·exact absurd rfl h
 ·rename_i hn
  rw [if_neg hn];omega
theorem more_r {I:Inp} {R:Nat→Res Ex} (hR:RA R) {a c:Int} (hac:1≤a∧c≤12):∀ (f:Nat) (e:Ex) (n m:Nat) (v:Ex),Rn.partC e=0→Ps.more I R a c f e n=.ok v m→Rn.partC v=0
 | 0,e,n,m,v,he,h=>by unfold Ps.more at h;injection h with h1 _;rw [←h1];exact he
 | f+1,e,n,m,v,he,h=>by
  unfold Ps.more at h
  split at h
  ·injection h with h1 _;rw [←h1];exact he
  ·rename_i hb
   obtain ⟨r,m1,h1,h2⟩:=bind_ok h;have hk:=btw_in hb;exact more_r hR hac f _ _ _ _ (bin_r (by omega) he (hR _ _ _ h1)) h2
theorem fromLeft_r {I:Inp} {R:Nat→Res Ex} (hR:RA R) {a c:Int} (hac:1≤a∧c≤12):RA (Ps.fromLeft I R a c):=by
 intro n e m h;unfold Ps.fromLeft at h;obtain ⟨x,m1,h1,h2⟩:=bind_ok h;exact more_r hR hac _ _ _ _ _ (hR _ _ _ h1) h2
theorem cmp_r {I:Inp} {R:Nat→Res Ex} (hR:RA R):RA (Ps.cmp I R):=by
 intro n e m h;unfold Ps.cmp at h;obtain ⟨x,m1,h1,h2⟩:=bind_ok h
 split at h2
 ·injection h2 with h3 _;rw [←h3];exact hR _ _ _ h1
 ·rename_i hb
  obtain ⟨r,m2,h4,h5⟩:=bind_ok h2;injection h5 with h6 _;rw [←h6];have hk:=btw_in hb;exact bin_r (by omega) (hR _ _ _ h1) (hR _ _ _ h4)
theorem exprOf_r {I:Inp} {A:Nat→Res Ex} (hA:RA A):RA (Ps.exprOf I A) :=
 fromLeft_r (fromLeft_r (cmp_r (fromLeft_r (fromLeft_r hA (by omega)) (by omega))) (by omega)) (by omega)
theorem wordAt_in {I:Inp} {n:Nat}:∀ (l:List (List UInt8)) (k j:Int),Ps.wordAt I n l k=some j→k≤j∧j<k+l.length
 | [],k,j,h=>by simp [Ps.wordAt] at h
 | x :: l,k,j,h=>by
  unfold Ps.wordAt at h
  split at h
  ·injection h with h;simp;omega
  ·have:=wordAt_in l (k+1) j h
   simp;omega
theorem oper_r {I:Inp} {n m:Nat} {k:Int} (h:Ps.oper I n=.ok k m):1≤k∧k≤14:=by
 unfold Ps.oper at h
 split at h
 ·rename_i j hj
  injection h with h1 _;have:=wordAt_in _ _ _ hj;simp [Ps.words] at this;omega
 ·unfold Ps.refuse at h;cases h
def JR (J:Option (Nat→Res Ex)):Prop:=∀ A,J=some A→RA A
theorem opn_r {I:Inp} {J:Option (Nat→Res Ex)} (hJ:JR J) {n m:Nat} {k:(Nat→Res Ex)→Nat→Res Ex} {e:Ex} (h:Ps.opn I J n k=.ok e m):∃ A,RA A∧k A (n+1)=.ok e m:=by
 unfold Ps.opn at h
 split at h
 ·cases h
 ·rename_i A
  exact ⟨A,hJ A rfl,h⟩
theorem parts_nil_r {I:Inp} {E:Nat→Res Ex} {e v:Ex} {n m:Nat} (h:Ps.parts I E [] e n=.ok v m):v=e:=by
 unfold Ps.parts at h;injection h with h1 _;exact h1.symm
theorem parts_cons_r {I:Inp} {E:Nat→Res Ex} {p:Ps.Pt} {ps:List Ps.Pt} {e v:Ex} {n m:Nat} (h:Ps.parts I E (p :: ps) e n=.ok v m):∃ n1 e1 n2,Ps.part I E p e n1=.ok e1 n2∧Ps.parts I E ps e1 n2=.ok v m:=by
 unfold Ps.parts at h;obtain ⟨_,m1,_,h2⟩:=bind_ok h;obtain ⟨e1,m2,h3,h4⟩:=bind_ok h2;exact ⟨_,e1,m2,h3,h4⟩
theorem brackets_r {I:Inp} {E:Nat→Res Ex} {p:Ps.Pt} {ps:List Ps.Pt} {e v:Ex} {n m:Nat} (h:Ps.brackets I E p ps e n=.ok v m):∃ n1 e1 n2 n3,Ps.part I E p e n1=.ok e1 n2∧Ps.parts I E ps e1 n2=.ok v n3:=by
 unfold Ps.brackets at h;obtain ⟨_,m1,_,h2⟩:=bind_ok h;obtain ⟨e1,m2,h3,h4⟩:=bind_ok h2;obtain ⟨e2,m3,h5,h6⟩:=bind_ok h4;obtain ⟨_,m4,_,h8⟩:=bind_ok h6;injection h8 with h9 _;subst h9;exact ⟨_,e1,m2,m3,h3,h5⟩
theorem part_r {I:Inp} {E:Nat→Res Ex} (hE:RA E) {e v:Ex} {n m:Nat} (h:Ps.part I E .part e n=.ok v m):∃ x,Rn.partC x=0∧v=Ps.Ex.addL e x:=by
 unfold Ps.part at h;obtain ⟨x,m1,h1,h2⟩:=bind_ok h;injection h2 with h3 _;exact ⟨x,hE _ _ _ h1,h3.symm⟩
theorem psize_r {I:Inp} (hI:Rt I) {E:Nat→Res Ex} {e v:Ex} {n m:Nat} (h:Ps.part I E .size e n=.ok v m):∃ s,Rn.sizeC s=0∧v=Ps.Ex.addS e s:=by
 unfold Ps.part at h;obtain ⟨x,m1,h1,h2⟩:=bind_ok h;injection h2 with h3 _;exact ⟨x,size_r hI h1,h3.symm⟩
theorem poper_r {I:Inp} {E:Nat→Res Ex} {e v:Ex} {n m:Nat} (h:Ps.part I E .oper e n=.ok v m):∃ k,(1≤k∧k≤14)∧v=Ps.Ex.setK e k:=by
 unfold Ps.part at h;obtain ⟨x,m1,h1,h2⟩:=bind_ok h;injection h2 with h3 _;exact ⟨x,oper_r h1,h3.symm⟩
theorem ptwo_r {I:Inp} {E:Nat→Res Ex} (hE:RA E) {e v:Ex} {n m:Nat} (h:Ps.part I E .oneOrTwo e n=.ok v m):(∃ x,Rn.partC x=0∧v=Ps.Ex.addL e x)∨∃ x y,Rn.partC x=0∧Rn.partC y=0∧v=Ps.Ex.addL (Ps.Ex.addL e x) y:=by
 unfold Ps.part at h;obtain ⟨x,m1,h1,h2⟩:=bind_ok h
 split at h2
 ·obtain ⟨y,m2,h3,h4⟩:=bind_ok h2
  injection h4 with h5 _;exact .inr ⟨x,y,hE _ _ _ h1,hE _ _ _ h3,h5.symm⟩
 ·injection h2 with h3 _
  exact .inl ⟨x,hE _ _ _ h1,h3.symm⟩
theorem two_r {I:Inp} {E:Nat→Res Ex} (hE:RA E) {op k:Int} (ho:(op=5∧1≤k∧k≤12)∨(op=14∧k=0)∨(op=15∧k=0)) {v:Ex} {n m:Nat} (h:Ps.brackets I E .part [.part] (Ps.bare op k) n=.ok v m):Rn.partC v=0:=by
 obtain ⟨_,e1,_,_,h1,h2⟩:=brackets_r h;obtain ⟨x,hx,rfl⟩:=part_r hE h1;obtain ⟨_,e2,_,h3,h4⟩:=parts_cons_r h2;obtain ⟨y,hy,rfl⟩:=part_r hE h3;rw [parts_nil_r h4];simp only [Ps.bare,addL_mk,List.nil_append,List.cons_append];rcases ho with ⟨rfl,h1,h2⟩ | ⟨rfl,rfl⟩ | ⟨rfl,rfl⟩
 ·exact bin_r ⟨h1,h2⟩ hx hy
 ·exact right_mk (by omega) (by simp [Rn.shp,Rn.shpT]) (by simp [Rn.shp,Rn.shpT]) (by simp [Rn.shp,Rn.shpT]) (by decide) (by decide) (by simp) (by intro z hz;simp at hz;rcases hz with rfl | rfl<;>assumption)
 ·exact right_mk (by omega) (by simp [Rn.shp,Rn.shpT]) (by simp [Rn.shp,Rn.shpT]) (by simp [Rn.shp,Rn.shpT]) (by decide) (by decide) (by simp) (by intro z hz;simp at hz;rcases hz with rfl | rfl<;>assumption)
theorem fold_r {I:Inp} {E:Nat→Res Ex} (hE:RA E) {op:Int} (ho:op=8∨op=9) {v:Ex} {n m:Nat} (h:Ps.brackets I E .oper [.part,.part] (Ps.bare op 0) n=.ok v m):Rn.partC v=0:=by
 obtain ⟨_,e1,_,_,h1,h2⟩:=brackets_r h;obtain ⟨k,hk,rfl⟩:=poper_r h1;obtain ⟨_,e2,_,h3,h4⟩:=parts_cons_r h2;obtain ⟨x,hx,rfl⟩:=part_r hE h3;obtain ⟨_,e3,_,h5,h6⟩:=parts_cons_r h4;obtain ⟨y,hy,rfl⟩:=part_r hE h5;rw [parts_nil_r h6];simp only [Ps.bare,setK_mk,addL_mk,List.nil_append,List.cons_append];rcases ho with rfl | rfl
 ·exact right_mk (by omega) (by simp [Rn.shp,Rn.shpT]) (by simp [Rn.shp,Rn.shpT]) (by simp [Rn.shp,Rn.shpT]) (by simpa [Rn.shp,Rn.shpT] using hk.1) (by simpa [Rn.shp,Rn.shpT] using hk.2) (by simp) (by intro z hz;simp at hz;rcases hz with rfl | rfl<;>assumption)
 ·exact right_mk (by omega) (by simp [Rn.shp,Rn.shpT]) (by simp [Rn.shp,Rn.shpT]) (by simp [Rn.shp,Rn.shpT]) (by simpa [Rn.shp,Rn.shpT] using hk.1) (by simpa [Rn.shp,Rn.shpT] using hk.2) (by simp) (by intro z hz;simp at hz;rcases hz with rfl | rfl<;>assumption)
theorem map_r {I:Inp} {E:Nat→Res Ex} (hE:RA E) {v:Ex} {n m:Nat} (h:Ps.brackets I E .oper [.oneOrTwo] (Ps.bare 7 0) n=.ok v m):Rn.partC v=0:=by
 obtain ⟨_,e1,_,_,h1,h2⟩:=brackets_r h;obtain ⟨k,hk,rfl⟩:=poper_r h1;obtain ⟨_,e2,_,h3,h4⟩:=parts_cons_r h2;rw [parts_nil_r h4];rcases ptwo_r hE h3 with ⟨x,hx,rfl⟩ | ⟨x,y,hx,hy,rfl⟩
 ·simp only [Ps.bare,setK_mk,addL_mk,List.nil_append,List.cons_append]
  exact right_mk (by omega) (by simp [Rn.shp,Rn.shpT]) (by simp [Rn.shp,Rn.shpT]) (by simp [Rn.shp,Rn.shpT]) (by simpa [Rn.shp,Rn.shpT] using hk.1) (by simpa [Rn.shp,Rn.shpT] using hk.2) (by simp) (by intro z hz;simp at hz;rcases hz with rfl;assumption)
 ·simp only [Ps.bare,setK_mk,addL_mk,List.nil_append,List.cons_append]
  exact right_mk (by omega) (by simp [Rn.shp,Rn.shpT]) (by simp [Rn.shp,Rn.shpT]) (by simp [Rn.shp,Rn.shpT]) (by simpa [Rn.shp,Rn.shpT] using hk.1) (by simpa [Rn.shp,Rn.shpT] using hk.2) (by simp) (by intro z hz;simp at hz;rcases hz with rfl | rfl<;>assumption)
theorem form_r {I:Inp} (hI:Rt I) {J:Option (Nat→Res Ex)} (hJ:JR J) {n m:Nat} {v:Ex} (h:Ps.form I J n=.ok v m):Rn.partC v=0:=by
 unfold Ps.form at h;simp only [] at h
 split at h
 ·obtain ⟨A,hA,h1⟩:=opn_r hJ h;exact two_r (exprOf_r hA) (.inl ⟨rfl,by omega,by omega⟩) h1
 split at h
 ·obtain ⟨A,hA,h1⟩:=opn_r hJ h;exact two_r (exprOf_r hA) (.inl ⟨rfl,by omega,by omega⟩) h1
 split at h
 ·obtain ⟨A,hA,h1⟩:=opn_r hJ h;exact map_r (exprOf_r hA) h1
 split at h
 ·obtain ⟨A,hA,h1⟩:=opn_r hJ h;exact fold_r (exprOf_r hA) (.inl rfl) h1
 split at h
 ·obtain ⟨A,hA,h1⟩:=opn_r hJ h;exact fold_r (exprOf_r hA) (.inr rfl) h1
 split at h
 ·obtain ⟨A,hA,h0⟩:=opn_r hJ h
  obtain ⟨_,e1,_,_,h1,h2⟩:=brackets_r h0;obtain ⟨x,hx,rfl⟩:=part_r (exprOf_r hA) h1;obtain ⟨_,e2,_,h3,h4⟩:=parts_cons_r h2;obtain ⟨s,hs,rfl⟩:=psize_r hI h3;rw [parts_nil_r h4];simp only [Ps.bare,addL_mk,addS_mk,List.nil_append,List.cons_append];exact right_mk (by omega) (by simp [Rn.shp,Rn.shpT]) (by simp [Rn.shp,Rn.shpT]) (by simp [Rn.shp,Rn.shpT]) (by decide) (by decide) (by intro z hz;simp at hz;rcases hz with rfl;assumption) (by intro z hz;simp at hz;rcases hz with rfl;assumption)
 split at h
 ·obtain ⟨A,hA,h0⟩:=opn_r hJ h
  obtain ⟨_,e1,_,_,h1,h2⟩:=brackets_r h0;obtain ⟨x,hx,rfl⟩:=part_r (exprOf_r hA) h1;obtain ⟨_,e2,_,h3,h4⟩:=parts_cons_r h2;obtain ⟨y,hy,rfl⟩:=part_r (exprOf_r hA) h3;obtain ⟨_,e3,_,h5,h6⟩:=parts_cons_r h4;obtain ⟨z,hz,rfl⟩:=part_r (exprOf_r hA) h5;rw [parts_nil_r h6];simp only [Ps.bare,addL_mk,List.nil_append,List.cons_append];exact right_mk (by omega) (by simp [Rn.shp,Rn.shpT]) (by simp [Rn.shp,Rn.shpT]) (by simp [Rn.shp,Rn.shpT]) (by decide) (by decide) (by simp) (by intro u hu;simp at hu;rcases hu with rfl | rfl | rfl<;>assumption)
 split at h
 ·obtain ⟨A,hA,h0⟩:=opn_r hJ h
  obtain ⟨_,e1,_,_,h1,h2⟩:=brackets_r h0;obtain ⟨x,hx,rfl⟩:=part_r (exprOf_r hA) h1;obtain ⟨_,e2,_,h3,h4⟩:=parts_cons_r h2;obtain ⟨s,hs,rfl⟩:=psize_r hI h3;obtain ⟨_,e3,_,h5,h6⟩:=parts_cons_r h4;obtain ⟨t,ht,rfl⟩:=psize_r hI h5;rw [parts_nil_r h6];simp only [Ps.bare,addL_mk,addS_mk,List.nil_append,List.cons_append];exact right_mk (by omega) (by simp [Rn.shp,Rn.shpT]) (by simp [Rn.shp,Rn.shpT]) (by simp [Rn.shp,Rn.shpT]) (by decide) (by decide) (by intro z hz;simp at hz;rcases hz with rfl | rfl<;>assumption) (by intro z hz;simp at hz;rcases hz with rfl;assumption)
 split at h
 ·obtain ⟨A,hA,h1⟩:=opn_r hJ h;exact two_r (exprOf_r hA) (.inr (.inl ⟨rfl,rfl⟩)) h1
 split at h
 ·obtain ⟨A,hA,h1⟩:=opn_r hJ h;exact two_r (exprOf_r hA) (.inr (.inr ⟨rfl,rfl⟩)) h1
 unfold Ps.refuse at h
 cases h
theorem leaf_r {op n:Int} {name:ByteArray} (h:(op=1∧0≤n∧n<1000000000000000000∧name=⟨#[]⟩)∨(op=2∧(n=0∨n=1)∧name=⟨#[]⟩)∨(op=3∧n=0∧isName name.data.toList=true)):Rn.partC (.mk op 0 n name [] [])=0:=by
 rcases h with ⟨rfl,h1,h2,rfl⟩ | ⟨rfl,h1,rfl⟩ | ⟨rfl,rfl,h1⟩
 ·exact partC_of ⟨form_mk (by omega) (by simp [Rn.shp,Rn.shpT]) (by simp [Rn.shp,Rn.shpT]) (by simp [Rn.shp,Rn.shpT]) (by decide) (by decide) (by simp [Rn.numOk]) (.inr rfl),fun e=>by omega,⟨h1,h2⟩,by simp,by simp⟩
 ·exact partC_of ⟨form_mk (by omega) (by simp [Rn.shp,Rn.shpT]) (by simp [Rn.shp,Rn.shpT]) (by simp [Rn.shp,Rn.shpT]) (by decide) (by decide) (by simp [Rn.numOk,h1]) (.inr rfl),fun e=>by omega,by omega,by simp,by simp⟩
 ·exact partC_of ⟨form_mk (by omega) (by simp [Rn.shp,Rn.shpT]) (by simp [Rn.shp,Rn.shpT]) (by simp [Rn.shp,Rn.shpT]) (by decide) (by decide) (by simp [Rn.numOk]) (.inl rfl),fun _=>h1,by omega,by simp,by simp⟩
theorem unit_r {I:Inp} (hI:Rt I) {J:Option (Nat→Res Ex)} (hJ:JR J) {n m:Nat} {v:Ex} (h:Ps.unit I J n=.ok v m):Rn.partC v=0:=by
 unfold Ps.unit at h
 split at h
 ·rename_i hk
  injection h with h1 _;rw [←h1];exact leaf_r (.inl ⟨rfl,((hI n).2 hk).1,((hI n).2 hk).2,rfl⟩)
 split at h
 ·rename_i hk
  injection h with h1 _;rw [←h1];exact leaf_r (.inr (.inr ⟨rfl,rfl,(hI n).1 hk⟩))
 split at h
 ·injection h with h1 _;rw [←h1];exact leaf_r (.inr (.inl ⟨rfl,.inr rfl,rfl⟩))
 split at h
 ·injection h with h1 _;rw [←h1];exact leaf_r (.inr (.inl ⟨rfl,.inl rfl,rfl⟩))
 split at h
 ·obtain ⟨A,hA,h1⟩:=opn_r hJ h
  unfold Ps.bracketed at h1;obtain ⟨e,m1,h2,h3⟩:=bind_ok h1;obtain ⟨_,m2,_,h4⟩:=bind_ok h3;injection h4 with h5 _;rw [←h5];exact exprOf_r hA _ _ _ h2
 split at h
 ·obtain ⟨A,hA,h1⟩:=opn_r hJ h
  unfold Ps.choice at h1;obtain ⟨x,m1,h2,h3⟩:=bind_ok h1;obtain ⟨_,m2,_,h4⟩:=bind_ok h3;obtain ⟨y,m3,h5,h6⟩:=bind_ok h4;obtain ⟨_,m4,_,h7⟩:=bind_ok h6;obtain ⟨z,m5,h8,h9⟩:=bind_ok h7;injection h9 with h10 _;rw [←h10];have hx:=exprOf_r hA _ _ _ h2;have hy:=exprOf_r hA _ _ _ h5;have hz:=exprOf_r hA _ _ _ h8;exact right_mk (by omega) (by simp [Rn.shp,Rn.shpT]) (by simp [Rn.shp,Rn.shpT]) (by simp [Rn.shp,Rn.shpT]) (by decide) (by decide) (by simp) (by intro u hu;simp at hu;rcases hu with rfl | rfl | rfl<;>assumption)
 ·exact form_r hI hJ h
theorem indices_r {I:Inp} {J:Option (Nat→Res Ex)} (hJ:JR J):∀ (f:Nat) (e:Ex) (n m:Nat) (v:Ex),Rn.partC e=0→Ps.indices I J f e n=.ok v m→Rn.partC v=0
 | 0,e,n,m,v,he,h=>by unfold Ps.indices at h;injection h with h1 _;rw [←h1];exact he
 | f+1,e,n,m,v,he,h=>by
  unfold Ps.indices at h
  split at h
  ·obtain ⟨e1,m1,h1,h2⟩:=bind_ok h
   obtain ⟨A,hA,h3⟩:=opn_r hJ h1;unfold Ps.index at h3;obtain ⟨x,n1,h4,h5⟩:=bind_ok h3;obtain ⟨_,n2,_,h6⟩:=bind_ok h5;obtain ⟨y,n3,h7,h8⟩:=bind_ok h6;obtain ⟨_,n4,_,h9⟩:=bind_ok h8;injection h9 with h10 _;have hx:=exprOf_r hA _ _ _ h4;have hy:=exprOf_r hA _ _ _ h7;refine indices_r hJ f e1 _ _ _ ?_ h2;rw [←h10];exact right_mk (by omega) (by simp [Rn.shp,Rn.shpT]) (by simp [Rn.shp,Rn.shpT]) (by simp [Rn.shp,Rn.shpT]) (by decide) (by decide) (by simp) (by intro u hu;simp at hu;rcases hu with rfl | rfl | rfl<;>assumption)
  ·injection h with h1 _;rw [←h1];exact he
theorem aheadS_r {I:Inp} (hI:Rt I) {J:Option (Nat→Res Ex)} (hJ:JR J):RA (Ps.aheadS I J):=by
 intro n v m h;unfold Ps.aheadS at h
 split at h
 ·obtain ⟨A,hA,h1⟩:=opn_r hJ h
  unfold Ps.signed at h1;obtain ⟨x,m1,h2,h3⟩:=bind_ok h1;injection h3 with h4 _;rw [←h4];have hx:=hA _ _ _ h2;exact right_mk (by omega) (by simp [Rn.shp,Rn.shpT]) (by simp [Rn.shp,Rn.shpT]) (by simp [Rn.shp,Rn.shpT]) (by decide) (by decide) (by simp) (by intro u hu;simp at hu;rcases hu with rfl;assumption)
 split at h
 ·obtain ⟨A,hA,h1⟩:=opn_r hJ h
  unfold Ps.signed at h1;obtain ⟨x,m1,h2,h3⟩:=bind_ok h1;injection h3 with h4 _;rw [←h4];have hx:=hA _ _ _ h2;exact right_mk (by omega) (by simp [Rn.shp,Rn.shpT]) (by simp [Rn.shp,Rn.shpT]) (by simp [Rn.shp,Rn.shpT]) (by decide) (by decide) (by simp) (by intro u hu;simp at hu;rcases hu with rfl;assumption)
 ·obtain ⟨e,m1,h1,h2⟩:=bind_ok h
  exact indices_r hJ _ _ _ _ _ (unit_r hI hJ h1) h2
theorem ahead_r {I:Inp} (hI:Rt I):∀ d,RA (Ps.ahead I d)
 | 0=>aheadS_r hI (fun A h=>by cases h)
 | d+1=>aheadS_r hI (fun A h=>by injection h with h;rw [←h];exact ahead_r hI d)
theorem whole_r {I:Inp} (hI:Rt I) {n m:Nat} {e:Ex} (h:Ps.whole I n=.ok e m):Rn.exprC e=0:=by
 unfold Ps.whole at h;obtain ⟨x,m1,h1,h2⟩:=bind_ok h
 split at h2
 ·cases h2
 ·rename_i hc
  injection h2 with h3 _;subst h3;rw [count_eq _ _ nR] at hc;unfold Rn.exprC;rw [if_neg hc];exact exprOf_r (ahead_r hI 60) _ _ _ h1
/-! ### equations, nodes -/
theorem eqC_of {q:Eqn} (h1:0<q.names.length) (h2:q.names.length≤30) (h3:∀ s ∈ q.names,isName s.data.toList=true) (h4:q.node.size≠0→isName q.node.data.toList=true) (h5:q.node.size=0→q.names.length=1∧q.E.length=1∧q.S.length=0) (h6:q.S.length≤3) (h7:q.E.length≤30) (h8:∀ s ∈ q.S,Rn.sizeC s=0) (h9:∀ e ∈ q.E,Rn.exprC e=0):Rn.eqC q=0:=by
 unfold Rn.eqC;have hn:Rn.firstC Rn.nameC q.names=0:=firstC_zero (fun s hs=>by unfold Rn.nameC;rw [if_pos (h3 s hs)]);have hS:Rn.firstC Rn.sizeC q.S=0:=firstC_zero h8;rw [if_neg (by
  rintro (h | ⟨h,h'⟩)
  ·omega
  ·exact h' (h5 h)),if_neg (by omega),if_neg (by
  rintro (h | ⟨h,h'⟩)
  ·exact h hn
  ·rw [h4 h] at h';cases h'),if_neg (by simp [hS])]
 exact firstC_zero h9
theorem name_pos {s:ByteArray} (h:isName s.data.toList=true):s.size≠0:=by
 intro e;rw [byte_empty e] at h;exact absurd h (by decide)
theorem call_r {I:Inp} (hI:Rt I) {p:Int} {l:List ByteArray} {n m:Nat} {q:Eqn} (hl:0<l.length∧l.length≤30) (hn:∀ s ∈ l,isName s.data.toList=true) (h:Ps.call I p l n=.ok q m):Rn.eqC q=0:=by
 unfold Ps.call at h;obtain ⟨_,m1,_,h1⟩:=bind_ok h;obtain ⟨s,m2,h2,h3⟩:=bind_ok h1;obtain ⟨z,m3,h4,h5⟩:=bind_ok h3;obtain ⟨_,m4,_,h6⟩:=bind_ok h5;obtain ⟨e,m5,h7,h8⟩:=bind_ok h6;injection h8 with h9 _;subst h9;have hs:=name_r hI h2;have hz:(∀ s ∈ z,Rn.sizeC s=0)∧z.length≤3:=by
  split at h4
  ·obtain ⟨z',k1,g1,g2⟩:=bind_ok h4
   obtain ⟨_,k2,_,g3⟩:=bind_ok g2;injection g3 with g4 _;subst g4;have:=row_r (P:=fun s=>Rn.sizeC s=0) (fun n v m h=>size_r hI h) _ _ _ _ _ g1 (by simp);simp only [List.length_nil] at this;exact ⟨this.1,by omega⟩
  ·injection h4 with g4 _
   subst g4;simp
 have he:(∀ x ∈ e,Rn.exprC x=0)∧e.length≤30:=by
  split at h7
  ·injection h7 with g4 _
   subst g4;simp
  ·obtain ⟨z',k1,g1,g2⟩:=bind_ok h7
   obtain ⟨_,k2,_,g3⟩:=bind_ok g2;injection g3 with g4 _;subst g4;have:=row_r (P:=fun s=>Rn.exprC s=0) (fun n v m h=>whole_r hI h) _ _ _ _ _ g1 (by simp);simp only [List.length_nil] at this;exact ⟨this.1,by omega⟩
 exact eqC_of hl.1 hl.2 hn (fun _=>hs) (fun h0=>absurd h0 (name_pos hs)) hz.2 he.2 hz.1 he.1
theorem equation_r {I:Inp} (hI:Rt I) {n m:Nat} {q:Eqn} (h:Ps.equation I n=.ok q m):Rn.eqC q=0:=by
 unfold Ps.equation at h;obtain ⟨l,m1,h1,h2⟩:=bind_ok h;obtain ⟨_,m2,_,h3⟩:=bind_ok h2;have hl:=row_r (P:=fun s=>isName s.data.toList=true) (fun n v m h=>name_r hI h) _ _ _ _ _ h1 (by simp);simp only [List.length_nil] at hl
 split at h3
 ·rename_i hc
  obtain ⟨e,m3,h4,h5⟩:=bind_ok h3;injection h5 with h6 _;subst h6;exact eqC_of (by simp only;omega) (by simp only;omega) hl.1 (fun h0=>absurd rfl h0) (fun _=>⟨hc.1,rfl,rfl⟩) (by simp) (by simp) (by simp) (by intro x hx;simp at hx;subst hx;exact whole_r hI h4)
 ·exact call_r hI (by omega) hl.1 h3
theorem line_r {I:Inp} (hI:Rt I) {loc:List De} {eqs:List Eqn} {n m:Nat} {p:List De × List Eqn} (hl:(∀ d ∈ loc,Rn.declC d=0)∧loc.length≤30) (he:(∀ q ∈ eqs,Rn.eqC q=0)∧eqs.length≤60) (h:Ps.line I loc eqs n=.ok p m):((∀ d ∈ p.1,Rn.declC d=0)∧p.1.length≤30)∧((∀ q ∈ p.2,Rn.eqC q=0)∧p.2.length≤60):=by
 unfold Ps.line at h;obtain ⟨p',m1,h1,h2⟩:=bind_ok h;obtain ⟨_,m2,_,h3⟩:=bind_ok h2;injection h3 with h4 _;subst h4
 split at h1
 ·split at h1
  ·cases h1
  ·rename_i hc
   obtain ⟨d,m3,g1,g2⟩:=bind_ok h1;injection g2 with g3 _;subst g3;refine ⟨⟨fun x hx=>?_,by simp only [List.length_append,List.length_singleton];omega⟩,he⟩;rcases List.mem_append.1 hx with hx | hx
   ·exact hl.1 x hx
   ·rw [List.mem_singleton] at hx;subst hx;exact decl_r hI g1
 ·split at h1
  ·cases h1
  ·rename_i hc
   obtain ⟨q,m3,g1,g2⟩:=bind_ok h1;injection g2 with g3 _;subst g3;have hk:(I.pk n).kind=2:=by
    unfold Ps.equation at g1;obtain ⟨l,k1,f1,_⟩:=bind_ok g1;unfold Ps.row at f1;obtain ⟨v,k2,f2,_⟩:=bind_ok f1;unfold Ps.name at f2
    split at f2
    ·assumption
    ·unfold Ps.refuse at f2;cases f2
   refine ⟨hl,fun x hx=>?_,by simp only [List.length_append,List.length_singleton];have:=not_and.1 hc hk;omega⟩;rcases List.mem_append.1 hx with hx | hx
   ·exact he.1 x hx
   ·rw [List.mem_singleton] at hx;subst hx;exact equation_r hI g1
theorem lines_r {I:Inp} (hI:Rt I):∀ (f:Nat) (loc:List De) (eqs:List Eqn) (n m:Nat) (p:List De × List Eqn),(∀ d ∈ loc,Rn.declC d=0)∧loc.length≤30→(∀ q ∈ eqs,Rn.eqC q=0)∧eqs.length≤60→Ps.lines I f loc eqs n=.ok p m→((∀ d ∈ p.1,Rn.declC d=0)∧p.1.length≤30)∧((∀ q ∈ p.2,Rn.eqC q=0)∧p.2.length≤60)
 | 0,loc,eqs,n,m,p,hl,he,h=>by unfold Ps.lines at h;injection h with h1 _;subst h1;exact ⟨hl,he⟩
 | f+1,loc,eqs,n,m,p,hl,he,h=>by
  unfold Ps.lines at h
  split at h
  ·injection h with h1 _;subst h1;exact ⟨hl,he⟩
  ·obtain ⟨p',m1,h1,h2⟩:=bind_ok h
   have:=line_r hI hl he h1;exact lines_r hI f _ _ _ _ _ this.1 this.2 h2
theorem declsC_of {l:List De} (h:(∀ d ∈ l,Rn.declC d=0)∧l.length≤30):Rn.declsC l=0:=by
 unfold Rn.declsC;rw [if_neg (by omega)];exact firstC_zero h.1
theorem node_r {I:Inp} (hI:Rt I) {n m:Nat} {x:Nd} (h:Ps.node I n=.ok x m):Rn.headC x=0∧∀ q ∈ x.eqs,Rn.eqC q=0:=by
 unfold Ps.node at h;obtain ⟨_,m1,_,h1⟩:=bind_ok h;obtain ⟨s,m2,h2,h3⟩:=bind_ok h1;obtain ⟨z,m3,h4,h5⟩:=bind_ok h3;obtain ⟨_,m4,_,h6⟩:=bind_ok h5;obtain ⟨i,m5,h7,h8⟩:=bind_ok h6;obtain ⟨_,m6,_,h9⟩:=bind_ok h8;obtain ⟨_,m7,_,h10⟩:=bind_ok h9;obtain ⟨o,m8,h11,h12⟩:=bind_ok h10;obtain ⟨_,m9,_,h13⟩:=bind_ok h12;obtain ⟨_,m10,_,h14⟩:=bind_ok h13;obtain ⟨p,m11,h15,h16⟩:=bind_ok h14;injection h16 with h17 _;subst h17;have hs:=name_r hI h2;have hz:(∀ s ∈ z,isName s.data.toList=true)∧z.length≤3:=by
  split at h4
  ·obtain ⟨z',k1,g1,g2⟩:=bind_ok h4
   obtain ⟨_,k2,_,g3⟩:=bind_ok g2;injection g3 with g4 _;subst g4;have:=row_r (P:=fun s=>isName s.data.toList=true) (fun n v m h=>name_r hI h) _ _ _ _ _ g1 (by simp);simp only [List.length_nil] at this;exact ⟨this.1,by omega⟩
  ·injection h4 with g4 _
   subst g4;simp
 have hi:(∀ d ∈ i,Rn.declC d=0)∧i.length≤30:=by
  split at h7
  ·injection h7 with g4 _
   subst g4;simp
  ·obtain ⟨z',k1,g1,g2⟩:=bind_ok h7
   obtain ⟨_,k2,_,g3⟩:=bind_ok g2;injection g3 with g4 _;subst g4;have:=row_r (P:=fun d=>Rn.declC d=0) (fun n v m h=>decl_r hI h) _ _ _ _ _ g1 (by simp);simp only [List.length_nil] at this;exact ⟨this.1,by omega⟩
 have ho:=row_r (P:=fun d=>Rn.declC d=0) (fun n v m h=>decl_r hI h) _ _ _ _ _ h11 (by simp);simp only [List.length_nil] at ho;have hp:=lines_r hI _ _ _ _ _ _ (by simp) (by simp) h15;refine ⟨?_,hp.2.1⟩;have hzs:Rn.firstC Rn.nameC z=0:=firstC_zero (fun s hs=>by unfold Rn.nameC;rw [if_pos (hz.1 s hs)]);unfold Rn.headC;simp only [];rw [if_neg (by simp [hs]),if_neg (by have:=hz.2;have:=hp.2.2;omega),if_neg (by simp [hzs]),if_neg (by omega),if_neg (by rw [declsC_of hi];simp),if_neg (by rw [declsC_of ⟨ho.1,by omega⟩];simp)];exact declsC_of hp.1
theorem nodes_r {I:Inp} (hI:Rt I):∀ (f:Nat) (acc:List Nd) (n m:Nat) (l:List Nd),(∀ x ∈ acc,Rn.headC x=0∧∀ q ∈ x.eqs,Rn.eqC q=0)→Ps.nodes I f acc n=.ok l m→(∀ x ∈ l,Rn.headC x=0∧∀ q ∈ x.eqs,Rn.eqC q=0)∧acc.length≤l.length∧l.length≤acc.length+f
 | 0,acc,n,m,l,ha,h=>by
  unfold Ps.nodes at h
  split at h
  ·injection h with h1 _;subst h1;exact ⟨ha,Nat.le_refl _,by omega⟩
  ·split at h
   ·cases h
   ·unfold Ps.refuse at h;cases h
 | f+1,acc,n,m,l,ha,h=>by
  unfold Ps.nodes at h
  split at h
  ·injection h with h1 _;subst h1;exact ⟨ha,Nat.le_refl _,by omega⟩
  ·obtain ⟨x,m1,h1,h2⟩:=bind_ok h
   have:=nodes_r hI f (acc++[x]) _ _ _ (fun y hy=>by
    rcases List.mem_append.1 hy with hy | hy
    ·exact ha y hy
    ·rw [List.mem_singleton] at hy;subst hy;exact node_r hI h1) h2
   rw [List.length_append,List.length_singleton] at this;exact ⟨this.1,by omega,by omega⟩
/-! ### the codes of faults -/
def Er {α:Type} (r:Res α):Prop:=∀ c a,r=.err c a→4≤c
theorem er_ok {α:Type} (v:α) (n:Nat):Er (.ok v n):=fun c a h=>by cases h
theorem er_err {α:Type} {c:Nat} (a:Nat) (h:4≤c):Er (.err c a:Res α):=fun c' a' e=>by injection e with e1 _;omega
theorem er_refuse {α:Type} (I:Inp) (n:Nat):Er (Ps.refuse I n:Res α):=by
 unfold Ps.refuse Ps.refC;refine er_err _ ?_
 split<;>omega
theorem er_bind {α β:Type} {r:Res α} {k:α→Nat→Res β} (h:Er r) (hk:∀ v n,Er (k v n)):Er (r.bind k):=by
 cases r with
 | ok v n=>exact hk v n
 | err c a=>exact fun c' a' e=>by injection e with e1 _;subst e1;exact h _ _ rfl
theorem er_need (I:Inp) (s:List UInt8) (n:Nat):Er (Ps.need I s n):=by
 unfold Ps.need
 split
 ·exact er_ok _ _
 ·exact er_refuse _ _
theorem er_name (I:Inp) (n:Nat):Er (Ps.name I n):=by
 unfold Ps.name
 split
 ·exact er_ok _ _
 ·exact er_refuse _ _
theorem er_term (I:Inp) (b:Bool) (n:Nat):Er (Ps.term I b n):=by
 unfold Ps.term
 repeat' (first | exact er_ok _ _ | exact er_refuse _ _ | exact er_err _ (by decide) | exact er_need _ _ _ | exact er_name _ _ | assumption | (refine er_bind ?_ (fun _ _=>?_)) | split)
theorem er_terms (I:Inp):∀ (f:Nat) (acc:List Tm) (n:Nat),Er (Ps.terms I f acc n)
 | 0,acc,n=>by
  unfold Ps.terms
  split
  ·exact er_err _ (by decide)
  ·exact er_ok _ _
 | f+1,acc,n=>by
  unfold Ps.terms
  split
  ·exact er_bind (er_term _ _ _) (fun _ _=>er_terms I f _ _)
  ·exact er_ok _ _
theorem er_size (I:Inp) (n:Nat):Er (Ps.size I n):=er_bind (er_term _ _ _) (fun _ _=>er_terms I _ _ _)
theorem er_declN (I:Inp) (x:ByteArray) (e:Int) (n:Nat):Er (Ps.declN I x e n):=by
 unfold Ps.declN
 repeat' (first | exact er_ok _ _ | exact er_refuse _ _ | exact er_err _ (by decide) | exact er_need _ _ _ | exact er_name _ _ | exact er_size _ _ | assumption | (refine er_bind ?_ (fun _ _=>?_)) | split)
theorem er_decl (I:Inp) (n:Nat):Er (Ps.decl I n):=by
 unfold Ps.decl
 repeat' (first | exact er_ok _ _ | exact er_refuse _ _ | exact er_err _ (by decide) | exact er_need _ _ _ | exact er_name _ _ | exact er_declN _ _ _ _ | assumption | (refine er_bind ?_ (fun _ _=>?_)) | split)
theorem er_row {α:Type} (I:Inp) {read:Nat→Res α} (hr:∀ n,Er (read n)):∀ (f:Nat) (acc:List α) (n:Nat),Er (Ps.row I read f acc n)
 | 0,acc,n=>er_err _ (by decide)
 | f+1,acc,n=>by
  unfold Ps.row;refine er_bind (hr n) (fun v m=>?_)
  split
  ·exact er_row I hr f _ _
  ·exact er_ok _ _
theorem er_more (I:Inp) {R:Nat→Res Ex} (hR:∀ n,Er (R n)) (a c:Int):∀ (f:Nat) (e:Ex) (n:Nat),Er (Ps.more I R a c f e n)
 | 0,e,n=>er_ok _ _
 | f+1,e,n=>by
  unfold Ps.more
  split
  ·exact er_ok _ _
  ·exact er_bind (hR _) (fun _ _=>er_more I hR a c f _ _)
theorem er_fromLeft (I:Inp) {R:Nat→Res Ex} (hR:∀ n,Er (R n)) (a c:Int) (n:Nat):Er (Ps.fromLeft I R a c n):=er_bind (hR n) (fun _ _=>er_more I hR a c _ _ _)
theorem er_cmp (I:Inp) {R:Nat→Res Ex} (hR:∀ n,Er (R n)) (n:Nat):Er (Ps.cmp I R n):=by
 unfold Ps.cmp;refine er_bind (hR n) (fun v m=>?_)
 split
 ·exact er_ok _ _
 ·exact er_bind (hR _) (fun _ _=>er_ok _ _)
theorem er_exprOf (I:Inp) {A:Nat→Res Ex} (hA:∀ n,Er (A n)) (n:Nat):Er (Ps.exprOf I A n) :=
 er_fromLeft I (fun _=>er_fromLeft I (fun _=>er_cmp I (fun _=>er_fromLeft I (fun _=>er_fromLeft I hA _ _ _) _ _ _) _) _ _ _) _ _ n
def EJ (J:Option (Nat→Res Ex)):Prop:=∀ A,J=some A→∀ n,Er (A n)
theorem er_opn (I:Inp) {J:Option (Nat→Res Ex)} (hJ:EJ J) (n:Nat) {k:(Nat→Res Ex)→Nat→Res Ex} (hk:∀ A,(∀ n,Er (A n))→∀ m,Er (k A m)):Er (Ps.opn I J n k):=by
 unfold Ps.opn
 split
 ·exact er_err _ (by decide)
 ·exact hk _ (hJ _ rfl) _
theorem er_oper (I:Inp) (n:Nat):Er (Ps.oper I n):=by
 unfold Ps.oper
 split
 ·exact er_ok _ _
 ·exact er_refuse _ _
theorem er_part (I:Inp) {E:Nat→Res Ex} (hE:∀ n,Er (E n)) (p:Ps.Pt) (e:Ex) (n:Nat):Er (Ps.part I E p e n):=by
 unfold Ps.part
 cases p
 ·exact er_bind (hE _) (fun _ _=>er_ok _ _)
 ·exact er_bind (er_size _ _) (fun _ _=>er_ok _ _)
 ·exact er_bind (er_oper _ _) (fun _ _=>er_ok _ _)
 ·refine er_bind (hE _) (fun _ _=>?_)
  split
  ·exact er_bind (hE _) (fun _ _=>er_ok _ _)
  ·exact er_ok _ _
theorem er_parts (I:Inp) {E:Nat→Res Ex} (hE:∀ n,Er (E n)):∀ (ps:List Ps.Pt) (e:Ex) (n:Nat),Er (Ps.parts I E ps e n)
 | [],e,n=>er_ok _ _
 | p :: ps,e,n=>by
  unfold Ps.parts;exact er_bind (er_need _ _ _) (fun _ _=>er_bind (er_part I hE p _ _) (fun _ _=>er_parts I hE ps _ _))
theorem er_brackets (I:Inp) {E:Nat→Res Ex} (hE:∀ n,Er (E n)) (p:Ps.Pt) (ps:List Ps.Pt) (e:Ex) (n:Nat):Er (Ps.brackets I E p ps e n) :=
 er_bind (er_need _ _ _) (fun _ _=>er_bind (er_part I hE p _ _) (fun _ _=>er_bind (er_parts I hE ps _ _) (fun _ _=>er_bind (er_need _ _ _) (fun _ _=>er_ok _ _))))
theorem er_form (I:Inp) {J:Option (Nat→Res Ex)} (hJ:EJ J) (n:Nat):Er (Ps.form I J n):=by
 unfold Ps.form;simp only []
 repeat' split
 all_goals first | exact er_refuse _ _ | exact er_opn I hJ n (fun A hA m=>er_brackets I (er_exprOf I hA) _ _ _ _)
theorem er_unit (I:Inp) {J:Option (Nat→Res Ex)} (hJ:EJ J) (n:Nat):Er (Ps.unit I J n):=by
 unfold Ps.unit
 split
 ·exact er_ok _ _
 split
 ·exact er_ok _ _
 split
 ·exact er_ok _ _
 split
 ·exact er_ok _ _
 split
 ·exact er_opn I hJ n (fun A hA m=>er_bind (er_exprOf I hA _) (fun _ _=>er_bind (er_need _ _ _) (fun _ _=>er_ok _ _)))
 split
 ·exact er_opn I hJ n (fun A hA m=>er_bind (er_exprOf I hA _) (fun _ _=>er_bind (er_need _ _ _) (fun _ _=>er_bind (er_exprOf I hA _) (fun _ _=>er_bind (er_need _ _ _) (fun _ _=>er_bind (er_exprOf I hA _) (fun _ _=>er_ok _ _))))))
 ·exact er_form I hJ n
theorem er_indices (I:Inp) {J:Option (Nat→Res Ex)} (hJ:EJ J):∀ (f:Nat) (e:Ex) (n:Nat),Er (Ps.indices I J f e n)
 | 0,e,n=>er_ok _ _
 | f+1,e,n=>by
  unfold Ps.indices
  split
  ·exact er_bind (er_opn I hJ n (fun A hA m=>er_bind (er_exprOf I hA _) (fun _ _=>er_bind (er_need _ _ _) (fun _ _=>er_bind (er_exprOf I hA _) (fun _ _=>er_bind (er_need _ _ _) (fun _ _=>er_ok _ _)))))) (fun _ _=>er_indices I hJ f _ _)
  ·exact er_ok _ _
theorem er_aheadS (I:Inp) {J:Option (Nat→Res Ex)} (hJ:EJ J) (n:Nat):Er (Ps.aheadS I J n):=by
 unfold Ps.aheadS
 split
 ·exact er_opn I hJ n (fun A hA m=>er_bind (hA _) (fun _ _=>er_ok _ _))
 split
 ·exact er_opn I hJ n (fun A hA m=>er_bind (hA _) (fun _ _=>er_ok _ _))
 ·exact er_bind (er_unit I hJ n) (fun _ _=>er_indices I hJ _ _ _)
theorem er_ahead (I:Inp):∀ (d n:Nat),Er (Ps.ahead I d n)
 | 0,n=>er_aheadS I (fun A h=>by cases h) n
 | d+1,n=>er_aheadS I (fun A h=>by injection h with h;rw [←h];exact er_ahead I d) n
theorem er_whole (I:Inp) (n:Nat):Er (Ps.whole I n):=by
 unfold Ps.whole;refine er_bind (er_exprOf I (er_ahead I 60) n) (fun _ _=>?_)
 split
 ·exact er_err _ (by decide)
 ·exact er_ok _ _
theorem er_call (I:Inp) (p:Int) (l:List ByteArray) (n:Nat):Er (Ps.call I p l n):=by
 unfold Ps.call;refine er_bind (er_need _ _ _) (fun _ _=>er_bind (er_name _ _) (fun _ _=>er_bind ?_ (fun _ _=>er_bind (er_need _ _ _) (fun _ _=>er_bind ?_ (fun _ _=>er_ok _ _)))))
 ·split
  ·exact er_bind (er_row I (er_size I) _ _ _) (fun _ _=>er_bind (er_need _ _ _) (fun _ _=>er_ok _ _))
  ·exact er_ok _ _
 ·split
  ·exact er_ok _ _
  ·exact er_bind (er_row I (er_whole I) _ _ _) (fun _ _=>er_bind (er_need _ _ _) (fun _ _=>er_ok _ _))
theorem er_equation (I:Inp) (n:Nat):Er (Ps.equation I n):=by
 unfold Ps.equation;refine er_bind (er_row I (er_name I) _ _ _) (fun _ _=>er_bind (er_need _ _ _) (fun _ _=>?_))
 split
 ·exact er_bind (er_whole I _) (fun _ _=>er_ok _ _)
 ·exact er_call I _ _ _
theorem er_line (I:Inp) (loc:List De) (eqs:List Eqn) (n:Nat):Er (Ps.line I loc eqs n):=by
 unfold Ps.line;refine er_bind ?_ (fun _ _=>er_bind (er_need _ _ _) (fun _ _=>er_ok _ _))
 split
 ·split
  ·exact er_err _ (by decide)
  ·exact er_bind (er_decl I _) (fun _ _=>er_ok _ _)
 ·split
  ·exact er_err _ (by decide)
  ·exact er_bind (er_equation I _) (fun _ _=>er_ok _ _)
theorem er_lines (I:Inp):∀ (f:Nat) (loc:List De) (eqs:List Eqn) (n:Nat),Er (Ps.lines I f loc eqs n)
 | 0,loc,eqs,n=>er_ok _ _
 | f+1,loc,eqs,n=>by
  unfold Ps.lines
  split
  ·exact er_ok _ _
  ·exact er_bind (er_line I _ _ _) (fun _ _=>er_lines I f _ _ _)
theorem er_node (I:Inp) (n:Nat):Er (Ps.node I n):=by
 unfold Ps.node;refine er_bind (er_need _ _ _) (fun _ _=>er_bind (er_name _ _) (fun _ _=>er_bind ?_ (fun _ _=>er_bind (er_need _ _ _) (fun _ _=>er_bind ?_ (fun _ _=>er_bind (er_need _ _ _) (fun _ _=>er_bind (er_need _ _ _) (fun _ _=>er_bind (er_row I (er_decl I) _ _ _) (fun _ _=>er_bind (er_need _ _ _) (fun _ _=>er_bind (er_need _ _ _) (fun _ _=>er_bind (er_lines I _ _ _ _) (fun _ _=>er_ok _ _)))))))))))
 ·split
  ·exact er_bind (er_row I (er_name I) _ _ _) (fun _ _=>er_bind (er_need _ _ _) (fun _ _=>er_ok _ _))
  ·exact er_ok _ _
 ·split
  ·exact er_ok _ _
  ·exact er_bind (er_row I (er_decl I) _ _ _) (fun _ _=>er_bind (er_need _ _ _) (fun _ _=>er_ok _ _))
theorem er_nodes (I:Inp):∀ (f:Nat) (acc:List Nd) (n:Nat),Er (Ps.nodes I f acc n)
 | 0,acc,n=>by
  unfold Ps.nodes
  split
  ·exact er_ok _ _
  ·split
   ·exact er_err _ (by decide)
   ·exact er_refuse _ _
 | f+1,acc,n=>by
  unfold Ps.nodes
  split
  ·exact er_ok _ _
  ·exact er_bind (er_node I _) (fun _ _=>er_nodes I f _ _)
theorem prog_err {I:Inp} {c a:Nat} (h:Ps.program I=.err c a):(c:Int)≠0:=by
 have:4≤c:=er_bind (er_node I 0) (fun _ _=>er_nodes I _ _ _) c a h;omega
theorem goE_none:∀ {l:List Eqn} {k:Nat},(∀ q ∈ l,Rn.eqC q=0)→Rn.goE l k=none
 | [],_,_=>rfl
 | q :: l,k,h=>by
  unfold Rn.goE;rw [if_pos (h q (by simp))];exact goE_none (fun r hr=>h r (by simp [hr]))
theorem goN_zero:∀ {l:List Nd} {i k:Nat},(∀ x ∈ l,Rn.headC x=0∧∀ q ∈ x.eqs,Rn.eqC q=0)→Rn.goN l i k=(0,0)
 | [],_,_,_=>rfl
 | x :: l,i,k,h=>by
  unfold Rn.goN;rw [if_pos (h x (by simp)).1,goE_none (h x (by simp)).2];exact goN_zero (fun r hr=>h r (by simp [hr]))
theorem parse_nodes {t:List UInt8} (h:(parseT t).2.1=0):Rn.nodesC (parseT t).1=(0,0):=by
  have hR:=scan_right t;unfold parseT at h ⊢
  cases hs:scan t with
  | mk L ca=>
   obtain ⟨c,a⟩:=ca;rw [hs] at h hR;simp only [] at h ⊢
   split at h
   ·rename_i hc
    rw [if_pos hc]
    cases hp:Ps.program ⟨L,t.length⟩ with
    | err c a=>
     rw [hp] at h;simp only at h
     exfalso
     exact absurd h (prog_err hp)
    | ok l m=>
     simp only [];have hI:Rt ⟨L,t.length⟩:=rt_of hR;unfold Ps.program at hp;obtain ⟨x,m1,h1,h2⟩:=bind_ok hp;have:=nodes_r hI 9 [x] _ _ _ (fun y hy=>by rw [List.mem_singleton] at hy;subst hy;exact node_r hI h1) h2;rw [List.length_singleton] at this;unfold Rn.nodesC;rw [if_neg (by omega),if_neg (by omega)];exact goN_zero this.1
   ·rename_i hc
    exact absurd h hc
theorem parse_right {t:List UInt8} (h:(parseT t).2.1=0):Tx.printC (parseT t).1=(0,0)∨Tx.printC (parseT t).1=(7,-1):=by
 have hN:=parse_nodes h;unfold Tx.printC;rw [hN,if_neg (by simp)]
 split
 ·exact .inr rfl
 ·exact .inl rfl
end Bk
end Go.Proofs.YtophfbefnaelfaaGreatDoor
