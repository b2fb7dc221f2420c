import Derived.Test.YtkfgbhlpjkkgfaaGreatDoorN25
import Derived.Test.YtkfgbhlpjkkgfaaGreatDoorN04
import Derived.Test.YtkfgbhlpjkkgfaaGreatDoorN37
set_option linter.unusedVariables false
set_option linter.unusedSimpArgs false
set_option maxHeartbeats 64000000
set_option maxRecDepth 100000
namespace Go.Proofs.YtkfgbhlpjkkgfaaGreatDoor
mutual
theorem count_eq:∀ e:Ex,Ps.count e=parts e
 | .mk _ _ _ _ _ L=>by rw [Ps.count,parts,countL_eq L]
theorem countL_eq:∀ L:List Ex,Ps.countL L=partsL L
 | []=>by rw [Ps.countL,partsL]
 | x :: xs=>by rw [Ps.countL,partsL,count_eq x,countL_eq xs]
end
theorem Res.bind_ok {α β:Type} {r:Res α} {k:α→Nat→Res β} {v:β} {n:Nat} (h:r.bind k=.ok v n):∃ u m,r=.ok u m∧k u m=.ok v n:=by
 cases r with
 | ok u m=>exact ⟨u,m,rfl,h⟩
 | err c a=>cases h
theorem ok_inj {α:Type} {a b:α} {m n:Nat} (h:Res.ok a m=Res.ok b n):a=b∧m=n:=by
 injection h with h1 h2;exact ⟨h1,h2⟩
theorem refuse_no {α:Type} {I:Inp} {n:Nat} {v:α} {m:Nat} (h:(Ps.refuse I n:Res α)=.ok v m):False:=by cases h
theorem need_ok {I:Inp} {s:List UInt8} {n:Nat} {u:Unit} {m:Nat} (h:Ps.need I s n=.ok u m):m=n+1:=by
 unfold Ps.need at h
 split at h
 ·exact (ok_inj h).2.symm
 ·exact (refuse_no h).elim
theorem name_ok {I:Inp} {n:Nat} {u:ByteArray} {m:Nat} (h:Ps.name I n=.ok u m):m=n+1:=by
 unfold Ps.name at h
 split at h
 ·exact (ok_inj h).2.symm
 ·exact (refuse_no h).elim
theorem term_ok {I:Inp} {b:Bool} {n:Nat} {u:Tm} {m:Nat} (h:Ps.term I b n=.ok u m):n<m:=by
 unfold Ps.term at h
 split at h
 ·split at h
  ·obtain ⟨s,k,h1,h2⟩:=Res.bind_ok h
   have:=name_ok h1;have:=(ok_inj h2).2;omega
  ·have:=(ok_inj h).2
   omega
 ·obtain ⟨s,k,h1,h2⟩:=Res.bind_ok h
  have:=name_ok h1;have:=(ok_inj h2).2;omega
theorem terms_ok {I:Inp}:∀ (f:Nat) (acc:List Tm) (n:Nat) {u:List Tm} {m:Nat},Ps.terms I f acc n=.ok u m→n≤m
 | 0,acc,n,u,m,h=>by
  unfold Ps.terms at h
  split at h
  ·cases h
  ·have:=(ok_inj h).2
   omega
 | f+1,acc,n,u,m,h=>by
  unfold Ps.terms at h
  split at h
  ·obtain ⟨t,k,h1,h2⟩:=Res.bind_ok h
   have:=term_ok h1;have:=terms_ok f _ k h2;omega
  ·have:=(ok_inj h).2
   omega
theorem size_ok {I:Inp} {n:Nat} {u:List Tm} {m:Nat} (h:Ps.size I n=.ok u m):n<m:=by
 unfold Ps.size at h;obtain ⟨t,k,h1,h2⟩:=Res.bind_ok h;have h3:=term_ok h1;have h4:=terms_ok _ _ _ h2
 split at h3<;>omega
theorem oper_ok {I:Inp} {n:Nat} {u:Int} {m:Nat} (h:Ps.oper I n=.ok u m):m=n+1:=by
 unfold Ps.oper at h
 split at h
 ·exact (ok_inj h).2.symm
 ·exact (refuse_no h).elim
def Nice (R:Nat→Res Ex):Prop:=∀ n e m,R n=.ok e m→parts e+n≤m
theorem more_nice {I:Inp} {R:Nat→Res Ex} {a c:Int} (hR:Nice R):∀ (f:Nat) (e:Ex) (n:Nat) {x:Ex} {m n0:Nat},parts e+n0≤n→Ps.more I R a c f e n=.ok x m→parts x+n0≤m
 | 0,e,n,x,m,n0,h0,h=>by
  obtain ⟨rfl,rfl⟩:=ok_inj h;exact h0
 | f+1,e,n,x,m,n0,h0,h=>by
  unfold Ps.more at h
  split at h
  ·obtain ⟨rfl,rfl⟩:=ok_inj h
   exact h0
  ·obtain ⟨r,k,h1,h2⟩:=Res.bind_ok h
   have h3:=hR _ _ _ h1;refine more_nice hR f _ k ?_ h2;simp only [parts,partsL];omega
theorem fromLeft_nice {I:Inp} {R:Nat→Res Ex} {a c:Int} (hR:Nice R):Nice (Ps.fromLeft I R a c):=fun n e m h=>by
 obtain ⟨r,k,h1,h2⟩:=Res.bind_ok h;exact more_nice hR _ _ _ (hR _ _ _ h1) h2
theorem cmp_nice {I:Inp} {R:Nat→Res Ex} (hR:Nice R):Nice (Ps.cmp I R):=fun n e m h=>by
 obtain ⟨r,k,h1,h2⟩:=Res.bind_ok h;have h3:=hR _ _ _ h1
 split at h2
 ·obtain ⟨rfl,rfl⟩:=ok_inj h2
  exact h3
 ·obtain ⟨s,j,h4,h5⟩:=Res.bind_ok h2
  obtain ⟨rfl,rfl⟩:=ok_inj h5;have h6:=hR _ _ _ h4;simp only [parts,partsL];omega
theorem exprOf_nice {I:Inp} {A:Nat→Res Ex} (hA:Nice A):Nice (Ps.exprOf I A):=fromLeft_nice (fromLeft_nice (cmp_nice (fromLeft_nice (fromLeft_nice hA))))
theorem partsL_append:∀ (a b:List Ex),partsL (a++b)=partsL a+partsL b
 | [],b=>by simp [partsL]
 | x :: a,b=>by simp [partsL,partsL_append a b];omega
theorem addL_parts (e x:Ex):parts (Ps.Ex.addL e x)=parts e+parts x:=by
 obtain ⟨o,k,n,s,S,L⟩:=e;simp [Ps.Ex.addL,Ex.L,parts,partsL_append,partsL];omega
theorem addS_parts (e:Ex) (s:List Tm):parts (Ps.Ex.addS e s)=parts e:=by
 obtain ⟨o,k,n,s,S,L⟩:=e;simp [Ps.Ex.addS,Ex.L,parts]
theorem setK_parts (e:Ex) (k:Int):parts (Ps.Ex.setK e k)=parts e:=by
 obtain ⟨o,k,n,s,S,L⟩:=e;simp [Ps.Ex.setK,Ex.L,parts]
theorem part_nice {I:Inp} {E:Nat→Res Ex} (hE:Nice E) (p:Ps.Pt) {e x:Ex} {n m:Nat} (h:Ps.part I E p e n=.ok x m):parts x+n≤parts e+m:=by
 cases p with
 | part=>
  obtain ⟨r,k,h1,h2⟩:=Res.bind_ok h;obtain ⟨rfl,rfl⟩:=ok_inj h2;have:=hE _ _ _ h1;rw [addL_parts];omega
 | size=>
  obtain ⟨r,k,h1,h2⟩:=Res.bind_ok h;obtain ⟨rfl,rfl⟩:=ok_inj h2;have:=size_ok h1;rw [addS_parts];omega
 | oper=>
  obtain ⟨r,k,h1,h2⟩:=Res.bind_ok h;obtain ⟨rfl,rfl⟩:=ok_inj h2;have:=oper_ok h1;rw [setK_parts];omega
 | oneOrTwo=>
  obtain ⟨r,k,h1,h2⟩:=Res.bind_ok h;have h3:=hE _ _ _ h1
  split at h2
  ·obtain ⟨s,j,h4,h5⟩:=Res.bind_ok h2
   obtain ⟨rfl,rfl⟩:=ok_inj h5;have:=hE _ _ _ h4;rw [addL_parts,addL_parts];omega
  ·obtain ⟨rfl,rfl⟩:=ok_inj h2
   rw [addL_parts];omega
theorem parts_nice {I:Inp} {E:Nat→Res Ex} (hE:Nice E):∀ (ps:List Ps.Pt) {e x:Ex} {n m:Nat},Ps.parts I E ps e n=.ok x m→parts x+n≤parts e+m
 | [],e,x,n,m,h=>by
  obtain ⟨rfl,rfl⟩:=ok_inj h;omega
 | p :: ps,e,x,n,m,h=>by
  obtain ⟨u,k,h1,h2⟩:=Res.bind_ok h;obtain ⟨r,j,h3,h4⟩:=Res.bind_ok h2;have:=need_ok h1;have:=part_nice hE p h3;have:=parts_nice hE ps h4;omega
theorem brackets_nice {I:Inp} {E:Nat→Res Ex} (hE:Nice E) {p:Ps.Pt} {ps:List Ps.Pt} {e x:Ex} {n m:Nat} (h:Ps.brackets I E p ps e n=.ok x m):parts x+n≤parts e+m:=by
 obtain ⟨u,k,h1,h2⟩:=Res.bind_ok h;obtain ⟨r,j,h3,h4⟩:=Res.bind_ok h2;obtain ⟨s,i,h5,h6⟩:=Res.bind_ok h4;obtain ⟨v,l,h7,h8⟩:=Res.bind_ok h6;obtain ⟨rfl,rfl⟩:=ok_inj h8;have:=need_ok h1;have:=part_nice hE p h3;have:=parts_nice hE ps h5;have:=need_ok h7;omega
def NiceO (J:Option (Nat→Res Ex)):Prop:=∀ A,J=some A→Nice A
theorem opn_ok {I:Inp} {J:Option (Nat→Res Ex)} {n:Nat} {k:(Nat→Res Ex)→Nat→Res Ex} {x:Ex} {m:Nat} (h:Ps.opn I J n k=.ok x m):∃ A,J=some A∧k A (n+1)=.ok x m:=by
 cases J with
 | none=>cases h
 | some A=>exact ⟨A,rfl,h⟩
theorem form_nice {I:Inp} {J:Option (Nat→Res Ex)} (hJ:NiceO J):Nice (Ps.form I J):=fun n e m h=>by
 unfold Ps.form at h;have go:∀ {op k:Int} {p:Ps.Pt} {ps:List Ps.Pt},(Ps.opn I J n fun A n1=>Ps.brackets I (Ps.exprOf I A) p ps (Ps.bare op k) n1)=.ok e m→parts e+n≤m:=fun {op k p ps} h=>by
  obtain ⟨A,hA,h1⟩:=opn_ok h;have h2:=brackets_nice (exprOf_nice (hJ A hA)) h1;have h3:parts (Ps.bare op k)=1:=(by simp [Ps.bare,parts,partsL]);omega
 simp only [] at h
 repeat (first | (split at h;exact go h) | exact (refuse_no h).elim)
theorem unit_nice {I:Inp} {J:Option (Nat→Res Ex)} (hJ:NiceO J):Nice (Ps.unit I J):=fun n e m h=>by
 unfold Ps.unit at h
 split at h
 ·obtain ⟨rfl,rfl⟩:=ok_inj h;simp [parts,partsL];omega
 split at h
 ·obtain ⟨rfl,rfl⟩:=ok_inj h;simp [parts,partsL];omega
 split at h
 ·obtain ⟨rfl,rfl⟩:=ok_inj h;simp [parts,partsL];omega
 split at h
 ·obtain ⟨rfl,rfl⟩:=ok_inj h;simp [parts,partsL];omega
 split at h
 ·obtain ⟨A,hA,h1⟩:=opn_ok h
  obtain ⟨r,k,h2,h3⟩:=Res.bind_ok h1;obtain ⟨u,j,h4,h5⟩:=Res.bind_ok h3;obtain ⟨rfl,rfl⟩:=ok_inj h5;have:=exprOf_nice (hJ A hA) _ _ _ h2;have:=need_ok h4;omega
 split at h
 ·obtain ⟨A,hA,h1⟩:=opn_ok h
  obtain ⟨r,k,h2,h3⟩:=Res.bind_ok h1;obtain ⟨u,j,h4,h5⟩:=Res.bind_ok h3;obtain ⟨r2,k2,h6,h7⟩:=Res.bind_ok h5;obtain ⟨u2,j2,h8,h9⟩:=Res.bind_ok h7;obtain ⟨r3,k3,h10,h11⟩:=Res.bind_ok h9;obtain ⟨rfl,rfl⟩:=ok_inj h11;have:=exprOf_nice (hJ A hA) _ _ _ h2;have:=need_ok h4;have:=exprOf_nice (hJ A hA) _ _ _ h6;have:=need_ok h8;have:=exprOf_nice (hJ A hA) _ _ _ h10;simp only [parts,partsL];omega
 exact form_nice hJ _ _ _ h
theorem indices_nice {I:Inp} {J:Option (Nat→Res Ex)} (hJ:NiceO J):∀ (f:Nat) (e:Ex) (n:Nat) {x:Ex} {m n0:Nat},parts e+n0≤n→Ps.indices I J f e n=.ok x m→parts x+n0≤m
 | 0,e,n,x,m,n0,h0,h=>by
  obtain ⟨rfl,rfl⟩:=ok_inj h;exact h0
 | f+1,e,n,x,m,n0,h0,h=>by
  unfold Ps.indices at h
  split at h
  ·obtain ⟨r,k,h1,h2⟩:=Res.bind_ok h
   obtain ⟨A,hA,h3⟩:=opn_ok h1;obtain ⟨r1,k1,h4,h5⟩:=Res.bind_ok h3;obtain ⟨u,j,h6,h7⟩:=Res.bind_ok h5;obtain ⟨r2,k2,h8,h9⟩:=Res.bind_ok h7;obtain ⟨u2,j2,h10,h11⟩:=Res.bind_ok h9;obtain ⟨rfl,rfl⟩:=ok_inj h11;have:=exprOf_nice (hJ A hA) _ _ _ h4;have:=need_ok h6;have:=exprOf_nice (hJ A hA) _ _ _ h8;have:=need_ok h10;refine indices_nice hJ f _ _ ?_ h2;simp only [parts,partsL];omega
  ·obtain ⟨rfl,rfl⟩:=ok_inj h
   exact h0
theorem aheadS_nice {I:Inp} {J:Option (Nat→Res Ex)} (hJ:NiceO J):Nice (Ps.aheadS I J):=fun n e m h=>by
 have sg:∀ {k:Int},(Ps.opn I J n fun A n1=>Ps.signed A k n1)=.ok e m→parts e+n≤m:=fun {k} h=>by
  obtain ⟨A,hA,h1⟩:=opn_ok h;obtain ⟨r,j,h2,h3⟩:=Res.bind_ok h1;obtain ⟨rfl,rfl⟩:=ok_inj h3;have:=hJ A hA _ _ _ h2;simp only [parts,partsL];omega
 unfold Ps.aheadS at h
 split at h
 ·exact sg h
 split at h
 ·exact sg h
 obtain ⟨r,k,h1,h2⟩:=Res.bind_ok h;exact indices_nice hJ _ _ _ (unit_nice hJ _ _ _ h1) h2
theorem ahead_nice (I:Inp):∀ d,Nice (Ps.ahead I d)
 | 0=>aheadS_nice fun A h=>by cases h
 | d+1=>aheadS_nice fun A h=>by
  injection h with h;rw [←h];exact ahead_nice I d
theorem expr_nice (I:Inp) (d:Nat):Nice (Ps.expr I d):=exprOf_nice (ahead_nice I d)
end Go.Proofs.YtkfgbhlpjkkgfaaGreatDoor
namespace Go.Proofs.YtkfgbhlpjkkgfaaGreatDoor
open Go.RowKit Go.IntWalk
theorem whole_any (hform:FormC) {b g cap:Nat} {I:Inp} (hL:I.L.length≤1099511627776):Does 222 b g cap I 0 exV (Ps.whole I):=by
 intro nx w h hG;have HE:=exprs_any hform (b:=b) (g:=g) (cap:=cap) (I:=I);have hb:=h.bb;have hg:=h.gb;have h0:=h.alloc (.cells #[.int .i64 0,.int .i64 0,.int .i64 0,.string ⟨#[]⟩,.slice none 0 0,.slice none 0 0] 54 (0,0));have hN0:=heap_new w (.cells #[.int .i64 0,.int .i64 0,.int .i64 0,.string ⟨#[]⟩,.slice none 0 0,.slice none 0 0] 54 (0,0));have z0:(w.alloc (.cells #[.int .i64 0,.int .i64 0,.int .i64 0,.string ⟨#[]⟩,.slice none 0 0,.slice none 0 0] 54 (0,0))).heap.size=w.heap.size+1:=(by simp);have A0:=(Aside.refl (S:=[b]) (B:=w.heap.size) w).alloc nR (.cells #[.int .i64 0,.int .i64 0,.int .i64 0,.string ⟨#[]⟩,.slice none 0 0,.slice none 0 0] 54 (0,0));have hp:=@peek_any _ _ _ _ _ _ _ _ h0;obtain ⟨t,ht⟩:=nmQ (I.pk nx);have hpk:peekT I.L I.len nx=t:=ht.symm;rw [hpk] at hp;unfold tokV at hp;have HT:=hide ht;clear hpk ht;have hf:=fun x w=>tokF1 t x w;go_enter Tryz.func222,Tryz.ntmps222;go_wp2_with fail;generalize w.alloc (.cells #[.int .i64 0,.int .i64 0,.int .i64 0,.string ⟨#[]⟩,.slice none 0 0,.slice none 0 0] 54 (0,0))=W at h0 hN0 z0 A0 hp ⊢;refine hp.mono ?_;rintro e w1 ⟨rfl,b1⟩;have z1:=b1.size;have h1:=h0.below b1;have A1:=A0.trans (aside b1) A0.size;have hN1:=(aside b1 (S:=[])).keep hN0 (lt_of hN0) (by simp);clear hp h0 A0 hN0 b1;go_wp2_with fail;refine (HE _ _ h1 (hG.far A1)).mono ?_;rintro e w3 ⟨a3,hres⟩;have z3:=a3.size;have A3:=A1.trans a3 A1.size;have hN3:=a3.keep hN1 (by omega) (by simp;omega);clear h1 A1 hN1 a3 HE
 cases ht:Ps.expr I 60 nx with
 | err c0 a0=>
  rw [ht] at hres;obtain rfl:e=_:=hres;exact ⟨rfl,Post.fail (by unfold Ps.whole;rw [ht];rfl) A3⟩
 | ok e0 n1=>
  rw [ht] at hres;obtain ⟨le3,h3,_,rfl,y,rfl,he3⟩:=hres;have hcount:parts e0≤1099511627776:=by
   have h9:=expr_nice I 60 _ _ _ ht;have h8:=h3.le;omega
  have hmod:Hid (Ps.whole I nx=if 30<parts e0 then .err 7 (I.pk nx).place else .ok e0 n1):=by
   show Ps.whole I nx=_
   unfold Ps.whole;rw [ht];simp only [Res.bind,count_eq]
  clear ht;have he4:=(he3.wide (ok':=fun i=>w.heap.size<i) (fun i hi hl=>by omega)).under ((Below.refl _ w3).alloc nR (.cells #[.int .i64 y.op,.int .i64 y.k,.int .i64 y.n,.string y.name,.slice y.aS y.nS y.cS,.slice y.aL y.nL y.cL] 54 (0,0)));have h4:=h3.alloc (.cells #[.int .i64 y.op,.int .i64 y.k,.int .i64 y.n,.string y.name,.slice y.aS y.nS y.cS,.slice y.aL y.nL y.cL] 54 (0,0));have A4:=A3.alloc A3.size (.cells #[.int .i64 y.op,.int .i64 y.k,.int .i64 y.n,.string y.name,.slice y.aS y.nS y.cS,.slice y.aL y.nL y.cL] 54 (0,0));have hN4:=kA hN3 (.cells #[.int .i64 y.op,.int .i64 y.k,.int .i64 y.n,.string y.name,.slice y.aS y.nS y.cS,.slice y.aL y.nL y.cL] 54 (0,0));have hT4:=heap_new w3 (.cells #[.int .i64 y.op,.int .i64 y.k,.int .i64 y.n,.string y.name,.slice y.aS y.nS y.cS,.slice y.aL y.nL y.cL] 54 (0,0));have z4:(w3.alloc (.cells #[.int .i64 y.op,.int .i64 y.k,.int .i64 y.n,.string y.name,.slice y.aS y.nS y.cS,.slice y.aL y.nL y.cL] 54 (0,0))).heap.size=w3.heap.size+1:=(by simp);clear he3 h3 A3 hN3;go_wp2_with fail;generalize w3.alloc (.cells #[.int .i64 y.op,.int .i64 y.k,.int .i64 y.n,.string y.name,.slice y.aS y.nS y.cS,.slice y.aL y.nL y.cL] 54 (0,0))=w4 at he4 h4 A4 hN4 hT4 z4 ⊢;refine (countParts_any _ e0 hcount nR _ y _ he4).mono ?_;rintro e w5 ⟨rfl,b5⟩;have z5:=b5.size;have h5:=h4.below b5;have A5:=A4.trans (aside b5) A4.size;have hN5:=(aside b5 (S:=[])).keep hN4 (lt_of hN4) (by simp);have hT5:=(aside b5 (S:=[])).keep hT4 (lt_of hT4) (by simp);have he5:=he4.under b5;clear he4 h4 A4 hN4 hT4 b5;by_cases hc:30<parts e0
  ·have hd:decide ((30:Int)<(parts e0:Int))=true:=by simp;omega
   go_wp2_with fail;refine (giveUp_any _ _ _).mono ?_;rintro e w6 ⟨rfl,rfl⟩;exact ⟨rfl,Post.fail (by rw [hmod.out,if_pos hc,←HT.out]) A5⟩
  ·have hd:decide ((30:Int)<(parts e0:Int))=false:=by simp;omega
   have fa:=fun o=>fo hN5 o;have ca0:=co hN5 0;have ca1:=co hN5 1;have ca2:=co hN5 2;have ca3:=co hN5 3;have ca4:=co hN5 4;have ca5:=co hN5 5;simp at ca0 ca1 ca2 ca3 ca4 ca5;have cb0:=co hT5 0;have cb1:=co hT5 1;have cb2:=co hT5 2;have cb3:=co hT5 3;have cb4:=co hT5 4;have cb5:=co hT5 5;simp at cb0 cb1 cb2 cb3 cb4 cb5;go_wp2;refine bodyPost_ret (v:=.agg #[.int .i64 y.op,.int .i64 y.k,.int .i64 y.n,.string y.name,.slice y.aS y.nS y.cS,.slice y.aL y.nL y.cL]) (by simp [results,Tryz.results222,go_sem,ca0,ca1,ca2,ca3,ca4,ca5]) rfl ?_;exact Post.good (by rw [hmod.out,if_neg hc]) (A5.put6 (k:=w.heap.size) nR y) le3 (h5.put6 (k:=w.heap.size) (by omega) (by omega) y) ⟨y,rfl,(he5.put6 (k:=w.heap.size) (by simp) y).wide (fun i hi _=>Nat.le_of_lt hi)⟩
theorem HRow.past {α:Type} {T:Kind α} {ok:Nat→Prop} {S:List Nat} {w w':World} {v:Value} {l:List α} (h:HRow T ok w v l) (a:Aside S w.heap.size w w') (hS:∀ i,ok i→i ∉ S):HRow T ok w' v l:=h.keep a.size fun i hi hl=>a.block i hl (hS i hi)
theorem HRow.under {α:Type} {T:Kind α} {ok:Nat→Prop} {w w':World} {v:Value} {l:List α} (h:HRow T ok w v l) (a:Below w.heap.size w w'):HRow T ok w' v l:=h.keep a.size fun i _ hl=>a.block i hl
theorem HRow.set {α:Type} {T:Kind α} {ok:Nat→Prop} {w:World} {v:Value} {l:List α} (h:HRow T ok w v l) {p:Addr} (hp:¬ok p.block) (u:Value):HRow T ok (w.setCell p u) v l :=
 h.keep (by simp [World.setCell]) fun i hi hl=>Below.heap_setCell _ _ _ _ (fun e=>hp (e ▸ hi))
theorem HRow.nil {α:Type} {T:Kind α} {ok:Nat→Prop} {w:World}:HRow T ok w (.slice none 0 0) []:=⟨fun _=>[],Sl.nil,fun i h=>absurd h (Nat.not_lt_zero _)⟩
end Go.Proofs.YtkfgbhlpjkkgfaaGreatDoor
