import Derived.Test.YtophfbefnaelfaaGreatDoorF46
import Derived.Test.YtophfbefnaelfaaGreatDoorF07
set_option linter.unusedVariables false
set_option linter.unusedSimpArgs false
set_option maxHeartbeats 64000000
set_option maxRecDepth 100000
namespace Go.Proofs.YtophfbefnaelfaaGreatDoor
open Go.RowKit
namespace Bk
/-! ### the other way -/
/-! ### what is printed does not hang on places -/
theorem eqs_st:∀ (l:List Eqn) (i:Nat),Tx.rowP (fun _ q=>Tx.eqP q) i (l.map stE)=Tx.rowP (fun _ q=>Tx.eqP q) i l
 | [],i=>rfl
 | q :: l,i=>by
  rw [List.map_cons,Tx.rowP,Tx.rowP,eqs_st l (i+1)];rfl
theorem node_st (n:Nd):Tx.nodeP (stN n)=Tx.nodeP n:=by
 unfold Tx.nodeP stN;simp only [eqs_st]
theorem prog_st:∀ (l:List Nd) (i:Nat),Tx.rowP (fun _ n=>Tx.nodeP n) i (l.map stN)=Tx.rowP (fun _ n=>Tx.nodeP n) i l
 | [],i=>rfl
 | n :: l,i=>by rw [List.map_cons,Tx.rowP,Tx.rowP,prog_st l (i+1),node_st]
theorem eqC_st (q:Eqn):Rn.eqC (stE q)=Rn.eqC q:=rfl
theorem goE_st:∀ (l:List Eqn) (k:Nat),Rn.goE (l.map stE) k=Rn.goE l k
 | [],k=>rfl
 | q :: l,k=>by rw [List.map_cons,Rn.goE,Rn.goE,goE_st l (k+1),eqC_st]
theorem headC_st (n:Nd):Rn.headC (stN n)=Rn.headC n:=by
 unfold Rn.headC stN;simp only [List.length_map]
theorem goN_st:∀ (l:List Nd) (i k:Nat),Rn.goN (l.map stN) i k=Rn.goN l i k
 | [],i,k=>rfl
 | n :: l,i,k=>by
  rw [List.map_cons,Rn.goN,Rn.goN,headC_st];have e1:(stN n).eqs=n.eqs.map stE:=rfl;rw [e1,goE_st,List.length_map,goN_st l]
theorem nodesC_st (l:List Nd):Rn.nodesC (l.map stN)=Rn.nodesC l:=by
 unfold Rn.nodesC;rw [List.length_map,goN_st]
theorem printC_st {l r:List Nd} (h:l.map stN=r.map stN):Tx.printC l=Tx.printC r∧Tx.printT l=Tx.printT r:=by
 have h1:Tx.progP l=Tx.progP r:=by
  unfold Tx.progP;rw [←prog_st l,←prog_st r,h]
 have h2:Rn.nodesC l=Rn.nodesC r:=(by rw [←nodesC_st l,←nodesC_st r,h]);have h3:Tx.printC l=Tx.printC r:=(by unfold Tx.printC;rw [h1,h2]);exact ⟨h3,by unfold Tx.printT;rw [h3,h1]⟩
theorem print_len {l:List Nd}:(Tx.printT l).size≤12000:=by
 unfold Tx.printT;by_cases h:(Tx.printC l).1≠0
 ·rw [if_pos h];simp
 ·rw [if_neg h]
  have h2:(Tx.printC l).1=0:=(by simpa using h);unfold Tx.printC at h2
  split at h2
  ·rename_i h3;exact absurd h2 h3
  ·split at h2
   ·simp at h2
   ·omega
end Bk
end Go.Proofs.YtophfbefnaelfaaGreatDoor
namespace Go.Proofs.YtophfbefnaelfaaGreatDoor
open Go.RowKit
namespace Bk
open Tk
def TkR (t:Tok):Prop:=(t.kind=2→isName t.text=true)∧(t.kind=3→0≤t.n∧t.n<1000000000000000000)
theorem run_take:∀ (l:List UInt8),∀ c ∈ l.take (runLen l),isR (c.toNat:Int)=true
 | [],c,hc=>by simp at hc
 | d :: l,c,hc=>by
  by_cases hd:isR (d.toNat:Int)=true
  ·have e:runLen (d :: l)=runLen l+1:=by unfold runLen;simp [hd]
   rw [e,List.take_succ_cons] at hc;rcases List.mem_cons.1 hc with rfl | hc
   ·exact hd
   ·exact run_take l c hc
  ·have e:runLen (d :: l)=0:=by unfold runLen;simp [hd]
   rw [e] at hc;simp at hc
theorem numVal_lt:∀ (l:List UInt8),(∀ c ∈ l,isD (c.toNat:Int)=true)→0≤numVal l∧numVal l<10 ^ l.length:=by
 intro l;unfold numVal;have:∀ (l:List UInt8) (a:Int) (k:Nat),0≤a→a<10 ^ k→(∀ c ∈ l,isD (c.toNat:Int)=true)→0≤l.foldl (fun a c=>a*10+((c.toNat:Int)-48)) a∧l.foldl (fun a c=>a*10+((c.toNat:Int)-48)) a<10 ^ (k+l.length):=by
  intro l
  induction l with
  | nil=>intro a k h1 h2 _;simpa using ⟨h1,h2⟩
  | cons c l ih=>
   intro a k h1 h2 hd;have hc:=hd c (by simp);unfold isD at hc;simp only [Bool.and_eq_true,decide_eq_true_eq] at hc;have:=ih (a*10+((c.toNat:Int)-48)) (k+1) (by omega) (by rw [Int.pow_succ];omega) (fun x hx=>hd x (by simp [hx]));rw [List.foldl_cons,List.length_cons,show k+(l.length+1)=k+1+l.length by omega];exact this
 intro h;have:=this l 0 0 (by omega) (by simp) h
 simpa using this
theorem read_right (l:List UInt8) (p:Nat) (h:(Tk.read l).code=0):TkR ⟨(Tk.read l).kind,p,(Tk.read l).text,(Tk.read l).n⟩:=by
 unfold Tk.read at h ⊢
 split
 ·rename_i h0
  rw [if_pos h0] at h;unfold readSign at h ⊢
  split at h
  ·simp [bad] at h
  ·rename_i hs
   rw [if_neg hs];exact ⟨by simp,by simp⟩
 ·rename_i h0
  rw [if_neg h0] at h;have hr:=run_take l
  split
  ·rename_i hd
   rw [if_pos hd] at h;unfold readNum at h ⊢
   split at h
   ·simp [bad] at h
   ·rename_i hb
    split at h
    ·rename_i ha
     rw [if_neg hb,if_pos ha];refine ⟨by simp,fun _=>?_⟩;rw [List.all_eq_true] at ha;have hn:=numVal_lt _ ha;unfold badNum at hb;simp only [Bool.or_eq_true,decide_eq_true_eq,not_or] at hb;refine ⟨hn.1,?_⟩;have:(10:Int) ^ (l.take (runLen l)).length≤10 ^ 18:=by
      have h1:=Nat.pow_le_pow_right (n:=10) (by omega) (show (l.take (runLen l)).length≤18 by omega)
      exact_mod_cast h1
     have h2:=hn.2;simp only at *;omega
    ·simp [bad] at h
  ·rename_i hd
   rw [if_neg hd] at h;unfold readName at h ⊢
   split at h
   ·rename_i hw
    rw [if_pos hw];exact ⟨by simp,by simp⟩
   ·rename_i hw
    split at h
    ·simp [bad] at h
    ·rename_i hlen
     rw [if_neg hw,if_neg hlen];refine ⟨fun _=>?_,by simp⟩
     cases l with
     | nil=>simp [runLen] at h0
     | cons c l=>
      have hpos:0<runLen (c :: l):=(by omega);obtain ⟨k,hk⟩:∃ k,runLen (c :: l)=k+1:=⟨runLen (c :: l)-1,by omega⟩;have hlist:(c :: l).take (runLen (c :: l))=c :: l.take k:=(by rw [hk,List.take_succ_cons]);have hcr:=hr c (by rw [hlist];simp);have hcl:isL (c.toNat:Int)=true:=by
       unfold isR at hcr;simp only [List.headD_cons] at hd
       simpa [hd] using hcr
      unfold isName;simp only [Bool.and_eq_true,Bool.not_eq_true',decide_eq_true_eq,beq_iff_eq];refine ⟨⟨⟨⟨?_,by omega⟩,?_⟩,?_⟩,by simpa using hw⟩
      ·rw [hlist];rfl
      ·rw [hlist];simpa using hcl
      ·have:=run_edge _ [] hr (by intro x hx;simp at hx)
       rw [List.append_nil] at this;exact this
theorem scanR_right:∀ (f:Nat) (l:List UInt8) (p:Nat),∀ t ∈ (scanR f l p).1,TkR t
 | 0,l,p,t,h=>by simp [scanR] at h
 | f+1,[],p,t,h=>by simp [scanR] at h
 | f+1,c :: l,p,t,h=>by
  unfold scanR at h
  split at h
  ·simp at h
  ·rename_i hc
   simp only [] at h
   split at h
   ·simp at h
   ·simp only [List.mem_cons] at h
    rcases h with rfl | h
    ·exact read_right _ _ (by simpa using hc)
    ·exact scanR_right f _ _ t h
theorem scan_right (l:List UInt8):∀ t ∈ (scan l).1,TkR t:=by
 unfold scan
 split
 ·intro t h;simp at h
 ·exact scanR_right _ _ _
def Rt (I:Inp):Prop:=∀ n,TkR (I.pk n)
theorem rt_of {L:List Tok} {len:Nat} (h:∀ t ∈ L,TkR t):Rt ⟨L,len⟩:=by
 intro n;unfold Inp.pk peekT
 split
 ·exact h _ (List.getElem_mem _)
 ·exact ⟨by simp,by simp⟩
theorem bind_ok {α β:Type} {r:Res α} {k:α→Nat→Res β} {v:β} {n:Nat} (h:r.bind k=.ok v n):∃ a m,r=.ok a m∧k a m=.ok v n:=by
 cases r with
 | ok a m=>exact ⟨a,m,rfl,h⟩
 | err c a=>cases h
theorem name_r {I:Inp} (hI:Rt I) {n m:Nat} {s:ByteArray} (h:Ps.name I n=.ok s m):isName s.data.toList=true:=by
 unfold Ps.name at h
 split at h
 ·rename_i hk
  injection h with h1 _;subst h1;exact (hI n).1 hk
 ·cases h
theorem sg_r {b:Bool} {x:Int} (h0:0≤x) (h1:x<1000000000000000000) : -1000000000000000000<Ps.sg b x∧Ps.sg b x<1000000000000000000:=by
 unfold Ps.sg
 split
 ·rw [w64s (by omega) (by omega)];omega
 ·omega
theorem termC_of {t:Tm} (h1 : -1000000000000000000<t.1) (h2:t.1<1000000000000000000) (h3:t.2.size=0∨isName t.2.data.toList=true):Rn.termC t=0:=by
 unfold Rn.termC;rw [if_neg (by omega)]
 split
 ·rfl
 ·rename_i hs
  unfold Rn.nameC;rw [if_pos (h3.resolve_left hs)]
theorem term_r {I:Inp} (hI:Rt I) {b:Bool} {n m:Nat} {t:Tm} (h:Ps.term I b n=.ok t m):Rn.termC t=0:=by
 unfold Ps.term at h
 split at h
 ·rename_i hk
  have hn:=(hI n).2 hk;have hs:=sg_r (b:=b) hn.1 hn.2
  split at h
  ·obtain ⟨s,m',h1,h2⟩:=bind_ok h
   injection h2 with h3 _;subst h3;exact termC_of hs.1 hs.2 (.inr (name_r hI h1))
  ·injection h with h3 _
   subst h3;exact termC_of hs.1 hs.2 (.inl rfl)
 ·obtain ⟨s,m',h1,h2⟩:=bind_ok h
  injection h2 with h3 _;subst h3;have hs:=sg_r (b:=b) (x:=1) (by omega) (by omega);exact termC_of hs.1 hs.2 (.inr (name_r hI h1))
theorem terms_r {I:Inp} (hI:Rt I):∀ (f:Nat) (acc:List Tm) (n m:Nat) (l:List Tm),Ps.terms I f acc n=.ok l m→(∀ t ∈ acc,Rn.termC t=0)→(∀ t ∈ l,Rn.termC t=0)∧acc.length≤l.length∧l.length≤acc.length+f
 | 0,acc,n,m,l,h,ha=>by
  unfold Ps.terms at h
  split at h
  ·cases h
  ·injection h with h1 _
   subst h1;exact ⟨ha,Nat.le_refl _,by omega⟩
 | f+1,acc,n,m,l,h,ha=>by
  unfold Ps.terms at h
  split at h
  ·obtain ⟨t,m',h1,h2⟩:=bind_ok h
   have:=terms_r hI f (acc++[t]) _ _ _ h2 (fun x hx=>by
    rcases List.mem_append.1 hx with hx | hx
    ·exact ha x hx
    ·simp at hx;subst hx;exact term_r hI h1)
   rw [List.length_append,List.length_singleton] at this;exact ⟨this.1,by omega,by omega⟩
  ·injection h with h1 _
   subst h1;exact ⟨ha,Nat.le_refl _,by omega⟩
theorem firstC_zero {α:Type} {f:α→Int}:∀ {l:List α},(∀ x ∈ l,f x=0)→Rn.firstC f l=0
 | [],_=>rfl
 | x :: l,h=>by
  unfold Rn.firstC;rw [if_pos (h x (by simp))];exact firstC_zero (fun y hy=>h y (by simp [hy]))
theorem size_r {I:Inp} (hI:Rt I) {n m:Nat} {s:List Tm} (h:Ps.size I n=.ok s m):Rn.sizeC s=0:=by
 unfold Ps.size at h;obtain ⟨t,m',h1,h2⟩:=bind_ok h;have:=terms_r hI _ _ _ _ _ h2 (fun x hx=>by rw [List.mem_singleton] at hx;subst hx;exact term_r hI h1);rw [List.length_singleton] at this;unfold Rn.sizeC;rw [if_neg (by omega),if_neg (by omega)];exact firstC_zero this.1
theorem declN_r {I:Inp} (hI:Rt I) {s:ByteArray} {e:Int} {n m:Nat} {d:De} (hs:isName s.data.toList=true) (he:e=105∨e=98) (h:Ps.declN I s e n=.ok d m):Rn.declC d=0:=by
 unfold Ps.declN at h
 split at h
 ·obtain ⟨z,m',h1,h2⟩:=bind_ok h
  injection h2 with h3 _;subst h3;unfold Rn.declC;rw [if_neg (by simp [hs]),if_neg (by simp only;omega)]
  split
  ·rfl
  ·exact size_r hI h1
 ·injection h with h3 _
  subst h3;unfold Rn.declC;rw [if_neg (by simp [hs]),if_neg (by simp only;omega)];rfl
theorem decl_r {I:Inp} (hI:Rt I) {n m:Nat} {d:De} (h:Ps.decl I n=.ok d m):Rn.declC d=0:=by
 unfold Ps.decl at h;obtain ⟨s,m1,h1,h2⟩:=bind_ok h;obtain ⟨_,m2,_,h3⟩:=bind_ok h2;have hs:=name_r hI h1
 split at h3
 ·exact declN_r hI hs (.inl rfl) h3
 ·split at h3
  ·exact declN_r hI hs (.inr rfl) h3
  ·unfold Ps.refuse at h3;cases h3
theorem row_r {α:Type} {I:Inp} {read:Nat→Res α} {P:α→Prop} (hP:∀ n v m,read n=.ok v m→P v):∀ (f:Nat) (acc:List α) (n m:Nat) (l:List α),Ps.row I read f acc n=.ok l m→(∀ x ∈ acc,P x)→(∀ x ∈ l,P x)∧acc.length<l.length∧l.length≤acc.length+f
 | 0,acc,n,m,l,h,_=>by unfold Ps.row at h;cases h
 | f+1,acc,n,m,l,h,ha=>by
  unfold Ps.row at h;obtain ⟨v,m1,h1,h2⟩:=bind_ok h;have hacc:∀ x ∈ acc++[v],P x:=fun x hx=>by
   rcases List.mem_append.1 hx with hx | hx
   ·exact ha x hx
   ·simp at hx;subst hx;exact hP _ _ _ h1
  split at h2
  ·have:=row_r hP f (acc++[v]) _ _ _ h2 hacc
   simp at this;exact ⟨this.1,by omega,by omega⟩
  ·injection h2 with h3 _
   subst h3;exact ⟨hacc,by simp,by simp⟩
end Bk
end Go.Proofs.YtophfbefnaelfaaGreatDoor
