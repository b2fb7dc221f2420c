import Derived.Test.YtegakbobaecdlaaGreatDoorG30
set_option linter.unusedVariables false
set_option linter.unusedSimpArgs false
set_option maxHeartbeats 64000000
set_option maxRecDepth 100000
namespace Go.Proofs.YtegakbobaecdlaaGreatDoor
open Go.RowKit Go.IntWalk
namespace Sk
def ct (S:Sys) (v:Int):Nat:=cnt (vAt S.V v)
theorem ct_pos (S:Sys) (v:Int):1<=ct S v:=by unfold ct cnt;omega
def kept (S:Sys) (i:Nat):Nat:=1+((S.R.take i).map fun r=>if r.op=13 then ct S r.out else 0).sum
theorem kept_zero (S:Sys):kept S 0=1:=rfl
theorem kept_succ (S:Sys) {i:Nat} (h:i<S.R.length):kept S (i+1)=kept S i+(if (S.R[i]).op=13 then ct S (S.R[i]).out else 0):=by
 unfold kept;rw [List.take_succ_eq_append_getElem h,List.map_append,List.sum_append];simp;omega
def aAt (A:List Int) (v:Int):Int:=A.getD v.toNat (-1)
theorem aAt_set {A:List Int} {v u x:Int} (hv:0<=v/\v<A.length) (hu:0<=u):aAt (A.set v.toNat x) u=if u=v then x else aAt A u:=by
 unfold aAt;rw [List.getD_eq_getElem?_getD,List.getD_eq_getElem?_getD,List.getElem?_set];by_cases e:u=v
 ·subst e
  rw [if_pos rfl,if_pos rfl,if_pos (by omega)];rfl
 ·rw [if_neg e,if_neg (by omega)]
def bars (S:Sys) (l:List Sp) (may:Int->Bool) (A:List Int) (v at_ o:Int):Bool :=
 ((decide (aAt A o<at_+ct S v)&&decide (at_<aAt A o+ct S o))&&decide ((spAt l v).1<=(spAt l o).2)) && !((aAt A o==at_)&&may o)
structure St where
 A:List Int
 c:Nat
 L:List Int
structure Fit (S:Sys) (l:List Sp) (may:Int->Bool) (b:Nat) (st:St) (v:Int) (a:Nat):Prop where
 lo:b<=a
 hi:a<=st.c
 free:∀ o ∈ st.L,bars S l may st.A v (a:Int) o=false
 first:(∀ o ∈ st.L,bars S l may st.A v (b:Int) o=false)->a=b
def St.lay (S:Sys) (st:St) (v:Int) (a:Nat):St:=⟨st.A.set v.toNat (a:Int),max st.c (a+ct S v),st.L++[v]⟩
def usesOther (u:Int) (p:Pu):Bool:=(p.v==u)&&((p.op==8) || ((p.op==3) && !(p.n==0)))
def over (S:Sys) (r:Ru) (u:Int):Bool:=(((r.op==14) || (r.op==16))&&(((vAt S.V r.out).n==(vAt S.V u).n) && !(r.A.any fun z=>u==z))) && !(r.E.any (usesOther u))
def varAt (S:Sys) (i:Nat):Int:=if i<S.I.length then S.I.getD i 0 else (S.R.getD (i-S.I.length) noRu).out
def mayAt (S:Sys) (l:List Sp) (i:Nat) (o:Int):Bool:=if i<S.I.length then false else (((spAt l o).2==((i-S.I.length:Nat):Int))&&over S (S.R.getD (i-S.I.length) noRu) o)
inductive Laid (S:Sys) (l:List Sp):Nat->St->Prop
 | start:Laid S l 0 ⟨List.replicate S.V.length (-1),kept S S.R.length,[]⟩
 | step {i:Nat} {st:St} {a:Nat}:Laid S l i st->i<S.I.length+S.R.length->Fit S l (mayAt S l i) (kept S S.R.length) st (varAt S i) a->Laid S l (i+1) (st.lay S (varAt S i) a)
theorem varAt_I {S:Sys} {i:Nat} (h:i<S.I.length):varAt S i=S.I[i]:=by
 unfold varAt;rw [if_pos h,List.getD_eq_getElem?_getD,List.getElem?_eq_getElem h];rfl
theorem varAt_R {S:Sys} {i:Nat} (h:i<S.R.length):varAt S (S.I.length+i)=(S.R[i]).out:=by
 unfold varAt;rw [if_neg (by omega),Nat.add_sub_cancel_left,List.getD_eq_getElem?_getD,List.getElem?_eq_getElem h];rfl
theorem mayAt_I {S:Sys} {l:List Sp} {i:Nat} (h:i<S.I.length) (o:Int):mayAt S l i o=false:=by
 unfold mayAt;rw [if_pos h]
theorem mayAt_R {S:Sys} {l:List Sp} {i:Nat} (h:i<S.R.length) (o:Int):mayAt S l (S.I.length+i) o=(((spAt l o).2==(i:Int))&&over S S.R[i] o):=by
 unfold mayAt;rw [if_neg (by omega),Nat.add_sub_cancel_left,List.getD_eq_getElem?_getD,List.getElem?_eq_getElem h];rfl
theorem var_cases {S:Sys} {i:Nat} (h:i<S.I.length+S.R.length):(∃ h':i<S.I.length,varAt S i=S.I[i])\/∃ k,∃ h':k<S.R.length,i=S.I.length+k/\varAt S i=(S.R[k]).out:=by
 by_cases e:i<S.I.length
 ·exact .inl ⟨e,varAt_I e⟩
 ·obtain ⟨k,rfl⟩:∃ k,i=S.I.length+k:=⟨i-S.I.length,by omega⟩
  exact .inr ⟨k,by omega,rfl,varAt_R (by omega)⟩
theorem varAt_in {S:Sys} (ok:Okay S) {i:Nat} (h:i<S.I.length+S.R.length):0<=varAt S i/\varAt S i<S.V.length:=by
 rcases var_cases h with ⟨h',e⟩ | ⟨k,hk,-,e⟩
 ·rw [e];exact ok.ins _ (List.getElem_mem _)
 ·rw [e];exact (ok.rules _ (List.getElem_mem _)).1.1
theorem nodup_inj {l:List Int} (h:l.Nodup) {i j:Nat} (hi:i<l.length) (hj:j<l.length) (e:l[i]=l[j]):i=j:=by
 have hp:=List.pairwise_iff_getElem.1 h;rcases Nat.lt_trichotomy i j with q | q | q
 ·exact absurd e (hp i j hi hj q)
 ·exact q
 ·exact absurd e.symm (hp j i hj hi q)
theorem varAt_inj {S:Sys} (ok:Okay S) {i j:Nat} (hi:i<S.I.length+S.R.length) (hj:j<S.I.length+S.R.length) (e:varAt S i=varAt S j):i=j:=by
 rcases var_cases hi with ⟨a,ea⟩ | ⟨k,hk,rfl,ea⟩<;>rcases var_cases hj with ⟨b,eb⟩ | ⟨m,hm,rfl,eb⟩
 ·rw [ea,eb] at e
  exact nodup_inj ok.insN a b e
 ·rw [ea,eb] at e
  exact absurd (e ▸ List.getElem_mem a) (ok.rules _ (List.getElem_mem hm)).1.2
 ·rw [ea,eb] at e
  exact absurd (e ▸ List.getElem_mem b) (ok.rules _ (List.getElem_mem hk)).1.2
 ·rw [ea,eb] at e
  have:=nodup_inj ok.rulesN (i:=k) (j:=m) (by simpa using hk) (by simpa using hm) (by simpa using e);omega
structure Inv (S:Sys) (l:List Sp) (i:Nat) (st:St):Prop where
 L:st.L=(List.range i).map (varAt S)
 lenA:st.A.length=S.V.length
 cge:kept S S.R.length<=st.c
 cells:st.c<=kept S S.R.length+(st.L.map (ct S)).sum
 inn:∀ v:Int,v ∈ st.L->(kept S S.R.length:Int)<=aAt st.A v/\aAt st.A v+ct S v<=st.c
 out:∀ v:Int,0<=v->v<S.V.length->v ∉ st.L->aAt st.A v = -1
 apart:∀ j k,j<k->k<i->aAt st.A (varAt S j)<aAt st.A (varAt S k)+ct S (varAt S k)->aAt st.A (varAt S k)<aAt st.A (varAt S j)+ct S (varAt S j)->(spAt l (varAt S j)).2<(spAt l (varAt S k)).1\/(aAt st.A (varAt S j)=aAt st.A (varAt S k)/\mayAt S l k (varAt S j)=true)
theorem bars_false {S:Sys} {l:List Sp} {may:Int->Bool} {A:List Int} {v a o:Int} (h:bars S l may A v a o=false) (h1:aAt A o<a+ct S v) (h2:a<aAt A o+ct S o):(spAt l o).2<(spAt l v).1\/(aAt A o=a/\may o=true):=by
 unfold bars at h;rw [decide_eq_true h1,decide_eq_true h2] at h;by_cases h3:(spAt l v).1<=(spAt l o).2
 ·right
  rw [decide_eq_true h3] at h
  simpa using h
 ·left;omega
theorem Laid.inv {S:Sys} {l:List Sp} (ok:Okay S):∀ {i:Nat} {st:St},Laid S l i st->i<=S.I.length+S.R.length/\Inv S l i st
 | _,_,.start=>⟨Nat.zero_le _,by
  refine ⟨rfl,by simp,Nat.le_refl _,by simp,fun v hv=>(by cases hv),fun v h1 h2 _=>?_,fun j k hj hk=>absurd hk (Nat.not_lt_zero _)⟩
  show aAt (List.replicate S.V.length (-1)) v = -1
  unfold aAt;rw [List.getD_eq_getElem?_getD,List.getElem?_replicate]
  split<;>rfl⟩
 | _,_,.step (i:=i) (st:=st) (a:=a) h hi hf=>by
  obtain ⟨-,I⟩:=Laid.inv ok h;refine ⟨hi,?_⟩;have hv:=varAt_in ok hi;have hnot:varAt S i ∉ st.L:=by
   rw [I.L];intro hm;obtain ⟨j,hj,e⟩:=List.mem_map.1 hm;have hj2:=List.mem_range.1 hj;have:=varAt_inj ok (by omega) hi e;omega
  have hva:0<=varAt S i/\varAt S i<st.A.length:=(by rw [I.lenA];exact hv);have hset:∀ u,0<=u->aAt (st.lay S (varAt S i) a).A u=if u=varAt S i then (a:Int) else aAt st.A u:=fun u hu=>aAt_set hva hu
  have hold:∀ u ∈ st.L,aAt (st.lay S (varAt S i) a).A u=aAt st.A u:=fun u hu=>by
   have hu0:0<=u:=by
    rw [I.L] at hu;obtain ⟨j,hj,e⟩:=List.mem_map.1 hu;have hj2:=List.mem_range.1 hj;rw [<-e];exact (varAt_in ok (by omega)).1
   rw [hset u hu0,if_neg (fun e:u=varAt S i=>hnot (e ▸ hu))]
  have hnew:aAt (st.lay S (varAt S i) a).A (varAt S i)=a:=(by rw [hset _ hv.1,if_pos rfl]);have hc:(st.lay S (varAt S i) a).c=max st.c (a+ct S (varAt S i)):=rfl;have hLL:(st.lay S (varAt S i) a).L=st.L++[varAt S i]:=rfl;refine ⟨?_,?_,?_,?_,fun v hm=>?_,fun v h1 h2 hm=>?_,fun j k hj hk=>?_⟩
  ·rw [hLL,I.L,List.range_succ,List.map_append]
   rfl
  ·show (st.A.set _ _).length=_
   rw [List.length_set];exact I.lenA
  ·rw [hc];have:=I.cge;omega
  ·rw [hc,hLL,List.map_append,List.sum_append]
   have h1:=I.cells;have h2:=hf.hi;simp only [List.map_cons,List.map_nil,List.sum_cons,List.sum_nil];omega
  ·rw [hLL] at hm
   rw [hc];rcases List.mem_append.1 hm with q | q
   ·rw [hold v q]
    have:=I.inn v q;omega
   ·simp at q
    subst q;rw [hnew];have:=hf.lo;omega
  ·rw [hLL] at hm
   have hm1:v ∉ st.L:=fun q=>hm (by simp [q]);have hm2:v≠varAt S i:=fun q=>hm (by simp [q]);rw [hset v h1,if_neg hm2];exact I.out v h1 h2 hm1
  ·have mem:∀ m,m<i->varAt S m ∈ st.L:=fun m hm=>by rw [I.L];exact List.mem_map.2 ⟨m,List.mem_range.2 hm,rfl⟩
   have hjL:=mem j (by omega);rw [hold _ hjL];by_cases e:k=i
   ·subst e
    rw [hnew];intro h1 h2;exact bars_false (hf.free _ hjL) h1 h2
   ·rw [hold _ (mem k (by omega))]
    exact I.apart j k hj (by omega)
def Why2 (S:Sys) (v t:Int):Prop:=(t=(S.R.length:Int)/\(v ∈ S.O\/∃ r ∈ S.R,r.op=13/\r.A.getD 1 0=v))\/∃ i,∃ h:i<S.R.length,t=(i:Int)/\v ∈ needs S.R[i]
structure Ends (S:Sys) (v s t:Int):Prop where
 why:t=s\/Why2 S v t
 ge:s<=t
 all:∀ t',Why2 S v t'->t'<=t
theorem Ends.det {S:Sys} {v s t t':Int} (h:Ends S v s t) (h':Ends S v s t'):t=t':=by
 have h1:t<=t':=by
  rcases h.why with e | e
  ·rw [e];exact h'.ge
  ·exact h'.all _ e
 have h2:t'<=t:=by
  rcases h'.why with e | e
  ·rw [e];exact h.ge
  ·exact h.all _ e
 omega
theorem spans_ends {S:Sys} (ok:Okay S) {v:Int} (hv:0<=v):(spAt (spans S) v).1=(spAt (start S) v).1/\Ends S v (spAt (start S) v).2 (spAt (spans S) v).2:=by
 have hs:=start_at ok;obtain ⟨g1,g2⟩:=needR_ups (P:=Why2 S) (n:=(S.R.length:Int)) S.R 0 (start S) (fun k hk=>by
  rw [hs.1,Nat.zero_add];have hr:S.R[k] ∈ S.R:=List.getElem_mem hk;exact ⟨fun z hz=>⟨needs_in ok _ hr z hz,.inr ⟨k,hk,rfl,hz⟩⟩,fun e=>⟨(pre_in ok hr e).2,.inl ⟨rfl,.inr ⟨_,hr,e,rfl⟩⟩⟩⟩)
 obtain ⟨u1,u2⟩:=needL_ups (P:=Why2 S) (p:=(S.R.length:Int)) S.O (needR (S.R.length:Int) 0 S.R (start S)) (fun z hz=>⟨by rw [g1.len,hs.1];exact ok.outs z hz,.inl ⟨rfl,.inl hz⟩⟩);have U:=g1.trans u1;refine ⟨U.fst v hv,U.why v hv,U.mono v hv,fun t' ht=>?_⟩;rcases ht with ⟨rfl,q | ⟨r,hr,e,rfl⟩⟩ | ⟨i,hi,rfl,q⟩
 ·exact u2 v q
 ·obtain ⟨k,hk,ek⟩:=List.getElem_of_mem hr
  have:=(g2 k hk).2 (by rw [ek];exact e);rw [ek] at this;exact Int.le_trans this (u1.mono _ hv)
 ·have:=(g2 i hi).1 v q
  rw [Nat.zero_add] at this;exact Int.le_trans this (u1.mono _ hv)
def dS (v:Int):Nat->List Ru->Sp->Sp
 | _,[],x=>x
 | i,r :: R,x=>dS v (i+1) R (if r.out=v then ((i:Int),(i:Int)) else x)
def dN (v:Int):Nat->List Ru->Sp->Sp
 | _,[],x=>x
 | i,r :: R,x=>dN v (i+1) R (if v ∈ needs r/\x.2<(i:Int) then (x.1,(i:Int)) else x)
def dP (n v:Int):List Ru->Sp->Sp
 | [],x=>x
 | r :: R,x=>dP n v R (if r.op=13/\r.A.getD 1 0=v then (x.1,n) else x)
def d0 (S:Sys) (v:Int):Sp:=if v ∈ S.I then (-1,-1) else (0,-1)
def d3 (S:Sys) (v:Int):Sp:=dP (S.R.length:Int) v S.R (dN v 0 S.R (dS v 0 S.R (d0 S v)))
def dSpan (S:Sys) (v:Int):Sp:=if v ∈ S.O then ((d3 S v).1,(S.R.length:Int)) else d3 S v
theorem dS_at (v:Int):∀ (R:List Ru) (i:Nat) (x:Sp),(R.map (·.out)).Nodup->((∀ k (h:k<R.length),(R[k]).out=v->dS v i R x=(((i+k:Nat):Int),((i+k:Nat):Int)))/\(v ∉ R.map (·.out)->dS v i R x=x))
 | [],i,x,_=>⟨fun k h=>absurd h (Nat.not_lt_zero _),fun _=>rfl⟩
 | r :: R,i,x,hn=>by
  rw [List.map_cons,List.nodup_cons] at hn;unfold dS;obtain ⟨h1,h2⟩:=dS_at v R (i+1) (if r.out=v then ((i:Int),(i:Int)) else x) hn.2;refine ⟨fun k hk e=>?_,fun hm=>?_⟩
  ·cases k with
   | zero=>
    have e':r.out=v:=e;rw [h2 (by rw [<-e'];exact hn.1),if_pos e'];rfl
   | succ k=>
    rw [h1 k (by simpa using hk) e]
    congr 2<;>omega
  ·rw [List.map_cons,List.mem_cons,not_or] at hm
   rw [h2 hm.2,if_neg (fun e=>hm.1 e.symm)]
theorem dN_at (v:Int):∀ (R:List Ru) (i:Nat) (x:Sp),(dN v i R x).1=x.1/\x.2<=(dN v i R x).2/\((dN v i R x).2=x.2\/∃ k,∃ h:k<R.length,(dN v i R x).2=((i+k:Nat):Int)/\v ∈ needs R[k])/\∀ k (h:k<R.length),v ∈ needs R[k]->((i+k:Nat):Int)<=(dN v i R x).2
 | [],i,x=>⟨rfl,Int.le_refl _,.inl rfl,fun k h=>absurd h (Nat.not_lt_zero _)⟩
 | r :: R,i,x=>by
  unfold dN;by_cases hc:v ∈ needs r/\x.2<(i:Int)
  ·rw [if_pos hc]
   obtain ⟨h1,h2,h3,h4⟩:=dN_at v R (i+1) (x.1,(i:Int));refine ⟨h1,?_,?_,fun k hk hm=>?_⟩
   ·simp only at h2;omega
   ·rcases h3 with e | ⟨k,hk,e,hm⟩
    ·right
     exact ⟨0,by simp,by simpa using e,hc.1⟩
    ·right
     exact ⟨k+1,by simpa using hk,by rw [e];congr 1;omega,hm⟩
   ·cases k with
    | zero=>simpa using h2
    | succ k=>
     have:=h4 k (by simpa using hk) hm;have e:i+1+k=i+(k+1):=(by omega);rw [e] at this;exact this
  ·rw [if_neg hc]
   obtain ⟨h1,h2,h3,h4⟩:=dN_at v R (i+1) x;refine ⟨h1,h2,?_,fun k hk hm=>?_⟩
   ·rcases h3 with e | ⟨k,hk,e,hm⟩
    ·exact .inl e
    ·right
     exact ⟨k+1,by simpa using hk,by rw [e];congr 1;omega,hm⟩
   ·cases k with
    | zero=>
     have hm':v ∈ needs r:=hm;have:¬x.2<(i:Int):=fun q=>hc ⟨hm',q⟩;simp only [Nat.add_zero];omega
    | succ k=>
     have:=h4 k (by simpa using hk) hm;have e:i+1+k=i+(k+1):=(by omega);rw [e] at this;exact this
theorem dP_at (n v:Int):∀ (R:List Ru) (x:Sp),(dP n v R x).1=x.1/\(((∀ r ∈ R,¬(r.op=13/\r.A.getD 1 0=v))/\dP n v R x=x)\/((∃ r ∈ R,r.op=13/\r.A.getD 1 0=v)/\(dP n v R x).2=n))
 | [],x=>⟨rfl,.inl ⟨fun r hr=>(by cases hr),rfl⟩⟩
 | r :: R,x=>by
  unfold dP;by_cases hc:r.op=13/\r.A.getD 1 0=v
  ·rw [if_pos hc]
   obtain ⟨h1,h2⟩:=dP_at n v R (x.1,n);refine ⟨h1,.inr ⟨⟨r,by simp,hc⟩,?_⟩⟩;rcases h2 with ⟨_,e⟩ | ⟨_,e⟩
   ·rw [e]
   ·exact e
  ·rw [if_neg hc]
   obtain ⟨h1,h2⟩:=dP_at n v R x;refine ⟨h1,?_⟩;rcases h2 with ⟨q,e⟩ | ⟨⟨r',hr',q⟩,e⟩
   ·refine .inl ⟨fun r' hr'=>?_,e⟩
    rcases List.mem_cons.1 hr' with e2 | e2
    ·rw [e2];exact hc
    ·exact q r' e2
   ·exact .inr ⟨⟨r',by simp [hr'],q⟩,e⟩
theorem dSpan_eq {S:Sys} (ok:Okay S) {v:Int} (hv:0<=v):dSpan S v=spAt (spans S) v:=by
 obtain ⟨f1,f2⟩:=spans_ends ok hv;have hs:=start_at ok;have e0:dS v 0 S.R (d0 S v)=spAt (start S) v:=by
  obtain ⟨h1,h2⟩:=dS_at v S.R 0 (d0 S v) ok.rulesN;by_cases hm:v ∈ S.R.map (·.out)
  ·obtain ⟨r,hr,e⟩:=List.mem_map.1 hm
   obtain ⟨k,hk,ek⟩:=List.getElem_of_mem hr;have h3:=hs.2.1 k hk;rw [ek,e] at h3;rw [h1 k hk (by rw [ek];exact e),h3,Nat.zero_add]
  ·rw [h2 hm,hs.2.2 v hv hm]
   rfl
 obtain ⟨n1,n2,n3,n4⟩:=dN_at v S.R 0 (dS v 0 S.R (d0 S v));obtain ⟨p1,p2⟩:=dP_at (S.R.length:Int) v S.R (dN v 0 S.R (dS v 0 S.R (d0 S v)));rw [e0] at n1 n2 n3 n4 p1 p2;have lt:(spAt (start S) v).2<=S.R.length:=by
  by_cases hm:v ∈ S.R.map (·.out)
  ·obtain ⟨r,hr,e⟩:=List.mem_map.1 hm
   obtain ⟨k,hk,ek⟩:=List.getElem_of_mem hr;have h3:=hs.2.1 k hk;rw [ek,e] at h3;rw [h3];simp only;omega
  ·rw [hs.2.2 v hv hm]
   split<;>simp<;>omega
 have nle:(dN v 0 S.R (spAt (start S) v)).2<=S.R.length:=by
  rcases n3 with e | ⟨k,hk,e,_⟩
  ·rw [e];exact lt
  ·rw [e];omega
 have E:Ends S v (spAt (start S) v).2 (dSpan S v).2:=by
  have big:(dSpan S v).2=(S.R.length:Int)->Why2 S v (S.R.length:Int)->Ends S v (spAt (start S) v).2 (dSpan S v).2:=fun e hw=>by
   rw [e];refine ⟨.inr hw,lt,fun t' ht=>?_⟩;rcases ht with ⟨rfl,_⟩ | ⟨i,hi,rfl,_⟩<;>omega
  by_cases ho:v ∈ S.O
  ·exact big (by unfold dSpan;rw [if_pos ho]) (.inl ⟨rfl,.inl ho⟩)
  ·have e1:dSpan S v=dP (S.R.length:Int) v S.R (dN v 0 S.R (spAt (start S) v)):=by
    unfold dSpan d3;rw [if_neg ho,e0]
   rcases p2 with ⟨q,e⟩ | ⟨q,e⟩
   ·rw [e1,e]
    refine ⟨?_,n2,fun t' ht=>?_⟩
    ·rcases n3 with e2 | ⟨k,hk,e2,hm⟩
     ·exact .inl e2
     ·rw [Nat.zero_add] at e2
      exact .inr (.inr ⟨k,hk,e2,hm⟩)
    ·rcases ht with ⟨rfl,q2 | ⟨r,hr,q3⟩⟩ | ⟨i,hi,rfl,hm⟩
     ·exact absurd q2 ho
     ·exact absurd q3 (q r hr)
     ·have:=n4 i hi hm
      rw [Nat.zero_add] at this;exact this
   ·exact big (by rw [e1];exact e) (.inl ⟨rfl,.inr q⟩)
 have e2:=E.det f2;have e1:(dSpan S v).1=(spAt (spans S) v).1:=by
  rw [f1];unfold dSpan
  split
  ·show (d3 S v).1=_
   unfold d3;rw [e0,p1,n1]
  ·unfold d3
   rw [e0,p1,n1]
 exact Prod.ext e1 e2
end Sk
end Go.Proofs.YtegakbobaecdlaaGreatDoor
namespace Go.Proofs.YtegakbobaecdlaaGreatDoor
open Go.RowKit Go.IntWalk
namespace Sk
theorem seq_eq (S:Sys):(List.range (S.I.length+S.R.length)).map (varAt S)=S.I++S.R.map (·.out):=by
 apply List.ext_getElem
 ·simp
 ·intro i h1 h2
  rw [List.getElem_map,List.getElem_range];have hi:i<S.I.length+S.R.length:=(by simpa using h1);rcases var_cases hi with ⟨h',e⟩ | ⟨k,hk,rfl,e⟩
  ·rw [e,List.getElem_append_left h']
  ·rw [e,List.getElem_append_right (by omega)]
   simp
theorem Inv.list {S:Sys} {l:List Sp} {st:St} (I:Inv S l (S.I.length+S.R.length) st):st.L=S.I++S.R.map (·.out):=I.L.trans (seq_eq S)
theorem from_at {S:Sys} (ok:Okay S) {i:Nat} (h:i<S.I.length+S.R.length):(spAt (spans S) (varAt S i)).1=(if i<S.I.length then -1 else ((i-S.I.length:Nat):Int))/\(spAt (spans S) (varAt S i)).1<=(spAt (spans S) (varAt S i)).2:=by
 have hs:=start_at ok;have hv:=varAt_in ok h;obtain ⟨f1,f2⟩:=spans_ends ok hv.1;rw [f1];have ge:=f2.ge;rcases var_cases h with ⟨h',e⟩ | ⟨k,hk,rfl,e⟩
 ·have hno:varAt S i ∉ S.R.map (·.out):=fun hm=>by
   obtain ⟨r,hr,e2⟩:=List.mem_map.1 hm;exact (ok.rules r hr).1.2 (by rw [e2,e];exact List.getElem_mem h')
  have e3:=hs.2.2 (varAt S i) hv.1 hno;rw [if_pos (by rw [e];exact List.getElem_mem h')] at e3;rw [e3] at ge ⊢;rw [if_pos h'];exact ⟨rfl,ge⟩
 ·have e3:=hs.2.1 k hk
  rw [<-e] at e3;rw [e3] at ge ⊢;rw [if_neg (by omega),Nat.add_sub_cancel_left];exact ⟨rfl,ge⟩
theorem nowhere {S:Sys} (ok:Okay S) {v:Int} (hv:0<=v) (h1:v ∉ S.I) (h2:v ∉ S.R.map (·.out)):spAt (spans S) v=(0,-1):=by
 have hs:=start_at ok;obtain ⟨f1,f2⟩:=spans_ends ok hv;have e:=hs.2.2 v hv h2;rw [if_neg h1] at e;rw [e] at f1 f2;have no:∀ t,¬Why2 S v t:=fun t ht=>by
  have made:¬(v ∈ S.I\/v ∈ S.R.map (·.out)):=fun q=>q.elim h1 h2;rcases ht with ⟨_,q | ⟨r,hr,e1,e2⟩⟩ | ⟨i,hi,_,q⟩
  ·exact made (ok.told v q)
  ·have hl:=(pre_in ok hr e1).1
   refine made (ok.used r hr v (uses_A ?_));rw [<-e2,List.getD_eq_getElem?_getD,List.getElem?_eq_getElem (by omega)];exact List.getElem_mem _
  ·have hr:S.R[i] ∈ S.R:=List.getElem_mem hi
   exact made (ok.used _ hr v (needs_uses (ok.rules _ hr).2 q fun y hy=>uses_A hy))
 have e2:(spAt (spans S) v).2 = -1:=by
  rcases f2.why with q | q
  ·exact q
  ·exact absurd q (no _)
 exact Prod.ext f1 e2
theorem Inv.laid {S:Sys} {l:List Sp} {st:St} (ok:Okay S) (I:Inv S l (S.I.length+S.R.length) st) {v:Int} (hv:0<=v/\v<S.V.length) (ha:0<=aAt st.A v):∃ i,i<S.I.length+S.R.length/\v=varAt S i:=by
 have hm:v ∈ st.L:=Classical.byContradiction fun h=>by have:=I.out v hv.1 hv.2 h;omega
 rw [I.L] at hm;obtain ⟨i,hi,e⟩:=List.mem_map.1 hm;exact ⟨i,List.mem_range.1 hi,e.symm⟩
theorem Inv.at {S:Sys} {l:List Sp} {st:St} (I:Inv S l (S.I.length+S.R.length) st) {i:Nat} (h:i<S.I.length+S.R.length):(kept S S.R.length:Int)<=aAt st.A (varAt S i)/\aAt st.A (varAt S i)+ct S (varAt S i)<=st.c:=I.inn _ (by rw [I.L];exact List.mem_map.2 ⟨i,List.mem_range.2 h,rfl⟩)
theorem Inv.none {S:Sys} {st:St} (ok:Okay S) (I:Inv S (spans S) (S.I.length+S.R.length) st) {v:Int} (hv:0<=v/\v<S.V.length) (ha:aAt st.A v<0):(spAt (spans S) v).2<(spAt (spans S) v).1:=by
 have hno:v ∉ st.L:=fun hm=>by have:=(I.inn v hm).1;omega
 rw [I.list,List.mem_append,not_or] at hno;rw [nowhere ok hv.1 hno.1 hno.2]
 decide
theorem Inv.apart_of {S:Sys} {st:St} (ok:Okay S) (I:Inv S (spans S) (S.I.length+S.R.length) st) {u v:Int} (hu:0<=u/\u<S.V.length) (hv:0<=v/\v<S.V.length) (ne:u≠v) (au:0<=aAt st.A u) (av:0<=aAt st.A v) (o1:aAt st.A u<aAt st.A v+ct S v) (o2:aAt st.A v<aAt st.A u+ct S u) (hle:(spAt (spans S) u).1<=(spAt (spans S) v).1) :
  (spAt (spans S) u).1≠(spAt (spans S) v).1/\(spAt (spans S) u).2<=(spAt (spans S) v).1/\((spAt (spans S) u).2=(spAt (spans S) v).1->aAt st.A u=aAt st.A v/\∃ k,∃ h:k<S.R.length,(spAt (spans S) v).1=(k:Int)/\over S S.R[k] u=true):=by
 obtain ⟨j,hj,rfl⟩:=I.laid ok hu au;obtain ⟨k,hk,rfl⟩:=I.laid ok hv av;have fj:=from_at ok hj;have fk:=from_at ok hk;by_cases hjk:j<k
 ·rcases I.apart j k hjk hk o1 o2 with q | ⟨q1,q2⟩
  ·exact ⟨by omega,by omega,fun e=>by omega⟩
  ·by_cases hkI:k<S.I.length
   ·rw [mayAt_I hkI] at q2;cases q2
   ·obtain ⟨m,rfl⟩:∃ m,k=S.I.length+m:=⟨k-S.I.length,by omega⟩
    have hm:m<S.R.length:=(by omega);rw [mayAt_R hm] at q2;rw [if_neg hkI,Nat.add_sub_cancel_left] at fk;simp only [Bool.and_eq_true,beq_iff_eq] at q2;have fjl:(spAt (spans S) (varAt S j)).1<(m:Int):=by
     rw [fj.1]
     split<;>omega
    exact ⟨by omega,by omega,fun e=>⟨q1,m,hm,fk.1,q2.2⟩⟩
 ·have hne:j≠k:=fun e=>ne (by rw [e])
  have hkI:k<S.I.length:=by
   refine Classical.byContradiction fun h=>?_;rw [if_neg h] at fk;rw [if_neg (by omega:¬j<S.I.length)] at fj;omega
  rw [if_pos hkI] at fk;have hjI:j<S.I.length:=by
   refine Classical.byContradiction fun h=>?_;rw [if_neg h] at fj;omega
  rw [if_pos hjI] at fj;rcases I.apart k j (by omega) hj o2 o1 with q | ⟨_,q2⟩
  ·omega
  ·rw [mayAt_I hjI] at q2;cases q2
end Sk
end Go.Proofs.YtegakbobaecdlaaGreatDoor
namespace Go.Proofs.YtegakbobaecdlaaGreatDoor
open Go.RowKit Go.IntWalk
theorem index57_any {ok:Nat->Prop} {w:World} {v:Value} {l:List Int} (x:Int) (hl:HInts ok w v l) :
  Calls Tryz.prog 56 #[v,.int .i64 x] w fun e w'=>e=.returned (.int .i64 (Sk.idxI (fun z=>x==z) 0 l))/\Below w.heap.size w w':=by
 obtain ⟨ao,cap,rfl,hc1,hc2,-⟩:=hl.at;unfold maxLen at hc2;obtain ⟨R,hR⟩:=nmQ (Sk.idxI (fun z=>x==z) 0 l);rw [<-hR];have HR:=zG (show R=Sk.idxI (fun z=>x==z) 0 (l.drop 0) by rw [List.drop_zero];exact hR);have HL:=zG hl;clear hR hl;obtain ⟨n,hn⟩:=nmQ (l.length);rw [<-hn] at hc1 ⊢;have HN:=zG hn;clear hn;go_enter Tryz.func56,Tryz.ntmps56;go_wp2_with fail;go_loopg [8] n (fun k v wr=>∃ i,i<=n/\k=n-i/\v=.int .i64 (i:Nat)/\Hid (R=Sk.idxI (fun z=>x==z) i (l.drop i))/\Below w.heap.size w wr)
 case atStart=>exact ⟨0,Nat.zero_le _,rfl,rfl,HR,Below.refl _ _⟩
 case round=>
  clear HR;obtain ⟨i,hi,rfl,rfl,H,hbr⟩:=hrel;by_cases hlt:i<n
  case neg=>
   have hin:i=n:=(by omega);subst hin;have e1:l.drop i=[]:=List.drop_of_length_le (by have:=HN.out;omega);have HZ:=zG (show R = -1 by rw [H.out,e1];rfl);clear e1;go_wp2;go_ret;exact ⟨by rw [HZ.out];rfl,hbr⟩
  case pos=>
   have hil:i<l.length:=(by have:=HN.out;omega);have hdr:l.drop i=l[i] :: l.drop (i+1):=List.drop_eq_getElem_cons hil;have hR1:=H.out;rw [hdr] at hR1;obtain ⟨ao',cap',eqs,-,-,hat2⟩:=(HL.out.under hbr).at;injection eqs with q1 q2 q3;subst q1;obtain ⟨bb,o,rfl,hb,e0⟩:=hat2 i hil;obtain ⟨y,hy⟩:=nmQ (l[i]);rw [<-hy] at e0 hR1;unfold Sk.idxI at hR1;have HR1:=zG hR1;clear hat2 q2 q3 hy hdr hR1 H
   cases hq:(x==y)
   case false=>
    have HZ:Hid (R=Sk.idxI (fun z=>x==z) (i+1) (l.drop (i+1))):=zG (by rw [HR1.out,if_neg (show ¬(x==y)=true by rw [hq];decide)]);clear HR1;go_wp2_with fail;go_roundg (n-(i+1))
    case measure=>omega
    case rel=>exact ⟨i+1,by omega,rfl,by go_num,HZ,hbr⟩
   case true=>
    have HZ:Hid (R=(i:Int)):=zG (by rw [HR1.out,if_pos (show (x==y)=true from hq)]);clear HR1;go_wp2;go_ret;exact ⟨by rw [HZ.out];rfl,hbr⟩
theorem jE {ok:Nat->Prop} {w:World} {v:Value} {l:List Int} (x:Int) (hl:HInts ok w v l) :
  Calls Tryz.prog 54 #[v,.int .i64 x] w fun e w'=>e=.returned (.bool (l.any (fun z=>x==z)))/\Below w.heap.size w w':=by
 have hc:=index57_any x hl;have hi:=Sk.idxI_neg (fun z=>x==z) l 0;obtain ⟨ao,cap,rfl,-⟩:=hl.at;generalize Sk.idxI (fun z=>x==z) 0 l=R at hc hi;have HI:=zG hi;clear hi hl;generalize l.any (fun z=>x==z)=q at HI ⊢;go_enter Tryz.func54,Tryz.ntmps54;go_wp2_with fail;refine hc.mono ?_;rintro e w4 ⟨rfl,b4⟩;have hq:(decide (0<=R))=q:=by
  have:=HI.out.1
  cases q<;>simp at this ⊢<;>omega
 clear hc HI;go_wp2;go_ret;exact ⟨by rw [<-hq];rfl,b4⟩
theorem qL {ok:Nat->Prop} {w:World} {v:Value} {l:List Int} (x:Int) (hl:HInts ok w v l) :
  Calls Tryz.prog 12 #[v,.int .i64 x] w fun e w'=>e=.returned (.bool (l.any (fun z=>z==x)))/\Below w.heap.size w w':=by
 obtain ⟨ao,cap,rfl,hc1,hc2,-⟩:=hl.at;unfold maxLen at hc2;obtain ⟨R,hR⟩:=nmQ (l.any (fun z=>z==x));rw [<-hR];have HR:=zG (show R=(l.drop 0).any (fun z=>z==x) by rw [List.drop_zero];exact hR);have HL:=zG hl;clear hR hl;obtain ⟨n,hn⟩:=nmQ (l.length);rw [<-hn] at hc1 ⊢;have HN:=zG hn;clear hn;go_enter Tryz.func12,Tryz.ntmps12;go_wp2_with fail;go_loopg [5] n (fun k v wr=>∃ i,i<=n/\k=n-i/\v=.int .i64 (i:Nat)/\Hid (R=(l.drop i).any (fun z=>z==x))/\Below w.heap.size w wr)
 case atStart=>exact ⟨0,Nat.zero_le _,rfl,rfl,HR,Below.refl _ _⟩
 case round=>
  clear HR;obtain ⟨i,hi,rfl,rfl,H,hbr⟩:=hrel;by_cases hlt:i<n
  case neg=>
   have hin:i=n:=(by omega);subst hin;have e1:l.drop i=[]:=List.drop_of_length_le (by have:=HN.out;omega);have HZ:=zG (show R=false by rw [H.out,e1];rfl);clear e1;go_wp2;go_ret;exact ⟨by rw [HZ.out];rfl,hbr⟩
  case pos=>
   have hil:i<l.length:=(by have:=HN.out;omega);have hdr:l.drop i=l[i] :: l.drop (i+1):=List.drop_eq_getElem_cons hil;have hR1:=H.out;rw [hdr,List.any_cons] at hR1;obtain ⟨ao',cap',eqs,-,-,hat2⟩:=(HL.out.under hbr).at;injection eqs with q1 q2 q3;subst q1;obtain ⟨bb,o,rfl,hb,e0⟩:=hat2 i hil;obtain ⟨y,hy⟩:=nmQ (l[i]);rw [<-hy] at e0 hR1;have HR1:=zG hR1;clear hat2 q2 q3 hy hdr hR1 H
   cases hq:(y==x)
   case false=>
    have HZ:Hid (R=(l.drop (i+1)).any (fun z=>z==x)):=zG (by rw [HR1.out,hq,Bool.false_or]);clear HR1;go_wp2_with fail;go_roundg (n-(i+1))
    case measure=>omega
    case rel=>exact ⟨i+1,by omega,rfl,by go_num,HZ,hbr⟩
   case true=>
    have HZ:Hid (R=true):=zG (by rw [HR1.out,hq,Bool.true_or]);clear HR1;go_wp2;go_ret;exact ⟨by rw [HZ.out];rfl,hbr⟩
theorem vA {l:List Int} {x:Int}:(l.any (fun z=>z==x))=true↔x ∈ l:=by
 rw [List.any_eq_true]
 constructor
 ·rintro ⟨z,hz,e⟩
  have:z=x:=(by simpa using e);exact this ▸ hz
 ·intro h
  exact ⟨x,h,by simp⟩
end Go.Proofs.YtegakbobaecdlaaGreatDoor
