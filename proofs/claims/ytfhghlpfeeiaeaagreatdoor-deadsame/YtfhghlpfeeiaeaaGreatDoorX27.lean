import Derived.Test.YtfhghlpfeeiaeaaGreatDoorX26
set_option linter.unusedVariables false
set_option linter.unusedSimpArgs false
set_option maxHeartbeats 64000000
set_option maxRecDepth 100000
namespace Go.Proofs.YtfhghlpfeeiaeaaGreatDoor
open Go.RowKit Go.IntWalk
namespace Sk
theorem idx_nodup:∀ {l:List Int},l.Nodup->∀ i (h:i<l.length),l.idxOf l[i]=i
 | a :: l,hn,0,h=>by simp
 | a :: l,hn,i+1,h=>by
  have h2:=List.nodup_cons.1 hn;have hi:i<l.length:=(by simpa using h);have hne:a≠l[i]:=fun e=>h2.1 (by rw [e];exact List.getElem_mem hi);have hb:(a==l[i])=false:=(by simp [hne]);rw [List.getElem_cons_succ,List.idxOf_cons,idx_nodup h2.2 i hi,hb];rfl
theorem rank_of {S:Sys} (ok:Okay S) (hl:(turns S).2.2=[]):∃ rk:Int->Nat,∀ r ∈ S.R,∀ z ∈ needs r,rk z<rk r.out:=by
 classical
 have hp:=sort_perm ok (needs_in ok) hl;have kh:=sort_okay ok (needs_in ok) hl;have ha:=sort_ahead ok (needs_in ok) hl;refine ⟨fun z=>if z ∈ S.I then 0 else ((sortS S).R.map (·.out)).idxOf z+1,fun r hr z hz=>?_⟩;have ur:r ∈ (sortS S).R:=hp.mem_iff.1 hr;obtain ⟨i,hi,ei⟩:=List.getElem_of_mem ur;have Pj:r.out ∉ S.I:=(ok.rules r hr).1.2
 dsimp only
 rw [if_neg Pj];by_cases hzI:z ∈ S.I
 ·rw [if_pos hzI]
  omega
 ·rw [if_neg hzI]
  have h1:=ha i hi z (by rw [ei];exact hz);rcases h1 with q | q
  ·exact absurd q hzI
  ·have BH:((sortS S).R.map (·.out)).idxOf r.out=i:=by
    have hlen:i<((sortS S).R.map (·.out)).length:=(by simpa using hi);have tZ:((sortS S).R.map (·.out))[i]=r.out:=(by simp [ei]);rw [<-tZ];exact idx_nodup kh.rulesN i hlen
   have zi:(sortS S).R.map (·.out)=((sortS S).R.take i).map (·.out)++((sortS S).R.drop i).map (·.out):=(by rw [<-List.map_append,List.take_append_drop]);have bd:((sortS S).R.map (·.out)).idxOf z<i:=by
    rw [zi,List.idxOf_append,if_pos q];have:=List.idxOf_lt_length_of_mem q;rw [List.length_map,List.length_take] at this;omega
   omega
def solC (S:Sys) (ah:Int->Option (List Int)) (inp:List Int):List (List Int):=runR S.V ah (takeV S.V inp 0 S.I (List.replicate S.V.length [])).2 (sortS S).R
theorem sol_rule {S:Sys} (ok:Okay S) (hl:(turns S).2.2=[]) {ah:Int->Option (List Int)} {inp:List Int} (hC:(takeV S.V inp 0 S.I (List.replicate S.V.length [])).2.length=S.V.length) {r:Ru} (hr:r ∈ S.R):cAt (solC S ah inp) r.out=evalR S.V (solC S ah inp) ah r:=by
 have hp:=sort_perm ok (needs_in ok) hl;have kh:=sort_okay ok (needs_in ok) hl;have ha:=sort_ahead ok (needs_in ok) hl;obtain ⟨i,hi,ei⟩:=List.getElem_of_mem (hp.mem_iff.1 hr);have:=runR_fix kh ha (ah:=ah) (C:=(takeV S.V inp 0 S.I (List.replicate S.V.length [])).2) hC hi;rw [ei] at this;exact this
theorem sol_in {S:Sys} (ok:Okay S) (hl:(turns S).2.2=[]) {ah:Int->Option (List Int)} {inp:List Int} (hC:(takeV S.V inp 0 S.I (List.replicate S.V.length [])).2.length=S.V.length) {x:Int} (hx:x ∈ S.I):cAt (solC S ah inp) x=cAt (takeV S.V inp 0 S.I (List.replicate S.V.length [])).2 x:=by
 have kh:=sort_okay ok (needs_in ok) hl;have hp:=sort_perm ok (needs_in ok) hl;exact runR_other _ _ x hC (fun r hr=>(kh.rules r hr).1.1) (ok.ins x hx).1 (fun q=>by
  obtain ⟨r,hr,e⟩:=List.mem_map.1 q;exact (ok.rules r (hp.mem_iff.2 hr)).1.2 (e ▸ hx))
end Sk
end Go.Proofs.YtfhghlpfeeiaeaaGreatDoor
namespace Go.Proofs.YtfhghlpfeeiaeaaGreatDoor
open Go.RowKit Go.IntWalk
theorem tmod_I64 {a b:Int} (ha:I64 a):I64 (a.tmod b):=by
 have h:=Int.natAbs_tmod a b;have h2:=Nat.mod_le a.natAbs b.natAbs;have h3:0<=a->0<=a.tmod b:=fun h=>Int.tmod_nonneg b h;unfold I64 at *;by_cases h0:0<=a
 ·have:=h3 h0
  omega
 ·by_cases h4:a = -9223372036854775808
  ·subst h4
   have e:(-9223372036854775808:Int).tmod b = -((9223372036854775808:Int).tmod b):=(by rw [<-Int.neg_tmod]);have:=Int.tmod_nonneg b (show (0:Int)<=9223372036854775808 by omega);omega
  ·omega
theorem tr_I64 (b:Bool):I64 (tr b):=by unfold tr I64;split<;>omega
theorem zCx {c:Prop} [Decidable c] {x y:Int} (hx:I64 x) (hy:I64 y):I64 (if c then x else y):=by
 by_cases h:c
 ·rw [if_pos h];exact hx
 ·rw [if_neg h];exact hy
theorem zCy {k a b:Int} (ha:I64 a) (hb:I64 b):I64 (apT k a b):=by
 have h0:I64 0:=(by unfold I64;omega);have O7:I64 (min a b):=(by unfold I64 at *;omega);have GZ:I64 (max a b):=(by unfold I64 at *;omega);have hm:I64 (a.tmod b):=tmod_I64 ha;unfold apT
 repeat' (with_reducible apply zCx)
 all_goals first | exact h0 | assumption | apply tr_I64 | apply w64_I64
namespace Sk
def I64s (l:List Int):Prop:=∀ x ∈ l,I64 x
def WdC (C:List (List Int)):Prop:=∀ x,I64s (cAt C x)
theorem zero64:I64 0:=by unfold I64;omega
theorem I64s.get {l:List Int} (h:I64s l) (i:Nat):I64 (l.getD i 0):=by
 rw [List.getD_eq_getElem?_getD];by_cases hi:i<l.length
 ·rw [List.getElem?_eq_getElem hi]
  exact h _ (List.getElem_mem hi)
 ·rw [List.getElem?_eq_none (by omega)]
  exact zero64
theorem cellAt_wide {l:List Int} (h:I64s l) (p:Int) {o:Int} (ho:I64 o):I64 (cellAt l p o):=by
 unfold cellAt
 split
 ·exact ho
 ·exact h.get _
theorem stepV_wide {C:List (List Int)} (hC:WdC C) {p:Pu} (hp:I64 p.n) (h4:p.op=4 -> -1000000<=p.n/\p.n<=1000000) {t:List Int} (ht:I64s t) {k:Nat} (hk:k<=1000000):I64 (stepV C p t k):=by
 unfold stepV;by_cases e4:p.op=4
 ·have:=h4 e4
  simp only [e4];simp;unfold I64;omega
 ·simp only [if_neg e4]
  repeat' (with_reducible apply zCx)
  all_goals first | exact (hC _).get _ | exact zCy (ht.get _) zero64 | exact zCy (ht.get _) (ht.get _) | exact ht.get _ | exact cellAt_wide (hC _) _ (ht.get _) | exact hp
theorem stpS_wide {C:List (List Int)} (hC:WdC C) {p:Pu} (hp:I64 p.n) (h4:p.op=4 -> -1000000<=p.n/\p.n<=1000000) {st:List Int} (hs:I64s st) {k:Nat} (hk:k<=1000000):I64s (stpS C k st p):=by
 intro x hx;unfold stpS at hx;rw [List.mem_append,List.mem_singleton] at hx;rcases hx with h | rfl
 ·exact hs x (List.mem_of_mem_take h)
 ·exact stepV_wide hC hp h4 (fun y hy=>hs y (List.mem_of_mem_drop hy)) hk
def PW (E:List Pu):Prop:=∀ p ∈ E,I64 p.n/\(p.op=4 -> -1000000<=p.n/\p.n<=1000000)
theorem stkS_wide {C:List (List Int)} (hC:WdC C) {E:List Pu} (hE:PW E) {k:Nat} (hk:k<=1000000):∀ i,i<=E.length->I64s (stkS C k E i)
 | 0,_=>by rw [stkS_zero];intro x hx;cases hx
 | i+1,h=>by
  rw [stkS_succ C k E (by omega)];have hp:=hE _ (List.getElem_mem (show i<E.length by omega));exact stpS_wide hC hp.1 hp.2 (stkS_wide hC hE hk i (by omega)) hk
theorem treeV_wide {C:List (List Int)} (hC:WdC C) {E:List Pu} (hE:PW E) {k:Nat} (hk:k<=1000000):I64 (treeV C k [] E):=by
 rw [treeV_stk];exact (stkS_wide hC hE hk _ zBR).get 0
theorem foldV_wide {K:Int} {g:Nat->Int} {v:Int} (hv:I64 v):∀ n,(∀ i,i<n->I64 (g i))->I64 (foldV K g v n)
 | 0,_=>hv
 | n+1,h=>zCy (foldV_wide hv n fun i hi=>h i (by omega)) (h n (by omega))
end Sk
end Go.Proofs.YtfhghlpfeeiaeaaGreatDoor
namespace Go.Proofs.YtfhghlpfeeiaeaaGreatDoor
open Go.RowKit Go.IntWalk
namespace Sk
theorem effect_op {V:List Vr} {p:Pu} {n:Int} {st:List Int} (h:(effect V p n st).2≠0):1<=p.op/\p.op<=8:=by
 by_cases hc:1<=p.op/\p.op<=8
 ·exact hc
 ·exfalso
  unfold effect at h;rw [if_neg (by omega),if_neg (by omega),if_neg (by omega),if_neg (by omega),if_neg (by omega),if_neg (by omega)] at h;exact h rfl
theorem treeL_ops {V:List Vr} {n:Int}:∀ (E:List Pu) (st:List Int),treeL V n st E≠0->∀ p ∈ E,1<=p.op/\p.op<=8
 | [],st,h,p,hp=>by cases hp
 | q :: r,st,h,p,hp=>by
  unfold treeL at h
  split at h
  ·exact absurd rfl h
  ·rename_i hn
   rcases List.mem_cons.1 hp with e | hp
   ·rw [e]
    exact effect_op fun q=>hn (.inl q)
   ·exact treeL_ops r _ h p hp
theorem fitT_step {C:List (List Int)} {n:Nat}:∀ (E:List Pu) (h:Nat),fitT C n h E->∀ p ∈ E,StepFit C n p
 | [],h,_,p,hp=>by cases hp
 | q :: r,h,hf,p,hp=>by
  unfold fitT at hf;rcases List.mem_cons.1 hp with e | hp
  ·rw [e];exact hf.2.1
  ·exact fitT_step r _ hf.2.2 p hp
structure TFit (C:List (List Int)) (n:Nat) (E:List Pu):Prop where
 stk:∀ k,FitS C k E
 step:∀ p ∈ E,StepFit C n p
 ops:∀ p ∈ E,1<=p.op/\p.op<=8
 len:E.length<=24
 wide:PW E
 sz:n<=300
theorem TFit.pos {C:List (List Int)} {n:Nat} {E:List Pu} (h:TFit C n E):0<E.length:=by
 have:=(h.stk 0).fin;rcases Nat.eq_zero_or_pos E.length with e | e
 ·rw [e,stkS_zero] at this;simp at this
 ·exact e
structure RFx (V:List Vr) (C:List (List Int)) (ah:Int->Option (List Int)) (r:Ru):Prop where
 f5:r.op=5->(pt C r 1).length=cnt (vAt V r.out)/\(pt C r 2).length=cnt (vAt V r.out)
 f6:r.op=6->cnt (vAt V r.out)=1/\0<(pt C r 1).length
 f9:r.op=9->cnt (vAt V r.out)=1
 f12:r.op=12->(pt C r 0++pt C r 1).length=cnt (vAt V r.out)
 f13:r.op=13->(pt C r 0).length=cnt (vAt V r.out)/\∀ l,ah (aN r 1)=some l->l.length=cnt (vAt V r.out)
 f14:r.op=14\/r.op=16->TFit C (cnt (vAt V r.out)) r.E
 f15:r.op=15->cnt (vAt V r.out)=1/\0<r.n.toNat/\r.n=(r.n.toNat:Int)/\TFit C r.n.toNat r.E
theorem cnt_sc (e:Int):cnt (sc e)=1:=rfl
theorem rfx_of {V:List Vr} {C:List (List Int)} {ah:Int->Option (List Int)} {r:Ru} (hV:∀ v ∈ V,VrOk v) (hC:C.length=V.length) (ho:0<=r.out/\r.out<V.length) (h:RuOk V r) (hn:∀ z ∈ needs r,(cAt C z).length=cnt (vAt V z)) (jK:r.op=13->∀ l,ah (aN r 1)=some l->l.length=cnt (vAt V (aN r 1))) (hI:∀ p ∈ r.E,I64 p.n):RFx V C ah r:=by
 have hR:=rfit_of (ah:=ah) hV hC ho h hn jK;have cw:=h.form;unfold hasForm at cw;rw [Bool.and_eq_true,Bool.and_eq_true,decide_eq_true_iff,decide_eq_true_iff,beq_iff_eq] at cw;obtain ⟨⟨uo,rr⟩,hA⟩:=cw;have hN:r.op≠13->∀ z ∈ uses r,(cAt C z).length=cnt (vAt V z):=by
  intro q z hz;refine hn z ?_;unfold needs;rw [if_neg (fun e=>q e.1)];exact hz
 have hP:r.op≠13->∀ i,i<r.A.length->(pt C r i).length=cnt (vAt V (aN r i)):=fun q i hi=>hN q _ (uses_A (aN_mem hi));have aB:=h.fit;have eo:(vAt V r.out).elem≠0:=by
  have:=(vAt_ok hV ho).1;omega
 have bZ:∀ i:Nat,(i:Int)<partsT.getD r.op.toNat 0->i<r.A.length:=(by intro i hi;omega);unfold fitsR at aB;have D3:(∀ p ∈ r.E,StepFit C (cnt (vAt V r.out)) p)\/(∀ p ∈ r.E,StepFit C r.n.toNat p)->PW r.E:=by
  rintro (q | q) p hp
  ·exact ⟨hI p hp,(q p hp).f4⟩
  ·exact ⟨hI p hp,(q p hp).f4⟩
 have hlen:14<=r.op->r.E.length<=24:=by
  intro q;have:=hR.tree;unfold ownE at this;rw [if_neg (by omega)] at this;exact this
 refine ⟨?_,?_,?_,?_,?_,?_,?_⟩
 ·intro e
  have l1:=bZ 1 (by rw [e];decide);have l2:=bZ 2 (by rw [e];decide);rw [if_pos (by omega),e] at aB;simp [fits] at aB;have h1:=same_eq aB.2;have h2:=same_eq aB.1.2;rw [nt_map l1] at h1;rw [nt_map l1,nt_map l2] at h2;exact ⟨by rw [hP (by omega) 1 l1,h1],by rw [hP (by omega) 2 l2,h1,h2]⟩
 ·intro e
  have l0:=bZ 0 (by rw [e];decide);have l1:=bZ 1 (by rw [e];decide);rw [if_pos (by omega),e] at aB;simp [fits,goesOver,goesFrom] at aB;have h1:=same_eq aB.2;have h2:=same_eq aB.1.1.2;rw [h2] at h1;exact ⟨by rw [h1];exact cnt_sc _,by rw [hP (by omega) 1 l1];exact cnt_pos _⟩
 ·intro e
  have l0:=bZ 0 (by rw [e];decide);have l2:=bZ 2 (by rw [e];decide);rw [if_pos (by omega),e] at aB;simp [fits,hasPlace] at aB;have h1:=same_eq aB.2;have h2:=arrOf_eq aB.1.1;rw [h1,h2.2];exact cnt_sc _
 ·intro e
  have l0:=bZ 0 (by rw [e];decide);have l1:=bZ 1 (by rw [e];decide);rw [if_pos (by omega),e] at aB;simp [fits] at aB;obtain ⟨⟨a1,a2⟩,a3⟩:=aB;rw [nt_map l0] at a1;rw [nt_map l1] at a2;have a4:=same_eq a3;rw [nt_map l0,nt_map l1] at a4;have h1:=cnt_arr a1;have h2:=cnt_arr (arrOf_eq a2).1;rw [List.length_append,hP (by omega) 0 l0,hP (by omega) 1 l1,a4];unfold cnt at h1 h2 ⊢;simp only;omega
 ·intro e
  have l0:=bZ 0 (by rw [e];decide);have l1:=bZ 1 (by rw [e];decide);have hl:r.A.length=2:=(by rw [e] at hA;have:partsT.getD (13:Int).toNat 0=2:=rfl;omega);rw [if_pos (by omega),e] at aB;simp [fits] at aB;have h1:=same_eq aB.2;have h2:=same_eq aB.1;rw [nt_map l0] at h1;rw [nt_map l0,nt_map l1] at h2;have hz:=hn (aN r 0) (by unfold needs;rw [if_pos ⟨e,hl⟩];simp [aN]);refine ⟨by unfold pt;rw [hz,h1],fun l hl=>?_⟩;rw [jK e l hl,h1,h2]
 ·intro e
  have hs:=fitT_step _ _ (hR.f14 e);have bd:14<=r.op:=(by omega);rcases e with e | e
  ·rw [if_neg (by omega),e] at aB
   simp [fitsT] at aB;have h0:treeL V (max 1 (vAt V r.out).n) [] r.E≠0:=(by rw [aB];exact eo);exact ⟨fun k=>fitS_of h0 C k,hs,treeL_ops _ _ h0,hlen bd,D3 (.inl hs),hR.sz⟩
  ·rw [if_neg (by omega),e] at aB
   simp [fitsT] at aB;have h0:treeL V (vAt V r.out).n [] r.E≠0:=(by rw [aB.2];exact eo);exact ⟨fun k=>fitS_of h0 C k,hs,treeL_ops _ _ h0,hlen bd,D3 (.inl hs),hR.sz⟩
 ·intro e
  obtain ⟨⟨n1,n2⟩,ht⟩:=hR.f15 e;have hs:=fitT_step _ _ ht;rw [if_neg (by omega),e] at aB;simp [fitsT,goesFrom] at aB;obtain ⟨⟨⟨⟨⟨_,b0⟩,a0⟩,a2⟩,a3⟩,a4⟩:=aB;have h0:treeL V r.n [] r.E≠0:=(by rw [a4];exact eo);have hx:=same_eq b0;have hy:=same_eq a0;refine ⟨?_,by omega,by omega,fun k=>fitS_of h0 C k,hs,treeL_ops _ _ h0,hlen (by omega),D3 (.inr hs),by omega⟩;rw [hy,hx];exact cnt_sc _
theorem sol_fine {S:Sys} (ok:Okay S) (hl:(turns S).2.2=[]) {ah:Int->Option (List Int)} {inp:List Int} (hw:inp.length=width S.V S.I) (hz:(takeV S.V inp 0 S.I (List.replicate S.V.length [])).1.1=0):Fine S.V (S.I++(sortS S).R.map (·.out)) (solC S ah inp):=by
 have kh:=sort_okay ok (needs_in ok) hl;have h1:=takeV_fine ok hw S.I.length 0 (by omega) (fine_start S.V) (by simpa [wid] using hz);have N7:Fine S.V S.I (takeV S.V inp 0 S.I (List.replicate S.V.length [])).2:=(by simpa [wid] using h1);have h3:Fine (sortS S).V ((sortS S).I++((sortS S).R.take 0).map (·.out)) (takeV S.V inp 0 S.I (List.replicate S.V.length [])).2:=by
  rw [List.take_zero,List.map_nil,List.append_nil];exact N7
 have h2:=runR_fine kh (ah:=ah) (sortS S).R.length 0 (by omega) h3;rw [List.drop_zero] at h2;exact h2
theorem sol_len {S:Sys} (ok:Okay S) (hl:(turns S).2.2=[]) {ah:Int->Option (List Int)} {inp:List Int} (hw:inp.length=width S.V S.I) (hz:(takeV S.V inp 0 S.I (List.replicate S.V.length [])).1.1=0):∀ x,(x ∈ S.I\/x ∈ S.R.map (·.out))->(cAt (solC S ah inp) x).length=cnt (vAt S.V x):=by
 intro x hx;have hp:=sort_perm ok (needs_in ok) hl;refine (sol_fine ok hl (ah:=ah) hw hz).made x ?_;rcases hx with q | q
 ·exact List.mem_append.2 (.inl q)
 ·exact List.mem_append.2 (.inr ((hp.map (·.out)).mem_iff.1 q))
end Sk
end Go.Proofs.YtfhghlpfeeiaeaaGreatDoor
namespace Go.Proofs.YtfhghlpfeeiaeaaGreatDoor
open Go.Shelf Go.RowKit Go.Lib Go.IntWalk
def ins (n:Int):List Int->List Int
 | []=>[n]
 | x :: t=>if n<=x then (if n<x then n :: x :: t else x :: t) else x :: ins n t
def insD (n:Int) (p:List Int):Bool:=p.any (fun x=>decide (n<=x))
def insP (n:Int) (p:List Int):List Int:=if insD n p=true then ins n p else p
theorem ins_none (n:Int):∀ (p:List Int),insD n p=false->ins n p=p++[n]
 | [],_=>rfl
 | x :: t,h=>by
  simp [insD] at h;have:=ins_none n t (by simpa [insD] using h.2);rw [ins,if_neg (by omega),this];rfl
theorem ins_some (n x:Int):∀ (p:List Int),insD n p=true->ins n (p++[x])=ins n p++[x]
 | [],h=>by simp [insD] at h
 | y :: t,h=>by
  by_cases hy:n<=y
  ·by_cases hz:n<y
   ·simp [ins,hy,hz]
   ·simp [ins,hy,hz]
  ·have h2:insD n t=true:=by
    simp only [insD,List.any_cons,Bool.or_eq_true,decide_eq_true_eq] at h;rcases h with h | h
    ·omega
    ·simpa [insD] using h
   simp [ins,hy,ins_some n x t h2]
theorem ins_at (n x:Int) (hx:n<=x):∀ (p:List Int),insD n p=false->ins n (p++[x])=p++(if n<x then [n,x] else [x])
 | [],_=>by simp [ins,hx]
 | y :: t,h=>by
  simp [insD] at h;have:=ins_at n x hx t (by simpa [insD] using h.2);rw [List.cons_append,ins,if_neg (by omega),this];rfl
theorem zCF (n x:Int) (p:List Int):insD n (p++[x])=(insD n p || decide (n<=x)):=by simp [insD]
theorem insP_true {n x:Int} {p:List Int} (h:insD n p=true):insP n (p++[x])=insP n p++[x]:=by
 have e:insD n (p++[x])=true:=(by rw [zCF,h];rfl);rw [insP,insP,if_pos e,if_pos h,ins_some n x p h]
theorem insP_less {n x:Int} {p:List Int} (h:insD n p=false) (hx:¬n<=x):insP n (p++[x])=insP n p++[x]:=by
 have e:insD n (p++[x])=false:=(by rw [zCF,h];simpa using hx);rw [insP,insP,if_neg (by simp [e]),if_neg (by simp [h])]
theorem insP_here {n x:Int} {p:List Int} (h:insD n p=false) (hx:n<=x):insP n (p++[x])=insP n p++(if n<x then [n,x] else [x]):=by
 have e:insD n (p++[x])=true:=(by rw [zCF,h];simpa using hx);rw [insP,insP,if_pos e,if_neg (by simp [h]),ins_at n x hx p h]
theorem insP_end (n:Int) (p:List Int):ins n p=insP n p++(if insD n p=true then [] else [n]):=by
 unfold insP;by_cases h:insD n p=true
 ·simp [h]
 ·rw [if_neg h,if_neg h,ins_none n p (by simpa using h)]
theorem ins_len (n:Int):∀ (p:List Int),(ins n p).length<=p.length+1
 | []=>by simp [ins]
 | x :: t=>by
  have:=ins_len n t;rw [ins]
  split
  ·split<;>simp
  ·simp;omega
theorem insP_len (n:Int) (p:List Int):(insP n p).length<=p.length+1:=by
 unfold insP
 split
 ·exact ins_len n p
 ·omega
theorem zAn {ok:Nat->Prop} {w:World} {v:Value} {l:List Int} (n:Int) (hl:HInts ok w v l) (za:l.length<=2000000) :
  Calls Tryz.prog 73 #[v,.int .i64 n] w fun e w'=>∃ v',e=.returned v'/\OwnL kInt w.heap.size w' v' (ins n l)/\Below w.heap.size w w':=by
 obtain ⟨ao,cap,rfl,bH,cG,_⟩:=hl.at;have HL:=zBK hl;clear hl;have mE:∀ (N:Nat) (V:World) (x:Int),kInt.E (fun i=>N<=i) V [.int .i64 x] x:=fun _ _ _=>rfl;have mM:∀ k:Nat,k<=3000000->(k+1)*kInt.bytes<=140737488355328:=fun k hk=>by show (k+1)*8<=_;omega
 have mL:∀ k:Nat,k<=3000000->k+1<=maxLen:=fun k hk=>by unfold maxLen;omega
 go_enter Tryz.func73,Tryz.ntmps73;go_wp2_with fail;go_loopg [5,6,7] l.length (fun gh s5 s6 s7 wr=>∃ (i:Nat) (d:Bool),s7=.int .i64 (i:Int)/\s6=.bool d/\i<=l.length/\l.length<=gh+i/\Hid (d=insD n (l.take i))/\Hid (OwnL kInt w.heap.size wr s5 (insP n (l.take i)))/\Below w.heap.size w wr)
 case atStart=>exact ⟨0,false,rfl,rfl,by omega,by omega,zBK rfl,zBK OwnL.nil,Below.refl _ _⟩
 case round=>
  obtain ⟨i,d,rfl,rfl,qb,DW,HD,HO,bR⟩:=hrel;have yR:=bR.size;have ru:=insP_len n (l.take i);rw [List.length_take,Nat.min_eq_left qb] at ru;have own:=HO.out;have wD:=fun k hk=>(own.lt k hk).2;by_cases bd:i<l.length
  case neg=>
   have tZ:¬(i:Int)<(l.length:Int):=(by omega);have qa:i=l.length:=(by omega);have HE:=zBK (insP_end n l);have IY:=zBK (show d=insD n l by rw [HD.out,qa,List.take_length]);have eT:l.take i=l:=(by rw [qa,List.take_length]);rw [eT] at own ru;clear HD HO eT
   cases d with
   | true=>
    go_wp2_with fail;go_ret;refine ⟨_,rfl,?_,bR⟩;rw [HE.out,<-IY.out,if_pos rfl,List.append_nil];exact own
   | false=>
    generalize hP:insP n l=P at own ru
    go_wp2_with (at_builtin;refine zBW kInt rfl _ _ 23 3 rfl Tryz.underlying23 w.heap.size wr.heap.size _ P (by rfl) own [.int .i64 n] n (mE _ _ _) (by rfl) wD yR yR (mM _ (by omega)) (mL _ (by omega)) ?_;intro v8 w8 aG b8 _ _)
    go_ret;refine ⟨_,rfl,?_,bR.trans b8⟩;rw [HE.out,<-IY.out,hP];exact aG
  case pos=>
   have xh:(i:Int)<(l.length:Int):=(by omega);obtain ⟨gw,dk,ev,_,_,dr⟩:=(HL.out.under bR).at;injection ev with nD mw sf;subst nD;obtain ⟨b,o,rfl,hb,c0⟩:=dr i bd;clear dr mw sf;have HX:Hid (∀ V:World,Below w.heap.size w V->V.cell? ⟨b,o+i,none⟩=some (.int .i64 l[i])):=zBK (fun V bV=>by
    obtain ⟨gw,dk,ev,_,_,gN⟩:=(HL.out.under bV).at;injection ev with nD mw sf;subst nD;obtain ⟨b',o',e,sn,c1⟩:=gN i bd;injection e with e;injection e with e1 e2 e3;subst e1 e2;exact c1)
   have HT:=zBK (List.take_succ_eq_append_getElem bd);generalize l[i]=x at c0 HT HX;generalize hp:l.take i=p at HD HO own ru HT;generalize hP:insP n p=P at own ru HO;have HP:=zBK hP;clear hP hp
   cases d with
   | true=>
    have HS:=zBK (show insP n (l.take (i+1))=P++[x] by rw [HT.out,insP_true HD.out.symm,HP.out]);have tJ:=zBK (show true=insD n (l.take (i+1)) by rw [HT.out,zCF,<-HD.out];rfl);clear HT HD HP
    go_wp2_with (at_builtin;refine zBW kInt rfl _ _ 23 3 rfl Tryz.underlying23 w.heap.size wr.heap.size _ P (by rfl) own [.int .i64 x] x (mE _ _ _) (by rfl) wD yR yR (mM _ (by omega)) (mL _ (by omega)) ?_;intro v8 w8 aG b8 _ _)
    go_roundg (gk-1)
    case measure=>omega
    case rel=>exact ⟨i+1,true,by go_num,rfl,by omega,by omega,tJ,zBK (by rw [HS.out];exact aG),bR.trans b8⟩
   | false=>
    by_cases hx:n<=x
    ·have tJ:=zBK (show true=insD n (l.take (i+1)) by rw [HT.out,zCF,<-HD.out];simpa using hx)
     by_cases hy:n<x
     ·have HS:=zBK (show insP n (l.take (i+1))=(P++[n])++[x] by rw [HT.out,insP_here HD.out.symm hx,HP.out,if_pos hy];simp)
      clear HT HD HP;go_upto_region 9 with (at_builtin;refine zBW kInt rfl _ _ 23 3 rfl Tryz.underlying23 w.heap.size wr.heap.size _ P (by rfl) own [.int .i64 n] n (mE _ _ _) (by rfl) wD yR yR (mM _ (by omega)) (mL _ (by omega)) ?_;intro v8 w8 aG b8 _ _);have y8:=(bR.trans b8).size;have Of:=fun k hk=>(aG.lt k hk).2;have c8:=HX.out w8 (bR.trans b8);clear c0;have GR:(P++[n]).length<=3000000:=(by simp;omega);generalize P++[n]=P2 at aG HS GR
      go_wp2_with (at_builtin;refine zBW kInt rfl _ _ 23 3 rfl Tryz.underlying23 w.heap.size w8.heap.size _ P2 (by rfl) aG [.int .i64 x] x (mE _ _ _) (by rfl) Of y8 y8 (mM _ GR) (mL _ GR) ?_;intro v9 w9 iE b9 _ _)
      go_roundg (gk-1)
      case measure=>omega
      case rel=>exact ⟨i+1,true,by go_num,rfl,by omega,by omega,tJ,zBK (by rw [HS.out];exact iE),(bR.trans b8).trans b9⟩
     ·have HS:=zBK (show insP n (l.take (i+1))=P++[x] by rw [HT.out,insP_here HD.out.symm hx,HP.out,if_neg hy])
      clear HT HD HP
      go_wp2_with (at_builtin;refine zBW kInt rfl _ _ 23 3 rfl Tryz.underlying23 w.heap.size wr.heap.size _ P (by rfl) own [.int .i64 x] x (mE _ _ _) (by rfl) wD yR yR (mM _ (by omega)) (mL _ (by omega)) ?_;intro v8 w8 aG b8 _ _)
      go_roundg (gk-1)
      case measure=>omega
      case rel=>exact ⟨i+1,true,by go_num,rfl,by omega,by omega,tJ,zBK (by rw [HS.out];exact aG),bR.trans b8⟩
    ·have HS:=zBK (show insP n (l.take (i+1))=P++[x] by rw [HT.out,insP_less HD.out.symm hx,HP.out])
     have tJ:=zBK (show false=insD n (l.take (i+1)) by rw [HT.out,zCF,<-HD.out];simpa using hx);clear HT HD HP
     go_wp2_with (at_builtin;refine zBW kInt rfl _ _ 23 3 rfl Tryz.underlying23 w.heap.size wr.heap.size _ P (by rfl) own [.int .i64 x] x (mE _ _ _) (by rfl) wD yR yR (mM _ (by omega)) (mL _ (by omega)) ?_;intro v8 w8 aG b8 _ _)
     go_roundg (gk-1)
     case measure=>omega
     case rel=>exact ⟨i+1,false,by go_num,rfl,by omega,by omega,tJ,zBK (by rw [HS.out];exact aG),bR.trans b8⟩
end Go.Proofs.YtfhghlpfeeiaeaaGreatDoor
