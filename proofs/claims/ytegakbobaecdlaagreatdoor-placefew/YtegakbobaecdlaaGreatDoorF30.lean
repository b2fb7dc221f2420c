import Derived.Test.YtegakbobaecdlaaGreatDoorF28
import Derived.Test.YtegakbobaecdlaaGreatDoorF16
import Derived.Test.YtegakbobaecdlaaGreatDoorF23
import Derived.Test.YtegakbobaecdlaaGreatDoorF00
import Derived.Test.YtegakbobaecdlaaGreatDoorF03
import Derived.Test.YtegakbobaecdlaaGreatDoorF01
import Derived.WalkKit
import Derived.WalkSpells
import Derived.IntWalk
import Derived.Test.YtegakbobaecdlaaGreatDoorF05
import Derived.Deep.Cut
import Derived.Deep.LoopGhost
import Derived.Ground.NamesProg
import Derived.Laws.Cover1
import Derived.Laws.Externs
import Derived.Lib.Hide
import Derived.Lib.MakeNoZero
import Derived.Lib.SlBuf
import Derived.Shelf.Bytes.SlSmallAll
import Derived.Shelf.Lay
import Derived.Laws.EntriesVeiled
import Derived.Test.YtegakbobaecdlaaGreatDoorF29
import Derived.Test.YtegakbobaecdlaaGreatDoorF04
import Derived.Test.YtegakbobaecdlaaGreatDoorF17
set_option linter.unusedVariables false
set_option linter.unusedSimpArgs false
set_option maxHeartbeats 64000000
set_option maxRecDepth 100000
namespace Go.Proofs.YtegakbobaecdlaaGreatDoor
open Go.RowKit Go.IntWalk
theorem Tryz.infoRu:(Tryz.prog.info? 40).map (fun i=>(i.zero,i.size,i.bytes))=some (some (.agg #[.int .i64 0,.int .i64 0,.int .i64 0,.int .i64 0,.slice none 0 0,.slice none 0 0]),6,80):=by kernel_rfl
def kRu:Kind Sk.Ru where
 ty:=40
 k:=6
 bytes:=80
 zero:=.agg #[.int .i64 0,.int .i64 0,.int .i64 0,.int .i64 0,.slice none 0 0,.slice none 0 0]
 E:=fun ok w cs r=>∃ y,cs=rcs r y/\HRu ok w y r
 pos:=by decide
 zs:=rfl
 info:=Tryz.infoRu
 len:=by rintro _ _ _ _ ⟨y,rfl,_⟩;rfl
 one:=by
  rintro _ _ _ _ ⟨y,rfl,_⟩ u hu;simp [rcs] at hu;rcases hu with rfl | rfl | rfl | rfl | rfl | rfl<;>rfl
 keep:=by rintro _ _ _ _ _ ⟨y,rfl,h⟩ hs hk;exact ⟨y,rfl,h.keep hs hk⟩
 wide:=by rintro _ _ _ _ _ ⟨y,rfl,h⟩ hk;exact ⟨y,rfl,h.wide hk⟩
end Go.Proofs.YtegakbobaecdlaaGreatDoor
namespace Go.Proofs.YtegakbobaecdlaaGreatDoor
open Go.RowKit Go.IntWalk
namespace Sk
theorem needs_in {S:Sys} (ok:Okay S):∀ r ∈ S.R,∀ z ∈ needs r,0<=z/\z<S.V.length:=fun r hr z hz=>(ok.rules r hr).2.uses z (needs_uses (ok.rules r hr).2 hz fun y hy=>uses_A hy)
end Sk
end Go.Proofs.YtegakbobaecdlaaGreatDoor
namespace Go.Proofs.YtegakbobaecdlaaGreatDoor
open Go Go.RowKit Go.IntWalk
section
variable {P:Program} {ops:Array Oper} {Q:Exit->Act->World->Prop} {md:Region.Mode} {S:World->Prop} {late:Nat->Bool}
end
def Blk (w:World) (B:Nat) (t:Value) (ty:TypeId) (v:Value):Prop:=∃ b,t=.pointer (some ⟨b,0,none⟩)/\B<=b/\w.heap[b]?=some (.cells #[v] ty (0,0))
theorem Blk.off {w:World} {B:Nat} {t:Value} {ty:TypeId} {v v' z:Value} {d d':Bool} (h:Blk w B t ty (if d=true then v else z)) (e:d=false) (e':d'=false):Blk w B t ty (if d'=true then v' else z):=by
 subst e e'
 simpa using h
def SlI (B:Nat) (w:World) (t:Value) (l:List Int):Prop:=(∃ p q c,t=.slice p q c)/\HInts (fun i=>i<B) w t l
theorem SlI.keep {B B1:Nat} {w w':World} {t:Value} {l:List Int} (h:SlI B w t l) (hb:Below B1 w w') (hB:B<=B1):SlI B w' t l:=⟨h.1,h.2.keep hb.size (fun i hi _=>hb.block i (Nat.lt_of_lt_of_le hi hB))⟩
end Go.Proofs.YtegakbobaecdlaaGreatDoor
namespace Go.Proofs.YtegakbobaecdlaaGreatDoor
open Go.RowKit Go.IntWalk
namespace Sk
abbrev Sp:=Int × Int
def spAt (l:List Sp) (v:Int):Sp:=l.getD v.toNat (0,-1)
theorem spAt_set {l:List Sp} {v u:Int} {x:Sp} (hv:0<=v/\v<l.length) (hu:0<=u):spAt (l.set v.toNat x) u=if u=v then x else spAt l u:=by
 unfold spAt;rw [List.getD_eq_getElem?_getD,List.getD_eq_getElem?_getD,List.getElem?_set];by_cases e:u=v
 ·subst e
  rw [if_pos rfl,if_pos rfl,if_pos (by omega)];rfl
 ·rw [if_neg e,if_neg (by omega)]
def startI:List Int->List Sp->List Sp
 | [],l=>l
 | v :: r,l=>startI r (l.set v.toNat (-1,-1))
def startR:Nat->List Ru->List Sp->List Sp
 | _,[],l=>l
 | i,r :: R,l=>startR (i+1) R (l.set r.out.toNat ((i:Int),(i:Int)))
def upTo (l:List Sp) (v p:Int):List Sp:=l.set v.toNat ((spAt l v).1,max (spAt l v).2 p)
def needL (p:Int):List Int->List Sp->List Sp
 | [],l=>l
 | z :: r,l=>needL p r (upTo l z p)
def needRu (n:Int) (i:Nat) (r:Ru) (l:List Sp):List Sp:=if r.op=13 then upTo (needL (i:Int) (needs r) l) (r.A.getD 1 0) n else needL (i:Int) (needs r) l
def needR (n:Int):Nat->List Ru->List Sp->List Sp
 | _,[],l=>l
 | i,r :: R,l=>needR n (i+1) R (needRu n i r l)
def start (S:Sys):List Sp:=startR 0 S.R (startI S.I (List.replicate S.V.length (0,-1)))
def spans (S:Sys):List Sp:=needL (S.R.length:Int) S.O (needR (S.R.length:Int) 0 S.R (start S))
theorem startI_at:∀ (I:List Int) (l:List Sp),(∀ v ∈ I,0<=v/\v<l.length)->(startI I l).length=l.length/\∀ u,0<=u->spAt (startI I l) u=if u ∈ I then (-1,-1) else spAt l u
 | [],l,h=>⟨rfl,fun u hu=>by simp [startI]⟩
 | v :: r,l,h=>by
  unfold startI;obtain ⟨h1,h2⟩:=startI_at r (l.set v.toNat (-1,-1)) (fun x hx=>by rw [List.length_set];exact h x (by simp [hx]));refine ⟨by rw [h1,List.length_set],fun u hu=>?_⟩;rw [h2 u hu,spAt_set (h v (by simp)) hu];by_cases e:u ∈ r
  ·rw [if_pos e,if_pos (by simp [e])]
  ·rw [if_neg e]
   by_cases e2:u=v
   ·rw [if_pos e2,if_pos (by simp [e2])]
   ·rw [if_neg e2,if_neg (by simp [e,e2])]
theorem startR_at:∀ (R:List Ru) (i:Nat) (l:List Sp),(∀ r ∈ R,0<=r.out/\r.out<l.length)->(R.map (·.out)).Nodup->(startR i R l).length=l.length/\(∀ k (h:k<R.length),spAt (startR i R l) (R[k]).out=(((i+k:Nat):Int),((i+k:Nat):Int)))/\∀ u,0<=u->u ∉ R.map (·.out)->spAt (startR i R l) u=spAt l u
 | [],i,l,h,hn=>⟨rfl,fun k hk=>absurd hk (Nat.not_lt_zero _),fun u hu _=>rfl⟩
 | r :: R,i,l,h,hn=>by
  unfold startR;rw [List.map_cons,List.nodup_cons] at hn;have hr:=h r (by simp);obtain ⟨h1,h2,h3⟩:=startR_at R (i+1) (l.set r.out.toNat ((i:Int),(i:Int))) (fun x hx=>by rw [List.length_set];exact h x (by simp [hx])) hn.2;refine ⟨by rw [h1,List.length_set],fun k hk=>?_,fun u hu hm=>?_⟩
  ·cases k with
   | zero=>
    show spAt _ r.out=_
    rw [h3 r.out hr.1 hn.1,spAt_set hr hr.1,if_pos rfl];rfl
   | succ k=>
    have:=h2 k (by simpa using hk)
    show spAt _ (R[k]'(by simpa using hk)).out=_
    rw [this]
    congr 2<;>omega
  ·rw [List.map_cons,List.mem_cons,not_or] at hm
   rw [h3 u hu hm.2,spAt_set hr hu,if_neg hm.1]
structure Ups (P:Int->Int->Prop) (l l':List Sp):Prop where
 len:l'.length=l.length
 fst:∀ v,0<=v->(spAt l' v).1=(spAt l v).1
 mono:∀ v,0<=v->(spAt l v).2<=(spAt l' v).2
 why:∀ v,0<=v->(spAt l' v).2=(spAt l v).2\/P v (spAt l' v).2
theorem Ups.refl {P:Int->Int->Prop} (l:List Sp):Ups P l l:=⟨rfl,fun _ _=>rfl,fun _ _=>Int.le_refl _,fun _ _=>.inl rfl⟩
theorem Ups.trans {P:Int->Int->Prop} {a b c:List Sp} (h:Ups P a b) (g:Ups P b c):Ups P a c :=
 ⟨g.len.trans h.len,fun v hv=>(g.fst v hv).trans (h.fst v hv),fun v hv=>Int.le_trans (h.mono v hv) (g.mono v hv),fun v hv=>by
  rcases g.why v hv with e | e
  ·rw [e];exact h.why v hv
  ·exact .inr e⟩
theorem upTo_ups {P:Int->Int->Prop} {l:List Sp} {v p:Int} (hv:0<=v/\v<l.length) (hp:P v p):Ups P l (upTo l v p)/\p<=(spAt (upTo l v p) v).2:=by
 unfold upTo;refine ⟨⟨by rw [List.length_set],fun u hu=>?_,fun u hu=>?_,fun u hu=>?_⟩,?_⟩
 ·rw [spAt_set hv hu]
  split
  ·rename_i e;rw [e]
  ·rfl
 ·rw [spAt_set hv hu]
  split
  ·rename_i e;rw [e];show _<=max _ _;omega
  ·exact Int.le_refl _
 ·rw [spAt_set hv hu]
  split
  ·rename_i e
   subst e;by_cases h:(spAt l u).2<=p
   ·right
    show P u (max _ _)
    rw [Int.max_eq_right h];exact hp
   ·left
    show max _ _=_
    exact Int.max_eq_left (by omega)
  ·exact .inl rfl
 ·rw [spAt_set hv hv.1,if_pos rfl]
  show _<=max _ _
  omega
theorem needL_ups {P:Int->Int->Prop} {p:Int}:∀ (zs:List Int) (l:List Sp),(∀ z ∈ zs,(0<=z/\z<l.length)/\P z p)->Ups P l (needL p zs l)/\∀ z ∈ zs,p<=(spAt (needL p zs l) z).2
 | [],l,h=>⟨Ups.refl _,fun z hz=>by cases hz⟩
 | z :: r,l,h=>by
  unfold needL;have hz:=h z (by simp);obtain ⟨g1,g2⟩:=upTo_ups hz.1 hz.2;obtain ⟨i1,i2⟩:=needL_ups r (upTo l z p) (fun x hx=>⟨by rw [g1.len];exact (h x (by simp [hx])).1,(h x (by simp [hx])).2⟩);refine ⟨g1.trans i1,fun x hx=>?_⟩;rcases List.mem_cons.1 hx with e | e
  ·subst e
   exact Int.le_trans g2 (i1.mono x hz.1.1)
  ·exact i2 x e
def NeedOk (P:Int->Int->Prop) (n:Int) (len:Nat) (i:Nat) (r:Ru):Prop:=(∀ z ∈ needs r,(0<=z/\z<len)/\P z (i:Int))/\(r.op=13->(0<=r.A.getD 1 0/\r.A.getD 1 0<len)/\P (r.A.getD 1 0) n)
theorem needRu_ups {P:Int->Int->Prop} {n:Int} {i:Nat} {r:Ru} {l:List Sp} (h:NeedOk P n l.length i r):Ups P l (needRu n i r l)/\(∀ z ∈ needs r,(i:Int)<=(spAt (needRu n i r l) z).2)/\(r.op=13->n<=(spAt (needRu n i r l) (r.A.getD 1 0)).2):=by
 obtain ⟨g1,g2⟩:=needL_ups (needs r) l h.1;unfold needRu
 split
 ·rename_i e
  have h2:=h.2 e;obtain ⟨u1,u2⟩:=upTo_ups (P:=P) (l:=needL (i:Int) (needs r) l) (by rw [g1.len];exact h2.1) h2.2;exact ⟨g1.trans u1,fun z hz=>Int.le_trans (g2 z hz) (u1.mono z (h.1 z hz).1.1),fun _=>u2⟩
 ·rename_i e
  exact ⟨g1,g2,fun q=>absurd q e⟩
theorem needR_ups {P:Int->Int->Prop} {n:Int}:∀ (R:List Ru) (i:Nat) (l:List Sp),(∀ k (h:k<R.length),NeedOk P n l.length (i+k) R[k])->Ups P l (needR n i R l)/\∀ k (h:k<R.length),(∀ z ∈ needs R[k],((i+k:Nat):Int)<=(spAt (needR n i R l) z).2)/\((R[k]).op=13->n<=(spAt (needR n i R l) ((R[k]).A.getD 1 0)).2)
 | [],i,l,h=>⟨Ups.refl _,fun k hk=>absurd hk (Nat.not_lt_zero _)⟩
 | r :: R,i,l,h=>by
  unfold needR;have hr:NeedOk P n l.length i r:=h 0 (by simp);obtain ⟨g1,g2,g3⟩:=needRu_ups hr;obtain ⟨i1,i2⟩:=needR_ups R (i+1) (needRu n i r l) (fun k hk=>by
   have:=h (k+1) (by simpa using hk);rw [g1.len];have e:i+1+k=i+(k+1):=(by omega);rw [e];exact this)
  refine ⟨g1.trans i1,fun k hk=>?_⟩
  cases k with
  | zero=>exact ⟨fun z hz=>Int.le_trans (g2 z hz) (i1.mono z (hr.1 z hz).1.1),fun e=>Int.le_trans (g3 e) (i1.mono _ (hr.2 e).1.1)⟩
  | succ k=>
   have:=i2 k (by simpa using hk);have e:i+1+k=i+(k+1):=(by omega);rw [e] at this;exact this
def Why (S:Sys) (v t:Int):Prop:=t=(S.R.length:Int)\/∃ i,∃ h:i<S.R.length,t=(i:Int)/\v ∈ needs S.R[i]
theorem pre_in {S:Sys} (ok:Okay S) {r:Ru} (hr:r ∈ S.R) (e:r.op=13):r.A.length=2/\0<=r.A.getD 1 0/\r.A.getD 1 0<S.V.length:=by
 have hf:=(ok.rules r hr).2;have hl:r.A.length=2:=by
  have:=hf.form;rw [e] at this;unfold hasForm at this;simp [partsT] at this;omega
 refine ⟨hl,?_⟩;refine hf.uses _ (uses_A ?_);rw [List.getD_eq_getElem?_getD,List.getElem?_eq_getElem (by omega)];exact List.getElem_mem _
structure Spanned (S:Sys) (l:List Sp):Prop where
 len:l.length=S.V.length
 ups:Ups (Why S) (start S) l
 needs:∀ k (h:k<S.R.length),∀ z ∈ needs S.R[k],(k:Int)<=(spAt l z).2
 pre:∀ k (h:k<S.R.length),(S.R[k]).op=13->(S.R.length:Int)<=(spAt l ((S.R[k]).A.getD 1 0)).2
theorem start_at {S:Sys} (ok:Okay S):(start S).length=S.V.length/\(∀ k (h:k<S.R.length),spAt (start S) (S.R[k]).out=((k:Int),(k:Int)))/\∀ u,0<=u->u ∉ S.R.map (·.out)->spAt (start S) u=if u ∈ S.I then (-1,-1) else (0,-1):=by
 have h1:=startI_at S.I (List.replicate S.V.length (0,-1)) (fun v hv=>by rw [List.length_replicate];exact ok.ins v hv);rw [List.length_replicate] at h1;have h2:=startR_at S.R 0 (startI S.I (List.replicate S.V.length (0,-1))) (fun r hr=>by rw [h1.1];exact (ok.rules r hr).1.1) ok.rulesN;refine ⟨h2.1.trans h1.1,fun k hk=>?_,fun u hu hm=>?_⟩
 ·have:=h2.2.1 k hk
  rw [Nat.zero_add] at this;exact this
 ·show spAt (startR 0 S.R _) u=_
  rw [h2.2.2 u hu hm,h1.2 u hu]
  split
  ·rfl
  ·unfold spAt
   rw [List.getD_eq_getElem?_getD,List.getElem?_replicate]
   split<;>rfl
theorem spans_spanned {S:Sys} (ok:Okay S):Spanned S (spans S):=by
 have hs:=start_at ok;obtain ⟨g1,g2⟩:=needR_ups (P:=Why S) (n:=(S.R.length:Int)) S.R 0 (start S) (fun k hk=>by
  rw [hs.1,Nat.zero_add];have hr:S.R[k] ∈ S.R:=List.getElem_mem hk;exact ⟨fun z hz=>⟨needs_in ok _ hr z hz,.inr ⟨k,hk,rfl,hz⟩⟩,fun e=>⟨(pre_in ok hr e).2,.inl rfl⟩⟩)
 obtain ⟨u1,-⟩:=needL_ups (P:=Why S) (p:=(S.R.length:Int)) S.O (needR (S.R.length:Int) 0 S.R (start S)) (fun z hz=>⟨by rw [g1.len,hs.1];exact ok.outs z hz,.inl rfl⟩);refine ⟨u1.len.trans (g1.len.trans hs.1),g1.trans u1,fun k hk z hz=>?_,fun k hk e=>?_⟩
 ·have hr:S.R[k] ∈ S.R:=List.getElem_mem hk
  have:=(g2 k hk).1 z hz;rw [Nat.zero_add] at this;exact Int.le_trans this (u1.mono z (needs_in ok _ hr z hz).1)
 ·have hr:S.R[k] ∈ S.R:=List.getElem_mem hk
  exact Int.le_trans ((g2 k hk).2 e) (u1.mono _ (pre_in ok hr e).2.1)
def meets (l:List Sp) (p:Int):List Nat:=(List.range l.length).filter fun v=>decide ((spAt l v).1<=p)&&decide (p<=(spAt l v).2)
theorem mem_meets {l:List Sp} {p:Int} {v:Nat}:v ∈ meets l p↔v<l.length/\(spAt l v).1<=p/\p<=(spAt l v).2:=by
 unfold meets;rw [List.mem_filter,List.mem_range];simp
theorem width_sum {V:List Vr}:∀ (l:List Nat),(∀ x ∈ l,x<V.length)->width V (l.map Int.ofNat)=(l.map fun x:Nat=>cnt (vAt V (x:Int))).sum
 | [],_=>rfl
 | x :: r,h=>by
  have hx:=h x (by simp);rw [List.map_cons,List.map_cons,List.sum_cons,<-width_sum r fun y hy=>h y (by simp [hy])];have hw:width V (Int.ofNat x :: r.map Int.ofNat)=(if 0<=Int.ofNat x/\Int.ofNat x<V.length then cnt (vAt V (Int.ofNat x)) else 0)+width V (r.map Int.ofNat):=rfl;have h0:(0:Int)<=Int.ofNat x/\Int.ofNat x<V.length:=⟨Int.natCast_nonneg x,by have h1:(x:Int)<(V.length:Int):=(by omega);exact h1⟩;rw [hw,if_pos h0];rfl
end Sk
end Go.Proofs.YtegakbobaecdlaaGreatDoor
namespace Go.Proofs.YtegakbobaecdlaaGreatDoor
open Go.RowKit Go.IntWalk
namespace Sk
def ct (S:Sys) (v:Int):Nat:=cnt (vAt S.V v)
theorem ct_pos (S:Sys) (v:Int):1<=ct S v:=by unfold ct cnt;omega
def kept (S:Sys) (i:Nat):Nat:=1+((S.R.take i).map fun r=>if r.op=13 then ct S r.out else 0).sum
theorem kept_zero (S:Sys):kept S 0=1:=rfl
theorem kept_succ (S:Sys) {i:Nat} (h:i<S.R.length):kept S (i+1)=kept S i+(if (S.R[i]).op=13 then ct S (S.R[i]).out else 0):=by
 unfold kept;rw [List.take_succ_eq_append_getElem h,List.map_append,List.sum_append];simp;omega
def aAt (A:List Int) (v:Int):Int:=A.getD v.toNat (-1)
theorem aAt_set {A:List Int} {v u x:Int} (hv:0<=v/\v<A.length) (hu:0<=u):aAt (A.set v.toNat x) u=if u=v then x else aAt A u:=by
 unfold aAt;rw [List.getD_eq_getElem?_getD,List.getD_eq_getElem?_getD,List.getElem?_set];by_cases e:u=v
 ·subst e
  rw [if_pos rfl,if_pos rfl,if_pos (by omega)];rfl
 ·rw [if_neg e,if_neg (by omega)]
def bars (S:Sys) (l:List Sp) (may:Int->Bool) (A:List Int) (v at_ o:Int):Bool :=
 ((decide (aAt A o<at_+ct S v)&&decide (at_<aAt A o+ct S o))&&decide ((spAt l v).1<=(spAt l o).2)) && !((aAt A o==at_)&&may o)
structure St where
 A:List Int
 c:Nat
 L:List Int
structure Fit (S:Sys) (l:List Sp) (may:Int->Bool) (b:Nat) (st:St) (v:Int) (a:Nat):Prop where
 lo:b<=a
 hi:a<=st.c
 free:∀ o ∈ st.L,bars S l may st.A v (a:Int) o=false
 first:(∀ o ∈ st.L,bars S l may st.A v (b:Int) o=false)->a=b
def St.lay (S:Sys) (st:St) (v:Int) (a:Nat):St:=⟨st.A.set v.toNat (a:Int),max st.c (a+ct S v),st.L++[v]⟩
def usesOther (u:Int) (p:Pu):Bool:=(p.v==u)&&((p.op==8) || ((p.op==3) && !(p.n==0)))
def over (S:Sys) (r:Ru) (u:Int):Bool:=(((r.op==14) || (r.op==16))&&(((vAt S.V r.out).n==(vAt S.V u).n) && !(r.A.any fun z=>u==z))) && !(r.E.any (usesOther u))
def varAt (S:Sys) (i:Nat):Int:=if i<S.I.length then S.I.getD i 0 else (S.R.getD (i-S.I.length) noRu).out
def mayAt (S:Sys) (l:List Sp) (i:Nat) (o:Int):Bool:=if i<S.I.length then false else (((spAt l o).2==((i-S.I.length:Nat):Int))&&over S (S.R.getD (i-S.I.length) noRu) o)
inductive Laid (S:Sys) (l:List Sp):Nat->St->Prop
 | start:Laid S l 0 ⟨List.replicate S.V.length (-1),kept S S.R.length,[]⟩
 | step {i:Nat} {st:St} {a:Nat}:Laid S l i st->i<S.I.length+S.R.length->Fit S l (mayAt S l i) (kept S S.R.length) st (varAt S i) a->Laid S l (i+1) (st.lay S (varAt S i) a)
theorem varAt_I {S:Sys} {i:Nat} (h:i<S.I.length):varAt S i=S.I[i]:=by
 unfold varAt;rw [if_pos h,List.getD_eq_getElem?_getD,List.getElem?_eq_getElem h];rfl
theorem varAt_R {S:Sys} {i:Nat} (h:i<S.R.length):varAt S (S.I.length+i)=(S.R[i]).out:=by
 unfold varAt;rw [if_neg (by omega),Nat.add_sub_cancel_left,List.getD_eq_getElem?_getD,List.getElem?_eq_getElem h];rfl
theorem mayAt_I {S:Sys} {l:List Sp} {i:Nat} (h:i<S.I.length) (o:Int):mayAt S l i o=false:=by
 unfold mayAt;rw [if_pos h]
theorem mayAt_R {S:Sys} {l:List Sp} {i:Nat} (h:i<S.R.length) (o:Int):mayAt S l (S.I.length+i) o=(((spAt l o).2==(i:Int))&&over S S.R[i] o):=by
 unfold mayAt;rw [if_neg (by omega),Nat.add_sub_cancel_left,List.getD_eq_getElem?_getD,List.getElem?_eq_getElem h];rfl
theorem var_cases {S:Sys} {i:Nat} (h:i<S.I.length+S.R.length):(∃ h':i<S.I.length,varAt S i=S.I[i])\/∃ k,∃ h':k<S.R.length,i=S.I.length+k/\varAt S i=(S.R[k]).out:=by
 by_cases e:i<S.I.length
 ·exact .inl ⟨e,varAt_I e⟩
 ·obtain ⟨k,rfl⟩:∃ k,i=S.I.length+k:=⟨i-S.I.length,by omega⟩
  exact .inr ⟨k,by omega,rfl,varAt_R (by omega)⟩
theorem varAt_in {S:Sys} (ok:Okay S) {i:Nat} (h:i<S.I.length+S.R.length):0<=varAt S i/\varAt S i<S.V.length:=by
 rcases var_cases h with ⟨h',e⟩ | ⟨k,hk,-,e⟩
 ·rw [e];exact ok.ins _ (List.getElem_mem _)
 ·rw [e];exact (ok.rules _ (List.getElem_mem _)).1.1
theorem nodup_inj {l:List Int} (h:l.Nodup) {i j:Nat} (hi:i<l.length) (hj:j<l.length) (e:l[i]=l[j]):i=j:=by
 have hp:=List.pairwise_iff_getElem.1 h;rcases Nat.lt_trichotomy i j with q | q | q
 ·exact absurd e (hp i j hi hj q)
 ·exact q
 ·exact absurd e.symm (hp j i hj hi q)
theorem varAt_inj {S:Sys} (ok:Okay S) {i j:Nat} (hi:i<S.I.length+S.R.length) (hj:j<S.I.length+S.R.length) (e:varAt S i=varAt S j):i=j:=by
 rcases var_cases hi with ⟨a,ea⟩ | ⟨k,hk,rfl,ea⟩<;>rcases var_cases hj with ⟨b,eb⟩ | ⟨m,hm,rfl,eb⟩
 ·rw [ea,eb] at e
  exact nodup_inj ok.insN a b e
 ·rw [ea,eb] at e
  exact absurd (e ▸ List.getElem_mem a) (ok.rules _ (List.getElem_mem hm)).1.2
 ·rw [ea,eb] at e
  exact absurd (e ▸ List.getElem_mem b) (ok.rules _ (List.getElem_mem hk)).1.2
 ·rw [ea,eb] at e
  have:=nodup_inj ok.rulesN (i:=k) (j:=m) (by simpa using hk) (by simpa using hm) (by simpa using e);omega
structure Inv (S:Sys) (l:List Sp) (i:Nat) (st:St):Prop where
 L:st.L=(List.range i).map (varAt S)
 lenA:st.A.length=S.V.length
 cge:kept S S.R.length<=st.c
 cells:st.c<=kept S S.R.length+(st.L.map (ct S)).sum
 inn:∀ v:Int,v ∈ st.L->(kept S S.R.length:Int)<=aAt st.A v/\aAt st.A v+ct S v<=st.c
 out:∀ v:Int,0<=v->v<S.V.length->v ∉ st.L->aAt st.A v = -1
 apart:∀ j k,j<k->k<i->aAt st.A (varAt S j)<aAt st.A (varAt S k)+ct S (varAt S k)->aAt st.A (varAt S k)<aAt st.A (varAt S j)+ct S (varAt S j)->(spAt l (varAt S j)).2<(spAt l (varAt S k)).1\/(aAt st.A (varAt S j)=aAt st.A (varAt S k)/\mayAt S l k (varAt S j)=true)
theorem bars_false {S:Sys} {l:List Sp} {may:Int->Bool} {A:List Int} {v a o:Int} (h:bars S l may A v a o=false) (h1:aAt A o<a+ct S v) (h2:a<aAt A o+ct S o):(spAt l o).2<(spAt l v).1\/(aAt A o=a/\may o=true):=by
 unfold bars at h;rw [decide_eq_true h1,decide_eq_true h2] at h;by_cases h3:(spAt l v).1<=(spAt l o).2
 ·right
  rw [decide_eq_true h3] at h
  simpa using h
 ·left;omega
theorem Laid.inv {S:Sys} {l:List Sp} (ok:Okay S):∀ {i:Nat} {st:St},Laid S l i st->i<=S.I.length+S.R.length/\Inv S l i st
 | _,_,.start=>⟨Nat.zero_le _,by
  refine ⟨rfl,by simp,Nat.le_refl _,by simp,fun v hv=>(by cases hv),fun v h1 h2 _=>?_,fun j k hj hk=>absurd hk (Nat.not_lt_zero _)⟩
  show aAt (List.replicate S.V.length (-1)) v = -1
  unfold aAt;rw [List.getD_eq_getElem?_getD,List.getElem?_replicate]
  split<;>rfl⟩
 | _,_,.step (i:=i) (st:=st) (a:=a) h hi hf=>by
  obtain ⟨-,I⟩:=Laid.inv ok h;refine ⟨hi,?_⟩;have hv:=varAt_in ok hi;have hnot:varAt S i ∉ st.L:=by
   rw [I.L];intro hm;obtain ⟨j,hj,e⟩:=List.mem_map.1 hm;have hj2:=List.mem_range.1 hj;have:=varAt_inj ok (by omega) hi e;omega
  have hva:0<=varAt S i/\varAt S i<st.A.length:=(by rw [I.lenA];exact hv);have hset:∀ u,0<=u->aAt (st.lay S (varAt S i) a).A u=if u=varAt S i then (a:Int) else aAt st.A u:=fun u hu=>aAt_set hva hu
  have hold:∀ u ∈ st.L,aAt (st.lay S (varAt S i) a).A u=aAt st.A u:=fun u hu=>by
   have hu0:0<=u:=by
    rw [I.L] at hu;obtain ⟨j,hj,e⟩:=List.mem_map.1 hu;have hj2:=List.mem_range.1 hj;rw [<-e];exact (varAt_in ok (by omega)).1
   rw [hset u hu0,if_neg (fun e:u=varAt S i=>hnot (e ▸ hu))]
  have hnew:aAt (st.lay S (varAt S i) a).A (varAt S i)=a:=(by rw [hset _ hv.1,if_pos rfl]);have hc:(st.lay S (varAt S i) a).c=max st.c (a+ct S (varAt S i)):=rfl;have hLL:(st.lay S (varAt S i) a).L=st.L++[varAt S i]:=rfl;refine ⟨?_,?_,?_,?_,fun v hm=>?_,fun v h1 h2 hm=>?_,fun j k hj hk=>?_⟩
  ·rw [hLL,I.L,List.range_succ,List.map_append]
   rfl
  ·show (st.A.set _ _).length=_
   rw [List.length_set];exact I.lenA
  ·rw [hc];have:=I.cge;omega
  ·rw [hc,hLL,List.map_append,List.sum_append]
   have h1:=I.cells;have h2:=hf.hi;simp only [List.map_cons,List.map_nil,List.sum_cons,List.sum_nil];omega
  ·rw [hLL] at hm
   rw [hc];rcases List.mem_append.1 hm with q | q
   ·rw [hold v q]
    have:=I.inn v q;omega
   ·simp at q
    subst q;rw [hnew];have:=hf.lo;omega
  ·rw [hLL] at hm
   have hm1:v ∉ st.L:=fun q=>hm (by simp [q]);have hm2:v≠varAt S i:=fun q=>hm (by simp [q]);rw [hset v h1,if_neg hm2];exact I.out v h1 h2 hm1
  ·have mem:∀ m,m<i->varAt S m ∈ st.L:=fun m hm=>by rw [I.L];exact List.mem_map.2 ⟨m,List.mem_range.2 hm,rfl⟩
   have hjL:=mem j (by omega);rw [hold _ hjL];by_cases e:k=i
   ·subst e
    rw [hnew];intro h1 h2;exact bars_false (hf.free _ hjL) h1 h2
   ·rw [hold _ (mem k (by omega))]
    exact I.apart j k hj (by omega)
def Why2 (S:Sys) (v t:Int):Prop:=(t=(S.R.length:Int)/\(v ∈ S.O\/∃ r ∈ S.R,r.op=13/\r.A.getD 1 0=v))\/∃ i,∃ h:i<S.R.length,t=(i:Int)/\v ∈ needs S.R[i]
structure Ends (S:Sys) (v s t:Int):Prop where
 why:t=s\/Why2 S v t
 ge:s<=t
 all:∀ t',Why2 S v t'->t'<=t
theorem Ends.det {S:Sys} {v s t t':Int} (h:Ends S v s t) (h':Ends S v s t'):t=t':=by
 have h1:t<=t':=by
  rcases h.why with e | e
  ·rw [e];exact h'.ge
  ·exact h'.all _ e
 have h2:t'<=t:=by
  rcases h'.why with e | e
  ·rw [e];exact h.ge
  ·exact h.all _ e
 omega
theorem spans_ends {S:Sys} (ok:Okay S) {v:Int} (hv:0<=v):(spAt (spans S) v).1=(spAt (start S) v).1/\Ends S v (spAt (start S) v).2 (spAt (spans S) v).2:=by
 have hs:=start_at ok;obtain ⟨g1,g2⟩:=needR_ups (P:=Why2 S) (n:=(S.R.length:Int)) S.R 0 (start S) (fun k hk=>by
  rw [hs.1,Nat.zero_add];have hr:S.R[k] ∈ S.R:=List.getElem_mem hk;exact ⟨fun z hz=>⟨needs_in ok _ hr z hz,.inr ⟨k,hk,rfl,hz⟩⟩,fun e=>⟨(pre_in ok hr e).2,.inl ⟨rfl,.inr ⟨_,hr,e,rfl⟩⟩⟩⟩)
 obtain ⟨u1,u2⟩:=needL_ups (P:=Why2 S) (p:=(S.R.length:Int)) S.O (needR (S.R.length:Int) 0 S.R (start S)) (fun z hz=>⟨by rw [g1.len,hs.1];exact ok.outs z hz,.inl ⟨rfl,.inl hz⟩⟩);have U:=g1.trans u1;refine ⟨U.fst v hv,U.why v hv,U.mono v hv,fun t' ht=>?_⟩;rcases ht with ⟨rfl,q | ⟨r,hr,e,rfl⟩⟩ | ⟨i,hi,rfl,q⟩
 ·exact u2 v q
 ·obtain ⟨k,hk,ek⟩:=List.getElem_of_mem hr
  have:=(g2 k hk).2 (by rw [ek];exact e);rw [ek] at this;exact Int.le_trans this (u1.mono _ hv)
 ·have:=(g2 i hi).1 v q
  rw [Nat.zero_add] at this;exact Int.le_trans this (u1.mono _ hv)
def dS (v:Int):Nat->List Ru->Sp->Sp
 | _,[],x=>x
 | i,r :: R,x=>dS v (i+1) R (if r.out=v then ((i:Int),(i:Int)) else x)
def dN (v:Int):Nat->List Ru->Sp->Sp
 | _,[],x=>x
 | i,r :: R,x=>dN v (i+1) R (if v ∈ needs r/\x.2<(i:Int) then (x.1,(i:Int)) else x)
def dP (n v:Int):List Ru->Sp->Sp
 | [],x=>x
 | r :: R,x=>dP n v R (if r.op=13/\r.A.getD 1 0=v then (x.1,n) else x)
def d0 (S:Sys) (v:Int):Sp:=if v ∈ S.I then (-1,-1) else (0,-1)
def d3 (S:Sys) (v:Int):Sp:=dP (S.R.length:Int) v S.R (dN v 0 S.R (dS v 0 S.R (d0 S v)))
def dSpan (S:Sys) (v:Int):Sp:=if v ∈ S.O then ((d3 S v).1,(S.R.length:Int)) else d3 S v
theorem dS_at (v:Int):∀ (R:List Ru) (i:Nat) (x:Sp),(R.map (·.out)).Nodup->((∀ k (h:k<R.length),(R[k]).out=v->dS v i R x=(((i+k:Nat):Int),((i+k:Nat):Int)))/\(v ∉ R.map (·.out)->dS v i R x=x))
 | [],i,x,_=>⟨fun k h=>absurd h (Nat.not_lt_zero _),fun _=>rfl⟩
 | r :: R,i,x,hn=>by
  rw [List.map_cons,List.nodup_cons] at hn;unfold dS;obtain ⟨h1,h2⟩:=dS_at v R (i+1) (if r.out=v then ((i:Int),(i:Int)) else x) hn.2;refine ⟨fun k hk e=>?_,fun hm=>?_⟩
  ·cases k with
   | zero=>
    have e':r.out=v:=e;rw [h2 (by rw [<-e'];exact hn.1),if_pos e'];rfl
   | succ k=>
    rw [h1 k (by simpa using hk) e]
    congr 2<;>omega
  ·rw [List.map_cons,List.mem_cons,not_or] at hm
   rw [h2 hm.2,if_neg (fun e=>hm.1 e.symm)]
theorem dN_at (v:Int):∀ (R:List Ru) (i:Nat) (x:Sp),(dN v i R x).1=x.1/\x.2<=(dN v i R x).2/\((dN v i R x).2=x.2\/∃ k,∃ h:k<R.length,(dN v i R x).2=((i+k:Nat):Int)/\v ∈ needs R[k])/\∀ k (h:k<R.length),v ∈ needs R[k]->((i+k:Nat):Int)<=(dN v i R x).2
 | [],i,x=>⟨rfl,Int.le_refl _,.inl rfl,fun k h=>absurd h (Nat.not_lt_zero _)⟩
 | r :: R,i,x=>by
  unfold dN;by_cases hc:v ∈ needs r/\x.2<(i:Int)
  ·rw [if_pos hc]
   obtain ⟨h1,h2,h3,h4⟩:=dN_at v R (i+1) (x.1,(i:Int));refine ⟨h1,?_,?_,fun k hk hm=>?_⟩
   ·simp only at h2;omega
   ·rcases h3 with e | ⟨k,hk,e,hm⟩
    ·right
     exact ⟨0,by simp,by simpa using e,hc.1⟩
    ·right
     exact ⟨k+1,by simpa using hk,by rw [e];congr 1;omega,hm⟩
   ·cases k with
    | zero=>simpa using h2
    | succ k=>
     have:=h4 k (by simpa using hk) hm;have e:i+1+k=i+(k+1):=(by omega);rw [e] at this;exact this
  ·rw [if_neg hc]
   obtain ⟨h1,h2,h3,h4⟩:=dN_at v R (i+1) x;refine ⟨h1,h2,?_,fun k hk hm=>?_⟩
   ·rcases h3 with e | ⟨k,hk,e,hm⟩
    ·exact .inl e
    ·right
     exact ⟨k+1,by simpa using hk,by rw [e];congr 1;omega,hm⟩
   ·cases k with
    | zero=>
     have hm':v ∈ needs r:=hm;have:¬x.2<(i:Int):=fun q=>hc ⟨hm',q⟩;simp only [Nat.add_zero];omega
    | succ k=>
     have:=h4 k (by simpa using hk) hm;have e:i+1+k=i+(k+1):=(by omega);rw [e] at this;exact this
theorem dP_at (n v:Int):∀ (R:List Ru) (x:Sp),(dP n v R x).1=x.1/\(((∀ r ∈ R,¬(r.op=13/\r.A.getD 1 0=v))/\dP n v R x=x)\/((∃ r ∈ R,r.op=13/\r.A.getD 1 0=v)/\(dP n v R x).2=n))
 | [],x=>⟨rfl,.inl ⟨fun r hr=>(by cases hr),rfl⟩⟩
 | r :: R,x=>by
  unfold dP;by_cases hc:r.op=13/\r.A.getD 1 0=v
  ·rw [if_pos hc]
   obtain ⟨h1,h2⟩:=dP_at n v R (x.1,n);refine ⟨h1,.inr ⟨⟨r,by simp,hc⟩,?_⟩⟩;rcases h2 with ⟨_,e⟩ | ⟨_,e⟩
   ·rw [e]
   ·exact e
  ·rw [if_neg hc]
   obtain ⟨h1,h2⟩:=dP_at n v R x;refine ⟨h1,?_⟩;rcases h2 with ⟨q,e⟩ | ⟨⟨r',hr',q⟩,e⟩
   ·refine .inl ⟨fun r' hr'=>?_,e⟩
    rcases List.mem_cons.1 hr' with e2 | e2
    ·rw [e2];exact hc
    ·exact q r' e2
   ·exact .inr ⟨⟨r',by simp [hr'],q⟩,e⟩
theorem dSpan_eq {S:Sys} (ok:Okay S) {v:Int} (hv:0<=v):dSpan S v=spAt (spans S) v:=by
 obtain ⟨f1,f2⟩:=spans_ends ok hv;have hs:=start_at ok;have e0:dS v 0 S.R (d0 S v)=spAt (start S) v:=by
  obtain ⟨h1,h2⟩:=dS_at v S.R 0 (d0 S v) ok.rulesN;by_cases hm:v ∈ S.R.map (·.out)
  ·obtain ⟨r,hr,e⟩:=List.mem_map.1 hm
   obtain ⟨k,hk,ek⟩:=List.getElem_of_mem hr;have h3:=hs.2.1 k hk;rw [ek,e] at h3;rw [h1 k hk (by rw [ek];exact e),h3,Nat.zero_add]
  ·rw [h2 hm,hs.2.2 v hv hm]
   rfl
 obtain ⟨n1,n2,n3,n4⟩:=dN_at v S.R 0 (dS v 0 S.R (d0 S v));obtain ⟨p1,p2⟩:=dP_at (S.R.length:Int) v S.R (dN v 0 S.R (dS v 0 S.R (d0 S v)));rw [e0] at n1 n2 n3 n4 p1 p2;have lt:(spAt (start S) v).2<=S.R.length:=by
  by_cases hm:v ∈ S.R.map (·.out)
  ·obtain ⟨r,hr,e⟩:=List.mem_map.1 hm
   obtain ⟨k,hk,ek⟩:=List.getElem_of_mem hr;have h3:=hs.2.1 k hk;rw [ek,e] at h3;rw [h3];simp only;omega
  ·rw [hs.2.2 v hv hm]
   split<;>simp<;>omega
 have nle:(dN v 0 S.R (spAt (start S) v)).2<=S.R.length:=by
  rcases n3 with e | ⟨k,hk,e,_⟩
  ·rw [e];exact lt
  ·rw [e];omega
 have E:Ends S v (spAt (start S) v).2 (dSpan S v).2:=by
  have big:(dSpan S v).2=(S.R.length:Int)->Why2 S v (S.R.length:Int)->Ends S v (spAt (start S) v).2 (dSpan S v).2:=fun e hw=>by
   rw [e];refine ⟨.inr hw,lt,fun t' ht=>?_⟩;rcases ht with ⟨rfl,_⟩ | ⟨i,hi,rfl,_⟩<;>omega
  by_cases ho:v ∈ S.O
  ·exact big (by unfold dSpan;rw [if_pos ho]) (.inl ⟨rfl,.inl ho⟩)
  ·have e1:dSpan S v=dP (S.R.length:Int) v S.R (dN v 0 S.R (spAt (start S) v)):=by
    unfold dSpan d3;rw [if_neg ho,e0]
   rcases p2 with ⟨q,e⟩ | ⟨q,e⟩
   ·rw [e1,e]
    refine ⟨?_,n2,fun t' ht=>?_⟩
    ·rcases n3 with e2 | ⟨k,hk,e2,hm⟩
     ·exact .inl e2
     ·rw [Nat.zero_add] at e2
      exact .inr (.inr ⟨k,hk,e2,hm⟩)
    ·rcases ht with ⟨rfl,q2 | ⟨r,hr,q3⟩⟩ | ⟨i,hi,rfl,hm⟩
     ·exact absurd q2 ho
     ·exact absurd q3 (q r hr)
     ·have:=n4 i hi hm
      rw [Nat.zero_add] at this;exact this
   ·exact big (by rw [e1];exact e) (.inl ⟨rfl,.inr q⟩)
 have e2:=E.det f2;have e1:(dSpan S v).1=(spAt (spans S) v).1:=by
  rw [f1];unfold dSpan
  split
  ·show (d3 S v).1=_
   unfold d3;rw [e0,p1,n1]
  ·unfold d3
   rw [e0,p1,n1]
 exact Prod.ext e1 e2
end Sk
end Go.Proofs.YtegakbobaecdlaaGreatDoor
