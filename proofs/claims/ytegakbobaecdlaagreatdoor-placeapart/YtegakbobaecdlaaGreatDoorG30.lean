import Derived.Test.YtegakbobaecdlaaGreatDoorG29
import Derived.WalkKit
import Derived.WalkSpells
import Derived.IntWalk
import Derived.Deep.Cut
import Derived.Deep.LoopGhost
import Derived.Ground.NamesProg
import Derived.Laws.Cover1
import Derived.Laws.Externs
import Derived.Lib.Hide
import Derived.Lib.MakeNoZero
import Derived.Lib.SlBuf
import Derived.Shelf.Bytes.SlSmallAll
import Derived.Shelf.Lay
import Derived.Laws.EntriesVeiled
set_option linter.unusedVariables false
set_option linter.unusedSimpArgs false
set_option maxHeartbeats 64000000
set_option maxRecDepth 100000
namespace Go.Proofs.YtegakbobaecdlaaGreatDoor
open Go.RowKit Go.IntWalk
theorem Tryz.infoRu:(Tryz.prog.info? 40).map (fun i=>(i.zero,i.size,i.bytes))=some (some (.agg #[.int .i64 0,.int .i64 0,.int .i64 0,.int .i64 0,.slice none 0 0,.slice none 0 0]),6,80):=by kernel_rfl
def kRu:Kind Sk.Ru where
 ty:=40
 k:=6
 bytes:=80
 zero:=.agg #[.int .i64 0,.int .i64 0,.int .i64 0,.int .i64 0,.slice none 0 0,.slice none 0 0]
 E:=fun ok w cs r=>∃ y,cs=rcs r y/\HRu ok w y r
 pos:=by decide
 zs:=rfl
 info:=Tryz.infoRu
 len:=by rintro _ _ _ _ ⟨y,rfl,_⟩;rfl
 one:=by
  rintro _ _ _ _ ⟨y,rfl,_⟩ u hu;simp [rcs] at hu;rcases hu with rfl | rfl | rfl | rfl | rfl | rfl<;>rfl
 keep:=by rintro _ _ _ _ _ ⟨y,rfl,h⟩ hs hk;exact ⟨y,rfl,h.keep hs hk⟩
 wide:=by rintro _ _ _ _ _ ⟨y,rfl,h⟩ hk;exact ⟨y,rfl,h.wide hk⟩
end Go.Proofs.YtegakbobaecdlaaGreatDoor
namespace Go.Proofs.YtegakbobaecdlaaGreatDoor
open Go.RowKit Go.IntWalk
namespace Sk
theorem needs_in {S:Sys} (ok:Okay S):∀ r ∈ S.R,∀ z ∈ needs r,0<=z/\z<S.V.length:=fun r hr z hz=>(ok.rules r hr).2.uses z (needs_uses (ok.rules r hr).2 hz fun y hy=>uses_A hy)
end Sk
end Go.Proofs.YtegakbobaecdlaaGreatDoor
namespace Go.Proofs.YtegakbobaecdlaaGreatDoor
open Go Go.RowKit Go.IntWalk
section
variable {P:Program} {ops:Array Oper} {Q:Exit->Act->World->Prop} {md:Region.Mode} {S:World->Prop} {late:Nat->Bool}
end
def Blk (w:World) (B:Nat) (t:Value) (ty:TypeId) (v:Value):Prop:=∃ b,t=.pointer (some ⟨b,0,none⟩)/\B<=b/\w.heap[b]?=some (.cells #[v] ty (0,0))
theorem Blk.off {w:World} {B:Nat} {t:Value} {ty:TypeId} {v v' z:Value} {d d':Bool} (h:Blk w B t ty (if d=true then v else z)) (e:d=false) (e':d'=false):Blk w B t ty (if d'=true then v' else z):=by
 subst e e'
 simpa using h
def SlI (B:Nat) (w:World) (t:Value) (l:List Int):Prop:=(∃ p q c,t=.slice p q c)/\HInts (fun i=>i<B) w t l
theorem SlI.keep {B B1:Nat} {w w':World} {t:Value} {l:List Int} (h:SlI B w t l) (hb:Below B1 w w') (hB:B<=B1):SlI B w' t l:=⟨h.1,h.2.keep hb.size (fun i hi _=>hb.block i (Nat.lt_of_lt_of_le hi hB))⟩
end Go.Proofs.YtegakbobaecdlaaGreatDoor
namespace Go.Proofs.YtegakbobaecdlaaGreatDoor
open Go.RowKit Go.IntWalk
namespace Sk
abbrev Sp:=Int × Int
def spAt (l:List Sp) (v:Int):Sp:=l.getD v.toNat (0,-1)
theorem spAt_set {l:List Sp} {v u:Int} {x:Sp} (hv:0<=v/\v<l.length) (hu:0<=u):spAt (l.set v.toNat x) u=if u=v then x else spAt l u:=by
 unfold spAt;rw [List.getD_eq_getElem?_getD,List.getD_eq_getElem?_getD,List.getElem?_set];by_cases e:u=v
 ·subst e
  rw [if_pos rfl,if_pos rfl,if_pos (by omega)];rfl
 ·rw [if_neg e,if_neg (by omega)]
def startI:List Int->List Sp->List Sp
 | [],l=>l
 | v :: r,l=>startI r (l.set v.toNat (-1,-1))
def startR:Nat->List Ru->List Sp->List Sp
 | _,[],l=>l
 | i,r :: R,l=>startR (i+1) R (l.set r.out.toNat ((i:Int),(i:Int)))
def upTo (l:List Sp) (v p:Int):List Sp:=l.set v.toNat ((spAt l v).1,max (spAt l v).2 p)
def needL (p:Int):List Int->List Sp->List Sp
 | [],l=>l
 | z :: r,l=>needL p r (upTo l z p)
def needRu (n:Int) (i:Nat) (r:Ru) (l:List Sp):List Sp:=if r.op=13 then upTo (needL (i:Int) (needs r) l) (r.A.getD 1 0) n else needL (i:Int) (needs r) l
def needR (n:Int):Nat->List Ru->List Sp->List Sp
 | _,[],l=>l
 | i,r :: R,l=>needR n (i+1) R (needRu n i r l)
def start (S:Sys):List Sp:=startR 0 S.R (startI S.I (List.replicate S.V.length (0,-1)))
def spans (S:Sys):List Sp:=needL (S.R.length:Int) S.O (needR (S.R.length:Int) 0 S.R (start S))
theorem startI_at:∀ (I:List Int) (l:List Sp),(∀ v ∈ I,0<=v/\v<l.length)->(startI I l).length=l.length/\∀ u,0<=u->spAt (startI I l) u=if u ∈ I then (-1,-1) else spAt l u
 | [],l,h=>⟨rfl,fun u hu=>by simp [startI]⟩
 | v :: r,l,h=>by
  unfold startI;obtain ⟨h1,h2⟩:=startI_at r (l.set v.toNat (-1,-1)) (fun x hx=>by rw [List.length_set];exact h x (by simp [hx]));refine ⟨by rw [h1,List.length_set],fun u hu=>?_⟩;rw [h2 u hu,spAt_set (h v (by simp)) hu];by_cases e:u ∈ r
  ·rw [if_pos e,if_pos (by simp [e])]
  ·rw [if_neg e]
   by_cases e2:u=v
   ·rw [if_pos e2,if_pos (by simp [e2])]
   ·rw [if_neg e2,if_neg (by simp [e,e2])]
theorem startR_at:∀ (R:List Ru) (i:Nat) (l:List Sp),(∀ r ∈ R,0<=r.out/\r.out<l.length)->(R.map (·.out)).Nodup->(startR i R l).length=l.length/\(∀ k (h:k<R.length),spAt (startR i R l) (R[k]).out=(((i+k:Nat):Int),((i+k:Nat):Int)))/\∀ u,0<=u->u ∉ R.map (·.out)->spAt (startR i R l) u=spAt l u
 | [],i,l,h,hn=>⟨rfl,fun k hk=>absurd hk (Nat.not_lt_zero _),fun u hu _=>rfl⟩
 | r :: R,i,l,h,hn=>by
  unfold startR;rw [List.map_cons,List.nodup_cons] at hn;have hr:=h r (by simp);obtain ⟨h1,h2,h3⟩:=startR_at R (i+1) (l.set r.out.toNat ((i:Int),(i:Int))) (fun x hx=>by rw [List.length_set];exact h x (by simp [hx])) hn.2;refine ⟨by rw [h1,List.length_set],fun k hk=>?_,fun u hu hm=>?_⟩
  ·cases k with
   | zero=>
    show spAt _ r.out=_
    rw [h3 r.out hr.1 hn.1,spAt_set hr hr.1,if_pos rfl];rfl
   | succ k=>
    have:=h2 k (by simpa using hk)
    show spAt _ (R[k]'(by simpa using hk)).out=_
    rw [this]
    congr 2<;>omega
  ·rw [List.map_cons,List.mem_cons,not_or] at hm
   rw [h3 u hu hm.2,spAt_set hr hu,if_neg hm.1]
structure Ups (P:Int->Int->Prop) (l l':List Sp):Prop where
 len:l'.length=l.length
 fst:∀ v,0<=v->(spAt l' v).1=(spAt l v).1
 mono:∀ v,0<=v->(spAt l v).2<=(spAt l' v).2
 why:∀ v,0<=v->(spAt l' v).2=(spAt l v).2\/P v (spAt l' v).2
theorem Ups.refl {P:Int->Int->Prop} (l:List Sp):Ups P l l:=⟨rfl,fun _ _=>rfl,fun _ _=>Int.le_refl _,fun _ _=>.inl rfl⟩
theorem Ups.trans {P:Int->Int->Prop} {a b c:List Sp} (h:Ups P a b) (g:Ups P b c):Ups P a c :=
 ⟨g.len.trans h.len,fun v hv=>(g.fst v hv).trans (h.fst v hv),fun v hv=>Int.le_trans (h.mono v hv) (g.mono v hv),fun v hv=>by
  rcases g.why v hv with e | e
  ·rw [e];exact h.why v hv
  ·exact .inr e⟩
theorem upTo_ups {P:Int->Int->Prop} {l:List Sp} {v p:Int} (hv:0<=v/\v<l.length) (hp:P v p):Ups P l (upTo l v p)/\p<=(spAt (upTo l v p) v).2:=by
 unfold upTo;refine ⟨⟨by rw [List.length_set],fun u hu=>?_,fun u hu=>?_,fun u hu=>?_⟩,?_⟩
 ·rw [spAt_set hv hu]
  split
  ·rename_i e;rw [e]
  ·rfl
 ·rw [spAt_set hv hu]
  split
  ·rename_i e;rw [e];show _<=max _ _;omega
  ·exact Int.le_refl _
 ·rw [spAt_set hv hu]
  split
  ·rename_i e
   subst e;by_cases h:(spAt l u).2<=p
   ·right
    show P u (max _ _)
    rw [Int.max_eq_right h];exact hp
   ·left
    show max _ _=_
    exact Int.max_eq_left (by omega)
  ·exact .inl rfl
 ·rw [spAt_set hv hv.1,if_pos rfl]
  show _<=max _ _
  omega
theorem needL_ups {P:Int->Int->Prop} {p:Int}:∀ (zs:List Int) (l:List Sp),(∀ z ∈ zs,(0<=z/\z<l.length)/\P z p)->Ups P l (needL p zs l)/\∀ z ∈ zs,p<=(spAt (needL p zs l) z).2
 | [],l,h=>⟨Ups.refl _,fun z hz=>by cases hz⟩
 | z :: r,l,h=>by
  unfold needL;have hz:=h z (by simp);obtain ⟨g1,g2⟩:=upTo_ups hz.1 hz.2;obtain ⟨i1,i2⟩:=needL_ups r (upTo l z p) (fun x hx=>⟨by rw [g1.len];exact (h x (by simp [hx])).1,(h x (by simp [hx])).2⟩);refine ⟨g1.trans i1,fun x hx=>?_⟩;rcases List.mem_cons.1 hx with e | e
  ·subst e
   exact Int.le_trans g2 (i1.mono x hz.1.1)
  ·exact i2 x e
def NeedOk (P:Int->Int->Prop) (n:Int) (len:Nat) (i:Nat) (r:Ru):Prop:=(∀ z ∈ needs r,(0<=z/\z<len)/\P z (i:Int))/\(r.op=13->(0<=r.A.getD 1 0/\r.A.getD 1 0<len)/\P (r.A.getD 1 0) n)
theorem needRu_ups {P:Int->Int->Prop} {n:Int} {i:Nat} {r:Ru} {l:List Sp} (h:NeedOk P n l.length i r):Ups P l (needRu n i r l)/\(∀ z ∈ needs r,(i:Int)<=(spAt (needRu n i r l) z).2)/\(r.op=13->n<=(spAt (needRu n i r l) (r.A.getD 1 0)).2):=by
 obtain ⟨g1,g2⟩:=needL_ups (needs r) l h.1;unfold needRu
 split
 ·rename_i e
  have h2:=h.2 e;obtain ⟨u1,u2⟩:=upTo_ups (P:=P) (l:=needL (i:Int) (needs r) l) (by rw [g1.len];exact h2.1) h2.2;exact ⟨g1.trans u1,fun z hz=>Int.le_trans (g2 z hz) (u1.mono z (h.1 z hz).1.1),fun _=>u2⟩
 ·rename_i e
  exact ⟨g1,g2,fun q=>absurd q e⟩
theorem needR_ups {P:Int->Int->Prop} {n:Int}:∀ (R:List Ru) (i:Nat) (l:List Sp),(∀ k (h:k<R.length),NeedOk P n l.length (i+k) R[k])->Ups P l (needR n i R l)/\∀ k (h:k<R.length),(∀ z ∈ needs R[k],((i+k:Nat):Int)<=(spAt (needR n i R l) z).2)/\((R[k]).op=13->n<=(spAt (needR n i R l) ((R[k]).A.getD 1 0)).2)
 | [],i,l,h=>⟨Ups.refl _,fun k hk=>absurd hk (Nat.not_lt_zero _)⟩
 | r :: R,i,l,h=>by
  unfold needR;have hr:NeedOk P n l.length i r:=h 0 (by simp);obtain ⟨g1,g2,g3⟩:=needRu_ups hr;obtain ⟨i1,i2⟩:=needR_ups R (i+1) (needRu n i r l) (fun k hk=>by
   have:=h (k+1) (by simpa using hk);rw [g1.len];have e:i+1+k=i+(k+1):=(by omega);rw [e];exact this)
  refine ⟨g1.trans i1,fun k hk=>?_⟩
  cases k with
  | zero=>exact ⟨fun z hz=>Int.le_trans (g2 z hz) (i1.mono z (hr.1 z hz).1.1),fun e=>Int.le_trans (g3 e) (i1.mono _ (hr.2 e).1.1)⟩
  | succ k=>
   have:=i2 k (by simpa using hk);have e:i+1+k=i+(k+1):=(by omega);rw [e] at this;exact this
def Why (S:Sys) (v t:Int):Prop:=t=(S.R.length:Int)\/∃ i,∃ h:i<S.R.length,t=(i:Int)/\v ∈ needs S.R[i]
theorem pre_in {S:Sys} (ok:Okay S) {r:Ru} (hr:r ∈ S.R) (e:r.op=13):r.A.length=2/\0<=r.A.getD 1 0/\r.A.getD 1 0<S.V.length:=by
 have hf:=(ok.rules r hr).2;have hl:r.A.length=2:=by
  have:=hf.form;rw [e] at this;unfold hasForm at this;simp [partsT] at this;omega
 refine ⟨hl,?_⟩;refine hf.uses _ (uses_A ?_);rw [List.getD_eq_getElem?_getD,List.getElem?_eq_getElem (by omega)];exact List.getElem_mem _
structure Spanned (S:Sys) (l:List Sp):Prop where
 len:l.length=S.V.length
 ups:Ups (Why S) (start S) l
 needs:∀ k (h:k<S.R.length),∀ z ∈ needs S.R[k],(k:Int)<=(spAt l z).2
 pre:∀ k (h:k<S.R.length),(S.R[k]).op=13->(S.R.length:Int)<=(spAt l ((S.R[k]).A.getD 1 0)).2
theorem start_at {S:Sys} (ok:Okay S):(start S).length=S.V.length/\(∀ k (h:k<S.R.length),spAt (start S) (S.R[k]).out=((k:Int),(k:Int)))/\∀ u,0<=u->u ∉ S.R.map (·.out)->spAt (start S) u=if u ∈ S.I then (-1,-1) else (0,-1):=by
 have h1:=startI_at S.I (List.replicate S.V.length (0,-1)) (fun v hv=>by rw [List.length_replicate];exact ok.ins v hv);rw [List.length_replicate] at h1;have h2:=startR_at S.R 0 (startI S.I (List.replicate S.V.length (0,-1))) (fun r hr=>by rw [h1.1];exact (ok.rules r hr).1.1) ok.rulesN;refine ⟨h2.1.trans h1.1,fun k hk=>?_,fun u hu hm=>?_⟩
 ·have:=h2.2.1 k hk
  rw [Nat.zero_add] at this;exact this
 ·show spAt (startR 0 S.R _) u=_
  rw [h2.2.2 u hu hm,h1.2 u hu]
  split
  ·rfl
  ·unfold spAt
   rw [List.getD_eq_getElem?_getD,List.getElem?_replicate]
   split<;>rfl
theorem spans_spanned {S:Sys} (ok:Okay S):Spanned S (spans S):=by
 have hs:=start_at ok;obtain ⟨g1,g2⟩:=needR_ups (P:=Why S) (n:=(S.R.length:Int)) S.R 0 (start S) (fun k hk=>by
  rw [hs.1,Nat.zero_add];have hr:S.R[k] ∈ S.R:=List.getElem_mem hk;exact ⟨fun z hz=>⟨needs_in ok _ hr z hz,.inr ⟨k,hk,rfl,hz⟩⟩,fun e=>⟨(pre_in ok hr e).2,.inl rfl⟩⟩)
 obtain ⟨u1,-⟩:=needL_ups (P:=Why S) (p:=(S.R.length:Int)) S.O (needR (S.R.length:Int) 0 S.R (start S)) (fun z hz=>⟨by rw [g1.len,hs.1];exact ok.outs z hz,.inl rfl⟩);refine ⟨u1.len.trans (g1.len.trans hs.1),g1.trans u1,fun k hk z hz=>?_,fun k hk e=>?_⟩
 ·have hr:S.R[k] ∈ S.R:=List.getElem_mem hk
  have:=(g2 k hk).1 z hz;rw [Nat.zero_add] at this;exact Int.le_trans this (u1.mono z (needs_in ok _ hr z hz).1)
 ·have hr:S.R[k] ∈ S.R:=List.getElem_mem hk
  exact Int.le_trans ((g2 k hk).2 e) (u1.mono _ (pre_in ok hr e).2.1)
theorem width_sum {V:List Vr}:∀ (l:List Nat),(∀ x ∈ l,x<V.length)->width V (l.map Int.ofNat)=(l.map fun x:Nat=>cnt (vAt V (x:Int))).sum
 | [],_=>rfl
 | x :: r,h=>by
  have hx:=h x (by simp);rw [List.map_cons,List.map_cons,List.sum_cons,<-width_sum r fun y hy=>h y (by simp [hy])];have hw:width V (Int.ofNat x :: r.map Int.ofNat)=(if 0<=Int.ofNat x/\Int.ofNat x<V.length then cnt (vAt V (Int.ofNat x)) else 0)+width V (r.map Int.ofNat):=rfl;have h0:(0:Int)<=Int.ofNat x/\Int.ofNat x<V.length:=⟨Int.natCast_nonneg x,by have h1:(x:Int)<(V.length:Int):=(by omega);exact h1⟩;rw [hw,if_pos h0];rfl
end Sk
end Go.Proofs.YtegakbobaecdlaaGreatDoor
