import Derived.Test.YtegakbobaecdlaaGreatDoorK37
import Derived.Test.YtegakbobaecdlaaGreatDoorK34
import Derived.WalkKit
import Derived.WalkSpells
import Derived.IntWalk
import Derived.Deep.Cut
import Derived.Deep.LoopGhost
import Derived.Ground.NamesProg
import Derived.Laws.Cover1
import Derived.Laws.EntriesVeiled
import Derived.Laws.Externs
import Derived.Lib.Hide
import Derived.Lib.MakeNoZero
import Derived.Lib.SlBuf
import Derived.Shelf.Bytes.SlSmallAll
import Derived.Shelf.Lay
import Derived.Shelf.Bits.Mul64
import Derived.Laws.CopyRow
set_option linter.unusedVariables false
set_option linter.unusedSimpArgs false
set_option maxHeartbeats 64000000
set_option maxRecDepth 100000
namespace Go.Proofs.YtegakbobaecdlaaGreatDoor
open Go Go.RowKit Go.IntWalk
section
variable {P:Program} {ops:Array Oper} {Q:Exit->Act->World->Prop} {md:Region.Mode} {S:World->Prop} {late:Nat->Bool}
end
def Blk (w:World) (B:Nat) (t:Value) (ty:TypeId) (v:Value):Prop:=∃ b,t=.pointer (some ⟨b,0,none⟩)/\B<=b/\w.heap[b]?=some (.cells #[v] ty (0,0))
theorem Blk.set {w:World} {B b:Nat} {z:Value} {ty:TypeId} (hb:B<=b) (k:w.heap[b]?=some (.cells #[z] ty (0,0))) (u:Value):Blk (w.setCell ⟨b,0,none⟩ u) B (.pointer (some ⟨b,0,none⟩)) ty u:=⟨_,rfl,hb,by have:=zJ k 0 u;simpa using this⟩
theorem Blk.off {w:World} {B:Nat} {t:Value} {ty:TypeId} {v v' z:Value} {d d':Bool} (h:Blk w B t ty (if d=true then v else z)) (e:d=false) (e':d'=false):Blk w B t ty (if d'=true then v' else z):=by
 subst e e'
 simpa using h
def SlI (B:Nat) (w:World) (t:Value) (l:List Int):Prop:=(∃ p q c,t=.slice p q c)/\HInts (fun i=>i<B) w t l
theorem SlI.keep {B B1:Nat} {w w':World} {t:Value} {l:List Int} (h:SlI B w t l) (hb:Below B1 w w') (hB:B<=B1):SlI B w' t l:=⟨h.1,h.2.keep hb.size (fun i hi _=>hb.block i (Nat.lt_of_lt_of_le hi hB))⟩
end Go.Proofs.YtegakbobaecdlaaGreatDoor
namespace Go.Proofs.YtegakbobaecdlaaGreatDoor
open Go.RowKit Go.IntWalk
namespace Sk
structure Turned (S S':Sys):Prop where
 V:S'.V=S.V
 I:S'.I=S.I
 O:S'.O=S.O
 R:S.R.Perm S'.R
end Sk
end Go.Proofs.YtegakbobaecdlaaGreatDoor
namespace Go.Proofs.YtegakbobaecdlaaGreatDoor
open Go.RowKit Go.IntWalk
namespace Sk
theorem takeF_stuck {S:Sys} (ok:Okay S) (hu:∀ r ∈ S.R,∀ z ∈ needs r,0<=z/\z<S.V.length):∀ (f:Nat) {m:List Bool} {left tk:List Nat},Taken S m left tk->left.length<=f->(takeF (S.R.map needs) (S.R.map Ru.out) f m left tk).2.2.find? (canC (S.R.map needs) (takeF (S.R.map needs) (S.R.map Ru.out) f m left tk).2.1)=none
 | 0,m,left,tk,h,hl=>by
  have:left=[]:=List.eq_nil_of_length_eq_zero (by omega);subst this;rfl
 | f+1,m,left,tk,h,hl=>by
  unfold takeF
  cases hf:left.find? (canC (S.R.map needs) m) with
  | none=>exact hf
  | some j=>
   have hst:=h.step ok hu hf;have:=length_filter_ne hst.2.1 hst.1;exact takeF_stuck ok hu f hst.2.2.2 (by omega)
theorem turns_stuck {S:Sys} (ok:Okay S) (hu:∀ r ∈ S.R,∀ z ∈ needs r,0<=z/\z<S.V.length):(turns S).2.2.find? (canC (S.R.map needs) (turns S).2.1)=none:=takeF_stuck ok hu _ (taken_start ok) (by simp)
theorem turns_of_ahead {S:Sys} (ok:Okay S) (hu:∀ r ∈ S.R,∀ z ∈ needs r,0<=z/\z<S.V.length) {R':List Ru} (hp:S.R.Perm R') (ha:∀ i (h:i<R'.length),∀ z ∈ needs R'[i],z ∈ S.I\/z ∈ (R'.take i).map (·.out)):(turns S).2.2=[]:=by
 have h:=turns_taken ok hu;have hst:=turns_stuck ok hu;generalize (turns S).2.2=left at h hst ⊢;generalize (turns S).2.1=m at h hst;generalize (turns S).1=tk at h;have hno:∀ i,∀ (hi:i<R'.length),∀ j ∈ left,¬R'[i]=S.R.getD j noRu:=by
  intro i
  induction i using Nat.strongRecOn with
  | _ i ih=>
   intro hi j hj e;have hjl:j<S.R.length:=by
    have:=(h.perm.mem_iff (a:=j)).1 (by simp [hj])
    simpa using this
   have hcan:canC (S.R.map needs) m j=true:=by
    unfold canC;have e2:(S.R.map needs).getD j []=needs (S.R.getD j noRu):=getD_map hjl;rw [e2,<-e];have hr:R'[i] ∈ S.R:=hp.mem_iff.2 (List.getElem_mem hi);have:(needs R'[i]).any (fun x => !(m.getD x.toNat false))=false:=by
     rw [List.any_eq_false];intro z hz;have hz2:z ∈ S.I++tk.map fun j=>(S.R.getD j noRu).out:=by
      rcases ha i hi z hz with q | q
      ·simp [q]
      ·obtain ⟨r,hr2,ez⟩:=List.mem_map.1 q
       obtain ⟨i',hi',ei'⟩:=List.getElem_of_mem hr2;have hlt:i'<i:=(by rw [List.length_take] at hi';omega);rw [List.getElem_take] at ei';have hrS:r ∈ S.R:=hp.mem_iff.2 (List.mem_of_mem_take hr2);obtain ⟨j',hj',ej'⟩:=List.getElem_of_mem hrS;have ejd:S.R.getD j' noRu=r:=(by rw [List.getD_eq_getElem?_getD,List.getElem?_eq_getElem hj',<-ej'];rfl);have hmem:j' ∈ tk++left:=(h.perm.mem_iff (a:=j')).2 (by simpa using hj');rcases List.mem_append.1 hmem with q2 | q2
       ·refine List.mem_append.2 (.inr (List.mem_map.2 ⟨j',q2,?_⟩))
        rw [ejd];exact ez
       ·exact absurd (ei'.trans ejd.symm) (ih i' hlt (by omega) j' q2)
     have h5:=(h.made.at (hu _ hr z hz)).2 hz2;rw [h5]
     decide
    rw [this];rfl
   have:=List.find?_eq_none.1 hst j hj;exact this hcan
 cases left with
 | nil=>rfl
 | cons j l=>
  exfalso
  have hjl:j<S.R.length:=by
   have:=(h.perm.mem_iff (a:=j)).1 (by simp)
   simpa using this
  have hr:S.R[j] ∈ R':=hp.mem_iff.1 (List.getElem_mem hjl);obtain ⟨i,hi,ei⟩:=List.getElem_of_mem hr;refine hno i hi j (by simp) ?_;rw [ei,List.getD_eq_getElem?_getD,List.getElem?_eq_getElem hjl];rfl
theorem Okay.turned {S S':Sys} (ok:Okay S) (ht:Turned S S'):Okay S':=by
 obtain ⟨V,I,O,R⟩:=S;obtain ⟨V',I',O',R'⟩:=S';obtain ⟨h1,h2,h3,h4⟩:=ht;simp only at h1 h2 h3 h4;subst h1 h2 h3;exact ok.perm h4
theorem Turned.symm {S S':Sys} (ht:Turned S S'):Turned S' S:=⟨ht.V.symm,ht.I.symm,ht.O.symm,ht.R.symm⟩
theorem sorted_turned {S:Sys} (ok:Okay S) (hl:(turns S).2.2=[]):Turned S (sortS S):=⟨rfl,rfl,rfl,sort_perm ok (needs_in ok) hl⟩
theorem turns_turned {S S':Sys} (ok:Okay S) (ht:Turned S S') (hl:(turns S).2.2=[]):(turns S').2.2=[]:=by
 have ok':=ok.turned ht;have hs:=sorted_turned ok hl;have ha:=sort_ahead ok (needs_in ok) hl;refine turns_of_ahead ok' (needs_in ok') (R':=(sortS S).R) (ht.R.symm.trans hs.R) fun i hi z hz=>?_;have:=ha i hi z hz;rw [ht.I];exact this
theorem sortF_zero (S:Sys):(sortF S).1=0↔Okay S/\(turns S).2.2=[]:=by
 unfold sortF;by_cases hc:check S=(0,0)
 ·rw [if_neg (by simp [hc])]
  have ok:=(check_zero S).1 hc
  cases ht:(turns S).2.2 with
  | nil=>simp [ok]
  | cons j l=>simp
 ·rw [if_pos hc]
  constructor
  ·intro h;exact absurd (check_code S h) hc
  ·intro h;exact absurd ((check_zero S).2 h.1) hc
theorem sortF_turned {S S':Sys} (ht:Turned S S'):(sortF S).1=0↔(sortF S').1=0:=by
 rw [sortF_zero,sortF_zero];exact ⟨fun h=>⟨h.1.turned ht,turns_turned h.1 ht h.2⟩,fun h=>⟨h.1.turned ht.symm,turns_turned h.1 ht.symm h.2⟩⟩
end Sk
end Go.Proofs.YtegakbobaecdlaaGreatDoor
namespace Go.Proofs.YtegakbobaecdlaaGreatDoor
open Go.RowKit Go.IntWalk
namespace Sk
def Nx (S:Sys) (a b:Nat):Prop:=(S.R.getD b noRu).out ∈ needs (S.R.getD a noRu)
theorem getD_mem {S:Sys} {j:Nat} (h:j<S.R.length):S.R.getD j noRu ∈ S.R:=by
 rw [List.getD_eq_getElem?_getD,List.getElem?_eq_getElem h];exact List.getElem_mem _
theorem Taken.lt {S:Sys} {m:List Bool} {left tk:List Nat} (h:Taken S m left tk) {j:Nat} (hj:j ∈ left):j<S.R.length:=by
 have:=(h.perm.mem_iff (a:=j)).1 (by simp [hj])
 simpa using this
theorem left_misses {S:Sys} {m:List Bool} {left tk:List Nat} (h:Taken S m left tk) (hst:left.find? (canC (S.R.map needs) m)=none) {j:Nat} (hj:j ∈ left):(needs (S.R.getD j noRu)).any (fun x => !(m.getD x.toNat false))=true:=by
 have:=List.find?_eq_none.1 hst j hj;unfold canC at this;have e2:(S.R.map needs).getD j []=needs (S.R.getD j noRu):=getD_map (h.lt hj);rw [e2] at this
 simpa using this
theorem left_maker {S:Sys} {m:List Bool} {left tk:List Nat} (h:Taken S m left tk) {z:Int} (hz:0<=z/\z<S.V.length) (hm:m.getD z.toNat false=false) {k:Nat} (hk:k<S.R.length) (e:(S.R.getD k noRu).out=z):k ∈ left:=by
 have hmem:k ∈ tk++left:=(h.perm.mem_iff (a:=k)).2 (by simpa using hk);rcases List.mem_append.1 hmem with q | q
 ·exfalso
  have:=(h.made.at hz).2 (List.mem_append.2 (.inr (List.mem_map.2 ⟨k,q,e⟩)));rw [this] at hm
  cases hm
 ·exact q
theorem left_made {S:Sys} (ok:Okay S) {m:List Bool} {left tk:List Nat} (h:Taken S m left tk) {j:Nat} (hj:j<S.R.length) {z:Int} (hz:z ∈ needs (S.R.getD j noRu)) (hm:m.getD z.toNat false=false):∃ k,k<S.R.length/\(S.R.getD k noRu).out=z:=by
 have hr:=getD_mem hj;have hzu:=needs_uses (ok.rules _ hr).2 hz fun y hy=>uses_A hy;rcases ok.used _ hr z hzu with q | q
 ·exfalso
  have:=(h.made.at (needs_in ok _ hr z hz)).2 (List.mem_append.2 (.inl q));rw [this] at hm
  cases hm
 ·obtain ⟨r,hr2,e⟩:=List.mem_map.1 q
  obtain ⟨k,hk,ek⟩:=List.getElem_of_mem hr2;refine ⟨k,hk,?_⟩;rw [List.getD_eq_getElem?_getD,List.getElem?_eq_getElem hk,ek];exact e
structure WayAt (S:Sys) (left way:List Nat) (n:Nat):Prop where
 all:∀ j ∈ way,j ∈ left
 now:n ∈ left
 steps:∀ i (h:i+1<way.length),Nx S way[i] way[i+1]
 last:∀ h:0<way.length,Nx S (way[way.length-1]) n
 nodup:way.Nodup
 first:(way++[n]).head?=left.head?
theorem WayAt.start {S:Sys} {rest:List Nat} {n:Nat}:WayAt S (n :: rest) [] n:=⟨fun j hj=>absurd hj (by simp),by simp,fun i h=>absurd h (by simp),fun h=>absurd h (by simp),by simp,rfl⟩
theorem WayAt.more {S:Sys} {left way:List Nat} {n n':Nat} (h:WayAt S left way n) (hn:n ∉ way) (hx:Nx S n n') (hl:n' ∈ left):WayAt S left (way++[n]) n' where
 all:=fun j hj=>by
  rcases List.mem_append.1 hj with q | q
  ·exact h.all j q
  ·simp at q
   subst q;exact h.now
 now:=hl
 steps:=fun i hi=>by
  by_cases e:i+1<way.length
  ·rw [List.getElem_append_left (by omega),List.getElem_append_left e]
   exact h.steps i e
  ·have e2:i+1=way.length:=by simp at hi;omega
   have:=h.last (by omega);have e3:(way++[n])[i+1]=n:=(by simp [e2]);have e4:(way++[n])[i]'(by simp;omega)=way[way.length-1]'(by omega):=by
    rw [List.getElem_append_left (by omega)]
    congr 1
    omega
   rw [e3,e4];exact this
 last:=fun hh=>by
  have e3:(way++[n])[(way++[n]).length-1]=n:=(by simp);rw [e3];exact hx
 nodup:=by
  rw [List.nodup_append];refine ⟨h.nodup,by simp,fun a ha b hb=>?_⟩;simp at hb;subst hb;rintro rfl;exact hn ha
 first:=by
  rw [<-h.first]
  cases way<;>rfl
theorem few_of:∀ (n:Nat) (l:List Nat),l.Nodup->(∀ x ∈ l,x<n)->l.length<=n
 | 0,l,hn,hl=>by
  cases l with
  | nil=>simp
  | cons x r=>exact absurd (hl x (by simp)) (by omega)
 | n+1,l,hn,hl=>by
  by_cases hm:n ∈ l
  ·have h1:=length_filter_ne hn hm
   have h2:=few_of n (l.filter (· != n)) (hn.filter _) (fun x hx=>by
    have h3:=List.mem_filter.1 hx;have h4:=hl x h3.1;have h5:x≠n:=(by simpa using h3.2);omega)
   omega
  ·have:=few_of n l hn (fun x hx=>by
    have h4:=hl x hx;have h5:x≠n:=fun q=>hm (q ▸ hx);omega)
   omega
theorem WayAt.few {S:Sys} {left way:List Nat} {n:Nat} (h:WayAt S left way n) (hl:∀ j ∈ left,j<S.R.length):way.length<=S.R.length:=few_of _ _ h.nodup fun x hx=>hl x (h.all x hx)
end Sk
end Go.Proofs.YtegakbobaecdlaaGreatDoor
namespace Go.Proofs.YtegakbobaecdlaaGreatDoor
open Go.RowKit Go.IntWalk
namespace Sk
abbrev Sp:=Int × Int
def spAt (l:List Sp) (v:Int):Sp:=l.getD v.toNat (0,-1)
def startI:List Int->List Sp->List Sp
 | [],l=>l
 | v :: r,l=>startI r (l.set v.toNat (-1,-1))
def startR:Nat->List Ru->List Sp->List Sp
 | _,[],l=>l
 | i,r :: R,l=>startR (i+1) R (l.set r.out.toNat ((i:Int),(i:Int)))
def upTo (l:List Sp) (v p:Int):List Sp:=l.set v.toNat ((spAt l v).1,max (spAt l v).2 p)
def needL (p:Int):List Int->List Sp->List Sp
 | [],l=>l
 | z :: r,l=>needL p r (upTo l z p)
def needRu (n:Int) (i:Nat) (r:Ru) (l:List Sp):List Sp:=if r.op=13 then upTo (needL (i:Int) (needs r) l) (r.A.getD 1 0) n else needL (i:Int) (needs r) l
def needR (n:Int):Nat->List Ru->List Sp->List Sp
 | _,[],l=>l
 | i,r :: R,l=>needR n (i+1) R (needRu n i r l)
def start (S:Sys):List Sp:=startR 0 S.R (startI S.I (List.replicate S.V.length (0,-1)))
def spans (S:Sys):List Sp:=needL (S.R.length:Int) S.O (needR (S.R.length:Int) 0 S.R (start S))
end Sk
end Go.Proofs.YtegakbobaecdlaaGreatDoor
namespace Go.Proofs.YtegakbobaecdlaaGreatDoor
open Go.RowKit Go.IntWalk
def SpB (w:World) (g:Nat) (l:List Sk.Sp):Prop:=∃ cur:Array Value,w.heap[g]?=some (.cells cur 57 (0,0))/\cur.size=l.length*2/\∀ i (h:i<l.length),cur[i*2]?=some (.int .i64 (l[i]).1)/\cur[i*2+1]?=some (.int .i64 (l[i]).2)
theorem SpB.lt {w:World} {g:Nat} {l:List Sk.Sp} (h:SpB w g l):g<w.heap.size:=by
 obtain ⟨cur,h1,-⟩:=h;exact zG h1
theorem SpB.keep {w w':World} {g:Nat} {l:List Sk.Sp} (h:SpB w g l) (hk:w'.heap[g]?=w.heap[g]?):SpB w' g l:=by
 obtain ⟨cur,h1,h2⟩:=h;exact ⟨cur,hk.trans h1,h2⟩
theorem SpB.under {w w':World} {g:Nat} {l:List Sk.Sp} (h:SpB w g l) (b:Below w.heap.size w w'):SpB w' g l:=h.keep (b.block _ h.lt)
theorem SpB.at {w:World} {g:Nat} {l:List Sk.Sp} (h:SpB w g l) {i:Nat} (hi:i<l.length):w.cell? ⟨g,i*2,none⟩=some (.int .i64 (l[i]).1)/\w.cell? ⟨g,i*2+1,none⟩=some (.int .i64 (l[i]).2):=by
 obtain ⟨cur,h1,h2,h3⟩:=h;have:=h3 i hi;exact ⟨by simp [World.cell?,h1,this.1],by simp [World.cell?,h1,this.2]⟩
theorem SpB.set {w:World} {g:Nat} {l:List Sk.Sp} (h:SpB w g l) {i:Nat} (hi:i<l.length) (a b:Int):SpB ((w.setCell ⟨g,i*2,none⟩ (.int .i64 a)).setCell ⟨g,i*2+1,none⟩ (.int .i64 b)) g (l.set i (a,b)):=by
 obtain ⟨cur,h1,h2,h3⟩:=h;refine ⟨_,zJ (zJ h1 (i*2) (.int .i64 a)) (i*2+1) (.int .i64 b),by simp [h2],fun j hj=>?_⟩;rw [List.length_set] at hj;have hs:=h3 j hj;rw [Array.getElem?_setIfInBounds,Array.getElem?_setIfInBounds,Array.getElem?_setIfInBounds,Array.getElem?_setIfInBounds,if_neg (by omega)];by_cases e:j=i
 ·subst e
  rw [if_pos rfl,if_pos (by rw [h2];omega),if_pos rfl,if_pos (by simp [h2];omega)];simp
 ·rw [if_neg (by omega),if_neg (by omega),if_neg (by omega)]
  rw [List.getElem_set_ne (by omega)];exact hs
def RpB (w:World) (g n c:Nat) (x y:Int):Prop:=∃ cur:Array Value,w.heap[g]?=some (.cells cur 57 (0,0))/\cur.size=n*2/\∀ i,i<c->cur[i*2]?=some (.int .i64 x)/\cur[i*2+1]?=some (.int .i64 y)
theorem RpB.lt {w:World} {g n c:Nat} {x y:Int} (h:RpB w g n c x y):g<w.heap.size:=by
 obtain ⟨cur,h1,-⟩:=h;exact zG h1
structure SpV (w:World) (sb g:Nat) (l:List Sk.Sp):Prop where
 var:w.heap[sb]?=some (.cells #[.slice (some ⟨g,0,none⟩) l.length l.length] 51 (0,0))
 row:SpB w g l
 ne:sb≠g
theorem SpV.keep {w w':World} {sb g:Nat} {l:List Sk.Sp} (h:SpV w sb g l) (h1:w'.heap[sb]?=w.heap[sb]?) (h2:w'.heap[g]?=w.heap[g]?):SpV w' sb g l:=⟨h1.trans h.var,h.row.keep h2,h.ne⟩
theorem SpV.under {w w':World} {sb g:Nat} {l:List Sk.Sp} (h:SpV w sb g l) (b:Below w.heap.size w w'):SpV w' sb g l:=h.keep (b.block _ (zG h.var)) (b.block _ h.row.lt)
theorem SpV.len {w:World} {sb g:Nat} {l l':List Sk.Sp} (h:SpV w sb g l) (e:l=l'):SpV w sb g l':=e ▸ h
end Go.Proofs.YtegakbobaecdlaaGreatDoor
