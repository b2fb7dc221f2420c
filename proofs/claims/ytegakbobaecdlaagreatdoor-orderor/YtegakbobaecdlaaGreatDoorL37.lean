import Derived.Test.YtegakbobaecdlaaGreatDoorL36
import Derived.WalkKit
import Derived.WalkSpells
import Derived.IntWalk
import Derived.Deep.Cut
import Derived.Deep.LoopGhost
import Derived.Ground.NamesProg
import Derived.Laws.Cover1
import Derived.Laws.EntriesVeiled
import Derived.Laws.Externs
import Derived.Lib.Hide
import Derived.Lib.MakeNoZero
import Derived.Lib.SlBuf
import Derived.Shelf.Bytes.SlSmallAll
import Derived.Shelf.Lay
set_option linter.unusedVariables false
set_option linter.unusedSimpArgs false
set_option maxHeartbeats 64000000
set_option maxRecDepth 100000
namespace Go.Proofs.YtegakbobaecdlaaGreatDoor
open Go Go.RowKit Go.IntWalk
section
variable {P:Program} {ops:Array Oper} {Q:Exit->Act->World->Prop} {md:Region.Mode} {S:World->Prop} {late:Nat->Bool}
end
def Blk (w:World) (B:Nat) (t:Value) (ty:TypeId) (v:Value):Prop:=∃ b,t=.pointer (some ⟨b,0,none⟩)/\B<=b/\w.heap[b]?=some (.cells #[v] ty (0,0))
theorem Blk.set {w:World} {B b:Nat} {z:Value} {ty:TypeId} (hb:B<=b) (k:w.heap[b]?=some (.cells #[z] ty (0,0))) (u:Value):Blk (w.setCell ⟨b,0,none⟩ u) B (.pointer (some ⟨b,0,none⟩)) ty u:=⟨_,rfl,hb,by have:=zJ k 0 u;simpa using this⟩
theorem Blk.off {w:World} {B:Nat} {t:Value} {ty:TypeId} {v v' z:Value} {d d':Bool} (h:Blk w B t ty (if d=true then v else z)) (e:d=false) (e':d'=false):Blk w B t ty (if d'=true then v' else z):=by
 subst e e'
 simpa using h
def SlI (B:Nat) (w:World) (t:Value) (l:List Int):Prop:=(∃ p q c,t=.slice p q c)/\HInts (fun i=>i<B) w t l
theorem SlI.keep {B B1:Nat} {w w':World} {t:Value} {l:List Int} (h:SlI B w t l) (hb:Below B1 w w') (hB:B<=B1):SlI B w' t l:=⟨h.1,h.2.keep hb.size (fun i hi _=>hb.block i (Nat.lt_of_lt_of_le hi hB))⟩
end Go.Proofs.YtegakbobaecdlaaGreatDoor
namespace Go.Proofs.YtegakbobaecdlaaGreatDoor
open Go.RowKit Go.IntWalk
namespace Sk
theorem takeF_stuck {S:Sys} (ok:Okay S) (hu:∀ r ∈ S.R,∀ z ∈ needs r,0<=z/\z<S.V.length):∀ (f:Nat) {m:List Bool} {left tk:List Nat},Taken S m left tk->left.length<=f->(takeF (S.R.map needs) (S.R.map Ru.out) f m left tk).2.2.find? (canC (S.R.map needs) (takeF (S.R.map needs) (S.R.map Ru.out) f m left tk).2.1)=none
 | 0,m,left,tk,h,hl=>by
  have:left=[]:=List.eq_nil_of_length_eq_zero (by omega);subst this;rfl
 | f+1,m,left,tk,h,hl=>by
  unfold takeF
  cases hf:left.find? (canC (S.R.map needs) m) with
  | none=>exact hf
  | some j=>
   have hst:=h.step ok hu hf;have:=length_filter_ne hst.2.1 hst.1;exact takeF_stuck ok hu f hst.2.2.2 (by omega)
theorem turns_stuck {S:Sys} (ok:Okay S) (hu:∀ r ∈ S.R,∀ z ∈ needs r,0<=z/\z<S.V.length):(turns S).2.2.find? (canC (S.R.map needs) (turns S).2.1)=none:=takeF_stuck ok hu _ (taken_start ok) (by simp)
theorem sortF_zero (S:Sys):(sortF S).1=0↔Okay S/\(turns S).2.2=[]:=by
 unfold sortF;by_cases hc:check S=(0,0)
 ·rw [if_neg (by simp [hc])]
  have ok:=(check_zero S).1 hc
  cases ht:(turns S).2.2 with
  | nil=>simp [ok]
  | cons j l=>simp
 ·rw [if_pos hc]
  constructor
  ·intro h;exact absurd (check_code S h) hc
  ·intro h;exact absurd ((check_zero S).2 h.1) hc
end Sk
end Go.Proofs.YtegakbobaecdlaaGreatDoor
namespace Go.Proofs.YtegakbobaecdlaaGreatDoor
open Go.RowKit Go.IntWalk
namespace Sk
theorem takeF_ahead {S:Sys} (ok:Okay S) (ha:Ahead S):∀ (f k:Nat) (m:List Bool),k+f=S.R.length->MadeBy m S.V.length (S.I++(S.R.take k).map (·.out))->(takeF (S.R.map needs) (S.R.map Ru.out) f m ((List.range S.R.length).drop k) (List.range k)).1=List.range S.R.length/\(takeF (S.R.map needs) (S.R.map Ru.out) f m ((List.range S.R.length).drop k) (List.range k)).2.2=[]
 | 0,k,m,hk,hm=>by
  have:k=S.R.length:=(by omega);subst this;unfold takeF;refine ⟨rfl,?_⟩;simp
 | f+1,k,m,hk,hm=>by
  have hkl:k<S.R.length:=(by omega);have e0:(List.range S.R.length).drop k=k :: (List.range S.R.length).drop (k+1):=by
   rw [List.drop_eq_getElem_cons (by simpa using hkl)];simp
  have hr:S.R[k] ∈ S.R:=List.getElem_mem hkl;have e2:(S.R.map needs).getD k []=needs S.R[k]:=(by simp [List.getD_eq_getElem?_getD,hkl]);have hcan:canC (S.R.map needs) m k=true:=by
   unfold canC;rw [e2];have:(needs S.R[k]).any (fun x => !(m.getD x.toNat false))=false:=by
    rw [List.any_eq_false];intro z hz;have h1:=(hm.at (needs_in ok _ hr z hz)).2 (by rw [List.mem_append];exact ha k hkl z hz);rw [h1]
    decide
   rw [this];rfl
  have e3:(k :: (List.range S.R.length).drop (k+1)).find? (canC (S.R.map needs) m)=some k:=by
   rw [List.find?_cons_of_pos hcan]
  have e4:(k :: (List.range S.R.length).drop (k+1)).filter (· != k)=(List.range S.R.length).drop (k+1):=by
   rw [List.filter_cons_of_neg (by simp)];refine List.filter_eq_self.2 fun y hy=>?_;obtain ⟨i,hi,e⟩:=List.getElem_of_mem hy;rw [List.getElem_drop,List.getElem_range] at e;have:y≠k:=(by omega)
   simpa using this
  rw [e0,takeF_some e3,e4,<-List.range_succ];refine takeF_ahead ok ha f (k+1) _ (by omega) ?_;have e5:(S.R.map Ru.out).getD k 0=S.R[k].out:=(by simp [List.getD_eq_getElem?_getD,hkl]);rw [e5,List.take_succ_eq_append_getElem hkl,List.map_append,<-List.append_assoc];exact hm.set (ok.rules _ hr).1.1
theorem turns_ahead {S:Sys} (ok:Okay S) (ha:Ahead S):(turns S).1=List.range S.R.length/\(turns S).2.2=[]:=by
 have h:=takeF_ahead ok ha S.R.length 0 (inM S) (by omega) (by have:=(taken_start ok).made;simpa using this)
 simpa [turns] using h
theorem sort_again {S:Sys} (ok:Okay S) (ha:Ahead S):sortS S=S/\sortF S=(0,0):=by
 have h:=turns_ahead ok ha;refine ⟨?_,?_⟩
 ·unfold sortS
  rw [h.1,map_range_self]
 ·unfold sortF
  rw [if_neg (by simp [(check_zero S).2 ok]),h.2]
def Nx (S:Sys) (a b:Nat):Prop:=(S.R.getD b noRu).out ∈ needs (S.R.getD a noRu)
theorem getD_mem {S:Sys} {j:Nat} (h:j<S.R.length):S.R.getD j noRu ∈ S.R:=by
 rw [List.getD_eq_getElem?_getD,List.getElem?_eq_getElem h];exact List.getElem_mem _
theorem Taken.lt {S:Sys} {m:List Bool} {left tk:List Nat} (h:Taken S m left tk) {j:Nat} (hj:j ∈ left):j<S.R.length:=by
 have:=(h.perm.mem_iff (a:=j)).1 (by simp [hj])
 simpa using this
theorem left_misses {S:Sys} {m:List Bool} {left tk:List Nat} (h:Taken S m left tk) (hst:left.find? (canC (S.R.map needs) m)=none) {j:Nat} (hj:j ∈ left):(needs (S.R.getD j noRu)).any (fun x => !(m.getD x.toNat false))=true:=by
 have:=List.find?_eq_none.1 hst j hj;unfold canC at this;have e2:(S.R.map needs).getD j []=needs (S.R.getD j noRu):=getD_map (h.lt hj);rw [e2] at this
 simpa using this
theorem left_maker {S:Sys} {m:List Bool} {left tk:List Nat} (h:Taken S m left tk) {z:Int} (hz:0<=z/\z<S.V.length) (hm:m.getD z.toNat false=false) {k:Nat} (hk:k<S.R.length) (e:(S.R.getD k noRu).out=z):k ∈ left:=by
 have hmem:k ∈ tk++left:=(h.perm.mem_iff (a:=k)).2 (by simpa using hk);rcases List.mem_append.1 hmem with q | q
 ·exfalso
  have:=(h.made.at hz).2 (List.mem_append.2 (.inr (List.mem_map.2 ⟨k,q,e⟩)));rw [this] at hm
  cases hm
 ·exact q
theorem left_made {S:Sys} (ok:Okay S) {m:List Bool} {left tk:List Nat} (h:Taken S m left tk) {j:Nat} (hj:j<S.R.length) {z:Int} (hz:z ∈ needs (S.R.getD j noRu)) (hm:m.getD z.toNat false=false):∃ k,k<S.R.length/\(S.R.getD k noRu).out=z:=by
 have hr:=getD_mem hj;have hzu:=needs_uses (ok.rules _ hr).2 hz fun y hy=>uses_A hy;rcases ok.used _ hr z hzu with q | q
 ·exfalso
  have:=(h.made.at (needs_in ok _ hr z hz)).2 (List.mem_append.2 (.inl q));rw [this] at hm
  cases hm
 ·obtain ⟨r,hr2,e⟩:=List.mem_map.1 q
  obtain ⟨k,hk,ek⟩:=List.getElem_of_mem hr2;refine ⟨k,hk,?_⟩;rw [List.getD_eq_getElem?_getD,List.getElem?_eq_getElem hk,ek];exact e
structure WayAt (S:Sys) (left way:List Nat) (n:Nat):Prop where
 all:∀ j ∈ way,j ∈ left
 now:n ∈ left
 steps:∀ i (h:i+1<way.length),Nx S way[i] way[i+1]
 last:∀ h:0<way.length,Nx S (way[way.length-1]) n
 nodup:way.Nodup
 first:(way++[n]).head?=left.head?
theorem WayAt.start {S:Sys} {rest:List Nat} {n:Nat}:WayAt S (n :: rest) [] n:=⟨fun j hj=>absurd hj (by simp),by simp,fun i h=>absurd h (by simp),fun h=>absurd h (by simp),by simp,rfl⟩
theorem WayAt.more {S:Sys} {left way:List Nat} {n n':Nat} (h:WayAt S left way n) (hn:n ∉ way) (hx:Nx S n n') (hl:n' ∈ left):WayAt S left (way++[n]) n' where
 all:=fun j hj=>by
  rcases List.mem_append.1 hj with q | q
  ·exact h.all j q
  ·simp at q
   subst q;exact h.now
 now:=hl
 steps:=fun i hi=>by
  by_cases e:i+1<way.length
  ·rw [List.getElem_append_left (by omega),List.getElem_append_left e]
   exact h.steps i e
  ·have e2:i+1=way.length:=by simp at hi;omega
   have:=h.last (by omega);have e3:(way++[n])[i+1]=n:=(by simp [e2]);have e4:(way++[n])[i]'(by simp;omega)=way[way.length-1]'(by omega):=by
    rw [List.getElem_append_left (by omega)]
    congr 1
    omega
   rw [e3,e4];exact this
 last:=fun hh=>by
  have e3:(way++[n])[(way++[n]).length-1]=n:=(by simp);rw [e3];exact hx
 nodup:=by
  rw [List.nodup_append];refine ⟨h.nodup,by simp,fun a ha b hb=>?_⟩;simp at hb;subst hb;rintro rfl;exact hn ha
 first:=by
  rw [<-h.first]
  cases way<;>rfl
structure Goes (S:Sys) (l:List Nat):Prop where
 some:0<l.length
 lt:∀ j ∈ l,j<S.R.length
 next:∀ i (h:i+1<l.length),Nx S l[i] l[i+1]
 back:Nx S (l[l.length-1]'(by omega)) l[0]
theorem WayAt.goes {S:Sys} {left way:List Nat} {n:Nat} (h:WayAt S left way n) (hl:∀ j ∈ left,j<S.R.length) {k:Nat} (hk:k<way.length) (e:way[k]=n):Goes S (way.drop k) where
 some:=by simp;omega
 lt:=fun j hj=>hl j (h.all j (List.mem_of_mem_drop hj))
 next:=fun i hi=>by
  simp at hi;rw [List.getElem_drop,List.getElem_drop];exact h.steps (k+i) (by omega)
 back:=by
  rw [List.getElem_drop,List.getElem_drop];have:=h.last (by omega);have e1:way[k+((way.drop k).length-1)]'(by simp;omega)=way[way.length-1]'(by omega):=by
   congr 1
   simp;omega
  rw [e1];have e2:way[k+0]=n:=e;rw [e2];exact this
theorem few_of:∀ (n:Nat) (l:List Nat),l.Nodup->(∀ x ∈ l,x<n)->l.length<=n
 | 0,l,hn,hl=>by
  cases l with
  | nil=>simp
  | cons x r=>exact absurd (hl x (by simp)) (by omega)
 | n+1,l,hn,hl=>by
  by_cases hm:n ∈ l
  ·have h1:=length_filter_ne hn hm
   have h2:=few_of n (l.filter (· != n)) (hn.filter _) (fun x hx=>by
    have h3:=List.mem_filter.1 hx;have h4:=hl x h3.1;have h5:x≠n:=(by simpa using h3.2);omega)
   omega
  ·have:=few_of n l hn (fun x hx=>by
    have h4:=hl x hx;have h5:x≠n:=fun q=>hm (q ▸ hx);omega)
   omega
theorem WayAt.few {S:Sys} {left way:List Nat} {n:Nat} (h:WayAt S left way n) (hl:∀ j ∈ left,j<S.R.length):way.length<=S.R.length:=few_of _ _ h.nodup fun x hx=>hl x (h.all x hx)
theorem once_of:∀ (R:List Ru),(R.map (·.out)).Nodup->∀ r ∈ R,(R.filter (fun t=>t.out==r.out)).length=1
  | [],_,r,hr=>by cases hr
  | x :: R,hn,r,hr=>by
    rw [List.map_cons,List.nodup_cons] at hn
    rcases List.mem_cons.1 hr with q | q
    · subst q
      rw [List.filter_cons_of_pos (by simp)]
      have:R.filter (fun t=>t.out==r.out)=[]:=by
        rw [List.filter_eq_nil_iff]
        intro t ht e
        exact hn.1 (List.mem_map.2 ⟨t,ht,by simpa using e⟩)
      rw [this]
      rfl
    · rw [List.filter_cons_of_neg]
      · exact once_of R hn.2 r q
      · intro e
        exact hn.1 (List.mem_map.2 ⟨r,q,(show x.out=r.out by simpa using e).symm⟩)
theorem same_out:∀ {R:List Ru},(R.map (·.out)).Nodup->∀ {r t:Ru},r ∈ R->t ∈ R->r.out=t.out->r=t
 | [],_,r,t,hr,_,_=>by cases hr
 | x :: R,hn,r,t,hr,ht,e=>by
  rw [List.map_cons,List.nodup_cons] at hn;rcases List.mem_cons.1 hr with q | q<;>rcases List.mem_cons.1 ht with p | p
  ·rw [q,p]
  ·subst q
   exact absurd (List.mem_map.2 ⟨t,p,e.symm⟩) hn.1
  ·subst p
   exact absurd (List.mem_map.2 ⟨r,q,e⟩) hn.1
  ·exact same_out hn.2 q p e
end Sk
end Go.Proofs.YtegakbobaecdlaaGreatDoor
