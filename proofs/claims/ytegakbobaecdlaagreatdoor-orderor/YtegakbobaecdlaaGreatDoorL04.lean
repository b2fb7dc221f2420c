import Derived.Test.YtegakbobaecdlaaGreatDoorL03
import Derived.WalkKit
import Derived.WalkSpells
import Derived.IntWalk
import Derived.Shelf.Lay
import Derived.Shelf.Sort.Plain
import Derived.Shelf.Slices.CompactI
import Derived.Shelf.Slices.In.SortNone
import Derived.Ground.NamesProg
set_option linter.unusedVariables false
set_option linter.unusedSimpArgs false
set_option maxHeartbeats 64000000
set_option maxRecDepth 100000
namespace Go.Proofs.YtegakbobaecdlaaGreatDoor
open Go.RowKit Go.IntWalk
def OwnX {α:Type} (T:Kind α) (ok:Nat->Prop) (w:World) (v:Value) (l:List α):Prop :=
 ∃ D,w.ownsRow 0 T.ty T.k v l.length (flat D l.length)/\(∀ k,v.ownBlock=some k->ok k)/\∀ j (h:j<l.length),T.E (fun i=>ok i/\some i≠v.ownBlock) w (D j) l[j]
theorem OwnX.nil {α:Type} {T:Kind α} {ok:Nat->Prop} {w:World}:OwnX T ok w (.slice none 0 0) [] :=
 ⟨fun _=>[],World.ownsRow_nil _ _ _ _,fun k hk=>(by cases hk),fun j h=>absurd h (Nat.not_lt_zero _)⟩
theorem OwnX.lt {α:Type} {T:Kind α} {ok:Nat->Prop} {w:World} {v:Value} {l:List α} (h:OwnX T ok w v l):∀ k,v.ownBlock=some k->ok k/\k<w.heap.size:=by
 obtain ⟨D,h1,h2,h3⟩:=h;exact fun k hk=>⟨h2 k hk,(World.ownsRow.lt h1 k hk).2⟩
theorem OwnX.form {α:Type} {T:Kind α} {ok:Nat->Prop} {w:World} {v:Value} {l:List α} (h:OwnX T ok w v l):∃ a c,v=.slice a l.length c/\l.length<=c/\c<=maxLen:=by
 obtain ⟨D,h1,h2⟩:=h;rcases h1.2 with ⟨rfl,h0⟩ | ⟨g,cap,cur,rfl,hb,hg,hnc,hcm,_⟩
 ·exact ⟨none,0,by rw [h0],by omega,by unfold maxLen;omega⟩
 ·exact ⟨_,_,rfl,hnc,hcm⟩
theorem OwnX.keep {α:Type} {T:Kind α} {ok:Nat->Prop} {w w':World} {v:Value} {l:List α} (h:OwnX T ok w v l) (hs:w.heap.size<=w'.heap.size) (hk:∀ i,ok i->i<w.heap.size->w'.heap[i]?=w.heap[i]?):OwnX T ok w' v l:=by
 obtain ⟨D,h1,h2,h3⟩:=h;refine ⟨D,⟨h1.1,?_⟩,h2,fun j hj=>T.keep (h3 j hj) hs fun i hi hl=>hk i hi.1 hl⟩;rcases h1.2 with h0 | ⟨g,cap,cur,rfl,hb,hg,hr⟩
 ·exact .inl h0
 ·exact .inr ⟨g,cap,cur,rfl,hb,(hk g (h2 g rfl) (zG hg)).trans hg,hr⟩
theorem OwnX.wide {α:Type} {T:Kind α} {ok ok':Nat->Prop} {w:World} {v:Value} {l:List α} (h:OwnX T ok w v l) (hk:∀ i,ok i->i<w.heap.size->ok' i):OwnX T ok' w v l:=by
 obtain ⟨D,h1,h2,h3⟩:=h;exact ⟨D,h1,fun k hq=>hk k (h2 k hq) (World.ownsRow.lt h1 k hq).2,fun j hj=>T.wide (h3 j hj) fun i hi hl=>⟨hk i hi.1 hl,hi.2⟩⟩
theorem OwnX.under {α:Type} {T:Kind α} {ok:Nat->Prop} {w w':World} {v:Value} {l:List α} (h:OwnX T ok w v l) (hb:Below w.heap.size w w'):OwnX T ok w' v l:=h.keep hb.size fun i _ hl=>hb.block i hl
theorem OwnX.set {α:Type} {T:Kind α} {ok:Nat->Prop} {w:World} {v:Value} {l:List α} (h:OwnX T ok w v l) {p:Addr} (hp:¬ok p.block) (u:Value):OwnX T ok (w.setCell p u) v l :=
 h.keep (by simp [World.setCell]) fun i hi hl=>Below.heap_setCell _ _ _ _ (fun e=>hp (e ▸ hi))
theorem OwnX.row {α:Type} {T:Kind α} {ok:Nat->Prop} {w:World} {v:Value} {l:List α} (h:OwnX T ok w v l):HRow T ok w v l:=by
 obtain ⟨D,h1,h2,h3⟩:=h;obtain ⟨ao,cap,hv,q1,q2,q3⟩:=owns_sl h1 (fun i hi=>T.len (h3 i hi));refine ⟨D,⟨ao,cap,hv,q1,q2,fun hn=>?_⟩,fun j hj=>T.wide (h3 j hj) fun i hi _=>hi.1⟩;obtain ⟨b,o,ha,_,hb,hc⟩:=q3 hn;refine ⟨b,o,ha,?_,hb,hc⟩;obtain ⟨g,cap',hv',_⟩:=owns_pos h1 hn;rw [hv] at hv';injection hv' with e1 e2 e3;rw [ha] at e1;injection e1 with e1;injection e1 with e4 e5 e6;exact h2 b (by rw [hv,ha,e5];simp [Value.ownBlock])
theorem run_moreX {α:Type} (T:Kind α) {w:World} (t tt ty:TypeId) (ht:Tryz.prog.underlying t=some (.slice T.ty))
  (N:Nat) (ok:Nat->Prop) (v:Value) (l:List α) (hown:OwnX T ok w v l) (cs:List Value) (y:α) (hE:T.E (fun i=>N<=i) w cs y)
  (hN:∀ i,ok i->i<N) (hNw:N<=w.heap.size) (hM:(l.length+1)*T.bytes<=140737488355328) (hm:l.length+1<=maxLen) :
  ∃ v' w',(Builtin.append_ #[t,t] ty #[v,.slice (some ⟨w.heap.size,0,none⟩) 1 1]).run Tryz.prog (w.alloc (.cells cs.toArray tt (0,0)))=.ok v' w'/\OwnX T (fun i=>ok i\/N<=i) w' v' (l++[y])/\(w.alloc (.cells cs.toArray tt (0,0))).grownBy w' v.ownBlock:=by
 obtain ⟨i0,hi,hz0,hz1,hz2⟩:=info_parts T.info;have hown1:=hown.under ((Below.refl _ w).alloc zM (.cells cs.toArray tt (0,0)));obtain ⟨D,hrow,hvb,hD⟩:=hown1;have hl:=T.len hE;obtain ⟨v',w',hrun,hrow',hgrow,hmv⟩:=vX (P:=Tryz.prog) (w.alloc (.cells cs.toArray tt (0,0))) 0 t ty T.ty i0 T.zero T.k T.bytes ht hi hz0 hz1 hz2 T.zs T.pos v l.length _ hrow ⟨w.heap.size,0,none⟩ 1 1 cs (by simp [hl]) (cells_new w cs tt) (T.one hE) hm hM (by simp);have hmv':v'.ownBlock=v.ownBlock\/∃ k,v'.ownBlock=some k/\w.heap.size+1<=k:=by
  rcases hmv with h | ⟨k,h1,h2⟩
  ·exact .inl h
  ·exact .inr ⟨k,h1,by simpa using h2⟩
 have hgk:∀ k,some k≠v.ownBlock->k<(w.alloc (.cells cs.toArray tt (0,0))).heap.size->w'.heap[k]?=(w.alloc (.cells cs.toArray tt (0,0))).heap[k]?:=fun k hk hl=>hgrow.block k hl hk;have hoff:∀ i,some i≠v.ownBlock->i<w.heap.size+1->some i≠v'.ownBlock:=fun i h1 h2 e=>by
  rcases hmv' with h | ⟨k,hk,hz⟩
  ·exact h1 (e.trans h)
  ·rw [hk] at e
   injection e with e;omega
 refine ⟨v',w',hrun,⟨fun q=>if q=l.length then cs else D q,?_,?_,fun j hj=>?_⟩,hgrow⟩
 ·have e:flat (fun q=>if q=l.length then cs else D q) (l.length+1)=flat D l.length++cs:=by
   rw [flat,qQ (D:=D) l.length (fun q hq=>by rw [if_neg (by omega)])];simp
  rw [List.length_append,List.length_singleton,e];exact hrow'
 ·intro k hk
  rcases hmv' with h | ⟨q,hq,hz⟩
  ·exact .inl (hvb k (h.symm.trans hk))
  ·rw [hq] at hk
   injection hk with hk;exact .inr (by omega)
 ·by_cases e:j=l.length
  ·subst e
   simp only [if_true,List.getElem_append_right zM,Nat.sub_self,List.getElem_cons_zero];have g0:=T.keep (w':=w.alloc (.cells cs.toArray tt (0,0))) hE (by simp) fun i _ hl=>Below.heap_alloc _ _ _ hl;have g1:=T.wide (ok':=fun k=>N<=k/\some k≠v.ownBlock/\k<w.heap.size+1) g0 (fun k hk hl=>⟨hk,fun e=>by have:=hN k (hvb k e.symm);omega,by simpa using hl⟩);have g2:=T.keep g1 hgrow.size (fun k hk hl=>hgk k hk.2.1 hl);exact T.wide g2 (fun k hk _=>⟨.inr hk.1,hoff k hk.2.1 hk.2.2⟩)
  ·have hjl:j<l.length:=by simp at hj;omega
   simp only [if_neg e,List.getElem_append_left hjl];have g1:=T.wide (ok':=fun k=>ok k/\some k≠v.ownBlock/\k<w.heap.size+1) (hD j hjl) (fun k hk hl=>⟨hk.1,hk.2,by simpa using hl⟩);have g2:=T.keep g1 hgrow.size (fun k hk hl=>hgk k hk.2.1 hl);exact T.wide g2 (fun k hk _=>⟨.inl hk.1,hoff k hk.2.1 hk.2.2⟩)
theorem vH {α:Type} (T:Kind α) {w:World} {o:Oper} {a:Act} {K:Act->World->Prop} {Q:Exit->Act->World->Prop} (s x:Operand) (t tt:TypeId)
  (ho:o.op=.call { callee:=.builtin .append,args:=#[s,x],argTypes:=#[t,t] }) (ht:Tryz.prog.underlying t=some (.slice T.ty))
  (N:Nat) (ok:Nat->Prop) (v:Value) (l:List α) (hs:a.eval s=v) (hown:OwnX T ok w v l) (cs:List Value) (y:α) (hE:T.E (fun i=>N<=i) w cs y) (hx:a.eval x=.slice (some ⟨w.heap.size,0,none⟩) 1 1)
  (hN:∀ i,ok i->i<N) (hNw:N<=w.heap.size) (hM:(l.length+1)*T.bytes<=140737488355328) (hm:l.length+1<=maxLen)
  (h:∀ v' w',OwnX T (fun i=>ok i\/N<=i) w' v' (l++[y])->(w.alloc (.cells cs.toArray tt (0,0))).grownBy w' v.ownBlock->K (a.put o.dst v') w') :
  Oper.wp Tryz.prog o a (w.alloc (.cells cs.toArray tt (0,0))) K Q:=by
 obtain ⟨v',w',hr,h2,h3⟩:=run_moreX T t tt o.type ht N ok v l hown cs y hE hN hNw hM hm;unfold Oper.wp execOp;simp only [ho,resolve,invoke,builtin,Sem.run_bind,Sem.run_pure,Result.andThen_ok,List.map_toArray,List.map_cons,List.map_nil,hs,hx,hr];exact h v' w' h2 h3
theorem jT {ok:Nat->Prop} {w W':World} {v:Value} {o:Obj} (hg:(w.alloc o).grownBy W' v.ownBlock) (hv:∀ k,v.ownBlock=some k->ok k):w.heap.size<=W'.heap.size/\∀ k,k<w.heap.size->¬ok k->W'.heap[k]?=w.heap[k]?:=by
 refine ⟨Nat.le_trans (by simp) hg.size,fun k hk hn=>?_⟩;rw [hg.block k (by simp;omega) (fun e=>hn (hv k e.symm))];exact Below.heap_alloc _ _ _ hk
theorem grown_aside {ok:Nat->Prop} {S:List Nat} {B:Nat} {w W':World} {v:Value} {o:Obj} (hg:(w.alloc o).grownBy W' v.ownBlock) (hv:∀ k,v.ownBlock=some k->ok k) (hok:∀ i,ok i->B<=i) (hB:B<=w.heap.size):Aside S B w W' :=
 ⟨hg.os,hg.tape,hg.output,(jT hg hv).1,fun k hk _=>(jT hg hv).2 k (by omega) (fun h=>by have:=hok k h;omega)⟩
theorem xF {P:Program} {ops:Array Oper} {Q:Exit->Act->World->Prop} {md:Region.Mode} {S:World->Prop} {late:Nat->Bool} {i j:Nat} {oi oj:Oper} {fuel:Nat} {listed:Array Bool} {a:Act} {w:World} (hoi:ops[i]?=some oi) (hoj:ops[j]?=some oj) (hr:Region.ready md ops listed=[i,j])
  (hwi:Region.wanted oi (yielded ops a.tmps)=true) (hwj:Region.wanted oj (yielded ops a.tmps)=true)
  (h1:∀ K':Act->World->Prop,Shut (∀ a w,(late i=false->S w)->wpAnyL P md ops Q S late fuel (listed.setIfInBounds i true) a w->K' a w)->Oper.wp P oi a w K' Q)
  (h2:∀ K':Act->World->Prop,Shut (∀ a w,(late j=false->S w)->wpAnyL P md ops Q S late fuel (listed.setIfInBounds j true) a w->K' a w)->Oper.wp P oj a w K' Q):wpAnyL P md ops Q S late (fuel+1) listed a w:=by
 refine ⟨fun h0=>(by rw [hr] at h0;cases h0),fun q hq=>?_⟩;rw [hr] at hq;simp at hq;rcases hq with rfl | rfl
 ·refine wpOp_step hoi (fun K' hK=>?_)
  rw [if_pos hwi];exact h1 K' (fun a w hS hW=>hK a w ⟨hS,hW⟩)
 ·refine wpOp_step hoj (fun K' hK=>?_)
  rw [if_pos hwj];exact h2 K' (fun a w hS hW=>hK a w ⟨hS,hW⟩)
end Go.Proofs.YtegakbobaecdlaaGreatDoor
namespace Go.Proofs.YtegakbobaecdlaaGreatDoor
open Go.Shelf Go.RowKit Go.Lib Go.IntWalk Go.Sort
def HInts (ok:Nat->Prop) (w:World) (v:Value) (L:List Int):Prop:=∃ C,Sl ok 1 w v L.length C/\∀ i (h:i<L.length),C i=[.int .i64 L[i]]
theorem HInts.at {ok:Nat->Prop} {w:World} {v:Value} {l:List Int} (h:HInts ok w v l) :
  ∃ ao cap,v=.slice ao l.length cap/\l.length<=cap/\cap<=maxLen/\∀ i (h:i<l.length),∃ b o,ao=some ⟨b,o,none⟩/\b<w.heap.size/\w.cell? ⟨b,o+i,none⟩=some (.int .i64 l[i]):=by
 obtain ⟨C,⟨ao,cap,hv,h1,h2,h3⟩,hC⟩:=h;refine ⟨ao,cap,hv,h1,h2,fun i hi=>?_⟩;obtain ⟨b,o,ha,hob,hb,hc⟩:=h3 (by omega);have:=(hc i hi).2 0 (by decide);rw [hC i hi] at this;exact ⟨b,o,ha,hb,by simpa using this⟩
theorem HInts.keep {ok:Nat->Prop} {w w':World} {v:Value} {l:List Int} (h:HInts ok w v l) (h1:w.heap.size<=w'.heap.size) (h2:∀ i,ok i->i<w.heap.size->w'.heap[i]?=w.heap[i]?):HInts ok w' v l:=by
 obtain ⟨C,h3,h4⟩:=h;exact ⟨C,h3.keep h1 h2,h4⟩
theorem HInts.under {ok:Nat->Prop} {w w':World} {v:Value} {l:List Int} (h:HInts ok w v l) (b:Below w.heap.size w w'):HInts ok w' v l:=h.keep b.size fun i _ hl=>b.block i hl
theorem HInts.wide {ok ok':Nat->Prop} {w:World} {v:Value} {l:List Int} (h:HInts ok w v l) (hk:∀ i,ok i->i<w.heap.size->ok' i):HInts ok' w v l:=by
 obtain ⟨C,h3,h4⟩:=h;exact ⟨C,h3.wide hk,h4⟩
theorem Tryz.infoI:(Tryz.prog.info? 3).map (fun i=>(i.zero,i.size,i.bytes))=some (some (.int .i64 0),1,8):=by kernel_rfl
def kInt:Kind Int where
 ty:=3
 k:=1
 bytes:=8
 zero:=.int .i64 0
 E:=fun _ _ cs x=>cs=[.int .i64 x]
 pos:=by decide
 zs:=rfl
 info:=Tryz.infoI
 len:=by rintro _ _ _ _ rfl;rfl
 one:=by rintro _ _ _ _ rfl;simp;rfl
 keep:=by rintro _ _ _ _ _ rfl _ _;rfl
 wide:=by rintro _ _ _ _ _ rfl _;rfl
theorem zR {ok:Nat->Prop} {w:World} {v:Value} {l:List Int} (h:HRow kInt ok w v l):HInts ok w v l:=h
def ics (l:List Int):List Value:=l.map (Value.int .i64)
theorem xD (l:List Int):(ics l).length=l.length:=by simp [ics]
theorem qM (a b:List Int):ics (a++b)=ics a++ics b:=by simp [ics]
theorem zAQ {l:List Int} {D:Nat->List Value} (hD:∀ j (h:j<l.length),D j=[.int .i64 l[j]]):∀ n,n<=l.length->flat D n=ics (l.take n)
 | 0,_=>by simp [flat,ics]
 | n+1,h=>by
  rw [flat,zAQ hD n (by omega),hD n (by omega),List.take_succ_eq_append_getElem (by omega),qM];rfl
def IBlk (w:World) (g:Nat) (l:List Int) (sp:List Value):Prop:=w.heap[g]?=some (.cells (ics l++sp).toArray 3 (0,0))
theorem IBlk.cell {w:World} {g:Nat} {l:List Int} {sp:List Value} (h:IBlk w g l sp) {i:Nat} (hi:i<l.length):w.cell? ⟨g,i,none⟩=some (.int .i64 l[i]):=by
 have:=coQ h i;rw [this,gT,List.getElem?_append_left (by rw [xD];exact hi)];simp [ics,hi]
theorem vM {B:Nat} {w:World} {v:Value} {l:List Int} (h:OwnL kInt B w v l):w.ownsRow B 3 1 v l.length (ics l):=by
 obtain ⟨D,h1,h2⟩:=h;have e1:=zAQ (l:=l) (D:=D) (fun j hj=>h2 j hj) l.length zM;rw [List.take_length] at e1;rw [<-e1];exact h1
theorem flat_ics (l:List Int):flat (fun j=>[.int .i64 (l[j]!)]) l.length=ics l:=by
 have e1:=zAQ (l:=l) (D:=fun j=>[.int .i64 (l[j]!)]) (fun j hj=>by simp [hj]) l.length zM;rw [List.take_length] at e1;exact e1
theorem rows_own {B:Nat} {w:World} {v:Value} {l:List Int} (h:w.ownsRow B 3 1 v l.length (ics l)):OwnL kInt B w v l:=by
 refine ⟨fun j=>[.int .i64 (l[j]!)],?_,fun j hj=>?_⟩
 ·rw [flat_ics];exact h
 ·show [Value.int .i64 (l[j]!)]=[.int .i64 (l[j])]
  simp [hj]
theorem vP {B:Nat} {w:World} {v:Value} {l:List Int} (h:OwnL kInt B w v l) :
  (v=.slice none 0 0/\l=[])\/∃ g c sp,v=.slice (some ⟨g,0,none⟩) l.length c/\B<=g/\IBlk w g l sp/\l.length<=c/\c<=maxLen/\l.length+sp.length=c:=by
 have h1:=vM h;rcases h1.2 with ⟨hv,h0⟩ | ⟨g,cap,cur,hv,hb,hg,hnc,hcm,hcs,htake⟩
 ·exact .inl ⟨hv,List.eq_nil_of_length_eq_zero h0⟩
 ·have e2:cur=(ics l++cur.toList.drop l.length).toArray:=by
   have:cur.toList=ics l++cur.toList.drop l.length:=by
    have ht:cur.toList.take l.length=ics l:=(by simpa using htake);rw [<-ht,List.take_append_drop]
   rw [<-this]
  refine .inr ⟨g,cap,cur.toList.drop l.length,hv,hb,?_,hnc,hcm,?_⟩
  ·unfold IBlk
   rw [<-e2];exact hg
  ·have hcs2:cur.size=cap:=by simpa using hcs
   simp;omega
theorem qX {B g c:Nat} {w:World} {l:List Int} {sp:List Value} (h:IBlk w g l sp) (hB:B<=g) (hc:l.length<=c) (hm:c<=maxLen) (hs:l.length+sp.length=c):OwnL kInt B w (.slice (some ⟨g,0,none⟩) l.length c) l:=by
 refine rows_own ⟨by rw [xD];omega,.inr ⟨g,c,_,rfl,hB,h,hc,hm,?_,?_⟩⟩
 ·show (ics l++sp).toArray.size=c*1
  simp [xD];omega
 ·show (ics l++sp).toArray.toList.take (l.length*1)=ics l
  rw [List.toList_toArray,Nat.mul_one,<-xD l,List.take_left]
theorem IBlk.holds {w:World} {g:Nat} {l:List Int} {sp:List Value} (h:IBlk w g l sp):Holds (Value.int .i64) w g 0 l.toArray:=by
 intro j hj;have hj2:j<l.length:=(by simpa using hj);rw [Nat.zero_add];refine ⟨?_,foQ h j⟩;rw [h.cell hj2];simp [hj2]
theorem HInts.news {ok:Nat->Prop} {w:World} {a:Addr} {cap:Nat} {l:List Int} (h:HInts ok w (.slice (some a) l.length cap) l):∀ j u,(ics l)[j]?=some u->w.cell? (a.add j)=some u:=by
 obtain ⟨ao,cap',ev,_,_,hat⟩:=h.at;injection ev with ev1 _ _;subst ev1;intro j u hj;have hjl:j<l.length:=by
  rcases Nat.lt_or_ge j l.length with h | h
  ·exact h
  ·rw [List.getElem?_eq_none (by rw [xD];exact h)] at hj;cases hj
 obtain ⟨b,o,e,hb,c0⟩:=hat j hjl;injection e with e;subst e;have adds:(⟨b,o,none⟩:Addr).add j=⟨b,o+j,none⟩:=by unfold Addr.add;split<;>simp_all
 rw [adds,c0,<-hj];simp [ics,hjl]
theorem ics_one (l:List Int):∀ u ∈ ics l,u.oneCell'=true:=by
 intro u hu;simp [ics] at hu;obtain ⟨x,_,rfl⟩:=hu;rfl
theorem run_cat {ok:Nat->Prop} {B:Nat} {w:World} {v u:Value} {l m:List Int} {ty:TypeId} (hown:OwnL kInt B w v l) (hm:HInts ok w u m) (hB:B<=w.heap.size) (hlen:l.length+m.length<=3000000) :
  ∃ v' w',(Builtin.append_ #[23,23] ty #[v,u]).run Tryz.prog w=.ok v' w'/\OwnL kInt B w' v' (l++m)/\Below B w w'/\w.grownBy w' v.ownBlock:=by
 obtain ⟨i0,hi,hz0,hz1,hz2⟩:=info_parts kInt.info;obtain ⟨ao,cap,rfl,hc1,hc2,hat⟩:=hm.at
 cases ao with
 | none=>
  cases m with
  | nil=>
   rw [List.length_nil,List.append_nil];have hr:(Builtin.append_ #[23,23] ty #[v,.slice none 0 cap]).run Tryz.prog w=.ok v w:=by
    have hi':Tryz.prog.info? 3=some i0:=hi;rcases (vM hown).2 with ⟨rfl,h0⟩ | ⟨g,c,cur,rfl,_,_,hnc,_⟩
    ·simp [Builtin.append_,run_underlying Tryz.underlying23,sizeOf,typeInfo,hi',Builtin.lenOf,Builtin.firstCells]
    ·simp [Builtin.append_,run_underlying Tryz.underlying23,sizeOf,typeInfo,hi',Builtin.lenOf,Builtin.firstCells,hnc,storeCells]
   exact ⟨v,w,hr,hown,Below.refl _ _,⟨rfl,rfl,rfl,Nat.le_refl _,fun _ _ _=>rfl⟩⟩
  | cons t m'=>
   obtain ⟨b,o,e,_⟩:=hat 0 (by simp)
   cases e
 | some a=>
  obtain ⟨v',w',hr,h2,h3,h4⟩:=vX (P:=Tryz.prog) w B 23 ty 3 i0 kInt.zero 1 8 Tryz.underlying23 hi hz0 hz1 hz2 rfl (by decide) v l.length _ (vM hown) a m.length cap (ics m) (by rw [xD];omega) hm.news (ics_one m) (by unfold maxLen;omega) (by omega) hB;refine ⟨v',w',hr,rows_own ?_,Below.push (Below.refl B w) hB (vM hown) h3,h3⟩;rw [List.length_append,qM];exact h2
shelf_lay Lays.n189 Nm 189 at Tryz as lay16
shelf_lay Lays2.n20 Nm2 20 at Tryz as lay17
end Go.Proofs.YtegakbobaecdlaaGreatDoor
