import Derived.Test.YtfhghlpfeeiaeaaGreatDoorX01
import Derived.WalkKit
import Derived.WalkSpells
import Derived.IntWalk
set_option linter.unusedVariables false
set_option linter.unusedSimpArgs false
set_option maxHeartbeats 64000000
set_option maxRecDepth 100000
namespace Go.Proofs.YtfhghlpfeeiaeaaGreatDoor
open Go.RowKit Go.IntWalk
structure Kind (α:Type) where
 ty:TypeId
 k:Nat
 bytes:Nat
 zero:Value
 E:(Nat->Prop)->World->List Value->α->Prop
 pos:0<k
 zs:zero.cells.size=k
 info:(Tryz.prog.info? ty).map (fun i=>(i.zero,i.size,i.bytes))=some (some zero,k,bytes)
 len:∀ {ok w cs a},E ok w cs a->cs.length=k
 one:∀ {ok w cs a},E ok w cs a->∀ u ∈ cs,u.oneCell'=true
 keep:∀ {ok w w' cs a},E ok w cs a->w.heap.size<=w'.heap.size->(∀ i,ok i->i<w.heap.size->w'.heap[i]?=w.heap[i]?)->E ok w' cs a
 wide:∀ {ok ok' w cs a},E ok w cs a->(∀ i,ok i->i<w.heap.size->ok' i)->E ok' w cs a
def OwnL {α:Type} (T:Kind α) (B:Nat) (w:World) (v:Value) (l:List α):Prop :=
 ∃ D,w.ownsRow B T.ty T.k v l.length (flat D l.length)/\∀ j (h:j<l.length),T.E (Off B v) w (D j) l[j]
def HRow {α:Type} (T:Kind α) (ok:Nat->Prop) (w:World) (v:Value) (l:List α):Prop :=
 ∃ C,Sl ok T.k w v l.length C/\∀ j (h:j<l.length),T.E ok w (C j) l[j]
theorem OwnL.nil {α:Type} {T:Kind α} {B:Nat} {w:World}:OwnL T B w (.slice none 0 0) [] :=
 ⟨fun _=>[],World.ownsRow_nil _ _ _ _,fun j h=>absurd h (Nat.not_lt_zero _)⟩
theorem OwnL.lt {α:Type} {T:Kind α} {B:Nat} {w:World} {v:Value} {l:List α} (h:OwnL T B w v l):∀ k,v.ownBlock=some k->B<=k/\k<w.heap.size:=by
 obtain ⟨D,h1,h2⟩:=h;exact fun k hk=>World.ownsRow.lt h1 k hk
theorem OwnL.form {α:Type} {T:Kind α} {B:Nat} {w:World} {v:Value} {l:List α} (h:OwnL T B w v l):∃ a c,v=.slice a l.length c/\l.length<=c/\c<=maxLen:=by
 obtain ⟨D,h1,h2⟩:=h;rcases h1.2 with ⟨rfl,h0⟩ | ⟨g,cap,cur,rfl,hb,hg,mA,jU,_⟩
 ·exact ⟨none,0,by rw [h0],by omega,by unfold maxLen;omega⟩
 ·exact ⟨_,_,rfl,mA,jU⟩
theorem OwnL.keep {α:Type} {T:Kind α} {B:Nat} {w w':World} {v:Value} {l:List α} (h:OwnL T B w v l) (hs:w.heap.size<=w'.heap.size) (hk:∀ i,B<=i->i<w.heap.size->w'.heap[i]?=w.heap[i]?):OwnL T B w' v l:=by
 obtain ⟨D,h1,h2⟩:=h;refine ⟨D,⟨h1.1,?_⟩,fun j hj=>T.keep (h2 j hj) hs fun i hi hl=>hk i hi.1 hl⟩;rcases h1.2 with h0 | ⟨g,cap,cur,hv,hb,hg,hr⟩
 ·exact .inl h0
 ·exact .inr ⟨g,cap,cur,hv,hb,(hk g hb (zBM hg)).trans hg,hr⟩
theorem OwnL.below {α:Type} {T:Kind α} {B:Nat} {w w':World} {v:Value} {l:List α} (h:OwnL T B w v l) (hb:Below w.heap.size w w'):OwnL T B w' v l:=h.keep hb.size fun i _ hl=>hb.block i hl
theorem OwnL.past {α:Type} {T:Kind α} {B:Nat} {S:List Nat} {w w':World} {v:Value} {l:List α} (h:OwnL T B w v l) (a:Aside S w.heap.size w w') (hS:∀ k ∈ S,k<B):OwnL T B w' v l :=
 h.keep a.size fun i hi hl=>a.block i hl fun hm=>by have:=hS i hm;omega
theorem OwnL.set {α:Type} {T:Kind α} {B:Nat} {w:World} {v:Value} {l:List α} (h:OwnL T B w v l) {p:Addr} (hp:p.block<B) (u:Value):OwnL T B (w.setCell p u) v l :=
 h.keep (by simp [World.setCell]) fun i hi hl=>Below.heap_setCell _ _ _ _ (fun e=>by omega)
theorem OwnL.row {α:Type} {T:Kind α} {B:Nat} {w:World} {v:Value} {l:List α} (h:OwnL T B w v l):HRow T (fun i=>B<=i) w v l:=by
 obtain ⟨D,h1,h2⟩:=h;exact ⟨D,owns_sl h1 (fun i hi=>T.len (h2 i hi)),fun j hj=>T.wide (h2 j hj) fun i hi _=>hi.1⟩
theorem HRow.form {α:Type} {T:Kind α} {ok:Nat->Prop} {w:World} {v:Value} {l:List α} (h:HRow T ok w v l):∃ a c,v=.slice a l.length c/\l.length<=c/\c<=maxLen:=by
 obtain ⟨C,⟨a,c,hv,h1,h2,_⟩,_⟩:=h;exact ⟨a,c,hv,h1,h2⟩
theorem HRow.keep {α:Type} {T:Kind α} {ok:Nat->Prop} {w w':World} {v:Value} {l:List α} (h:HRow T ok w v l) (hs:w.heap.size<=w'.heap.size) (hk:∀ i,ok i->i<w.heap.size->w'.heap[i]?=w.heap[i]?):HRow T ok w' v l:=by
 obtain ⟨C,h1,h2⟩:=h;exact ⟨C,h1.keep hs hk,fun j hj=>T.keep (h2 j hj) hs hk⟩
theorem HRow.wide {α:Type} {T:Kind α} {ok ok':Nat->Prop} {w:World} {v:Value} {l:List α} (h:HRow T ok w v l) (hk:∀ i,ok i->i<w.heap.size->ok' i):HRow T ok' w v l:=by
 obtain ⟨C,h1,h2⟩:=h;exact ⟨C,h1.wide hk,fun j hj=>T.wide (h2 j hj) hk⟩
theorem OwnL.lit {α:Type} {T:Kind α} {B:Nat} {w:World} {cs:List Value} {x:α} (hB:B<=w.heap.size) (h:T.E (fun i=>B<=i) w cs x):OwnL T B (w.alloc (.cells cs.toArray T.ty (0,0))) (.slice (some ⟨w.heap.size,0,none⟩) 1 1) [x]:=by
 have hl:=T.len h;refine ⟨fun _=>cs,?_,fun j hj=>?_⟩
 ·have:=World.ownsRow_lit (base:=B) (e:=T.ty) (size:=T.k) w cs.toArray 1 hB (by decide) (by simp [hl])
  simpa [flat] using this
 ·have DX:j=0:=by simp at hj;exact hj
  subst DX;have h1:=T.wide (ok':=fun i=>Off B (.slice (some ⟨w.heap.size,0,none⟩) 1 1) i) h fun i hi hl=>⟨hi,fun e=>by simp [Value.ownBlock] at e;omega⟩;exact T.keep h1 (by simp) fun i _ hl=>Below.heap_alloc _ _ _ hl
theorem cells_new (w:World) (cs:List Value) (t:TypeId):∀ j u,cs[j]?=some u->(w.alloc (.cells cs.toArray t (0,0))).cell? ((⟨w.heap.size,0,none⟩:Addr).add j)=some u:=by
 intro j u hj;have hn:=zBO w (.cells cs.toArray t (0,0));have kx:(⟨w.heap.size,0,none⟩:Addr).add j=⟨w.heap.size,j,none⟩:=by unfold Addr.add;split<;>simp_all
 rw [kx,coQ hn]
 simpa using hj
theorem zBW {α:Type} (T:Kind α) {w:World} {ops:Array Oper} {rest:List Oper} {o:Oper} {a:Act} {Q:Exit->Act->World->Prop} (xa:o.guard=none) (s x:Operand) (t tt:TypeId)
  (ho:o.op=.call { callee:=.builtin .append,args:=#[s,x],argTypes:=#[t,t] }) (ht:Tryz.prog.underlying t=some (.slice T.ty))
  (B N:Nat) (v:Value) (l:List α) (hs:a.eval s=v) (cf:OwnL T B w v l) (cs:List Value) (y:α) (hE:T.E (fun i=>N<=i) w cs y) (hx:a.eval x=.slice (some ⟨w.heap.size,0,none⟩) 1 1)
  (hN:∀ k,v.ownBlock=some k->k<N) (Ge:B<=N) (pP:B<=w.heap.size) (hM:(l.length+1)*T.bytes<=140737488355328) (hm:l.length+1<=maxLen)
  (h:∀ v' w',OwnL T B w' v' (l++[y])->Below B w w'->(w.alloc (.cells cs.toArray tt (0,0))).grownBy w' v.ownBlock->Moved (w.alloc (.cells cs.toArray tt (0,0))) v v'->wpList Tryz.prog ops Q rest (a.put o.dst v') w') :
  wpList Tryz.prog ops Q (o :: rest) a (w.alloc (.cells cs.toArray tt (0,0))):=by
 obtain ⟨i0,hi,iM,jw,dZ⟩:=info_parts T.info;have qo:=cf.below ((Below.refl _ w).alloc zBR (.cells cs.toArray tt (0,0)));obtain ⟨D,dC,hD⟩:=qo;have hl:=T.len hE;refine wpList_push xa s x t ho B T.ty i0 T.zero T.k T.bytes ht hi iM jw dZ T.zs T.pos v l.length _ hs dC ⟨w.heap.size,0,none⟩ 1 1 cs hx (by simp [hl]) (cells_new w cs tt) (T.one hE) hm hM (by simp;omega) ?_;intro v' w' lJ eG gF;have nQ:Moved (w.alloc (.cells cs.toArray tt (0,0))) v v':=gF;have Bz:=grown_keep (B:=B) (v:=v) eG;refine h v' w' ⟨fun q=>if q=l.length then cs else D q,?_,fun j hj=>?_⟩ (Below.push ((Below.refl B w).alloc pP _) (by simp;omega) dC eG) eG nQ
 ·have e:flat (fun q=>if q=l.length then cs else D q) (l.length+1)=flat D l.length++cs:=by
   rw [flat,zCR (D:=D) l.length (fun q hq=>by rw [if_neg (by omega)])];simp
  rw [List.length_append,List.length_singleton,e];exact lJ
 ·by_cases e:j=l.length
  ·subst e
   simp only [if_true,List.getElem_append_right zBR,Nat.sub_self,List.getElem_cons_zero];have g0:=T.keep (w':=w.alloc (.cells cs.toArray tt (0,0))) hE (by simp) fun i _ hl=>Below.heap_alloc _ _ _ hl;have g1:=T.wide (ok':=fun k=>Off B v k/\k<(w.alloc (.cells cs.toArray tt (0,0))).heap.size) g0 (fun k hk hl=>⟨⟨by omega,fun e=>by have:=hN k e.symm;omega⟩,hl⟩);have g2:=T.keep g1 eG.size (fun k hk hl=>Bz k hk.1 hl);exact T.wide g2 (fun k hk _=>Off.moved nQ hk.1 hk.2)
  ·have jd:j<l.length:=by simp at hj;omega
   simp only [if_neg e,List.getElem_append_left jd];have g1:=T.wide (ok':=fun k=>Off B v k/\k<(w.alloc (.cells cs.toArray tt (0,0))).heap.size) (hD j jd) (fun k hk hl=>⟨hk,hl⟩);have g2:=T.keep g1 eG.size (fun k hk hl=>Bz k hk.1 hl);exact T.wide g2 (fun k hk _=>Off.moved nQ hk.1 hk.2)
/-! ### The kinds -/
theorem HTerms.slice {ok:Nat->Prop} {w:World} {v:Value} {l:List Tm} (h:HTerms ok w v l):∃ a n c,v=.slice a n c:=by
 obtain ⟨C,⟨a,c,hv,_⟩,_⟩:=h;exact ⟨a,_,c,hv⟩
def OwnX {α:Type} (T:Kind α) (ok:Nat->Prop) (w:World) (v:Value) (l:List α):Prop :=
 ∃ D,w.ownsRow 0 T.ty T.k v l.length (flat D l.length)/\(∀ k,v.ownBlock=some k->ok k)/\∀ j (h:j<l.length),T.E (fun i=>ok i/\some i≠v.ownBlock) w (D j) l[j]
theorem OwnX.nil {α:Type} {T:Kind α} {ok:Nat->Prop} {w:World}:OwnX T ok w (.slice none 0 0) [] :=
 ⟨fun _=>[],World.ownsRow_nil _ _ _ _,fun k hk=>(by cases hk),fun j h=>absurd h (Nat.not_lt_zero _)⟩
theorem OwnX.lt {α:Type} {T:Kind α} {ok:Nat->Prop} {w:World} {v:Value} {l:List α} (h:OwnX T ok w v l):∀ k,v.ownBlock=some k->ok k/\k<w.heap.size:=by
 obtain ⟨D,h1,h2,h3⟩:=h;exact fun k hk=>⟨h2 k hk,(World.ownsRow.lt h1 k hk).2⟩
theorem OwnX.form {α:Type} {T:Kind α} {ok:Nat->Prop} {w:World} {v:Value} {l:List α} (h:OwnX T ok w v l):∃ a c,v=.slice a l.length c/\l.length<=c/\c<=maxLen:=by
 obtain ⟨D,h1,h2⟩:=h;rcases h1.2 with ⟨rfl,h0⟩ | ⟨g,cap,cur,rfl,hb,hg,mA,jU,_⟩
 ·exact ⟨none,0,by rw [h0],by omega,by unfold maxLen;omega⟩
 ·exact ⟨_,_,rfl,mA,jU⟩
theorem OwnX.keep {α:Type} {T:Kind α} {ok:Nat->Prop} {w w':World} {v:Value} {l:List α} (h:OwnX T ok w v l) (hs:w.heap.size<=w'.heap.size) (hk:∀ i,ok i->i<w.heap.size->w'.heap[i]?=w.heap[i]?):OwnX T ok w' v l:=by
 obtain ⟨D,h1,h2,h3⟩:=h;refine ⟨D,⟨h1.1,?_⟩,h2,fun j hj=>T.keep (h3 j hj) hs fun i hi hl=>hk i hi.1 hl⟩;rcases h1.2 with h0 | ⟨g,cap,cur,rfl,hb,hg,hr⟩
 ·exact .inl h0
 ·exact .inr ⟨g,cap,cur,rfl,hb,(hk g (h2 g rfl) (zBM hg)).trans hg,hr⟩
theorem OwnX.wide {α:Type} {T:Kind α} {ok ok':Nat->Prop} {w:World} {v:Value} {l:List α} (h:OwnX T ok w v l) (hk:∀ i,ok i->i<w.heap.size->ok' i):OwnX T ok' w v l:=by
 obtain ⟨D,h1,h2,h3⟩:=h;exact ⟨D,h1,fun k hq=>hk k (h2 k hq) (World.ownsRow.lt h1 k hq).2,fun j hj=>T.wide (h3 j hj) fun i hi hl=>⟨hk i hi.1 hl,hi.2⟩⟩
theorem OwnX.under {α:Type} {T:Kind α} {ok:Nat->Prop} {w w':World} {v:Value} {l:List α} (h:OwnX T ok w v l) (hb:Below w.heap.size w w'):OwnX T ok w' v l:=h.keep hb.size fun i _ hl=>hb.block i hl
theorem OwnX.past {α:Type} {T:Kind α} {ok:Nat->Prop} {S:List Nat} {w w':World} {v:Value} {l:List α} (h:OwnX T ok w v l) (a:Aside S w.heap.size w w') (hS:∀ i,ok i->i ∉ S):OwnX T ok w' v l :=
 h.keep a.size fun i hi hl=>a.block i hl (hS i hi)
theorem OwnX.row {α:Type} {T:Kind α} {ok:Nat->Prop} {w:World} {v:Value} {l:List α} (h:OwnX T ok w v l):HRow T ok w v l:=by
 obtain ⟨D,h1,h2,h3⟩:=h;obtain ⟨ao,cap,hv,q1,q2,q3⟩:=owns_sl h1 (fun i hi=>T.len (h3 i hi));refine ⟨D,⟨ao,cap,hv,q1,q2,fun hn=>?_⟩,fun j hj=>T.wide (h3 j hj) fun i hi _=>hi.1⟩;obtain ⟨b,o,ha,_,hb,hc⟩:=q3 hn;refine ⟨b,o,ha,?_,hb,hc⟩;obtain ⟨g,dk,uC,_⟩:=owns_pos h1 hn;rw [hv] at uC;injection uC with e1 e2 e3;rw [ha] at e1;injection e1 with e1;injection e1 with e4 e5 e6;exact h2 b (by rw [hv,ha,e5];simp [Value.ownBlock])
theorem run_moreX {α:Type} (T:Kind α) {w:World} (t tt ty:TypeId) (ht:Tryz.prog.underlying t=some (.slice T.ty))
  (N:Nat) (ok:Nat->Prop) (v:Value) (l:List α) (cf:OwnX T ok w v l) (cs:List Value) (y:α) (hE:T.E (fun i=>N<=i) w cs y)
  (hN:∀ i,ok i->i<N) (Gi:N<=w.heap.size) (hM:(l.length+1)*T.bytes<=140737488355328) (hm:l.length+1<=maxLen) :
  ∃ v' w',(Builtin.append_ #[t,t] ty #[v,.slice (some ⟨w.heap.size,0,none⟩) 1 1]).run Tryz.prog (w.alloc (.cells cs.toArray tt (0,0)))=.ok v' w'/\OwnX T (fun i=>ok i\/N<=i) w' v' (l++[y])/\(w.alloc (.cells cs.toArray tt (0,0))).grownBy w' v.ownBlock:=by
 obtain ⟨i0,hi,iM,jw,dZ⟩:=info_parts T.info;have qo:=cf.under ((Below.refl _ w).alloc zBR (.cells cs.toArray tt (0,0)));obtain ⟨D,dC,CD,hD⟩:=qo;have hl:=T.len hE;obtain ⟨v',w',cH,lJ,eG,gF⟩:=zCt (P:=Tryz.prog) (w.alloc (.cells cs.toArray tt (0,0))) 0 t ty T.ty i0 T.zero T.k T.bytes ht hi iM jw dZ T.zs T.pos v l.length _ dC ⟨w.heap.size,0,none⟩ 1 1 cs (by simp [hl]) (cells_new w cs tt) (T.one hE) hm hM (by simp);have nQ:v'.ownBlock=v.ownBlock\/∃ k,v'.ownBlock=some k/\w.heap.size+1<=k:=by
  rcases gF with h | ⟨k,h1,h2⟩
  ·exact .inl h
  ·exact .inr ⟨k,h1,by simpa using h2⟩
 have Bz:∀ k,some k≠v.ownBlock->k<(w.alloc (.cells cs.toArray tt (0,0))).heap.size->w'.heap[k]?=(w.alloc (.cells cs.toArray tt (0,0))).heap[k]?:=fun k hk hl=>eG.block k hl hk;have Cm:∀ i,some i≠v.ownBlock->i<w.heap.size+1->some i≠v'.ownBlock:=fun i h1 h2 e=>by
  rcases nQ with h | ⟨k,hk,hz⟩
  ·exact h1 (e.trans h)
  ·rw [hk] at e
   injection e with e;omega
 refine ⟨v',w',cH,⟨fun q=>if q=l.length then cs else D q,?_,?_,fun j hj=>?_⟩,eG⟩
 ·have e:flat (fun q=>if q=l.length then cs else D q) (l.length+1)=flat D l.length++cs:=by
   rw [flat,zCR (D:=D) l.length (fun q hq=>by rw [if_neg (by omega)])];simp
  rw [List.length_append,List.length_singleton,e];exact lJ
 ·intro k hk
  rcases nQ with h | ⟨q,hq,hz⟩
  ·exact .inl (CD k (h.symm.trans hk))
  ·rw [hq] at hk
   injection hk with hk;exact .inr (by omega)
 ·by_cases e:j=l.length
  ·subst e
   simp only [if_true,List.getElem_append_right zBR,Nat.sub_self,List.getElem_cons_zero];have g0:=T.keep (w':=w.alloc (.cells cs.toArray tt (0,0))) hE (by simp) fun i _ hl=>Below.heap_alloc _ _ _ hl;have g1:=T.wide (ok':=fun k=>N<=k/\some k≠v.ownBlock/\k<w.heap.size+1) g0 (fun k hk hl=>⟨hk,fun e=>by have:=hN k (CD k e.symm);omega,by simpa using hl⟩);have g2:=T.keep g1 eG.size (fun k hk hl=>Bz k hk.2.1 hl);exact T.wide g2 (fun k hk _=>⟨.inr hk.1,Cm k hk.2.1 hk.2.2⟩)
  ·have jd:j<l.length:=by simp at hj;omega
   simp only [if_neg e,List.getElem_append_left jd];have g1:=T.wide (ok':=fun k=>ok k/\some k≠v.ownBlock/\k<w.heap.size+1) (hD j jd) (fun k hk hl=>⟨hk.1,hk.2,by simpa using hl⟩);have g2:=T.keep g1 eG.size (fun k hk hl=>Bz k hk.2.1 hl);exact T.wide g2 (fun k hk _=>⟨.inl hk.1,Cm k hk.2.1 hk.2.2⟩)
theorem zAo {α:Type} (T:Kind α) {w:World} {o:Oper} {a:Act} {K:Act->World->Prop} {Q:Exit->Act->World->Prop} (s x:Operand) (t tt:TypeId)
  (ho:o.op=.call { callee:=.builtin .append,args:=#[s,x],argTypes:=#[t,t] }) (ht:Tryz.prog.underlying t=some (.slice T.ty))
  (N:Nat) (ok:Nat->Prop) (v:Value) (l:List α) (hs:a.eval s=v) (cf:OwnX T ok w v l) (cs:List Value) (y:α) (hE:T.E (fun i=>N<=i) w cs y) (hx:a.eval x=.slice (some ⟨w.heap.size,0,none⟩) 1 1)
  (hN:∀ i,ok i->i<N) (Gi:N<=w.heap.size) (hM:(l.length+1)*T.bytes<=140737488355328) (hm:l.length+1<=maxLen)
  (h:∀ v' w',OwnX T (fun i=>ok i\/N<=i) w' v' (l++[y])->(w.alloc (.cells cs.toArray tt (0,0))).grownBy w' v.ownBlock->K (a.put o.dst v') w') :
  Oper.wp Tryz.prog o a (w.alloc (.cells cs.toArray tt (0,0))) K Q:=by
 obtain ⟨v',w',hr,h2,h3⟩:=run_moreX T t tt o.type ht N ok v l cf cs y hE hN Gi hM hm;unfold Oper.wp execOp;simp only [ho,resolve,invoke,builtin,Sem.run_bind,Sem.run_pure,Result.andThen_ok,List.map_toArray,List.map_cons,List.map_nil,hs,hx,hr];exact h v' w' h2 h3
theorem zAN {ok:Nat->Prop} {w W':World} {v:Value} {o:Obj} (hg:(w.alloc o).grownBy W' v.ownBlock) (hv:∀ k,v.ownBlock=some k->ok k):w.heap.size<=W'.heap.size/\∀ k,k<w.heap.size->¬ok k->W'.heap[k]?=w.heap[k]?:=by
 refine ⟨Nat.le_trans (by simp) hg.size,fun k hk hn=>?_⟩;rw [hg.block k (by simp;omega) (fun e=>hn (hv k e.symm))];exact Below.heap_alloc _ _ _ hk
theorem grown_aside {ok:Nat->Prop} {S:List Nat} {B:Nat} {w W':World} {v:Value} {o:Obj} (hg:(w.alloc o).grownBy W' v.ownBlock) (hv:∀ k,v.ownBlock=some k->ok k) (fN:∀ i,ok i->B<=i) (hB:B<=w.heap.size):Aside S B w W' :=
 ⟨hg.os,hg.tape,hg.output,(zAN hg hv).1,fun k hk _=>(zAN hg hv).2 k (by omega) (fun h=>by have:=fN k h;omega)⟩
theorem zBl {P:Program} {ops:Array Oper} {Q:Exit->Act->World->Prop} {md:Region.Mode} {S:World->Prop} {late:Nat->Bool} {i j:Nat} {oi oj:Oper} {fuel:Nat} {listed:Array Bool} {a:Act} {w:World} (xu:ops[i]?=some oi) (zg:ops[j]?=some oj) (hr:Region.ready md ops listed=[i,j])
  (zk:Region.wanted oi (yielded ops a.tmps)=true) (PB:Region.wanted oj (yielded ops a.tmps)=true)
  (h1:∀ K':Act->World->Prop,Shut (∀ a w,(late i=false->S w)->wpAnyL P md ops Q S late fuel (listed.setIfInBounds i true) a w->K' a w)->Oper.wp P oi a w K' Q)
  (h2:∀ K':Act->World->Prop,Shut (∀ a w,(late j=false->S w)->wpAnyL P md ops Q S late fuel (listed.setIfInBounds j true) a w->K' a w)->Oper.wp P oj a w K' Q):wpAnyL P md ops Q S late (fuel+1) listed a w:=by
 refine ⟨fun h0=>(by rw [hr] at h0;cases h0),fun q hq=>?_⟩;rw [hr] at hq;simp at hq;rcases hq with rfl | rfl
 ·refine wpOp_step xu (fun K' hK=>?_)
  rw [if_pos zk];exact h1 K' (fun a w hS hW=>hK a w ⟨hS,hW⟩)
 ·refine wpOp_step zg (fun K' hK=>?_)
  rw [if_pos PB];exact h2 K' (fun a w hS hW=>hK a w ⟨hS,hW⟩)
def tr (b:Bool):Int:=if b=true then 1 else 0
def apT (k a b:Int):Int :=
 if k=1 then wrap64 (a+b) else if k=2 then wrap64 (a-b) else if k=3 then wrap64 (a*b)
 else if k=4 then (if b=0 then 0 else wrap64 (a.tdiv b)) else if k=5 then (if b=0 then 0 else a.tmod b)
 else if k=6 then min a b else if k=7 then max a b else if k=8 then tr (decide (a<b)) else if k=9 then tr (decide (a=b))
 else if k=10 then tr (decide (a≠0/\b≠0)) else if k=11 then tr (decide (a≠0\/b≠0)) else if k=12 then tr (decide (¬(a=0↔b=0)))
 else if k=13 then wrap64 (-a) else if k=14 then tr (decide (a=0)) else 0
end Go.Proofs.YtfhghlpfeeiaeaaGreatDoor
