import Derived.Test.YtkfgbhlpjkkgfaaGreatDoorN06
import Derived.Test.YtkfgbhlpjkkgfaaGreatDoorN05
import Derived.Test.YtkfgbhlpjkkgfaaGreatDoorN02
set_option linter.unusedVariables false
set_option linter.unusedSimpArgs false
set_option maxHeartbeats 64000000
set_option maxRecDepth 100000
namespace Go.Proofs.YtkfgbhlpjkkgfaaGreatDoor
open Go.RowKit Go.IntWalk
def OwnX {α:Type} (T:Kind α) (ok:Nat→Prop) (w:World) (v:Value) (l:List α):Prop :=
 ∃ D,w.ownsRow 0 T.ty T.k v l.length (flat D l.length)∧(∀ k,v.ownBlock=some k→ok k)∧∀ j (h:j<l.length),T.E (fun i=>ok i∧some i≠v.ownBlock) w (D j) l[j]
theorem OwnX.nil {α:Type} {T:Kind α} {ok:Nat→Prop} {w:World}:OwnX T ok w (.slice none 0 0) [] :=
 ⟨fun _=>[],World.ownsRow_nil _ _ _ _,fun k hk=>(by cases hk),fun j h=>absurd h (Nat.not_lt_zero _)⟩
theorem OwnX.lt {α:Type} {T:Kind α} {ok:Nat→Prop} {w:World} {v:Value} {l:List α} (h:OwnX T ok w v l):∀ k,v.ownBlock=some k→ok k∧k<w.heap.size:=by
 obtain ⟨D,h1,h2,h3⟩:=h;exact fun k hk=>⟨h2 k hk,(World.ownsRow.lt h1 k hk).2⟩
theorem OwnX.form {α:Type} {T:Kind α} {ok:Nat→Prop} {w:World} {v:Value} {l:List α} (h:OwnX T ok w v l):∃ a c,v=.slice a l.length c∧l.length≤c∧c≤maxLen:=by
 obtain ⟨D,h1,h2⟩:=h;rcases h1.2 with ⟨rfl,h0⟩ | ⟨g,cap,cur,rfl,hb,hg,hnc,hcm,_⟩
 ·exact ⟨none,0,by rw [h0],by omega,by unfold maxLen;omega⟩
 ·exact ⟨_,_,rfl,hnc,hcm⟩
theorem OwnX.keep {α:Type} {T:Kind α} {ok:Nat→Prop} {w w':World} {v:Value} {l:List α} (h:OwnX T ok w v l) (hs:w.heap.size≤w'.heap.size) (hk:∀ i,ok i→i<w.heap.size→w'.heap[i]?=w.heap[i]?):OwnX T ok w' v l:=by
 obtain ⟨D,h1,h2,h3⟩:=h;refine ⟨D,⟨h1.1,?_⟩,h2,fun j hj=>T.keep (h3 j hj) hs fun i hi hl=>hk i hi.1 hl⟩;rcases h1.2 with h0 | ⟨g,cap,cur,rfl,hb,hg,hr⟩
 ·exact .inl h0
 ·exact .inr ⟨g,cap,cur,rfl,hb,(hk g (h2 g rfl) (lt_of hg)).trans hg,hr⟩
theorem OwnX.wide {α:Type} {T:Kind α} {ok ok':Nat→Prop} {w:World} {v:Value} {l:List α} (h:OwnX T ok w v l) (hk:∀ i,ok i→i<w.heap.size→ok' i):OwnX T ok' w v l:=by
 obtain ⟨D,h1,h2,h3⟩:=h;exact ⟨D,h1,fun k hq=>hk k (h2 k hq) (World.ownsRow.lt h1 k hq).2,fun j hj=>T.wide (h3 j hj) fun i hi hl=>⟨hk i hi.1 hl,hi.2⟩⟩
theorem OwnX.under {α:Type} {T:Kind α} {ok:Nat→Prop} {w w':World} {v:Value} {l:List α} (h:OwnX T ok w v l) (hb:Below w.heap.size w w'):OwnX T ok w' v l:=h.keep hb.size fun i _ hl=>hb.block i hl
theorem OwnX.past {α:Type} {T:Kind α} {ok:Nat→Prop} {S:List Nat} {w w':World} {v:Value} {l:List α} (h:OwnX T ok w v l) (a:Aside S w.heap.size w w') (hS:∀ i,ok i→i ∉ S):OwnX T ok w' v l :=
 h.keep a.size fun i hi hl=>a.block i hl (hS i hi)
theorem OwnX.set {α:Type} {T:Kind α} {ok:Nat→Prop} {w:World} {v:Value} {l:List α} (h:OwnX T ok w v l) {p:Addr} (hp:¬ok p.block) (u:Value):OwnX T ok (w.setCell p u) v l :=
 h.keep (by simp [World.setCell]) fun i hi hl=>Below.heap_setCell _ _ _ _ (fun e=>hp (e ▸ hi))
theorem OwnX.row {α:Type} {T:Kind α} {ok:Nat→Prop} {w:World} {v:Value} {l:List α} (h:OwnX T ok w v l):HRow T ok w v l:=by
 obtain ⟨D,h1,h2,h3⟩:=h;obtain ⟨ao,cap,hv,q1,q2,q3⟩:=owns_sl h1 (fun i hi=>T.len (h3 i hi));refine ⟨D,⟨ao,cap,hv,q1,q2,fun hn=>?_⟩,fun j hj=>T.wide (h3 j hj) fun i hi _=>hi.1⟩;obtain ⟨b,o,ha,_,hb,hc⟩:=q3 hn;refine ⟨b,o,ha,?_,hb,hc⟩;obtain ⟨g,cap',hv',_⟩:=owns_pos h1 hn;rw [hv] at hv';injection hv' with e1 e2 e3;rw [ha] at e1;injection e1 with e1;injection e1 with e4 e5 e6;exact h2 b (by rw [hv,ha,e5];simp [Value.ownBlock])
theorem run_moreX {α:Type} (T:Kind α) {w:World} (t tt ty:TypeId) (ht:Tryz.prog.underlying t=some (.slice T.ty))
  (N:Nat) (ok:Nat→Prop) (v:Value) (l:List α) (hown:OwnX T ok w v l) (cs:List Value) (y:α) (hE:T.E (fun i=>N≤i) w cs y)
  (hN:∀ i,ok i→i<N) (hNw:N≤w.heap.size) (hM:(l.length+1)*T.bytes≤140737488355328) (hm:l.length+1≤maxLen) :
  ∃ v' w',(Builtin.append_ #[t,t] ty #[v,.slice (some ⟨w.heap.size,0,none⟩) 1 1]).run Tryz.prog (w.alloc (.cells cs.toArray tt (0,0)))=.ok v' w'∧OwnX T (fun i=>ok i∨N≤i) w' v' (l++[y])∧(w.alloc (.cells cs.toArray tt (0,0))).grownBy w' v.ownBlock:=by
 obtain ⟨i0,hi,hz0,hz1,hz2⟩:=info_parts T.info;have hown1:=hown.under ((Below.refl _ w).alloc nR (.cells cs.toArray tt (0,0)));obtain ⟨D,hrow,hvb,hD⟩:=hown1;have hl:=T.len hE;obtain ⟨v',w',hrun,hrow',hgrow,hmv⟩:=run_push (P:=Tryz.prog) (w.alloc (.cells cs.toArray tt (0,0))) 0 t ty T.ty i0 T.zero T.k T.bytes ht hi hz0 hz1 hz2 T.zs T.pos v l.length _ hrow ⟨w.heap.size,0,none⟩ 1 1 cs (by simp [hl]) (cells_new w cs tt) (T.one hE) hm hM (by simp);have hmv':v'.ownBlock=v.ownBlock∨∃ k,v'.ownBlock=some k∧w.heap.size+1≤k:=by
  rcases hmv with h | ⟨k,h1,h2⟩
  ·exact .inl h
  ·exact .inr ⟨k,h1,by simpa using h2⟩
 have hgk:∀ k,some k≠v.ownBlock→k<(w.alloc (.cells cs.toArray tt (0,0))).heap.size→w'.heap[k]?=(w.alloc (.cells cs.toArray tt (0,0))).heap[k]?:=fun k hk hl=>hgrow.block k hl hk;have hoff:∀ i,some i≠v.ownBlock→i<w.heap.size+1→some i≠v'.ownBlock:=fun i h1 h2 e=>by
  rcases hmv' with h | ⟨k,hk,hz⟩
  ·exact h1 (e.trans h)
  ·rw [hk] at e
   injection e with e;omega
 refine ⟨v',w',hrun,⟨fun q=>if q=l.length then cs else D q,?_,?_,fun j hj=>?_⟩,hgrow⟩
 ·have e:flat (fun q=>if q=l.length then cs else D q) (l.length+1)=flat D l.length++cs:=by
   rw [flat,flat_congr (D:=D) l.length (fun q hq=>by rw [if_neg (by omega)])];simp
  rw [List.length_append,List.length_singleton,e];exact hrow'
 ·intro k hk
  rcases hmv' with h | ⟨q,hq,hz⟩
  ·exact .inl (hvb k (h.symm.trans hk))
  ·rw [hq] at hk
   injection hk with hk;exact .inr (by omega)
 ·by_cases e:j=l.length
  ·subst e
   simp only [if_true,List.getElem_append_right nR,Nat.sub_self,List.getElem_cons_zero];have g0:=T.keep (w':=w.alloc (.cells cs.toArray tt (0,0))) hE (by simp) fun i _ hl=>Below.heap_alloc _ _ _ hl;have g1:=T.wide (ok':=fun k=>N≤k∧some k≠v.ownBlock∧k<w.heap.size+1) g0 (fun k hk hl=>⟨hk,fun e=>by have:=hN k (hvb k e.symm);omega,by simpa using hl⟩);have g2:=T.keep g1 hgrow.size (fun k hk hl=>hgk k hk.2.1 hl);exact T.wide g2 (fun k hk _=>⟨.inr hk.1,hoff k hk.2.1 hk.2.2⟩)
  ·have hjl:j<l.length:=by simp at hj;omega
   simp only [if_neg e,List.getElem_append_left hjl];have g1:=T.wide (ok':=fun k=>ok k∧some k≠v.ownBlock∧k<w.heap.size+1) (hD j hjl) (fun k hk hl=>⟨hk.1,hk.2,by simpa using hl⟩);have g2:=T.keep g1 hgrow.size (fun k hk hl=>hgk k hk.2.1 hl);exact T.wide g2 (fun k hk _=>⟨.inl hk.1,hoff k hk.2.1 hk.2.2⟩)
theorem oper_moreX {α:Type} (T:Kind α) {w:World} {o:Oper} {a:Act} {K:Act→World→Prop} {Q:Exit→Act→World→Prop} (s x:Operand) (t tt:TypeId)
  (ho:o.op=.call { callee:=.builtin .append,args:=#[s,x],argTypes:=#[t,t] }) (ht:Tryz.prog.underlying t=some (.slice T.ty))
  (N:Nat) (ok:Nat→Prop) (v:Value) (l:List α) (hs:a.eval s=v) (hown:OwnX T ok w v l) (cs:List Value) (y:α) (hE:T.E (fun i=>N≤i) w cs y) (hx:a.eval x=.slice (some ⟨w.heap.size,0,none⟩) 1 1)
  (hN:∀ i,ok i→i<N) (hNw:N≤w.heap.size) (hM:(l.length+1)*T.bytes≤140737488355328) (hm:l.length+1≤maxLen)
  (h:∀ v' w',OwnX T (fun i=>ok i∨N≤i) w' v' (l++[y])→(w.alloc (.cells cs.toArray tt (0,0))).grownBy w' v.ownBlock→K (a.put o.dst v') w') :
  Oper.wp Tryz.prog o a (w.alloc (.cells cs.toArray tt (0,0))) K Q:=by
 obtain ⟨v',w',hr,h2,h3⟩:=run_moreX T t tt o.type ht N ok v l hown cs y hE hN hNw hM hm;unfold Oper.wp execOp;simp only [ho,resolve,invoke,builtin,Sem.run_bind,Sem.run_pure,Result.andThen_ok,List.map_toArray,List.map_cons,List.map_nil,hs,hx,hr];exact h v' w' h2 h3
theorem grown_other {ok:Nat→Prop} {w W':World} {v:Value} {o:Obj} (hg:(w.alloc o).grownBy W' v.ownBlock) (hv:∀ k,v.ownBlock=some k→ok k):w.heap.size≤W'.heap.size∧∀ k,k<w.heap.size→¬ok k→W'.heap[k]?=w.heap[k]?:=by
 refine ⟨Nat.le_trans (by simp) hg.size,fun k hk hn=>?_⟩;rw [hg.block k (by simp;omega) (fun e=>hn (hv k e.symm))];exact Below.heap_alloc _ _ _ hk
theorem grown_aside {ok:Nat→Prop} {S:List Nat} {B:Nat} {w W':World} {v:Value} {o:Obj} (hg:(w.alloc o).grownBy W' v.ownBlock) (hv:∀ k,v.ownBlock=some k→ok k) (hok:∀ i,ok i→B≤i) (hB:B≤w.heap.size):Aside S B w W' :=
 ⟨hg.os,hg.tape,hg.output,(grown_other hg hv).1,fun k hk _=>(grown_other hg hv).2 k (by omega) (fun h=>by have:=hok k h;omega)⟩
theorem wpAnyL_two {P:Program} {ops:Array Oper} {Q:Exit→Act→World→Prop} {md:Region.Mode} {S:World→Prop} {late:Nat→Bool} {i j:Nat} {oi oj:Oper} {fuel:Nat} {listed:Array Bool} {a:Act} {w:World} (hoi:ops[i]?=some oi) (hoj:ops[j]?=some oj) (hr:Region.ready md ops listed=[i,j])
  (hwi:Region.wanted oi (yielded ops a.tmps)=true) (hwj:Region.wanted oj (yielded ops a.tmps)=true)
  (h1:∀ K':Act→World→Prop,Shut (∀ a w,(late i=false→S w)→wpAnyL P md ops Q S late fuel (listed.setIfInBounds i true) a w→K' a w)→Oper.wp P oi a w K' Q)
  (h2:∀ K':Act→World→Prop,Shut (∀ a w,(late j=false→S w)→wpAnyL P md ops Q S late fuel (listed.setIfInBounds j true) a w→K' a w)→Oper.wp P oj a w K' Q):wpAnyL P md ops Q S late (fuel+1) listed a w:=by
 refine ⟨fun h0=>(by rw [hr] at h0;cases h0),fun q hq=>?_⟩;rw [hr] at hq;simp at hq;rcases hq with rfl | rfl
 ·refine wpOp_step hoi (fun K' hK=>?_)
  rw [if_pos hwi];exact h1 K' (fun a w hS hW=>hK a w ⟨hS,hW⟩)
 ·refine wpOp_step hoj (fun K' hK=>?_)
  rw [if_pos hwj];exact h2 K' (fun a w hS hW=>hK a w ⟨hS,hW⟩)
theorem run_moreG {α:Type} (T:Kind α) {w:World} (t ty:TypeId) (ht:Tryz.prog.underlying t=some (.slice T.ty))
  (N lb:Nat) (ok:Nat→Prop) (v:Value) (l:List α) (hown:OwnX T ok w v l) (cs:List Value) (y:α) (hE:T.E (fun i=>N≤i) w cs y) (hlit:∀ j u,cs[j]?=some u→w.cell? ((⟨lb,0,none⟩:Addr).add j)=some u)
  (hN:∀ i,ok i→i<N) (hNw:N≤w.heap.size) (hM:(l.length+1)*T.bytes≤140737488355328) (hm:l.length+1≤maxLen) :
  ∃ v' w',(Builtin.append_ #[t,t] ty #[v,.slice (some ⟨lb,0,none⟩) 1 1]).run Tryz.prog w=.ok v' w'∧OwnX T (fun i=>ok i∨N≤i) w' v' (l++[y])∧w.grownBy w' v.ownBlock:=by
 obtain ⟨i0,hi,hz0,hz1,hz2⟩:=info_parts T.info;obtain ⟨D,hrow,hvb,hD⟩:=hown;have hl:=T.len hE;obtain ⟨v',w',hrun,hrow',hgrow,hmv⟩:=run_push (P:=Tryz.prog) w 0 t ty T.ty i0 T.zero T.k T.bytes ht hi hz0 hz1 hz2 T.zs T.pos v l.length _ hrow ⟨lb,0,none⟩ 1 1 cs (by simp [hl]) hlit (T.one hE) hm hM (by simp);have hmv':v'.ownBlock=v.ownBlock∨∃ k,v'.ownBlock=some k∧w.heap.size≤k:=hmv;have hgk:∀ k,some k≠v.ownBlock→k<w.heap.size→w'.heap[k]?=w.heap[k]?:=fun k hk hl=>hgrow.block k hl hk;have hoff:∀ i,some i≠v.ownBlock→i<w.heap.size→some i≠v'.ownBlock:=fun i h1 h2 e=>by
  rcases hmv' with h | ⟨k,hk,hz⟩
  ·exact h1 (e.trans h)
  ·rw [hk] at e
   injection e with e;omega
 refine ⟨v',w',hrun,⟨fun q=>if q=l.length then cs else D q,?_,?_,fun j hj=>?_⟩,hgrow⟩
 ·have e:flat (fun q=>if q=l.length then cs else D q) (l.length+1)=flat D l.length++cs:=by
   rw [flat,flat_congr (D:=D) l.length (fun q hq=>by rw [if_neg (by omega)])];simp
  rw [List.length_append,List.length_singleton,e];exact hrow'
 ·intro k hk
  rcases hmv' with h | ⟨q,hq,hz⟩
  ·exact .inl (hvb k (h.symm.trans hk))
  ·rw [hq] at hk
   injection hk with hk;exact .inr (by omega)
 ·by_cases e:j=l.length
  ·subst e
   simp only [if_true,List.getElem_append_right nR,Nat.sub_self,List.getElem_cons_zero];have g1:=T.wide (ok':=fun k=>N≤k∧some k≠v.ownBlock∧k<w.heap.size) hE (fun k hk hl=>⟨hk,fun e=>by have:=hN k (hvb k e.symm);omega,hl⟩);have g2:=T.keep g1 hgrow.size (fun k hk hl=>hgk k hk.2.1 hl);exact T.wide g2 (fun k hk _=>⟨.inr hk.1,hoff k hk.2.1 hk.2.2⟩)
  ·have hjl:j<l.length:=by simp at hj;omega
   simp only [if_neg e,List.getElem_append_left hjl];have g1:=T.wide (ok':=fun k=>ok k∧some k≠v.ownBlock∧k<w.heap.size) (hD j hjl) (fun k hk hl=>⟨hk.1,hk.2,hl⟩);have g2:=T.keep g1 hgrow.size (fun k hk hl=>hgk k hk.2.1 hl);exact T.wide g2 (fun k hk _=>⟨.inl hk.1,hoff k hk.2.1 hk.2.2⟩)
theorem oper_moreG {α:Type} (T:Kind α) {w:World} {o:Oper} {a:Act} {K:Act→World→Prop} {Q:Exit→Act→World→Prop} (s x:Operand) (t:TypeId)
  (ho:o.op=.call { callee:=.builtin .append,args:=#[s,x],argTypes:=#[t,t] }) (ht:Tryz.prog.underlying t=some (.slice T.ty))
  (N lb:Nat) (ok:Nat→Prop) (v:Value) (l:List α) (hs:a.eval s=v) (hown:OwnX T ok w v l) (cs:List Value) (y:α) (hE:T.E (fun i=>N≤i) w cs y) (hlit:∀ j u,cs[j]?=some u→w.cell? ((⟨lb,0,none⟩:Addr).add j)=some u) (hx:a.eval x=.slice (some ⟨lb,0,none⟩) 1 1)
  (hN:∀ i,ok i→i<N) (hNw:N≤w.heap.size) (hM:(l.length+1)*T.bytes≤140737488355328) (hm:l.length+1≤maxLen)
  (h:∀ v' w',OwnX T (fun i=>ok i∨N≤i) w' v' (l++[y])→w.grownBy w' v.ownBlock→K (a.put o.dst v') w') :
  Oper.wp Tryz.prog o a w K Q:=by
 obtain ⟨v',w',hr,h2,h3⟩:=run_moreG T t o.type ht N lb ok v l hown cs y hE hlit hN hNw hM hm;unfold Oper.wp execOp;simp only [ho,resolve,invoke,builtin,Sem.run_bind,Sem.run_pure,Result.andThen_ok,List.map_toArray,List.map_cons,List.map_nil,hs,hx,hr];exact h v' w' h2 h3
def putAt (w:World) (k o:Nat) (y:ExV):World:=(((((w.setCell ⟨k,o,none⟩ (.int .i64 y.op)).setCell ⟨k,o+1,none⟩ (.int .i64 y.k)).setCell ⟨k,o+2,none⟩ (.int .i64 y.n)).setCell ⟨k,o+3,none⟩ (.string y.name)).setCell ⟨k,o+4,none⟩ (.slice y.aS y.nS y.cS)).setCell ⟨k,o+5,none⟩ (.slice y.aL y.nL y.cL)
theorem putAt_size (w:World) (k o:Nat) (y:ExV):(putAt w k o y).heap.size=w.heap.size:=by simp [putAt,World.setCell]
theorem putAt_block (w:World) (k o:Nat) (y:ExV) (i:Nat) (h:i≠k):(putAt w k o y).heap[i]?=w.heap[i]?:=by
 unfold putAt;rw [Below.heap_setCell _ _ _ _ h,Below.heap_setCell _ _ _ _ h,Below.heap_setCell _ _ _ _ h,Below.heap_setCell _ _ _ _ h,Below.heap_setCell _ _ _ _ h,Below.heap_setCell _ _ _ _ h]
theorem putAt_in {w:World} {k:Nat} {cs:Array Value} {t:TypeId} (h:w.heap[k]?=some (.cells cs t (0,0))) (o:Nat) (y:ExV):(putAt w k o y).heap[k]?=some (.cells ((((((cs.setIfInBounds o (.int .i64 y.op)).setIfInBounds (o+1) (.int .i64 y.k)).setIfInBounds (o+2) (.int .i64 y.n)).setIfInBounds (o+3) (.string y.name)).setIfInBounds (o+4) (.slice y.aS y.nS y.cS)).setIfInBounds (o+5) (.slice y.aL y.nL y.cL)) t (0,0)) :=
 set_in (set_in (set_in (set_in (set_in (set_in h o (.int .i64 y.op)) (o+1) (.int .i64 y.k)) (o+2) (.int .i64 y.n)) (o+3) (.string y.name)) (o+4) (.slice y.aS y.nS y.cS)) (o+5) (.slice y.aL y.nL y.cL)
theorem OwnX.last {ok ok2:Nat→Prop} {w:World} {g c:Nat} {l:List Ex} {y e:Ex} {x:ExV} (h:OwnX kExpr ok w (.slice (some ⟨g,0,none⟩) (l.length+1) c) (l++[y])) (hx:HEx ok2 w x.cells e) (hg:¬ok2 g) :
  OwnX kExpr (fun i=>ok i∨ok2 i) (putAt w g (l.length*6) x) (.slice (some ⟨g,0,none⟩) (l.length+1) c) (l++[e]):=by
 obtain ⟨D,h1,h2,h3⟩:=h;have hlen:(l++[y]).length=l.length+1:=(by simp);have hlen2:(l++[e]).length=l.length+1:=(by simp);have hDl:(D l.length).length=6:=kExpr.len (h3 l.length (by simp));have hDi:∀ i,i<l.length→(D i).length=6:=fun i hi=>kExpr.len (h3 i (by simp;omega));have hfl:=flat_len l.length hDi;rw [hlen,flat] at h1;refine ⟨fun q=>if q=l.length then x.cells else D q,?_,?_,fun j hj=>?_⟩
 ·rw [hlen2]
  have ef:flat (fun q=>if q=l.length then x.cells else D q) (l.length+1)=flat D l.length++x.cells:=by
   rw [flat,flat_congr (D:=D) l.length (fun q hq=>by rw [if_neg (by omega)])];simp
  rw [ef];obtain ⟨hl1,hor⟩:=h1;refine ⟨by rw [List.length_append,hfl];simp [ExV.cells,kExpr];omega,?_⟩;rcases hor with ⟨hv,h0⟩ | ⟨g',cap,cur,hv,hb,hcg,hnc,hcm,hcs,htk⟩
  ·omega
  ·injection hv with e1 e2 e3
   injection e1 with e1;injection e1 with e4 e5 e6;subst e4 e3;refine .inr ⟨g,c,_,rfl,hb,putAt_in hcg _ x,hnc,hcm,by simpa using hcs,?_⟩;have hk6:kExpr.k=6:=rfl;rw [hk6] at htk ⊢;obtain ⟨d0,d1,d2,d3,d4,d5,hd⟩:∃ d0 d1 d2 d3 d4 d5,D l.length=[d0,d1,d2,d3,d4,d5]:=by
    match hq:D l.length,hDl with
    | [d0,d1,d2,d3,d4,d5],_=>exact ⟨d0,d1,d2,d3,d4,d5,rfl⟩
   rw [hd] at htk;simp only [Array.toList_setIfInBounds,List.take_set,htk];rw [←hfl];simp [ExV.cells,List.set_append_right]
 ·intro k hk
  exact .inl (h2 k hk)
 ·by_cases ej:j=l.length
  ·subst ej
   simp only [if_true,List.getElem_append_right nR,Nat.sub_self,List.getElem_cons_zero];have q1:=hx.keep (w':=putAt w g (l.length*6) x) (by rw [putAt_size];exact Nat.le_refl _) fun i hi _=>putAt_block _ _ _ _ _ (fun e=>hg (e ▸ hi));exact q1.wide fun i hi _=>⟨.inr hi,fun e=>by simp [Value.ownBlock] at e;exact hg (e ▸ hi)⟩
  ·have hjl:j<l.length:=by simp at hj;omega
   have q0:=h3 j (by simp;omega);simp only [List.getElem_append_left hjl] at q0;simp only [if_neg ej,List.getElem_append_left hjl];have q1:=kExpr.keep (w':=putAt w g (l.length*6) x) q0 (by rw [putAt_size];exact Nat.le_refl _) fun i hi _=>putAt_block _ _ _ _ _ (fun e=>hi.2 (by rw [e];simp [Value.ownBlock]));exact kExpr.wide q1 fun i hi _=>⟨.inl hi.1,hi.2⟩
theorem fault_any (c a:Int) (w:World) :
  Calls Tryz.prog 35 #[.int .i64 c,.int .i64 a] w fun e w'=>e=.returned (.agg #[.int .i64 c,.int .i64 a])∧Below w.heap.size w w':=by
 go_enter Tryz.func35,Tryz.ntmps35;go_wp2;exact bodyPost_ret (v:=.agg #[.int .i64 c,.int .i64 a]) (by simp [results,Tryz.results35,go_sem]) rfl ⟨rfl,(Below.refl _ _).alloc nR _⟩
end Go.Proofs.YtkfgbhlpjkkgfaaGreatDoor
