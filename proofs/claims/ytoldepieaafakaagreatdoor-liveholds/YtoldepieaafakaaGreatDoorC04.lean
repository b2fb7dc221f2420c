import Derived.Test.YtoldepieaafakaaGreatDoorC03
import Derived.WalkKit
import Derived.WalkSpells
import Derived.IntWalk
import Derived.Lib.Hide
set_option linter.unusedVariables false
set_option linter.unusedSimpArgs false
set_option maxHeartbeats 64000000
set_option maxRecDepth 100000
namespace Go.Proofs.YtoldepieaafakaaGreatDoor
open Go.RowKit Go.IntWalk
def OwnX {α:Type} (T:Kind α) (ok:Nat->Prop) (w:World) (v:Value) (l:List α):Prop :=
 ∃ D,w.ownsRow 0 T.ty T.k v l.length (flat D l.length)/\(∀ k,v.ownBlock=some k->ok k)/\∀ j (h:j<l.length),T.E (fun i=>ok i/\some i≠v.ownBlock) w (D j) l[j]
theorem OwnX.nil {α:Type} {T:Kind α} {ok:Nat->Prop} {w:World}:OwnX T ok w (.slice none 0 0) [] :=
 ⟨fun _=>[],World.ownsRow_nil _ _ _ _,fun k hk=>(by cases hk),fun j h=>absurd h (Nat.not_lt_zero _)⟩
theorem OwnX.lt {α:Type} {T:Kind α} {ok:Nat->Prop} {w:World} {v:Value} {l:List α} (h:OwnX T ok w v l):∀ k,v.ownBlock=some k->ok k/\k<w.heap.size:=by
 obtain ⟨D,h1,h2,h3⟩:=h;exact fun k hk=>⟨h2 k hk,(World.ownsRow.lt h1 k hk).2⟩
theorem OwnX.form {α:Type} {T:Kind α} {ok:Nat->Prop} {w:World} {v:Value} {l:List α} (h:OwnX T ok w v l):∃ a c,v=.slice a l.length c/\l.length<=c/\c<=maxLen:=by
 obtain ⟨D,h1,h2⟩:=h;rcases h1.2 with ⟨rfl,h0⟩ | ⟨g,cap,cur,rfl,hb,hg,hnc,hcm,_⟩
 ·exact ⟨none,0,by rw [h0],by omega,by unfold maxLen;omega⟩
 ·exact ⟨_,_,rfl,hnc,hcm⟩
theorem OwnX.keep {α:Type} {T:Kind α} {ok:Nat->Prop} {w w':World} {v:Value} {l:List α} (h:OwnX T ok w v l) (hs:w.heap.size<=w'.heap.size) (hk:∀ i,ok i->i<w.heap.size->w'.heap[i]?=w.heap[i]?):OwnX T ok w' v l:=by
 obtain ⟨D,h1,h2,h3⟩:=h;refine ⟨D,⟨h1.1,?_⟩,h2,fun j hj=>T.keep (h3 j hj) hs fun i hi hl=>hk i hi.1 hl⟩;rcases h1.2 with h0 | ⟨g,cap,cur,rfl,hb,hg,hr⟩
 ·exact .inl h0
 ·exact .inr ⟨g,cap,cur,rfl,hb,(hk g (h2 g rfl) (zG hg)).trans hg,hr⟩
theorem OwnX.wide {α:Type} {T:Kind α} {ok ok':Nat->Prop} {w:World} {v:Value} {l:List α} (h:OwnX T ok w v l) (hk:∀ i,ok i->i<w.heap.size->ok' i):OwnX T ok' w v l:=by
 obtain ⟨D,h1,h2,h3⟩:=h;exact ⟨D,h1,fun k hq=>hk k (h2 k hq) (World.ownsRow.lt h1 k hq).2,fun j hj=>T.wide (h3 j hj) fun i hi hl=>⟨hk i hi.1 hl,hi.2⟩⟩
theorem OwnX.under {α:Type} {T:Kind α} {ok:Nat->Prop} {w w':World} {v:Value} {l:List α} (h:OwnX T ok w v l) (hb:Below w.heap.size w w'):OwnX T ok w' v l:=h.keep hb.size fun i _ hl=>hb.block i hl
theorem OwnX.set {α:Type} {T:Kind α} {ok:Nat->Prop} {w:World} {v:Value} {l:List α} (h:OwnX T ok w v l) {p:Addr} (hp:¬ok p.block) (u:Value):OwnX T ok (w.setCell p u) v l :=
 h.keep (by simp [World.setCell]) fun i hi hl=>Below.heap_setCell _ _ _ _ (fun e=>hp (e ▸ hi))
theorem OwnX.row {α:Type} {T:Kind α} {ok:Nat->Prop} {w:World} {v:Value} {l:List α} (h:OwnX T ok w v l):HRow T ok w v l:=by
 obtain ⟨D,h1,h2,h3⟩:=h;obtain ⟨ao,cap,hv,q1,q2,q3⟩:=owns_sl h1 (fun i hi=>T.len (h3 i hi));refine ⟨D,⟨ao,cap,hv,q1,q2,fun hn=>?_⟩,fun j hj=>T.wide (h3 j hj) fun i hi _=>hi.1⟩;obtain ⟨b,o,ha,_,hb,hc⟩:=q3 hn;refine ⟨b,o,ha,?_,hb,hc⟩;obtain ⟨g,cap',hv',_⟩:=owns_pos h1 hn;rw [hv] at hv';injection hv' with e1 e2 e3;rw [ha] at e1;injection e1 with e1;injection e1 with e4 e5 e6;exact h2 b (by rw [hv,ha,e5];simp [Value.ownBlock])
theorem run_moreX {α:Type} (T:Kind α) {w:World} (t tt ty:TypeId) (ht:Tryz.prog.underlying t=some (.slice T.ty))
  (N:Nat) (ok:Nat->Prop) (v:Value) (l:List α) (hown:OwnX T ok w v l) (cs:List Value) (y:α) (hE:T.E (fun i=>N<=i) w cs y)
  (hN:∀ i,ok i->i<N) (hNw:N<=w.heap.size) (hM:(l.length+1)*T.bytes<=140737488355328) (hm:l.length+1<=maxLen) :
  ∃ v' w',(Builtin.append_ #[t,t] ty #[v,.slice (some ⟨w.heap.size,0,none⟩) 1 1]).run Tryz.prog (w.alloc (.cells cs.toArray tt (0,0)))=.ok v' w'/\OwnX T (fun i=>ok i\/N<=i) w' v' (l++[y])/\(w.alloc (.cells cs.toArray tt (0,0))).grownBy w' v.ownBlock:=by
 obtain ⟨i0,hi,hz0,hz1,hz2⟩:=info_parts T.info;have hown1:=hown.under ((Below.refl _ w).alloc zL (.cells cs.toArray tt (0,0)));obtain ⟨D,hrow,hvb,hD⟩:=hown1;have hl:=T.len hE;obtain ⟨v',w',hrun,hrow',hgrow,hmv⟩:=jD (P:=Tryz.prog) (w.alloc (.cells cs.toArray tt (0,0))) 0 t ty T.ty i0 T.zero T.k T.bytes ht hi hz0 hz1 hz2 T.zs T.pos v l.length _ hrow ⟨w.heap.size,0,none⟩ 1 1 cs (by simp [hl]) (cells_new w cs tt) (T.one hE) hm hM (by simp);have hmv':v'.ownBlock=v.ownBlock\/∃ k,v'.ownBlock=some k/\w.heap.size+1<=k:=by
  rcases hmv with h | ⟨k,h1,h2⟩
  ·exact .inl h
  ·exact .inr ⟨k,h1,by simpa using h2⟩
 have hgk:∀ k,some k≠v.ownBlock->k<(w.alloc (.cells cs.toArray tt (0,0))).heap.size->w'.heap[k]?=(w.alloc (.cells cs.toArray tt (0,0))).heap[k]?:=fun k hk hl=>hgrow.block k hl hk;have hoff:∀ i,some i≠v.ownBlock->i<w.heap.size+1->some i≠v'.ownBlock:=fun i h1 h2 e=>by
  rcases hmv' with h | ⟨k,hk,hz⟩
  ·exact h1 (e.trans h)
  ·rw [hk] at e
   injection e with e;omega
 refine ⟨v',w',hrun,⟨fun q=>if q=l.length then cs else D q,?_,?_,fun j hj=>?_⟩,hgrow⟩
 ·have e:flat (fun q=>if q=l.length then cs else D q) (l.length+1)=flat D l.length++cs:=by
   rw [flat,qS (D:=D) l.length (fun q hq=>by rw [if_neg (by omega)])];simp
  rw [List.length_append,List.length_singleton,e];exact hrow'
 ·intro k hk
  rcases hmv' with h | ⟨q,hq,hz⟩
  ·exact .inl (hvb k (h.symm.trans hk))
  ·rw [hq] at hk
   injection hk with hk;exact .inr (by omega)
 ·by_cases e:j=l.length
  ·subst e
   simp only [if_true,List.getElem_append_right zL,Nat.sub_self,List.getElem_cons_zero];have g0:=T.keep (w':=w.alloc (.cells cs.toArray tt (0,0))) hE (by simp) fun i _ hl=>Below.heap_alloc _ _ _ hl;have g1:=T.wide (ok':=fun k=>N<=k/\some k≠v.ownBlock/\k<w.heap.size+1) g0 (fun k hk hl=>⟨hk,fun e=>by have:=hN k (hvb k e.symm);omega,by simpa using hl⟩);have g2:=T.keep g1 hgrow.size (fun k hk hl=>hgk k hk.2.1 hl);exact T.wide g2 (fun k hk _=>⟨.inr hk.1,hoff k hk.2.1 hk.2.2⟩)
  ·have hjl:j<l.length:=by simp at hj;omega
   simp only [if_neg e,List.getElem_append_left hjl];have g1:=T.wide (ok':=fun k=>ok k/\some k≠v.ownBlock/\k<w.heap.size+1) (hD j hjl) (fun k hk hl=>⟨hk.1,hk.2,by simpa using hl⟩);have g2:=T.keep g1 hgrow.size (fun k hk hl=>hgk k hk.2.1 hl);exact T.wide g2 (fun k hk _=>⟨.inl hk.1,hoff k hk.2.1 hk.2.2⟩)
theorem vW {α:Type} (T:Kind α) {w:World} {o:Oper} {a:Act} {K:Act->World->Prop} {Q:Exit->Act->World->Prop} (s x:Operand) (t tt:TypeId)
  (ho:o.op=.call { callee:=.builtin .append,args:=#[s,x],argTypes:=#[t,t] }) (ht:Tryz.prog.underlying t=some (.slice T.ty))
  (N:Nat) (ok:Nat->Prop) (v:Value) (l:List α) (hs:a.eval s=v) (hown:OwnX T ok w v l) (cs:List Value) (y:α) (hE:T.E (fun i=>N<=i) w cs y) (hx:a.eval x=.slice (some ⟨w.heap.size,0,none⟩) 1 1)
  (hN:∀ i,ok i->i<N) (hNw:N<=w.heap.size) (hM:(l.length+1)*T.bytes<=140737488355328) (hm:l.length+1<=maxLen)
  (h:∀ v' w',OwnX T (fun i=>ok i\/N<=i) w' v' (l++[y])->(w.alloc (.cells cs.toArray tt (0,0))).grownBy w' v.ownBlock->K (a.put o.dst v') w') :
  Oper.wp Tryz.prog o a (w.alloc (.cells cs.toArray tt (0,0))) K Q:=by
 obtain ⟨v',w',hr,h2,h3⟩:=run_moreX T t tt o.type ht N ok v l hown cs y hE hN hNw hM hm;unfold Oper.wp execOp;simp only [ho,resolve,invoke,builtin,Sem.run_bind,Sem.run_pure,Result.andThen_ok,List.map_toArray,List.map_cons,List.map_nil,hs,hx,hr];exact h v' w' h2 h3
theorem zAC {ok:Nat->Prop} {w W':World} {v:Value} {o:Obj} (hg:(w.alloc o).grownBy W' v.ownBlock) (hv:∀ k,v.ownBlock=some k->ok k):w.heap.size<=W'.heap.size/\∀ k,k<w.heap.size->¬ok k->W'.heap[k]?=w.heap[k]?:=by
 refine ⟨Nat.le_trans (by simp) hg.size,fun k hk hn=>?_⟩;rw [hg.block k (by simp;omega) (fun e=>hn (hv k e.symm))];exact Below.heap_alloc _ _ _ hk
theorem grown_aside {ok:Nat->Prop} {S:List Nat} {B:Nat} {w W':World} {v:Value} {o:Obj} (hg:(w.alloc o).grownBy W' v.ownBlock) (hv:∀ k,v.ownBlock=some k->ok k) (hok:∀ i,ok i->B<=i) (hB:B<=w.heap.size):Aside S B w W' :=
 ⟨hg.os,hg.tape,hg.output,(zAC hg hv).1,fun k hk _=>(zAC hg hv).2 k (by omega) (fun h=>by have:=hok k h;omega)⟩
theorem xF {P:Program} {ops:Array Oper} {Q:Exit->Act->World->Prop} {md:Region.Mode} {S:World->Prop} {late:Nat->Bool} {i j:Nat} {oi oj:Oper} {fuel:Nat} {listed:Array Bool} {a:Act} {w:World} (hoi:ops[i]?=some oi) (hoj:ops[j]?=some oj) (hr:Region.ready md ops listed=[i,j])
  (hwi:Region.wanted oi (yielded ops a.tmps)=true) (hwj:Region.wanted oj (yielded ops a.tmps)=true)
  (h1:∀ K':Act->World->Prop,Shut (∀ a w,(late i=false->S w)->wpAnyL P md ops Q S late fuel (listed.setIfInBounds i true) a w->K' a w)->Oper.wp P oi a w K' Q)
  (h2:∀ K':Act->World->Prop,Shut (∀ a w,(late j=false->S w)->wpAnyL P md ops Q S late fuel (listed.setIfInBounds j true) a w->K' a w)->Oper.wp P oj a w K' Q):wpAnyL P md ops Q S late (fuel+1) listed a w:=by
 refine ⟨fun h0=>(by rw [hr] at h0;cases h0),fun q hq=>?_⟩;rw [hr] at hq;simp at hq;rcases hq with rfl | rfl
 ·refine wpOp_step hoi (fun K' hK=>?_)
  rw [if_pos hwi];exact h1 K' (fun a w hS hW=>hK a w ⟨hS,hW⟩)
 ·refine wpOp_step hoj (fun K' hK=>?_)
  rw [if_pos hwj];exact h2 K' (fun a w hS hW=>hK a w ⟨hS,hW⟩)
end Go.Proofs.YtoldepieaafakaaGreatDoor
namespace Go.Proofs.YtoldepieaafakaaGreatDoor
open Go.RowKit Go.IntWalk
namespace Sk
structure Vr where
 elem:Int
 n:Int
deriving DecidableEq
def arr (v:Vr):Bool:=decide (0<v.n)
def sc (e:Int):Vr:=⟨e,0⟩
def same (a b:Vr):Bool:=(a.elem==b.elem)&&(a.n==b.n)
def arrOf (v c:Vr):Bool:=arr v&&same (sc v.elem) c
def truth (n:Int):Bool:=(n==0) || (n==1)
def when (b:Bool) (e:Int):Int:=if b=true then e else 0
end Sk
abbrev vv (v:Sk.Vr):Value:=.agg #[.int .u8 v.elem,.int .i64 v.n]
theorem xS (v:Sk.Vr) (w:World):Calls Tryz.prog 77 #[vv v] w fun e w'=>e=.returned (.bool (Sk.arr v))/\Below w.heap.size w w':=by
 have bA:Below w.heap.size w (w.alloc (.cells #[.int .u8 v.elem,.int .i64 v.n] 42 (0,0))):=(Below.refl _ _).alloc zL _;unfold Sk.arr;go_enter Tryz.func77,Tryz.ntmps77;go_wp2;go_ret;exact ⟨rfl,bA⟩
theorem xQ (e:Int) (w:World):Calls Tryz.prog 71 #[.int .u8 e] w fun r w'=>r=.returned (vv (Sk.sc e))/\Below w.heap.size w w':=by
 go_enter Tryz.func71,Tryz.ntmps71;go_wp2;exact bodyPost_ret (v:=.agg #[.int .u8 e,.int .i64 0]) (by simp [results,Tryz.results71,go_sem]) rfl ⟨rfl,by
  repeat (first | exact Below.refl _ _ | refine Below.setCell ?_ (by simp) _ | refine Below.alloc ?_ (by simp) _)⟩
theorem zE {P:Program} {ops:Array Oper} {Q:Exit->Act->World->Prop} {md:Region.Mode} {S:World->Prop} {late:Nat->Bool} {i:Nat} {oi:Oper} {fuel:Nat} {listed:Array Bool} {a:Act} {w:World} (hi:ops[i]?=some oi)
  (hs:Region.noSelect ops=true) (hf:Region.free md ops listed i=true) (hr:(Region.ready md ops listed).contains i=true) (hl:waitFor md ops late listed i=true)
  (hQ:∀ c a w,Q (.panic c) (a.put oi.dst undef) w->Q (.panic c) a w) (hS:S w) (hw:Region.wanted oi (yielded ops a.tmps)=false)
  (h:wpAnyL P md ops Q S late fuel (listed.setIfInBounds i true) (a.put oi.dst undef) w):wpAnyL P md ops Q S late (fuel+1) listed a w:=
 jI hi (Region.noSelect_spec hs) hQ fuel listed a w (Region.free_spec hi hf) (jH hl) (by simpa using hr) (.inr ⟨hw,rfl⟩) hS h
theorem qY (v:Sk.Vr) (w:World):Calls Tryz.prog 78 #[vv v] w fun r w'=>r=.returned (vv (Sk.sc v.elem))/\Below w.heap.size w w':=by
 have bA:Below w.heap.size w ((w.alloc (.cells #[.int .u8 v.elem,.int .i64 v.n] 42 (0,0))).alloc (.cells #[.int .u8 0,.int .i64 0] 42 (0,0))):=((Below.refl _ _).alloc zL _).alloc (by simp) _;have kZ:((w.alloc (.cells #[.int .u8 v.elem,.int .i64 v.n] 42 (0,0))).alloc (.cells #[.int .u8 0,.int .i64 0] 42 (0,0))).heap[w.heap.size+1]?=some (.cells #[.int .u8 0,.int .i64 0] 42 (0,0)):=by
  have:=zH (w.alloc (.cells #[.int .u8 v.elem,.int .i64 v.n] 42 (0,0))) (.cells #[.int .u8 0,.int .i64 0] 42 (0,0))
  simpa using this
 go_enter Tryz.func78,Tryz.ntmps78;go_wp2_with fail;refine (xQ v.elem _).mono ?_;rintro r w1 ⟨rfl,b1⟩;generalize (w.alloc (.cells #[.int .u8 v.elem,.int .i64 v.n] 42 (0,0))).alloc (.cells #[.int .u8 0,.int .i64 0] 42 (0,0))=W at bA kZ b1;have B1:=bA.trans (b1.mono bA.size);have k1:=(b1.block _ (zG kZ)).trans kZ;have st0:=coQ k1 0;have st1:=coQ k1 1;have fr0:=foQ k1 0;have fr1:=foQ k1 1;simp at st0 st1;have KR:=zP (zP k1 0 (.int .u8 v.elem)) 1 (.int .i64 0);have r0:=coQ KR 0;have r1:=coQ KR 1;simp at r0 r1;have BR:=(B1.setCell (p:=⟨w.heap.size+1,0,none⟩) (by simp) (.int .u8 v.elem)).setCell (p:=⟨w.heap.size+1,1,none⟩) (by simp) (.int .i64 0);clear KR;unfold vv Sk.sc;go_wp2;exact bodyPost_ret (v:=.agg #[.int .u8 v.elem,.int .i64 0]) (by simp [results,Tryz.results78,go_sem,r0,r1]) rfl ⟨rfl,BR⟩
theorem isTruthS_any (n:Int) (w:World):Calls Tryz.prog 72 #[.int .i64 n] w fun e w'=>e=.returned (.bool (Sk.truth n))/\w'=w:=by
 unfold Sk.truth;by_cases h:n=0
 ·subst h
  go_enter Tryz.func72,Tryz.ntmps72;go_wp2;go_ret;exact ⟨rfl,rfl⟩
 ·have h2:(n==0)=false:=by simpa using h
  go_enter Tryz.func72,Tryz.ntmps72;go_wp2;go_ret;exact ⟨by rw [h2];rfl,rfl⟩
theorem whenS_any (b:Bool) (e:Int) (w:World):Calls Tryz.prog 99 #[.bool b,.int .u8 e] w fun r w'=>r=.returned (.int .u8 (Sk.when b e))/\w'=w:=by
 unfold Sk.when
 cases b
 ·go_enter Tryz.func99,Tryz.ntmps99
  go_wp2;go_ret;exact ⟨rfl,rfl⟩
 ·go_enter Tryz.func99,Tryz.ntmps99
  go_wp2;go_ret;exact ⟨rfl,rfl⟩
theorem xG (v c:Sk.Vr) (w:World):Calls Tryz.prog 75 #[vv v,vv c] w fun e w'=>e=.returned (.bool (Sk.arrOf v c))/\Below w.heap.size w w':=by
 have b1:Below w.heap.size w ((w.alloc (.cells #[.int .u8 v.elem,.int .i64 v.n] 42 (0,0))).alloc (.cells #[.int .u8 c.elem,.int .i64 c.n] 42 (0,0))):=((Below.refl _ _).alloc zL _).alloc (by simp) _;have kA:((w.alloc (.cells #[.int .u8 v.elem,.int .i64 v.n] 42 (0,0))).alloc (.cells #[.int .u8 c.elem,.int .i64 c.n] 42 (0,0))).heap[w.heap.size]?=some (.cells #[.int .u8 v.elem,.int .i64 v.n] 42 (0,0)):=(Below.heap_alloc _ _ _ (by simp)).trans (zH w _);have kB:((w.alloc (.cells #[.int .u8 v.elem,.int .i64 v.n] 42 (0,0))).alloc (.cells #[.int .u8 c.elem,.int .i64 c.n] 42 (0,0))).heap[w.heap.size+1]?=some (.cells #[.int .u8 c.elem,.int .i64 c.n] 42 (0,0)):=by
  have:=zH (w.alloc (.cells #[.int .u8 v.elem,.int .i64 v.n] 42 (0,0))) (.cells #[.int .u8 c.elem,.int .i64 c.n] 42 (0,0))
  simpa using this
 obtain ⟨R,hR⟩:=nmQ (Sk.arrOf v c);rw [<-hR];unfold Sk.arrOf at hR;have hc:=xS v;generalize Sk.arr v=q at hc hR;obtain ⟨q2,hq2⟩:=nmQ (Sk.same (Sk.sc v.elem) c);rw [<-hq2] at hR;have HQ2:=zD hq2;have HR:=zD hR;clear hR hq2;go_enter Tryz.func75,Tryz.ntmps75;go_upto_region 1 with fail;generalize (w.alloc (.cells #[.int .u8 v.elem,.int .i64 v.n] 42 (0,0))).alloc (.cells #[.int .u8 c.elem,.int .i64 c.n] 42 (0,0))=w1 at b1 kA kB ⊢;have a0:=coQ kA 0;have a1:=coQ kA 1;simp at a0 a1;have yA:=zG kA;have c0:=coQ kB 0;have c1:=coQ kB 1;simp at c0 c1;have yB:=zG kB;refine zK (fun w'=>Below w1.heap.size w1 w') (fun _=>false) (by kernel_rfl) ?_;have hH0:Below w1.heap.size w1 w1.drew:=(Below.refl _ _).drew;generalize w1.drew=wd0 at hH0 ⊢;refine' tkQ 0 5 hH0 ?hyv ?o1
 case hyv=>
  intro wz hSw;have zc0:=(hSw.cell (p:=⟨w.heap.size,0,none⟩) yA).trans a0;have zc1:=(hSw.cell (p:=⟨w.heap.size,1,none⟩) yA).trans a1;have zc2:=(hSw.cell (p:=⟨w.heap.size+1,0,none⟩) yB).trans c0;have zc3:=(hSw.cell (p:=⟨w.heap.size+1,1,none⟩) yB).trans c1;go_simp
  try rfl
 try simp only [Act.put,sT,sZ,sS]
 refine tnQ 1 (fun K hK=>?_);go_simp;refine (hc wd0).mono ?_;rintro eq wd1 ⟨rfl,bq1⟩;have hH1:Below w1.heap.size w1 wd1:=hH0.trans (bq1.mono hH0.size);refine hK.out _ _ (fun _=>hH1) ?_;clear hK K
 try simp only [Act.put,sT,sZ,sS]
 refine' tkR 2 7 hH1 ?o2
 cases q
 case false=>
  refine zE (i:=3) (oi:=⟨some 8,_,_,_,_,_⟩) rfl (by kernel_rfl) (by kernel_rfl) (by kernel_rfl) (by kernel_rfl) (fun _ _ _ h=>h) hH1 (by rfl) ?_
  try simp only [Act.put,sT,sZ,sS]
  refine zE (i:=4) (oi:=⟨some 9,_,_,_,_,_⟩) rfl (by kernel_rfl) (by kernel_rfl) (by kernel_rfl) (by kernel_rfl) (fun _ _ _ h=>h) hH1 (by rfl) ?_
  try simp only [Act.put,sT,sZ,sS]
  refine zE (i:=5) (oi:=⟨some 10,_,_,_,_,_⟩) rfl (by kernel_rfl) (by kernel_rfl) (by kernel_rfl) (by kernel_rfl) (fun _ _ _ h=>h) hH1 (by rfl) ?_
  try simp only [Act.put,sT,sZ,sS]
  refine zE (i:=6) (oi:=⟨some 11,_,_,_,_,_⟩) rfl (by kernel_rfl) (by kernel_rfl) (by kernel_rfl) (by kernel_rfl) (fun _ _ _ h=>h) hH1 (by rfl) ?_
  try simp only [Act.put,sT,sZ,sS]
  refine' tkR 7 12 hH1 ?o3
  refine' tkR 8 4 hH1 ?o4
  refine zJ (by kernel_rfl) ?_ _;go_wp2;go_ret;refine ⟨?_,b1.trans (hH1.mono b1.size)⟩;rw [HR.out];rfl
 case true=>
  refine' tkQ 3 8 hH1 ?hyv ?o5
  case hyv=>
   intro wz hSw;have zc0:=(hSw.cell (p:=⟨w.heap.size,0,none⟩) yA).trans a0;have zc1:=(hSw.cell (p:=⟨w.heap.size,1,none⟩) yA).trans a1;have zc2:=(hSw.cell (p:=⟨w.heap.size+1,0,none⟩) yB).trans c0;have zc3:=(hSw.cell (p:=⟨w.heap.size+1,1,none⟩) yB).trans c1;go_simp
   try rfl
  try simp only [Act.put,sT,sZ,sS]
  refine' tkQ 5 10 hH1 ?hyv ?o6
  case hyv=>
   intro wz hSw;have zc0:=(hSw.cell (p:=⟨w.heap.size,0,none⟩) yA).trans a0;have zc1:=(hSw.cell (p:=⟨w.heap.size,1,none⟩) yA).trans a1;have zc2:=(hSw.cell (p:=⟨w.heap.size+1,0,none⟩) yB).trans c0;have zc3:=(hSw.cell (p:=⟨w.heap.size+1,1,none⟩) yB).trans c1;go_simp
   try rfl
  try simp only [Act.put,sT,sZ,sS]
  refine tnQ 4 (fun K hK=>?_);go_simp;refine (qY v wd1).mono ?_;rintro eq wd2 ⟨rfl,bq2⟩;have hH2:Below w1.heap.size w1 wd2:=hH1.trans (bq2.mono hH1.size);refine hK.out _ _ (fun _=>hH2) ?_;clear hK K
  try simp only [Act.put,sT,sZ,sS]
  refine' zS (i:=6) (oi:=⟨some 11,_,_,_,_,_⟩) (v:=.bool q2) rfl (by kernel_rfl) (by kernel_rfl) (by kernel_rfl) (by kernel_rfl) (fun _ _ _ h=>h) hH2 (by rfl) ?hyv ?o7
  case hyv=>
   intro wz hSw;go_simp;rw [HQ2.out];unfold Sk.same;by_cases h1:(Sk.sc v.elem).elem=c.elem<;>by_cases h2:(Sk.sc v.elem).n=c.n<;>simp [h1,h2]
  try simp only [Act.put,sT,sZ,sS]
  refine' tkR 7 12 hH2 ?o8
  refine' tkR 8 4 hH2 ?o9
  refine zJ (by kernel_rfl) ?_ _;go_wp2;go_ret;refine ⟨?_,b1.trans (hH2.mono b1.size)⟩;rw [HR.out];rw [Bool.true_and];rfl
end Go.Proofs.YtoldepieaafakaaGreatDoor
