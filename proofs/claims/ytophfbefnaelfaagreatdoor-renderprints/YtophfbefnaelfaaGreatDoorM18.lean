import Derived.Test.YtophfbefnaelfaaGreatDoorM11
import Derived.Test.YtophfbefnaelfaaGreatDoorM17
set_option linter.unusedVariables false
set_option linter.unusedSimpArgs false
set_option maxHeartbeats 64000000
set_option maxRecDepth 100000
namespace Go.Proofs.YtophfbefnaelfaaGreatDoor
open Go.RowKit Go.IntWalk
def OwnX {α:Type} (T:Kind α) (ok:Nat→Prop) (w:World) (v:Value) (l:List α):Prop :=
 ∃ D,w.ownsRow 0 T.ty T.k v l.length (flat D l.length)∧(∀ k,v.ownBlock=some k→ok k)∧∀ j (h:j<l.length),T.E (fun i=>ok i∧some i≠v.ownBlock) w (D j) l[j]
theorem OwnX.nil {α:Type} {T:Kind α} {ok:Nat→Prop} {w:World}:OwnX T ok w (.slice none 0 0) [] :=
 ⟨fun _=>[],World.ownsRow_nil _ _ _ _,fun k hk=>(by cases hk),fun j h=>absurd h (Nat.not_lt_zero _)⟩
theorem OwnX.lt {α:Type} {T:Kind α} {ok:Nat→Prop} {w:World} {v:Value} {l:List α} (h:OwnX T ok w v l):∀ k,v.ownBlock=some k→ok k∧k<w.heap.size:=by
 obtain ⟨D,h1,h2,h3⟩:=h;exact fun k hk=>⟨h2 k hk,(World.ownsRow.lt h1 k hk).2⟩
theorem OwnX.form {α:Type} {T:Kind α} {ok:Nat→Prop} {w:World} {v:Value} {l:List α} (h:OwnX T ok w v l):∃ a c,v=.slice a l.length c∧l.length≤c∧c≤maxLen:=by
 obtain ⟨D,h1,h2⟩:=h;rcases h1.2 with ⟨rfl,h0⟩ | ⟨g,cap,cur,rfl,hb,hg,hnc,hcm,_⟩
 ·exact ⟨none,0,by rw [h0],by omega,by unfold maxLen;omega⟩
 ·exact ⟨_,_,rfl,hnc,hcm⟩
theorem OwnX.keep {α:Type} {T:Kind α} {ok:Nat→Prop} {w w':World} {v:Value} {l:List α} (h:OwnX T ok w v l) (hs:w.heap.size≤w'.heap.size) (hk:∀ i,ok i→i<w.heap.size→w'.heap[i]?=w.heap[i]?):OwnX T ok w' v l:=by
 obtain ⟨D,h1,h2,h3⟩:=h;refine ⟨D,⟨h1.1,?_⟩,h2,fun j hj=>T.keep (h3 j hj) hs fun i hi hl=>hk i hi.1 hl⟩;rcases h1.2 with h0 | ⟨g,cap,cur,rfl,hb,hg,hr⟩
 ·exact .inl h0
 ·exact .inr ⟨g,cap,cur,rfl,hb,(hk g (h2 g rfl) (lt_of hg)).trans hg,hr⟩
theorem OwnX.wide {α:Type} {T:Kind α} {ok ok':Nat→Prop} {w:World} {v:Value} {l:List α} (h:OwnX T ok w v l) (hk:∀ i,ok i→i<w.heap.size→ok' i):OwnX T ok' w v l:=by
 obtain ⟨D,h1,h2,h3⟩:=h;exact ⟨D,h1,fun k hq=>hk k (h2 k hq) (World.ownsRow.lt h1 k hq).2,fun j hj=>T.wide (h3 j hj) fun i hi hl=>⟨hk i hi.1 hl,hi.2⟩⟩
theorem OwnX.under {α:Type} {T:Kind α} {ok:Nat→Prop} {w w':World} {v:Value} {l:List α} (h:OwnX T ok w v l) (hb:Below w.heap.size w w'):OwnX T ok w' v l:=h.keep hb.size fun i _ hl=>hb.block i hl
theorem OwnX.past {α:Type} {T:Kind α} {ok:Nat→Prop} {S:List Nat} {w w':World} {v:Value} {l:List α} (h:OwnX T ok w v l) (a:Aside S w.heap.size w w') (hS:∀ i,ok i→i ∉ S):OwnX T ok w' v l :=
 h.keep a.size fun i hi hl=>a.block i hl (hS i hi)
theorem OwnX.set {α:Type} {T:Kind α} {ok:Nat→Prop} {w:World} {v:Value} {l:List α} (h:OwnX T ok w v l) {p:Addr} (hp:¬ok p.block) (u:Value):OwnX T ok (w.setCell p u) v l :=
 h.keep (by simp [World.setCell]) fun i hi hl=>Below.heap_setCell _ _ _ _ (fun e=>hp (e ▸ hi))
theorem OwnX.row {α:Type} {T:Kind α} {ok:Nat→Prop} {w:World} {v:Value} {l:List α} (h:OwnX T ok w v l):HRow T ok w v l:=by
 obtain ⟨D,h1,h2,h3⟩:=h;obtain ⟨ao,cap,hv,q1,q2,q3⟩:=owns_sl h1 (fun i hi=>T.len (h3 i hi));refine ⟨D,⟨ao,cap,hv,q1,q2,fun hn=>?_⟩,fun j hj=>T.wide (h3 j hj) fun i hi _=>hi.1⟩;obtain ⟨b,o,ha,_,hb,hc⟩:=q3 hn;refine ⟨b,o,ha,?_,hb,hc⟩;obtain ⟨g,cap',hv',_⟩:=owns_pos h1 hn;rw [hv] at hv';injection hv' with e1 e2 e3;rw [ha] at e1;injection e1 with e1;injection e1 with e4 e5 e6;exact h2 b (by rw [hv,ha,e5];simp [Value.ownBlock])
theorem run_moreX {α:Type} (T:Kind α) {w:World} (t tt ty:TypeId) (ht:Tryz.prog.underlying t=some (.slice T.ty))
  (N:Nat) (ok:Nat→Prop) (v:Value) (l:List α) (hown:OwnX T ok w v l) (cs:List Value) (y:α) (hE:T.E (fun i=>N≤i) w cs y)
  (hN:∀ i,ok i→i<N) (hNw:N≤w.heap.size) (hM:(l.length+1)*T.bytes≤140737488355328) (hm:l.length+1≤maxLen) :
  ∃ v' w',(Builtin.append_ #[t,t] ty #[v,.slice (some ⟨w.heap.size,0,none⟩) 1 1]).run Tryz.prog (w.alloc (.cells cs.toArray tt (0,0)))=.ok v' w'∧OwnX T (fun i=>ok i∨N≤i) w' v' (l++[y])∧(w.alloc (.cells cs.toArray tt (0,0))).grownBy w' v.ownBlock:=by
 obtain ⟨i0,hi,hz0,hz1,hz2⟩:=info_parts T.info;have hown1:=hown.under ((Below.refl _ w).alloc nR (.cells cs.toArray tt (0,0)));obtain ⟨D,hrow,hvb,hD⟩:=hown1;have hl:=T.len hE;obtain ⟨v',w',hrun,hrow',hgrow,hmv⟩:=run_push (P:=Tryz.prog) (w.alloc (.cells cs.toArray tt (0,0))) 0 t ty T.ty i0 T.zero T.k T.bytes ht hi hz0 hz1 hz2 T.zs T.pos v l.length _ hrow ⟨w.heap.size,0,none⟩ 1 1 cs (by simp [hl]) (cells_new w cs tt) (T.one hE) hm hM (by simp);have hmv':v'.ownBlock=v.ownBlock∨∃ k,v'.ownBlock=some k∧w.heap.size+1≤k:=by
  rcases hmv with h | ⟨k,h1,h2⟩
  ·exact .inl h
  ·exact .inr ⟨k,h1,by simpa using h2⟩
 have hgk:∀ k,some k≠v.ownBlock→k<(w.alloc (.cells cs.toArray tt (0,0))).heap.size→w'.heap[k]?=(w.alloc (.cells cs.toArray tt (0,0))).heap[k]?:=fun k hk hl=>hgrow.block k hl hk;have hoff:∀ i,some i≠v.ownBlock→i<w.heap.size+1→some i≠v'.ownBlock:=fun i h1 h2 e=>by
  rcases hmv' with h | ⟨k,hk,hz⟩
  ·exact h1 (e.trans h)
  ·rw [hk] at e
   injection e with e;omega
 refine ⟨v',w',hrun,⟨fun q=>if q=l.length then cs else D q,?_,?_,fun j hj=>?_⟩,hgrow⟩
 ·have e:flat (fun q=>if q=l.length then cs else D q) (l.length+1)=flat D l.length++cs:=by
   rw [flat,flat_congr (D:=D) l.length (fun q hq=>by rw [if_neg (by omega)])];simp
  rw [List.length_append,List.length_singleton,e];exact hrow'
 ·intro k hk
  rcases hmv' with h | ⟨q,hq,hz⟩
  ·exact .inl (hvb k (h.symm.trans hk))
  ·rw [hq] at hk
   injection hk with hk;exact .inr (by omega)
 ·by_cases e:j=l.length
  ·subst e
   simp only [if_true,List.getElem_append_right nR,Nat.sub_self,List.getElem_cons_zero];have g0:=T.keep (w':=w.alloc (.cells cs.toArray tt (0,0))) hE (by simp) fun i _ hl=>Below.heap_alloc _ _ _ hl;have g1:=T.wide (ok':=fun k=>N≤k∧some k≠v.ownBlock∧k<w.heap.size+1) g0 (fun k hk hl=>⟨hk,fun e=>by have:=hN k (hvb k e.symm);omega,by simpa using hl⟩);have g2:=T.keep g1 hgrow.size (fun k hk hl=>hgk k hk.2.1 hl);exact T.wide g2 (fun k hk _=>⟨.inr hk.1,hoff k hk.2.1 hk.2.2⟩)
  ·have hjl:j<l.length:=by simp at hj;omega
   simp only [if_neg e,List.getElem_append_left hjl];have g1:=T.wide (ok':=fun k=>ok k∧some k≠v.ownBlock∧k<w.heap.size+1) (hD j hjl) (fun k hk hl=>⟨hk.1,hk.2,by simpa using hl⟩);have g2:=T.keep g1 hgrow.size (fun k hk hl=>hgk k hk.2.1 hl);exact T.wide g2 (fun k hk _=>⟨.inl hk.1,hoff k hk.2.1 hk.2.2⟩)
theorem oper_moreX {α:Type} (T:Kind α) {w:World} {o:Oper} {a:Act} {K:Act→World→Prop} {Q:Exit→Act→World→Prop} (s x:Operand) (t tt:TypeId)
  (ho:o.op=.call { callee:=.builtin .append,args:=#[s,x],argTypes:=#[t,t] }) (ht:Tryz.prog.underlying t=some (.slice T.ty))
  (N:Nat) (ok:Nat→Prop) (v:Value) (l:List α) (hs:a.eval s=v) (hown:OwnX T ok w v l) (cs:List Value) (y:α) (hE:T.E (fun i=>N≤i) w cs y) (hx:a.eval x=.slice (some ⟨w.heap.size,0,none⟩) 1 1)
  (hN:∀ i,ok i→i<N) (hNw:N≤w.heap.size) (hM:(l.length+1)*T.bytes≤140737488355328) (hm:l.length+1≤maxLen)
  (h:∀ v' w',OwnX T (fun i=>ok i∨N≤i) w' v' (l++[y])→(w.alloc (.cells cs.toArray tt (0,0))).grownBy w' v.ownBlock→K (a.put o.dst v') w') :
  Oper.wp Tryz.prog o a (w.alloc (.cells cs.toArray tt (0,0))) K Q:=by
 obtain ⟨v',w',hr,h2,h3⟩:=run_moreX T t tt o.type ht N ok v l hown cs y hE hN hNw hM hm;unfold Oper.wp execOp;simp only [ho,resolve,invoke,builtin,Sem.run_bind,Sem.run_pure,Result.andThen_ok,List.map_toArray,List.map_cons,List.map_nil,hs,hx,hr];exact h v' w' h2 h3
theorem grown_other {ok:Nat→Prop} {w W':World} {v:Value} {o:Obj} (hg:(w.alloc o).grownBy W' v.ownBlock) (hv:∀ k,v.ownBlock=some k→ok k):w.heap.size≤W'.heap.size∧∀ k,k<w.heap.size→¬ok k→W'.heap[k]?=w.heap[k]?:=by
 refine ⟨Nat.le_trans (by simp) hg.size,fun k hk hn=>?_⟩;rw [hg.block k (by simp;omega) (fun e=>hn (hv k e.symm))];exact Below.heap_alloc _ _ _ hk
theorem grown_aside {ok:Nat→Prop} {S:List Nat} {B:Nat} {w W':World} {v:Value} {o:Obj} (hg:(w.alloc o).grownBy W' v.ownBlock) (hv:∀ k,v.ownBlock=some k→ok k) (hok:∀ i,ok i→B≤i) (hB:B≤w.heap.size):Aside S B w W' :=
 ⟨hg.os,hg.tape,hg.output,(grown_other hg hv).1,fun k hk _=>(grown_other hg hv).2 k (by omega) (fun h=>by have:=hok k h;omega)⟩
def LineSt (N0 nb:Nat) (s:ByteArray) (pl:Int) (vZ vI vO:Value) (w:World) (loc:List De) (eqs:List Eqn):Prop :=
 ∃ (vL vE:Value) (okL okE:Nat→Prop),w.heap[nb]?=some (.cells #[.string s,.int .i64 pl,vZ,vI,vO,vL,vE] 43 (0,0))∧OwnX kDecl okL w vL loc∧OwnX kEq okE w vE eqs∧(∀ i,okL i→N0≤i)∧(∀ i,okE i→N0≤i)∧∀ i,okL i→¬okE i
def PostL (b g cap nb N0:Nat) (I:Inp) (s:ByteArray) (pl:Int) (vZ vI vO:Value) (nx:Nat) (w:World) (res:Res (List De × List Eqn)) (r:Ending) (w':World):Prop :=
 Aside [b,nb] N0 w w' ∧
 match res with
 | .ok p n1=>nx+1≤n1∧Rd w' b g cap I.L I.len n1 0∧r=.returned (.tuple #[])∧LineSt N0 nb s pl vZ vI vO w' p.1 p.2
 | .err c a=>r=upE c a
theorem PostL.fail {b g cap nb N0:Nat} {I:Inp} {s:ByteArray} {pl:Int} {vZ vI vO:Value} {nx:Nat} {w:World} {res:Res (List De × List Eqn)} {w':World} {c a:Nat} (h:res=.err c a) (hA:Aside [b,nb] N0 w w'):PostL b g cap nb N0 I s pl vZ vI vO nx w res (upE c a) w':=by
 subst h;exact ⟨hA,rfl⟩
theorem PostL.good {b g cap nb N0:Nat} {I:Inp} {s:ByteArray} {pl:Int} {vZ vI vO:Value} {nx:Nat} {w:World} {res:Res (List De × List Eqn)} {w':World} {loc:List De} {eqs:List Eqn} {n1:Nat} (h:res=.ok (loc,eqs) n1) (hA:Aside [b,nb] N0 w w') (hn:nx+1≤n1) (hR:Rd w' b g cap I.L I.len n1 0) (hS:LineSt N0 nb s pl vZ vI vO w' loc eqs):PostL b g cap nb N0 I s pl vZ vI vO nx w res (.returned (.tuple #[])) w':=by
 subst h;exact ⟨hA,hn,hR,rfl,hS⟩
theorem aside2 {b nb B:Nat} {w w':World} (h:Aside [b] B w w'):Aside [b,nb] B w w':=h.wide fun k _ hk hm=>hk (by simp at hm ⊢;exact .inl hm)
theorem equation_not {I:Inp} {n:Nat} (h:(I.pk n).kind≠2) {q:Eqn} {m:Nat} (hq:Ps.equation I n=.ok q m):False:=by
 unfold Ps.equation at hq;obtain ⟨l,k,h1,_⟩:=Res.bind_ok hq;rw [show (30:Nat)=29+1 from rfl,row_succ] at h1;obtain ⟨x,j,h2,_⟩:=Res.bind_ok h1;unfold Ps.name at h2;rw [if_neg h] at h2;exact refuse_no h2
theorem line_any (hform:FormC) {b g cap nb N0:Nat} {I:Inp} (hL:I.L.length≤1099511627776) {nx:Nat} {s:ByteArray} {pl:Int} {vZ vI vO:Value} {loc:List De} {eqs:List Eqn} {w:World} (h:Rd w b g cap I.L I.len nx 0) (hG:GlobB b w) (hone:6<nb)
  (hb0:b<N0) (hg0:g<N0) (hnb0:nb<N0) (hbn:nb≠b) (hgn:nb≠g) (hN0:N0≤w.heap.size) (hS:LineSt N0 nb s pl vZ vI vO w loc eqs) :
  Calls Tryz.prog 119 #[.pointer (some ⟨b,0,none⟩),.pointer (some ⟨nb,0,none⟩)] w (PostL b g cap nb N0 I s pl vZ vI vO nx w (Ps.line I loc eqs nx)):=by
 obtain ⟨vL,vE,okL,okE,hnb,ownloc,owneqs,hokL,hokE,hdis⟩:=hS;have hb:=h.bb;have hg:=h.gb;go_enter Tryz.func119,Tryz.ntmps119;go_wp2_with fail;refine (take_any h ⟨#[118,97,114]⟩ (by decide)).mono ?_;rintro e w5 ⟨rfl,h5,a5⟩;have es:(⟨#[118,97,114]⟩:ByteArray).data.toList=[118,97,114]:=rfl;rw [es] at h5;simp only [es];clear es;have z5:=a5.size;have A5:Aside [b,nb] N0 w w5:=aside2 (a5.mono hN0);have hnb5:=a5.keep hnb (lt_of hnb) (by simp;omega);have ownloc5:=ownloc.past a5 (fun i hi=>by have:=hokL i hi;simp;omega);have owneqs5:=owneqs.past a5 (fun i hi=>by have:=hokE i hi;simp;omega);clear ownloc owneqs hnb a5;obtain ⟨aL,cL,rfl,hL1,hL2⟩:=ownloc5.form;obtain ⟨aE,cE,rfl,hE1,hE2⟩:=owneqs5.form;unfold maxLen at hL2 hE2;have cl5:=co hnb5 5;have cl6:=co hnb5 6;simp only [gT,gZ,gS] at cl5 cl6
 cases hq:Ps.sees I [118,97,114] nx with
 | true=>
  rw [hq] at h5;simp only [if_true] at h5;by_cases hlen:30≤loc.length
  ·go_wp2_with fail
   refine (allow_no h5 _ _ (by omega)).mono ?_;rintro e w6 ⟨rfl,b6⟩;exact ⟨rfl,PostL.fail (by unfold Ps.line;rw [hq,if_pos rfl,if_pos hlen];rfl) (A5.trans (aside b6) (by omega))⟩
  ·have m0:Hid (Ps.line I loc eqs nx=((Ps.decl I (nx+1)).bind fun d n1=>.ok (loc++[d],eqs) n1).bind fun p n2=>(Ps.need I [59] n2).bind fun _ n3=>.ok p n3):=by
    show Ps.line I loc eqs nx=_
    unfold Ps.line;rw [hq,if_pos rfl,if_neg hlen]
   go_wp2_with fail;refine (allow_yes _ _ _ (by omega) _).mono ?_;rintro e w5 ⟨rfl,rfl⟩;clear cl5 cl6;have hd5:Rd w5.drew b g cap I.L I.len (nx+1) 0:=h5.drew;have hb5:w5.drew.heap[nb]?=some (.cells #[.string s,.int .i64 pl,vZ,vI,vO,.slice aL loc.length cL,.slice aE eqs.length cE] 43 (0,0)):=hnb5;have A5d:=A5.drew;have z5d:w5.drew.heap.size=w5.heap.size:=rfl;have om5:=(ownloc5.under (Below.refl _ w5).drew).wide (ok':=fun i=>okL i∧i<w5.heap.size) (fun i hi hl=>⟨hi,hl⟩);have oo5:=(owneqs5.under (Below.refl _ w5).drew).wide (ok':=fun i=>okE i∧i<w5.heap.size) (fun i hi hl=>⟨hi,hl⟩);go_wp2_with fail;refine wp_region_late (fun w'=>w'.cell? ⟨nb,5,none⟩=some (.slice aL loc.length cL)) (fun j=>decide (j=11)) (by kernel_rfl) ?_;generalize w5.drew=wd at hd5 hb5 A5d z5d om5 oo5 ⊢;clear h5 hnb5 A5 ownloc5 owneqs5;have hH:=co hb5 5;simp only [gT,gZ,gS] at hH;refine' wpAnyL_take (i:=0) (v:=_) rfl (by kernel_rfl) (by kernel_rfl) (by kernel_rfl) (by kernel_rfl) (fun _ _ _ h=>h) hH (by rfl) ?hyv ?o1
   case hyv=>
    intro wz hSw;go_simp
    try rfl
   try simp only [Act.put,sT,sZ,sS]
   refine' wpAnyL_take (i:=1) (v:=_) rfl (by kernel_rfl) (by kernel_rfl) (by kernel_rfl) (by kernel_rfl) (fun _ _ _ h=>h) hH (by rfl) ?hyv ?o2
   case hyv=>
    intro wz hSw;go_simp
    try rfl
   try simp only [Act.put,sT,sZ,sS]
   refine' wpAnyL_take (i:=2) (v:=_) rfl (by kernel_rfl) (by kernel_rfl) (by kernel_rfl) (by kernel_rfl) (fun _ _ _ h=>h) hH (by rfl) ?hyv ?o3
   case hyv=>
    intro wz hSw;go_simp
    try rfl
   try simp only [Act.put,sT,sZ,sS]
   refine' wpAnyL_take (i:=3) (v:=_) rfl (by kernel_rfl) (by kernel_rfl) (by kernel_rfl) (by kernel_rfl) (fun _ _ _ h=>h) hH (by rfl) ?hyv ?o4
   case hyv=>
    intro wz hSw;go_simp
    try rfl
   try simp only [Act.put,sT,sZ,sS]
   refine' wpAnyL_take (i:=4) (v:=_) rfl (by kernel_rfl) (by kernel_rfl) (by kernel_rfl) (by kernel_rfl) (fun _ _ _ h=>h) hH (by rfl) ?hyv ?o5
   case hyv=>
    intro wz hSw;go_simp
    try rfl
   try simp only [Act.put,sT,sZ,sS]
   refine' wpAnyL_take (i:=5) (v:=_) rfl (by kernel_rfl) (by kernel_rfl) (by kernel_rfl) (by kernel_rfl) (fun _ _ _ h=>h) hH (by rfl) ?hyv ?o6
   case hyv=>
    intro wz hSw;go_simp
    try rfl
   try simp only [Act.put,sT,sZ,sS]
   refine wpAnyL_one (i:=6) rfl (by kernel_rfl) (by rfl) (fun K hK=>?_);go_simp;refine (decl_any _ _ hd5 (hG.far2 A5d hone hnb0)).mono ?_;rintro e w6 ⟨a6,hres⟩;have z6:=a6.size;have A6:Aside [b,nb] N0 w w6:=A5d.trans (aside2 a6) (by omega);have hb6:=a6.keep hb5 (by omega) (by simp;omega);have om6:=om5.past a6 (fun i hi=>by have:=hokL i hi.1;simp;omega);have oo6:=oo5.past a6 (fun i hi=>by have:=hokE i hi.1;simp;omega);clear hd5 hb5 A5d om5 oo5 hH a6
   cases ht:Ps.decl I (nx+1) with
   | err c0 a0=>
    rw [ht] at hres;obtain rfl:e=_:=hres;exact ⟨rfl,PostL.fail (by rw [m0.out,ht];rfl) A6⟩
   | ok y n2=>
    rw [ht] at hres;obtain ⟨le6,h6,_,rfl,hV⟩:=hres;obtain ⟨ad,nd,cd,rfl,hTm⟩:=hV;have m6:Hid (Ps.line I loc eqs nx=(Ps.need I [59] n2).bind fun _ n3=>.ok (loc++[y],eqs) n3):=by
     show Ps.line I loc eqs nx=_
     rw [m0.out,ht];rfl
    clear ht m0;have hH:=co hb6 5;simp only [gT,gZ,gS] at hH;refine hK.out _ _ (fun _=>hH) ?_;clear hK K
    try simp only [Act.put,sT,sZ,sS]
    have H7:=co (kA hb6 (.cells #[.string y.name,.int .u8 y.elem,.slice ad nd cd] 77 (0,0))) 5;simp only [gT,gZ,gS] at H7;have H7h:=hide H7;clear H7;have q1:kDecl.E (fun i=>wd.heap.size≤i) w6 [.string y.name,.int .u8 y.elem,.slice ad nd cd] y:=⟨_,rfl,hTm⟩;have q2:(loc.length+1)*kDecl.bytes≤140737488355328:=(by show (loc.length+1)*48≤_;omega);have q3:loc.length+1≤maxLen:=(by unfold maxLen;omega);refine wpAnyL_one (i:=7) rfl (by kernel_rfl) (by rfl) (fun K hK=>?_);go_simp;refine hK.out _ _ (fun _=>H7h.out) ?_;clear hK K
    try simp only [Act.put,sT,sZ,sS]
    refine wpAnyL_one (i:=8) rfl (by kernel_rfl) (by rfl) (fun K hK=>?_);refine oper_moreX kDecl _ _ 40 77 rfl Tryz.underlying40 wd.heap.size _ _ loc (by rfl) om6 [.string y.name,.int .u8 y.elem,.slice ad nd cd] y q1 (by rfl) (fun i hi=>by omega) z6 q2 q3 ?_;intro v8 w8 om8 g8;have hvb:=fun k hk=>(om6.lt k hk).1;obtain ⟨z8,hoth⟩:=grown_other (ok:=fun i=>okL i∧i<w5.heap.size) g8 hvb;have A8:Aside [b,nb] N0 w w8:=A6.trans (grown_aside (S:=[b,nb]) g8 hvb (fun i hi=>hokL i hi.1) (by omega)) nR;have hb8:=(hoth nb (lt_of hb6) (fun hh=>by have:=hokL nb hh.1;omega)).trans hb6;have oo8:=oo6.keep z8 (fun i hi hl=>hoth i hl (fun hh=>hdis i hh.1 hi.1));have h8:Rd w8 b g cap I.L I.len n2 0:=⟨(hoth b h6.bb (fun hh=>by have:=hokL b hh.1;omega)).trans h6.here,h6.toks.keep (hoth g h6.gb (fun hh=>by have:=hokL g hh.1;omega)),h6.apart,Nat.lt_of_lt_of_le h6.gb z8,h6.le,h6.lc,h6.cm⟩;clear A6 hb6 om6 oo6 h6 q1 hH H7h g8 hoth hvb;have hH:=co hb8 5;simp only [gT,gZ,gS] at hH;refine hK.out _ _ (fun _=>hH) ?_;clear hK K
    try simp only [Act.put,sT,sZ,sS]
    obtain ⟨a8v,c8v,hv8,_,_⟩:=om8.form;rw [List.length_append,List.length_singleton] at hv8;subst hv8;have f8:=fun o=>fo hb8 o;refine wpAnyL_one (i:=9) rfl (by kernel_rfl) (by rfl) (fun K hK=>?_);go_simp;refine hK.out _ _ (fun _=>hH) ?_;clear hK K
    try simp only [Act.put,sT,sZ,sS]
    refine wpAnyL_one (i:=10) rfl (by kernel_rfl) (by rfl) (fun K hK=>?_);go_simp;refine hK.out _ _ (fun _=>hH) ?_;clear hK K
    try simp only [Act.put,sT,sZ,sS]
    refine wpAnyL_one (i:=11) rfl (by kernel_rfl) (by rfl) (fun K hK=>?_);go_simp;refine hK.out _ _ (fun h=>by cases h) ?_;clear hK K
    try simp only [Act.put,sT,sZ,sS]
    refine wpAnyL_done (by kernel_rfl) ?_ _;have hb9:=set_in hb8 5 (.slice a8v (loc.length+1) c8v);have h9:=h8.set (p:=⟨nb,5,none⟩) (by simp;omega) (by simp;omega) (.slice a8v (loc.length+1) c8v);have A9:Aside [b,nb] N0 w (w8.setCell ⟨nb,5,none⟩ (.slice a8v (loc.length+1) c8v)):=A8.trans (Aside.setCell (by simp) _) nR;have om9:=om8.set (p:=⟨nb,5,none⟩) (by intro hh;have hh2:(okL nb∧nb<w5.heap.size)∨wd.heap.size≤nb:=hh;rcases hh2 with q | q;exact absurd (hokL nb q.1) (by omega);omega) (.slice a8v (loc.length+1) c8v);have oo9:=oo8.set (p:=⟨nb,5,none⟩) (by intro hh;have hh2:okE nb∧nb<w5.heap.size:=hh;have:=hokE nb hh2.1;omega) (.slice a8v (loc.length+1) c8v);have z9:(w8.setCell ⟨nb,5,none⟩ (.slice a8v (loc.length+1) c8v)).heap.size=w8.heap.size:=(by simp [World.setCell]);simp only [sT,sZ,sS] at hb9;go_wp2_with fail;generalize w8.setCell ⟨nb,5,none⟩ (.slice a8v (loc.length+1) c8v)=w9 at hb9 h9 A9 om9 oo9 z9 ⊢;refine (need_any h9 ⟨#[59]⟩ (by decide)).mono ?_;rintro e w10 ⟨a10,hres⟩;have es:(⟨#[59]⟩:ByteArray).data.toList=[59]:=rfl;rw [es] at hres;clear es;have A10:Aside [b,nb] N0 w w10:=A9.trans (aside2 a10) (by omega);have hb10:=a10.keep hb9 (lt_of hb9) (by simp;omega);have om10:=om9.past a10 (fun i hi=>by rcases hi with q | q;have:=hokL i q.1;simp;omega;simp;omega);have oo10:=oo9.past a10 (fun i hi=>by have:=hokE i hi.1;simp;omega)
    cases ht:Ps.need I [59] n2 with
    | err c0 a0=>
     rw [ht] at hres;obtain rfl:e=_:=hres;exact ⟨rfl,PostL.fail (by rw [m6.out,ht];rfl) A10⟩
    | ok u n3=>
     rw [ht] at hres;obtain ⟨le10,h10,_,rfl,rfl⟩:=hres;have hn3:=need_ok ht;have m10:Hid (Ps.line I loc eqs nx=.ok (loc++[y],eqs) n3):=by
      show Ps.line I loc eqs nx=_
      rw [m6.out,ht];rfl
     clear ht m6;go_wp2;go_end0;exact PostL.good m10.out A10 (by omega) h10 ⟨_,_,fun i=>(okL i∧i<w5.heap.size)∨wd.heap.size≤i,fun i=>okE i∧i<w5.heap.size,hb10,om10,oo10,fun i hi=>hi.elim (fun q=>hokL i q.1) (fun q=>by omega),fun i hi=>hokE i hi.1,fun i hi hj=>hi.elim (fun q=>hdis i q.1 hj.1) (fun q=>by omega)⟩
 | false=>
  rw [hq] at h5;simp only [Bool.false_eq_true,if_false] at h5;have m0:Hid (¬((I.pk nx).kind=2∧60≤eqs.length)→Ps.line I loc eqs nx=((Ps.equation I nx).bind fun q n1=>.ok (loc,eqs++[q]) n1).bind fun p n2=>(Ps.need I [59] n2).bind fun _ n3=>.ok p n3):=by
   show _→Ps.line I loc eqs nx=_
   intro hh;unfold Ps.line;rw [hq,if_neg (by simp),if_neg hh]
  have hp:=@peek_any _ _ _ _ _ _ _ _ h5;obtain ⟨t,ht⟩:=nmQ (I.pk nx);have hpk:peekT I.L I.len nx=t:=ht.symm;rw [hpk] at hp;unfold tokV at hp;have HT:=hide ht;clear hpk ht;have hf:=fun x w=>tokF0 t x w;go_wp2_with fail;refine hp.mono ?_;rintro e w6 ⟨rfl,b6⟩;have z6:=b6.size;have h6:=h5.below b6;have A6:Aside [b,nb] N0 w w6:=A5.trans (aside b6) (by omega);have hnb6:=(aside b6 (S:=[])).keep hnb5 (lt_of hnb5) (by simp);have ownloc6:=ownloc5.under b6;have owneqs6:=owneqs5.under b6;clear hp h5 A5 hnb5 ownloc5 owneqs5 cl5 cl6 b6;have cl6:=co hnb6 6;simp only [gT,gZ,gS] at cl6;by_cases hk:t.kind=2
  ·have hkb:(t.kind==2)=true:=beq_iff_eq.2 hk
   have HK2:=hide hk;clear hk;by_cases hlen:60≤eqs.length
   ·go_wp2_with fail
    refine (allow_no h6 _ _ (by omega)).mono ?_;rintro e w7 ⟨rfl,b7⟩;exact ⟨rfl,PostL.fail (by unfold Ps.line;rw [hq,if_neg (by simp),if_pos ⟨by rw [←HT.out];exact HK2.out,hlen⟩];rfl) (A6.trans (aside b7) (by omega))⟩
   ·have m1:=hide (m0.out (fun hh=>hlen hh.2))
    have hlen0:(I.pk nx).kind=2→eqs.length<60:=fun _=>by omega
    go_wp2_with fail;refine (allow_yes _ _ _ (by omega) _).mono ?_;rintro e w6 ⟨rfl,rfl⟩;clear cl6 m0 hlen;have m0:=m1;clear m1;obtain ⟨w5,hw5⟩:=nmQ (w6);subst hw5;have h5:=h6;have A5:=A6;have hnb5:=hnb6;have ownloc5:=ownloc6;have owneqs5:=owneqs6;clear h6 A6 hnb6 ownloc6 owneqs6;have hd5:Rd w5.drew b g cap I.L I.len nx 0:=h5.drew;have hb5:w5.drew.heap[nb]?=some (.cells #[.string s,.int .i64 pl,vZ,vI,vO,.slice aL loc.length cL,.slice aE eqs.length cE] 43 (0,0)):=hnb5;have A5d:=A5.drew;have z5d:w5.drew.heap.size=w5.heap.size:=rfl;have om5:=(owneqs5.under (Below.refl _ w5).drew).wide (ok':=fun i=>okE i∧i<w5.heap.size) (fun i hi hl=>⟨hi,hl⟩);have oo5:=(ownloc5.under (Below.refl _ w5).drew).wide (ok':=fun i=>okL i∧i<w5.heap.size) (fun i hi hl=>⟨hi,hl⟩);go_wp2_with fail;refine wp_region_late (fun w'=>w'.cell? ⟨nb,6,none⟩=some (.slice aE eqs.length cE)) (fun j=>decide (j=11)) (by kernel_rfl) ?_;generalize w5.drew=wd at hd5 hb5 A5d z5d om5 oo5 ⊢;clear h5 hnb5 A5 owneqs5 ownloc5;have hH:=co hb5 6;simp only [gT,gZ,gS] at hH;refine' wpAnyL_take (i:=0) (v:=_) rfl (by kernel_rfl) (by kernel_rfl) (by kernel_rfl) (by kernel_rfl) (fun _ _ _ h=>h) hH (by rfl) ?hyv ?o7
    case hyv=>
     intro wz hSw;go_simp
     try rfl
    try simp only [Act.put,sT,sZ,sS]
    refine' wpAnyL_take (i:=1) (v:=_) rfl (by kernel_rfl) (by kernel_rfl) (by kernel_rfl) (by kernel_rfl) (fun _ _ _ h=>h) hH (by rfl) ?hyv ?o8
    case hyv=>
     intro wz hSw;go_simp
     try rfl
    try simp only [Act.put,sT,sZ,sS]
    refine' wpAnyL_take (i:=2) (v:=_) rfl (by kernel_rfl) (by kernel_rfl) (by kernel_rfl) (by kernel_rfl) (fun _ _ _ h=>h) hH (by rfl) ?hyv ?o9
    case hyv=>
     intro wz hSw;go_simp
     try rfl
    try simp only [Act.put,sT,sZ,sS]
    refine' wpAnyL_take (i:=3) (v:=_) rfl (by kernel_rfl) (by kernel_rfl) (by kernel_rfl) (by kernel_rfl) (fun _ _ _ h=>h) hH (by rfl) ?hyv ?o10
    case hyv=>
     intro wz hSw;go_simp
     try rfl
    try simp only [Act.put,sT,sZ,sS]
    refine' wpAnyL_take (i:=4) (v:=_) rfl (by kernel_rfl) (by kernel_rfl) (by kernel_rfl) (by kernel_rfl) (fun _ _ _ h=>h) hH (by rfl) ?hyv ?o11
    case hyv=>
     intro wz hSw;go_simp
     try rfl
    try simp only [Act.put,sT,sZ,sS]
    refine' wpAnyL_take (i:=5) (v:=_) rfl (by kernel_rfl) (by kernel_rfl) (by kernel_rfl) (by kernel_rfl) (fun _ _ _ h=>h) hH (by rfl) ?hyv ?o12
    case hyv=>
     intro wz hSw;go_simp
     try rfl
    try simp only [Act.put,sT,sZ,sS]
    refine wpAnyL_one (i:=6) rfl (by kernel_rfl) (by rfl) (fun K hK=>?_);go_simp;refine (equation_any hform hL _ _ hd5 (hG.far2 A5d hone hnb0)).mono ?_;rintro e w6 ⟨a6,hres⟩;have z6:=a6.size;have A6:Aside [b,nb] N0 w w6:=A5d.trans (aside2 a6) (by omega);have hb6:=a6.keep hb5 (by omega) (by simp;omega);have om6:=om5.past a6 (fun i hi=>by have:=hokE i hi.1;simp;omega);have oo6:=oo5.past a6 (fun i hi=>by have:=hokL i hi.1;simp;omega);clear hd5 hb5 A5d om5 oo5 hH a6
    cases ht:Ps.equation I nx with
    | err c0 a0=>
     rw [ht] at hres;obtain rfl:e=_:=hres;exact ⟨rfl,PostL.fail (by rw [m0.out,ht];rfl) A6⟩
    | ok y n2=>
     have hkk:(I.pk nx).kind=2:=Classical.byContradiction fun hh=>equation_not hh ht;have hlen:eqs.length<60:=hlen0 hkk;rw [ht] at hres;obtain ⟨le6,h6,_,rfl,hV⟩:=hres;obtain ⟨q,rfl,hq⟩:=hV;have m6:Hid (Ps.line I loc eqs nx=(Ps.need I [59] n2).bind fun _ n3=>.ok (loc,eqs++[y]) n3):=by
      show Ps.line I loc eqs nx=_
      rw [m0.out,ht];rfl
     clear ht m0;have hH:=co hb6 6;simp only [gT,gZ,gS] at hH;refine hK.out _ _ (fun _=>hH) ?_;clear hK K
     try simp only [Act.put,sT,sZ,sS]
     have H7:=co (kA hb6 (.cells #[.int .i64 q.place,.slice q.aN q.nN q.cN,.string q.node,.slice q.aS q.nS q.cS,.slice q.aE q.nE q.cE] 49 (0,0))) 6;simp only [gT,gZ,gS] at H7;have H7h:=hide H7;clear H7;have q1:kEq.E (fun i=>wd.heap.size≤i) w6 [.int .i64 q.place,.slice q.aN q.nN q.cN,.string q.node,.slice q.aS q.nS q.cS,.slice q.aE q.nE q.cE] y:=⟨q,rfl,hq⟩;have q2:(eqs.length+1)*kEq.bytes≤140737488355328:=(by show (eqs.length+1)*96≤_;omega);have q3:eqs.length+1≤maxLen:=(by unfold maxLen;omega);refine wpAnyL_one (i:=7) rfl (by kernel_rfl) (by rfl) (fun K hK=>?_);go_simp;refine hK.out _ _ (fun _=>H7h.out) ?_;clear hK K
     try simp only [Act.put,sT,sZ,sS]
     refine wpAnyL_one (i:=8) rfl (by kernel_rfl) (by rfl) (fun K hK=>?_);refine oper_moreX kEq _ _ 41 49 rfl Tryz.underlying41 wd.heap.size _ _ eqs (by rfl) om6 [.int .i64 q.place,.slice q.aN q.nN q.cN,.string q.node,.slice q.aS q.nS q.cS,.slice q.aE q.nE q.cE] y q1 (by rfl) (fun i hi=>by omega) z6 q2 q3 ?_;intro v8 w8 om8 g8;have hvb:=fun k hk=>(om6.lt k hk).1;obtain ⟨z8,hoth⟩:=grown_other (ok:=fun i=>okE i∧i<w5.heap.size) g8 hvb;have A8:Aside [b,nb] N0 w w8:=A6.trans (grown_aside (S:=[b,nb]) g8 hvb (fun i hi=>hokE i hi.1) (by omega)) nR;have hb8:=(hoth nb (lt_of hb6) (fun hh=>by have:=hokE nb hh.1;omega)).trans hb6;have oo8:=oo6.keep z8 (fun i hi hl=>hoth i hl (fun hh=>hdis i hi.1 hh.1));have h8:Rd w8 b g cap I.L I.len n2 0:=⟨(hoth b h6.bb (fun hh=>by have:=hokE b hh.1;omega)).trans h6.here,h6.toks.keep (hoth g h6.gb (fun hh=>by have:=hokE g hh.1;omega)),h6.apart,Nat.lt_of_lt_of_le h6.gb z8,h6.le,h6.lc,h6.cm⟩;clear A6 hb6 om6 oo6 h6 q1 hH H7h g8 hoth hvb;have hH:=co hb8 6;simp only [gT,gZ,gS] at hH;refine hK.out _ _ (fun _=>hH) ?_;clear hK K
     try simp only [Act.put,sT,sZ,sS]
     obtain ⟨a8v,c8v,hv8,_,_⟩:=om8.form;rw [List.length_append,List.length_singleton] at hv8;subst hv8;have f8:=fun o=>fo hb8 o;refine wpAnyL_one (i:=9) rfl (by kernel_rfl) (by rfl) (fun K hK=>?_);go_simp;refine hK.out _ _ (fun _=>hH) ?_;clear hK K
     try simp only [Act.put,sT,sZ,sS]
     refine wpAnyL_one (i:=10) rfl (by kernel_rfl) (by rfl) (fun K hK=>?_);go_simp;refine hK.out _ _ (fun _=>hH) ?_;clear hK K
     try simp only [Act.put,sT,sZ,sS]
     refine wpAnyL_one (i:=11) rfl (by kernel_rfl) (by rfl) (fun K hK=>?_);go_simp;refine hK.out _ _ (fun h=>by cases h) ?_;clear hK K
     try simp only [Act.put,sT,sZ,sS]
     refine wpAnyL_done (by kernel_rfl) ?_ _;have hb9:=set_in hb8 6 (.slice a8v (eqs.length+1) c8v);have h9:=h8.set (p:=⟨nb,6,none⟩) (by simp;omega) (by simp;omega) (.slice a8v (eqs.length+1) c8v);have A9:Aside [b,nb] N0 w (w8.setCell ⟨nb,6,none⟩ (.slice a8v (eqs.length+1) c8v)):=A8.trans (Aside.setCell (by simp) _) nR;have om9:=om8.set (p:=⟨nb,6,none⟩) (by intro hh;have hh2:(okE nb∧nb<w5.heap.size)∨wd.heap.size≤nb:=hh;rcases hh2 with q | q;exact absurd (hokE nb q.1) (by omega);omega) (.slice a8v (eqs.length+1) c8v);have oo9:=oo8.set (p:=⟨nb,6,none⟩) (by intro hh;have hh2:okL nb∧nb<w5.heap.size:=hh;have:=hokL nb hh2.1;omega) (.slice a8v (eqs.length+1) c8v);have z9:(w8.setCell ⟨nb,6,none⟩ (.slice a8v (eqs.length+1) c8v)).heap.size=w8.heap.size:=(by simp [World.setCell]);simp only [sT,sZ,sS] at hb9;go_wp2_with fail;generalize w8.setCell ⟨nb,6,none⟩ (.slice a8v (eqs.length+1) c8v)=w9 at hb9 h9 A9 om9 oo9 z9 ⊢;refine (need_any h9 ⟨#[59]⟩ (by decide)).mono ?_;rintro e w10 ⟨a10,hres⟩;have es:(⟨#[59]⟩:ByteArray).data.toList=[59]:=rfl;rw [es] at hres;clear es;have A10:Aside [b,nb] N0 w w10:=A9.trans (aside2 a10) (by omega);have hb10:=a10.keep hb9 (lt_of hb9) (by simp;omega);have om10:=om9.past a10 (fun i hi=>by rcases hi with q | q;have:=hokE i q.1;simp;omega;simp;omega);have oo10:=oo9.past a10 (fun i hi=>by have:=hokL i hi.1;simp;omega)
     cases ht:Ps.need I [59] n2 with
     | err c0 a0=>
      rw [ht] at hres;obtain rfl:e=_:=hres;exact ⟨rfl,PostL.fail (by rw [m6.out,ht];rfl) A10⟩
     | ok u n3=>
      rw [ht] at hres;obtain ⟨le10,h10,_,rfl,rfl⟩:=hres;have hn3:=need_ok ht;have m10:Hid (Ps.line I loc eqs nx=.ok (loc,eqs++[y]) n3):=by
       show Ps.line I loc eqs nx=_
       rw [m6.out,ht];rfl
      clear ht m6;go_wp2;go_end0;exact PostL.good m10.out A10 (by omega) h10 ⟨_,_,fun i=>okL i∧i<w5.heap.size,fun i=>(okE i∧i<w5.heap.size)∨wd.heap.size≤i,hb10,oo10,om10,fun i hi=>hokL i hi.1,fun i hi=>hi.elim (fun q=>hokE i q.1) (fun q=>by omega),fun i hi hj=>hj.elim (fun q=>hdis i hi.1 q.1) (fun q=>by omega)⟩
  ·have hkb:(t.kind==2)=false:=beq_eq_false_iff_ne.2 hk
   have m1:=hide (m0.out (fun hh=>hk (by rw [HT.out];exact hh.1)));have hlen0:(I.pk nx).kind=2→eqs.length<60:=fun hh=>absurd (by rw [HT.out];exact hh) hk;clear cl6 m0;have m0:=m1;clear m1;obtain ⟨w5,hw5⟩:=nmQ (w6);subst hw5;have h5:=h6;have A5:=A6;have hnb5:=hnb6;have ownloc5:=ownloc6;have owneqs5:=owneqs6;clear h6 A6 hnb6 ownloc6 owneqs6;have hd5:Rd w5.drew b g cap I.L I.len nx 0:=h5.drew;have hb5:w5.drew.heap[nb]?=some (.cells #[.string s,.int .i64 pl,vZ,vI,vO,.slice aL loc.length cL,.slice aE eqs.length cE] 43 (0,0)):=hnb5;have A5d:=A5.drew;have z5d:w5.drew.heap.size=w5.heap.size:=rfl;have om5:=(owneqs5.under (Below.refl _ w5).drew).wide (ok':=fun i=>okE i∧i<w5.heap.size) (fun i hi hl=>⟨hi,hl⟩);have oo5:=(ownloc5.under (Below.refl _ w5).drew).wide (ok':=fun i=>okL i∧i<w5.heap.size) (fun i hi hl=>⟨hi,hl⟩);go_wp2_with fail;refine wp_region_late (fun w'=>w'.cell? ⟨nb,6,none⟩=some (.slice aE eqs.length cE)) (fun j=>decide (j=11)) (by kernel_rfl) ?_;generalize w5.drew=wd at hd5 hb5 A5d z5d om5 oo5 ⊢;clear h5 hnb5 A5 owneqs5 ownloc5;have hH:=co hb5 6;simp only [gT,gZ,gS] at hH;refine' wpAnyL_take (i:=0) (v:=_) rfl (by kernel_rfl) (by kernel_rfl) (by kernel_rfl) (by kernel_rfl) (fun _ _ _ h=>h) hH (by rfl) ?hyv ?o13
   case hyv=>
    intro wz hSw;go_simp
    try rfl
   try simp only [Act.put,sT,sZ,sS]
   refine' wpAnyL_take (i:=1) (v:=_) rfl (by kernel_rfl) (by kernel_rfl) (by kernel_rfl) (by kernel_rfl) (fun _ _ _ h=>h) hH (by rfl) ?hyv ?o14
   case hyv=>
    intro wz hSw;go_simp
    try rfl
   try simp only [Act.put,sT,sZ,sS]
   refine' wpAnyL_take (i:=2) (v:=_) rfl (by kernel_rfl) (by kernel_rfl) (by kernel_rfl) (by kernel_rfl) (fun _ _ _ h=>h) hH (by rfl) ?hyv ?o15
   case hyv=>
    intro wz hSw;go_simp
    try rfl
   try simp only [Act.put,sT,sZ,sS]
   refine' wpAnyL_take (i:=3) (v:=_) rfl (by kernel_rfl) (by kernel_rfl) (by kernel_rfl) (by kernel_rfl) (fun _ _ _ h=>h) hH (by rfl) ?hyv ?o16
   case hyv=>
    intro wz hSw;go_simp
    try rfl
   try simp only [Act.put,sT,sZ,sS]
   refine' wpAnyL_take (i:=4) (v:=_) rfl (by kernel_rfl) (by kernel_rfl) (by kernel_rfl) (by kernel_rfl) (fun _ _ _ h=>h) hH (by rfl) ?hyv ?o17
   case hyv=>
    intro wz hSw;go_simp
    try rfl
   try simp only [Act.put,sT,sZ,sS]
   refine' wpAnyL_take (i:=5) (v:=_) rfl (by kernel_rfl) (by kernel_rfl) (by kernel_rfl) (by kernel_rfl) (fun _ _ _ h=>h) hH (by rfl) ?hyv ?o18
   case hyv=>
    intro wz hSw;go_simp
    try rfl
   try simp only [Act.put,sT,sZ,sS]
   refine wpAnyL_one (i:=6) rfl (by kernel_rfl) (by rfl) (fun K hK=>?_);go_simp;refine (equation_any hform hL _ _ hd5 (hG.far2 A5d hone hnb0)).mono ?_;rintro e w6 ⟨a6,hres⟩;have z6:=a6.size;have A6:Aside [b,nb] N0 w w6:=A5d.trans (aside2 a6) (by omega);have hb6:=a6.keep hb5 (by omega) (by simp;omega);have om6:=om5.past a6 (fun i hi=>by have:=hokE i hi.1;simp;omega);have oo6:=oo5.past a6 (fun i hi=>by have:=hokL i hi.1;simp;omega);clear hd5 hb5 A5d om5 oo5 hH a6
   cases ht:Ps.equation I nx with
   | err c0 a0=>
    rw [ht] at hres;obtain rfl:e=_:=hres;exact ⟨rfl,PostL.fail (by rw [m0.out,ht];rfl) A6⟩
   | ok y n2=>
    have hkk:(I.pk nx).kind=2:=Classical.byContradiction fun hh=>equation_not hh ht;have hlen:eqs.length<60:=hlen0 hkk;rw [ht] at hres;obtain ⟨le6,h6,_,rfl,hV⟩:=hres;obtain ⟨q,rfl,hq⟩:=hV;have m6:Hid (Ps.line I loc eqs nx=(Ps.need I [59] n2).bind fun _ n3=>.ok (loc,eqs++[y]) n3):=by
     show Ps.line I loc eqs nx=_
     rw [m0.out,ht];rfl
    clear ht m0;have hH:=co hb6 6;simp only [gT,gZ,gS] at hH;refine hK.out _ _ (fun _=>hH) ?_;clear hK K
    try simp only [Act.put,sT,sZ,sS]
    have H7:=co (kA hb6 (.cells #[.int .i64 q.place,.slice q.aN q.nN q.cN,.string q.node,.slice q.aS q.nS q.cS,.slice q.aE q.nE q.cE] 49 (0,0))) 6;simp only [gT,gZ,gS] at H7;have H7h:=hide H7;clear H7;have q1:kEq.E (fun i=>wd.heap.size≤i) w6 [.int .i64 q.place,.slice q.aN q.nN q.cN,.string q.node,.slice q.aS q.nS q.cS,.slice q.aE q.nE q.cE] y:=⟨q,rfl,hq⟩;have q2:(eqs.length+1)*kEq.bytes≤140737488355328:=(by show (eqs.length+1)*96≤_;omega);have q3:eqs.length+1≤maxLen:=(by unfold maxLen;omega);refine wpAnyL_one (i:=7) rfl (by kernel_rfl) (by rfl) (fun K hK=>?_);go_simp;refine hK.out _ _ (fun _=>H7h.out) ?_;clear hK K
    try simp only [Act.put,sT,sZ,sS]
    refine wpAnyL_one (i:=8) rfl (by kernel_rfl) (by rfl) (fun K hK=>?_);refine oper_moreX kEq _ _ 41 49 rfl Tryz.underlying41 wd.heap.size _ _ eqs (by rfl) om6 [.int .i64 q.place,.slice q.aN q.nN q.cN,.string q.node,.slice q.aS q.nS q.cS,.slice q.aE q.nE q.cE] y q1 (by rfl) (fun i hi=>by omega) z6 q2 q3 ?_;intro v8 w8 om8 g8;have hvb:=fun k hk=>(om6.lt k hk).1;obtain ⟨z8,hoth⟩:=grown_other (ok:=fun i=>okE i∧i<w5.heap.size) g8 hvb;have A8:Aside [b,nb] N0 w w8:=A6.trans (grown_aside (S:=[b,nb]) g8 hvb (fun i hi=>hokE i hi.1) (by omega)) nR;have hb8:=(hoth nb (lt_of hb6) (fun hh=>by have:=hokE nb hh.1;omega)).trans hb6;have oo8:=oo6.keep z8 (fun i hi hl=>hoth i hl (fun hh=>hdis i hi.1 hh.1));have h8:Rd w8 b g cap I.L I.len n2 0:=⟨(hoth b h6.bb (fun hh=>by have:=hokE b hh.1;omega)).trans h6.here,h6.toks.keep (hoth g h6.gb (fun hh=>by have:=hokE g hh.1;omega)),h6.apart,Nat.lt_of_lt_of_le h6.gb z8,h6.le,h6.lc,h6.cm⟩;clear A6 hb6 om6 oo6 h6 q1 hH H7h g8 hoth hvb;have hH:=co hb8 6;simp only [gT,gZ,gS] at hH;refine hK.out _ _ (fun _=>hH) ?_;clear hK K
    try simp only [Act.put,sT,sZ,sS]
    obtain ⟨a8v,c8v,hv8,_,_⟩:=om8.form;rw [List.length_append,List.length_singleton] at hv8;subst hv8;have f8:=fun o=>fo hb8 o;refine wpAnyL_one (i:=9) rfl (by kernel_rfl) (by rfl) (fun K hK=>?_);go_simp;refine hK.out _ _ (fun _=>hH) ?_;clear hK K
    try simp only [Act.put,sT,sZ,sS]
    refine wpAnyL_one (i:=10) rfl (by kernel_rfl) (by rfl) (fun K hK=>?_);go_simp;refine hK.out _ _ (fun _=>hH) ?_;clear hK K
    try simp only [Act.put,sT,sZ,sS]
    refine wpAnyL_one (i:=11) rfl (by kernel_rfl) (by rfl) (fun K hK=>?_);go_simp;refine hK.out _ _ (fun h=>by cases h) ?_;clear hK K
    try simp only [Act.put,sT,sZ,sS]
    refine wpAnyL_done (by kernel_rfl) ?_ _;have hb9:=set_in hb8 6 (.slice a8v (eqs.length+1) c8v);have h9:=h8.set (p:=⟨nb,6,none⟩) (by simp;omega) (by simp;omega) (.slice a8v (eqs.length+1) c8v);have A9:Aside [b,nb] N0 w (w8.setCell ⟨nb,6,none⟩ (.slice a8v (eqs.length+1) c8v)):=A8.trans (Aside.setCell (by simp) _) nR;have om9:=om8.set (p:=⟨nb,6,none⟩) (by intro hh;have hh2:(okE nb∧nb<w5.heap.size)∨wd.heap.size≤nb:=hh;rcases hh2 with q | q;exact absurd (hokE nb q.1) (by omega);omega) (.slice a8v (eqs.length+1) c8v);have oo9:=oo8.set (p:=⟨nb,6,none⟩) (by intro hh;have hh2:okL nb∧nb<w5.heap.size:=hh;have:=hokL nb hh2.1;omega) (.slice a8v (eqs.length+1) c8v);have z9:(w8.setCell ⟨nb,6,none⟩ (.slice a8v (eqs.length+1) c8v)).heap.size=w8.heap.size:=(by simp [World.setCell]);simp only [sT,sZ,sS] at hb9;go_wp2_with fail;generalize w8.setCell ⟨nb,6,none⟩ (.slice a8v (eqs.length+1) c8v)=w9 at hb9 h9 A9 om9 oo9 z9 ⊢;refine (need_any h9 ⟨#[59]⟩ (by decide)).mono ?_;rintro e w10 ⟨a10,hres⟩;have es:(⟨#[59]⟩:ByteArray).data.toList=[59]:=rfl;rw [es] at hres;clear es;have A10:Aside [b,nb] N0 w w10:=A9.trans (aside2 a10) (by omega);have hb10:=a10.keep hb9 (lt_of hb9) (by simp;omega);have om10:=om9.past a10 (fun i hi=>by rcases hi with q | q;have:=hokE i q.1;simp;omega;simp;omega);have oo10:=oo9.past a10 (fun i hi=>by have:=hokL i hi.1;simp;omega)
    cases ht:Ps.need I [59] n2 with
    | err c0 a0=>
     rw [ht] at hres;obtain rfl:e=_:=hres;exact ⟨rfl,PostL.fail (by rw [m6.out,ht];rfl) A10⟩
    | ok u n3=>
     rw [ht] at hres;obtain ⟨le10,h10,_,rfl,rfl⟩:=hres;have hn3:=need_ok ht;have m10:Hid (Ps.line I loc eqs nx=.ok (loc,eqs++[y]) n3):=by
      show Ps.line I loc eqs nx=_
      rw [m6.out,ht];rfl
     clear ht m6;go_wp2;go_end0;exact PostL.good m10.out A10 (by omega) h10 ⟨_,_,fun i=>okL i∧i<w5.heap.size,fun i=>(okE i∧i<w5.heap.size)∨wd.heap.size≤i,hb10,oo10,om10,fun i hi=>hokL i hi.1,fun i hi=>hi.elim (fun q=>hokE i q.1) (fun q=>by omega),fun i hi hj=>hj.elim (fun q=>hdis i hi.1 q.1) (fun q=>by omega)⟩
end Go.Proofs.YtophfbefnaelfaaGreatDoor
