import Derived.Test.YtophfbefnaelfaaGreatDoorF21
import Derived.Test.YtophfbefnaelfaaGreatDoorF18
import Derived.Test.YtophfbefnaelfaaGreatDoorF08
import Derived.Test.YtophfbefnaelfaaGreatDoorF14
import Derived.Test.YtophfbefnaelfaaGreatDoorF16
set_option linter.unusedVariables false
set_option linter.unusedSimpArgs false
set_option maxHeartbeats 64000000
set_option maxRecDepth 100000
namespace Go.Proofs.YtophfbefnaelfaaGreatDoor
open Go.RowKit Go.IntWalk
def PPost (w:World) (t:List UInt8) (r:Ending) (w':World):Prop :=
 Below w.heap.size w w'∧∃ a n c,r=.returned (.tuple #[.agg #[.slice a n c],.agg #[.int .i64 (parseT t).2.1,.int .i64 (parseT t).2.2]])∧HNds (fun i=>w.heap.size≤i) w' (.slice a n c) (parseT t).1
theorem parse_any (hform:FormC) (s:ByteArray) (w:World) (hs:s.size≤1000000) (hG:GlobT w):Calls Tryz.prog 16 #[.string s] w (PPost w s.data.toList):=by
 have hsz:s.data.toList.length=s.size:=Array.length_toList;have hL:(Tk.scan s.data.toList).1.length≤1099511627776:=by
  have:=scan_len s.data.toList;omega
 obtain ⟨W,hW⟩:=nmQ ((w.alloc (.cells #[.slice none 0 0] 24 (0,0))).alloc (.cells #[.int .i64 0,.int .i64 0] 28 (0,0)));have zW:W.heap.size=w.heap.size+1+1:=(by rw [hW];simp);have bW:Below w.heap.size w W:=(by rw [hW];exact ((Below.refl _ w).alloc nR _).alloc (by simp) _);have hP:W.heap[w.heap.size]?=some (.cells #[.slice none 0 0] 24 (0,0)):=(by rw [hW];exact kA (heap_new w _) _);have hF:W.heap[w.heap.size+1]?=some (.cells #[.int .i64 0,.int .i64 0] 28 (0,0)):=by
  have:=heap_new (w.alloc (.cells #[.slice none 0 0] 24 (0,0))) (.cells #[.int .i64 0,.int .i64 0] 28 (0,0));have e:(w.alloc (.cells #[.slice none 0 0] 24 (0,0))).heap.size=w.heap.size+1:=(by simp);rw [e] at this;rw [hW];exact this
 go_enter Tryz.func16,Tryz.ntmps16;go_wp2_with fail;rw [←hW];clear hW;refine (scan_any s _ (by omega)).mono ?_;rintro r w1 ⟨v,rfl,hown,b1⟩;obtain ⟨L,hLd⟩:=nmQ ((Tk.scan s.data.toList).1);obtain ⟨c,hcd⟩:=nmQ ((Tk.scan s.data.toList).2.1);obtain ⟨a,had⟩:=nmQ ((Tk.scan s.data.toList).2.2);rw [←hLd] at hown hL;rw [←hcd,←had];obtain ⟨ao,g,cap,rfl,hc1,hc2,hT⟩:=toks_slice hown;have hpT:Hid (parseT s.data.toList=if c=0 then match Ps.program ⟨L,s.data.toList.length⟩ with | .ok l _=>(l,0,0) | .err c a=>([],(c:Int),(a:Int)) else ([],c,a)):=by
  show parseT s.data.toList=_
  unfold parseT;rw [hLd,hcd,had];rfl
 clear hLd hcd had hown;have z1:=b1.size;have B1:Below w.heap.size w w1:=bW.trans (b1.mono (by omega));have hP1:=(aside b1 (S:=[])).keep hP (by omega) (by simp);have hF1:=(aside b1 (S:=[])).keep hF (by omega) (by simp);have cm:=hc2;unfold maxLen at cm;clear hP hF b1;by_cases hc0:c=0
 ·have hk:(c==0)=true:=beq_iff_eq.2 hc0
  have HP:=hpT.out;rw [if_pos hc0] at HP;have HPH:=hide HP;clear HP;subst hc0;go_wp2_with fail;have hT2:0<L.length→ao=some ⟨g,0,none⟩∧g<(w1.alloc (.cells #[.int .i64 0,.int .i64 a] 28 (0,0))).heap.size∧HoldsToks (w1.alloc (.cells #[.int .i64 0,.int .i64 a] 28 (0,0))) g L:=fun h0=>by
   obtain ⟨e1,_,e3,e4⟩:=hT h0;exact ⟨e1,by simp;omega,e4.keep (keepB _ e3)⟩
  have hcall:=readProgram_toks hform (I:=⟨L,s.data.toList.length⟩) hL hc1 hc2 hT2 (hG.keep (Nat.le_trans B1.size (by simp)) ((Below.heap_alloc _ _ _ (Nat.lt_of_lt_of_le hG.1 B1.size)).trans (B1.block 6 hG.1)));rw [hsz] at hcall HPH;refine hcall.mono ?_;rintro r w3 ⟨b3,hres⟩;have z3:w1.heap.size+1≤w3.heap.size:=(by simpa using b3.size);have hP3:=(aside b3 (S:=[])).keep (kA hP1 _) (by simp;omega) (by simp);have hF3:=(aside b3 (S:=[])).keep (kA hF1 _) (by simp;omega) (by simp);have B3:Below w.heap.size w w3:=(B1.alloc (by omega) _).trans (b3.mono (by simp;omega));have p0:=co hP3 0;have f0:=co hF3 0;have f1:=co hF3 1;have fP:=fun o=>fo hP3 o;have fF:=fun o=>fo hF3 o;simp at p0 f0 f1;clear hcall hT hT2 hP1 hF1 b3
  cases hp:Ps.program ⟨L,s.size⟩ with
  | ok l n=>
   rw [hp] at hres;obtain ⟨a',n',c',rfl,hN⟩:=hres;have HE:Hid (parseT s.data.toList=(l,0,0)):=by
    show parseT s.data.toList=_
    rw [HPH.out,hp]
   clear hp HPH hpT;have hN2:=(nodes_of (hN.wide' (ok':=fun i=>w.heap.size+1<i) (fun i hi _=>by simp at hi;omega)));go_wp2;refine bodyPost_ret (v:=.tuple #[.agg #[.slice a' n' c'],.agg #[.int .i64 0,.int .i64 0]]) (by simp [results,Tryz.results16,go_sem,p0,f0,f1]) rfl ?_;refine ⟨((B3.setCell (p:=⟨w.heap.size,0,none⟩) nR _).setCell (p:=⟨w.heap.size+1,0,none⟩) (Nat.le_succ _) _).setCell (p:=⟨w.heap.size+1,1,none⟩) (Nat.le_succ _) _,a',n',c',by rw [HE.out],?_⟩;rw [HE.out];exact nodes_row ((((hN2.set (p:=⟨w.heap.size,0,none⟩) (by simp) _).set (p:=⟨w.heap.size+1,0,none⟩) (by simp) _).set (p:=⟨w.heap.size+1,1,none⟩) (by simp) _).wide (fun i hi _=>by omega))
  | err c' a'=>
   rw [hp] at hres;obtain rfl:r=_:=hres;have HE:Hid (parseT s.data.toList=([],(c':Int),(a':Int))):=by
    show parseT s.data.toList=_
    rw [HPH.out,hp]
   clear hp HPH hpT;go_wp2;refine bodyPost_ret (v:=.tuple #[.agg #[.slice none 0 0],.agg #[.int .i64 (c':Int),.int .i64 (a':Int)]]) (by simp [results,Tryz.results16,go_sem,p0,f0,f1]) rfl ?_;refine ⟨((B3.setCell (p:=⟨w.heap.size,0,none⟩) nR _).setCell (p:=⟨w.heap.size+1,0,none⟩) (Nat.le_succ _) _).setCell (p:=⟨w.heap.size+1,1,none⟩) (Nat.le_succ _) _,none,0,0,by rw [HE.out],?_⟩;rw [HE.out];exact nodes_row HRow.nil
 ·have hk:(c==0)=false:=beq_eq_false_iff_ne.2 hc0
  have HE:Hid (parseT s.data.toList=([],c,a)):=by
   show parseT s.data.toList=_
   rw [hpT.out,if_neg hc0]
  clear hpT hT;have p0:=co hP1 0;have f0:=co hF1 0;have f1:=co hF1 1;have fP:=fun o=>fo hP1 o;have fF:=fun o=>fo hF1 o;simp at p0 f0 f1;have zp:w.heap.size<w1.heap.size:=(by omega);have zf:w.heap.size+1<w1.heap.size:=(by omega);go_wp2
  go_region
  all_goals
   go_wp2;refine bodyPost_ret (v:=.tuple #[.agg #[.slice none 0 0],.agg #[.int .i64 c,.int .i64 a]]) (by simp [results,Tryz.results16,go_sem,p0,f0,f1,zp,zf]) rfl ?_;refine ⟨((((B1.setCell (p:=⟨w.heap.size,0,none⟩) nR _).setCell (p:=⟨w.heap.size+1,0,none⟩) (Nat.le_succ _) _).setCell (p:=⟨w.heap.size+1,1,none⟩) (Nat.le_succ _) _).alloc (by simp [World.setCell];omega) _).drew,none,0,0,by rw [HE.out],?_⟩;rw [HE.out];exact nodes_row HRow.nil
theorem wpAnyL_two {P:Program} {ops:Array Oper} {Q:Exit→Act→World→Prop} {md:Region.Mode} {S:World→Prop} {late:Nat→Bool} {i j:Nat} {oi oj:Oper} {fuel:Nat} {listed:Array Bool} {a:Act} {w:World} (hoi:ops[i]?=some oi) (hoj:ops[j]?=some oj) (hr:Region.ready md ops listed=[i,j])
  (hwi:Region.wanted oi (yielded ops a.tmps)=true) (hwj:Region.wanted oj (yielded ops a.tmps)=true)
  (h1:∀ K':Act→World→Prop,Shut (∀ a w,(late i=false→S w)→wpAnyL P md ops Q S late fuel (listed.setIfInBounds i true) a w→K' a w)→Oper.wp P oi a w K' Q)
  (h2:∀ K':Act→World→Prop,Shut (∀ a w,(late j=false→S w)→wpAnyL P md ops Q S late fuel (listed.setIfInBounds j true) a w→K' a w)→Oper.wp P oj a w K' Q):wpAnyL P md ops Q S late (fuel+1) listed a w:=by
 refine ⟨fun h0=>(by rw [hr] at h0;cases h0),fun q hq=>?_⟩;rw [hr] at hq;simp at hq;rcases hq with rfl | rfl
 ·refine wpOp_step hoi (fun K' hK=>?_)
  rw [if_pos hwi];exact h1 K' (fun a w hS hW=>hK a w ⟨hS,hW⟩)
 ·refine wpOp_step hoj (fun K' hK=>?_)
  rw [if_pos hwj];exact h2 K' (fun a w hS hW=>hK a w ⟨hS,hW⟩)
theorem run_moreG {α:Type} (T:Kind α) {w:World} (t ty:TypeId) (ht:Tryz.prog.underlying t=some (.slice T.ty))
  (N lb:Nat) (ok:Nat→Prop) (v:Value) (l:List α) (hown:OwnX T ok w v l) (cs:List Value) (y:α) (hE:T.E (fun i=>N≤i) w cs y) (hlit:∀ j u,cs[j]?=some u→w.cell? ((⟨lb,0,none⟩:Addr).add j)=some u)
  (hN:∀ i,ok i→i<N) (hNw:N≤w.heap.size) (hM:(l.length+1)*T.bytes≤140737488355328) (hm:l.length+1≤maxLen) :
  ∃ v' w',(Builtin.append_ #[t,t] ty #[v,.slice (some ⟨lb,0,none⟩) 1 1]).run Tryz.prog w=.ok v' w'∧OwnX T (fun i=>ok i∨N≤i) w' v' (l++[y])∧w.grownBy w' v.ownBlock:=by
 obtain ⟨i0,hi,hz0,hz1,hz2⟩:=info_parts T.info;obtain ⟨D,hrow,hvb,hD⟩:=hown;have hl:=T.len hE;obtain ⟨v',w',hrun,hrow',hgrow,hmv⟩:=run_push (P:=Tryz.prog) w 0 t ty T.ty i0 T.zero T.k T.bytes ht hi hz0 hz1 hz2 T.zs T.pos v l.length _ hrow ⟨lb,0,none⟩ 1 1 cs (by simp [hl]) hlit (T.one hE) hm hM (by simp);have hmv':v'.ownBlock=v.ownBlock∨∃ k,v'.ownBlock=some k∧w.heap.size≤k:=hmv;have hgk:∀ k,some k≠v.ownBlock→k<w.heap.size→w'.heap[k]?=w.heap[k]?:=fun k hk hl=>hgrow.block k hl hk;have hoff:∀ i,some i≠v.ownBlock→i<w.heap.size→some i≠v'.ownBlock:=fun i h1 h2 e=>by
  rcases hmv' with h | ⟨k,hk,hz⟩
  ·exact h1 (e.trans h)
  ·rw [hk] at e
   injection e with e;omega
 refine ⟨v',w',hrun,⟨fun q=>if q=l.length then cs else D q,?_,?_,fun j hj=>?_⟩,hgrow⟩
 ·have e:flat (fun q=>if q=l.length then cs else D q) (l.length+1)=flat D l.length++cs:=by
   rw [flat,flat_congr (D:=D) l.length (fun q hq=>by rw [if_neg (by omega)])];simp
  rw [List.length_append,List.length_singleton,e];exact hrow'
 ·intro k hk
  rcases hmv' with h | ⟨q,hq,hz⟩
  ·exact .inl (hvb k (h.symm.trans hk))
  ·rw [hq] at hk
   injection hk with hk;exact .inr (by omega)
 ·by_cases e:j=l.length
  ·subst e
   simp only [if_true,List.getElem_append_right nR,Nat.sub_self,List.getElem_cons_zero];have g1:=T.wide (ok':=fun k=>N≤k∧some k≠v.ownBlock∧k<w.heap.size) hE (fun k hk hl=>⟨hk,fun e=>by have:=hN k (hvb k e.symm);omega,hl⟩);have g2:=T.keep g1 hgrow.size (fun k hk hl=>hgk k hk.2.1 hl);exact T.wide g2 (fun k hk _=>⟨.inr hk.1,hoff k hk.2.1 hk.2.2⟩)
  ·have hjl:j<l.length:=by simp at hj;omega
   simp only [if_neg e,List.getElem_append_left hjl];have g1:=T.wide (ok':=fun k=>ok k∧some k≠v.ownBlock∧k<w.heap.size) (hD j hjl) (fun k hk hl=>⟨hk.1,hk.2,hl⟩);have g2:=T.keep g1 hgrow.size (fun k hk hl=>hgk k hk.2.1 hl);exact T.wide g2 (fun k hk _=>⟨.inl hk.1,hoff k hk.2.1 hk.2.2⟩)
theorem oper_moreG {α:Type} (T:Kind α) {w:World} {o:Oper} {a:Act} {K:Act→World→Prop} {Q:Exit→Act→World→Prop} (s x:Operand) (t:TypeId)
  (ho:o.op=.call { callee:=.builtin .append,args:=#[s,x],argTypes:=#[t,t] }) (ht:Tryz.prog.underlying t=some (.slice T.ty))
  (N lb:Nat) (ok:Nat→Prop) (v:Value) (l:List α) (hs:a.eval s=v) (hown:OwnX T ok w v l) (cs:List Value) (y:α) (hE:T.E (fun i=>N≤i) w cs y) (hlit:∀ j u,cs[j]?=some u→w.cell? ((⟨lb,0,none⟩:Addr).add j)=some u) (hx:a.eval x=.slice (some ⟨lb,0,none⟩) 1 1)
  (hN:∀ i,ok i→i<N) (hNw:N≤w.heap.size) (hM:(l.length+1)*T.bytes≤140737488355328) (hm:l.length+1≤maxLen)
  (h:∀ v' w',OwnX T (fun i=>ok i∨N≤i) w' v' (l++[y])→w.grownBy w' v.ownBlock→K (a.put o.dst v') w') :
  Oper.wp Tryz.prog o a w K Q:=by
 obtain ⟨v',w',hr,h2,h3⟩:=run_moreG T t o.type ht N lb ok v l hown cs y hE hlit hN hNw hM hm;unfold Oper.wp execOp;simp only [ho,resolve,invoke,builtin,Sem.run_bind,Sem.run_pure,Result.andThen_ok,List.map_toArray,List.map_cons,List.map_nil,hs,hx,hr];exact h v' w' h2 h3
def putAt (w:World) (k o:Nat) (y:ExV):World:=(((((w.setCell ⟨k,o,none⟩ (.int .i64 y.op)).setCell ⟨k,o+1,none⟩ (.int .i64 y.k)).setCell ⟨k,o+2,none⟩ (.int .i64 y.n)).setCell ⟨k,o+3,none⟩ (.string y.name)).setCell ⟨k,o+4,none⟩ (.slice y.aS y.nS y.cS)).setCell ⟨k,o+5,none⟩ (.slice y.aL y.nL y.cL)
theorem putAt_size (w:World) (k o:Nat) (y:ExV):(putAt w k o y).heap.size=w.heap.size:=by simp [putAt,World.setCell]
theorem putAt_block (w:World) (k o:Nat) (y:ExV) (i:Nat) (h:i≠k):(putAt w k o y).heap[i]?=w.heap[i]?:=by
 unfold putAt;rw [Below.heap_setCell _ _ _ _ h,Below.heap_setCell _ _ _ _ h,Below.heap_setCell _ _ _ _ h,Below.heap_setCell _ _ _ _ h,Below.heap_setCell _ _ _ _ h,Below.heap_setCell _ _ _ _ h]
theorem putAt_in {w:World} {k:Nat} {cs:Array Value} {t:TypeId} (h:w.heap[k]?=some (.cells cs t (0,0))) (o:Nat) (y:ExV):(putAt w k o y).heap[k]?=some (.cells ((((((cs.setIfInBounds o (.int .i64 y.op)).setIfInBounds (o+1) (.int .i64 y.k)).setIfInBounds (o+2) (.int .i64 y.n)).setIfInBounds (o+3) (.string y.name)).setIfInBounds (o+4) (.slice y.aS y.nS y.cS)).setIfInBounds (o+5) (.slice y.aL y.nL y.cL)) t (0,0)) :=
 set_in (set_in (set_in (set_in (set_in (set_in h o (.int .i64 y.op)) (o+1) (.int .i64 y.k)) (o+2) (.int .i64 y.n)) (o+3) (.string y.name)) (o+4) (.slice y.aS y.nS y.cS)) (o+5) (.slice y.aL y.nL y.cL)
theorem OwnX.last {ok ok2:Nat→Prop} {w:World} {g c:Nat} {l:List Ex} {y e:Ex} {x:ExV} (h:OwnX kExpr ok w (.slice (some ⟨g,0,none⟩) (l.length+1) c) (l++[y])) (hx:HEx ok2 w x.cells e) (hg:¬ok2 g) :
  OwnX kExpr (fun i=>ok i∨ok2 i) (putAt w g (l.length*6) x) (.slice (some ⟨g,0,none⟩) (l.length+1) c) (l++[e]):=by
 obtain ⟨D,h1,h2,h3⟩:=h;have hlen:(l++[y]).length=l.length+1:=(by simp);have hlen2:(l++[e]).length=l.length+1:=(by simp);have hDl:(D l.length).length=6:=kExpr.len (h3 l.length (by simp));have hDi:∀ i,i<l.length→(D i).length=6:=fun i hi=>kExpr.len (h3 i (by simp;omega));have hfl:=flat_len l.length hDi;rw [hlen,flat] at h1;refine ⟨fun q=>if q=l.length then x.cells else D q,?_,?_,fun j hj=>?_⟩
 ·rw [hlen2]
  have ef:flat (fun q=>if q=l.length then x.cells else D q) (l.length+1)=flat D l.length++x.cells:=by
   rw [flat,flat_congr (D:=D) l.length (fun q hq=>by rw [if_neg (by omega)])];simp
  rw [ef];obtain ⟨hl1,hor⟩:=h1;refine ⟨by rw [List.length_append,hfl];simp [ExV.cells,kExpr];omega,?_⟩;rcases hor with ⟨hv,h0⟩ | ⟨g',cap,cur,hv,hb,hcg,hnc,hcm,hcs,htk⟩
  ·omega
  ·injection hv with e1 e2 e3
   injection e1 with e1;injection e1 with e4 e5 e6;subst e4 e3;refine .inr ⟨g,c,_,rfl,hb,putAt_in hcg _ x,hnc,hcm,by simpa using hcs,?_⟩;have hk6:kExpr.k=6:=rfl;rw [hk6] at htk ⊢;obtain ⟨d0,d1,d2,d3,d4,d5,hd⟩:∃ d0 d1 d2 d3 d4 d5,D l.length=[d0,d1,d2,d3,d4,d5]:=by
    match hq:D l.length,hDl with
    | [d0,d1,d2,d3,d4,d5],_=>exact ⟨d0,d1,d2,d3,d4,d5,rfl⟩
   rw [hd] at htk;simp only [Array.toList_setIfInBounds,List.take_set,htk];rw [←hfl];simp [ExV.cells,List.set_append_right]
 ·intro k hk
  exact .inl (h2 k hk)
 ·by_cases ej:j=l.length
  ·subst ej
   simp only [if_true,List.getElem_append_right nR,Nat.sub_self,List.getElem_cons_zero];have q1:=hx.keep (w':=putAt w g (l.length*6) x) (by rw [putAt_size];exact Nat.le_refl _) fun i hi _=>putAt_block _ _ _ _ _ (fun e=>hg (e ▸ hi));exact q1.wide fun i hi _=>⟨.inr hi,fun e=>by simp [Value.ownBlock] at e;exact hg (e ▸ hi)⟩
  ·have hjl:j<l.length:=by simp at hj;omega
   have q0:=h3 j (by simp;omega);simp only [List.getElem_append_left hjl] at q0;simp only [if_neg ej,List.getElem_append_left hjl];have q1:=kExpr.keep (w':=putAt w g (l.length*6) x) q0 (by rw [putAt_size];exact Nat.le_refl _) fun i hi _=>putAt_block _ _ _ _ _ (fun e=>hi.2 (by rw [e];simp [Value.ownBlock]));exact kExpr.wide q1 fun i hi _=>⟨.inl hi.1,hi.2⟩
def ExSt (N0 eb:Nat) (w:World) (e:Ex):Prop :=
 ∃ (vS vL:Value) (okS okL:Nat→Prop),w.heap[eb]?=some (.cells #[.int .i64 e.op,.int .i64 e.k,.int .i64 e.n,.string e.name,vS,vL] 88 (0,0))∧OwnX kSize okS w vS e.S∧OwnX kExpr okL w vL e.L∧(∀ i,okS i→N0≤i)∧(∀ i,okL i→N0≤i)∧∀ i,okS i→¬okL i
structure Env (b g rb eb N0:Nat):Prop where
 b0:b<N0
 g0:g<N0
 r0:rb<N0
 e0:eb<N0
 nr:rb≠b
 ne:eb≠b
 ng:eb≠g
 nx:rb≠eb
def PostE (b g cap eb N0:Nat) (I:Inp) (op nx:Nat) (w:World) (res:Res Ex) (r:Ending) (w':World):Prop :=
 Aside [b,eb] N0 w w' ∧
 match res with
 | .ok e n1=>nx≤n1∧Rd w' b g cap I.L I.len n1 op∧r=.returned (.tuple #[])∧ExSt N0 eb w' e
 | .err c a=>r=upE c a
theorem PostE.fail {b g cap eb N0:Nat} {I:Inp} {op nx:Nat} {w:World} {res:Res Ex} {w':World} {c a:Nat} (h:res=.err c a) (hA:Aside [b,eb] N0 w w'):PostE b g cap eb N0 I op nx w res (upE c a) w':=by
 subst h;exact ⟨hA,rfl⟩
theorem PostE.good {b g cap eb N0:Nat} {I:Inp} {op nx:Nat} {w:World} {res:Res Ex} {w':World} {e:Ex} {n1:Nat} (h:res=.ok e n1) (hA:Aside [b,eb] N0 w w') (hn:nx≤n1) (hR:Rd w' b g cap I.L I.len n1 op) (hS:ExSt N0 eb w' e):PostE b g cap eb N0 I op nx w res (.returned (.tuple #[])) w':=by
 subst h;exact ⟨hA,hn,hR,rfl,hS⟩
theorem asideE {b eb B:Nat} {w w':World} (h:Aside [b] B w w'):Aside [b,eb] B w w':=h.wide fun k _ hk hm=>hk (by simp at hm ⊢;exact .inl hm)
theorem sizeC_any {b g cap rb eb N0:Nat} {I:Inp} {op nx:Nat} {E:Nat→Res Ex} {e:Ex} {w:World} (hv:Env b g rb eb N0) (h:Rd w b g cap I.L I.len nx op) (hN0:N0≤w.heap.size) (hrb:w.heap[rb]?=some (.cells #[.pointer (some ⟨b,0,none⟩)] 104 (0,0))) (hS:ExSt N0 eb w e) (hlen:e.S.length≤1000) :
  Calls Tryz.prog 186 #[.pointer (some ⟨eb,0,none⟩),.pointer (some ⟨rb,0,none⟩)] w (PostE b g cap eb N0 I op nx w (Ps.part I E .size e nx)):=by
 obtain ⟨vS,vL,okS,okL,heb,ownS,ownL,hokS,hokL,hdis⟩:=hS;obtain ⟨v0,v1,v2,v3,v4,v5,v6,v7⟩:=hv;obtain ⟨aS,cS,rfl,hS1,hS2⟩:=ownS.form;obtain ⟨aL,cL,rfl,hL1,hL2⟩:=ownL.form;have hd5:Rd w.drew b g cap I.L I.len nx op:=h.drew;have hb5:w.drew.heap[eb]?=some (.cells #[.int .i64 e.op,.int .i64 e.k,.int .i64 e.n,.string e.name,.slice aS e.S.length cS,.slice aL e.L.length cL] 88 (0,0)):=heb;have hr5:w.drew.heap[rb]?=some (.cells #[.pointer (some ⟨b,0,none⟩)] 104 (0,0)):=hrb;have A5d:Aside [b,eb] N0 w w.drew:=(Aside.refl w).drew;have z5d:w.drew.heap.size=w.heap.size:=rfl;have om5:=(ownS.under (Below.refl _ w).drew).wide (ok':=fun i=>okS i∧i<w.heap.size) (fun i hi hl=>⟨hi,hl⟩);have oo5:=(ownL.under (Below.refl _ w).drew).wide (ok':=fun i=>okL i∧i<w.heap.size) (fun i hi hl=>⟨hi,hl⟩);go_enter Tryz.func186,Tryz.ntmps186;go_wp2_with fail;refine wp_region_late (fun w'=>w'.cell? ⟨eb,4,none⟩=some (.slice aS e.S.length cS)∧w'.cell? ⟨rb,0,none⟩=some (.pointer (some ⟨b,0,none⟩))) (fun j=>decide (j=7)) (by kernel_rfl) ?_;generalize w.drew=wd at hd5 hb5 hr5 A5d z5d om5 oo5 ⊢;clear h heb hrb ownS ownL;have c4:=co hb5 4;have cr:=co hr5 0;simp only [gT,gZ,gS] at c4 cr;have hH:=And.intro c4 cr;refine' wpAnyL_take (i:=0) (v:=_) rfl (by kernel_rfl) (by kernel_rfl) (by kernel_rfl) (by kernel_rfl) (fun _ _ _ h=>h) hH (by rfl) ?hyv ?o1
 case hyv=>
  intro wz hSw;obtain ⟨k0,k1⟩:=hSw;go_simp
  try rfl
 try simp only [Act.put,sT,sZ,sS]
 refine' wpAnyL_take (i:=1) (v:=_) rfl (by kernel_rfl) (by kernel_rfl) (by kernel_rfl) (by kernel_rfl) (fun _ _ _ h=>h) hH (by rfl) ?hyv ?o2
 case hyv=>
  intro wz hSw;obtain ⟨k0,k1⟩:=hSw;go_simp
  try rfl
 try simp only [Act.put,sT,sZ,sS]
 refine' wpAnyL_take (i:=2) (v:=_) rfl (by kernel_rfl) (by kernel_rfl) (by kernel_rfl) (by kernel_rfl) (fun _ _ _ h=>h) hH (by rfl) ?hyv ?o3
 case hyv=>
  intro wz hSw;obtain ⟨k0,k1⟩:=hSw;go_simp
  try rfl
 try simp only [Act.put,sT,sZ,sS]
 refine wpAnyL_one (i:=3) rfl (by kernel_rfl) (by rfl) (fun K hK=>?_);go_simp;refine (size_any hd5).mono ?_;rintro r w6 ⟨a6,hres⟩;have z6:=a6.size;have A6:Aside [b,eb] N0 w w6:=A5d.trans (asideE a6) (by omega);have hb6:=a6.keep hb5 (by omega) (by simp;omega);have hr6:=a6.keep hr5 (by omega) (by simp;omega);have om6:=om5.past a6 (fun i hi=>by have:=hokS i hi.1;simp;omega);have oo6:=oo5.past a6 (fun i hi=>by have:=hokL i hi.1;simp;omega);clear hd5 hb5 hr5 A5d om5 oo5 hH c4 cr a6
 cases ht:Ps.size I nx with
 | err c0 a0=>
  rw [ht] at hres;obtain rfl:r=_:=hres;exact ⟨rfl,PostE.fail (by unfold Ps.part;simp only [];rw [ht];rfl) A6⟩
 | ok y n2=>
  rw [ht] at hres;obtain ⟨le6,h6,_,rfl,hV⟩:=hres;obtain ⟨ad,nd,cd,rfl⟩:=HTerms.slice hV;have m6:Hid (Ps.part I E .size e nx=.ok (Ps.Ex.addS e y) n2):=by
   show Ps.part I E .size e nx=_
   unfold Ps.part;simp only [];rw [ht];rfl
  clear ht;have c4:=co hb6 4;have cr:=co hr6 0;simp only [gT,gZ,gS] at c4 cr;refine hK.out _ _ (fun _=>And.intro c4 cr) ?_;clear hK K
  try simp only [Act.put,sT,sZ,sS]
  have H7a:=co (kA hb6 (.cells #[.slice ad nd cd] 73 (0,0))) 4;have H7b:=co (kA hr6 (.cells #[.slice ad nd cd] 73 (0,0))) 0;simp only [gT,gZ,gS] at H7a H7b;have H7h:=hide (And.intro H7a H7b);clear H7a H7b;have q1:kSize.E (fun i=>wd.heap.size≤i) w6 [.slice ad nd cd] y:=⟨_,rfl,hV⟩;have q2:(e.S.length+1)*kSize.bytes≤140737488355328:=(by show (e.S.length+1)*24≤_;omega);have q3:e.S.length+1≤maxLen:=(by unfold maxLen;omega);refine wpAnyL_one (i:=4) rfl (by kernel_rfl) (by rfl) (fun K hK=>?_);go_simp;refine hK.out _ _ (fun _=>H7h.out) ?_;clear hK K
  try simp only [Act.put,sT,sZ,sS]
  refine wpAnyL_one (i:=5) rfl (by kernel_rfl) (by rfl) (fun K hK=>?_);refine oper_moreX kSize _ _ 46 73 rfl Tryz.underlying46 wd.heap.size _ _ e.S (by rfl) om6 [.slice ad nd cd] y q1 (by rfl) (fun i hi=>by omega) z6 q2 q3 ?_;intro v8 w8 om8 g8;have hvb:=fun k hk=>(om6.lt k hk).1;obtain ⟨z8,hoth⟩:=grown_other (ok:=fun i=>okS i∧i<w.heap.size) g8 hvb;have A8:Aside [b,eb] N0 w w8:=A6.trans (grown_aside (S:=[b,eb]) g8 hvb (fun i hi=>hokS i hi.1) (by omega)) nR;have hb8:=(hoth eb (lt_of hb6) (fun hh=>by have:=hokS eb hh.1;omega)).trans hb6;have hr8:=(hoth rb (lt_of hr6) (fun hh=>by have:=hokS rb hh.1;omega)).trans hr6;have oo8:=oo6.keep z8 (fun i hi hl=>hoth i hl (fun hh=>hdis i hh.1 hi.1));have h8:Rd w8 b g cap I.L I.len n2 op:=⟨(hoth b h6.bb (fun hh=>by have:=hokS b hh.1;omega)).trans h6.here,h6.toks.keep (hoth g h6.gb (fun hh=>by have:=hokS g hh.1;omega)),h6.apart,Nat.lt_of_lt_of_le h6.gb z8,h6.le,h6.lc,h6.cm⟩;clear A6 hb6 hr6 om6 oo6 h6 q1 c4 cr H7h g8 hoth hvb;have c4:=co hb8 4;have cr:=co hr8 0;simp only [gT,gZ,gS] at c4 cr;refine hK.out _ _ (fun _=>And.intro c4 cr) ?_;clear hK K
  try simp only [Act.put,sT,sZ,sS]
  obtain ⟨a8v,c8v,hv8,_,_⟩:=om8.form;rw [List.length_append,List.length_singleton] at hv8;subst hv8;have f8:=fun o=>fo hb8 o;refine wpAnyL_one (i:=6) rfl (by kernel_rfl) (by rfl) (fun K hK=>?_);go_simp;refine hK.out _ _ (fun _=>And.intro c4 cr) ?_;clear hK K
  try simp only [Act.put,sT,sZ,sS]
  refine wpAnyL_one (i:=7) rfl (by kernel_rfl) (by rfl) (fun K hK=>?_);go_simp;refine hK.out _ _ (fun h=>by cases h) ?_;clear hK K
  try simp only [Act.put,sT,sZ,sS]
  refine wpAnyL_done (by kernel_rfl) ?_ _;have hb9:=set_in hb8 4 (.slice a8v (e.S.length+1) c8v);have h9:=h8.set (p:=⟨eb,4,none⟩) (by simp;omega) (by simp;omega) (.slice a8v (e.S.length+1) c8v);have A9:Aside [b,eb] N0 w (w8.setCell ⟨eb,4,none⟩ (.slice a8v (e.S.length+1) c8v)):=A8.trans (Aside.setCell (by simp) _) nR;have om9:=om8.set (p:=⟨eb,4,none⟩) (by intro hh;have hh2:(okS eb∧eb<w.heap.size)∨wd.heap.size≤eb:=hh;rcases hh2 with q | q;exact absurd (hokS eb q.1) (by omega);omega) (.slice a8v (e.S.length+1) c8v);have oo9:=oo8.set (p:=⟨eb,4,none⟩) (by intro hh;have hh2:okL eb∧eb<w.heap.size:=hh;have:=hokL eb hh2.1;omega) (.slice a8v (e.S.length+1) c8v);simp only [sT,sZ,sS] at hb9;go_wp2;go_end0;exact PostE.good m6.out A9 le6 h9 ⟨_,_,fun i=>(okS i∧i<w.heap.size)∨wd.heap.size≤i,fun i=>okL i∧i<w.heap.size,hb9,om9,oo9,fun i hi=>hi.elim (fun q=>hokS i q.1) (fun q=>by omega),fun i hi=>hokL i hi.1,fun i hi hj=>hi.elim (fun q=>hdis i q.1 hj.1) (fun q=>by omega)⟩
end Go.Proofs.YtophfbefnaelfaaGreatDoor
