import Derived.Test.YtkfgbhlpjkkgfaaGreatDoorT06
import Derived.Test.YtkfgbhlpjkkgfaaGreatDoorT26
import Derived.Test.YtkfgbhlpjkkgfaaGreatDoorT03
import Derived.Test.YtkfgbhlpjkkgfaaGreatDoorT20
set_option linter.unusedVariables false
set_option linter.unusedSimpArgs false
set_option maxHeartbeats 64000000
set_option maxRecDepth 100000
namespace Go.Proofs.YtkfgbhlpjkkgfaaGreatDoor
open Go.RowKit Go.IntWalk
theorem flat_appK (C D:Nat->List Value) (n:Nat):∀ m,flat (fun q=>if q<n then C q else D (q-n)) (n+m)=flat C n++flat D m
 | 0=>by
  rw [Nat.add_zero,zAY (D:=C) n (fun q hq=>by rw [if_pos hq])];simp [flat]
 | m+1=>by
  rw [<-Nat.add_assoc,flat,flat_appK C D n m,flat,if_neg (by omega),List.append_assoc]
  congr 3
  omega
theorem own_copyK {w w':World} {v:Value} {l:List Nd} {D:Nat->List Value} (h:w'.ownsRow w.heap.size 47 7 v l.length (flat D l.length)) (hD:∀ j (h:j<l.length),∃ x:NdV,D j=x.cells/\HNd (Off w.heap.size v) w' x l[j]) :
  OwnX kNode (fun i=>w.heap.size<=i/\i<w'.heap.size) w' v l:=by
 refine ⟨D,⟨h.1,h.2.imp id ?_⟩,fun k hk=>World.ownsRow.lt h k hk,fun j hj=>?_⟩
 ·rintro ⟨g,cp,aR,e1,e2,e3⟩
  exact ⟨g,cp,aR,e1,Nat.zero_le _,e3⟩
 ·exact kNode.wide (hD j hj) (fun k hk hl=>⟨⟨hk.1,hl⟩,hk.2⟩)
theorem run_joinO {α:Type} (T:Kind α) {w:World} (t ty:TypeId) (ht:Tryz.prog.underlying t=some (.slice T.ty)) {ok Cz:Nat->Prop} {v u:Value} {l r:List α} (ah:OwnX T ok w v l) (hr:HRow T Cz w u r)
  (B9:∀ k,v.ownBlock=some k->¬Cz k) (hM:(l.length+r.length)*T.bytes<=140737488355328) (hm:l.length+r.length<=maxLen) :
  ∃ v' w',(Builtin.append_ #[t,t] ty #[v,u]).run Tryz.prog w=.ok v' w'/\OwnX T (fun k=>ok k\/Cz k\/w.heap.size<=k) w' v' (l++r)/\w.grownBy w' v.ownBlock/\(v'.ownBlock=v.ownBlock\/∃ k,v'.ownBlock=some k/\w.heap.size<=k):=by
 obtain ⟨i0,hi,db,bP,bY⟩:=info_parts T.info;have yi:=ah;obtain ⟨D,aU,bm,hD⟩:=ah;obtain ⟨C,hS,hC⟩:=hr;have F9:=hS;obtain ⟨ao,cap,rfl,h2,h3,h4⟩:=hS;have oy:∀ i,i<r.length->(C i).length=T.k:=fun i hi=>T.len (hC i hi);have IV:∀ i,i<l.length->(D i).length=T.k:=fun i hi=>T.len (hD i hi)
 cases ao with
 | none=>
  have sQ:r=[]:=by
   cases r with
   | nil=>rfl
   | cons x r=>
    obtain ⟨b,o,e,_⟩:=h4 (by simp)
    cases e
  subst sQ;have dE:(Builtin.append_ #[t,t] ty #[v,.slice none 0 cap]).run Tryz.prog w=.ok v w:=by
   rcases aU.2 with ⟨rfl,h0⟩ | ⟨g,c,aR,rfl,_,_,eR,_⟩
   ·simp [Builtin.append_,run_underlying ht,sizeOf,typeInfo,hi,Builtin.lenOf,Builtin.firstCells]
   ·simp [Builtin.append_,run_underlying ht,sizeOf,typeInfo,hi,Builtin.lenOf,Builtin.firstCells,eR,storeCells]
  refine ⟨v,w,dE,?_,⟨rfl,rfl,rfl,Nat.le_refl _,fun _ _ _=>rfl⟩,.inl rfl⟩;rw [List.append_nil];exact yi.wide (fun i hi _=>.inl hi)
 | some a=>
  have cP:∀ x ∈ flat C r.length,x.oneCell'=true:=fun x hx=>by
   obtain ⟨i,hi,hx⟩:=zDZ _ _ hx;exact T.one (hC i hi) x hx
  have dz:∀ j u,(flat C r.length)[j]?=some u->w.cell? (a.add j)=some u:=by
   by_cases h0:0<r.length
   ·obtain ⟨b,o,e,hb,iA,jR⟩:=h4 h0
    injection e with e;subst e;exact Sl.news T.pos F9
   ·intro j u hj
    have e:r.length=0:=(by omega);rw [e] at hj;simp [flat] at hj
  obtain ⟨v',w',dE,i6,am,fR⟩:=zCV w 0 t ty T.ty i0 T.zero T.k T.bytes ht hi db bP bY T.zs T.pos v l.length _ aU a r.length cap (flat C r.length) (zBn _ oy) dz cP hm hM (Nat.zero_le _);have wF:∀ i,i<w.heap.size->some i≠v.ownBlock->some i≠v'.ownBlock:=by
   intro i hi cG;rcases fR with h | ⟨k,hk,hl⟩
   ·rw [h];exact cG
   ·rw [hk]
    intro e;injection e with e;omega
  refine ⟨v',w',dE,⟨fun q=>if q<l.length then D q else C (q-l.length),?_,fun k hk=>?_,fun j hj=>?_⟩,am,fR⟩
  ·rw [List.length_append,flat_appK]
   exact i6
  ·rcases fR with h | ⟨k',nj,hl⟩
   ·exact .inl (bm k (h ▸ hk))
   ·rw [hk] at nj
    injection nj with e;subst e;exact .inr (.inr hl)
  ·by_cases e:j<l.length
   ·simp only [if_pos e,List.getElem_append_left e]
    have g0:=T.wide (ok':=fun k=>(ok k/\some k≠v.ownBlock)/\k<w.heap.size) (hD j e) (fun k hk hl=>⟨hk,hl⟩);have g1:=T.keep g0 am.size (fun k hk hl=>am.block k hl hk.1.2);exact T.wide g1 (fun k hk _=>⟨.inl hk.1.1,wF k hk.2 hk.1.2⟩)
   ·have eJ:j-l.length<r.length:=by simp at hj;omega
    simp only [if_neg e,List.getElem_append_right (Nat.le_of_not_lt e)];have g0:=T.wide (ok':=fun k=>Cz k/\k<w.heap.size) (hC _ eJ) (fun k hk hl=>⟨hk,hl⟩);have g1:=T.keep g0 am.size (fun k hk hl=>am.block k hl (fun e=>B9 k e.symm hk.1));exact T.wide g1 (fun k hk _=>⟨.inr (.inl hk.1),wF k hk.2 (fun e=>B9 k e.symm hk.1)⟩)
theorem wpList_joinO {w w':World} {ops:Array Oper} {rest:List Oper} {o:Oper} {a:Act} {Q:Exit->Act->World->Prop} (jv:o.guard=none) (s x:Operand) (t:TypeId) (ho:o.op=.call { callee:=.builtin .append,args:=#[s,x],argTypes:=#[t,t] }) (v u v':Value) (hs:a.eval s=v) (hx:a.eval x=u)
  (hr:(Builtin.append_ #[t,t] o.type #[v,u]).run Tryz.prog w=.ok v' w') (h:wpList Tryz.prog ops Q rest (a.put o.dst v') w'):wpList Tryz.prog ops Q (o :: rest) a w:=by
 refine wpList_plain jv fun _ hK=>?_;unfold Oper.wp execOp;simp only [ho,resolve,invoke,builtin,Sem.run_bind,Sem.run_pure,Result.andThen_ok,List.map_toArray,List.map_cons,List.map_nil,hs,hx,hr];exact hK _ _ h
theorem oper_joinO {w w':World} {o:Oper} {a:Act} {K:Act->World->Prop} {Q:Exit->Act->World->Prop} (s x:Operand) (t:TypeId) (ho:o.op=.call { callee:=.builtin .append,args:=#[s,x],argTypes:=#[t,t] }) (v u v':Value) (hs:a.eval s=v) (hx:a.eval x=u)
  (hr:(Builtin.append_ #[t,t] o.type #[v,u]).run Tryz.prog w=.ok v' w') (h:K (a.put o.dst v') w'):Oper.wp Tryz.prog o a w K Q:=by
 unfold Oper.wp execOp;simp only [ho,resolve,invoke,builtin,Sem.run_bind,Sem.run_pure,Result.andThen_ok,List.map_toArray,List.map_cons,List.map_nil,hs,hx,hr];exact h
theorem row_tail {α:Type} {T:Kind α} {ok:Nat->Prop} {w:World} {ao:Option Addr} {n cap c:Nat} {l:List α} (h:HRow T ok w (.slice ao n cap) l) (hc:c<=n):HRow T ok w (sliced ao c n cap T.k) (l.drop c):=by
 obtain ⟨C,⟨a,cp,hv,h2,h3,h4⟩,hC⟩:=h;injection hv with e1 e2 e3;subst e1 e2 e3;have hl:(l.drop c).length=l.length-c:=List.length_drop;unfold sliced;refine ⟨fun i=>C (c+i),⟨_,_,by rw [hl],by omega,by omega,fun h0=>?_⟩,fun j hj=>?_⟩
 ·rw [hl] at h0
  obtain ⟨b,o,rfl,hb,iA,jR⟩:=h4 (by omega);rw [if_neg (by omega)];have dn:(⟨b,o,none⟩:Addr).add (c*T.k)=⟨b,o+c*T.k,none⟩:=by unfold Addr.add;split<;>simp_all
  refine ⟨b,o+c*T.k,by rw [Option.map_some,dn],hb,iA,fun i hi=>?_⟩;rw [hl] at hi;have hh:=jR (c+i) (by omega);refine ⟨hh.1,fun j hj=>?_⟩;rw [<-hh.2 j hj,Nat.add_mul]
  congr 2
  omega
 ·rw [hl] at hj
  have:=hC (c+j) (by omega);rw [List.getElem_drop];exact this
theorem row_head {α:Type} {T:Kind α} {ok:Nat->Prop} {w:World} {ao:Option Addr} {n cap c:Nat} {l:List α} (h:HRow T ok w (.slice ao n cap) l) (hc:c<=n):HRow T ok w (.slice ao c cap) (l.take c):=by
 obtain ⟨C,⟨a,cp,hv,h2,h3,h4⟩,hC⟩:=h;injection hv with e1 e2 e3;subst e1 e2 e3;have hl:(l.take c).length=c:=(by rw [List.length_take];omega);refine ⟨C,⟨_,_,by rw [hl],by omega,by omega,fun h0=>?_⟩,fun j hj=>?_⟩
 ·rw [hl] at h0
  obtain ⟨b,o,rfl,hb,iA,jR⟩:=h4 (by omega);exact ⟨b,o,rfl,hb,iA,fun i hi=>jR i (by omega)⟩
 ·rw [hl] at hj
  have:=hC j (by omega);rw [List.getElem_take];exact this
structure OwnN (ok:Nat->Prop) (w:World) (v:Value) (l:List Nd) (k:Nat) (hk:k<l.length) (g cap:Nat) (y:NdV):Prop where
 form:v=.slice (some ⟨g,0,none⟩) l.length cap
 okg:ok g
 lt:g<w.heap.size
 le:l.length<=cap
 most:cap<=maxLen
 cells:NdAt w g (k*7) y
 holds:HNd (fun i=>ok i/\i≠g) w y l[k]
 blk:∃ aR,w.heap[g]?=some (.cells aR 47 (0,0))
theorem OwnN.keep {ok:Nat->Prop} {w w':World} {v:Value} {l:List Nd} {k:Nat} {hk:k<l.length} {g cap:Nat} {y:NdV} (h:OwnN ok w v l k hk g cap y) (hs:w.heap.size<=w'.heap.size) (hb:∀ i,ok i->i<w.heap.size->w'.heap[i]?=w.heap[i]?):OwnN ok w' v l k hk g cap y:=by
 have hg:=hb g h.okg h.lt;obtain ⟨aR,hc⟩:=h.blk;exact ⟨h.form,h.okg,Nat.lt_of_lt_of_le h.lt hs,h.le,h.most,h.cells.keep hg,h.holds.keep hs (fun i hi hl=>hb i hi.1 hl),⟨aR,hg.trans hc⟩⟩
theorem own_node {ok:Nat->Prop} {w:World} {v:Value} {l:List Nd} (h:OwnX kNode ok w v l) {k:Nat} (hk:k<l.length):∃ g cap y,OwnN ok w v l k hk g cap y:=by
 have h0:=h;obtain ⟨D,aU,bm,hD⟩:=h;obtain ⟨ao,cap,hv,h1,h2,h3⟩:=zBG aU (fun i hi=>kNode.len (hD i hi));obtain ⟨b,o,rfl,_,hb,hc⟩:=h3 (by omega);rcases aU.2 with ⟨e,h0⟩ | ⟨g,c,aR,e,PF,hg,eR,eV,gq,gP⟩
 ·omega
 ·rw [hv] at e
  injection e with e1 e2 e3;injection e1 with e1;injection e1 with e1 e4;subst e1 e4 e3;obtain ⟨y,hy,hn⟩:=hD k hk;have dX:∀ j,j<7->w.cell? ⟨b,0+k*7+j,none⟩=(D k)[j]?:=(hc k hk).2;have gA:v.ownBlock=some b:=(by rw [hv];rfl);rw [gA] at hn;rw [hy] at dX;refine ⟨b,cap,y,⟨hv,bm b gA,hb,h1,h2,?_,hn.wide (fun i hi _=>⟨hi.1,fun e=>hi.2 (by rw [e])⟩),⟨aR,hg⟩⟩⟩;refine ⟨?_,?_,?_,?_,?_,?_,?_⟩
  ·have:=dX 0 (by decide);simpa [NdV.cells] using this
  ·have:=dX 1 (by decide);simpa [NdV.cells] using this
  ·have:=dX 2 (by decide);simpa [NdV.cells] using this
  ·have:=dX 3 (by decide);simpa [NdV.cells] using this
  ·have:=dX 4 (by decide);simpa [NdV.cells] using this
  ·have:=dX 5 (by decide);simpa [NdV.cells] using this
  ·have:=dX 6 (by decide);simpa [NdV.cells] using this
theorem own_put {ok okN:Nat->Prop} {w:World} {v u:Value} {l:List Nd} {k:Nat} {hk:k<l.length} {g cap:Nat} {y:NdV} (h:OwnX kNode ok w v l) (hy:OwnN ok w v l k hk g cap y) {eqs:List Eqn} (hu:HEqs okN w u eqs) (hg:¬okN g) :
  HNds (fun i=>ok i\/okN i) (w.setCell ⟨g,k*7+6,none⟩ u) v (l.set k { l[k] with eqs:=eqs }):=by
 obtain ⟨D,aU,bm,hD⟩:=h;obtain ⟨ao,cp,hv,h1,h2,h3⟩:=zBG aU (fun i hi=>kNode.len (hD i hi));obtain ⟨b,o,rfl,_,hb,hc⟩:=h3 (by omega);have hf:=hy.form;rw [hv] at hf;injection hf with f1 f2 f3;injection f1 with f1;injection f1 with f1 f4;subst f1 f4 f3;have gA:v.ownBlock=some b:=(by rw [hv];rfl);obtain ⟨aR,vz⟩:∃ aR,w.heap[b]?=some (.cells aR 47 (0,0)):=by
  rcases aU.2 with ⟨e,h0⟩ | ⟨g,c,aR,e,PF,hg,_⟩
  ·omega
  ·rw [e] at gA
   injection gA with e1;rw [<-e1];exact ⟨aR,hg⟩
 have hS:=zAD vz (k*7+6) u;obtain ⟨ua,uc,rfl,u1,u2,_⟩:=hu.at;have Cx:∀ j,j<l.length->∃ x:NdV,D j=x.cells:=fun j hj=>by
  obtain ⟨x,e,_⟩:=hD j hj;exact ⟨x,e⟩
 have hn:(l.set k { l[k] with eqs:=eqs }).length=l.length:=List.length_set;refine ⟨fun j=>if j=k then ({ y with a6:=ua,n6:=eqs.length,c6:=uc }:NdV).cells else D j,⟨some ⟨b,0,none⟩,cp,by rw [hn];exact hv,by omega,by omega,fun _=>⟨b,0,rfl,.inl hy.okg,by simpa [World.setCell] using hb,fun j hj=>?_⟩⟩,fun j hj=>?_⟩
 ·rw [hn] at hj
  have aC:=(hc j hj).1;have av:∀ i,i<7->w.cell? ⟨b,0+j*7+i,none⟩=(D j)[i]?:=(hc j hj).2;by_cases e:j=k
  ·subst e
   simp only [if_pos];refine ⟨rfl,fun i hi=>?_⟩;rw [co hS];have Ll:=hy.cells;unfold NdAt at Ll;obtain ⟨y0,y1,y2,y3,y4,y5,y6⟩:=Ll;rw [co vz] at y0 y1 y2 y3 y4 y5 y6
   match i,hi with
   | 0,_=>rw [Array.getElem?_setIfInBounds_ne (by omega)];simpa [NdV.cells] using y0
   | 1,_=>rw [Array.getElem?_setIfInBounds_ne (by omega)];simpa [NdV.cells] using y1
   | 2,_=>rw [Array.getElem?_setIfInBounds_ne (by omega)];simpa [NdV.cells] using y2
   | 3,_=>rw [Array.getElem?_setIfInBounds_ne (by omega)];simpa [NdV.cells] using y3
   | 4,_=>rw [Array.getElem?_setIfInBounds_ne (by omega)];simpa [NdV.cells] using y4
   | 5,_=>rw [Array.getElem?_setIfInBounds_ne (by omega)];simpa [NdV.cells] using y5
   | 6,_=>
    have ak:j*7+6<aR.size:=by
     apply Classical.byContradiction
     intro hh;rw [Array.getElem?_eq_none (by omega)] at y6
     cases y6
    rw [show 0+j*7+6=j*7+6 by omega,Array.getElem?_setIfInBounds_self_of_lt ak];rfl
  ·simp only [if_neg e]
   refine ⟨aC,fun i hi=>?_⟩;have hi:i<7:=hi;rw [<-av i hi,co hS,co vz,Array.getElem?_setIfInBounds_ne (by omega)]
 ·rw [hn] at hj
  by_cases e:j=k
  ·subst e
   simp only [if_pos,List.getElem_set_self];refine ⟨_,rfl,?_⟩;have hh:=(hy.holds.set (p:=⟨b,j*7+6,none⟩) (fun e=>e.2 rfl) (.slice ua eqs.length uc)).wide (ok':=fun i=>ok i\/okN i) (fun i hi _=>.inl hi.1);exact ⟨hh.name,hh.place,hh.sizes,hh.inn,hh.out,hh.loc,(hu.set (p:=⟨b,j*7+6,none⟩) hg _).wide (fun i hi _=>.inr hi)⟩
  ·simp only [if_neg e,List.getElem_set_ne (fun h=>e h.symm)]
   obtain ⟨x,ex,hx⟩:=hD j hj;refine ⟨x,ex,?_⟩;rw [gA] at hx;exact (hx.set (p:=⟨b,k*7+6,none⟩) (fun e=>e.2 rfl) _).wide (fun i hi _=>.inl hi.1)
theorem zAG {P:Program} {ops:Array Oper} {Q:Exit->Act->World->Prop} {md:Region.Mode} {S:World->Prop} {late:Nat->Bool} {i:Nat} {oi:Oper} {fuel:Nat} {listed:Array Bool} {a:Act} {w:World} (hi:ops[i]?=some oi)
  (hs:Region.noSelect ops=true) (hf:Region.free md ops listed i=true) (hr:(Region.ready md ops listed).contains i=true) (hl:waitFor md ops late listed i=true)
  (hQ:∀ c a w,Q (.panic c) (a.put oi.dst undef) w->Q (.panic c) a w) (hS:S w) (hw:Region.wanted oi (yielded ops a.tmps)=false)
  (h:wpAnyL P md ops Q S late fuel (listed.setIfInBounds i true) (a.put oi.dst undef) w):wpAnyL P md ops Q S late (fuel+1) listed a w:=
 zDg hi (Region.noSelect_spec hs) hQ fuel listed a w (Region.free_spec hi hf) (zDf hl) (by simpa using hr) (.inr ⟨hw,rfl⟩) hS h
theorem zFP {ok:Nat->Prop} {w:World} {v:Value} {a b:Kd.Ty} (k:Int) (hl:HTys ok w v [a,b]) (hG:GlobK w) :
  Calls Tryz.prog 169 #[.int .i64 k,v] w fun r w'=>r=.returned (.bool (Kd.isFold k a b))/\Below w.heap.size w w':=by
 obtain ⟨la,lc,rfl,_,_,ai⟩:=hl.at;obtain ⟨bl,ol,aa,na,ca,rfl,yl,x0,x1,dl⟩:=ai 0 (by simp);obtain ⟨Ak,AZ,ab,nb,cb,e2,qQ,z0,z1,eI⟩:=ai 1 (by simp);injection e2 with e2;injection e2 with e3 e4 _;subst e3 e4;simp at x0 x1 z0 z1 dl eI;have eM:=zAA dl;have ij:=zAA eI;have HG:=zAA hG;obtain ⟨R,hR⟩:=nmQ (Kd.isFold k a b);rw [<-hR];unfold Kd.isFold at hR;have hc:=op_any k w hG;have hf:=folds_any k;clear ai hl dl eI hG;generalize Kd.opT k=oq at hc hR;obtain ⟨tk,mk,n⟩:=oq
 dsimp only at hc hR
 generalize Kd.folds k=Q1 at hf hR;go_enter Tryz.func169,Tryz.ntmps169;go_wp2_with fail;refine hc.mono ?_;rintro e w1 ⟨rfl,b1⟩;clear hc;have hc:=hf w1 (HG.out.under b1);go_wp2_with fail;refine hc.mono ?_;rintro e w2 ⟨rfl,b2⟩;clear hc hf;have B2:=b1.trans (b2.mono b1.size);have s0:=(B2.cell (p:=⟨bl,ol,none⟩) yl).trans x0;have s1:=(B2.cell (p:=⟨bl,ol+1,none⟩) yl).trans x1;have t0:=(B2.cell (p:=⟨bl,ol+2,none⟩) yl).trans z0;have t1:=(B2.cell (p:=⟨bl,ol+2+1,none⟩) yl).trans z1;have y2:=Nat.lt_of_lt_of_le yl B2.size
 cases Q1
 case false=>
  have hf:R=false:=(by rw [hR];simp);clear hR;subst hf;go_wp2;go_ret;exact ⟨rfl,B2⟩
 case true=>
  rw [Bool.true_and] at hR;have hc:=zAZ (eM.out.under B2) tk;generalize Kd.isSc a tk=q1 at hc hR;go_wp2_with fail;refine hc.mono ?_;rintro e w3 ⟨rfl,b3⟩;clear hc;have B3:=B2.trans (b3.mono B2.size);have PO:=(b3.cell (p:=⟨bl,ol+2,none⟩) y2).trans t0;have Md:=(b3.cell (p:=⟨bl,ol+2+1,none⟩) y2).trans t1
  cases q1
  case false=>
   have hf:R=false:=(by rw [hR];simp);clear hR;subst hf;go_wp2;go_ret;exact ⟨rfl,B3⟩
  case true=>
   rw [Bool.true_and] at hR;have hc:=zAq (ij.out.under B3) tk;generalize Kd.isAr b tk=q2 at hc hR;subst hR;go_wp2_with fail;refine hc.mono ?_;rintro e w4 ⟨rfl,b4⟩;go_wp2;go_ret;exact ⟨rfl,B3.trans (b4.mono B3.size)⟩
theorem zEP {ok:Nat->Prop} {w:World} {v:Value} {a b c:Kd.Ty} (hl:HTys ok w v [a,b,c]) :
  Calls Tryz.prog 171 #[v] w fun r w'=>r=.returned (.bool (Kd.isPlace a b c))/\Below w.heap.size w w':=by
 obtain ⟨la,lc,rfl,_,_,ai⟩:=hl.at;obtain ⟨bl,ol,aa,na,ca,rfl,yl,x0,x1,dl⟩:=ai 0 (by simp);obtain ⟨Ak,AZ,ab,nb,cb,e2,qQ,z0,z1,eI⟩:=ai 1 (by simp);injection e2 with e2;injection e2 with e3 e4 _;subst e3 e4;obtain ⟨Qr,P7,ac,nc,cc,e2,QO,u0,u1,lA⟩:=ai 2 (by simp);injection e2 with e2;injection e2 with e3 e4 _;subst e3 e4;simp at x0 x1 z0 z1 u0 u1 dl eI lA;have eM:=zAA dl;have ij:=zAA eI;have sq:=zAA lA;obtain ⟨R,hR⟩:=nmQ (Kd.isPlace a b c);rw [<-hR];unfold Kd.isPlace at hR;clear ai hl dl eI lA;go_enter Tryz.func171,Tryz.ntmps171;go_upto_region 1 with fail;generalize tg:Kd.arr a=q0 at hR;generalize nF:Kd.isSc b 105=q1 at hR;generalize Jq:Kd.isSc c a.elem=q2 at hR;have Gd:=zAA tg;have Jf:=zAA nF;have OH:=zAA Jq;clear tg nF Jq
 cases q0
 case false=>
  have hf:R=false:=(by rw [hR];simp);clear hR;subst hf;refine zAE (fun w'=>Below w.heap.size w w') (fun _=>false) (by kernel_rfl) ?_;have af:Below w.heap.size w w.drew:=(Below.refl _ _).drew;generalize w.drew=aW at af ⊢;refine' tkR 0 3 af ?o1
  refine' tkR 1 4 af ?o2
  refine' tkQ 2 5 af ?hyv ?o3
  case hyv=>
   intro wz ae;have bI:=(ae.cell (p:=⟨bl,ol,none⟩) yl).trans x0;have d9:=(ae.cell (p:=⟨bl,ol+1,none⟩) yl).trans x1;go_simp
   try rfl
  try simp only [Act.put,sT,sZ,sS]
  refine tnQ 3 (fun K hK=>?_);go_simp;refine (zAP (eM.out.under af)).mono ?_;rintro eq cW ⟨rfl,dL⟩;have al:Below w.heap.size w cW:=af.trans (dL.mono af.size);rw [Gd.out];refine hK.out _ _ (fun _=>al) ?_;clear hK K
  try simp only [Act.put,sT,sZ,sS]
  refine' tkR 4 7 al ?o4
  refine zAG (i:=5) (oi:=⟨some 8,_,_,_,_,_⟩) rfl (by kernel_rfl) (by kernel_rfl) (by kernel_rfl) (by kernel_rfl) (fun _ _ _ h=>h) al (by rfl) ?_
  try simp only [Act.put,sT,sZ,sS]
  refine zAG (i:=6) (oi:=⟨some 9,_,_,_,_,_⟩) rfl (by kernel_rfl) (by kernel_rfl) (by kernel_rfl) (by kernel_rfl) (fun _ _ _ h=>h) al (by rfl) ?_
  try simp only [Act.put,sT,sZ,sS]
  refine zAG (i:=7) (oi:=⟨some 10,_,_,_,_,_⟩) rfl (by kernel_rfl) (by kernel_rfl) (by kernel_rfl) (by kernel_rfl) (fun _ _ _ h=>h) al (by rfl) ?_
  try simp only [Act.put,sT,sZ,sS]
  refine zAG (i:=8) (oi:=⟨some 11,_,_,_,_,_⟩) rfl (by kernel_rfl) (by kernel_rfl) (by kernel_rfl) (by kernel_rfl) (fun _ _ _ h=>h) al (by rfl) ?_
  try simp only [Act.put,sT,sZ,sS]
  refine' tkR 9 12 al ?o5
  refine' tkR 10 13 al ?o6
  refine zAG (i:=11) (oi:=⟨some 14,_,_,_,_,_⟩) rfl (by kernel_rfl) (by kernel_rfl) (by kernel_rfl) (by kernel_rfl) (fun _ _ _ h=>h) al (by rfl) ?_
  try simp only [Act.put,sT,sZ,sS]
  refine zAG (i:=12) (oi:=⟨some 15,_,_,_,_,_⟩) rfl (by kernel_rfl) (by kernel_rfl) (by kernel_rfl) (by kernel_rfl) (fun _ _ _ h=>h) al (by rfl) ?_
  try simp only [Act.put,sT,sZ,sS]
  refine zAG (i:=13) (oi:=⟨some 16,_,_,_,_,_⟩) rfl (by kernel_rfl) (by kernel_rfl) (by kernel_rfl) (by kernel_rfl) (fun _ _ _ h=>h) al (by rfl) ?_
  try simp only [Act.put,sT,sZ,sS]
  refine zAG (i:=14) (oi:=⟨some 17,_,_,_,_,_⟩) rfl (by kernel_rfl) (by kernel_rfl) (by kernel_rfl) (by kernel_rfl) (fun _ _ _ h=>h) al (by rfl) ?_
  try simp only [Act.put,sT,sZ,sS]
  refine zAG (i:=15) (oi:=⟨some 18,_,_,_,_,_⟩) rfl (by kernel_rfl) (by kernel_rfl) (by kernel_rfl) (by kernel_rfl) (fun _ _ _ h=>h) al (by rfl) ?_
  try simp only [Act.put,sT,sZ,sS]
  refine zAG (i:=16) (oi:=⟨some 19,_,_,_,_,_⟩) rfl (by kernel_rfl) (by kernel_rfl) (by kernel_rfl) (by kernel_rfl) (fun _ _ _ h=>h) al (by rfl) ?_
  try simp only [Act.put,sT,sZ,sS]
  refine zAG (i:=17) (oi:=⟨some 20,_,_,_,_,_⟩) rfl (by kernel_rfl) (by kernel_rfl) (by kernel_rfl) (by kernel_rfl) (fun _ _ _ h=>h) al (by rfl) ?_
  try simp only [Act.put,sT,sZ,sS]
  refine zAG (i:=18) (oi:=⟨some 21,_,_,_,_,_⟩) rfl (by kernel_rfl) (by kernel_rfl) (by kernel_rfl) (by kernel_rfl) (fun _ _ _ h=>h) al (by rfl) ?_
  try simp only [Act.put,sT,sZ,sS]
  refine' tkR 19 22 al ?o7
  refine' tkR 20 2 al ?o8
  refine zAF (by kernel_rfl) ?_ _;go_wp2;go_ret;exact ⟨rfl,al⟩
 case true=>
  rw [Bool.true_and] at hR
  cases q1
  case false=>
   have hf:R=false:=(by rw [hR];simp);clear hR;subst hf;refine zAE (fun w'=>Below w.heap.size w w') (fun _=>false) (by kernel_rfl) ?_;have af:Below w.heap.size w w.drew:=(Below.refl _ _).drew;generalize w.drew=aW at af ⊢;refine' tkR 0 3 af ?o9
   refine' tkR 1 4 af ?o10
   refine' tkQ 2 5 af ?hyv ?o11
   case hyv=>
    intro wz ae;have bI:=(ae.cell (p:=⟨bl,ol,none⟩) yl).trans x0;have d9:=(ae.cell (p:=⟨bl,ol+1,none⟩) yl).trans x1;go_simp
    try rfl
   try simp only [Act.put,sT,sZ,sS]
   refine tnQ 3 (fun K hK=>?_);go_simp;refine (zAP (eM.out.under af)).mono ?_;rintro eq cW ⟨rfl,dL⟩;have al:Below w.heap.size w cW:=af.trans (dL.mono af.size);rw [Gd.out];refine hK.out _ _ (fun _=>al) ?_;clear hK K
   try simp only [Act.put,sT,sZ,sS]
   refine' tkR 4 7 al ?o12
   refine' tkR 5 8 al ?o13
   refine' tkR 6 9 al ?o14
   refine' tkQ 7 10 al ?hyv ?o15
   case hyv=>
    intro wz ae;have bI:=(ae.cell (p:=⟨bl,ol+2,none⟩) yl).trans z0;have d9:=(ae.cell (p:=⟨bl,ol+2+1,none⟩) yl).trans z1;go_simp
    try rfl
   try simp only [Act.put,sT,sZ,sS]
   refine tnQ 8 (fun K hK=>?_);go_simp;refine (zAZ (ij.out.under al) 105).mono ?_;rintro eq fY ⟨rfl,ib⟩;have aK:Below w.heap.size w fY:=al.trans (ib.mono al.size);rw [Jf.out];refine hK.out _ _ (fun _=>aK) ?_;clear hK K
   try simp only [Act.put,sT,sZ,sS]
   refine' tkR 9 12 aK ?o16
   refine' tkR 10 13 aK ?o17
   refine zAG (i:=11) (oi:=⟨some 14,_,_,_,_,_⟩) rfl (by kernel_rfl) (by kernel_rfl) (by kernel_rfl) (by kernel_rfl) (fun _ _ _ h=>h) aK (by rfl) ?_
   try simp only [Act.put,sT,sZ,sS]
   refine zAG (i:=12) (oi:=⟨some 15,_,_,_,_,_⟩) rfl (by kernel_rfl) (by kernel_rfl) (by kernel_rfl) (by kernel_rfl) (fun _ _ _ h=>h) aK (by rfl) ?_
   try simp only [Act.put,sT,sZ,sS]
   refine zAG (i:=13) (oi:=⟨some 16,_,_,_,_,_⟩) rfl (by kernel_rfl) (by kernel_rfl) (by kernel_rfl) (by kernel_rfl) (fun _ _ _ h=>h) aK (by rfl) ?_
   try simp only [Act.put,sT,sZ,sS]
   refine zAG (i:=14) (oi:=⟨some 17,_,_,_,_,_⟩) rfl (by kernel_rfl) (by kernel_rfl) (by kernel_rfl) (by kernel_rfl) (fun _ _ _ h=>h) aK (by rfl) ?_
   try simp only [Act.put,sT,sZ,sS]
   refine zAG (i:=15) (oi:=⟨some 18,_,_,_,_,_⟩) rfl (by kernel_rfl) (by kernel_rfl) (by kernel_rfl) (by kernel_rfl) (fun _ _ _ h=>h) aK (by rfl) ?_
   try simp only [Act.put,sT,sZ,sS]
   refine zAG (i:=16) (oi:=⟨some 19,_,_,_,_,_⟩) rfl (by kernel_rfl) (by kernel_rfl) (by kernel_rfl) (by kernel_rfl) (fun _ _ _ h=>h) aK (by rfl) ?_
   try simp only [Act.put,sT,sZ,sS]
   refine zAG (i:=17) (oi:=⟨some 20,_,_,_,_,_⟩) rfl (by kernel_rfl) (by kernel_rfl) (by kernel_rfl) (by kernel_rfl) (fun _ _ _ h=>h) aK (by rfl) ?_
   try simp only [Act.put,sT,sZ,sS]
   refine zAG (i:=18) (oi:=⟨some 21,_,_,_,_,_⟩) rfl (by kernel_rfl) (by kernel_rfl) (by kernel_rfl) (by kernel_rfl) (fun _ _ _ h=>h) aK (by rfl) ?_
   try simp only [Act.put,sT,sZ,sS]
   refine' tkR 19 22 aK ?o18
   refine' tkR 20 2 aK ?o19
   refine zAF (by kernel_rfl) ?_ _;go_wp2;go_ret;exact ⟨rfl,aK⟩
  case true=>
   rw [Bool.true_and] at hR;subst hR;refine zAE (fun w'=>Below w.heap.size w w') (fun _=>false) (by kernel_rfl) ?_;have af:Below w.heap.size w w.drew:=(Below.refl _ _).drew;generalize w.drew=aW at af ⊢;refine' tkR 0 3 af ?o20
   refine' tkR 1 4 af ?o21
   refine' tkQ 2 5 af ?hyv ?o22
   case hyv=>
    intro wz ae;have bI:=(ae.cell (p:=⟨bl,ol,none⟩) yl).trans x0;have d9:=(ae.cell (p:=⟨bl,ol+1,none⟩) yl).trans x1;go_simp
    try rfl
   try simp only [Act.put,sT,sZ,sS]
   refine tnQ 3 (fun K hK=>?_);go_simp;refine (zAP (eM.out.under af)).mono ?_;rintro eq cW ⟨rfl,dL⟩;have al:Below w.heap.size w cW:=af.trans (dL.mono af.size);rw [Gd.out];refine hK.out _ _ (fun _=>al) ?_;clear hK K
   try simp only [Act.put,sT,sZ,sS]
   refine' tkR 4 7 al ?o23
   refine' tkR 5 8 al ?o24
   refine' tkR 6 9 al ?o25
   refine' tkQ 7 10 al ?hyv ?o26
   case hyv=>
    intro wz ae;have bI:=(ae.cell (p:=⟨bl,ol+2,none⟩) yl).trans z0;have d9:=(ae.cell (p:=⟨bl,ol+2+1,none⟩) yl).trans z1;go_simp
    try rfl
   try simp only [Act.put,sT,sZ,sS]
   refine tnQ 8 (fun K hK=>?_);go_simp;refine (zAZ (ij.out.under al) 105).mono ?_;rintro eq fY ⟨rfl,ib⟩;have aK:Below w.heap.size w fY:=al.trans (ib.mono al.size);rw [Jf.out];refine hK.out _ _ (fun _=>aK) ?_;clear hK K
   try simp only [Act.put,sT,sZ,sS]
   refine' tkR 9 12 aK ?o27
   refine' tkR 10 13 aK ?o28
   refine' tkR 11 14 aK ?o29
   refine' tkR 12 15 aK ?o30
   refine' tkQ 13 16 aK ?hyv ?o31
   case hyv=>
    intro wz ae;have bI:=(ae.cell (p:=⟨bl,ol+4,none⟩) yl).trans u0;have d9:=(ae.cell (p:=⟨bl,ol+4+1,none⟩) yl).trans u1;go_simp
    try rfl
   try simp only [Act.put,sT,sZ,sS]
   refine' tkR 14 17 aK ?o32
   refine' tkR 15 18 aK ?o33
   refine' tkR 16 19 aK ?o34
   refine' tkQ 17 20 aK ?hyv ?o35
   case hyv=>
    intro wz ae;have bI:=(ae.cell (p:=⟨bl,ol,none⟩) yl).trans x0;have d9:=(ae.cell (p:=⟨bl,ol+1,none⟩) yl).trans x1;go_simp
    try rfl
   try simp only [Act.put,sT,sZ,sS]
   refine tnQ 18 (fun K hK=>?_);go_simp;refine (zAZ (sq.out.under aK) a.elem).mono ?_;rintro eq qH ⟨rfl,rv⟩;have g9:Below w.heap.size w qH:=aK.trans (rv.mono aK.size);rw [OH.out];refine hK.out _ _ (fun _=>g9) ?_;clear hK K
   try simp only [Act.put,sT,sZ,sS]
   refine' tkR 19 22 g9 ?o36
   refine' tkR 20 2 g9 ?o37
   refine zAF (by kernel_rfl) ?_ _;go_wp2;go_ret;exact ⟨rfl,g9⟩
end Go.Proofs.YtkfgbhlpjkkgfaaGreatDoor
