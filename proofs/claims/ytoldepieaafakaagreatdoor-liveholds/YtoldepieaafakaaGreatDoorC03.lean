import Derived.Test.YtoldepieaafakaaGreatDoorC02
import Derived.Deep.Slices
import GoSem.ClaimJoined
import Derived.Deep.DeepCutAuto
set_option linter.unusedVariables false
set_option linter.unusedSimpArgs false
set_option maxHeartbeats 64000000
set_option maxRecDepth 100000
namespace Go.Proofs.YtoldepieaafakaaGreatDoor
open Go.RowKit Go.IntWalk
def Moved (W:World) (v v':Value):Prop:=v'.ownBlock=v.ownBlock\/∃ k,v'.ownBlock=some k/\W.heap.size<=k
def Off (B:Nat) (v:Value) (k:Nat):Prop:=B<=k/\some k≠v.ownBlock
theorem Off.moved {B:Nat} {W:World} {v v':Value} (h:Moved W v v') {k:Nat} (hk:Off B v k) (hl:k<W.heap.size):Off B v' k:=by
 refine ⟨hk.1,fun e=>?_⟩;rcases h with h | ⟨q,hq,hz⟩
 ·exact hk.2 (e.trans h)
 ·rw [hq] at e
  injection e with e;omega
theorem grown_keep {B:Nat} {W W':World} {v:Value} (h:W.grownBy W' v.ownBlock):∀ k,Off B v k->k<W.heap.size->W'.heap[k]?=W.heap[k]?:=fun k hk hl=>h.block k hl hk.2
theorem Below.push {B:Nat} {w W W':World} {v:Value} {e:TypeId} {size n:Nat} {xs:List Value} (hb:Below B w W) (hB:B<=W.heap.size) (ho:W.ownsRow B e size v n xs) (hg:W.grownBy W' v.ownBlock):Below B w W' :=
 hb.grown hg hB (fun k hk=>(World.ownsRow.lt ho k hk).1)
end Go.Proofs.YtoldepieaafakaaGreatDoor
namespace Go.Proofs.YtoldepieaafakaaGreatDoor
open Go.RowKit Go.IntWalk Go.Deep
section
variable {H:Type} {enc:TypeId × Value->H} {w:World}
theorem all_append {l r:List Nat} (h:(l++r).all (·<=reachBytes)=true):l.all (·<=reachBytes)=true/\r.all (·<=reachBytes)=true:=by
 simpa [List.all_append] using h
theorem vK {P:Program} {e:TypeId}:∀ (l:List (DataW H)) (h:(DataW.weightsAll P e l).all (·<=reachBytes)=true) (i:Nat) (hi:i<l.length),((l[i]).weights P e).all (·<=reachBytes)=true
 | [],_,i,hi=>by simp at hi
 | d :: l,h,0,_=>by rw [DataW.weightsAll] at h;exact (all_append h).1
 | d :: l,h,i+1,hi=>by rw [DataW.weightsAll] at h;exact vK l (all_append h).2 i (by simpa using hi)
theorem xT {P:Program}:∀ (ts:List TypeId) (l:List (DataW H)) (h:(DataW.weightsEach P ts l).all (·<=reachBytes)=true) (i:Nat) (t:TypeId) (d:DataW H),ts[i]?=some t->l[i]?=some d->(d.weights P t).all (·<=reachBytes)=true
 | [],_,_,i,_,_,h1,_=>by simp at h1
 | _ :: _,[],_,i,_,_,_,h2=>by simp at h2
 | a :: ts,d :: l,h,0,_,_,h1,h2=>by
  rw [DataW.weightsEach] at h;simp at h1 h2;subst h1 h2;exact (all_append h).1
 | a :: ts,d :: l,h,i+1,t,x,h1,h2=>by
  rw [DataW.weightsEach] at h;exact xT ts l (all_append h).2 i t x (by simpa using h1) (by simpa using h2)
theorem add_none {a:Addr} (h:a.spot=none) (q:Nat):a.add q=⟨a.block,a.off+q,none⟩:=by
 obtain ⟨b,o,s⟩:=a;simp only at h;subst h;unfold Addr.add
 split<;>simp_all
theorem spot_none {w:World} {a:Addr} {v:Value} (h:w.cell? a=some v):a.spot=none/\a.block<w.heap.size:=by
 unfold World.cell? at h
 split at h
 ·rename_i hh
  refine ⟨?_,(Array.getElem?_eq_some_iff.1 hh).1⟩
  cases hs:a.spot with
  | none=>rfl
  | some s=>rw [hs] at h;simp at h
 ·cases h
theorem qO {t e:TypeId} {k bytes fuel:Nat} {cs:List Value} {x:DataW H × List MemPlace} (ht:Tryz.prog.underlying t=some (.slice e)) (hk:Tryz.prog.cellsOf e=k) (hk0:0<k) (hby:Tryz.prog.bytesOf e=bytes)
  (h:DataW.trod enc Tryz.prog w 0 (fun _=>true) true fuel t cs=some x) (hw:(x.1.weights Tryz.prog t).all (·<=reachBytes)=true) :
  ∃ (a:Option Addr) (n c:Nat) (C:Nat->List Value) (m:Nat) (D:Nat->DataW H) (Pl:Nat->List MemPlace),cs=[.slice a n c]/\Sl (fun _=>True) k w (.slice a n c) n C/\n*bytes<=140737488355328 /\
   ∀ i,i<n->DataW.trod enc Tryz.prog w 0 (fun _=>true) true m e (C i)=some (D i,Pl i)/\((D i).weights Tryz.prog e).all (·<=reachBytes)=true/\SizeOf.sizeOf (D i)<SizeOf.sizeOf x.1:=by
 rcases open_slice ht h with ⟨rfl,rfl⟩ | ⟨a,len,cap,m,n,D,Pl,rfl,_,hlc,hcm,hm,rfl,hx⟩
 ·exact ⟨none,0,0,fun _=>[],0,fun _=>.nil,fun _=>[],rfl,Sl.nil,by omega,fun i hi=>absurd hi (Nat.not_lt_zero _)⟩
 ·simp only [if_true] at hm
  subst hm;rw [DataW.weights] at hw;simp only [ht] at hw;rw [List.all_cons,Bool.and_eq_true] at hw;obtain ⟨hw1,hw2⟩:=hw;have hwe:=(all_append hw2).1;simp only [List.length_map,List.length_range,hby,decide_eq_true_eq,reachBytes] at hw1;rw [hk] at hx;obtain ⟨C,hC⟩:=choose_lt (α:=List Value) (p:=fun i cs'=>w.cells? 0 (a.add (i*k)) k=some cs'/\DataW.trod enc Tryz.prog w 0 (fun _=>true) true n e cs'=some (D i,Pl i)) hx;refine ⟨some a,len,m,C,n,D,Pl,rfl,⟨some a,m,rfl,hlc,hcm,fun hp=>?_⟩,?_,fun i hi=>⟨(hC i (by omega)).2,?_,?_⟩⟩
  ·obtain ⟨_,hl0,hc0⟩:=World.cells?_some (hC 0 (by omega)).1
   have h00:=hc0 0 hk0;rw [Nat.zero_mul] at h00;have e0:(a.add 0).add 0=a:=(by simp [Addr.add]);rw [e0] at h00;have hsome:∃ v,(C 0)[0]?=some v:=⟨(C 0)[0]'(by omega),List.getElem?_eq_getElem (by omega)⟩;obtain ⟨v,hv⟩:=hsome;rw [hv] at h00;obtain ⟨hs,hb⟩:=spot_none h00;refine ⟨a.block,a.off,?_,trivial,hb,fun i hi=>?_⟩
   ·obtain ⟨b,o,s⟩:=a
    simp only at hs;subst hs;rfl
   ·obtain ⟨_,hl,hc⟩:=World.cells?_some (hC i (by omega)).1
    refine ⟨hl,fun j hj=>?_⟩;rw [<-hc j hj,Deep.add_add,add_none hs,Nat.add_assoc]
  ·have:len*bytes<=(len+(m-len))*bytes:=Nat.mul_le_mul_right _ (by omega)
   omega
  ·have:=vK _ hwe i (by simpa using hi)
   simpa using this
  ·have h1:D i ∈ (List.range len).map D:=List.mem_map.2 ⟨i,List.mem_range.2 hi,rfl⟩
   have h2:=List.sizeOf_lt_of_mem h1;simp only [DataW.slice.sizeOf_spec];omega
end
end Go.Proofs.YtoldepieaafakaaGreatDoor
namespace Go.Proofs.YtoldepieaafakaaGreatDoor
open Go.RowKit Go.IntWalk Go.Deep
section
variable {H:Type} {enc:TypeId × Value->H} {w:World}
def Rd0 (enc:TypeId × Value->H) (w:World) (t:TypeId) (cs:List Value):Prop :=
 ∃ fuel x,DataW.trod enc Tryz.prog w 0 (fun _=>true) true fuel t cs=some x/\(x.1.weights Tryz.prog t).all (·<=reachBytes)=true
theorem jX {t:TypeId} {fs:Array Field} {fuel:Nat} {cs:List Value} {x:DataW H × List MemPlace} (ht:Tryz.prog.underlying t=some (.struct fs)) (h:DataW.trod enc Tryz.prog w 0 (fun _=>true) true fuel t cs=some x) (hw:(x.1.weights Tryz.prog t).all (·<=reachBytes)=true) :
  ∃ n,fuel=n+1/\cs.length=Tryz.prog.cellsOf t/\∀ (i:Nat) (f:Field),fs[i]?=some f->∃ y,DataW.trod enc Tryz.prog w 0 (fun _=>true) true n f.type ((cs.drop f.offset).take (Tryz.prog.cellsOf f.type))=some y/\(y.1.weights Tryz.prog f.type).all (·<=reachBytes)=true/\SizeOf.sizeOf y.1<SizeOf.sizeOf x.1:=by
 obtain ⟨xs,n,hn,rfl,hl,hxl,hx⟩:=DataW.trod_struct ht h;refine ⟨n,hn,hl,fun i f hf=>?_⟩;have hi:i<fs.size:=(Array.getElem?_eq_some_iff.1 hf).1;have hxi:xs[i]?=some (xs[i]'(by omega)):=List.getElem?_eq_getElem (by omega);refine ⟨xs[i]'(by omega),(hx i f hf).trans hxi,?_,?_⟩
 rotate_left
 ·have h1:(xs[i]'(by omega)).1 ∈ xs.map (·.1):=List.mem_map.2 ⟨_,List.getElem_mem (by omega),rfl⟩
  have h2:=List.sizeOf_lt_of_mem h1;simp only [DataW.agg.sizeOf_spec];omega
 rw [DataW.weights] at hw;simp only [ht] at hw;refine xT _ _ hw i f.type _ ?_ (by rw [List.getElem?_map,hxi];rfl);rw [List.getElem?_map];have:fs.toList[i]?=some f:=(by simpa using hf);rw [this];rfl
theorem zAX {cs:List Value} {t:TypeId} {k:IntKind} (ht:Tryz.prog.underlying t=some (.int k)) (h:Rd0 enc w t cs):∃ n,cs=[.int k n]:=by
 obtain ⟨fuel,x,h,_⟩:=h;obtain ⟨n,hs,_⟩:=DataW.trod_int ht h;exact ⟨n,hs⟩
theorem cells1 (t:TypeId) (h:Tryz.prog.cellsOf t=1) (cs:List Value) (i:Nat) (v:Value) (hv:cs[i]?=some v):(cs.drop i).take (Tryz.prog.cellsOf t)=[v]:=by
 obtain ⟨hi,he⟩:=List.getElem?_eq_some_iff.1 hv;rw [h,List.drop_eq_getElem_cons hi,List.take_succ_cons,List.take_zero,he]
theorem zB {t:TypeId} {fs:Array Field} {cs:List Value} (ht:Tryz.prog.underlying t=some (.struct fs)) (h:Rd0 enc w t cs) (i:Nat) (ft off:Nat) (hfi:(fs[i]?).map (fun f=>(f.type,f.offset))=some (ft,off)) (hc:Tryz.prog.cellsOf ft=1) (v:Value) (hv:cs[off]?=some v):Rd0 enc w ft [v]:=by
 obtain ⟨fuel,x,h,hw⟩:=h;obtain ⟨n,rfl,hl,hf⟩:=jX ht h hw
 cases hfe:fs[i]? with
 | none=>rw [hfe] at hfi;cases hfi
 | some f=>
  rw [hfe] at hfi;simp only [Option.map_some,Option.some.injEq,Prod.mk.injEq] at hfi;obtain ⟨y,a0,b0,_⟩:=hf i f hfe;rw [hfi.1,hfi.2,cells1 ft hc cs off v hv] at a0;rw [hfi.1] at b0;exact ⟨n,y,a0,b0⟩
theorem len_of {t:TypeId} {fs:Array Field} {cs:List Value} (ht:Tryz.prog.underlying t=some (.struct fs)) (h:Rd0 enc w t cs):cs.length=Tryz.prog.cellsOf t:=by
 obtain ⟨fuel,x,h,hw⟩:=h;obtain ⟨n,rfl,hl,hf⟩:=jX ht h hw;exact hl
theorem c2:Tryz.prog.cellsOf 2=1:=by kernel_rfl
theorem c3:Tryz.prog.cellsOf 3=1:=by kernel_rfl
theorem c5:Tryz.prog.cellsOf 5=1:=by kernel_rfl
theorem vG {α:Type} [Inhabited α] (n:Nat) (f:Nat->α):∃ l:List α,l.length=n/\∀ i (h:i<l.length),l[i]=f i :=
 ⟨(List.range n).map f,by simp,fun i h=>by simp⟩
instance:Inhabited Tm:=⟨(0,⟨#[]⟩)⟩
instance:Inhabited De:=⟨⟨⟨#[]⟩,0,[]⟩⟩
instance:Inhabited Ex:=⟨.mk 0 0 0 ⟨#[]⟩ [] []⟩
instance:Inhabited Eqn:=⟨⟨0,[],⟨#[]⟩,[],[]⟩⟩
instance:Inhabited Nd:=⟨⟨⟨#[]⟩,0,[],[],[],[],[]⟩⟩
end
end Go.Proofs.YtoldepieaafakaaGreatDoor
namespace Go.Proofs.YtoldepieaafakaaGreatDoor
open Go.RowKit Go.IntWalk
structure Kind (α:Type) where
 ty:TypeId
 k:Nat
 bytes:Nat
 zero:Value
 E:(Nat->Prop)->World->List Value->α->Prop
 pos:0<k
 zs:zero.cells.size=k
 info:(Tryz.prog.info? ty).map (fun i=>(i.zero,i.size,i.bytes))=some (some zero,k,bytes)
 len:∀ {ok w cs a},E ok w cs a->cs.length=k
 one:∀ {ok w cs a},E ok w cs a->∀ u ∈ cs,u.oneCell'=true
 keep:∀ {ok w w' cs a},E ok w cs a->w.heap.size<=w'.heap.size->(∀ i,ok i->i<w.heap.size->w'.heap[i]?=w.heap[i]?)->E ok w' cs a
 wide:∀ {ok ok' w cs a},E ok w cs a->(∀ i,ok i->i<w.heap.size->ok' i)->E ok' w cs a
def OwnL {α:Type} (T:Kind α) (B:Nat) (w:World) (v:Value) (l:List α):Prop :=
 ∃ D,w.ownsRow B T.ty T.k v l.length (flat D l.length)/\∀ j (h:j<l.length),T.E (Off B v) w (D j) l[j]
def HRow {α:Type} (T:Kind α) (ok:Nat->Prop) (w:World) (v:Value) (l:List α):Prop :=
 ∃ C,Sl ok T.k w v l.length C/\∀ j (h:j<l.length),T.E ok w (C j) l[j]
theorem OwnL.nil {α:Type} {T:Kind α} {B:Nat} {w:World}:OwnL T B w (.slice none 0 0) [] :=
 ⟨fun _=>[],World.ownsRow_nil _ _ _ _,fun j h=>absurd h (Nat.not_lt_zero _)⟩
theorem OwnL.lt {α:Type} {T:Kind α} {B:Nat} {w:World} {v:Value} {l:List α} (h:OwnL T B w v l):∀ k,v.ownBlock=some k->B<=k/\k<w.heap.size:=by
 obtain ⟨D,h1,h2⟩:=h;exact fun k hk=>World.ownsRow.lt h1 k hk
theorem OwnL.form {α:Type} {T:Kind α} {B:Nat} {w:World} {v:Value} {l:List α} (h:OwnL T B w v l):∃ a c,v=.slice a l.length c/\l.length<=c/\c<=maxLen:=by
 obtain ⟨D,h1,h2⟩:=h;rcases h1.2 with ⟨rfl,h0⟩ | ⟨g,cap,cur,rfl,hb,hg,hnc,hcm,_⟩
 ·exact ⟨none,0,by rw [h0],by omega,by unfold maxLen;omega⟩
 ·exact ⟨_,_,rfl,hnc,hcm⟩
theorem OwnL.keep {α:Type} {T:Kind α} {B:Nat} {w w':World} {v:Value} {l:List α} (h:OwnL T B w v l) (hs:w.heap.size<=w'.heap.size) (hk:∀ i,B<=i->i<w.heap.size->w'.heap[i]?=w.heap[i]?):OwnL T B w' v l:=by
 obtain ⟨D,h1,h2⟩:=h;refine ⟨D,⟨h1.1,?_⟩,fun j hj=>T.keep (h2 j hj) hs fun i hi hl=>hk i hi.1 hl⟩;rcases h1.2 with h0 | ⟨g,cap,cur,hv,hb,hg,hr⟩
 ·exact .inl h0
 ·exact .inr ⟨g,cap,cur,hv,hb,(hk g hb (zG hg)).trans hg,hr⟩
theorem OwnL.below {α:Type} {T:Kind α} {B:Nat} {w w':World} {v:Value} {l:List α} (h:OwnL T B w v l) (hb:Below w.heap.size w w'):OwnL T B w' v l:=h.keep hb.size fun i _ hl=>hb.block i hl
theorem OwnL.set {α:Type} {T:Kind α} {B:Nat} {w:World} {v:Value} {l:List α} (h:OwnL T B w v l) {p:Addr} (hp:p.block<B) (u:Value):OwnL T B (w.setCell p u) v l :=
 h.keep (by simp [World.setCell]) fun i hi hl=>Below.heap_setCell _ _ _ _ (fun e=>by omega)
theorem OwnL.row {α:Type} {T:Kind α} {B:Nat} {w:World} {v:Value} {l:List α} (h:OwnL T B w v l):HRow T (fun i=>B<=i) w v l:=by
 obtain ⟨D,h1,h2⟩:=h;exact ⟨D,owns_sl h1 (fun i hi=>T.len (h2 i hi)),fun j hj=>T.wide (h2 j hj) fun i hi _=>hi.1⟩
theorem HRow.form {α:Type} {T:Kind α} {ok:Nat->Prop} {w:World} {v:Value} {l:List α} (h:HRow T ok w v l):∃ a c,v=.slice a l.length c/\l.length<=c/\c<=maxLen:=by
 obtain ⟨C,⟨a,c,hv,h1,h2,_⟩,_⟩:=h;exact ⟨a,c,hv,h1,h2⟩
theorem HRow.keep {α:Type} {T:Kind α} {ok:Nat->Prop} {w w':World} {v:Value} {l:List α} (h:HRow T ok w v l) (hs:w.heap.size<=w'.heap.size) (hk:∀ i,ok i->i<w.heap.size->w'.heap[i]?=w.heap[i]?):HRow T ok w' v l:=by
 obtain ⟨C,h1,h2⟩:=h;exact ⟨C,h1.keep hs hk,fun j hj=>T.keep (h2 j hj) hs hk⟩
theorem OwnL.lit {α:Type} {T:Kind α} {B:Nat} {w:World} {cs:List Value} {x:α} (hB:B<=w.heap.size) (h:T.E (fun i=>B<=i) w cs x):OwnL T B (w.alloc (.cells cs.toArray T.ty (0,0))) (.slice (some ⟨w.heap.size,0,none⟩) 1 1) [x]:=by
 have hl:=T.len h;refine ⟨fun _=>cs,?_,fun j hj=>?_⟩
 ·have:=World.ownsRow_lit (base:=B) (e:=T.ty) (size:=T.k) w cs.toArray 1 hB (by decide) (by simp [hl])
  simpa [flat] using this
 ·have hj0:j=0:=by simp at hj;exact hj
  subst hj0;have h1:=T.wide (ok':=fun i=>Off B (.slice (some ⟨w.heap.size,0,none⟩) 1 1) i) h fun i hi hl=>⟨hi,fun e=>by simp [Value.ownBlock] at e;omega⟩;exact T.keep h1 (by simp) fun i _ hl=>Below.heap_alloc _ _ _ hl
theorem cells_new (w:World) (cs:List Value) (t:TypeId):∀ j u,cs[j]?=some u->(w.alloc (.cells cs.toArray t (0,0))).cell? ((⟨w.heap.size,0,none⟩:Addr).add j)=some u:=by
 intro j u hj;have hn:=zH w (.cells cs.toArray t (0,0));have adds:(⟨w.heap.size,0,none⟩:Addr).add j=⟨w.heap.size,j,none⟩:=by unfold Addr.add;split<;>simp_all
 rw [adds,coQ hn]
 simpa using hj
theorem qK {α:Type} (T:Kind α) {w:World} {ops:Array Oper} {rest:List Oper} {o:Oper} {a:Act} {Q:Exit->Act->World->Prop} (hgd:o.guard=none) (s x:Operand) (t tt:TypeId)
  (ho:o.op=.call { callee:=.builtin .append,args:=#[s,x],argTypes:=#[t,t] }) (ht:Tryz.prog.underlying t=some (.slice T.ty))
  (B N:Nat) (v:Value) (l:List α) (hs:a.eval s=v) (hown:OwnL T B w v l) (cs:List Value) (y:α) (hE:T.E (fun i=>N<=i) w cs y) (hx:a.eval x=.slice (some ⟨w.heap.size,0,none⟩) 1 1)
  (hN:∀ k,v.ownBlock=some k->k<N) (hBN:B<=N) (hBw:B<=w.heap.size) (hM:(l.length+1)*T.bytes<=140737488355328) (hm:l.length+1<=maxLen)
  (h:∀ v' w',OwnL T B w' v' (l++[y])->Below B w w'->(w.alloc (.cells cs.toArray tt (0,0))).grownBy w' v.ownBlock->Moved (w.alloc (.cells cs.toArray tt (0,0))) v v'->wpList Tryz.prog ops Q rest (a.put o.dst v') w') :
  wpList Tryz.prog ops Q (o :: rest) a (w.alloc (.cells cs.toArray tt (0,0))):=by
 obtain ⟨i0,hi,hz0,hz1,hz2⟩:=info_parts T.info;have hown1:=hown.below ((Below.refl _ w).alloc zL (.cells cs.toArray tt (0,0)));obtain ⟨D,hrow,hD⟩:=hown1;have hl:=T.len hE;refine wpList_push hgd s x t ho B T.ty i0 T.zero T.k T.bytes ht hi hz0 hz1 hz2 T.zs T.pos v l.length _ hs hrow ⟨w.heap.size,0,none⟩ 1 1 cs hx (by simp [hl]) (cells_new w cs tt) (T.one hE) hm hM (by simp;omega) ?_;intro v' w' hrow' hgrow hmv;have hmv':Moved (w.alloc (.cells cs.toArray tt (0,0))) v v':=hmv;have hgk:=grown_keep (B:=B) (v:=v) hgrow;refine h v' w' ⟨fun q=>if q=l.length then cs else D q,?_,fun j hj=>?_⟩ (Below.push ((Below.refl B w).alloc hBw _) (by simp;omega) hrow hgrow) hgrow hmv'
 ·have e:flat (fun q=>if q=l.length then cs else D q) (l.length+1)=flat D l.length++cs:=by
   rw [flat,qS (D:=D) l.length (fun q hq=>by rw [if_neg (by omega)])];simp
  rw [List.length_append,List.length_singleton,e];exact hrow'
 ·by_cases e:j=l.length
  ·subst e
   simp only [if_true,List.getElem_append_right zL,Nat.sub_self,List.getElem_cons_zero];have g0:=T.keep (w':=w.alloc (.cells cs.toArray tt (0,0))) hE (by simp) fun i _ hl=>Below.heap_alloc _ _ _ hl;have g1:=T.wide (ok':=fun k=>Off B v k/\k<(w.alloc (.cells cs.toArray tt (0,0))).heap.size) g0 (fun k hk hl=>⟨⟨by omega,fun e=>by have:=hN k e.symm;omega⟩,hl⟩);have g2:=T.keep g1 hgrow.size (fun k hk hl=>hgk k hk.1 hl);exact T.wide g2 (fun k hk _=>Off.moved hmv' hk.1 hk.2)
  ·have hjl:j<l.length:=by simp at hj;omega
   simp only [if_neg e,List.getElem_append_left hjl];have g1:=T.wide (ok':=fun k=>Off B v k/\k<(w.alloc (.cells cs.toArray tt (0,0))).heap.size) (hD j hjl) (fun k hk hl=>⟨hk,hl⟩);have g2:=T.keep g1 hgrow.size (fun k hk hl=>hgk k hk.1 hl);exact T.wide g2 (fun k hk _=>Off.moved hmv' hk.1 hk.2)
/-! ### The kinds -/
theorem HTerms.slice {ok:Nat->Prop} {w:World} {v:Value} {l:List Tm} (h:HTerms ok w v l):∃ a n c,v=.slice a n c:=by
 obtain ⟨C,⟨a,c,hv,_⟩,_⟩:=h;exact ⟨a,_,c,hv⟩
end Go.Proofs.YtoldepieaafakaaGreatDoor
