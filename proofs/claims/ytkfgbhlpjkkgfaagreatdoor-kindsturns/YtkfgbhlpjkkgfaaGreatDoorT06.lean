import Derived.Test.YtkfgbhlpjkkgfaaGreatDoorT05
import Derived.Deep.DeepCutAuto
import Derived.Test.YtkfgbhlpjkkgfaaGreatDoorT03
import Derived.Test.YtkfgbhlpjkkgfaaGreatDoorT01
import Derived.Test.YtkfgbhlpjkkgfaaGreatDoorT02
import Derived.Deep.CutBlock
set_option linter.unusedVariables false
set_option linter.unusedSimpArgs false
set_option maxHeartbeats 64000000
set_option maxRecDepth 100000
namespace Go.Proofs.YtkfgbhlpjkkgfaaGreatDoor
open Go.RowKit Go.IntWalk
theorem HNames.wide {ok ok':Nat->Prop} {w:World} {v:Value} {l:List ByteArray} (h:HNames ok w v l) (hk:∀ i,ok i->i<w.heap.size->ok' i):HNames ok' w v l:=by
 obtain ⟨C,h1,h2⟩:=h;exact ⟨C,h1.wide hk,h2⟩
theorem HDes.wide {ok ok':Nat->Prop} {w:World} {v:Value} {l:List De} (h:HDes ok w v l) (hk:∀ i,ok i->i<w.heap.size->ok' i):HDes ok' w v l:=by
 obtain ⟨C,h1,h2⟩:=h;refine ⟨C,h1.wide hk,fun i hi=>?_⟩;obtain ⟨u,e,ht⟩:=h2 i hi;exact ⟨u,e,ht.wide hk⟩
theorem HNames.set {ok:Nat->Prop} {w:World} {v:Value} {l:List ByteArray} (h:HNames ok w v l) {p:Addr} (hp:¬ok p.block) (u:Value):HNames ok (w.setCell p u) v l :=
 h.keep (by simp [World.setCell]) fun i hi hl=>Below.heap_setCell _ _ _ _ (fun e=>hp (e ▸ hi))
theorem HDes.set {ok:Nat->Prop} {w:World} {v:Value} {l:List De} (h:HDes ok w v l) {p:Addr} (hp:¬ok p.block) (u:Value):HDes ok (w.setCell p u) v l :=
 h.keep (by simp [World.setCell]) fun i hi hl=>Below.heap_setCell _ _ _ _ (fun e=>hp (e ▸ hi))
theorem Tryz.infoEq:(Tryz.prog.info? 56).map (fun i=>(i.zero,i.size,i.bytes))=some (some (.agg #[.int .i64 0,.slice none 0 0,.string ⟨#[]⟩,.slice none 0 0,.slice none 0 0]),5,96):=by kernel_rfl
theorem Tryz.info47:(Tryz.prog.info? 47).map (fun i=>(i.zero,i.size,i.bytes))=some (some (.agg #[.string ⟨#[]⟩,.int .i64 0,.slice none 0 0,.slice none 0 0,.slice none 0 0,.slice none 0 0,.slice none 0 0]),7,144):=by kernel_rfl
theorem newAt (w:World) (cs:Array Value) (t:TypeId):∀ j u,cs.toList[j]?=some u->(w.alloc (.cells cs t (0,0))).cell? ((⟨w.heap.size,0,none⟩:Addr).add j)=some u:=by
 intro j u hj;have hn:=zAC w (.cells cs t (0,0));have dn:(⟨w.heap.size,0,none⟩:Addr).add j=⟨w.heap.size,j,none⟩:=by unfold Addr.add;split<;>simp_all
 rw [dn,co hn]
 simpa using hj
theorem owns_form {w:World} {base:Nat} {e:TypeId} {size:Nat} {v:Value} {n:Nat} {xs:List Value} (h:w.ownsRow base e size v n xs):∃ a m c,v=.slice a m c:=by
 rcases h.2 with ⟨rfl,_⟩ | ⟨g,cap,aR,rfl,_⟩
 ·exact ⟨none,0,0,rfl⟩
 ·exact ⟨_,_,_,rfl⟩
theorem HEq.wide {ok ok':Nat->Prop} {w:World} {x:EqV} {q:Eqn} (h:HEq ok w x q) (hk:∀ i,ok i->i<w.heap.size->ok' i):HEq ok' w x q :=
 ⟨h.place,h.names.wide hk,h.node,h.S.wide hk,h.E.wide hk⟩
theorem HEqs.wide {ok ok':Nat->Prop} {w:World} {v:Value} {l:List Eqn} (h:HEqs ok w v l) (hk:∀ i,ok i->i<w.heap.size->ok' i):HEqs ok' w v l:=by
 obtain ⟨C,h1,h2⟩:=h;refine ⟨C,h1.wide hk,fun i hi=>?_⟩;obtain ⟨x,e,hx⟩:=h2 i hi;exact ⟨x,e,hx.wide hk⟩
theorem HEqs.set {ok:Nat->Prop} {w:World} {v:Value} {l:List Eqn} (h:HEqs ok w v l) {p:Addr} (hp:¬ok p.block) (u:Value):HEqs ok (w.setCell p u) v l :=
 h.keep (by simp [World.setCell]) fun i hi hl=>Below.heap_setCell _ _ _ _ (fun e=>hp (e ▸ hi))
theorem HNd.wide {ok ok':Nat->Prop} {w:World} {x:NdV} {n:Nd} (h:HNd ok w x n) (hk:∀ i,ok i->i<w.heap.size->ok' i):HNd ok' w x n :=
 ⟨h.name,h.place,h.sizes.wide hk,h.inn.wide hk,h.out.wide hk,h.loc.wide hk,h.eqs.wide hk⟩
theorem HNd.set {ok:Nat->Prop} {w:World} {x:NdV} {n:Nd} (h:HNd ok w x n) {p:Addr} (hp:¬ok p.block) (u:Value):HNd ok (w.setCell p u) x n :=
 h.keep (by simp [World.setCell]) fun i hi hl=>Below.heap_setCell _ _ _ _ (fun e=>hp (e ▸ hi))
structure Kind (α:Type) where
 ty:TypeId
 k:Nat
 bytes:Nat
 zero:Value
 E:(Nat->Prop)->World->List Value->α->Prop
 pos:0<k
 zs:zero.cells.size=k
 info:(Tryz.prog.info? ty).map (fun i=>(i.zero,i.size,i.bytes))=some (some zero,k,bytes)
 len:∀ {ok w cs a},E ok w cs a->cs.length=k
 one:∀ {ok w cs a},E ok w cs a->∀ u ∈ cs,u.oneCell'=true
 keep:∀ {ok w w' cs a},E ok w cs a->w.heap.size<=w'.heap.size->(∀ i,ok i->i<w.heap.size->w'.heap[i]?=w.heap[i]?)->E ok w' cs a
 wide:∀ {ok ok' w cs a},E ok w cs a->(∀ i,ok i->i<w.heap.size->ok' i)->E ok' w cs a
def OwnL {α:Type} (T:Kind α) (B:Nat) (w:World) (v:Value) (l:List α):Prop :=
 ∃ D,w.ownsRow B T.ty T.k v l.length (flat D l.length)/\∀ j (h:j<l.length),T.E (Off B v) w (D j) l[j]
def HRow {α:Type} (T:Kind α) (ok:Nat->Prop) (w:World) (v:Value) (l:List α):Prop :=
 ∃ C,Sl ok T.k w v l.length C/\∀ j (h:j<l.length),T.E ok w (C j) l[j]
theorem OwnL.nil {α:Type} {T:Kind α} {B:Nat} {w:World}:OwnL T B w (.slice none 0 0) [] :=
 ⟨fun _=>[],World.ownsRow_nil _ _ _ _,fun j h=>absurd h (Nat.not_lt_zero _)⟩
theorem OwnL.lt {α:Type} {T:Kind α} {B:Nat} {w:World} {v:Value} {l:List α} (h:OwnL T B w v l):∀ k,v.ownBlock=some k->B<=k/\k<w.heap.size:=by
 obtain ⟨D,h1,h2⟩:=h;exact fun k hk=>World.ownsRow.lt h1 k hk
theorem OwnL.form {α:Type} {T:Kind α} {B:Nat} {w:World} {v:Value} {l:List α} (h:OwnL T B w v l):∃ a c,v=.slice a l.length c/\l.length<=c/\c<=maxLen:=by
 obtain ⟨D,h1,h2⟩:=h;rcases h1.2 with ⟨rfl,h0⟩ | ⟨g,cap,aR,rfl,hb,hg,eR,eV,_⟩
 ·exact ⟨none,0,by rw [h0],by omega,by unfold maxLen;omega⟩
 ·exact ⟨_,_,rfl,eR,eV⟩
theorem OwnL.keep {α:Type} {T:Kind α} {B:Nat} {w w':World} {v:Value} {l:List α} (h:OwnL T B w v l) (hs:w.heap.size<=w'.heap.size) (hk:∀ i,B<=i->i<w.heap.size->w'.heap[i]?=w.heap[i]?):OwnL T B w' v l:=by
 obtain ⟨D,h1,h2⟩:=h;refine ⟨D,⟨h1.1,?_⟩,fun j hj=>T.keep (h2 j hj) hs fun i hi hl=>hk i hi.1 hl⟩;rcases h1.2 with h0 | ⟨g,cap,aR,hv,hb,hg,hr⟩
 ·exact .inl h0
 ·exact .inr ⟨g,cap,aR,hv,hb,(hk g hb (zAB hg)).trans hg,hr⟩
theorem OwnL.below {α:Type} {T:Kind α} {B:Nat} {w w':World} {v:Value} {l:List α} (h:OwnL T B w v l) (hb:Below w.heap.size w w'):OwnL T B w' v l:=h.keep hb.size fun i _ hl=>hb.block i hl
theorem OwnL.past {α:Type} {T:Kind α} {B:Nat} {S:List Nat} {w w':World} {v:Value} {l:List α} (h:OwnL T B w v l) (a:Aside S w.heap.size w w') (hS:∀ k ∈ S,k<B):OwnL T B w' v l :=
 h.keep a.size fun i hi hl=>a.block i hl fun hm=>by have:=hS i hm;omega
theorem OwnL.set {α:Type} {T:Kind α} {B:Nat} {w:World} {v:Value} {l:List α} (h:OwnL T B w v l) {p:Addr} (hp:p.block<B) (u:Value):OwnL T B (w.setCell p u) v l :=
 h.keep (by simp [World.setCell]) fun i hi hl=>Below.heap_setCell _ _ _ _ (fun e=>by omega)
theorem OwnL.row {α:Type} {T:Kind α} {B:Nat} {w:World} {v:Value} {l:List α} (h:OwnL T B w v l):HRow T (fun i=>B<=i) w v l:=by
 obtain ⟨D,h1,h2⟩:=h;exact ⟨D,zBG h1 (fun i hi=>T.len (h2 i hi)),fun j hj=>T.wide (h2 j hj) fun i hi _=>hi.1⟩
theorem HRow.form {α:Type} {T:Kind α} {ok:Nat->Prop} {w:World} {v:Value} {l:List α} (h:HRow T ok w v l):∃ a c,v=.slice a l.length c/\l.length<=c/\c<=maxLen:=by
 obtain ⟨C,⟨a,c,hv,h1,h2,_⟩,_⟩:=h;exact ⟨a,c,hv,h1,h2⟩
theorem HRow.keep {α:Type} {T:Kind α} {ok:Nat->Prop} {w w':World} {v:Value} {l:List α} (h:HRow T ok w v l) (hs:w.heap.size<=w'.heap.size) (hk:∀ i,ok i->i<w.heap.size->w'.heap[i]?=w.heap[i]?):HRow T ok w' v l:=by
 obtain ⟨C,h1,h2⟩:=h;exact ⟨C,h1.keep hs hk,fun j hj=>T.keep (h2 j hj) hs hk⟩
theorem HRow.wide {α:Type} {T:Kind α} {ok ok':Nat->Prop} {w:World} {v:Value} {l:List α} (h:HRow T ok w v l) (hk:∀ i,ok i->i<w.heap.size->ok' i):HRow T ok' w v l:=by
 obtain ⟨C,h1,h2⟩:=h;exact ⟨C,h1.wide hk,fun j hj=>T.wide (h2 j hj) hk⟩
theorem OwnL.lit {α:Type} {T:Kind α} {B:Nat} {w:World} {cs:List Value} {x:α} (hB:B<=w.heap.size) (h:T.E (fun i=>B<=i) w cs x):OwnL T B (w.alloc (.cells cs.toArray T.ty (0,0))) (.slice (some ⟨w.heap.size,0,none⟩) 1 1) [x]:=by
 have hl:=T.len h;refine ⟨fun _=>cs,?_,fun j hj=>?_⟩
 ·have:=World.ownsRow_lit (base:=B) (e:=T.ty) (size:=T.k) w cs.toArray 1 hB (by decide) (by simp [hl])
  simpa [flat] using this
 ·have GP:j=0:=by simp at hj;exact hj
  subst GP;have h1:=T.wide (ok':=fun i=>Off B (.slice (some ⟨w.heap.size,0,none⟩) 1 1) i) h fun i hi hl=>⟨hi,fun e=>by simp [Value.ownBlock] at e;omega⟩;exact T.keep h1 (by simp) fun i _ hl=>Below.heap_alloc _ _ _ hl
theorem cells_new (w:World) (cs:List Value) (t:TypeId):∀ j u,cs[j]?=some u->(w.alloc (.cells cs.toArray t (0,0))).cell? ((⟨w.heap.size,0,none⟩:Addr).add j)=some u:=by
 intro j u hj;have hn:=zAC w (.cells cs.toArray t (0,0));have dn:(⟨w.heap.size,0,none⟩:Addr).add j=⟨w.heap.size,j,none⟩:=by unfold Addr.add;split<;>simp_all
 rw [dn,co hn]
 simpa using hj
theorem zAV {α:Type} (T:Kind α) {w:World} {ops:Array Oper} {rest:List Oper} {o:Oper} {a:Act} {Q:Exit->Act->World->Prop} (jv:o.guard=none) (s x:Operand) (t tt:TypeId)
  (ho:o.op=.call { callee:=.builtin .append,args:=#[s,x],argTypes:=#[t,t] }) (ht:Tryz.prog.underlying t=some (.slice T.ty))
  (B N:Nat) (v:Value) (l:List α) (hs:a.eval s=v) (ah:OwnL T B w v l) (cs:List Value) (y:α) (hE:T.E (fun i=>N<=i) w cs y) (hx:a.eval x=.slice (some ⟨w.heap.size,0,none⟩) 1 1)
  (hN:∀ k,v.ownBlock=some k->k<N) (Qy:B<=N) (MU:B<=w.heap.size) (hM:(l.length+1)*T.bytes<=140737488355328) (hm:l.length+1<=maxLen)
  (h:∀ v' w',OwnL T B w' v' (l++[y])->Below B w w'->(w.alloc (.cells cs.toArray tt (0,0))).grownBy w' v.ownBlock->Moved (w.alloc (.cells cs.toArray tt (0,0))) v v'->wpList Tryz.prog ops Q rest (a.put o.dst v') w') :
  wpList Tryz.prog ops Q (o :: rest) a (w.alloc (.cells cs.toArray tt (0,0))):=by
 obtain ⟨i0,hi,db,bP,bY⟩:=info_parts T.info;have fi:=ah.below ((Below.refl _ w).alloc nR (.cells cs.toArray tt (0,0)));obtain ⟨D,aU,hD⟩:=fi;have hl:=T.len hE;refine zAv jv s x t ho B T.ty i0 T.zero T.k T.bytes ht hi db bP bY T.zs T.pos v l.length _ hs aU ⟨w.heap.size,0,none⟩ 1 1 cs hx (by simp [hl]) (cells_new w cs tt) (T.one hE) hm hM (by simp;omega) ?_;intro v' w' i6 am fR;have df:Moved (w.alloc (.cells cs.toArray tt (0,0))) v v':=fR;have gE:=zBD (B:=B) (v:=v) am;refine h v' w' ⟨fun q=>if q=l.length then cs else D q,?_,fun j hj=>?_⟩ (Below.push ((Below.refl B w).alloc MU _) (by simp;omega) aU am) am df
 ·have e:flat (fun q=>if q=l.length then cs else D q) (l.length+1)=flat D l.length++cs:=by
   rw [flat,zAY (D:=D) l.length (fun q hq=>by rw [if_neg (by omega)])];simp
  rw [List.length_append,List.length_singleton,e];exact i6
 ·by_cases e:j=l.length
  ·subst e
   simp only [if_true,List.getElem_append_right nR,Nat.sub_self,List.getElem_cons_zero];have g0:=T.keep (w':=w.alloc (.cells cs.toArray tt (0,0))) hE (by simp) fun i _ hl=>Below.heap_alloc _ _ _ hl;have g1:=T.wide (ok':=fun k=>Off B v k/\k<(w.alloc (.cells cs.toArray tt (0,0))).heap.size) g0 (fun k hk hl=>⟨⟨by omega,fun e=>by have:=hN k e.symm;omega⟩,hl⟩);have g2:=T.keep g1 am.size (fun k hk hl=>gE k hk.1 hl);exact T.wide g2 (fun k hk _=>Off.moved df hk.1 hk.2)
  ·have cM:j<l.length:=by simp at hj;omega
   simp only [if_neg e,List.getElem_append_left cM];have g1:=T.wide (ok':=fun k=>Off B v k/\k<(w.alloc (.cells cs.toArray tt (0,0))).heap.size) (hD j cM) (fun k hk hl=>⟨hk,hl⟩);have g2:=T.keep g1 am.size (fun k hk hl=>gE k hk.1 hl);exact T.wide g2 (fun k hk _=>Off.moved df hk.1 hk.2)
/-! ### The kinds -/
def kName:Kind ByteArray where
 ty:=9
 k:=1
 bytes:=16
 zero:=.string ⟨#[]⟩
 E:=fun _ _ cs s=>cs=[.string s]
 pos:=by decide
 zs:=rfl
 info:=Tryz.info9
 len:=by rintro _ _ _ _ rfl;rfl
 one:=by rintro _ _ _ _ rfl;simp;rfl
 keep:=by rintro _ _ _ _ _ rfl _ _;rfl
 wide:=by rintro _ _ _ _ _ rfl _;rfl
def kTerm:Kind Tm where
 ty:=83
 k:=2
 bytes:=24
 zero:=.agg #[.int .i64 0,.string ⟨#[]⟩]
 E:=fun _ _ cs t=>cs=[.int .i64 t.1,.string t.2]
 pos:=by decide
 zs:=rfl
 info:=Tryz.info83
 len:=by rintro _ _ _ _ rfl;rfl
 one:=by
  rintro _ _ _ _ rfl u hu;simp at hu;rcases hu with rfl | rfl<;>rfl
 keep:=by rintro _ _ _ _ _ rfl _ _;rfl
 wide:=by rintro _ _ _ _ _ rfl _;rfl
theorem HTerms.slice {ok:Nat->Prop} {w:World} {v:Value} {l:List Tm} (h:HTerms ok w v l):∃ a n c,v=.slice a n c:=by
 obtain ⟨C,⟨a,c,hv,_⟩,_⟩:=h;exact ⟨a,_,c,hv⟩
def kSize:Kind (List Tm) where
 ty:=33
 k:=1
 bytes:=24
 zero:=.slice none 0 0
 E:=fun ok w cs l=>∃ u,cs=[u]/\HTerms ok w u l
 pos:=by decide
 zs:=rfl
 info:=Tryz.info33
 len:=by rintro _ _ _ _ ⟨u,rfl,_⟩;rfl
 one:=by
  rintro _ _ _ _ ⟨u,rfl,hT⟩ x hx;obtain ⟨a,n,c,rfl⟩:=hT.slice;simp at hx;subst hx;rfl
 keep:=by rintro _ _ _ _ _ ⟨u,e,hT⟩ h1 h2;exact ⟨u,e,hT.keep h1 h2⟩
 wide:=by rintro _ _ _ _ _ ⟨u,e,hT⟩ h1;exact ⟨u,e,hT.wide h1⟩
def kDecl:Kind De where
 ty:=50
 k:=3
 bytes:=48
 zero:=.agg #[.string ⟨#[]⟩,.int .u8 0,.slice none 0 0]
 E:=fun ok w cs d=>∃ u,cs=[.string d.name,.int .u8 d.elem,u]/\HTerms ok w u d.n
 pos:=by decide
 zs:=rfl
 info:=Tryz.info50
 len:=by rintro _ _ _ _ ⟨u,rfl,_⟩;rfl
 one:=by
  rintro _ _ _ _ ⟨u,rfl,hT⟩ x hx;obtain ⟨a,n,c,rfl⟩:=hT.slice;simp at hx;rcases hx with rfl | rfl | rfl<;>rfl
 keep:=by rintro _ _ _ _ _ ⟨u,e,hT⟩ h1 h2;exact ⟨u,e,hT.keep h1 h2⟩
 wide:=by rintro _ _ _ _ _ ⟨u,e,hT⟩ h1;exact ⟨u,e,hT.wide h1⟩
def kExpr:Kind Ex where
 ty:=54
 k:=6
 bytes:=88
 zero:=.agg #[.int .i64 0,.int .i64 0,.int .i64 0,.string ⟨#[]⟩,.slice none 0 0,.slice none 0 0]
 E:=fun ok w cs e=>HEx ok w cs e
 pos:=by decide
 zs:=rfl
 info:=Tryz.info54
 len:=by
  intro _ _ _ _ h;obtain ⟨x,rfl,_⟩:=h.toV;rfl
 one:=by
  intro _ _ _ _ h u hu;obtain ⟨x,rfl,_⟩:=h.toV;simp [ExV.cells] at hu;rcases hu with rfl | rfl | rfl | rfl | rfl | rfl<;>rfl
 keep:=fun h h1 h2=>h.keep h1 h2
 wide:=fun h h1=>h.wide h1
def kEq:Kind Eqn where
 ty:=56
 k:=5
 bytes:=96
 zero:=.agg #[.int .i64 0,.slice none 0 0,.string ⟨#[]⟩,.slice none 0 0,.slice none 0 0]
 E:=fun ok w cs q=>∃ x:EqV,cs=x.cells/\HEq ok w x q
 pos:=by decide
 zs:=rfl
 info:=Tryz.infoEq
 len:=by rintro _ _ _ _ ⟨u,rfl,_⟩;rfl
 one:=by
  rintro _ _ _ _ ⟨x,rfl,hT⟩ u hu;simp [EqV.cells] at hu;rcases hu with rfl | rfl | rfl | rfl | rfl<;>rfl
 keep:=by rintro _ _ _ _ _ ⟨u,e,hT⟩ h1 h2;exact ⟨u,e,hT.keep h1 h2⟩
 wide:=by rintro _ _ _ _ _ ⟨u,e,hT⟩ h1;exact ⟨u,e,hT.wide h1⟩
def kNode:Kind Nd where
 ty:=47
 k:=7
 bytes:=144
 zero:=.agg #[.string ⟨#[]⟩,.int .i64 0,.slice none 0 0,.slice none 0 0,.slice none 0 0,.slice none 0 0,.slice none 0 0]
 E:=fun ok w cs q=>∃ x:NdV,cs=x.cells/\HNd ok w x q
 pos:=by decide
 zs:=rfl
 info:=Tryz.info47
 len:=by rintro _ _ _ _ ⟨u,rfl,_⟩;rfl
 one:=by
  rintro _ _ _ _ ⟨x,rfl,hT⟩ u hu;simp [NdV.cells] at hu;rcases hu with rfl | rfl | rfl | rfl | rfl | rfl | rfl<;>rfl
 keep:=by rintro _ _ _ _ _ ⟨u,e,hT⟩ h1 h2;exact ⟨u,e,hT.keep h1 h2⟩
 wide:=by rintro _ _ _ _ _ ⟨u,e,hT⟩ h1;exact ⟨u,e,hT.wide h1⟩
theorem zAg {ok:Nat->Prop} {w:World} {v:Value} {l:List ByteArray} (h:HRow kName ok w v l):HNames ok w v l:=h
theorem zBj {ok:Nat->Prop} {w:World} {v:Value} {l:List Tm} (h:HRow kTerm ok w v l):HTerms ok w v l:=h
theorem zBk {ok:Nat->Prop} {w:World} {v:Value} {l:List (List Tm)} (h:HRow kSize ok w v l):HSizes ok w v l:=h
theorem zDn {ok:Nat->Prop} {w:World} {v:Value} {l:List De} (h:HRow kDecl ok w v l):HDes ok w v l:=h
theorem zBl {ok:Nat->Prop} {w:World} {v:Value} {l:List Ex} (h:HRow kExpr ok w v l):HExs ok w v l:=h
theorem eqs_row {ok:Nat->Prop} {w:World} {v:Value} {l:List Eqn} (h:HRow kEq ok w v l):HEqs ok w v l:=h
theorem zBm {ok:Nat->Prop} {w:World} {v:Value} {l:List Nd} (h:HRow kNode ok w v l):HNds ok w v l:=h
def OwnX {α:Type} (T:Kind α) (ok:Nat->Prop) (w:World) (v:Value) (l:List α):Prop :=
 ∃ D,w.ownsRow 0 T.ty T.k v l.length (flat D l.length)/\(∀ k,v.ownBlock=some k->ok k)/\∀ j (h:j<l.length),T.E (fun i=>ok i/\some i≠v.ownBlock) w (D j) l[j]
theorem OwnX.nil {α:Type} {T:Kind α} {ok:Nat->Prop} {w:World}:OwnX T ok w (.slice none 0 0) [] :=
 ⟨fun _=>[],World.ownsRow_nil _ _ _ _,fun k hk=>(by cases hk),fun j h=>absurd h (Nat.not_lt_zero _)⟩
theorem OwnX.lt {α:Type} {T:Kind α} {ok:Nat->Prop} {w:World} {v:Value} {l:List α} (h:OwnX T ok w v l):∀ k,v.ownBlock=some k->ok k/\k<w.heap.size:=by
 obtain ⟨D,h1,h2,h3⟩:=h;exact fun k hk=>⟨h2 k hk,(World.ownsRow.lt h1 k hk).2⟩
theorem OwnX.form {α:Type} {T:Kind α} {ok:Nat->Prop} {w:World} {v:Value} {l:List α} (h:OwnX T ok w v l):∃ a c,v=.slice a l.length c/\l.length<=c/\c<=maxLen:=by
 obtain ⟨D,h1,h2⟩:=h;rcases h1.2 with ⟨rfl,h0⟩ | ⟨g,cap,aR,rfl,hb,hg,eR,eV,_⟩
 ·exact ⟨none,0,by rw [h0],by omega,by unfold maxLen;omega⟩
 ·exact ⟨_,_,rfl,eR,eV⟩
theorem OwnX.keep {α:Type} {T:Kind α} {ok:Nat->Prop} {w w':World} {v:Value} {l:List α} (h:OwnX T ok w v l) (hs:w.heap.size<=w'.heap.size) (hk:∀ i,ok i->i<w.heap.size->w'.heap[i]?=w.heap[i]?):OwnX T ok w' v l:=by
 obtain ⟨D,h1,h2,h3⟩:=h;refine ⟨D,⟨h1.1,?_⟩,h2,fun j hj=>T.keep (h3 j hj) hs fun i hi hl=>hk i hi.1 hl⟩;rcases h1.2 with h0 | ⟨g,cap,aR,rfl,hb,hg,hr⟩
 ·exact .inl h0
 ·exact .inr ⟨g,cap,aR,rfl,hb,(hk g (h2 g rfl) (zAB hg)).trans hg,hr⟩
theorem OwnX.wide {α:Type} {T:Kind α} {ok ok':Nat->Prop} {w:World} {v:Value} {l:List α} (h:OwnX T ok w v l) (hk:∀ i,ok i->i<w.heap.size->ok' i):OwnX T ok' w v l:=by
 obtain ⟨D,h1,h2,h3⟩:=h;exact ⟨D,h1,fun k hq=>hk k (h2 k hq) (World.ownsRow.lt h1 k hq).2,fun j hj=>T.wide (h3 j hj) fun i hi hl=>⟨hk i hi.1 hl,hi.2⟩⟩
theorem OwnX.under {α:Type} {T:Kind α} {ok:Nat->Prop} {w w':World} {v:Value} {l:List α} (h:OwnX T ok w v l) (hb:Below w.heap.size w w'):OwnX T ok w' v l:=h.keep hb.size fun i _ hl=>hb.block i hl
theorem OwnX.past {α:Type} {T:Kind α} {ok:Nat->Prop} {S:List Nat} {w w':World} {v:Value} {l:List α} (h:OwnX T ok w v l) (a:Aside S w.heap.size w w') (hS:∀ i,ok i->i ∉ S):OwnX T ok w' v l :=
 h.keep a.size fun i hi hl=>a.block i hl (hS i hi)
theorem OwnX.set {α:Type} {T:Kind α} {ok:Nat->Prop} {w:World} {v:Value} {l:List α} (h:OwnX T ok w v l) {p:Addr} (hp:¬ok p.block) (u:Value):OwnX T ok (w.setCell p u) v l :=
 h.keep (by simp [World.setCell]) fun i hi hl=>Below.heap_setCell _ _ _ _ (fun e=>hp (e ▸ hi))
theorem OwnX.row {α:Type} {T:Kind α} {ok:Nat->Prop} {w:World} {v:Value} {l:List α} (h:OwnX T ok w v l):HRow T ok w v l:=by
 obtain ⟨D,h1,h2,h3⟩:=h;obtain ⟨ao,cap,hv,q1,q2,q3⟩:=zBG h1 (fun i hi=>T.len (h3 i hi));refine ⟨D,⟨ao,cap,hv,q1,q2,fun hn=>?_⟩,fun j hj=>T.wide (h3 j hj) fun i hi _=>hi.1⟩;obtain ⟨b,o,ha,_,hb,hc⟩:=q3 hn;refine ⟨b,o,ha,?_,hb,hc⟩;obtain ⟨g,bE,nO,_⟩:=zEo h1 hn;rw [hv] at nO;injection nO with e1 e2 e3;rw [ha] at e1;injection e1 with e1;injection e1 with e4 e5 e6;exact h2 b (by rw [hv,ha,e5];simp [Value.ownBlock])
theorem run_moreX {α:Type} (T:Kind α) {w:World} (t tt ty:TypeId) (ht:Tryz.prog.underlying t=some (.slice T.ty))
  (N:Nat) (ok:Nat->Prop) (v:Value) (l:List α) (ah:OwnX T ok w v l) (cs:List Value) (y:α) (hE:T.E (fun i=>N<=i) w cs y)
  (hN:∀ i,ok i->i<N) (Bd:N<=w.heap.size) (hM:(l.length+1)*T.bytes<=140737488355328) (hm:l.length+1<=maxLen) :
  ∃ v' w',(Builtin.append_ #[t,t] ty #[v,.slice (some ⟨w.heap.size,0,none⟩) 1 1]).run Tryz.prog (w.alloc (.cells cs.toArray tt (0,0)))=.ok v' w'/\OwnX T (fun i=>ok i\/N<=i) w' v' (l++[y])/\(w.alloc (.cells cs.toArray tt (0,0))).grownBy w' v.ownBlock:=by
 obtain ⟨i0,hi,db,bP,bY⟩:=info_parts T.info;have fi:=ah.under ((Below.refl _ w).alloc nR (.cells cs.toArray tt (0,0)));obtain ⟨D,aU,eL,hD⟩:=fi;have hl:=T.len hE;obtain ⟨v',w',dE,i6,am,fR⟩:=zCV (P:=Tryz.prog) (w.alloc (.cells cs.toArray tt (0,0))) 0 t ty T.ty i0 T.zero T.k T.bytes ht hi db bP bY T.zs T.pos v l.length _ aU ⟨w.heap.size,0,none⟩ 1 1 cs (by simp [hl]) (cells_new w cs tt) (T.one hE) hm hM (by simp);have df:v'.ownBlock=v.ownBlock\/∃ k,v'.ownBlock=some k/\w.heap.size+1<=k:=by
  rcases fR with h | ⟨k,h1,h2⟩
  ·exact .inl h
  ·exact .inr ⟨k,h1,by simpa using h2⟩
 have gE:∀ k,some k≠v.ownBlock->k<(w.alloc (.cells cs.toArray tt (0,0))).heap.size->w'.heap[k]?=(w.alloc (.cells cs.toArray tt (0,0))).heap[k]?:=fun k hk hl=>am.block k hl hk;have pU:∀ i,some i≠v.ownBlock->i<w.heap.size+1->some i≠v'.ownBlock:=fun i h1 h2 e=>by
  rcases df with h | ⟨k,hk,hz⟩
  ·exact h1 (e.trans h)
  ·rw [hk] at e
   injection e with e;omega
 refine ⟨v',w',dE,⟨fun q=>if q=l.length then cs else D q,?_,?_,fun j hj=>?_⟩,am⟩
 ·have e:flat (fun q=>if q=l.length then cs else D q) (l.length+1)=flat D l.length++cs:=by
   rw [flat,zAY (D:=D) l.length (fun q hq=>by rw [if_neg (by omega)])];simp
  rw [List.length_append,List.length_singleton,e];exact i6
 ·intro k hk
  rcases df with h | ⟨q,hq,hz⟩
  ·exact .inl (eL k (h.symm.trans hk))
  ·rw [hq] at hk
   injection hk with hk;exact .inr (by omega)
 ·by_cases e:j=l.length
  ·subst e
   simp only [if_true,List.getElem_append_right nR,Nat.sub_self,List.getElem_cons_zero];have g0:=T.keep (w':=w.alloc (.cells cs.toArray tt (0,0))) hE (by simp) fun i _ hl=>Below.heap_alloc _ _ _ hl;have g1:=T.wide (ok':=fun k=>N<=k/\some k≠v.ownBlock/\k<w.heap.size+1) g0 (fun k hk hl=>⟨hk,fun e=>by have:=hN k (eL k e.symm);omega,by simpa using hl⟩);have g2:=T.keep g1 am.size (fun k hk hl=>gE k hk.2.1 hl);exact T.wide g2 (fun k hk _=>⟨.inr hk.1,pU k hk.2.1 hk.2.2⟩)
  ·have cM:j<l.length:=by simp at hj;omega
   simp only [if_neg e,List.getElem_append_left cM];have g1:=T.wide (ok':=fun k=>ok k/\some k≠v.ownBlock/\k<w.heap.size+1) (hD j cM) (fun k hk hl=>⟨hk.1,hk.2,by simpa using hl⟩);have g2:=T.keep g1 am.size (fun k hk hl=>gE k hk.2.1 hl);exact T.wide g2 (fun k hk _=>⟨.inl hk.1,pU k hk.2.1 hk.2.2⟩)
theorem zBx {α:Type} (T:Kind α) {w:World} {o:Oper} {a:Act} {K:Act->World->Prop} {Q:Exit->Act->World->Prop} (s x:Operand) (t tt:TypeId)
  (ho:o.op=.call { callee:=.builtin .append,args:=#[s,x],argTypes:=#[t,t] }) (ht:Tryz.prog.underlying t=some (.slice T.ty))
  (N:Nat) (ok:Nat->Prop) (v:Value) (l:List α) (hs:a.eval s=v) (ah:OwnX T ok w v l) (cs:List Value) (y:α) (hE:T.E (fun i=>N<=i) w cs y) (hx:a.eval x=.slice (some ⟨w.heap.size,0,none⟩) 1 1)
  (hN:∀ i,ok i->i<N) (Bd:N<=w.heap.size) (hM:(l.length+1)*T.bytes<=140737488355328) (hm:l.length+1<=maxLen)
  (h:∀ v' w',OwnX T (fun i=>ok i\/N<=i) w' v' (l++[y])->(w.alloc (.cells cs.toArray tt (0,0))).grownBy w' v.ownBlock->K (a.put o.dst v') w') :
  Oper.wp Tryz.prog o a (w.alloc (.cells cs.toArray tt (0,0))) K Q:=by
 obtain ⟨v',w',hr,h2,h3⟩:=run_moreX T t tt o.type ht N ok v l ah cs y hE hN Bd hM hm;unfold Oper.wp execOp;simp only [ho,resolve,invoke,builtin,Sem.run_bind,Sem.run_pure,Result.andThen_ok,List.map_toArray,List.map_cons,List.map_nil,hs,hx,hr];exact h v' w' h2 h3
theorem zAu {ok:Nat->Prop} {w W':World} {v:Value} {o:Obj} (hg:(w.alloc o).grownBy W' v.ownBlock) (hv:∀ k,v.ownBlock=some k->ok k):w.heap.size<=W'.heap.size/\∀ k,k<w.heap.size->¬ok k->W'.heap[k]?=w.heap[k]?:=by
 refine ⟨Nat.le_trans (by simp) hg.size,fun k hk hn=>?_⟩;rw [hg.block k (by simp;omega) (fun e=>hn (hv k e.symm))];exact Below.heap_alloc _ _ _ hk
theorem zBb {ok:Nat->Prop} {S:List Nat} {B:Nat} {w W':World} {v:Value} {o:Obj} (hg:(w.alloc o).grownBy W' v.ownBlock) (hv:∀ k,v.ownBlock=some k->ok k) (bm:∀ i,ok i->B<=i) (hB:B<=w.heap.size):Aside S B w W' :=
 ⟨hg.os,hg.tape,hg.output,(zAu hg hv).1,fun k hk _=>(zAu hg hv).2 k (by omega) (fun h=>by have:=bm k h;omega)⟩
theorem zDD {P:Program} {ops:Array Oper} {Q:Exit->Act->World->Prop} {md:Region.Mode} {S:World->Prop} {late:Nat->Bool} {i j:Nat} {oi oj:Oper} {fuel:Nat} {listed:Array Bool} {a:Act} {w:World} (LV:ops[i]?=some oi) (qh:ops[j]?=some oj) (hr:Region.ready md ops listed=[i,j])
  (NW:Region.wanted oi (yielded ops a.tmps)=true) (Dh:Region.wanted oj (yielded ops a.tmps)=true)
  (h1:∀ K':Act->World->Prop,Shut (∀ a w,(late i=false->S w)->wpAnyL P md ops Q S late fuel (listed.setIfInBounds i true) a w->K' a w)->Oper.wp P oi a w K' Q)
  (h2:∀ K':Act->World->Prop,Shut (∀ a w,(late j=false->S w)->wpAnyL P md ops Q S late fuel (listed.setIfInBounds j true) a w->K' a w)->Oper.wp P oj a w K' Q):wpAnyL P md ops Q S late (fuel+1) listed a w:=by
 refine ⟨fun h0=>(by rw [hr] at h0;cases h0),fun q hq=>?_⟩;rw [hr] at hq;simp at hq;rcases hq with rfl | rfl
 ·refine wpOp_step LV (fun K' hK=>?_)
  rw [if_pos NW];exact h1 K' (fun a w hS hW=>hK a w ⟨hS,hW⟩)
 ·refine wpOp_step qh (fun K' hK=>?_)
  rw [if_pos Dh];exact h2 K' (fun a w hS hW=>hK a w ⟨hS,hW⟩)
theorem run_moreG {α:Type} (T:Kind α) {w:World} (t ty:TypeId) (ht:Tryz.prog.underlying t=some (.slice T.ty))
  (N lb:Nat) (ok:Nat->Prop) (v:Value) (l:List α) (ah:OwnX T ok w v l) (cs:List Value) (y:α) (hE:T.E (fun i=>N<=i) w cs y) (dI:∀ j u,cs[j]?=some u->w.cell? ((⟨lb,0,none⟩:Addr).add j)=some u)
  (hN:∀ i,ok i->i<N) (Bd:N<=w.heap.size) (hM:(l.length+1)*T.bytes<=140737488355328) (hm:l.length+1<=maxLen) :
  ∃ v' w',(Builtin.append_ #[t,t] ty #[v,.slice (some ⟨lb,0,none⟩) 1 1]).run Tryz.prog w=.ok v' w'/\OwnX T (fun i=>ok i\/N<=i) w' v' (l++[y])/\w.grownBy w' v.ownBlock:=by
 obtain ⟨i0,hi,db,bP,bY⟩:=info_parts T.info;obtain ⟨D,aU,eL,hD⟩:=ah;have hl:=T.len hE;obtain ⟨v',w',dE,i6,am,fR⟩:=zCV (P:=Tryz.prog) w 0 t ty T.ty i0 T.zero T.k T.bytes ht hi db bP bY T.zs T.pos v l.length _ aU ⟨lb,0,none⟩ 1 1 cs (by simp [hl]) dI (T.one hE) hm hM (by simp);have df:v'.ownBlock=v.ownBlock\/∃ k,v'.ownBlock=some k/\w.heap.size<=k:=fR;have gE:∀ k,some k≠v.ownBlock->k<w.heap.size->w'.heap[k]?=w.heap[k]?:=fun k hk hl=>am.block k hl hk;have pU:∀ i,some i≠v.ownBlock->i<w.heap.size->some i≠v'.ownBlock:=fun i h1 h2 e=>by
  rcases df with h | ⟨k,hk,hz⟩
  ·exact h1 (e.trans h)
  ·rw [hk] at e
   injection e with e;omega
 refine ⟨v',w',dE,⟨fun q=>if q=l.length then cs else D q,?_,?_,fun j hj=>?_⟩,am⟩
 ·have e:flat (fun q=>if q=l.length then cs else D q) (l.length+1)=flat D l.length++cs:=by
   rw [flat,zAY (D:=D) l.length (fun q hq=>by rw [if_neg (by omega)])];simp
  rw [List.length_append,List.length_singleton,e];exact i6
 ·intro k hk
  rcases df with h | ⟨q,hq,hz⟩
  ·exact .inl (eL k (h.symm.trans hk))
  ·rw [hq] at hk
   injection hk with hk;exact .inr (by omega)
 ·by_cases e:j=l.length
  ·subst e
   simp only [if_true,List.getElem_append_right nR,Nat.sub_self,List.getElem_cons_zero];have g1:=T.wide (ok':=fun k=>N<=k/\some k≠v.ownBlock/\k<w.heap.size) hE (fun k hk hl=>⟨hk,fun e=>by have:=hN k (eL k e.symm);omega,hl⟩);have g2:=T.keep g1 am.size (fun k hk hl=>gE k hk.2.1 hl);exact T.wide g2 (fun k hk _=>⟨.inr hk.1,pU k hk.2.1 hk.2.2⟩)
  ·have cM:j<l.length:=by simp at hj;omega
   simp only [if_neg e,List.getElem_append_left cM];have g1:=T.wide (ok':=fun k=>ok k/\some k≠v.ownBlock/\k<w.heap.size) (hD j cM) (fun k hk hl=>⟨hk.1,hk.2,hl⟩);have g2:=T.keep g1 am.size (fun k hk hl=>gE k hk.2.1 hl);exact T.wide g2 (fun k hk _=>⟨.inl hk.1,pU k hk.2.1 hk.2.2⟩)
theorem zEs {α:Type} (T:Kind α) {w:World} {o:Oper} {a:Act} {K:Act->World->Prop} {Q:Exit->Act->World->Prop} (s x:Operand) (t:TypeId)
  (ho:o.op=.call { callee:=.builtin .append,args:=#[s,x],argTypes:=#[t,t] }) (ht:Tryz.prog.underlying t=some (.slice T.ty))
  (N lb:Nat) (ok:Nat->Prop) (v:Value) (l:List α) (hs:a.eval s=v) (ah:OwnX T ok w v l) (cs:List Value) (y:α) (hE:T.E (fun i=>N<=i) w cs y) (dI:∀ j u,cs[j]?=some u->w.cell? ((⟨lb,0,none⟩:Addr).add j)=some u) (hx:a.eval x=.slice (some ⟨lb,0,none⟩) 1 1)
  (hN:∀ i,ok i->i<N) (Bd:N<=w.heap.size) (hM:(l.length+1)*T.bytes<=140737488355328) (hm:l.length+1<=maxLen)
  (h:∀ v' w',OwnX T (fun i=>ok i\/N<=i) w' v' (l++[y])->w.grownBy w' v.ownBlock->K (a.put o.dst v') w') :
  Oper.wp Tryz.prog o a w K Q:=by
 obtain ⟨v',w',hr,h2,h3⟩:=run_moreG T t o.type ht N lb ok v l ah cs y hE dI hN Bd hM hm;unfold Oper.wp execOp;simp only [ho,resolve,invoke,builtin,Sem.run_bind,Sem.run_pure,Result.andThen_ok,List.map_toArray,List.map_cons,List.map_nil,hs,hx,hr];exact h v' w' h2 h3
def putAt (w:World) (k o:Nat) (y:ExV):World:=(((((w.setCell ⟨k,o,none⟩ (.int .i64 y.op)).setCell ⟨k,o+1,none⟩ (.int .i64 y.k)).setCell ⟨k,o+2,none⟩ (.int .i64 y.n)).setCell ⟨k,o+3,none⟩ (.string y.name)).setCell ⟨k,o+4,none⟩ (.slice y.aS y.nS y.cS)).setCell ⟨k,o+5,none⟩ (.slice y.aL y.nL y.cL)
theorem zAd (w:World) (k o:Nat) (y:ExV):(putAt w k o y).heap.size=w.heap.size:=by simp [putAt,World.setCell]
theorem zAK (w:World) (k o:Nat) (y:ExV) (i:Nat) (h:i≠k):(putAt w k o y).heap[i]?=w.heap[i]?:=by
 unfold putAt;rw [Below.heap_setCell _ _ _ _ h,Below.heap_setCell _ _ _ _ h,Below.heap_setCell _ _ _ _ h,Below.heap_setCell _ _ _ _ h,Below.heap_setCell _ _ _ _ h,Below.heap_setCell _ _ _ _ h]
theorem putAt_in {w:World} {k:Nat} {cs:Array Value} {t:TypeId} (h:w.heap[k]?=some (.cells cs t (0,0))) (o:Nat) (y:ExV):(putAt w k o y).heap[k]?=some (.cells ((((((cs.setIfInBounds o (.int .i64 y.op)).setIfInBounds (o+1) (.int .i64 y.k)).setIfInBounds (o+2) (.int .i64 y.n)).setIfInBounds (o+3) (.string y.name)).setIfInBounds (o+4) (.slice y.aS y.nS y.cS)).setIfInBounds (o+5) (.slice y.aL y.nL y.cL)) t (0,0)) :=
 zAD (zAD (zAD (zAD (zAD (zAD h o (.int .i64 y.op)) (o+1) (.int .i64 y.k)) (o+2) (.int .i64 y.n)) (o+3) (.string y.name)) (o+4) (.slice y.aS y.nS y.cS)) (o+5) (.slice y.aL y.nL y.cL)
theorem OwnX.last {ok oM:Nat->Prop} {w:World} {g c:Nat} {l:List Ex} {y e:Ex} {x:ExV} (h:OwnX kExpr ok w (.slice (some ⟨g,0,none⟩) (l.length+1) c) (l++[y])) (hx:HEx oM w x.cells e) (hg:¬oM g) :
  OwnX kExpr (fun i=>ok i\/oM i) (putAt w g (l.length*6) x) (.slice (some ⟨g,0,none⟩) (l.length+1) c) (l++[e]):=by
 obtain ⟨D,h1,h2,h3⟩:=h;have aP:(l++[y]).length=l.length+1:=(by simp);have zm:(l++[e]).length=l.length+1:=(by simp);have IV:(D l.length).length=6:=kExpr.len (h3 l.length (by simp));have M7:∀ i,i<l.length->(D i).length=6:=fun i hi=>kExpr.len (h3 i (by simp;omega));have pH:=zBn l.length M7;rw [aP,flat] at h1;refine ⟨fun q=>if q=l.length then x.cells else D q,?_,?_,fun j hj=>?_⟩
 ·rw [zm]
  have ef:flat (fun q=>if q=l.length then x.cells else D q) (l.length+1)=flat D l.length++x.cells:=by
   rw [flat,zAY (D:=D) l.length (fun q hq=>by rw [if_neg (by omega)])];simp
  rw [ef];obtain ⟨bh,NE⟩:=h1;refine ⟨by rw [List.length_append,pH];simp [ExV.cells,kExpr];omega,?_⟩;rcases NE with ⟨hv,h0⟩ | ⟨g',cap,aR,hv,hb,CX,eR,eV,gq,g7⟩
  ·omega
  ·injection hv with e1 e2 e3
   injection e1 with e1;injection e1 with e4 e5 e6;subst e4 e3;refine .inr ⟨g,c,_,rfl,hb,putAt_in CX _ x,eR,eV,by simpa using gq,?_⟩;have FH:kExpr.k=6:=rfl;rw [FH] at g7 ⊢;obtain ⟨d0,d1,d2,d3,d4,d5,hd⟩:∃ d0 d1 d2 d3 d4 d5,D l.length=[d0,d1,d2,d3,d4,d5]:=by
    match hq:D l.length,IV with
    | [d0,d1,d2,d3,d4,d5],_=>exact ⟨d0,d1,d2,d3,d4,d5,rfl⟩
   rw [hd] at g7;simp only [Array.toList_setIfInBounds,List.take_set,g7];rw [<-pH];simp [ExV.cells,List.set_append_right]
 ·intro k hk
  exact .inl (h2 k hk)
 ·by_cases ej:j=l.length
  ·subst ej
   simp only [if_true,List.getElem_append_right nR,Nat.sub_self,List.getElem_cons_zero];have q1:=hx.keep (w':=putAt w g (l.length*6) x) (by rw [zAd];exact Nat.le_refl _) fun i hi _=>zAK _ _ _ _ _ (fun e=>hg (e ▸ hi));exact q1.wide fun i hi _=>⟨.inr hi,fun e=>by simp [Value.ownBlock] at e;exact hg (e ▸ hi)⟩
  ·have cM:j<l.length:=by simp at hj;omega
   have q0:=h3 j (by simp;omega);simp only [List.getElem_append_left cM] at q0;simp only [if_neg ej,List.getElem_append_left cM];have q1:=kExpr.keep (w':=putAt w g (l.length*6) x) q0 (by rw [zAd];exact Nat.le_refl _) fun i hi _=>zAK _ _ _ _ _ (fun e=>hi.2 (by rw [e];simp [Value.ownBlock]));exact kExpr.wide q1 fun i hi _=>⟨.inl hi.1,hi.2⟩
def small (n:Int):Bool:=decide (-1000000<=n)&&decide (n<=1000000)
def te (t:Tm):Te:=(t.1,t.2.data.toList)
theorem zBI {B:Nat} {w w':World} (h:Below B w w') (n:Nat):Below B w (w'.drewN n):=⟨h.os,h.tape,h.output,h.size,h.block⟩
theorem OwnL.lower {α:Type} {T:Kind α} {B B':Nat} {w:World} {v:Value} {l:List α} (h:OwnL T B' w v l) (hB:B<=B'):OwnL T B w v l:=by
 obtain ⟨D,h1,h2⟩:=h;refine ⟨D,⟨h1.1,?_⟩,fun j hj=>T.wide (h2 j hj) fun i hi _=>⟨Nat.le_trans hB hi.1,hi.2⟩⟩;rcases h1.2 with h0 | ⟨g,cap,aR,hv,hb,hr⟩
 ·exact .inl h0
 ·exact .inr ⟨g,cap,aR,hv,Nat.le_trans hB hb,hr⟩
theorem sumOf_bound {l:List Te} {s:List UInt8} {m:Int} (hm:0<=m):(∀ t ∈ l,-m<=t.1/\t.1<=m) ->-(m*l.length)<=sumOf l s/\sumOf l s<=m*l.length:=by
 induction l with
 | nil=>intro _;simp [sumOf]
 | cons t l ih=>
  intro h;obtain ⟨a,b⟩:=ih (fun u hu=>h u (by simp [hu]));obtain ⟨c,d⟩:=h t (by simp);have e:m*((t :: l).length:Int)=m*(l.length:Int)+m:=by
   rw [List.length_cons];push_cast;rw [Int.mul_add,Int.mul_one]
  rw [e];unfold sumOf
  split<;>omega
theorem zCg {n:Int}:small n=true ↔ -1000000<=n/\n<=1000000:=by simp [small]
theorem seq_iff {x y:ByteArray}:(x.toList==y.toList)=true↔x.data.toList=y.data.toList:=by rw [Lib.toList_data,Lib.toList_data];simp
def NormP (B:Nat) (w':World) (l:List Tm) (v:Value) (c a:Int):Prop :=
 (1000<l.length/\v=.slice none 0 0/\c=7/\a = -1) \/
 (l.length<=1000/\∃ i:Nat,∃ h:i<l.length,small (l[i]).1=false/\(∀ j (hj:j<i),small (l[j]'(by omega)).1=true)/\v=.slice none 0 0/\c=16/\a=(i:Int)) \/
 (l.length<=1000/\(∀ t ∈ l,small t.1=true)/\c=0/\a=0/\∃ r,OwnL kTerm B w' v r/\NF (l.map te) (r.map te))
end Go.Proofs.YtkfgbhlpjkkgfaaGreatDoor
namespace Go.Proofs.YtkfgbhlpjkkgfaaGreatDoor
open Go.RowKit Go.IntWalk
namespace Kd
structure Ty where
 elem:Int
 n:List Tm
def arr (t:Ty):Bool:=decide (0<t.n.length)
def isSc (t:Ty) (e:Int):Bool := !arr t&&decide (t.elem=e)
def isAr (t:Ty) (e:Int):Bool:=arr t&&decide (t.elem=e)
def sc (e:Int):Ty:=⟨e,[]⟩
def mkA (e:Int) (n:List Tm):Ty:=⟨e,if n.length=0 then [(0,⟨#[]⟩)] else n⟩
def opsT:List (Int × Int × Int):=[(0,0,0),(105,105,2),(105,105,2),(105,105,2),(105,105,2),(105,105,2),(105,105,2),(105,105,2),(105,98,2),(105,98,2),(98,98,2),(98,98,2),(98,98,2),(105,105,1),(98,98,1)]
def opN (k:Nat):Int × Int × Int:=opsT.getD k (0,0,0)
def opT (k:Int):Int × Int × Int:=if k<0\/15<=k then (0,0,0) else opN k.toNat
def folds (k:Int):Bool:=decide ((opT k).2.2=2)&&decide ((opT k).1=(opT k).2.1)
def typed (b:Bool) (t:Ty):Except Int Ty:=if b=true then .ok t else .error 10
end Kd
def HTy (ok:Nat->Prop) (w:World) (v:Value) (t:Kd.Ty):Prop:=∃ u,v=.agg #[.int .u8 t.elem,u]/\HTerms ok w u t.n
theorem HTy.keep {ok:Nat->Prop} {w w':World} {v:Value} {t:Kd.Ty} (h:HTy ok w v t) (hs:w.heap.size<=w'.heap.size) (hk:∀ i,ok i->i<w.heap.size->w'.heap[i]?=w.heap[i]?):HTy ok w' v t:=by
 obtain ⟨u,e,h⟩:=h;exact ⟨u,e,h.keep hs hk⟩
theorem HTy.under {ok:Nat->Prop} {w w':World} {v:Value} {t:Kd.Ty} (h:HTy ok w v t) (a:Below w.heap.size w w'):HTy ok w' v t:=h.keep a.size fun i _ hl=>a.block i hl
theorem HTy.wide {ok ok':Nat->Prop} {w:World} {v:Value} {t:Kd.Ty} (h:HTy ok w v t) (hk:∀ i,ok i->i<w.heap.size->ok' i):HTy ok' w v t:=by
 obtain ⟨u,e,h⟩:=h;exact ⟨u,e,h.wide hk⟩
theorem HTerms.nought {ok:Nat->Prop} {w:World}:HTerms ok w (.slice none 0 0) []:=⟨fun _=>[],⟨Option.none,0,rfl,Nat.le_refl _,Nat.zero_le _,fun h=>absurd h (Nat.lt_irrefl _)⟩,fun i h=>absurd h (Nat.not_lt_zero _)⟩
theorem HTy.zero {ok:Nat->Prop} {w:World} (e:Int):HTy ok w (.agg #[.int .u8 e,.slice none 0 0]) (Kd.sc e):=⟨_,rfl,HTerms.nought⟩
def okU (ok:Nat->Prop) (B:Nat) (i:Nat):Prop:=ok i\/B<=i
end Go.Proofs.YtkfgbhlpjkkgfaaGreatDoor
