import Derived.Test.YtophfbefnaelfaaGreatDoorF08
import Derived.Test.YtophfbefnaelfaaGreatDoorF06
set_option linter.unusedVariables false
set_option linter.unusedSimpArgs false
set_option maxHeartbeats 64000000
set_option maxRecDepth 100000
namespace Go.Proofs.YtophfbefnaelfaaGreatDoor
open Go.RowKit Go.IntWalk
structure Kind (α:Type) where
 ty:TypeId
 k:Nat
 bytes:Nat
 zero:Value
 E:(Nat→Prop)→World→List Value→α→Prop
 pos:0<k
 zs:zero.cells.size=k
 info:(Tryz.prog.info? ty).map (fun i=>(i.zero,i.size,i.bytes))=some (some zero,k,bytes)
 len:∀ {ok w cs a},E ok w cs a→cs.length=k
 one:∀ {ok w cs a},E ok w cs a→∀ u ∈ cs,u.oneCell'=true
 keep:∀ {ok w w' cs a},E ok w cs a→w.heap.size≤w'.heap.size→(∀ i,ok i→i<w.heap.size→w'.heap[i]?=w.heap[i]?)→E ok w' cs a
 wide:∀ {ok ok' w cs a},E ok w cs a→(∀ i,ok i→i<w.heap.size→ok' i)→E ok' w cs a
def OwnL {α:Type} (T:Kind α) (B:Nat) (w:World) (v:Value) (l:List α):Prop :=
 ∃ D,w.ownsRow B T.ty T.k v l.length (flat D l.length)∧∀ j (h:j<l.length),T.E (Off B v) w (D j) l[j]
def HRow {α:Type} (T:Kind α) (ok:Nat→Prop) (w:World) (v:Value) (l:List α):Prop :=
 ∃ C,Sl ok T.k w v l.length C∧∀ j (h:j<l.length),T.E ok w (C j) l[j]
theorem OwnL.nil {α:Type} {T:Kind α} {B:Nat} {w:World}:OwnL T B w (.slice none 0 0) [] :=
 ⟨fun _=>[],World.ownsRow_nil _ _ _ _,fun j h=>absurd h (Nat.not_lt_zero _)⟩
theorem OwnL.lt {α:Type} {T:Kind α} {B:Nat} {w:World} {v:Value} {l:List α} (h:OwnL T B w v l):∀ k,v.ownBlock=some k→B≤k∧k<w.heap.size:=by
 obtain ⟨D,h1,h2⟩:=h;exact fun k hk=>World.ownsRow.lt h1 k hk
theorem OwnL.form {α:Type} {T:Kind α} {B:Nat} {w:World} {v:Value} {l:List α} (h:OwnL T B w v l):∃ a c,v=.slice a l.length c∧l.length≤c∧c≤maxLen:=by
 obtain ⟨D,h1,h2⟩:=h;rcases h1.2 with ⟨rfl,h0⟩ | ⟨g,cap,cur,rfl,hb,hg,hnc,hcm,_⟩
 ·exact ⟨none,0,by rw [h0],by omega,by unfold maxLen;omega⟩
 ·exact ⟨_,_,rfl,hnc,hcm⟩
theorem OwnL.keep {α:Type} {T:Kind α} {B:Nat} {w w':World} {v:Value} {l:List α} (h:OwnL T B w v l) (hs:w.heap.size≤w'.heap.size) (hk:∀ i,B≤i→i<w.heap.size→w'.heap[i]?=w.heap[i]?):OwnL T B w' v l:=by
 obtain ⟨D,h1,h2⟩:=h;refine ⟨D,⟨h1.1,?_⟩,fun j hj=>T.keep (h2 j hj) hs fun i hi hl=>hk i hi.1 hl⟩;rcases h1.2 with h0 | ⟨g,cap,cur,hv,hb,hg,hr⟩
 ·exact .inl h0
 ·exact .inr ⟨g,cap,cur,hv,hb,(hk g hb (lt_of hg)).trans hg,hr⟩
theorem OwnL.below {α:Type} {T:Kind α} {B:Nat} {w w':World} {v:Value} {l:List α} (h:OwnL T B w v l) (hb:Below w.heap.size w w'):OwnL T B w' v l:=h.keep hb.size fun i _ hl=>hb.block i hl
theorem OwnL.past {α:Type} {T:Kind α} {B:Nat} {S:List Nat} {w w':World} {v:Value} {l:List α} (h:OwnL T B w v l) (a:Aside S w.heap.size w w') (hS:∀ k ∈ S,k<B):OwnL T B w' v l :=
 h.keep a.size fun i hi hl=>a.block i hl fun hm=>by have:=hS i hm;omega
theorem OwnL.set {α:Type} {T:Kind α} {B:Nat} {w:World} {v:Value} {l:List α} (h:OwnL T B w v l) {p:Addr} (hp:p.block<B) (u:Value):OwnL T B (w.setCell p u) v l :=
 h.keep (by simp [World.setCell]) fun i hi hl=>Below.heap_setCell _ _ _ _ (fun e=>by omega)
theorem OwnL.row {α:Type} {T:Kind α} {B:Nat} {w:World} {v:Value} {l:List α} (h:OwnL T B w v l):HRow T (fun i=>B≤i) w v l:=by
 obtain ⟨D,h1,h2⟩:=h;exact ⟨D,owns_sl h1 (fun i hi=>T.len (h2 i hi)),fun j hj=>T.wide (h2 j hj) fun i hi _=>hi.1⟩
theorem HRow.form {α:Type} {T:Kind α} {ok:Nat→Prop} {w:World} {v:Value} {l:List α} (h:HRow T ok w v l):∃ a c,v=.slice a l.length c∧l.length≤c∧c≤maxLen:=by
 obtain ⟨C,⟨a,c,hv,h1,h2,_⟩,_⟩:=h;exact ⟨a,c,hv,h1,h2⟩
theorem HRow.keep {α:Type} {T:Kind α} {ok:Nat→Prop} {w w':World} {v:Value} {l:List α} (h:HRow T ok w v l) (hs:w.heap.size≤w'.heap.size) (hk:∀ i,ok i→i<w.heap.size→w'.heap[i]?=w.heap[i]?):HRow T ok w' v l:=by
 obtain ⟨C,h1,h2⟩:=h;exact ⟨C,h1.keep hs hk,fun j hj=>T.keep (h2 j hj) hs hk⟩
theorem HRow.wide {α:Type} {T:Kind α} {ok ok':Nat→Prop} {w:World} {v:Value} {l:List α} (h:HRow T ok w v l) (hk:∀ i,ok i→i<w.heap.size→ok' i):HRow T ok' w v l:=by
 obtain ⟨C,h1,h2⟩:=h;exact ⟨C,h1.wide hk,fun j hj=>T.wide (h2 j hj) hk⟩
theorem OwnL.lit {α:Type} {T:Kind α} {B:Nat} {w:World} {cs:List Value} {x:α} (hB:B≤w.heap.size) (h:T.E (fun i=>B≤i) w cs x):OwnL T B (w.alloc (.cells cs.toArray T.ty (0,0))) (.slice (some ⟨w.heap.size,0,none⟩) 1 1) [x]:=by
 have hl:=T.len h;refine ⟨fun _=>cs,?_,fun j hj=>?_⟩
 ·have:=World.ownsRow_lit (base:=B) (e:=T.ty) (size:=T.k) w cs.toArray 1 hB (by decide) (by simp [hl])
  simpa [flat] using this
 ·have hj0:j=0:=by simp at hj;exact hj
  subst hj0;have h1:=T.wide (ok':=fun i=>Off B (.slice (some ⟨w.heap.size,0,none⟩) 1 1) i) h fun i hi hl=>⟨hi,fun e=>by simp [Value.ownBlock] at e;omega⟩;exact T.keep h1 (by simp) fun i _ hl=>Below.heap_alloc _ _ _ hl
theorem cells_new (w:World) (cs:List Value) (t:TypeId):∀ j u,cs[j]?=some u→(w.alloc (.cells cs.toArray t (0,0))).cell? ((⟨w.heap.size,0,none⟩:Addr).add j)=some u:=by
 intro j u hj;have hn:=heap_new w (.cells cs.toArray t (0,0));have adds:(⟨w.heap.size,0,none⟩:Addr).add j=⟨w.heap.size,j,none⟩:=by unfold Addr.add;split<;>simp_all
 rw [adds,co hn]
 simpa using hj
theorem wpList_more {α:Type} (T:Kind α) {w:World} {ops:Array Oper} {rest:List Oper} {o:Oper} {a:Act} {Q:Exit→Act→World→Prop} (hgd:o.guard=none) (s x:Operand) (t tt:TypeId)
  (ho:o.op=.call { callee:=.builtin .append,args:=#[s,x],argTypes:=#[t,t] }) (ht:Tryz.prog.underlying t=some (.slice T.ty))
  (B N:Nat) (v:Value) (l:List α) (hs:a.eval s=v) (hown:OwnL T B w v l) (cs:List Value) (y:α) (hE:T.E (fun i=>N≤i) w cs y) (hx:a.eval x=.slice (some ⟨w.heap.size,0,none⟩) 1 1)
  (hN:∀ k,v.ownBlock=some k→k<N) (hBN:B≤N) (hBw:B≤w.heap.size) (hM:(l.length+1)*T.bytes≤140737488355328) (hm:l.length+1≤maxLen)
  (h:∀ v' w',OwnL T B w' v' (l++[y])→Below B w w'→(w.alloc (.cells cs.toArray tt (0,0))).grownBy w' v.ownBlock→Moved (w.alloc (.cells cs.toArray tt (0,0))) v v'→wpList Tryz.prog ops Q rest (a.put o.dst v') w') :
  wpList Tryz.prog ops Q (o :: rest) a (w.alloc (.cells cs.toArray tt (0,0))):=by
 obtain ⟨i0,hi,hz0,hz1,hz2⟩:=info_parts T.info;have hown1:=hown.below ((Below.refl _ w).alloc nR (.cells cs.toArray tt (0,0)));obtain ⟨D,hrow,hD⟩:=hown1;have hl:=T.len hE;refine wpList_push hgd s x t ho B T.ty i0 T.zero T.k T.bytes ht hi hz0 hz1 hz2 T.zs T.pos v l.length _ hs hrow ⟨w.heap.size,0,none⟩ 1 1 cs hx (by simp [hl]) (cells_new w cs tt) (T.one hE) hm hM (by simp;omega) ?_;intro v' w' hrow' hgrow hmv;have hmv':Moved (w.alloc (.cells cs.toArray tt (0,0))) v v':=hmv;have hgk:=grown_keep (B:=B) (v:=v) hgrow;refine h v' w' ⟨fun q=>if q=l.length then cs else D q,?_,fun j hj=>?_⟩ (Below.push ((Below.refl B w).alloc hBw _) (by simp;omega) hrow hgrow) hgrow hmv'
 ·have e:flat (fun q=>if q=l.length then cs else D q) (l.length+1)=flat D l.length++cs:=by
   rw [flat,flat_congr (D:=D) l.length (fun q hq=>by rw [if_neg (by omega)])];simp
  rw [List.length_append,List.length_singleton,e];exact hrow'
 ·by_cases e:j=l.length
  ·subst e
   simp only [if_true,List.getElem_append_right nR,Nat.sub_self,List.getElem_cons_zero];have g0:=T.keep (w':=w.alloc (.cells cs.toArray tt (0,0))) hE (by simp) fun i _ hl=>Below.heap_alloc _ _ _ hl;have g1:=T.wide (ok':=fun k=>Off B v k∧k<(w.alloc (.cells cs.toArray tt (0,0))).heap.size) g0 (fun k hk hl=>⟨⟨by omega,fun e=>by have:=hN k e.symm;omega⟩,hl⟩);have g2:=T.keep g1 hgrow.size (fun k hk hl=>hgk k hk.1 hl);exact T.wide g2 (fun k hk _=>Off.moved hmv' hk.1 hk.2)
  ·have hjl:j<l.length:=by simp at hj;omega
   simp only [if_neg e,List.getElem_append_left hjl];have g1:=T.wide (ok':=fun k=>Off B v k∧k<(w.alloc (.cells cs.toArray tt (0,0))).heap.size) (hD j hjl) (fun k hk hl=>⟨hk,hl⟩);have g2:=T.keep g1 hgrow.size (fun k hk hl=>hgk k hk.1 hl);exact T.wide g2 (fun k hk _=>Off.moved hmv' hk.1 hk.2)
/-! ### The kinds -/
def kName:Kind ByteArray where
 ty:=9
 k:=1
 bytes:=16
 zero:=.string ⟨#[]⟩
 E:=fun _ _ cs s=>cs=[.string s]
 pos:=by decide
 zs:=rfl
 info:=Tryz.info9
 len:=by rintro _ _ _ _ rfl;rfl
 one:=by rintro _ _ _ _ rfl;simp;rfl
 keep:=by rintro _ _ _ _ _ rfl _ _;rfl
 wide:=by rintro _ _ _ _ _ rfl _;rfl
def kTerm:Kind Tm where
 ty:=86
 k:=2
 bytes:=24
 zero:=.agg #[.int .i64 0,.string ⟨#[]⟩]
 E:=fun _ _ cs t=>cs=[.int .i64 t.1,.string t.2]
 pos:=by decide
 zs:=rfl
 info:=Tryz.info86
 len:=by rintro _ _ _ _ rfl;rfl
 one:=by
  rintro _ _ _ _ rfl u hu;simp at hu;rcases hu with rfl | rfl<;>rfl
 keep:=by rintro _ _ _ _ _ rfl _ _;rfl
 wide:=by rintro _ _ _ _ _ rfl _;rfl
theorem HTerms.slice {ok:Nat→Prop} {w:World} {v:Value} {l:List Tm} (h:HTerms ok w v l):∃ a n c,v=.slice a n c:=by
 obtain ⟨C,⟨a,c,hv,_⟩,_⟩:=h;exact ⟨a,_,c,hv⟩
def kSize:Kind (List Tm) where
 ty:=73
 k:=1
 bytes:=24
 zero:=.slice none 0 0
 E:=fun ok w cs l=>∃ u,cs=[u]∧HTerms ok w u l
 pos:=by decide
 zs:=rfl
 info:=Tryz.info73
 len:=by rintro _ _ _ _ ⟨u,rfl,_⟩;rfl
 one:=by
  rintro _ _ _ _ ⟨u,rfl,hT⟩ x hx;obtain ⟨a,n,c,rfl⟩:=hT.slice;simp at hx;subst hx;rfl
 keep:=by rintro _ _ _ _ _ ⟨u,e,hT⟩ h1 h2;exact ⟨u,e,hT.keep h1 h2⟩
 wide:=by rintro _ _ _ _ _ ⟨u,e,hT⟩ h1;exact ⟨u,e,hT.wide h1⟩
def kDecl:Kind De where
 ty:=77
 k:=3
 bytes:=48
 zero:=.agg #[.string ⟨#[]⟩,.int .u8 0,.slice none 0 0]
 E:=fun ok w cs d=>∃ u,cs=[.string d.name,.int .u8 d.elem,u]∧HTerms ok w u d.n
 pos:=by decide
 zs:=rfl
 info:=Tryz.info77
 len:=by rintro _ _ _ _ ⟨u,rfl,_⟩;rfl
 one:=by
  rintro _ _ _ _ ⟨u,rfl,hT⟩ x hx;obtain ⟨a,n,c,rfl⟩:=hT.slice;simp at hx;rcases hx with rfl | rfl | rfl<;>rfl
 keep:=by rintro _ _ _ _ _ ⟨u,e,hT⟩ h1 h2;exact ⟨u,e,hT.keep h1 h2⟩
 wide:=by rintro _ _ _ _ _ ⟨u,e,hT⟩ h1;exact ⟨u,e,hT.wide h1⟩
def kExpr:Kind Ex where
 ty:=88
 k:=6
 bytes:=88
 zero:=.agg #[.int .i64 0,.int .i64 0,.int .i64 0,.string ⟨#[]⟩,.slice none 0 0,.slice none 0 0]
 E:=fun ok w cs e=>HEx ok w cs e
 pos:=by decide
 zs:=rfl
 info:=Tryz.info88
 len:=by
  intro _ _ _ _ h;obtain ⟨x,rfl,_⟩:=h.toV;rfl
 one:=by
  intro _ _ _ _ h u hu;obtain ⟨x,rfl,_⟩:=h.toV;simp [ExV.cells] at hu;rcases hu with rfl | rfl | rfl | rfl | rfl | rfl<;>rfl
 keep:=fun h h1 h2=>h.keep h1 h2
 wide:=fun h h1=>h.wide h1
def kEq:Kind Eqn where
 ty:=49
 k:=5
 bytes:=96
 zero:=.agg #[.int .i64 0,.slice none 0 0,.string ⟨#[]⟩,.slice none 0 0,.slice none 0 0]
 E:=fun ok w cs q=>∃ x:EqV,cs=x.cells∧HEq ok w x q
 pos:=by decide
 zs:=rfl
 info:=Tryz.infoEq
 len:=by rintro _ _ _ _ ⟨u,rfl,_⟩;rfl
 one:=by
  rintro _ _ _ _ ⟨x,rfl,hT⟩ u hu;simp [EqV.cells] at hu;rcases hu with rfl | rfl | rfl | rfl | rfl<;>rfl
 keep:=by rintro _ _ _ _ _ ⟨u,e,hT⟩ h1 h2;exact ⟨u,e,hT.keep h1 h2⟩
 wide:=by rintro _ _ _ _ _ ⟨u,e,hT⟩ h1;exact ⟨u,e,hT.wide h1⟩
def kNode:Kind Nd where
 ty:=43
 k:=7
 bytes:=144
 zero:=.agg #[.string ⟨#[]⟩,.int .i64 0,.slice none 0 0,.slice none 0 0,.slice none 0 0,.slice none 0 0,.slice none 0 0]
 E:=fun ok w cs q=>∃ x:NdV,cs=x.cells∧HNd ok w x q
 pos:=by decide
 zs:=rfl
 info:=Tryz.info43
 len:=by rintro _ _ _ _ ⟨u,rfl,_⟩;rfl
 one:=by
  rintro _ _ _ _ ⟨x,rfl,hT⟩ u hu;simp [NdV.cells] at hu;rcases hu with rfl | rfl | rfl | rfl | rfl | rfl | rfl<;>rfl
 keep:=by rintro _ _ _ _ _ ⟨u,e,hT⟩ h1 h2;exact ⟨u,e,hT.keep h1 h2⟩
 wide:=by rintro _ _ _ _ _ ⟨u,e,hT⟩ h1;exact ⟨u,e,hT.wide h1⟩
theorem names_row {ok:Nat→Prop} {w:World} {v:Value} {l:List ByteArray} (h:HRow kName ok w v l):HNames ok w v l:=h
theorem terms_row {ok:Nat→Prop} {w:World} {v:Value} {l:List Tm} (h:HRow kTerm ok w v l):HTerms ok w v l:=h
theorem sizes_row {ok:Nat→Prop} {w:World} {v:Value} {l:List (List Tm)} (h:HRow kSize ok w v l):HSizes ok w v l:=h
theorem decls_row {ok:Nat→Prop} {w:World} {v:Value} {l:List De} (h:HRow kDecl ok w v l):HDes ok w v l:=h
theorem exprs_row {ok:Nat→Prop} {w:World} {v:Value} {l:List Ex} (h:HRow kExpr ok w v l):HExs ok w v l:=h
theorem eqs_row {ok:Nat→Prop} {w:World} {v:Value} {l:List Eqn} (h:HRow kEq ok w v l):HEqs ok w v l:=h
theorem nodes_row {ok:Nat→Prop} {w:World} {v:Value} {l:List Nd} (h:HRow kNode ok w v l):HNds ok w v l:=h
def szV:Nat→World→Value→List Tm→Prop:=fun B w x l=>HTerms (fun i=>B≤i) w x l
theorem seesI {w:World} {b g cap:Nat} {I:Inp} {nx op:Nat} (h:Rd w b g cap I.L I.len nx op) (s:ByteArray) :
  Calls Tryz.prog 92 #[.pointer (some ⟨b,0,none⟩),.string s] w fun e w'=>e=.returned (.bool (Ps.sees I s.data.toList nx))∧Below w.heap.size w w':=sees_any h s
theorem Rd.under {w w':World} {b g cap:Nat} {L:List Tk.Tok} {len nx op B:Nat} (h:Rd w b g cap L len nx op) (hb:Below B w w') (h1:b<B) (h2:g<B):Rd w' b g cap L len nx op :=
 ⟨(hb.block b h1).trans h.here,h.toks.keep (hb.block g h2),h.apart,Nat.lt_of_lt_of_le h.gb hb.size,h.le,h.lc,h.cm⟩
theorem terms_stop {I:Inp} {n:Nat} (hp:Ps.sees I [43] n=false) (hq:Ps.sees I [45] n=false):∀ (k:Nat) (acc:List Tm),Ps.terms I k acc n=.ok acc n
 | 0,_=>by simp [Ps.terms,hp,hq]
 | _+1,_=>by simp [Ps.terms,hp,hq]
theorem terms_zero {I:Inp} {n:Nat} (hp:Ps.sees I [43] n=true∨Ps.sees I [45] n=true) (acc:List Tm):Ps.terms I 0 acc n=.err 7 (I.pk n).place:=by simp [Ps.terms,hp]
theorem terms_more {I:Inp} {n:Nat} (hp:Ps.sees I [43] n=true∨Ps.sees I [45] n=true) (f:Nat) (acc:List Tm):Ps.terms I (f+1) acc n=(Ps.term I (Ps.sees I [45] n) (n+1)).bind fun t n1=>Ps.terms I f (acc++[t]) n1:=by simp [Ps.terms,hp]
theorem size_any {w:World} {b g cap:Nat} {I:Inp} {nx op:Nat} (h:Rd w b g cap I.L I.len nx op) :
  Calls Tryz.prog 137 #[.pointer (some ⟨b,0,none⟩)] w (Post b g cap I op szV nx w (Ps.size I nx)):=by
 have hb:=h.bb;have hg:=h.gb;go_enter Tryz.func137,Tryz.ntmps137;go_wp2_with fail;refine (take_any h ⟨#[45]⟩ (by decide)).mono ?_;rintro e w1 ⟨rfl,h1,a1⟩;have es:(⟨#[45]⟩:ByteArray).data.toList=[45]:=rfl;rw [es] at h1;simp only [es];clear es;obtain ⟨m,hm⟩:=nmQ (Ps.sees I [45] nx);rw [←hm] at h1 ⊢;obtain ⟨n0,hn0⟩:=nmQ (if m=true then nx+1 else nx);rw [←hn0] at h1;have hle0:nx≤n0:=by rw [hn0];split<;>omega
 have HM:=hide hm;have HN0:=hide hn0;have hmodel:Hid (Ps.size I nx=(Ps.term I m n0).bind fun t n1=>Ps.terms I 29 [t] n1):=by
  show Ps.size I nx=_
  unfold Ps.size;rw [←HM.out,←HN0.out]
 clear hm hn0;have z1:=a1.size;go_wp2_with fail;refine (term_any h1 m).mono ?_;rintro e w2 ⟨a2,hres⟩;have z2:=a2.size;have A2:=a1.trans a2 z1
 cases ht:Ps.term I m n0 with
 | err c a=>
  rw [ht] at hres;obtain rfl:e=_:=hres;exact ⟨rfl,Post.fail (by rw [hmodel.out,ht];rfl) A2⟩
 | ok t n1=>
  rw [ht] at hres;obtain ⟨le2,h2,_,rfl,rfl⟩:=hres;have hmodel2:Hid (Ps.size I nx=Ps.terms I 29 [t] n1):=by
   show Ps.size I nx=_
   rw [hmodel.out,ht];rfl
  have hlit:OwnL kTerm w.heap.size (w2.alloc (.cells #[.int .i64 t.1,.string t.2] 86 (0,0))) (.slice (some ⟨w2.heap.size,0,none⟩) 1 1) [t]:=OwnL.lit (T:=kTerm) (cs:=[.int .i64 t.1,.string t.2]) (by omega) rfl;have A3:=A2.alloc (by omega) (.cells #[.int .i64 t.1,.string t.2] 86 (0,0));have h3:=h2.alloc (.cells #[.int .i64 t.1,.string t.2] 86 (0,0));clear hmodel a1 a2 h1 A2 h2 ht;go_wp2;go_loopg [3,4] 29 (fun k v3 v4 wr=>∃ (n:Nat) (acc:List Tm) (m3:Bool),k+acc.length=30∧v3=.bool m3∧OwnL kTerm w.heap.size wr v4 acc∧Rd wr b g cap I.L I.len n op∧Aside [b] w.heap.size w wr∧nx≤n∧Hid (Ps.size I nx=Ps.terms I k acc n))
  case atStart=>exact ⟨n1,[t],m,rfl,rfl,hlit,h3,A3,by omega,hmodel2⟩
  case round=>
   obtain ⟨n,acc,m3,hk,rfl,hown,hr,hA,hle,hmod⟩:=hrel;obtain ⟨aa,cc,rfl,hc1,hc2⟩:=hown.form;unfold maxLen at hc2;have zr:=hA.size;go_wp2_with fail;refine (seesI hr ⟨#[43]⟩).mono ?_;rintro e w4 ⟨rfl,b4⟩;have es:(⟨#[43]⟩:ByteArray).data.toList=[43]:=rfl;simp only [es];clear es;have h4:=hr.below b4;have A4:=hA.trans (aside b4) hA.size;have own4:=hown.below b4
   cases hp:Ps.sees I [43] n with
   | true=>
    clear hr hA hown;have hcond:Ps.sees I [43] n=true∨Ps.sees I [45] n=true:=.inl hp;have hlt:n<I.L.length:=by rcases hcond with q | q<;>exact sees_lt q (by simp)
    by_cases hz:gk=0
    ·subst hz
     go_wp2_with fail;refine (allow_no h4 _ _ (by omega)).mono ?_;rintro e w5 ⟨rfl,b5⟩;exact ⟨rfl,Post.fail (by rw [hmod.out];exact terms_zero hcond acc) (A4.trans (aside b5) A4.size)⟩
    ·obtain ⟨f,rfl⟩:∃ f,gk=f+1:=⟨gk-1,by omega⟩
     have hstep:=hide (hmod.out.trans (terms_more hcond f acc));go_wp2_with fail;refine (allow_yes _ _ _ (by omega) _).mono ?_;rintro e w5 ⟨rfl,rfl⟩;go_wp2_with fail;refine (seesI h4 ⟨#[45]⟩).mono ?_;rintro e w5 ⟨rfl,b5⟩;have es:(⟨#[45]⟩:ByteArray).data.toList=[45]:=rfl;simp only [es];clear es;obtain ⟨mm,hmm⟩:=nmQ (Ps.sees I [45] n);rw [←hmm] at hstep ⊢;clear hmm;have h5:=h4.below b5;have A5:=A4.trans (aside b5) A4.size;have own5:=own4.below b5;go_wp2_with fail;refine (step_any h5 hlt).mono ?_;rintro e w6 ⟨rfl,h6,a6⟩;have A6:=A5.trans a6 A5.size;have own6:=own5.past a6 (by simp;omega);go_wp2_with fail;refine (term_any h6 mm).mono ?_;rintro e w7 ⟨a7,hres⟩;have A7:=A6.trans a7 A6.size;have own7:=own6.past a7 (by simp;omega);have z7:=A7.size
     cases ht:Ps.term I mm (n+1) with
     | err c a=>
      rw [ht] at hres;obtain rfl:e=_:=hres;exact ⟨rfl,Post.fail (by rw [hstep.out,ht];rfl) A7⟩
     | ok t2 n2=>
      rw [ht] at hres;obtain ⟨le7,h7,_,rfl,rfl⟩:=hres;have hmod2:Hid (Ps.size I nx=Ps.terms I f (acc++[t2]) n2):=by
       show Ps.size I nx=_
       rw [hstep.out,ht];rfl
      have hNb:=fun k hk=>(own7.lt k hk).2;clear hstep hmod ht a6 a7 b5 h5 h6 own5 own6 A5 A6 own4 h4 A4;have q1:kTerm.E (fun i=>w7.heap.size≤i) w7 [.int .i64 t2.1,.string t2.2] t2:=rfl;have q2:(acc.length+1)*kTerm.bytes≤140737488355328:=(by show (acc.length+1)*24≤_;omega);have q3:acc.length+1≤maxLen:=(by unfold maxLen;omega)
      go_wp2_with (at_builtin;refine wpList_more kTerm rfl _ _ 73 86 rfl Tryz.underlying73 w.heap.size w7.heap.size _ acc (by rfl) own7 [.int .i64 t2.1,.string t2.2] t2 q1 (by rfl) hNb z7 z7 q2 q3 ?_;intro v8 w8 own8 b8 _ _)
      go_wp2;go_roundg f
      case measure=>omega
      case rel=>exact ⟨n2,acc++[t2],mm,by simp;omega,rfl,own8,(h7.under b8 (by omega) (by omega)),A7.trans (aside b8) nR,by omega,hmod2⟩
   | false=>
    go_wp2_with fail;refine (seesI h4 ⟨#[45]⟩).mono ?_;rintro e w9 ⟨rfl,b9⟩;have es:(⟨#[45]⟩:ByteArray).data.toList=[45]:=rfl;simp only [es];clear es;have h9:=h4.below b9;have A9:=A4.trans (aside b9) A4.size;have own9:=own4.below b9;clear hr hA hown h4 A4 own4
    cases hq:Ps.sees I [45] n with
    | true=>
     have hcond:Ps.sees I [43] n=true∨Ps.sees I [45] n=true:=.inr hq;have hlt:n<I.L.length:=by rcases hcond with q | q<;>exact sees_lt q (by simp)
     by_cases hz:gk=0
     ·subst hz
      go_wp2_with fail;refine (allow_no h9 _ _ (by omega)).mono ?_;rintro e w5 ⟨rfl,b5⟩;exact ⟨rfl,Post.fail (by rw [hmod.out];exact terms_zero hcond acc) (A9.trans (aside b5) A9.size)⟩
     ·obtain ⟨f,rfl⟩:∃ f,gk=f+1:=⟨gk-1,by omega⟩
      have hstep:=hide (hmod.out.trans (terms_more hcond f acc));go_wp2_with fail;refine (allow_yes _ _ _ (by omega) _).mono ?_;rintro e w5 ⟨rfl,rfl⟩;go_wp2_with fail;refine (seesI h9 ⟨#[45]⟩).mono ?_;rintro e w5 ⟨rfl,b5⟩;have es:(⟨#[45]⟩:ByteArray).data.toList=[45]:=rfl;simp only [es];clear es;obtain ⟨mm,hmm⟩:=nmQ (Ps.sees I [45] n);rw [←hmm] at hstep ⊢;clear hmm;have h5:=h9.below b5;have A5:=A9.trans (aside b5) A9.size;have own5:=own9.below b5;go_wp2_with fail;refine (step_any h5 hlt).mono ?_;rintro e w6 ⟨rfl,h6,a6⟩;have A6:=A5.trans a6 A5.size;have own6:=own5.past a6 (by simp;omega);go_wp2_with fail;refine (term_any h6 mm).mono ?_;rintro e w7 ⟨a7,hres⟩;have A7:=A6.trans a7 A6.size;have own7:=own6.past a7 (by simp;omega);have z7:=A7.size
      cases ht:Ps.term I mm (n+1) with
      | err c a=>
       rw [ht] at hres;obtain rfl:e=_:=hres;exact ⟨rfl,Post.fail (by rw [hstep.out,ht];rfl) A7⟩
      | ok t2 n2=>
       rw [ht] at hres;obtain ⟨le7,h7,_,rfl,rfl⟩:=hres;have hmod2:Hid (Ps.size I nx=Ps.terms I f (acc++[t2]) n2):=by
        show Ps.size I nx=_
        rw [hstep.out,ht];rfl
       have hNb:=fun k hk=>(own7.lt k hk).2;clear hstep hmod ht a6 a7 b5 h5 h6 own5 own6 A5 A6 own9 h9 A9;have q1:kTerm.E (fun i=>w7.heap.size≤i) w7 [.int .i64 t2.1,.string t2.2] t2:=rfl;have q2:(acc.length+1)*kTerm.bytes≤140737488355328:=(by show (acc.length+1)*24≤_;omega);have q3:acc.length+1≤maxLen:=(by unfold maxLen;omega)
       go_wp2_with (at_builtin;refine wpList_more kTerm rfl _ _ 73 86 rfl Tryz.underlying73 w.heap.size w7.heap.size _ acc (by rfl) own7 [.int .i64 t2.1,.string t2.2] t2 q1 (by rfl) hNb z7 z7 q2 q3 ?_;intro v8 w8 own8 b8 _ _)
       go_wp2;go_roundg f
       case measure=>omega
       case rel=>exact ⟨n2,acc++[t2],mm,by simp;omega,rfl,own8,(h7.under b8 (by omega) (by omega)),A7.trans (aside b8) nR,by omega,hmod2⟩
    | false=>
     go_wp2;go_ret;exact Post.good (by rw [hmod.out];exact terms_stop hp hq gk acc) A9 hle h9 (terms_row own9.row)
end Go.Proofs.YtophfbefnaelfaaGreatDoor
