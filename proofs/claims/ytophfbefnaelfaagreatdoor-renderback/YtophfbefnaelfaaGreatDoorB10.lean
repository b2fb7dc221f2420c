import Derived.Test.YtophfbefnaelfaaGreatDoorB09
import Derived.Deep.RegionHeld
import Derived.Deep.DeepCutAuto
set_option linter.unusedVariables false
set_option linter.unusedSimpArgs false
set_option maxHeartbeats 64000000
set_option maxRecDepth 100000
namespace Go.Proofs.YtophfbefnaelfaaGreatDoor
open Go.RowKit Go.IntWalk Go.Deep
section
variable {H:Type} {enc:TypeId × Value→H} {w:World}
def Rd0 (enc:TypeId × Value→H) (w:World) (t:TypeId) (cs:List Value):Prop :=
 ∃ fuel x,DataW.trod enc Tryz.prog w 0 (fun _=>true) true fuel t cs=some x∧(x.1.weights Tryz.prog t).all (·≤reachBytes)=true
theorem open_struct {t:TypeId} {fs:Array Field} {fuel:Nat} {cs:List Value} {x:DataW H × List MemPlace} (ht:Tryz.prog.underlying t=some (.struct fs)) (h:DataW.trod enc Tryz.prog w 0 (fun _=>true) true fuel t cs=some x) (hw:(x.1.weights Tryz.prog t).all (·≤reachBytes)=true) :
  ∃ n,fuel=n+1∧cs.length=Tryz.prog.cellsOf t∧∀ (i:Nat) (f:Field),fs[i]?=some f→∃ y,DataW.trod enc Tryz.prog w 0 (fun _=>true) true n f.type ((cs.drop f.offset).take (Tryz.prog.cellsOf f.type))=some y∧(y.1.weights Tryz.prog f.type).all (·≤reachBytes)=true∧SizeOf.sizeOf y.1<SizeOf.sizeOf x.1:=by
 obtain ⟨xs,n,hn,rfl,hl,hxl,hx⟩:=DataW.trod_struct ht h;refine ⟨n,hn,hl,fun i f hf=>?_⟩;have hi:i<fs.size:=(Array.getElem?_eq_some_iff.1 hf).1;have hxi:xs[i]?=some (xs[i]'(by omega)):=List.getElem?_eq_getElem (by omega);refine ⟨xs[i]'(by omega),(hx i f hf).trans hxi,?_,?_⟩
 rotate_left
 ·have h1:(xs[i]'(by omega)).1 ∈ xs.map (·.1):=List.mem_map.2 ⟨_,List.getElem_mem (by omega),rfl⟩
  have h2:=List.sizeOf_lt_of_mem h1;simp only [DataW.agg.sizeOf_spec];omega
 rw [DataW.weights] at hw;simp only [ht] at hw;refine weightsEach_at _ _ hw i f.type _ ?_ (by rw [List.getElem?_map,hxi];rfl);rw [List.getElem?_map];have:fs.toList[i]?=some f:=(by simpa using hf);rw [this];rfl
theorem open_str {cs:List Value} (h:Rd0 enc w 9 cs):∃ s,cs=[.string s]:=by
 obtain ⟨fuel,x,h,_⟩:=h;obtain ⟨s,hs,_⟩:=DataW.trod_string Tryz.underlying9 h;exact ⟨s,hs⟩
theorem open_num {cs:List Value} {t:TypeId} {k:IntKind} (ht:Tryz.prog.underlying t=some (.int k)) (h:Rd0 enc w t cs):∃ n,cs=[.int k n]:=by
 obtain ⟨fuel,x,h,_⟩:=h;obtain ⟨n,hs,_⟩:=DataW.trod_int ht h;exact ⟨n,hs⟩
theorem cells1 (t:TypeId) (h:Tryz.prog.cellsOf t=1) (cs:List Value) (i:Nat) (v:Value) (hv:cs[i]?=some v):(cs.drop i).take (Tryz.prog.cellsOf t)=[v]:=by
 obtain ⟨hi,he⟩:=List.getElem?_eq_some_iff.1 hv;rw [h,List.drop_eq_getElem_cons hi,List.take_succ_cons,List.take_zero,he]
theorem field_of {t:TypeId} {fs:Array Field} {cs:List Value} (ht:Tryz.prog.underlying t=some (.struct fs)) (h:Rd0 enc w t cs) (i:Nat) (ft off:Nat) (hfi:(fs[i]?).map (fun f=>(f.type,f.offset))=some (ft,off)) (hc:Tryz.prog.cellsOf ft=1) (v:Value) (hv:cs[off]?=some v):Rd0 enc w ft [v]:=by
 obtain ⟨fuel,x,h,hw⟩:=h;obtain ⟨n,rfl,hl,hf⟩:=open_struct ht h hw
 cases hfe:fs[i]? with
 | none=>rw [hfe] at hfi;cases hfi
 | some f=>
  rw [hfe] at hfi;simp only [Option.map_some,Option.some.injEq,Prod.mk.injEq] at hfi;obtain ⟨y,a0,b0,_⟩:=hf i f hfe;rw [hfi.1,hfi.2,cells1 ft hc cs off v hv] at a0;rw [hfi.1] at b0;exact ⟨n,y,a0,b0⟩
theorem field_lt {t:TypeId} {fs:Array Field} {cs:List Value} {fuel:Nat} {x:DataW H × List MemPlace} (ht:Tryz.prog.underlying t=some (.struct fs)) (h:DataW.trod enc Tryz.prog w 0 (fun _=>true) true fuel t cs=some x) (hw:(x.1.weights Tryz.prog t).all (·≤reachBytes)=true) (i:Nat) (ft off:Nat) (hfi:(fs[i]?).map (fun f=>(f.type,f.offset))=some (ft,off)) :
  ∃ n y,DataW.trod enc Tryz.prog w 0 (fun _=>true) true n ft ((cs.drop off).take (Tryz.prog.cellsOf ft))=some y∧(y.1.weights Tryz.prog ft).all (·≤reachBytes)=true∧SizeOf.sizeOf y.1<SizeOf.sizeOf x.1:=by
 obtain ⟨n,rfl,hl,hf⟩:=open_struct ht h hw
 cases hfe:fs[i]? with
 | none=>rw [hfe] at hfi;cases hfi
 | some f=>
  rw [hfe] at hfi;simp only [Option.map_some,Option.some.injEq,Prod.mk.injEq] at hfi;obtain ⟨y,a0,b0,c0⟩:=hf i f hfe;rw [hfi.1,hfi.2] at a0;rw [hfi.1] at b0;exact ⟨n,y,a0,b0,c0⟩
theorem len_of {t:TypeId} {fs:Array Field} {cs:List Value} (ht:Tryz.prog.underlying t=some (.struct fs)) (h:Rd0 enc w t cs):cs.length=Tryz.prog.cellsOf t:=by
 obtain ⟨fuel,x,h,hw⟩:=h;obtain ⟨n,rfl,hl,hf⟩:=open_struct ht h hw;exact hl
theorem c2:Tryz.prog.cellsOf 2=1:=by kernel_rfl
theorem c3:Tryz.prog.cellsOf 3=1:=by kernel_rfl
theorem c5:Tryz.prog.cellsOf 5=1:=by kernel_rfl
theorem c9:Tryz.prog.cellsOf 9=1:=by kernel_rfl
theorem c23:Tryz.prog.cellsOf 22=1:=by kernel_rfl
theorem c35:Tryz.prog.cellsOf 39=1:=by kernel_rfl
theorem c36:Tryz.prog.cellsOf 40=1:=by kernel_rfl
theorem c37:Tryz.prog.cellsOf 41=1:=by kernel_rfl
theorem c40:Tryz.prog.cellsOf 46=1:=by kernel_rfl
theorem c41:Tryz.prog.cellsOf 47=1:=by kernel_rfl
theorem c90:Tryz.prog.cellsOf 73=1:=by kernel_rfl
theorem c92:Tryz.prog.cellsOf 75=2:=by kernel_rfl
theorem c99:Tryz.prog.cellsOf 86=2:=by kernel_rfl
theorem c94:Tryz.prog.cellsOf 77=3:=by kernel_rfl
theorem c45:Tryz.prog.cellsOf 88=6:=by kernel_rfl
theorem c43:Tryz.prog.cellsOf 49=5:=by kernel_rfl
theorem c39:Tryz.prog.cellsOf 43=7:=by kernel_rfl
theorem c25:Tryz.prog.cellsOf 24=1:=by kernel_rfl
theorem open_term {cs:List Value} (h:Rd0 enc w 86 cs):∃ n s,cs=[.int .i64 n,.string s]:=by
 have hl:=len_of Tryz.underlying86 h;rw [c99] at hl
 match cs,hl with
 | [v0,v1],_=>
  obtain ⟨m,hm⟩:=open_num (k:=.i64) Tryz.underlying2 (field_of Tryz.underlying86 h 0 2 0 rfl c2 v0 rfl);obtain ⟨s,hs⟩:=open_str (field_of Tryz.underlying86 h 1 9 1 rfl c9 v1 rfl);injection hm with hm;injection hs with hs;exact ⟨m,s,by rw [hm,hs]⟩
theorem list_of {α:Type} [Inhabited α] (n:Nat) (f:Nat→α):∃ l:List α,l.length=n∧∀ i (h:i<l.length),l[i]=f i :=
 ⟨(List.range n).map f,by simp,fun i h=>by simp⟩
theorem open_names {cs:List Value} (h:Rd0 enc w 39 cs):∃ a n c l,cs=[.slice a n c]∧HNames (fun _=>True) w (.slice a n c) l∧l.length*16≤140737488355328:=by
 obtain ⟨fuel,x,h,hw⟩:=h;obtain ⟨a,n,c,C,m,D,Pl,rfl,hS,hb,hx⟩:=open_row (bytes:=16) Tryz.underlying39 c9 (by decide) (by kernel_rfl) h hw;obtain ⟨f,hf⟩:=choose_lt (n:=n) (p:=fun i (s:ByteArray)=>C i=[.string s]) (fun i hi=>open_str ⟨m,_,(hx i hi).1,(hx i hi).2.1⟩);obtain ⟨l,hl,hli⟩:=list_of n f;refine ⟨a,n,c,l,rfl,⟨C,by rw [hl];exact hS,fun i hi=>by rw [hli i hi];exact hf i (by omega)⟩,by rw [hl];exact hb⟩
instance:Inhabited Tm:=⟨(0,⟨#[]⟩)⟩
theorem open_terms {cs:List Value} (h:Rd0 enc w 73 cs):∃ a n c l,cs=[.slice a n c]∧HTerms (fun _=>True) w (.slice a n c) l∧l.length*24≤140737488355328:=by
 obtain ⟨fuel,x,h,hw⟩:=h;obtain ⟨a,n,c,C,m,D,Pl,rfl,hS,hb,hx⟩:=open_row (bytes:=24) Tryz.underlying73 c99 (by decide) (by kernel_rfl) h hw;obtain ⟨f,hf⟩:=choose_lt (n:=n) (p:=fun i (s:Tm)=>C i=[.int .i64 s.1,.string s.2]) (fun i hi=>by
  obtain ⟨p,q,hpq⟩:=open_term ⟨m,_,(hx i hi).1,(hx i hi).2.1⟩;exact ⟨(p,q),hpq⟩)
 obtain ⟨l,hl,hli⟩:=list_of n f;refine ⟨a,n,c,l,rfl,⟨C,by rw [hl];exact hS,fun i hi=>by rw [hli i hi];exact hf i (by omega)⟩,by rw [hl];exact hb⟩
theorem open_sizes {cs:List Value} (h:Rd0 enc w 46 cs):∃ a n c l,cs=[.slice a n c]∧HSizes (fun _=>True) w (.slice a n c) l∧FitS l:=by
 obtain ⟨fuel,x,h,hw⟩:=h;obtain ⟨a,n,c,C,m,D,Pl,rfl,hS,hb,hx⟩:=open_row (bytes:=24) Tryz.underlying46 c90 (by decide) (by kernel_rfl) h hw;obtain ⟨f,hf⟩:=choose_lt (n:=n) (p:=fun i (s:List Tm)=>∃ u,C i=[u]∧HTerms (fun _=>True) w u s∧s.length*24≤140737488355328) (fun i hi=>by
  obtain ⟨a,n,c,l,h1,h2,h3⟩:=open_terms ⟨m,_,(hx i hi).1,(hx i hi).2.1⟩;exact ⟨l,_,h1,h2,h3⟩)
 obtain ⟨l,hl,hli⟩:=list_of n f;refine ⟨a,n,c,l,rfl,⟨C,by rw [hl];exact hS,fun i hi=>?_⟩,by rw [hl];exact hb,fun i hi=>?_⟩
 ·obtain ⟨u,h1,h2,_⟩:=hf i (by omega)
  rw [hli i hi];exact ⟨u,h1,h2⟩
 ·obtain ⟨u,_,_,h3⟩:=hf i (by omega)
  rw [hli i hi];exact h3
instance:Inhabited De:=⟨⟨⟨#[]⟩,0,[]⟩⟩
instance:Inhabited Ex:=⟨.mk 0 0 0 ⟨#[]⟩ [] []⟩
instance:Inhabited Eqn:=⟨⟨0,[],⟨#[]⟩,[],[]⟩⟩
instance:Inhabited Nd:=⟨⟨⟨#[]⟩,0,[],[],[],[],[]⟩⟩
theorem open_decl {cs:List Value} (h:Rd0 enc w 77 cs):∃ (d:De) (u:Value),cs=[.string d.name,.int .u8 d.elem,u]∧HTerms (fun _=>True) w u d.n∧d.n.length*24≤140737488355328:=by
 have hl:=len_of Tryz.underlying77 h;rw [c94] at hl
 match cs,hl with
 | [v0,v1,v2],_=>
  obtain ⟨s,hs⟩:=open_str (field_of Tryz.underlying77 h 0 9 0 rfl c9 v0 rfl);have hT:Rd0 enc w 75 [v1,v2]:=by
   obtain ⟨fuel,x,h,hw⟩:=h;obtain ⟨n,y,a0,b0,_⟩:=field_lt Tryz.underlying77 h hw 1 75 1 rfl;rw [c92] at a0;exact ⟨n,y,a0,b0⟩
  obtain ⟨e,he⟩:=open_num (k:=.u8) Tryz.underlying5 (field_of Tryz.underlying75 hT 0 5 0 rfl c5 v1 rfl);obtain ⟨a,n,c,l,h1,h2,h3⟩:=open_terms (field_of Tryz.underlying75 hT 1 73 1 rfl c90 v2 rfl);injection hs with hs;injection he with he;injection h1 with h1;subst hs he h1;exact ⟨⟨s,e,l⟩,_,rfl,h2,h3⟩
theorem open_decls {cs:List Value} (h:Rd0 enc w 40 cs):∃ a n c l,cs=[.slice a n c]∧HDes (fun _=>True) w (.slice a n c) l∧FitD l:=by
 obtain ⟨fuel,x,h,hw⟩:=h;obtain ⟨a,n,c,C,m,D,Pl,rfl,hS,hb,hx⟩:=open_row (bytes:=48) Tryz.underlying40 c94 (by decide) (by kernel_rfl) h hw;obtain ⟨f,hf⟩:=choose_lt (n:=n) (p:=fun i (s:De)=>∃ u,C i=[.string s.name,.int .u8 s.elem,u]∧HTerms (fun _=>True) w u s.n∧s.n.length*24≤140737488355328) (fun i hi=>open_decl ⟨m,_,(hx i hi).1,(hx i hi).2.1⟩);obtain ⟨l,hl,hli⟩:=list_of n f;refine ⟨a,n,c,l,rfl,⟨C,by rw [hl];exact hS,fun i hi=>?_⟩,by rw [hl];exact hb,fun i hi=>?_⟩
 ·obtain ⟨u,h1,h2,_⟩:=hf i (by omega)
  rw [hli i hi];exact ⟨u,h1,h2⟩
 ·obtain ⟨u,_,_,h3⟩:=hf i (by omega)
  rw [hli i hi];exact h3
theorem open_exprs_at:∀ (N fuel:Nat) (cs:List Value) (x:DataW H × List MemPlace),SizeOf.sizeOf x.1<N→DataW.trod enc Tryz.prog w 0 (fun _=>true) true fuel 47 cs=some x→(x.1.weights Tryz.prog 47).all (·≤reachBytes)=true →
  ∃ a n c l,cs=[.slice a n c]∧HExs (fun _=>True) w (.slice a n c) l∧FitXs l
 | 0,_,_,_,hN,_,_=>absurd hN (Nat.not_lt_zero _)
 | N+1,fuel,cs,x,hN,h,hw=>by
  obtain ⟨a,n,c,C,m,D,Pl,rfl,hS,hb,hx⟩:=open_row (bytes:=88) Tryz.underlying47 c45 (by decide) (by kernel_rfl) h hw;obtain ⟨f,hf⟩:=choose_lt (n:=n) (p:=fun i (e:Ex)=>HEx (fun _=>True) w (C i) e∧FitX e) (fun i hi=>by
   obtain ⟨t1,t2,t3⟩:=hx i hi;have hr:Rd0 enc w 88 (C i):=⟨m,_,t1,t2⟩;have hl:=len_of Tryz.underlying88 hr;rw [c45] at hl;obtain ⟨fu,y,l1,l2,l3⟩:=field_lt Tryz.underlying88 t1 t2 5 47 5 rfl;rw [c41] at l1;simp only at l3;generalize C i=ci at *
   match ci,hl with
   | [v0,v1,v2,v3,v4,v5],_=>
    obtain ⟨n0,h0⟩:=open_num (k:=.i64) Tryz.underlying3 (field_of Tryz.underlying88 hr 0 3 0 rfl c3 v0 rfl);obtain ⟨n1,h1⟩:=open_num (k:=.i64) Tryz.underlying3 (field_of Tryz.underlying88 hr 1 3 1 rfl c3 v1 rfl);obtain ⟨n2,h2⟩:=open_num (k:=.i64) Tryz.underlying2 (field_of Tryz.underlying88 hr 2 2 2 rfl c2 v2 rfl);obtain ⟨s,h3⟩:=open_str (field_of Tryz.underlying88 hr 3 9 3 rfl c9 v3 rfl);obtain ⟨a4,n4,c4,S,h4,hS4,fS⟩:=open_sizes (field_of Tryz.underlying88 hr 4 46 4 rfl c40 v4 rfl);obtain ⟨a5,n5,c5,L,h5,hL5,fL⟩:=open_exprs_at N fu _ y (by omega) l1 l2;injection h0 with h0;injection h1 with h1;injection h2 with h2;injection h3 with h3;injection h4 with h4;simp at h5;subst h0 h1 h2 h3 h4 h5;obtain ⟨C5,s5,e5⟩:=hL5;exact ⟨.mk n0 n1 n2 s S L,.mk C5 hS4 s5 e5,.mk fS fL.1 fL.2⟩)
  obtain ⟨l,hl,hli⟩:=list_of n f;refine ⟨a,n,c,l,rfl,⟨C,by rw [hl];exact hS,fun i hi=>?_⟩,by rw [hl];exact hb,fun i hi=>?_⟩
  ·rw [hli i hi]
   exact (hf i (by omega)).1
  ·rw [hli i hi]
   exact (hf i (by omega)).2
theorem open_exprs {cs:List Value} (h:Rd0 enc w 47 cs):∃ a n c l,cs=[.slice a n c]∧HExs (fun _=>True) w (.slice a n c) l∧FitXs l:=by
 obtain ⟨fuel,x,h,hw⟩:=h;exact open_exprs_at _ fuel cs x (Nat.lt_succ_self _) h hw
structure FitQ (q:Eqn):Prop where
 names:q.names.length*16≤140737488355328
 S:FitS q.S
 E:FitXs q.E
structure FitN (d:Nd):Prop where
 sizes:d.sizes.length*16≤140737488355328
 inn:FitD d.inn
 out:FitD d.out
 loc:FitD d.loc
 eqs:d.eqs.length*96≤140737488355328
 each:∀ i (h:i<d.eqs.length),FitQ d.eqs[i]
def FitP (l:List Nd):Prop:=l.length*144≤140737488355328∧∀ i (h:i<l.length),FitN l[i]
theorem open_eq {cs:List Value} (hr:Rd0 enc w 49 cs):∃ (q:Eqn) (x:EqV),cs=x.cells∧HEq (fun _=>True) w x q∧FitQ q:=by
 have hl:=len_of Tryz.underlying49 hr;rw [c43] at hl
 match cs,hl with
 | [v0,v1,v2,v3,v4],_=>
  obtain ⟨n0,h0⟩:=open_num (k:=.i64) Tryz.underlying3 (field_of Tryz.underlying49 hr 0 3 0 rfl c3 v0 rfl);obtain ⟨a1,n1,c1,l1,h1,g1,f1⟩:=open_names (field_of Tryz.underlying49 hr 1 39 1 rfl c35 v1 rfl);obtain ⟨s,h2⟩:=open_str (field_of Tryz.underlying49 hr 2 9 2 rfl c9 v2 rfl);obtain ⟨a3,n3,c3',S,h3,g3,f3⟩:=open_sizes (field_of Tryz.underlying49 hr 3 46 3 rfl c40 v3 rfl);obtain ⟨a4,n4,c4,E,h4,g4,f4⟩:=open_exprs (field_of Tryz.underlying49 hr 4 47 4 rfl c41 v4 rfl);injection h0 with h0;injection h1 with h1;injection h2 with h2;injection h3 with h3;injection h4 with h4;subst h0 h1 h2 h3 h4;exact ⟨⟨n0,l1,s,S,E⟩,⟨n0,a1,n1,c1,s,a3,n3,c3',a4,n4,c4⟩,rfl,⟨rfl,g1,rfl,g3,g4⟩,⟨f1,f3,f4⟩⟩
theorem open_eqs {cs:List Value} (h:Rd0 enc w 41 cs):∃ a n c l,cs=[.slice a n c]∧HEqs (fun _=>True) w (.slice a n c) l∧l.length*96≤140737488355328∧∀ i (h:i<l.length),FitQ l[i]:=by
 obtain ⟨fuel,x,h,hw⟩:=h;obtain ⟨a,n,c,C,m,D,Pl,rfl,hS,hb,hx⟩:=open_row (bytes:=96) Tryz.underlying41 c43 (by decide) (by kernel_rfl) h hw;obtain ⟨f,hf⟩:=choose_lt (n:=n) (p:=fun i (q:Eqn)=>∃ x:EqV,C i=x.cells∧HEq (fun _=>True) w x q∧FitQ q) (fun i hi=>open_eq ⟨m,_,(hx i hi).1,(hx i hi).2.1⟩);obtain ⟨l,hl,hli⟩:=list_of n f;refine ⟨a,n,c,l,rfl,⟨C,by rw [hl];exact hS,fun i hi=>?_⟩,by rw [hl];exact hb,fun i hi=>?_⟩
 ·obtain ⟨u,h1,h2,_⟩:=hf i (by omega)
  rw [hli i hi];exact ⟨u,h1,h2⟩
 ·obtain ⟨u,_,_,h3⟩:=hf i (by omega)
  rw [hli i hi];exact h3
theorem open_node {cs:List Value} (hr:Rd0 enc w 43 cs):∃ (d:Nd) (x:NdV),cs=x.cells∧HNd (fun _=>True) w x d∧FitN d:=by
 have hl:=len_of Tryz.underlying43 hr;rw [c39] at hl
 match cs,hl with
 | [v0,v1,v2,v3,v4,v5,v6],_=>
  obtain ⟨s,h0⟩:=open_str (field_of Tryz.underlying43 hr 0 9 0 rfl c9 v0 rfl);obtain ⟨n1,h1⟩:=open_num (k:=.i64) Tryz.underlying3 (field_of Tryz.underlying43 hr 1 3 1 rfl c3 v1 rfl);obtain ⟨a2,n2,c2',l2,h2,g2,f2⟩:=open_names (field_of Tryz.underlying43 hr 2 39 2 rfl c35 v2 rfl);obtain ⟨a3,n3,c3',l3,h3,g3,f3⟩:=open_decls (field_of Tryz.underlying43 hr 3 40 3 rfl c36 v3 rfl);obtain ⟨a4,n4,c4,l4,h4,g4,f4⟩:=open_decls (field_of Tryz.underlying43 hr 4 40 4 rfl c36 v4 rfl);obtain ⟨a5,n5,c5',l5,h5,g5,f5⟩:=open_decls (field_of Tryz.underlying43 hr 5 40 5 rfl c36 v5 rfl);obtain ⟨a6,n6,c6,l6,h6,g6,f6,f7⟩:=open_eqs (field_of Tryz.underlying43 hr 6 41 6 rfl c37 v6 rfl);injection h0 with h0;injection h1 with h1;injection h2 with h2;injection h3 with h3;injection h4 with h4;injection h5 with h5;injection h6 with h6;subst h0 h1 h2 h3 h4 h5 h6;exact ⟨⟨s,n1,l2,l3,l4,l5,l6⟩,⟨s,n1,a2,n2,c2',a3,n3,c3',a4,n4,c4,a5,n5,c5',a6,n6,c6⟩,rfl,⟨rfl,rfl,g2,g3,g4,g5,g6⟩,⟨f2,f3,f4,f5,f6,f7⟩⟩
theorem open_program {cs:List Value} (hr:Rd0 enc w 24 cs):∃ a n c l,cs=[.slice a n c]∧HNds (fun _=>True) w (.slice a n c) l∧FitP l:=by
 have hl:=len_of Tryz.underlying24 hr;rw [c25] at hl
 match cs,hl with
 | [v0],_=>
  obtain ⟨fuel,x,h,hw⟩:=field_of Tryz.underlying24 hr 0 22 0 rfl c23 v0 rfl;obtain ⟨a,n,c,C,m,D,Pl,e,hS,hb,hx⟩:=open_row (bytes:=144) Tryz.underlying22 c39 (by decide) (by kernel_rfl) h hw;obtain ⟨f,hf⟩:=choose_lt (n:=n) (p:=fun i (q:Nd)=>∃ x:NdV,C i=x.cells∧HNd (fun _=>True) w x q∧FitN q) (fun i hi=>open_node ⟨m,_,(hx i hi).1,(hx i hi).2.1⟩);obtain ⟨l,hl,hli⟩:=list_of n f;refine ⟨a,n,c,l,e,⟨C,by rw [hl];exact hS,fun i hi=>?_⟩,by rw [hl];exact hb,fun i hi=>?_⟩
  ·obtain ⟨u,h1,h2,_⟩:=hf i (by omega)
   rw [hli i hi];exact ⟨u,h1,h2⟩
  ·obtain ⟨u,_,_,h3⟩:=hf i (by omega)
   rw [hli i hi];exact h3
end
end Go.Proofs.YtophfbefnaelfaaGreatDoor
namespace Go.Proofs.YtophfbefnaelfaaGreatDoor
open Go
section
variable {P:Program} {ops:Array Oper} {Q:Exit→Act→World→Prop} {md:Region.Mode} {S:World→Prop} {late:Nat→Bool}
def wpAnyL (P:Program) (md:Region.Mode) (ops:Array Oper) (Q:Exit→Act→World→Prop) (S:World→Prop) (late:Nat→Bool):Nat→Array Bool→Act→World→Prop
 | 0,listed,a,w=>Region.ready md ops listed=[]∧Q .normal a w
 | fuel+1,listed,a,w=>
  (Region.ready md ops listed=[]→Q .normal a w) ∧
  ∀ i ∈ Region.ready md ops listed,wpOp P ops Q i (fun a' w'=>(late i=false→S w')∧wpAnyL P md ops Q S late fuel (listed.setIfInBounds i true) a' w') a w
theorem wpAny_of_late:∀ (fuel:Nat) (listed:Array Bool) (a:Act) (w:World),wpAnyL P md ops Q S late fuel listed a w→wpAny P md ops Q fuel listed a w
 | 0,_,_,_,h=>h
 | fuel+1,_,_,_,h=>⟨h.1,fun i hi=>wpOp_mono (fun a' w' h'=>wpAny_of_late fuel _ a' w' h'.2) (h.2 i hi)⟩
def waitFor (md:Region.Mode) (ops:Array Oper) (late:Nat→Bool) (listed:Array Bool) (i:Nat):Bool :=
 (List.range ops.size).all fun j => !late j || listed.getD j true || ((ops[j]?).map (·.after.any fun e=>Region.binds md e&&e.on==i)).getD true
theorem waitFor_spec {listed:Array Bool} {i:Nat} (h:waitFor md ops late listed i=true) (j:Nat) (oj:Oper) (hj:ops[j]?=some oj) (hun:listed.getD j true=false) (hl:late j=true) :
  ∃ e ∈ oj.after,Region.binds md e=true∧e.on=i:=by
 have hlt:j<ops.size:=(Array.getElem?_eq_some_iff.1 hj).1;have h1:=List.all_eq_true.1 h j (List.mem_range.2 hlt);rw [hj,hl,hun] at h1;simp only [Bool.not_true,Bool.or_false,Bool.false_or,Option.map_some,Option.getD_some] at h1;obtain ⟨e,he,h2⟩:=Array.any_eq_true'.1 h1;simp only [Bool.and_eq_true,beq_iff_eq] at h2;exact ⟨e,he,h2.1,h2.2⟩
theorem wpAnyL_first {i:Nat} {oi:Oper} {v:Value} (hi:ops[i]?=some oi) (hsel:∀ (j:Nat) (o:Oper) cs b,ops[j]?=some o→o.op≠.select cs b)
  (hQ:∀ c a w,Q (.panic c) (a.put oi.dst v) w→Q (.panic c) a w) :
  ∀ (fuel:Nat) (listed:Array Bool) (a:Act) (w:World),
   (∀ j oj,ops[j]?=some oj→j≠i→listed.getD j true=false→(∀ e ∈ oj.after,Region.binds md e=true→e.on≠i)→oi.apart ops oj=true) →
   (∀ j oj,ops[j]?=some oj→listed.getD j true=false→late j=true→∃ e ∈ oj.after,Region.binds md e=true∧e.on=i) →
   i ∈ Region.ready md ops listed→YieldsIf P ops S oi v a→S w →
   wpAnyL P md ops Q S late fuel (listed.setIfInBounds i true) (a.put oi.dst v) w→wpAnyL P md ops Q S late (fuel+1) listed a w:=by
 intro fuel
 induction fuel with
 | zero=>
  intro listed a w _ _ hr hy hS H;refine ⟨fun h=>(by rw [h] at hr;cases hr),fun j hj=>?_⟩;by_cases hji:j=i
  ·subst hji;exact hy.wpOp hi hS ⟨fun _=>hS,H⟩
  ·have:=ready_mono hj hji
   rw [H.1] at this
   cases this
 | succ fuel ih=>
  intro listed a w hfree hwait hr hy hS H;refine ⟨fun h=>(by rw [h] at hr;cases hr),fun j hj=>?_⟩;by_cases hji:j=i
  ·subst hji;exact hy.wpOp hi hS ⟨fun _=>hS,H⟩
  ·have h1:=H.2 j (ready_mono hj hji)
   obtain ⟨hjun,oj,hoj,hall⟩:=mem_ready.1 hj;have hnot:∀ e ∈ oj.after,Region.binds md e=true→e.on≠i:=fun e he hb heq=>by
    have h1:=hall e he hb;have h0:=(mem_ready.1 hr).1;rw [heq] at h1;rcases Nat.lt_or_ge i listed.size with h' | h'
    ·simp [h'] at h0 h1;rw [h0] at h1;cases h1
    ·simp [Array.getElem?_eq_none h'] at h1
   have hearly:late j=false:=by
    cases hl:late j with
    | false=>rfl
    | true=>
     obtain ⟨e,he,hb,heq⟩:=hwait j oj hoj hjun hl;exact absurd heq (hnot e he hb)
   have h2:=wpOp_putIf hoj (hfree j oj hoj hji hjun hnot) (fun cs b=>hsel i oi cs b hi) (fun cs b=>hsel j oj cs b hoj) hQ hy h1;have hfree':∀ k ok,ops[k]?=some ok→k≠i→(listed.setIfInBounds j true).getD k true=false →
     (∀ e ∈ ok.after,Region.binds md e=true→e.on≠i)→oi.apart ops ok=true:=fun k ok hk hki hun hno=>by
    refine hfree k ok hk hki ?_ hno;by_cases hjk:j=k
    ·subst hjk;exact hjun
    ·rw [getD_set_ne true hjk] at hun;exact hun
   have hwait':∀ k ok,ops[k]?=some ok→(listed.setIfInBounds j true).getD k true=false→late k=true→∃ e ∈ ok.after,Region.binds md e=true∧e.on=i:=fun k ok hk hun hl=>by
    refine hwait k ok hk ?_ hl;by_cases hjk:j=k
    ·subst hjk;exact hjun
    ·rw [getD_set_ne true hjk] at hun;exact hun
   refine wpOp_mono (fun a' w' h3=>⟨h3.2.1,ih (listed.setIfInBounds j true) a' w' hfree' hwait' (ready_mono hr (Ne.symm hji)) h3.1 (h3.2.1 hearly) ?_⟩) h2;rw [Array.setIfInBounds_comm _ _ hji];exact h3.2.2
theorem wpAnyL_take {i:Nat} {oi:Oper} {v:Value} {fuel:Nat} {listed:Array Bool} {a:Act} {w:World} (hi:ops[i]?=some oi)
  (hs:Region.noSelect ops=true) (hf:Region.free md ops listed i=true) (hr:(Region.ready md ops listed).contains i=true) (hl:waitFor md ops late listed i=true)
  (hQ:∀ c a w,Q (.panic c) (a.put oi.dst v) w→Q (.panic c) a w) (hS:S w) (hw:Region.wanted oi (yielded ops a.tmps)=true) (hy:∀ w,S w→(execOp a.eval oi).run P w=.ok (.value v) w)
  (h:wpAnyL P md ops Q S late fuel (listed.setIfInBounds i true) (a.put oi.dst v) w):wpAnyL P md ops Q S late (fuel+1) listed a w:=
 wpAnyL_first hi (Region.noSelect_spec hs) hQ fuel listed a w (Region.free_spec hi hf) (waitFor_spec hl) (by simpa using hr) (.inl ⟨hw,hy⟩) hS h
theorem wpAnyL_one {i:Nat} {o:Oper} {fuel:Nat} {listed:Array Bool} {a:Act} {w:World} (ho:ops[i]?=some o) (hr:Region.ready md ops listed=[i]) (hw:Region.wanted o (yielded ops a.tmps)=true)
  (h:∀ K':Act→World→Prop,Shut (∀ a w,(late i=false→S w)→wpAnyL P md ops Q S late fuel (listed.setIfInBounds i true) a w→K' a w)→Oper.wp P o a w K' Q):wpAnyL P md ops Q S late (fuel+1) listed a w:=by
 refine ⟨fun h0=>(by rw [hr] at h0;cases h0),fun j hj=>?_⟩;rw [hr] at hj;simp at hj;subst hj;refine wpOp_step ho (fun K' hK=>?_);rw [if_pos hw];exact h K' (fun a w hS hW=>hK a w ⟨hS,hW⟩)
theorem wpAnyL_done {listed:Array Bool} {a:Act} {w:World} (hr:Region.ready md ops listed=[]) (h:Q .normal a w) :
  ∀ fuel,wpAnyL P md ops Q S late fuel listed a w
 | 0=>⟨hr,h⟩
 | _+1=>⟨fun _=>h,by rw [hr];simp⟩
theorem wp_region_late {id:Nat} {a:Act} {w:World} (S:World→Prop) (late:Nat→Bool) (hm:P.follows .mixedOrders=true)
  (h:wpAnyL P .any ops Q S late ops.size (Array.replicate ops.size false) a w.drew):(Code.region id ops true).wp P Q a w:=
 wp_region_any hm (wpAny_of_late _ _ _ _ h)
end
end Go.Proofs.YtophfbefnaelfaaGreatDoor
namespace Go.Proofs.YtophfbefnaelfaaGreatDoor
open Go.RowKit Go.IntWalk
theorem HNames.wide {ok ok':Nat→Prop} {w:World} {v:Value} {l:List ByteArray} (h:HNames ok w v l) (hk:∀ i,ok i→i<w.heap.size→ok' i):HNames ok' w v l:=by
 obtain ⟨C,h1,h2⟩:=h;exact ⟨C,h1.wide hk,h2⟩
theorem HDes.wide {ok ok':Nat→Prop} {w:World} {v:Value} {l:List De} (h:HDes ok w v l) (hk:∀ i,ok i→i<w.heap.size→ok' i):HDes ok' w v l:=by
 obtain ⟨C,h1,h2⟩:=h;refine ⟨C,h1.wide hk,fun i hi=>?_⟩;obtain ⟨u,e,ht⟩:=h2 i hi;exact ⟨u,e,ht.wide hk⟩
theorem HNames.set {ok:Nat→Prop} {w:World} {v:Value} {l:List ByteArray} (h:HNames ok w v l) {p:Addr} (hp:¬ok p.block) (u:Value):HNames ok (w.setCell p u) v l :=
 h.keep (by simp [World.setCell]) fun i hi hl=>Below.heap_setCell _ _ _ _ (fun e=>hp (e ▸ hi))
theorem HDes.set {ok:Nat→Prop} {w:World} {v:Value} {l:List De} (h:HDes ok w v l) {p:Addr} (hp:¬ok p.block) (u:Value):HDes ok (w.setCell p u) v l :=
 h.keep (by simp [World.setCell]) fun i hi hl=>Below.heap_setCell _ _ _ _ (fun e=>hp (e ▸ hi))
theorem Tryz.infoEq:(Tryz.prog.info? 49).map (fun i=>(i.zero,i.size,i.bytes))=some (some (.agg #[.int .i64 0,.slice none 0 0,.string ⟨#[]⟩,.slice none 0 0,.slice none 0 0]),5,96):=by kernel_rfl
theorem Tryz.info43:(Tryz.prog.info? 43).map (fun i=>(i.zero,i.size,i.bytes))=some (some (.agg #[.string ⟨#[]⟩,.int .i64 0,.slice none 0 0,.slice none 0 0,.slice none 0 0,.slice none 0 0,.slice none 0 0]),7,144):=by kernel_rfl
theorem HEq.wide {ok ok':Nat→Prop} {w:World} {x:EqV} {q:Eqn} (h:HEq ok w x q) (hk:∀ i,ok i→i<w.heap.size→ok' i):HEq ok' w x q :=
 ⟨h.place,h.names.wide hk,h.node,h.S.wide hk,h.E.wide hk⟩
theorem HEqs.wide {ok ok':Nat→Prop} {w:World} {v:Value} {l:List Eqn} (h:HEqs ok w v l) (hk:∀ i,ok i→i<w.heap.size→ok' i):HEqs ok' w v l:=by
 obtain ⟨C,h1,h2⟩:=h;refine ⟨C,h1.wide hk,fun i hi=>?_⟩;obtain ⟨x,e,hx⟩:=h2 i hi;exact ⟨x,e,hx.wide hk⟩
theorem HEqs.set {ok:Nat→Prop} {w:World} {v:Value} {l:List Eqn} (h:HEqs ok w v l) {p:Addr} (hp:¬ok p.block) (u:Value):HEqs ok (w.setCell p u) v l :=
 h.keep (by simp [World.setCell]) fun i hi hl=>Below.heap_setCell _ _ _ _ (fun e=>hp (e ▸ hi))
theorem HNd.wide {ok ok':Nat→Prop} {w:World} {x:NdV} {n:Nd} (h:HNd ok w x n) (hk:∀ i,ok i→i<w.heap.size→ok' i):HNd ok' w x n :=
 ⟨h.name,h.place,h.sizes.wide hk,h.inn.wide hk,h.out.wide hk,h.loc.wide hk,h.eqs.wide hk⟩
theorem HNd.set {ok:Nat→Prop} {w:World} {x:NdV} {n:Nd} (h:HNd ok w x n) {p:Addr} (hp:¬ok p.block) (u:Value):HNd ok (w.setCell p u) x n :=
 h.keep (by simp [World.setCell]) fun i hi hl=>Below.heap_setCell _ _ _ _ (fun e=>hp (e ▸ hi))
end Go.Proofs.YtophfbefnaelfaaGreatDoor
