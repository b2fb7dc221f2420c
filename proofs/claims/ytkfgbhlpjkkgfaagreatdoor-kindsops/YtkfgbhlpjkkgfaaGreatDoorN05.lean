import Derived.Test.YtkfgbhlpjkkgfaaGreatDoorN04
import Derived.Deep.RegionHeld
import Derived.Lib.Bytealg
set_option linter.unusedVariables false
set_option linter.unusedSimpArgs false
set_option maxHeartbeats 64000000
set_option maxRecDepth 100000
namespace Go.Proofs.YtkfgbhlpjkkgfaaGreatDoor
open Go.RowKit Go.IntWalk
def HExs (ok:Nat→Prop) (w:World) (v:Value) (L:List Ex):Prop:=∃ C,Sl ok 6 w v L.length C∧∀ i (h:i<L.length),HEx ok w (C i) L[i]
theorem HExs.keep {ok:Nat→Prop} {w w':World} {v:Value} {l:List Ex} (h:HExs ok w v l) (hs:w.heap.size≤w'.heap.size) (hk:∀ i,ok i→i<w.heap.size→w'.heap[i]?=w.heap[i]?):HExs ok w' v l:=by
 obtain ⟨C,h1,h2⟩:=h;exact ⟨C,h1.keep hs hk,fun i hi=>(h2 i hi).keep hs hk⟩
theorem HExs.under {ok:Nat→Prop} {w w':World} {v:Value} {l:List Ex} (h:HExs ok w v l) (a:Below w.heap.size w w'):HExs ok w' v l:=h.keep a.size fun i _ hl=>a.block i hl
theorem HExs.at {ok:Nat→Prop} {w:World} {v:Value} {L:List Ex} (h:HExs ok w v L) :
  ∃ ao cap,v=.slice ao L.length cap∧L.length≤cap∧cap≤maxLen∧∀ i (h:i<L.length),∃ b o y,ao=some ⟨b,o,none⟩∧ok b∧b<w.heap.size∧ExAt w b (o+i*6) y∧HEx ok w y.cells L[i]:=by
 obtain ⟨C,h1,h2⟩:=h;exact h1.exAt h2
theorem HEx.parts {ok:Nat→Prop} {w:World} {x:ExV} {e:Ex} (h:HEx ok w x.cells e):x.op=e.op∧x.k=e.k∧x.n=e.n∧x.name=e.name∧HSizes ok w (.slice x.aS x.nS x.cS) e.S∧HExs ok w (.slice x.aL x.nL x.cL) e.L:=by
 obtain ⟨o,k,n,s,a,b,c,d,f,g⟩:=x
 cases h with
 | mk C hS hL hE=>exact ⟨rfl,rfl,rfl,rfl,hS,C,hL,hE⟩
structure EqV where
 place:Int
 aN:Option Addr
 nN:Nat
 cN:Nat
 node:ByteArray
 aS:Option Addr
 nS:Nat
 cS:Nat
 aE:Option Addr
 nE:Nat
 cE:Nat
def EqV.cells (x:EqV):List Value:=[.int .i64 x.place,.slice x.aN x.nN x.cN,.string x.node,.slice x.aS x.nS x.cS,.slice x.aE x.nE x.cE]
structure HEq (ok:Nat→Prop) (w:World) (x:EqV) (q:Eqn):Prop where
 place:x.place=q.place
 names:HNames ok w (.slice x.aN x.nN x.cN) q.names
 node:x.node=q.node
 S:HSizes ok w (.slice x.aS x.nS x.cS) q.S
 E:HExs ok w (.slice x.aE x.nE x.cE) q.E
theorem HEq.keep {ok:Nat→Prop} {w w':World} {x:EqV} {q:Eqn} (h:HEq ok w x q) (hs:w.heap.size≤w'.heap.size) (hk:∀ i,ok i→i<w.heap.size→w'.heap[i]?=w.heap[i]?):HEq ok w' x q :=
 ⟨h.place,h.names.keep hs hk,h.node,h.S.keep hs hk,h.E.keep hs hk⟩
theorem HEq.under {ok:Nat→Prop} {w w':World} {x:EqV} {q:Eqn} (h:HEq ok w x q) (a:Below w.heap.size w w'):HEq ok w' x q:=h.keep a.size fun i _ hl=>a.block i hl
def EqAt (w:World) (b o:Nat) (y:EqV):Prop :=
 w.cell? ⟨b,o,none⟩=some (.int .i64 y.place)∧w.cell? ⟨b,o+1,none⟩=some (.slice y.aN y.nN y.cN)∧w.cell? ⟨b,o+2,none⟩=some (.string y.node) ∧
 w.cell? ⟨b,o+3,none⟩=some (.slice y.aS y.nS y.cS)∧w.cell? ⟨b,o+4,none⟩=some (.slice y.aE y.nE y.cE)
theorem EqAt.keep {w w':World} {b o:Nat} {y:EqV} (h:EqAt w b o y) (hb:w'.heap[b]?=w.heap[b]?):EqAt w' b o y:=by
 have hc:∀ q,w'.cell? ⟨b,q,none⟩=w.cell? ⟨b,q,none⟩:=fun q=>World.cell?_of_block (w:=w) hb;obtain ⟨h0,h1,h2,h3,h4⟩:=h;exact ⟨(hc _).trans h0,(hc _).trans h1,(hc _).trans h2,(hc _).trans h3,(hc _).trans h4⟩
def HEqs (ok:Nat→Prop) (w:World) (v:Value) (l:List Eqn):Prop:=∃ C,Sl ok 5 w v l.length C∧∀ i (h:i<l.length),∃ x,C i=x.cells∧HEq ok w x l[i]
theorem HEqs.keep {ok:Nat→Prop} {w w':World} {v:Value} {l:List Eqn} (h:HEqs ok w v l) (hs:w.heap.size≤w'.heap.size) (hk:∀ i,ok i→i<w.heap.size→w'.heap[i]?=w.heap[i]?):HEqs ok w' v l:=by
 obtain ⟨C,h1,h2⟩:=h;refine ⟨C,h1.keep hs hk,fun i hi=>?_⟩;obtain ⟨x,e,hx⟩:=h2 i hi;exact ⟨x,e,hx.keep hs hk⟩
theorem HEqs.under {ok:Nat→Prop} {w w':World} {v:Value} {l:List Eqn} (h:HEqs ok w v l) (a:Below w.heap.size w w'):HEqs ok w' v l:=h.keep a.size fun i _ hl=>a.block i hl
theorem HEqs.at {ok:Nat→Prop} {w:World} {v:Value} {l:List Eqn} (h:HEqs ok w v l) :
  ∃ ao cap,v=.slice ao l.length cap∧l.length≤cap∧cap≤maxLen∧∀ i (h:i<l.length),∃ b o y,ao=some ⟨b,o,none⟩∧b<w.heap.size∧EqAt w b (o+i*5) y∧HEq ok w y l[i]:=by
 obtain ⟨C,⟨ao,cap,hv,h1,h2,h3⟩,hC⟩:=h;refine ⟨ao,cap,hv,h1,h2,fun i hi=>?_⟩;obtain ⟨b,o,ha,hob,hb,hc⟩:=h3 (by omega);obtain ⟨x,hx,hq⟩:=hC i hi;have hcc:=(hc i hi).2;rw [hx] at hcc;exact ⟨b,o,x,ha,hb,⟨hcc 0 (by decide),hcc 1 (by decide),hcc 2 (by decide),hcc 3 (by decide),hcc 4 (by decide)⟩,hq⟩
structure NdV where
 name:ByteArray
 place:Int
 a2:Option Addr
 n2:Nat
 c2:Nat
 a3:Option Addr
 n3:Nat
 c3:Nat
 a4:Option Addr
 n4:Nat
 c4:Nat
 a5:Option Addr
 n5:Nat
 c5:Nat
 a6:Option Addr
 n6:Nat
 c6:Nat
def NdV.cells (x:NdV):List Value:=[.string x.name,.int .i64 x.place,.slice x.a2 x.n2 x.c2,.slice x.a3 x.n3 x.c3,.slice x.a4 x.n4 x.c4,.slice x.a5 x.n5 x.c5,.slice x.a6 x.n6 x.c6]
structure HNd (ok:Nat→Prop) (w:World) (x:NdV) (n:Nd):Prop where
 name:x.name=n.name
 place:x.place=n.place
 sizes:HNames ok w (.slice x.a2 x.n2 x.c2) n.sizes
 inn:HDes ok w (.slice x.a3 x.n3 x.c3) n.inn
 out:HDes ok w (.slice x.a4 x.n4 x.c4) n.out
 loc:HDes ok w (.slice x.a5 x.n5 x.c5) n.loc
 eqs:HEqs ok w (.slice x.a6 x.n6 x.c6) n.eqs
theorem HNd.keep {ok:Nat→Prop} {w w':World} {x:NdV} {n:Nd} (h:HNd ok w x n) (hs:w.heap.size≤w'.heap.size) (hk:∀ i,ok i→i<w.heap.size→w'.heap[i]?=w.heap[i]?):HNd ok w' x n :=
 ⟨h.name,h.place,h.sizes.keep hs hk,h.inn.keep hs hk,h.out.keep hs hk,h.loc.keep hs hk,h.eqs.keep hs hk⟩
theorem HNd.under {ok:Nat→Prop} {w w':World} {x:NdV} {n:Nd} (h:HNd ok w x n) (a:Below w.heap.size w w'):HNd ok w' x n:=h.keep a.size fun i _ hl=>a.block i hl
def NdAt (w:World) (b o:Nat) (y:NdV):Prop :=
 w.cell? ⟨b,o,none⟩=some (.string y.name)∧w.cell? ⟨b,o+1,none⟩=some (.int .i64 y.place)∧w.cell? ⟨b,o+2,none⟩=some (.slice y.a2 y.n2 y.c2)∧w.cell? ⟨b,o+3,none⟩=some (.slice y.a3 y.n3 y.c3) ∧
 w.cell? ⟨b,o+4,none⟩=some (.slice y.a4 y.n4 y.c4)∧w.cell? ⟨b,o+5,none⟩=some (.slice y.a5 y.n5 y.c5)∧w.cell? ⟨b,o+6,none⟩=some (.slice y.a6 y.n6 y.c6)
theorem NdAt.keep {w w':World} {b o:Nat} {y:NdV} (h:NdAt w b o y) (hb:w'.heap[b]?=w.heap[b]?):NdAt w' b o y:=by
 have hc:∀ q,w'.cell? ⟨b,q,none⟩=w.cell? ⟨b,q,none⟩:=fun q=>World.cell?_of_block (w:=w) hb;obtain ⟨h0,h1,h2,h3,h4,h5,h6⟩:=h;exact ⟨(hc _).trans h0,(hc _).trans h1,(hc _).trans h2,(hc _).trans h3,(hc _).trans h4,(hc _).trans h5,(hc _).trans h6⟩
def HNds (ok:Nat→Prop) (w:World) (v:Value) (l:List Nd):Prop:=∃ C,Sl ok 7 w v l.length C∧∀ i (h:i<l.length),∃ x,C i=x.cells∧HNd ok w x l[i]
theorem HNds.keep {ok:Nat→Prop} {w w':World} {v:Value} {l:List Nd} (h:HNds ok w v l) (hs:w.heap.size≤w'.heap.size) (hk:∀ i,ok i→i<w.heap.size→w'.heap[i]?=w.heap[i]?):HNds ok w' v l:=by
 obtain ⟨C,h1,h2⟩:=h;refine ⟨C,h1.keep hs hk,fun i hi=>?_⟩;obtain ⟨x,e,hx⟩:=h2 i hi;exact ⟨x,e,hx.keep hs hk⟩
theorem HNds.under {ok:Nat→Prop} {w w':World} {v:Value} {l:List Nd} (h:HNds ok w v l) (a:Below w.heap.size w w'):HNds ok w' v l:=h.keep a.size fun i _ hl=>a.block i hl
theorem HNds.at {ok:Nat→Prop} {w:World} {v:Value} {l:List Nd} (h:HNds ok w v l) :
  ∃ ao cap,v=.slice ao l.length cap∧l.length≤cap∧cap≤maxLen∧∀ i (h:i<l.length),∃ b o y,ao=some ⟨b,o,none⟩∧b<w.heap.size∧NdAt w b (o+i*7) y∧HNd ok w y l[i]:=by
 obtain ⟨C,⟨ao,cap,hv,h1,h2,h3⟩,hC⟩:=h;refine ⟨ao,cap,hv,h1,h2,fun i hi=>?_⟩;obtain ⟨b,o,ha,hob,hb,hc⟩:=h3 (by omega);obtain ⟨x,hx,hq⟩:=hC i hi;have hcc:=(hc i hi).2;rw [hx] at hcc;exact ⟨b,o,x,ha,hb,⟨hcc 0 (by decide),hcc 1 (by decide),hcc 2 (by decide),hcc 3 (by decide),hcc 4 (by decide),hcc 5 (by decide),hcc 6 (by decide)⟩,hq⟩
end Go.Proofs.YtkfgbhlpjkkgfaaGreatDoor
namespace Go.Proofs.YtkfgbhlpjkkgfaaGreatDoor
open Go
section
variable {P:Program} {ops:Array Oper} {Q:Exit→Act→World→Prop} {md:Region.Mode} {S:World→Prop} {late:Nat→Bool}
def wpAnyL (P:Program) (md:Region.Mode) (ops:Array Oper) (Q:Exit→Act→World→Prop) (S:World→Prop) (late:Nat→Bool):Nat→Array Bool→Act→World→Prop
 | 0,listed,a,w=>Region.ready md ops listed=[]∧Q .normal a w
 | fuel+1,listed,a,w=>
  (Region.ready md ops listed=[]→Q .normal a w) ∧
  ∀ i ∈ Region.ready md ops listed,wpOp P ops Q i (fun a' w'=>(late i=false→S w')∧wpAnyL P md ops Q S late fuel (listed.setIfInBounds i true) a' w') a w
theorem wpAny_of_late:∀ (fuel:Nat) (listed:Array Bool) (a:Act) (w:World),wpAnyL P md ops Q S late fuel listed a w→wpAny P md ops Q fuel listed a w
 | 0,_,_,_,h=>h
 | fuel+1,_,_,_,h=>⟨h.1,fun i hi=>wpOp_mono (fun a' w' h'=>wpAny_of_late fuel _ a' w' h'.2) (h.2 i hi)⟩
def waitFor (md:Region.Mode) (ops:Array Oper) (late:Nat→Bool) (listed:Array Bool) (i:Nat):Bool :=
 (List.range ops.size).all fun j => !late j || listed.getD j true || ((ops[j]?).map (·.after.any fun e=>Region.binds md e&&e.on==i)).getD true
theorem waitFor_spec {listed:Array Bool} {i:Nat} (h:waitFor md ops late listed i=true) (j:Nat) (oj:Oper) (hj:ops[j]?=some oj) (hun:listed.getD j true=false) (hl:late j=true) :
  ∃ e ∈ oj.after,Region.binds md e=true∧e.on=i:=by
 have hlt:j<ops.size:=(Array.getElem?_eq_some_iff.1 hj).1;have h1:=List.all_eq_true.1 h j (List.mem_range.2 hlt);rw [hj,hl,hun] at h1;simp only [Bool.not_true,Bool.or_false,Bool.false_or,Option.map_some,Option.getD_some] at h1;obtain ⟨e,he,h2⟩:=Array.any_eq_true'.1 h1;simp only [Bool.and_eq_true,beq_iff_eq] at h2;exact ⟨e,he,h2.1,h2.2⟩
theorem wpAnyL_first {i:Nat} {oi:Oper} {v:Value} (hi:ops[i]?=some oi) (hsel:∀ (j:Nat) (o:Oper) cs b,ops[j]?=some o→o.op≠.select cs b)
  (hQ:∀ c a w,Q (.panic c) (a.put oi.dst v) w→Q (.panic c) a w) :
  ∀ (fuel:Nat) (listed:Array Bool) (a:Act) (w:World),
   (∀ j oj,ops[j]?=some oj→j≠i→listed.getD j true=false→(∀ e ∈ oj.after,Region.binds md e=true→e.on≠i)→oi.apart ops oj=true) →
   (∀ j oj,ops[j]?=some oj→listed.getD j true=false→late j=true→∃ e ∈ oj.after,Region.binds md e=true∧e.on=i) →
   i ∈ Region.ready md ops listed→YieldsIf P ops S oi v a→S w →
   wpAnyL P md ops Q S late fuel (listed.setIfInBounds i true) (a.put oi.dst v) w→wpAnyL P md ops Q S late (fuel+1) listed a w:=by
 intro fuel
 induction fuel with
 | zero=>
  intro listed a w _ _ hr hy hS H;refine ⟨fun h=>(by rw [h] at hr;cases hr),fun j hj=>?_⟩;by_cases hji:j=i
  ·subst hji;exact hy.wpOp hi hS ⟨fun _=>hS,H⟩
  ·have:=ready_mono hj hji
   rw [H.1] at this
   cases this
 | succ fuel ih=>
  intro listed a w hfree hwait hr hy hS H;refine ⟨fun h=>(by rw [h] at hr;cases hr),fun j hj=>?_⟩;by_cases hji:j=i
  ·subst hji;exact hy.wpOp hi hS ⟨fun _=>hS,H⟩
  ·have h1:=H.2 j (ready_mono hj hji)
   obtain ⟨hjun,oj,hoj,hall⟩:=mem_ready.1 hj;have hnot:∀ e ∈ oj.after,Region.binds md e=true→e.on≠i:=fun e he hb heq=>by
    have h1:=hall e he hb;have h0:=(mem_ready.1 hr).1;rw [heq] at h1;rcases Nat.lt_or_ge i listed.size with h' | h'
    ·simp [h'] at h0 h1;rw [h0] at h1;cases h1
    ·simp [Array.getElem?_eq_none h'] at h1
   have hearly:late j=false:=by
    cases hl:late j with
    | false=>rfl
    | true=>
     obtain ⟨e,he,hb,heq⟩:=hwait j oj hoj hjun hl;exact absurd heq (hnot e he hb)
   have h2:=wpOp_putIf hoj (hfree j oj hoj hji hjun hnot) (fun cs b=>hsel i oi cs b hi) (fun cs b=>hsel j oj cs b hoj) hQ hy h1;have hfree':∀ k ok,ops[k]?=some ok→k≠i→(listed.setIfInBounds j true).getD k true=false →
     (∀ e ∈ ok.after,Region.binds md e=true→e.on≠i)→oi.apart ops ok=true:=fun k ok hk hki hun hno=>by
    refine hfree k ok hk hki ?_ hno;by_cases hjk:j=k
    ·subst hjk;exact hjun
    ·rw [getD_set_ne true hjk] at hun;exact hun
   have hwait':∀ k ok,ops[k]?=some ok→(listed.setIfInBounds j true).getD k true=false→late k=true→∃ e ∈ ok.after,Region.binds md e=true∧e.on=i:=fun k ok hk hun hl=>by
    refine hwait k ok hk ?_ hl;by_cases hjk:j=k
    ·subst hjk;exact hjun
    ·rw [getD_set_ne true hjk] at hun;exact hun
   refine wpOp_mono (fun a' w' h3=>⟨h3.2.1,ih (listed.setIfInBounds j true) a' w' hfree' hwait' (ready_mono hr (Ne.symm hji)) h3.1 (h3.2.1 hearly) ?_⟩) h2;rw [Array.setIfInBounds_comm _ _ hji];exact h3.2.2
theorem wpAnyL_take {i:Nat} {oi:Oper} {v:Value} {fuel:Nat} {listed:Array Bool} {a:Act} {w:World} (hi:ops[i]?=some oi)
  (hs:Region.noSelect ops=true) (hf:Region.free md ops listed i=true) (hr:(Region.ready md ops listed).contains i=true) (hl:waitFor md ops late listed i=true)
  (hQ:∀ c a w,Q (.panic c) (a.put oi.dst v) w→Q (.panic c) a w) (hS:S w) (hw:Region.wanted oi (yielded ops a.tmps)=true) (hy:∀ w,S w→(execOp a.eval oi).run P w=.ok (.value v) w)
  (h:wpAnyL P md ops Q S late fuel (listed.setIfInBounds i true) (a.put oi.dst v) w):wpAnyL P md ops Q S late (fuel+1) listed a w:=
 wpAnyL_first hi (Region.noSelect_spec hs) hQ fuel listed a w (Region.free_spec hi hf) (waitFor_spec hl) (by simpa using hr) (.inl ⟨hw,hy⟩) hS h
theorem wpAnyL_one {i:Nat} {o:Oper} {fuel:Nat} {listed:Array Bool} {a:Act} {w:World} (ho:ops[i]?=some o) (hr:Region.ready md ops listed=[i]) (hw:Region.wanted o (yielded ops a.tmps)=true)
  (h:∀ K':Act→World→Prop,Shut (∀ a w,(late i=false→S w)→wpAnyL P md ops Q S late fuel (listed.setIfInBounds i true) a w→K' a w)→Oper.wp P o a w K' Q):wpAnyL P md ops Q S late (fuel+1) listed a w:=by
 refine ⟨fun h0=>(by rw [hr] at h0;cases h0),fun j hj=>?_⟩;rw [hr] at hj;simp at hj;subst hj;refine wpOp_step ho (fun K' hK=>?_);rw [if_pos hw];exact h K' (fun a w hS hW=>hK a w ⟨hS,hW⟩)
theorem wpAnyL_done {listed:Array Bool} {a:Act} {w:World} (hr:Region.ready md ops listed=[]) (h:Q .normal a w) :
  ∀ fuel,wpAnyL P md ops Q S late fuel listed a w
 | 0=>⟨hr,h⟩
 | _+1=>⟨fun _=>h,by rw [hr];simp⟩
theorem wp_region_late {id:Nat} {a:Act} {w:World} (S:World→Prop) (late:Nat→Bool) (hm:P.follows .mixedOrders=true)
  (h:wpAnyL P .any ops Q S late ops.size (Array.replicate ops.size false) a w.drew):(Code.region id ops true).wp P Q a w:=
 wp_region_any hm (wpAny_of_late _ _ _ _ h)
end
end Go.Proofs.YtkfgbhlpjkkgfaaGreatDoor
namespace Go.Proofs.YtkfgbhlpjkkgfaaGreatDoor
open Go.Lib
abbrev Te:=Int × List UInt8
theorem cmp_self:∀ a:List UInt8,compareBytes a a=0
 | []=>by simp [compareBytes]
 | x :: a=>by
  unfold compareBytes;rw [if_neg (by simp),if_neg (by simp)];exact cmp_self a
theorem cmp_zero:∀ a b:List UInt8,compareBytes a b=0→a=b
 | [],[],_=>rfl
 | [],_ :: _,h=>by simp [compareBytes] at h
 | _ :: _,[],h=>by simp [compareBytes] at h
 | x :: a,y :: b,h=>by
  unfold compareBytes at h
  split at h
  ·omega
  ·split at h
   ·omega
   ·rename_i h1 h2
    have e:x=y:=UInt8.le_antisymm (UInt8.not_lt.1 h2) (UInt8.not_lt.1 h1);rw [e,cmp_zero a b h]
theorem cmp_flip:∀ a b:List UInt8,compareBytes b a = - compareBytes a b
 | [],[]=>by simp [compareBytes]
 | [],_ :: _=>by simp [compareBytes]
 | _ :: _,[]=>by simp [compareBytes]
 | x :: a,y :: b=>by
  unfold compareBytes;by_cases h1:x<y
  ·have h2:¬y<x:=fun h=>absurd (UInt8.lt_trans h1 h) (UInt8.lt_irrefl _)
   simp [h1,h2]
  ·by_cases h2:y<x
   ·simp [h1,h2]
   ·simp only [h1,h2,if_false]
    exact cmp_flip a b
theorem cmp_range:∀ a b:List UInt8,compareBytes a b = -1∨compareBytes a b=0∨compareBytes a b=1
 | [],[]=>by simp [compareBytes]
 | [],_ :: _=>by simp [compareBytes]
 | _ :: _,[]=>by simp [compareBytes]
 | x :: a,y :: b=>by
  unfold compareBytes
  split
  ·exact .inl rfl
  ·split
   ·exact .inr (.inr rfl)
   ·exact cmp_range a b
theorem cmp_trans:∀ a b c:List UInt8,compareBytes a b<0→compareBytes b c<0→compareBytes a c<0
 | [],[],c,h,_=>by simp [compareBytes] at h
 | [],_ :: _,[],_,h=>by simp [compareBytes] at h
 | [],_ :: _,_ :: _,_,_=>by simp [compareBytes]
 | _ :: _,[],_,h,_=>by simp [compareBytes] at h
 | _ :: _,_ :: _,[],_,h=>by simp [compareBytes] at h
 | x :: a,y :: b,z :: c,h1,h2=>by
  unfold compareBytes at h1 h2 ⊢;by_cases p:x<y
  ·by_cases q:y<z
   ·rw [if_pos (UInt8.lt_trans p q)];omega
   ·by_cases q2:z<y
    ·rw [if_neg q,if_pos q2] at h2;omega
    ·have e:y=z:=UInt8.le_antisymm (UInt8.not_lt.1 q2) (UInt8.not_lt.1 q)
     subst e;rw [if_pos p];omega
  ·by_cases p2:y<x
   ·rw [if_neg p,if_pos p2] at h1;omega
   ·have e:x=y:=UInt8.le_antisymm (UInt8.not_lt.1 p2) (UInt8.not_lt.1 p)
    subst e;rw [if_neg p,if_neg p2] at h1;by_cases q:x<z
    ·rw [if_pos q];omega
    ·by_cases q2:z<x
     ·rw [if_neg q,if_pos q2] at h2;omega
     ·rw [if_neg q,if_neg q2] at h2 ⊢
      exact cmp_trans a b c h1 h2
theorem less_cmp:∀ a b:List UInt8,Op.bytesLess a b=decide (compareBytes a b<0)
 | [],[]=>by simp [Op.bytesLess,compareBytes]
 | [],_ :: _=>by simp [Op.bytesLess,compareBytes]
 | _ :: _,[]=>by simp [Op.bytesLess,compareBytes]
 | x :: a,y :: b=>by
  unfold Op.bytesLess compareBytes;by_cases h1:x<y
  ·simp [h1]
  ·by_cases h2:y<x
   ·have hne:¬x=y:=fun e=>by subst e;exact UInt8.lt_irrefl _ h2
    simp [h1,h2,hne]
   ·have e:x=y:=UInt8.le_antisymm (UInt8.not_lt.1 h2) (UInt8.not_lt.1 h1)
    subst e;simp [h1,less_cmp a b]
def Rises (r:List Te):Prop:=r.Pairwise fun x y=>compareBytes x.2 y.2<0
theorem rises_eq:∀ {r q:List Te},Rises r→Rises q→(∀ x,x ∈ r↔x ∈ q)→r=q
 | [],[],_,_,_=>rfl
 | [],y :: q,_,_,h=>by have:=(h y).2 (by simp);simp at this
 | x :: r,[],_,_,h=>by have:=(h x).1 (by simp);simp at this
 | x :: r,y :: q,hr,hq,h=>by
  obtain ⟨hr1,hr2⟩:=List.pairwise_cons.1 hr;obtain ⟨hq1,hq2⟩:=List.pairwise_cons.1 hq;have irr:∀ a:List UInt8,¬compareBytes a a<0:=fun a=>by rw [cmp_self];omega
  have e:x=y:=by
   have h1:=(h x).1 (by simp);have h2:=(h y).2 (by simp);rcases List.mem_cons.1 h1 with e | m1
   ·exact e
   ·rcases List.mem_cons.1 h2 with e | m2
    ·exact e.symm
    ·exact absurd (cmp_trans _ _ _ (hr1 y m2) (hq1 x m1)) (irr _)
  subst e;have ht:r=q:=rises_eq hr2 hq2 fun z=>by
   constructor
   ·intro hz
    rcases List.mem_cons.1 ((h z).1 (by simp [hz])) with e | m
    ·subst e;exact absurd (hr1 z hz) (irr _)
    ·exact m
   ·intro hz
    rcases List.mem_cons.1 ((h z).2 (by simp [hz])) with e | m
    ·subst e;exact absurd (hq1 z hz) (irr _)
    ·exact m
  rw [ht]
def sumOf:List Te→List UInt8→Int
 | [],_=>0
 | t :: l,s=>(if t.2=s then t.1 else 0)+sumOf l s
theorem sumOf_append (s:List UInt8):∀ a b:List Te,sumOf (a++b) s=sumOf a s+sumOf b s
 | [],b=>by simp [sumOf]
 | t :: a,b=>by simp [sumOf,sumOf_append s a b];omega
theorem sumOf_perm {a b:List Te} (h:a.Perm b) (s:List UInt8):sumOf a s=sumOf b s:=by
 induction h with
 | nil=>rfl
 | cons x _ ih=>simp [sumOf,ih]
 | swap x y l=>simp [sumOf];omega
 | trans _ _ ih1 ih2=>exact ih1.trans ih2
structure NF (l r:List Te):Prop where
 rise:Rises r
 mem:∀ n s,(n,s) ∈ r↔n=sumOf l s∧n≠0
theorem NF.uniq {l r q:List Te} (h:NF l r) (k:NF l q):r=q :=
 rises_eq h.rise k.rise fun x=>by
  obtain ⟨n,s⟩:=x;rw [h.mem,k.mem]
theorem NF.perm {l l' r:List Te} (h:NF l r) (p:l.Perm l'):NF l' r:=⟨h.rise,fun n s=>by rw [h.mem,sumOf_perm p]⟩
structure MG (done acc:List Te):Prop where
 rise:Rises acc
 sum:∀ n s,(n,s) ∈ acc→n=sumOf done s
 all:∀ t,t ∈ done→∃ n,(n,t.2) ∈ acc
theorem sumOf_none {l:List Te} {s:List UInt8} (h:∀ t ∈ l,t.2≠s):sumOf l s=0:=by
 induction l with
 | nil=>rfl
 | cons t l ih=>
  unfold sumOf;rw [if_neg (h t (by simp)),ih (fun u hu=>h u (by simp [hu]))];rfl
theorem mg_nil:MG [] []:=⟨List.Pairwise.nil,fun _ _ h=>by simp at h,fun _ h=>by simp at h⟩
theorem mg_new {done acc:List Te} {t:Te} (h:MG done acc) (hlt:∀ u ∈ acc,compareBytes u.2 t.2<0):MG (done++[t]) (acc++[t]):=by
 have hno:∀ u ∈ done,u.2≠t.2:=fun u hu e=>by
  obtain ⟨n,hn⟩:=h.all u hu;have:=hlt _ hn;rw [e,cmp_self] at this;omega
 refine ⟨?_,fun n s hm=>?_,fun u hu=>?_⟩
 ·unfold Rises
  rw [List.pairwise_append];exact ⟨h.rise,List.pairwise_singleton _ _,fun a ha b hb=>by simp at hb;subst hb;exact hlt a ha⟩
 ·rw [sumOf_append]
  rcases List.mem_append.1 hm with m | m
  ·have e:=h.sum n s m
   have hne:t.2≠s:=fun e2=>by
    have:=hlt _ m;simp only at this;rw [←e2,cmp_self] at this;omega
   simp [sumOf,hne,e]
  ·simp at m
   obtain rfl:t=(n,s):=m.symm;rw [sumOf_none hno];simp [sumOf]
 ·rcases List.mem_append.1 hu with m | m
  ·obtain ⟨n,hn⟩:=h.all u m
   exact ⟨n,by simp [hn]⟩
  ·simp at m
   subst m;exact ⟨u.1,by simp⟩
theorem mg_more {done acc:List Te} {t u:Te} (h:MG done (acc++[u])) (he:u.2=t.2):MG (done++[t]) (acc++[(u.1+t.1,u.2)]):=by
 have hr:=h.rise;unfold Rises at hr;rw [List.pairwise_append] at hr;obtain ⟨r1,_,r3⟩:=hr;refine ⟨?_,fun n s hm=>?_,fun x hx=>?_⟩
 ·unfold Rises
  rw [List.pairwise_append];exact ⟨r1,List.pairwise_singleton _ _,fun a ha b hb=>by simp at hb;subst hb;exact r3 a ha u (by simp)⟩
 ·rw [sumOf_append]
  rcases List.mem_append.1 hm with m | m
  ·have e:=h.sum n s (by simp [m])
   have hne:t.2≠s:=fun e2=>by
    have:=r3 _ m u (by simp);simp only at this;rw [he,e2,cmp_self] at this;omega
   simp [sumOf,hne,e]
  ·simp at m
   obtain ⟨rfl,rfl⟩:=m;have e:=h.sum u.1 u.2 (by simp);simp [sumOf,he];rw [←he];omega
 ·rcases List.mem_append.1 hx with m | m
  ·obtain ⟨n,hn⟩:=h.all x m
   rcases List.mem_append.1 hn with m2 | m2
   ·exact ⟨n,by simp [m2]⟩
   ·simp at m2
    obtain rfl:u=(n,x.2):=m2.symm;exact ⟨n+t.1,by simp⟩
  ·simp at m
   subst m;exact ⟨u.1+x.1,by simp [he]⟩
theorem mg_nf {l acc:List Te} (h:MG l acc):NF l (acc.filter fun t=>t.1≠0):=by
 refine ⟨List.Pairwise.filter _ h.rise,fun n s=>?_⟩;simp only [List.mem_filter,decide_eq_true_eq,ne_eq]
 constructor
 ·rintro ⟨m,h0⟩
  exact ⟨h.sum n s m,by simpa using h0⟩
 ·rintro ⟨e,h0⟩
  have hex:∃ t ∈ l,t.2=s:=by
   refine Classical.byContradiction fun hn=>h0 ?_;rw [e];exact sumOf_none fun t ht e2=>hn ⟨t,ht,e2⟩
  obtain ⟨t,ht,e2⟩:=hex;obtain ⟨m,hm⟩:=h.all t ht;rw [e2] at hm;have:=h.sum m s hm;rw [e,←this];exact ⟨hm,by rw [this,←e];simpa using h0⟩
structure Told (l out:List Te) (upto:List UInt8→Prop):Prop where
 rise:Rises out
 mem:∀ n s,(n,s) ∈ out↔n=sumOf l s∧n≠0∧upto s
theorem told_next {l out:List Te} {upto:List UInt8→Prop} {s:List UInt8} (h:Told l out upto) (hlt:∀ x,upto x→compareBytes x s<0) (hleast:∀ t ∈ l,¬upto t.2→¬compareBytes t.2 s<0) :
  Told l (if sumOf l s=0 then out else out++[(sumOf l s,s)]) fun x=>upto x∨x=s:=by
 have hs:¬upto s:=fun hu=>by have:=hlt s hu;rw [cmp_self] at this;omega
 by_cases h0:sumOf l s=0
 ·rw [if_pos h0]
  refine ⟨h.rise,fun n x=>?_⟩;rw [h.mem]
  constructor
  ·rintro ⟨a,b,c⟩
   exact ⟨a,b,.inl c⟩
  ·rintro ⟨a,b,c | c⟩
   ·exact ⟨a,b,c⟩
   ·subst c
    exact absurd (a.trans h0) b
 ·rw [if_neg h0]
  refine ⟨?_,fun n x=>?_⟩
  ·unfold Rises
   rw [List.pairwise_append];refine ⟨h.rise,List.pairwise_singleton _ _,fun a ha b hb=>?_⟩;simp at hb;subst hb;exact hlt a.2 ((h.mem a.1 a.2).1 ha).2.2
  ·rw [List.mem_append,h.mem]
   constructor
   ·rintro (⟨a,b,c⟩ | m)
    ·exact ⟨a,b,.inl c⟩
    ·simp at m
     obtain ⟨rfl,rfl⟩:=m;exact ⟨rfl,h0,.inr rfl⟩
   ·rintro ⟨a,b,c | c⟩
    ·exact .inl ⟨a,b,c⟩
    ·subst c
     exact .inr (by simp [a])
theorem told_nf {l out:List Te} {upto:List UInt8→Prop} (h:Told l out upto) (hall:∀ t ∈ l,upto t.2):NF l out:=by
 refine ⟨h.rise,fun n s=>?_⟩;rw [h.mem]
 constructor
 ·rintro ⟨a,b,_⟩
  exact ⟨a,b⟩
 ·rintro ⟨a,b⟩
  refine ⟨a,b,?_⟩;have hex:∃ t ∈ l,t.2=s:=by
   refine Classical.byContradiction fun hn=>b ?_;rw [a];exact sumOf_none fun t ht e2=>hn ⟨t,ht,e2⟩
  obtain ⟨t,ht,rfl⟩:=hex;exact hall t ht
theorem mg_last {done acc:List Te} {t u:Te} (h:MG done (acc++[u])) (hle:compareBytes u.2 t.2≤0) (hne:u.2≠t.2):∀ x ∈ acc++[u],compareBytes x.2 t.2<0:=by
 have hu:compareBytes u.2 t.2<0:=by
  rcases cmp_range u.2 t.2 with q | q | q
  ·omega
  ·exact absurd (cmp_zero _ _ q) hne
  ·omega
 have hr:=h.rise;unfold Rises at hr;rw [List.pairwise_append] at hr;intro x hx;rcases List.mem_append.1 hx with m | m
 ·exact cmp_trans _ _ _ (hr.2.2 x m u (by simp)) hu
 ·simp at m
  subst m;exact hu
def gtO (β:Option (List UInt8)) (s:List UInt8):Bool :=
 match β with
 | none=>true
 | some x=>decide (compareBytes x s<0)
def Upto (β:Option (List UInt8)) (s:List UInt8):Prop:=∃ x,β=some x∧compareBytes s x≤0
theorem told_start (l:List Te):Told l [] (Upto none):=⟨List.Pairwise.nil,fun n s=>by simp [Upto]⟩
theorem le_lt {a b c:List UInt8} (h:compareBytes a b≤0) (k:compareBytes b c<0):compareBytes a c<0:=by
 rcases cmp_range a b with q | q | q
 ·exact cmp_trans _ _ _ (by omega) k
 ·rw [cmp_zero _ _ q];exact k
 ·omega
theorem told_least {l out:List Te} {β:Option (List UInt8)} {s:List UInt8} (h:Told l out (Upto β)) (hgt:gtO β s=true) (hleast:∀ t ∈ l,gtO β t.2=true→¬compareBytes t.2 s<0) :
  Told l (if sumOf l s=0 then out else out++[(sumOf l s,s)]) (Upto (some s)):=by
 have hlt:∀ x,Upto β x→compareBytes x s<0:=by
  rintro x ⟨y,rfl,hy⟩;exact le_lt hy (by simpa [gtO] using hgt)
 have hup:∀ t ∈ l,(Upto (some s) t.2↔(Upto β t.2∨t.2=s)):=by
  intro t ht
  constructor
  ·rintro ⟨x,e,hx⟩
   injection e with e;subst e;by_cases hg:gtO β t.2=true
   ·have:=hleast t ht hg
    have h0:compareBytes t.2 s=0:=(by omega);exact .inr (cmp_zero _ _ h0)
   ·cases β with
    | none=>simp [gtO] at hg
    | some y=>
     have:¬compareBytes y t.2<0:=(by simpa [gtO] using hg);have hf:=cmp_flip y t.2;exact .inl ⟨y,rfl,by omega⟩
  ·rintro (hu | e)
   ·exact ⟨s,rfl,by have:=hlt _ hu;omega⟩
   ·exact ⟨s,rfl,by rw [e,cmp_self];omega⟩
 have base:=told_next (s:=s) h hlt (fun t ht hnu hc=>by
  have hu:Upto (some s) t.2:=⟨s,rfl,by omega⟩;rcases (hup t ht).1 hu with q | q
  ·exact hnu q
  ·rw [q,cmp_self] at hc;omega)
 refine ⟨base.rise,fun n x=>?_⟩;rw [base.mem]
 constructor
 ·rintro ⟨a,b,c⟩
  refine ⟨a,b,?_⟩;rcases c with c | c
  ·exact ⟨s,rfl,by have:=hlt _ c;omega⟩
  ·exact ⟨s,rfl,by rw [c,cmp_self];omega⟩
 ·rintro ⟨a,b,c⟩
  refine ⟨a,b,?_⟩;have hex:∃ t ∈ l,t.2=x:=by
   refine Classical.byContradiction fun hn=>b ?_;rw [a];exact sumOf_none fun t ht e2=>hn ⟨t,ht,e2⟩
  obtain ⟨t,ht,rfl⟩:=hex;exact (hup t ht).1 c
theorem told_all {l out:List Te} {β:Option (List UInt8)} (h:Told l out (Upto β)) (hno:∀ t ∈ l,gtO β t.2=false):NF l out:=by
 refine told_nf h fun t ht=>?_;have:=hno t ht
 cases β with
 | none=>simp [gtO] at this
 | some y=>
  have h2:¬compareBytes y t.2<0:=(by simpa [gtO] using this);have hf:=cmp_flip y t.2;exact ⟨y,rfl,by omega⟩
def unt (l:List Te) (β:Option (List UInt8)):Nat:=(l.filter fun t=>gtO β t.2).length
theorem filter_lt {α:Type} {p q:α→Bool}:∀ {l:List α},(∀ x ∈ l,p x=true→q x=true)→(∃ a ∈ l,q a=true∧p a=false)→(l.filter p).length<(l.filter q).length
 | [],_,h=>by obtain ⟨a,ha,_⟩:=h;simp at ha
 | x :: l,hpq,h=>by
  have hle:∀ m:List α,(∀ y ∈ m,p y=true→q y=true)→(m.filter p).length≤(m.filter q).length:=by
   intro m
   induction m with
   | nil=>intro _;simp
   | cons y m ih=>
    intro hy;have:=ih (fun z hz=>hy z (by simp [hz]))
    cases hp:p y with
    | true=>simp [hp,hy y (by simp) hp];omega
    | false=>
     cases hq:q y with
     | true=>simp [hp,hq];omega
     | false=>simp [hp,hq];omega
  obtain ⟨a,ha,h1,h2⟩:=h;rcases List.mem_cons.1 ha with e | m
  ·subst e
   have:=hle l (fun z hz=>hpq z (by simp [hz]));simp [h1,h2];omega
  ·have ih:=filter_lt (l:=l) (fun z hz=>hpq z (by simp [hz])) ⟨a,m,h1,h2⟩
   cases hp:p x with
   | true=>simp [hp,hpq x (by simp) hp];omega
   | false=>
    cases hq:q x with
    | true=>simp [hp,hq];omega
    | false=>simp [hp,hq];omega
theorem unt_less {l:List Te} {β:Option (List UInt8)} {s:List UInt8} (hs:∃ t ∈ l,t.2=s) (hgt:gtO β s=true):unt l (some s)<unt l β:=by
 refine filter_lt (fun x hx h=>?_) ?_
 ·cases β with
  | none=>rfl
  | some y=>
   have h1:compareBytes s x.2<0:=(by simpa [gtO] using h);have h2:compareBytes y s<0:=(by simpa [gtO] using hgt)
   simpa [gtO] using cmp_trans _ _ _ h2 h1
 ·obtain ⟨t,ht,rfl⟩:=hs
  exact ⟨t,ht,hgt,by simp [gtO,cmp_self]⟩
end Go.Proofs.YtkfgbhlpjkkgfaaGreatDoor
