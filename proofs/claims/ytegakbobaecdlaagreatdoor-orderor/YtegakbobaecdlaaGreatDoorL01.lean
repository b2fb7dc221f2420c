import Derived.Test.YtegakbobaecdlaaGreatDoorL00
import Derived.Deep.QuietTactic
import Derived.BigQuiet
import Derived.Deep.LoopGhost
import Derived.Deep.RegionWith
set_option linter.unusedVariables false
set_option linter.unusedSimpArgs false
set_option maxHeartbeats 64000000
set_option maxRecDepth 100000
namespace Go.Proofs.YtegakbobaecdlaaGreatDoor
open Go.RowKit Go.IntWalk
abbrev Tm:=Int × ByteArray
inductive Ex where
 | mk (op k n:Int) (name:ByteArray) (S:List (List Tm)) (L:List Ex)
structure De where
 name:ByteArray
 elem:Int
 n:List Tm
structure Eqn where
 place:Int
 names:List ByteArray
 node:ByteArray
 S:List (List Tm)
 E:List Ex
structure Nd where
 name:ByteArray
 place:Int
 sizes:List ByteArray
 inn:List De
 out:List De
 loc:List De
 eqs:List Eqn
def Ex.op:Ex->Int | .mk o _ _ _ _ _=>o
def Ex.k:Ex->Int | .mk _ k _ _ _ _=>k
def Ex.n:Ex->Int | .mk _ _ n _ _ _=>n
def Ex.name:Ex->ByteArray | .mk _ _ _ s _ _=>s
def Ex.S:Ex->List (List Tm) | .mk _ _ _ _ S _=>S
def Ex.L:Ex->List Ex | .mk _ _ _ _ _ L=>L
def Sl (ok:Nat->Prop) (k:Nat) (w:World) (v:Value) (n:Nat) (C:Nat->List Value):Prop :=
 ∃ ao cap,v=.slice ao n cap/\n<=cap/\cap<=maxLen /\
  (0<n->∃ b o,ao=some ⟨b,o,none⟩/\ok b/\b<w.heap.size/\∀ i,i<n->(C i).length=k/\∀ j,j<k->w.cell? ⟨b,o+i*k+j,none⟩=(C i)[j]?)
theorem Sl.keep {ok:Nat->Prop} {k:Nat} {w w':World} {v:Value} {n:Nat} {C:Nat->List Value} (h:Sl ok k w v n C)
  (hs:w.heap.size<=w'.heap.size) (hk:∀ i,ok i->i<w.heap.size->w'.heap[i]?=w.heap[i]?):Sl ok k w' v n C:=by
 obtain ⟨ao,cap,hv,h1,h2,h3⟩:=h;refine ⟨ao,cap,hv,h1,h2,fun hn=>?_⟩;obtain ⟨b,o,ha,hob,hb,hc⟩:=h3 hn;refine ⟨b,o,ha,hob,Nat.lt_of_lt_of_le hb hs,fun i hi=>⟨(hc i hi).1,fun j hj=>?_⟩⟩;rw [<-(hc i hi).2 j hj];exact World.cell?_of_block (w:=w) (hk b hob hb)
theorem Sl.wide {ok ok':Nat->Prop} {k:Nat} {w:World} {v:Value} {n:Nat} {C:Nat->List Value} (h:Sl ok k w v n C) (hk:∀ i,ok i->i<w.heap.size->ok' i):Sl ok' k w v n C:=by
 obtain ⟨ao,cap,hv,h1,h2,h3⟩:=h;refine ⟨ao,cap,hv,h1,h2,fun hn=>?_⟩;obtain ⟨b,o,ha,hob,hb,hc⟩:=h3 hn;exact ⟨b,o,ha,hk b hob hb,hb,hc⟩
theorem Sl.nil {ok:Nat->Prop} {k:Nat} {w:World} {C:Nat->List Value}:Sl ok k w (.slice none 0 0) 0 C:=⟨none,0,rfl,Nat.le_refl _,Nat.zero_le _,fun h=>absurd h (Nat.lt_irrefl _)⟩
def HNames (ok:Nat->Prop) (w:World) (v:Value) (l:List ByteArray):Prop:=∃ C,Sl ok 1 w v l.length C/\∀ i (h:i<l.length),C i=[.string l[i]]
def HTerms (ok:Nat->Prop) (w:World) (v:Value) (l:List Tm):Prop:=∃ C,Sl ok 2 w v l.length C/\∀ i (h:i<l.length),C i=[.int .i64 (l[i]).1,.string (l[i]).2]
def HSizes (ok:Nat->Prop) (w:World) (v:Value) (l:List (List Tm)):Prop:=∃ C,Sl ok 1 w v l.length C/\∀ i (h:i<l.length),∃ u,C i=[u]/\HTerms ok w u l[i]
inductive HEx (ok:Nat->Prop) (w:World):List Value->Ex->Prop
 | mk {op k n:Int} {name:ByteArray} {S:List (List Tm)} {L:List Ex} {vS vL:Value} (C:Nat->List Value)
   (hS:HSizes ok w vS S) (hL:Sl ok 6 w vL L.length C) (hE:∀ i (h:i<L.length),HEx ok w (C i) L[i]) :
   HEx ok w [.int .i64 op,.int .i64 k,.int .i64 n,.string name,vS,vL] (.mk op k n name S L)
theorem HNames.keep {ok:Nat->Prop} {w w':World} {v:Value} {l:List ByteArray} (h:HNames ok w v l) (hs:w.heap.size<=w'.heap.size) (hk:∀ i,ok i->i<w.heap.size->w'.heap[i]?=w.heap[i]?):HNames ok w' v l:=by
 obtain ⟨C,h1,h2⟩:=h;exact ⟨C,h1.keep hs hk,h2⟩
theorem HTerms.keep {ok:Nat->Prop} {w w':World} {v:Value} {l:List Tm} (h:HTerms ok w v l) (hs:w.heap.size<=w'.heap.size) (hk:∀ i,ok i->i<w.heap.size->w'.heap[i]?=w.heap[i]?):HTerms ok w' v l:=by
 obtain ⟨C,h1,h2⟩:=h;exact ⟨C,h1.keep hs hk,h2⟩
theorem HSizes.keep {ok:Nat->Prop} {w w':World} {v:Value} {l:List (List Tm)} (h:HSizes ok w v l) (hs:w.heap.size<=w'.heap.size) (hk:∀ i,ok i->i<w.heap.size->w'.heap[i]?=w.heap[i]?):HSizes ok w' v l:=by
 obtain ⟨C,h1,h2⟩:=h;refine ⟨C,h1.keep hs hk,fun i hi=>?_⟩;obtain ⟨u,e,ht⟩:=h2 i hi;exact ⟨u,e,ht.keep hs hk⟩
theorem HEx.keep {ok:Nat->Prop} {w w':World} {cs:List Value} {e:Ex} (h:HEx ok w cs e) (hs:w.heap.size<=w'.heap.size) (hk:∀ i,ok i->i<w.heap.size->w'.heap[i]?=w.heap[i]?):HEx ok w' cs e:=by
 induction h with
 | mk C hS hL hE ih=>exact .mk C (hS.keep hs hk) (hL.keep hs hk) ih
theorem HTerms.wide {ok ok':Nat->Prop} {w:World} {v:Value} {l:List Tm} (h:HTerms ok w v l) (hk:∀ i,ok i->i<w.heap.size->ok' i):HTerms ok' w v l:=by
 obtain ⟨C,h1,h2⟩:=h;exact ⟨C,h1.wide hk,h2⟩
theorem HSizes.wide {ok ok':Nat->Prop} {w:World} {v:Value} {l:List (List Tm)} (h:HSizes ok w v l) (hk:∀ i,ok i->i<w.heap.size->ok' i):HSizes ok' w v l:=by
 obtain ⟨C,h1,h2⟩:=h;refine ⟨C,h1.wide hk,fun i hi=>?_⟩;obtain ⟨u,e,ht⟩:=h2 i hi;exact ⟨u,e,ht.wide hk⟩
theorem HEx.wide {ok ok':Nat->Prop} {w:World} {cs:List Value} {e:Ex} (h:HEx ok w cs e) (hk:∀ i,ok i->i<w.heap.size->ok' i):HEx ok' w cs e:=by
 induction h with
 | mk C hS hL hE ih=>exact .mk C (hS.wide hk) (hL.wide hk) ih
theorem HEx.aside {S:List Nat} {w w':World} {cs:List Value} {e:Ex} (h:HEx (· ∉ S) w cs e) (a:Aside S w.heap.size w w'):HEx (· ∉ S) w' cs e:=h.keep a.size fun i hi hl=>a.block i hl hi
theorem HEx.under {ok:Nat->Prop} {w w':World} {cs:List Value} {e:Ex} (h:HEx ok w cs e) (a:Below w.heap.size w w'):HEx ok w' cs e:=h.keep a.size fun i _ hl=>a.block i hl
theorem HEx.set {ok:Nat->Prop} {w:World} {cs:List Value} {e:Ex} (h:HEx ok w cs e) {p:Addr} (hp:¬ok p.block) (u:Value):HEx ok (w.setCell p u) cs e :=
 h.keep (by simp [World.setCell]) fun i hi hl=>Below.heap_setCell _ _ _ _ (fun e=>hp (e ▸ hi))
structure ExV where
 op:Int
 k:Int
 n:Int
 name:ByteArray
 aS:Option Addr
 nS:Nat
 cS:Nat
 aL:Option Addr
 nL:Nat
 cL:Nat
def ExV.cells (x:ExV):List Value:=[.int .i64 x.op,.int .i64 x.k,.int .i64 x.n,.string x.name,.slice x.aS x.nS x.cS,.slice x.aL x.nL x.cL]
abbrev exC (y:ExV):Array Value:=#[.int .i64 y.op,.int .i64 y.k,.int .i64 y.n,.string y.name,.slice y.aS y.nS y.cS,.slice y.aL y.nL y.cL]
theorem HEx.toV {ok:Nat->Prop} {w:World} {cs:List Value} {e:Ex} (h:HEx ok w cs e):∃ x:ExV,cs=x.cells/\HEx ok w x.cells e:=by
 have h0:=h
 cases h with
 | @mk op k n name S L vS vL C hS hL hE=>
  obtain ⟨CS,⟨aS,cS,rfl,_⟩,_⟩:=hS;obtain ⟨aL,cL,rfl,_⟩:=hL;exact ⟨⟨op,k,n,name,aS,S.length,cS,aL,L.length,cL⟩,rfl,h0⟩
def eqL {α:Type} (f:α->α->Bool):List α->List α->Bool
 | [],[]=>true
 | a :: l,b :: r=>f a b&&eqL f l r
 | _,_=>false
theorem eqL_len {α:Type} {f:α->α->Bool}:∀ {l r:List α},l.length≠r.length->eqL f l r=false
 | [],[],h=>by simp at h
 | [],_ :: _,_=>rfl
 | _ :: _,[],_=>rfl
 | a :: l,b :: r,h=>by
  have:eqL f l r=false:=eqL_len (by simpa using h);simp [eqL,this]
theorem eqL_all {α:Type} {f:α->α->Bool}:∀ {l r:List α},l.length=r.length->(∀ i (h:i<l.length) (h':i<r.length),f l[i] r[i]=true)->eqL f l r=true
 | [],[],_,_=>rfl
 | [],_ :: _,h,_=>by simp at h
 | _ :: _,[],h,_=>by simp at h
 | a :: l,b :: r,h,hf=>by
  have h1:=hf 0 (by simp) (by simp);have h2:eqL f l r=true:=eqL_all (by simpa using h) (fun i hi hi'=>hf (i+1) (by simpa using hi) (by simpa using hi'));simp at h1;simp [eqL,h1,h2]
theorem eqL_bad {α:Type} {f:α->α->Bool}:∀ {l r:List α} (i:Nat) (h:i<l.length) (h':i<r.length),f l[i] r[i]=false->eqL f l r=false
 | [],_,i,h,_,_=>by simp at h
 | _ :: _,[],i,_,h',_=>by simp at h'
 | a :: l,b :: r,0,_,_,hf=>by simp at hf;simp [eqL,hf]
 | a :: l,b :: r,i+1,h,h',hf=>by
  have:eqL f l r=false:=eqL_bad i (by simpa using h) (by simpa using h') (by simpa using hf);simp [eqL,this]
theorem HNames.at {ok:Nat->Prop} {w:World} {v:Value} {l:List ByteArray} (h:HNames ok w v l) :
  ∃ ao cap,v=.slice ao l.length cap/\l.length<=cap/\cap<=maxLen/\∀ i (h:i<l.length),∃ b o,ao=some ⟨b,o,none⟩/\b<w.heap.size/\w.cell? ⟨b,o+i,none⟩=some (.string l[i]):=by
 obtain ⟨C,⟨ao,cap,hv,h1,h2,h3⟩,hC⟩:=h;refine ⟨ao,cap,hv,h1,h2,fun i hi=>?_⟩;obtain ⟨b,o,ha,hob,hb,hc⟩:=h3 (by omega);have:=(hc i hi).2 0 (by decide);rw [hC i hi] at this;exact ⟨b,o,ha,hb,by simpa using this⟩
theorem HTerms.at {ok:Nat->Prop} {w:World} {v:Value} {l:List Tm} (h:HTerms ok w v l) :
  ∃ ao cap,v=.slice ao l.length cap/\l.length<=cap/\cap<=maxLen/\∀ i (h:i<l.length),∃ b o,ao=some ⟨b,o,none⟩/\b<w.heap.size/\w.cell? ⟨b,o+i*2,none⟩=some (.int .i64 (l[i]).1)/\w.cell? ⟨b,o+i*2+1,none⟩=some (.string (l[i]).2):=by
 obtain ⟨C,⟨ao,cap,hv,h1,h2,h3⟩,hC⟩:=h;refine ⟨ao,cap,hv,h1,h2,fun i hi=>?_⟩;obtain ⟨b,o,ha,hob,hb,hc⟩:=h3 (by omega);have t0:=(hc i hi).2 0 (by decide);have t1:=(hc i hi).2 1 (by decide);rw [hC i hi] at t0 t1;exact ⟨b,o,ha,hb,by simpa using t0,by simpa using t1⟩
theorem HSizes.at {ok:Nat->Prop} {w:World} {v:Value} {l:List (List Tm)} (h:HSizes ok w v l) :
  ∃ ao cap,v=.slice ao l.length cap/\l.length<=cap/\cap<=maxLen/\∀ i (h:i<l.length),∃ b o au nu cu,ao=some ⟨b,o,none⟩/\b<w.heap.size/\w.cell? ⟨b,o+i,none⟩=some (.slice au nu cu)/\HTerms ok w (.slice au nu cu) l[i]:=by
 obtain ⟨C,⟨ao,cap,hv,h1,h2,h3⟩,hC⟩:=h;refine ⟨ao,cap,hv,h1,h2,fun i hi=>?_⟩;obtain ⟨b,o,ha,hob,hb,hc⟩:=h3 (by omega);have:=(hc i hi).2 0 (by decide);obtain ⟨u,hu,ht⟩:=hC i hi;rw [hu] at this;have ht0:=ht;obtain ⟨_,⟨au,cu,rfl,_⟩,_⟩:=ht0;exact ⟨b,o,au,_,cu,ha,hb,by simpa using this,ht⟩
theorem HTerms.under {ok:Nat->Prop} {w w':World} {v:Value} {l:List Tm} (h:HTerms ok w v l) (a:Below w.heap.size w w'):HTerms ok w' v l:=h.keep a.size fun i _ hl=>a.block i hl
theorem HSizes.under {ok:Nat->Prop} {w w':World} {v:Value} {l:List (List Tm)} (h:HSizes ok w v l) (a:Below w.heap.size w w'):HSizes ok w' v l:=h.keep a.size fun i _ hl=>a.block i hl
theorem HNames.under {ok:Nat->Prop} {w w':World} {v:Value} {l:List ByteArray} (h:HNames ok w v l) (a:Below w.heap.size w w'):HNames ok w' v l:=h.keep a.size fun i _ hl=>a.block i hl
def HDes (ok:Nat->Prop) (w:World) (v:Value) (l:List De):Prop:=∃ C,Sl ok 3 w v l.length C/\∀ i (h:i<l.length),∃ u,C i=[.string (l[i]).name,.int .u8 (l[i]).elem,u]/\HTerms ok w u (l[i]).n
theorem HDes.keep {ok:Nat->Prop} {w w':World} {v:Value} {l:List De} (h:HDes ok w v l) (hs:w.heap.size<=w'.heap.size) (hk:∀ i,ok i->i<w.heap.size->w'.heap[i]?=w.heap[i]?):HDes ok w' v l:=by
 obtain ⟨C,h1,h2⟩:=h;refine ⟨C,h1.keep hs hk,fun i hi=>?_⟩;obtain ⟨u,e,ht⟩:=h2 i hi;exact ⟨u,e,ht.keep hs hk⟩
theorem HDes.under {ok:Nat->Prop} {w w':World} {v:Value} {l:List De} (h:HDes ok w v l) (a:Below w.heap.size w w'):HDes ok w' v l:=h.keep a.size fun i _ hl=>a.block i hl
theorem HTerms.form {ok:Nat->Prop} {w:World} {v:Value} {l:List Tm} (h:HTerms ok w v l):∃ a n c,v=.slice a n c:=by
 obtain ⟨_,⟨au,cu,rfl,_⟩,_⟩:=h;exact ⟨_,_,_,rfl⟩
theorem HDes.at {ok:Nat->Prop} {w:World} {v:Value} {l:List De} (h:HDes ok w v l) :
  ∃ ao cap,v=.slice ao l.length cap/\l.length<=cap/\cap<=maxLen/\∀ i (h:i<l.length),∃ b o au nu cu,ao=some ⟨b,o,none⟩/\b<w.heap.size/\w.cell? ⟨b,o+i*3,none⟩=some (.string (l[i]).name)/\w.cell? ⟨b,o+i*3+1,none⟩=some (.int .u8 (l[i]).elem)/\w.cell? ⟨b,o+i*3+2,none⟩=some (.slice au nu cu)/\HTerms ok w (.slice au nu cu) (l[i]).n:=by
 obtain ⟨C,⟨ao,cap,hv,h1,h2,h3⟩,hC⟩:=h;refine ⟨ao,cap,hv,h1,h2,fun i hi=>?_⟩;obtain ⟨b,o,ha,hob,hb,hc⟩:=h3 (by omega);obtain ⟨u,hu,ht⟩:=hC i hi;have t0:=(hc i hi).2 0 (by decide);have t1:=(hc i hi).2 1 (by decide);have t2:=(hc i hi).2 2 (by decide);rw [hu] at t0 t1 t2;obtain ⟨au,nu,cu,rfl⟩:=ht.form;exact ⟨b,o,au,nu,cu,ha,hb,by simpa using t0,by simpa using t1,by simpa using t2,ht⟩
def ExAt (w:World) (b o:Nat) (y:ExV):Prop :=
 w.cell? ⟨b,o,none⟩=some (.int .i64 y.op)/\w.cell? ⟨b,o+1,none⟩=some (.int .i64 y.k)/\w.cell? ⟨b,o+2,none⟩=some (.int .i64 y.n) /\
 w.cell? ⟨b,o+3,none⟩=some (.string y.name)/\w.cell? ⟨b,o+4,none⟩=some (.slice y.aS y.nS y.cS)/\w.cell? ⟨b,o+5,none⟩=some (.slice y.aL y.nL y.cL)
theorem ExAt.keep {w w':World} {b o:Nat} {y:ExV} (h:ExAt w b o y) (hb:w'.heap[b]?=w.heap[b]?):ExAt w' b o y:=by
 have hc:∀ q,w'.cell? ⟨b,q,none⟩=w.cell? ⟨b,q,none⟩:=fun q=>World.cell?_of_block (w:=w) hb;obtain ⟨h0,h1,h2,h3,h4,h5⟩:=h;exact ⟨(hc _).trans h0,(hc _).trans h1,(hc _).trans h2,(hc _).trans h3,(hc _).trans h4,(hc _).trans h5⟩
theorem Sl.exAt {ok:Nat->Prop} {w:World} {v:Value} {L:List Ex} {C:Nat->List Value} (hL:Sl ok 6 w v L.length C) (hE:∀ i (h:i<L.length),HEx ok w (C i) L[i]) :
  ∃ ao cap,v=.slice ao L.length cap/\L.length<=cap/\cap<=maxLen/\∀ i (h:i<L.length),∃ b o y,ao=some ⟨b,o,none⟩/\ok b/\b<w.heap.size/\ExAt w b (o+i*6) y/\HEx ok w y.cells L[i]:=by
 obtain ⟨ao,cap,hv,h1,h2,h3⟩:=hL;refine ⟨ao,cap,hv,h1,h2,fun i hi=>?_⟩;obtain ⟨b,o,ha,hob,hb,hc⟩:=h3 (by omega);obtain ⟨y,hy,hex⟩:=(hE i hi).toV;have hcc:=(hc i hi).2;rw [hy] at hcc;exact ⟨b,o,y,ha,hob,hb,⟨hcc 0 (by decide),hcc 1 (by decide),hcc 2 (by decide),hcc 3 (by decide),hcc 4 (by decide),hcc 5 (by decide)⟩,hex⟩
def HExs (ok:Nat->Prop) (w:World) (v:Value) (L:List Ex):Prop:=∃ C,Sl ok 6 w v L.length C/\∀ i (h:i<L.length),HEx ok w (C i) L[i]
theorem HExs.keep {ok:Nat->Prop} {w w':World} {v:Value} {l:List Ex} (h:HExs ok w v l) (hs:w.heap.size<=w'.heap.size) (hk:∀ i,ok i->i<w.heap.size->w'.heap[i]?=w.heap[i]?):HExs ok w' v l:=by
 obtain ⟨C,h1,h2⟩:=h;exact ⟨C,h1.keep hs hk,fun i hi=>(h2 i hi).keep hs hk⟩
theorem HExs.under {ok:Nat->Prop} {w w':World} {v:Value} {l:List Ex} (h:HExs ok w v l) (a:Below w.heap.size w w'):HExs ok w' v l:=h.keep a.size fun i _ hl=>a.block i hl
theorem HExs.at {ok:Nat->Prop} {w:World} {v:Value} {L:List Ex} (h:HExs ok w v L) :
  ∃ ao cap,v=.slice ao L.length cap/\L.length<=cap/\cap<=maxLen/\∀ i (h:i<L.length),∃ b o y,ao=some ⟨b,o,none⟩/\ok b/\b<w.heap.size/\ExAt w b (o+i*6) y/\HEx ok w y.cells L[i]:=by
 obtain ⟨C,h1,h2⟩:=h;exact h1.exAt h2
structure EqV where
 place:Int
 aN:Option Addr
 nN:Nat
 cN:Nat
 node:ByteArray
 aS:Option Addr
 nS:Nat
 cS:Nat
 aE:Option Addr
 nE:Nat
 cE:Nat
def EqV.cells (x:EqV):List Value:=[.int .i64 x.place,.slice x.aN x.nN x.cN,.string x.node,.slice x.aS x.nS x.cS,.slice x.aE x.nE x.cE]
structure HEq (ok:Nat->Prop) (w:World) (x:EqV) (q:Eqn):Prop where
 place:x.place=q.place
 names:HNames ok w (.slice x.aN x.nN x.cN) q.names
 node:x.node=q.node
 S:HSizes ok w (.slice x.aS x.nS x.cS) q.S
 E:HExs ok w (.slice x.aE x.nE x.cE) q.E
theorem HEq.keep {ok:Nat->Prop} {w w':World} {x:EqV} {q:Eqn} (h:HEq ok w x q) (hs:w.heap.size<=w'.heap.size) (hk:∀ i,ok i->i<w.heap.size->w'.heap[i]?=w.heap[i]?):HEq ok w' x q :=
 ⟨h.place,h.names.keep hs hk,h.node,h.S.keep hs hk,h.E.keep hs hk⟩
theorem HEq.under {ok:Nat->Prop} {w w':World} {x:EqV} {q:Eqn} (h:HEq ok w x q) (a:Below w.heap.size w w'):HEq ok w' x q:=h.keep a.size fun i _ hl=>a.block i hl
def EqAt (w:World) (b o:Nat) (y:EqV):Prop :=
 w.cell? ⟨b,o,none⟩=some (.int .i64 y.place)/\w.cell? ⟨b,o+1,none⟩=some (.slice y.aN y.nN y.cN)/\w.cell? ⟨b,o+2,none⟩=some (.string y.node) /\
 w.cell? ⟨b,o+3,none⟩=some (.slice y.aS y.nS y.cS)/\w.cell? ⟨b,o+4,none⟩=some (.slice y.aE y.nE y.cE)
theorem EqAt.keep {w w':World} {b o:Nat} {y:EqV} (h:EqAt w b o y) (hb:w'.heap[b]?=w.heap[b]?):EqAt w' b o y:=by
 have hc:∀ q,w'.cell? ⟨b,q,none⟩=w.cell? ⟨b,q,none⟩:=fun q=>World.cell?_of_block (w:=w) hb;obtain ⟨h0,h1,h2,h3,h4⟩:=h;exact ⟨(hc _).trans h0,(hc _).trans h1,(hc _).trans h2,(hc _).trans h3,(hc _).trans h4⟩
def HEqs (ok:Nat->Prop) (w:World) (v:Value) (l:List Eqn):Prop:=∃ C,Sl ok 5 w v l.length C/\∀ i (h:i<l.length),∃ x,C i=x.cells/\HEq ok w x l[i]
theorem HEqs.keep {ok:Nat->Prop} {w w':World} {v:Value} {l:List Eqn} (h:HEqs ok w v l) (hs:w.heap.size<=w'.heap.size) (hk:∀ i,ok i->i<w.heap.size->w'.heap[i]?=w.heap[i]?):HEqs ok w' v l:=by
 obtain ⟨C,h1,h2⟩:=h;refine ⟨C,h1.keep hs hk,fun i hi=>?_⟩;obtain ⟨x,e,hx⟩:=h2 i hi;exact ⟨x,e,hx.keep hs hk⟩
theorem HEqs.under {ok:Nat->Prop} {w w':World} {v:Value} {l:List Eqn} (h:HEqs ok w v l) (a:Below w.heap.size w w'):HEqs ok w' v l:=h.keep a.size fun i _ hl=>a.block i hl
theorem HEqs.at {ok:Nat->Prop} {w:World} {v:Value} {l:List Eqn} (h:HEqs ok w v l) :
  ∃ ao cap,v=.slice ao l.length cap/\l.length<=cap/\cap<=maxLen/\∀ i (h:i<l.length),∃ b o y,ao=some ⟨b,o,none⟩/\b<w.heap.size/\EqAt w b (o+i*5) y/\HEq ok w y l[i]:=by
 obtain ⟨C,⟨ao,cap,hv,h1,h2,h3⟩,hC⟩:=h;refine ⟨ao,cap,hv,h1,h2,fun i hi=>?_⟩;obtain ⟨b,o,ha,hob,hb,hc⟩:=h3 (by omega);obtain ⟨x,hx,hq⟩:=hC i hi;have hcc:=(hc i hi).2;rw [hx] at hcc;exact ⟨b,o,x,ha,hb,⟨hcc 0 (by decide),hcc 1 (by decide),hcc 2 (by decide),hcc 3 (by decide),hcc 4 (by decide)⟩,hq⟩
structure NdV where
 name:ByteArray
 place:Int
 a2:Option Addr
 n2:Nat
 c2:Nat
 a3:Option Addr
 n3:Nat
 c3:Nat
 a4:Option Addr
 n4:Nat
 c4:Nat
 a5:Option Addr
 n5:Nat
 c5:Nat
 a6:Option Addr
 n6:Nat
 c6:Nat
def NdV.cells (x:NdV):List Value:=[.string x.name,.int .i64 x.place,.slice x.a2 x.n2 x.c2,.slice x.a3 x.n3 x.c3,.slice x.a4 x.n4 x.c4,.slice x.a5 x.n5 x.c5,.slice x.a6 x.n6 x.c6]
structure HNd (ok:Nat->Prop) (w:World) (x:NdV) (n:Nd):Prop where
 name:x.name=n.name
 place:x.place=n.place
 sizes:HNames ok w (.slice x.a2 x.n2 x.c2) n.sizes
 inn:HDes ok w (.slice x.a3 x.n3 x.c3) n.inn
 out:HDes ok w (.slice x.a4 x.n4 x.c4) n.out
 loc:HDes ok w (.slice x.a5 x.n5 x.c5) n.loc
 eqs:HEqs ok w (.slice x.a6 x.n6 x.c6) n.eqs
theorem HNd.keep {ok:Nat->Prop} {w w':World} {x:NdV} {n:Nd} (h:HNd ok w x n) (hs:w.heap.size<=w'.heap.size) (hk:∀ i,ok i->i<w.heap.size->w'.heap[i]?=w.heap[i]?):HNd ok w' x n :=
 ⟨h.name,h.place,h.sizes.keep hs hk,h.inn.keep hs hk,h.out.keep hs hk,h.loc.keep hs hk,h.eqs.keep hs hk⟩
theorem HNd.under {ok:Nat->Prop} {w w':World} {x:NdV} {n:Nd} (h:HNd ok w x n) (a:Below w.heap.size w w'):HNd ok w' x n:=h.keep a.size fun i _ hl=>a.block i hl
def NdAt (w:World) (b o:Nat) (y:NdV):Prop :=
 w.cell? ⟨b,o,none⟩=some (.string y.name)/\w.cell? ⟨b,o+1,none⟩=some (.int .i64 y.place)/\w.cell? ⟨b,o+2,none⟩=some (.slice y.a2 y.n2 y.c2)/\w.cell? ⟨b,o+3,none⟩=some (.slice y.a3 y.n3 y.c3) /\
 w.cell? ⟨b,o+4,none⟩=some (.slice y.a4 y.n4 y.c4)/\w.cell? ⟨b,o+5,none⟩=some (.slice y.a5 y.n5 y.c5)/\w.cell? ⟨b,o+6,none⟩=some (.slice y.a6 y.n6 y.c6)
theorem NdAt.keep {w w':World} {b o:Nat} {y:NdV} (h:NdAt w b o y) (hb:w'.heap[b]?=w.heap[b]?):NdAt w' b o y:=by
 have hc:∀ q,w'.cell? ⟨b,q,none⟩=w.cell? ⟨b,q,none⟩:=fun q=>World.cell?_of_block (w:=w) hb;obtain ⟨h0,h1,h2,h3,h4,h5,h6⟩:=h;exact ⟨(hc _).trans h0,(hc _).trans h1,(hc _).trans h2,(hc _).trans h3,(hc _).trans h4,(hc _).trans h5,(hc _).trans h6⟩
def HNds (ok:Nat->Prop) (w:World) (v:Value) (l:List Nd):Prop:=∃ C,Sl ok 7 w v l.length C/\∀ i (h:i<l.length),∃ x,C i=x.cells/\HNd ok w x l[i]
theorem HNds.keep {ok:Nat->Prop} {w w':World} {v:Value} {l:List Nd} (h:HNds ok w v l) (hs:w.heap.size<=w'.heap.size) (hk:∀ i,ok i->i<w.heap.size->w'.heap[i]?=w.heap[i]?):HNds ok w' v l:=by
 obtain ⟨C,h1,h2⟩:=h;refine ⟨C,h1.keep hs hk,fun i hi=>?_⟩;obtain ⟨x,e,hx⟩:=h2 i hi;exact ⟨x,e,hx.keep hs hk⟩
theorem HNds.under {ok:Nat->Prop} {w w':World} {v:Value} {l:List Nd} (h:HNds ok w v l) (a:Below w.heap.size w w'):HNds ok w' v l:=h.keep a.size fun i _ hl=>a.block i hl
theorem HNds.at {ok:Nat->Prop} {w:World} {v:Value} {l:List Nd} (h:HNds ok w v l) :
  ∃ ao cap,v=.slice ao l.length cap/\l.length<=cap/\cap<=maxLen/\∀ i (h:i<l.length),∃ b o y,ao=some ⟨b,o,none⟩/\b<w.heap.size/\NdAt w b (o+i*7) y/\HNd ok w y l[i]:=by
 obtain ⟨C,⟨ao,cap,hv,h1,h2,h3⟩,hC⟩:=h;refine ⟨ao,cap,hv,h1,h2,fun i hi=>?_⟩;obtain ⟨b,o,ha,hob,hb,hc⟩:=h3 (by omega);obtain ⟨x,hx,hq⟩:=hC i hi;have hcc:=(hc i hi).2;rw [hx] at hcc;exact ⟨b,o,x,ha,hb,⟨hcc 0 (by decide),hcc 1 (by decide),hcc 2 (by decide),hcc 3 (by decide),hcc 4 (by decide),hcc 5 (by decide),hcc 6 (by decide)⟩,hq⟩
end Go.Proofs.YtegakbobaecdlaaGreatDoor
