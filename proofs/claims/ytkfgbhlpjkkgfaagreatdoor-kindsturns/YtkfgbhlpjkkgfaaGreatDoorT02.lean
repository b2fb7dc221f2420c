import Derived.Test.YtkfgbhlpjkkgfaaGreatDoorT01
import Derived.Deep.QuietTactic
import Derived.BigQuiet
import Derived.Deep.LoopGhost
import Derived.Deep.RegionWith
set_option linter.unusedVariables false
set_option linter.unusedSimpArgs false
set_option maxHeartbeats 64000000
set_option maxRecDepth 100000
namespace Go.Proofs.YtkfgbhlpjkkgfaaGreatDoor
open Go.RowKit Go.IntWalk
theorem Aside.alloc {S:List Nat} {B:Nat} {w w':World} (h:Aside S B w w') (hB:B<=w'.heap.size) (o:Obj):Aside S B w (w'.alloc o) :=
 h.trans (aside ((Below.refl B w').alloc hB o)) nR
theorem Aside.set {S:List Nat} {B:Nat} {w w':World} (h:Aside S B w w') {p:Addr} (hp:B<=p.block) (u:Value):Aside S B w (w'.setCell p u) :=
 h.trans (aside ((Below.refl B w').setCell hp u)) nR
theorem Aside.drew {S:List Nat} {B:Nat} {w w':World} (h:Aside S B w w'):Aside S B w w'.drew:=⟨h.os,h.tape,h.output,h.size,h.block⟩
theorem Aside.mono {S:List Nat} {B B':Nat} {w w':World} (h:Aside S B w w') (hB:B'<=B):Aside S B' w w':=⟨h.os,h.tape,h.output,h.size,fun k hk=>h.block k (Nat.lt_of_lt_of_le hk hB)⟩
section
variable {w:World} {b g cap:Nat} {L:List Tk.Tok} {len nx op:Nat}
theorem Rd.alloc (h:Rd w b g cap L len nx op) (o:Obj):Rd (w.alloc o) b g cap L len nx op:=h.below ((Below.refl _ w).alloc nR _)
theorem Rd.drew (h:Rd w b g cap L len nx op):Rd w.drew b g cap L len nx op:=h.below (Below.refl _ w).drew
theorem Rd.set (h:Rd w b g cap L len nx op) {p:Addr} (hb:p.block≠b) (hg:p.block≠g) (u:Value):Rd (w.setCell p u) b g cap L len nx op :=
 ⟨(Below.heap_setCell _ _ _ _ (fun e=>hb e.symm)).trans h.here,h.toks.keep (Below.heap_setCell _ _ _ _ (fun e=>hg e.symm)),h.apart,by simpa [World.setCell] using h.gb,h.le,h.lc,h.cm⟩
theorem Rd.bb (h:Rd w b g cap L len nx op):b<w.heap.size:=h.cells.2.2.2.2
end
theorem co {w:World} {k:Nat} {cs:Array Value} {t:TypeId} (h:w.heap[k]?=some (.cells cs t (0,0))) (o:Nat):w.cell? ⟨k,o,none⟩=cs[o]?:=by simp [World.cell?,h]
theorem zAk {w v:World} {o:Obj} (h:w=v.alloc o):Below v.heap.size v w:=by rw [h];exact (Below.refl _ _).alloc nR _
theorem zBa {w v:World} {o:Obj} (h:w=v.alloc o):w.heap[v.heap.size]?=some o:=by rw [h];exact zAC _ _
theorem newZ {w v:World} {o:Obj} (h:w=v.alloc o):w.heap.size=v.heap.size+1:=by rw [h];simp
abbrev Zb:Obj:=.cells #[.int .i64 0,.int .i64 0,.int .i64 0,.string ⟨#[]⟩,.slice none 0 0,.slice none 0 0] 45 (0,0)
theorem cells2 {w:World} {k:Nat} {v0 v1:Value} {t:TypeId} (h:w.heap[k]?=some (.cells #[v0,v1] t (0,0))):w.cell? ⟨k,0,none⟩=some v0/\w.cell? ⟨k,1,none⟩=some v1:=
  ⟨(co h 0).trans rfl,(co h 1).trans rfl⟩
theorem cells3 {w:World} {k:Nat} {v0 v1 v2:Value} {t:TypeId} (h:w.heap[k]?=some (.cells #[v0,v1,v2] t (0,0))):w.cell? ⟨k,0,none⟩=some v0/\w.cell? ⟨k,1,none⟩=some v1/\w.cell? ⟨k,2,none⟩=some v2:=
  ⟨(co h 0).trans rfl,(co h 1).trans rfl,(co h 2).trans rfl⟩
theorem cells4 {w:World} {k:Nat} {v0 v1 v2 v3:Value} {t:TypeId} (h:w.heap[k]?=some (.cells #[v0,v1,v2,v3] t (0,0))):w.cell? ⟨k,0,none⟩=some v0/\w.cell? ⟨k,1,none⟩=some v1/\w.cell? ⟨k,2,none⟩=some v2/\w.cell? ⟨k,3,none⟩=some v3:=
  ⟨(co h 0).trans rfl,(co h 1).trans rfl,(co h 2).trans rfl,(co h 3).trans rfl⟩
theorem cells5 {w:World} {k:Nat} {v0 v1 v2 v3 v4:Value} {t:TypeId} (h:w.heap[k]?=some (.cells #[v0,v1,v2,v3,v4] t (0,0))):w.cell? ⟨k,0,none⟩=some v0/\w.cell? ⟨k,1,none⟩=some v1/\w.cell? ⟨k,2,none⟩=some v2/\w.cell? ⟨k,3,none⟩=some v3/\w.cell? ⟨k,4,none⟩=some v4:=
  ⟨(co h 0).trans rfl,(co h 1).trans rfl,(co h 2).trans rfl,(co h 3).trans rfl,(co h 4).trans rfl⟩
theorem cells6 {w:World} {k:Nat} {v0 v1 v2 v3 v4 v5:Value} {t:TypeId} (h:w.heap[k]?=some (.cells #[v0,v1,v2,v3,v4,v5] t (0,0))):w.cell? ⟨k,0,none⟩=some v0/\w.cell? ⟨k,1,none⟩=some v1/\w.cell? ⟨k,2,none⟩=some v2/\w.cell? ⟨k,3,none⟩=some v3/\w.cell? ⟨k,4,none⟩=some v4/\w.cell? ⟨k,5,none⟩=some v5:=
  ⟨(co h 0).trans rfl,(co h 1).trans rfl,(co h 2).trans rfl,(co h 3).trans rfl,(co h 4).trans rfl,(co h 5).trans rfl⟩
theorem cells7 {w:World} {k:Nat} {v0 v1 v2 v3 v4 v5 v6:Value} {t:TypeId} (h:w.heap[k]?=some (.cells #[v0,v1,v2,v3,v4,v5,v6] t (0,0))):w.cell? ⟨k,0,none⟩=some v0/\w.cell? ⟨k,1,none⟩=some v1/\w.cell? ⟨k,2,none⟩=some v2/\w.cell? ⟨k,3,none⟩=some v3/\w.cell? ⟨k,4,none⟩=some v4/\w.cell? ⟨k,5,none⟩=some v5/\w.cell? ⟨k,6,none⟩=some v6:=
  ⟨(co h 0).trans rfl,(co h 1).trans rfl,(co h 2).trans rfl,(co h 3).trans rfl,(co h 4).trans rfl,(co h 5).trans rfl,(co h 6).trans rfl⟩
theorem fo {w:World} {k:Nat} {cs:Array Value} {t:TypeId} (h:w.heap[k]?=some (.cells cs t (0,0))) (o:Nat):w.frozen? ⟨k,o,none⟩=false:=by simp [World.frozen?,h]
theorem zAB {w:World} {k:Nat} {o:Obj} (h:w.heap[k]?=some o):k<w.heap.size:=(Array.getElem?_eq_some_iff.1 h).1
theorem Aside.keep {S:List Nat} {B:Nat} {w w':World} (a:Aside S B w w') {k:Nat} {x:Obj} (hx:w.heap[k]?=some x) (hk:k<B) (hs:k ∉ S):w'.heap[k]?=some x:=(a.block k hk hs).trans hx
theorem kA {w:World} {k:Nat} {x:Obj} (hx:w.heap[k]?=some x) (o:Obj):(w.alloc o).heap[k]?=some x:=(Below.heap_alloc _ _ _ (zAB hx)).trans hx
theorem zAI {w:World} {k:Nat} {x:Obj} (hx:w.heap[k]?=some x) {p:Addr} (hp:p.block≠k) (u:Value):(w.setCell p u).heap[k]?=some x:=(Below.heap_setCell _ _ _ _ (fun e=>hp e.symm)).trans hx
theorem zAD {w:World} {k:Nat} {cs:Array Value} {t:TypeId} (h:w.heap[k]?=some (.cells cs t (0,0))) (o:Nat) (u:Value):(w.setCell ⟨k,o,none⟩ u).heap[k]?=some (.cells (cs.setIfInBounds o u) t (0,0)):=by
 simp [World.setCell,Array.getElem?_modify,h]
theorem tokF0 (t:Tk.Tok) (x:ByteArray) (w:World):(Instr.field 119 (.agg #[.int .i64 t.kind,.int .i64 (t.place:Int),.string x,.int .i64 t.n]) 0).run Tryz.prog w=.ok (.int .i64 t.kind) w:=by kernel_rfl
theorem tokF1 (t:Tk.Tok) (x:ByteArray) (w:World):(Instr.field 119 (.agg #[.int .i64 t.kind,.int .i64 (t.place:Int),.string x,.int .i64 t.n]) 1).run Tryz.prog w=.ok (.int .i64 (t.place:Int)) w:=by kernel_rfl
theorem zAl (v:Value) (x y:Int) (mZ:x<y) (w:World) :
  Calls Tryz.prog 110 #[v,.int .i64 x,.int .i64 y] w fun e w'=>e=.returned (.tuple #[])/\w'=w:=by
 have hd:decide (y<=x)=false:=(by simp;omega);go_enter Tryz.func110,Tryz.ntmps110;go_wp2;go_end0;exact ⟨rfl,rfl⟩
theorem zBi (fn:Fn) (first cap:Array Value) (w:World):(Instr.makeFunc fn first cap).run Tryz.prog w=.ok (.func fn first cap) w:=rfl
theorem new3 (w:World) (a b c:Value) (t:TypeId):∀ j u,[a,b,c][j]?=some u->(w.alloc (.cells #[a,b,c] t)).cell? ((⟨w.heap.size,0,none⟩:Addr).add j)=some u:=by
 intro j u hj
 match j,hj with
 | 0,hj=>simp at hj;subst hj;simp [Addr.add]
 | 1,hj=>simp at hj;subst hj;simp [Addr.add]
 | 2,hj=>simp at hj;subst hj;simp [Addr.add]
theorem zEo {w:World} {base:Nat} {e:TypeId} {size:Nat} {v:Value} {n:Nat} {xs:List Value} (h:w.ownsRow base e size v n xs) (hn:0<n) :
  ∃ g cap,v=.slice (some ⟨g,0,none⟩) n cap/\base<=g/\g<w.heap.size/\n<=cap/\cap<=maxLen/\∀ j u,xs[j]?=some u->w.cell? ⟨g,j,none⟩=some u:=by
 have fx:=@World.ownsRow.cells _ _ _ _ _ _ _ h;rcases h.2 with ⟨rfl,h0⟩ | ⟨g,cap,aR,rfl,hb,hg,eR,eV,gq,gP⟩
 ·omega
 ·refine ⟨g,cap,rfl,hb,zAB hg,eR,eV,fun j u hj=>?_⟩
  have hc:=@fx g rfl j u hj;have dn:(⟨g,0,none⟩:Addr).add j=⟨g,j,none⟩:=by unfold Addr.add;split<;>simp_all
  rw [dn] at hc;exact hc
theorem Tryz.info50:(Tryz.prog.info? 50).map (fun i=>(i.zero,i.size,i.bytes))=some (some (.agg #[.string ⟨#[]⟩,.int .u8 0,.slice none 0 0]),3,48):=by kernel_rfl
end Go.Proofs.YtkfgbhlpjkkgfaaGreatDoor
namespace Go.Proofs.YtkfgbhlpjkkgfaaGreatDoor
open Go.RowKit Go.IntWalk
abbrev Tm:=Int × ByteArray
inductive Ex where
 | mk (op k n:Int) (name:ByteArray) (S:List (List Tm)) (L:List Ex)
structure De where
 name:ByteArray
 elem:Int
 n:List Tm
structure Eqn where
 place:Int
 names:List ByteArray
 node:ByteArray
 S:List (List Tm)
 E:List Ex
structure Nd where
 name:ByteArray
 place:Int
 sizes:List ByteArray
 inn:List De
 out:List De
 loc:List De
 eqs:List Eqn
def Ex.op:Ex->Int | .mk o _ _ _ _ _=>o
def Ex.k:Ex->Int | .mk _ k _ _ _ _=>k
def Ex.n:Ex->Int | .mk _ _ n _ _ _=>n
def Ex.name:Ex->ByteArray | .mk _ _ _ s _ _=>s
def Ex.S:Ex->List (List Tm) | .mk _ _ _ _ S _=>S
def Ex.L:Ex->List Ex | .mk _ _ _ _ _ L=>L
def Sl (ok:Nat->Prop) (k:Nat) (w:World) (v:Value) (n:Nat) (C:Nat->List Value):Prop :=
 ∃ ao cap,v=.slice ao n cap/\n<=cap/\cap<=maxLen /\
  (0<n->∃ b o,ao=some ⟨b,o,none⟩/\ok b/\b<w.heap.size/\∀ i,i<n->(C i).length=k/\∀ j,j<k->w.cell? ⟨b,o+i*k+j,none⟩=(C i)[j]?)
theorem Sl.keep {ok:Nat->Prop} {k:Nat} {w w':World} {v:Value} {n:Nat} {C:Nat->List Value} (h:Sl ok k w v n C)
  (hs:w.heap.size<=w'.heap.size) (hk:∀ i,ok i->i<w.heap.size->w'.heap[i]?=w.heap[i]?):Sl ok k w' v n C:=by
 obtain ⟨ao,cap,hv,h1,h2,h3⟩:=h;refine ⟨ao,cap,hv,h1,h2,fun hn=>?_⟩;obtain ⟨b,o,ha,gA,hb,hc⟩:=h3 hn;refine ⟨b,o,ha,gA,Nat.lt_of_lt_of_le hb hs,fun i hi=>⟨(hc i hi).1,fun j hj=>?_⟩⟩;rw [<-(hc i hi).2 j hj];exact World.cell?_of_block (w:=w) (hk b gA hb)
theorem Sl.wide {ok ok':Nat->Prop} {k:Nat} {w:World} {v:Value} {n:Nat} {C:Nat->List Value} (h:Sl ok k w v n C) (hk:∀ i,ok i->i<w.heap.size->ok' i):Sl ok' k w v n C:=by
 obtain ⟨ao,cap,hv,h1,h2,h3⟩:=h;refine ⟨ao,cap,hv,h1,h2,fun hn=>?_⟩;obtain ⟨b,o,ha,gA,hb,hc⟩:=h3 hn;exact ⟨b,o,ha,hk b gA hb,hb,hc⟩
theorem Sl.nil {ok:Nat->Prop} {k:Nat} {w:World} {C:Nat->List Value}:Sl ok k w (.slice none 0 0) 0 C:=⟨none,0,rfl,Nat.le_refl _,Nat.zero_le _,fun h=>absurd h (Nat.lt_irrefl _)⟩
def HNames (ok:Nat->Prop) (w:World) (v:Value) (l:List ByteArray):Prop:=∃ C,Sl ok 1 w v l.length C/\∀ i (h:i<l.length),C i=[.string l[i]]
def HTerms (ok:Nat->Prop) (w:World) (v:Value) (l:List Tm):Prop:=∃ C,Sl ok 2 w v l.length C/\∀ i (h:i<l.length),C i=[.int .i64 (l[i]).1,.string (l[i]).2]
def HSizes (ok:Nat->Prop) (w:World) (v:Value) (l:List (List Tm)):Prop:=∃ C,Sl ok 1 w v l.length C/\∀ i (h:i<l.length),∃ u,C i=[u]/\HTerms ok w u l[i]
inductive HEx (ok:Nat->Prop) (w:World):List Value->Ex->Prop
 | mk {op k n:Int} {name:ByteArray} {S:List (List Tm)} {L:List Ex} {vS vL:Value} (C:Nat->List Value)
   (hS:HSizes ok w vS S) (hL:Sl ok 6 w vL L.length C) (hE:∀ i (h:i<L.length),HEx ok w (C i) L[i]) :
   HEx ok w [.int .i64 op,.int .i64 k,.int .i64 n,.string name,vS,vL] (.mk op k n name S L)
theorem HNames.keep {ok:Nat->Prop} {w w':World} {v:Value} {l:List ByteArray} (h:HNames ok w v l) (hs:w.heap.size<=w'.heap.size) (hk:∀ i,ok i->i<w.heap.size->w'.heap[i]?=w.heap[i]?):HNames ok w' v l:=by
 obtain ⟨C,h1,h2⟩:=h;exact ⟨C,h1.keep hs hk,h2⟩
theorem HTerms.keep {ok:Nat->Prop} {w w':World} {v:Value} {l:List Tm} (h:HTerms ok w v l) (hs:w.heap.size<=w'.heap.size) (hk:∀ i,ok i->i<w.heap.size->w'.heap[i]?=w.heap[i]?):HTerms ok w' v l:=by
 obtain ⟨C,h1,h2⟩:=h;exact ⟨C,h1.keep hs hk,h2⟩
theorem HSizes.keep {ok:Nat->Prop} {w w':World} {v:Value} {l:List (List Tm)} (h:HSizes ok w v l) (hs:w.heap.size<=w'.heap.size) (hk:∀ i,ok i->i<w.heap.size->w'.heap[i]?=w.heap[i]?):HSizes ok w' v l:=by
 obtain ⟨C,h1,h2⟩:=h;refine ⟨C,h1.keep hs hk,fun i hi=>?_⟩;obtain ⟨u,e,ht⟩:=h2 i hi;exact ⟨u,e,ht.keep hs hk⟩
theorem HEx.keep {ok:Nat->Prop} {w w':World} {cs:List Value} {e:Ex} (h:HEx ok w cs e) (hs:w.heap.size<=w'.heap.size) (hk:∀ i,ok i->i<w.heap.size->w'.heap[i]?=w.heap[i]?):HEx ok w' cs e:=by
 induction h with
 | mk C hS hL hE ih=>exact .mk C (hS.keep hs hk) (hL.keep hs hk) ih
theorem HTerms.wide {ok ok':Nat->Prop} {w:World} {v:Value} {l:List Tm} (h:HTerms ok w v l) (hk:∀ i,ok i->i<w.heap.size->ok' i):HTerms ok' w v l:=by
 obtain ⟨C,h1,h2⟩:=h;exact ⟨C,h1.wide hk,h2⟩
theorem HSizes.wide {ok ok':Nat->Prop} {w:World} {v:Value} {l:List (List Tm)} (h:HSizes ok w v l) (hk:∀ i,ok i->i<w.heap.size->ok' i):HSizes ok' w v l:=by
 obtain ⟨C,h1,h2⟩:=h;refine ⟨C,h1.wide hk,fun i hi=>?_⟩;obtain ⟨u,e,ht⟩:=h2 i hi;exact ⟨u,e,ht.wide hk⟩
theorem HEx.wide {ok ok':Nat->Prop} {w:World} {cs:List Value} {e:Ex} (h:HEx ok w cs e) (hk:∀ i,ok i->i<w.heap.size->ok' i):HEx ok' w cs e:=by
 induction h with
 | mk C hS hL hE ih=>exact .mk C (hS.wide hk) (hL.wide hk) ih
theorem HEx.aside {S:List Nat} {w w':World} {cs:List Value} {e:Ex} (h:HEx (· ∉ S) w cs e) (a:Aside S w.heap.size w w'):HEx (· ∉ S) w' cs e:=h.keep a.size fun i hi hl=>a.block i hl hi
theorem HEx.under {ok:Nat->Prop} {w w':World} {cs:List Value} {e:Ex} (h:HEx ok w cs e) (a:Below w.heap.size w w'):HEx ok w' cs e:=h.keep a.size fun i _ hl=>a.block i hl
theorem HEx.past {ok:Nat->Prop} {S:List Nat} {w w':World} {cs:List Value} {e:Ex} (h:HEx ok w cs e) (a:Aside S w.heap.size w w') (hS:∀ i,ok i->i ∉ S):HEx ok w' cs e:=h.keep a.size fun i hi hl=>a.block i hl (hS i hi)
theorem HEx.set {ok:Nat->Prop} {w:World} {cs:List Value} {e:Ex} (h:HEx ok w cs e) {p:Addr} (hp:¬ok p.block) (u:Value):HEx ok (w.setCell p u) cs e :=
 h.keep (by simp [World.setCell]) fun i hi hl=>Below.heap_setCell _ _ _ _ (fun e=>hp (e ▸ hi))
theorem HEx.leaf {ok:Nat->Prop} {w:World} (op k n:Int) (name:ByteArray):HEx ok w [.int .i64 op,.int .i64 k,.int .i64 n,.string name,.slice none 0 0,.slice none 0 0] (.mk op k n name [] []) :=
 .mk (fun _=>[]) ⟨fun _=>[],Sl.nil,fun i h=>absurd h (Nat.not_lt_zero _)⟩ Sl.nil (fun i h=>absurd h (Nat.not_lt_zero _))
structure ExV where
 op:Int
 k:Int
 n:Int
 name:ByteArray
 aS:Option Addr
 nS:Nat
 cS:Nat
 aL:Option Addr
 nL:Nat
 cL:Nat
def ExV.cells (x:ExV):List Value:=[.int .i64 x.op,.int .i64 x.k,.int .i64 x.n,.string x.name,.slice x.aS x.nS x.cS,.slice x.aL x.nL x.cL]
abbrev exC (y:ExV):Array Value:=#[.int .i64 y.op,.int .i64 y.k,.int .i64 y.n,.string y.name,.slice y.aS y.nS y.cS,.slice y.aL y.nL y.cL]
theorem HEx.toV {ok:Nat->Prop} {w:World} {cs:List Value} {e:Ex} (h:HEx ok w cs e):∃ x:ExV,cs=x.cells/\HEx ok w x.cells e:=by
 have h0:=h
 cases h with
 | @mk op k n name S L vS vL C hS hL hE=>
  obtain ⟨CS,⟨aS,cS,rfl,_⟩,_⟩:=hS;obtain ⟨aL,cL,rfl,_⟩:=hL;exact ⟨⟨op,k,n,name,aS,S.length,cS,aL,L.length,cL⟩,rfl,h0⟩
theorem HEx.pair {ok:Nat->Prop} {w:World} {x y:ExV} {a c:Ex} (k:Int) (hx:HEx ok w x.cells a) (hy:HEx ok w y.cells c) (t:TypeId) (bm:ok w.heap.size) :
  HEx ok (w.alloc (.cells #[.int .i64 x.op,.int .i64 x.k,.int .i64 x.n,.string x.name,.slice x.aS x.nS x.cS,.slice x.aL x.nL x.cL,.int .i64 y.op,.int .i64 y.k,.int .i64 y.n,.string y.name,.slice y.aS y.nS y.cS,.slice y.aL y.nL y.cL] t (0,0)))
   [.int .i64 5,.int .i64 k,.int .i64 0,.string ⟨#[]⟩,.slice none 0 0,.slice (some ⟨w.heap.size,0,none⟩) 2 2] (.mk 5 k 0 ⟨#[]⟩ [] [a,c]):=by
 have hn:=zAC w (.cells #[.int .i64 x.op,.int .i64 x.k,.int .i64 x.n,.string x.name,.slice x.aS x.nS x.cS,.slice x.aL x.nL x.cL,.int .i64 y.op,.int .i64 y.k,.int .i64 y.n,.string y.name,.slice y.aS y.nS y.cS,.slice y.aL y.nL y.cL] t (0,0));have hb:=((Below.refl w.heap.size w).alloc nR (.cells #[.int .i64 x.op,.int .i64 x.k,.int .i64 x.n,.string x.name,.slice x.aS x.nS x.cS,.slice x.aL x.nL x.cL,.int .i64 y.op,.int .i64 y.k,.int .i64 y.n,.string y.name,.slice y.aS y.nS y.cS,.slice y.aL y.nL y.cL] t (0,0)));refine .mk (fun i=>if i=0 then x.cells else y.cells) ⟨fun _=>[],Sl.nil,fun i h=>absurd h (Nat.not_lt_zero _)⟩ ⟨_,2,rfl,Nat.le_refl _,by decide,fun _=>⟨_,0,rfl,bm,zAB hn,fun i hi=>?_⟩⟩ (fun i hi=>?_)
 ·match i,hi with
  | 0,_=>exact ⟨rfl,fun j hj=>by rw [co hn];match j,hj with | 0,_=>rfl | 1,_=>rfl | 2,_=>rfl | 3,_=>rfl | 4,_=>rfl | 5,_=>rfl⟩
  | 1,_=>exact ⟨rfl,fun j hj=>by rw [co hn];match j,hj with | 0,_=>rfl | 1,_=>rfl | 2,_=>rfl | 3,_=>rfl | 4,_=>rfl | 5,_=>rfl⟩
 ·match i,hi with
  | 0,_=>exact hx.under hb
  | 1,_=>exact hy.under hb
def eqL {α:Type} (f:α->α->Bool):List α->List α->Bool
 | [],[]=>true
 | a :: l,b :: r=>f a b&&eqL f l r
 | _,_=>false
theorem eqL_len {α:Type} {f:α->α->Bool}:∀ {l r:List α},l.length≠r.length->eqL f l r=false
 | [],[],h=>by simp at h
 | [],_ :: _,_=>rfl
 | _ :: _,[],_=>rfl
 | a :: l,b :: r,h=>by
  have:eqL f l r=false:=eqL_len (by simpa using h);simp [eqL,this]
theorem eqL_all {α:Type} {f:α->α->Bool}:∀ {l r:List α},l.length=r.length->(∀ i (h:i<l.length) (h':i<r.length),f l[i] r[i]=true)->eqL f l r=true
 | [],[],_,_=>rfl
 | [],_ :: _,h,_=>by simp at h
 | _ :: _,[],h,_=>by simp at h
 | a :: l,b :: r,h,hf=>by
  have h1:=hf 0 (by simp) (by simp);have h2:eqL f l r=true:=eqL_all (by simpa using h) (fun i hi wC=>hf (i+1) (by simpa using hi) (by simpa using wC));simp at h1;simp [eqL,h1,h2]
theorem eqL_bad {α:Type} {f:α->α->Bool}:∀ {l r:List α} (i:Nat) (h:i<l.length) (h':i<r.length),f l[i] r[i]=false->eqL f l r=false
 | [],_,i,h,_,_=>by simp at h
 | _ :: _,[],i,_,h',_=>by simp at h'
 | a :: l,b :: r,0,_,_,hf=>by simp at hf;simp [eqL,hf]
 | a :: l,b :: r,i+1,h,h',hf=>by
  have:eqL f l r=false:=eqL_bad i (by simpa using h) (by simpa using h') (by simpa using hf);simp [eqL,this]
def seq (a b:ByteArray):Bool:=a.toList==b.toList
def teq (a b:Tm):Bool:=a.1==b.1&&seq a.2 b.2
theorem HNames.at {ok:Nat->Prop} {w:World} {v:Value} {l:List ByteArray} (h:HNames ok w v l) :
  ∃ ao cap,v=.slice ao l.length cap/\l.length<=cap/\cap<=maxLen/\∀ i (h:i<l.length),∃ b o,ao=some ⟨b,o,none⟩/\b<w.heap.size/\w.cell? ⟨b,o+i,none⟩=some (.string l[i]):=by
 obtain ⟨C,⟨ao,cap,hv,h1,h2,h3⟩,hC⟩:=h;refine ⟨ao,cap,hv,h1,h2,fun i hi=>?_⟩;obtain ⟨b,o,ha,gA,hb,hc⟩:=h3 (by omega);have:=(hc i hi).2 0 (by decide);rw [hC i hi] at this;exact ⟨b,o,ha,hb,by simpa using this⟩
theorem HTerms.at {ok:Nat->Prop} {w:World} {v:Value} {l:List Tm} (h:HTerms ok w v l) :
  ∃ ao cap,v=.slice ao l.length cap/\l.length<=cap/\cap<=maxLen/\∀ i (h:i<l.length),∃ b o,ao=some ⟨b,o,none⟩/\b<w.heap.size/\w.cell? ⟨b,o+i*2,none⟩=some (.int .i64 (l[i]).1)/\w.cell? ⟨b,o+i*2+1,none⟩=some (.string (l[i]).2):=by
 obtain ⟨C,⟨ao,cap,hv,h1,h2,h3⟩,hC⟩:=h;refine ⟨ao,cap,hv,h1,h2,fun i hi=>?_⟩;obtain ⟨b,o,ha,gA,hb,hc⟩:=h3 (by omega);have t0:=(hc i hi).2 0 (by decide);have t1:=(hc i hi).2 1 (by decide);rw [hC i hi] at t0 t1;exact ⟨b,o,ha,hb,by simpa using t0,by simpa using t1⟩
theorem neqTerm (x1 y1:Int) (x2 y2:ByteArray) (w:World):(binOp .neq 83 (.agg #[.int .i64 x1,.string x2]) (.agg #[.int .i64 y1,.string y2])).run Tryz.prog w=.ok (.bool (!(teq (x1,x2) (y1,y2)))) w:=by
 simp [go_sem,teq,seq];by_cases h1:x1=y1<;>by_cases h2:x2.toList=y2.toList<;>simp [h1,h2]
theorem sameNames_any {ok ok':Nat->Prop} {w:World} {v u:Value} {l r:List ByteArray} (hl:HNames ok w v l) (hr:HNames ok' w u r) :
  Calls Tryz.prog 39 #[v,u] w fun e w'=>e=.returned (.bool (eqL seq l r))/\Below w.heap.size w w':=by
 obtain ⟨ao,cap,rfl,aC,av,ai⟩:=hl.at;obtain ⟨fj,bE,rfl,nJ,jz,ia⟩:=hr.at;unfold maxLen at av jz;obtain ⟨R,hR⟩:=nmQ (eqL seq l r);rw [<-hR];have HR:=zAA hR;clear hR hl hr;obtain ⟨n,hn⟩:=nmQ (l.length);obtain ⟨m,hm⟩:=nmQ (r.length);rw [<-hn] at aC ⊢;rw [<-hm] at nJ ⊢;have HN:=zAA hn;have HM:=zAA hm;by_cases aP:n=m
 ·subst aP
  have hq:((n:Int) != (n:Int))=false:=(by simp);clear hn hm;go_enter Tryz.func39,Tryz.ntmps39;go_wp2;go_loopg [5] n (fun k v wr=>∃ i,i<=n/\k=n-i/\v=.int .i64 (i:Nat)/\Hid (∀ j (h:j<l.length) (h':j<r.length),j<i->seq l[j] r[j]=true)/\Below w.heap.size w wr)
  case atStart=>exact ⟨0,Nat.zero_le _,rfl,rfl,fun j _ _ h=>absurd h (Nat.not_lt_zero _),Below.refl _ _⟩
  case round=>
   obtain ⟨i,hi,rfl,rfl,H,aj⟩:=hrel;by_cases ak:i<n
   ·have EC:=ak
    obtain ⟨b,o,rfl,hb,hc⟩:=ai i (by have:=HN.out;omega);obtain ⟨b',o',rfl,jS,mA⟩:=ia i (by have:=HM.out;omega);have e1:=(aj.cell (p:=⟨b,o+i,none⟩) hb).trans hc;have e2:=(aj.cell (p:=⟨b',o'+i,none⟩) jS).trans mA;have ap:i<l.length:=(by have:=HN.out;omega);have Jz:i<r.length:=(by have:=HM.out;omega);obtain ⟨x,hx⟩:=nmQ (l[i]);obtain ⟨y,hy⟩:=nmQ (r[i]);rw [<-hx] at e1;rw [<-hy] at e2;have HX:=zAA hx;have HY:=zAA hy;clear ai ia hc mA hx hy
    cases mZ:seq x y
    ·
     have cG:(x.toList==y.toList)=false:=(by unfold seq at mZ;exact mZ);go_wp2
     go_region
     go_wp2;go_ret;refine ⟨zAf ?_,aj.drew⟩;rw [HR.out];exact (eqL_bad i (by rw [<-HN.out];exact ak) (by rw [<-HM.out];exact ak) (by rw [<-HX.out,<-HY.out];exact mZ)).symm
    ·
     have cG:(x.toList==y.toList)=true:=(by unfold seq at mZ;exact mZ);go_wp2
     go_region
     go_wp2;go_roundg (n-(i+1))
     case measure=>omega
     case rel=>
      refine ⟨i+1,by omega,rfl,by go_num,fun j hj qe bJ=>?_,aj.drew⟩;by_cases e:j=i
      ·subst e
       rw [<-HX.out,<-HY.out];exact mZ
      ·exact H.out j hj qe (by omega)
   ·have eH:i=n:=by omega
    subst eH;clear ai ia;go_wp2;go_ret;refine ⟨zAf ?_,aj⟩;rw [HR.out];exact (eqL_all (by rw [<-HN.out,<-HM.out]) (fun j hj qe=>H.out j hj qe (by rw [HN.out];exact hj))).symm
 ·have hq:((n:Int) != (m:Int))=true:=by simp;omega
  clear ai ia hn hm;go_enter Tryz.func39,Tryz.ntmps39;go_wp2;go_ret;refine ⟨zAf ?_,Below.refl _ _⟩;rw [HR.out];exact (eqL_len (by rw [<-HN.out,<-HM.out];exact aP)).symm
theorem zFk {ok ok':Nat->Prop} {w:World} {v u:Value} {l r:List Tm} (hl:HTerms ok w v l) (hr:HTerms ok' w u r) :
  Calls Tryz.prog 63 #[v,u] w fun e w'=>e=.returned (.bool (eqL teq l r))/\Below w.heap.size w w':=by
 obtain ⟨ao,cap,rfl,aC,av,ai⟩:=hl.at;obtain ⟨fj,bE,rfl,nJ,jz,ia⟩:=hr.at;unfold maxLen at av jz;obtain ⟨R,hR⟩:=nmQ (eqL teq l r);rw [<-hR];have HR:=zAA hR;clear hR hl hr;obtain ⟨n,hn⟩:=nmQ (l.length);obtain ⟨m,hm⟩:=nmQ (r.length);rw [<-hn] at aC ⊢;rw [<-hm] at nJ ⊢;have HN:=zAA hn;have HM:=zAA hm;by_cases aP:n=m
 ·subst aP
  have hq:((n:Int) != (n:Int))=false:=(by simp);clear hn hm;go_enter Tryz.func63,Tryz.ntmps63;go_wp2;go_loopg [13] n (fun k v wr=>∃ i,i<=n/\k=n-i/\v=.int .i64 (i:Nat)/\Hid (∀ j (h:j<l.length) (h':j<r.length),j<i->teq l[j] r[j]=true)/\Below w.heap.size w wr)
  case atStart=>exact ⟨0,Nat.zero_le _,rfl,rfl,fun j _ _ h=>absurd h (Nat.not_lt_zero _),Below.refl _ _⟩
  case round=>
   obtain ⟨i,hi,rfl,rfl,H,aj⟩:=hrel;by_cases ak:i<n
   ·have EC:=ak
    obtain ⟨b,o,rfl,hb,hc,hd⟩:=ai i (by have:=HN.out;omega);obtain ⟨b',o',rfl,jS,mA,C3⟩:=ia i (by have:=HM.out;omega);have e1:=(aj.cell (p:=⟨b,o+i*2,none⟩) hb).trans hc;have e2:=(aj.cell (p:=⟨b',o'+i*2,none⟩) jS).trans mA;have e3:=(aj.cell (p:=⟨b,o+i*2+1,none⟩) hb).trans hd;have e4:=(aj.cell (p:=⟨b',o'+i*2+1,none⟩) jS).trans C3;have ap:i<l.length:=(by have:=HN.out;omega);have Jz:i<r.length:=(by have:=HM.out;omega);obtain ⟨x,hx⟩:=nmQ (l[i]);obtain ⟨y,hy⟩:=nmQ (r[i]);rw [<-hx] at e1 e3;rw [<-hy] at e2 e4;have HX:=zAA hx;have HY:=zAA hy;clear ai ia hc mA hd C3 hx hy;obtain ⟨x1,x2⟩:=x;obtain ⟨y1,y2⟩:=y
    cases mZ:teq (x1,x2) (y1,y2)
    ·
     have cG:=fun w=>neqTerm x1 y1 x2 y2 w;rw [mZ] at cG;go_wp2
     go_region
     go_wp2;go_ret;refine ⟨zAf ?_,aj.drew⟩;rw [HR.out];exact (eqL_bad i (by rw [<-HN.out];exact ak) (by rw [<-HM.out];exact ak) (by rw [<-HX.out,<-HY.out];exact mZ)).symm
    ·
     have cG:=fun w=>neqTerm x1 y1 x2 y2 w;rw [mZ] at cG;go_wp2
     go_region
     go_wp2;go_roundg (n-(i+1))
     case measure=>omega
     case rel=>
      refine ⟨i+1,by omega,rfl,by go_num,fun j hj qe bJ=>?_,aj.drew⟩;by_cases e:j=i
      ·subst e
       rw [<-HX.out,<-HY.out];exact mZ
      ·exact H.out j hj qe (by omega)
   ·have eH:i=n:=by omega
    subst eH;clear ai ia;go_wp2;go_ret;refine ⟨zAf ?_,aj⟩;rw [HR.out];exact (eqL_all (by rw [<-HN.out,<-HM.out]) (fun j hj qe=>H.out j hj qe (by rw [HN.out];exact hj))).symm
 ·have hq:((n:Int) != (m:Int))=true:=by simp;omega
  clear ai ia hn hm;go_enter Tryz.func63,Tryz.ntmps63;go_wp2;go_ret;refine ⟨zAf ?_,Below.refl _ _⟩;rw [HR.out];exact (eqL_len (by rw [<-HN.out,<-HM.out];exact aP)).symm
theorem HSizes.at {ok:Nat->Prop} {w:World} {v:Value} {l:List (List Tm)} (h:HSizes ok w v l) :
  ∃ ao cap,v=.slice ao l.length cap/\l.length<=cap/\cap<=maxLen/\∀ i (h:i<l.length),∃ b o au nu cu,ao=some ⟨b,o,none⟩/\b<w.heap.size/\w.cell? ⟨b,o+i,none⟩=some (.slice au nu cu)/\HTerms ok w (.slice au nu cu) l[i]:=by
 obtain ⟨C,⟨ao,cap,hv,h1,h2,h3⟩,hC⟩:=h;refine ⟨ao,cap,hv,h1,h2,fun i hi=>?_⟩;obtain ⟨b,o,ha,gA,hb,hc⟩:=h3 (by omega);have:=(hc i hi).2 0 (by decide);obtain ⟨u,hu,ht⟩:=hC i hi;rw [hu] at this;have MV:=ht;obtain ⟨_,⟨au,cu,rfl,_⟩,_⟩:=MV;exact ⟨b,o,au,_,cu,ha,hb,by simpa using this,ht⟩
theorem HTerms.under {ok:Nat->Prop} {w w':World} {v:Value} {l:List Tm} (h:HTerms ok w v l) (a:Below w.heap.size w w'):HTerms ok w' v l:=h.keep a.size fun i _ hl=>a.block i hl
theorem HSizes.under {ok:Nat->Prop} {w w':World} {v:Value} {l:List (List Tm)} (h:HSizes ok w v l) (a:Below w.heap.size w w'):HSizes ok w' v l:=h.keep a.size fun i _ hl=>a.block i hl
theorem HNames.under {ok:Nat->Prop} {w w':World} {v:Value} {l:List ByteArray} (h:HNames ok w v l) (a:Below w.heap.size w w'):HNames ok w' v l:=h.keep a.size fun i _ hl=>a.block i hl
def HDes (ok:Nat->Prop) (w:World) (v:Value) (l:List De):Prop:=∃ C,Sl ok 3 w v l.length C/\∀ i (h:i<l.length),∃ u,C i=[.string (l[i]).name,.int .u8 (l[i]).elem,u]/\HTerms ok w u (l[i]).n
theorem HDes.keep {ok:Nat->Prop} {w w':World} {v:Value} {l:List De} (h:HDes ok w v l) (hs:w.heap.size<=w'.heap.size) (hk:∀ i,ok i->i<w.heap.size->w'.heap[i]?=w.heap[i]?):HDes ok w' v l:=by
 obtain ⟨C,h1,h2⟩:=h;refine ⟨C,h1.keep hs hk,fun i hi=>?_⟩;obtain ⟨u,e,ht⟩:=h2 i hi;exact ⟨u,e,ht.keep hs hk⟩
theorem HDes.under {ok:Nat->Prop} {w w':World} {v:Value} {l:List De} (h:HDes ok w v l) (a:Below w.heap.size w w'):HDes ok w' v l:=h.keep a.size fun i _ hl=>a.block i hl
theorem HTerms.form {ok:Nat->Prop} {w:World} {v:Value} {l:List Tm} (h:HTerms ok w v l):∃ a n c,v=.slice a n c:=by
 obtain ⟨_,⟨au,cu,rfl,_⟩,_⟩:=h;exact ⟨_,_,_,rfl⟩
theorem HDes.at {ok:Nat->Prop} {w:World} {v:Value} {l:List De} (h:HDes ok w v l) :
  ∃ ao cap,v=.slice ao l.length cap/\l.length<=cap/\cap<=maxLen/\∀ i (h:i<l.length),∃ b o au nu cu,ao=some ⟨b,o,none⟩/\b<w.heap.size/\w.cell? ⟨b,o+i*3,none⟩=some (.string (l[i]).name)/\w.cell? ⟨b,o+i*3+1,none⟩=some (.int .u8 (l[i]).elem)/\w.cell? ⟨b,o+i*3+2,none⟩=some (.slice au nu cu)/\HTerms ok w (.slice au nu cu) (l[i]).n:=by
 obtain ⟨C,⟨ao,cap,hv,h1,h2,h3⟩,hC⟩:=h;refine ⟨ao,cap,hv,h1,h2,fun i hi=>?_⟩;obtain ⟨b,o,ha,gA,hb,hc⟩:=h3 (by omega);obtain ⟨u,hu,ht⟩:=hC i hi;have t0:=(hc i hi).2 0 (by decide);have t1:=(hc i hi).2 1 (by decide);have t2:=(hc i hi).2 2 (by decide);rw [hu] at t0 t1 t2;obtain ⟨au,nu,cu,rfl⟩:=ht.form;exact ⟨b,o,au,nu,cu,ha,hb,by simpa using t0,by simpa using t1,by simpa using t2,ht⟩
def signOp (t:List UInt8):Int :=
 if t==[43] then 1 else if t==[45] then 2 else if t==[42] then 3 else if t==[47] then 4 else if t==[37] then 5 else
 if t==[60] then 8 else if t==[61,61] then 9 else if t==[97,110,100] then 10 else if t==[111,114] then 11 else if t==[120,111,114] then 12 else 0
theorem signOp_any (t:List UInt8) (w:World):Calls Tryz.prog 266 #[.string (str t)] w fun e w'=>e=.returned (.int .i64 (signOp t))/\w'=w:=by
 obtain ⟨r,hr⟩:=nmQ (signOp t);rw [<-hr];have HR:=zAA hr;clear hr;have ht:(str t).toList=t:=(by rw [Lib.toList_data];rfl);go_enter Tryz.func266,Tryz.ntmps266;go_wp2
 all_goals go_ret
 all_goals refine ⟨zAs ?_,rfl⟩
 all_goals (have hr:=HR.out;simp [signOp, *] at hr ⊢)
 all_goals (try simp_all)
def btw (a c:Int) (t:List UInt8):Int:=if signOp t<a\/c<signOp t then 0 else signOp t
theorem between_any {w:World} {b g cap:Nat} {L:List Tk.Tok} {len nx op:Nat} (h:Rd w b g cap L len nx op) (a c:Int) :
  Calls Tryz.prog 262 #[.pointer (some ⟨b,0,none⟩),.int .i64 a,.int .i64 c] w fun e w'=>e=.returned (.int .i64 (btw a c (peekT L len nx).text))/\Below w.heap.size w w':=by
 have hp:=@zAT _ _ _ _ _ _ _ _ h;obtain ⟨t,ht⟩:=nmQ (peekT L len nx);rw [<-ht] at hp ⊢;unfold tokV at hp;clear h ht;have hf:=fun x w=>zDI t x w;obtain ⟨r,hr⟩:=nmQ (btw a c t.text);rw [<-hr];obtain ⟨s,hs⟩:=nmQ (signOp t.text);unfold btw at hr;rw [<-hs] at hr;have HR:=zAA hr;clear hr;go_enter Tryz.func262,Tryz.ntmps262;go_wp2_with fail;refine hp.mono ?_;rintro e w' ⟨rfl,hb⟩;go_wp2_with fail;refine (signOp_any _ _).mono ?_;rintro e LO ⟨rfl,rfl⟩;rw [<-hs];clear hs;go_wp2
 all_goals go_ret
 all_goals refine ⟨zAs ?_,hb⟩
 all_goals (have hr:=HR.out;simp_all)
 all_goals omega
def Gives (F b g cap:Nat) (L:List Tk.Tok) (len op nx n1:Nat) (e:Ex):Prop :=
 nx<=n1/\∀ w,Rd w b g cap L len nx op->Calls Tryz.prog F #[.pointer (some ⟨b,0,none⟩)] w fun r w'=>∃ x:ExV,
  r=.returned (.agg #[.int .i64 x.op,.int .i64 x.k,.int .i64 x.n,.string x.name,.slice x.aS x.nS x.cS,.slice x.aL x.nL x.cL])/\HEx (fun i=>w.heap.size<=i) w' x.cells e/\Rd w' b g cap L len n1 op/\Aside [b] w.heap.size w w'
theorem pair_any {w:World} {ok:Nat->Prop} {x y:ExV} {e f:Ex} (k:Int) (hx:HEx ok w x.cells e) (hy:HEx ok w y.cells f) (bm:∀ i,w.heap.size<=i->ok i) :
  Calls Tryz.prog 263 #[.int .i64 k,.agg #[.int .i64 x.op,.int .i64 x.k,.int .i64 x.n,.string x.name,.slice x.aS x.nS x.cS,.slice x.aL x.nL x.cL],.agg #[.int .i64 y.op,.int .i64 y.k,.int .i64 y.n,.string y.name,.slice y.aS y.nS y.cS,.slice y.aL y.nL y.cL]] w fun r w'=>∃ z:ExV,
   r=.returned (.agg #[.int .i64 z.op,.int .i64 z.k,.int .i64 z.n,.string z.name,.slice z.aS z.nS z.cS,.slice z.aL z.nL z.cL])/\HEx ok w' z.cells (.mk 5 k 0 ⟨#[]⟩ [] [e,f])/\Below w.heap.size w w':=by
 go_enter Tryz.func263,Tryz.ntmps263;go_wp2;obtain ⟨W,hW⟩:∃ W,W=(((w.alloc (Obj.cells #[.int .i64 x.op,.int .i64 x.k,.int .i64 x.n,.string x.name,.slice x.aS x.nS x.cS,.slice x.aL x.nL x.cL] 54 (0,0))).alloc (Obj.cells #[.int .i64 y.op,.int .i64 y.k,.int .i64 y.n,.string y.name,.slice y.aS y.nS y.cS,.slice y.aL y.nL y.cL] 54 (0,0))).alloc
   (Obj.cells #[.int .i64 5,.int .i64 k,.int .i64 0,.string ⟨#[]⟩,.slice none 0 0,.slice (some ⟨w.heap.size+1+1+1,0,none⟩) 2 2] 54 (0,0))):=⟨_,rfl⟩
 have hz:W.heap.size=w.heap.size+1+1+1:=(by rw [hW];simp);have EO:Below w.heap.size w W:=(by rw [hW];exact (((Below.refl _ w).alloc nR _).alloc (by simp) _).alloc (by simp;omega) _);have hc:W.heap[w.heap.size+1+1]?=some (.cells #[.int .i64 5,.int .i64 k,.int .i64 0,.string ⟨#[]⟩,.slice none 0 0,.slice (some ⟨w.heap.size+1+1+1,0,none⟩) 2 2] 54 (0,0)):=by
  rw [hW];have:=zAC ((w.alloc (Obj.cells #[.int .i64 x.op,.int .i64 x.k,.int .i64 x.n,.string x.name,.slice x.aS x.nS x.cS,.slice x.aL x.nL x.cL] 54 (0,0))).alloc (Obj.cells #[.int .i64 y.op,.int .i64 y.k,.int .i64 y.n,.string y.name,.slice y.aS y.nS y.cS,.slice y.aL y.nL y.cL] 54 (0,0))) (Obj.cells #[.int .i64 5,.int .i64 k,.int .i64 0,.string ⟨#[]⟩,.slice none 0 0,.slice (some ⟨w.heap.size+1+1+1,0,none⟩) 2 2] 54 (0,0))
  simpa using this
 rw [<-hW];have hp:=HEx.pair k (hx.under EO) (hy.under EO) 54 (bm _ (by omega));rw [hz] at hp;obtain ⟨W',vq⟩:∃ W',W'=W.alloc (Obj.cells #[.int .i64 x.op,.int .i64 x.k,.int .i64 x.n,.string x.name,.slice x.aS x.nS x.cS,.slice x.aL x.nL x.cL,.int .i64 y.op,.int .i64 y.k,.int .i64 y.n,.string y.name,.slice y.aS y.nS y.cS,.slice y.aL y.nL y.cL] 54 (0,0)):=⟨_,rfl⟩;have jS:Below w.heap.size w W':=(by rw [vq];exact EO.alloc (by omega) _);have mA:W'.heap[w.heap.size+1+1]?=some (.cells #[.int .i64 5,.int .i64 k,.int .i64 0,.string ⟨#[]⟩,.slice none 0 0,.slice (some ⟨w.heap.size+1+1+1,0,none⟩) 2 2] 54 (0,0)):=(by rw [vq];exact kA hc _);rw [<-vq] at hp ⊢;have c0:=co mA 0;have c1:=co mA 1;have c2:=co mA 2;have c3:=co mA 3;have c4:=co mA 4;have c5:=co mA 5;simp at c0 c1 c2 c3 c4 c5;exact bodyPost_ret (v:=.agg #[.int .i64 5,.int .i64 k,.int .i64 0,.string ⟨#[]⟩,.slice none 0 0,.slice (some ⟨w.heap.size+1+1+1,0,none⟩) 2 2]) (by simp [results,Tryz.results263,go_sem,c0,c1,c2,c3,c4,c5]) rfl ⟨⟨5,k,0,⟨#[]⟩,none,0,0,some ⟨w.heap.size+1+1+1,0,none⟩,2,2⟩,rfl,hp,jS⟩
end Go.Proofs.YtkfgbhlpjkkgfaaGreatDoor
