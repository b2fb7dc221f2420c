import Derived.Test.YtkfgbhlpjkkgfaaGreatDoorN02
import Derived.Deep.QuietTactic
import Derived.BigQuiet
import Derived.Deep.LoopGhost
set_option linter.unusedVariables false
set_option linter.unusedSimpArgs false
set_option maxHeartbeats 64000000
set_option maxRecDepth 100000
namespace Go.Proofs.YtkfgbhlpjkkgfaaGreatDoor
open Go.RowKit Go.IntWalk
theorem Aside.alloc {S:List Nat} {B:Nat} {w w':World} (h:Aside S B w w') (hB:B≤w'.heap.size) (o:Obj):Aside S B w (w'.alloc o) :=
 h.trans (aside ((Below.refl B w').alloc hB o)) nR
theorem Aside.set {S:List Nat} {B:Nat} {w w':World} (h:Aside S B w w') {p:Addr} (hp:B≤p.block) (u:Value):Aside S B w (w'.setCell p u) :=
 h.trans (aside ((Below.refl B w').setCell hp u)) nR
theorem Aside.drew {S:List Nat} {B:Nat} {w w':World} (h:Aside S B w w'):Aside S B w w'.drew:=⟨h.os,h.tape,h.output,h.size,h.block⟩
theorem Aside.mono {S:List Nat} {B B':Nat} {w w':World} (h:Aside S B w w') (hB:B'≤B):Aside S B' w w':=⟨h.os,h.tape,h.output,h.size,fun k hk=>h.block k (Nat.lt_of_lt_of_le hk hB)⟩
section
variable {w:World} {b g cap:Nat} {L:List Tk.Tok} {len nx op:Nat}
theorem Rd.alloc (h:Rd w b g cap L len nx op) (o:Obj):Rd (w.alloc o) b g cap L len nx op:=h.below ((Below.refl _ w).alloc nR _)
theorem Rd.drew (h:Rd w b g cap L len nx op):Rd w.drew b g cap L len nx op:=h.below (Below.refl _ w).drew
theorem Rd.set (h:Rd w b g cap L len nx op) {p:Addr} (hb:p.block≠b) (hg:p.block≠g) (u:Value):Rd (w.setCell p u) b g cap L len nx op :=
 ⟨(Below.heap_setCell _ _ _ _ (fun e=>hb e.symm)).trans h.here,h.toks.keep (Below.heap_setCell _ _ _ _ (fun e=>hg e.symm)),h.apart,by simpa [World.setCell] using h.gb,h.le,h.lc,h.cm⟩
theorem Rd.bb (h:Rd w b g cap L len nx op):b<w.heap.size:=h.cells.2.2.2.2
end
theorem co {w:World} {k:Nat} {cs:Array Value} {t:TypeId} (h:w.heap[k]?=some (.cells cs t (0,0))) (o:Nat):w.cell? ⟨k,o,none⟩=cs[o]?:=by simp [World.cell?,h]
theorem newB {w v:World} {o:Obj} (h:w=v.alloc o):Below v.heap.size v w:=by rw [h];exact (Below.refl _ _).alloc nR _
theorem newK {w v:World} {o:Obj} (h:w=v.alloc o):w.heap[v.heap.size]?=some o:=by rw [h];exact heap_new _ _
theorem newZ {w v:World} {o:Obj} (h:w=v.alloc o):w.heap.size=v.heap.size+1:=by rw [h];simp
abbrev Zb:Obj:=.cells #[.int .i64 0,.int .i64 0,.int .i64 0,.string ⟨#[]⟩,.slice none 0 0,.slice none 0 0] 45 (0,0)
theorem cells2 {w:World} {k:Nat} {v0 v1:Value} {t:TypeId} (h:w.heap[k]?=some (.cells #[v0,v1] t (0,0))):w.cell? ⟨k,0,none⟩=some v0∧w.cell? ⟨k,1,none⟩=some v1:=
  ⟨(co h 0).trans rfl,(co h 1).trans rfl⟩
theorem cells3 {w:World} {k:Nat} {v0 v1 v2:Value} {t:TypeId} (h:w.heap[k]?=some (.cells #[v0,v1,v2] t (0,0))):w.cell? ⟨k,0,none⟩=some v0∧w.cell? ⟨k,1,none⟩=some v1∧w.cell? ⟨k,2,none⟩=some v2:=
  ⟨(co h 0).trans rfl,(co h 1).trans rfl,(co h 2).trans rfl⟩
theorem cells4 {w:World} {k:Nat} {v0 v1 v2 v3:Value} {t:TypeId} (h:w.heap[k]?=some (.cells #[v0,v1,v2,v3] t (0,0))):w.cell? ⟨k,0,none⟩=some v0∧w.cell? ⟨k,1,none⟩=some v1∧w.cell? ⟨k,2,none⟩=some v2∧w.cell? ⟨k,3,none⟩=some v3:=
  ⟨(co h 0).trans rfl,(co h 1).trans rfl,(co h 2).trans rfl,(co h 3).trans rfl⟩
theorem cells5 {w:World} {k:Nat} {v0 v1 v2 v3 v4:Value} {t:TypeId} (h:w.heap[k]?=some (.cells #[v0,v1,v2,v3,v4] t (0,0))):w.cell? ⟨k,0,none⟩=some v0∧w.cell? ⟨k,1,none⟩=some v1∧w.cell? ⟨k,2,none⟩=some v2∧w.cell? ⟨k,3,none⟩=some v3∧w.cell? ⟨k,4,none⟩=some v4:=
  ⟨(co h 0).trans rfl,(co h 1).trans rfl,(co h 2).trans rfl,(co h 3).trans rfl,(co h 4).trans rfl⟩
theorem cells6 {w:World} {k:Nat} {v0 v1 v2 v3 v4 v5:Value} {t:TypeId} (h:w.heap[k]?=some (.cells #[v0,v1,v2,v3,v4,v5] t (0,0))):w.cell? ⟨k,0,none⟩=some v0∧w.cell? ⟨k,1,none⟩=some v1∧w.cell? ⟨k,2,none⟩=some v2∧w.cell? ⟨k,3,none⟩=some v3∧w.cell? ⟨k,4,none⟩=some v4∧w.cell? ⟨k,5,none⟩=some v5:=
  ⟨(co h 0).trans rfl,(co h 1).trans rfl,(co h 2).trans rfl,(co h 3).trans rfl,(co h 4).trans rfl,(co h 5).trans rfl⟩
theorem cells7 {w:World} {k:Nat} {v0 v1 v2 v3 v4 v5 v6:Value} {t:TypeId} (h:w.heap[k]?=some (.cells #[v0,v1,v2,v3,v4,v5,v6] t (0,0))):w.cell? ⟨k,0,none⟩=some v0∧w.cell? ⟨k,1,none⟩=some v1∧w.cell? ⟨k,2,none⟩=some v2∧w.cell? ⟨k,3,none⟩=some v3∧w.cell? ⟨k,4,none⟩=some v4∧w.cell? ⟨k,5,none⟩=some v5∧w.cell? ⟨k,6,none⟩=some v6:=
  ⟨(co h 0).trans rfl,(co h 1).trans rfl,(co h 2).trans rfl,(co h 3).trans rfl,(co h 4).trans rfl,(co h 5).trans rfl,(co h 6).trans rfl⟩
theorem fo {w:World} {k:Nat} {cs:Array Value} {t:TypeId} (h:w.heap[k]?=some (.cells cs t (0,0))) (o:Nat):w.frozen? ⟨k,o,none⟩=false:=by simp [World.frozen?,h]
theorem lt_of {w:World} {k:Nat} {o:Obj} (h:w.heap[k]?=some o):k<w.heap.size:=(Array.getElem?_eq_some_iff.1 h).1
theorem Aside.keep {S:List Nat} {B:Nat} {w w':World} (a:Aside S B w w') {k:Nat} {x:Obj} (hx:w.heap[k]?=some x) (hk:k<B) (hs:k ∉ S):w'.heap[k]?=some x:=(a.block k hk hs).trans hx
theorem kA {w:World} {k:Nat} {x:Obj} (hx:w.heap[k]?=some x) (o:Obj):(w.alloc o).heap[k]?=some x:=(Below.heap_alloc _ _ _ (lt_of hx)).trans hx
theorem keep_set {w:World} {k:Nat} {x:Obj} (hx:w.heap[k]?=some x) {p:Addr} (hp:p.block≠k) (u:Value):(w.setCell p u).heap[k]?=some x:=(Below.heap_setCell _ _ _ _ (fun e=>hp e.symm)).trans hx
theorem set_in {w:World} {k:Nat} {cs:Array Value} {t:TypeId} (h:w.heap[k]?=some (.cells cs t (0,0))) (o:Nat) (u:Value):(w.setCell ⟨k,o,none⟩ u).heap[k]?=some (.cells (cs.setIfInBounds o u) t (0,0)):=by
 simp [World.setCell,Array.getElem?_modify,h]
theorem tokF0 (t:Tk.Tok) (x:ByteArray) (w:World):(Instr.field 119 (.agg #[.int .i64 t.kind,.int .i64 (t.place:Int),.string x,.int .i64 t.n]) 0).run Tryz.prog w=.ok (.int .i64 t.kind) w:=by kernel_rfl
theorem tokF1 (t:Tk.Tok) (x:ByteArray) (w:World):(Instr.field 119 (.agg #[.int .i64 t.kind,.int .i64 (t.place:Int),.string x,.int .i64 t.n]) 1).run Tryz.prog w=.ok (.int .i64 (t.place:Int)) w:=by kernel_rfl
theorem allow_yes (v:Value) (x y:Int) (hxy:x<y) (w:World) :
  Calls Tryz.prog 110 #[v,.int .i64 x,.int .i64 y] w fun e w'=>e=.returned (.tuple #[])∧w'=w:=by
 have hd:decide (y≤x)=false:=(by simp;omega);go_enter Tryz.func110,Tryz.ntmps110;go_wp2;go_end0;exact ⟨rfl,rfl⟩
theorem makes (fn:Fn) (first cap:Array Value) (w:World):(Instr.makeFunc fn first cap).run Tryz.prog w=.ok (.func fn first cap) w:=rfl
theorem owns_pos {w:World} {base:Nat} {e:TypeId} {size:Nat} {v:Value} {n:Nat} {xs:List Value} (h:w.ownsRow base e size v n xs) (hn:0<n) :
  ∃ g cap,v=.slice (some ⟨g,0,none⟩) n cap∧base≤g∧g<w.heap.size∧n≤cap∧cap≤maxLen∧∀ j u,xs[j]?=some u→w.cell? ⟨g,j,none⟩=some u:=by
 have hcell:=@World.ownsRow.cells _ _ _ _ _ _ _ h;rcases h.2 with ⟨rfl,h0⟩ | ⟨g,cap,cur,rfl,hb,hg,hnc,hcm,hcs,htake⟩
 ·omega
 ·refine ⟨g,cap,rfl,hb,lt_of hg,hnc,hcm,fun j u hj=>?_⟩
  have hc:=@hcell g rfl j u hj;have adds:(⟨g,0,none⟩:Addr).add j=⟨g,j,none⟩:=by unfold Addr.add;split<;>simp_all
  rw [adds] at hc;exact hc
theorem Tryz.info50:(Tryz.prog.info? 50).map (fun i=>(i.zero,i.size,i.bytes))=some (some (.agg #[.string ⟨#[]⟩,.int .u8 0,.slice none 0 0]),3,48):=by kernel_rfl
end Go.Proofs.YtkfgbhlpjkkgfaaGreatDoor
namespace Go.Proofs.YtkfgbhlpjkkgfaaGreatDoor
open Go.RowKit Go.IntWalk
abbrev Tm:=Int × ByteArray
inductive Ex where
 | mk (op k n:Int) (name:ByteArray) (S:List (List Tm)) (L:List Ex)
structure De where
 name:ByteArray
 elem:Int
 n:List Tm
structure Eqn where
 place:Int
 names:List ByteArray
 node:ByteArray
 S:List (List Tm)
 E:List Ex
structure Nd where
 name:ByteArray
 place:Int
 sizes:List ByteArray
 inn:List De
 out:List De
 loc:List De
 eqs:List Eqn
def Ex.op:Ex→Int | .mk o _ _ _ _ _=>o
def Ex.k:Ex→Int | .mk _ k _ _ _ _=>k
def Ex.n:Ex→Int | .mk _ _ n _ _ _=>n
def Ex.name:Ex→ByteArray | .mk _ _ _ s _ _=>s
def Ex.S:Ex→List (List Tm) | .mk _ _ _ _ S _=>S
def Ex.L:Ex→List Ex | .mk _ _ _ _ _ L=>L
def Sl (ok:Nat→Prop) (k:Nat) (w:World) (v:Value) (n:Nat) (C:Nat→List Value):Prop :=
 ∃ ao cap,v=.slice ao n cap∧n≤cap∧cap≤maxLen ∧
  (0<n→∃ b o,ao=some ⟨b,o,none⟩∧ok b∧b<w.heap.size∧∀ i,i<n→(C i).length=k∧∀ j,j<k→w.cell? ⟨b,o+i*k+j,none⟩=(C i)[j]?)
theorem Sl.keep {ok:Nat→Prop} {k:Nat} {w w':World} {v:Value} {n:Nat} {C:Nat→List Value} (h:Sl ok k w v n C)
  (hs:w.heap.size≤w'.heap.size) (hk:∀ i,ok i→i<w.heap.size→w'.heap[i]?=w.heap[i]?):Sl ok k w' v n C:=by
 obtain ⟨ao,cap,hv,h1,h2,h3⟩:=h;refine ⟨ao,cap,hv,h1,h2,fun hn=>?_⟩;obtain ⟨b,o,ha,hob,hb,hc⟩:=h3 hn;refine ⟨b,o,ha,hob,Nat.lt_of_lt_of_le hb hs,fun i hi=>⟨(hc i hi).1,fun j hj=>?_⟩⟩;rw [←(hc i hi).2 j hj];exact World.cell?_of_block (w:=w) (hk b hob hb)
theorem Sl.wide {ok ok':Nat→Prop} {k:Nat} {w:World} {v:Value} {n:Nat} {C:Nat→List Value} (h:Sl ok k w v n C) (hk:∀ i,ok i→i<w.heap.size→ok' i):Sl ok' k w v n C:=by
 obtain ⟨ao,cap,hv,h1,h2,h3⟩:=h;refine ⟨ao,cap,hv,h1,h2,fun hn=>?_⟩;obtain ⟨b,o,ha,hob,hb,hc⟩:=h3 hn;exact ⟨b,o,ha,hk b hob hb,hb,hc⟩
theorem Sl.nil {ok:Nat→Prop} {k:Nat} {w:World} {C:Nat→List Value}:Sl ok k w (.slice none 0 0) 0 C:=⟨none,0,rfl,Nat.le_refl _,Nat.zero_le _,fun h=>absurd h (Nat.lt_irrefl _)⟩
def HNames (ok:Nat→Prop) (w:World) (v:Value) (l:List ByteArray):Prop:=∃ C,Sl ok 1 w v l.length C∧∀ i (h:i<l.length),C i=[.string l[i]]
def HTerms (ok:Nat→Prop) (w:World) (v:Value) (l:List Tm):Prop:=∃ C,Sl ok 2 w v l.length C∧∀ i (h:i<l.length),C i=[.int .i64 (l[i]).1,.string (l[i]).2]
def HSizes (ok:Nat→Prop) (w:World) (v:Value) (l:List (List Tm)):Prop:=∃ C,Sl ok 1 w v l.length C∧∀ i (h:i<l.length),∃ u,C i=[u]∧HTerms ok w u l[i]
inductive HEx (ok:Nat→Prop) (w:World):List Value→Ex→Prop
 | mk {op k n:Int} {name:ByteArray} {S:List (List Tm)} {L:List Ex} {vS vL:Value} (C:Nat→List Value)
   (hS:HSizes ok w vS S) (hL:Sl ok 6 w vL L.length C) (hE:∀ i (h:i<L.length),HEx ok w (C i) L[i]) :
   HEx ok w [.int .i64 op,.int .i64 k,.int .i64 n,.string name,vS,vL] (.mk op k n name S L)
theorem HNames.keep {ok:Nat→Prop} {w w':World} {v:Value} {l:List ByteArray} (h:HNames ok w v l) (hs:w.heap.size≤w'.heap.size) (hk:∀ i,ok i→i<w.heap.size→w'.heap[i]?=w.heap[i]?):HNames ok w' v l:=by
 obtain ⟨C,h1,h2⟩:=h;exact ⟨C,h1.keep hs hk,h2⟩
theorem HTerms.keep {ok:Nat→Prop} {w w':World} {v:Value} {l:List Tm} (h:HTerms ok w v l) (hs:w.heap.size≤w'.heap.size) (hk:∀ i,ok i→i<w.heap.size→w'.heap[i]?=w.heap[i]?):HTerms ok w' v l:=by
 obtain ⟨C,h1,h2⟩:=h;exact ⟨C,h1.keep hs hk,h2⟩
theorem HSizes.keep {ok:Nat→Prop} {w w':World} {v:Value} {l:List (List Tm)} (h:HSizes ok w v l) (hs:w.heap.size≤w'.heap.size) (hk:∀ i,ok i→i<w.heap.size→w'.heap[i]?=w.heap[i]?):HSizes ok w' v l:=by
 obtain ⟨C,h1,h2⟩:=h;refine ⟨C,h1.keep hs hk,fun i hi=>?_⟩;obtain ⟨u,e,ht⟩:=h2 i hi;exact ⟨u,e,ht.keep hs hk⟩
theorem HEx.keep {ok:Nat→Prop} {w w':World} {cs:List Value} {e:Ex} (h:HEx ok w cs e) (hs:w.heap.size≤w'.heap.size) (hk:∀ i,ok i→i<w.heap.size→w'.heap[i]?=w.heap[i]?):HEx ok w' cs e:=by
 induction h with
 | mk C hS hL hE ih=>exact .mk C (hS.keep hs hk) (hL.keep hs hk) ih
theorem HTerms.wide {ok ok':Nat→Prop} {w:World} {v:Value} {l:List Tm} (h:HTerms ok w v l) (hk:∀ i,ok i→i<w.heap.size→ok' i):HTerms ok' w v l:=by
 obtain ⟨C,h1,h2⟩:=h;exact ⟨C,h1.wide hk,h2⟩
theorem HSizes.wide {ok ok':Nat→Prop} {w:World} {v:Value} {l:List (List Tm)} (h:HSizes ok w v l) (hk:∀ i,ok i→i<w.heap.size→ok' i):HSizes ok' w v l:=by
 obtain ⟨C,h1,h2⟩:=h;refine ⟨C,h1.wide hk,fun i hi=>?_⟩;obtain ⟨u,e,ht⟩:=h2 i hi;exact ⟨u,e,ht.wide hk⟩
theorem HEx.wide {ok ok':Nat→Prop} {w:World} {cs:List Value} {e:Ex} (h:HEx ok w cs e) (hk:∀ i,ok i→i<w.heap.size→ok' i):HEx ok' w cs e:=by
 induction h with
 | mk C hS hL hE ih=>exact .mk C (hS.wide hk) (hL.wide hk) ih
theorem HEx.aside {S:List Nat} {w w':World} {cs:List Value} {e:Ex} (h:HEx (· ∉ S) w cs e) (a:Aside S w.heap.size w w'):HEx (· ∉ S) w' cs e:=h.keep a.size fun i hi hl=>a.block i hl hi
theorem HEx.under {ok:Nat→Prop} {w w':World} {cs:List Value} {e:Ex} (h:HEx ok w cs e) (a:Below w.heap.size w w'):HEx ok w' cs e:=h.keep a.size fun i _ hl=>a.block i hl
theorem HEx.past {ok:Nat→Prop} {S:List Nat} {w w':World} {cs:List Value} {e:Ex} (h:HEx ok w cs e) (a:Aside S w.heap.size w w') (hS:∀ i,ok i→i ∉ S):HEx ok w' cs e:=h.keep a.size fun i hi hl=>a.block i hl (hS i hi)
theorem HEx.set {ok:Nat→Prop} {w:World} {cs:List Value} {e:Ex} (h:HEx ok w cs e) {p:Addr} (hp:¬ok p.block) (u:Value):HEx ok (w.setCell p u) cs e :=
 h.keep (by simp [World.setCell]) fun i hi hl=>Below.heap_setCell _ _ _ _ (fun e=>hp (e ▸ hi))
theorem HEx.leaf {ok:Nat→Prop} {w:World} (op k n:Int) (name:ByteArray):HEx ok w [.int .i64 op,.int .i64 k,.int .i64 n,.string name,.slice none 0 0,.slice none 0 0] (.mk op k n name [] []) :=
 .mk (fun _=>[]) ⟨fun _=>[],Sl.nil,fun i h=>absurd h (Nat.not_lt_zero _)⟩ Sl.nil (fun i h=>absurd h (Nat.not_lt_zero _))
structure ExV where
 op:Int
 k:Int
 n:Int
 name:ByteArray
 aS:Option Addr
 nS:Nat
 cS:Nat
 aL:Option Addr
 nL:Nat
 cL:Nat
def ExV.cells (x:ExV):List Value:=[.int .i64 x.op,.int .i64 x.k,.int .i64 x.n,.string x.name,.slice x.aS x.nS x.cS,.slice x.aL x.nL x.cL]
abbrev exC (y:ExV):Array Value:=#[.int .i64 y.op,.int .i64 y.k,.int .i64 y.n,.string y.name,.slice y.aS y.nS y.cS,.slice y.aL y.nL y.cL]
theorem HEx.toV {ok:Nat→Prop} {w:World} {cs:List Value} {e:Ex} (h:HEx ok w cs e):∃ x:ExV,cs=x.cells∧HEx ok w x.cells e:=by
 have h0:=h
 cases h with
 | @mk op k n name S L vS vL C hS hL hE=>
  obtain ⟨CS,⟨aS,cS,rfl,_⟩,_⟩:=hS;obtain ⟨aL,cL,rfl,_⟩:=hL;exact ⟨⟨op,k,n,name,aS,S.length,cS,aL,L.length,cL⟩,rfl,h0⟩
theorem HEx.pair {ok:Nat→Prop} {w:World} {x y:ExV} {a c:Ex} (k:Int) (hx:HEx ok w x.cells a) (hy:HEx ok w y.cells c) (t:TypeId) (hok:ok w.heap.size) :
  HEx ok (w.alloc (.cells #[.int .i64 x.op,.int .i64 x.k,.int .i64 x.n,.string x.name,.slice x.aS x.nS x.cS,.slice x.aL x.nL x.cL,.int .i64 y.op,.int .i64 y.k,.int .i64 y.n,.string y.name,.slice y.aS y.nS y.cS,.slice y.aL y.nL y.cL] t (0,0)))
   [.int .i64 5,.int .i64 k,.int .i64 0,.string ⟨#[]⟩,.slice none 0 0,.slice (some ⟨w.heap.size,0,none⟩) 2 2] (.mk 5 k 0 ⟨#[]⟩ [] [a,c]):=by
 have hn:=heap_new w (.cells #[.int .i64 x.op,.int .i64 x.k,.int .i64 x.n,.string x.name,.slice x.aS x.nS x.cS,.slice x.aL x.nL x.cL,.int .i64 y.op,.int .i64 y.k,.int .i64 y.n,.string y.name,.slice y.aS y.nS y.cS,.slice y.aL y.nL y.cL] t (0,0));have hb:=((Below.refl w.heap.size w).alloc nR (.cells #[.int .i64 x.op,.int .i64 x.k,.int .i64 x.n,.string x.name,.slice x.aS x.nS x.cS,.slice x.aL x.nL x.cL,.int .i64 y.op,.int .i64 y.k,.int .i64 y.n,.string y.name,.slice y.aS y.nS y.cS,.slice y.aL y.nL y.cL] t (0,0)));refine .mk (fun i=>if i=0 then x.cells else y.cells) ⟨fun _=>[],Sl.nil,fun i h=>absurd h (Nat.not_lt_zero _)⟩ ⟨_,2,rfl,Nat.le_refl _,by decide,fun _=>⟨_,0,rfl,hok,lt_of hn,fun i hi=>?_⟩⟩ (fun i hi=>?_)
 ·match i,hi with
  | 0,_=>exact ⟨rfl,fun j hj=>by rw [co hn];match j,hj with | 0,_=>rfl | 1,_=>rfl | 2,_=>rfl | 3,_=>rfl | 4,_=>rfl | 5,_=>rfl⟩
  | 1,_=>exact ⟨rfl,fun j hj=>by rw [co hn];match j,hj with | 0,_=>rfl | 1,_=>rfl | 2,_=>rfl | 3,_=>rfl | 4,_=>rfl | 5,_=>rfl⟩
 ·match i,hi with
  | 0,_=>exact hx.under hb
  | 1,_=>exact hy.under hb
def eqL {α:Type} (f:α→α→Bool):List α→List α→Bool
 | [],[]=>true
 | a :: l,b :: r=>f a b&&eqL f l r
 | _,_=>false
theorem eqL_len {α:Type} {f:α→α→Bool}:∀ {l r:List α},l.length≠r.length→eqL f l r=false
 | [],[],h=>by simp at h
 | [],_ :: _,_=>rfl
 | _ :: _,[],_=>rfl
 | a :: l,b :: r,h=>by
  have:eqL f l r=false:=eqL_len (by simpa using h);simp [eqL,this]
theorem eqL_all {α:Type} {f:α→α→Bool}:∀ {l r:List α},l.length=r.length→(∀ i (h:i<l.length) (h':i<r.length),f l[i] r[i]=true)→eqL f l r=true
 | [],[],_,_=>rfl
 | [],_ :: _,h,_=>by simp at h
 | _ :: _,[],h,_=>by simp at h
 | a :: l,b :: r,h,hf=>by
  have h1:=hf 0 (by simp) (by simp);have h2:eqL f l r=true:=eqL_all (by simpa using h) (fun i hi hi'=>hf (i+1) (by simpa using hi) (by simpa using hi'));simp at h1;simp [eqL,h1,h2]
theorem eqL_bad {α:Type} {f:α→α→Bool}:∀ {l r:List α} (i:Nat) (h:i<l.length) (h':i<r.length),f l[i] r[i]=false→eqL f l r=false
 | [],_,i,h,_,_=>by simp at h
 | _ :: _,[],i,_,h',_=>by simp at h'
 | a :: l,b :: r,0,_,_,hf=>by simp at hf;simp [eqL,hf]
 | a :: l,b :: r,i+1,h,h',hf=>by
  have:eqL f l r=false:=eqL_bad i (by simpa using h) (by simpa using h') (by simpa using hf);simp [eqL,this]
def seq (a b:ByteArray):Bool:=a.toList==b.toList
def teq (a b:Tm):Bool:=a.1==b.1&&seq a.2 b.2
theorem HNames.at {ok:Nat→Prop} {w:World} {v:Value} {l:List ByteArray} (h:HNames ok w v l) :
  ∃ ao cap,v=.slice ao l.length cap∧l.length≤cap∧cap≤maxLen∧∀ i (h:i<l.length),∃ b o,ao=some ⟨b,o,none⟩∧b<w.heap.size∧w.cell? ⟨b,o+i,none⟩=some (.string l[i]):=by
 obtain ⟨C,⟨ao,cap,hv,h1,h2,h3⟩,hC⟩:=h;refine ⟨ao,cap,hv,h1,h2,fun i hi=>?_⟩;obtain ⟨b,o,ha,hob,hb,hc⟩:=h3 (by omega);have:=(hc i hi).2 0 (by decide);rw [hC i hi] at this;exact ⟨b,o,ha,hb,by simpa using this⟩
theorem HTerms.at {ok:Nat→Prop} {w:World} {v:Value} {l:List Tm} (h:HTerms ok w v l) :
  ∃ ao cap,v=.slice ao l.length cap∧l.length≤cap∧cap≤maxLen∧∀ i (h:i<l.length),∃ b o,ao=some ⟨b,o,none⟩∧b<w.heap.size∧w.cell? ⟨b,o+i*2,none⟩=some (.int .i64 (l[i]).1)∧w.cell? ⟨b,o+i*2+1,none⟩=some (.string (l[i]).2):=by
 obtain ⟨C,⟨ao,cap,hv,h1,h2,h3⟩,hC⟩:=h;refine ⟨ao,cap,hv,h1,h2,fun i hi=>?_⟩;obtain ⟨b,o,ha,hob,hb,hc⟩:=h3 (by omega);have t0:=(hc i hi).2 0 (by decide);have t1:=(hc i hi).2 1 (by decide);rw [hC i hi] at t0 t1;exact ⟨b,o,ha,hb,by simpa using t0,by simpa using t1⟩
theorem neqTerm (x1 y1:Int) (x2 y2:ByteArray) (w:World):(binOp .neq 83 (.agg #[.int .i64 x1,.string x2]) (.agg #[.int .i64 y1,.string y2])).run Tryz.prog w=.ok (.bool (!(teq (x1,x2) (y1,y2)))) w:=by
 simp [go_sem,teq,seq];by_cases h1:x1=y1<;>by_cases h2:x2.toList=y2.toList<;>simp [h1,h2]
theorem sameNames_any {ok ok':Nat→Prop} {w:World} {v u:Value} {l r:List ByteArray} (hl:HNames ok w v l) (hr:HNames ok' w u r) :
  Calls Tryz.prog 39 #[v,u] w fun e w'=>e=.returned (.bool (eqL seq l r))∧Below w.heap.size w w':=by
 obtain ⟨ao,cap,rfl,hc1,hc2,hat⟩:=hl.at;obtain ⟨ao',cap',rfl,hd1,hd2,hat'⟩:=hr.at;unfold maxLen at hc2 hd2;obtain ⟨R,hR⟩:=nmQ (eqL seq l r);rw [←hR];have HR:=hide hR;clear hR hl hr;obtain ⟨n,hn⟩:=nmQ (l.length);obtain ⟨m,hm⟩:=nmQ (r.length);rw [←hn] at hc1 ⊢;rw [←hm] at hd1 ⊢;have HN:=hide hn;have HM:=hide hm;by_cases hlen:n=m
 ·subst hlen
  have hq:((n:Int) != (n:Int))=false:=(by simp);clear hn hm;go_enter Tryz.func39,Tryz.ntmps39;go_wp2;go_loopg [5] n (fun k v wr=>∃ i,i≤n∧k=n-i∧v=.int .i64 (i:Nat)∧Hid (∀ j (h:j<l.length) (h':j<r.length),j<i→seq l[j] r[j]=true)∧Below w.heap.size w wr)
  case atStart=>exact ⟨0,Nat.zero_le _,rfl,rfl,fun j _ _ h=>absurd h (Nat.not_lt_zero _),Below.refl _ _⟩
  case round=>
   obtain ⟨i,hi,rfl,rfl,H,hbr⟩:=hrel;by_cases hlt:i<n
   ·have hltr:=hlt
    obtain ⟨b,o,rfl,hb,hc⟩:=hat i (by have:=HN.out;omega);obtain ⟨b',o',rfl,hb',hc'⟩:=hat' i (by have:=HM.out;omega);have e1:=(hbr.cell (p:=⟨b,o+i,none⟩) hb).trans hc;have e2:=(hbr.cell (p:=⟨b',o'+i,none⟩) hb').trans hc';have hil:i<l.length:=(by have:=HN.out;omega);have hir:i<r.length:=(by have:=HM.out;omega);obtain ⟨x,hx⟩:=nmQ (l[i]);obtain ⟨y,hy⟩:=nmQ (r[i]);rw [←hx] at e1;rw [←hy] at e2;have HX:=hide hx;have HY:=hide hy;clear hat hat' hc hc' hx hy
    cases hxy:seq x y
    ·
     have hne:(x.toList==y.toList)=false:=(by unfold seq at hxy;exact hxy);go_wp2
     go_region
     go_wp2;go_ret;refine ⟨ret_bool ?_,hbr.drew⟩;rw [HR.out];exact (eqL_bad i (by rw [←HN.out];exact hlt) (by rw [←HM.out];exact hlt) (by rw [←HX.out,←HY.out];exact hxy)).symm
    ·
     have hne:(x.toList==y.toList)=true:=(by unfold seq at hxy;exact hxy);go_wp2
     go_region
     go_wp2;go_roundg (n-(i+1))
     case measure=>omega
     case rel=>
      refine ⟨i+1,by omega,rfl,by go_num,fun j hj hj' hji=>?_,hbr.drew⟩;by_cases e:j=i
      ·subst e
       rw [←HX.out,←HY.out];exact hxy
      ·exact H.out j hj hj' (by omega)
   ·have hie:i=n:=by omega
    subst hie;clear hat hat';go_wp2;go_ret;refine ⟨ret_bool ?_,hbr⟩;rw [HR.out];exact (eqL_all (by rw [←HN.out,←HM.out]) (fun j hj hj'=>H.out j hj hj' (by rw [HN.out];exact hj))).symm
 ·have hq:((n:Int) != (m:Int))=true:=by simp;omega
  clear hat hat' hn hm;go_enter Tryz.func39,Tryz.ntmps39;go_wp2;go_ret;refine ⟨ret_bool ?_,Below.refl _ _⟩;rw [HR.out];exact (eqL_len (by rw [←HN.out,←HM.out];exact hlen)).symm
theorem equalTerm_any {ok ok':Nat→Prop} {w:World} {v u:Value} {l r:List Tm} (hl:HTerms ok w v l) (hr:HTerms ok' w u r) :
  Calls Tryz.prog 63 #[v,u] w fun e w'=>e=.returned (.bool (eqL teq l r))∧Below w.heap.size w w':=by
 obtain ⟨ao,cap,rfl,hc1,hc2,hat⟩:=hl.at;obtain ⟨ao',cap',rfl,hd1,hd2,hat'⟩:=hr.at;unfold maxLen at hc2 hd2;obtain ⟨R,hR⟩:=nmQ (eqL teq l r);rw [←hR];have HR:=hide hR;clear hR hl hr;obtain ⟨n,hn⟩:=nmQ (l.length);obtain ⟨m,hm⟩:=nmQ (r.length);rw [←hn] at hc1 ⊢;rw [←hm] at hd1 ⊢;have HN:=hide hn;have HM:=hide hm;by_cases hlen:n=m
 ·subst hlen
  have hq:((n:Int) != (n:Int))=false:=(by simp);clear hn hm;go_enter Tryz.func63,Tryz.ntmps63;go_wp2;go_loopg [13] n (fun k v wr=>∃ i,i≤n∧k=n-i∧v=.int .i64 (i:Nat)∧Hid (∀ j (h:j<l.length) (h':j<r.length),j<i→teq l[j] r[j]=true)∧Below w.heap.size w wr)
  case atStart=>exact ⟨0,Nat.zero_le _,rfl,rfl,fun j _ _ h=>absurd h (Nat.not_lt_zero _),Below.refl _ _⟩
  case round=>
   obtain ⟨i,hi,rfl,rfl,H,hbr⟩:=hrel;by_cases hlt:i<n
   ·have hltr:=hlt
    obtain ⟨b,o,rfl,hb,hc,hd⟩:=hat i (by have:=HN.out;omega);obtain ⟨b',o',rfl,hb',hc',hd'⟩:=hat' i (by have:=HM.out;omega);have e1:=(hbr.cell (p:=⟨b,o+i*2,none⟩) hb).trans hc;have e2:=(hbr.cell (p:=⟨b',o'+i*2,none⟩) hb').trans hc';have e3:=(hbr.cell (p:=⟨b,o+i*2+1,none⟩) hb).trans hd;have e4:=(hbr.cell (p:=⟨b',o'+i*2+1,none⟩) hb').trans hd';have hil:i<l.length:=(by have:=HN.out;omega);have hir:i<r.length:=(by have:=HM.out;omega);obtain ⟨x,hx⟩:=nmQ (l[i]);obtain ⟨y,hy⟩:=nmQ (r[i]);rw [←hx] at e1 e3;rw [←hy] at e2 e4;have HX:=hide hx;have HY:=hide hy;clear hat hat' hc hc' hd hd' hx hy;obtain ⟨x1,x2⟩:=x;obtain ⟨y1,y2⟩:=y
    cases hxy:teq (x1,x2) (y1,y2)
    ·
     have hne:=fun w=>neqTerm x1 y1 x2 y2 w;rw [hxy] at hne;go_wp2
     go_region
     go_wp2;go_ret;refine ⟨ret_bool ?_,hbr.drew⟩;rw [HR.out];exact (eqL_bad i (by rw [←HN.out];exact hlt) (by rw [←HM.out];exact hlt) (by rw [←HX.out,←HY.out];exact hxy)).symm
    ·
     have hne:=fun w=>neqTerm x1 y1 x2 y2 w;rw [hxy] at hne;go_wp2
     go_region
     go_wp2;go_roundg (n-(i+1))
     case measure=>omega
     case rel=>
      refine ⟨i+1,by omega,rfl,by go_num,fun j hj hj' hji=>?_,hbr.drew⟩;by_cases e:j=i
      ·subst e
       rw [←HX.out,←HY.out];exact hxy
      ·exact H.out j hj hj' (by omega)
   ·have hie:i=n:=by omega
    subst hie;clear hat hat';go_wp2;go_ret;refine ⟨ret_bool ?_,hbr⟩;rw [HR.out];exact (eqL_all (by rw [←HN.out,←HM.out]) (fun j hj hj'=>H.out j hj hj' (by rw [HN.out];exact hj))).symm
 ·have hq:((n:Int) != (m:Int))=true:=by simp;omega
  clear hat hat' hn hm;go_enter Tryz.func63,Tryz.ntmps63;go_wp2;go_ret;refine ⟨ret_bool ?_,Below.refl _ _⟩;rw [HR.out];exact (eqL_len (by rw [←HN.out,←HM.out];exact hlen)).symm
theorem sameTerms_any {ok ok':Nat→Prop} {w:World} {v u:Value} {l r:List Tm} (hl:HTerms ok w v l) (hr:HTerms ok' w u r) :
  Calls Tryz.prog 61 #[v,u] w fun e w'=>e=.returned (.bool (eqL teq l r))∧Below w.heap.size w w':=by
 obtain ⟨ao,cap,rfl,hc1,hc2,hat⟩:=hl.at;obtain ⟨ao',cap',rfl,hd1,hd2,hat'⟩:=hr.at;unfold maxLen at hc2 hd2;obtain ⟨R,hR⟩:=nmQ (eqL teq l r);rw [←hR];have HR:=hide hR;clear hR hl hr;obtain ⟨n,hn⟩:=nmQ (l.length);obtain ⟨m,hm⟩:=nmQ (r.length);rw [←hn] at hc1 ⊢;rw [←hm] at hd1 ⊢;have HN:=hide hn;have HM:=hide hm;by_cases hlen:n=m
 ·subst hlen
  have hq:((n:Int) != (n:Int))=false:=(by simp);clear hn hm;go_enter Tryz.func61,Tryz.ntmps61;go_wp2;go_loopg [5] n (fun k v wr=>∃ i,i≤n∧k=n-i∧v=.int .i64 (i:Nat)∧Hid (∀ j (h:j<l.length) (h':j<r.length),j<i→teq l[j] r[j]=true)∧Below w.heap.size w wr)
  case atStart=>exact ⟨0,Nat.zero_le _,rfl,rfl,fun j _ _ h=>absurd h (Nat.not_lt_zero _),Below.refl _ _⟩
  case round=>
   obtain ⟨i,hi,rfl,rfl,H,hbr⟩:=hrel;by_cases hlt:i<n
   ·have hltr:=hlt
    obtain ⟨b,o,rfl,hb,hc,hd⟩:=hat i (by have:=HN.out;omega);obtain ⟨b',o',rfl,hb',hc',hd'⟩:=hat' i (by have:=HM.out;omega);have e1:=(hbr.cell (p:=⟨b,o+i*2,none⟩) hb).trans hc;have e2:=(hbr.cell (p:=⟨b',o'+i*2,none⟩) hb').trans hc';have e3:=(hbr.cell (p:=⟨b,o+i*2+1,none⟩) hb).trans hd;have e4:=(hbr.cell (p:=⟨b',o'+i*2+1,none⟩) hb').trans hd';have hil:i<l.length:=(by have:=HN.out;omega);have hir:i<r.length:=(by have:=HM.out;omega);obtain ⟨x,hx⟩:=nmQ (l[i]);obtain ⟨y,hy⟩:=nmQ (r[i]);rw [←hx] at e1 e3;rw [←hy] at e2 e4;have HX:=hide hx;have HY:=hide hy;clear hat hat' hc hc' hd hd' hx hy;obtain ⟨x1,x2⟩:=x;obtain ⟨y1,y2⟩:=y
    cases hxy:teq (x1,x2) (y1,y2)
    ·
     have hne:=fun w=>neqTerm x1 y1 x2 y2 w;rw [hxy] at hne;go_wp2
     go_region
     go_wp2;go_ret;refine ⟨ret_bool ?_,hbr.drew⟩;rw [HR.out];exact (eqL_bad i (by rw [←HN.out];exact hlt) (by rw [←HM.out];exact hlt) (by rw [←HX.out,←HY.out];exact hxy)).symm
    ·
     have hne:=fun w=>neqTerm x1 y1 x2 y2 w;rw [hxy] at hne;go_wp2
     go_region
     go_wp2;go_roundg (n-(i+1))
     case measure=>omega
     case rel=>
      refine ⟨i+1,by omega,rfl,by go_num,fun j hj hj' hji=>?_,hbr.drew⟩;by_cases e:j=i
      ·subst e
       rw [←HX.out,←HY.out];exact hxy
      ·exact H.out j hj hj' (by omega)
   ·have hie:i=n:=by omega
    subst hie;clear hat hat';go_wp2;go_ret;refine ⟨ret_bool ?_,hbr⟩;rw [HR.out];exact (eqL_all (by rw [←HN.out,←HM.out]) (fun j hj hj'=>H.out j hj hj' (by rw [HN.out];exact hj))).symm
 ·have hq:((n:Int) != (m:Int))=true:=by simp;omega
  clear hat hat' hn hm;go_enter Tryz.func61,Tryz.ntmps61;go_wp2;go_ret;refine ⟨ret_bool ?_,Below.refl _ _⟩;rw [HR.out];exact (eqL_len (by rw [←HN.out,←HM.out];exact hlen)).symm
end Go.Proofs.YtkfgbhlpjkkgfaaGreatDoor
