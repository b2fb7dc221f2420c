import Derived.Test.YtegakbobaecdlaaGreatDoorRows
import Derived.WalkKit
import Derived.WalkSpells
import Derived.Lib.Strings
import Derived.Lib.Walk
import Derived.Lib.Slices
import Derived.Lib.Bytealg
import Derived.Lib.BufferWrite
import Derived.Lib.UnsafeStr
import Derived.Lib.Hide
import Derived.Laws.MakeOwn
import Derived.RegionTactic
import Derived.Deep.QuietTactic
import Derived.BigQuiet
import Derived.WalkSmall
set_option linter.unusedVariables false
set_option linter.unusedSimpArgs false
set_option maxHeartbeats 64000000
set_option maxRecDepth 100000
namespace Go.Proofs.YtegakbobaecdlaaGreatDoor
theorem nmQ {α:Sort _} (e:α):∃ x,x=e:=⟨e,rfl⟩
theorem zM {n:Nat}:n<=n:=Nat.le_refl n
theorem gT {α:Type _} {l:List α} {i:Nat}:l.toArray[i]?=l[i]?:=List.getElem?_toArray
theorem gZ {α:Type _} {a:α} {l:List α}:(a :: l)[0]?=some a:=List.getElem?_cons_zero
theorem gS {α:Type _} {a:α} {l:List α} {i:Nat}:(a :: l)[i+1]?=l[i]?:=List.getElem?_cons_succ
theorem sT {α:Type _} {l:List α} {i:Nat} {a:α}:l.toArray.setIfInBounds i a=(l.set i a).toArray:=List.setIfInBounds_toArray ..
theorem sZ {α:Type _} {x:α} {l:List α} {a:α}:(x :: l).set 0 a=a :: l:=List.set_cons_zero ..
theorem sS {α:Type _} {x:α} {l:List α} {n:Nat} {a:α}:(x :: l).set (n+1) a=x :: l.set n a:=List.set_cons_succ ..
end Go.Proofs.YtegakbobaecdlaaGreatDoor
namespace Go.Proofs.YtegakbobaecdlaaGreatDoor.Tk
structure Tok where
 kind:Int
 place:Nat
 text:List UInt8
 n:Int
end Go.Proofs.YtegakbobaecdlaaGreatDoor.Tk
namespace Go.Proofs.YtegakbobaecdlaaGreatDoor
open Go.RowKit
theorem zE {p:Prop} (h:p):Hid p:=h
theorem zAc {a b:Bool} (h:a=b):Ending.returned (.bool a)=.returned (.bool b):=by rw [h]
end Go.Proofs.YtegakbobaecdlaaGreatDoor
namespace Go.Proofs.YtegakbobaecdlaaGreatDoor
open Go.RowKit Go.IntWalk
def str (l:List UInt8):ByteArray:=⟨l.toArray⟩
def HoldsToks (w:World) (g:Nat) (L:List Tk.Tok):Prop :=
 ∀ i (hi:i<L.length),w.cell? ⟨g,i*4,none⟩=some (.int .i64 (L[i]).kind)/\w.cell? ⟨g,i*4+1,none⟩=some (.int .i64 ((L[i]).place:Int)) /\
  w.cell? ⟨g,i*4+2,none⟩=some (.string (str (L[i]).text))/\w.cell? ⟨g,i*4+3,none⟩=some (.int .i64 (L[i]).n)
structure Aside (S:List Nat) (B:Nat) (w w':World):Prop where
 os:w'.os=w.os
 tape:w'.tape=w.tape
 output:w'.output=w.output
 size:w.heap.size<=w'.heap.size
 block:∀ k,k<B->k ∉ S->w'.heap[k]?=w.heap[k]?
theorem zI (w:World) (o:Obj):(w.alloc o).heap[w.heap.size]?=some o:=by
 show (w.heap.push o)[w.heap.size]?=_
 simp
theorem aside {S:List Nat} {B:Nat} {w w':World} (h:Below B w w'):Aside S B w w':=⟨h.os,h.tape,h.output,h.size,fun k hk _=>h.block k hk⟩
theorem Aside.refl {S:List Nat} {B:Nat} (w:World):Aside S B w w:=⟨rfl,rfl,rfl,Nat.le_refl _,fun _ _ _=>rfl⟩
theorem Aside.trans {S:List Nat} {B B':Nat} {a b c:World} (h:Aside S B a b) (k:Aside S B' b c) (hB:B<=B'):Aside S B a c :=
 ⟨k.os.trans h.os,k.tape.trans h.tape,k.output.trans h.output,Nat.le_trans h.size k.size,fun i hi hs=>(k.block i (Nat.lt_of_lt_of_le hi hB) hs).trans (h.block i hi hs)⟩
theorem Aside.wide {S S':List Nat} {B:Nat} {w w':World} (h:Aside S B w w') (hs:∀ k,k<B->k ∉ S'->k ∉ S):Aside S' B w w':=⟨h.os,h.tape,h.output,h.size,fun k hk hn=>h.block k hk (hs k hk hn)⟩
theorem Aside.below {S:List Nat} {B:Nat} {w w':World} (h:Aside S B w w') (hs:∀ k,k ∈ S->B<=k):Below B w w' :=
 ⟨h.os,h.tape,h.output,h.size,fun k hk=>h.block k hk fun hm=>absurd (hs k hm) (by omega)⟩
theorem HoldsToks.keep {w w':World} {g:Nat} {L:List Tk.Tok} (h:HoldsToks w g L) (hg:w'.heap[g]?=w.heap[g]?):HoldsToks w' g L:=by
 intro i hi;have hc:∀ o,w'.cell? ⟨g,o,none⟩=w.cell? ⟨g,o,none⟩:=fun o=>World.cell?_of_block (w:=w) hg;rw [hc,hc,hc,hc];exact h i hi
theorem Aside.setCell {S:List Nat} {B:Nat} {w:World} {p:Addr} (hp:p.block ∈ S) (u:Value):Aside S B w (w.setCell p u) :=
 ⟨rfl,rfl,rfl,by simp [World.setCell],fun k _ hs=>Below.heap_setCell _ _ _ _ (fun e=>hs (e ▸ hp))⟩
theorem nw2 (w:World) (A B:Obj):Below w.heap.size w ((w.alloc A).alloc B)/\((w.alloc A).alloc B).heap[w.heap.size]?=some A/\((w.alloc A).alloc B).heap[w.heap.size+1]?=some B:=⟨((Below.refl _ _).alloc (Nat.le_refl _) _).alloc (by simp) _,(Below.heap_alloc _ _ _ (by simp)).trans (zI w _),(by have:=zI (w.alloc A) B;simpa using this)⟩
end Go.Proofs.YtegakbobaecdlaaGreatDoor
namespace Go.Proofs.YtegakbobaecdlaaGreatDoor
open Go.RowKit Go.IntWalk
theorem Aside.alloc {S:List Nat} {B:Nat} {w w':World} (h:Aside S B w w') (hB:B<=w'.heap.size) (o:Obj):Aside S B w (w'.alloc o) :=
 h.trans (aside ((Below.refl B w').alloc hB o)) zM
theorem Aside.set {S:List Nat} {B:Nat} {w w':World} (h:Aside S B w w') {p:Addr} (hp:B<=p.block) (u:Value):Aside S B w (w'.setCell p u) :=
 h.trans (aside ((Below.refl B w').setCell hp u)) zM
theorem Aside.drew {S:List Nat} {B:Nat} {w w':World} (h:Aside S B w w'):Aside S B w w'.drew:=⟨h.os,h.tape,h.output,h.size,h.block⟩
theorem Aside.mono {S:List Nat} {B B':Nat} {w w':World} (h:Aside S B w w') (hB:B'<=B):Aside S B' w w':=⟨h.os,h.tape,h.output,h.size,fun k hk=>h.block k (Nat.lt_of_lt_of_le hk hB)⟩
section
variable {w:World} {b g cap:Nat} {L:List Tk.Tok} {len nx op:Nat}
end
theorem coQ {w:World} {k:Nat} {cs:Array Value} {t:TypeId} (h:w.heap[k]?=some (.cells cs t (0,0))) (o:Nat):w.cell? ⟨k,o,none⟩=cs[o]?:=by simp [World.cell?,h]
theorem newB {w v:World} {o:Obj} (h:w=v.alloc o):Below v.heap.size v w:=by rw [h];exact (Below.refl _ _).alloc zM _
theorem newK {w v:World} {o:Obj} (h:w=v.alloc o):w.heap[v.heap.size]?=some o:=by rw [h];exact zI _ _
theorem newZ {w v:World} {o:Obj} (h:w=v.alloc o):w.heap.size=v.heap.size+1:=by rw [h];simp
abbrev Zb:Obj:=.cells #[.int .i64 0,.int .i64 0,.int .i64 0,.string ⟨#[]⟩,.slice none 0 0,.slice none 0 0] 45 (0,0)
theorem cells2 {w:World} {k:Nat} {v0 v1:Value} {t:TypeId} (h:w.heap[k]?=some (.cells #[v0,v1] t (0,0))):w.cell? ⟨k,0,none⟩=some v0/\w.cell? ⟨k,1,none⟩=some v1:=
  ⟨(coQ h 0).trans rfl,(coQ h 1).trans rfl⟩
theorem cells3 {w:World} {k:Nat} {v0 v1 v2:Value} {t:TypeId} (h:w.heap[k]?=some (.cells #[v0,v1,v2] t (0,0))):w.cell? ⟨k,0,none⟩=some v0/\w.cell? ⟨k,1,none⟩=some v1/\w.cell? ⟨k,2,none⟩=some v2:=
  ⟨(coQ h 0).trans rfl,(coQ h 1).trans rfl,(coQ h 2).trans rfl⟩
theorem cells4 {w:World} {k:Nat} {v0 v1 v2 v3:Value} {t:TypeId} (h:w.heap[k]?=some (.cells #[v0,v1,v2,v3] t (0,0))):w.cell? ⟨k,0,none⟩=some v0/\w.cell? ⟨k,1,none⟩=some v1/\w.cell? ⟨k,2,none⟩=some v2/\w.cell? ⟨k,3,none⟩=some v3:=
  ⟨(coQ h 0).trans rfl,(coQ h 1).trans rfl,(coQ h 2).trans rfl,(coQ h 3).trans rfl⟩
theorem cells5 {w:World} {k:Nat} {v0 v1 v2 v3 v4:Value} {t:TypeId} (h:w.heap[k]?=some (.cells #[v0,v1,v2,v3,v4] t (0,0))):w.cell? ⟨k,0,none⟩=some v0/\w.cell? ⟨k,1,none⟩=some v1/\w.cell? ⟨k,2,none⟩=some v2/\w.cell? ⟨k,3,none⟩=some v3/\w.cell? ⟨k,4,none⟩=some v4:=
  ⟨(coQ h 0).trans rfl,(coQ h 1).trans rfl,(coQ h 2).trans rfl,(coQ h 3).trans rfl,(coQ h 4).trans rfl⟩
theorem cells6 {w:World} {k:Nat} {v0 v1 v2 v3 v4 v5:Value} {t:TypeId} (h:w.heap[k]?=some (.cells #[v0,v1,v2,v3,v4,v5] t (0,0))):w.cell? ⟨k,0,none⟩=some v0/\w.cell? ⟨k,1,none⟩=some v1/\w.cell? ⟨k,2,none⟩=some v2/\w.cell? ⟨k,3,none⟩=some v3/\w.cell? ⟨k,4,none⟩=some v4/\w.cell? ⟨k,5,none⟩=some v5:=
  ⟨(coQ h 0).trans rfl,(coQ h 1).trans rfl,(coQ h 2).trans rfl,(coQ h 3).trans rfl,(coQ h 4).trans rfl,(coQ h 5).trans rfl⟩
theorem cells7 {w:World} {k:Nat} {v0 v1 v2 v3 v4 v5 v6:Value} {t:TypeId} (h:w.heap[k]?=some (.cells #[v0,v1,v2,v3,v4,v5,v6] t (0,0))):w.cell? ⟨k,0,none⟩=some v0/\w.cell? ⟨k,1,none⟩=some v1/\w.cell? ⟨k,2,none⟩=some v2/\w.cell? ⟨k,3,none⟩=some v3/\w.cell? ⟨k,4,none⟩=some v4/\w.cell? ⟨k,5,none⟩=some v5/\w.cell? ⟨k,6,none⟩=some v6:=
  ⟨(coQ h 0).trans rfl,(coQ h 1).trans rfl,(coQ h 2).trans rfl,(coQ h 3).trans rfl,(coQ h 4).trans rfl,(coQ h 5).trans rfl,(coQ h 6).trans rfl⟩
theorem foQ {w:World} {k:Nat} {cs:Array Value} {t:TypeId} (h:w.heap[k]?=some (.cells cs t (0,0))) (o:Nat):w.frozen? ⟨k,o,none⟩=false:=by simp [World.frozen?,h]
theorem zG {w:World} {k:Nat} {o:Obj} (h:w.heap[k]?=some o):k<w.heap.size:=(Array.getElem?_eq_some_iff.1 h).1
theorem Aside.keep {S:List Nat} {B:Nat} {w w':World} (a:Aside S B w w') {k:Nat} {x:Obj} (hx:w.heap[k]?=some x) (hk:k<B) (hs:k ∉ S):w'.heap[k]?=some x:=(a.block k hk hs).trans hx
theorem zP {w:World} {k:Nat} {x:Obj} (hx:w.heap[k]?=some x) {p:Addr} (hp:p.block≠k) (u:Value):(w.setCell p u).heap[k]?=some x:=(Below.heap_setCell _ _ _ _ (fun e=>hp e.symm)).trans hx
theorem zJ {w:World} {k:Nat} {cs:Array Value} {t:TypeId} (h:w.heap[k]?=some (.cells cs t (0,0))) (o:Nat) (u:Value):(w.setCell ⟨k,o,none⟩ u).heap[k]?=some (.cells (cs.setIfInBounds o u) t (0,0)):=by
 simp [World.setCell,Array.getElem?_modify,h]
theorem owns_pos {w:World} {base:Nat} {e:TypeId} {size:Nat} {v:Value} {n:Nat} {xs:List Value} (h:w.ownsRow base e size v n xs) (hn:0<n) :
  ∃ g cap,v=.slice (some ⟨g,0,none⟩) n cap/\base<=g/\g<w.heap.size/\n<=cap/\cap<=maxLen/\∀ j u,xs[j]?=some u->w.cell? ⟨g,j,none⟩=some u:=by
 have hcell:=@World.ownsRow.cells _ _ _ _ _ _ _ h;rcases h.2 with ⟨rfl,h0⟩ | ⟨g,cap,cur,rfl,hb,hg,hnc,hcm,hcs,htake⟩
 ·omega
 ·refine ⟨g,cap,rfl,hb,zG hg,hnc,hcm,fun j u hj=>?_⟩
  have hc:=@hcell g rfl j u hj;have adds:(⟨g,0,none⟩:Addr).add j=⟨g,j,none⟩:=by unfold Addr.add;split<;>simp_all
  rw [adds] at hc;exact hc
end Go.Proofs.YtegakbobaecdlaaGreatDoor
