import Derived.Deep.RegionHeld
import Derived.WalkKit
import Derived.Test.YtfhghlpfeeiaeaaGreatDoorRows
import Derived.WalkSpells
import Derived.Lib.Strings
import Derived.Lib.Walk
import Derived.Lib.Slices
import Derived.Lib.Bytealg
import Derived.Lib.BufferWrite
import Derived.Lib.UnsafeStr
import Derived.Lib.Hide
import Derived.Laws.MakeOwn
import Derived.RegionTactic
import Derived.Deep.QuietTactic
import Derived.BigQuiet
import Derived.WalkSmall
import Derived.Deep.LoopGhost
import Derived.Deep.RegionWith
set_option linter.unusedVariables false
set_option linter.unusedSimpArgs false
set_option maxHeartbeats 64000000
set_option maxRecDepth 100000
namespace Go.Proofs.YtfhghlpfeeiaeaaGreatDoor
open Go
section
variable {P:Program} {ops:Array Oper} {Q:Exit->Act->World->Prop} {md:Region.Mode} {S:World->Prop} {late:Nat->Bool}
def wpAnyL (P:Program) (md:Region.Mode) (ops:Array Oper) (Q:Exit->Act->World->Prop) (S:World->Prop) (late:Nat->Bool):Nat->Array Bool->Act->World->Prop
 | 0,listed,a,w=>Region.ready md ops listed=[]/\Q .normal a w
 | fuel+1,listed,a,w=>
  (Region.ready md ops listed=[]->Q .normal a w) /\
  ∀ i ∈ Region.ready md ops listed,wpOp P ops Q i (fun a' w'=>(late i=false->S w')/\wpAnyL P md ops Q S late fuel (listed.setIfInBounds i true) a' w') a w
theorem zCd:∀ (fuel:Nat) (listed:Array Bool) (a:Act) (w:World),wpAnyL P md ops Q S late fuel listed a w->wpAny P md ops Q fuel listed a w
 | 0,_,_,_,h=>h
 | fuel+1,_,_,_,h=>⟨h.1,fun i hi=>wpOp_mono (fun a' w' h'=>zCd fuel _ a' w' h'.2) (h.2 i hi)⟩
def waitFor (md:Region.Mode) (ops:Array Oper) (late:Nat->Bool) (listed:Array Bool) (i:Nat):Bool :=
 (List.range ops.size).all fun j => !late j || listed.getD j true || ((ops[j]?).map (·.after.any fun e=>Region.binds md e&&e.on==i)).getD true
theorem zCz {listed:Array Bool} {i:Nat} (h:waitFor md ops late listed i=true) (j:Nat) (oj:Oper) (hj:ops[j]?=some oj) (eM:listed.getD j true=false) (hl:late j=true) :
  ∃ e ∈ oj.after,Region.binds md e=true/\e.on=i:=by
 have bd:j<ops.size:=(Array.getElem?_eq_some_iff.1 hj).1;have h1:=List.all_eq_true.1 h j (List.mem_range.2 bd);rw [hj,hl,eM] at h1;simp only [Bool.not_true,Bool.or_false,Bool.false_or,Option.map_some,Option.getD_some] at h1;obtain ⟨e,he,h2⟩:=Array.any_eq_true'.1 h1;simp only [Bool.and_eq_true,beq_iff_eq] at h2;exact ⟨e,he,h2.1,h2.2⟩
theorem zDA {i:Nat} {oi:Oper} {v:Value} (hi:ops[i]?=some oi) (Cx:∀ (j:Nat) (o:Oper) cs b,ops[j]?=some o->o.op≠.select cs b)
  (hQ:∀ c a w,Q (.panic c) (a.put oi.dst v) w->Q (.panic c) a w) :
  ∀ (fuel:Nat) (listed:Array Bool) (a:Act) (w:World),
   (∀ j oj,ops[j]?=some oj->j≠i->listed.getD j true=false->(∀ e ∈ oj.after,Region.binds md e=true->e.on≠i)->oi.apart ops oj=true) ->
   (∀ j oj,ops[j]?=some oj->listed.getD j true=false->late j=true->∃ e ∈ oj.after,Region.binds md e=true/\e.on=i) ->
   i ∈ Region.ready md ops listed->YieldsIf P ops S oi v a->S w ->
   wpAnyL P md ops Q S late fuel (listed.setIfInBounds i true) (a.put oi.dst v) w->wpAnyL P md ops Q S late (fuel+1) listed a w:=by
 intro fuel
 induction fuel with
 | zero=>
  intro listed a w _ _ hr hy hS H;refine ⟨fun h=>(by rw [h] at hr;cases hr),fun j hj=>?_⟩;by_cases lG:j=i
  ·subst lG;exact hy.wpOp hi hS ⟨fun _=>hS,H⟩
  ·have:=ready_mono hj lG
   rw [H.1] at this
   cases this
 | succ fuel ih=>
  intro listed a w tY uE hr hy hS H;refine ⟨fun h=>(by rw [h] at hr;cases hr),fun j hj=>?_⟩;by_cases lG:j=i
  ·subst lG;exact hy.wpOp hi hS ⟨fun _=>hS,H⟩
  ·have h1:=H.2 j (ready_mono hj lG)
   obtain ⟨sG,oj,zg,eS⟩:=mem_ready.1 hj;have Ci:∀ e ∈ oj.after,Region.binds md e=true->e.on≠i:=fun e he hb heq=>by
    have h1:=eS e he hb;have h0:=(mem_ready.1 hr).1;rw [heq] at h1;rcases Nat.lt_or_ge i listed.size with h' | h'
    ·simp [h'] at h0 h1;rw [h0] at h1;cases h1
    ·simp [Array.getElem?_eq_none h'] at h1
   have wV:late j=false:=by
    cases hl:late j with
    | false=>rfl
    | true=>
     obtain ⟨e,he,hb,heq⟩:=uE j oj zg sG hl;exact absurd heq (Ci e he hb)
   have h2:=wpOp_putIf zg (tY j oj zg lG sG Ci) (fun cs b=>Cx i oi cs b hi) (fun cs b=>Cx j oj cs b zg) hQ hy h1;have wY:∀ k ok,ops[k]?=some ok->k≠i->(listed.setIfInBounds j true).getD k true=false ->
     (∀ e ∈ ok.after,Region.binds md e=true->e.on≠i)->oi.apart ops ok=true:=fun k ok hk OS eM sN=>by
    refine tY k ok hk OS ?_ sN;by_cases hjk:j=k
    ·subst hjk;exact sG
    ·rw [getD_set_ne true hjk] at eM;exact eM
   have xL:∀ k ok,ops[k]?=some ok->(listed.setIfInBounds j true).getD k true=false->late k=true->∃ e ∈ ok.after,Region.binds md e=true/\e.on=i:=fun k ok hk eM hl=>by
    refine uE k ok hk ?_ hl;by_cases hjk:j=k
    ·subst hjk;exact sG
    ·rw [getD_set_ne true hjk] at eM;exact eM
   refine wpOp_mono (fun a' w' h3=>⟨h3.2.1,ih (listed.setIfInBounds j true) a' w' wY xL (ready_mono hr (Ne.symm lG)) h3.1 (h3.2.1 wV) ?_⟩) h2;rw [Array.setIfInBounds_comm _ _ lG];exact h3.2.2
theorem zBS {i:Nat} {oi:Oper} {v:Value} {fuel:Nat} {listed:Array Bool} {a:Act} {w:World} (hi:ops[i]?=some oi)
  (hs:Region.noSelect ops=true) (hf:Region.free md ops listed i=true) (hr:(Region.ready md ops listed).contains i=true) (hl:waitFor md ops late listed i=true)
  (hQ:∀ c a w,Q (.panic c) (a.put oi.dst v) w->Q (.panic c) a w) (hS:S w) (hw:Region.wanted oi (yielded ops a.tmps)=true) (hy:∀ w,S w->(execOp a.eval oi).run P w=.ok (.value v) w)
  (h:wpAnyL P md ops Q S late fuel (listed.setIfInBounds i true) (a.put oi.dst v) w):wpAnyL P md ops Q S late (fuel+1) listed a w:=
 zDA hi (Region.noSelect_spec hs) hQ fuel listed a w (Region.free_spec hi hf) (zCz hl) (by simpa using hr) (.inl ⟨hw,hy⟩) hS h
theorem zAp {i:Nat} {o:Oper} {fuel:Nat} {listed:Array Bool} {a:Act} {w:World} (ho:ops[i]?=some o) (hr:Region.ready md ops listed=[i]) (hw:Region.wanted o (yielded ops a.tmps)=true)
  (h:∀ K':Act->World->Prop,Shut (∀ a w,(late i=false->S w)->wpAnyL P md ops Q S late fuel (listed.setIfInBounds i true) a w->K' a w)->Oper.wp P o a w K' Q):wpAnyL P md ops Q S late (fuel+1) listed a w:=by
 refine ⟨fun h0=>(by rw [hr] at h0;cases h0),fun j hj=>?_⟩;rw [hr] at hj;simp at hj;subst hj;refine wpOp_step ho (fun K' hK=>?_);rw [if_pos hw];exact h K' (fun a w hS hW=>hK a w ⟨hS,hW⟩)
theorem zBN {listed:Array Bool} {a:Act} {w:World} (hr:Region.ready md ops listed=[]) (h:Q .normal a w) :
  ∀ fuel,wpAnyL P md ops Q S late fuel listed a w
 | 0=>⟨hr,h⟩
 | _+1=>⟨fun _=>h,by rw [hr];simp⟩
theorem zBP {id:Nat} {a:Act} {w:World} (S:World->Prop) (late:Nat->Bool) (hm:P.follows .mixedOrders=true)
  (h:wpAnyL P .any ops Q S late ops.size (Array.replicate ops.size false) a w.drew):(Code.region id ops true).wp P Q a w:=
 wp_region_any hm (zCd _ _ _ _ h)
end
end Go.Proofs.YtfhghlpfeeiaeaaGreatDoor
namespace Go.Proofs.YtfhghlpfeeiaeaaGreatDoor
theorem nmQ {α:Sort _} (e:α):∃ x,x=e:=⟨e,rfl⟩
theorem zBR {n:Nat}:n<=n:=Nat.le_refl n
theorem gT {α:Type _} {l:List α} {i:Nat}:l.toArray[i]?=l[i]?:=List.getElem?_toArray
theorem gZ {α:Type _} {a:α} {l:List α}:(a :: l)[0]?=some a:=List.getElem?_cons_zero
theorem gS {α:Type _} {a:α} {l:List α} {i:Nat}:(a :: l)[i+1]?=l[i]?:=List.getElem?_cons_succ
theorem sT {α:Type _} {l:List α} {i:Nat} {a:α}:l.toArray.setIfInBounds i a=(l.set i a).toArray:=List.setIfInBounds_toArray ..
theorem sZ {α:Type _} {x:α} {l:List α} {a:α}:(x :: l).set 0 a=a :: l:=List.set_cons_zero ..
theorem sS {α:Type _} {x:α} {l:List α} {n:Nat} {a:α}:(x :: l).set (n+1) a=x :: l.set n a:=List.set_cons_succ ..
end Go.Proofs.YtfhghlpfeeiaeaaGreatDoor
namespace Go.Proofs.YtfhghlpfeeiaeaaGreatDoor.Tk
structure Tok where
 kind:Int
 place:Nat
 text:List UInt8
 n:Int
end Go.Proofs.YtfhghlpfeeiaeaaGreatDoor.Tk
namespace Go.Proofs.YtfhghlpfeeiaeaaGreatDoor
theorem tkQ {P:Program} {md:Region.Mode} {ops:Array Oper} {Q:Exit->Act->World->Prop} {S:World->Prop} {late:Nat->Bool} {fuel:Nat} {listed:Array Bool} {a:Act} {w:World} {v:Value} {op ty pos after guard} (i d:Nat) (hS:S w) (hy:∀ w,S w->(execOp a.eval ⟨some d,op,ty,pos,after,guard⟩).run P w=.ok (.value v) w) (h:wpAnyL P md ops Q S late fuel (listed.setIfInBounds i true) (a.put (some d) v) w)
  (hi:ops[i]?=some ⟨some d,op,ty,pos,after,guard⟩:=by rfl) (hs:Region.noSelect ops=true:=by kernel_rfl) (hf:Region.free md ops listed i=true:=by kernel_rfl) (hr:(Region.ready md ops listed).contains i=true:=by kernel_rfl) (hl:waitFor md ops late listed i=true:=by kernel_rfl) (hQ:∀ c a w,Q (.panic c) (a.put (some d) v) w->Q (.panic c) a w:=by exact fun _ _ _ h=>h) (hw:Region.wanted ⟨some d,op,ty,pos,after,guard⟩ (yielded ops a.tmps)=true:=by rfl):wpAnyL P md ops Q S late (fuel+1) listed a w:=
 zBS hi hs hf hr hl hQ hS hw hy (h)
theorem tjQ {P:Program} {md:Region.Mode} {ops:Array Oper} {Q:Exit->Act->World->Prop} {S:World->Prop} {late:Nat->Bool} {fuel:Nat} {listed:Array Bool} {a:Act} {w:World} {v:Value} {oi:Oper} (i:Nat) (hS:S w) (hy:∀ w,S w->(execOp a.eval oi).run P w=.ok (.value v) w) (h:wpAnyL P md ops Q S late fuel (listed.setIfInBounds i true) (a.put oi.dst v) w)
  (hi:ops[i]?=some oi:=by rfl) (hs:Region.noSelect ops=true:=by kernel_rfl) (hf:Region.free md ops listed i=true:=by kernel_rfl) (hr:(Region.ready md ops listed).contains i=true:=by kernel_rfl) (hl:waitFor md ops late listed i=true:=by kernel_rfl) (hQ:∀ c a w,Q (.panic c) (a.put oi.dst v) w->Q (.panic c) a w:=by exact fun _ _ _ h=>h) (hw:Region.wanted oi (yielded ops a.tmps)=true:=by rfl):wpAnyL P md ops Q S late (fuel+1) listed a w:=
 zBS hi hs hf hr hl hQ hS hw hy (h)
theorem tkR {P:Program} {md:Region.Mode} {ops:Array Oper} {Q:Exit->Act->World->Prop} {S:World->Prop} {late:Nat->Bool} {fuel:Nat} {listed:Array Bool} {a:Act} {w:World} {b:Act} {v:Value} {op ty pos after guard} (i d:Nat) (hS:S w)  (h:wpAnyL P md ops Q S late fuel (listed.setIfInBounds i true) b w)
  (hi:ops[i]?=some ⟨some d,op,ty,pos,after,guard⟩:=by rfl) (hs:Region.noSelect ops=true:=by kernel_rfl) (hf:Region.free md ops listed i=true:=by kernel_rfl) (hr:(Region.ready md ops listed).contains i=true:=by kernel_rfl) (hl:waitFor md ops late listed i=true:=by kernel_rfl) (hQ:∀ c a w,Q (.panic c) (a.put (some d) v) w->Q (.panic c) a w:=by exact fun _ _ _ h=>h) (hw:Region.wanted ⟨some d,op,ty,pos,after,guard⟩ (yielded ops a.tmps)=true:=by rfl) (hy:∀ w,S w->(execOp a.eval ⟨some d,op,ty,pos,after,guard⟩).run P w=.ok (.value v) w:=by intro wz hSw;go_simp;try rfl) (hb:a.put (some d) v=b:=by first | (simp only [Act.put,sT,sZ,sS];rfl) | rfl):wpAnyL P md ops Q S late (fuel+1) listed a w:=
 zBS hi hs hf hr hl hQ hS hw hy (hb ▸ h)
theorem tjR {P:Program} {md:Region.Mode} {ops:Array Oper} {Q:Exit->Act->World->Prop} {S:World->Prop} {late:Nat->Bool} {fuel:Nat} {listed:Array Bool} {a:Act} {w:World} {b:Act} {v:Value} {oi:Oper} (i:Nat) (hS:S w)  (h:wpAnyL P md ops Q S late fuel (listed.setIfInBounds i true) b w)
  (hi:ops[i]?=some oi:=by rfl) (hs:Region.noSelect ops=true:=by kernel_rfl) (hf:Region.free md ops listed i=true:=by kernel_rfl) (hr:(Region.ready md ops listed).contains i=true:=by kernel_rfl) (hl:waitFor md ops late listed i=true:=by kernel_rfl) (hQ:∀ c a w,Q (.panic c) (a.put oi.dst v) w->Q (.panic c) a w:=by exact fun _ _ _ h=>h) (hw:Region.wanted oi (yielded ops a.tmps)=true:=by rfl) (hy:∀ w,S w->(execOp a.eval oi).run P w=.ok (.value v) w:=by intro wz hSw;go_simp;try rfl) (hb:a.put oi.dst v=b:=by first | (simp only [Act.put,sT,sZ,sS];rfl) | rfl):wpAnyL P md ops Q S late (fuel+1) listed a w:=
 zBS hi hs hf hr hl hQ hS hw hy (hb ▸ h)
theorem tnQ {P:Program} {md:Region.Mode} {ops:Array Oper} {Q:Exit->Act->World->Prop} {S:World->Prop} {late:Nat->Bool} {fuel:Nat} {listed:Array Bool} {a:Act} {w:World} {o:Oper} (i:Nat) (h:∀ K':Act->World->Prop,Shut (∀ a w,(late i=false->S w)->wpAnyL P md ops Q S late fuel (listed.setIfInBounds i true) a w->K' a w)->Oper.wp P o a w K' Q)
  (ho:ops[i]?=some o:=by rfl) (hr:Region.ready md ops listed=[i]:=by kernel_rfl) (hw:Region.wanted o (yielded ops a.tmps)=true:=by rfl):wpAnyL P md ops Q S late (fuel+1) listed a w:=zAp ho hr hw h
end Go.Proofs.YtfhghlpfeeiaeaaGreatDoor
namespace Go.Proofs.YtfhghlpfeeiaeaaGreatDoor
open Go.RowKit
theorem zBK {p:Prop} (h:p):Hid p:=h
theorem zBY {k:IntKind} {a b:Int} (h:a=b):Ending.returned (.int k a)=.returned (.int k b):=by rw [h]
theorem zAq {a b:Bool} (h:a=b):Ending.returned (.bool a)=.returned (.bool b):=by rw [h]
end Go.Proofs.YtfhghlpfeeiaeaaGreatDoor
namespace Go.Proofs.YtfhghlpfeeiaeaaGreatDoor
open Go.RowKit Go.IntWalk
def str (l:List UInt8):ByteArray:=⟨l.toArray⟩
def HoldsToks (w:World) (g:Nat) (L:List Tk.Tok):Prop :=
 ∀ i (hi:i<L.length),w.cell? ⟨g,i*4,none⟩=some (.int .i64 (L[i]).kind)/\w.cell? ⟨g,i*4+1,none⟩=some (.int .i64 ((L[i]).place:Int)) /\
  w.cell? ⟨g,i*4+2,none⟩=some (.string (str (L[i]).text))/\w.cell? ⟨g,i*4+3,none⟩=some (.int .i64 (L[i]).n)
structure Aside (S:List Nat) (B:Nat) (w w':World):Prop where
 os:w'.os=w.os
 tape:w'.tape=w.tape
 output:w'.output=w.output
 size:w.heap.size<=w'.heap.size
 block:∀ k,k<B->k ∉ S->w'.heap[k]?=w.heap[k]?
theorem zBO (w:World) (o:Obj):(w.alloc o).heap[w.heap.size]?=some o:=by
 show (w.heap.push o)[w.heap.size]?=_
 simp
theorem aside {S:List Nat} {B:Nat} {w w':World} (h:Below B w w'):Aside S B w w':=⟨h.os,h.tape,h.output,h.size,fun k hk _=>h.block k hk⟩
theorem Aside.refl {S:List Nat} {B:Nat} (w:World):Aside S B w w:=⟨rfl,rfl,rfl,Nat.le_refl _,fun _ _ _=>rfl⟩
theorem Aside.trans {S:List Nat} {B B':Nat} {a b c:World} (h:Aside S B a b) (k:Aside S B' b c) (hB:B<=B'):Aside S B a c :=
 ⟨k.os.trans h.os,k.tape.trans h.tape,k.output.trans h.output,Nat.le_trans h.size k.size,fun i hi hs=>(k.block i (Nat.lt_of_lt_of_le hi hB) hs).trans (h.block i hi hs)⟩
theorem Aside.wide {S S':List Nat} {B:Nat} {w w':World} (h:Aside S B w w') (hs:∀ k,k<B->k ∉ S'->k ∉ S):Aside S' B w w':=⟨h.os,h.tape,h.output,h.size,fun k hk hn=>h.block k hk (hs k hk hn)⟩
theorem Aside.below {S:List Nat} {B:Nat} {w w':World} (h:Aside S B w w') (hs:∀ k,k ∈ S->B<=k):Below B w w' :=
 ⟨h.os,h.tape,h.output,h.size,fun k hk=>h.block k hk fun hm=>absurd (hs k hm) (by omega)⟩
theorem HoldsToks.keep {w w':World} {g:Nat} {L:List Tk.Tok} (h:HoldsToks w g L) (hg:w'.heap[g]?=w.heap[g]?):HoldsToks w' g L:=by
 intro i hi;have hc:∀ o,w'.cell? ⟨g,o,none⟩=w.cell? ⟨g,o,none⟩:=fun o=>World.cell?_of_block (w:=w) hg;rw [hc,hc,hc,hc];exact h i hi
theorem Aside.setCell {S:List Nat} {B:Nat} {w:World} {p:Addr} (hp:p.block ∈ S) (u:Value):Aside S B w (w.setCell p u) :=
 ⟨rfl,rfl,rfl,by simp [World.setCell],fun k _ hs=>Below.heap_setCell _ _ _ _ (fun e=>hs (e ▸ hp))⟩
theorem nw2 (w:World) (A B:Obj):Below w.heap.size w ((w.alloc A).alloc B)/\((w.alloc A).alloc B).heap[w.heap.size]?=some A/\((w.alloc A).alloc B).heap[w.heap.size+1]?=some B:=⟨((Below.refl _ _).alloc (Nat.le_refl _) _).alloc (by simp) _,(Below.heap_alloc _ _ _ (by simp)).trans (zBO w _),(by have:=zBO (w.alloc A) B;simpa using this)⟩
end Go.Proofs.YtfhghlpfeeiaeaaGreatDoor
namespace Go.Proofs.YtfhghlpfeeiaeaaGreatDoor
open Go.RowKit Go.IntWalk
theorem Aside.alloc {S:List Nat} {B:Nat} {w w':World} (h:Aside S B w w') (hB:B<=w'.heap.size) (o:Obj):Aside S B w (w'.alloc o) :=
 h.trans (aside ((Below.refl B w').alloc hB o)) zBR
theorem Aside.set {S:List Nat} {B:Nat} {w w':World} (h:Aside S B w w') {p:Addr} (hp:B<=p.block) (u:Value):Aside S B w (w'.setCell p u) :=
 h.trans (aside ((Below.refl B w').setCell hp u)) zBR
theorem Aside.drew {S:List Nat} {B:Nat} {w w':World} (h:Aside S B w w'):Aside S B w w'.drew:=⟨h.os,h.tape,h.output,h.size,h.block⟩
theorem Aside.mono {S:List Nat} {B B':Nat} {w w':World} (h:Aside S B w w') (hB:B'<=B):Aside S B' w w':=⟨h.os,h.tape,h.output,h.size,fun k hk=>h.block k (Nat.lt_of_lt_of_le hk hB)⟩
section
variable {w:World} {b g cap:Nat} {L:List Tk.Tok} {len nx op:Nat}
end
theorem coQ {w:World} {k:Nat} {cs:Array Value} {t:TypeId} (h:w.heap[k]?=some (.cells cs t (0,0))) (o:Nat):w.cell? ⟨k,o,none⟩=cs[o]?:=by simp [World.cell?,h]
theorem newB {w v:World} {o:Obj} (h:w=v.alloc o):Below v.heap.size v w:=by rw [h];exact (Below.refl _ _).alloc zBR _
theorem newK {w v:World} {o:Obj} (h:w=v.alloc o):w.heap[v.heap.size]?=some o:=by rw [h];exact zBO _ _
theorem newZ {w v:World} {o:Obj} (h:w=v.alloc o):w.heap.size=v.heap.size+1:=by rw [h];simp
abbrev Zb:Obj:=.cells #[.int .i64 0,.int .i64 0,.int .i64 0,.string ⟨#[]⟩,.slice none 0 0,.slice none 0 0] 45 (0,0)
theorem cells2 {w:World} {k:Nat} {v0 v1:Value} {t:TypeId} (h:w.heap[k]?=some (.cells #[v0,v1] t (0,0))):w.cell? ⟨k,0,none⟩=some v0/\w.cell? ⟨k,1,none⟩=some v1:=
  ⟨(coQ h 0).trans rfl,(coQ h 1).trans rfl⟩
theorem cells3 {w:World} {k:Nat} {v0 v1 v2:Value} {t:TypeId} (h:w.heap[k]?=some (.cells #[v0,v1,v2] t (0,0))):w.cell? ⟨k,0,none⟩=some v0/\w.cell? ⟨k,1,none⟩=some v1/\w.cell? ⟨k,2,none⟩=some v2:=
  ⟨(coQ h 0).trans rfl,(coQ h 1).trans rfl,(coQ h 2).trans rfl⟩
theorem cells4 {w:World} {k:Nat} {v0 v1 v2 v3:Value} {t:TypeId} (h:w.heap[k]?=some (.cells #[v0,v1,v2,v3] t (0,0))):w.cell? ⟨k,0,none⟩=some v0/\w.cell? ⟨k,1,none⟩=some v1/\w.cell? ⟨k,2,none⟩=some v2/\w.cell? ⟨k,3,none⟩=some v3:=
  ⟨(coQ h 0).trans rfl,(coQ h 1).trans rfl,(coQ h 2).trans rfl,(coQ h 3).trans rfl⟩
theorem cells5 {w:World} {k:Nat} {v0 v1 v2 v3 v4:Value} {t:TypeId} (h:w.heap[k]?=some (.cells #[v0,v1,v2,v3,v4] t (0,0))):w.cell? ⟨k,0,none⟩=some v0/\w.cell? ⟨k,1,none⟩=some v1/\w.cell? ⟨k,2,none⟩=some v2/\w.cell? ⟨k,3,none⟩=some v3/\w.cell? ⟨k,4,none⟩=some v4:=
  ⟨(coQ h 0).trans rfl,(coQ h 1).trans rfl,(coQ h 2).trans rfl,(coQ h 3).trans rfl,(coQ h 4).trans rfl⟩
theorem cells6 {w:World} {k:Nat} {v0 v1 v2 v3 v4 v5:Value} {t:TypeId} (h:w.heap[k]?=some (.cells #[v0,v1,v2,v3,v4,v5] t (0,0))):w.cell? ⟨k,0,none⟩=some v0/\w.cell? ⟨k,1,none⟩=some v1/\w.cell? ⟨k,2,none⟩=some v2/\w.cell? ⟨k,3,none⟩=some v3/\w.cell? ⟨k,4,none⟩=some v4/\w.cell? ⟨k,5,none⟩=some v5:=
  ⟨(coQ h 0).trans rfl,(coQ h 1).trans rfl,(coQ h 2).trans rfl,(coQ h 3).trans rfl,(coQ h 4).trans rfl,(coQ h 5).trans rfl⟩
theorem cells7 {w:World} {k:Nat} {v0 v1 v2 v3 v4 v5 v6:Value} {t:TypeId} (h:w.heap[k]?=some (.cells #[v0,v1,v2,v3,v4,v5,v6] t (0,0))):w.cell? ⟨k,0,none⟩=some v0/\w.cell? ⟨k,1,none⟩=some v1/\w.cell? ⟨k,2,none⟩=some v2/\w.cell? ⟨k,3,none⟩=some v3/\w.cell? ⟨k,4,none⟩=some v4/\w.cell? ⟨k,5,none⟩=some v5/\w.cell? ⟨k,6,none⟩=some v6:=
  ⟨(coQ h 0).trans rfl,(coQ h 1).trans rfl,(coQ h 2).trans rfl,(coQ h 3).trans rfl,(coQ h 4).trans rfl,(coQ h 5).trans rfl,(coQ h 6).trans rfl⟩
theorem foQ {w:World} {k:Nat} {cs:Array Value} {t:TypeId} (h:w.heap[k]?=some (.cells cs t (0,0))) (o:Nat):w.frozen? ⟨k,o,none⟩=false:=by simp [World.frozen?,h]
theorem zBM {w:World} {k:Nat} {o:Obj} (h:w.heap[k]?=some o):k<w.heap.size:=(Array.getElem?_eq_some_iff.1 h).1
theorem Aside.keep {S:List Nat} {B:Nat} {w w':World} (a:Aside S B w w') {k:Nat} {x:Obj} (hx:w.heap[k]?=some x) (hk:k<B) (hs:k ∉ S):w'.heap[k]?=some x:=(a.block k hk hs).trans hx
theorem zBT {w:World} {k:Nat} {x:Obj} (hx:w.heap[k]?=some x) {p:Addr} (hp:p.block≠k) (u:Value):(w.setCell p u).heap[k]?=some x:=(Below.heap_setCell _ _ _ _ (fun e=>hp e.symm)).trans hx
theorem zBQ {w:World} {k:Nat} {cs:Array Value} {t:TypeId} (h:w.heap[k]?=some (.cells cs t (0,0))) (o:Nat) (u:Value):(w.setCell ⟨k,o,none⟩ u).heap[k]?=some (.cells (cs.setIfInBounds o u) t (0,0)):=by
 simp [World.setCell,Array.getElem?_modify,h]
theorem owns_pos {w:World} {base:Nat} {e:TypeId} {size:Nat} {v:Value} {n:Nat} {xs:List Value} (h:w.ownsRow base e size v n xs) (hn:0<n) :
  ∃ g cap,v=.slice (some ⟨g,0,none⟩) n cap/\base<=g/\g<w.heap.size/\n<=cap/\cap<=maxLen/\∀ j u,xs[j]?=some u->w.cell? ⟨g,j,none⟩=some u:=by
 have ct:=@World.ownsRow.cells _ _ _ _ _ _ _ h;rcases h.2 with ⟨rfl,h0⟩ | ⟨g,cap,cur,rfl,hb,hg,mA,jU,nH,ng⟩
 ·omega
 ·refine ⟨g,cap,rfl,hb,zBM hg,mA,jU,fun j u hj=>?_⟩
  have hc:=@ct g rfl j u hj;have kx:(⟨g,0,none⟩:Addr).add j=⟨g,j,none⟩:=by unfold Addr.add;split<;>simp_all
  rw [kx] at hc;exact hc
end Go.Proofs.YtfhghlpfeeiaeaaGreatDoor
namespace Go.Proofs.YtfhghlpfeeiaeaaGreatDoor
open Go.RowKit Go.IntWalk
abbrev Tm:=Int × ByteArray
inductive Ex where
 | mk (op k n:Int) (name:ByteArray) (S:List (List Tm)) (L:List Ex)
structure De where
 name:ByteArray
 elem:Int
 n:List Tm
structure Eqn where
 place:Int
 names:List ByteArray
 node:ByteArray
 S:List (List Tm)
 E:List Ex
structure Nd where
 name:ByteArray
 place:Int
 sizes:List ByteArray
 inn:List De
 out:List De
 loc:List De
 eqs:List Eqn
def Ex.op:Ex->Int | .mk o _ _ _ _ _=>o
def Ex.k:Ex->Int | .mk _ k _ _ _ _=>k
def Ex.n:Ex->Int | .mk _ _ n _ _ _=>n
def Ex.name:Ex->ByteArray | .mk _ _ _ s _ _=>s
def Ex.S:Ex->List (List Tm) | .mk _ _ _ _ S _=>S
def Ex.L:Ex->List Ex | .mk _ _ _ _ _ L=>L
def Sl (ok:Nat->Prop) (k:Nat) (w:World) (v:Value) (n:Nat) (C:Nat->List Value):Prop :=
 ∃ ao cap,v=.slice ao n cap/\n<=cap/\cap<=maxLen /\
  (0<n->∃ b o,ao=some ⟨b,o,none⟩/\ok b/\b<w.heap.size/\∀ i,i<n->(C i).length=k/\∀ j,j<k->w.cell? ⟨b,o+i*k+j,none⟩=(C i)[j]?)
theorem Sl.keep {ok:Nat->Prop} {k:Nat} {w w':World} {v:Value} {n:Nat} {C:Nat->List Value} (h:Sl ok k w v n C)
  (hs:w.heap.size<=w'.heap.size) (hk:∀ i,ok i->i<w.heap.size->w'.heap[i]?=w.heap[i]?):Sl ok k w' v n C:=by
 obtain ⟨ao,cap,hv,h1,h2,h3⟩:=h;refine ⟨ao,cap,hv,h1,h2,fun hn=>?_⟩;obtain ⟨b,o,ha,gG,hb,hc⟩:=h3 hn;refine ⟨b,o,ha,gG,Nat.lt_of_lt_of_le hb hs,fun i hi=>⟨(hc i hi).1,fun j hj=>?_⟩⟩;rw [<-(hc i hi).2 j hj];exact World.cell?_of_block (w:=w) (hk b gG hb)
theorem Sl.wide {ok ok':Nat->Prop} {k:Nat} {w:World} {v:Value} {n:Nat} {C:Nat->List Value} (h:Sl ok k w v n C) (hk:∀ i,ok i->i<w.heap.size->ok' i):Sl ok' k w v n C:=by
 obtain ⟨ao,cap,hv,h1,h2,h3⟩:=h;refine ⟨ao,cap,hv,h1,h2,fun hn=>?_⟩;obtain ⟨b,o,ha,gG,hb,hc⟩:=h3 hn;exact ⟨b,o,ha,hk b gG hb,hb,hc⟩
theorem Sl.nil {ok:Nat->Prop} {k:Nat} {w:World} {C:Nat->List Value}:Sl ok k w (.slice none 0 0) 0 C:=⟨none,0,rfl,Nat.le_refl _,Nat.zero_le _,fun h=>absurd h (Nat.lt_irrefl _)⟩
def HNames (ok:Nat->Prop) (w:World) (v:Value) (l:List ByteArray):Prop:=∃ C,Sl ok 1 w v l.length C/\∀ i (h:i<l.length),C i=[.string l[i]]
def HTerms (ok:Nat->Prop) (w:World) (v:Value) (l:List Tm):Prop:=∃ C,Sl ok 2 w v l.length C/\∀ i (h:i<l.length),C i=[.int .i64 (l[i]).1,.string (l[i]).2]
def HSizes (ok:Nat->Prop) (w:World) (v:Value) (l:List (List Tm)):Prop:=∃ C,Sl ok 1 w v l.length C/\∀ i (h:i<l.length),∃ u,C i=[u]/\HTerms ok w u l[i]
inductive HEx (ok:Nat->Prop) (w:World):List Value->Ex->Prop
 | mk {op k n:Int} {name:ByteArray} {S:List (List Tm)} {L:List Ex} {vS vL:Value} (C:Nat->List Value)
   (hS:HSizes ok w vS S) (hL:Sl ok 6 w vL L.length C) (hE:∀ i (h:i<L.length),HEx ok w (C i) L[i]) :
   HEx ok w [.int .i64 op,.int .i64 k,.int .i64 n,.string name,vS,vL] (.mk op k n name S L)
theorem HNames.keep {ok:Nat->Prop} {w w':World} {v:Value} {l:List ByteArray} (h:HNames ok w v l) (hs:w.heap.size<=w'.heap.size) (hk:∀ i,ok i->i<w.heap.size->w'.heap[i]?=w.heap[i]?):HNames ok w' v l:=by
 obtain ⟨C,h1,h2⟩:=h;exact ⟨C,h1.keep hs hk,h2⟩
theorem HTerms.keep {ok:Nat->Prop} {w w':World} {v:Value} {l:List Tm} (h:HTerms ok w v l) (hs:w.heap.size<=w'.heap.size) (hk:∀ i,ok i->i<w.heap.size->w'.heap[i]?=w.heap[i]?):HTerms ok w' v l:=by
 obtain ⟨C,h1,h2⟩:=h;exact ⟨C,h1.keep hs hk,h2⟩
theorem HSizes.keep {ok:Nat->Prop} {w w':World} {v:Value} {l:List (List Tm)} (h:HSizes ok w v l) (hs:w.heap.size<=w'.heap.size) (hk:∀ i,ok i->i<w.heap.size->w'.heap[i]?=w.heap[i]?):HSizes ok w' v l:=by
 obtain ⟨C,h1,h2⟩:=h;refine ⟨C,h1.keep hs hk,fun i hi=>?_⟩;obtain ⟨u,e,ht⟩:=h2 i hi;exact ⟨u,e,ht.keep hs hk⟩
theorem HEx.keep {ok:Nat->Prop} {w w':World} {cs:List Value} {e:Ex} (h:HEx ok w cs e) (hs:w.heap.size<=w'.heap.size) (hk:∀ i,ok i->i<w.heap.size->w'.heap[i]?=w.heap[i]?):HEx ok w' cs e:=by
 induction h with
 | mk C hS hL hE ih=>exact .mk C (hS.keep hs hk) (hL.keep hs hk) ih
theorem HTerms.wide {ok ok':Nat->Prop} {w:World} {v:Value} {l:List Tm} (h:HTerms ok w v l) (hk:∀ i,ok i->i<w.heap.size->ok' i):HTerms ok' w v l:=by
 obtain ⟨C,h1,h2⟩:=h;exact ⟨C,h1.wide hk,h2⟩
theorem HSizes.wide {ok ok':Nat->Prop} {w:World} {v:Value} {l:List (List Tm)} (h:HSizes ok w v l) (hk:∀ i,ok i->i<w.heap.size->ok' i):HSizes ok' w v l:=by
 obtain ⟨C,h1,h2⟩:=h;refine ⟨C,h1.wide hk,fun i hi=>?_⟩;obtain ⟨u,e,ht⟩:=h2 i hi;exact ⟨u,e,ht.wide hk⟩
theorem HEx.wide {ok ok':Nat->Prop} {w:World} {cs:List Value} {e:Ex} (h:HEx ok w cs e) (hk:∀ i,ok i->i<w.heap.size->ok' i):HEx ok' w cs e:=by
 induction h with
 | mk C hS hL hE ih=>exact .mk C (hS.wide hk) (hL.wide hk) ih
theorem HEx.aside {S:List Nat} {w w':World} {cs:List Value} {e:Ex} (h:HEx (· ∉ S) w cs e) (a:Aside S w.heap.size w w'):HEx (· ∉ S) w' cs e:=h.keep a.size fun i hi hl=>a.block i hl hi
theorem HEx.under {ok:Nat->Prop} {w w':World} {cs:List Value} {e:Ex} (h:HEx ok w cs e) (a:Below w.heap.size w w'):HEx ok w' cs e:=h.keep a.size fun i _ hl=>a.block i hl
theorem HEx.past {ok:Nat->Prop} {S:List Nat} {w w':World} {cs:List Value} {e:Ex} (h:HEx ok w cs e) (a:Aside S w.heap.size w w') (hS:∀ i,ok i->i ∉ S):HEx ok w' cs e:=h.keep a.size fun i hi hl=>a.block i hl (hS i hi)
structure ExV where
 op:Int
 k:Int
 n:Int
 name:ByteArray
 aS:Option Addr
 nS:Nat
 cS:Nat
 aL:Option Addr
 nL:Nat
 cL:Nat
def ExV.cells (x:ExV):List Value:=[.int .i64 x.op,.int .i64 x.k,.int .i64 x.n,.string x.name,.slice x.aS x.nS x.cS,.slice x.aL x.nL x.cL]
abbrev exC (y:ExV):Array Value:=#[.int .i64 y.op,.int .i64 y.k,.int .i64 y.n,.string y.name,.slice y.aS y.nS y.cS,.slice y.aL y.nL y.cL]
theorem HEx.toV {ok:Nat->Prop} {w:World} {cs:List Value} {e:Ex} (h:HEx ok w cs e):∃ x:ExV,cs=x.cells/\HEx ok w x.cells e:=by
 have h0:=h
 cases h with
 | @mk op k n name S L vS vL C hS hL hE=>
  obtain ⟨CS,⟨aS,cS,rfl,_⟩,_⟩:=hS;obtain ⟨aL,cL,rfl,_⟩:=hL;exact ⟨⟨op,k,n,name,aS,S.length,cS,aL,L.length,cL⟩,rfl,h0⟩
def eqL {α:Type} (f:α->α->Bool):List α->List α->Bool
 | [],[]=>true
 | a :: l,b :: r=>f a b&&eqL f l r
 | _,_=>false
theorem eqL_len {α:Type} {f:α->α->Bool}:∀ {l r:List α},l.length≠r.length->eqL f l r=false
 | [],[],h=>by simp at h
 | [],_ :: _,_=>rfl
 | _ :: _,[],_=>rfl
 | a :: l,b :: r,h=>by
  have:eqL f l r=false:=eqL_len (by simpa using h);simp [eqL,this]
theorem eqL_all {α:Type} {f:α->α->Bool}:∀ {l r:List α},l.length=r.length->(∀ i (h:i<l.length) (h':i<r.length),f l[i] r[i]=true)->eqL f l r=true
 | [],[],_,_=>rfl
 | [],_ :: _,h,_=>by simp at h
 | _ :: _,[],h,_=>by simp at h
 | a :: l,b :: r,h,hf=>by
  have h1:=hf 0 (by simp) (by simp);have h2:eqL f l r=true:=eqL_all (by simpa using h) (fun i hi oz=>hf (i+1) (by simpa using hi) (by simpa using oz));simp at h1;simp [eqL,h1,h2]
theorem eqL_bad {α:Type} {f:α->α->Bool}:∀ {l r:List α} (i:Nat) (h:i<l.length) (h':i<r.length),f l[i] r[i]=false->eqL f l r=false
 | [],_,i,h,_,_=>by simp at h
 | _ :: _,[],i,_,h',_=>by simp at h'
 | a :: l,b :: r,0,_,_,hf=>by simp at hf;simp [eqL,hf]
 | a :: l,b :: r,i+1,h,h',hf=>by
  have:eqL f l r=false:=eqL_bad i (by simpa using h) (by simpa using h') (by simpa using hf);simp [eqL,this]
theorem HNames.at {ok:Nat->Prop} {w:World} {v:Value} {l:List ByteArray} (h:HNames ok w v l) :
  ∃ ao cap,v=.slice ao l.length cap/\l.length<=cap/\cap<=maxLen/\∀ i (h:i<l.length),∃ b o,ao=some ⟨b,o,none⟩/\b<w.heap.size/\w.cell? ⟨b,o+i,none⟩=some (.string l[i]):=by
 obtain ⟨C,⟨ao,cap,hv,h1,h2,h3⟩,hC⟩:=h;refine ⟨ao,cap,hv,h1,h2,fun i hi=>?_⟩;obtain ⟨b,o,ha,gG,hb,hc⟩:=h3 (by omega);have:=(hc i hi).2 0 (by decide);rw [hC i hi] at this;exact ⟨b,o,ha,hb,by simpa using this⟩
theorem HTerms.at {ok:Nat->Prop} {w:World} {v:Value} {l:List Tm} (h:HTerms ok w v l) :
  ∃ ao cap,v=.slice ao l.length cap/\l.length<=cap/\cap<=maxLen/\∀ i (h:i<l.length),∃ b o,ao=some ⟨b,o,none⟩/\b<w.heap.size/\w.cell? ⟨b,o+i*2,none⟩=some (.int .i64 (l[i]).1)/\w.cell? ⟨b,o+i*2+1,none⟩=some (.string (l[i]).2):=by
 obtain ⟨C,⟨ao,cap,hv,h1,h2,h3⟩,hC⟩:=h;refine ⟨ao,cap,hv,h1,h2,fun i hi=>?_⟩;obtain ⟨b,o,ha,gG,hb,hc⟩:=h3 (by omega);have t0:=(hc i hi).2 0 (by decide);have t1:=(hc i hi).2 1 (by decide);rw [hC i hi] at t0 t1;exact ⟨b,o,ha,hb,by simpa using t0,by simpa using t1⟩
theorem HSizes.at {ok:Nat->Prop} {w:World} {v:Value} {l:List (List Tm)} (h:HSizes ok w v l) :
  ∃ ao cap,v=.slice ao l.length cap/\l.length<=cap/\cap<=maxLen/\∀ i (h:i<l.length),∃ b o au nu cu,ao=some ⟨b,o,none⟩/\b<w.heap.size/\w.cell? ⟨b,o+i,none⟩=some (.slice au nu cu)/\HTerms ok w (.slice au nu cu) l[i]:=by
 obtain ⟨C,⟨ao,cap,hv,h1,h2,h3⟩,hC⟩:=h;refine ⟨ao,cap,hv,h1,h2,fun i hi=>?_⟩;obtain ⟨b,o,ha,gG,hb,hc⟩:=h3 (by omega);have:=(hc i hi).2 0 (by decide);obtain ⟨u,hu,ht⟩:=hC i hi;rw [hu] at this;have Po:=ht;obtain ⟨_,⟨au,cu,rfl,_⟩,_⟩:=Po;exact ⟨b,o,au,_,cu,ha,hb,by simpa using this,ht⟩
theorem HTerms.under {ok:Nat->Prop} {w w':World} {v:Value} {l:List Tm} (h:HTerms ok w v l) (a:Below w.heap.size w w'):HTerms ok w' v l:=h.keep a.size fun i _ hl=>a.block i hl
theorem HSizes.under {ok:Nat->Prop} {w w':World} {v:Value} {l:List (List Tm)} (h:HSizes ok w v l) (a:Below w.heap.size w w'):HSizes ok w' v l:=h.keep a.size fun i _ hl=>a.block i hl
theorem HNames.under {ok:Nat->Prop} {w w':World} {v:Value} {l:List ByteArray} (h:HNames ok w v l) (a:Below w.heap.size w w'):HNames ok w' v l:=h.keep a.size fun i _ hl=>a.block i hl
def HDes (ok:Nat->Prop) (w:World) (v:Value) (l:List De):Prop:=∃ C,Sl ok 3 w v l.length C/\∀ i (h:i<l.length),∃ u,C i=[.string (l[i]).name,.int .u8 (l[i]).elem,u]/\HTerms ok w u (l[i]).n
theorem HDes.keep {ok:Nat->Prop} {w w':World} {v:Value} {l:List De} (h:HDes ok w v l) (hs:w.heap.size<=w'.heap.size) (hk:∀ i,ok i->i<w.heap.size->w'.heap[i]?=w.heap[i]?):HDes ok w' v l:=by
 obtain ⟨C,h1,h2⟩:=h;refine ⟨C,h1.keep hs hk,fun i hi=>?_⟩;obtain ⟨u,e,ht⟩:=h2 i hi;exact ⟨u,e,ht.keep hs hk⟩
theorem HDes.under {ok:Nat->Prop} {w w':World} {v:Value} {l:List De} (h:HDes ok w v l) (a:Below w.heap.size w w'):HDes ok w' v l:=h.keep a.size fun i _ hl=>a.block i hl
theorem HTerms.form {ok:Nat->Prop} {w:World} {v:Value} {l:List Tm} (h:HTerms ok w v l):∃ a n c,v=.slice a n c:=by
 obtain ⟨_,⟨au,cu,rfl,_⟩,_⟩:=h;exact ⟨_,_,_,rfl⟩
theorem HDes.at {ok:Nat->Prop} {w:World} {v:Value} {l:List De} (h:HDes ok w v l) :
  ∃ ao cap,v=.slice ao l.length cap/\l.length<=cap/\cap<=maxLen/\∀ i (h:i<l.length),∃ b o au nu cu,ao=some ⟨b,o,none⟩/\b<w.heap.size/\w.cell? ⟨b,o+i*3,none⟩=some (.string (l[i]).name)/\w.cell? ⟨b,o+i*3+1,none⟩=some (.int .u8 (l[i]).elem)/\w.cell? ⟨b,o+i*3+2,none⟩=some (.slice au nu cu)/\HTerms ok w (.slice au nu cu) (l[i]).n:=by
 obtain ⟨C,⟨ao,cap,hv,h1,h2,h3⟩,hC⟩:=h;refine ⟨ao,cap,hv,h1,h2,fun i hi=>?_⟩;obtain ⟨b,o,ha,gG,hb,hc⟩:=h3 (by omega);obtain ⟨u,hu,ht⟩:=hC i hi;have t0:=(hc i hi).2 0 (by decide);have t1:=(hc i hi).2 1 (by decide);have t2:=(hc i hi).2 2 (by decide);rw [hu] at t0 t1 t2;obtain ⟨au,nu,cu,rfl⟩:=ht.form;exact ⟨b,o,au,nu,cu,ha,hb,by simpa using t0,by simpa using t1,by simpa using t2,ht⟩
end Go.Proofs.YtfhghlpfeeiaeaaGreatDoor
