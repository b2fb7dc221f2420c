import Derived.Test.YtophfbefnaelfaaGreatDoorM02
import Derived.Deep.RegionWith
import Derived.Deep.LoopGhost
set_option linter.unusedVariables false
set_option linter.unusedSimpArgs false
set_option maxHeartbeats 64000000
set_option maxRecDepth 100000
namespace Go.Proofs.YtophfbefnaelfaaGreatDoor
open Go.RowKit Go.IntWalk
abbrev Tm:=Int × ByteArray
inductive Ex where
 | mk (op k n:Int) (name:ByteArray) (S:List (List Tm)) (L:List Ex)
structure De where
 name:ByteArray
 elem:Int
 n:List Tm
structure Eqn where
 place:Int
 names:List ByteArray
 node:ByteArray
 S:List (List Tm)
 E:List Ex
structure Nd where
 name:ByteArray
 place:Int
 sizes:List ByteArray
 inn:List De
 out:List De
 loc:List De
 eqs:List Eqn
def Ex.op:Ex→Int | .mk o _ _ _ _ _=>o
def Ex.k:Ex→Int | .mk _ k _ _ _ _=>k
def Ex.n:Ex→Int | .mk _ _ n _ _ _=>n
def Ex.name:Ex→ByteArray | .mk _ _ _ s _ _=>s
def Ex.S:Ex→List (List Tm) | .mk _ _ _ _ S _=>S
def Ex.L:Ex→List Ex | .mk _ _ _ _ _ L=>L
def Sl (ok:Nat→Prop) (k:Nat) (w:World) (v:Value) (n:Nat) (C:Nat→List Value):Prop :=
 ∃ ao cap,v=.slice ao n cap∧n≤cap∧cap≤maxLen ∧
  (0<n→∃ b o,ao=some ⟨b,o,none⟩∧ok b∧b<w.heap.size∧∀ i,i<n→(C i).length=k∧∀ j,j<k→w.cell? ⟨b,o+i*k+j,none⟩=(C i)[j]?)
theorem Sl.keep {ok:Nat→Prop} {k:Nat} {w w':World} {v:Value} {n:Nat} {C:Nat→List Value} (h:Sl ok k w v n C)
  (hs:w.heap.size≤w'.heap.size) (hk:∀ i,ok i→i<w.heap.size→w'.heap[i]?=w.heap[i]?):Sl ok k w' v n C:=by
 obtain ⟨ao,cap,hv,h1,h2,h3⟩:=h;refine ⟨ao,cap,hv,h1,h2,fun hn=>?_⟩;obtain ⟨b,o,ha,hob,hb,hc⟩:=h3 hn;refine ⟨b,o,ha,hob,Nat.lt_of_lt_of_le hb hs,fun i hi=>⟨(hc i hi).1,fun j hj=>?_⟩⟩;rw [←(hc i hi).2 j hj];exact World.cell?_of_block (w:=w) (hk b hob hb)
theorem Sl.wide {ok ok':Nat→Prop} {k:Nat} {w:World} {v:Value} {n:Nat} {C:Nat→List Value} (h:Sl ok k w v n C) (hk:∀ i,ok i→i<w.heap.size→ok' i):Sl ok' k w v n C:=by
 obtain ⟨ao,cap,hv,h1,h2,h3⟩:=h;refine ⟨ao,cap,hv,h1,h2,fun hn=>?_⟩;obtain ⟨b,o,ha,hob,hb,hc⟩:=h3 hn;exact ⟨b,o,ha,hk b hob hb,hb,hc⟩
theorem Sl.nil {ok:Nat→Prop} {k:Nat} {w:World} {C:Nat→List Value}:Sl ok k w (.slice none 0 0) 0 C:=⟨none,0,rfl,Nat.le_refl _,Nat.zero_le _,fun h=>absurd h (Nat.lt_irrefl _)⟩
def HNames (ok:Nat→Prop) (w:World) (v:Value) (l:List ByteArray):Prop:=∃ C,Sl ok 1 w v l.length C∧∀ i (h:i<l.length),C i=[.string l[i]]
def HTerms (ok:Nat→Prop) (w:World) (v:Value) (l:List Tm):Prop:=∃ C,Sl ok 2 w v l.length C∧∀ i (h:i<l.length),C i=[.int .i64 (l[i]).1,.string (l[i]).2]
def HSizes (ok:Nat→Prop) (w:World) (v:Value) (l:List (List Tm)):Prop:=∃ C,Sl ok 1 w v l.length C∧∀ i (h:i<l.length),∃ u,C i=[u]∧HTerms ok w u l[i]
inductive HEx (ok:Nat→Prop) (w:World):List Value→Ex→Prop
 | mk {op k n:Int} {name:ByteArray} {S:List (List Tm)} {L:List Ex} {vS vL:Value} (C:Nat→List Value)
   (hS:HSizes ok w vS S) (hL:Sl ok 6 w vL L.length C) (hE:∀ i (h:i<L.length),HEx ok w (C i) L[i]) :
   HEx ok w [.int .i64 op,.int .i64 k,.int .i64 n,.string name,vS,vL] (.mk op k n name S L)
theorem HNames.keep {ok:Nat→Prop} {w w':World} {v:Value} {l:List ByteArray} (h:HNames ok w v l) (hs:w.heap.size≤w'.heap.size) (hk:∀ i,ok i→i<w.heap.size→w'.heap[i]?=w.heap[i]?):HNames ok w' v l:=by
 obtain ⟨C,h1,h2⟩:=h;exact ⟨C,h1.keep hs hk,h2⟩
theorem HTerms.keep {ok:Nat→Prop} {w w':World} {v:Value} {l:List Tm} (h:HTerms ok w v l) (hs:w.heap.size≤w'.heap.size) (hk:∀ i,ok i→i<w.heap.size→w'.heap[i]?=w.heap[i]?):HTerms ok w' v l:=by
 obtain ⟨C,h1,h2⟩:=h;exact ⟨C,h1.keep hs hk,h2⟩
theorem HSizes.keep {ok:Nat→Prop} {w w':World} {v:Value} {l:List (List Tm)} (h:HSizes ok w v l) (hs:w.heap.size≤w'.heap.size) (hk:∀ i,ok i→i<w.heap.size→w'.heap[i]?=w.heap[i]?):HSizes ok w' v l:=by
 obtain ⟨C,h1,h2⟩:=h;refine ⟨C,h1.keep hs hk,fun i hi=>?_⟩;obtain ⟨u,e,ht⟩:=h2 i hi;exact ⟨u,e,ht.keep hs hk⟩
theorem HEx.keep {ok:Nat→Prop} {w w':World} {cs:List Value} {e:Ex} (h:HEx ok w cs e) (hs:w.heap.size≤w'.heap.size) (hk:∀ i,ok i→i<w.heap.size→w'.heap[i]?=w.heap[i]?):HEx ok w' cs e:=by
 induction h with
 | mk C hS hL hE ih=>exact .mk C (hS.keep hs hk) (hL.keep hs hk) ih
theorem HTerms.wide {ok ok':Nat→Prop} {w:World} {v:Value} {l:List Tm} (h:HTerms ok w v l) (hk:∀ i,ok i→i<w.heap.size→ok' i):HTerms ok' w v l:=by
 obtain ⟨C,h1,h2⟩:=h;exact ⟨C,h1.wide hk,h2⟩
theorem HSizes.wide {ok ok':Nat→Prop} {w:World} {v:Value} {l:List (List Tm)} (h:HSizes ok w v l) (hk:∀ i,ok i→i<w.heap.size→ok' i):HSizes ok' w v l:=by
 obtain ⟨C,h1,h2⟩:=h;refine ⟨C,h1.wide hk,fun i hi=>?_⟩;obtain ⟨u,e,ht⟩:=h2 i hi;exact ⟨u,e,ht.wide hk⟩
theorem HEx.wide {ok ok':Nat→Prop} {w:World} {cs:List Value} {e:Ex} (h:HEx ok w cs e) (hk:∀ i,ok i→i<w.heap.size→ok' i):HEx ok' w cs e:=by
 induction h with
 | mk C hS hL hE ih=>exact .mk C (hS.wide hk) (hL.wide hk) ih
theorem HEx.aside {S:List Nat} {w w':World} {cs:List Value} {e:Ex} (h:HEx (· ∉ S) w cs e) (a:Aside S w.heap.size w w'):HEx (· ∉ S) w' cs e:=h.keep a.size fun i hi hl=>a.block i hl hi
theorem HEx.under {ok:Nat→Prop} {w w':World} {cs:List Value} {e:Ex} (h:HEx ok w cs e) (a:Below w.heap.size w w'):HEx ok w' cs e:=h.keep a.size fun i _ hl=>a.block i hl
theorem HEx.past {ok:Nat→Prop} {S:List Nat} {w w':World} {cs:List Value} {e:Ex} (h:HEx ok w cs e) (a:Aside S w.heap.size w w') (hS:∀ i,ok i→i ∉ S):HEx ok w' cs e:=h.keep a.size fun i hi hl=>a.block i hl (hS i hi)
theorem HEx.set {ok:Nat→Prop} {w:World} {cs:List Value} {e:Ex} (h:HEx ok w cs e) {p:Addr} (hp:¬ok p.block) (u:Value):HEx ok (w.setCell p u) cs e :=
 h.keep (by simp [World.setCell]) fun i hi hl=>Below.heap_setCell _ _ _ _ (fun e=>hp (e ▸ hi))
theorem HEx.leaf {ok:Nat→Prop} {w:World} (op k n:Int) (name:ByteArray):HEx ok w [.int .i64 op,.int .i64 k,.int .i64 n,.string name,.slice none 0 0,.slice none 0 0] (.mk op k n name [] []) :=
 .mk (fun _=>[]) ⟨fun _=>[],Sl.nil,fun i h=>absurd h (Nat.not_lt_zero _)⟩ Sl.nil (fun i h=>absurd h (Nat.not_lt_zero _))
structure ExV where
 op:Int
 k:Int
 n:Int
 name:ByteArray
 aS:Option Addr
 nS:Nat
 cS:Nat
 aL:Option Addr
 nL:Nat
 cL:Nat
def ExV.cells (x:ExV):List Value:=[.int .i64 x.op,.int .i64 x.k,.int .i64 x.n,.string x.name,.slice x.aS x.nS x.cS,.slice x.aL x.nL x.cL]
abbrev exC (y:ExV):Array Value:=#[.int .i64 y.op,.int .i64 y.k,.int .i64 y.n,.string y.name,.slice y.aS y.nS y.cS,.slice y.aL y.nL y.cL]
theorem HEx.toV {ok:Nat→Prop} {w:World} {cs:List Value} {e:Ex} (h:HEx ok w cs e):∃ x:ExV,cs=x.cells∧HEx ok w x.cells e:=by
 have h0:=h
 cases h with
 | @mk op k n name S L vS vL C hS hL hE=>
  obtain ⟨CS,⟨aS,cS,rfl,_⟩,_⟩:=hS;obtain ⟨aL,cL,rfl,_⟩:=hL;exact ⟨⟨op,k,n,name,aS,S.length,cS,aL,L.length,cL⟩,rfl,h0⟩
theorem HEx.pair {ok:Nat→Prop} {w:World} {x y:ExV} {a c:Ex} (k:Int) (hx:HEx ok w x.cells a) (hy:HEx ok w y.cells c) (t:TypeId) (hok:ok w.heap.size) :
  HEx ok (w.alloc (.cells #[.int .i64 x.op,.int .i64 x.k,.int .i64 x.n,.string x.name,.slice x.aS x.nS x.cS,.slice x.aL x.nL x.cL,.int .i64 y.op,.int .i64 y.k,.int .i64 y.n,.string y.name,.slice y.aS y.nS y.cS,.slice y.aL y.nL y.cL] t (0,0)))
   [.int .i64 5,.int .i64 k,.int .i64 0,.string ⟨#[]⟩,.slice none 0 0,.slice (some ⟨w.heap.size,0,none⟩) 2 2] (.mk 5 k 0 ⟨#[]⟩ [] [a,c]):=by
 have hn:=heap_new w (.cells #[.int .i64 x.op,.int .i64 x.k,.int .i64 x.n,.string x.name,.slice x.aS x.nS x.cS,.slice x.aL x.nL x.cL,.int .i64 y.op,.int .i64 y.k,.int .i64 y.n,.string y.name,.slice y.aS y.nS y.cS,.slice y.aL y.nL y.cL] t (0,0));have hb:=((Below.refl w.heap.size w).alloc nR (.cells #[.int .i64 x.op,.int .i64 x.k,.int .i64 x.n,.string x.name,.slice x.aS x.nS x.cS,.slice x.aL x.nL x.cL,.int .i64 y.op,.int .i64 y.k,.int .i64 y.n,.string y.name,.slice y.aS y.nS y.cS,.slice y.aL y.nL y.cL] t (0,0)));refine .mk (fun i=>if i=0 then x.cells else y.cells) ⟨fun _=>[],Sl.nil,fun i h=>absurd h (Nat.not_lt_zero _)⟩ ⟨_,2,rfl,Nat.le_refl _,by decide,fun _=>⟨_,0,rfl,hok,lt_of hn,fun i hi=>?_⟩⟩ (fun i hi=>?_)
 ·match i,hi with
  | 0,_=>exact ⟨rfl,fun j hj=>by rw [co hn];match j,hj with | 0,_=>rfl | 1,_=>rfl | 2,_=>rfl | 3,_=>rfl | 4,_=>rfl | 5,_=>rfl⟩
  | 1,_=>exact ⟨rfl,fun j hj=>by rw [co hn];match j,hj with | 0,_=>rfl | 1,_=>rfl | 2,_=>rfl | 3,_=>rfl | 4,_=>rfl | 5,_=>rfl⟩
 ·match i,hi with
  | 0,_=>exact hx.under hb
  | 1,_=>exact hy.under hb
def signOp (t:List UInt8):Int :=
 if t==[43] then 1 else if t==[45] then 2 else if t==[42] then 3 else if t==[47] then 4 else if t==[37] then 5 else
 if t==[60] then 8 else if t==[61,61] then 9 else if t==[97,110,100] then 10 else if t==[111,114] then 11 else if t==[120,111,114] then 12 else 0
theorem signOp_any (t:List UInt8) (w:World):Calls Tryz.prog 172 #[.string (str t)] w fun e w'=>e=.returned (.int .i64 (signOp t))∧w'=w:=by
 obtain ⟨r,hr⟩:=nmQ (signOp t);rw [←hr];have HR:=hide hr;clear hr;have ht:(str t).toList=t:=(by rw [Lib.toList_data];rfl);go_enter Tryz.func172,Tryz.ntmps172;go_wp2
 all_goals go_ret
 all_goals refine ⟨ret_int ?_,rfl⟩
 all_goals (have hr:=HR.out;simp [signOp, *] at hr ⊢)
 all_goals (try simp_all)
def btw (a c:Int) (t:List UInt8):Int:=if signOp t<a∨c<signOp t then 0 else signOp t
theorem between_any {w:World} {b g cap:Nat} {L:List Tk.Tok} {len nx op:Nat} (h:Rd w b g cap L len nx op) (a c:Int) :
  Calls Tryz.prog 169 #[.pointer (some ⟨b,0,none⟩),.int .i64 a,.int .i64 c] w fun e w'=>e=.returned (.int .i64 (btw a c (peekT L len nx).text))∧Below w.heap.size w w':=by
 have hp:=@peek_any _ _ _ _ _ _ _ _ h;obtain ⟨t,ht⟩:=nmQ (peekT L len nx);rw [←ht] at hp ⊢;unfold tokV at hp;clear h ht;have hf:=fun x w=>tok_field2 t x w;obtain ⟨r,hr⟩:=nmQ (btw a c t.text);rw [←hr];obtain ⟨s,hs⟩:=nmQ (signOp t.text);unfold btw at hr;rw [←hs] at hr;have HR:=hide hr;clear hr;go_enter Tryz.func169,Tryz.ntmps169;go_wp2_with fail;refine hp.mono ?_;rintro e w' ⟨rfl,hb⟩;go_wp2_with fail;refine (signOp_any _ _).mono ?_;rintro e w'' ⟨rfl,rfl⟩;rw [←hs];clear hs;go_wp2
 all_goals go_ret
 all_goals refine ⟨ret_int ?_,hb⟩
 all_goals (have hr:=HR.out;simp_all)
 all_goals omega
def Gives (F b g cap:Nat) (L:List Tk.Tok) (len op nx n1:Nat) (e:Ex):Prop :=
 nx≤n1∧∀ w,Rd w b g cap L len nx op→Calls Tryz.prog F #[.pointer (some ⟨b,0,none⟩)] w fun r w'=>∃ x:ExV,
  r=.returned (.agg #[.int .i64 x.op,.int .i64 x.k,.int .i64 x.n,.string x.name,.slice x.aS x.nS x.cS,.slice x.aL x.nL x.cL])∧HEx (fun i=>w.heap.size≤i) w' x.cells e∧Rd w' b g cap L len n1 op∧Aside [b] w.heap.size w w'
inductive Rem (F b g cap:Nat) (L:List Tk.Tok) (len op:Nat) (a c:Int):Nat→Ex→Nat→Ex→Prop
 | stop {n:Nat} {e:Ex}:btw a c (peekT L len n).text=0→Rem F b g cap L len op a c n e n e
 | step {n n' m:Nat} {e r x:Ex} {k:Int}:btw a c (peekT L len n).text=k→k≠0→n<L.length→Gives F b g cap L len op (n+1) n' r→Rem F b g cap L len op a c n' (.mk 5 k 0 ⟨#[]⟩ [] [e,r]) m x→Rem F b g cap L len op a c n e m x
theorem pair_any {w:World} {ok:Nat→Prop} {x y:ExV} {e f:Ex} (k:Int) (hx:HEx ok w x.cells e) (hy:HEx ok w y.cells f) (hok:∀ i,w.heap.size≤i→ok i) :
  Calls Tryz.prog 170 #[.int .i64 k,.agg #[.int .i64 x.op,.int .i64 x.k,.int .i64 x.n,.string x.name,.slice x.aS x.nS x.cS,.slice x.aL x.nL x.cL],.agg #[.int .i64 y.op,.int .i64 y.k,.int .i64 y.n,.string y.name,.slice y.aS y.nS y.cS,.slice y.aL y.nL y.cL]] w fun r w'=>∃ z:ExV,
   r=.returned (.agg #[.int .i64 z.op,.int .i64 z.k,.int .i64 z.n,.string z.name,.slice z.aS z.nS z.cS,.slice z.aL z.nL z.cL])∧HEx ok w' z.cells (.mk 5 k 0 ⟨#[]⟩ [] [e,f])∧Below w.heap.size w w':=by
 go_enter Tryz.func170,Tryz.ntmps170;go_wp2;obtain ⟨W,hW⟩:∃ W,W=(((w.alloc (Obj.cells #[.int .i64 x.op,.int .i64 x.k,.int .i64 x.n,.string x.name,.slice x.aS x.nS x.cS,.slice x.aL x.nL x.cL] 88 (0,0))).alloc (Obj.cells #[.int .i64 y.op,.int .i64 y.k,.int .i64 y.n,.string y.name,.slice y.aS y.nS y.cS,.slice y.aL y.nL y.cL] 88 (0,0))).alloc
   (Obj.cells #[.int .i64 5,.int .i64 k,.int .i64 0,.string ⟨#[]⟩,.slice none 0 0,.slice (some ⟨w.heap.size+1+1+1,0,none⟩) 2 2] 88 (0,0))):=⟨_,rfl⟩
 have hz:W.heap.size=w.heap.size+1+1+1:=(by rw [hW];simp);have hbW:Below w.heap.size w W:=(by rw [hW];exact (((Below.refl _ w).alloc nR _).alloc (by simp) _).alloc (by simp;omega) _);have hc:W.heap[w.heap.size+1+1]?=some (.cells #[.int .i64 5,.int .i64 k,.int .i64 0,.string ⟨#[]⟩,.slice none 0 0,.slice (some ⟨w.heap.size+1+1+1,0,none⟩) 2 2] 88 (0,0)):=by
  rw [hW];have:=heap_new ((w.alloc (Obj.cells #[.int .i64 x.op,.int .i64 x.k,.int .i64 x.n,.string x.name,.slice x.aS x.nS x.cS,.slice x.aL x.nL x.cL] 88 (0,0))).alloc (Obj.cells #[.int .i64 y.op,.int .i64 y.k,.int .i64 y.n,.string y.name,.slice y.aS y.nS y.cS,.slice y.aL y.nL y.cL] 88 (0,0))) (Obj.cells #[.int .i64 5,.int .i64 k,.int .i64 0,.string ⟨#[]⟩,.slice none 0 0,.slice (some ⟨w.heap.size+1+1+1,0,none⟩) 2 2] 88 (0,0))
  simpa using this
 rw [←hW];have hp:=HEx.pair k (hx.under hbW) (hy.under hbW) 88 (hok _ (by omega));rw [hz] at hp;obtain ⟨W',hW'⟩:∃ W',W'=W.alloc (Obj.cells #[.int .i64 x.op,.int .i64 x.k,.int .i64 x.n,.string x.name,.slice x.aS x.nS x.cS,.slice x.aL x.nL x.cL,.int .i64 y.op,.int .i64 y.k,.int .i64 y.n,.string y.name,.slice y.aS y.nS y.cS,.slice y.aL y.nL y.cL] 88 (0,0)):=⟨_,rfl⟩;have hb':Below w.heap.size w W':=(by rw [hW'];exact hbW.alloc (by omega) _);have hc':W'.heap[w.heap.size+1+1]?=some (.cells #[.int .i64 5,.int .i64 k,.int .i64 0,.string ⟨#[]⟩,.slice none 0 0,.slice (some ⟨w.heap.size+1+1+1,0,none⟩) 2 2] 88 (0,0)):=(by rw [hW'];exact kA hc _);rw [←hW'] at hp ⊢;have c0:=co hc' 0;have c1:=co hc' 1;have c2:=co hc' 2;have c3:=co hc' 3;have c4:=co hc' 4;have c5:=co hc' 5;simp at c0 c1 c2 c3 c4 c5;exact bodyPost_ret (v:=.agg #[.int .i64 5,.int .i64 k,.int .i64 0,.string ⟨#[]⟩,.slice none 0 0,.slice (some ⟨w.heap.size+1+1+1,0,none⟩) 2 2]) (by simp [results,Tryz.results170,go_sem,c0,c1,c2,c3,c4,c5]) rfl ⟨⟨5,k,0,⟨#[]⟩,none,0,0,some ⟨w.heap.size+1+1+1,0,none⟩,2,2⟩,rfl,hp,hb'⟩
theorem Rem.le {F b g cap:Nat} {L:List Tk.Tok} {len op:Nat} {a c:Int} {n m:Nat} {e x:Ex} (h:Rem F b g cap L len op a c n e m x):n≤m:=by
 induction h with
 | stop _=>exact Nat.le_refl _
 | step _ _ _ hG _ ih=>have:=hG.1;omega
end Go.Proofs.YtophfbefnaelfaaGreatDoor
namespace Go.Proofs.YtophfbefnaelfaaGreatDoor
inductive Res (α:Type) where
 | ok (v:α) (n:Nat)
 | err (c a:Nat)
def Res.bind {α β:Type}:Res α→(α→Nat→Res β)→Res β
 | .ok v n,k=>k v n
 | .err c a,_=>.err c a
structure Inp where
 L:List Tk.Tok
 len:Nat
def Inp.pk (I:Inp) (n:Nat):Tk.Tok:=peekT I.L I.len n
namespace Ps
def sees (I:Inp) (s:List UInt8) (n:Nat):Bool:=(I.pk n).text==s
def refC (I:Inp) (n:Nat):Nat:=if (I.pk n).kind=0 then 5 else 4
def refuse {α:Type} (I:Inp) (n:Nat):Res α:=.err (refC I n) (I.pk n).place
def need (I:Inp) (s:List UInt8) (n:Nat):Res Unit:=if sees I s n=true then .ok () (n+1) else refuse I n
def name (I:Inp) (n:Nat):Res ByteArray:=if (I.pk n).kind=2 then .ok (str (I.pk n).text) (n+1) else refuse I n
def row {α:Type} (I:Inp) (read:Nat→Res α):Nat→List α→Nat→Res (List α)
 | 0,_,n=>.err 7 (I.pk n).place
 | f+1,acc,n=>(read n).bind fun v n1=>if sees I [44] n1=true then row I read f (acc++[v]) (n1+1) else .ok (acc++[v]) n1
def sg (minus:Bool) (x:Int):Int:=if minus=true then RowKit.wrap64 (-x) else x
def term (I:Inp) (minus:Bool) (n:Nat):Res Tm :=
 if (I.pk n).kind=3 then
  if sees I [42] (n+1)=true then (name I (n+2)).bind fun s n1=>.ok (sg minus (I.pk n).n,s) n1 else .ok (sg minus (I.pk n).n,⟨#[]⟩) (n+1)
 else (name I n).bind fun s n1=>.ok (sg minus 1,s) n1
def terms (I:Inp):Nat→List Tm→Nat→Res (List Tm)
 | 0,acc,n=>if sees I [43] n=true∨sees I [45] n=true then .err 7 (I.pk n).place else .ok acc n
 | f+1,acc,n=>if sees I [43] n=true∨sees I [45] n=true then (term I (sees I [45] n) (n+1)).bind fun t n1=>terms I f (acc++[t]) n1 else .ok acc n
def size (I:Inp) (n:Nat):Res (List Tm) :=
 (term I (sees I [45] n) (if sees I [45] n=true then n+1 else n)).bind fun t n1=>terms I 29 [t] n1
def declN (I:Inp) (s:ByteArray) (e:Int) (n:Nat):Res De:=if sees I [94] n=true then (size I (n+1)).bind fun z n1=>.ok ⟨s,e,z⟩ n1 else .ok ⟨s,e,[]⟩ n
def decl (I:Inp) (n:Nat):Res De :=
 (name I n).bind fun s n1=>(need I [58] n1).bind fun _ n2=>
  if sees I [105,110,116] n2=true then declN I s 105 (n2+1) else if sees I [98,111,111,108] n2=true then declN I s 98 (n2+1) else refuse I n2
def more (I:Inp) (R:Nat→Res Ex) (a c:Int):Nat→Ex→Nat→Res Ex
 | 0,e,n=>.ok e n
 | f+1,e,n=>if btw a c (I.pk n).text=0 then .ok e n else (R (n+1)).bind fun r n1=>more I R a c f (.mk 5 (btw a c (I.pk n).text) 0 ⟨#[]⟩ [] [e,r]) n1
def fromLeft (I:Inp) (R:Nat→Res Ex) (a c:Int) (n:Nat):Res Ex:=(R n).bind fun e n1=>more I R a c (I.L.length-n1) e n1
def cmp (I:Inp) (R:Nat→Res Ex) (n:Nat):Res Ex :=
 (R n).bind fun e n1=>if btw 8 9 (I.pk n1).text=0 then .ok e n1 else (R (n1+1)).bind fun r n2=>.ok (.mk 5 (btw 8 9 (I.pk n1).text) 0 ⟨#[]⟩ [] [e,r]) n2
def sum (I:Inp) (A:Nat→Res Ex):Nat→Res Ex:=fromLeft I (fromLeft I A 3 5) 1 2
def exprOf (I:Inp) (A:Nat→Res Ex):Nat→Res Ex:=fromLeft I (fromLeft I (cmp I (sum I A)) 10 10) 11 12
def opn (I:Inp) (J:Option (Nat→Res Ex)) (n:Nat) (k:(Nat→Res Ex)→Nat→Res Ex):Res Ex :=
 match J with
 | none=>.err 6 (I.pk n).place
 | some A=>k A (n+1)
def words:List (List UInt8):=[[97,100,100],[115,117,98],[109,117,108],[100,105,118],[109,111,100],[109,105,110],[109,97,120],[108,101,115,115],[101,113],[97,110,100],[111,114],[120,111,114],[110,101,103],[110,111,116]]
def wordAt (I:Inp) (n:Nat):List (List UInt8)→Int→Option Int
 | [],_=>none
 | x :: xs,k=>if sees I x n=true then some k else wordAt I n xs (k+1)
def oper (I:Inp) (n:Nat):Res Int:=match wordAt I n words 1 with | some k=>.ok k (n+1) | none=>refuse I n
inductive Pt where
 | part | size | oper | oneOrTwo
def Ex.addL (e:Ex) (x:Ex):Ex:=.mk e.op e.k e.n e.name e.S (e.L++[x])
def Ex.addS (e:Ex) (s:List Tm):Ex:=.mk e.op e.k e.n e.name (e.S++[s]) e.L
def Ex.setK (e:Ex) (k:Int):Ex:=.mk e.op k e.n e.name e.S e.L
def part (I:Inp) (E:Nat→Res Ex) (p:Pt) (e:Ex) (n:Nat):Res Ex :=
 match p with
 | .part=>(E n).bind fun x n1=>.ok (Ex.addL e x) n1
 | .size=>(size I n).bind fun s n1=>.ok (Ex.addS e s) n1
 | .oper=>(oper I n).bind fun k n1=>.ok (Ex.setK e k) n1
 | .oneOrTwo=>(E n).bind fun x n1=>if sees I [44] n1=true then (E (n1+1)).bind fun y n2=>.ok (Ex.addL (Ex.addL e x) y) n2 else .ok (Ex.addL e x) n1
def parts (I:Inp) (E:Nat→Res Ex):List Pt→Ex→Nat→Res Ex
 | [],e,n=>.ok e n
 | p :: ps,e,n=>(need I [44] n).bind fun _ n1=>(part I E p e n1).bind fun e1 n2=>parts I E ps e1 n2
def brackets (I:Inp) (E:Nat→Res Ex) (p:Pt) (ps:List Pt) (e:Ex) (n:Nat):Res Ex :=
 (need I [40] n).bind fun _ n1=>(part I E p e n1).bind fun e1 n2=>(parts I E ps e1 n2).bind fun e2 n3=>(need I [41] n3).bind fun _ n4=>.ok e2 n4
def bare (op k:Int):Ex:=.mk op k 0 ⟨#[]⟩ [] []
def form (I:Inp) (J:Option (Nat→Res Ex)) (n:Nat):Res Ex :=
 let go (op k:Int) (p:Pt) (ps:List Pt):Res Ex:=opn I J n fun A n1=>brackets I (exprOf I A) p ps (bare op k) n1
 if sees I [109,105,110] n=true then go 5 6 .part [.part]
 else if sees I [109,97,120] n=true then go 5 7 .part [.part]
 else if sees I [109,97,112] n=true then go 7 0 .oper [.oneOrTwo]
 else if sees I [102,111,108,100] n=true then go 8 0 .oper [.part,.part]
 else if sees I [115,99,97,110] n=true then go 9 0 .oper [.part,.part]
 else if sees I [102,105,108,108] n=true then go 10 0 .part [.size]
 else if sees I [119,105,116,104] n=true then go 12 0 .part [.part,.part]
 else if sees I [115,108,105,99,101] n=true then go 13 0 .part [.size,.size]
 else if sees I [99,97,116] n=true then go 14 0 .part [.part]
 else if sees I [112,114,101] n=true then go 15 0 .part [.part]
 else refuse I n
def bracketed (I:Inp) (E:Nat→Res Ex) (n:Nat):Res Ex:=(E n).bind fun e n1=>(need I [41] n1).bind fun _ n2=>.ok e n2
def choice (I:Inp) (E:Nat→Res Ex) (n:Nat):Res Ex :=
 (E n).bind fun t n1=>(need I [116,104,101,110] n1).bind fun _ n2=>(E n2).bind fun y n3=>(need I [101,108,115,101] n3).bind fun _ n4=>(E n4).bind fun z n5=>
  .ok (.mk 6 0 0 ⟨#[]⟩ [] [t,y,z]) n5
def unit (I:Inp) (J:Option (Nat→Res Ex)) (n:Nat):Res Ex :=
 if (I.pk n).kind=3 then .ok (.mk 1 0 (I.pk n).n ⟨#[]⟩ [] []) (n+1)
 else if (I.pk n).kind=2 then .ok (.mk 3 0 0 (str (I.pk n).text) [] []) (n+1)
 else if sees I [116,114,117,101] n=true then .ok (.mk 2 0 1 ⟨#[]⟩ [] []) (n+1)
 else if sees I [102,97,108,115,101] n=true then .ok (.mk 2 0 0 ⟨#[]⟩ [] []) (n+1)
 else if sees I [40] n=true then opn I J n fun A n1=>bracketed I (exprOf I A) n1
 else if sees I [105,102] n=true then opn I J n fun A n1=>choice I (exprOf I A) n1
 else form I J n
def index (I:Inp) (E:Nat→Res Ex) (e:Ex) (n:Nat):Res Ex :=
 (E n).bind fun x n1=>(need I [58] n1).bind fun _ n2=>(E n2).bind fun y n3=>(need I [93] n3).bind fun _ n4=>.ok (.mk 11 0 0 ⟨#[]⟩ [] [e,x,y]) n4
def indices (I:Inp) (J:Option (Nat→Res Ex)):Nat→Ex→Nat→Res Ex
 | 0,e,n=>.ok e n
 | f+1,e,n=>if sees I [91] n=true then (opn I J n fun A n1=>index I (exprOf I A) e n1).bind fun e1 n1=>indices I J f e1 n1 else .ok e n
def signed (A:Nat→Res Ex) (k:Int) (n:Nat):Res Ex:=(A n).bind fun e n1=>.ok (.mk 4 k 0 ⟨#[]⟩ [] [e]) n1
def aheadS (I:Inp) (J:Option (Nat→Res Ex)) (n:Nat):Res Ex :=
 if sees I [45] n=true then opn I J n fun A n1=>signed A 13 n1
 else if sees I [110,111,116] n=true then opn I J n fun A n1=>signed A 14 n1
 else (unit I J n).bind fun e n1=>indices I J (I.L.length-n1) e n1
def ahead (I:Inp):Nat→Nat→Res Ex
 | 0=>aheadS I none
 | d+1=>aheadS I (some (ahead I d))
def expr (I:Inp) (d:Nat):Nat→Res Ex:=exprOf I (ahead I d)
mutual
def count:Ex→Nat
 | .mk _ _ _ _ _ L=>1+countL L
def countL:List Ex→Nat
 | []=>0
 | x :: xs=>count x+countL xs
end
def whole (I:Inp) (n:Nat):Res Ex:=(expr I 60 n).bind fun e n1=>if 30<count e then .err 7 (I.pk n).place else .ok e n1
def call (I:Inp) (at0:Int) (l:List ByteArray) (n:Nat):Res Eqn :=
 (need I [99,97,108,108] n).bind fun _ n1=>(name I n1).bind fun s n2=>
  (if sees I [60] n2=true then (row I (size I) 3 [] (n2+1)).bind fun z n3=>(need I [62] n3).bind fun _ n4=>.ok z n4 else .ok [] n2).bind fun z n5=>
  (need I [40] n5).bind fun _ n6=>
  (if sees I [41] n6=true then .ok [] (n6+1) else (row I (whole I) 30 [] n6).bind fun e n7=>(need I [41] n7).bind fun _ n8=>.ok e n8).bind fun e n9=>
  .ok ⟨at0,l,s,z,e⟩ n9
def equation (I:Inp) (n:Nat):Res Eqn :=
 (row I (name I) 30 [] n).bind fun l n1=>(need I [61] n1).bind fun _ n2=>
  if l.length=1∧sees I [99,97,108,108] n2=false then (whole I n2).bind fun e n3=>.ok ⟨(I.pk n).place,l,⟨#[]⟩,[],[e]⟩ n3 else call I (I.pk n).place l n2
def line (I:Inp) (loc:List De) (eqs:List Eqn) (n:Nat):Res (List De × List Eqn):=
  (if sees I [118,97,114] n=true then if 30≤loc.length then .err 7 (I.pk (n+1)).place else (decl I (n+1)).bind fun d n1=>.ok (loc++[d],eqs) n1
   else if (I.pk n).kind=2∧60≤eqs.length then .err 7 (I.pk n).place else (equation I n).bind fun q n1=>.ok (loc,eqs++[q]) n1).bind fun p n2=>
  (need I [59] n2).bind fun _ n3=>.ok p n3
def lines (I:Inp):Nat→List De→List Eqn→Nat→Res (List De × List Eqn)
 | 0,loc,eqs,n=>.ok (loc,eqs) (n+1)
 | f+1,loc,eqs,n=>if sees I [125] n=true then .ok (loc,eqs) (n+1) else (line I loc eqs n).bind fun p n1=>lines I f p.1 p.2 n1
def node (I:Inp) (n:Nat):Res Nd :=
 (need I [110,111,100,101] n).bind fun _ n1=>(name I n1).bind fun s n2=>
  (if sees I [60] n2=true then (row I (name I) 3 [] (n2+1)).bind fun z n3=>(need I [62] n3).bind fun _ n4=>.ok z n4 else .ok [] n2).bind fun z n5=>
  (need I [40] n5).bind fun _ n6=>
  (if sees I [41] n6=true then .ok [] (n6+1) else (row I (decl I) 30 [] n6).bind fun l n7=>(need I [41] n7).bind fun _ n8=>.ok l n8).bind fun inn n9=>
  (need I [45,62] n9).bind fun _ n10=>(need I [40] n10).bind fun _ n11=>(row I (decl I) 30 [] n11).bind fun out n12=>(need I [41] n12).bind fun _ n13=>(need I [123] n13).bind fun _ n14=>
  (lines I (I.L.length-n14+1) [] [] n14).bind fun p n15=>.ok ⟨s,(I.pk n).place,z,inn,out,p.1,p.2⟩ n15
def nodes (I:Inp):Nat→List Nd→Nat→Res (List Nd)
 | 0,acc,n=>if (I.pk n).kind=0 then .ok acc n else if sees I [110,111,100,101] n=true then .err 7 (I.pk n).place else refuse I n
 | f+1,acc,n=>if (I.pk n).kind=0 then .ok acc n else (node I n).bind fun x n1=>nodes I f (acc++[x]) n1
def program (I:Inp):Res (List Nd):=(node I 0).bind fun x n=>nodes I 9 [x] n
end Ps
def parseT (t:List UInt8):List Nd × Int × Int :=
 match Tk.scan t with
 | (L,c,a)=>if c=0 then match Ps.program ⟨L,t.length⟩ with | .ok l _=>(l,0,0) | .err c a=>([],c,a) else ([],c,a)
end Go.Proofs.YtophfbefnaelfaaGreatDoor
namespace Go.Proofs.YtophfbefnaelfaaGreatDoor
open Go.RowKit Go.IntWalk
theorem enter112 (args:Array Value) (w:World):(callFunc 168 args).run Tryz.prog w=.ok (.enter 168 args) w:=by kernel_rfl
theorem enter115 (args:Array Value) (w:World):(callFunc 171 args).run Tryz.prog w=.ok (.enter 171 args) w:=by kernel_rfl
theorem enter118 (args:Array Value) (w:World):(callFunc 174 args).run Tryz.prog w=.ok (.enter 174 args) w:=by kernel_rfl
theorem enter119 (args:Array Value) (w:World):(callFunc 175 args).run Tryz.prog w=.ok (.enter 175 args) w:=by kernel_rfl
theorem unit_name {b g cap:Nat} {L:List Tk.Tok} {len op nx:Nat} (hk:(peekT L len nx).kind=2) (hn:nx<L.length):Gives 177 b g cap L len op nx (nx+1) (.mk 3 0 0 (str (peekT L len nx).text) [] []):=by
 refine ⟨Nat.le_succ _,fun w h=>?_⟩;have hb:=h.bb;have hg:=h.gb;have hp:=fun o=>@peek_any _ _ _ _ _ _ _ _ (h.alloc o);obtain ⟨t,ht⟩:=nmQ (peekT L len nx);rw [←ht] at hk ⊢;have hp':∀ o,Calls Tryz.prog 91 #[.pointer (some ⟨b,0,none⟩)] (w.alloc o) fun e w'=>e=.returned (.agg #[.int .i64 2,.int .i64 (t.place:Int),.string (str t.text),.int .i64 t.n])∧Below (w.alloc o).heap.size (w.alloc o) w':=by
  intro o;have:=hp o;rw [←ht] at this;unfold tokV at this;rw [hk] at this;exact this
 clear ht hp;go_enter Tryz.func177,Tryz.ntmps177;go_wp2_with fail;refine (hp' _).mono ?_;rintro r w1 ⟨rfl,b1⟩;have z1:w.heap.size+1≤w1.heap.size:=(by simpa using b1.size);have hA1:=(aside b1 (S:=[])).keep (heap_new w _) (by simp) (by simp);have h1:=(h.alloc _).below b1;have A1:=((Aside.refl (S:=[b]) (B:=w.heap.size) w).alloc nR _).trans (aside b1) (by simp);clear b1;go_wp2_with fail;refine (step_any (h1.alloc _) hn).mono ?_;rintro r w2 ⟨rfl,h2,a2⟩;have hA2:=a2.keep (kA hA1 _) (by simp;omega) (by simp;omega);have hT2:=a2.keep (heap_new w1 _) (by simp) (by simp;omega);have A2:=(A1.alloc (by omega) _).trans a2 (by simp;omega);have ct2:=co hT2 2;have ct3:=co hT2 3;have fa:=fun o=>fo hA2 o;have ca0:=co hA2 0;have ca1:=co hA2 1;have ca2:=co hA2 2;have ca3:=co hA2 3;have ca4:=co hA2 4;have ca5:=co hA2 5;simp at ca0 ca1 ca2 ca3 ca4 ca5 ct2 ct3;go_wp2;refine bodyPost_ret (v:=.agg #[.int .i64 3,.int .i64 0,.int .i64 0,.string (str t.text),.slice none 0 0,.slice none 0 0]) (by simp [results,Tryz.results177,go_sem,ca0,ca1,ca2,ca3,ca4,ca5]) rfl ⟨⟨3,0,0,str t.text,none,0,0,none,0,0⟩,rfl,HEx.leaf _ _ _ _,?_,?_⟩
 ·exact (((((h2.set (by simp;omega) (by simp;omega) _).set (by simp;omega) (by simp;omega) _).set (by simp;omega) (by simp;omega) _).set (by simp;omega) (by simp;omega) _).set (by simp;omega) (by simp;omega) _).set (by simp;omega) (by simp;omega) _
 ·exact (((((A2.set (by simp) _).set (by simp) _).set (by simp) _).set (by simp) _).set (by simp) _).set (by simp) _
theorem unit_num {b g cap:Nat} {L:List Tk.Tok} {len op nx:Nat} (hk:(peekT L len nx).kind=3) (hn:nx<L.length):Gives 177 b g cap L len op nx (nx+1) (.mk 1 0 (peekT L len nx).n ⟨#[]⟩ [] []):=by
 refine ⟨Nat.le_succ _,fun w h=>?_⟩;have hb:=h.bb;have hg:=h.gb;have hp:=fun o=>@peek_any _ _ _ _ _ _ _ _ (h.alloc o);obtain ⟨t,ht⟩:=nmQ (peekT L len nx);rw [←ht] at hk ⊢;have hp':∀ o,Calls Tryz.prog 91 #[.pointer (some ⟨b,0,none⟩)] (w.alloc o) fun e w'=>e=.returned (.agg #[.int .i64 3,.int .i64 (t.place:Int),.string (str t.text),.int .i64 t.n])∧Below (w.alloc o).heap.size (w.alloc o) w':=by
  intro o;have:=hp o;rw [←ht] at this;unfold tokV at this;rw [hk] at this;exact this
 clear ht hp;go_enter Tryz.func177,Tryz.ntmps177;go_wp2_with fail;refine (hp' _).mono ?_;rintro r w1 ⟨rfl,b1⟩;have z1:w.heap.size+1≤w1.heap.size:=(by simpa using b1.size);have hA1:=(aside b1 (S:=[])).keep (heap_new w _) (by simp) (by simp);have h1:=(h.alloc _).below b1;have A1:=((Aside.refl (S:=[b]) (B:=w.heap.size) w).alloc nR _).trans (aside b1) (by simp);clear b1;go_wp2_with fail;refine (step_any (h1.alloc _) hn).mono ?_;rintro r w2 ⟨rfl,h2,a2⟩;have hA2:=a2.keep (kA hA1 _) (by simp;omega) (by simp;omega);have hT2:=a2.keep (heap_new w1 _) (by simp) (by simp;omega);have A2:=(A1.alloc (by omega) _).trans a2 (by simp;omega);have ct2:=co hT2 2;have ct3:=co hT2 3;have fa:=fun o=>fo hA2 o;have ca0:=co hA2 0;have ca1:=co hA2 1;have ca2:=co hA2 2;have ca3:=co hA2 3;have ca4:=co hA2 4;have ca5:=co hA2 5;simp at ca0 ca1 ca2 ca3 ca4 ca5 ct2 ct3;go_wp2;refine bodyPost_ret (v:=.agg #[.int .i64 1,.int .i64 0,.int .i64 t.n,.string ⟨#[]⟩,.slice none 0 0,.slice none 0 0]) (by simp [results,Tryz.results177,go_sem,ca0,ca1,ca2,ca3,ca4,ca5]) rfl ⟨⟨1,0,t.n,⟨#[]⟩,none,0,0,none,0,0⟩,rfl,HEx.leaf _ _ _ _,?_,?_⟩
 ·exact (((((h2.set (by simp;omega) (by simp;omega) _).set (by simp;omega) (by simp;omega) _).set (by simp;omega) (by simp;omega) _).set (by simp;omega) (by simp;omega) _).set (by simp;omega) (by simp;omega) _).set (by simp;omega) (by simp;omega) _
 ·exact (((((A2.set (by simp) _).set (by simp) _).set (by simp) _).set (by simp) _).set (by simp) _).set (by simp) _
end Go.Proofs.YtophfbefnaelfaaGreatDoor
