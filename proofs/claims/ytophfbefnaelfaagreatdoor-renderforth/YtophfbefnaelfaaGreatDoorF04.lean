import Derived.Test.YtophfbefnaelfaaGreatDoorF03
import Derived.Deep.RegionWith
import Derived.Deep.LoopGhost
set_option linter.unusedVariables false
set_option linter.unusedSimpArgs false
set_option maxHeartbeats 64000000
set_option maxRecDepth 100000
namespace Go.Proofs.YtophfbefnaelfaaGreatDoor
open Go.RowKit Go.IntWalk
abbrev Tm:=Int × ByteArray
inductive Ex where
 | mk (op k n:Int) (name:ByteArray) (S:List (List Tm)) (L:List Ex)
structure De where
 name:ByteArray
 elem:Int
 n:List Tm
structure Eqn where
 place:Int
 names:List ByteArray
 node:ByteArray
 S:List (List Tm)
 E:List Ex
structure Nd where
 name:ByteArray
 place:Int
 sizes:List ByteArray
 inn:List De
 out:List De
 loc:List De
 eqs:List Eqn
def Ex.op:Ex→Int | .mk o _ _ _ _ _=>o
def Ex.k:Ex→Int | .mk _ k _ _ _ _=>k
def Ex.n:Ex→Int | .mk _ _ n _ _ _=>n
def Ex.name:Ex→ByteArray | .mk _ _ _ s _ _=>s
def Ex.S:Ex→List (List Tm) | .mk _ _ _ _ S _=>S
def Ex.L:Ex→List Ex | .mk _ _ _ _ _ L=>L
def Sl (ok:Nat→Prop) (k:Nat) (w:World) (v:Value) (n:Nat) (C:Nat→List Value):Prop :=
 ∃ ao cap,v=.slice ao n cap∧n≤cap∧cap≤maxLen ∧
  (0<n→∃ b o,ao=some ⟨b,o,none⟩∧ok b∧b<w.heap.size∧∀ i,i<n→(C i).length=k∧∀ j,j<k→w.cell? ⟨b,o+i*k+j,none⟩=(C i)[j]?)
theorem Sl.keep {ok:Nat→Prop} {k:Nat} {w w':World} {v:Value} {n:Nat} {C:Nat→List Value} (h:Sl ok k w v n C)
  (hs:w.heap.size≤w'.heap.size) (hk:∀ i,ok i→i<w.heap.size→w'.heap[i]?=w.heap[i]?):Sl ok k w' v n C:=by
 obtain ⟨ao,cap,hv,h1,h2,h3⟩:=h;refine ⟨ao,cap,hv,h1,h2,fun hn=>?_⟩;obtain ⟨b,o,ha,hob,hb,hc⟩:=h3 hn;refine ⟨b,o,ha,hob,Nat.lt_of_lt_of_le hb hs,fun i hi=>⟨(hc i hi).1,fun j hj=>?_⟩⟩;rw [←(hc i hi).2 j hj];exact World.cell?_of_block (w:=w) (hk b hob hb)
theorem Sl.wide {ok ok':Nat→Prop} {k:Nat} {w:World} {v:Value} {n:Nat} {C:Nat→List Value} (h:Sl ok k w v n C) (hk:∀ i,ok i→i<w.heap.size→ok' i):Sl ok' k w v n C:=by
 obtain ⟨ao,cap,hv,h1,h2,h3⟩:=h;refine ⟨ao,cap,hv,h1,h2,fun hn=>?_⟩;obtain ⟨b,o,ha,hob,hb,hc⟩:=h3 hn;exact ⟨b,o,ha,hk b hob hb,hb,hc⟩
theorem Sl.nil {ok:Nat→Prop} {k:Nat} {w:World} {C:Nat→List Value}:Sl ok k w (.slice none 0 0) 0 C:=⟨none,0,rfl,Nat.le_refl _,Nat.zero_le _,fun h=>absurd h (Nat.lt_irrefl _)⟩
def HNames (ok:Nat→Prop) (w:World) (v:Value) (l:List ByteArray):Prop:=∃ C,Sl ok 1 w v l.length C∧∀ i (h:i<l.length),C i=[.string l[i]]
def HTerms (ok:Nat→Prop) (w:World) (v:Value) (l:List Tm):Prop:=∃ C,Sl ok 2 w v l.length C∧∀ i (h:i<l.length),C i=[.int .i64 (l[i]).1,.string (l[i]).2]
def HSizes (ok:Nat→Prop) (w:World) (v:Value) (l:List (List Tm)):Prop:=∃ C,Sl ok 1 w v l.length C∧∀ i (h:i<l.length),∃ u,C i=[u]∧HTerms ok w u l[i]
inductive HEx (ok:Nat→Prop) (w:World):List Value→Ex→Prop
 | mk {op k n:Int} {name:ByteArray} {S:List (List Tm)} {L:List Ex} {vS vL:Value} (C:Nat→List Value)
   (hS:HSizes ok w vS S) (hL:Sl ok 6 w vL L.length C) (hE:∀ i (h:i<L.length),HEx ok w (C i) L[i]) :
   HEx ok w [.int .i64 op,.int .i64 k,.int .i64 n,.string name,vS,vL] (.mk op k n name S L)
theorem HNames.keep {ok:Nat→Prop} {w w':World} {v:Value} {l:List ByteArray} (h:HNames ok w v l) (hs:w.heap.size≤w'.heap.size) (hk:∀ i,ok i→i<w.heap.size→w'.heap[i]?=w.heap[i]?):HNames ok w' v l:=by
 obtain ⟨C,h1,h2⟩:=h;exact ⟨C,h1.keep hs hk,h2⟩
theorem HTerms.keep {ok:Nat→Prop} {w w':World} {v:Value} {l:List Tm} (h:HTerms ok w v l) (hs:w.heap.size≤w'.heap.size) (hk:∀ i,ok i→i<w.heap.size→w'.heap[i]?=w.heap[i]?):HTerms ok w' v l:=by
 obtain ⟨C,h1,h2⟩:=h;exact ⟨C,h1.keep hs hk,h2⟩
theorem HSizes.keep {ok:Nat→Prop} {w w':World} {v:Value} {l:List (List Tm)} (h:HSizes ok w v l) (hs:w.heap.size≤w'.heap.size) (hk:∀ i,ok i→i<w.heap.size→w'.heap[i]?=w.heap[i]?):HSizes ok w' v l:=by
 obtain ⟨C,h1,h2⟩:=h;refine ⟨C,h1.keep hs hk,fun i hi=>?_⟩;obtain ⟨u,e,ht⟩:=h2 i hi;exact ⟨u,e,ht.keep hs hk⟩
theorem HEx.keep {ok:Nat→Prop} {w w':World} {cs:List Value} {e:Ex} (h:HEx ok w cs e) (hs:w.heap.size≤w'.heap.size) (hk:∀ i,ok i→i<w.heap.size→w'.heap[i]?=w.heap[i]?):HEx ok w' cs e:=by
 induction h with
 | mk C hS hL hE ih=>exact .mk C (hS.keep hs hk) (hL.keep hs hk) ih
theorem HTerms.wide {ok ok':Nat→Prop} {w:World} {v:Value} {l:List Tm} (h:HTerms ok w v l) (hk:∀ i,ok i→i<w.heap.size→ok' i):HTerms ok' w v l:=by
 obtain ⟨C,h1,h2⟩:=h;exact ⟨C,h1.wide hk,h2⟩
theorem HSizes.wide {ok ok':Nat→Prop} {w:World} {v:Value} {l:List (List Tm)} (h:HSizes ok w v l) (hk:∀ i,ok i→i<w.heap.size→ok' i):HSizes ok' w v l:=by
 obtain ⟨C,h1,h2⟩:=h;refine ⟨C,h1.wide hk,fun i hi=>?_⟩;obtain ⟨u,e,ht⟩:=h2 i hi;exact ⟨u,e,ht.wide hk⟩
theorem HEx.wide {ok ok':Nat→Prop} {w:World} {cs:List Value} {e:Ex} (h:HEx ok w cs e) (hk:∀ i,ok i→i<w.heap.size→ok' i):HEx ok' w cs e:=by
 induction h with
 | mk C hS hL hE ih=>exact .mk C (hS.wide hk) (hL.wide hk) ih
theorem HEx.aside {S:List Nat} {w w':World} {cs:List Value} {e:Ex} (h:HEx (· ∉ S) w cs e) (a:Aside S w.heap.size w w'):HEx (· ∉ S) w' cs e:=h.keep a.size fun i hi hl=>a.block i hl hi
theorem HEx.under {ok:Nat→Prop} {w w':World} {cs:List Value} {e:Ex} (h:HEx ok w cs e) (a:Below w.heap.size w w'):HEx ok w' cs e:=h.keep a.size fun i _ hl=>a.block i hl
theorem HEx.past {ok:Nat→Prop} {S:List Nat} {w w':World} {cs:List Value} {e:Ex} (h:HEx ok w cs e) (a:Aside S w.heap.size w w') (hS:∀ i,ok i→i ∉ S):HEx ok w' cs e:=h.keep a.size fun i hi hl=>a.block i hl (hS i hi)
theorem HEx.set {ok:Nat→Prop} {w:World} {cs:List Value} {e:Ex} (h:HEx ok w cs e) {p:Addr} (hp:¬ok p.block) (u:Value):HEx ok (w.setCell p u) cs e :=
 h.keep (by simp [World.setCell]) fun i hi hl=>Below.heap_setCell _ _ _ _ (fun e=>hp (e ▸ hi))
theorem HEx.leaf {ok:Nat→Prop} {w:World} (op k n:Int) (name:ByteArray):HEx ok w [.int .i64 op,.int .i64 k,.int .i64 n,.string name,.slice none 0 0,.slice none 0 0] (.mk op k n name [] []) :=
 .mk (fun _=>[]) ⟨fun _=>[],Sl.nil,fun i h=>absurd h (Nat.not_lt_zero _)⟩ Sl.nil (fun i h=>absurd h (Nat.not_lt_zero _))
structure ExV where
 op:Int
 k:Int
 n:Int
 name:ByteArray
 aS:Option Addr
 nS:Nat
 cS:Nat
 aL:Option Addr
 nL:Nat
 cL:Nat
def ExV.cells (x:ExV):List Value:=[.int .i64 x.op,.int .i64 x.k,.int .i64 x.n,.string x.name,.slice x.aS x.nS x.cS,.slice x.aL x.nL x.cL]
abbrev exC (y:ExV):Array Value:=#[.int .i64 y.op,.int .i64 y.k,.int .i64 y.n,.string y.name,.slice y.aS y.nS y.cS,.slice y.aL y.nL y.cL]
theorem HEx.toV {ok:Nat→Prop} {w:World} {cs:List Value} {e:Ex} (h:HEx ok w cs e):∃ x:ExV,cs=x.cells∧HEx ok w x.cells e:=by
 have h0:=h
 cases h with
 | @mk op k n name S L vS vL C hS hL hE=>
  obtain ⟨CS,⟨aS,cS,rfl,_⟩,_⟩:=hS;obtain ⟨aL,cL,rfl,_⟩:=hL;exact ⟨⟨op,k,n,name,aS,S.length,cS,aL,L.length,cL⟩,rfl,h0⟩
theorem HEx.pair {ok:Nat→Prop} {w:World} {x y:ExV} {a c:Ex} (k:Int) (hx:HEx ok w x.cells a) (hy:HEx ok w y.cells c) (t:TypeId) (hok:ok w.heap.size) :
  HEx ok (w.alloc (.cells #[.int .i64 x.op,.int .i64 x.k,.int .i64 x.n,.string x.name,.slice x.aS x.nS x.cS,.slice x.aL x.nL x.cL,.int .i64 y.op,.int .i64 y.k,.int .i64 y.n,.string y.name,.slice y.aS y.nS y.cS,.slice y.aL y.nL y.cL] t (0,0)))
   [.int .i64 5,.int .i64 k,.int .i64 0,.string ⟨#[]⟩,.slice none 0 0,.slice (some ⟨w.heap.size,0,none⟩) 2 2] (.mk 5 k 0 ⟨#[]⟩ [] [a,c]):=by
 have hn:=heap_new w (.cells #[.int .i64 x.op,.int .i64 x.k,.int .i64 x.n,.string x.name,.slice x.aS x.nS x.cS,.slice x.aL x.nL x.cL,.int .i64 y.op,.int .i64 y.k,.int .i64 y.n,.string y.name,.slice y.aS y.nS y.cS,.slice y.aL y.nL y.cL] t (0,0));have hb:=((Below.refl w.heap.size w).alloc nR (.cells #[.int .i64 x.op,.int .i64 x.k,.int .i64 x.n,.string x.name,.slice x.aS x.nS x.cS,.slice x.aL x.nL x.cL,.int .i64 y.op,.int .i64 y.k,.int .i64 y.n,.string y.name,.slice y.aS y.nS y.cS,.slice y.aL y.nL y.cL] t (0,0)));refine .mk (fun i=>if i=0 then x.cells else y.cells) ⟨fun _=>[],Sl.nil,fun i h=>absurd h (Nat.not_lt_zero _)⟩ ⟨_,2,rfl,Nat.le_refl _,by decide,fun _=>⟨_,0,rfl,hok,lt_of hn,fun i hi=>?_⟩⟩ (fun i hi=>?_)
 ·match i,hi with
  | 0,_=>exact ⟨rfl,fun j hj=>by rw [co hn];match j,hj with | 0,_=>rfl | 1,_=>rfl | 2,_=>rfl | 3,_=>rfl | 4,_=>rfl | 5,_=>rfl⟩
  | 1,_=>exact ⟨rfl,fun j hj=>by rw [co hn];match j,hj with | 0,_=>rfl | 1,_=>rfl | 2,_=>rfl | 3,_=>rfl | 4,_=>rfl | 5,_=>rfl⟩
 ·match i,hi with
  | 0,_=>exact hx.under hb
  | 1,_=>exact hy.under hb
def signOp (t:List UInt8):Int :=
 if t==[43] then 1 else if t==[45] then 2 else if t==[42] then 3 else if t==[47] then 4 else if t==[37] then 5 else
 if t==[60] then 8 else if t==[61,61] then 9 else if t==[97,110,100] then 10 else if t==[111,114] then 11 else if t==[120,111,114] then 12 else 0
theorem signOp_any (t:List UInt8) (w:World):Calls Tryz.prog 172 #[.string (str t)] w fun e w'=>e=.returned (.int .i64 (signOp t))∧w'=w:=by
 obtain ⟨r,hr⟩:=nmQ (signOp t);rw [←hr];have HR:=hide hr;clear hr;have ht:(str t).toList=t:=(by rw [Lib.toList_data];rfl);go_enter Tryz.func172,Tryz.ntmps172;go_wp2
 all_goals go_ret
 all_goals refine ⟨ret_int ?_,rfl⟩
 all_goals (have hr:=HR.out;simp [signOp, *] at hr ⊢)
 all_goals (try simp_all)
def btw (a c:Int) (t:List UInt8):Int:=if signOp t<a∨c<signOp t then 0 else signOp t
theorem between_any {w:World} {b g cap:Nat} {L:List Tk.Tok} {len nx op:Nat} (h:Rd w b g cap L len nx op) (a c:Int) :
  Calls Tryz.prog 169 #[.pointer (some ⟨b,0,none⟩),.int .i64 a,.int .i64 c] w fun e w'=>e=.returned (.int .i64 (btw a c (peekT L len nx).text))∧Below w.heap.size w w':=by
 have hp:=@peek_any _ _ _ _ _ _ _ _ h;obtain ⟨t,ht⟩:=nmQ (peekT L len nx);rw [←ht] at hp ⊢;unfold tokV at hp;clear h ht;have hf:=fun x w=>tok_field2 t x w;obtain ⟨r,hr⟩:=nmQ (btw a c t.text);rw [←hr];obtain ⟨s,hs⟩:=nmQ (signOp t.text);unfold btw at hr;rw [←hs] at hr;have HR:=hide hr;clear hr;go_enter Tryz.func169,Tryz.ntmps169;go_wp2_with fail;refine hp.mono ?_;rintro e w' ⟨rfl,hb⟩;go_wp2_with fail;refine (signOp_any _ _).mono ?_;rintro e w'' ⟨rfl,rfl⟩;rw [←hs];clear hs;go_wp2
 all_goals go_ret
 all_goals refine ⟨ret_int ?_,hb⟩
 all_goals (have hr:=HR.out;simp_all)
 all_goals omega
def Gives (F b g cap:Nat) (L:List Tk.Tok) (len op nx n1:Nat) (e:Ex):Prop :=
 nx≤n1∧∀ w,Rd w b g cap L len nx op→Calls Tryz.prog F #[.pointer (some ⟨b,0,none⟩)] w fun r w'=>∃ x:ExV,
  r=.returned (.agg #[.int .i64 x.op,.int .i64 x.k,.int .i64 x.n,.string x.name,.slice x.aS x.nS x.cS,.slice x.aL x.nL x.cL])∧HEx (fun i=>w.heap.size≤i) w' x.cells e∧Rd w' b g cap L len n1 op∧Aside [b] w.heap.size w w'
theorem pair_any {w:World} {ok:Nat→Prop} {x y:ExV} {e f:Ex} (k:Int) (hx:HEx ok w x.cells e) (hy:HEx ok w y.cells f) (hok:∀ i,w.heap.size≤i→ok i) :
  Calls Tryz.prog 170 #[.int .i64 k,.agg #[.int .i64 x.op,.int .i64 x.k,.int .i64 x.n,.string x.name,.slice x.aS x.nS x.cS,.slice x.aL x.nL x.cL],.agg #[.int .i64 y.op,.int .i64 y.k,.int .i64 y.n,.string y.name,.slice y.aS y.nS y.cS,.slice y.aL y.nL y.cL]] w fun r w'=>∃ z:ExV,
   r=.returned (.agg #[.int .i64 z.op,.int .i64 z.k,.int .i64 z.n,.string z.name,.slice z.aS z.nS z.cS,.slice z.aL z.nL z.cL])∧HEx ok w' z.cells (.mk 5 k 0 ⟨#[]⟩ [] [e,f])∧Below w.heap.size w w':=by
 go_enter Tryz.func170,Tryz.ntmps170;go_wp2;obtain ⟨W,hW⟩:∃ W,W=(((w.alloc (Obj.cells #[.int .i64 x.op,.int .i64 x.k,.int .i64 x.n,.string x.name,.slice x.aS x.nS x.cS,.slice x.aL x.nL x.cL] 88 (0,0))).alloc (Obj.cells #[.int .i64 y.op,.int .i64 y.k,.int .i64 y.n,.string y.name,.slice y.aS y.nS y.cS,.slice y.aL y.nL y.cL] 88 (0,0))).alloc
   (Obj.cells #[.int .i64 5,.int .i64 k,.int .i64 0,.string ⟨#[]⟩,.slice none 0 0,.slice (some ⟨w.heap.size+1+1+1,0,none⟩) 2 2] 88 (0,0))):=⟨_,rfl⟩
 have hz:W.heap.size=w.heap.size+1+1+1:=(by rw [hW];simp);have hbW:Below w.heap.size w W:=(by rw [hW];exact (((Below.refl _ w).alloc nR _).alloc (by simp) _).alloc (by simp;omega) _);have hc:W.heap[w.heap.size+1+1]?=some (.cells #[.int .i64 5,.int .i64 k,.int .i64 0,.string ⟨#[]⟩,.slice none 0 0,.slice (some ⟨w.heap.size+1+1+1,0,none⟩) 2 2] 88 (0,0)):=by
  rw [hW];have:=heap_new ((w.alloc (Obj.cells #[.int .i64 x.op,.int .i64 x.k,.int .i64 x.n,.string x.name,.slice x.aS x.nS x.cS,.slice x.aL x.nL x.cL] 88 (0,0))).alloc (Obj.cells #[.int .i64 y.op,.int .i64 y.k,.int .i64 y.n,.string y.name,.slice y.aS y.nS y.cS,.slice y.aL y.nL y.cL] 88 (0,0))) (Obj.cells #[.int .i64 5,.int .i64 k,.int .i64 0,.string ⟨#[]⟩,.slice none 0 0,.slice (some ⟨w.heap.size+1+1+1,0,none⟩) 2 2] 88 (0,0))
  simpa using this
 rw [←hW];have hp:=HEx.pair k (hx.under hbW) (hy.under hbW) 88 (hok _ (by omega));rw [hz] at hp;obtain ⟨W',hW'⟩:∃ W',W'=W.alloc (Obj.cells #[.int .i64 x.op,.int .i64 x.k,.int .i64 x.n,.string x.name,.slice x.aS x.nS x.cS,.slice x.aL x.nL x.cL,.int .i64 y.op,.int .i64 y.k,.int .i64 y.n,.string y.name,.slice y.aS y.nS y.cS,.slice y.aL y.nL y.cL] 88 (0,0)):=⟨_,rfl⟩;have hb':Below w.heap.size w W':=(by rw [hW'];exact hbW.alloc (by omega) _);have hc':W'.heap[w.heap.size+1+1]?=some (.cells #[.int .i64 5,.int .i64 k,.int .i64 0,.string ⟨#[]⟩,.slice none 0 0,.slice (some ⟨w.heap.size+1+1+1,0,none⟩) 2 2] 88 (0,0)):=(by rw [hW'];exact kA hc _);rw [←hW'] at hp ⊢;have c0:=co hc' 0;have c1:=co hc' 1;have c2:=co hc' 2;have c3:=co hc' 3;have c4:=co hc' 4;have c5:=co hc' 5;simp at c0 c1 c2 c3 c4 c5;exact bodyPost_ret (v:=.agg #[.int .i64 5,.int .i64 k,.int .i64 0,.string ⟨#[]⟩,.slice none 0 0,.slice (some ⟨w.heap.size+1+1+1,0,none⟩) 2 2]) (by simp [results,Tryz.results170,go_sem,c0,c1,c2,c3,c4,c5]) rfl ⟨⟨5,k,0,⟨#[]⟩,none,0,0,some ⟨w.heap.size+1+1+1,0,none⟩,2,2⟩,rfl,hp,hb'⟩
end Go.Proofs.YtophfbefnaelfaaGreatDoor
