import Derived.Test.YtkfgbhlpjkkgfaaGreatDoorT02
import Derived.Deep.RegionHeld
import Derived.WalkKit
import Derived.Test.YtkfgbhlpjkkgfaaGreatDoorT00
import Derived.Lib.Bytealg
set_option linter.unusedVariables false
set_option linter.unusedSimpArgs false
set_option maxHeartbeats 64000000
set_option maxRecDepth 100000
namespace Go.Proofs.YtkfgbhlpjkkgfaaGreatDoor
open Go.RowKit Go.IntWalk
theorem enter112 (args:Array Value) (w:World):(callFunc 256 args).run Tryz.prog w=.ok (.enter 256 args) w:=by kernel_rfl
theorem enter115 (args:Array Value) (w:World):(callFunc 264 args).run Tryz.prog w=.ok (.enter 264 args) w:=by kernel_rfl
theorem enter118 (args:Array Value) (w:World):(callFunc 268 args).run Tryz.prog w=.ok (.enter 268 args) w:=by kernel_rfl
theorem enter119 (args:Array Value) (w:World):(callFunc 269 args).run Tryz.prog w=.ok (.enter 269 args) w:=by kernel_rfl
theorem unit_name {b g cap:Nat} {L:List Tk.Tok} {len op nx:Nat} (hk:(peekT L len nx).kind=2) (hn:nx<L.length):Gives 271 b g cap L len op nx (nx+1) (.mk 3 0 0 (str (peekT L len nx).text) [] []):=by
 refine ⟨Nat.le_succ _,fun w h=>?_⟩;have hb:=h.bb;have hg:=h.gb;have hp:=fun o=>@zAT _ _ _ _ _ _ _ _ (h.alloc o);obtain ⟨t,ht⟩:=nmQ (peekT L len nx);rw [<-ht] at hk ⊢;have FR:∀ o,Calls Tryz.prog 108 #[.pointer (some ⟨b,0,none⟩)] (w.alloc o) fun e w'=>e=.returned (.agg #[.int .i64 2,.int .i64 (t.place:Int),.string (str t.text),.int .i64 t.n])/\Below (w.alloc o).heap.size (w.alloc o) w':=by
  intro o;have:=hp o;rw [<-ht] at this;unfold tokV at this;rw [hk] at this;exact this
 clear ht hp;go_enter Tryz.func271,Tryz.ntmps271;go_wp2_with fail;refine (FR _).mono ?_;rintro r w1 ⟨rfl,b1⟩;have z1:w.heap.size+1<=w1.heap.size:=(by simpa using b1.size);have cJ:=(aside b1 (S:=[])).keep (zAC w _) (by simp) (by simp);have h1:=(h.alloc _).below b1;have A1:=((Aside.refl (S:=[b]) (B:=w.heap.size) w).alloc nR _).trans (aside b1) (by simp);clear b1;go_wp2_with fail;refine (zAj (h1.alloc _) hn).mono ?_;rintro r w2 ⟨rfl,h2,a2⟩;have cH:=a2.keep (kA cJ _) (by simp;omega) (by simp;omega);have et:=a2.keep (zAC w1 _) (by simp) (by simp;omega);have A2:=(A1.alloc (by omega) _).trans a2 (by simp;omega);have Hi:=co et 2;have Gg:=co et 3;have fa:=fun o=>fo cH o;have aB:=co cH 0;have ay:=co cH 1;have az:=co cH 2;have aF:=co cH 3;have aD:=co cH 4;have aH:=co cH 5;simp at aB ay az aF aD aH Hi Gg;go_wp2;refine bodyPost_ret (v:=.agg #[.int .i64 3,.int .i64 0,.int .i64 0,.string (str t.text),.slice none 0 0,.slice none 0 0]) (by simp [results,Tryz.results271,go_sem,aB,ay,az,aF,aD,aH]) rfl ⟨⟨3,0,0,str t.text,none,0,0,none,0,0⟩,rfl,HEx.leaf _ _ _ _,?_,?_⟩
 ·exact (((((h2.set (by simp;omega) (by simp;omega) _).set (by simp;omega) (by simp;omega) _).set (by simp;omega) (by simp;omega) _).set (by simp;omega) (by simp;omega) _).set (by simp;omega) (by simp;omega) _).set (by simp;omega) (by simp;omega) _
 ·exact (((((A2.set (by simp) _).set (by simp) _).set (by simp) _).set (by simp) _).set (by simp) _).set (by simp) _
theorem unit_num {b g cap:Nat} {L:List Tk.Tok} {len op nx:Nat} (hk:(peekT L len nx).kind=3) (hn:nx<L.length):Gives 271 b g cap L len op nx (nx+1) (.mk 1 0 (peekT L len nx).n ⟨#[]⟩ [] []):=by
 refine ⟨Nat.le_succ _,fun w h=>?_⟩;have hb:=h.bb;have hg:=h.gb;have hp:=fun o=>@zAT _ _ _ _ _ _ _ _ (h.alloc o);obtain ⟨t,ht⟩:=nmQ (peekT L len nx);rw [<-ht] at hk ⊢;have FR:∀ o,Calls Tryz.prog 108 #[.pointer (some ⟨b,0,none⟩)] (w.alloc o) fun e w'=>e=.returned (.agg #[.int .i64 3,.int .i64 (t.place:Int),.string (str t.text),.int .i64 t.n])/\Below (w.alloc o).heap.size (w.alloc o) w':=by
  intro o;have:=hp o;rw [<-ht] at this;unfold tokV at this;rw [hk] at this;exact this
 clear ht hp;go_enter Tryz.func271,Tryz.ntmps271;go_wp2_with fail;refine (FR _).mono ?_;rintro r w1 ⟨rfl,b1⟩;have z1:w.heap.size+1<=w1.heap.size:=(by simpa using b1.size);have cJ:=(aside b1 (S:=[])).keep (zAC w _) (by simp) (by simp);have h1:=(h.alloc _).below b1;have A1:=((Aside.refl (S:=[b]) (B:=w.heap.size) w).alloc nR _).trans (aside b1) (by simp);clear b1;go_wp2_with fail;refine (zAj (h1.alloc _) hn).mono ?_;rintro r w2 ⟨rfl,h2,a2⟩;have cH:=a2.keep (kA cJ _) (by simp;omega) (by simp;omega);have et:=a2.keep (zAC w1 _) (by simp) (by simp;omega);have A2:=(A1.alloc (by omega) _).trans a2 (by simp;omega);have Hi:=co et 2;have Gg:=co et 3;have fa:=fun o=>fo cH o;have aB:=co cH 0;have ay:=co cH 1;have az:=co cH 2;have aF:=co cH 3;have aD:=co cH 4;have aH:=co cH 5;simp at aB ay az aF aD aH Hi Gg;go_wp2;refine bodyPost_ret (v:=.agg #[.int .i64 1,.int .i64 0,.int .i64 t.n,.string ⟨#[]⟩,.slice none 0 0,.slice none 0 0]) (by simp [results,Tryz.results271,go_sem,aB,ay,az,aF,aD,aH]) rfl ⟨⟨1,0,t.n,⟨#[]⟩,none,0,0,none,0,0⟩,rfl,HEx.leaf _ _ _ _,?_,?_⟩
 ·exact (((((h2.set (by simp;omega) (by simp;omega) _).set (by simp;omega) (by simp;omega) _).set (by simp;omega) (by simp;omega) _).set (by simp;omega) (by simp;omega) _).set (by simp;omega) (by simp;omega) _).set (by simp;omega) (by simp;omega) _
 ·exact (((((A2.set (by simp) _).set (by simp) _).set (by simp) _).set (by simp) _).set (by simp) _).set (by simp) _
end Go.Proofs.YtkfgbhlpjkkgfaaGreatDoor
namespace Go.Proofs.YtkfgbhlpjkkgfaaGreatDoor
open Go.RowKit Go.IntWalk
def ExAt (w:World) (b o:Nat) (y:ExV):Prop :=
 w.cell? ⟨b,o,none⟩=some (.int .i64 y.op)/\w.cell? ⟨b,o+1,none⟩=some (.int .i64 y.k)/\w.cell? ⟨b,o+2,none⟩=some (.int .i64 y.n) /\
 w.cell? ⟨b,o+3,none⟩=some (.string y.name)/\w.cell? ⟨b,o+4,none⟩=some (.slice y.aS y.nS y.cS)/\w.cell? ⟨b,o+5,none⟩=some (.slice y.aL y.nL y.cL)
theorem ExAt.keep {w w':World} {b o:Nat} {y:ExV} (h:ExAt w b o y) (hb:w'.heap[b]?=w.heap[b]?):ExAt w' b o y:=by
 have hc:∀ q,w'.cell? ⟨b,q,none⟩=w.cell? ⟨b,q,none⟩:=fun q=>World.cell?_of_block (w:=w) hb;obtain ⟨h0,h1,h2,h3,h4,h5⟩:=h;exact ⟨(hc _).trans h0,(hc _).trans h1,(hc _).trans h2,(hc _).trans h3,(hc _).trans h4,(hc _).trans h5⟩
theorem Sl.exAt {ok:Nat->Prop} {w:World} {v:Value} {L:List Ex} {C:Nat->List Value} (hL:Sl ok 6 w v L.length C) (hE:∀ i (h:i<L.length),HEx ok w (C i) L[i]) :
  ∃ ao cap,v=.slice ao L.length cap/\L.length<=cap/\cap<=maxLen/\∀ i (h:i<L.length),∃ b o y,ao=some ⟨b,o,none⟩/\ok b/\b<w.heap.size/\ExAt w b (o+i*6) y/\HEx ok w y.cells L[i]:=by
 obtain ⟨ao,cap,hv,h1,h2,h3⟩:=hL;refine ⟨ao,cap,hv,h1,h2,fun i hi=>?_⟩;obtain ⟨b,o,ha,gA,hb,hc⟩:=h3 (by omega);obtain ⟨y,hy,hex⟩:=(hE i hi).toV;have dX:=(hc i hi).2;rw [hy] at dX;exact ⟨b,o,y,ha,gA,hb,⟨dX 0 (by decide),dX 1 (by decide),dX 2 (by decide),dX 3 (by decide),dX 4 (by decide),dX 5 (by decide)⟩,hex⟩
mutual
def parts:Ex->Nat
 | .mk _ _ _ _ _ L=>1+partsL L
def partsL:List Ex->Nat
 | []=>0
 | e :: l=>parts e+partsL l
end
theorem zBM:∀ (L:List Ex) (i:Nat) (h:i<L.length),partsL (L.take (i+1))=partsL (L.take i)+parts L[i]
 | [],i,h=>by simp at h
 | e :: L,0,h=>by simp [partsL]
 | e :: L,i+1,h=>by
  have:=zBM L i (by simpa using h);simp [partsL] at this ⊢;omega
theorem zCm:∀ (L:List Ex) (i:Nat),partsL (L.take i)<=partsL L
 | [],i=>by simp [partsL]
 | e :: L,0=>by simp [partsL]
 | e :: L,i+1=>by have:=zCm L i;simp [partsL];omega
theorem zBU:∀ (L:List Ex) (i:Nat) (h:i<L.length),parts L[i]<=partsL L:=fun L i h=>by
 have h1:=zBM L i h;have h2:=zCm L (i+1);omega
theorem zCc:∀ (n:Nat) (e:Ex),parts e<=n->n<=1099511627776->∀ (ok:Nat->Prop) (x:ExV) (w:World),HEx ok w x.cells e ->
  Calls Tryz.prog 246 #[.agg #[.int .i64 x.op,.int .i64 x.k,.int .i64 x.n,.string x.name,.slice x.aS x.nS x.cS,.slice x.aL x.nL x.cL]] w fun r w'=>r=.returned (.int .i64 (parts e:Int))/\Below w.heap.size w w'
 | 0,.mk _ _ _ _ _ L,hn,_,_,_,_,_=>by simp [parts] at hn
 | n+1,.mk op k nn name S L,hn,hbig,ok,x,w,hx=>by
  obtain ⟨oo,kk,nv,nm,aS,nS,cS,aL,nL,cL⟩:=x;have hp:1+partsL L<=n+1:=(by simpa [parts] using hn);rw [parts];have HI:∀ e,parts e<=n->∀ (ok:Nat->Prop) (x:ExV) (w:World),HEx ok w x.cells e ->
   Calls Tryz.prog 246 #[.agg #[.int .i64 x.op,.int .i64 x.k,.int .i64 x.n,.string x.name,.slice x.aS x.nS x.cS,.slice x.aL x.nL x.cL]] w fun r w'=>r=.returned (.int .i64 (parts e:Int))/\Below w.heap.size w w':=
   fun e he=>zCc n e he (by omega)
  cases hx with
  | @mk _ _ _ _ _ _ _ _ C hS hL hE=>
   obtain ⟨ao,cap,hv,aC,av,ai⟩:=hL.exAt hE;injection hv with q1 q2 q3;subst q1 q2 q3;have eV:=av;unfold maxLen at eV;go_enter Tryz.func246,Tryz.ntmps246;go_wp2;go_loopg [3,9] L.length (fun q v3 v9 wr=>∃ i,i<=L.length/\q=L.length-i/\v9=.int .i64 (i:Nat)/\v3=.int .i64 ((1+partsL (L.take i):Nat):Int)/\Below w.heap.size w wr)
   case atStart=>exact ⟨0,Nat.zero_le _,rfl,rfl,by simp [partsL],(Below.refl _ w).alloc nR _⟩
   case round=>
    obtain ⟨i,hi,rfl,rfl,rfl,aj⟩:=hrel;by_cases ak:i<L.length
    ·obtain ⟨b,o,y,rfl,_,hb,qB,hy⟩:=ai i ak
     obtain ⟨c0,c1,c2,c3,c4,c5⟩:=qB.keep (aj.block b hb);have ht:=zBM L i ak;have hl:=zCm L (i+1);have xg:=(hy.under aj).under ((Below.refl _ wr).alloc nR (.cells #[.int .i64 y.op,.int .i64 y.k,.int .i64 y.n,.string y.name,.slice y.aS y.nS y.cS,.slice y.aL y.nL y.cL] 54 (0,0)));go_wp2_with fail;refine (HI L[i] (by have:=zBU L i ak;omega) ok y _ xg).mono ?_;rintro r w2 ⟨rfl,b2⟩;have lj:Below w.heap.size w w2:=(aj.alloc aj.size _).trans (b2.mono (by have:=aj.size;simp;omega));have HT:=zAA ht;have HL:=zAA hl;clear ht hl xg ai HI;go_wp2;go_roundg (L.length-(i+1))
     case measure=>omega
     case rel=>
      have ht:=HT.out;have hl:=HL.out;rw [ht] at hl;exact ⟨i+1,by omega,rfl,by go_num,by rw [ht,wrap64_in _ (by omega)];go_num,lj⟩
    ·have eH:i=L.length:=by omega
     subst eH;clear ai HI;go_wp2;go_ret;exact ⟨zAs (by rw [List.take_length]),aj⟩
end Go.Proofs.YtkfgbhlpjkkgfaaGreatDoor
namespace Go.Proofs.YtkfgbhlpjkkgfaaGreatDoor
open Go.RowKit Go.IntWalk
def HExs (ok:Nat->Prop) (w:World) (v:Value) (L:List Ex):Prop:=∃ C,Sl ok 6 w v L.length C/\∀ i (h:i<L.length),HEx ok w (C i) L[i]
theorem HExs.keep {ok:Nat->Prop} {w w':World} {v:Value} {l:List Ex} (h:HExs ok w v l) (hs:w.heap.size<=w'.heap.size) (hk:∀ i,ok i->i<w.heap.size->w'.heap[i]?=w.heap[i]?):HExs ok w' v l:=by
 obtain ⟨C,h1,h2⟩:=h;exact ⟨C,h1.keep hs hk,fun i hi=>(h2 i hi).keep hs hk⟩
theorem HExs.under {ok:Nat->Prop} {w w':World} {v:Value} {l:List Ex} (h:HExs ok w v l) (a:Below w.heap.size w w'):HExs ok w' v l:=h.keep a.size fun i _ hl=>a.block i hl
theorem HExs.at {ok:Nat->Prop} {w:World} {v:Value} {L:List Ex} (h:HExs ok w v L) :
  ∃ ao cap,v=.slice ao L.length cap/\L.length<=cap/\cap<=maxLen/\∀ i (h:i<L.length),∃ b o y,ao=some ⟨b,o,none⟩/\ok b/\b<w.heap.size/\ExAt w b (o+i*6) y/\HEx ok w y.cells L[i]:=by
 obtain ⟨C,h1,h2⟩:=h;exact h1.exAt h2
theorem HEx.parts {ok:Nat->Prop} {w:World} {x:ExV} {e:Ex} (h:HEx ok w x.cells e):x.op=e.op/\x.k=e.k/\x.n=e.n/\x.name=e.name/\HSizes ok w (.slice x.aS x.nS x.cS) e.S/\HExs ok w (.slice x.aL x.nL x.cL) e.L:=by
 obtain ⟨o,k,n,s,a,b,c,d,f,g⟩:=x
 cases h with
 | mk C hS hL hE=>exact ⟨rfl,rfl,rfl,rfl,hS,C,hL,hE⟩
structure EqV where
 place:Int
 aN:Option Addr
 nN:Nat
 cN:Nat
 node:ByteArray
 aS:Option Addr
 nS:Nat
 cS:Nat
 aE:Option Addr
 nE:Nat
 cE:Nat
def EqV.cells (x:EqV):List Value:=[.int .i64 x.place,.slice x.aN x.nN x.cN,.string x.node,.slice x.aS x.nS x.cS,.slice x.aE x.nE x.cE]
structure HEq (ok:Nat->Prop) (w:World) (x:EqV) (q:Eqn):Prop where
 place:x.place=q.place
 names:HNames ok w (.slice x.aN x.nN x.cN) q.names
 node:x.node=q.node
 S:HSizes ok w (.slice x.aS x.nS x.cS) q.S
 E:HExs ok w (.slice x.aE x.nE x.cE) q.E
theorem HEq.keep {ok:Nat->Prop} {w w':World} {x:EqV} {q:Eqn} (h:HEq ok w x q) (hs:w.heap.size<=w'.heap.size) (hk:∀ i,ok i->i<w.heap.size->w'.heap[i]?=w.heap[i]?):HEq ok w' x q :=
 ⟨h.place,h.names.keep hs hk,h.node,h.S.keep hs hk,h.E.keep hs hk⟩
theorem HEq.under {ok:Nat->Prop} {w w':World} {x:EqV} {q:Eqn} (h:HEq ok w x q) (a:Below w.heap.size w w'):HEq ok w' x q:=h.keep a.size fun i _ hl=>a.block i hl
def EqAt (w:World) (b o:Nat) (y:EqV):Prop :=
 w.cell? ⟨b,o,none⟩=some (.int .i64 y.place)/\w.cell? ⟨b,o+1,none⟩=some (.slice y.aN y.nN y.cN)/\w.cell? ⟨b,o+2,none⟩=some (.string y.node) /\
 w.cell? ⟨b,o+3,none⟩=some (.slice y.aS y.nS y.cS)/\w.cell? ⟨b,o+4,none⟩=some (.slice y.aE y.nE y.cE)
theorem EqAt.keep {w w':World} {b o:Nat} {y:EqV} (h:EqAt w b o y) (hb:w'.heap[b]?=w.heap[b]?):EqAt w' b o y:=by
 have hc:∀ q,w'.cell? ⟨b,q,none⟩=w.cell? ⟨b,q,none⟩:=fun q=>World.cell?_of_block (w:=w) hb;obtain ⟨h0,h1,h2,h3,h4⟩:=h;exact ⟨(hc _).trans h0,(hc _).trans h1,(hc _).trans h2,(hc _).trans h3,(hc _).trans h4⟩
def HEqs (ok:Nat->Prop) (w:World) (v:Value) (l:List Eqn):Prop:=∃ C,Sl ok 5 w v l.length C/\∀ i (h:i<l.length),∃ x,C i=x.cells/\HEq ok w x l[i]
theorem HEqs.keep {ok:Nat->Prop} {w w':World} {v:Value} {l:List Eqn} (h:HEqs ok w v l) (hs:w.heap.size<=w'.heap.size) (hk:∀ i,ok i->i<w.heap.size->w'.heap[i]?=w.heap[i]?):HEqs ok w' v l:=by
 obtain ⟨C,h1,h2⟩:=h;refine ⟨C,h1.keep hs hk,fun i hi=>?_⟩;obtain ⟨x,e,hx⟩:=h2 i hi;exact ⟨x,e,hx.keep hs hk⟩
theorem HEqs.under {ok:Nat->Prop} {w w':World} {v:Value} {l:List Eqn} (h:HEqs ok w v l) (a:Below w.heap.size w w'):HEqs ok w' v l:=h.keep a.size fun i _ hl=>a.block i hl
theorem HEqs.at {ok:Nat->Prop} {w:World} {v:Value} {l:List Eqn} (h:HEqs ok w v l) :
  ∃ ao cap,v=.slice ao l.length cap/\l.length<=cap/\cap<=maxLen/\∀ i (h:i<l.length),∃ b o y,ao=some ⟨b,o,none⟩/\b<w.heap.size/\EqAt w b (o+i*5) y/\HEq ok w y l[i]:=by
 obtain ⟨C,⟨ao,cap,hv,h1,h2,h3⟩,hC⟩:=h;refine ⟨ao,cap,hv,h1,h2,fun i hi=>?_⟩;obtain ⟨b,o,ha,gA,hb,hc⟩:=h3 (by omega);obtain ⟨x,hx,hq⟩:=hC i hi;have dX:=(hc i hi).2;rw [hx] at dX;exact ⟨b,o,x,ha,hb,⟨dX 0 (by decide),dX 1 (by decide),dX 2 (by decide),dX 3 (by decide),dX 4 (by decide)⟩,hq⟩
structure NdV where
 name:ByteArray
 place:Int
 a2:Option Addr
 n2:Nat
 c2:Nat
 a3:Option Addr
 n3:Nat
 c3:Nat
 a4:Option Addr
 n4:Nat
 c4:Nat
 a5:Option Addr
 n5:Nat
 c5:Nat
 a6:Option Addr
 n6:Nat
 c6:Nat
def NdV.cells (x:NdV):List Value:=[.string x.name,.int .i64 x.place,.slice x.a2 x.n2 x.c2,.slice x.a3 x.n3 x.c3,.slice x.a4 x.n4 x.c4,.slice x.a5 x.n5 x.c5,.slice x.a6 x.n6 x.c6]
structure HNd (ok:Nat->Prop) (w:World) (x:NdV) (n:Nd):Prop where
 name:x.name=n.name
 place:x.place=n.place
 sizes:HNames ok w (.slice x.a2 x.n2 x.c2) n.sizes
 inn:HDes ok w (.slice x.a3 x.n3 x.c3) n.inn
 out:HDes ok w (.slice x.a4 x.n4 x.c4) n.out
 loc:HDes ok w (.slice x.a5 x.n5 x.c5) n.loc
 eqs:HEqs ok w (.slice x.a6 x.n6 x.c6) n.eqs
theorem HNd.keep {ok:Nat->Prop} {w w':World} {x:NdV} {n:Nd} (h:HNd ok w x n) (hs:w.heap.size<=w'.heap.size) (hk:∀ i,ok i->i<w.heap.size->w'.heap[i]?=w.heap[i]?):HNd ok w' x n :=
 ⟨h.name,h.place,h.sizes.keep hs hk,h.inn.keep hs hk,h.out.keep hs hk,h.loc.keep hs hk,h.eqs.keep hs hk⟩
theorem HNd.under {ok:Nat->Prop} {w w':World} {x:NdV} {n:Nd} (h:HNd ok w x n) (a:Below w.heap.size w w'):HNd ok w' x n:=h.keep a.size fun i _ hl=>a.block i hl
def NdAt (w:World) (b o:Nat) (y:NdV):Prop :=
 w.cell? ⟨b,o,none⟩=some (.string y.name)/\w.cell? ⟨b,o+1,none⟩=some (.int .i64 y.place)/\w.cell? ⟨b,o+2,none⟩=some (.slice y.a2 y.n2 y.c2)/\w.cell? ⟨b,o+3,none⟩=some (.slice y.a3 y.n3 y.c3) /\
 w.cell? ⟨b,o+4,none⟩=some (.slice y.a4 y.n4 y.c4)/\w.cell? ⟨b,o+5,none⟩=some (.slice y.a5 y.n5 y.c5)/\w.cell? ⟨b,o+6,none⟩=some (.slice y.a6 y.n6 y.c6)
theorem NdAt.keep {w w':World} {b o:Nat} {y:NdV} (h:NdAt w b o y) (hb:w'.heap[b]?=w.heap[b]?):NdAt w' b o y:=by
 have hc:∀ q,w'.cell? ⟨b,q,none⟩=w.cell? ⟨b,q,none⟩:=fun q=>World.cell?_of_block (w:=w) hb;obtain ⟨h0,h1,h2,h3,h4,h5,h6⟩:=h;exact ⟨(hc _).trans h0,(hc _).trans h1,(hc _).trans h2,(hc _).trans h3,(hc _).trans h4,(hc _).trans h5,(hc _).trans h6⟩
def HNds (ok:Nat->Prop) (w:World) (v:Value) (l:List Nd):Prop:=∃ C,Sl ok 7 w v l.length C/\∀ i (h:i<l.length),∃ x,C i=x.cells/\HNd ok w x l[i]
theorem HNds.keep {ok:Nat->Prop} {w w':World} {v:Value} {l:List Nd} (h:HNds ok w v l) (hs:w.heap.size<=w'.heap.size) (hk:∀ i,ok i->i<w.heap.size->w'.heap[i]?=w.heap[i]?):HNds ok w' v l:=by
 obtain ⟨C,h1,h2⟩:=h;refine ⟨C,h1.keep hs hk,fun i hi=>?_⟩;obtain ⟨x,e,hx⟩:=h2 i hi;exact ⟨x,e,hx.keep hs hk⟩
theorem HNds.under {ok:Nat->Prop} {w w':World} {v:Value} {l:List Nd} (h:HNds ok w v l) (a:Below w.heap.size w w'):HNds ok w' v l:=h.keep a.size fun i _ hl=>a.block i hl
theorem HNds.at {ok:Nat->Prop} {w:World} {v:Value} {l:List Nd} (h:HNds ok w v l) :
  ∃ ao cap,v=.slice ao l.length cap/\l.length<=cap/\cap<=maxLen/\∀ i (h:i<l.length),∃ b o y,ao=some ⟨b,o,none⟩/\b<w.heap.size/\NdAt w b (o+i*7) y/\HNd ok w y l[i]:=by
 obtain ⟨C,⟨ao,cap,hv,h1,h2,h3⟩,hC⟩:=h;refine ⟨ao,cap,hv,h1,h2,fun i hi=>?_⟩;obtain ⟨b,o,ha,gA,hb,hc⟩:=h3 (by omega);obtain ⟨x,hx,hq⟩:=hC i hi;have dX:=(hc i hi).2;rw [hx] at dX;exact ⟨b,o,x,ha,hb,⟨dX 0 (by decide),dX 1 (by decide),dX 2 (by decide),dX 3 (by decide),dX 4 (by decide),dX 5 (by decide),dX 6 (by decide)⟩,hq⟩
end Go.Proofs.YtkfgbhlpjkkgfaaGreatDoor
namespace Go.Proofs.YtkfgbhlpjkkgfaaGreatDoor
open Go
section
variable {P:Program} {ops:Array Oper} {Q:Exit->Act->World->Prop} {md:Region.Mode} {S:World->Prop} {late:Nat->Bool}
def wpAnyL (P:Program) (md:Region.Mode) (ops:Array Oper) (Q:Exit->Act->World->Prop) (S:World->Prop) (late:Nat->Bool):Nat->Array Bool->Act->World->Prop
 | 0,listed,a,w=>Region.ready md ops listed=[]/\Q .normal a w
 | fuel+1,listed,a,w=>
  (Region.ready md ops listed=[]->Q .normal a w) /\
  ∀ i ∈ Region.ready md ops listed,wpOp P ops Q i (fun a' w'=>(late i=false->S w')/\wpAnyL P md ops Q S late fuel (listed.setIfInBounds i true) a' w') a w
theorem zCw:∀ (fuel:Nat) (listed:Array Bool) (a:Act) (w:World),wpAnyL P md ops Q S late fuel listed a w->wpAny P md ops Q fuel listed a w
 | 0,_,_,_,h=>h
 | fuel+1,_,_,_,h=>⟨h.1,fun i hi=>wpOp_mono (fun a' w' h'=>zCw fuel _ a' w' h'.2) (h.2 i hi)⟩
def waitFor (md:Region.Mode) (ops:Array Oper) (late:Nat->Bool) (listed:Array Bool) (i:Nat):Bool :=
 (List.range ops.size).all fun j => !late j || listed.getD j true || ((ops[j]?).map (·.after.any fun e=>Region.binds md e&&e.on==i)).getD true
theorem zDf {listed:Array Bool} {i:Nat} (h:waitFor md ops late listed i=true) (j:Nat) (oj:Oper) (hj:ops[j]?=some oj) (nC:listed.getD j true=false) (hl:late j=true) :
  ∃ e ∈ oj.after,Region.binds md e=true/\e.on=i:=by
 have ak:j<ops.size:=(Array.getElem?_eq_some_iff.1 hj).1;have h1:=List.all_eq_true.1 h j (List.mem_range.2 ak);rw [hj,hl,nC] at h1;simp only [Bool.not_true,Bool.or_false,Bool.false_or,Option.map_some,Option.getD_some] at h1;obtain ⟨e,he,h2⟩:=Array.any_eq_true'.1 h1;simp only [Bool.and_eq_true,beq_iff_eq] at h2;exact ⟨e,he,h2.1,h2.2⟩
theorem zDg {i:Nat} {oi:Oper} {v:Value} (hi:ops[i]?=some oi) (pQ:∀ (j:Nat) (o:Oper) cs b,ops[j]?=some o->o.op≠.select cs b)
  (hQ:∀ c a w,Q (.panic c) (a.put oi.dst v) w->Q (.panic c) a w) :
  ∀ (fuel:Nat) (listed:Array Bool) (a:Act) (w:World),
   (∀ j oj,ops[j]?=some oj->j≠i->listed.getD j true=false->(∀ e ∈ oj.after,Region.binds md e=true->e.on≠i)->oi.apart ops oj=true) ->
   (∀ j oj,ops[j]?=some oj->listed.getD j true=false->late j=true->∃ e ∈ oj.after,Region.binds md e=true/\e.on=i) ->
   i ∈ Region.ready md ops listed->YieldsIf P ops S oi v a->S w ->
   wpAnyL P md ops Q S late fuel (listed.setIfInBounds i true) (a.put oi.dst v) w->wpAnyL P md ops Q S late (fuel+1) listed a w:=by
 intro fuel
 induction fuel with
 | zero=>
  intro listed a w _ _ hr hy hS H;refine ⟨fun h=>(by rw [h] at hr;cases hr),fun j hj=>?_⟩;by_cases bJ:j=i
  ·subst bJ;exact hy.wpOp hi hS ⟨fun _=>hS,H⟩
  ·have:=ready_mono hj bJ
   rw [H.1] at this
   cases this
 | succ fuel ih=>
  intro listed a w ku sC hr hy hS H;refine ⟨fun h=>(by rw [h] at hr;cases hr),fun j hj=>?_⟩;by_cases bJ:j=i
  ·subst bJ;exact hy.wpOp hi hS ⟨fun _=>hS,H⟩
  ·have h1:=H.2 j (ready_mono hj bJ)
   obtain ⟨kH,oj,qh,bX⟩:=mem_ready.1 hj;have pC:∀ e ∈ oj.after,Region.binds md e=true->e.on≠i:=fun e he hb heq=>by
    have h1:=bX e he hb;have h0:=(mem_ready.1 hr).1;rw [heq] at h1;rcases Nat.lt_or_ge i listed.size with h' | h'
    ·simp [h'] at h0 h1;rw [h0] at h1;cases h1
    ·simp [Array.getElem?_eq_none h'] at h1
   have uW:late j=false:=by
    cases hl:late j with
    | false=>rfl
    | true=>
     obtain ⟨e,he,hb,heq⟩:=sC j oj qh kH hl;exact absurd heq (pC e he hb)
   have h2:=wpOp_putIf qh (ku j oj qh bJ kH pC) (fun cs b=>pQ i oi cs b hi) (fun cs b=>pQ j oj cs b qh) hQ hy h1;have l7:∀ k ok,ops[k]?=some ok->k≠i->(listed.setIfInBounds j true).getD k true=false ->
     (∀ e ∈ ok.after,Region.binds md e=true->e.on≠i)->oi.apart ops ok=true:=fun k ok hk st nC lL=>by
    refine ku k ok hk st ?_ lL;by_cases kV:j=k
    ·subst kV;exact kH
    ·rw [getD_set_ne true kV] at nC;exact nC
   have uQ:∀ k ok,ops[k]?=some ok->(listed.setIfInBounds j true).getD k true=false->late k=true->∃ e ∈ ok.after,Region.binds md e=true/\e.on=i:=fun k ok hk nC hl=>by
    refine sC k ok hk ?_ hl;by_cases kV:j=k
    ·subst kV;exact kH
    ·rw [getD_set_ne true kV] at nC;exact nC
   refine wpOp_mono (fun a' w' h3=>⟨h3.2.1,ih (listed.setIfInBounds j true) a' w' l7 uQ (ready_mono hr (Ne.symm bJ)) h3.1 (h3.2.1 uW) ?_⟩) h2;rw [Array.setIfInBounds_comm _ _ bJ];exact h3.2.2
theorem zBN {i:Nat} {oi:Oper} {v:Value} {fuel:Nat} {listed:Array Bool} {a:Act} {w:World} (hi:ops[i]?=some oi)
  (hs:Region.noSelect ops=true) (hf:Region.free md ops listed i=true) (hr:(Region.ready md ops listed).contains i=true) (hl:waitFor md ops late listed i=true)
  (hQ:∀ c a w,Q (.panic c) (a.put oi.dst v) w->Q (.panic c) a w) (hS:S w) (hw:Region.wanted oi (yielded ops a.tmps)=true) (hy:∀ w,S w->(execOp a.eval oi).run P w=.ok (.value v) w)
  (h:wpAnyL P md ops Q S late fuel (listed.setIfInBounds i true) (a.put oi.dst v) w):wpAnyL P md ops Q S late (fuel+1) listed a w:=
 zDg hi (Region.noSelect_spec hs) hQ fuel listed a w (Region.free_spec hi hf) (zDf hl) (by simpa using hr) (.inl ⟨hw,hy⟩) hS h
theorem wpAnyL_one {i:Nat} {o:Oper} {fuel:Nat} {listed:Array Bool} {a:Act} {w:World} (ho:ops[i]?=some o) (hr:Region.ready md ops listed=[i]) (hw:Region.wanted o (yielded ops a.tmps)=true)
  (h:∀ K':Act->World->Prop,Shut (∀ a w,(late i=false->S w)->wpAnyL P md ops Q S late fuel (listed.setIfInBounds i true) a w->K' a w)->Oper.wp P o a w K' Q):wpAnyL P md ops Q S late (fuel+1) listed a w:=by
 refine ⟨fun h0=>(by rw [hr] at h0;cases h0),fun j hj=>?_⟩;rw [hr] at hj;simp at hj;subst hj;refine wpOp_step ho (fun K' hK=>?_);rw [if_pos hw];exact h K' (fun a w hS hW=>hK a w ⟨hS,hW⟩)
theorem zAF {listed:Array Bool} {a:Act} {w:World} (hr:Region.ready md ops listed=[]) (h:Q .normal a w) :
  ∀ fuel,wpAnyL P md ops Q S late fuel listed a w
 | 0=>⟨hr,h⟩
 | _+1=>⟨fun _=>h,by rw [hr];simp⟩
theorem zAE {id:Nat} {a:Act} {w:World} (S:World->Prop) (late:Nat->Bool) (hm:P.follows .mixedOrders=true)
  (h:wpAnyL P .any ops Q S late ops.size (Array.replicate ops.size false) a w.drew):(Code.region id ops true).wp P Q a w:=
 wp_region_any hm (zCw _ _ _ _ h)
end
end Go.Proofs.YtkfgbhlpjkkgfaaGreatDoor
namespace Go.Proofs.YtkfgbhlpjkkgfaaGreatDoor
theorem tkQ {P:Program} {md:Region.Mode} {ops:Array Oper} {Q:Exit->Act->World->Prop} {S:World->Prop} {late:Nat->Bool} {fuel:Nat} {listed:Array Bool} {a:Act} {w:World} {v:Value} {op ty pos after guard} (i d:Nat) (hS:S w) (hy:∀ w,S w->(execOp a.eval ⟨some d,op,ty,pos,after,guard⟩).run P w=.ok (.value v) w) (h:wpAnyL P md ops Q S late fuel (listed.setIfInBounds i true) (a.put (some d) v) w)
  (hi:ops[i]?=some ⟨some d,op,ty,pos,after,guard⟩:=by rfl) (hs:Region.noSelect ops=true:=by kernel_rfl) (hf:Region.free md ops listed i=true:=by kernel_rfl) (hr:(Region.ready md ops listed).contains i=true:=by kernel_rfl) (hl:waitFor md ops late listed i=true:=by kernel_rfl) (hQ:∀ c a w,Q (.panic c) (a.put (some d) v) w->Q (.panic c) a w:=by exact fun _ _ _ h=>h) (hw:Region.wanted ⟨some d,op,ty,pos,after,guard⟩ (yielded ops a.tmps)=true:=by rfl):wpAnyL P md ops Q S late (fuel+1) listed a w:=
 zBN hi hs hf hr hl hQ hS hw hy (h)
theorem tjQ {P:Program} {md:Region.Mode} {ops:Array Oper} {Q:Exit->Act->World->Prop} {S:World->Prop} {late:Nat->Bool} {fuel:Nat} {listed:Array Bool} {a:Act} {w:World} {v:Value} {oi:Oper} (i:Nat) (hS:S w) (hy:∀ w,S w->(execOp a.eval oi).run P w=.ok (.value v) w) (h:wpAnyL P md ops Q S late fuel (listed.setIfInBounds i true) (a.put oi.dst v) w)
  (hi:ops[i]?=some oi:=by rfl) (hs:Region.noSelect ops=true:=by kernel_rfl) (hf:Region.free md ops listed i=true:=by kernel_rfl) (hr:(Region.ready md ops listed).contains i=true:=by kernel_rfl) (hl:waitFor md ops late listed i=true:=by kernel_rfl) (hQ:∀ c a w,Q (.panic c) (a.put oi.dst v) w->Q (.panic c) a w:=by exact fun _ _ _ h=>h) (hw:Region.wanted oi (yielded ops a.tmps)=true:=by rfl):wpAnyL P md ops Q S late (fuel+1) listed a w:=
 zBN hi hs hf hr hl hQ hS hw hy (h)
theorem tkR {P:Program} {md:Region.Mode} {ops:Array Oper} {Q:Exit->Act->World->Prop} {S:World->Prop} {late:Nat->Bool} {fuel:Nat} {listed:Array Bool} {a:Act} {w:World} {b:Act} {v:Value} {op ty pos after guard} (i d:Nat) (hS:S w)  (h:wpAnyL P md ops Q S late fuel (listed.setIfInBounds i true) b w)
  (hi:ops[i]?=some ⟨some d,op,ty,pos,after,guard⟩:=by rfl) (hs:Region.noSelect ops=true:=by kernel_rfl) (hf:Region.free md ops listed i=true:=by kernel_rfl) (hr:(Region.ready md ops listed).contains i=true:=by kernel_rfl) (hl:waitFor md ops late listed i=true:=by kernel_rfl) (hQ:∀ c a w,Q (.panic c) (a.put (some d) v) w->Q (.panic c) a w:=by exact fun _ _ _ h=>h) (hw:Region.wanted ⟨some d,op,ty,pos,after,guard⟩ (yielded ops a.tmps)=true:=by rfl) (hy:∀ w,S w->(execOp a.eval ⟨some d,op,ty,pos,after,guard⟩).run P w=.ok (.value v) w:=by intro wz ae;go_simp;try rfl) (hb:a.put (some d) v=b:=by first | (simp only [Act.put,sT,sZ,sS];rfl) | rfl):wpAnyL P md ops Q S late (fuel+1) listed a w:=
 zBN hi hs hf hr hl hQ hS hw hy (hb ▸ h)
theorem tjR {P:Program} {md:Region.Mode} {ops:Array Oper} {Q:Exit->Act->World->Prop} {S:World->Prop} {late:Nat->Bool} {fuel:Nat} {listed:Array Bool} {a:Act} {w:World} {b:Act} {v:Value} {oi:Oper} (i:Nat) (hS:S w)  (h:wpAnyL P md ops Q S late fuel (listed.setIfInBounds i true) b w)
  (hi:ops[i]?=some oi:=by rfl) (hs:Region.noSelect ops=true:=by kernel_rfl) (hf:Region.free md ops listed i=true:=by kernel_rfl) (hr:(Region.ready md ops listed).contains i=true:=by kernel_rfl) (hl:waitFor md ops late listed i=true:=by kernel_rfl) (hQ:∀ c a w,Q (.panic c) (a.put oi.dst v) w->Q (.panic c) a w:=by exact fun _ _ _ h=>h) (hw:Region.wanted oi (yielded ops a.tmps)=true:=by rfl) (hy:∀ w,S w->(execOp a.eval oi).run P w=.ok (.value v) w:=by intro wz ae;go_simp;try rfl) (hb:a.put oi.dst v=b:=by first | (simp only [Act.put,sT,sZ,sS];rfl) | rfl):wpAnyL P md ops Q S late (fuel+1) listed a w:=
 zBN hi hs hf hr hl hQ hS hw hy (hb ▸ h)
theorem tnQ {P:Program} {md:Region.Mode} {ops:Array Oper} {Q:Exit->Act->World->Prop} {S:World->Prop} {late:Nat->Bool} {fuel:Nat} {listed:Array Bool} {a:Act} {w:World} {o:Oper} (i:Nat) (h:∀ K':Act->World->Prop,Shut (∀ a w,(late i=false->S w)->wpAnyL P md ops Q S late fuel (listed.setIfInBounds i true) a w->K' a w)->Oper.wp P o a w K' Q)
  (ho:ops[i]?=some o:=by rfl) (hr:Region.ready md ops listed=[i]:=by kernel_rfl) (hw:Region.wanted o (yielded ops a.tmps)=true:=by rfl):wpAnyL P md ops Q S late (fuel+1) listed a w:=wpAnyL_one ho hr hw h
end Go.Proofs.YtkfgbhlpjkkgfaaGreatDoor
namespace Go.Proofs.YtkfgbhlpjkkgfaaGreatDoor
open Go.Lib
abbrev Te:=Int × List UInt8
theorem zBq:∀ a:List UInt8,compareBytes a a=0
 | []=>by simp [compareBytes]
 | x :: a=>by
  unfold compareBytes;rw [if_neg (by simp),if_neg (by simp)];exact zBq a
theorem zDh:∀ a b:List UInt8,compareBytes a b=0->a=b
 | [],[],_=>rfl
 | [],_ :: _,h=>by simp [compareBytes] at h
 | _ :: _,[],h=>by simp [compareBytes] at h
 | x :: a,y :: b,h=>by
  unfold compareBytes at h
  split at h
  ·omega
  ·split at h
   ·omega
   ·rename_i h1 h2
    have e:x=y:=UInt8.le_antisymm (UInt8.not_lt.1 h2) (UInt8.not_lt.1 h1);rw [e,zDh a b h]
theorem zCd:∀ a b:List UInt8,compareBytes b a = - compareBytes a b
 | [],[]=>by simp [compareBytes]
 | [],_ :: _=>by simp [compareBytes]
 | _ :: _,[]=>by simp [compareBytes]
 | x :: a,y :: b=>by
  unfold compareBytes;by_cases h1:x<y
  ·have h2:¬y<x:=fun h=>absurd (UInt8.lt_trans h1 h) (UInt8.lt_irrefl _)
   simp [h1,h2]
  ·by_cases h2:y<x
   ·simp [h1,h2]
   ·simp only [h1,h2,if_false]
    exact zCd a b
theorem zCn:∀ a b:List UInt8,compareBytes a b = -1\/compareBytes a b=0\/compareBytes a b=1
 | [],[]=>by simp [compareBytes]
 | [],_ :: _=>by simp [compareBytes]
 | _ :: _,[]=>by simp [compareBytes]
 | x :: a,y :: b=>by
  unfold compareBytes
  split
  ·exact .inl rfl
  ·split
   ·exact .inr (.inr rfl)
   ·exact zCn a b
theorem zBr:∀ a b c:List UInt8,compareBytes a b<0->compareBytes b c<0->compareBytes a c<0
 | [],[],c,h,_=>by simp [compareBytes] at h
 | [],_ :: _,[],_,h=>by simp [compareBytes] at h
 | [],_ :: _,_ :: _,_,_=>by simp [compareBytes]
 | _ :: _,[],_,h,_=>by simp [compareBytes] at h
 | _ :: _,_ :: _,[],_,h=>by simp [compareBytes] at h
 | x :: a,y :: b,z :: c,h1,h2=>by
  unfold compareBytes at h1 h2 ⊢;by_cases p:x<y
  ·by_cases q:y<z
   ·rw [if_pos (UInt8.lt_trans p q)];omega
   ·by_cases q2:z<y
    ·rw [if_neg q,if_pos q2] at h2;omega
    ·have e:y=z:=UInt8.le_antisymm (UInt8.not_lt.1 q2) (UInt8.not_lt.1 q)
     subst e;rw [if_pos p];omega
  ·by_cases p2:y<x
   ·rw [if_neg p,if_pos p2] at h1;omega
   ·have e:x=y:=UInt8.le_antisymm (UInt8.not_lt.1 p2) (UInt8.not_lt.1 p)
    subst e;rw [if_neg p,if_neg p2] at h1;by_cases q:x<z
    ·rw [if_pos q];omega
    ·by_cases q2:z<x
     ·rw [if_neg q,if_pos q2] at h2;omega
     ·rw [if_neg q,if_neg q2] at h2 ⊢
      exact zBr a b c h1 h2
def Rises (r:List Te):Prop:=r.Pairwise fun x y=>compareBytes x.2 y.2<0
theorem rises_eq:∀ {r q:List Te},Rises r->Rises q->(∀ x,x ∈ r↔x ∈ q)->r=q
 | [],[],_,_,_=>rfl
 | [],y :: q,_,_,h=>by have:=(h y).2 (by simp);simp at this
 | x :: r,[],_,_,h=>by have:=(h x).1 (by simp);simp at this
 | x :: r,y :: q,hr,hq,h=>by
  obtain ⟨lk,im⟩:=List.pairwise_cons.1 hr;obtain ⟨dh,dK⟩:=List.pairwise_cons.1 hq;have EG:∀ a:List UInt8,¬compareBytes a a<0:=fun a=>by rw [zBq];omega
  have e:x=y:=by
   have h1:=(h x).1 (by simp);have h2:=(h y).2 (by simp);rcases List.mem_cons.1 h1 with e | m1
   ·exact e
   ·rcases List.mem_cons.1 h2 with e | m2
    ·exact e.symm
    ·exact absurd (zBr _ _ _ (lk y m2) (dh x m1)) (EG _)
  subst e;have ht:r=q:=rises_eq im dK fun z=>by
   constructor
   ·intro hz
    rcases List.mem_cons.1 ((h z).1 (by simp [hz])) with e | m
    ·subst e;exact absurd (lk z hz) (EG _)
    ·exact m
   ·intro hz
    rcases List.mem_cons.1 ((h z).2 (by simp [hz])) with e | m
    ·subst e;exact absurd (dh z hz) (EG _)
    ·exact m
  rw [ht]
def sumOf:List Te->List UInt8->Int
 | [],_=>0
 | t :: l,s=>(if t.2=s then t.1 else 0)+sumOf l s
theorem zCF (s:List UInt8):∀ a b:List Te,sumOf (a++b) s=sumOf a s+sumOf b s
 | [],b=>by simp [sumOf]
 | t :: a,b=>by simp [sumOf,zCF s a b];omega
theorem sumOf_perm {a b:List Te} (h:a.Perm b) (s:List UInt8):sumOf a s=sumOf b s:=by
 induction h with
 | nil=>rfl
 | cons x _ ih=>simp [sumOf,ih]
 | swap x y l=>simp [sumOf];omega
 | trans _ _ ih1 ih2=>exact ih1.trans ih2
structure NF (l r:List Te):Prop where
 rise:Rises r
 mem:∀ n s,(n,s) ∈ r↔n=sumOf l s/\n≠0
theorem NF.uniq {l r q:List Te} (h:NF l r) (k:NF l q):r=q :=
 rises_eq h.rise k.rise fun x=>by
  obtain ⟨n,s⟩:=x;rw [h.mem,k.mem]
theorem NF.perm {l l' r:List Te} (h:NF l r) (p:l.Perm l'):NF l' r:=⟨h.rise,fun n s=>by rw [h.mem,sumOf_perm p]⟩
structure MG (done acc:List Te):Prop where
 rise:Rises acc
 sum:∀ n s,(n,s) ∈ acc->n=sumOf done s
 all:∀ t,t ∈ done->∃ n,(n,t.2) ∈ acc
theorem zFW {l:List Te} {s:List UInt8} (h:∀ t ∈ l,t.2≠s):sumOf l s=0:=by
 induction l with
 | nil=>rfl
 | cons t l ih=>
  unfold sumOf;rw [if_neg (h t (by simp)),ih (fun u hu=>h u (by simp [hu]))];rfl
theorem mg_nil:MG [] []:=⟨List.Pairwise.nil,fun _ _ h=>by simp at h,fun _ h=>by simp at h⟩
theorem mg_new {done acc:List Te} {t:Te} (h:MG done acc) (ak:∀ u ∈ acc,compareBytes u.2 t.2<0):MG (done++[t]) (acc++[t]):=by
 have lL:∀ u ∈ done,u.2≠t.2:=fun u hu e=>by
  obtain ⟨n,hn⟩:=h.all u hu;have:=ak _ hn;rw [e,zBq] at this;omega
 refine ⟨?_,fun n s hm=>?_,fun u hu=>?_⟩
 ·unfold Rises
  rw [List.pairwise_append];exact ⟨h.rise,List.pairwise_singleton _ _,fun a ha b hb=>by simp at hb;subst hb;exact ak a ha⟩
 ·rw [zCF]
  rcases List.mem_append.1 hm with m | m
  ·have e:=h.sum n s m
   have cG:t.2≠s:=fun e2=>by
    have:=ak _ m;simp only at this;rw [<-e2,zBq] at this;omega
   simp [sumOf,cG,e]
  ·simp at m
   obtain rfl:t=(n,s):=m.symm;rw [zFW lL];simp [sumOf]
 ·rcases List.mem_append.1 hu with m | m
  ·obtain ⟨n,hn⟩:=h.all u m
   exact ⟨n,by simp [hn]⟩
  ·simp at m
   subst m;exact ⟨u.1,by simp⟩
theorem mg_more {done acc:List Te} {t u:Te} (h:MG done (acc++[u])) (he:u.2=t.2):MG (done++[t]) (acc++[(u.1+t.1,u.2)]):=by
 have hr:=h.rise;unfold Rises at hr;rw [List.pairwise_append] at hr;obtain ⟨r1,_,r3⟩:=hr;refine ⟨?_,fun n s hm=>?_,fun x hx=>?_⟩
 ·unfold Rises
  rw [List.pairwise_append];exact ⟨r1,List.pairwise_singleton _ _,fun a ha b hb=>by simp at hb;subst hb;exact r3 a ha u (by simp)⟩
 ·rw [zCF]
  rcases List.mem_append.1 hm with m | m
  ·have e:=h.sum n s (by simp [m])
   have cG:t.2≠s:=fun e2=>by
    have:=r3 _ m u (by simp);simp only at this;rw [he,e2,zBq] at this;omega
   simp [sumOf,cG,e]
  ·simp at m
   obtain ⟨rfl,rfl⟩:=m;have e:=h.sum u.1 u.2 (by simp);simp [sumOf,he];rw [<-he];omega
 ·rcases List.mem_append.1 hx with m | m
  ·obtain ⟨n,hn⟩:=h.all x m
   rcases List.mem_append.1 hn with m2 | m2
   ·exact ⟨n,by simp [m2]⟩
   ·simp at m2
    obtain rfl:u=(n,x.2):=m2.symm;exact ⟨n+t.1,by simp⟩
  ·simp at m
   subst m;exact ⟨u.1+x.1,by simp [he]⟩
theorem mg_nf {l acc:List Te} (h:MG l acc):NF l (acc.filter fun t=>t.1≠0):=by
 refine ⟨List.Pairwise.filter _ h.rise,fun n s=>?_⟩;simp only [List.mem_filter,decide_eq_true_eq,ne_eq]
 constructor
 ·rintro ⟨m,h0⟩
  exact ⟨h.sum n s m,by simpa using h0⟩
 ·rintro ⟨e,h0⟩
  have hex:∃ t ∈ l,t.2=s:=by
   refine Classical.byContradiction fun hn=>h0 ?_;rw [e];exact zFW fun t ht e2=>hn ⟨t,ht,e2⟩
  obtain ⟨t,ht,e2⟩:=hex;obtain ⟨m,hm⟩:=h.all t ht;rw [e2] at hm;have:=h.sum m s hm;rw [e,<-this];exact ⟨hm,by rw [this,<-e];simpa using h0⟩
theorem mg_last {done acc:List Te} {t u:Te} (h:MG done (acc++[u])) (ii:compareBytes u.2 t.2<=0) (cG:u.2≠t.2):∀ x ∈ acc++[u],compareBytes x.2 t.2<0:=by
 have hu:compareBytes u.2 t.2<0:=by
  rcases zCn u.2 t.2 with q | q | q
  ·omega
  ·exact absurd (zDh _ _ q) cG
  ·omega
 have hr:=h.rise;unfold Rises at hr;rw [List.pairwise_append] at hr;intro x hx;rcases List.mem_append.1 hx with m | m
 ·exact zBr _ _ _ (hr.2.2 x m u (by simp)) hu
 ·simp at m
  subst m;exact hu
theorem le_lt {a b c:List UInt8} (h:compareBytes a b<=0) (k:compareBytes b c<0):compareBytes a c<0:=by
 rcases zCn a b with q | q | q
 ·exact zBr _ _ _ (by omega) k
 ·rw [zDh _ _ q];exact k
 ·omega
end Go.Proofs.YtkfgbhlpjkkgfaaGreatDoor
namespace Go.Proofs.YtkfgbhlpjkkgfaaGreatDoor
open Go.RowKit Go.IntWalk
theorem new1 (w:World) (a:Value) (t:TypeId):∀ j u,[a][j]?=some u->(w.alloc (.cells #[a] t)).cell? ((⟨w.heap.size,0,none⟩:Addr).add j)=some u:=by
 intro j u hj
 match j,hj with
 | 0,hj=>simp at hj;subst hj;simp [Addr.add]
theorem Tryz.info9:(Tryz.prog.info? 9).map (fun i=>(i.zero,i.size,i.bytes))=some (some (.string ⟨#[]⟩),1,16):=by kernel_rfl
end Go.Proofs.YtkfgbhlpjkkgfaaGreatDoor
