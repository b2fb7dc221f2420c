import Derived.Test.YtophfbefnaelfaaGreatDoorA08
import Derived.Test.YtophfbefnaelfaaGreatDoorA06
import Derived.Deep.Slices
import GoSem.ClaimJoined
set_option linter.unusedVariables false
set_option linter.unusedSimpArgs false
set_option maxHeartbeats 64000000
set_option maxRecDepth 100000
namespace Go.Proofs.YtophfbefnaelfaaGreatDoor
open Go.RowKit Go.IntWalk
def neq (a b:Nd):Bool:=seq a.name b.name&&(eqL seq a.sizes b.sizes&&(eqL deq a.inn b.inn&&(eqL deq a.out b.out&&(eqL deq a.loc b.loc&&eqL qeq a.eqs b.eqs))))
theorem neq_refl (a:Nd):neq a a=true:=by
 simp [neq,seq_refl,eqL_refl a.sizes (fun x _=>seq_refl x),eqL_refl a.inn (fun x _=>deq_refl x),eqL_refl a.out (fun x _=>deq_refl x),eqL_refl a.loc (fun x _=>deq_refl x),eqL_refl a.eqs (fun x _=>qeq_refl x)]
structure NdV where
 name:ByteArray
 place:Int
 a2:Option Addr
 n2:Nat
 c2:Nat
 a3:Option Addr
 n3:Nat
 c3:Nat
 a4:Option Addr
 n4:Nat
 c4:Nat
 a5:Option Addr
 n5:Nat
 c5:Nat
 a6:Option Addr
 n6:Nat
 c6:Nat
def NdV.cells (x:NdV):List Value:=[.string x.name,.int .i64 x.place,.slice x.a2 x.n2 x.c2,.slice x.a3 x.n3 x.c3,.slice x.a4 x.n4 x.c4,.slice x.a5 x.n5 x.c5,.slice x.a6 x.n6 x.c6]
structure HNd (ok:Nat→Prop) (w:World) (x:NdV) (n:Nd):Prop where
 name:x.name=n.name
 place:x.place=n.place
 sizes:HNames ok w (.slice x.a2 x.n2 x.c2) n.sizes
 inn:HDes ok w (.slice x.a3 x.n3 x.c3) n.inn
 out:HDes ok w (.slice x.a4 x.n4 x.c4) n.out
 loc:HDes ok w (.slice x.a5 x.n5 x.c5) n.loc
 eqs:HEqs ok w (.slice x.a6 x.n6 x.c6) n.eqs
theorem HNd.keep {ok:Nat→Prop} {w w':World} {x:NdV} {n:Nd} (h:HNd ok w x n) (hs:w.heap.size≤w'.heap.size) (hk:∀ i,ok i→i<w.heap.size→w'.heap[i]?=w.heap[i]?):HNd ok w' x n :=
 ⟨h.name,h.place,h.sizes.keep hs hk,h.inn.keep hs hk,h.out.keep hs hk,h.loc.keep hs hk,h.eqs.keep hs hk⟩
theorem HNd.under {ok:Nat→Prop} {w w':World} {x:NdV} {n:Nd} (h:HNd ok w x n) (a:Below w.heap.size w w'):HNd ok w' x n:=h.keep a.size fun i _ hl=>a.block i hl
def NdAt (w:World) (b o:Nat) (y:NdV):Prop :=
 w.cell? ⟨b,o,none⟩=some (.string y.name)∧w.cell? ⟨b,o+1,none⟩=some (.int .i64 y.place)∧w.cell? ⟨b,o+2,none⟩=some (.slice y.a2 y.n2 y.c2)∧w.cell? ⟨b,o+3,none⟩=some (.slice y.a3 y.n3 y.c3) ∧
 w.cell? ⟨b,o+4,none⟩=some (.slice y.a4 y.n4 y.c4)∧w.cell? ⟨b,o+5,none⟩=some (.slice y.a5 y.n5 y.c5)∧w.cell? ⟨b,o+6,none⟩=some (.slice y.a6 y.n6 y.c6)
theorem NdAt.keep {w w':World} {b o:Nat} {y:NdV} (h:NdAt w b o y) (hb:w'.heap[b]?=w.heap[b]?):NdAt w' b o y:=by
 have hc:∀ q,w'.cell? ⟨b,q,none⟩=w.cell? ⟨b,q,none⟩:=fun q=>World.cell?_of_block (w:=w) hb;obtain ⟨h0,h1,h2,h3,h4,h5,h6⟩:=h;exact ⟨(hc _).trans h0,(hc _).trans h1,(hc _).trans h2,(hc _).trans h3,(hc _).trans h4,(hc _).trans h5,(hc _).trans h6⟩
def HNds (ok:Nat→Prop) (w:World) (v:Value) (l:List Nd):Prop:=∃ C,Sl ok 7 w v l.length C∧∀ i (h:i<l.length),∃ x,C i=x.cells∧HNd ok w x l[i]
theorem HNds.keep {ok:Nat→Prop} {w w':World} {v:Value} {l:List Nd} (h:HNds ok w v l) (hs:w.heap.size≤w'.heap.size) (hk:∀ i,ok i→i<w.heap.size→w'.heap[i]?=w.heap[i]?):HNds ok w' v l:=by
 obtain ⟨C,h1,h2⟩:=h;refine ⟨C,h1.keep hs hk,fun i hi=>?_⟩;obtain ⟨x,e,hx⟩:=h2 i hi;exact ⟨x,e,hx.keep hs hk⟩
theorem HNds.under {ok:Nat→Prop} {w w':World} {v:Value} {l:List Nd} (h:HNds ok w v l) (a:Below w.heap.size w w'):HNds ok w' v l:=h.keep a.size fun i _ hl=>a.block i hl
theorem HNds.at {ok:Nat→Prop} {w:World} {v:Value} {l:List Nd} (h:HNds ok w v l) :
  ∃ ao cap,v=.slice ao l.length cap∧l.length≤cap∧cap≤maxLen∧∀ i (h:i<l.length),∃ b o y,ao=some ⟨b,o,none⟩∧b<w.heap.size∧NdAt w b (o+i*7) y∧HNd ok w y l[i]:=by
 obtain ⟨C,⟨ao,cap,hv,h1,h2,h3⟩,hC⟩:=h;refine ⟨ao,cap,hv,h1,h2,fun i hi=>?_⟩;obtain ⟨b,o,ha,hob,hb,hc⟩:=h3 (by omega);obtain ⟨x,hx,hq⟩:=hC i hi;have hcc:=(hc i hi).2;rw [hx] at hcc;exact ⟨b,o,x,ha,hb,⟨hcc 0 (by decide),hcc 1 (by decide),hcc 2 (by decide),hcc 3 (by decide),hcc 4 (by decide),hcc 5 (by decide),hcc 6 (by decide)⟩,hq⟩
theorem sameNode_any {ok ok':Nat→Prop} {w:World} {x y:NdV} {a b:Nd} (hx:HNd ok w x a) (hy:HNd ok' w y b) :
  Calls Tryz.prog 43 #[.agg #[.string x.name,.int .i64 x.place,.slice x.a2 x.n2 x.c2,.slice x.a3 x.n3 x.c3,.slice x.a4 x.n4 x.c4,.slice x.a5 x.n5 x.c5,.slice x.a6 x.n6 x.c6],.agg #[.string y.name,.int .i64 y.place,.slice y.a2 y.n2 y.c2,.slice y.a3 y.n3 y.c3,.slice y.a4 y.n4 y.c4,.slice y.a5 y.n5 y.c5,.slice y.a6 y.n6 y.c6]] w fun e w'=>e=.returned (.bool (neq a b))∧Below w.heap.size w w':=by
 obtain ⟨R,hR⟩:=nmQ (neq a b);rw [←hR];have h0':seq a.name b.name=(x.name.toList==y.name.toList):=(by rw [hx.name,hy.name];rfl);unfold neq at hR;rw [h0'] at hR;clear h0';have HR:=hide hR;clear hR;have hB:∀ o o',Below w.heap.size w ((w.alloc o).alloc o'):=fun o o'=>((Below.refl _ w).alloc nR o).alloc (by simp) o';have sizes0:=hx.sizes;have sizes1:=hy.sizes;have inn0:=hx.inn;have inn1:=hy.inn;have out0:=hx.out;have out1:=hy.out;have loc0:=hx.loc;have loc1:=hy.loc;have eqs0:=hx.eqs;have eqs1:=hy.eqs;clear hx hy
 cases h0:(x.name.toList==y.name.toList)
 ·go_enter Tryz.func43,Tryz.ntmps43
  go_wp2;go_ret;exact ⟨ret_bool (by rw [HR.out,h0];rfl),hB _ _⟩
 ·go_enter Tryz.func43,Tryz.ntmps43
  go_wp2_with fail;refine (equalStr_any (sizes0.under (hB _ _)) (sizes1.under (hB _ _))).mono ?_;rintro e w1 ⟨rfl,b1⟩;have hb1:=(hB _ _).trans (b1.mono (by simp;omega));have k1:=(aside b1 (S:=[])).keep (kA (heap_new w _) _) (by simp;omega) (by simp);have k2:=(aside b1 (S:=[])).keep (heap_new (w.alloc _) _) (by simp) (by simp);have e2:∀ o:Obj,(w.alloc o).heap.size=w.heap.size+1:=fun o=>by simp
  rw [e2] at k2;have z1:w.heap.size+1+1≤w1.heap.size:=(by simpa using b1.size);clear b1
  cases h1:eqL seq a.sizes b.sizes
  ·go_wp2
   go_ret;exact ⟨ret_bool (by rw [HR.out,h0,h1];rfl),hb1⟩
  ·have p:=co k1 3
   have q:=co k2 3;simp at p q;go_wp2_with fail;refine (equalDecls_any (inn0.under hb1) (inn1.under hb1)).mono ?_;rintro e w2 ⟨rfl,b2⟩;have hb2:=hb1.trans (b2.mono hb1.size)
   replace k1:=(aside b2 (S:=[])).keep k1 (by omega) (by simp)
   replace k2:=(aside b2 (S:=[])).keep k2 (by omega) (by simp)
   have z2:=b2.size;clear b2 p q
   cases h2:eqL deq a.inn b.inn
   ·go_wp2
    go_ret;exact ⟨ret_bool (by rw [HR.out,h0,h1,h2];rfl),hb2⟩
   ·have p:=co k1 4
    have q:=co k2 4;simp at p q;go_wp2_with fail;refine (equalDecls_any (out0.under hb2) (out1.under hb2)).mono ?_;rintro e w3 ⟨rfl,b3⟩;have hb3:=hb2.trans (b3.mono hb2.size)
    replace k1:=(aside b3 (S:=[])).keep k1 (by omega) (by simp)
    replace k2:=(aside b3 (S:=[])).keep k2 (by omega) (by simp)
    have z3:=b3.size;clear b3 p q
    cases h3:eqL deq a.out b.out
    ·go_wp2
     go_ret;exact ⟨ret_bool (by rw [HR.out,h0,h1,h2,h3];rfl),hb3⟩
    ·have p:=co k1 5
     have q:=co k2 5;simp at p q;go_wp2_with fail;refine (equalDecls_any (loc0.under hb3) (loc1.under hb3)).mono ?_;rintro e w4 ⟨rfl,b4⟩;have hb4:=hb3.trans (b4.mono hb3.size)
     replace k1:=(aside b4 (S:=[])).keep k1 (by omega) (by simp)
     replace k2:=(aside b4 (S:=[])).keep k2 (by omega) (by simp)
     have z4:=b4.size;clear b4 p q
     cases h4:eqL deq a.loc b.loc
     ·go_wp2
      go_ret;exact ⟨ret_bool (by rw [HR.out,h0,h1,h2,h3,h4];rfl),hb4⟩
     ·have p:=co k1 6
      have q:=co k2 6;simp at p q;go_wp2_with fail;refine (equalEqs_any (eqs0.under hb4) (eqs1.under hb4)).mono ?_;rintro e w5 ⟨rfl,b5⟩;have hb5:=hb4.trans (b5.mono hb4.size)
      replace k1:=(aside b5 (S:=[])).keep k1 (by omega) (by simp)
      replace k2:=(aside b5 (S:=[])).keep k2 (by omega) (by simp)
      have z5:=b5.size;clear b5 p q;go_wp2;go_ret;exact ⟨ret_bool (by rw [HR.out,h0,h1,h2,h3,h4];simp),hb5⟩
theorem equalNodes_any {ok ok':Nat→Prop} {w:World} {v u:Value} {l r:List Nd} (hl:HNds ok w v l) (hr:HNds ok' w u r) :
  Calls Tryz.prog 42 #[v,u,.func (.func 43) #[] #[]] w fun e w'=>e=.returned (.bool (eqL neq l r))∧Below w.heap.size w w':=by
 obtain ⟨ao,cap,rfl,hc1,hc2,hat⟩:=hl.at;obtain ⟨ao',cap',rfl,hd1,hd2,hat'⟩:=hr.at;unfold maxLen at hc2 hd2;obtain ⟨R,hR⟩:=nmQ (eqL neq l r);rw [←hR];have HR:=hide hR;clear hR hl hr;obtain ⟨n,hn⟩:=nmQ (l.length);obtain ⟨m,hm⟩:=nmQ (r.length);rw [←hn] at hc1 ⊢;rw [←hm] at hd1 ⊢;have HN:=hide hn;have HM:=hide hm;by_cases hlen:n=m
 ·subst hlen
  have hq:((n:Int) != (n:Int))=false:=(by simp);clear hn hm;go_enter Tryz.func42,Tryz.ntmps42;go_wp2;go_loopg [17] n (fun k v wr=>∃ i,i≤n∧k=n-i∧v=.int .i64 (i:Nat)∧Hid (∀ j (h:j<l.length) (h':j<r.length),j<i→neq l[j] r[j]=true)∧Below w.heap.size w wr)
  case atStart=>exact ⟨0,Nat.zero_le _,rfl,rfl,fun j _ _ h=>absurd h (Nat.not_lt_zero _),Below.refl _ _⟩
  case round=>
   obtain ⟨i,hi,rfl,rfl,H,hbr⟩:=hrel;by_cases hlt:i<n
   ·have hil:i<l.length:=by have:=HN.out;omega
    have hir:i<r.length:=(by have:=HM.out;omega);obtain ⟨b,o,x,rfl,hb,hxa,hx⟩:=hat i hil;obtain ⟨b',o',y,rfl,hb',hya,hy⟩:=hat' i hir;obtain ⟨c0,c1,c2,c3,c4,c5,c6⟩:=hxa.keep (hbr.block b hb);obtain ⟨d0,d1,d2,d3,d4,d5,d6⟩:=hya.keep (hbr.block b' hb');have zb':b'<wr.heap.size:=Nat.lt_of_lt_of_le hb' hbr.size;have f0:=fun o=>((Below.refl _ wr).alloc nR o).cell (p:=⟨b',o'+i*7,none⟩) zb' |>.trans d0
    have f1:=fun o=>((Below.refl _ wr).alloc nR o).cell (p:=⟨b',o'+i*7+1,none⟩) zb' |>.trans d1
    have f2:=fun o=>((Below.refl _ wr).alloc nR o).cell (p:=⟨b',o'+i*7+2,none⟩) zb' |>.trans d2
    have f3:=fun o=>((Below.refl _ wr).alloc nR o).cell (p:=⟨b',o'+i*7+3,none⟩) zb' |>.trans d3
    have f4:=fun o=>((Below.refl _ wr).alloc nR o).cell (p:=⟨b',o'+i*7+4,none⟩) zb' |>.trans d4
    have f5:=fun o=>((Below.refl _ wr).alloc nR o).cell (p:=⟨b',o'+i*7+5,none⟩) zb' |>.trans d5
    have f6:=fun o=>((Below.refl _ wr).alloc nR o).cell (p:=⟨b',o'+i*7+6,none⟩) zb' |>.trans d6
    have hB:∀ o o',Below wr.heap.size wr ((wr.alloc o).alloc o'):=fun o o'=>((Below.refl _ wr).alloc nR o).alloc (by simp) o';have g1:=hx.under hbr;have g2:=hy.under hbr;clear hxa hya hx hy;clear hat hat'
    cases hxy:neq l[i] r[i]
    ·
     go_wp2_with fail;refine (sameNode_any (g1.under (hB _ _)) (g2.under (hB _ _))).mono ?_;rintro e w1 ⟨rfl,b1⟩;rw [hxy]
     all_goals
      have hb1:=hbr.trans (((hB _ _).trans (b1.mono (by simp;omega))).mono hbr.size);go_wp2;go_ret;refine ⟨ret_bool ?_,hb1⟩;rw [HR.out];exact (eqL_bad i hil hir hxy).symm
    ·
     go_wp2_with fail;refine (sameNode_any (g1.under (hB _ _)) (g2.under (hB _ _))).mono ?_;rintro e w1 ⟨rfl,b1⟩;rw [hxy]
     all_goals
      have hb1:=hbr.trans (((hB _ _).trans (b1.mono (by simp;omega))).mono hbr.size);go_wp2;go_roundg (n-(i+1))
      case measure=>omega
      case rel=>
       refine ⟨i+1,by omega,rfl,by go_num,fun j hj hj' hji=>?_,hb1⟩;by_cases e:j=i
       ·subst e
        exact hxy
       ·exact H.out j hj hj' (by omega)
   ·have hie:i=n:=by omega
    subst hie;clear hat hat';go_wp2;go_ret;refine ⟨ret_bool ?_,hbr⟩;rw [HR.out];exact (eqL_all (by rw [←HN.out,←HM.out]) (fun j hj hj'=>H.out j hj hj' (by rw [HN.out];exact hj))).symm
 ·have hq:((n:Int) != (m:Int))=true:=by simp;omega
  clear hat hat' hn hm;go_enter Tryz.func42,Tryz.ntmps42;go_wp2;go_ret;refine ⟨ret_bool ?_,Below.refl _ _⟩;rw [HR.out];exact (eqL_len (by rw [←HN.out,←HM.out];exact hlen)).symm
theorem same_any {ok ok':Nat→Prop} {w:World} {a a':Option Addr} {n n' c c':Nat} {l r:List Nd} (hl:HNds ok w (.slice a n c) l) (hr:HNds ok' w (.slice a' n' c') r) :
  Calls Tryz.prog 17 #[.agg #[.slice a n c],.agg #[.slice a' n' c']] w fun e w'=>e=.returned (.bool (eqL neq l r))∧Below w.heap.size w w':=by
 have hB:∀ o o',Below w.heap.size w ((w.alloc o).alloc o'):=fun o o'=>((Below.refl _ w).alloc nR o).alloc (by simp) o';go_enter Tryz.func17,Tryz.ntmps17;go_wp2_with fail;refine (equalNodes_any (hl.under (hB _ _)) (hr.under (hB _ _))).mono ?_;rintro e w1 ⟨rfl,b1⟩;have hb1:=(hB _ _).trans (b1.mono (by simp;omega));go_wp2;go_ret;exact ⟨rfl,hb1⟩
def flat (C:Nat→List Value):Nat→List Value
 | 0=>[]
 | n+1=>flat C n++C n
theorem flat_len {C:Nat→List Value} {k:Nat}:∀ n,(∀ i,i<n→(C i).length=k)→(flat C n).length=n*k
 | 0,_=>by simp [flat]
 | n+1,h=>by
  rw [flat,List.length_append,flat_len n (fun i hi=>h i (by omega)),h n (by omega),Nat.succ_mul]
theorem flat_get {C:Nat→List Value} {k:Nat}:∀ n,(∀ i,i<n→(C i).length=k)→∀ i j,i<n→j<k→(flat C n)[i*k+j]?=(C i)[j]?
 | 0,_,i,j,hi,_=>absurd hi (Nat.not_lt_zero _)
 | n+1,h,i,j,hi,hj=>by
  have hl:=flat_len n (fun i hi=>h i (by omega)) (C:=C) (k:=k);rw [flat];by_cases e:i=n
  ·subst e
   rw [List.getElem?_append_right (by omega),hl]
   congr 1
   omega
  ·have hin:i<n:=by omega
   have:i*k+j<n*k:=by
    have:(i+1)*k≤n*k:=Nat.mul_le_mul_right k (by omega);rw [Nat.succ_mul] at this;omega
   rw [List.getElem?_append_left (by omega)];exact flat_get n (fun i hi=>h i (by omega)) i j hin hj
theorem flat_congr {C D:Nat→List Value}:∀ n,(∀ i,i<n→C i=D i)→flat C n=flat D n
 | 0,_=>rfl
 | n+1,h=>by rw [flat,flat,flat_congr n (fun i hi=>h i (by omega)),h n (by omega)]
theorem owns_sl {w:World} {base:Nat} {e:TypeId} {k:Nat} {v:Value} {n:Nat} {C:Nat→List Value} (h:w.ownsRow base e k v n (flat C n)) (hC:∀ i,i<n→(C i).length=k):Sl (fun i=>base≤i) k w v n C:=by
 by_cases hn:0<n
 ·obtain ⟨g,cap,hv,h1,h2,h3,h4,h5⟩:=owns_pos h hn
  refine ⟨_,cap,hv,h3,h4,fun _=>⟨g,0,rfl,h1,h2,fun i hi=>⟨hC i hi,fun j hj=>?_⟩⟩⟩;have hg:=flat_get n hC i j hi hj;have hjl:j<(C i).length:=(by rw [hC i hi];exact hj);have:=h5 (i*k+j) ((C i)[j]) (by rw [hg];exact List.getElem?_eq_getElem hjl);rw [Nat.zero_add,this,List.getElem?_eq_getElem hjl]
 ·rcases h.2 with ⟨hv,h0⟩ | ⟨g,cap,cur,hv,hb,hg,hnc,hcm,hcs,htake⟩
  ·exact ⟨none,0,by rw [hv,h0],by omega,Nat.zero_le _,fun h=>absurd h hn⟩
  ·exact ⟨_,cap,hv,hnc,hcm,fun h=>absurd h hn⟩
theorem Tryz.info86:(Tryz.prog.info? 86).map (fun i=>(i.zero,i.size,i.bytes))=some (some (.agg #[.int .i64 0,.string ⟨#[]⟩]),2,24):=by kernel_rfl
theorem Tryz.info73:(Tryz.prog.info? 73).map (fun i=>(i.zero,i.size,i.bytes))=some (some (.slice none 0 0),1,24):=by kernel_rfl
def FitS (S:List (List Tm)):Prop:=S.length*24≤140737488355328∧∀ i (h:i<S.length),(S[i]).length*24≤140737488355328
theorem run_push {P:Program} (w:World) (base:Nat) (t ty e:TypeId) (i:TypeInfo) (z:Value) (size bytes:Nat) (ht:P.underlying t=some (.slice e)) (hi:P.info? e=some i) (hz:i.zero=some z)
  (hsize:i.size=size) (hby:i.bytes=bytes) (hzs:z.cells.size=size) (hsz:0<size)
  (v:Value) (n:Nat) (xs:List Value) (hown:w.ownsRow base e size v n xs)
  (a:Addr) (m c:Nat) (news:List Value) (hl:news.length=m*size) (hnews:∀ j u,news[j]?=some u→w.cell? (a.add j)=some u) (h1:∀ u ∈ news,u.oneCell'=true)
  (h63:n+m≤maxLen) (hbytes:(n+m)*bytes≤140737488355328) (hbase:base≤w.heap.size) :
  ∃ v' w',(Builtin.append_ #[t,t] ty #[v,.slice (some a) m c]).run P w=.ok v' w'∧w'.ownsRow base e size v' (n+m) (xs++news)∧w.grownBy w' v.ownBlock∧(v'.ownBlock=v.ownBlock∨∃ k,v'.ownBlock=some k∧w.heap.size≤k):=by
 obtain ⟨v',w',hr,h2,h3,h4⟩:=run_append_own (P:=P) w base t ty e i z size bytes ht hi hz hsize hby hzs hsz v n xs hown a m c news hl hnews h1 h63 hbytes hbase;refine ⟨v',w',hr,h2,h3,?_⟩;have hcell:=@World.ownsRow.cells _ _ _ _ _ _ _ hown;rcases hown.2 with ⟨rfl,h0⟩ | ⟨g,cap,cur,rfl,hb,hg,hnc,hcm,hcs,htake⟩
 ·obtain ⟨v2,w2,hr2,h22,_⟩:=run_append_own (P:=P) w w.heap.size t ty e i z size bytes ht hi hz hsize hby hzs hsz (.slice none 0 0) n xs ⟨hown.1,.inl ⟨rfl,h0⟩⟩ a m c news hl hnews h1 h63 hbytes nR
  rw [hr] at hr2;injection hr2 with e1 e2;subst e1 e2;rcases h22.2 with ⟨rfl,_⟩ | ⟨g,cap,cur,rfl,hb,_⟩
  ·exact .inl rfl
  ·exact .inr ⟨g,rfl,hb⟩
 ·by_cases hroom:n+m≤cap
  ·subst hsize
   have hin:∀ j,j<news.length→0+n*i.size+j<cur.size:=fun j hj=>by
    have:(n+m)*i.size≤cap*i.size:=Nat.mul_le_mul_right _ hroom;rw [Nat.add_mul] at this;rw [hcs];omega
   have hr2:=run_append_room_cells (P:=P) w t ty e i ht hi g 0 n cap a m c news hl hnews h1 hroom
    (fun j hj=>by rw [co hg];have:=hin j hj;simp at this ⊢;omega) (fun j hj=>fo hg _)
   rw [hr] at hr2;injection hr2 with e1 e2;subst e1;exact .inl rfl
  ·obtain ⟨v2,w2,hr2,h22,_⟩:=run_append_arg_grows (P:=P) w t ty e i z size bytes ht hi hz hsize hby hzs hsz ⟨g,0,none⟩ n cap xs hown.1 (fun j u hu=>@hcell g rfl j u hu) a m c news hl hnews (by omega) h63 hbytes
   rw [hr] at hr2;injection hr2 with e1 e2;subst e1 e2;rcases h22.2 with ⟨rfl,hz0⟩ | ⟨g',cap',cur',rfl,hb',_⟩
   ·exfalso
    have:¬(0:Nat)<n+m:=(by omega);omega
   ·exact .inr ⟨g',rfl,hb'⟩
theorem wpList_push {w:World} {ops:Array Oper} {rest:List Oper} {o:Oper} {a:Act} {Q:Exit→Act→World→Prop} (hgd:o.guard=none) (s x:Operand) (t:TypeId)
  (ho:o.op=.call { callee:=.builtin .append,args:=#[s,x],argTypes:=#[t,t] })
  (base:Nat) (e:TypeId) (i:TypeInfo) (z:Value) (size bytes:Nat) (ht:Tryz.prog.underlying t=some (.slice e)) (hi:Tryz.prog.info? e=some i) (hz:i.zero=some z)
  (hsize:i.size=size) (hby:i.bytes=bytes) (hzs:z.cells.size=size) (hsz:0<size)
  (v:Value) (n:Nat) (xs:List Value) (hs:a.eval s=v) (hown:w.ownsRow base e size v n xs)
  (ad:Addr) (m c:Nat) (news:List Value) (hx:a.eval x=.slice (some ad) m c) (hl:news.length=m*size) (hnews:∀ j u,news[j]?=some u→w.cell? (ad.add j)=some u) (h1:∀ u ∈ news,u.oneCell'=true)
  (h63:n+m≤maxLen) (hbytes:(n+m)*bytes≤140737488355328) (hbase:base≤w.heap.size)
  (h:∀ v' w',w'.ownsRow base e size v' (n+m) (xs++news)→w.grownBy w' v.ownBlock→(v'.ownBlock=v.ownBlock∨∃ k,v'.ownBlock=some k∧w.heap.size≤k)→wpList Tryz.prog ops Q rest (a.put o.dst v') w'):wpList Tryz.prog ops Q (o :: rest) a w:=by
 obtain ⟨v',w',hr,h2,h3,h4⟩:=run_push (P:=Tryz.prog) w base t o.type e i z size bytes ht hi hz hsize hby hzs hsz v n xs hown ad m c news hl hnews h1 h63 hbytes hbase;refine wpList_plain hgd fun _ hK=>?_;unfold Oper.wp execOp;simp only [ho,resolve,invoke,builtin,Sem.run_bind,Sem.run_pure,Result.andThen_ok,List.map_toArray,List.map_cons,List.map_nil,hs,hx,hr];exact hK _ _ (h v' w' h2 h3 h4)
def Moved (W:World) (v v':Value):Prop:=v'.ownBlock=v.ownBlock∨∃ k,v'.ownBlock=some k∧W.heap.size≤k
def Off (B:Nat) (v:Value) (k:Nat):Prop:=B≤k∧some k≠v.ownBlock
theorem Off.moved {B:Nat} {W:World} {v v':Value} (h:Moved W v v') {k:Nat} (hk:Off B v k) (hl:k<W.heap.size):Off B v' k:=by
 refine ⟨hk.1,fun e=>?_⟩;rcases h with h | ⟨q,hq,hz⟩
 ·exact hk.2 (e.trans h)
 ·rw [hq] at e
  injection e with e;omega
theorem grown_keep {B:Nat} {W W':World} {v:Value} (h:W.grownBy W' v.ownBlock):∀ k,Off B v k→k<W.heap.size→W'.heap[k]?=W.heap[k]?:=fun k hk hl=>h.block k hl hk.2
theorem Below.push {B:Nat} {w W W':World} {v:Value} {e:TypeId} {size n:Nat} {xs:List Value} (hb:Below B w W) (hB:B≤W.heap.size) (ho:W.ownsRow B e size v n xs) (hg:W.grownBy W' v.ownBlock):Below B w W' :=
 hb.grown hg hB (fun k hk=>(World.ownsRow.lt ho k hk).1)
def FitD (l:List De):Prop:=l.length*48≤140737488355328∧∀ i (h:i<l.length),(l[i]).n.length*24≤140737488355328
theorem HTerms.set {ok:Nat→Prop} {w:World} {v:Value} {l:List Tm} (h:HTerms ok w v l) {p:Addr} (hp:¬ok p.block) (u:Value):HTerms ok (w.setCell p u) v l :=
 h.keep (by simp [World.setCell]) fun i hi hl=>Below.heap_setCell _ _ _ _ (fun e=>hp (e ▸ hi))
inductive FitX:Ex→Prop
 | mk {o k n:Int} {s:ByteArray} {S:List (List Tm)} {L:List Ex} (hS:FitS S) (hL:L.length*88≤140737488355328) (hE:∀ i (h:i<L.length),FitX L[i]):FitX (.mk o k n s S L)
def FitXs (L:List Ex):Prop:=L.length*88≤140737488355328∧∀ i (h:i<L.length),FitX L[i]
theorem FitX.parts {e:Ex} (h:FitX e):FitS e.S∧FitXs e.L:=by
 cases h with
 | mk hS hL hE=>exact ⟨hS,hL,hE⟩
theorem HEx.make {ok:Nat→Prop} {w:World} {x:ExV} {e:Ex} (h1:x.op=e.op) (h2:x.k=e.k) (h3:x.n=e.n) (h4:x.name=e.name) (hS:HSizes ok w (.slice x.aS x.nS x.cS) e.S) (hL:HExs ok w (.slice x.aL x.nL x.cL) e.L):HEx ok w x.cells e:=by
 obtain ⟨o,k,n,s,S,L⟩:=e;obtain ⟨xo,xk,xn,xs,a,b,c,d,f,g⟩:=x;simp only [Ex.op,Ex.k,Ex.n,Ex.name,Ex.S,Ex.L] at h1 h2 h3 h4 hS hL;subst h1 h2 h3 h4;obtain ⟨C,hl,hE⟩:=hL;exact .mk C hS hl hE
theorem HExs.wide {ok ok':Nat→Prop} {w:World} {v:Value} {l:List Ex} (h:HExs ok w v l) (hk:∀ i,ok i→i<w.heap.size→ok' i):HExs ok' w v l:=by
 obtain ⟨C,h1,h2⟩:=h;exact ⟨C,h1.wide hk,fun i hi=>(h2 i hi).wide hk⟩
theorem HSizes.set {ok:Nat→Prop} {w:World} {v:Value} {l:List (List Tm)} (h:HSizes ok w v l) {p:Addr} (hp:¬ok p.block) (u:Value):HSizes ok (w.setCell p u) v l :=
 h.keep (by simp [World.setCell]) fun i hi hl=>Below.heap_setCell _ _ _ _ (fun e=>hp (e ▸ hi))
theorem HExs.set {ok:Nat→Prop} {w:World} {v:Value} {l:List Ex} (h:HExs ok w v l) {p:Addr} (hp:¬ok p.block) (u:Value):HExs ok (w.setCell p u) v l :=
 h.keep (by simp [World.setCell]) fun i hi hl=>Below.heap_setCell _ _ _ _ (fun e=>hp (e ▸ hi))
theorem Tryz.info88:(Tryz.prog.info? 88).map (fun i=>(i.zero,i.size,i.bytes))=some (some (.agg #[.int .i64 0,.int .i64 0,.int .i64 0,.string ⟨#[]⟩,.slice none 0 0,.slice none 0 0]),6,88):=by kernel_rfl
end Go.Proofs.YtophfbefnaelfaaGreatDoor
namespace Go.Proofs.YtophfbefnaelfaaGreatDoor
open Go.RowKit Go.IntWalk Go.Deep
section
variable {H:Type} {enc:TypeId × Value→H} {w:World}
theorem all_append {l r:List Nat} (h:(l++r).all (·≤reachBytes)=true):l.all (·≤reachBytes)=true∧r.all (·≤reachBytes)=true:=by
 simpa [List.all_append] using h
theorem weightsAll_at {P:Program} {e:TypeId}:∀ (l:List (DataW H)) (h:(DataW.weightsAll P e l).all (·≤reachBytes)=true) (i:Nat) (hi:i<l.length),((l[i]).weights P e).all (·≤reachBytes)=true
 | [],_,i,hi=>by simp at hi
 | d :: l,h,0,_=>by rw [DataW.weightsAll] at h;exact (all_append h).1
 | d :: l,h,i+1,hi=>by rw [DataW.weightsAll] at h;exact weightsAll_at l (all_append h).2 i (by simpa using hi)
theorem weightsEach_at {P:Program}:∀ (ts:List TypeId) (l:List (DataW H)) (h:(DataW.weightsEach P ts l).all (·≤reachBytes)=true) (i:Nat) (t:TypeId) (d:DataW H),ts[i]?=some t→l[i]?=some d→(d.weights P t).all (·≤reachBytes)=true
 | [],_,_,i,_,_,h1,_=>by simp at h1
 | _ :: _,[],_,i,_,_,_,h2=>by simp at h2
 | a :: ts,d :: l,h,0,_,_,h1,h2=>by
  rw [DataW.weightsEach] at h;simp at h1 h2;subst h1 h2;exact (all_append h).1
 | a :: ts,d :: l,h,i+1,t,x,h1,h2=>by
  rw [DataW.weightsEach] at h;exact weightsEach_at ts l (all_append h).2 i t x (by simpa using h1) (by simpa using h2)
theorem add_none {a:Addr} (h:a.spot=none) (q:Nat):a.add q=⟨a.block,a.off+q,none⟩:=by
 obtain ⟨b,o,s⟩:=a;simp only at h;subst h;unfold Addr.add
 split<;>simp_all
theorem spot_none {w:World} {a:Addr} {v:Value} (h:w.cell? a=some v):a.spot=none∧a.block<w.heap.size:=by
 unfold World.cell? at h
 split at h
 ·rename_i hh
  refine ⟨?_,(Array.getElem?_eq_some_iff.1 hh).1⟩
  cases hs:a.spot with
  | none=>rfl
  | some s=>rw [hs] at h;simp at h
 ·cases h
theorem open_row {t e:TypeId} {k bytes fuel:Nat} {cs:List Value} {x:DataW H × List MemPlace} (ht:Tryz.prog.underlying t=some (.slice e)) (hk:Tryz.prog.cellsOf e=k) (hk0:0<k) (hby:Tryz.prog.bytesOf e=bytes)
  (h:DataW.trod enc Tryz.prog w 0 (fun _=>true) true fuel t cs=some x) (hw:(x.1.weights Tryz.prog t).all (·≤reachBytes)=true) :
  ∃ (a:Option Addr) (n c:Nat) (C:Nat→List Value) (m:Nat) (D:Nat→DataW H) (Pl:Nat→List MemPlace),cs=[.slice a n c]∧Sl (fun _=>True) k w (.slice a n c) n C∧n*bytes≤140737488355328 ∧
   ∀ i,i<n→DataW.trod enc Tryz.prog w 0 (fun _=>true) true m e (C i)=some (D i,Pl i)∧((D i).weights Tryz.prog e).all (·≤reachBytes)=true∧SizeOf.sizeOf (D i)<SizeOf.sizeOf x.1:=by
 rcases open_slice ht h with ⟨rfl,rfl⟩ | ⟨a,len,cap,m,n,D,Pl,rfl,_,hlc,hcm,hm,rfl,hx⟩
 ·exact ⟨none,0,0,fun _=>[],0,fun _=>.nil,fun _=>[],rfl,Sl.nil,by omega,fun i hi=>absurd hi (Nat.not_lt_zero _)⟩
 ·simp only [if_true] at hm
  subst hm;rw [DataW.weights] at hw;simp only [ht] at hw;rw [List.all_cons,Bool.and_eq_true] at hw;obtain ⟨hw1,hw2⟩:=hw;have hwe:=(all_append hw2).1;simp only [List.length_map,List.length_range,hby,decide_eq_true_eq,reachBytes] at hw1;rw [hk] at hx;obtain ⟨C,hC⟩:=choose_lt (α:=List Value) (p:=fun i cs'=>w.cells? 0 (a.add (i*k)) k=some cs'∧DataW.trod enc Tryz.prog w 0 (fun _=>true) true n e cs'=some (D i,Pl i)) hx;refine ⟨some a,len,m,C,n,D,Pl,rfl,⟨some a,m,rfl,hlc,hcm,fun hp=>?_⟩,?_,fun i hi=>⟨(hC i (by omega)).2,?_,?_⟩⟩
  ·obtain ⟨_,hl0,hc0⟩:=World.cells?_some (hC 0 (by omega)).1
   have h00:=hc0 0 hk0;rw [Nat.zero_mul] at h00;have e0:(a.add 0).add 0=a:=(by simp [Addr.add]);rw [e0] at h00;have hsome:∃ v,(C 0)[0]?=some v:=⟨(C 0)[0]'(by omega),List.getElem?_eq_getElem (by omega)⟩;obtain ⟨v,hv⟩:=hsome;rw [hv] at h00;obtain ⟨hs,hb⟩:=spot_none h00;refine ⟨a.block,a.off,?_,trivial,hb,fun i hi=>?_⟩
   ·obtain ⟨b,o,s⟩:=a
    simp only at hs;subst hs;rfl
   ·obtain ⟨_,hl,hc⟩:=World.cells?_some (hC i (by omega)).1
    refine ⟨hl,fun j hj=>?_⟩;rw [←hc j hj,Deep.add_add,add_none hs,Nat.add_assoc]
  ·have:len*bytes≤(len+(m-len))*bytes:=Nat.mul_le_mul_right _ (by omega)
   omega
  ·have:=weightsAll_at _ hwe i (by simpa using hi)
   simpa using this
  ·have h1:D i ∈ (List.range len).map D:=List.mem_map.2 ⟨i,List.mem_range.2 hi,rfl⟩
   have h2:=List.sizeOf_lt_of_mem h1;simp only [DataW.slice.sizeOf_spec];omega
end
end Go.Proofs.YtophfbefnaelfaaGreatDoor
