import Derived.Test.YtfhghlpfeeiaeaaGreatDoorX00
import Derived.Deep.RegionWith
import Derived.Deep.LoopGhost
import Derived.Deep.Slices
import GoSem.ClaimJoined
import Derived.Deep.DeepCutAuto
set_option linter.unusedVariables false
set_option linter.unusedSimpArgs false
set_option maxHeartbeats 64000000
set_option maxRecDepth 100000
namespace Go.Proofs.YtfhghlpfeeiaeaaGreatDoor
open Go.RowKit Go.IntWalk
def ExAt (w:World) (b o:Nat) (y:ExV):Prop :=
 w.cell? ⟨b,o,none⟩=some (.int .i64 y.op)/\w.cell? ⟨b,o+1,none⟩=some (.int .i64 y.k)/\w.cell? ⟨b,o+2,none⟩=some (.int .i64 y.n) /\
 w.cell? ⟨b,o+3,none⟩=some (.string y.name)/\w.cell? ⟨b,o+4,none⟩=some (.slice y.aS y.nS y.cS)/\w.cell? ⟨b,o+5,none⟩=some (.slice y.aL y.nL y.cL)
theorem ExAt.keep {w w':World} {b o:Nat} {y:ExV} (h:ExAt w b o y) (hb:w'.heap[b]?=w.heap[b]?):ExAt w' b o y:=by
 have hc:∀ q,w'.cell? ⟨b,q,none⟩=w.cell? ⟨b,q,none⟩:=fun q=>World.cell?_of_block (w:=w) hb;obtain ⟨h0,h1,h2,h3,h4,h5⟩:=h;exact ⟨(hc _).trans h0,(hc _).trans h1,(hc _).trans h2,(hc _).trans h3,(hc _).trans h4,(hc _).trans h5⟩
theorem Sl.exAt {ok:Nat->Prop} {w:World} {v:Value} {L:List Ex} {C:Nat->List Value} (hL:Sl ok 6 w v L.length C) (hE:∀ i (h:i<L.length),HEx ok w (C i) L[i]) :
  ∃ ao cap,v=.slice ao L.length cap/\L.length<=cap/\cap<=maxLen/\∀ i (h:i<L.length),∃ b o y,ao=some ⟨b,o,none⟩/\ok b/\b<w.heap.size/\ExAt w b (o+i*6) y/\HEx ok w y.cells L[i]:=by
 obtain ⟨ao,cap,hv,h1,h2,h3⟩:=hL;refine ⟨ao,cap,hv,h1,h2,fun i hi=>?_⟩;obtain ⟨b,o,ha,gG,hb,hc⟩:=h3 (by omega);obtain ⟨y,hy,hex⟩:=(hE i hi).toV;have eh:=(hc i hi).2;rw [hy] at eh;exact ⟨b,o,y,ha,gG,hb,⟨eh 0 (by decide),eh 1 (by decide),eh 2 (by decide),eh 3 (by decide),eh 4 (by decide),eh 5 (by decide)⟩,hex⟩
def HExs (ok:Nat->Prop) (w:World) (v:Value) (L:List Ex):Prop:=∃ C,Sl ok 6 w v L.length C/\∀ i (h:i<L.length),HEx ok w (C i) L[i]
theorem HExs.keep {ok:Nat->Prop} {w w':World} {v:Value} {l:List Ex} (h:HExs ok w v l) (hs:w.heap.size<=w'.heap.size) (hk:∀ i,ok i->i<w.heap.size->w'.heap[i]?=w.heap[i]?):HExs ok w' v l:=by
 obtain ⟨C,h1,h2⟩:=h;exact ⟨C,h1.keep hs hk,fun i hi=>(h2 i hi).keep hs hk⟩
theorem HExs.under {ok:Nat->Prop} {w w':World} {v:Value} {l:List Ex} (h:HExs ok w v l) (a:Below w.heap.size w w'):HExs ok w' v l:=h.keep a.size fun i _ hl=>a.block i hl
theorem HExs.at {ok:Nat->Prop} {w:World} {v:Value} {L:List Ex} (h:HExs ok w v L) :
  ∃ ao cap,v=.slice ao L.length cap/\L.length<=cap/\cap<=maxLen/\∀ i (h:i<L.length),∃ b o y,ao=some ⟨b,o,none⟩/\ok b/\b<w.heap.size/\ExAt w b (o+i*6) y/\HEx ok w y.cells L[i]:=by
 obtain ⟨C,h1,h2⟩:=h;exact h1.exAt h2
structure EqV where
 place:Int
 aN:Option Addr
 nN:Nat
 cN:Nat
 node:ByteArray
 aS:Option Addr
 nS:Nat
 cS:Nat
 aE:Option Addr
 nE:Nat
 cE:Nat
def EqV.cells (x:EqV):List Value:=[.int .i64 x.place,.slice x.aN x.nN x.cN,.string x.node,.slice x.aS x.nS x.cS,.slice x.aE x.nE x.cE]
structure HEq (ok:Nat->Prop) (w:World) (x:EqV) (q:Eqn):Prop where
 place:x.place=q.place
 names:HNames ok w (.slice x.aN x.nN x.cN) q.names
 node:x.node=q.node
 S:HSizes ok w (.slice x.aS x.nS x.cS) q.S
 E:HExs ok w (.slice x.aE x.nE x.cE) q.E
theorem HEq.keep {ok:Nat->Prop} {w w':World} {x:EqV} {q:Eqn} (h:HEq ok w x q) (hs:w.heap.size<=w'.heap.size) (hk:∀ i,ok i->i<w.heap.size->w'.heap[i]?=w.heap[i]?):HEq ok w' x q :=
 ⟨h.place,h.names.keep hs hk,h.node,h.S.keep hs hk,h.E.keep hs hk⟩
theorem HEq.under {ok:Nat->Prop} {w w':World} {x:EqV} {q:Eqn} (h:HEq ok w x q) (a:Below w.heap.size w w'):HEq ok w' x q:=h.keep a.size fun i _ hl=>a.block i hl
def EqAt (w:World) (b o:Nat) (y:EqV):Prop :=
 w.cell? ⟨b,o,none⟩=some (.int .i64 y.place)/\w.cell? ⟨b,o+1,none⟩=some (.slice y.aN y.nN y.cN)/\w.cell? ⟨b,o+2,none⟩=some (.string y.node) /\
 w.cell? ⟨b,o+3,none⟩=some (.slice y.aS y.nS y.cS)/\w.cell? ⟨b,o+4,none⟩=some (.slice y.aE y.nE y.cE)
theorem EqAt.keep {w w':World} {b o:Nat} {y:EqV} (h:EqAt w b o y) (hb:w'.heap[b]?=w.heap[b]?):EqAt w' b o y:=by
 have hc:∀ q,w'.cell? ⟨b,q,none⟩=w.cell? ⟨b,q,none⟩:=fun q=>World.cell?_of_block (w:=w) hb;obtain ⟨h0,h1,h2,h3,h4⟩:=h;exact ⟨(hc _).trans h0,(hc _).trans h1,(hc _).trans h2,(hc _).trans h3,(hc _).trans h4⟩
def HEqs (ok:Nat->Prop) (w:World) (v:Value) (l:List Eqn):Prop:=∃ C,Sl ok 5 w v l.length C/\∀ i (h:i<l.length),∃ x,C i=x.cells/\HEq ok w x l[i]
theorem HEqs.keep {ok:Nat->Prop} {w w':World} {v:Value} {l:List Eqn} (h:HEqs ok w v l) (hs:w.heap.size<=w'.heap.size) (hk:∀ i,ok i->i<w.heap.size->w'.heap[i]?=w.heap[i]?):HEqs ok w' v l:=by
 obtain ⟨C,h1,h2⟩:=h;refine ⟨C,h1.keep hs hk,fun i hi=>?_⟩;obtain ⟨x,e,hx⟩:=h2 i hi;exact ⟨x,e,hx.keep hs hk⟩
theorem HEqs.under {ok:Nat->Prop} {w w':World} {v:Value} {l:List Eqn} (h:HEqs ok w v l) (a:Below w.heap.size w w'):HEqs ok w' v l:=h.keep a.size fun i _ hl=>a.block i hl
theorem HEqs.at {ok:Nat->Prop} {w:World} {v:Value} {l:List Eqn} (h:HEqs ok w v l) :
  ∃ ao cap,v=.slice ao l.length cap/\l.length<=cap/\cap<=maxLen/\∀ i (h:i<l.length),∃ b o y,ao=some ⟨b,o,none⟩/\b<w.heap.size/\EqAt w b (o+i*5) y/\HEq ok w y l[i]:=by
 obtain ⟨C,⟨ao,cap,hv,h1,h2,h3⟩,hC⟩:=h;refine ⟨ao,cap,hv,h1,h2,fun i hi=>?_⟩;obtain ⟨b,o,ha,gG,hb,hc⟩:=h3 (by omega);obtain ⟨x,hx,hq⟩:=hC i hi;have eh:=(hc i hi).2;rw [hx] at eh;exact ⟨b,o,x,ha,hb,⟨eh 0 (by decide),eh 1 (by decide),eh 2 (by decide),eh 3 (by decide),eh 4 (by decide)⟩,hq⟩
structure NdV where
 name:ByteArray
 place:Int
 a2:Option Addr
 n2:Nat
 c2:Nat
 a3:Option Addr
 n3:Nat
 c3:Nat
 a4:Option Addr
 n4:Nat
 c4:Nat
 a5:Option Addr
 n5:Nat
 c5:Nat
 a6:Option Addr
 n6:Nat
 c6:Nat
def NdV.cells (x:NdV):List Value:=[.string x.name,.int .i64 x.place,.slice x.a2 x.n2 x.c2,.slice x.a3 x.n3 x.c3,.slice x.a4 x.n4 x.c4,.slice x.a5 x.n5 x.c5,.slice x.a6 x.n6 x.c6]
structure HNd (ok:Nat->Prop) (w:World) (x:NdV) (n:Nd):Prop where
 name:x.name=n.name
 place:x.place=n.place
 sizes:HNames ok w (.slice x.a2 x.n2 x.c2) n.sizes
 inn:HDes ok w (.slice x.a3 x.n3 x.c3) n.inn
 out:HDes ok w (.slice x.a4 x.n4 x.c4) n.out
 loc:HDes ok w (.slice x.a5 x.n5 x.c5) n.loc
 eqs:HEqs ok w (.slice x.a6 x.n6 x.c6) n.eqs
theorem HNd.keep {ok:Nat->Prop} {w w':World} {x:NdV} {n:Nd} (h:HNd ok w x n) (hs:w.heap.size<=w'.heap.size) (hk:∀ i,ok i->i<w.heap.size->w'.heap[i]?=w.heap[i]?):HNd ok w' x n :=
 ⟨h.name,h.place,h.sizes.keep hs hk,h.inn.keep hs hk,h.out.keep hs hk,h.loc.keep hs hk,h.eqs.keep hs hk⟩
theorem HNd.under {ok:Nat->Prop} {w w':World} {x:NdV} {n:Nd} (h:HNd ok w x n) (a:Below w.heap.size w w'):HNd ok w' x n:=h.keep a.size fun i _ hl=>a.block i hl
def NdAt (w:World) (b o:Nat) (y:NdV):Prop :=
 w.cell? ⟨b,o,none⟩=some (.string y.name)/\w.cell? ⟨b,o+1,none⟩=some (.int .i64 y.place)/\w.cell? ⟨b,o+2,none⟩=some (.slice y.a2 y.n2 y.c2)/\w.cell? ⟨b,o+3,none⟩=some (.slice y.a3 y.n3 y.c3) /\
 w.cell? ⟨b,o+4,none⟩=some (.slice y.a4 y.n4 y.c4)/\w.cell? ⟨b,o+5,none⟩=some (.slice y.a5 y.n5 y.c5)/\w.cell? ⟨b,o+6,none⟩=some (.slice y.a6 y.n6 y.c6)
theorem NdAt.keep {w w':World} {b o:Nat} {y:NdV} (h:NdAt w b o y) (hb:w'.heap[b]?=w.heap[b]?):NdAt w' b o y:=by
 have hc:∀ q,w'.cell? ⟨b,q,none⟩=w.cell? ⟨b,q,none⟩:=fun q=>World.cell?_of_block (w:=w) hb;obtain ⟨h0,h1,h2,h3,h4,h5,h6⟩:=h;exact ⟨(hc _).trans h0,(hc _).trans h1,(hc _).trans h2,(hc _).trans h3,(hc _).trans h4,(hc _).trans h5,(hc _).trans h6⟩
def HNds (ok:Nat->Prop) (w:World) (v:Value) (l:List Nd):Prop:=∃ C,Sl ok 7 w v l.length C/\∀ i (h:i<l.length),∃ x,C i=x.cells/\HNd ok w x l[i]
theorem HNds.keep {ok:Nat->Prop} {w w':World} {v:Value} {l:List Nd} (h:HNds ok w v l) (hs:w.heap.size<=w'.heap.size) (hk:∀ i,ok i->i<w.heap.size->w'.heap[i]?=w.heap[i]?):HNds ok w' v l:=by
 obtain ⟨C,h1,h2⟩:=h;refine ⟨C,h1.keep hs hk,fun i hi=>?_⟩;obtain ⟨x,e,hx⟩:=h2 i hi;exact ⟨x,e,hx.keep hs hk⟩
theorem HNds.under {ok:Nat->Prop} {w w':World} {v:Value} {l:List Nd} (h:HNds ok w v l) (a:Below w.heap.size w w'):HNds ok w' v l:=h.keep a.size fun i _ hl=>a.block i hl
theorem HNds.at {ok:Nat->Prop} {w:World} {v:Value} {l:List Nd} (h:HNds ok w v l) :
  ∃ ao cap,v=.slice ao l.length cap/\l.length<=cap/\cap<=maxLen/\∀ i (h:i<l.length),∃ b o y,ao=some ⟨b,o,none⟩/\b<w.heap.size/\NdAt w b (o+i*7) y/\HNd ok w y l[i]:=by
 obtain ⟨C,⟨ao,cap,hv,h1,h2,h3⟩,hC⟩:=h;refine ⟨ao,cap,hv,h1,h2,fun i hi=>?_⟩;obtain ⟨b,o,ha,gG,hb,hc⟩:=h3 (by omega);obtain ⟨x,hx,hq⟩:=hC i hi;have eh:=(hc i hi).2;rw [hx] at eh;exact ⟨b,o,x,ha,hb,⟨eh 0 (by decide),eh 1 (by decide),eh 2 (by decide),eh 3 (by decide),eh 4 (by decide),eh 5 (by decide),eh 6 (by decide)⟩,hq⟩
def flat (C:Nat->List Value):Nat->List Value
 | 0=>[]
 | n+1=>flat C n++C n
theorem zBx {C:Nat->List Value} {k:Nat}:∀ n,(∀ i,i<n->(C i).length=k)->(flat C n).length=n*k
 | 0,_=>by simp [flat]
 | n+1,h=>by
  rw [flat,List.length_append,zBx n (fun i hi=>h i (by omega)),h n (by omega),Nat.succ_mul]
theorem zCU {C:Nat->List Value} {k:Nat}:∀ n,(∀ i,i<n->(C i).length=k)->∀ i j,i<n->j<k->(flat C n)[i*k+j]?=(C i)[j]?
 | 0,_,i,j,hi,_=>absurd hi (Nat.not_lt_zero _)
 | n+1,h,i,j,hi,hj=>by
  have hl:=zBx n (fun i hi=>h i (by omega)) (C:=C) (k:=k);rw [flat];by_cases e:i=n
  ·subst e
   rw [List.getElem?_append_right (by omega),hl]
   congr 1
   omega
  ·have bp:i<n:=by omega
   have:i*k+j<n*k:=by
    have:(i+1)*k<=n*k:=Nat.mul_le_mul_right k (by omega);rw [Nat.succ_mul] at this;omega
   rw [List.getElem?_append_left (by omega)];exact zCU n (fun i hi=>h i (by omega)) i j bp hj
theorem flat_mem {C:Nat->List Value}:∀ n u,u ∈ flat C n->∃ i,i<n/\u ∈ C i
 | 0,u,h=>by simp [flat] at h
 | n+1,u,h=>by
  rw [flat,List.mem_append] at h;rcases h with h | h
  ·obtain ⟨i,hi,hu⟩:=flat_mem n u h
   exact ⟨i,by omega,hu⟩
  ·exact ⟨n,by omega,h⟩
theorem zCR {C D:Nat->List Value}:∀ n,(∀ i,i<n->C i=D i)->flat C n=flat D n
 | 0,_=>rfl
 | n+1,h=>by rw [flat,flat,zCR n (fun i hi=>h i (by omega)),h n (by omega)]
theorem owns_sl {w:World} {base:Nat} {e:TypeId} {k:Nat} {v:Value} {n:Nat} {C:Nat->List Value} (h:w.ownsRow base e k v n (flat C n)) (hC:∀ i,i<n->(C i).length=k):Sl (fun i=>base<=i) k w v n C:=by
 by_cases hn:0<n
 ·obtain ⟨g,cap,hv,h1,h2,h3,h4,h5⟩:=owns_pos h hn
  refine ⟨_,cap,hv,h3,h4,fun _=>⟨g,0,rfl,h1,h2,fun i hi=>⟨hC i hi,fun j hj=>?_⟩⟩⟩;have hg:=zCU n hC i j hi hj;have jd:j<(C i).length:=(by rw [hC i hi];exact hj);have:=h5 (i*k+j) ((C i)[j]) (by rw [hg];exact List.getElem?_eq_getElem jd);rw [Nat.zero_add,this,List.getElem?_eq_getElem jd]
 ·rcases h.2 with ⟨hv,h0⟩ | ⟨g,cap,cur,hv,hb,hg,mA,jU,nH,ng⟩
  ·exact ⟨none,0,by rw [hv,h0],by omega,Nat.zero_le _,fun h=>absurd h hn⟩
  ·exact ⟨_,cap,hv,mA,jU,fun h=>absurd h hn⟩
theorem Sl.news {ok:Nat->Prop} {k:Nat} {w:World} {b o:Nat} {n cap:Nat} {C:Nat->List Value} (hk:0<k) (h:Sl ok k w (.slice (some ⟨b,o,none⟩) n cap) n C) :
  ∀ q u,(flat C n)[q]?=some u->w.cell? ((⟨b,o,none⟩:Addr).add q)=some u:=by
 intro q u hq;obtain ⟨ao,dk,hv,h1,h2,h3⟩:=h;injection hv with e1 e2 e3;subst e1;have hlen:(flat C n).length<=n*k->q<n*k:=fun h=>by
  have:=(List.getElem?_eq_some_iff.1 hq).1;omega
 by_cases hn:0<n
 ·obtain ⟨b',o',ha,_,_,hc⟩:=h3 hn
  injection ha with ha;injection ha with wJ Oj Rg;subst wJ Oj;have hl:=zBx n (fun i hi=>(hc i hi).1);have Pf:q<n*k:=hlen (by omega);have LF:q / k<n:=Nat.div_lt_of_lt_mul (by rw [Nat.mul_comm];exact Pf);have LG:q % k<k:=Nat.mod_lt _ hk;have LD:q / k*k+q % k=q:=(by rw [Nat.mul_comm];exact Nat.div_add_mod q k);have hg:=zCU n (fun i hi=>(hc i hi).1) (q / k) (q % k) LF LG;rw [LD,hq] at hg;have eh:=(hc (q / k) LF).2 (q % k) LG;rw [<-hg,Nat.add_assoc,LD] at eh;have kx:(⟨b,o,none⟩:Addr).add q=⟨b,o+q,none⟩:=by unfold Addr.add;split<;>simp_all
  rw [kx];exact eh
 ·have:n=0:=by omega
  subst this;simp [flat] at hq
theorem zCt {P:Program} (w:World) (base:Nat) (t ty e:TypeId) (i:TypeInfo) (z:Value) (size bytes:Nat) (ht:P.underlying t=some (.slice e)) (hi:P.info? e=some i) (hz:i.zero=some z)
  (j7:i.size=size) (ox:i.bytes=bytes) (xN:z.cells.size=size) (dt:0<size)
  (v:Value) (n:Nat) (xs:List Value) (cf:w.ownsRow base e size v n xs)
  (a:Addr) (m c:Nat) (news:List Value) (hl:news.length=m*size) (iJ:∀ j u,news[j]?=some u->w.cell? (a.add j)=some u) (h1:∀ u ∈ news,u.oneCell'=true)
  (AZ:n+m<=maxLen) (jt:(n+m)*bytes<=140737488355328) (pY:base<=w.heap.size) :
  ∃ v' w',(Builtin.append_ #[t,t] ty #[v,.slice (some a) m c]).run P w=.ok v' w'/\w'.ownsRow base e size v' (n+m) (xs++news)/\w.grownBy w' v.ownBlock/\(v'.ownBlock=v.ownBlock\/∃ k,v'.ownBlock=some k/\w.heap.size<=k):=by
 obtain ⟨v',w',hr,h2,h3,h4⟩:=run_append_own (P:=P) w base t ty e i z size bytes ht hi hz j7 ox xN dt v n xs cf a m c news hl iJ h1 AZ jt pY;refine ⟨v',w',hr,h2,h3,?_⟩;have ct:=@World.ownsRow.cells _ _ _ _ _ _ _ cf;rcases cf.2 with ⟨rfl,h0⟩ | ⟨g,cap,cur,rfl,hb,hg,mA,jU,nH,ng⟩
 ·obtain ⟨v2,w2,fb,F8,_⟩:=run_append_own (P:=P) w w.heap.size t ty e i z size bytes ht hi hz j7 ox xN dt (.slice none 0 0) n xs ⟨cf.1,.inl ⟨rfl,h0⟩⟩ a m c news hl iJ h1 AZ jt zBR
  rw [hr] at fb;injection fb with e1 e2;subst e1 e2;rcases F8.2 with ⟨rfl,_⟩ | ⟨g,cap,cur,rfl,hb,_⟩
  ·exact .inl rfl
  ·exact .inr ⟨g,rfl,hb⟩
 ·by_cases hroom:n+m<=cap
  ·subst j7
   have bp:∀ j,j<news.length->0+n*i.size+j<cur.size:=fun j hj=>by
    have:(n+m)*i.size<=cap*i.size:=Nat.mul_le_mul_right _ hroom;rw [Nat.add_mul] at this;rw [nH];omega
   have fb:=run_append_room_cells (P:=P) w t ty e i ht hi g 0 n cap a m c news hl iJ h1 hroom
    (fun j hj=>by rw [coQ hg];have:=bp j hj;simp at this ⊢;omega) (fun j hj=>foQ hg _)
   rw [hr] at fb;injection fb with e1 e2;subst e1;exact .inl rfl
  ·obtain ⟨v2,w2,fb,F8,_⟩:=run_append_arg_grows (P:=P) w t ty e i z size bytes ht hi hz j7 ox xN dt ⟨g,0,none⟩ n cap xs cf.1 (fun j u hu=>@ct g rfl j u hu) a m c news hl iJ (by omega) AZ jt
   rw [hr] at fb;injection fb with e1 e2;subst e1 e2;rcases F8.2 with ⟨rfl,iM⟩ | ⟨g',dk,NG,rfl,sn,_⟩
   ·exfalso
    have:¬(0:Nat)<n+m:=(by omega);omega
   ·exact .inr ⟨g',rfl,sn⟩
theorem wpList_push {w:World} {ops:Array Oper} {rest:List Oper} {o:Oper} {a:Act} {Q:Exit->Act->World->Prop} (xa:o.guard=none) (s x:Operand) (t:TypeId)
  (ho:o.op=.call { callee:=.builtin .append,args:=#[s,x],argTypes:=#[t,t] })
  (base:Nat) (e:TypeId) (i:TypeInfo) (z:Value) (size bytes:Nat) (ht:Tryz.prog.underlying t=some (.slice e)) (hi:Tryz.prog.info? e=some i) (hz:i.zero=some z)
  (j7:i.size=size) (ox:i.bytes=bytes) (xN:z.cells.size=size) (dt:0<size)
  (v:Value) (n:Nat) (xs:List Value) (hs:a.eval s=v) (cf:w.ownsRow base e size v n xs)
  (ad:Addr) (m c:Nat) (news:List Value) (hx:a.eval x=.slice (some ad) m c) (hl:news.length=m*size) (iJ:∀ j u,news[j]?=some u->w.cell? (ad.add j)=some u) (h1:∀ u ∈ news,u.oneCell'=true)
  (AZ:n+m<=maxLen) (jt:(n+m)*bytes<=140737488355328) (pY:base<=w.heap.size)
  (h:∀ v' w',w'.ownsRow base e size v' (n+m) (xs++news)->w.grownBy w' v.ownBlock->(v'.ownBlock=v.ownBlock\/∃ k,v'.ownBlock=some k/\w.heap.size<=k)->wpList Tryz.prog ops Q rest (a.put o.dst v') w'):wpList Tryz.prog ops Q (o :: rest) a w:=by
 obtain ⟨v',w',hr,h2,h3,h4⟩:=zCt (P:=Tryz.prog) w base t o.type e i z size bytes ht hi hz j7 ox xN dt v n xs cf ad m c news hl iJ h1 AZ jt pY;refine wpList_plain xa fun _ hK=>?_;unfold Oper.wp execOp;simp only [ho,resolve,invoke,builtin,Sem.run_bind,Sem.run_pure,Result.andThen_ok,List.map_toArray,List.map_cons,List.map_nil,hs,hx,hr];exact hK _ _ (h v' w' h2 h3 h4)
def Moved (W:World) (v v':Value):Prop:=v'.ownBlock=v.ownBlock\/∃ k,v'.ownBlock=some k/\W.heap.size<=k
def Off (B:Nat) (v:Value) (k:Nat):Prop:=B<=k/\some k≠v.ownBlock
theorem Off.moved {B:Nat} {W:World} {v v':Value} (h:Moved W v v') {k:Nat} (hk:Off B v k) (hl:k<W.heap.size):Off B v' k:=by
 refine ⟨hk.1,fun e=>?_⟩;rcases h with h | ⟨q,hq,hz⟩
 ·exact hk.2 (e.trans h)
 ·rw [hq] at e
  injection e with e;omega
theorem grown_keep {B:Nat} {W W':World} {v:Value} (h:W.grownBy W' v.ownBlock):∀ k,Off B v k->k<W.heap.size->W'.heap[k]?=W.heap[k]?:=fun k hk hl=>h.block k hl hk.2
theorem Below.push {B:Nat} {w W W':World} {v:Value} {e:TypeId} {size n:Nat} {xs:List Value} (hb:Below B w W) (hB:B<=W.heap.size) (ho:W.ownsRow B e size v n xs) (hg:W.grownBy W' v.ownBlock):Below B w W' :=
 hb.grown hg hB (fun k hk=>(World.ownsRow.lt ho k hk).1)
theorem HExs.wide {ok ok':Nat->Prop} {w:World} {v:Value} {l:List Ex} (h:HExs ok w v l) (hk:∀ i,ok i->i<w.heap.size->ok' i):HExs ok' w v l:=by
 obtain ⟨C,h1,h2⟩:=h;exact ⟨C,h1.wide hk,fun i hi=>(h2 i hi).wide hk⟩
end Go.Proofs.YtfhghlpfeeiaeaaGreatDoor
namespace Go.Proofs.YtfhghlpfeeiaeaaGreatDoor
open Go.RowKit Go.IntWalk Go.Deep
section
variable {H:Type} {enc:TypeId × Value->H} {w:World}
theorem all_append {l r:List Nat} (h:(l++r).all (·<=reachBytes)=true):l.all (·<=reachBytes)=true/\r.all (·<=reachBytes)=true:=by
 simpa [List.all_append] using h
theorem zCc {P:Program} {e:TypeId}:∀ (l:List (DataW H)) (h:(DataW.weightsAll P e l).all (·<=reachBytes)=true) (i:Nat) (hi:i<l.length),((l[i]).weights P e).all (·<=reachBytes)=true
 | [],_,i,hi=>by simp at hi
 | d :: l,h,0,_=>by rw [DataW.weightsAll] at h;exact (all_append h).1
 | d :: l,h,i+1,hi=>by rw [DataW.weightsAll] at h;exact zCc l (all_append h).2 i (by simpa using hi)
theorem zBy {P:Program}:∀ (ts:List TypeId) (l:List (DataW H)) (h:(DataW.weightsEach P ts l).all (·<=reachBytes)=true) (i:Nat) (t:TypeId) (d:DataW H),ts[i]?=some t->l[i]?=some d->(d.weights P t).all (·<=reachBytes)=true
 | [],_,_,i,_,_,h1,_=>by simp at h1
 | _ :: _,[],_,i,_,_,_,h2=>by simp at h2
 | a :: ts,d :: l,h,0,_,_,h1,h2=>by
  rw [DataW.weightsEach] at h;simp at h1 h2;subst h1 h2;exact (all_append h).1
 | a :: ts,d :: l,h,i+1,t,x,h1,h2=>by
  rw [DataW.weightsEach] at h;exact zBy ts l (all_append h).2 i t x (by simpa using h1) (by simpa using h2)
theorem add_none {a:Addr} (h:a.spot=none) (q:Nat):a.add q=⟨a.block,a.off+q,none⟩:=by
 obtain ⟨b,o,s⟩:=a;simp only at h;subst h;unfold Addr.add
 split<;>simp_all
theorem spot_none {w:World} {a:Addr} {v:Value} (h:w.cell? a=some v):a.spot=none/\a.block<w.heap.size:=by
 unfold World.cell? at h
 split at h
 ·rename_i hh
  refine ⟨?_,(Array.getElem?_eq_some_iff.1 hh).1⟩
  cases hs:a.spot with
  | none=>rfl
  | some s=>rw [hs] at h;simp at h
 ·cases h
theorem zCN {t e:TypeId} {k bytes fuel:Nat} {cs:List Value} {x:DataW H × List MemPlace} (ht:Tryz.prog.underlying t=some (.slice e)) (hk:Tryz.prog.cellsOf e=k) (DY:0<k) (ox:Tryz.prog.bytesOf e=bytes)
  (h:DataW.trod enc Tryz.prog w 0 (fun _=>true) true fuel t cs=some x) (hw:(x.1.weights Tryz.prog t).all (·<=reachBytes)=true) :
  ∃ (a:Option Addr) (n c:Nat) (C:Nat->List Value) (m:Nat) (D:Nat->DataW H) (Pl:Nat->List MemPlace),cs=[.slice a n c]/\Sl (fun _=>True) k w (.slice a n c) n C/\n*bytes<=140737488355328 /\
   ∀ i,i<n->DataW.trod enc Tryz.prog w 0 (fun _=>true) true m e (C i)=some (D i,Pl i)/\((D i).weights Tryz.prog e).all (·<=reachBytes)=true/\SizeOf.sizeOf (D i)<SizeOf.sizeOf x.1:=by
 rcases open_slice ht h with ⟨rfl,rfl⟩ | ⟨a,len,cap,m,n,D,Pl,rfl,_,OV,jU,hm,rfl,hx⟩
 ·exact ⟨none,0,0,fun _=>[],0,fun _=>.nil,fun _=>[],rfl,Sl.nil,by omega,fun i hi=>absurd hi (Nat.not_lt_zero _)⟩
 ·simp only [if_true] at hm
  subst hm;rw [DataW.weights] at hw;simp only [ht] at hw;rw [List.all_cons,Bool.and_eq_true] at hw;obtain ⟨iA,l7⟩:=hw;have PA:=(all_append l7).1;simp only [List.length_map,List.length_range,ox,decide_eq_true_eq,reachBytes] at iA;rw [hk] at hx;obtain ⟨C,hC⟩:=choose_lt (α:=List Value) (p:=fun i cs'=>w.cells? 0 (a.add (i*k)) k=some cs'/\DataW.trod enc Tryz.prog w 0 (fun _=>true) true n e cs'=some (D i,Pl i)) hx;refine ⟨some a,len,m,C,n,D,Pl,rfl,⟨some a,m,rfl,OV,jU,fun hp=>?_⟩,?_,fun i hi=>⟨(hC i (by omega)).2,?_,?_⟩⟩
  ·obtain ⟨_,gQ,eL⟩:=World.cells?_some (hC 0 (by omega)).1
   have DK:=eL 0 DY;rw [Nat.zero_mul] at DK;have e0:(a.add 0).add 0=a:=(by simp [Addr.add]);rw [e0] at DK;have nf:∃ v,(C 0)[0]?=some v:=⟨(C 0)[0]'(by omega),List.getElem?_eq_getElem (by omega)⟩;obtain ⟨v,hv⟩:=nf;rw [hv] at DK;obtain ⟨hs,hb⟩:=spot_none DK;refine ⟨a.block,a.off,?_,trivial,hb,fun i hi=>?_⟩
   ·obtain ⟨b,o,s⟩:=a
    simp only at hs;subst hs;rfl
   ·obtain ⟨_,hl,hc⟩:=World.cells?_some (hC i (by omega)).1
    refine ⟨hl,fun j hj=>?_⟩;rw [<-hc j hj,Deep.add_add,add_none hs,Nat.add_assoc]
  ·have:len*bytes<=(len+(m-len))*bytes:=Nat.mul_le_mul_right _ (by omega)
   omega
  ·have:=zCc _ PA i (by simpa using hi)
   simpa using this
  ·have h1:D i ∈ (List.range len).map D:=List.mem_map.2 ⟨i,List.mem_range.2 hi,rfl⟩
   have h2:=List.sizeOf_lt_of_mem h1;simp only [DataW.slice.sizeOf_spec];omega
end
end Go.Proofs.YtfhghlpfeeiaeaaGreatDoor
namespace Go.Proofs.YtfhghlpfeeiaeaaGreatDoor
open Go.RowKit Go.IntWalk Go.Deep
section
variable {H:Type} {enc:TypeId × Value->H} {w:World}
def Rd0 (enc:TypeId × Value->H) (w:World) (t:TypeId) (cs:List Value):Prop :=
 ∃ fuel x,DataW.trod enc Tryz.prog w 0 (fun _=>true) true fuel t cs=some x/\(x.1.weights Tryz.prog t).all (·<=reachBytes)=true
theorem zAL {t:TypeId} {fs:Array Field} {fuel:Nat} {cs:List Value} {x:DataW H × List MemPlace} (ht:Tryz.prog.underlying t=some (.struct fs)) (h:DataW.trod enc Tryz.prog w 0 (fun _=>true) true fuel t cs=some x) (hw:(x.1.weights Tryz.prog t).all (·<=reachBytes)=true) :
  ∃ n,fuel=n+1/\cs.length=Tryz.prog.cellsOf t/\∀ (i:Nat) (f:Field),fs[i]?=some f->∃ y,DataW.trod enc Tryz.prog w 0 (fun _=>true) true n f.type ((cs.drop f.offset).take (Tryz.prog.cellsOf f.type))=some y/\(y.1.weights Tryz.prog f.type).all (·<=reachBytes)=true/\SizeOf.sizeOf y.1<SizeOf.sizeOf x.1:=by
 obtain ⟨xs,n,hn,rfl,hl,PK,hx⟩:=DataW.trod_struct ht h;refine ⟨n,hn,hl,fun i f hf=>?_⟩;have hi:i<fs.size:=(Array.getElem?_eq_some_iff.1 hf).1;have LW:xs[i]?=some (xs[i]'(by omega)):=List.getElem?_eq_getElem (by omega);refine ⟨xs[i]'(by omega),(hx i f hf).trans LW,?_,?_⟩
 rotate_left
 ·have h1:(xs[i]'(by omega)).1 ∈ xs.map (·.1):=List.mem_map.2 ⟨_,List.getElem_mem (by omega),rfl⟩
  have h2:=List.sizeOf_lt_of_mem h1;simp only [DataW.agg.sizeOf_spec];omega
 rw [DataW.weights] at hw;simp only [ht] at hw;refine zBy _ _ hw i f.type _ ?_ (by rw [List.getElem?_map,LW];rfl);rw [List.getElem?_map];have:fs.toList[i]?=some f:=(by simpa using hf);rw [this];rfl
theorem open_num {cs:List Value} {t:TypeId} {k:IntKind} (ht:Tryz.prog.underlying t=some (.int k)) (h:Rd0 enc w t cs):∃ n,cs=[.int k n]:=by
 obtain ⟨fuel,x,h,_⟩:=h;obtain ⟨n,hs,_⟩:=DataW.trod_int ht h;exact ⟨n,hs⟩
theorem cells1 (t:TypeId) (h:Tryz.prog.cellsOf t=1) (cs:List Value) (i:Nat) (v:Value) (hv:cs[i]?=some v):(cs.drop i).take (Tryz.prog.cellsOf t)=[v]:=by
 obtain ⟨hi,he⟩:=List.getElem?_eq_some_iff.1 hv;rw [h,List.drop_eq_getElem_cons hi,List.take_succ_cons,List.take_zero,he]
theorem zBe {t:TypeId} {fs:Array Field} {cs:List Value} (ht:Tryz.prog.underlying t=some (.struct fs)) (h:Rd0 enc w t cs) (i:Nat) (ft off:Nat) (wW:(fs[i]?).map (fun f=>(f.type,f.offset))=some (ft,off)) (hc:Tryz.prog.cellsOf ft=1) (v:Value) (hv:cs[off]?=some v):Rd0 enc w ft [v]:=by
 obtain ⟨fuel,x,h,hw⟩:=h;obtain ⟨n,rfl,hl,hf⟩:=zAL ht h hw
 cases Bq:fs[i]? with
 | none=>rw [Bq] at wW;cases wW
 | some f=>
  rw [Bq] at wW;simp only [Option.map_some,Option.some.injEq,Prod.mk.injEq] at wW;obtain ⟨y,a0,b0,_⟩:=hf i f Bq;rw [wW.1,wW.2,cells1 ft hc cs off v hv] at a0;rw [wW.1] at b0;exact ⟨n,y,a0,b0⟩
theorem len_of {t:TypeId} {fs:Array Field} {cs:List Value} (ht:Tryz.prog.underlying t=some (.struct fs)) (h:Rd0 enc w t cs):cs.length=Tryz.prog.cellsOf t:=by
 obtain ⟨fuel,x,h,hw⟩:=h;obtain ⟨n,rfl,hl,hf⟩:=zAL ht h hw;exact hl
theorem c2:Tryz.prog.cellsOf 2=1:=by kernel_rfl
theorem c3:Tryz.prog.cellsOf 3=1:=by kernel_rfl
theorem c5:Tryz.prog.cellsOf 5=1:=by kernel_rfl
theorem zCa {α:Type} [Inhabited α] (n:Nat) (f:Nat->α):∃ l:List α,l.length=n/\∀ i (h:i<l.length),l[i]=f i :=
 ⟨(List.range n).map f,by simp,fun i h=>by simp⟩
instance:Inhabited Tm:=⟨(0,⟨#[]⟩)⟩
instance:Inhabited De:=⟨⟨⟨#[]⟩,0,[]⟩⟩
instance:Inhabited Ex:=⟨.mk 0 0 0 ⟨#[]⟩ [] []⟩
instance:Inhabited Eqn:=⟨⟨0,[],⟨#[]⟩,[],[]⟩⟩
instance:Inhabited Nd:=⟨⟨⟨#[]⟩,0,[],[],[],[],[]⟩⟩
end
end Go.Proofs.YtfhghlpfeeiaeaaGreatDoor
namespace Go.Proofs.YtfhghlpfeeiaeaaGreatDoor
open Go.RowKit Go.IntWalk
theorem HNames.wide {ok ok':Nat->Prop} {w:World} {v:Value} {l:List ByteArray} (h:HNames ok w v l) (hk:∀ i,ok i->i<w.heap.size->ok' i):HNames ok' w v l:=by
 obtain ⟨C,h1,h2⟩:=h;exact ⟨C,h1.wide hk,h2⟩
theorem HDes.wide {ok ok':Nat->Prop} {w:World} {v:Value} {l:List De} (h:HDes ok w v l) (hk:∀ i,ok i->i<w.heap.size->ok' i):HDes ok' w v l:=by
 obtain ⟨C,h1,h2⟩:=h;refine ⟨C,h1.wide hk,fun i hi=>?_⟩;obtain ⟨u,e,ht⟩:=h2 i hi;exact ⟨u,e,ht.wide hk⟩
theorem HEq.wide {ok ok':Nat->Prop} {w:World} {x:EqV} {q:Eqn} (h:HEq ok w x q) (hk:∀ i,ok i->i<w.heap.size->ok' i):HEq ok' w x q :=
 ⟨h.place,h.names.wide hk,h.node,h.S.wide hk,h.E.wide hk⟩
theorem HEqs.wide {ok ok':Nat->Prop} {w:World} {v:Value} {l:List Eqn} (h:HEqs ok w v l) (hk:∀ i,ok i->i<w.heap.size->ok' i):HEqs ok' w v l:=by
 obtain ⟨C,h1,h2⟩:=h;refine ⟨C,h1.wide hk,fun i hi=>?_⟩;obtain ⟨x,e,hx⟩:=h2 i hi;exact ⟨x,e,hx.wide hk⟩
theorem HNd.wide {ok ok':Nat->Prop} {w:World} {x:NdV} {n:Nd} (h:HNd ok w x n) (hk:∀ i,ok i->i<w.heap.size->ok' i):HNd ok' w x n :=
 ⟨h.name,h.place,h.sizes.wide hk,h.inn.wide hk,h.out.wide hk,h.loc.wide hk,h.eqs.wide hk⟩
end Go.Proofs.YtfhghlpfeeiaeaaGreatDoor
