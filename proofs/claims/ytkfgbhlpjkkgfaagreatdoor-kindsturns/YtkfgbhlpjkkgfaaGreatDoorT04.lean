import Derived.Test.YtkfgbhlpjkkgfaaGreatDoorT03
set_option linter.unusedVariables false
set_option linter.unusedSimpArgs false
set_option maxHeartbeats 64000000
set_option maxRecDepth 100000
namespace Go.Proofs.YtkfgbhlpjkkgfaaGreatDoor
open Go.RowKit Go.IntWalk
def flat (C:Nat->List Value):Nat->List Value
 | 0=>[]
 | n+1=>flat C n++C n
theorem zBn {C:Nat->List Value} {k:Nat}:∀ n,(∀ i,i<n->(C i).length=k)->(flat C n).length=n*k
 | 0,_=>by simp [flat]
 | n+1,h=>by
  rw [flat,List.length_append,zBn n (fun i hi=>h i (by omega)),h n (by omega),Nat.succ_mul]
theorem zFM {C:Nat->List Value} {k:Nat}:∀ n,(∀ i,i<n->(C i).length=k)->∀ i j,i<n->j<k->(flat C n)[i*k+j]?=(C i)[j]?
 | 0,_,i,j,hi,_=>absurd hi (Nat.not_lt_zero _)
 | n+1,h,i,j,hi,hj=>by
  have hl:=zBn n (fun i hi=>h i (by omega)) (C:=C) (k:=k);rw [flat];by_cases e:i=n
  ·subst e
   rw [List.getElem?_append_right (by omega),hl]
   congr 1
   omega
  ·have bH:i<n:=by omega
   have:i*k+j<n*k:=by
    have:(i+1)*k<=n*k:=Nat.mul_le_mul_right k (by omega);rw [Nat.succ_mul] at this;omega
   rw [List.getElem?_append_left (by omega)];exact zFM n (fun i hi=>h i (by omega)) i j bH hj
theorem zDZ {C:Nat->List Value}:∀ n u,u ∈ flat C n->∃ i,i<n/\u ∈ C i
 | 0,u,h=>by simp [flat] at h
 | n+1,u,h=>by
  rw [flat,List.mem_append] at h;rcases h with h | h
  ·obtain ⟨i,hi,hu⟩:=zDZ n u h
   exact ⟨i,by omega,hu⟩
  ·exact ⟨n,by omega,h⟩
theorem zAY {C D:Nat->List Value}:∀ n,(∀ i,i<n->C i=D i)->flat C n=flat D n
 | 0,_=>rfl
 | n+1,h=>by rw [flat,flat,zAY n (fun i hi=>h i (by omega)),h n (by omega)]
theorem zBG {w:World} {base:Nat} {e:TypeId} {k:Nat} {v:Value} {n:Nat} {C:Nat->List Value} (h:w.ownsRow base e k v n (flat C n)) (hC:∀ i,i<n->(C i).length=k):Sl (fun i=>base<=i) k w v n C:=by
 by_cases hn:0<n
 ·obtain ⟨g,cap,hv,h1,h2,h3,h4,h5⟩:=zEo h hn
  refine ⟨_,cap,hv,h3,h4,fun _=>⟨g,0,rfl,h1,h2,fun i hi=>⟨hC i hi,fun j hj=>?_⟩⟩⟩;have hg:=zFM n hC i j hi hj;have cM:j<(C i).length:=(by rw [hC i hi];exact hj);have:=h5 (i*k+j) ((C i)[j]) (by rw [hg];exact List.getElem?_eq_getElem cM);rw [Nat.zero_add,this,List.getElem?_eq_getElem cM]
 ·rcases h.2 with ⟨hv,h0⟩ | ⟨g,cap,aR,hv,hb,hg,eR,eV,gq,gP⟩
  ·exact ⟨none,0,by rw [hv,h0],by omega,Nat.zero_le _,fun h=>absurd h hn⟩
  ·exact ⟨_,cap,hv,eR,eV,fun h=>absurd h hn⟩
theorem Sl.news {ok:Nat->Prop} {k:Nat} {w:World} {b o:Nat} {n cap:Nat} {C:Nat->List Value} (hk:0<k) (h:Sl ok k w (.slice (some ⟨b,o,none⟩) n cap) n C) :
  ∀ q u,(flat C n)[q]?=some u->w.cell? ((⟨b,o,none⟩:Addr).add q)=some u:=by
 intro q u hq;obtain ⟨ao,bE,hv,h1,h2,h3⟩:=h;injection hv with e1 e2 e3;subst e1;have aP:(flat C n).length<=n*k->q<n*k:=fun h=>by
  have:=(List.getElem?_eq_some_iff.1 hq).1;omega
 by_cases hn:0<n
 ·obtain ⟨b',o',ha,_,_,hc⟩:=h3 hn
  injection ha with ha;injection ha with Cr Cw Gw;subst Cr Cw;have hl:=zBn n (fun i hi=>(hc i hi).1);have Ej:q<n*k:=aP (by omega);have uk:q / k<n:=Nat.div_lt_of_lt_mul (by rw [Nat.mul_comm];exact Ej);have FB:q % k<k:=Nat.mod_lt _ hk;have Kj:q / k*k+q % k=q:=(by rw [Nat.mul_comm];exact Nat.div_add_mod q k);have hg:=zFM n (fun i hi=>(hc i hi).1) (q / k) (q % k) uk FB;rw [Kj,hq] at hg;have dX:=(hc (q / k) uk).2 (q % k) FB;rw [<-hg,Nat.add_assoc,Kj] at dX;have dn:(⟨b,o,none⟩:Addr).add q=⟨b,o+q,none⟩:=by unfold Addr.add;split<;>simp_all
  rw [dn];exact dX
 ·have:n=0:=by omega
  subst this;simp [flat] at hq
theorem Tryz.info83:(Tryz.prog.info? 83).map (fun i=>(i.zero,i.size,i.bytes))=some (some (.agg #[.int .i64 0,.string ⟨#[]⟩]),2,24):=by kernel_rfl
theorem Tryz.info33:(Tryz.prog.info? 33).map (fun i=>(i.zero,i.size,i.bytes))=some (some (.slice none 0 0),1,24):=by kernel_rfl
theorem nils35 (w:World) (c:Nat) (ty:TypeId):(Builtin.append_ #[43,43] ty #[.slice none 0 0,.slice none 0 c]).run Tryz.prog w=.ok (.slice none 0 0) w:=by kernel_rfl
theorem nils90 (w:World) (c:Nat) (ty:TypeId):(Builtin.append_ #[33,33] ty #[.slice none 0 0,.slice none 0 c]).run Tryz.prog w=.ok (.slice none 0 0) w:=by kernel_rfl
theorem zCU {w:World} {ops:Array Oper} {rest:List Oper} {o:Oper} {a:Act} {Q:Exit->Act->World->Prop} (jv:o.guard=none) (s x:Operand) (t e:TypeId) (k bytes:Nat) (i:TypeInfo) (z:Value)
  (ho:o.op=.call { callee:=.builtin .append,args:=#[s,x],argTypes:=#[t,t] }) (ht:Tryz.prog.underlying t=some (.slice e)) (hi:Tryz.prog.info? e=some i) (hz:i.zero=some z) (dH:i.size=k) (l8:i.bytes=bytes) (tE:z.cells.size=k) (hk:0<k)
  (hs:a.eval s=.slice none 0 0) {ok:Nat->Prop} {v:Value} {n:Nat} {C:Nat->List Value} (hx:a.eval x=v) (hS:Sl ok k w v n C) (oy:∀ i,i<n->(C i).length=k) (h1:∀ u,u ∈ flat C n->u.oneCell'=true) (hM:n*bytes<=140737488355328) (hn:n<=maxLen) (zM:∀ (w:World) (c:Nat) (ty:TypeId),(Builtin.append_ #[t,t] ty #[.slice none 0 0,.slice none 0 c]).run Tryz.prog w=.ok (.slice none 0 0) w)
  (h:∀ a' c' w',Sl (fun i=>w.heap.size<=i) k w' (.slice a' n c') n C->Below w.heap.size w w'->wpList Tryz.prog ops Q rest (a.put o.dst (.slice a' n c')) w'):wpList Tryz.prog ops Q (o :: rest) a w:=by
 have F9:=hS;obtain ⟨ao,cap,rfl,h2,h3,h4⟩:=hS
 cases ao with
 | none=>
  have jo:n=0:=by
   by_cases hp:0<n
   ·obtain ⟨b,o,hb,_⟩:=h4 hp
    cases hb
   ·omega
  subst jo;have dE:=zM w cap o.type;refine wpList_plain jv fun _ hK=>?_;unfold Oper.wp;simp [execOp,ho,resolve,invoke,builtin,hs,hx,dE,Result.andThen];exact hK _ _ (h none 0 w Sl.nil (Below.refl _ _))
 | some ad=>
  have dz:∀ q u,(flat C n)[q]?=some u->w.cell? (ad.add q)=some u:=by
   by_cases hp:0<n
   ·obtain ⟨b,o,hb,_⟩:=h4 hp
    injection hb with hb;subst hb;exact Sl.news hk F9
   ·have jo:n=0:=by omega
    subst jo;intro q u hq;simp [flat] at hq
  refine wpList_append_own _ jv s x t ho w.heap.size e i z k bytes ht hi hz dH l8 tE hk _ 0 [] hs (World.ownsRow_nil _ _ _ _) ad n cap (flat C n) hx (zBn n oy) dz h1 (by rw [Nat.zero_add];exact hn) (by rw [Nat.zero_add];exact hM) nR ?_;intro v3 w3 ah am _;have b3:Below w.heap.size w w3:=(Below.refl _ w).grown am nR (fun k hk=>by cases hk);have ze:w3.ownsRow w.heap.size e k v3 n (flat C n):=(by simpa using ah);have mF:=zBG ze oy;have Oh:=mF;obtain ⟨PZ,LY,rfl,_⟩:=Oh;exact h _ _ _ mF b3
theorem zCs {ok:Nat->Prop} {w:World} {v:Value} {l:List ByteArray} (hl:HNames ok w v l) (hM:l.length*16<=140737488355328) :
  Calls Tryz.prog 26 #[v] w fun e w'=>∃ a n c,e=.returned (.slice a n c)/\HNames (fun i=>w.heap.size<=i) w' (.slice a n c) l/\Below w.heap.size w w':=by
 obtain ⟨i0,hi,db,bP,bY⟩:=info_parts Tryz.info9;obtain ⟨C,hS,hC⟩:=hl;have oy:∀ i,i<l.length->(C i).length=1:=fun i hi=>by rw [hC i hi];rfl
 have cP:∀ u,u ∈ flat C l.length->u.oneCell'=true:=fun u hu=>by
  obtain ⟨i,hi,hu⟩:=zDZ _ _ hu;rw [hC i hi] at hu;simp at hu;subst hu;rfl
 have je:l.length<=maxLen:=(by unfold maxLen;omega);go_enter Tryz.func26,Tryz.ntmps26
 go_wp2_with (at_builtin;refine zCU rfl _ _ 43 9 1 16 i0 (.string ⟨#[]⟩) rfl Tryz.underlying43 hi db bP bY rfl (by decide) rfl rfl hS oy cP hM je nils35 ?_;intro a3 c3 w3 mF b3)
 go_ret;exact ⟨_,_,_,rfl,⟨C,mF,hC⟩,b3⟩
def FitS (S:List (List Tm)):Prop:=S.length*24<=140737488355328/\∀ i (h:i<S.length),(S[i]).length*24<=140737488355328
theorem terms_one {l:List Tm} {C:Nat->List Value} (hC:∀ i (h:i<l.length),C i=[.int .i64 (l[i]).1,.string (l[i]).2]):(∀ i,i<l.length->(C i).length=2)/\∀ u,u ∈ flat C l.length->u.oneCell'=true:=by
 refine ⟨fun i hi=>by rw [hC i hi];rfl,fun u hu=>?_⟩;obtain ⟨i,hi,hu⟩:=zDZ _ _ hu;rw [hC i hi] at hu;simp at hu;rcases hu with rfl | rfl<;>rfl
theorem zCV {P:Program} (w:World) (base:Nat) (t ty e:TypeId) (i:TypeInfo) (z:Value) (size bytes:Nat) (ht:P.underlying t=some (.slice e)) (hi:P.info? e=some i) (hz:i.zero=some z)
  (dH:i.size=size) (l8:i.bytes=bytes) (tE:z.cells.size=size) (bo:0<size)
  (v:Value) (n:Nat) (xs:List Value) (ah:w.ownsRow base e size v n xs)
  (a:Addr) (m c:Nat) (news:List Value) (hl:news.length=m*size) (dz:∀ j u,news[j]?=some u->w.cell? (a.add j)=some u) (h1:∀ u ∈ news,u.oneCell'=true)
  (mT:n+m<=maxLen) (dC:(n+m)*bytes<=140737488355328) (i8:base<=w.heap.size) :
  ∃ v' w',(Builtin.append_ #[t,t] ty #[v,.slice (some a) m c]).run P w=.ok v' w'/\w'.ownsRow base e size v' (n+m) (xs++news)/\w.grownBy w' v.ownBlock/\(v'.ownBlock=v.ownBlock\/∃ k,v'.ownBlock=some k/\w.heap.size<=k):=by
 obtain ⟨v',w',hr,h2,h3,h4⟩:=run_append_own (P:=P) w base t ty e i z size bytes ht hi hz dH l8 tE bo v n xs ah a m c news hl dz h1 mT dC i8;refine ⟨v',w',hr,h2,h3,?_⟩;have fx:=@World.ownsRow.cells _ _ _ _ _ _ _ ah;rcases ah.2 with ⟨rfl,h0⟩ | ⟨g,cap,aR,rfl,hb,hg,eR,eV,gq,gP⟩
 ·obtain ⟨v2,w2,im,Ar,_⟩:=run_append_own (P:=P) w w.heap.size t ty e i z size bytes ht hi hz dH l8 tE bo (.slice none 0 0) n xs ⟨ah.1,.inl ⟨rfl,h0⟩⟩ a m c news hl dz h1 mT dC nR
  rw [hr] at im;injection im with e1 e2;subst e1 e2;rcases Ar.2 with ⟨rfl,_⟩ | ⟨g,cap,aR,rfl,hb,_⟩
  ·exact .inl rfl
  ·exact .inr ⟨g,rfl,hb⟩
 ·by_cases hroom:n+m<=cap
  ·subst dH
   have bH:∀ j,j<news.length->0+n*i.size+j<aR.size:=fun j hj=>by
    have:(n+m)*i.size<=cap*i.size:=Nat.mul_le_mul_right _ hroom;rw [Nat.add_mul] at this;rw [gq];omega
   have im:=run_append_room_cells (P:=P) w t ty e i ht hi g 0 n cap a m c news hl dz h1 hroom
    (fun j hj=>by rw [co hg];have:=bH j hj;simp at this ⊢;omega) (fun j hj=>fo hg _)
   rw [hr] at im;injection im with e1 e2;subst e1;exact .inl rfl
  ·obtain ⟨v2,w2,im,Ar,_⟩:=run_append_arg_grows (P:=P) w t ty e i z size bytes ht hi hz dH l8 tE bo ⟨g,0,none⟩ n cap xs ah.1 (fun j u hu=>@fx g rfl j u hu) a m c news hl dz (by omega) mT dC
   rw [hr] at im;injection im with e1 e2;subst e1 e2;rcases Ar.2 with ⟨rfl,db⟩ | ⟨g',bE,Pw,rfl,jS,_⟩
   ·exfalso
    have:¬(0:Nat)<n+m:=(by omega);omega
   ·exact .inr ⟨g',rfl,jS⟩
theorem zAv {w:World} {ops:Array Oper} {rest:List Oper} {o:Oper} {a:Act} {Q:Exit->Act->World->Prop} (jv:o.guard=none) (s x:Operand) (t:TypeId)
  (ho:o.op=.call { callee:=.builtin .append,args:=#[s,x],argTypes:=#[t,t] })
  (base:Nat) (e:TypeId) (i:TypeInfo) (z:Value) (size bytes:Nat) (ht:Tryz.prog.underlying t=some (.slice e)) (hi:Tryz.prog.info? e=some i) (hz:i.zero=some z)
  (dH:i.size=size) (l8:i.bytes=bytes) (tE:z.cells.size=size) (bo:0<size)
  (v:Value) (n:Nat) (xs:List Value) (hs:a.eval s=v) (ah:w.ownsRow base e size v n xs)
  (ad:Addr) (m c:Nat) (news:List Value) (hx:a.eval x=.slice (some ad) m c) (hl:news.length=m*size) (dz:∀ j u,news[j]?=some u->w.cell? (ad.add j)=some u) (h1:∀ u ∈ news,u.oneCell'=true)
  (mT:n+m<=maxLen) (dC:(n+m)*bytes<=140737488355328) (i8:base<=w.heap.size)
  (h:∀ v' w',w'.ownsRow base e size v' (n+m) (xs++news)->w.grownBy w' v.ownBlock->(v'.ownBlock=v.ownBlock\/∃ k,v'.ownBlock=some k/\w.heap.size<=k)->wpList Tryz.prog ops Q rest (a.put o.dst v') w'):wpList Tryz.prog ops Q (o :: rest) a w:=by
 obtain ⟨v',w',hr,h2,h3,h4⟩:=zCV (P:=Tryz.prog) w base t o.type e i z size bytes ht hi hz dH l8 tE bo v n xs ah ad m c news hl dz h1 mT dC i8;refine wpList_plain jv fun _ hK=>?_;unfold Oper.wp execOp;simp only [ho,resolve,invoke,builtin,Sem.run_bind,Sem.run_pure,Result.andThen_ok,List.map_toArray,List.map_cons,List.map_nil,hs,hx,hr];exact hK _ _ (h v' w' h2 h3 h4)
def Moved (W:World) (v v':Value):Prop:=v'.ownBlock=v.ownBlock\/∃ k,v'.ownBlock=some k/\W.heap.size<=k
def Off (B:Nat) (v:Value) (k:Nat):Prop:=B<=k/\some k≠v.ownBlock
theorem Off.moved {B:Nat} {W:World} {v v':Value} (h:Moved W v v') {k:Nat} (hk:Off B v k) (hl:k<W.heap.size):Off B v' k:=by
 refine ⟨hk.1,fun e=>?_⟩;rcases h with h | ⟨q,hq,hz⟩
 ·exact hk.2 (e.trans h)
 ·rw [hq] at e
  injection e with e;omega
theorem Off.new {B N:Nat} {w:World} {e:TypeId} {size:Nat} {v:Value} {n:Nat} {xs:List Value} (h:w.ownsRow B e size v n xs) (hN:w.heap.size<=N) (hB:B<=N) {k:Nat} (hk:N<=k):Off B v k:=by
 refine ⟨by omega,fun e=>?_⟩;have:=World.ownsRow.lt h k e.symm;omega
theorem zBD {B:Nat} {W W':World} {v:Value} (h:W.grownBy W' v.ownBlock):∀ k,Off B v k->k<W.heap.size->W'.heap[k]?=W.heap[k]?:=fun k hk hl=>h.block k hl hk.2
theorem Below.push {B:Nat} {w W W':World} {v:Value} {e:TypeId} {size n:Nat} {xs:List Value} (hb:Below B w W) (hB:B<=W.heap.size) (ho:W.ownsRow B e size v n xs) (hg:W.grownBy W' v.ownBlock):Below B w W' :=
 hb.grown hg hB (fun k hk=>(World.ownsRow.lt ho k hk).1)
theorem zCt {ok:Nat->Prop} {w:World} {v:Value} {l:List (List Tm)} (hl:HSizes ok w v l) (hM:FitS l) :
  Calls Tryz.prog 28 #[v] w fun e w'=>∃ a n c,e=.returned (.slice a n c)/\HSizes (fun i=>w.heap.size<=i) w' (.slice a n c) l/\Below w.heap.size w w':=by
 obtain ⟨i0,hi,db,bP,bY⟩:=info_parts Tryz.info83;obtain ⟨i1,ut,gy,e7,jb⟩:=info_parts Tryz.info33;obtain ⟨ao,cap,rfl,aC,av,ai⟩:=hl.at;unfold maxLen at av;have HM:=zAA hM.2;have um:=hM.1;obtain ⟨n,hn⟩:=nmQ (l.length);rw [<-hn] at aC um ⊢;have HN:=zAA hn;clear hn hM hl;go_enter Tryz.func28,Tryz.ntmps28;go_wp2;go_loopg [3,4] n (fun k v3 v wr=>∃ (i:Nat) (D:Nat->List Value),i<=n/\k=n-i/\v=.int .i64 (i:Nat)/\wr.ownsRow w.heap.size 33 1 v3 i (flat D i)/\Hid (∀ j (h:j<l.length),j<i->∃ u,D j=[u]/\HTerms (Off w.heap.size v3) wr u l[j])/\Below w.heap.size w wr)
 case atStart=>exact ⟨0,fun _=>[],Nat.zero_le _,rfl,rfl,World.ownsRow_nil _ _ _ _,fun j _ h=>absurd h (Nat.not_lt_zero _),Below.refl _ _⟩
 case round=>
  obtain ⟨i,D,tJ,rfl,rfl,ah,H,aj⟩:=hrel;by_cases ak:i<n
  ·have ap:i<l.length:=by have:=HN.out;omega
   obtain ⟨b,o,au,nu,cu,rfl,hb,hc,ht⟩:=ai i ap;have e1:=(aj.cell (p:=⟨b,o+i,none⟩) hb).trans hc;obtain ⟨C,hS,hC⟩:=ht.under aj;have BO:=HM.out i ap;obtain ⟨oy,cP⟩:=terms_one hC;have je:(l[i]).length<=maxLen:=(by unfold maxLen;omega);have HC:=zAA hC;clear ai hc ht hC;obtain ⟨m,hm⟩:=nmQ ((l[i]).length);rw [<-hm] at hS oy cP BO je;have mU:=zAA hm;clear hm;have zr:=aj.size
   go_wp2_with (first
    | (at_builtin;refine zCU rfl _ _ 33 83 2 24 i0 (.agg #[.int .i64 0,.string ⟨#[]⟩]) rfl Tryz.underlying33 hi db bP bY rfl (by decide) rfl rfl hS oy cP BO je nils90 ?_;intro a3 c3 w3 mF b3;have cf:=(zAQ ah b3).alloc (.cells #[.slice a3 m c3] 33 (0,0));have GH:=b3.size)
    | (at_builtin;refine zAv rfl _ _ 51 rfl w.heap.size 33 i1 (.slice none 0 0) 1 24 Tryz.underlying51 ut gy e7 jb rfl (by decide) _ _ _ rfl cf ⟨w3.heap.size,0,none⟩ 1 1 [.slice a3 m c3] rfl rfl (new1 _ _ _) (by intro u hu;simp at hu;subst hu;rfl) (by unfold maxLen;omega) (by omega) (by simp;omega) ?_;intro v4 w4 cK am fR))
   have df:Moved (w3.alloc (.cells #[.slice a3 m c3] 33 (0,0))) u3 v4:=fR;have bW:Below wr.heap.size wr (w3.alloc (.cells #[.slice a3 m c3] 33 (0,0))):=b3.alloc b3.size _;have gE:=zBD (B:=w.heap.size) (v:=u3) am;have b4:=Below.push (B:=w.heap.size) (aj.trans (bW.mono aj.size)) (by simp;omega) cf am;have gU:HTerms (fun k=>wr.heap.size<=k) w3 (.slice a3 m c3) l[i]:=by
    have h9:=mU.out;subst h9;exact ⟨C,mF,HC.out⟩
   have gj:w4.ownsRow w.heap.size 33 1 v4 (i+1) (flat (fun q=>if q=i then [.slice a3 m c3] else D q) (i+1)):=by
    have e:flat (fun q=>if q=i then [Value.slice a3 m c3] else D q) (i+1)=flat D i++[.slice a3 m c3]:=by
     rw [flat,zAY (D:=D) i (fun q hq=>by rw [if_neg (by omega)])];simp
    rw [e];exact cK
   have gw:HTerms (Off w.heap.size v4) w4 (.slice a3 m c3) l[i]:=by
    have g1:=(gU.wide (ok':=fun k=>Off w.heap.size u3 k/\k<w3.heap.size) (fun k hk hl=>⟨Off.new ah nR aj.size hk,hl⟩)).under ((Below.refl _ w3).alloc nR (.cells #[.slice a3 m c3] 33 (0,0)));have g2:=g1.keep am.size (fun k hk hl=>gE k hk.1 hl);exact g2.wide (fun k hk _=>Off.moved df hk.1 (by simp;omega))
   have gI:Hid (∀ j (h:j<l.length),j<i->∃ u,D j=[u]/\HTerms (Off w.heap.size v4) w4 u l[j]):=fun j hj bJ=>by
    obtain ⟨u,hu,hT⟩:=H.out j hj bJ;refine ⟨u,hu,?_⟩;have g1:=(hT.wide (ok':=fun k=>Off w.heap.size u3 k/\k<wr.heap.size) (fun k hk hl=>⟨hk,hl⟩)).under bW;have g2:=g1.keep am.size (fun k hk hl=>gE k hk.1 hl);exact g2.wide (fun k hk _=>Off.moved df hk.1 (by simp;omega))
   clear cK am fR cf mF gU H gE;go_wp2;go_roundg (n-(i+1))
   case measure=>omega
   case rel=>
    refine ⟨i+1,_,by omega,rfl,by go_num,gj,fun j hj bJ=>?_,b4⟩;by_cases e:j=i
    ·subst e
     exact ⟨_,by simp,gw⟩
    ·obtain ⟨u,hu,hT⟩:=gI.out j hj (by omega)
     exact ⟨u,by simp [e,hu],hT⟩
  ·have eH:i=n:=by omega
   subst eH;clear ai;have h9:=HN.out;have hs:=zBG ah (fun j hj=>by obtain ⟨u,hu,_⟩:=H.out j (by omega) hj;rw [hu];rfl);have jM:=hs;obtain ⟨a5,c5,rfl,_⟩:=jM;go_wp2;go_ret;refine ⟨_,_,_,rfl,⟨D,?_,fun j hj=>?_⟩,aj⟩
   ·rw [<-HN.out];exact hs
   ·obtain ⟨u,hu,hT⟩:=H.out j hj (by rw [HN.out];exact hj)
    exact ⟨u,hu,hT.wide (fun k hk _=>hk.1)⟩
def FitD (l:List De):Prop:=l.length*48<=140737488355328/\∀ i (h:i<l.length),(l[i]).n.length*24<=140737488355328
theorem HTerms.set {ok:Nat->Prop} {w:World} {v:Value} {l:List Tm} (h:HTerms ok w v l) {p:Addr} (hp:¬ok p.block) (u:Value):HTerms ok (w.setCell p u) v l :=
 h.keep (by simp [World.setCell]) fun i hi hl=>Below.heap_setCell _ _ _ _ (fun e=>hp (e ▸ hi))
theorem zDa {w:World} {base:Nat} {e:TypeId} {size:Nat} {v:Value} {n:Nat} {xs:List Value} (h:w.ownsRow base e size v n xs) {p:Addr} (hp:v.ownBlock≠some p.block) (u:Value):(w.setCell p u).ownsRow base e size v n xs :=
 h.kept (row:=some p.block) ⟨rfl,rfl,rfl,by simp [World.setCell],fun k _ hk=>Below.heap_setCell _ _ _ _ (fun e=>hk (by rw [e]))⟩ (.inr hp)
theorem zAm (w:World) (p:Addr) (u:Value):(w.setCell p u).heap.size=w.heap.size:=by simp [World.setCell]
theorem new3s (w:World) (p:Addr) (q a b c:Value) (t:TypeId):∀ j u,[a,b,c][j]?=some u->((w.setCell p q).alloc (.cells #[a,b,c] t)).cell? ((⟨w.heap.size,0,none⟩:Addr).add j)=some u:=by
 have:=new3 (w.setCell p q) a b c t;rw [zAm] at this;exact this
theorem zBf {ok:Nat->Prop} {w:World} {v:Value} {l:List De} (hl:HDes ok w v l) (hM:FitD l) :
  Calls Tryz.prog 27 #[v] w fun e w'=>∃ a n c,e=.returned (.slice a n c)/\HDes (fun i=>w.heap.size<=i) w' (.slice a n c) l/\Below w.heap.size w w':=by
 obtain ⟨i0,hi,db,bP,bY⟩:=info_parts Tryz.info83;obtain ⟨i1,ut,gy,e7,jb⟩:=info_parts Tryz.info50;obtain ⟨ao,cap,rfl,aC,av,ai⟩:=hl.at;unfold maxLen at av;have HM:=zAA hM.2;have um:=hM.1;obtain ⟨n,hn⟩:=nmQ (l.length);rw [<-hn] at aC um ⊢;have HN:=zAA hn;clear hn hM hl;go_enter Tryz.func27,Tryz.ntmps27;go_wp2;go_loopg [3,4] n (fun k v3 v wr=>∃ (i:Nat) (D:Nat->List Value),i<=n/\k=n-i/\v=.int .i64 (i:Nat)/\wr.ownsRow w.heap.size 50 3 v3 i (flat D i)/\Hid (∀ j (h:j<l.length),j<i->∃ u,D j=[.string (l[j]).name,.int .u8 (l[j]).elem,u]/\HTerms (Off w.heap.size v3) wr u (l[j]).n)/\Below w.heap.size w wr)
 case atStart=>exact ⟨0,fun _=>[],Nat.zero_le _,rfl,rfl,World.ownsRow_nil _ _ _ _,fun j _ h=>absurd h (Nat.not_lt_zero _),Below.refl _ _⟩
 case round=>
  obtain ⟨i,D,tJ,rfl,rfl,ah,H,aj⟩:=hrel;by_cases ak:i<n
  ·have ap:i<l.length:=by have:=HN.out;omega
   obtain ⟨b,o,au,nu,cu,rfl,hb,hc,hd,he,ht⟩:=ai i ap;have e1:=(aj.cell (p:=⟨b,o+i*3,none⟩) hb).trans hc;have e2:=(aj.cell (p:=⟨b,o+i*3+1,none⟩) hb).trans hd;have e3:=(aj.cell (p:=⟨b,o+i*3+2,none⟩) hb).trans he;obtain ⟨nm,tK⟩:=nmQ ((l[i]).name);obtain ⟨el,uJ⟩:=nmQ ((l[i]).elem);rw [<-tK] at e1;rw [<-uJ] at e2;have pu:=zAA tK;have Pg:=zAA uJ;obtain ⟨W1,jn⟩:∃ W,W=wr.alloc (.cells #[.string nm,.int .u8 el,.slice au nu cu] 50 (0,0)):=⟨_,rfl⟩;have y1:=newZ jn;have wx:=zAk jn;have uh:W1.heap[wr.heap.size]?=some (.cells #[.string nm,.int .u8 el,.slice au nu cu] 50 (0,0)):=(by rw [jn];exact zAC wr _);obtain ⟨C,hS,hC⟩:=(ht.under aj).under wx;have BO:=HM.out i ap;obtain ⟨oy,cP⟩:=terms_one hC;have je:((l[i]).n).length<=maxLen:=(by unfold maxLen;omega);have HC:=zAA hC;clear ai hc ht hC hd he tK uJ;obtain ⟨m,hm⟩:=nmQ (((l[i]).n).length);rw [<-hm] at hS oy cP BO je;have mU:=zAA hm;clear hm;have zr:=aj.size;have p2:=co uh 2;simp at p2;rw [jn] at hS p2;have fi:=zAQ ah wx;have uV:u3.ownBlock≠some wr.heap.size:=fun e=>by
    have:=World.ownsRow.lt ah _ e;omega
   go_wp2_with (first
    | (at_builtin;refine zCU rfl _ _ 33 83 2 24 i0 (.agg #[.int .i64 0,.string ⟨#[]⟩]) rfl Tryz.underlying33 hi db bP bY rfl (by decide) rfl rfl hS oy cP BO je nils90 ?_;intro a3 c3 w3 mF b3;rw [<-jn] at mF b3;have k3:=(aside b3 (S:=[])).keep uh (zAB uh) (by simp);have Jg:=co k3 0;have JP:=co k3 1;have IN:=co k3 2;have LW:=fo k3 2;simp at Jg JP IN;have GH:=b3.size;have cf:=(zDa (p:=⟨wr.heap.size,2,none⟩) (zAQ fi b3) uV (.slice a3 m c3)).alloc (.cells #[.string nm,.int .u8 el,.slice a3 m c3] 50 (0,0)))
    | (at_builtin;refine zAv rfl _ _ 44 rfl w.heap.size 50 i1 (.agg #[.string ⟨#[]⟩,.int .u8 0,.slice none 0 0]) 3 48 Tryz.underlying44 ut gy e7 jb rfl (by decide) _ _ _ rfl cf ⟨w3.heap.size,0,none⟩ 1 1 [.string nm,.int .u8 el,.slice a3 m c3] rfl rfl (new3s _ _ _ _ _ _ _) (by intro u hu;simp at hu;rcases hu with rfl | rfl | rfl<;>rfl) (by unfold maxLen;omega) (by omega) (by simp [World.setCell];omega) ?_;intro v4 w4 cK am fR))
   obtain ⟨W4,p8⟩:∃ W,W=(w3.setCell ⟨wr.heap.size,2,none⟩ (.slice a3 m c3)).alloc (.cells #[.string nm,.int .u8 el,.slice a3 m c3] 50 (0,0)):=⟨_,rfl⟩;have y4:W4.heap.size=w3.heap.size+1:=(by rw [p8];simp [World.setCell]);rw [<-p8] at cf am fR;have df:Moved W4 u3 v4:=fR;have zV:Below wr.heap.size wr W4:=by
    rw [p8];exact ((wx.trans (b3.mono (by omega))).setCell nR _).alloc (by rw [zAm];omega) _
   have gE:=zBD (B:=w.heap.size) (v:=u3) am;have b4:=Below.push (B:=w.heap.size) (aj.trans (zV.mono aj.size)) (by omega) cf am;have gU:HTerms (fun k=>W1.heap.size<=k) w3 (.slice a3 m c3) (l[i]).n:=by
    have h9:=mU.out;subst h9;exact ⟨C,mF,HC.out⟩
   have cA:HTerms (fun k=>W1.heap.size<=k) W4 (.slice a3 m c3) (l[i]).n:=by
    rw [p8];exact (gU.set (p:=⟨wr.heap.size,2,none⟩) (by simp;omega) _).under ((Below.refl _ _).alloc nR _)
   have gj:w4.ownsRow w.heap.size 50 3 v4 (i+1) (flat (fun q=>if q=i then [.string nm,.int .u8 el,.slice a3 m c3] else D q) (i+1)):=by
    have e:flat (fun q=>if q=i then [Value.string nm,.int .u8 el,.slice a3 m c3] else D q) (i+1)=flat D i++[.string nm,.int .u8 el,.slice a3 m c3]:=by
     rw [flat,zAY (D:=D) i (fun q hq=>by rw [if_neg (by omega)])];simp
    rw [e];exact cK
   have gw:HTerms (Off w.heap.size v4) w4 (.slice a3 m c3) (l[i]).n:=by
    have g1:=cA.wide (ok':=fun k=>Off w.heap.size u3 k/\k<W4.heap.size) (fun k hk hl=>⟨Off.new ah nR aj.size (by omega),hl⟩);have g2:=g1.keep am.size (fun k hk hl=>gE k hk.1 hl);exact g2.wide (fun k hk _=>Off.moved df hk.1 hk.2)
   have gI:Hid (∀ j (h:j<l.length),j<i->∃ u,D j=[.string (l[j]).name,.int .u8 (l[j]).elem,u]/\HTerms (Off w.heap.size v4) w4 u (l[j]).n):=fun j hj bJ=>by
    obtain ⟨u,hu,hT⟩:=H.out j hj bJ;refine ⟨u,hu,?_⟩;have g1:=(hT.wide (ok':=fun k=>Off w.heap.size u3 k/\k<wr.heap.size) (fun k hk hl=>⟨hk,hl⟩)).under zV;have g2:=g1.keep am.size (fun k hk hl=>gE k hk.1 hl);exact g2.wide (fun k hk _=>Off.moved df hk.1 (by omega))
   clear cK am fR cf mF gU H gE cA Jg JP IN LW k3 p2 hS fi uh;go_wp2;go_roundg (n-(i+1))
   case measure=>omega
   case rel=>
    refine ⟨i+1,_,by omega,rfl,by go_num,gj,fun j hj bJ=>?_,b4⟩;by_cases e:j=i
    ·subst e
     exact ⟨_,by simp [pu.out,Pg.out],gw⟩
    ·obtain ⟨u,hu,hT⟩:=gI.out j hj (by omega)
     exact ⟨u,by simp [e,hu],hT⟩
  ·have eH:i=n:=by omega
   subst eH;clear ai;have h9:=HN.out;have hs:=zBG ah (fun j hj=>by obtain ⟨u,hu,_⟩:=H.out j (by omega) hj;rw [hu];rfl);have jM:=hs;obtain ⟨a5,c5,rfl,_⟩:=jM;go_wp2;go_ret;refine ⟨_,_,_,rfl,⟨D,?_,fun j hj=>?_⟩,aj⟩
   ·rw [<-HN.out];exact hs
   ·obtain ⟨u,hu,hT⟩:=H.out j hj (by rw [HN.out];exact hj)
    exact ⟨u,hu,hT.wide (fun k hk _=>hk.1)⟩
end Go.Proofs.YtkfgbhlpjkkgfaaGreatDoor
