import Derived.Test.YtegakbobaecdlaaGreatDoorL01
import Derived.Deep.Slices
import GoSem.ClaimJoined
import Derived.Deep.RegionHeld
set_option linter.unusedVariables false
set_option linter.unusedSimpArgs false
set_option maxHeartbeats 64000000
set_option maxRecDepth 100000
namespace Go.Proofs.YtegakbobaecdlaaGreatDoor
open Go.RowKit Go.IntWalk
def flat (C:Nat->List Value):Nat->List Value
 | 0=>[]
 | n+1=>flat C n++C n
theorem zAu {C:Nat->List Value} {k:Nat}:∀ n,(∀ i,i<n->(C i).length=k)->(flat C n).length=n*k
 | 0,_=>by simp [flat]
 | n+1,h=>by
  rw [flat,List.length_append,zAu n (fun i hi=>h i (by omega)),h n (by omega),Nat.succ_mul]
theorem vW {C:Nat->List Value} {k:Nat}:∀ n,(∀ i,i<n->(C i).length=k)->∀ i j,i<n->j<k->(flat C n)[i*k+j]?=(C i)[j]?
 | 0,_,i,j,hi,_=>absurd hi (Nat.not_lt_zero _)
 | n+1,h,i,j,hi,hj=>by
  have hl:=zAu n (fun i hi=>h i (by omega)) (C:=C) (k:=k);rw [flat];by_cases e:i=n
  ·subst e
   rw [List.getElem?_append_right (by omega),hl]
   congr 1
   omega
  ·have hin:i<n:=by omega
   have:i*k+j<n*k:=by
    have:(i+1)*k<=n*k:=Nat.mul_le_mul_right k (by omega);rw [Nat.succ_mul] at this;omega
   rw [List.getElem?_append_left (by omega)];exact vW n (fun i hi=>h i (by omega)) i j hin hj
theorem flat_mem {C:Nat->List Value}:∀ n u,u ∈ flat C n->∃ i,i<n/\u ∈ C i
 | 0,u,h=>by simp [flat] at h
 | n+1,u,h=>by
  rw [flat,List.mem_append] at h;rcases h with h | h
  ·obtain ⟨i,hi,hu⟩:=flat_mem n u h
   exact ⟨i,by omega,hu⟩
  ·exact ⟨n,by omega,h⟩
theorem qQ {C D:Nat->List Value}:∀ n,(∀ i,i<n->C i=D i)->flat C n=flat D n
 | 0,_=>rfl
 | n+1,h=>by rw [flat,flat,qQ n (fun i hi=>h i (by omega)),h n (by omega)]
theorem owns_sl {w:World} {base:Nat} {e:TypeId} {k:Nat} {v:Value} {n:Nat} {C:Nat->List Value} (h:w.ownsRow base e k v n (flat C n)) (hC:∀ i,i<n->(C i).length=k):Sl (fun i=>base<=i) k w v n C:=by
 by_cases hn:0<n
 ·obtain ⟨g,cap,hv,h1,h2,h3,h4,h5⟩:=owns_pos h hn
  refine ⟨_,cap,hv,h3,h4,fun _=>⟨g,0,rfl,h1,h2,fun i hi=>⟨hC i hi,fun j hj=>?_⟩⟩⟩;have hg:=vW n hC i j hi hj;have hjl:j<(C i).length:=(by rw [hC i hi];exact hj);have:=h5 (i*k+j) ((C i)[j]) (by rw [hg];exact List.getElem?_eq_getElem hjl);rw [Nat.zero_add,this,List.getElem?_eq_getElem hjl]
 ·rcases h.2 with ⟨hv,h0⟩ | ⟨g,cap,cur,hv,hb,hg,hnc,hcm,hcs,htake⟩
  ·exact ⟨none,0,by rw [hv,h0],by omega,Nat.zero_le _,fun h=>absurd h hn⟩
  ·exact ⟨_,cap,hv,hnc,hcm,fun h=>absurd h hn⟩
theorem Sl.news {ok:Nat->Prop} {k:Nat} {w:World} {b o:Nat} {n cap:Nat} {C:Nat->List Value} (hk:0<k) (h:Sl ok k w (.slice (some ⟨b,o,none⟩) n cap) n C) :
  ∀ q u,(flat C n)[q]?=some u->w.cell? ((⟨b,o,none⟩:Addr).add q)=some u:=by
 intro q u hq;obtain ⟨ao,cap',hv,h1,h2,h3⟩:=h;injection hv with e1 e2 e3;subst e1;have hlen:(flat C n).length<=n*k->q<n*k:=fun h=>by
  have:=(List.getElem?_eq_some_iff.1 hq).1;omega
 by_cases hn:0<n
 ·obtain ⟨b',o',ha,_,_,hc⟩:=h3 hn
  injection ha with ha;injection ha with ha1 ha2 ha3;subst ha1 ha2;have hl:=zAu n (fun i hi=>(hc i hi).1);have hqn:q<n*k:=hlen (by omega);have hqi:q / k<n:=Nat.div_lt_of_lt_mul (by rw [Nat.mul_comm];exact hqn);have hqj:q % k<k:=Nat.mod_lt _ hk;have hq':q / k*k+q % k=q:=(by rw [Nat.mul_comm];exact Nat.div_add_mod q k);have hg:=vW n (fun i hi=>(hc i hi).1) (q / k) (q % k) hqi hqj;rw [hq',hq] at hg;have hcc:=(hc (q / k) hqi).2 (q % k) hqj;rw [<-hg,Nat.add_assoc,hq'] at hcc;have adds:(⟨b,o,none⟩:Addr).add q=⟨b,o+q,none⟩:=by unfold Addr.add;split<;>simp_all
  rw [adds];exact hcc
 ·have:n=0:=by omega
  subst this;simp [flat] at hq
theorem vX {P:Program} (w:World) (base:Nat) (t ty e:TypeId) (i:TypeInfo) (z:Value) (size bytes:Nat) (ht:P.underlying t=some (.slice e)) (hi:P.info? e=some i) (hz:i.zero=some z)
  (hsize:i.size=size) (hby:i.bytes=bytes) (hzs:z.cells.size=size) (hsz:0<size)
  (v:Value) (n:Nat) (xs:List Value) (hown:w.ownsRow base e size v n xs)
  (a:Addr) (m c:Nat) (news:List Value) (hl:news.length=m*size) (hnews:∀ j u,news[j]?=some u->w.cell? (a.add j)=some u) (h1:∀ u ∈ news,u.oneCell'=true)
  (h63:n+m<=maxLen) (hbytes:(n+m)*bytes<=140737488355328) (hbase:base<=w.heap.size) :
  ∃ v' w',(Builtin.append_ #[t,t] ty #[v,.slice (some a) m c]).run P w=.ok v' w'/\w'.ownsRow base e size v' (n+m) (xs++news)/\w.grownBy w' v.ownBlock/\(v'.ownBlock=v.ownBlock\/∃ k,v'.ownBlock=some k/\w.heap.size<=k):=by
 obtain ⟨v',w',hr,h2,h3,h4⟩:=run_append_own (P:=P) w base t ty e i z size bytes ht hi hz hsize hby hzs hsz v n xs hown a m c news hl hnews h1 h63 hbytes hbase;refine ⟨v',w',hr,h2,h3,?_⟩;have hcell:=@World.ownsRow.cells _ _ _ _ _ _ _ hown;rcases hown.2 with ⟨rfl,h0⟩ | ⟨g,cap,cur,rfl,hb,hg,hnc,hcm,hcs,htake⟩
 ·obtain ⟨v2,w2,hr2,h22,_⟩:=run_append_own (P:=P) w w.heap.size t ty e i z size bytes ht hi hz hsize hby hzs hsz (.slice none 0 0) n xs ⟨hown.1,.inl ⟨rfl,h0⟩⟩ a m c news hl hnews h1 h63 hbytes zM
  rw [hr] at hr2;injection hr2 with e1 e2;subst e1 e2;rcases h22.2 with ⟨rfl,_⟩ | ⟨g,cap,cur,rfl,hb,_⟩
  ·exact .inl rfl
  ·exact .inr ⟨g,rfl,hb⟩
 ·by_cases hroom:n+m<=cap
  ·subst hsize
   have hin:∀ j,j<news.length->0+n*i.size+j<cur.size:=fun j hj=>by
    have:(n+m)*i.size<=cap*i.size:=Nat.mul_le_mul_right _ hroom;rw [Nat.add_mul] at this;rw [hcs];omega
   have hr2:=run_append_room_cells (P:=P) w t ty e i ht hi g 0 n cap a m c news hl hnews h1 hroom
    (fun j hj=>by rw [coQ hg];have:=hin j hj;simp at this ⊢;omega) (fun j hj=>foQ hg _)
   rw [hr] at hr2;injection hr2 with e1 e2;subst e1;exact .inl rfl
  ·obtain ⟨v2,w2,hr2,h22,_⟩:=run_append_arg_grows (P:=P) w t ty e i z size bytes ht hi hz hsize hby hzs hsz ⟨g,0,none⟩ n cap xs hown.1 (fun j u hu=>@hcell g rfl j u hu) a m c news hl hnews (by omega) h63 hbytes
   rw [hr] at hr2;injection hr2 with e1 e2;subst e1 e2;rcases h22.2 with ⟨rfl,hz0⟩ | ⟨g',cap',cur',rfl,hb',_⟩
   ·exfalso
    have:¬(0:Nat)<n+m:=(by omega);omega
   ·exact .inr ⟨g',rfl,hb'⟩
theorem wpList_push {w:World} {ops:Array Oper} {rest:List Oper} {o:Oper} {a:Act} {Q:Exit->Act->World->Prop} (hgd:o.guard=none) (s x:Operand) (t:TypeId)
  (ho:o.op=.call { callee:=.builtin .append,args:=#[s,x],argTypes:=#[t,t] })
  (base:Nat) (e:TypeId) (i:TypeInfo) (z:Value) (size bytes:Nat) (ht:Tryz.prog.underlying t=some (.slice e)) (hi:Tryz.prog.info? e=some i) (hz:i.zero=some z)
  (hsize:i.size=size) (hby:i.bytes=bytes) (hzs:z.cells.size=size) (hsz:0<size)
  (v:Value) (n:Nat) (xs:List Value) (hs:a.eval s=v) (hown:w.ownsRow base e size v n xs)
  (ad:Addr) (m c:Nat) (news:List Value) (hx:a.eval x=.slice (some ad) m c) (hl:news.length=m*size) (hnews:∀ j u,news[j]?=some u->w.cell? (ad.add j)=some u) (h1:∀ u ∈ news,u.oneCell'=true)
  (h63:n+m<=maxLen) (hbytes:(n+m)*bytes<=140737488355328) (hbase:base<=w.heap.size)
  (h:∀ v' w',w'.ownsRow base e size v' (n+m) (xs++news)->w.grownBy w' v.ownBlock->(v'.ownBlock=v.ownBlock\/∃ k,v'.ownBlock=some k/\w.heap.size<=k)->wpList Tryz.prog ops Q rest (a.put o.dst v') w'):wpList Tryz.prog ops Q (o :: rest) a w:=by
 obtain ⟨v',w',hr,h2,h3,h4⟩:=vX (P:=Tryz.prog) w base t o.type e i z size bytes ht hi hz hsize hby hzs hsz v n xs hown ad m c news hl hnews h1 h63 hbytes hbase;refine wpList_plain hgd fun _ hK=>?_;unfold Oper.wp execOp;simp only [ho,resolve,invoke,builtin,Sem.run_bind,Sem.run_pure,Result.andThen_ok,List.map_toArray,List.map_cons,List.map_nil,hs,hx,hr];exact hK _ _ (h v' w' h2 h3 h4)
def Moved (W:World) (v v':Value):Prop:=v'.ownBlock=v.ownBlock\/∃ k,v'.ownBlock=some k/\W.heap.size<=k
def Off (B:Nat) (v:Value) (k:Nat):Prop:=B<=k/\some k≠v.ownBlock
theorem Off.moved {B:Nat} {W:World} {v v':Value} (h:Moved W v v') {k:Nat} (hk:Off B v k) (hl:k<W.heap.size):Off B v' k:=by
 refine ⟨hk.1,fun e=>?_⟩;rcases h with h | ⟨q,hq,hz⟩
 ·exact hk.2 (e.trans h)
 ·rw [hq] at e
  injection e with e;omega
theorem grown_keep {B:Nat} {W W':World} {v:Value} (h:W.grownBy W' v.ownBlock):∀ k,Off B v k->k<W.heap.size->W'.heap[k]?=W.heap[k]?:=fun k hk hl=>h.block k hl hk.2
theorem Below.push {B:Nat} {w W W':World} {v:Value} {e:TypeId} {size n:Nat} {xs:List Value} (hb:Below B w W) (hB:B<=W.heap.size) (ho:W.ownsRow B e size v n xs) (hg:W.grownBy W' v.ownBlock):Below B w W' :=
 hb.grown hg hB (fun k hk=>(World.ownsRow.lt ho k hk).1)
theorem HTerms.set {ok:Nat->Prop} {w:World} {v:Value} {l:List Tm} (h:HTerms ok w v l) {p:Addr} (hp:¬ok p.block) (u:Value):HTerms ok (w.setCell p u) v l :=
 h.keep (by simp [World.setCell]) fun i hi hl=>Below.heap_setCell _ _ _ _ (fun e=>hp (e ▸ hi))
theorem HExs.wide {ok ok':Nat->Prop} {w:World} {v:Value} {l:List Ex} (h:HExs ok w v l) (hk:∀ i,ok i->i<w.heap.size->ok' i):HExs ok' w v l:=by
 obtain ⟨C,h1,h2⟩:=h;exact ⟨C,h1.wide hk,fun i hi=>(h2 i hi).wide hk⟩
theorem HSizes.set {ok:Nat->Prop} {w:World} {v:Value} {l:List (List Tm)} (h:HSizes ok w v l) {p:Addr} (hp:¬ok p.block) (u:Value):HSizes ok (w.setCell p u) v l :=
 h.keep (by simp [World.setCell]) fun i hi hl=>Below.heap_setCell _ _ _ _ (fun e=>hp (e ▸ hi))
theorem HExs.set {ok:Nat->Prop} {w:World} {v:Value} {l:List Ex} (h:HExs ok w v l) {p:Addr} (hp:¬ok p.block) (u:Value):HExs ok (w.setCell p u) v l :=
 h.keep (by simp [World.setCell]) fun i hi hl=>Below.heap_setCell _ _ _ _ (fun e=>hp (e ▸ hi))
end Go.Proofs.YtegakbobaecdlaaGreatDoor
namespace Go.Proofs.YtegakbobaecdlaaGreatDoor
open Go.RowKit Go.IntWalk Go.Deep
section
variable {H:Type} {enc:TypeId × Value->H} {w:World}
theorem all_append {l r:List Nat} (h:(l++r).all (·<=reachBytes)=true):l.all (·<=reachBytes)=true/\r.all (·<=reachBytes)=true:=by
 simpa [List.all_append] using h
theorem vC {P:Program} {e:TypeId}:∀ (l:List (DataW H)) (h:(DataW.weightsAll P e l).all (·<=reachBytes)=true) (i:Nat) (hi:i<l.length),((l[i]).weights P e).all (·<=reachBytes)=true
 | [],_,i,hi=>by simp at hi
 | d :: l,h,0,_=>by rw [DataW.weightsAll] at h;exact (all_append h).1
 | d :: l,h,i+1,hi=>by rw [DataW.weightsAll] at h;exact vC l (all_append h).2 i (by simpa using hi)
theorem qC {P:Program}:∀ (ts:List TypeId) (l:List (DataW H)) (h:(DataW.weightsEach P ts l).all (·<=reachBytes)=true) (i:Nat) (t:TypeId) (d:DataW H),ts[i]?=some t->l[i]?=some d->(d.weights P t).all (·<=reachBytes)=true
 | [],_,_,i,_,_,h1,_=>by simp at h1
 | _ :: _,[],_,i,_,_,_,h2=>by simp at h2
 | a :: ts,d :: l,h,0,_,_,h1,h2=>by
  rw [DataW.weightsEach] at h;simp at h1 h2;subst h1 h2;exact (all_append h).1
 | a :: ts,d :: l,h,i+1,t,x,h1,h2=>by
  rw [DataW.weightsEach] at h;exact qC ts l (all_append h).2 i t x (by simpa using h1) (by simpa using h2)
theorem add_none {a:Addr} (h:a.spot=none) (q:Nat):a.add q=⟨a.block,a.off+q,none⟩:=by
 obtain ⟨b,o,s⟩:=a;simp only at h;subst h;unfold Addr.add
 split<;>simp_all
theorem spot_none {w:World} {a:Addr} {v:Value} (h:w.cell? a=some v):a.spot=none/\a.block<w.heap.size:=by
 unfold World.cell? at h
 split at h
 ·rename_i hh
  refine ⟨?_,(Array.getElem?_eq_some_iff.1 hh).1⟩
  cases hs:a.spot with
  | none=>rfl
  | some s=>rw [hs] at h;simp at h
 ·cases h
theorem vY {t e:TypeId} {k bytes fuel:Nat} {cs:List Value} {x:DataW H × List MemPlace} (ht:Tryz.prog.underlying t=some (.slice e)) (hk:Tryz.prog.cellsOf e=k) (hk0:0<k) (hby:Tryz.prog.bytesOf e=bytes)
  (h:DataW.trod enc Tryz.prog w 0 (fun _=>true) true fuel t cs=some x) (hw:(x.1.weights Tryz.prog t).all (·<=reachBytes)=true) :
  ∃ (a:Option Addr) (n c:Nat) (C:Nat->List Value) (m:Nat) (D:Nat->DataW H) (Pl:Nat->List MemPlace),cs=[.slice a n c]/\Sl (fun _=>True) k w (.slice a n c) n C/\n*bytes<=140737488355328 /\
   ∀ i,i<n->DataW.trod enc Tryz.prog w 0 (fun _=>true) true m e (C i)=some (D i,Pl i)/\((D i).weights Tryz.prog e).all (·<=reachBytes)=true/\SizeOf.sizeOf (D i)<SizeOf.sizeOf x.1:=by
 rcases open_slice ht h with ⟨rfl,rfl⟩ | ⟨a,len,cap,m,n,D,Pl,rfl,_,hlc,hcm,hm,rfl,hx⟩
 ·exact ⟨none,0,0,fun _=>[],0,fun _=>.nil,fun _=>[],rfl,Sl.nil,by omega,fun i hi=>absurd hi (Nat.not_lt_zero _)⟩
 ·simp only [if_true] at hm
  subst hm;rw [DataW.weights] at hw;simp only [ht] at hw;rw [List.all_cons,Bool.and_eq_true] at hw;obtain ⟨hw1,hw2⟩:=hw;have hwe:=(all_append hw2).1;simp only [List.length_map,List.length_range,hby,decide_eq_true_eq,reachBytes] at hw1;rw [hk] at hx;obtain ⟨C,hC⟩:=choose_lt (α:=List Value) (p:=fun i cs'=>w.cells? 0 (a.add (i*k)) k=some cs'/\DataW.trod enc Tryz.prog w 0 (fun _=>true) true n e cs'=some (D i,Pl i)) hx;refine ⟨some a,len,m,C,n,D,Pl,rfl,⟨some a,m,rfl,hlc,hcm,fun hp=>?_⟩,?_,fun i hi=>⟨(hC i (by omega)).2,?_,?_⟩⟩
  ·obtain ⟨_,hl0,hc0⟩:=World.cells?_some (hC 0 (by omega)).1
   have h00:=hc0 0 hk0;rw [Nat.zero_mul] at h00;have e0:(a.add 0).add 0=a:=(by simp [Addr.add]);rw [e0] at h00;have hsome:∃ v,(C 0)[0]?=some v:=⟨(C 0)[0]'(by omega),List.getElem?_eq_getElem (by omega)⟩;obtain ⟨v,hv⟩:=hsome;rw [hv] at h00;obtain ⟨hs,hb⟩:=spot_none h00;refine ⟨a.block,a.off,?_,trivial,hb,fun i hi=>?_⟩
   ·obtain ⟨b,o,s⟩:=a
    simp only at hs;subst hs;rfl
   ·obtain ⟨_,hl,hc⟩:=World.cells?_some (hC i (by omega)).1
    refine ⟨hl,fun j hj=>?_⟩;rw [<-hc j hj,Deep.add_add,add_none hs,Nat.add_assoc]
  ·have:len*bytes<=(len+(m-len))*bytes:=Nat.mul_le_mul_right _ (by omega)
   omega
  ·have:=vC _ hwe i (by simpa using hi)
   simpa using this
  ·have h1:D i ∈ (List.range len).map D:=List.mem_map.2 ⟨i,List.mem_range.2 hi,rfl⟩
   have h2:=List.sizeOf_lt_of_mem h1;simp only [DataW.slice.sizeOf_spec];omega
end
end Go.Proofs.YtegakbobaecdlaaGreatDoor
namespace Go.Proofs.YtegakbobaecdlaaGreatDoor
open Go.RowKit Go.IntWalk Go.Deep
section
variable {H:Type} {enc:TypeId × Value->H} {w:World}
def Rd0 (enc:TypeId × Value->H) (w:World) (t:TypeId) (cs:List Value):Prop :=
 ∃ fuel x,DataW.trod enc Tryz.prog w 0 (fun _=>true) true fuel t cs=some x/\(x.1.weights Tryz.prog t).all (·<=reachBytes)=true
theorem jV {t:TypeId} {fs:Array Field} {fuel:Nat} {cs:List Value} {x:DataW H × List MemPlace} (ht:Tryz.prog.underlying t=some (.struct fs)) (h:DataW.trod enc Tryz.prog w 0 (fun _=>true) true fuel t cs=some x) (hw:(x.1.weights Tryz.prog t).all (·<=reachBytes)=true) :
  ∃ n,fuel=n+1/\cs.length=Tryz.prog.cellsOf t/\∀ (i:Nat) (f:Field),fs[i]?=some f->∃ y,DataW.trod enc Tryz.prog w 0 (fun _=>true) true n f.type ((cs.drop f.offset).take (Tryz.prog.cellsOf f.type))=some y/\(y.1.weights Tryz.prog f.type).all (·<=reachBytes)=true/\SizeOf.sizeOf y.1<SizeOf.sizeOf x.1:=by
 obtain ⟨xs,n,hn,rfl,hl,hxl,hx⟩:=DataW.trod_struct ht h;refine ⟨n,hn,hl,fun i f hf=>?_⟩;have hi:i<fs.size:=(Array.getElem?_eq_some_iff.1 hf).1;have hxi:xs[i]?=some (xs[i]'(by omega)):=List.getElem?_eq_getElem (by omega);refine ⟨xs[i]'(by omega),(hx i f hf).trans hxi,?_,?_⟩
 rotate_left
 ·have h1:(xs[i]'(by omega)).1 ∈ xs.map (·.1):=List.mem_map.2 ⟨_,List.getElem_mem (by omega),rfl⟩
  have h2:=List.sizeOf_lt_of_mem h1;simp only [DataW.agg.sizeOf_spec];omega
 rw [DataW.weights] at hw;simp only [ht] at hw;refine qC _ _ hw i f.type _ ?_ (by rw [List.getElem?_map,hxi];rfl);rw [List.getElem?_map];have:fs.toList[i]?=some f:=(by simpa using hf);rw [this];rfl
theorem open_num {cs:List Value} {t:TypeId} {k:IntKind} (ht:Tryz.prog.underlying t=some (.int k)) (h:Rd0 enc w t cs):∃ n,cs=[.int k n]:=by
 obtain ⟨fuel,x,h,_⟩:=h;obtain ⟨n,hs,_⟩:=DataW.trod_int ht h;exact ⟨n,hs⟩
theorem cells1 (t:TypeId) (h:Tryz.prog.cellsOf t=1) (cs:List Value) (i:Nat) (v:Value) (hv:cs[i]?=some v):(cs.drop i).take (Tryz.prog.cellsOf t)=[v]:=by
 obtain ⟨hi,he⟩:=List.getElem?_eq_some_iff.1 hv;rw [h,List.drop_eq_getElem_cons hi,List.take_succ_cons,List.take_zero,he]
theorem zZ {t:TypeId} {fs:Array Field} {cs:List Value} (ht:Tryz.prog.underlying t=some (.struct fs)) (h:Rd0 enc w t cs) (i:Nat) (ft off:Nat) (hfi:(fs[i]?).map (fun f=>(f.type,f.offset))=some (ft,off)) (hc:Tryz.prog.cellsOf ft=1) (v:Value) (hv:cs[off]?=some v):Rd0 enc w ft [v]:=by
 obtain ⟨fuel,x,h,hw⟩:=h;obtain ⟨n,rfl,hl,hf⟩:=jV ht h hw
 cases hfe:fs[i]? with
 | none=>rw [hfe] at hfi;cases hfi
 | some f=>
  rw [hfe] at hfi;simp only [Option.map_some,Option.some.injEq,Prod.mk.injEq] at hfi;obtain ⟨y,a0,b0,_⟩:=hf i f hfe;rw [hfi.1,hfi.2,cells1 ft hc cs off v hv] at a0;rw [hfi.1] at b0;exact ⟨n,y,a0,b0⟩
theorem len_of {t:TypeId} {fs:Array Field} {cs:List Value} (ht:Tryz.prog.underlying t=some (.struct fs)) (h:Rd0 enc w t cs):cs.length=Tryz.prog.cellsOf t:=by
 obtain ⟨fuel,x,h,hw⟩:=h;obtain ⟨n,rfl,hl,hf⟩:=jV ht h hw;exact hl
theorem c2:Tryz.prog.cellsOf 2=1:=by kernel_rfl
theorem c3:Tryz.prog.cellsOf 3=1:=by kernel_rfl
theorem c5:Tryz.prog.cellsOf 5=1:=by kernel_rfl
theorem zAM {α:Type} [Inhabited α] (n:Nat) (f:Nat->α):∃ l:List α,l.length=n/\∀ i (h:i<l.length),l[i]=f i :=
 ⟨(List.range n).map f,by simp,fun i h=>by simp⟩
instance:Inhabited Tm:=⟨(0,⟨#[]⟩)⟩
instance:Inhabited De:=⟨⟨⟨#[]⟩,0,[]⟩⟩
instance:Inhabited Ex:=⟨.mk 0 0 0 ⟨#[]⟩ [] []⟩
instance:Inhabited Eqn:=⟨⟨0,[],⟨#[]⟩,[],[]⟩⟩
instance:Inhabited Nd:=⟨⟨⟨#[]⟩,0,[],[],[],[],[]⟩⟩
end
end Go.Proofs.YtegakbobaecdlaaGreatDoor
namespace Go.Proofs.YtegakbobaecdlaaGreatDoor
open Go
section
variable {P:Program} {ops:Array Oper} {Q:Exit->Act->World->Prop} {md:Region.Mode} {S:World->Prop} {late:Nat->Bool}
def wpAnyL (P:Program) (md:Region.Mode) (ops:Array Oper) (Q:Exit->Act->World->Prop) (S:World->Prop) (late:Nat->Bool):Nat->Array Bool->Act->World->Prop
 | 0,listed,a,w=>Region.ready md ops listed=[]/\Q .normal a w
 | fuel+1,listed,a,w=>
  (Region.ready md ops listed=[]->Q .normal a w) /\
  ∀ i ∈ Region.ready md ops listed,wpOp P ops Q i (fun a' w'=>(late i=false->S w')/\wpAnyL P md ops Q S late fuel (listed.setIfInBounds i true) a' w') a w
theorem vF:∀ (fuel:Nat) (listed:Array Bool) (a:Act) (w:World),wpAnyL P md ops Q S late fuel listed a w->wpAny P md ops Q fuel listed a w
 | 0,_,_,_,h=>h
 | fuel+1,_,_,_,h=>⟨h.1,fun i hi=>wpOp_mono (fun a' w' h'=>vF fuel _ a' w' h'.2) (h.2 i hi)⟩
def waitFor (md:Region.Mode) (ops:Array Oper) (late:Nat->Bool) (listed:Array Bool) (i:Nat):Bool :=
 (List.range ops.size).all fun j => !late j || listed.getD j true || ((ops[j]?).map (·.after.any fun e=>Region.binds md e&&e.on==i)).getD true
theorem jD {listed:Array Bool} {i:Nat} (h:waitFor md ops late listed i=true) (j:Nat) (oj:Oper) (hj:ops[j]?=some oj) (hun:listed.getD j true=false) (hl:late j=true) :
  ∃ e ∈ oj.after,Region.binds md e=true/\e.on=i:=by
 have hlt:j<ops.size:=(Array.getElem?_eq_some_iff.1 hj).1;have h1:=List.all_eq_true.1 h j (List.mem_range.2 hlt);rw [hj,hl,hun] at h1;simp only [Bool.not_true,Bool.or_false,Bool.false_or,Option.map_some,Option.getD_some] at h1;obtain ⟨e,he,h2⟩:=Array.any_eq_true'.1 h1;simp only [Bool.and_eq_true,beq_iff_eq] at h2;exact ⟨e,he,h2.1,h2.2⟩
theorem jE {i:Nat} {oi:Oper} {v:Value} (hi:ops[i]?=some oi) (hsel:∀ (j:Nat) (o:Oper) cs b,ops[j]?=some o->o.op≠.select cs b)
  (hQ:∀ c a w,Q (.panic c) (a.put oi.dst v) w->Q (.panic c) a w) :
  ∀ (fuel:Nat) (listed:Array Bool) (a:Act) (w:World),
   (∀ j oj,ops[j]?=some oj->j≠i->listed.getD j true=false->(∀ e ∈ oj.after,Region.binds md e=true->e.on≠i)->oi.apart ops oj=true) ->
   (∀ j oj,ops[j]?=some oj->listed.getD j true=false->late j=true->∃ e ∈ oj.after,Region.binds md e=true/\e.on=i) ->
   i ∈ Region.ready md ops listed->YieldsIf P ops S oi v a->S w ->
   wpAnyL P md ops Q S late fuel (listed.setIfInBounds i true) (a.put oi.dst v) w->wpAnyL P md ops Q S late (fuel+1) listed a w:=by
 intro fuel
 induction fuel with
 | zero=>
  intro listed a w _ _ hr hy hS H;refine ⟨fun h=>(by rw [h] at hr;cases hr),fun j hj=>?_⟩;by_cases hji:j=i
  ·subst hji;exact hy.wpOp hi hS ⟨fun _=>hS,H⟩
  ·have:=ready_mono hj hji
   rw [H.1] at this
   cases this
 | succ fuel ih=>
  intro listed a w hfree hwait hr hy hS H;refine ⟨fun h=>(by rw [h] at hr;cases hr),fun j hj=>?_⟩;by_cases hji:j=i
  ·subst hji;exact hy.wpOp hi hS ⟨fun _=>hS,H⟩
  ·have h1:=H.2 j (ready_mono hj hji)
   obtain ⟨hjun,oj,hoj,hall⟩:=mem_ready.1 hj;have hnot:∀ e ∈ oj.after,Region.binds md e=true->e.on≠i:=fun e he hb heq=>by
    have h1:=hall e he hb;have h0:=(mem_ready.1 hr).1;rw [heq] at h1;rcases Nat.lt_or_ge i listed.size with h' | h'
    ·simp [h'] at h0 h1;rw [h0] at h1;cases h1
    ·simp [Array.getElem?_eq_none h'] at h1
   have hearly:late j=false:=by
    cases hl:late j with
    | false=>rfl
    | true=>
     obtain ⟨e,he,hb,heq⟩:=hwait j oj hoj hjun hl;exact absurd heq (hnot e he hb)
   have h2:=wpOp_putIf hoj (hfree j oj hoj hji hjun hnot) (fun cs b=>hsel i oi cs b hi) (fun cs b=>hsel j oj cs b hoj) hQ hy h1;have hfree':∀ k ok,ops[k]?=some ok->k≠i->(listed.setIfInBounds j true).getD k true=false ->
     (∀ e ∈ ok.after,Region.binds md e=true->e.on≠i)->oi.apart ops ok=true:=fun k ok hk hki hun hno=>by
    refine hfree k ok hk hki ?_ hno;by_cases hjk:j=k
    ·subst hjk;exact hjun
    ·rw [getD_set_ne true hjk] at hun;exact hun
   have hwait':∀ k ok,ops[k]?=some ok->(listed.setIfInBounds j true).getD k true=false->late k=true->∃ e ∈ ok.after,Region.binds md e=true/\e.on=i:=fun k ok hk hun hl=>by
    refine hwait k ok hk ?_ hl;by_cases hjk:j=k
    ·subst hjk;exact hjun
    ·rw [getD_set_ne true hjk] at hun;exact hun
   refine wpOp_mono (fun a' w' h3=>⟨h3.2.1,ih (listed.setIfInBounds j true) a' w' hfree' hwait' (ready_mono hr (Ne.symm hji)) h3.1 (h3.2.1 hearly) ?_⟩) h2;rw [Array.setIfInBounds_comm _ _ hji];exact h3.2.2
theorem zO {i:Nat} {oi:Oper} {v:Value} {fuel:Nat} {listed:Array Bool} {a:Act} {w:World} (hi:ops[i]?=some oi)
  (hs:Region.noSelect ops=true) (hf:Region.free md ops listed i=true) (hr:(Region.ready md ops listed).contains i=true) (hl:waitFor md ops late listed i=true)
  (hQ:∀ c a w,Q (.panic c) (a.put oi.dst v) w->Q (.panic c) a w) (hS:S w) (hw:Region.wanted oi (yielded ops a.tmps)=true) (hy:∀ w,S w->(execOp a.eval oi).run P w=.ok (.value v) w)
  (h:wpAnyL P md ops Q S late fuel (listed.setIfInBounds i true) (a.put oi.dst v) w):wpAnyL P md ops Q S late (fuel+1) listed a w:=
 jE hi (Region.noSelect_spec hs) hQ fuel listed a w (Region.free_spec hi hf) (jD hl) (by simpa using hr) (.inl ⟨hw,hy⟩) hS h
theorem zAb {i:Nat} {o:Oper} {fuel:Nat} {listed:Array Bool} {a:Act} {w:World} (ho:ops[i]?=some o) (hr:Region.ready md ops listed=[i]) (hw:Region.wanted o (yielded ops a.tmps)=true)
  (h:∀ K':Act->World->Prop,Shut (∀ a w,(late i=false->S w)->wpAnyL P md ops Q S late fuel (listed.setIfInBounds i true) a w->K' a w)->Oper.wp P o a w K' Q):wpAnyL P md ops Q S late (fuel+1) listed a w:=by
 refine ⟨fun h0=>(by rw [hr] at h0;cases h0),fun j hj=>?_⟩;rw [hr] at hj;simp at hj;subst hj;refine wpOp_step ho (fun K' hK=>?_);rw [if_pos hw];exact h K' (fun a w hS hW=>hK a w ⟨hS,hW⟩)
theorem zH {listed:Array Bool} {a:Act} {w:World} (hr:Region.ready md ops listed=[]) (h:Q .normal a w) :
  ∀ fuel,wpAnyL P md ops Q S late fuel listed a w
 | 0=>⟨hr,h⟩
 | _+1=>⟨fun _=>h,by rw [hr];simp⟩
theorem zK {id:Nat} {a:Act} {w:World} (S:World->Prop) (late:Nat->Bool) (hm:P.follows .mixedOrders=true)
  (h:wpAnyL P .any ops Q S late ops.size (Array.replicate ops.size false) a w.drew):(Code.region id ops true).wp P Q a w:=
 wp_region_any hm (vF _ _ _ _ h)
end
end Go.Proofs.YtegakbobaecdlaaGreatDoor
