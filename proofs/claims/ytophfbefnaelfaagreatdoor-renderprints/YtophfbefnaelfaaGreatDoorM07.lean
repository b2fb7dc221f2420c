import Derived.Test.YtophfbefnaelfaaGreatDoorM06
import Derived.Test.YtophfbefnaelfaaGreatDoorM04
set_option linter.unusedVariables false
set_option linter.unusedSimpArgs false
set_option maxHeartbeats 64000000
set_option maxRecDepth 100000
namespace Go.Proofs.YtophfbefnaelfaaGreatDoor
open Go.RowKit Go.IntWalk
def flat (C:Nat→List Value):Nat→List Value
 | 0=>[]
 | n+1=>flat C n++C n
theorem flat_len {C:Nat→List Value} {k:Nat}:∀ n,(∀ i,i<n→(C i).length=k)→(flat C n).length=n*k
 | 0,_=>by simp [flat]
 | n+1,h=>by
  rw [flat,List.length_append,flat_len n (fun i hi=>h i (by omega)),h n (by omega),Nat.succ_mul]
theorem flat_get {C:Nat→List Value} {k:Nat}:∀ n,(∀ i,i<n→(C i).length=k)→∀ i j,i<n→j<k→(flat C n)[i*k+j]?=(C i)[j]?
 | 0,_,i,j,hi,_=>absurd hi (Nat.not_lt_zero _)
 | n+1,h,i,j,hi,hj=>by
  have hl:=flat_len n (fun i hi=>h i (by omega)) (C:=C) (k:=k);rw [flat];by_cases e:i=n
  ·subst e
   rw [List.getElem?_append_right (by omega),hl]
   congr 1
   omega
  ·have hin:i<n:=by omega
   have:i*k+j<n*k:=by
    have:(i+1)*k≤n*k:=Nat.mul_le_mul_right k (by omega);rw [Nat.succ_mul] at this;omega
   rw [List.getElem?_append_left (by omega)];exact flat_get n (fun i hi=>h i (by omega)) i j hin hj
theorem flat_mem {C:Nat→List Value}:∀ n u,u ∈ flat C n→∃ i,i<n∧u ∈ C i
 | 0,u,h=>by simp [flat] at h
 | n+1,u,h=>by
  rw [flat,List.mem_append] at h;rcases h with h | h
  ·obtain ⟨i,hi,hu⟩:=flat_mem n u h
   exact ⟨i,by omega,hu⟩
  ·exact ⟨n,by omega,h⟩
theorem flat_congr {C D:Nat→List Value}:∀ n,(∀ i,i<n→C i=D i)→flat C n=flat D n
 | 0,_=>rfl
 | n+1,h=>by rw [flat,flat,flat_congr n (fun i hi=>h i (by omega)),h n (by omega)]
theorem owns_sl {w:World} {base:Nat} {e:TypeId} {k:Nat} {v:Value} {n:Nat} {C:Nat→List Value} (h:w.ownsRow base e k v n (flat C n)) (hC:∀ i,i<n→(C i).length=k):Sl (fun i=>base≤i) k w v n C:=by
 by_cases hn:0<n
 ·obtain ⟨g,cap,hv,h1,h2,h3,h4,h5⟩:=owns_pos h hn
  refine ⟨_,cap,hv,h3,h4,fun _=>⟨g,0,rfl,h1,h2,fun i hi=>⟨hC i hi,fun j hj=>?_⟩⟩⟩;have hg:=flat_get n hC i j hi hj;have hjl:j<(C i).length:=(by rw [hC i hi];exact hj);have:=h5 (i*k+j) ((C i)[j]) (by rw [hg];exact List.getElem?_eq_getElem hjl);rw [Nat.zero_add,this,List.getElem?_eq_getElem hjl]
 ·rcases h.2 with ⟨hv,h0⟩ | ⟨g,cap,cur,hv,hb,hg,hnc,hcm,hcs,htake⟩
  ·exact ⟨none,0,by rw [hv,h0],by omega,Nat.zero_le _,fun h=>absurd h hn⟩
  ·exact ⟨_,cap,hv,hnc,hcm,fun h=>absurd h hn⟩
theorem Sl.news {ok:Nat→Prop} {k:Nat} {w:World} {b o:Nat} {n cap:Nat} {C:Nat→List Value} (hk:0<k) (h:Sl ok k w (.slice (some ⟨b,o,none⟩) n cap) n C) :
  ∀ q u,(flat C n)[q]?=some u→w.cell? ((⟨b,o,none⟩:Addr).add q)=some u:=by
 intro q u hq;obtain ⟨ao,cap',hv,h1,h2,h3⟩:=h;injection hv with e1 e2 e3;subst e1;have hlen:(flat C n).length≤n*k→q<n*k:=fun h=>by
  have:=(List.getElem?_eq_some_iff.1 hq).1;omega
 by_cases hn:0<n
 ·obtain ⟨b',o',ha,_,_,hc⟩:=h3 hn
  injection ha with ha;injection ha with ha1 ha2 ha3;subst ha1 ha2;have hl:=flat_len n (fun i hi=>(hc i hi).1);have hqn:q<n*k:=hlen (by omega);have hqi:q / k<n:=Nat.div_lt_of_lt_mul (by rw [Nat.mul_comm];exact hqn);have hqj:q % k<k:=Nat.mod_lt _ hk;have hq':q / k*k+q % k=q:=(by rw [Nat.mul_comm];exact Nat.div_add_mod q k);have hg:=flat_get n (fun i hi=>(hc i hi).1) (q / k) (q % k) hqi hqj;rw [hq',hq] at hg;have hcc:=(hc (q / k) hqi).2 (q % k) hqj;rw [←hg,Nat.add_assoc,hq'] at hcc;have adds:(⟨b,o,none⟩:Addr).add q=⟨b,o+q,none⟩:=by unfold Addr.add;split<;>simp_all
  rw [adds];exact hcc
 ·have:n=0:=by omega
  subst this;simp [flat] at hq
theorem Tryz.info86:(Tryz.prog.info? 86).map (fun i=>(i.zero,i.size,i.bytes))=some (some (.agg #[.int .i64 0,.string ⟨#[]⟩]),2,24):=by kernel_rfl
theorem Tryz.info73:(Tryz.prog.info? 73).map (fun i=>(i.zero,i.size,i.bytes))=some (some (.slice none 0 0),1,24):=by kernel_rfl
theorem nils35 (w:World) (c:Nat) (ty:TypeId):(Builtin.append_ #[39,39] ty #[.slice none 0 0,.slice none 0 c]).run Tryz.prog w=.ok (.slice none 0 0) w:=by kernel_rfl
theorem nils90 (w:World) (c:Nat) (ty:TypeId):(Builtin.append_ #[73,73] ty #[.slice none 0 0,.slice none 0 c]).run Tryz.prog w=.ok (.slice none 0 0) w:=by kernel_rfl
theorem wpList_copy {w:World} {ops:Array Oper} {rest:List Oper} {o:Oper} {a:Act} {Q:Exit→Act→World→Prop} (hgd:o.guard=none) (s x:Operand) (t e:TypeId) (k bytes:Nat) (i:TypeInfo) (z:Value)
  (ho:o.op=.call { callee:=.builtin .append,args:=#[s,x],argTypes:=#[t,t] }) (ht:Tryz.prog.underlying t=some (.slice e)) (hi:Tryz.prog.info? e=some i) (hz:i.zero=some z) (hsize:i.size=k) (hby:i.bytes=bytes) (hzs:z.cells.size=k) (hk:0<k)
  (hs:a.eval s=.slice none 0 0) {ok:Nat→Prop} {v:Value} {n:Nat} {C:Nat→List Value} (hx:a.eval x=v) (hS:Sl ok k w v n C) (hCl:∀ i,i<n→(C i).length=k) (h1:∀ u,u ∈ flat C n→u.oneCell'=true) (hM:n*bytes≤140737488355328) (hn:n≤maxLen) (hnil:∀ (w:World) (c:Nat) (ty:TypeId),(Builtin.append_ #[t,t] ty #[.slice none 0 0,.slice none 0 c]).run Tryz.prog w=.ok (.slice none 0 0) w)
  (h:∀ a' c' w',Sl (fun i=>w.heap.size≤i) k w' (.slice a' n c') n C→Below w.heap.size w w'→wpList Tryz.prog ops Q rest (a.put o.dst (.slice a' n c')) w'):wpList Tryz.prog ops Q (o :: rest) a w:=by
 have hS0:=hS;obtain ⟨ao,cap,rfl,h2,h3,h4⟩:=hS
 cases ao with
 | none=>
  have hn0:n=0:=by
   by_cases hp:0<n
   ·obtain ⟨b,o,hb,_⟩:=h4 hp
    cases hb
   ·omega
  subst hn0;have hrun:=hnil w cap o.type;refine wpList_plain hgd fun _ hK=>?_;unfold Oper.wp;simp [execOp,ho,resolve,invoke,builtin,hs,hx,hrun,Result.andThen];exact hK _ _ (h none 0 w Sl.nil (Below.refl _ _))
 | some ad=>
  have hnews:∀ q u,(flat C n)[q]?=some u→w.cell? (ad.add q)=some u:=by
   by_cases hp:0<n
   ·obtain ⟨b,o,hb,_⟩:=h4 hp
    injection hb with hb;subst hb;exact Sl.news hk hS0
   ·have hn0:n=0:=by omega
    subst hn0;intro q u hq;simp [flat] at hq
  refine wpList_append_own _ hgd s x t ho w.heap.size e i z k bytes ht hi hz hsize hby hzs hk _ 0 [] hs (World.ownsRow_nil _ _ _ _) ad n cap (flat C n) hx (flat_len n hCl) hnews h1 (by rw [Nat.zero_add];exact hn) (by rw [Nat.zero_add];exact hM) nR ?_;intro v3 w3 hown hgrow _;have b3:Below w.heap.size w w3:=(Below.refl _ w).grown hgrow nR (fun k hk=>by cases hk);have hown':w3.ownsRow w.heap.size e k v3 n (flat C n):=(by simpa using hown);have hs3:=owns_sl hown' hCl;have hs4:=hs3;obtain ⟨ao3,cap3,rfl,_⟩:=hs4;exact h _ _ _ hs3 b3
theorem copyNames_any {ok:Nat→Prop} {w:World} {v:Value} {l:List ByteArray} (hl:HNames ok w v l) (hM:l.length*16≤140737488355328) :
  Calls Tryz.prog 22 #[v] w fun e w'=>∃ a n c,e=.returned (.slice a n c)∧HNames (fun i=>w.heap.size≤i) w' (.slice a n c) l∧Below w.heap.size w w':=by
 obtain ⟨i0,hi,hz0,hz1,hz2⟩:=info_parts Tryz.info9;obtain ⟨C,hS,hC⟩:=hl;have hCl:∀ i,i<l.length→(C i).length=1:=fun i hi=>by rw [hC i hi];rfl
 have hone:∀ u,u ∈ flat C l.length→u.oneCell'=true:=fun u hu=>by
  obtain ⟨i,hi,hu⟩:=flat_mem _ _ hu;rw [hC i hi] at hu;simp at hu;subst hu;rfl
 have hnm:l.length≤maxLen:=(by unfold maxLen;omega);go_enter Tryz.func22,Tryz.ntmps22
 go_wp2_with (at_builtin;refine wpList_copy rfl _ _ 39 9 1 16 i0 (.string ⟨#[]⟩) rfl Tryz.underlying39 hi hz0 hz1 hz2 rfl (by decide) rfl rfl hS hCl hone hM hnm nils35 ?_;intro a3 c3 w3 hs3 b3)
 go_ret;exact ⟨_,_,_,rfl,⟨C,hs3,hC⟩,b3⟩
def FitS (S:List (List Tm)):Prop:=S.length*24≤140737488355328∧∀ i (h:i<S.length),(S[i]).length*24≤140737488355328
theorem terms_one {l:List Tm} {C:Nat→List Value} (hC:∀ i (h:i<l.length),C i=[.int .i64 (l[i]).1,.string (l[i]).2]):(∀ i,i<l.length→(C i).length=2)∧∀ u,u ∈ flat C l.length→u.oneCell'=true:=by
 refine ⟨fun i hi=>by rw [hC i hi];rfl,fun u hu=>?_⟩;obtain ⟨i,hi,hu⟩:=flat_mem _ _ hu;rw [hC i hi] at hu;simp at hu;rcases hu with rfl | rfl<;>rfl
theorem run_push {P:Program} (w:World) (base:Nat) (t ty e:TypeId) (i:TypeInfo) (z:Value) (size bytes:Nat) (ht:P.underlying t=some (.slice e)) (hi:P.info? e=some i) (hz:i.zero=some z)
  (hsize:i.size=size) (hby:i.bytes=bytes) (hzs:z.cells.size=size) (hsz:0<size)
  (v:Value) (n:Nat) (xs:List Value) (hown:w.ownsRow base e size v n xs)
  (a:Addr) (m c:Nat) (news:List Value) (hl:news.length=m*size) (hnews:∀ j u,news[j]?=some u→w.cell? (a.add j)=some u) (h1:∀ u ∈ news,u.oneCell'=true)
  (h63:n+m≤maxLen) (hbytes:(n+m)*bytes≤140737488355328) (hbase:base≤w.heap.size) :
  ∃ v' w',(Builtin.append_ #[t,t] ty #[v,.slice (some a) m c]).run P w=.ok v' w'∧w'.ownsRow base e size v' (n+m) (xs++news)∧w.grownBy w' v.ownBlock∧(v'.ownBlock=v.ownBlock∨∃ k,v'.ownBlock=some k∧w.heap.size≤k):=by
 obtain ⟨v',w',hr,h2,h3,h4⟩:=run_append_own (P:=P) w base t ty e i z size bytes ht hi hz hsize hby hzs hsz v n xs hown a m c news hl hnews h1 h63 hbytes hbase;refine ⟨v',w',hr,h2,h3,?_⟩;have hcell:=@World.ownsRow.cells _ _ _ _ _ _ _ hown;rcases hown.2 with ⟨rfl,h0⟩ | ⟨g,cap,cur,rfl,hb,hg,hnc,hcm,hcs,htake⟩
 ·obtain ⟨v2,w2,hr2,h22,_⟩:=run_append_own (P:=P) w w.heap.size t ty e i z size bytes ht hi hz hsize hby hzs hsz (.slice none 0 0) n xs ⟨hown.1,.inl ⟨rfl,h0⟩⟩ a m c news hl hnews h1 h63 hbytes nR
  rw [hr] at hr2;injection hr2 with e1 e2;subst e1 e2;rcases h22.2 with ⟨rfl,_⟩ | ⟨g,cap,cur,rfl,hb,_⟩
  ·exact .inl rfl
  ·exact .inr ⟨g,rfl,hb⟩
 ·by_cases hroom:n+m≤cap
  ·subst hsize
   have hin:∀ j,j<news.length→0+n*i.size+j<cur.size:=fun j hj=>by
    have:(n+m)*i.size≤cap*i.size:=Nat.mul_le_mul_right _ hroom;rw [Nat.add_mul] at this;rw [hcs];omega
   have hr2:=run_append_room_cells (P:=P) w t ty e i ht hi g 0 n cap a m c news hl hnews h1 hroom
    (fun j hj=>by rw [co hg];have:=hin j hj;simp at this ⊢;omega) (fun j hj=>fo hg _)
   rw [hr] at hr2;injection hr2 with e1 e2;subst e1;exact .inl rfl
  ·obtain ⟨v2,w2,hr2,h22,_⟩:=run_append_arg_grows (P:=P) w t ty e i z size bytes ht hi hz hsize hby hzs hsz ⟨g,0,none⟩ n cap xs hown.1 (fun j u hu=>@hcell g rfl j u hu) a m c news hl hnews (by omega) h63 hbytes
   rw [hr] at hr2;injection hr2 with e1 e2;subst e1 e2;rcases h22.2 with ⟨rfl,hz0⟩ | ⟨g',cap',cur',rfl,hb',_⟩
   ·exfalso
    have:¬(0:Nat)<n+m:=(by omega);omega
   ·exact .inr ⟨g',rfl,hb'⟩
theorem wpList_push {w:World} {ops:Array Oper} {rest:List Oper} {o:Oper} {a:Act} {Q:Exit→Act→World→Prop} (hgd:o.guard=none) (s x:Operand) (t:TypeId)
  (ho:o.op=.call { callee:=.builtin .append,args:=#[s,x],argTypes:=#[t,t] })
  (base:Nat) (e:TypeId) (i:TypeInfo) (z:Value) (size bytes:Nat) (ht:Tryz.prog.underlying t=some (.slice e)) (hi:Tryz.prog.info? e=some i) (hz:i.zero=some z)
  (hsize:i.size=size) (hby:i.bytes=bytes) (hzs:z.cells.size=size) (hsz:0<size)
  (v:Value) (n:Nat) (xs:List Value) (hs:a.eval s=v) (hown:w.ownsRow base e size v n xs)
  (ad:Addr) (m c:Nat) (news:List Value) (hx:a.eval x=.slice (some ad) m c) (hl:news.length=m*size) (hnews:∀ j u,news[j]?=some u→w.cell? (ad.add j)=some u) (h1:∀ u ∈ news,u.oneCell'=true)
  (h63:n+m≤maxLen) (hbytes:(n+m)*bytes≤140737488355328) (hbase:base≤w.heap.size)
  (h:∀ v' w',w'.ownsRow base e size v' (n+m) (xs++news)→w.grownBy w' v.ownBlock→(v'.ownBlock=v.ownBlock∨∃ k,v'.ownBlock=some k∧w.heap.size≤k)→wpList Tryz.prog ops Q rest (a.put o.dst v') w'):wpList Tryz.prog ops Q (o :: rest) a w:=by
 obtain ⟨v',w',hr,h2,h3,h4⟩:=run_push (P:=Tryz.prog) w base t o.type e i z size bytes ht hi hz hsize hby hzs hsz v n xs hown ad m c news hl hnews h1 h63 hbytes hbase;refine wpList_plain hgd fun _ hK=>?_;unfold Oper.wp execOp;simp only [ho,resolve,invoke,builtin,Sem.run_bind,Sem.run_pure,Result.andThen_ok,List.map_toArray,List.map_cons,List.map_nil,hs,hx,hr];exact hK _ _ (h v' w' h2 h3 h4)
def Moved (W:World) (v v':Value):Prop:=v'.ownBlock=v.ownBlock∨∃ k,v'.ownBlock=some k∧W.heap.size≤k
def Off (B:Nat) (v:Value) (k:Nat):Prop:=B≤k∧some k≠v.ownBlock
theorem Off.moved {B:Nat} {W:World} {v v':Value} (h:Moved W v v') {k:Nat} (hk:Off B v k) (hl:k<W.heap.size):Off B v' k:=by
 refine ⟨hk.1,fun e=>?_⟩;rcases h with h | ⟨q,hq,hz⟩
 ·exact hk.2 (e.trans h)
 ·rw [hq] at e
  injection e with e;omega
theorem Off.new {B N:Nat} {w:World} {e:TypeId} {size:Nat} {v:Value} {n:Nat} {xs:List Value} (h:w.ownsRow B e size v n xs) (hN:w.heap.size≤N) (hB:B≤N) {k:Nat} (hk:N≤k):Off B v k:=by
 refine ⟨by omega,fun e=>?_⟩;have:=World.ownsRow.lt h k e.symm;omega
theorem grown_keep {B:Nat} {W W':World} {v:Value} (h:W.grownBy W' v.ownBlock):∀ k,Off B v k→k<W.heap.size→W'.heap[k]?=W.heap[k]?:=fun k hk hl=>h.block k hl hk.2
theorem Below.push {B:Nat} {w W W':World} {v:Value} {e:TypeId} {size n:Nat} {xs:List Value} (hb:Below B w W) (hB:B≤W.heap.size) (ho:W.ownsRow B e size v n xs) (hg:W.grownBy W' v.ownBlock):Below B w W' :=
 hb.grown hg hB (fun k hk=>(World.ownsRow.lt ho k hk).1)
theorem copySizes_any {ok:Nat→Prop} {w:World} {v:Value} {l:List (List Tm)} (hl:HSizes ok w v l) (hM:FitS l) :
  Calls Tryz.prog 24 #[v] w fun e w'=>∃ a n c,e=.returned (.slice a n c)∧HSizes (fun i=>w.heap.size≤i) w' (.slice a n c) l∧Below w.heap.size w w':=by
 obtain ⟨i0,hi,hz0,hz1,hz2⟩:=info_parts Tryz.info86;obtain ⟨i1,hi1,hy0,hy1,hy2⟩:=info_parts Tryz.info73;obtain ⟨ao,cap,rfl,hc1,hc2,hat⟩:=hl.at;unfold maxLen at hc2;have HM:=hide hM.2;have hM1:=hM.1;obtain ⟨n,hn⟩:=nmQ (l.length);rw [←hn] at hc1 hM1 ⊢;have HN:=hide hn;clear hn hM hl;go_enter Tryz.func24,Tryz.ntmps24;go_wp2;go_loopg [3,4] n (fun k v3 v wr=>∃ (i:Nat) (D:Nat→List Value),i≤n∧k=n-i∧v=.int .i64 (i:Nat)∧wr.ownsRow w.heap.size 73 1 v3 i (flat D i)∧Hid (∀ j (h:j<l.length),j<i→∃ u,D j=[u]∧HTerms (Off w.heap.size v3) wr u l[j])∧Below w.heap.size w wr)
 case atStart=>exact ⟨0,fun _=>[],Nat.zero_le _,rfl,rfl,World.ownsRow_nil _ _ _ _,fun j _ h=>absurd h (Nat.not_lt_zero _),Below.refl _ _⟩
 case round=>
  obtain ⟨i,D,hile,rfl,rfl,hown,H,hbr⟩:=hrel;by_cases hlt:i<n
  ·have hil:i<l.length:=by have:=HN.out;omega
   obtain ⟨b,o,au,nu,cu,rfl,hb,hc,ht⟩:=hat i hil;have e1:=(hbr.cell (p:=⟨b,o+i,none⟩) hb).trans hc;obtain ⟨C,hS,hC⟩:=ht.under hbr;have hTM:=HM.out i hil;obtain ⟨hCl,hone⟩:=terms_one hC;have hnm:(l[i]).length≤maxLen:=(by unfold maxLen;omega);have HC:=hide hC;clear hat hc ht hC;obtain ⟨m,hm⟩:=nmQ ((l[i]).length);rw [←hm] at hS hCl hone hTM hnm;have HMM:=hide hm;clear hm;have zr:=hbr.size
   go_wp2_with (first
    | (at_builtin;refine wpList_copy rfl _ _ 73 86 2 24 i0 (.agg #[.int .i64 0,.string ⟨#[]⟩]) rfl Tryz.underlying73 hi hz0 hz1 hz2 rfl (by decide) rfl rfl hS hCl hone hTM hnm nils90 ?_;intro a3 c3 w3 hs3 b3;have hown3:=(ownsRow_below hown b3).alloc (.cells #[.slice a3 m c3] 73 (0,0));have zz3:=b3.size)
    | (at_builtin;refine wpList_push rfl _ _ 46 rfl w.heap.size 73 i1 (.slice none 0 0) 1 24 Tryz.underlying46 hi1 hy0 hy1 hy2 rfl (by decide) _ _ _ rfl hown3 ⟨w3.heap.size,0,none⟩ 1 1 [.slice a3 m c3] rfl rfl (new1 _ _ _) (by intro u hu;simp at hu;subst hu;rfl) (by unfold maxLen;omega) (by omega) (by simp;omega) ?_;intro v4 w4 hown4 hgrow hmv))
   have hmv':Moved (w3.alloc (.cells #[.slice a3 m c3] 73 (0,0))) u3 v4:=hmv;have bW:Below wr.heap.size wr (w3.alloc (.cells #[.slice a3 m c3] 73 (0,0))):=b3.alloc b3.size _;have hgk:=grown_keep (B:=w.heap.size) (v:=u3) hgrow;have b4:=Below.push (B:=w.heap.size) (hbr.trans (bW.mono hbr.size)) (by simp;omega) hown3 hgrow;have hT3:HTerms (fun k=>wr.heap.size≤k) w3 (.slice a3 m c3) l[i]:=by
    have h9:=HMM.out;subst h9;exact ⟨C,hs3,HC.out⟩
   have hown5:w4.ownsRow w.heap.size 73 1 v4 (i+1) (flat (fun q=>if q=i then [.slice a3 m c3] else D q) (i+1)):=by
    have e:flat (fun q=>if q=i then [Value.slice a3 m c3] else D q) (i+1)=flat D i++[.slice a3 m c3]:=by
     rw [flat,flat_congr (D:=D) i (fun q hq=>by rw [if_neg (by omega)])];simp
    rw [e];exact hown4
   have hnewT:HTerms (Off w.heap.size v4) w4 (.slice a3 m c3) l[i]:=by
    have g1:=(hT3.wide (ok':=fun k=>Off w.heap.size u3 k∧k<w3.heap.size) (fun k hk hl=>⟨Off.new hown nR hbr.size hk,hl⟩)).under ((Below.refl _ w3).alloc nR (.cells #[.slice a3 m c3] 73 (0,0)));have g2:=g1.keep hgrow.size (fun k hk hl=>hgk k hk.1 hl);exact g2.wide (fun k hk _=>Off.moved hmv' hk.1 (by simp;omega))
   have holdT:Hid (∀ j (h:j<l.length),j<i→∃ u,D j=[u]∧HTerms (Off w.heap.size v4) w4 u l[j]):=fun j hj hji=>by
    obtain ⟨u,hu,hT⟩:=H.out j hj hji;refine ⟨u,hu,?_⟩;have g1:=(hT.wide (ok':=fun k=>Off w.heap.size u3 k∧k<wr.heap.size) (fun k hk hl=>⟨hk,hl⟩)).under bW;have g2:=g1.keep hgrow.size (fun k hk hl=>hgk k hk.1 hl);exact g2.wide (fun k hk _=>Off.moved hmv' hk.1 (by simp;omega))
   clear hown4 hgrow hmv hown3 hs3 hT3 H hgk;go_wp2;go_roundg (n-(i+1))
   case measure=>omega
   case rel=>
    refine ⟨i+1,_,by omega,rfl,by go_num,hown5,fun j hj hji=>?_,b4⟩;by_cases e:j=i
    ·subst e
     exact ⟨_,by simp,hnewT⟩
    ·obtain ⟨u,hu,hT⟩:=holdT.out j hj (by omega)
     exact ⟨u,by simp [e,hu],hT⟩
  ·have hie:i=n:=by omega
   subst hie;clear hat;have h9:=HN.out;have hs:=owns_sl hown (fun j hj=>by obtain ⟨u,hu,_⟩:=H.out j (by omega) hj;rw [hu];rfl);have hs':=hs;obtain ⟨a5,c5,rfl,_⟩:=hs';go_wp2;go_ret;refine ⟨_,_,_,rfl,⟨D,?_,fun j hj=>?_⟩,hbr⟩
   ·rw [←HN.out];exact hs
   ·obtain ⟨u,hu,hT⟩:=H.out j hj (by rw [HN.out];exact hj)
    exact ⟨u,hu,hT.wide (fun k hk _=>hk.1)⟩
def FitD (l:List De):Prop:=l.length*48≤140737488355328∧∀ i (h:i<l.length),(l[i]).n.length*24≤140737488355328
theorem HTerms.set {ok:Nat→Prop} {w:World} {v:Value} {l:List Tm} (h:HTerms ok w v l) {p:Addr} (hp:¬ok p.block) (u:Value):HTerms ok (w.setCell p u) v l :=
 h.keep (by simp [World.setCell]) fun i hi hl=>Below.heap_setCell _ _ _ _ (fun e=>hp (e ▸ hi))
theorem owns_set {w:World} {base:Nat} {e:TypeId} {size:Nat} {v:Value} {n:Nat} {xs:List Value} (h:w.ownsRow base e size v n xs) {p:Addr} (hp:v.ownBlock≠some p.block) (u:Value):(w.setCell p u).ownsRow base e size v n xs :=
 h.kept (row:=some p.block) ⟨rfl,rfl,rfl,by simp [World.setCell],fun k _ hk=>Below.heap_setCell _ _ _ _ (fun e=>hk (by rw [e]))⟩ (.inr hp)
theorem size_set (w:World) (p:Addr) (u:Value):(w.setCell p u).heap.size=w.heap.size:=by simp [World.setCell]
theorem new3s (w:World) (p:Addr) (q a b c:Value) (t:TypeId):∀ j u,[a,b,c][j]?=some u→((w.setCell p q).alloc (.cells #[a,b,c] t)).cell? ((⟨w.heap.size,0,none⟩:Addr).add j)=some u:=by
 have:=new3 (w.setCell p q) a b c t;rw [size_set] at this;exact this
theorem copyDecls_any {ok:Nat→Prop} {w:World} {v:Value} {l:List De} (hl:HDes ok w v l) (hM:FitD l) :
  Calls Tryz.prog 23 #[v] w fun e w'=>∃ a n c,e=.returned (.slice a n c)∧HDes (fun i=>w.heap.size≤i) w' (.slice a n c) l∧Below w.heap.size w w':=by
 obtain ⟨i0,hi,hz0,hz1,hz2⟩:=info_parts Tryz.info86;obtain ⟨i1,hi1,hy0,hy1,hy2⟩:=info_parts Tryz.info77;obtain ⟨ao,cap,rfl,hc1,hc2,hat⟩:=hl.at;unfold maxLen at hc2;have HM:=hide hM.2;have hM1:=hM.1;obtain ⟨n,hn⟩:=nmQ (l.length);rw [←hn] at hc1 hM1 ⊢;have HN:=hide hn;clear hn hM hl;go_enter Tryz.func23,Tryz.ntmps23;go_wp2;go_loopg [3,4] n (fun k v3 v wr=>∃ (i:Nat) (D:Nat→List Value),i≤n∧k=n-i∧v=.int .i64 (i:Nat)∧wr.ownsRow w.heap.size 77 3 v3 i (flat D i)∧Hid (∀ j (h:j<l.length),j<i→∃ u,D j=[.string (l[j]).name,.int .u8 (l[j]).elem,u]∧HTerms (Off w.heap.size v3) wr u (l[j]).n)∧Below w.heap.size w wr)
 case atStart=>exact ⟨0,fun _=>[],Nat.zero_le _,rfl,rfl,World.ownsRow_nil _ _ _ _,fun j _ h=>absurd h (Nat.not_lt_zero _),Below.refl _ _⟩
 case round=>
  obtain ⟨i,D,hile,rfl,rfl,hown,H,hbr⟩:=hrel;by_cases hlt:i<n
  ·have hil:i<l.length:=by have:=HN.out;omega
   obtain ⟨b,o,au,nu,cu,rfl,hb,hc,hd,he,ht⟩:=hat i hil;have e1:=(hbr.cell (p:=⟨b,o+i*3,none⟩) hb).trans hc;have e2:=(hbr.cell (p:=⟨b,o+i*3+1,none⟩) hb).trans hd;have e3:=(hbr.cell (p:=⟨b,o+i*3+2,none⟩) hb).trans he;obtain ⟨nm,hnm0⟩:=nmQ ((l[i]).name);obtain ⟨el,hel0⟩:=nmQ ((l[i]).elem);rw [←hnm0] at e1;rw [←hel0] at e2;have HNM:=hide hnm0;have HEL:=hide hel0;obtain ⟨W1,hW1⟩:∃ W,W=wr.alloc (.cells #[.string nm,.int .u8 el,.slice au nu cu] 77 (0,0)):=⟨_,rfl⟩;have y1:=newZ hW1;have bW1:=newB hW1;have kW1:W1.heap[wr.heap.size]?=some (.cells #[.string nm,.int .u8 el,.slice au nu cu] 77 (0,0)):=(by rw [hW1];exact heap_new wr _);obtain ⟨C,hS,hC⟩:=(ht.under hbr).under bW1;have hTM:=HM.out i hil;obtain ⟨hCl,hone⟩:=terms_one hC;have hnm:((l[i]).n).length≤maxLen:=(by unfold maxLen;omega);have HC:=hide hC;clear hat hc ht hC hd he hnm0 hel0;obtain ⟨m,hm⟩:=nmQ (((l[i]).n).length);rw [←hm] at hS hCl hone hTM hnm;have HMM:=hide hm;clear hm;have zr:=hbr.size;have p2:=co kW1 2;simp at p2;rw [hW1] at hS p2;have hown1:=ownsRow_below hown bW1;have hnob:u3.ownBlock≠some wr.heap.size:=fun e=>by
    have:=World.ownsRow.lt hown _ e;omega
   go_wp2_with (first
    | (at_builtin;refine wpList_copy rfl _ _ 73 86 2 24 i0 (.agg #[.int .i64 0,.string ⟨#[]⟩]) rfl Tryz.underlying73 hi hz0 hz1 hz2 rfl (by decide) rfl rfl hS hCl hone hTM hnm nils90 ?_;intro a3 c3 w3 hs3 b3;rw [←hW1] at hs3 b3;have k3:=(aside b3 (S:=[])).keep kW1 (lt_of kW1) (by simp);have c30:=co k3 0;have c31:=co k3 1;have c32:=co k3 2;have f32:=fo k3 2;simp at c30 c31 c32;have zz3:=b3.size;have hown3:=(owns_set (p:=⟨wr.heap.size,2,none⟩) (ownsRow_below hown1 b3) hnob (.slice a3 m c3)).alloc (.cells #[.string nm,.int .u8 el,.slice a3 m c3] 77 (0,0)))
    | (at_builtin;refine wpList_push rfl _ _ 40 rfl w.heap.size 77 i1 (.agg #[.string ⟨#[]⟩,.int .u8 0,.slice none 0 0]) 3 48 Tryz.underlying40 hi1 hy0 hy1 hy2 rfl (by decide) _ _ _ rfl hown3 ⟨w3.heap.size,0,none⟩ 1 1 [.string nm,.int .u8 el,.slice a3 m c3] rfl rfl (new3s _ _ _ _ _ _ _) (by intro u hu;simp at hu;rcases hu with rfl | rfl | rfl<;>rfl) (by unfold maxLen;omega) (by omega) (by simp [World.setCell];omega) ?_;intro v4 w4 hown4 hgrow hmv))
   obtain ⟨W4,hW4⟩:∃ W,W=(w3.setCell ⟨wr.heap.size,2,none⟩ (.slice a3 m c3)).alloc (.cells #[.string nm,.int .u8 el,.slice a3 m c3] 77 (0,0)):=⟨_,rfl⟩;have y4:W4.heap.size=w3.heap.size+1:=(by rw [hW4];simp [World.setCell]);rw [←hW4] at hown3 hgrow hmv;have hmv':Moved W4 u3 v4:=hmv;have bW4:Below wr.heap.size wr W4:=by
    rw [hW4];exact ((bW1.trans (b3.mono (by omega))).setCell nR _).alloc (by rw [size_set];omega) _
   have hgk:=grown_keep (B:=w.heap.size) (v:=u3) hgrow;have b4:=Below.push (B:=w.heap.size) (hbr.trans (bW4.mono hbr.size)) (by omega) hown3 hgrow;have hT3:HTerms (fun k=>W1.heap.size≤k) w3 (.slice a3 m c3) (l[i]).n:=by
    have h9:=HMM.out;subst h9;exact ⟨C,hs3,HC.out⟩
   have hT4:HTerms (fun k=>W1.heap.size≤k) W4 (.slice a3 m c3) (l[i]).n:=by
    rw [hW4];exact (hT3.set (p:=⟨wr.heap.size,2,none⟩) (by simp;omega) _).under ((Below.refl _ _).alloc nR _)
   have hown5:w4.ownsRow w.heap.size 77 3 v4 (i+1) (flat (fun q=>if q=i then [.string nm,.int .u8 el,.slice a3 m c3] else D q) (i+1)):=by
    have e:flat (fun q=>if q=i then [Value.string nm,.int .u8 el,.slice a3 m c3] else D q) (i+1)=flat D i++[.string nm,.int .u8 el,.slice a3 m c3]:=by
     rw [flat,flat_congr (D:=D) i (fun q hq=>by rw [if_neg (by omega)])];simp
    rw [e];exact hown4
   have hnewT:HTerms (Off w.heap.size v4) w4 (.slice a3 m c3) (l[i]).n:=by
    have g1:=hT4.wide (ok':=fun k=>Off w.heap.size u3 k∧k<W4.heap.size) (fun k hk hl=>⟨Off.new hown nR hbr.size (by omega),hl⟩);have g2:=g1.keep hgrow.size (fun k hk hl=>hgk k hk.1 hl);exact g2.wide (fun k hk _=>Off.moved hmv' hk.1 hk.2)
   have holdT:Hid (∀ j (h:j<l.length),j<i→∃ u,D j=[.string (l[j]).name,.int .u8 (l[j]).elem,u]∧HTerms (Off w.heap.size v4) w4 u (l[j]).n):=fun j hj hji=>by
    obtain ⟨u,hu,hT⟩:=H.out j hj hji;refine ⟨u,hu,?_⟩;have g1:=(hT.wide (ok':=fun k=>Off w.heap.size u3 k∧k<wr.heap.size) (fun k hk hl=>⟨hk,hl⟩)).under bW4;have g2:=g1.keep hgrow.size (fun k hk hl=>hgk k hk.1 hl);exact g2.wide (fun k hk _=>Off.moved hmv' hk.1 (by omega))
   clear hown4 hgrow hmv hown3 hs3 hT3 H hgk hT4 c30 c31 c32 f32 k3 p2 hS hown1 kW1;go_wp2;go_roundg (n-(i+1))
   case measure=>omega
   case rel=>
    refine ⟨i+1,_,by omega,rfl,by go_num,hown5,fun j hj hji=>?_,b4⟩;by_cases e:j=i
    ·subst e
     exact ⟨_,by simp [HNM.out,HEL.out],hnewT⟩
    ·obtain ⟨u,hu,hT⟩:=holdT.out j hj (by omega)
     exact ⟨u,by simp [e,hu],hT⟩
  ·have hie:i=n:=by omega
   subst hie;clear hat;have h9:=HN.out;have hs:=owns_sl hown (fun j hj=>by obtain ⟨u,hu,_⟩:=H.out j (by omega) hj;rw [hu];rfl);have hs':=hs;obtain ⟨a5,c5,rfl,_⟩:=hs';go_wp2;go_ret;refine ⟨_,_,_,rfl,⟨D,?_,fun j hj=>?_⟩,hbr⟩
   ·rw [←HN.out];exact hs
   ·obtain ⟨u,hu,hT⟩:=H.out j hj (by rw [HN.out];exact hj)
    exact ⟨u,hu,hT.wide (fun k hk _=>hk.1)⟩
end Go.Proofs.YtophfbefnaelfaaGreatDoor
