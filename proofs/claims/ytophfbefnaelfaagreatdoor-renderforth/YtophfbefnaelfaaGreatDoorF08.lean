import Derived.Test.YtophfbefnaelfaaGreatDoorF07
import Derived.Test.YtophfbefnaelfaaGreatDoorF06
import Derived.Deep.Slices
import GoSem.ClaimJoined
import Derived.Deep.RegionHeld
import Derived.Deep.DeepCutAuto
set_option linter.unusedVariables false
set_option linter.unusedSimpArgs false
set_option maxHeartbeats 64000000
set_option maxRecDepth 100000
namespace Go.Proofs.YtophfbefnaelfaaGreatDoor
open Go.RowKit Go.IntWalk
def flat (C:Nat→List Value):Nat→List Value
 | 0=>[]
 | n+1=>flat C n++C n
theorem flat_len {C:Nat→List Value} {k:Nat}:∀ n,(∀ i,i<n→(C i).length=k)→(flat C n).length=n*k
 | 0,_=>by simp [flat]
 | n+1,h=>by
  rw [flat,List.length_append,flat_len n (fun i hi=>h i (by omega)),h n (by omega),Nat.succ_mul]
theorem flat_get {C:Nat→List Value} {k:Nat}:∀ n,(∀ i,i<n→(C i).length=k)→∀ i j,i<n→j<k→(flat C n)[i*k+j]?=(C i)[j]?
 | 0,_,i,j,hi,_=>absurd hi (Nat.not_lt_zero _)
 | n+1,h,i,j,hi,hj=>by
  have hl:=flat_len n (fun i hi=>h i (by omega)) (C:=C) (k:=k);rw [flat];by_cases e:i=n
  ·subst e
   rw [List.getElem?_append_right (by omega),hl]
   congr 1
   omega
  ·have hin:i<n:=by omega
   have:i*k+j<n*k:=by
    have:(i+1)*k≤n*k:=Nat.mul_le_mul_right k (by omega);rw [Nat.succ_mul] at this;omega
   rw [List.getElem?_append_left (by omega)];exact flat_get n (fun i hi=>h i (by omega)) i j hin hj
theorem flat_congr {C D:Nat→List Value}:∀ n,(∀ i,i<n→C i=D i)→flat C n=flat D n
 | 0,_=>rfl
 | n+1,h=>by rw [flat,flat,flat_congr n (fun i hi=>h i (by omega)),h n (by omega)]
theorem owns_sl {w:World} {base:Nat} {e:TypeId} {k:Nat} {v:Value} {n:Nat} {C:Nat→List Value} (h:w.ownsRow base e k v n (flat C n)) (hC:∀ i,i<n→(C i).length=k):Sl (fun i=>base≤i) k w v n C:=by
 by_cases hn:0<n
 ·obtain ⟨g,cap,hv,h1,h2,h3,h4,h5⟩:=owns_pos h hn
  refine ⟨_,cap,hv,h3,h4,fun _=>⟨g,0,rfl,h1,h2,fun i hi=>⟨hC i hi,fun j hj=>?_⟩⟩⟩;have hg:=flat_get n hC i j hi hj;have hjl:j<(C i).length:=(by rw [hC i hi];exact hj);have:=h5 (i*k+j) ((C i)[j]) (by rw [hg];exact List.getElem?_eq_getElem hjl);rw [Nat.zero_add,this,List.getElem?_eq_getElem hjl]
 ·rcases h.2 with ⟨hv,h0⟩ | ⟨g,cap,cur,hv,hb,hg,hnc,hcm,hcs,htake⟩
  ·exact ⟨none,0,by rw [hv,h0],by omega,Nat.zero_le _,fun h=>absurd h hn⟩
  ·exact ⟨_,cap,hv,hnc,hcm,fun h=>absurd h hn⟩
theorem Tryz.info86:(Tryz.prog.info? 86).map (fun i=>(i.zero,i.size,i.bytes))=some (some (.agg #[.int .i64 0,.string ⟨#[]⟩]),2,24):=by kernel_rfl
theorem Tryz.info73:(Tryz.prog.info? 73).map (fun i=>(i.zero,i.size,i.bytes))=some (some (.slice none 0 0),1,24):=by kernel_rfl
def FitS (S:List (List Tm)):Prop:=S.length*24≤140737488355328∧∀ i (h:i<S.length),(S[i]).length*24≤140737488355328
theorem run_push {P:Program} (w:World) (base:Nat) (t ty e:TypeId) (i:TypeInfo) (z:Value) (size bytes:Nat) (ht:P.underlying t=some (.slice e)) (hi:P.info? e=some i) (hz:i.zero=some z)
  (hsize:i.size=size) (hby:i.bytes=bytes) (hzs:z.cells.size=size) (hsz:0<size)
  (v:Value) (n:Nat) (xs:List Value) (hown:w.ownsRow base e size v n xs)
  (a:Addr) (m c:Nat) (news:List Value) (hl:news.length=m*size) (hnews:∀ j u,news[j]?=some u→w.cell? (a.add j)=some u) (h1:∀ u ∈ news,u.oneCell'=true)
  (h63:n+m≤maxLen) (hbytes:(n+m)*bytes≤140737488355328) (hbase:base≤w.heap.size) :
  ∃ v' w',(Builtin.append_ #[t,t] ty #[v,.slice (some a) m c]).run P w=.ok v' w'∧w'.ownsRow base e size v' (n+m) (xs++news)∧w.grownBy w' v.ownBlock∧(v'.ownBlock=v.ownBlock∨∃ k,v'.ownBlock=some k∧w.heap.size≤k):=by
 obtain ⟨v',w',hr,h2,h3,h4⟩:=run_append_own (P:=P) w base t ty e i z size bytes ht hi hz hsize hby hzs hsz v n xs hown a m c news hl hnews h1 h63 hbytes hbase;refine ⟨v',w',hr,h2,h3,?_⟩;have hcell:=@World.ownsRow.cells _ _ _ _ _ _ _ hown;rcases hown.2 with ⟨rfl,h0⟩ | ⟨g,cap,cur,rfl,hb,hg,hnc,hcm,hcs,htake⟩
 ·obtain ⟨v2,w2,hr2,h22,_⟩:=run_append_own (P:=P) w w.heap.size t ty e i z size bytes ht hi hz hsize hby hzs hsz (.slice none 0 0) n xs ⟨hown.1,.inl ⟨rfl,h0⟩⟩ a m c news hl hnews h1 h63 hbytes nR
  rw [hr] at hr2;injection hr2 with e1 e2;subst e1 e2;rcases h22.2 with ⟨rfl,_⟩ | ⟨g,cap,cur,rfl,hb,_⟩
  ·exact .inl rfl
  ·exact .inr ⟨g,rfl,hb⟩
 ·by_cases hroom:n+m≤cap
  ·subst hsize
   have hin:∀ j,j<news.length→0+n*i.size+j<cur.size:=fun j hj=>by
    have:(n+m)*i.size≤cap*i.size:=Nat.mul_le_mul_right _ hroom;rw [Nat.add_mul] at this;rw [hcs];omega
   have hr2:=run_append_room_cells (P:=P) w t ty e i ht hi g 0 n cap a m c news hl hnews h1 hroom
    (fun j hj=>by rw [co hg];have:=hin j hj;simp at this ⊢;omega) (fun j hj=>fo hg _)
   rw [hr] at hr2;injection hr2 with e1 e2;subst e1;exact .inl rfl
  ·obtain ⟨v2,w2,hr2,h22,_⟩:=run_append_arg_grows (P:=P) w t ty e i z size bytes ht hi hz hsize hby hzs hsz ⟨g,0,none⟩ n cap xs hown.1 (fun j u hu=>@hcell g rfl j u hu) a m c news hl hnews (by omega) h63 hbytes
   rw [hr] at hr2;injection hr2 with e1 e2;subst e1 e2;rcases h22.2 with ⟨rfl,hz0⟩ | ⟨g',cap',cur',rfl,hb',_⟩
   ·exfalso
    have:¬(0:Nat)<n+m:=(by omega);omega
   ·exact .inr ⟨g',rfl,hb'⟩
theorem wpList_push {w:World} {ops:Array Oper} {rest:List Oper} {o:Oper} {a:Act} {Q:Exit→Act→World→Prop} (hgd:o.guard=none) (s x:Operand) (t:TypeId)
  (ho:o.op=.call { callee:=.builtin .append,args:=#[s,x],argTypes:=#[t,t] })
  (base:Nat) (e:TypeId) (i:TypeInfo) (z:Value) (size bytes:Nat) (ht:Tryz.prog.underlying t=some (.slice e)) (hi:Tryz.prog.info? e=some i) (hz:i.zero=some z)
  (hsize:i.size=size) (hby:i.bytes=bytes) (hzs:z.cells.size=size) (hsz:0<size)
  (v:Value) (n:Nat) (xs:List Value) (hs:a.eval s=v) (hown:w.ownsRow base e size v n xs)
  (ad:Addr) (m c:Nat) (news:List Value) (hx:a.eval x=.slice (some ad) m c) (hl:news.length=m*size) (hnews:∀ j u,news[j]?=some u→w.cell? (ad.add j)=some u) (h1:∀ u ∈ news,u.oneCell'=true)
  (h63:n+m≤maxLen) (hbytes:(n+m)*bytes≤140737488355328) (hbase:base≤w.heap.size)
  (h:∀ v' w',w'.ownsRow base e size v' (n+m) (xs++news)→w.grownBy w' v.ownBlock→(v'.ownBlock=v.ownBlock∨∃ k,v'.ownBlock=some k∧w.heap.size≤k)→wpList Tryz.prog ops Q rest (a.put o.dst v') w'):wpList Tryz.prog ops Q (o :: rest) a w:=by
 obtain ⟨v',w',hr,h2,h3,h4⟩:=run_push (P:=Tryz.prog) w base t o.type e i z size bytes ht hi hz hsize hby hzs hsz v n xs hown ad m c news hl hnews h1 h63 hbytes hbase;refine wpList_plain hgd fun _ hK=>?_;unfold Oper.wp execOp;simp only [ho,resolve,invoke,builtin,Sem.run_bind,Sem.run_pure,Result.andThen_ok,List.map_toArray,List.map_cons,List.map_nil,hs,hx,hr];exact hK _ _ (h v' w' h2 h3 h4)
def Moved (W:World) (v v':Value):Prop:=v'.ownBlock=v.ownBlock∨∃ k,v'.ownBlock=some k∧W.heap.size≤k
def Off (B:Nat) (v:Value) (k:Nat):Prop:=B≤k∧some k≠v.ownBlock
theorem Off.moved {B:Nat} {W:World} {v v':Value} (h:Moved W v v') {k:Nat} (hk:Off B v k) (hl:k<W.heap.size):Off B v' k:=by
 refine ⟨hk.1,fun e=>?_⟩;rcases h with h | ⟨q,hq,hz⟩
 ·exact hk.2 (e.trans h)
 ·rw [hq] at e
  injection e with e;omega
theorem Off.new {B N:Nat} {w:World} {e:TypeId} {size:Nat} {v:Value} {n:Nat} {xs:List Value} (h:w.ownsRow B e size v n xs) (hN:w.heap.size≤N) (hB:B≤N) {k:Nat} (hk:N≤k):Off B v k:=by
 refine ⟨by omega,fun e=>?_⟩;have:=World.ownsRow.lt h k e.symm;omega
theorem grown_keep {B:Nat} {W W':World} {v:Value} (h:W.grownBy W' v.ownBlock):∀ k,Off B v k→k<W.heap.size→W'.heap[k]?=W.heap[k]?:=fun k hk hl=>h.block k hl hk.2
theorem Below.push {B:Nat} {w W W':World} {v:Value} {e:TypeId} {size n:Nat} {xs:List Value} (hb:Below B w W) (hB:B≤W.heap.size) (ho:W.ownsRow B e size v n xs) (hg:W.grownBy W' v.ownBlock):Below B w W' :=
 hb.grown hg hB (fun k hk=>(World.ownsRow.lt ho k hk).1)
theorem HTerms.set {ok:Nat→Prop} {w:World} {v:Value} {l:List Tm} (h:HTerms ok w v l) {p:Addr} (hp:¬ok p.block) (u:Value):HTerms ok (w.setCell p u) v l :=
 h.keep (by simp [World.setCell]) fun i hi hl=>Below.heap_setCell _ _ _ _ (fun e=>hp (e ▸ hi))
inductive FitX:Ex→Prop
 | mk {o k n:Int} {s:ByteArray} {S:List (List Tm)} {L:List Ex} (hS:FitS S) (hL:L.length*88≤140737488355328) (hE:∀ i (h:i<L.length),FitX L[i]):FitX (.mk o k n s S L)
def FitXs (L:List Ex):Prop:=L.length*88≤140737488355328∧∀ i (h:i<L.length),FitX L[i]
theorem FitX.parts {e:Ex} (h:FitX e):FitS e.S∧FitXs e.L:=by
 cases h with
 | mk hS hL hE=>exact ⟨hS,hL,hE⟩
theorem HEx.make {ok:Nat→Prop} {w:World} {x:ExV} {e:Ex} (h1:x.op=e.op) (h2:x.k=e.k) (h3:x.n=e.n) (h4:x.name=e.name) (hS:HSizes ok w (.slice x.aS x.nS x.cS) e.S) (hL:HExs ok w (.slice x.aL x.nL x.cL) e.L):HEx ok w x.cells e:=by
 obtain ⟨o,k,n,s,S,L⟩:=e;obtain ⟨xo,xk,xn,xs,a,b,c,d,f,g⟩:=x;simp only [Ex.op,Ex.k,Ex.n,Ex.name,Ex.S,Ex.L] at h1 h2 h3 h4 hS hL;subst h1 h2 h3 h4;obtain ⟨C,hl,hE⟩:=hL;exact .mk C hS hl hE
theorem HExs.wide {ok ok':Nat→Prop} {w:World} {v:Value} {l:List Ex} (h:HExs ok w v l) (hk:∀ i,ok i→i<w.heap.size→ok' i):HExs ok' w v l:=by
 obtain ⟨C,h1,h2⟩:=h;exact ⟨C,h1.wide hk,fun i hi=>(h2 i hi).wide hk⟩
theorem HSizes.set {ok:Nat→Prop} {w:World} {v:Value} {l:List (List Tm)} (h:HSizes ok w v l) {p:Addr} (hp:¬ok p.block) (u:Value):HSizes ok (w.setCell p u) v l :=
 h.keep (by simp [World.setCell]) fun i hi hl=>Below.heap_setCell _ _ _ _ (fun e=>hp (e ▸ hi))
theorem HExs.set {ok:Nat→Prop} {w:World} {v:Value} {l:List Ex} (h:HExs ok w v l) {p:Addr} (hp:¬ok p.block) (u:Value):HExs ok (w.setCell p u) v l :=
 h.keep (by simp [World.setCell]) fun i hi hl=>Below.heap_setCell _ _ _ _ (fun e=>hp (e ▸ hi))
theorem Tryz.info88:(Tryz.prog.info? 88).map (fun i=>(i.zero,i.size,i.bytes))=some (some (.agg #[.int .i64 0,.int .i64 0,.int .i64 0,.string ⟨#[]⟩,.slice none 0 0,.slice none 0 0]),6,88):=by kernel_rfl
end Go.Proofs.YtophfbefnaelfaaGreatDoor
namespace Go.Proofs.YtophfbefnaelfaaGreatDoor
open Go.RowKit Go.IntWalk Go.Deep
section
variable {H:Type} {enc:TypeId × Value→H} {w:World}
theorem c2:Tryz.prog.cellsOf 2=1:=by kernel_rfl
theorem c3:Tryz.prog.cellsOf 3=1:=by kernel_rfl
theorem c5:Tryz.prog.cellsOf 5=1:=by kernel_rfl
theorem c9:Tryz.prog.cellsOf 9=1:=by kernel_rfl
instance:Inhabited Tm:=⟨(0,⟨#[]⟩)⟩
instance:Inhabited De:=⟨⟨⟨#[]⟩,0,[]⟩⟩
instance:Inhabited Ex:=⟨.mk 0 0 0 ⟨#[]⟩ [] []⟩
instance:Inhabited Eqn:=⟨⟨0,[],⟨#[]⟩,[],[]⟩⟩
instance:Inhabited Nd:=⟨⟨⟨#[]⟩,0,[],[],[],[],[]⟩⟩
end
end Go.Proofs.YtophfbefnaelfaaGreatDoor
namespace Go.Proofs.YtophfbefnaelfaaGreatDoor
open Go
section
variable {P:Program} {ops:Array Oper} {Q:Exit→Act→World→Prop} {md:Region.Mode} {S:World→Prop} {late:Nat→Bool}
def wpAnyL (P:Program) (md:Region.Mode) (ops:Array Oper) (Q:Exit→Act→World→Prop) (S:World→Prop) (late:Nat→Bool):Nat→Array Bool→Act→World→Prop
 | 0,listed,a,w=>Region.ready md ops listed=[]∧Q .normal a w
 | fuel+1,listed,a,w=>
  (Region.ready md ops listed=[]→Q .normal a w) ∧
  ∀ i ∈ Region.ready md ops listed,wpOp P ops Q i (fun a' w'=>(late i=false→S w')∧wpAnyL P md ops Q S late fuel (listed.setIfInBounds i true) a' w') a w
theorem wpAny_of_late:∀ (fuel:Nat) (listed:Array Bool) (a:Act) (w:World),wpAnyL P md ops Q S late fuel listed a w→wpAny P md ops Q fuel listed a w
 | 0,_,_,_,h=>h
 | fuel+1,_,_,_,h=>⟨h.1,fun i hi=>wpOp_mono (fun a' w' h'=>wpAny_of_late fuel _ a' w' h'.2) (h.2 i hi)⟩
def waitFor (md:Region.Mode) (ops:Array Oper) (late:Nat→Bool) (listed:Array Bool) (i:Nat):Bool :=
 (List.range ops.size).all fun j => !late j || listed.getD j true || ((ops[j]?).map (·.after.any fun e=>Region.binds md e&&e.on==i)).getD true
theorem waitFor_spec {listed:Array Bool} {i:Nat} (h:waitFor md ops late listed i=true) (j:Nat) (oj:Oper) (hj:ops[j]?=some oj) (hun:listed.getD j true=false) (hl:late j=true) :
  ∃ e ∈ oj.after,Region.binds md e=true∧e.on=i:=by
 have hlt:j<ops.size:=(Array.getElem?_eq_some_iff.1 hj).1;have h1:=List.all_eq_true.1 h j (List.mem_range.2 hlt);rw [hj,hl,hun] at h1;simp only [Bool.not_true,Bool.or_false,Bool.false_or,Option.map_some,Option.getD_some] at h1;obtain ⟨e,he,h2⟩:=Array.any_eq_true'.1 h1;simp only [Bool.and_eq_true,beq_iff_eq] at h2;exact ⟨e,he,h2.1,h2.2⟩
theorem wpAnyL_first {i:Nat} {oi:Oper} {v:Value} (hi:ops[i]?=some oi) (hsel:∀ (j:Nat) (o:Oper) cs b,ops[j]?=some o→o.op≠.select cs b)
  (hQ:∀ c a w,Q (.panic c) (a.put oi.dst v) w→Q (.panic c) a w) :
  ∀ (fuel:Nat) (listed:Array Bool) (a:Act) (w:World),
   (∀ j oj,ops[j]?=some oj→j≠i→listed.getD j true=false→(∀ e ∈ oj.after,Region.binds md e=true→e.on≠i)→oi.apart ops oj=true) →
   (∀ j oj,ops[j]?=some oj→listed.getD j true=false→late j=true→∃ e ∈ oj.after,Region.binds md e=true∧e.on=i) →
   i ∈ Region.ready md ops listed→YieldsIf P ops S oi v a→S w →
   wpAnyL P md ops Q S late fuel (listed.setIfInBounds i true) (a.put oi.dst v) w→wpAnyL P md ops Q S late (fuel+1) listed a w:=by
 intro fuel
 induction fuel with
 | zero=>
  intro listed a w _ _ hr hy hS H;refine ⟨fun h=>(by rw [h] at hr;cases hr),fun j hj=>?_⟩;by_cases hji:j=i
  ·subst hji;exact hy.wpOp hi hS ⟨fun _=>hS,H⟩
  ·have:=ready_mono hj hji
   rw [H.1] at this
   cases this
 | succ fuel ih=>
  intro listed a w hfree hwait hr hy hS H;refine ⟨fun h=>(by rw [h] at hr;cases hr),fun j hj=>?_⟩;by_cases hji:j=i
  ·subst hji;exact hy.wpOp hi hS ⟨fun _=>hS,H⟩
  ·have h1:=H.2 j (ready_mono hj hji)
   obtain ⟨hjun,oj,hoj,hall⟩:=mem_ready.1 hj;have hnot:∀ e ∈ oj.after,Region.binds md e=true→e.on≠i:=fun e he hb heq=>by
    have h1:=hall e he hb;have h0:=(mem_ready.1 hr).1;rw [heq] at h1;rcases Nat.lt_or_ge i listed.size with h' | h'
    ·simp [h'] at h0 h1;rw [h0] at h1;cases h1
    ·simp [Array.getElem?_eq_none h'] at h1
   have hearly:late j=false:=by
    cases hl:late j with
    | false=>rfl
    | true=>
     obtain ⟨e,he,hb,heq⟩:=hwait j oj hoj hjun hl;exact absurd heq (hnot e he hb)
   have h2:=wpOp_putIf hoj (hfree j oj hoj hji hjun hnot) (fun cs b=>hsel i oi cs b hi) (fun cs b=>hsel j oj cs b hoj) hQ hy h1;have hfree':∀ k ok,ops[k]?=some ok→k≠i→(listed.setIfInBounds j true).getD k true=false →
     (∀ e ∈ ok.after,Region.binds md e=true→e.on≠i)→oi.apart ops ok=true:=fun k ok hk hki hun hno=>by
    refine hfree k ok hk hki ?_ hno;by_cases hjk:j=k
    ·subst hjk;exact hjun
    ·rw [getD_set_ne true hjk] at hun;exact hun
   have hwait':∀ k ok,ops[k]?=some ok→(listed.setIfInBounds j true).getD k true=false→late k=true→∃ e ∈ ok.after,Region.binds md e=true∧e.on=i:=fun k ok hk hun hl=>by
    refine hwait k ok hk ?_ hl;by_cases hjk:j=k
    ·subst hjk;exact hjun
    ·rw [getD_set_ne true hjk] at hun;exact hun
   refine wpOp_mono (fun a' w' h3=>⟨h3.2.1,ih (listed.setIfInBounds j true) a' w' hfree' hwait' (ready_mono hr (Ne.symm hji)) h3.1 (h3.2.1 hearly) ?_⟩) h2;rw [Array.setIfInBounds_comm _ _ hji];exact h3.2.2
theorem wpAnyL_take {i:Nat} {oi:Oper} {v:Value} {fuel:Nat} {listed:Array Bool} {a:Act} {w:World} (hi:ops[i]?=some oi)
  (hs:Region.noSelect ops=true) (hf:Region.free md ops listed i=true) (hr:(Region.ready md ops listed).contains i=true) (hl:waitFor md ops late listed i=true)
  (hQ:∀ c a w,Q (.panic c) (a.put oi.dst v) w→Q (.panic c) a w) (hS:S w) (hw:Region.wanted oi (yielded ops a.tmps)=true) (hy:∀ w,S w→(execOp a.eval oi).run P w=.ok (.value v) w)
  (h:wpAnyL P md ops Q S late fuel (listed.setIfInBounds i true) (a.put oi.dst v) w):wpAnyL P md ops Q S late (fuel+1) listed a w:=
 wpAnyL_first hi (Region.noSelect_spec hs) hQ fuel listed a w (Region.free_spec hi hf) (waitFor_spec hl) (by simpa using hr) (.inl ⟨hw,hy⟩) hS h
theorem wpAnyL_one {i:Nat} {o:Oper} {fuel:Nat} {listed:Array Bool} {a:Act} {w:World} (ho:ops[i]?=some o) (hr:Region.ready md ops listed=[i]) (hw:Region.wanted o (yielded ops a.tmps)=true)
  (h:∀ K':Act→World→Prop,Shut (∀ a w,(late i=false→S w)→wpAnyL P md ops Q S late fuel (listed.setIfInBounds i true) a w→K' a w)→Oper.wp P o a w K' Q):wpAnyL P md ops Q S late (fuel+1) listed a w:=by
 refine ⟨fun h0=>(by rw [hr] at h0;cases h0),fun j hj=>?_⟩;rw [hr] at hj;simp at hj;subst hj;refine wpOp_step ho (fun K' hK=>?_);rw [if_pos hw];exact h K' (fun a w hS hW=>hK a w ⟨hS,hW⟩)
theorem wpAnyL_done {listed:Array Bool} {a:Act} {w:World} (hr:Region.ready md ops listed=[]) (h:Q .normal a w) :
  ∀ fuel,wpAnyL P md ops Q S late fuel listed a w
 | 0=>⟨hr,h⟩
 | _+1=>⟨fun _=>h,by rw [hr];simp⟩
theorem wp_region_late {id:Nat} {a:Act} {w:World} (S:World→Prop) (late:Nat→Bool) (hm:P.follows .mixedOrders=true)
  (h:wpAnyL P .any ops Q S late ops.size (Array.replicate ops.size false) a w.drew):(Code.region id ops true).wp P Q a w:=
 wp_region_any hm (wpAny_of_late _ _ _ _ h)
end
end Go.Proofs.YtophfbefnaelfaaGreatDoor
namespace Go.Proofs.YtophfbefnaelfaaGreatDoor
open Go.RowKit Go.IntWalk
theorem HNames.wide {ok ok':Nat→Prop} {w:World} {v:Value} {l:List ByteArray} (h:HNames ok w v l) (hk:∀ i,ok i→i<w.heap.size→ok' i):HNames ok' w v l:=by
 obtain ⟨C,h1,h2⟩:=h;exact ⟨C,h1.wide hk,h2⟩
theorem HDes.wide {ok ok':Nat→Prop} {w:World} {v:Value} {l:List De} (h:HDes ok w v l) (hk:∀ i,ok i→i<w.heap.size→ok' i):HDes ok' w v l:=by
 obtain ⟨C,h1,h2⟩:=h;refine ⟨C,h1.wide hk,fun i hi=>?_⟩;obtain ⟨u,e,ht⟩:=h2 i hi;exact ⟨u,e,ht.wide hk⟩
theorem HNames.set {ok:Nat→Prop} {w:World} {v:Value} {l:List ByteArray} (h:HNames ok w v l) {p:Addr} (hp:¬ok p.block) (u:Value):HNames ok (w.setCell p u) v l :=
 h.keep (by simp [World.setCell]) fun i hi hl=>Below.heap_setCell _ _ _ _ (fun e=>hp (e ▸ hi))
theorem HDes.set {ok:Nat→Prop} {w:World} {v:Value} {l:List De} (h:HDes ok w v l) {p:Addr} (hp:¬ok p.block) (u:Value):HDes ok (w.setCell p u) v l :=
 h.keep (by simp [World.setCell]) fun i hi hl=>Below.heap_setCell _ _ _ _ (fun e=>hp (e ▸ hi))
theorem Tryz.infoEq:(Tryz.prog.info? 49).map (fun i=>(i.zero,i.size,i.bytes))=some (some (.agg #[.int .i64 0,.slice none 0 0,.string ⟨#[]⟩,.slice none 0 0,.slice none 0 0]),5,96):=by kernel_rfl
theorem Tryz.info43:(Tryz.prog.info? 43).map (fun i=>(i.zero,i.size,i.bytes))=some (some (.agg #[.string ⟨#[]⟩,.int .i64 0,.slice none 0 0,.slice none 0 0,.slice none 0 0,.slice none 0 0,.slice none 0 0]),7,144):=by kernel_rfl
theorem HEq.wide {ok ok':Nat→Prop} {w:World} {x:EqV} {q:Eqn} (h:HEq ok w x q) (hk:∀ i,ok i→i<w.heap.size→ok' i):HEq ok' w x q :=
 ⟨h.place,h.names.wide hk,h.node,h.S.wide hk,h.E.wide hk⟩
theorem HEqs.wide {ok ok':Nat→Prop} {w:World} {v:Value} {l:List Eqn} (h:HEqs ok w v l) (hk:∀ i,ok i→i<w.heap.size→ok' i):HEqs ok' w v l:=by
 obtain ⟨C,h1,h2⟩:=h;refine ⟨C,h1.wide hk,fun i hi=>?_⟩;obtain ⟨x,e,hx⟩:=h2 i hi;exact ⟨x,e,hx.wide hk⟩
theorem HEqs.set {ok:Nat→Prop} {w:World} {v:Value} {l:List Eqn} (h:HEqs ok w v l) {p:Addr} (hp:¬ok p.block) (u:Value):HEqs ok (w.setCell p u) v l :=
 h.keep (by simp [World.setCell]) fun i hi hl=>Below.heap_setCell _ _ _ _ (fun e=>hp (e ▸ hi))
theorem HNd.wide {ok ok':Nat→Prop} {w:World} {x:NdV} {n:Nd} (h:HNd ok w x n) (hk:∀ i,ok i→i<w.heap.size→ok' i):HNd ok' w x n :=
 ⟨h.name,h.place,h.sizes.wide hk,h.inn.wide hk,h.out.wide hk,h.loc.wide hk,h.eqs.wide hk⟩
theorem HNd.set {ok:Nat→Prop} {w:World} {x:NdV} {n:Nd} (h:HNd ok w x n) {p:Addr} (hp:¬ok p.block) (u:Value):HNd ok (w.setCell p u) x n :=
 h.keep (by simp [World.setCell]) fun i hi hl=>Below.heap_setCell _ _ _ _ (fun e=>hp (e ▸ hi))
end Go.Proofs.YtophfbefnaelfaaGreatDoor
