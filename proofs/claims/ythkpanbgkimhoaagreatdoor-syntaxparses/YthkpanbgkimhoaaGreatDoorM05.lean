import Derived.Test.YthkpanbgkimhoaaGreatDoorM04
import Derived.Deep.Slices
import GoSem.ClaimJoined
import Derived.Deep.RegionHeld
import Derived.Deep.DeepCutAuto
import Derived.Test.YthkpanbgkimhoaaGreatDoorM02
set_option linter.unusedVariables false
set_option linter.unusedSimpArgs false
set_option maxHeartbeats 64000000
set_option maxRecDepth 100000
namespace Go.Proofs.YthkpanbgkimhoaaGreatDoor
open Go.RowKit Go.IntWalk
theorem tokG0 (a p n:Int) (x:ByteArray) (w:World):(Instr.field 71 (.agg #[.int .i64 a,.int .i64 p,.string x,.int .i64 n]) 0).run Tryz.prog w=.ok (.int .i64 a) w:=by kernel_rfl
theorem tokG1 (a p n:Int) (x:ByteArray) (w:World):(Instr.field 71 (.agg #[.int .i64 a,.int .i64 p,.string x,.int .i64 n]) 1).run Tryz.prog w=.ok (.int .i64 p) w:=by kernel_rfl
theorem new1 (w:World) (a:Value) (t:TypeId):∀ j u,[a][j]?=some u→(w.alloc (.cells #[a] t)).cell? ((⟨w.heap.size,0,none⟩:Addr).add j)=some u:=by
 intro j u hj
 match j,hj with
 | 0,hj=>simp at hj;subst hj;simp [Addr.add]
theorem Tryz.info9:(Tryz.prog.info? 9).map (fun i=>(i.zero,i.size,i.bytes))=some (some (.string ⟨#[]⟩),1,16):=by kernel_rfl
theorem rowName_one {w:World} {b g cap:Nat} {L:List Tk.Tok} {len nx op:Nat} (h:Rd w b g cap L len nx op) (hk:(peekT L len nx).kind=2) (hn:nx<L.length) (hc:((peekT L len (nx+1)).text==[44])=false) (mx:Int) (hmx:0<mx) :
  Calls Tryz.prog 81 #[.pointer (some ⟨b,0,none⟩),.int .i64 mx,.func (.func 79) #[.pointer (some ⟨b,0,none⟩)] #[]] w fun e w'=>
   ∃ ao c,e=.returned (.slice ao 1 c)∧Rd w' b g cap L len (nx+1) op∧Aside [b] w.heap.size w w':=by
 obtain ⟨i0,hi,hz0,hz1,hz2⟩:=info_parts Tryz.info9;go_enter Tryz.func81,Tryz.ntmps81;go_wp2;go_loopg [7] 0 (fun q v wr=>v=.slice none 0 0∧wr=w)
 case atStart=>exact ⟨rfl,rfl⟩
 case round=>
  obtain ⟨rfl,rfl⟩:=hrel;go_wp2_with fail;refine (qF _ 0 mx (by omega) _).mono ?_;rintro e w1 ⟨rfl,rfl⟩;go_wp2_with fail;refine (zBu h hk hn).mono ?_;rintro e w2 ⟨rfl,h2,a2⟩
  go_wp2_with (at_builtin;refine wpList_append_own _ rfl _ _ 35 rfl w2.heap.size 9 i0 (.string ⟨#[]⟩) 1 16 Tryz.underlying35 hi hz0 hz1 hz2 rfl (by decide) _ _ _ rfl (World.ownsRow_nil _ _ _ _) ⟨w2.heap.size,0,none⟩ 1 1 [.string (str (peekT L len nx).text)] rfl rfl (new1 _ _ _) (by intro u hu;simp at hu;rcases hu with rfl;rfl) (by unfold maxLen;omega) (by omega) (by simp) ?_;intro v3 w3 hown hgrow _)
  have b3:Below w2.heap.size w2 w3:=((Below.refl _ w2).alloc nR _).grown hgrow (by simp) (fun k hk=>by cases hk);obtain ⟨gg,cc,rfl,_,_,_,_,_⟩:=zAe hown (by omega);clear hgrow hown;refine (jQ (h2.below b3) _ hc).mono ?_;rintro e w4 ⟨rfl,b4⟩;go_wp2;go_ret;exact ⟨_,_,rfl,(h2.below b3).below b4,(a2.trans (aside b3) a2.size).trans (aside b4) (Nat.le_trans a2.size b3.size)⟩
theorem equation_one {w:World} {b g cap:Nat} {L:List Tk.Tok} {len nx op n1:Nat} {e:Ex} (h:Rd w b g cap L len nx op) (hk:(peekT L len nx).kind=2) (hn:nx+1<L.length) (hc:((peekT L len (nx+1)).text==[44])=false)
  (hq:((peekT L len (nx+1)).text==[61])=true) (hcall:((peekT L len (nx+2)).text==[99,97,108,108])=false) (hG:Gives 102 b g cap L len op (nx+2) n1 e) :
  Calls Tryz.prog 95 #[.pointer (some ⟨b,0,none⟩)] w fun r w'=>∃ (p:Int) (ao:Option Addr) (c bk:Nat) (y:ExV),
   r=.returned (.agg #[.int .i64 p,.slice ao 1 c,.string ⟨#[]⟩,.slice none 0 0,.slice (some ⟨bk,0,none⟩) 1 1])∧w.heap.size≤bk ∧
   w'.heap[bk]?=some (.cells (exC y) 45 (0,0))∧HEx (fun i=>w.heap.size≤i) w' y.cells e∧Rd w' b g cap L len n1 op∧Aside [b] w.heap.size w w':=by
 have hb:=h.bb;have hg:=h.gb;have hf:=tokG1;have hmf:=vM;go_enter Tryz.func95,Tryz.ntmps95;go_wp2_with fail;refine (xH (h.alloc _)).mono ?_;unfold tokV;rintro r w1 ⟨rfl,b1⟩;have h1:=(h.alloc _).below b1;have z1:w.heap.size+1≤w1.heap.size:=(by simpa using b1.size);have hA1:=(aside b1 (S:=[])).keep (zF w _) (by simp) (by simp);have A1:=((Aside.refl (S:=[b]) (B:=w.heap.size) w).alloc nR _).trans (aside b1) (by simp);clear b1;go_wp2_with fail;refine (rowName_one (h1.alloc _) hk (by omega) hc 30 (by decide)).mono ?_;rintro r w2 ⟨ao,c,rfl,h2,a2⟩;have z2:w1.heap.size+1≤w2.heap.size:=(by simpa using a2.size);have hA2:=a2.keep (kA hA1 _) (by simp;omega) (by simp;omega);have hB2:=a2.keep (zF w1 _) (by simp) (by simp;omega);have A2:=(A1.alloc (by omega) _).trans a2 (by simp;omega);have cB1:=co hB2 1;have fB1:=fo hB2 1;simp at cB1;clear a2 hA1 A1;go_wp2_with fail;refine (qZ (h2.set (by simp;omega) (by simp;omega) _) ⟨#[61]⟩ hq (by omega)).mono ?_;rintro r w3 ⟨rfl,h3,a3⟩;have z3:w2.heap.size≤w3.heap.size:=(by simpa [World.setCell] using a3.size);have hA3:=a3.keep (zK hA2 (by simp;omega) _) (by simp [World.setCell];omega) (by simp;omega);have hB3:=a3.keep (zJ hB2 1 _) (by simp [World.setCell];omega) (by simp;omega);have A3:=(A2.set (p:=⟨w1.heap.size,1,none⟩) (by simp;omega) _).trans a3 (by simp [World.setCell];omega);simp at hB3;have cB31:=co hB3 1;simp at cB31;clear a3 hA2 A2 hB2 cB1 fB1;go_wp2_with fail;refine (jJ h3 ⟨#[99,97,108,108]⟩).mono ?_;rintro r w4 ⟨rfl,b4⟩;rw [hcall];have h4:=h3.below b4;have z4:=b4.size;have hA4:=(aside b4 (S:=[])).keep hA3 (zC hA3) (by simp);have hB4:=(aside b4 (S:=[])).keep hB3 (zC hB3) (by simp);have A4:=A3.trans (aside b4) (by omega);clear b4 hA3 hB3 A3 cB31;go_wp2_with fail;refine (hG.2 _ h4).mono ?_;rintro r w5 ⟨y,rfl,he5,h5,a5⟩;have z5:=a5.size;have hA5:=a5.keep hA4 (zC hA4) (by simp;omega);have hB5:=a5.keep hB4 (zC hB4) (by simp;omega);have A5:=A4.trans a5 (by omega);have he5':=(he5.wide (ok':=fun i=>w1.heap.size<i) (fun i hi hl=>by omega)).under ((Below.refl _ w5).alloc nR (.cells (exC y) 45 (0,0)));clear a5 hA4 hB4 A4 he5;obtain ⟨o5,ho5⟩:∃ o5:Obj,o5=.cells (exC y) 45 (0,0):=⟨_,rfl⟩;have hA6:=kA hA5 (.cells (exC y) 45 (0,0));have hB6:=kA hB5 (.cells (exC y) 45 (0,0));have cB4:=co hB6 4;have fB:=fun o=>fo hB6 o;have fA:=fun o=>fo hA6 o;have cb0:=co hB6 0;have cb1:=co hB6 1;have cb2:=co hB6 2;have cb3:=co hB6 3;have cb4:=co hB6 4;have ca0:=co hA6 0;have ca1:=co hA6 1;have ca2:=co hA6 2;have ca3:=co hA6 3;have ca4:=co hA6 4;clear ho5 o5;simp at cB4 cb0 cb1 cb2 cb3 cb4 ca0 ca1 ca2 ca3 ca4;go_wp2;have hE:=zK (zK (zK (zK (zK (zK (zF w5 (.cells (exC y) 45 (0,0))) (p:=⟨w1.heap.size,4,none⟩) (by simp;omega) (.slice (some ⟨w5.heap.size,0,none⟩) 1 1)) (p:=⟨w.heap.size,0,none⟩) (by simp;omega) (.int .i64 ((peekT L len nx).place:Int))) (p:=⟨w.heap.size,1,none⟩) (by simp;omega) (.slice ao 1 c)) (p:=⟨w.heap.size,2,none⟩) (by simp;omega) (.string ⟨#[]⟩)) (p:=⟨w.heap.size,3,none⟩) (by simp;omega) (.slice none 0 0)) (p:=⟨w.heap.size,4,none⟩) (by simp;omega) (.slice (some ⟨w5.heap.size,0,none⟩) 1 1);refine bodyPost_ret (v:=.agg #[.int .i64 ((peekT L len nx).place:Int),.slice ao 1 c,.string ⟨#[]⟩,.slice none 0 0,.slice (some ⟨w5.heap.size,0,none⟩) 1 1]) (by simp [results,Tryz.results95,go_sem,ca0,ca1,ca2,ca3,ca4]) rfl ⟨_,ao,c,w5.heap.size,y,rfl,by omega,hE,?_,?_,?_⟩
 ·exact ((((((he5'.set (by simp) _).set (by simp;omega) _).set (by simp;omega) _).set (by simp;omega) _).set (by simp;omega) _).set (by simp;omega) _).wide (fun i hi _=>by omega)
 ·exact ((((((h5.alloc _).set (by simp;omega) (by simp;omega) _).set (by simp;omega) (by simp;omega) _).set (by simp;omega) (by simp;omega) _).set (by simp;omega) (by simp;omega) _).set (by simp;omega) (by simp;omega) _).set (by simp;omega) (by simp;omega) _
 ·exact ((((((A5.alloc (by omega) _).set (by simp;omega) _).set (by simp) _).set (by simp) _).set (by simp) _).set (by simp) _).set (by simp) _
def flat (C:Nat→List Value):Nat→List Value
 | 0=>[]
 | n+1=>flat C n++C n
theorem zDh {C:Nat→List Value} {k:Nat}:∀ n,(∀ i,i<n→(C i).length=k)→(flat C n).length=n*k
 | 0,_=>by simp [flat]
 | n+1,h=>by
  rw [flat,List.length_append,zDh n (fun i hi=>h i (by omega)),h n (by omega),Nat.succ_mul]
theorem flat_get {C:Nat→List Value} {k:Nat}:∀ n,(∀ i,i<n→(C i).length=k)→∀ i j,i<n→j<k→(flat C n)[i*k+j]?=(C i)[j]?
 | 0,_,i,j,hi,_=>absurd hi (Nat.not_lt_zero _)
 | n+1,h,i,j,hi,hj=>by
  have hl:=zDh n (fun i hi=>h i (by omega)) (C:=C) (k:=k);rw [flat];by_cases e:i=n
  ·subst e
   rw [List.getElem?_append_right (by omega),hl]
   congr 1
   omega
  ·have hin:i<n:=by omega
   have:i*k+j<n*k:=by
    have:(i+1)*k≤n*k:=Nat.mul_le_mul_right k (by omega);rw [Nat.succ_mul] at this;omega
   rw [List.getElem?_append_left (by omega)];exact flat_get n (fun i hi=>h i (by omega)) i j hin hj
theorem zAK {C D:Nat→List Value}:∀ n,(∀ i,i<n→C i=D i)→flat C n=flat D n
 | 0,_=>rfl
 | n+1,h=>by rw [flat,flat,zAK n (fun i hi=>h i (by omega)),h n (by omega)]
theorem owns_sl {w:World} {base:Nat} {e:TypeId} {k:Nat} {v:Value} {n:Nat} {C:Nat→List Value} (h:w.ownsRow base e k v n (flat C n)) (hC:∀ i,i<n→(C i).length=k):Sl (fun i=>base≤i) k w v n C:=by
 by_cases hn:0<n
 ·obtain ⟨g,cap,hv,h1,h2,h3,h4,h5⟩:=zAe h hn
  refine ⟨_,cap,hv,h3,h4,fun _=>⟨g,0,rfl,h1,h2,fun i hi=>⟨hC i hi,fun j hj=>?_⟩⟩⟩;have hg:=flat_get n hC i j hi hj;have hjl:j<(C i).length:=(by rw [hC i hi];exact hj);have:=h5 (i*k+j) ((C i)[j]) (by rw [hg];exact List.getElem?_eq_getElem hjl);rw [Nat.zero_add,this,List.getElem?_eq_getElem hjl]
 ·rcases h.2 with ⟨hv,h0⟩ | ⟨g,cap,cur,hv,hb,hg,hnc,hcm,hcs,htake⟩
  ·exact ⟨none,0,by rw [hv,h0],by omega,Nat.zero_le _,fun h=>absurd h hn⟩
  ·exact ⟨_,cap,hv,hnc,hcm,fun h=>absurd h hn⟩
theorem Tryz.info99:(Tryz.prog.info? 99).map (fun i=>(i.zero,i.size,i.bytes))=some (some (.agg #[.int .i64 0,.string ⟨#[]⟩]),2,24):=by kernel_rfl
theorem Tryz.info90:(Tryz.prog.info? 90).map (fun i=>(i.zero,i.size,i.bytes))=some (some (.slice none 0 0),1,24):=by kernel_rfl
def FitS (S:List (List Tm)):Prop:=S.length*24≤140737488355328∧∀ i (h:i<S.length),(S[i]).length*24≤140737488355328
theorem zDi {P:Program} (w:World) (base:Nat) (t ty e:TypeId) (i:TypeInfo) (z:Value) (size bytes:Nat) (ht:P.underlying t=some (.slice e)) (hi:P.info? e=some i) (hz:i.zero=some z)
  (hsize:i.size=size) (hby:i.bytes=bytes) (hzs:z.cells.size=size) (hsz:0<size)
  (v:Value) (n:Nat) (xs:List Value) (hown:w.ownsRow base e size v n xs)
  (a:Addr) (m c:Nat) (news:List Value) (hl:news.length=m*size) (hnews:∀ j u,news[j]?=some u→w.cell? (a.add j)=some u) (h1:∀ u ∈ news,u.oneCell'=true)
  (h63:n+m≤maxLen) (hbytes:(n+m)*bytes≤140737488355328) (hbase:base≤w.heap.size) :
  ∃ v' w',(Builtin.append_ #[t,t] ty #[v,.slice (some a) m c]).run P w=.ok v' w'∧w'.ownsRow base e size v' (n+m) (xs++news)∧w.grownBy w' v.ownBlock∧(v'.ownBlock=v.ownBlock∨∃ k,v'.ownBlock=some k∧w.heap.size≤k):=by
 obtain ⟨v',w',hr,h2,h3,h4⟩:=run_append_own (P:=P) w base t ty e i z size bytes ht hi hz hsize hby hzs hsz v n xs hown a m c news hl hnews h1 h63 hbytes hbase;refine ⟨v',w',hr,h2,h3,?_⟩;have hcell:=@World.ownsRow.cells _ _ _ _ _ _ _ hown;rcases hown.2 with ⟨rfl,h0⟩ | ⟨g,cap,cur,rfl,hb,hg,hnc,hcm,hcs,htake⟩
 ·obtain ⟨v2,w2,hr2,h22,_⟩:=run_append_own (P:=P) w w.heap.size t ty e i z size bytes ht hi hz hsize hby hzs hsz (.slice none 0 0) n xs ⟨hown.1,.inl ⟨rfl,h0⟩⟩ a m c news hl hnews h1 h63 hbytes nR
  rw [hr] at hr2;injection hr2 with e1 e2;subst e1 e2;rcases h22.2 with ⟨rfl,_⟩ | ⟨g,cap,cur,rfl,hb,_⟩
  ·exact .inl rfl
  ·exact .inr ⟨g,rfl,hb⟩
 ·by_cases hroom:n+m≤cap
  ·subst hsize
   have hin:∀ j,j<news.length→0+n*i.size+j<cur.size:=fun j hj=>by
    have:(n+m)*i.size≤cap*i.size:=Nat.mul_le_mul_right _ hroom;rw [Nat.add_mul] at this;rw [hcs];omega
   have hr2:=run_append_room_cells (P:=P) w t ty e i ht hi g 0 n cap a m c news hl hnews h1 hroom
    (fun j hj=>by rw [co hg];have:=hin j hj;simp at this ⊢;omega) (fun j hj=>fo hg _)
   rw [hr] at hr2;injection hr2 with e1 e2;subst e1;exact .inl rfl
  ·obtain ⟨v2,w2,hr2,h22,_⟩:=run_append_arg_grows (P:=P) w t ty e i z size bytes ht hi hz hsize hby hzs hsz ⟨g,0,none⟩ n cap xs hown.1 (fun j u hu=>@hcell g rfl j u hu) a m c news hl hnews (by omega) h63 hbytes
   rw [hr] at hr2;injection hr2 with e1 e2;subst e1 e2;rcases h22.2 with ⟨rfl,hz0⟩ | ⟨g',cap',cur',rfl,hb',_⟩
   ·exfalso
    have:¬(0:Nat)<n+m:=(by omega);omega
   ·exact .inr ⟨g',rfl,hb'⟩
theorem wpList_push {w:World} {ops:Array Oper} {rest:List Oper} {o:Oper} {a:Act} {Q:Exit→Act→World→Prop} (hgd:o.guard=none) (s x:Operand) (t:TypeId)
  (ho:o.op=.call { callee:=.builtin .append,args:=#[s,x],argTypes:=#[t,t] })
  (base:Nat) (e:TypeId) (i:TypeInfo) (z:Value) (size bytes:Nat) (ht:Tryz.prog.underlying t=some (.slice e)) (hi:Tryz.prog.info? e=some i) (hz:i.zero=some z)
  (hsize:i.size=size) (hby:i.bytes=bytes) (hzs:z.cells.size=size) (hsz:0<size)
  (v:Value) (n:Nat) (xs:List Value) (hs:a.eval s=v) (hown:w.ownsRow base e size v n xs)
  (ad:Addr) (m c:Nat) (news:List Value) (hx:a.eval x=.slice (some ad) m c) (hl:news.length=m*size) (hnews:∀ j u,news[j]?=some u→w.cell? (ad.add j)=some u) (h1:∀ u ∈ news,u.oneCell'=true)
  (h63:n+m≤maxLen) (hbytes:(n+m)*bytes≤140737488355328) (hbase:base≤w.heap.size)
  (h:∀ v' w',w'.ownsRow base e size v' (n+m) (xs++news)→w.grownBy w' v.ownBlock→(v'.ownBlock=v.ownBlock∨∃ k,v'.ownBlock=some k∧w.heap.size≤k)→wpList Tryz.prog ops Q rest (a.put o.dst v') w'):wpList Tryz.prog ops Q (o :: rest) a w:=by
 obtain ⟨v',w',hr,h2,h3,h4⟩:=zDi (P:=Tryz.prog) w base t o.type e i z size bytes ht hi hz hsize hby hzs hsz v n xs hown ad m c news hl hnews h1 h63 hbytes hbase;refine wpList_plain hgd fun _ hK=>?_;unfold Oper.wp execOp;simp only [ho,resolve,invoke,builtin,Sem.run_bind,Sem.run_pure,Result.andThen_ok,List.map_toArray,List.map_cons,List.map_nil,hs,hx,hr];exact hK _ _ (h v' w' h2 h3 h4)
def Moved (W:World) (v v':Value):Prop:=v'.ownBlock=v.ownBlock∨∃ k,v'.ownBlock=some k∧W.heap.size≤k
def Off (B:Nat) (v:Value) (k:Nat):Prop:=B≤k∧some k≠v.ownBlock
theorem Off.moved {B:Nat} {W:World} {v v':Value} (h:Moved W v v') {k:Nat} (hk:Off B v k) (hl:k<W.heap.size):Off B v' k:=by
 refine ⟨hk.1,fun e=>?_⟩;rcases h with h | ⟨q,hq,hz⟩
 ·exact hk.2 (e.trans h)
 ·rw [hq] at e
  injection e with e;omega
theorem grown_keep {B:Nat} {W W':World} {v:Value} (h:W.grownBy W' v.ownBlock):∀ k,Off B v k→k<W.heap.size→W'.heap[k]?=W.heap[k]?:=fun k hk hl=>h.block k hl hk.2
theorem Below.push {B:Nat} {w W W':World} {v:Value} {e:TypeId} {size n:Nat} {xs:List Value} (hb:Below B w W) (hB:B≤W.heap.size) (ho:W.ownsRow B e size v n xs) (hg:W.grownBy W' v.ownBlock):Below B w W' :=
 hb.grown hg hB (fun k hk=>(World.ownsRow.lt ho k hk).1)
theorem HTerms.set {ok:Nat→Prop} {w:World} {v:Value} {l:List Tm} (h:HTerms ok w v l) {p:Addr} (hp:¬ok p.block) (u:Value):HTerms ok (w.setCell p u) v l :=
 h.keep (by simp [World.setCell]) fun i hi hl=>Below.heap_setCell _ _ _ _ (fun e=>hp (e ▸ hi))
inductive FitX:Ex→Prop
 | mk {o k n:Int} {s:ByteArray} {S:List (List Tm)} {L:List Ex} (hS:FitS S) (hL:L.length*88≤140737488355328) (hE:∀ i (h:i<L.length),FitX L[i]):FitX (.mk o k n s S L)
def FitXs (L:List Ex):Prop:=L.length*88≤140737488355328∧∀ i (h:i<L.length),FitX L[i]
theorem FitX.parts {e:Ex} (h:FitX e):FitS e.S∧FitXs e.L:=by
 cases h with
 | mk hS hL hE=>exact ⟨hS,hL,hE⟩
theorem HEx.make {ok:Nat→Prop} {w:World} {x:ExV} {e:Ex} (h1:x.op=e.op) (h2:x.k=e.k) (h3:x.n=e.n) (h4:x.name=e.name) (hS:HSizes ok w (.slice x.aS x.nS x.cS) e.S) (hL:HExs ok w (.slice x.aL x.nL x.cL) e.L):HEx ok w x.cells e:=by
 obtain ⟨o,k,n,s,S,L⟩:=e;obtain ⟨xo,xk,xn,xs,a,b,c,d,f,g⟩:=x;simp only [Ex.op,Ex.k,Ex.n,Ex.name,Ex.S,Ex.L] at h1 h2 h3 h4 hS hL;subst h1 h2 h3 h4;obtain ⟨C,hl,hE⟩:=hL;exact .mk C hS hl hE
theorem HExs.wide {ok ok':Nat→Prop} {w:World} {v:Value} {l:List Ex} (h:HExs ok w v l) (hk:∀ i,ok i→i<w.heap.size→ok' i):HExs ok' w v l:=by
 obtain ⟨C,h1,h2⟩:=h;exact ⟨C,h1.wide hk,fun i hi=>(h2 i hi).wide hk⟩
theorem HSizes.set {ok:Nat→Prop} {w:World} {v:Value} {l:List (List Tm)} (h:HSizes ok w v l) {p:Addr} (hp:¬ok p.block) (u:Value):HSizes ok (w.setCell p u) v l :=
 h.keep (by simp [World.setCell]) fun i hi hl=>Below.heap_setCell _ _ _ _ (fun e=>hp (e ▸ hi))
theorem HExs.set {ok:Nat→Prop} {w:World} {v:Value} {l:List Ex} (h:HExs ok w v l) {p:Addr} (hp:¬ok p.block) (u:Value):HExs ok (w.setCell p u) v l :=
 h.keep (by simp [World.setCell]) fun i hi hl=>Below.heap_setCell _ _ _ _ (fun e=>hp (e ▸ hi))
theorem Tryz.info45:(Tryz.prog.info? 45).map (fun i=>(i.zero,i.size,i.bytes))=some (some (.agg #[.int .i64 0,.int .i64 0,.int .i64 0,.string ⟨#[]⟩,.slice none 0 0,.slice none 0 0]),6,88):=by kernel_rfl
end Go.Proofs.YthkpanbgkimhoaaGreatDoor
namespace Go.Proofs.YthkpanbgkimhoaaGreatDoor
open Go.RowKit Go.IntWalk Go.Deep
section
variable {H:Type} {enc:TypeId × Value→H} {w:World}
theorem c2:Tryz.prog.cellsOf 2=1:=by kernel_rfl
theorem c3:Tryz.prog.cellsOf 3=1:=by kernel_rfl
theorem c5:Tryz.prog.cellsOf 5=1:=by kernel_rfl
theorem c9:Tryz.prog.cellsOf 9=1:=by kernel_rfl
instance:Inhabited Tm:=⟨(0,⟨#[]⟩)⟩
instance:Inhabited De:=⟨⟨⟨#[]⟩,0,[]⟩⟩
instance:Inhabited Ex:=⟨.mk 0 0 0 ⟨#[]⟩ [] []⟩
instance:Inhabited Eqn:=⟨⟨0,[],⟨#[]⟩,[],[]⟩⟩
instance:Inhabited Nd:=⟨⟨⟨#[]⟩,0,[],[],[],[],[]⟩⟩
end
end Go.Proofs.YthkpanbgkimhoaaGreatDoor
namespace Go.Proofs.YthkpanbgkimhoaaGreatDoor
open Go
section
variable {P:Program} {ops:Array Oper} {Q:Exit→Act→World→Prop} {md:Region.Mode} {S:World→Prop} {late:Nat→Bool}
def wpAnyL (P:Program) (md:Region.Mode) (ops:Array Oper) (Q:Exit→Act→World→Prop) (S:World→Prop) (late:Nat→Bool):Nat→Array Bool→Act→World→Prop
 | 0,listed,a,w=>Region.ready md ops listed=[]∧Q .normal a w
 | fuel+1,listed,a,w=>
  (Region.ready md ops listed=[]→Q .normal a w) ∧
  ∀ i ∈ Region.ready md ops listed,wpOp P ops Q i (fun a' w'=>(late i=false→S w')∧wpAnyL P md ops Q S late fuel (listed.setIfInBounds i true) a' w') a w
theorem zBe:∀ (fuel:Nat) (listed:Array Bool) (a:Act) (w:World),wpAnyL P md ops Q S late fuel listed a w→wpAny P md ops Q fuel listed a w
 | 0,_,_,_,h=>h
 | fuel+1,_,_,_,h=>⟨h.1,fun i hi=>wpOp_mono (fun a' w' h'=>zBe fuel _ a' w' h'.2) (h.2 i hi)⟩
def waitFor (md:Region.Mode) (ops:Array Oper) (late:Nat→Bool) (listed:Array Bool) (i:Nat):Bool :=
 (List.range ops.size).all fun j => !late j || listed.getD j true || ((ops[j]?).map (·.after.any fun e=>Region.binds md e&&e.on==i)).getD true
theorem waitFor_spec {listed:Array Bool} {i:Nat} (h:waitFor md ops late listed i=true) (j:Nat) (oj:Oper) (hj:ops[j]?=some oj) (hun:listed.getD j true=false) (hl:late j=true) :
  ∃ e ∈ oj.after,Region.binds md e=true∧e.on=i:=by
 have hlt:j<ops.size:=(Array.getElem?_eq_some_iff.1 hj).1;have h1:=List.all_eq_true.1 h j (List.mem_range.2 hlt);rw [hj,hl,hun] at h1;simp only [Bool.not_true,Bool.or_false,Bool.false_or,Option.map_some,Option.getD_some] at h1;obtain ⟨e,he,h2⟩:=Array.any_eq_true'.1 h1;simp only [Bool.and_eq_true,beq_iff_eq] at h2;exact ⟨e,he,h2.1,h2.2⟩
theorem wpAnyL_first {i:Nat} {oi:Oper} {v:Value} (hi:ops[i]?=some oi) (hsel:∀ (j:Nat) (o:Oper) cs b,ops[j]?=some o→o.op≠.select cs b)
  (hQ:∀ c a w,Q (.panic c) (a.put oi.dst v) w→Q (.panic c) a w) :
  ∀ (fuel:Nat) (listed:Array Bool) (a:Act) (w:World),
   (∀ j oj,ops[j]?=some oj→j≠i→listed.getD j true=false→(∀ e ∈ oj.after,Region.binds md e=true→e.on≠i)→oi.apart ops oj=true) →
   (∀ j oj,ops[j]?=some oj→listed.getD j true=false→late j=true→∃ e ∈ oj.after,Region.binds md e=true∧e.on=i) →
   i ∈ Region.ready md ops listed→YieldsIf P ops S oi v a→S w →
   wpAnyL P md ops Q S late fuel (listed.setIfInBounds i true) (a.put oi.dst v) w→wpAnyL P md ops Q S late (fuel+1) listed a w:=by
 intro fuel
 induction fuel with
 | zero=>
  intro listed a w _ _ hr hy hS H;refine ⟨fun h=>(by rw [h] at hr;cases hr),fun j hj=>?_⟩;by_cases hji:j=i
  ·subst hji;exact hy.wpOp hi hS ⟨fun _=>hS,H⟩
  ·have:=ready_mono hj hji
   rw [H.1] at this
   cases this
 | succ fuel ih=>
  intro listed a w hfree hwait hr hy hS H;refine ⟨fun h=>(by rw [h] at hr;cases hr),fun j hj=>?_⟩;by_cases hji:j=i
  ·subst hji;exact hy.wpOp hi hS ⟨fun _=>hS,H⟩
  ·have h1:=H.2 j (ready_mono hj hji)
   obtain ⟨hjun,oj,hoj,hall⟩:=mem_ready.1 hj;have hnot:∀ e ∈ oj.after,Region.binds md e=true→e.on≠i:=fun e he hb heq=>by
    have h1:=hall e he hb;have h0:=(mem_ready.1 hr).1;rw [heq] at h1;rcases Nat.lt_or_ge i listed.size with h' | h'
    ·simp [h'] at h0 h1;rw [h0] at h1;cases h1
    ·simp [Array.getElem?_eq_none h'] at h1
   have hearly:late j=false:=by
    cases hl:late j with
    | false=>rfl
    | true=>
     obtain ⟨e,he,hb,heq⟩:=hwait j oj hoj hjun hl;exact absurd heq (hnot e he hb)
   have h2:=wpOp_putIf hoj (hfree j oj hoj hji hjun hnot) (fun cs b=>hsel i oi cs b hi) (fun cs b=>hsel j oj cs b hoj) hQ hy h1;have hfree':∀ k ok,ops[k]?=some ok→k≠i→(listed.setIfInBounds j true).getD k true=false →
     (∀ e ∈ ok.after,Region.binds md e=true→e.on≠i)→oi.apart ops ok=true:=fun k ok hk hki hun hno=>by
    refine hfree k ok hk hki ?_ hno;by_cases hjk:j=k
    ·subst hjk;exact hjun
    ·rw [getD_set_ne true hjk] at hun;exact hun
   have hwait':∀ k ok,ops[k]?=some ok→(listed.setIfInBounds j true).getD k true=false→late k=true→∃ e ∈ ok.after,Region.binds md e=true∧e.on=i:=fun k ok hk hun hl=>by
    refine hwait k ok hk ?_ hl;by_cases hjk:j=k
    ·subst hjk;exact hjun
    ·rw [getD_set_ne true hjk] at hun;exact hun
   refine wpOp_mono (fun a' w' h3=>⟨h3.2.1,ih (listed.setIfInBounds j true) a' w' hfree' hwait' (ready_mono hr (Ne.symm hji)) h3.1 (h3.2.1 hearly) ?_⟩) h2;rw [Array.setIfInBounds_comm _ _ hji];exact h3.2.2
theorem zE {i:Nat} {oi:Oper} {v:Value} {fuel:Nat} {listed:Array Bool} {a:Act} {w:World} (hi:ops[i]?=some oi)
  (hs:Region.noSelect ops=true) (hf:Region.free md ops listed i=true) (hr:(Region.ready md ops listed).contains i=true) (hl:waitFor md ops late listed i=true)
  (hQ:∀ c a w,Q (.panic c) (a.put oi.dst v) w→Q (.panic c) a w) (hS:S w) (hw:Region.wanted oi (yielded ops a.tmps)=true) (hy:∀ w,S w→(execOp a.eval oi).run P w=.ok (.value v) w)
  (h:wpAnyL P md ops Q S late fuel (listed.setIfInBounds i true) (a.put oi.dst v) w):wpAnyL P md ops Q S late (fuel+1) listed a w:=
 wpAnyL_first hi (Region.noSelect_spec hs) hQ fuel listed a w (Region.free_spec hi hf) (waitFor_spec hl) (by simpa using hr) (.inl ⟨hw,hy⟩) hS h
theorem zG {i:Nat} {o:Oper} {fuel:Nat} {listed:Array Bool} {a:Act} {w:World} (ho:ops[i]?=some o) (hr:Region.ready md ops listed=[i]) (hw:Region.wanted o (yielded ops a.tmps)=true)
  (h:∀ K':Act→World→Prop,Shut (∀ a w,(late i=false→S w)→wpAnyL P md ops Q S late fuel (listed.setIfInBounds i true) a w→K' a w)→Oper.wp P o a w K' Q):wpAnyL P md ops Q S late (fuel+1) listed a w:=by
 refine ⟨fun h0=>(by rw [hr] at h0;cases h0),fun j hj=>?_⟩;rw [hr] at hj;simp at hj;subst hj;refine wpOp_step ho (fun K' hK=>?_);rw [if_pos hw];exact h K' (fun a w hS hW=>hK a w ⟨hS,hW⟩)
theorem zR {listed:Array Bool} {a:Act} {w:World} (hr:Region.ready md ops listed=[]) (h:Q .normal a w) :
  ∀ fuel,wpAnyL P md ops Q S late fuel listed a w
 | 0=>⟨hr,h⟩
 | _+1=>⟨fun _=>h,by rw [hr];simp⟩
theorem zL {id:Nat} {a:Act} {w:World} (S:World→Prop) (late:Nat→Bool) (hm:P.follows .mixedOrders=true)
  (h:wpAnyL P .any ops Q S late ops.size (Array.replicate ops.size false) a w.drew):(Code.region id ops true).wp P Q a w:=
 wp_region_any hm (zBe _ _ _ _ h)
end
end Go.Proofs.YthkpanbgkimhoaaGreatDoor
namespace Go.Proofs.YthkpanbgkimhoaaGreatDoor
open Go.RowKit Go.IntWalk
theorem HNames.wide {ok ok':Nat→Prop} {w:World} {v:Value} {l:List ByteArray} (h:HNames ok w v l) (hk:∀ i,ok i→i<w.heap.size→ok' i):HNames ok' w v l:=by
 obtain ⟨C,h1,h2⟩:=h;exact ⟨C,h1.wide hk,h2⟩
theorem HDes.wide {ok ok':Nat→Prop} {w:World} {v:Value} {l:List De} (h:HDes ok w v l) (hk:∀ i,ok i→i<w.heap.size→ok' i):HDes ok' w v l:=by
 obtain ⟨C,h1,h2⟩:=h;refine ⟨C,h1.wide hk,fun i hi=>?_⟩;obtain ⟨u,e,ht⟩:=h2 i hi;exact ⟨u,e,ht.wide hk⟩
theorem HNames.set {ok:Nat→Prop} {w:World} {v:Value} {l:List ByteArray} (h:HNames ok w v l) {p:Addr} (hp:¬ok p.block) (u:Value):HNames ok (w.setCell p u) v l :=
 h.keep (by simp [World.setCell]) fun i hi hl=>Below.heap_setCell _ _ _ _ (fun e=>hp (e ▸ hi))
theorem HDes.set {ok:Nat→Prop} {w:World} {v:Value} {l:List De} (h:HDes ok w v l) {p:Addr} (hp:¬ok p.block) (u:Value):HDes ok (w.setCell p u) v l :=
 h.keep (by simp [World.setCell]) fun i hi hl=>Below.heap_setCell _ _ _ _ (fun e=>hp (e ▸ hi))
theorem Tryz.infoEq:(Tryz.prog.info? 43).map (fun i=>(i.zero,i.size,i.bytes))=some (some (.agg #[.int .i64 0,.slice none 0 0,.string ⟨#[]⟩,.slice none 0 0,.slice none 0 0]),5,96):=by kernel_rfl
theorem Tryz.info39:(Tryz.prog.info? 39).map (fun i=>(i.zero,i.size,i.bytes))=some (some (.agg #[.string ⟨#[]⟩,.int .i64 0,.slice none 0 0,.slice none 0 0,.slice none 0 0,.slice none 0 0,.slice none 0 0]),7,144):=by kernel_rfl
theorem HEq.wide {ok ok':Nat→Prop} {w:World} {x:EqV} {q:Eqn} (h:HEq ok w x q) (hk:∀ i,ok i→i<w.heap.size→ok' i):HEq ok' w x q :=
 ⟨h.place,h.names.wide hk,h.node,h.S.wide hk,h.E.wide hk⟩
theorem HEqs.wide {ok ok':Nat→Prop} {w:World} {v:Value} {l:List Eqn} (h:HEqs ok w v l) (hk:∀ i,ok i→i<w.heap.size→ok' i):HEqs ok' w v l:=by
 obtain ⟨C,h1,h2⟩:=h;refine ⟨C,h1.wide hk,fun i hi=>?_⟩;obtain ⟨x,e,hx⟩:=h2 i hi;exact ⟨x,e,hx.wide hk⟩
theorem HEqs.set {ok:Nat→Prop} {w:World} {v:Value} {l:List Eqn} (h:HEqs ok w v l) {p:Addr} (hp:¬ok p.block) (u:Value):HEqs ok (w.setCell p u) v l :=
 h.keep (by simp [World.setCell]) fun i hi hl=>Below.heap_setCell _ _ _ _ (fun e=>hp (e ▸ hi))
theorem HNd.wide {ok ok':Nat→Prop} {w:World} {x:NdV} {n:Nd} (h:HNd ok w x n) (hk:∀ i,ok i→i<w.heap.size→ok' i):HNd ok' w x n :=
 ⟨h.name,h.place,h.sizes.wide hk,h.inn.wide hk,h.out.wide hk,h.loc.wide hk,h.eqs.wide hk⟩
theorem HNd.set {ok:Nat→Prop} {w:World} {x:NdV} {n:Nd} (h:HNd ok w x n) {p:Addr} (hp:¬ok p.block) (u:Value):HNd ok (w.setCell p u) x n :=
 h.keep (by simp [World.setCell]) fun i hi hl=>Below.heap_setCell _ _ _ _ (fun e=>hp (e ▸ hi))
structure Kind (α:Type) where
 ty:TypeId
 k:Nat
 bytes:Nat
 zero:Value
 E:(Nat→Prop)→World→List Value→α→Prop
 pos:0<k
 zs:zero.cells.size=k
 info:(Tryz.prog.info? ty).map (fun i=>(i.zero,i.size,i.bytes))=some (some zero,k,bytes)
 len:∀ {ok w cs a},E ok w cs a→cs.length=k
 one:∀ {ok w cs a},E ok w cs a→∀ u ∈ cs,u.oneCell'=true
 keep:∀ {ok w w' cs a},E ok w cs a→w.heap.size≤w'.heap.size→(∀ i,ok i→i<w.heap.size→w'.heap[i]?=w.heap[i]?)→E ok w' cs a
 wide:∀ {ok ok' w cs a},E ok w cs a→(∀ i,ok i→i<w.heap.size→ok' i)→E ok' w cs a
def OwnL {α:Type} (T:Kind α) (B:Nat) (w:World) (v:Value) (l:List α):Prop :=
 ∃ D,w.ownsRow B T.ty T.k v l.length (flat D l.length)∧∀ j (h:j<l.length),T.E (Off B v) w (D j) l[j]
def HRow {α:Type} (T:Kind α) (ok:Nat→Prop) (w:World) (v:Value) (l:List α):Prop :=
 ∃ C,Sl ok T.k w v l.length C∧∀ j (h:j<l.length),T.E ok w (C j) l[j]
theorem OwnL.nil {α:Type} {T:Kind α} {B:Nat} {w:World}:OwnL T B w (.slice none 0 0) [] :=
 ⟨fun _=>[],World.ownsRow_nil _ _ _ _,fun j h=>absurd h (Nat.not_lt_zero _)⟩
theorem OwnL.lt {α:Type} {T:Kind α} {B:Nat} {w:World} {v:Value} {l:List α} (h:OwnL T B w v l):∀ k,v.ownBlock=some k→B≤k∧k<w.heap.size:=by
 obtain ⟨D,h1,h2⟩:=h;exact fun k hk=>World.ownsRow.lt h1 k hk
theorem OwnL.form {α:Type} {T:Kind α} {B:Nat} {w:World} {v:Value} {l:List α} (h:OwnL T B w v l):∃ a c,v=.slice a l.length c∧l.length≤c∧c≤maxLen:=by
 obtain ⟨D,h1,h2⟩:=h;rcases h1.2 with ⟨rfl,h0⟩ | ⟨g,cap,cur,rfl,hb,hg,hnc,hcm,_⟩
 ·exact ⟨none,0,by rw [h0],by omega,by unfold maxLen;omega⟩
 ·exact ⟨_,_,rfl,hnc,hcm⟩
theorem OwnL.keep {α:Type} {T:Kind α} {B:Nat} {w w':World} {v:Value} {l:List α} (h:OwnL T B w v l) (hs:w.heap.size≤w'.heap.size) (hk:∀ i,B≤i→i<w.heap.size→w'.heap[i]?=w.heap[i]?):OwnL T B w' v l:=by
 obtain ⟨D,h1,h2⟩:=h;refine ⟨D,⟨h1.1,?_⟩,fun j hj=>T.keep (h2 j hj) hs fun i hi hl=>hk i hi.1 hl⟩;rcases h1.2 with h0 | ⟨g,cap,cur,hv,hb,hg,hr⟩
 ·exact .inl h0
 ·exact .inr ⟨g,cap,cur,hv,hb,(hk g hb (zC hg)).trans hg,hr⟩
theorem OwnL.below {α:Type} {T:Kind α} {B:Nat} {w w':World} {v:Value} {l:List α} (h:OwnL T B w v l) (hb:Below w.heap.size w w'):OwnL T B w' v l:=h.keep hb.size fun i _ hl=>hb.block i hl
theorem OwnL.past {α:Type} {T:Kind α} {B:Nat} {S:List Nat} {w w':World} {v:Value} {l:List α} (h:OwnL T B w v l) (a:Aside S w.heap.size w w') (hS:∀ k ∈ S,k<B):OwnL T B w' v l :=
 h.keep a.size fun i hi hl=>a.block i hl fun hm=>by have:=hS i hm;omega
theorem OwnL.set {α:Type} {T:Kind α} {B:Nat} {w:World} {v:Value} {l:List α} (h:OwnL T B w v l) {p:Addr} (hp:p.block<B) (u:Value):OwnL T B (w.setCell p u) v l :=
 h.keep (by simp [World.setCell]) fun i hi hl=>Below.heap_setCell _ _ _ _ (fun e=>by omega)
theorem OwnL.row {α:Type} {T:Kind α} {B:Nat} {w:World} {v:Value} {l:List α} (h:OwnL T B w v l):HRow T (fun i=>B≤i) w v l:=by
 obtain ⟨D,h1,h2⟩:=h;exact ⟨D,owns_sl h1 (fun i hi=>T.len (h2 i hi)),fun j hj=>T.wide (h2 j hj) fun i hi _=>hi.1⟩
theorem HRow.form {α:Type} {T:Kind α} {ok:Nat→Prop} {w:World} {v:Value} {l:List α} (h:HRow T ok w v l):∃ a c,v=.slice a l.length c∧l.length≤c∧c≤maxLen:=by
 obtain ⟨C,⟨a,c,hv,h1,h2,_⟩,_⟩:=h;exact ⟨a,c,hv,h1,h2⟩
theorem HRow.keep {α:Type} {T:Kind α} {ok:Nat→Prop} {w w':World} {v:Value} {l:List α} (h:HRow T ok w v l) (hs:w.heap.size≤w'.heap.size) (hk:∀ i,ok i→i<w.heap.size→w'.heap[i]?=w.heap[i]?):HRow T ok w' v l:=by
 obtain ⟨C,h1,h2⟩:=h;exact ⟨C,h1.keep hs hk,fun j hj=>T.keep (h2 j hj) hs hk⟩
theorem HRow.wide {α:Type} {T:Kind α} {ok ok':Nat→Prop} {w:World} {v:Value} {l:List α} (h:HRow T ok w v l) (hk:∀ i,ok i→i<w.heap.size→ok' i):HRow T ok' w v l:=by
 obtain ⟨C,h1,h2⟩:=h;exact ⟨C,h1.wide hk,fun j hj=>T.wide (h2 j hj) hk⟩
theorem OwnL.lit {α:Type} {T:Kind α} {B:Nat} {w:World} {cs:List Value} {x:α} (hB:B≤w.heap.size) (h:T.E (fun i=>B≤i) w cs x):OwnL T B (w.alloc (.cells cs.toArray T.ty (0,0))) (.slice (some ⟨w.heap.size,0,none⟩) 1 1) [x]:=by
 have hl:=T.len h;refine ⟨fun _=>cs,?_,fun j hj=>?_⟩
 ·have:=World.ownsRow_lit (base:=B) (e:=T.ty) (size:=T.k) w cs.toArray 1 hB (by decide) (by simp [hl])
  simpa [flat] using this
 ·have hj0:j=0:=by simp at hj;exact hj
  subst hj0;have h1:=T.wide (ok':=fun i=>Off B (.slice (some ⟨w.heap.size,0,none⟩) 1 1) i) h fun i hi hl=>⟨hi,fun e=>by simp [Value.ownBlock] at e;omega⟩;exact T.keep h1 (by simp) fun i _ hl=>Below.heap_alloc _ _ _ hl
theorem cells_new (w:World) (cs:List Value) (t:TypeId):∀ j u,cs[j]?=some u→(w.alloc (.cells cs.toArray t (0,0))).cell? ((⟨w.heap.size,0,none⟩:Addr).add j)=some u:=by
 intro j u hj;have hn:=zF w (.cells cs.toArray t (0,0));have adds:(⟨w.heap.size,0,none⟩:Addr).add j=⟨w.heap.size,j,none⟩:=by unfold Addr.add;split<;>simp_all
 rw [adds,co hn]
 simpa using hj
theorem xD {α:Type} (T:Kind α) {w:World} {ops:Array Oper} {rest:List Oper} {o:Oper} {a:Act} {Q:Exit→Act→World→Prop} (hgd:o.guard=none) (s x:Operand) (t tt:TypeId)
  (ho:o.op=.call { callee:=.builtin .append,args:=#[s,x],argTypes:=#[t,t] }) (ht:Tryz.prog.underlying t=some (.slice T.ty))
  (B N:Nat) (v:Value) (l:List α) (hs:a.eval s=v) (hown:OwnL T B w v l) (cs:List Value) (y:α) (hE:T.E (fun i=>N≤i) w cs y) (hx:a.eval x=.slice (some ⟨w.heap.size,0,none⟩) 1 1)
  (hN:∀ k,v.ownBlock=some k→k<N) (hBN:B≤N) (hBw:B≤w.heap.size) (hM:(l.length+1)*T.bytes≤140737488355328) (hm:l.length+1≤maxLen)
  (h:∀ v' w',OwnL T B w' v' (l++[y])→Below B w w'→(w.alloc (.cells cs.toArray tt (0,0))).grownBy w' v.ownBlock→Moved (w.alloc (.cells cs.toArray tt (0,0))) v v'→wpList Tryz.prog ops Q rest (a.put o.dst v') w') :
  wpList Tryz.prog ops Q (o :: rest) a (w.alloc (.cells cs.toArray tt (0,0))):=by
 obtain ⟨i0,hi,hz0,hz1,hz2⟩:=info_parts T.info;have hown1:=hown.below ((Below.refl _ w).alloc nR (.cells cs.toArray tt (0,0)));obtain ⟨D,hrow,hD⟩:=hown1;have hl:=T.len hE;refine wpList_push hgd s x t ho B T.ty i0 T.zero T.k T.bytes ht hi hz0 hz1 hz2 T.zs T.pos v l.length _ hs hrow ⟨w.heap.size,0,none⟩ 1 1 cs hx (by simp [hl]) (cells_new w cs tt) (T.one hE) hm hM (by simp;omega) ?_;intro v' w' hrow' hgrow hmv;have hmv':Moved (w.alloc (.cells cs.toArray tt (0,0))) v v':=hmv;have hgk:=grown_keep (B:=B) (v:=v) hgrow;refine h v' w' ⟨fun q=>if q=l.length then cs else D q,?_,fun j hj=>?_⟩ (Below.push ((Below.refl B w).alloc hBw _) (by simp;omega) hrow hgrow) hgrow hmv'
 ·have e:flat (fun q=>if q=l.length then cs else D q) (l.length+1)=flat D l.length++cs:=by
   rw [flat,zAK (D:=D) l.length (fun q hq=>by rw [if_neg (by omega)])];simp
  rw [List.length_append,List.length_singleton,e];exact hrow'
 ·by_cases e:j=l.length
  ·subst e
   simp only [if_true,List.getElem_append_right nR,Nat.sub_self,List.getElem_cons_zero];have g0:=T.keep (w':=w.alloc (.cells cs.toArray tt (0,0))) hE (by simp) fun i _ hl=>Below.heap_alloc _ _ _ hl;have g1:=T.wide (ok':=fun k=>Off B v k∧k<(w.alloc (.cells cs.toArray tt (0,0))).heap.size) g0 (fun k hk hl=>⟨⟨by omega,fun e=>by have:=hN k e.symm;omega⟩,hl⟩);have g2:=T.keep g1 hgrow.size (fun k hk hl=>hgk k hk.1 hl);exact T.wide g2 (fun k hk _=>Off.moved hmv' hk.1 hk.2)
  ·have hjl:j<l.length:=by simp at hj;omega
   simp only [if_neg e,List.getElem_append_left hjl];have g1:=T.wide (ok':=fun k=>Off B v k∧k<(w.alloc (.cells cs.toArray tt (0,0))).heap.size) (hD j hjl) (fun k hk hl=>⟨hk,hl⟩);have g2:=T.keep g1 hgrow.size (fun k hk hl=>hgk k hk.1 hl);exact T.wide g2 (fun k hk _=>Off.moved hmv' hk.1 hk.2)
/-! ### The kinds -/
def kName:Kind ByteArray where
 ty:=9
 k:=1
 bytes:=16
 zero:=.string ⟨#[]⟩
 E:=fun _ _ cs s=>cs=[.string s]
 pos:=by decide
 zs:=rfl
 info:=Tryz.info9
 len:=by rintro _ _ _ _ rfl;rfl
 one:=by rintro _ _ _ _ rfl;simp;rfl
 keep:=by rintro _ _ _ _ _ rfl _ _;rfl
 wide:=by rintro _ _ _ _ _ rfl _;rfl
def kTerm:Kind Tm where
 ty:=99
 k:=2
 bytes:=24
 zero:=.agg #[.int .i64 0,.string ⟨#[]⟩]
 E:=fun _ _ cs t=>cs=[.int .i64 t.1,.string t.2]
 pos:=by decide
 zs:=rfl
 info:=Tryz.info99
 len:=by rintro _ _ _ _ rfl;rfl
 one:=by
  rintro _ _ _ _ rfl u hu;simp at hu;rcases hu with rfl | rfl<;>rfl
 keep:=by rintro _ _ _ _ _ rfl _ _;rfl
 wide:=by rintro _ _ _ _ _ rfl _;rfl
theorem HTerms.slice {ok:Nat→Prop} {w:World} {v:Value} {l:List Tm} (h:HTerms ok w v l):∃ a n c,v=.slice a n c:=by
 obtain ⟨C,⟨a,c,hv,_⟩,_⟩:=h;exact ⟨a,_,c,hv⟩
def kSize:Kind (List Tm) where
 ty:=90
 k:=1
 bytes:=24
 zero:=.slice none 0 0
 E:=fun ok w cs l=>∃ u,cs=[u]∧HTerms ok w u l
 pos:=by decide
 zs:=rfl
 info:=Tryz.info90
 len:=by rintro _ _ _ _ ⟨u,rfl,_⟩;rfl
 one:=by
  rintro _ _ _ _ ⟨u,rfl,hT⟩ x hx;obtain ⟨a,n,c,rfl⟩:=hT.slice;simp at hx;subst hx;rfl
 keep:=by rintro _ _ _ _ _ ⟨u,e,hT⟩ h1 h2;exact ⟨u,e,hT.keep h1 h2⟩
 wide:=by rintro _ _ _ _ _ ⟨u,e,hT⟩ h1;exact ⟨u,e,hT.wide h1⟩
def kDecl:Kind De where
 ty:=94
 k:=3
 bytes:=48
 zero:=.agg #[.string ⟨#[]⟩,.int .u8 0,.slice none 0 0]
 E:=fun ok w cs d=>∃ u,cs=[.string d.name,.int .u8 d.elem,u]∧HTerms ok w u d.n
 pos:=by decide
 zs:=rfl
 info:=Tryz.info94
 len:=by rintro _ _ _ _ ⟨u,rfl,_⟩;rfl
 one:=by
  rintro _ _ _ _ ⟨u,rfl,hT⟩ x hx;obtain ⟨a,n,c,rfl⟩:=hT.slice;simp at hx;rcases hx with rfl | rfl | rfl<;>rfl
 keep:=by rintro _ _ _ _ _ ⟨u,e,hT⟩ h1 h2;exact ⟨u,e,hT.keep h1 h2⟩
 wide:=by rintro _ _ _ _ _ ⟨u,e,hT⟩ h1;exact ⟨u,e,hT.wide h1⟩
def kExpr:Kind Ex where
 ty:=45
 k:=6
 bytes:=88
 zero:=.agg #[.int .i64 0,.int .i64 0,.int .i64 0,.string ⟨#[]⟩,.slice none 0 0,.slice none 0 0]
 E:=fun ok w cs e=>HEx ok w cs e
 pos:=by decide
 zs:=rfl
 info:=Tryz.info45
 len:=by
  intro _ _ _ _ h;obtain ⟨x,rfl,_⟩:=h.toV;rfl
 one:=by
  intro _ _ _ _ h u hu;obtain ⟨x,rfl,_⟩:=h.toV;simp [ExV.cells] at hu;rcases hu with rfl | rfl | rfl | rfl | rfl | rfl<;>rfl
 keep:=fun h h1 h2=>h.keep h1 h2
 wide:=fun h h1=>h.wide h1
def kEq:Kind Eqn where
 ty:=43
 k:=5
 bytes:=96
 zero:=.agg #[.int .i64 0,.slice none 0 0,.string ⟨#[]⟩,.slice none 0 0,.slice none 0 0]
 E:=fun ok w cs q=>∃ x:EqV,cs=x.cells∧HEq ok w x q
 pos:=by decide
 zs:=rfl
 info:=Tryz.infoEq
 len:=by rintro _ _ _ _ ⟨u,rfl,_⟩;rfl
 one:=by
  rintro _ _ _ _ ⟨x,rfl,hT⟩ u hu;simp [EqV.cells] at hu;rcases hu with rfl | rfl | rfl | rfl | rfl<;>rfl
 keep:=by rintro _ _ _ _ _ ⟨u,e,hT⟩ h1 h2;exact ⟨u,e,hT.keep h1 h2⟩
 wide:=by rintro _ _ _ _ _ ⟨u,e,hT⟩ h1;exact ⟨u,e,hT.wide h1⟩
def kNode:Kind Nd where
 ty:=39
 k:=7
 bytes:=144
 zero:=.agg #[.string ⟨#[]⟩,.int .i64 0,.slice none 0 0,.slice none 0 0,.slice none 0 0,.slice none 0 0,.slice none 0 0]
 E:=fun ok w cs q=>∃ x:NdV,cs=x.cells∧HNd ok w x q
 pos:=by decide
 zs:=rfl
 info:=Tryz.info39
 len:=by rintro _ _ _ _ ⟨u,rfl,_⟩;rfl
 one:=by
  rintro _ _ _ _ ⟨x,rfl,hT⟩ u hu;simp [NdV.cells] at hu;rcases hu with rfl | rfl | rfl | rfl | rfl | rfl | rfl<;>rfl
 keep:=by rintro _ _ _ _ _ ⟨u,e,hT⟩ h1 h2;exact ⟨u,e,hT.keep h1 h2⟩
 wide:=by rintro _ _ _ _ _ ⟨u,e,hT⟩ h1;exact ⟨u,e,hT.wide h1⟩
theorem xP {ok:Nat→Prop} {w:World} {v:Value} {l:List ByteArray} (h:HRow kName ok w v l):HNames ok w v l:=h
theorem zBU {ok:Nat→Prop} {w:World} {v:Value} {l:List Tm} (h:HRow kTerm ok w v l):HTerms ok w v l:=h
theorem jW {ok:Nat→Prop} {w:World} {v:Value} {l:List (List Tm)} (h:HRow kSize ok w v l):HSizes ok w v l:=h
theorem xQ {ok:Nat→Prop} {w:World} {v:Value} {l:List De} (h:HRow kDecl ok w v l):HDes ok w v l:=h
theorem jX {ok:Nat→Prop} {w:World} {v:Value} {l:List Ex} (h:HRow kExpr ok w v l):HExs ok w v l:=h
theorem zCF {ok:Nat→Prop} {w:World} {v:Value} {l:List Eqn} (h:HRow kEq ok w v l):HEqs ok w v l:=h
theorem vX {ok:Nat→Prop} {w:World} {v:Value} {l:List Nd} (h:HRow kNode ok w v l):HNds ok w v l:=h
end Go.Proofs.YthkpanbgkimhoaaGreatDoor
namespace Go.Proofs.YthkpanbgkimhoaaGreatDoor
structure Rel (I J:Inp) (s sh:Nat):Prop where
 pk:∀ n,n<I.L.length→J.pk (n+s)=⟨(I.pk n).kind,(I.pk n).place+sh,(I.pk n).text,(I.pk n).n⟩
 kind:∀ n,n<I.L.length→(I.pk n).kind≠0
 place:∀ n,n<I.L.length→(I.pk n).place≤I.len
 len:I.L.length+s≤J.L.length
theorem Inp.pk_end (I:Inp) (n:Nat) (h:¬n<I.L.length):I.pk n=⟨0,I.len,[],0⟩:=by
 unfold Inp.pk peekT;rw [dif_neg h]
theorem Rel.le {I J:Inp} {s sh:Nat} (R:Rel I J s sh) (n:Nat):(I.pk n).place≤I.len:=by
 by_cases h:n<I.L.length
 ·exact R.place n h
 ·rw [I.pk_end n h];exact Nat.le_refl _
structure Agr (I:Inp) (s sh:Nat) {α:Type} (φ:α→α) (n:Nat) (x y:Res α):Prop where
 ok:∀ v m,x=.ok v m→n≤m∧(m<I.L.length→y=.ok (φ v) (m+s))
 err:∀ c a,x=.err c a→4≤c∧a≤I.len∧(c=4∨c=6→n<I.L.length∧y=.err c (a+sh))
structure AgrS (I:Inp) (s sh:Nat) {α:Type} (φ:α→α) (n:Nat) (x y:Res α):Prop where
 ok:∀ v m,x=.ok v m→n<m∧(m≤I.L.length→y=.ok (φ v) (m+s))
 err:∀ c a,x=.err c a→4≤c∧a≤I.len∧(c=4∨c=6→n<I.L.length∧y=.err c (a+sh))
theorem AgrS.agr {I:Inp} {s sh:Nat} {α:Type} {φ:α→α} {n:Nat} {x y:Res α} (h:AgrS I s sh φ n x y):Agr I s sh φ n x y :=
 ⟨fun v m e=>⟨by have:=(h.ok v m e).1;omega,fun hm=>(h.ok v m e).2 (by omega)⟩,h.err⟩
theorem Agr.lower {I:Inp} {s sh:Nat} {α:Type} {φ:α→α} {n k:Nat} {x y:Res α} (h:Agr I s sh φ n x y) (hk:k≤n):Agr I s sh φ k x y :=
 ⟨fun v m e=>⟨by have:=(h.ok v m e).1;omega,(h.ok v m e).2⟩,fun c a e=>⟨(h.err c a e).1,(h.err c a e).2.1,fun hc=>⟨by have:=((h.err c a e).2.2 hc).1;omega,((h.err c a e).2.2 hc).2⟩⟩⟩
theorem Agr.ret {I:Inp} {s sh:Nat} {α:Type} {φ:α→α} (v:α) (n m:Nat) (h:n≤m) (v':α) (hv:m<I.L.length→v'=φ v):Agr I s sh φ n (.ok v m) (.ok v' (m+s)) :=
 ⟨fun v1 m1 e=>by cases e;exact ⟨h,fun hm=>by rw [hv hm]⟩,fun c a e=>by cases e⟩
theorem AgrS.ret {I:Inp} {s sh:Nat} {α:Type} {φ:α→α} (v:α) (n m:Nat) (h:n<m) (v':α) (hv:m≤I.L.length→v'=φ v):AgrS I s sh φ n (.ok v m) (.ok v' (m+s)) :=
 ⟨fun v1 m1 e=>by cases e;exact ⟨h,fun hm=>by rw [hv hm]⟩,fun c a e=>by cases e⟩
theorem Agr.bind {I:Inp} {s sh:Nat} {α β:Type} {φ:α→α} {ψ:β→β} {n:Nat} {x y:Res α} {f g:α→Nat→Res β} (h:Agr I s sh φ n x y)
  (hf:∀ v m,n≤m→Agr I s sh ψ m (f v m) (g (φ v) (m+s))):Agr I s sh ψ n (x.bind f) (y.bind g):=by
 cases x with
 | ok v m=>
  obtain ⟨h1,h2⟩:=h.ok v m rfl;have hv:=hf v m h1;refine ⟨fun v1 m1 e=>?_,fun c a e=>?_⟩
  ·obtain ⟨k1,k2⟩:=hv.ok v1 m1 e
   refine ⟨by omega,fun hm=>?_⟩;rw [h2 (by omega)];exact k2 hm
  ·obtain ⟨k1,k2,k3⟩:=hv.err c a e
   refine ⟨k1,k2,fun hc=>?_⟩;obtain ⟨k4,k5⟩:=k3 hc;refine ⟨by omega,?_⟩;rw [h2 k4];exact k5
 | err c a=>
  refine ⟨fun v1 m1 e=>(by cases e),fun c1 a1 e=>?_⟩;have e':Res.err (α:=α) c a=.err c1 a1:=(by cases e;rfl);obtain ⟨k1,k2,k3⟩:=h.err c1 a1 e';refine ⟨k1,k2,fun hc=>?_⟩;obtain ⟨k4,k5⟩:=k3 hc;exact ⟨k4,by rw [k5];rfl⟩
theorem Agr.ite {I:Inp} {s sh:Nat} {α:Type} {φ:α→α} {n:Nat} {p q:Prop} [Decidable p] [Decidable q] {x y x1 y1:Res α} (hpq:n<I.L.length→(p↔q))
  (h1:Agr I s sh φ n x y) (h2:Agr I s sh φ n x1 y1):Agr I s sh φ n (if p then x else x1) (if q then y else y1):=by
 by_cases hn:n<I.L.length
 ·by_cases hp:p
  ·rw [if_pos hp,if_pos ((hpq hn).1 hp)];exact h1
  ·rw [if_neg hp,if_neg (fun hq=>hp ((hpq hn).2 hq))];exact h2
 ·have key:∀ (z w t:Res α),Agr I s sh φ n z w→Agr I s sh φ n z t:=by
   intro z w t h;refine ⟨fun v m e=>⟨(h.ok v m e).1,fun hm=>?_⟩,fun c a e=>⟨(h.err c a e).1,(h.err c a e).2.1,fun hc=>?_⟩⟩
   ·have:=(h.ok v m e).1;omega
   ·exact absurd ((h.err c a e).2.2 hc).1 hn
  by_cases hp:p
  ·rw [if_pos hp];exact key _ _ _ h1
  ·rw [if_neg hp];exact key _ _ _ h2
theorem AgrS.ite {I:Inp} {s sh:Nat} {α:Type} {φ:α→α} {n:Nat} {p q:Prop} [Decidable p] [Decidable q] {x y x1 y1:Res α} (hpq:n<I.L.length→(p↔q))
  (h1:AgrS I s sh φ n x y) (h2:AgrS I s sh φ n x1 y1):AgrS I s sh φ n (if p then x else x1) (if q then y else y1):=by
 by_cases hn:n<I.L.length
 ·by_cases hp:p
  ·rw [if_pos hp,if_pos ((hpq hn).1 hp)];exact h1
  ·rw [if_neg hp,if_neg (fun hq=>hp ((hpq hn).2 hq))];exact h2
 ·have key:∀ (z w t:Res α),AgrS I s sh φ n z w→AgrS I s sh φ n z t:=by
   intro z w t h;refine ⟨fun v m e=>⟨(h.ok v m e).1,fun hm=>?_⟩,fun c a e=>⟨(h.err c a e).1,(h.err c a e).2.1,fun hc=>?_⟩⟩
   ·have:=(h.ok v m e).1;omega
   ·exact absurd ((h.err c a e).2.2 hc).1 hn
  by_cases hp:p
  ·rw [if_pos hp];exact key _ _ _ h1
  ·rw [if_neg hp];exact key _ _ _ h2
theorem Rel.sees {I J:Inp} {s sh:Nat} (R:Rel I J s sh) {n:Nat} (h:n<I.L.length) (t:List UInt8):Ps.sees J t (n+s)=Ps.sees I t n:=by
 unfold Ps.sees;rw [R.pk n h]
theorem Rel.seesP {I J:Inp} {s sh:Nat} (R:Rel I J s sh) {n:Nat} (t:List UInt8) (h:n<I.L.length):(Ps.sees I t n=true↔Ps.sees J t (n+s)=true):=by
 rw [R.sees h]
theorem Rel.kindP {I J:Inp} {s sh:Nat} (R:Rel I J s sh) {n:Nat} (c:Int) (h:n<I.L.length):((I.pk n).kind=c↔(J.pk (n+s)).kind=c):=by
 rw [R.pk n h]
theorem Rel.text {I J:Inp} {s sh:Nat} (R:Rel I J s sh) {n:Nat} (h:n<I.L.length):(J.pk (n+s)).text=(I.pk n).text:=by rw [R.pk n h]
theorem Rel.num {I J:Inp} {s sh:Nat} (R:Rel I J s sh) {n:Nat} (h:n<I.L.length):(J.pk (n+s)).n=(I.pk n).n:=by rw [R.pk n h]
theorem Rel.at_ {I J:Inp} {s sh:Nat} (R:Rel I J s sh) {n:Nat} (h:n<I.L.length):(J.pk (n+s)).place=(I.pk n).place+sh:=by rw [R.pk n h]
theorem sees_in {I:Inp} {n:Nat} {t:List UInt8} (ht:t≠[]) (h:Ps.sees I t n=true):n<I.L.length:=by
 apply Classical.byContradiction
 intro hn;unfold Ps.sees at h;rw [I.pk_end n hn] at h
 apply ht
 simpa using h.symm
theorem jG {I J:Inp} {s sh:Nat} (R:Rel I J s sh) {α:Type} (φ:α→α) (n:Nat):AgrS I s sh φ n (Ps.refuse I n) (Ps.refuse J (n+s)):=by
 refine ⟨fun v m e=>by simp [Ps.refuse] at e,fun c a e=>?_⟩;unfold Ps.refuse at e;obtain ⟨rfl,rfl⟩:Ps.refC I n=c∧(I.pk n).place=a:=by injection e with e1 e2;exact ⟨e1,e2⟩
 refine ⟨by unfold Ps.refC;split<;>omega,R.le n,fun hc=>?_⟩;have hn:n<I.L.length:=by
  apply Classical.byContradiction
  intro hn;have h0:(I.pk n).kind=0:=(by rw [I.pk_end n hn]);unfold Ps.refC at hc;rw [if_pos h0] at hc;omega
 refine ⟨hn,?_⟩;unfold Ps.refuse Ps.refC;rw [R.pk n hn]
theorem zCa {I J:Inp} {s sh:Nat} (R:Rel I J s sh) {α:Type} (φ:α→α) (n j:Nat) (z:Res α):AgrS I s sh φ n (.err 7 (I.pk j).place) z :=
 ⟨fun v m e=>(by cases e),fun c a e=>by cases e;exact ⟨by omega,R.le j,fun hc=>by omega⟩⟩
theorem qC {I J:Inp} {s sh:Nat} (R:Rel I J s sh) (t:List UInt8) (n:Nat):AgrS I s sh id n (Ps.need I t n) (Ps.need J t (n+s)):=by
 unfold Ps.need;refine AgrS.ite (R.seesP t) ?_ (jG R _ n);rw [show n+s+1=n+1+s by omega];exact AgrS.ret _ _ _ (by omega) _ (fun _=>rfl)
theorem zAI {I J:Inp} {s sh:Nat} (R:Rel I J s sh) (n:Nat):AgrS I s sh id n (Ps.name I n) (Ps.name J (n+s)):=by
 unfold Ps.name;refine AgrS.ite (R.kindP 2) ?_ (jG R _ n);rw [show n+s+1=n+1+s by omega];exact AgrS.ret _ _ _ (by omega) _ (fun h=>by rw [R.text (by omega)];rfl)
theorem agr_row {I J:Inp} {s sh:Nat} (R:Rel I J s sh) {α:Type} {φ:α→α} (r r':Nat→Res α) (h:∀ n,Agr I s sh φ n (r n) (r' (n+s))):∀ (f:Nat) (acc:List α) (n:Nat),
  Agr I s sh (List.map φ) n (Ps.row I r f acc n) (Ps.row J r' f (acc.map φ) (n+s)):=by
 intro f
 induction f with
 | zero=>intro acc n;exact (zCa R _ _ _ _).agr
 | succ f ih=>
  intro acc n;unfold Ps.row;refine (h n).bind fun v m hm=>?_;refine Agr.ite (R.seesP _) ?_ ?_
  ·have:=ih (acc++[v]) (m+1)
   rw [List.map_append] at this;rw [show m+s+1=m+1+s by omega];exact this.lower (by omega)
  ·exact Agr.ret _ _ _ nR _ (fun _=>by rw [List.map_append];rfl)
theorem jO {I J:Inp} {s sh:Nat} (R:Rel I J s sh) (b b':Bool) (n:Nat) (hb:n≤I.L.length→b'=b):Agr I s sh id n (Ps.term I b n) (Ps.term J b' (n+s)):=by
 by_cases hn:n<I.L.length
 ·rw [hb (by omega)]
  unfold Ps.term;refine Agr.ite (R.kindP 3) ?_ ?_
  ·rw [show n+s+1=n+1+s by omega,show n+s+2=n+2+s by omega]
   refine Agr.lower (n:=n+1) (Agr.ite (R.seesP _) ?_ ?_) (by omega)
   ·refine Agr.lower (n:=n+2) ?_ (by omega)
    refine (zAI R (n+2)).agr.bind fun v m hm=>?_;exact Agr.ret _ _ _ (by omega) _ (fun _=>by rw [R.num hn];rfl)
   ·exact Agr.ret _ _ _ (by omega) _ (fun _=>by rw [R.num hn];rfl)
  ·refine (zAI R n).agr.bind fun v m hm=>?_
   exact Agr.ret _ _ _ (by omega) _ (fun _=>rfl)
 ·have e:Ps.term I b n=.err 5 I.len:=by
   unfold Ps.term Ps.name Ps.refuse Ps.refC;rw [I.pk_end n hn];simp [Res.bind]
  rw [e];exact ⟨fun v m e=>(by cases e),fun c a e=>by cases e;exact ⟨by omega,Nat.le_refl _,fun hc=>by omega⟩⟩
theorem agr_terms {I J:Inp} {s sh:Nat} (R:Rel I J s sh):∀ (f:Nat) (acc:List Tm) (n:Nat),Agr I s sh id n (Ps.terms I f acc n) (Ps.terms J f acc (n+s)):=by
 intro f
 induction f with
 | zero=>
  intro acc n;unfold Ps.terms;exact Agr.ite (fun h=>by rw [R.sees h,R.sees h]) (zCa R _ _ _ _).agr (Agr.ret _ _ _ nR _ (fun _=>rfl))
 | succ f ih=>
  intro acc n;unfold Ps.terms;refine Agr.ite (fun h=>by rw [R.sees h,R.sees h]) ?_ (Agr.ret _ _ _ nR _ (fun _=>rfl));rw [show n+s+1=n+1+s by omega];refine Agr.lower (n:=n+1) ?_ (by omega);refine (jO R _ _ _ (fun h=>R.sees (by omega) _)).bind fun v m hm=>ih _ _
theorem zBL {I J:Inp} {s sh:Nat} (R:Rel I J s sh) (n:Nat):Agr I s sh id n (Ps.size I n) (Ps.size J (n+s)):=by
 by_cases hn:n<I.L.length
 ·unfold Ps.size
  rw [R.sees hn];have e:(if Ps.sees I [45] n=true then n+s+1 else n+s)=(if Ps.sees I [45] n=true then n+1 else n)+s:=by split<;>omega
  rw [e];have hle:n≤(if Ps.sees I [45] n=true then n+1 else n):=by split<;>omega
  generalize (if Ps.sees I [45] n=true then n+1 else n)=k at *;refine Agr.lower (n:=k) ?_ hle;refine (jO R _ _ _ (fun _=>rfl)).bind fun v m hm=>agr_terms R _ _ _
 ·have e:Ps.size I n=.err 5 I.len:=by
   unfold Ps.size Ps.term Ps.name Ps.refuse Ps.refC Ps.sees;simp [I.pk_end n hn,Res.bind]
  rw [e];exact ⟨fun v m e=>(by cases e),fun c a e=>by cases e;exact ⟨by omega,Nat.le_refl _,fun hc=>by omega⟩⟩
theorem agr_declN {I J:Inp} {s sh:Nat} (R:Rel I J s sh) (t:ByteArray) (e:Int) (n:Nat):Agr I s sh id n (Ps.declN I t e n) (Ps.declN J t e (n+s)):=by
 unfold Ps.declN;refine Agr.ite (R.seesP _) ?_ (Agr.ret _ _ _ nR _ (fun _=>rfl));rw [show n+s+1=n+1+s by omega];refine Agr.lower (n:=n+1) ?_ (by omega);refine (zBL R _).bind fun v m hm=>Agr.ret _ _ _ nR _ (fun _=>rfl)
theorem zBM {I J:Inp} {s sh:Nat} (R:Rel I J s sh) (n:Nat):Agr I s sh id n (Ps.decl I n) (Ps.decl J (n+s)):=by
 unfold Ps.decl;refine (zAI R n).agr.bind fun t m hm=>(qC R _ m).agr.bind fun _ m2 hm2=>?_;rw [show m2+s+1=m2+1+s by omega];refine Agr.ite (R.seesP _) ((agr_declN R _ _ _).lower (by omega)) (Agr.ite (R.seesP _) ((agr_declN R _ _ _).lower (by omega)) (jG R _ _).agr)
theorem agr_more {I J:Inp} {s sh:Nat} (R:Rel I J s sh) (A A':Nat→Res Ex) (h:∀ n,Agr I s sh id n (A n) (A' (n+s))) (a c:Int):∀ (f g:Nat) (e:Ex) (n:Nat),f≤g→I.L.length≤n+f →
  Agr I s sh id n (Ps.more I A a c f e n) (Ps.more J A' a c g e (n+s)):=by
 intro f
 induction f with
 | zero=>
  intro g e n hg hn;unfold Ps.more;exact ⟨fun v m ev=>by cases ev;exact ⟨Nat.le_refl _,fun hm=>by omega⟩,fun c a ev=>by cases ev⟩
 | succ f ih=>
  intro g e n hg hn;obtain ⟨g,rfl⟩:∃ g',g=g'+1:=⟨g-1,by omega⟩;unfold Ps.more;by_cases hl:n<I.L.length
  ·rw [R.text hl]
   refine Agr.ite (fun _=>Iff.rfl) (Agr.ret _ _ _ nR _ (fun _=>rfl)) ?_;rw [show n+s+1=n+1+s by omega];refine Agr.lower (n:=n+1) ?_ (by omega);exact (h _).bind fun v m hm=>ih g _ _ (by omega) (by omega)
  ·have e0:btw a c (I.pk n).text=btw a c []:=by rw [I.pk_end n hl]
   by_cases hz:btw a c (I.pk n).text=0
   ·rw [if_pos hz]
    exact ⟨fun v m ev=>by cases ev;exact ⟨Nat.le_refl _,fun hm=>by omega⟩,fun c a ev=>by cases ev⟩
   ·rw [if_neg hz]
    have hx:Agr I s sh id (n+1) ((A (n+1)).bind fun r n1=>Ps.more I A a c f (Ex.mk 5 (btw a c (I.pk n).text) 0 ⟨#[]⟩ [] [e,r]) n1) ((A' (n+1+s)).bind fun r n1=>Ps.more J A' a c g (Ex.mk 5 (btw a c (I.pk n).text) 0 ⟨#[]⟩ [] [e,r]) n1):=
     (h _).bind fun v m hm=>ih g _ _ (by omega) (by omega)
    refine ⟨fun v m ev=>⟨by have:=(hx.ok v m ev).1;omega,fun hm=>?_⟩,fun c a ev=>⟨(hx.err c a ev).1,(hx.err c a ev).2.1,fun hc=>?_⟩⟩
    ·have:=(hx.ok v m ev).1;omega
    ·have:=((hx.err c a ev).2.2 hc).1;omega
theorem jT {I J:Inp} {s sh:Nat} (R:Rel I J s sh) (A A':Nat→Res Ex) (h:∀ n,Agr I s sh id n (A n) (A' (n+s))) (a c:Int) (n:Nat) :
  Agr I s sh id n (Ps.fromLeft I A a c n) (Ps.fromLeft J A' a c (n+s)):=by
 unfold Ps.fromLeft;have hl:=R.len;exact (h n).bind fun v m hm=>agr_more R A A' h a c _ _ _ _ (by omega) (by omega)
theorem agr_cmp {I J:Inp} {s sh:Nat} (R:Rel I J s sh) (A A':Nat→Res Ex) (h:∀ n,Agr I s sh id n (A n) (A' (n+s))) (n:Nat) :
  Agr I s sh id n (Ps.cmp I A n) (Ps.cmp J A' (n+s)):=by
 unfold Ps.cmp;refine (h n).bind fun v m hm=>?_;have hx:∀ (k k':Int),(m<I.L.length→k'=k)→Agr I s sh id m ((A (m+1)).bind fun r n2=>.ok (Ex.mk 5 k 0 ⟨#[]⟩ [] [v,r]) n2) ((A' (m+s+1)).bind fun r n2=>.ok (Ex.mk 5 k' 0 ⟨#[]⟩ [] [v,r]) n2):=by
  intro k k' hk;rw [show m+s+1=m+1+s by omega];refine Agr.lower (n:=m+1) ?_ (by omega);exact (h _).bind fun v m hm=>Agr.ret _ _ _ nR _ (fun hl=>by rw [hk (by omega)];rfl)
 refine Agr.ite (fun hl=>by rw [R.text hl]) (Agr.ret _ _ _ nR _ (fun _=>rfl)) (hx _ _ (fun hl=>by rw [R.text hl]))
theorem zAJ {I J:Inp} {s sh:Nat} (R:Rel I J s sh) (A A':Nat→Res Ex) (h:∀ n,Agr I s sh id n (A n) (A' (n+s))) (n:Nat) :
  Agr I s sh id n (Ps.exprOf I A n) (Ps.exprOf J A' (n+s)):=by
 unfold Ps.exprOf Ps.sum;exact jT R _ _ (jT R _ _ (agr_cmp R _ _ (jT R _ _ (jT R _ _ h _ _) _ _)) _ _) _ _ n
def AgrO (I:Inp) (s sh:Nat):Option (Nat→Res Ex)→Option (Nat→Res Ex)→Prop
 | none,none=>True
 | some A,some A'=>∀ n,Agr I s sh id n (A n) (A' (n+s))
 | _,_=>False
theorem zCK {I J:Inp} {s sh:Nat} (R:Rel I J s sh) (O O':Option (Nat→Res Ex)) (h:AgrO I s sh O O') (n:Nat) (hn:n<I.L.length) (k k':(Nat→Res Ex)→Nat→Res Ex)
  (hk:∀ A A',(∀ n,Agr I s sh id n (A n) (A' (n+s)))→∀ n,Agr I s sh id n (k A n) (k' A' (n+s))) :
  Agr I s sh id n (Ps.opn I O n k) (Ps.opn J O' (n+s) k'):=by
 unfold Ps.opn
 match O,O',h with
 | none,none,_=>
  refine ⟨fun v m e=>(by cases e),fun c a e=>?_⟩
  cases e
  exact ⟨by omega,R.le n,fun _=>⟨hn,by show Res.err 6 (J.pk (n+s)).place=_;rw [R.at_ hn]⟩⟩
 | some A,some A',h=>
  show Agr I s sh id n (k A (n+1)) (k' A' (n+s+1))
  rw [show n+s+1=n+1+s by omega];exact (hk A A' h _).lower (by omega)
theorem zBY {I J:Inp} {s sh:Nat} (R:Rel I J s sh) {n:Nat} {t:List UInt8} (ht:t≠[]) {x y x1 y1:Res Ex} (h1:n<I.L.length→Agr I s sh id n x y) (h2:Agr I s sh id n x1 y1) :
  Agr I s sh id n (if Ps.sees I t n=true then x else x1) (if Ps.sees J t (n+s)=true then y else y1):=by
 by_cases hn:n<I.L.length
 ·rw [R.sees hn]
  split
  ·exact h1 hn
  ·exact h2
 ·rw [if_neg (fun h=>hn (sees_in ht h))]
  refine ⟨fun v m e=>⟨(h2.ok v m e).1,fun hm=>?_⟩,fun c a e=>⟨(h2.err c a e).1,(h2.err c a e).2.1,fun hc=>?_⟩⟩
  ·have:=(h2.ok v m e).1;omega
  ·exact absurd ((h2.err c a e).2.2 hc).1 hn
theorem zDa {I J:Inp} {s sh:Nat} (R:Rel I J s sh) {n:Nat} (hn:n<I.L.length):∀ (l:List (List UInt8)) (k:Int),Ps.wordAt J (n+s) l k=Ps.wordAt I n l k
 | [],k=>rfl
 | x :: xs,k=>by unfold Ps.wordAt;rw [R.sees hn,zDa R hn xs]
theorem zDb {I:Inp} {n:Nat} (hn:¬n<I.L.length):∀ (l:List (List UInt8)) (k:Int),(∀ x ∈ l,x≠[])→Ps.wordAt I n l k=none
 | [],k,_=>rfl
 | x :: xs,k,h=>by
  unfold Ps.wordAt;rw [if_neg (fun e=>hn (sees_in (h x (by simp)) e))];exact zDb hn xs _ (fun y hy=>h y (by simp [hy]))
theorem agr_oper {I J:Inp} {s sh:Nat} (R:Rel I J s sh) (n:Nat):Agr I s sh id n (Ps.oper I n) (Ps.oper J (n+s)):=by
 unfold Ps.oper;by_cases hn:n<I.L.length
 ·rw [zDa R hn]
  cases Ps.wordAt I n Ps.words 1 with
  | none=>exact (jG R _ _).agr
  | some k=>
   show Agr I s sh id n (.ok k (n+1)) (.ok k (n+s+1))
   rw [show n+s+1=n+1+s by omega];exact Agr.ret _ _ _ (by omega) _ (fun _=>rfl)
 ·rw [zDb hn _ _ (by decide)]
  have h:=(jG (α:=Int) R id n).agr;refine ⟨fun v m e=>⟨(h.ok v m e).1,fun hm=>?_⟩,fun c a e=>⟨(h.err c a e).1,(h.err c a e).2.1,fun hc=>?_⟩⟩
  ·have:=(h.ok v m e).1;omega
  ·exact absurd ((h.err c a e).2.2 hc).1 hn
theorem agr_part {I J:Inp} {s sh:Nat} (R:Rel I J s sh) (E E':Nat→Res Ex) (h:∀ n,Agr I s sh id n (E n) (E' (n+s))) (p:Ps.Pt) (e:Ex) (n:Nat) :
  Agr I s sh id n (Ps.part I E p e n) (Ps.part J E' p e (n+s)):=by
 cases p with
 | part=>exact (h n).bind fun v m hm=>Agr.ret _ _ _ nR _ (fun _=>rfl)
 | size=>exact (zBL R n).bind fun v m hm=>Agr.ret _ _ _ nR _ (fun _=>rfl)
 | oper=>exact (agr_oper R n).bind fun v m hm=>Agr.ret _ _ _ nR _ (fun _=>rfl)
 | oneOrTwo=>
  refine (h n).bind fun v m hm=>Agr.ite (R.seesP _) ?_ (Agr.ret _ _ _ nR _ (fun _=>rfl));rw [show m+s+1=m+1+s by omega];refine Agr.lower (n:=m+1) ?_ (by omega);exact (h _).bind fun v m hm=>Agr.ret _ _ _ nR _ (fun _=>rfl)
theorem agr_parts {I J:Inp} {s sh:Nat} (R:Rel I J s sh) (E E':Nat→Res Ex) (h:∀ n,Agr I s sh id n (E n) (E' (n+s))):∀ (l:List Ps.Pt) (e:Ex) (n:Nat),
  Agr I s sh id n (Ps.parts I E l e n) (Ps.parts J E' l e (n+s))
 | [],e,n=>Agr.ret _ _ _ nR _ (fun _=>rfl)
 | p :: ps,e,n=>by
  unfold Ps.parts;exact (qC R _ n).agr.bind fun _ m hm=>(agr_part R E E' h p e m).bind fun e1 m1 h1=>agr_parts R E E' h ps e1 m1
theorem agr_brackets {I J:Inp} {s sh:Nat} (R:Rel I J s sh) (E E':Nat→Res Ex) (h:∀ n,Agr I s sh id n (E n) (E' (n+s))) (p:Ps.Pt) (ps:List Ps.Pt) (e:Ex) (n:Nat) :
  Agr I s sh id n (Ps.brackets I E p ps e n) (Ps.brackets J E' p ps e (n+s)):=by
 unfold Ps.brackets;exact (qC R _ n).agr.bind fun _ m hm=>(agr_part R E E' h p e m).bind fun e1 m1 h1=>(agr_parts R E E' h ps e1 m1).bind fun e2 m2 h2=>
  (qC R _ m2).agr.bind fun _ m3 h3=>Agr.ret _ _ _ nR _ (fun _=>rfl)
theorem agr_form {I J:Inp} {s sh:Nat} (R:Rel I J s sh) (O O':Option (Nat→Res Ex)) (h:AgrO I s sh O O') (n:Nat):Agr I s sh id n (Ps.form I O n) (Ps.form J O' (n+s)):=by
 have go:∀ (op k:Int) (p:Ps.Pt) (ps:List Ps.Pt),n<I.L.length →
   Agr I s sh id n (Ps.opn I O n fun A n1=>Ps.brackets I (Ps.exprOf I A) p ps (Ps.bare op k) n1) (Ps.opn J O' (n+s) fun A n1=>Ps.brackets J (Ps.exprOf J A) p ps (Ps.bare op k) n1):=
  fun op k p ps hn=>zCK R O O' h n hn _ _ fun A A' hA n=>agr_brackets R _ _ (zAJ R A A' hA) _ _ _ _
 unfold Ps.form
 repeat' (first | exact (jG R _ _).agr | exact go _ _ _ _ (by assumption) | refine zBY R (by decide) (fun hn=>?_) ?_)
theorem zDp {I J:Inp} {s sh:Nat} (R:Rel I J s sh) (E E':Nat→Res Ex) (h:∀ n,Agr I s sh id n (E n) (E' (n+s))) (n:Nat):Agr I s sh id n (Ps.bracketed I E n) (Ps.bracketed J E' (n+s)):=by
 unfold Ps.bracketed;exact (h n).bind fun e m hm=>(qC R _ m).agr.bind fun _ m3 h3=>Agr.ret _ _ _ nR _ (fun _=>rfl)
theorem agr_choice {I J:Inp} {s sh:Nat} (R:Rel I J s sh) (E E':Nat→Res Ex) (h:∀ n,Agr I s sh id n (E n) (E' (n+s))) (n:Nat):Agr I s sh id n (Ps.choice I E n) (Ps.choice J E' (n+s)):=by
 unfold Ps.choice;exact (h n).bind fun e m hm=>(qC R _ m).agr.bind fun _ m1 h1=>(h m1).bind fun e2 m2 h2=>(qC R _ m2).agr.bind fun _ m3 h3=>(h m3).bind fun e4 m4 h4=>
  Agr.ret _ _ _ nR _ (fun _=>rfl)
theorem agr_unit {I J:Inp} {s sh:Nat} (R:Rel I J s sh) (O O':Option (Nat→Res Ex)) (h:AgrO I s sh O O') (n:Nat):Agr I s sh id n (Ps.unit I O n) (Ps.unit J O' (n+s)):=by
 unfold Ps.unit;rw [show n+s+1=n+1+s by omega];refine Agr.ite (R.kindP 3) (Agr.ret _ _ _ (by omega) _ (fun hl=>by rw [R.num (by omega)];rfl)) ?_;refine Agr.ite (R.kindP 2) (Agr.ret _ _ _ (by omega) _ (fun hl=>by rw [R.text (by omega)];rfl)) ?_;refine Agr.ite (R.seesP _) (Agr.ret _ _ _ (by omega) _ (fun hl=>rfl)) ?_;refine Agr.ite (R.seesP _) (Agr.ret _ _ _ (by omega) _ (fun hl=>rfl)) ?_;refine zBY R (by decide) (fun hn=>zCK R O O' h n hn _ _ fun A A' hA n=>zDp R _ _ (zAJ R A A' hA) _) ?_;refine zBY R (by decide) (fun hn=>zCK R O O' h n hn _ _ fun A A' hA n=>agr_choice R _ _ (zAJ R A A' hA) _) ?_;exact agr_form R O O' h n
theorem agr_index {I J:Inp} {s sh:Nat} (R:Rel I J s sh) (E E':Nat→Res Ex) (h:∀ n,Agr I s sh id n (E n) (E' (n+s))) (e:Ex) (n:Nat):Agr I s sh id n (Ps.index I E e n) (Ps.index J E' e (n+s)):=by
 unfold Ps.index;exact (h n).bind fun e m hm=>(qC R _ m).agr.bind fun _ m1 h1=>(h m1).bind fun e2 m2 h2=>(qC R _ m2).agr.bind fun _ m3 h3=>
  Agr.ret _ _ _ nR _ (fun _=>rfl)
theorem agr_indices {I J:Inp} {s sh:Nat} (R:Rel I J s sh) (O O':Option (Nat→Res Ex)) (h:AgrO I s sh O O'):∀ (f g:Nat) (e:Ex) (n:Nat),f≤g→I.L.length≤n+f →
  Agr I s sh id n (Ps.indices I O f e n) (Ps.indices J O' g e (n+s)):=by
 intro f
 induction f with
 | zero=>
  intro g e n hg hn;unfold Ps.indices;exact ⟨fun v m ev=>by cases ev;exact ⟨Nat.le_refl _,fun hm=>by omega⟩,fun c a ev=>by cases ev⟩
 | succ f ih=>
  intro g e n hg hn;obtain ⟨g,rfl⟩:∃ g',g=g'+1:=⟨g-1,by omega⟩;unfold Ps.indices;refine zBY R (by decide) (fun hl=>?_) (Agr.ret _ _ _ nR _ (fun _=>rfl))
  match O,O',h with
  | none,none,h=>
   refine ⟨fun v m e=>(by cases e),fun c a e=>?_⟩
   cases e
   exact ⟨by omega,R.le n,fun _=>⟨hl,by show Res.err 6 (J.pk (n+s)).place=_;rw [R.at_ hl]⟩⟩
  | some A,some A',h=>
   show Agr I s sh id n ((Ps.index I (Ps.exprOf I A) e (n+1)).bind _) ((Ps.index J (Ps.exprOf J A') e (n+s+1)).bind _)
   rw [show n+s+1=n+1+s by omega];refine Agr.lower (n:=n+1) ?_ (by omega);exact (agr_index R _ _ (zAJ R A A' h) _ _).bind fun v m hm=>ih g _ _ (by omega) (by omega)
theorem zDc {I:Inp} {s sh:Nat} (A A':Nat→Res Ex) (h:∀ n,Agr I s sh id n (A n) (A' (n+s))) (k:Int) (n:Nat):Agr I s sh id n (Ps.signed A k n) (Ps.signed A' k (n+s)):=by
 unfold Ps.signed;exact (h n).bind fun e m hm=>Agr.ret _ _ _ nR _ (fun _=>rfl)
theorem zDd {I J:Inp} {s sh:Nat} (R:Rel I J s sh) (O O':Option (Nat→Res Ex)) (h:AgrO I s sh O O') (n:Nat):Agr I s sh id n (Ps.aheadS I O n) (Ps.aheadS J O' (n+s)):=by
 unfold Ps.aheadS;have hl:=R.len;refine zBY R (by decide) (fun hn=>zCK R O O' h n hn _ _ fun A A' hA n=>zDc A A' hA _ _) ?_;refine zBY R (by decide) (fun hn=>zCK R O O' h n hn _ _ fun A A' hA n=>zDc A A' hA _ _) ?_;exact (agr_unit R O O' h n).bind fun e m hm=>agr_indices R O O' h _ _ _ _ (by omega) (by omega)
theorem agr_ahead {I J:Inp} {s sh:Nat} (R:Rel I J s sh):∀ (d:Nat) (n:Nat),Agr I s sh id n (Ps.ahead I d n) (Ps.ahead J d (n+s))
 | 0,n=>zDd R none none trivial n
 | d+1,n=>zDd R (some _) (some _) (fun n=>agr_ahead R d n) n
theorem agr_whole {I J:Inp} {s sh:Nat} (R:Rel I J s sh) (n:Nat):Agr I s sh id n (Ps.whole I n) (Ps.whole J (n+s)):=by
 unfold Ps.whole Ps.expr;refine (zAJ R _ _ (agr_ahead R 60) n).bind fun e m hm=>?_
 split
 ·rename_i h
  rw [if_pos (by exact h)];exact (zCa R _ _ _ _).agr
 ·rename_i h
  rw [if_neg (by exact h)];exact Agr.ret _ _ _ nR _ (fun _=>rfl)
def Eqn.sh (d:Nat) (q:Eqn):Eqn:={ q with place:=q.place+(d:Int) }
theorem zDe {I J:Inp} {s sh:Nat} (R:Rel I J s sh) {α:Type} (r r':Nat→Res α) (h:∀ n,Agr I s sh id n (r n) (r' (n+s))) (f:Nat) (n:Nat) :
  Agr I s sh id n (Ps.row I r f [] n) (Ps.row J r' f [] (n+s)):=by
 have:=agr_row R r r' h f [] n;rw [show (List.map id:List α→List α)=id by funext l;exact List.map_id l] at this;exact this
theorem agr_angled {I J:Inp} {s sh:Nat} (R:Rel I J s sh) {α:Type} (r r':Nat→Res α) (h:∀ n,Agr I s sh id n (r n) (r' (n+s))) (f:Nat) (t u:List UInt8) (n:Nat) :
  Agr I s sh id n (if Ps.sees I t n=true then (Ps.row I r f [] (n+1)).bind fun z n3=>(Ps.need I u n3).bind fun _ n4=>.ok z n4 else .ok [] n)
   (if Ps.sees J t (n+s)=true then (Ps.row J r' f [] (n+s+1)).bind fun z n3=>(Ps.need J u n3).bind fun _ n4=>.ok z n4 else .ok [] (n+s)):=by
 rw [show n+s+1=n+1+s by omega];refine Agr.ite (R.seesP _) (Agr.lower (n:=n+1) ?_ (by omega)) (Agr.ret _ _ _ nR _ (fun _=>rfl));exact (zDe R r r' h _ _).bind fun v m hm=>(qC R _ m).agr.bind fun _ m1 h1=>Agr.ret _ _ _ nR _ (fun _=>rfl)
theorem agr_closed {I J:Inp} {s sh:Nat} (R:Rel I J s sh) {α:Type} (r r':Nat→Res α) (h:∀ n,Agr I s sh id n (r n) (r' (n+s))) (f:Nat) (t:List UInt8) (n:Nat) :
  Agr I s sh id n (if Ps.sees I t n=true then .ok [] (n+1) else (Ps.row I r f [] n).bind fun z n3=>(Ps.need I t n3).bind fun _ n4=>.ok z n4)
   (if Ps.sees J t (n+s)=true then .ok [] (n+s+1) else (Ps.row J r' f [] (n+s)).bind fun z n3=>(Ps.need J t n3).bind fun _ n4=>.ok z n4):=by
 rw [show n+s+1=n+1+s by omega];refine Agr.ite (R.seesP _) (Agr.ret _ _ _ (by omega) _ (fun _=>rfl)) ?_;exact (zDe R r r' h _ _).bind fun v m hm=>(qC R _ m).agr.bind fun _ m1 h1=>Agr.ret _ _ _ nR _ (fun _=>rfl)
theorem agr_call {I J:Inp} {s sh:Nat} (R:Rel I J s sh) (p p':Int) (l:List ByteArray) (n:Nat) (hp:n<I.L.length→p'=p+(sh:Int)):Agr I s sh (Eqn.sh sh) n (Ps.call I p l n) (Ps.call J p' l (n+s)):=by
 unfold Ps.call;refine (qC R _ n).agr.bind fun _ m1 h1=>(zAI R m1).agr.bind fun t m2 h2=>(agr_angled R _ _ (zBL R) _ _ _ m2).bind fun z m3 h3=>
  (qC R _ m3).agr.bind fun _ m4 h4=>(agr_closed R _ _ (agr_whole R) _ _ m4).bind fun e m5 h5=>Agr.ret _ _ _ nR _ (fun hl=>?_)
 rw [hp (by omega)];rfl
theorem agr_equation {I J:Inp} {s sh:Nat} (R:Rel I J s sh) (n:Nat):Agr I s sh (Eqn.sh sh) n (Ps.equation I n) (Ps.equation J (n+s)):=by
 unfold Ps.equation;refine (zDe R _ _ (fun n=>(zAI R n).agr) _ n).bind fun l m1 h1=>(qC R _ m1).agr.bind fun _ m2 h2=>?_;refine Agr.ite (fun hl=>by rw [R.sees hl];rfl) ?_ ?_
 ·exact (agr_whole R m2).bind fun e m3 h3=>Agr.ret _ _ _ nR _ (fun hl=>by rw [R.at_ (by omega)];rfl)
 ·exact agr_call R _ _ _ _ (fun hl=>by rw [R.at_ (by omega)];push_cast;rfl)
end Go.Proofs.YthkpanbgkimhoaaGreatDoor
