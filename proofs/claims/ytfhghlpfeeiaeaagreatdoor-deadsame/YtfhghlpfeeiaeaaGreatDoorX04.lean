import Derived.Test.YtfhghlpfeeiaeaaGreatDoorX03
import Derived.Shelf.Lay
import Derived.Shelf.Sort.Plain
import Derived.Shelf.Slices.CompactI
import Derived.Shelf.Slices.In.SortNone
import Derived.Ground.NamesProg
set_option linter.unusedVariables false
set_option linter.unusedSimpArgs false
set_option maxHeartbeats 64000000
set_option maxRecDepth 100000
namespace Go.Proofs.YtfhghlpfeeiaeaaGreatDoor
open Go.Shelf Go.RowKit Go.Lib Go.IntWalk Go.Sort
def HInts (ok:Nat->Prop) (w:World) (v:Value) (L:List Int):Prop:=∃ C,Sl ok 1 w v L.length C/\∀ i (h:i<L.length),C i=[.int .i64 L[i]]
theorem HInts.at {ok:Nat->Prop} {w:World} {v:Value} {l:List Int} (h:HInts ok w v l) :
  ∃ ao cap,v=.slice ao l.length cap/\l.length<=cap/\cap<=maxLen/\∀ i (h:i<l.length),∃ b o,ao=some ⟨b,o,none⟩/\b<w.heap.size/\w.cell? ⟨b,o+i,none⟩=some (.int .i64 l[i]):=by
 obtain ⟨C,⟨ao,cap,hv,h1,h2,h3⟩,hC⟩:=h;refine ⟨ao,cap,hv,h1,h2,fun i hi=>?_⟩;obtain ⟨b,o,ha,gG,hb,hc⟩:=h3 (by omega);have:=(hc i hi).2 0 (by decide);rw [hC i hi] at this;exact ⟨b,o,ha,hb,by simpa using this⟩
theorem HInts.keep {ok:Nat->Prop} {w w':World} {v:Value} {l:List Int} (h:HInts ok w v l) (h1:w.heap.size<=w'.heap.size) (h2:∀ i,ok i->i<w.heap.size->w'.heap[i]?=w.heap[i]?):HInts ok w' v l:=by
 obtain ⟨C,h3,h4⟩:=h;exact ⟨C,h3.keep h1 h2,h4⟩
theorem HInts.under {ok:Nat->Prop} {w w':World} {v:Value} {l:List Int} (h:HInts ok w v l) (b:Below w.heap.size w w'):HInts ok w' v l:=h.keep b.size fun i _ hl=>b.block i hl
theorem HInts.wide {ok ok':Nat->Prop} {w:World} {v:Value} {l:List Int} (h:HInts ok w v l) (hk:∀ i,ok i->i<w.heap.size->ok' i):HInts ok' w v l:=by
 obtain ⟨C,h3,h4⟩:=h;exact ⟨C,h3.wide hk,h4⟩
theorem Tryz.infoI:(Tryz.prog.info? 3).map (fun i=>(i.zero,i.size,i.bytes))=some (some (.int .i64 0),1,8):=by kernel_rfl
def kInt:Kind Int where
 ty:=3
 k:=1
 bytes:=8
 zero:=.int .i64 0
 E:=fun _ _ cs x=>cs=[.int .i64 x]
 pos:=by decide
 zs:=rfl
 info:=Tryz.infoI
 len:=by rintro _ _ _ _ rfl;rfl
 one:=by rintro _ _ _ _ rfl;simp;rfl
 keep:=by rintro _ _ _ _ _ rfl _ _;rfl
 wide:=by rintro _ _ _ _ _ rfl _;rfl
theorem zBj {ok:Nat->Prop} {w:World} {v:Value} {l:List Int} (h:HRow kInt ok w v l):HInts ok w v l:=h
def ics (l:List Int):List Value:=l.map (Value.int .i64)
theorem zBq (l:List Int):(ics l).length=l.length:=by simp [ics]
theorem zCf (a b:List Int):ics (a++b)=ics a++ics b:=by simp [ics]
theorem zAX {l:List Int} {D:Nat->List Value} (hD:∀ j (h:j<l.length),D j=[.int .i64 l[j]]):∀ n,n<=l.length->flat D n=ics (l.take n)
 | 0,_=>by simp [flat,ics]
 | n+1,h=>by
  rw [flat,zAX hD n (by omega),hD n (by omega),List.take_succ_eq_append_getElem (by omega),zCf];rfl
def IBlk (w:World) (g:Nat) (l:List Int) (sp:List Value):Prop:=w.heap[g]?=some (.cells (ics l++sp).toArray 3 (0,0))
theorem IBlk.cell {w:World} {g:Nat} {l:List Int} {sp:List Value} (h:IBlk w g l sp) {i:Nat} (hi:i<l.length):w.cell? ⟨g,i,none⟩=some (.int .i64 l[i]):=by
 have:=coQ h i;rw [this,gT,List.getElem?_append_left (by rw [zBq];exact hi)];simp [ics,hi]
theorem zCj {B:Nat} {w:World} {v:Value} {l:List Int} (h:OwnL kInt B w v l):w.ownsRow B 3 1 v l.length (ics l):=by
 obtain ⟨D,h1,h2⟩:=h;have e1:=zAX (l:=l) (D:=D) (fun j hj=>h2 j hj) l.length zBR;rw [List.take_length] at e1;rw [<-e1];exact h1
theorem flat_ics (l:List Int):flat (fun j=>[.int .i64 (l[j]!)]) l.length=ics l:=by
 have e1:=zAX (l:=l) (D:=fun j=>[.int .i64 (l[j]!)]) (fun j hj=>by simp [hj]) l.length zBR;rw [List.take_length] at e1;exact e1
theorem rows_own {B:Nat} {w:World} {v:Value} {l:List Int} (h:w.ownsRow B 3 1 v l.length (ics l)):OwnL kInt B w v l:=by
 refine ⟨fun j=>[.int .i64 (l[j]!)],?_,fun j hj=>?_⟩
 ·rw [flat_ics];exact h
 ·show [Value.int .i64 (l[j]!)]=[.int .i64 (l[j])]
  simp [hj]
theorem zAY {B:Nat} {w:World} {v:Value} {l:List Int} (h:OwnL kInt B w v l) :
  (v=.slice none 0 0/\l=[])\/∃ g c sp,v=.slice (some ⟨g,0,none⟩) l.length c/\B<=g/\IBlk w g l sp/\l.length<=c/\c<=maxLen/\l.length+sp.length=c:=by
 have h1:=zCj h;rcases h1.2 with ⟨hv,h0⟩ | ⟨g,cap,cur,hv,hb,hg,mA,jU,nH,ng⟩
 ·exact .inl ⟨hv,List.eq_nil_of_length_eq_zero h0⟩
 ·have e2:cur=(ics l++cur.toList.drop l.length).toArray:=by
   have:cur.toList=ics l++cur.toList.drop l.length:=by
    have ht:cur.toList.take l.length=ics l:=(by simpa using ng);rw [<-ht,List.take_append_drop]
   rw [<-this]
  refine .inr ⟨g,cap,cur.toList.drop l.length,hv,hb,?_,mA,jU,?_⟩
  ·unfold IBlk
   rw [<-e2];exact hg
  ·have Oz:cur.size=cap:=by simpa using nH
   simp;omega
theorem zCk {B g c:Nat} {w:World} {l:List Int} {sp:List Value} (h:IBlk w g l sp) (hB:B<=g) (hc:l.length<=c) (hm:c<=maxLen) (hs:l.length+sp.length=c):OwnL kInt B w (.slice (some ⟨g,0,none⟩) l.length c) l:=by
 refine rows_own ⟨by rw [zBq];omega,.inr ⟨g,c,_,rfl,hB,h,hc,hm,?_,?_⟩⟩
 ·show (ics l++sp).toArray.size=c*1
  simp [zBq];omega
 ·show (ics l++sp).toArray.toList.take (l.length*1)=ics l
  rw [List.toList_toArray,Nat.mul_one,<-zBq l,List.take_left]
theorem IBlk.holds {w:World} {g:Nat} {l:List Int} {sp:List Value} (h:IBlk w g l sp):Holds (Value.int .i64) w g 0 l.toArray:=by
 intro j hj;have gP:j<l.length:=(by simpa using hj);rw [Nat.zero_add];refine ⟨?_,foQ h j⟩;rw [h.cell gP];simp [gP]
theorem HInts.news {ok:Nat->Prop} {w:World} {a:Addr} {cap:Nat} {l:List Int} (h:HInts ok w (.slice (some a) l.length cap) l):∀ j u,(ics l)[j]?=some u->w.cell? (a.add j)=some u:=by
 obtain ⟨ao,dk,ev,_,_,bo⟩:=h.at;injection ev with nD _ _;subst nD;intro j u hj;have jd:j<l.length:=by
  rcases Nat.lt_or_ge j l.length with h | h
  ·exact h
  ·rw [List.getElem?_eq_none (by rw [zBq];exact h)] at hj;cases hj
 obtain ⟨b,o,e,hb,c0⟩:=bo j jd;injection e with e;subst e;have kx:(⟨b,o,none⟩:Addr).add j=⟨b,o+j,none⟩:=by unfold Addr.add;split<;>simp_all
 rw [kx,c0,<-hj];simp [ics,jd]
theorem ics_one (l:List Int):∀ u ∈ ics l,u.oneCell'=true:=by
 intro u hu;simp [ics] at hu;obtain ⟨x,_,rfl⟩:=hu;rfl
theorem run_cat {ok:Nat->Prop} {B:Nat} {w:World} {v u:Value} {l m:List Int} {ty:TypeId} (cf:OwnL kInt B w v l) (hm:HInts ok w u m) (hB:B<=w.heap.size) (hlen:l.length+m.length<=3000000) :
  ∃ v' w',(Builtin.append_ #[23,23] ty #[v,u]).run Tryz.prog w=.ok v' w'/\OwnL kInt B w' v' (l++m)/\Below B w w'/\w.grownBy w' v.ownBlock:=by
 obtain ⟨i0,hi,iM,jw,dZ⟩:=info_parts kInt.info;obtain ⟨ao,cap,rfl,bH,cG,bo⟩:=hm.at
 cases ao with
 | none=>
  cases m with
  | nil=>
   rw [List.length_nil,List.append_nil];have hr:(Builtin.append_ #[23,23] ty #[v,.slice none 0 cap]).run Tryz.prog w=.ok v w:=by
    have oz:Tryz.prog.info? 3=some i0:=hi;rcases (zCj cf).2 with ⟨rfl,h0⟩ | ⟨g,c,cur,rfl,_,_,mA,_⟩
    ·simp [Builtin.append_,run_underlying Tryz.underlying23,sizeOf,typeInfo,oz,Builtin.lenOf,Builtin.firstCells]
    ·simp [Builtin.append_,run_underlying Tryz.underlying23,sizeOf,typeInfo,oz,Builtin.lenOf,Builtin.firstCells,mA,storeCells]
   exact ⟨v,w,hr,cf,Below.refl _ _,⟨rfl,rfl,rfl,Nat.le_refl _,fun _ _ _=>rfl⟩⟩
  | cons t m'=>
   obtain ⟨b,o,e,_⟩:=bo 0 (by simp)
   cases e
 | some a=>
  obtain ⟨v',w',hr,h2,h3,h4⟩:=zCt (P:=Tryz.prog) w B 23 ty 3 i0 kInt.zero 1 8 Tryz.underlying23 hi iM jw dZ rfl (by decide) v l.length _ (zCj cf) a m.length cap (ics m) (by rw [zBq];omega) hm.news (ics_one m) (by unfold maxLen;omega) (by omega) hB;refine ⟨v',w',hr,rows_own ?_,Below.push (Below.refl B w) hB (zCj cf) h3,h3⟩;rw [List.length_append,zCf];exact h2
shelf_lay Lays.n189 Nm 189 at Tryz as lay16
shelf_lay Lays2.n20 Nm2 20 at Tryz as lay17
end Go.Proofs.YtfhghlpfeeiaeaaGreatDoor
namespace Go.Proofs.YtfhghlpfeeiaeaaGreatDoor
open Go.Shelf Go.RowKit Go.Lib Go.IntWalk
structure Pu where
 op:Int
 k:Int
 v:Int
 n:Int
def Pu.cs (p:Pu):List Value:=[.int .i64 p.op,.int .i64 p.k,.int .i64 p.v,.int .i64 p.n]
def nmd (p:Pu):Bool:=p.op==2 || p.op==3 || p.op==8
def HPu (ok:Nat->Prop) (w:World) (v:Value) (L:List Pu):Prop:=∃ C,Sl ok 4 w v L.length C/\∀ i (h:i<L.length),C i=(L[i]).cs
theorem HPu.at {ok:Nat->Prop} {w:World} {v:Value} {l:List Pu} (h:HPu ok w v l) :
  ∃ ao cap,v=.slice ao l.length cap/\l.length<=cap/\cap<=maxLen/\∀ i (h:i<l.length),∃ b o,ao=some ⟨b,o,none⟩/\b<w.heap.size/\w.cell? ⟨b,o+i*4,none⟩=some (.int .i64 (l[i]).op)/\w.cell? ⟨b,o+i*4+1,none⟩=some (.int .i64 (l[i]).k)/\w.cell? ⟨b,o+i*4+2,none⟩=some (.int .i64 (l[i]).v)/\w.cell? ⟨b,o+i*4+3,none⟩=some (.int .i64 (l[i]).n):=by
 obtain ⟨C,⟨ao,cap,hv,h1,h2,h3⟩,hC⟩:=h;refine ⟨ao,cap,hv,h1,h2,fun i hi=>?_⟩;obtain ⟨b,o,ha,gG,hb,hc⟩:=h3 (by omega);have eh:=(hc i hi).2;rw [hC i hi] at eh;exact ⟨b,o,ha,hb,eh 0 (by decide),eh 1 (by decide),eh 2 (by decide),eh 3 (by decide)⟩
theorem HPu.keep {ok:Nat->Prop} {w w':World} {v:Value} {l:List Pu} (h:HPu ok w v l) (h1:w.heap.size<=w'.heap.size) (h2:∀ i,ok i->i<w.heap.size->w'.heap[i]?=w.heap[i]?):HPu ok w' v l:=by
 obtain ⟨C,h3,h4⟩:=h;exact ⟨C,h3.keep h1 h2,h4⟩
theorem HPu.under {ok:Nat->Prop} {w w':World} {v:Value} {l:List Pu} (h:HPu ok w v l) (b:Below w.heap.size w w'):HPu ok w' v l:=h.keep b.size fun i _ hl=>b.block i hl
theorem zCl (p:Pu) (w:World):Calls Tryz.prog 80 #[.agg #[.int .i64 p.op,.int .i64 p.k,.int .i64 p.v,.int .i64 p.n]] w fun e w'=>e=.returned (.bool (nmd p))/\Below w.heap.size w w':=by
 have bA:Below w.heap.size w (w.alloc (.cells #[.int .i64 p.op,.int .i64 p.k,.int .i64 p.v,.int .i64 p.n] 66 (0,0))):=(Below.refl _ _).alloc zBR _;unfold nmd;by_cases h2:(p.op==2)=true
 ·go_enter Tryz.func80,Tryz.ntmps80
  go_wp2;go_ret;exact ⟨by simp [h2],bA⟩
 have h2:(p.op==2)=false:=(by simpa using h2);by_cases h3:(p.op==3)=true
 ·go_enter Tryz.func80,Tryz.ntmps80
  go_wp2;go_ret;exact ⟨by simp [h2,h3],bA⟩
 have h3:(p.op==3)=false:=(by simpa using h3);go_enter Tryz.func80,Tryz.ntmps80;go_wp2;go_ret;exact ⟨by simp [h2,h3],bA⟩
/-! ### sorting, and each once -/
theorem put_cells (l d:List Int) (sp:List Value) (h:d.length=l.length):Sort.putCells (Value.int .i64) 0 d.toArray (ics l++sp).toArray=(ics d++sp).toArray:=by
 apply Array.ext_getElem?
 intro k;unfold Sort.putCells;rw [Array.getElem?_mapIdx,gT,gT];by_cases hk:k<l.length
 ·rw [List.getElem?_append_left (by rw [zBq];exact hk),List.getElem?_append_left (by rw [zBq,h];exact hk)]
  simp [ics,hk,h]
 ·rw [List.getElem?_append_right (by rw [zBq];omega),List.getElem?_append_right (by rw [zBq];omega),zBq,zBq,h]
  cases hx:sp[k-l.length]? with
  | none=>rfl
  | some x=>
   simp only [Option.map_some,Nat.zero_add,Nat.zero_le,true_and];rw [if_neg (by simp;omega)]
theorem IBlk.put {w:World} {g:Nat} {l d:List Int} {sp:List Value} (h:IBlk w g l sp) (hd:d.length=l.length) (q:Nat) (os:Array Obj) :
  IBlk (Sort.grow (Sort.putRow (Value.int .i64) (Sort.ahead w q) g 0 d.toArray) os) g d sp/\Aside [g] w.heap.size w (Sort.grow (Sort.putRow (Value.int .i64) (Sort.ahead w q) g 0 d.toArray) os):=by
 have hh:(Sort.grow (Sort.putRow (Value.int .i64) (Sort.ahead w q) g 0 d.toArray) os).heap=w.heap.modify g (Sort.onCells (Sort.putCells (Value.int .i64) 0 d.toArray))++os:=rfl;have hg:=zBM h;refine ⟨?_,⟨rfl,rfl,rfl,?_,fun k hk hn=>?_⟩⟩
 ·unfold IBlk
  rw [hh,Array.getElem?_append_left (by simpa using hg),Array.getElem?_modify,if_pos rfl,h];simp only [Option.map_some,Sort.onCells];rw [put_cells l d sp hd]
 ·rw [hh];simp
 ·rw [hh,Array.getElem?_append_left (by simpa using hk),Array.getElem?_modify,if_neg (fun e=>hn (by simp [e]))]
def leB (x y:Int):Bool:=decide (x<=y)
theorem sort_any {B:Nat} {w:World} {v:Value} {l:List Int} (h:OwnL kInt B w v l) (hl:l.length<=3000000) :
  Calls Tryz.prog 81 #[v] w fun e w'=>e=.returned (.tuple #[])/\OwnL kInt B w' v (l.mergeSort leB)/\Below B w w':=by
 rcases zAY h with ⟨rfl,rfl⟩ | ⟨g,c,sp,rfl,hB,hb,h1,h2,h3⟩
 ·have:=Any.slices_Sort_int_none lay16 none 0 w
  change Calls Tryz.prog 81 _ _ _ at this
  refine this.mono ?_;rintro e w' ⟨rfl,rfl⟩;exact ⟨rfl,by simpa using h,Below.refl _ _⟩
 ·have:=Any.slices_Sort_int lay16 g 0 c l w hb.holds (zBM hb) (by omega)
  change Calls Tryz.prog 81 _ _ _ at this
  refine this.mono ?_;rintro e w' ⟨rfl,q,os,rfl⟩;obtain ⟨k1,k2⟩:=hb.put (d:=l.mergeSort leB) (by rw [List.length_mergeSort]) q os;have e1:(l.mergeSort leB).length=l.length:=List.length_mergeSort _;have ho:=zCk k1 hB (by rw [e1];exact h1) h2 (by rw [e1];exact h3);rw [e1] at ho;exact ⟨rfl,ho,⟨k2.os,k2.tape,k2.output,k2.size,fun k hk=>k2.block k (by have:=zBM hb;omega) (by simp;omega)⟩⟩
theorem compact_len (l:List Int):(Lib.compact l).length<=l.length:=by
 unfold Lib.compact Lib.compactUpTo;rw [List.length_map];have:=List.length_filter_le (Lib.keeps l.toArray) (List.range l.length)
 simpa using this
theorem compact_any {B:Nat} {w:World} {v:Value} {l:List Int} (h:OwnL kInt B w v l) (hl:l.length<=3000000) :
  Calls Tryz.prog 82 #[v] w fun e w'=>∃ v',e=.returned v'/\OwnL kInt B w' v' (Lib.compact l)/\Below B w w':=by
 rcases zAY h with ⟨rfl,rfl⟩ | ⟨g,c,sp,rfl,hB,hb,h1,h2,h3⟩
 ·have:=Any.slices_Compact_int_empty lay17 none 0 w
  change Calls Tryz.prog 82 _ _ _ at this
  refine this.mono ?_;rintro e w' ⟨rfl,rfl⟩;exact ⟨_,rfl,by simpa [Lib.compact,Lib.compactUpTo] using h,Below.refl _ _⟩
 ·have:=Any.slices_Compact_int lay17 g 0 c l w hb.holds (by omega) h1
  change Calls Tryz.prog 82 _ _ _ at this
  refine this.mono ?_;rintro e w' ⟨rfl,q,rfl⟩;have hn:=compact_len l;obtain ⟨k1,k2⟩:=hb.put (d:=Lib.compact l++List.replicate (l.length-(Lib.compact l).length) 0) (by rw [List.length_append,List.length_replicate];omega) q #[];rw [Sort.grow_empty] at k1 k2;unfold IBlk at k1;rw [zCf,List.append_assoc] at k1;have ho:=zCk (B:=B) (l:=Lib.compact l) k1 hB (by omega) h2 (by rw [List.length_append,zBq,List.length_replicate];omega);exact ⟨_,rfl,ho,⟨k2.os,k2.tape,k2.output,k2.size,fun k hk=>k2.block k (by have:=zBM hb;omega) (by simp;omega)⟩⟩
end Go.Proofs.YtfhghlpfeeiaeaaGreatDoor
namespace Go.Proofs.YtfhghlpfeeiaeaaGreatDoor
open Go.Shelf Go.RowKit Go.Lib Go.IntWalk
def usesL (A:List Int) (E:List Pu):List Int:=A++(E.filter nmd).map (·.v)
def usesT (A:List Int) (E:List Pu):List Int:=Lib.compact ((usesL A E).mergeSort leB)
theorem zAZ (A:List Int) (E:List Pu) (i:Nat) (h:i<E.length):usesL A (E.take (i+1))=usesL A (E.take i)++(if nmd E[i]=true then [(E[i]).v] else []):=by
 unfold usesL;rw [List.take_succ_eq_append_getElem h,List.filter_append,List.map_append,List.append_assoc]
 congr 2
 by_cases hn:nmd E[i]=true<;>simp [hn]
theorem zCZ (A:List Int) (E:List Pu):(usesL A E).length<=A.length+E.length:=by
 unfold usesL;have:=List.length_filter_le nmd E;simp;omega
theorem wpList_cat {w w':World} {ops:Array Oper} {rest:List Oper} {o:Oper} {a:Act} {Q:Exit->Act->World->Prop} (xa:o.guard=none) (s x:Operand) (ho:o.op=.call { callee:=.builtin .append,args:=#[s,x],argTypes:=#[23,23] }) (v u v':Value) (hs:a.eval s=v) (hx:a.eval x=u)
  (hr:(Builtin.append_ #[23,23] o.type #[v,u]).run Tryz.prog w=.ok v' w') (h:wpList Tryz.prog ops Q rest (a.put o.dst v') w'):wpList Tryz.prog ops Q (o :: rest) a w:=by
 refine wpList_plain xa fun _ hK=>?_;unfold Oper.wp execOp;simp only [ho,resolve,invoke,builtin,Sem.run_bind,Sem.run_pure,Result.andThen_ok,List.map_toArray,List.map_cons,List.map_nil,hs,hx,hr];exact hK _ _ h
theorem zCG {B B':Nat} {w:World} {v:Value} {l:List Int} (h:OwnL kInt B w v l) (hb:B'<=B):OwnL kInt B' w v l:=by
 rcases zAY h with ⟨rfl,rfl⟩ | ⟨g,c,sp,rfl,hB,hk,h1,h2,h3⟩
 ·exact OwnL.nil
 ·exact zCk hk (Nat.le_trans hb hB) h1 h2 h3
theorem zCm {ok:Nat->Prop} {w:World} {va ve:Value} {A:List Int} {E:List Pu} (op k out n:Int) (hA:HInts ok w va A) (hE:HPu ok w ve E) (dm:A.length<=1000000) (fo:E.length<=1000000) :
  Calls Tryz.prog 71 #[.agg #[.int .i64 op,.int .i64 k,.int .i64 out,.int .i64 n,va,ve]] w fun e w'=>∃ v,e=.returned v/\OwnL kInt w.heap.size w' v (usesT A E)/\Below w.heap.size w w':=by
 obtain ⟨aA,cA,rfl,pM,la,_⟩:=hA.at;obtain ⟨aE,cE,rfl,tN,tP,_⟩:=hE.at;have HA:=zBK hA;have HE:=zBK hE;clear hA hE;obtain ⟨W,hW⟩:=nmQ (w.alloc (.cells #[.int .i64 op,.int .i64 k,.int .i64 out,.int .i64 n,.slice aA A.length cA,.slice aE E.length cE] 42 (0,0)));have bA:=newB hW;have KA:W.heap[w.heap.size]?=some (.cells #[.int .i64 op,.int .i64 k,.int .i64 out,.int .i64 n,.slice aA A.length cA,.slice aE E.length cE] 42 (0,0)):=(by rw [hW];exact zBO w _);obtain ⟨i0,hi,iM,jw,dZ⟩:=info_parts kInt.info;obtain ⟨M,hM⟩:=nmQ (madeCells (Value.int .i64 0).cells ((A.length+E.length)*i0.size));have oG:∀ V:World,(Instr.makeSlice 23 (.int .i64 0) (.int .i64 ((A.length:Int)+(E.length:Int)))).run Tryz.prog V=.ok (.slice (some ⟨V.heap.size,0,none⟩) 0 (A.length+E.length)) (V.alloc (.cells M 3)):=fun V=>by
  have h:=run_make (P:=Tryz.prog) V 23 3 i0 (.int .i64 0) Tryz.underlying23 hi iM .i64 .i64 0 ((A.length:Int)+(E.length:Int)) (by omega) (by omega) (by rw [dZ];simp [kInt];omega) (by omega);have e:((A.length:Int)+(E.length:Int)).toNat=A.length+E.length:=(by omega)
  simpa [hM,e] using h
 have Kv:M.size=A.length+E.length:=(by rw [hM,jw];simp [madeCells,kInt,Value.cells]);clear hM;go_enter Tryz.func71,Tryz.ntmps71;go_upto_region 1 with fail;rw [<-hW];clear hW;have d4:=coQ KA 4;have d5:=coQ KA 5;simp at d4 d5;go_upto_region 2 with fail;obtain ⟨w1,iA⟩:=nmQ ((W.alloc (.cells M 3 (0,0))));have b1:Below W.heap.size W w1:=(by rw [iA];exact ((Below.refl _ _).alloc zBR _));have K1:w1.heap[W.heap.size]?=some (.cells M 3 (0,0)):=(by rw [iA];exact zBO W (.cells M 3 (0,0)));rw [<-iA];clear iA oG hi iM jw dZ d4 d5;have KB:=(b1.block _ (zBM KA)).trans KA;have Oi:w.heap.size+1<=W.heap.size:=zBM KA;have o1:OwnL kInt (w.heap.size+1) w1 (.slice (some ⟨W.heap.size,0,none⟩) 0 (A.length+E.length)) []:=by
  have Od:IBlk w1 W.heap.size [] M.toList:=(by unfold IBlk;rw [K1];simp [ics]);exact zCk (l:=[]) Od Oi (Nat.zero_le _) (by unfold maxLen;omega) (by simp [Kv])
 clear K1;have bW:=bA.trans (b1.mono bA.size);obtain ⟨v2,w2,r2,o2,b2,g2⟩:=run_cat (ty:=23) (w:=w1) o1 (HA.out.under bW) (by have:=b1.size;omega) (by simp;omega);have d4:=coQ KB 4;simp at d4;go_upto_region 3 with (at_builtin;refine wpList_cat rfl _ _ rfl _ _ _ (by rfl) (by rfl) r2 ?_);have KC:w2.heap[w.heap.size]?=some (.cells #[.int .i64 op,.int .i64 k,.int .i64 out,.int .i64 n,.slice aA A.length cA,.slice aE E.length cE] 42 (0,0)):=(b2.block _ (Nat.lt_succ_self _)).trans KB;clear d4 r2 g2;have bX:Below w.heap.size w w2:=bW.trans (b2.mono (Nat.le_succ _));rw [List.nil_append] at o2;clear b2 o1 bW bA b1 KB KA Kv;have c5:=coQ KC 5;simp at c5;go_wp2_with fail;clear c5;go_loopg [3,5,21] E.length (fun gh s3 _ P9 wr=>∃ i:Nat,P9=.int .i64 (i:Int)/\i<=E.length/\E.length<=gh+i/\Hid (OwnL kInt (w.heap.size+1) wr s3 (usesL A (E.take i)))/\Below w.heap.size w wr/\wr.heap[w.heap.size]?=some (.cells #[.int .i64 op,.int .i64 k,.int .i64 out,.int .i64 n,.slice aA A.length cA,.slice aE E.length cE] 42 (0,0)))
 case atStart=>exact ⟨0,rfl,by omega,by omega,zBK (by simpa [usesL] using o2),bX,KC⟩
 case round=>
  clear o2 bX KC;obtain ⟨i,rfl,qb,DW,HO,bR,K⟩:=hrel;have yR:=bR.size;have yK:=zBM K;by_cases bd:i<E.length
  case neg=>
   have tZ:¬(i:Int)<(E.length:Int):=(by omega);have qa:i=E.length:=(by omega);have ho:=HO.out;rw [qa,List.take_length] at ho;have xG:=zCZ A E;have F7:=sort_any ho (by omega)
   go_wp2_with (first | (go_at_call 81;refine F7.mono ?_;rintro e w3 ⟨rfl,o3,b3⟩))
   have Ke:=compact_any o3 (by rw [List.length_mergeSort];omega)
   go_wp2_with (first | (go_at_call 82;refine Ke.mono ?_;rintro e w4 ⟨v4,rfl,o4,b4⟩))
   go_ret;refine ⟨_,rfl,?_,bR.trans ((b3.trans b4).mono (Nat.le_succ _))⟩;exact zCG o4 (Nat.le_succ _)
  case pos=>
   have xh:(i:Int)<(E.length:Int):=(by omega);obtain ⟨gw,dk,ev,_,_,dr⟩:=(HE.out.under bR).at;injection ev with nD mw sf;subst nD;obtain ⟨b,o,rfl,hb,c0,c1,c2,c3⟩:=dr i bd;clear dr mw sf;have HS:=zBK (zAZ A E i bd);have xG:=zCZ A (E.take i);rw [List.length_take,Nat.min_eq_left qb] at xG;generalize E[i]=p at c0 c1 c2 c3 HS;have fB:=zCl p;go_upto_region 6 with fail;obtain ⟨wA,Ea⟩:=nmQ (wr.alloc (.cells #[.int .i64 p.op,.int .i64 p.k,.int .i64 p.v,.int .i64 p.n] 66 (0,0)));have bA:=newB Ea;have KA:=newK Ea;rw [<-Ea];clear Ea c0 c1 c2 c3;have d0:=coQ KA 0;have d1:=coQ KA 1;have d2:=coQ KA 2;have d3:=coQ KA 3;simp at d0 d1 d2 d3
   cases hn:nmd p with
   | false=>
    rw [hn] at HS;simp only [Bool.false_eq_true,if_false,List.append_nil] at HS;have hc:=fB wA;rw [hn] at hc
    go_wp2_with (go_at_call 80;refine hc.mono ?_;rintro e w' ⟨rfl,b5⟩)
    go_roundg (gk-1)
    case measure=>omega
    case rel=>exact ⟨i+1,by go_num,by omega,by omega,zBK (by rw [HS.out];exact (HO.out.below bA).below b5),bR.trans ((bA.trans (b5.mono bA.size)).mono yR),(b5.block _ (by have:=bA.size;omega)).trans ((bA.block _ yK).trans K)⟩
   | true=>
    rw [hn] at HS;simp only [if_true] at HS;have hc:=fB wA;rw [hn] at hc;go_wp2_with fail;refine hc.mono ?_;rintro e w5 ⟨rfl,b5⟩;clear d0 d1 d3;go_upto_region 7 with fail;have bB:=bA.trans (b5.mono bA.size);have KB:=(b5.block _ (zBM KA)).trans KA;clear d2;have d2:=coQ KB 2;simp at d2;have own:=HO.out.below bB;have wD:=fun k hk=>(own.lt k hk).2;have yB:=bB.size;have q1:kInt.E (fun i=>w5.heap.size<=i) w5 [.int .i64 p.v] p.v:=rfl;have q2:((usesL A (E.take i)).length+1)*kInt.bytes<=140737488355328:=(by show ((usesL A (E.take i)).length+1)*8<=_;omega);have q3:(usesL A (E.take i)).length+1<=maxLen:=(by unfold maxLen;omega);have z1:w.heap.size+1<=w5.heap.size:=(by omega)
    go_wp2_with (at_builtin;refine zBW kInt rfl _ _ 23 3 rfl Tryz.underlying23 (w.heap.size+1) w5.heap.size _ (usesL A (E.take i)) (by rfl) own [.int .i64 p.v] p.v q1 (by rfl) wD z1 z1 q2 q3 ?_;intro v8 w8 aG b8 _ _)
    go_roundg (gk-1)
    case measure=>omega
    case rel=>exact ⟨i+1,by go_num,by omega,by omega,zBK (by rw [HS.out];exact aG),(bR.trans (bB.mono yR)).trans (b8.mono (Nat.le_succ _)),(b8.block _ (Nat.lt_succ_self _)).trans ((bB.block _ yK).trans K)⟩
end Go.Proofs.YtfhghlpfeeiaeaaGreatDoor
