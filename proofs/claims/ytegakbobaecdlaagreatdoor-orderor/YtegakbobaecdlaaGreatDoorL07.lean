import Derived.Test.YtegakbobaecdlaaGreatDoorL06
import Derived.WalkKit
import Derived.WalkSpells
import Derived.IntWalk
import Derived.Lib.Hide
set_option linter.unusedVariables false
set_option linter.unusedSimpArgs false
set_option maxHeartbeats 64000000
set_option maxRecDepth 100000
namespace Go.Proofs.YtegakbobaecdlaaGreatDoor
open Go.Shelf Go.RowKit Go.Lib Go.IntWalk
def foldI (L:List Int):List Int:=L.foldl (fun o x=>ins x o) []
theorem zAe (L:List Int) (x:Int):foldI (L++[x])=ins x (foldI L):=by simp [foldI]
theorem foldl_len:∀ (L o:List Int),(L.foldl (fun o x=>ins x o) o).length<=o.length+L.length
 | [],o=>by simp
 | x :: t,o=>by
  have h1:=foldl_len t (ins x o);have h2:=ins_len x o;simp only [List.foldl_cons,List.length_cons];omega
theorem foldI_len (L:List Int):(foldI L).length<=L.length:=by simpa [foldI] using foldl_len L []
theorem named_any (p:Pu) (w:World):Calls Tryz.prog 78 #[.agg #[.int .i64 p.op,.int .i64 p.k,.int .i64 p.v,.int .i64 p.n]] w fun e w'=>e=.returned (.bool (nmd p))/\Below w.heap.size w w':=by
 have bA:Below w.heap.size w (w.alloc (.cells #[.int .i64 p.op,.int .i64 p.k,.int .i64 p.v,.int .i64 p.n] 79 (0,0))):=(Below.refl _ _).alloc zM _;unfold nmd;by_cases h2:(p.op==2)=true
 ·go_enter Tryz.func78,Tryz.ntmps78
  go_wp2;go_ret;exact ⟨by simp [h2],bA⟩
 have h2:(p.op==2)=false:=(by simpa using h2);by_cases h3:(p.op==3)=true
 ·go_enter Tryz.func78,Tryz.ntmps78
  go_wp2;go_ret;exact ⟨by simp [h2,h3],bA⟩
 have h3:(p.op==3)=false:=(by simpa using h3);go_enter Tryz.func78,Tryz.ntmps78;go_wp2;go_ret;exact ⟨by simp [h2,h3],bA⟩
theorem jX {ok:Nat->Prop} {w:World} {va ve:Value} {A:List Int} {E:List Pu} (op k out n:Int) (hA:HInts ok w va A) (hE:HPu ok w ve E) (hAl:A.length<=1000000) (hEl:E.length<=1000000) :
  Calls Tryz.prog 45 #[.agg #[.int .i64 op,.int .i64 k,.int .i64 out,.int .i64 n,va,ve]] w fun e w'=>∃ v,e=.returned v/\OwnL kInt w.heap.size w' v (foldI (usesL A E))/\Below w.heap.size w w':=by
 obtain ⟨aA,cA,rfl,hA1,hA2,_⟩:=hA.at;obtain ⟨aE,cE,rfl,hE1,hE2,_⟩:=hE.at;have HA:=zE hA;have HE:=zE hE;clear hA hE;obtain ⟨W,hW⟩:=nmQ (w.alloc (.cells #[.int .i64 op,.int .i64 k,.int .i64 out,.int .i64 n,.slice aA A.length cA,.slice aE E.length cE] 40 (0,0)));have bA:=newB hW;have KA:W.heap[w.heap.size]?=some (.cells #[.int .i64 op,.int .i64 k,.int .i64 out,.int .i64 n,.slice aA A.length cA,.slice aE E.length cE] 40 (0,0)):=(by rw [hW];exact zI w _);go_enter Tryz.func45,Tryz.ntmps45;go_upto_region 1 with fail;rw [<-hW];clear hW;go_wp2_with fail;go_loopg [3,4] A.length (fun gh s3 s4 wr=>∃ i:Nat,s4=.int .i64 (i:Int)/\i<=A.length/\A.length<=gh+i/\Hid (OwnL kInt (w.heap.size+1) wr s3 (foldI (A.take i)))/\Below w.heap.size w wr/\wr.heap[w.heap.size]?=some (.cells #[.int .i64 op,.int .i64 k,.int .i64 out,.int .i64 n,.slice aA A.length cA,.slice aE E.length cE] 40 (0,0)))
 case atStart=>exact ⟨0,rfl,by omega,by omega,zE OwnL.nil,bA,KA⟩
 case round=>
  clear bA KA;obtain ⟨i,rfl,his,hgi,HO,bR,K⟩:=hrel;have yR:=bR.size;have yK:=zG K;have d4:=coQ K 4;have d5:=coQ K 5;simp at d4 d5;by_cases hlt:i<A.length
  case neg=>
   have hge:¬(i:Int)<(A.length:Int):=(by omega);have hie:i=A.length:=(by omega);have o2:=HO.out;rw [hie,List.take_length] at o2;clear HO hie;obtain ⟨wo,hwo⟩:=nmQ (wr);subst hwo;go_upto_region 6 with fail;clear hge hgi his;go_wp2_with fail;go_loopg [3,5] E.length (fun gh s3 s5 wr=>∃ i:Nat,s5=.int .i64 (i:Int)/\i<=E.length/\E.length<=gh+i/\Hid (OwnL kInt (w.heap.size+1) wr s3 (foldI (usesL A (E.take i))))/\Below w.heap.size w wr/\wr.heap[w.heap.size]?=some (.cells #[.int .i64 op,.int .i64 k,.int .i64 out,.int .i64 n,.slice aA A.length cA,.slice aE E.length cE] 40 (0,0)))
   case atStart=>exact ⟨0,rfl,by omega,by omega,zE (by simpa [usesL] using o2),bR,K⟩
   case round=>
    clear o2 bR K d4 d5 yR yK;obtain ⟨i,rfl,his,hgi,HO,bR,K⟩:=hrel;have yR:=bR.size;have yK:=zG K;have d5:=coQ K 5;simp at d5;by_cases hlt:i<E.length
    case neg=>
     have hge:¬(i:Int)<(E.length:Int):=(by omega);have hie:i=E.length:=(by omega);have ho:=HO.out;rw [hie,List.take_length] at ho;go_wp2_with fail;go_ret;exact ⟨_,rfl,jH ho (Nat.le_succ _),bR⟩
    case pos=>
     have hltI:(i:Int)<(E.length:Int):=(by omega);obtain ⟨ao',cap',ev,_,_,hatR⟩:=(HE.out.under bR).at;injection ev with ev1 ev2 ev3;subst ev1;obtain ⟨b,o,rfl,hb,c0,c1,c2,c3⟩:=hatR i hlt;clear hatR ev2 ev3;have HX:Hid (∀ V:World,Below w.heap.size w V->V.cell? ⟨b,o+i*4+2,none⟩=some (.int .i64 (E[i]).v)):=zE (fun V bV=>by
      obtain ⟨ao',cap',ev,_,_,hatV⟩:=(HE.out.under bV).at;injection ev with ev1 ev2 ev3;subst ev1;obtain ⟨b',o',e,hb',_,_,c1,_⟩:=hatV i hlt;injection e with e;injection e with e1 e2 e3;subst e1 e2;exact c1)
     have HS:=zE (zAo A E i hlt);have hul:=foldI_len (usesL A (E.take i));have hul2:=jQ A (E.take i);rw [List.length_take,Nat.min_eq_left his] at hul2;generalize E[i]=p at c0 c1 c2 c3 HS HX;have hcall:=named_any p
     cases hn:nmd p with
     | false=>
      rw [hn] at HS;simp only [Bool.false_eq_true,if_false,List.append_nil] at HS;have hc:=hcall wr;rw [hn] at hc
      go_wp2_with (go_at_call 78;refine hc.mono ?_;rintro e w' ⟨rfl,b5⟩)
      go_roundg (gk-1)
      case measure=>omega
      case rel=>exact ⟨i+1,by go_num,by omega,by omega,zE (by rw [HS.out];exact HO.out.below b5),bR.trans (b5.mono yR),(b5.block _ yK).trans K⟩
     | true=>
      rw [hn] at HS;simp only [if_true] at HS;have hc:=hcall wr;rw [hn] at hc;go_wp2_with fail;refine hc.mono ?_;rintro e w5 ⟨rfl,b5⟩;have c5:=HX.out w5 (bR.trans (b5.mono yR));have K5:=(b5.block _ yK).trans K;clear c0 c1 c2 c3 d5;have d5:=coQ K5 5;simp at d5;have own:=HO.out.below b5;have y5:=b5.size;have hi:=zAh p.v (zR own.row) (by omega)
      go_wp2_with (go_at_call 77;refine hi.mono ?_;rintro e w6 ⟨v6,rfl,own6,b6⟩)
      go_roundg (gk-1)
      case measure=>omega
      case rel=>exact ⟨i+1,by go_num,by omega,by omega,zE (by rw [HS.out,zAe];exact jH own6 (by omega)),(bR.trans (b5.mono yR)).trans (b6.mono (by omega)),(b6.block _ (by omega)).trans K5⟩
  case pos=>
   have hltI:(i:Int)<(A.length:Int):=(by omega);obtain ⟨ao',cap',ev,_,_,hatR⟩:=(HA.out.under bR).at;injection ev with ev1 ev2 ev3;subst ev1;obtain ⟨b,o,rfl,hb,c0⟩:=hatR i hlt;clear hatR ev2 ev3;have HT:=zE (List.take_succ_eq_append_getElem hlt);have hul:=foldI_len (A.take i);rw [List.length_take,Nat.min_eq_left his] at hul;generalize A[i]=x at c0 HT;have own:=HO.out;have hi:=zAh x (zR own.row) (by omega)
   go_wp2_with (go_at_call 77;refine hi.mono ?_;rintro e w6 ⟨v6,rfl,own6,b6⟩)
   go_roundg (gk-1)
   case measure=>omega
   case rel=>exact ⟨i+1,by go_num,by omega,by omega,zE (by rw [HT.out,zAe];exact jH own6 (by omega)),bR.trans (b6.mono yR),(b6.block _ yK).trans K⟩
end Go.Proofs.YtegakbobaecdlaaGreatDoor
namespace Go.Proofs.YtegakbobaecdlaaGreatDoor
open Go.Shelf Go.RowKit Go.Lib Go.IntWalk
def SS (l:List Int):Prop:=l.Pairwise (fun x y=>x<y)
theorem ss_eq:∀ (a b:List Int),SS a->SS b->(∀ y,y ∈ a↔y ∈ b)->a=b
 | [],[],_,_,_=>rfl
 | [],y :: t,_,_,h=>by have:=(h y).2 (by simp);simp at this
 | x :: s,[],_,_,h=>by have:=(h x).1 (by simp);simp at this
 | x :: s,y :: t,ha,hb,h=>by
  have ha':=List.pairwise_cons.1 ha;have hb':=List.pairwise_cons.1 hb;have e:x=y:=by
   have h1:=(h x).1 (by simp);have h2:=(h y).2 (by simp);rcases List.mem_cons.1 h1 with h1 | h1
   ·exact h1
   rcases List.mem_cons.1 h2 with h2 | h2
   ·exact h2.symm
   have:=hb'.1 x h1;have:=ha'.1 y h2;omega
  subst e;have:=ss_eq s t ha'.2 hb'.2 (fun z=>by
   constructor
   ·intro hz
    rcases List.mem_cons.1 ((h z).1 (List.mem_cons_of_mem _ hz)) with q | q
    ·have:=ha'.1 z hz;omega
    ·exact q
   ·intro hz
    rcases List.mem_cons.1 ((h z).2 (List.mem_cons_of_mem _ hz)) with q | q
    ·have:=hb'.1 z hz;omega
    ·exact q)
  rw [this]
theorem mem_ins (n y:Int):∀ (l:List Int),y ∈ ins n l↔y=n\/y ∈ l
 | []=>by simp [ins]
 | x :: t=>by
  have ih:=mem_ins n y t;rw [ins];by_cases h1:n<=x
  ·rw [if_pos h1]
   by_cases h2:n<x
   ·rw [if_pos h2];simp
   ·rw [if_neg h2]
    have:x=n:=(by omega);subst this;simp
  ·rw [if_neg h1]
   simp only [List.mem_cons,ih]
   constructor
   ·rintro (h | h | h)
    ·exact .inr (.inl h)
    ·exact .inl h
    ·exact .inr (.inr h)
   ·rintro (h | h | h)
    ·exact .inr (.inl h)
    ·exact .inl h
    ·exact .inr (.inr h)
theorem ins_ss (n:Int):∀ (l:List Int),SS l->SS (ins n l)
 | [],_=>by simp [ins,SS]
 | x :: t,h=>by
  have h':=List.pairwise_cons.1 h;rw [ins];by_cases h1:n<=x
  ·rw [if_pos h1]
   by_cases h2:n<x
   ·rw [if_pos h2]
    refine List.pairwise_cons.2 ⟨fun y hy=>?_,h⟩;rcases List.mem_cons.1 hy with e | hy
    ·omega
    ·have:=h'.1 y hy;omega
   ·rw [if_neg h2];exact h
  ·rw [if_neg h1]
   refine List.pairwise_cons.2 ⟨fun y hy=>?_,ins_ss n t h'.2⟩;rcases (mem_ins n y t).1 hy with e | hy
   ·omega
   ·exact h'.1 y hy
theorem zAf:∀ (L o:List Int),SS o->SS (L.foldl (fun o x=>ins x o) o)/\∀ y,y ∈ L.foldl (fun o x=>ins x o) o↔y ∈ o\/y ∈ L
 | [],o,h=>⟨h,fun y=>by simp⟩
 | x :: t,o,h=>by
  obtain ⟨h1,h2⟩:=zAf t (ins x o) (ins_ss x o h);refine ⟨h1,fun y=>?_⟩;rw [List.foldl_cons,h2 y,mem_ins,List.mem_cons]
  constructor
  ·rintro ((h | h) | h)
   ·exact .inr (.inl h)
   ·exact .inl h
   ·exact .inr (.inr h)
  ·rintro (h | h | h)
   ·exact .inl (.inr h)
   ·exact .inl (.inl h)
   ·exact .inr h
theorem zAg {l:List Int} (hs:l.Pairwise (fun x y=>x<=y)):∀ m,m<=l.length->SS (Lib.compactUpTo l.toArray m)/\∀ y,y ∈ Lib.compactUpTo l.toArray m↔∃ j,j<m/\l.toArray[j]! = y
 | 0,_=>⟨by simp [Lib.compactUpTo,SS],fun y=>by simp [Lib.compactUpTo]⟩
 | m+1,hm=>by
  obtain ⟨h1,h2⟩:=zAg hs m (by omega);have hle:∀ i j,i<=j->j<l.length->l.toArray[i]! <= l.toArray[j]! := fun i j hij hj=>by
   rcases Nat.lt_or_eq_of_le hij with h | h
   ·have:=(List.pairwise_iff_getElem.1 hs) i j (by omega) hj h
    simpa [hj,show i<l.length by omega] using this
   ·subst h;exact Int.le_refl _
  rw [Lib.compactUpTo_succ];by_cases hk:Lib.keeps l.toArray m=true
  ·rw [if_pos hk]
   refine ⟨?_,fun y=>?_⟩
   ·refine List.pairwise_append.2 ⟨h1,by simp,fun a ha b hb=>?_⟩
    obtain rfl:b=l.toArray[m]! := by simpa using hb
    obtain ⟨j,hj,rfl⟩:=(h2 a).1 ha;have hk':m=0\/l.toArray[m]! ≠ l.toArray[m-1]! := (by simpa [Lib.keeps] using hk);rcases hk' with h | h
    ·omega
    ·have:=hle j (m-1) (by omega) (by omega)
     have:=hle (m-1) m (by omega) (by omega);omega
   ·rw [List.mem_append,h2 y,List.mem_singleton]
    constructor
    ·rintro (⟨j,hj,e⟩ | e)
     ·exact ⟨j,by omega,e⟩
     ·exact ⟨m,by omega,e.symm⟩
    ·rintro ⟨j,hj,e⟩
     rcases Nat.lt_or_eq_of_le (Nat.le_of_lt_succ hj) with h | h
     ·exact .inl ⟨j,h,e⟩
     ·subst h;exact .inr e.symm
  ·rw [if_neg hk,List.append_nil]
   refine ⟨h1,fun y=>?_⟩;have hk':m≠0/\l.toArray[m]! = l.toArray[m-1]! := by
    have:¬(m=0\/l.toArray[m]! ≠ l.toArray[m-1]!):=by
     intro h;exact hk (by unfold Lib.keeps;exact decide_eq_true h)
    constructor
    ·intro h;exact this (.inl h)
    ·exact Decidable.byContradiction fun h=>this (.inr h)
   rw [h2 y]
   constructor
   ·rintro ⟨j,hj,e⟩;exact ⟨j,by omega,e⟩
   ·rintro ⟨j,hj,e⟩
    rcases Nat.lt_or_eq_of_le (Nat.le_of_lt_succ hj) with h | h
    ·exact ⟨j,h,e⟩
    ·subst h;exact ⟨j-1,by omega,by rw [<-hk'.2];exact e⟩
theorem sort_le (L:List Int):(L.mergeSort leB).Pairwise (fun x y=>x<=y):=by
 have h:=List.pairwise_mergeSort (le:=leB) (by intro a b c;simp [leB];omega) (by intro a b;simp [leB];omega) L;exact h.imp (fun h=>by simpa [leB] using h)
theorem arr_at (l:List Int) (j:Nat) (h:j<l.length):l.toArray[j]! = l[j]:=by simp [h]
theorem foldI_eq (L:List Int):foldI L=Lib.compact (L.mergeSort leB):=by
 obtain ⟨h1,h2⟩:=zAf L [] (by simp [SS]);obtain ⟨h3,h4⟩:=zAg (sort_le L) (L.mergeSort leB).length zM;refine ss_eq _ _ h1 h3 (fun y=>?_);unfold foldI Lib.compact;rw [h2 y];rw [h4 y]
 constructor
 ·rintro (h | h)
  ·cases h
  ·have hm:y ∈ L.mergeSort leB:=List.mem_mergeSort.2 h
   obtain ⟨j,hj,e⟩:=List.getElem_of_mem hm;exact ⟨j,hj,by rw [arr_at _ j hj];exact e⟩
 ·rintro ⟨j,hj,e⟩
  have hm:y ∈ L.mergeSort leB:=(by rw [<-e,arr_at _ j hj];exact List.getElem_mem hj);exact .inr (List.mem_mergeSort.1 hm)
end Go.Proofs.YtegakbobaecdlaaGreatDoor
namespace Go.Proofs.YtegakbobaecdlaaGreatDoor
open Go.Shelf Go.RowKit Go.Lib Go.IntWalk
def ieq (x y:Int):Bool:=x==y
theorem eqL_ieq:∀ (l r:List Int),eqL ieq l r=true↔l=r
 | [],[]=>by simp [eqL]
 | [],y :: r=>by simp [eqL]
 | x :: l,[]=>by simp [eqL]
 | x :: l,y :: r=>by simp [eqL,ieq,eqL_ieq l r]
theorem zAw {ok ok':Nat->Prop} {w:World} {v u:Value} {l r:List Int} (hl:HInts ok w v l) (hr:HInts ok' w u r) :
  Calls Tryz.prog 25 #[v,u] w fun e w'=>e=.returned (.bool (eqL ieq l r))/\∃ m,w'=w.drewN m:=by
 obtain ⟨ao,cap,rfl,hc1,hc2,hat⟩:=hl.at;obtain ⟨ao',cap',rfl,hd1,hd2,hat'⟩:=hr.at;unfold maxLen at hc2 hd2;obtain ⟨R,hR⟩:=nmQ (eqL ieq l r);rw [<-hR];have HR:=zE hR;clear hR hl hr;obtain ⟨n,hn⟩:=nmQ (l.length);obtain ⟨m,hm⟩:=nmQ (r.length);rw [<-hn] at hc1 ⊢;rw [<-hm] at hd1 ⊢;have HN:=zE hn;have HM:=zE hm;by_cases hlen:n=m
 ·subst hlen
  have hq:((n:Int) != (n:Int))=false:=(by simp);clear hn hm;go_enter Tryz.func25,Tryz.ntmps25;go_wp2;go_loopg [5] n (fun k v wr=>∃ i d,i<=n/\k=n-i/\v=.int .i64 (i:Nat)/\Hid (∀ j (h:j<l.length) (h':j<r.length),j<i->ieq l[j] r[j]=true)/\wr=w.drewN d)
  case atStart=>exact ⟨0,0,Nat.zero_le _,rfl,rfl,fun j _ _ h=>absurd h (Nat.not_lt_zero _),rfl⟩
  case round=>
   obtain ⟨i,d,hi,rfl,rfl,H,hW⟩:=hrel;have HW:=zE hW;clear hW;by_cases hlt:i<n
   ·have hil:i<l.length:=by have:=HN.out;omega
    have hir:i<r.length:=(by have:=HM.out;omega);obtain ⟨b,o,rfl,hb,hc⟩:=hat i hil;obtain ⟨b',o',rfl,hb',hc'⟩:=hat' i hir;have e1:wr.cell? ⟨b,o+i,none⟩=some (.int .i64 l[i]):=(by rw [HW.out];exact hc);have e2:wr.cell? ⟨b',o'+i,none⟩=some (.int .i64 r[i]):=(by rw [HW.out];exact hc');obtain ⟨x,hx⟩:=nmQ (l[i]);obtain ⟨y,hy⟩:=nmQ (r[i]);rw [<-hx] at e1;rw [<-hy] at e2;have HX:=zE hx;have HY:=zE hy;clear hc hc' hx hy;clear hat hat'
    cases h0:(x==y)
    ·have hbad:ieq l[i] r[i]=false:=by rw [<-HX.out,<-HY.out];exact h0
     have h1:(x != y)=true:=(by simp [bne,h0]);have HBAD:=zE hbad;clear hbad;go_wp2_with fail;go_quiet (fail);go_wp2;go_ret;exact ⟨zAc (by rw [HR.out,eqL_bad i hil hir HBAD.out]),_,by rw [HW.out,World.drewN_drewN]⟩
    ·have hgood:ieq l[i] r[i]=true:=by rw [<-HX.out,<-HY.out];exact h0
     have h1:(x != y)=false:=(by simp [bne,h0]);have HGOOD:=zE hgood;clear hgood;go_wp2_with fail;go_quiet (fail);go_wp2;go_roundg (n-(i+1))
     case measure=>omega
     case rel=>exact ⟨i+1,_,by omega,rfl,by go_num,zE (fun j h h' hj=>by
      rcases Nat.lt_or_eq_of_le (Nat.le_of_lt_succ hj) with h2 | h2
      ·exact H.out j h h' h2
      ·subst h2;exact HGOOD.out),by rw [HW.out,World.drewN_drewN]⟩
   ·have hie:i=n:=by omega
    have hge:¬(i:Int)<(n:Int):=(by omega);go_wp2;go_ret;refine ⟨zAc ?_,d,HW.out⟩;rw [HR.out];exact (eqL_all (by rw [<-HN.out,<-HM.out]) (fun j h h'=>H.out j h h' (by have:=HN.out;omega))).symm
 ·have hq:((n:Int) != (m:Int))=true:=by simp;omega
  clear hn hm;go_enter Tryz.func25,Tryz.ntmps25;go_wp2;go_ret;exact ⟨zAc (by rw [HR.out,eqL_len (by rw [<-HN.out,<-HM.out];exact hlen)]),0,rfl⟩
end Go.Proofs.YtegakbobaecdlaaGreatDoor
namespace Go.Proofs.YtegakbobaecdlaaGreatDoor
open Go.Shelf Go.RowKit Go.Lib Go.IntWalk
theorem belowDr {B:Nat} {w v:World} (h:Below B w v) (m:Nat):Below B w (v.drewN m):=h.trans ⟨rfl,rfl,rfl,Nat.le_refl _,fun _ _=>rfl⟩
theorem zBB {ok ok':Nat->Prop} {w:World} {v u:Value} {l:List Pu} (hl:HPu ok w v l) (hr:HPu ok' w u l) :
  Calls Tryz.prog 39 #[v,u] w fun e w'=>e=.returned (.bool true)/\∃ m,w'=w.drewN m:=by
 obtain ⟨ao,cap,rfl,hc1,hc2,hat⟩:=hl.at;obtain ⟨ao',cap',rfl,hd1,hd2,hat'⟩:=hr.at;unfold maxLen at hc2 hd2;clear hl hr;obtain ⟨n,hn⟩:=nmQ (l.length);rw [<-hn] at hc1 hd1 ⊢;have HN:=zE hn;have hq:((n:Int) != (n:Int))=false:=(by simp);clear hn;go_enter Tryz.func39,Tryz.ntmps39;go_wp2;go_loopg [5] n (fun k v wr=>∃ i d,i<=n/\k=n-i/\v=.int .i64 (i:Nat)/\wr=w.drewN d)
 case atStart=>exact ⟨0,0,Nat.zero_le _,rfl,rfl,rfl⟩
 case round=>
  obtain ⟨i,d,hi,rfl,rfl,hW⟩:=hrel;have HW:=zE hW;clear hW;by_cases hlt:i<n
  ·have hil:i<l.length:=by have:=HN.out;omega
   obtain ⟨b,o,rfl,hb,q0,q1,q2,q3⟩:=hat i hil;obtain ⟨b',o',rfl,hb',r0,r1,r2,r3⟩:=hat' i hil;generalize l[i]=p at q0 q1 q2 q3 r0 r1 r2 r3;have e0:wr.cell? ⟨b,o+i*4,none⟩=some (.int .i64 p.op):=(by rw [HW.out];exact q0);have e1:wr.cell? ⟨b,o+i*4+1,none⟩=some (.int .i64 p.k):=(by rw [HW.out];exact q1);have e2:wr.cell? ⟨b,o+i*4+2,none⟩=some (.int .i64 p.v):=(by rw [HW.out];exact q2);have e3:wr.cell? ⟨b,o+i*4+3,none⟩=some (.int .i64 p.n):=(by rw [HW.out];exact q3);have f0:wr.cell? ⟨b',o'+i*4,none⟩=some (.int .i64 p.op):=(by rw [HW.out];exact r0);have f1:wr.cell? ⟨b',o'+i*4+1,none⟩=some (.int .i64 p.k):=(by rw [HW.out];exact r1);have f2:wr.cell? ⟨b',o'+i*4+2,none⟩=some (.int .i64 p.v):=(by rw [HW.out];exact r2);have f3:wr.cell? ⟨b',o'+i*4+3,none⟩=some (.int .i64 p.n):=(by rw [HW.out];exact r3);clear hat hat' q0 q1 q2 q3 r0 r1 r2 r3;go_wp2_with fail;go_quiet (fail);go_wp2;go_roundg (n-(i+1))
   case measure=>omega
   case rel=>exact ⟨i+1,_,by omega,rfl,by go_num,by rw [HW.out,World.drewN_drewN]⟩
  ·have hie:i=n:=by omega
   have hge:¬(i:Int)<(n:Int):=(by omega);go_wp2;go_ret;exact ⟨rfl,d,HW.out⟩
theorem zAx {ok ok':Nat->Prop} {w:World} {va ve ua ue:Value} {A:List Int} {E:List Pu} (op k out n:Int) (hA:HInts ok w va A) (hE:HPu ok w ve E) (hA':HInts ok' w ua A) (hE':HPu ok' w ue E) :
  Calls Tryz.prog 15 #[.agg #[.int .i64 op,.int .i64 k,.int .i64 out,.int .i64 n,va,ve],.agg #[.int .i64 op,.int .i64 k,.int .i64 out,.int .i64 n,ua,ue]] w fun e w'=>e=.returned (.bool true)/\Below w.heap.size w w':=by
 obtain ⟨W,hW⟩:=nmQ ((w.alloc (.cells #[.int .i64 op,.int .i64 k,.int .i64 out,.int .i64 n,va,ve] 40 (0,0))).alloc (.cells #[.int .i64 op,.int .i64 k,.int .i64 out,.int .i64 n,ua,ue] 40 (0,0)));have bA:Below w.heap.size w W:=(by rw [hW];exact ((Below.refl _ _).alloc zM _).alloc (by simp) _);have K1:W.heap[w.heap.size]?=some (.cells #[.int .i64 op,.int .i64 k,.int .i64 out,.int .i64 n,va,ve] 40 (0,0)):=by
  rw [hW];exact (Below.heap_alloc _ _ _ (by simp)).trans (zI w _)
 have K2:W.heap[w.heap.size+1]?=some (.cells #[.int .i64 op,.int .i64 k,.int .i64 out,.int .i64 n,ua,ue] 40 (0,0)):=by
  rw [hW];have:=zI (w.alloc (.cells #[.int .i64 op,.int .i64 k,.int .i64 out,.int .i64 n,va,ve] 40 (0,0))) (.cells #[.int .i64 op,.int .i64 k,.int .i64 out,.int .i64 n,ua,ue] 40 (0,0))
  simpa using this
 have h7:=zAw (hA.under bA) (hA'.under bA);rw [(eqL_ieq A A).2 rfl] at h7;have HE:=zE hE;have HE':=zE hE';obtain ⟨a1,c1,rfl,_,_,_⟩:=hA.at;obtain ⟨a2,c2,rfl,_,_,_⟩:=hA'.at;obtain ⟨a3,c3,rfl,_,_,_⟩:=hE.at;obtain ⟨a4,c4,rfl,_,_,_⟩:=hE'.at;clear hA hA' hE hE';go_enter Tryz.func15,Tryz.ntmps15;go_upto_region 1 with fail;rw [<-hW];clear hW;have d0:=coQ K1 0;have d1:=coQ K1 1;have d2:=coQ K1 2;have d3:=coQ K1 3;have d4:=coQ K1 4;have d5:=coQ K1 5;have g0:=coQ K2 0;have g1:=coQ K2 1;have g2:=coQ K2 2;have g3:=coQ K2 3;have g4:=coQ K2 4;have g5:=coQ K2 5;simp at d0 d1 d2 d3 d4 d5 g0 g1 g2 g3 g4 g5;go_wp2_with fail;refine h7.mono ?_;rintro e w1 ⟨rfl,m1,hm1⟩;have b1:Below w.heap.size w w1:=(by rw [hm1];exact belowDr bA _);have j5:w1.cell? ⟨w.heap.size,5,none⟩=some (.slice a3 E.length c3):=(by rw [hm1];exact d5);have i5:w1.cell? ⟨w.heap.size+1,5,none⟩=some (.slice a4 E.length c4):=(by rw [hm1];exact g5);have h20:=zBB (HE.out.under b1) (HE'.out.under b1);clear d0 d1 d2 d3 d4 d5 g0 g1 g2 g3 g4 g5 hm1;go_wp2_with fail;refine h20.mono ?_;rintro e w2 ⟨rfl,m2,hm2⟩;have b2:Below w.heap.size w w2:=(by rw [hm2];exact belowDr b1 _);clear hm2;go_wp2_with fail;go_ret;exact ⟨rfl,b2⟩
end Go.Proofs.YtegakbobaecdlaaGreatDoor
namespace Go.Proofs.YtegakbobaecdlaaGreatDoor
open Go.RowKit Go.IntWalk
theorem zS {B:Nat} {w w':World} (h:Below B w w') (n:Nat):Below B w (w'.drewN n):=⟨h.os,h.tape,h.output,h.size,h.block⟩
namespace Kd
def opsT:List (Int × Int × Int):=[(0,0,0),(105,105,2),(105,105,2),(105,105,2),(105,105,2),(105,105,2),(105,105,2),(105,105,2),(105,98,2),(105,98,2),(98,98,2),(98,98,2),(98,98,2),(105,105,1),(98,98,1)]
def opN (k:Nat):Int × Int × Int:=opsT.getD k (0,0,0)
def opT (k:Int):Int × Int × Int:=if k<0\/15<=k then (0,0,0) else opN k.toNat
def folds (k:Int):Bool:=decide ((opT k).2.2=2)&&decide ((opT k).1=(opT k).2.1)
end Kd
def GlobK (w:World):Prop:=1<w.heap.size/\∀ k,k<15->w.cell? ⟨1,k*3,none⟩=some (.int .u8 (Kd.opN k).1)/\w.cell? ⟨1,k*3+1,none⟩=some (.int .u8 (Kd.opN k).2.1)/\w.cell? ⟨1,k*3+2,none⟩=some (.int .i64 (Kd.opN k).2.2)
theorem GlobK.under {w w':World} (h:GlobK w) (b:Below w.heap.size w w'):GlobK w':=by
 refine ⟨Nat.lt_of_lt_of_le h.1 b.size,fun k hk=>?_⟩;obtain ⟨h0,h1,h2⟩:=h.2 k hk;exact ⟨(b.cell (p:=⟨1,k*3,none⟩) h.1).trans h0,(b.cell (p:=⟨1,k*3+1,none⟩) h.1).trans h1,(b.cell (p:=⟨1,k*3+2,none⟩) h.1).trans h2⟩
theorem jK (k:Int) (w:World) (hG:GlobK w) :
  Calls Tryz.prog 156 #[.int .i64 k] w fun r w'=>r=.returned (.tuple #[.int .u8 (Kd.opT k).1,.int .u8 (Kd.opT k).2.1,.int .i64 (Kd.opT k).2.2])/\Below w.heap.size w w':=by
 unfold Kd.opT;by_cases h1:k<0
 ·rw [if_pos (.inl h1)]
  go_enter Tryz.func156,Tryz.ntmps156;go_wp2;exact bodyPost_ret (v:=.tuple #[.int .u8 0,.int .u8 0,.int .i64 0]) (by simp [results,Tryz.results156,go_sem]) rfl ⟨rfl,Below.refl _ _⟩
 ·by_cases h2:15<=k
  ·rw [if_pos (.inr h2)]
   have h3:(15:Int)<=k:=h2;go_enter Tryz.func156,Tryz.ntmps156;go_wp2;exact bodyPost_ret (v:=.tuple #[.int .u8 0,.int .u8 0,.int .i64 0]) (by simp [results,Tryz.results156,go_sem]) rfl ⟨rfl,Below.refl _ _⟩
  ·rw [if_neg (by omega)]
   obtain ⟨q,rfl⟩:∃ q:Nat,k=(q:Int):=⟨k.toNat,by omega⟩;have hq:q<15:=(by omega);obtain ⟨c0,c1,c2⟩:=hG.2 q hq;rw [Int.toNat_natCast];generalize Kd.opN q=oq at c0 c1 c2 ⊢;obtain ⟨tk,mk,n⟩:=oq
   dsimp only at c0 c1 c2 ⊢
   have bA:Below w.heap.size w (w.alloc (.cells #[.int .u8 tk,.int .u8 mk,.int .i64 n] 176 (0,0))):=(Below.refl _ _).alloc zM _;have kA:=zI w (.cells #[.int .u8 tk,.int .u8 mk,.int .i64 n] 176 (0,0));go_enter Tryz.func156,Tryz.ntmps156;go_upto_region 4 with fail;generalize w.alloc (.cells #[.int .u8 tk,.int .u8 mk,.int .i64 n] 176 (0,0))=w1 at bA kA ⊢;have d0:=coQ kA 0;have d1:=coQ kA 1;have d2:=coQ kA 2;simp at d0 d1 d2;clear c0 c1 c2 kA;go_quiet (fail);go_wp2;exact bodyPost_ret (v:=.tuple #[.int .u8 tk,.int .u8 mk,.int .i64 n]) (by simp [results,Tryz.results156,go_sem]) rfl ⟨rfl,zS bA _⟩
theorem folds_any (k:Int) (w:World) (hG:GlobK w) :
  Calls Tryz.prog 159 #[.int .i64 k] w fun r w'=>r=.returned (.bool (Kd.folds k))/\Below w.heap.size w w':=by
 have hc:=jK k w hG;unfold Kd.folds;generalize Kd.opT k=oq at hc ⊢;obtain ⟨tk,mk,n⟩:=oq
 dsimp only at hc ⊢
 go_enter Tryz.func159,Tryz.ntmps159;go_wp2_with fail;refine hc.mono ?_;rintro r w1 ⟨rfl,b1⟩;by_cases h2:n=2
 ·subst h2
  by_cases he:tk=mk
  ·subst he
   go_wp2;go_ret;exact ⟨by simp,b1⟩
  ·have he2:(tk==mk)=false:=by simpa using he
   go_wp2;go_ret;exact ⟨by simp [he],b1⟩
 ·have h3:(n==2)=false:=by simpa using h2
  go_wp2;go_ret;exact ⟨by simp [h2],b1⟩
end Go.Proofs.YtegakbobaecdlaaGreatDoor
