import Derived.Test.YtegakbobaecdlaaGreatDoorK40
import Derived.WalkKit
import Derived.WalkSpells
import Derived.IntWalk
import Derived.Deep.Cut
import Derived.Deep.LoopGhost
import Derived.Ground.NamesProg
import Derived.Laws.Cover1
import Derived.Laws.EntriesVeiled
import Derived.Laws.Externs
import Derived.Lib.Hide
import Derived.Lib.MakeNoZero
import Derived.Lib.SlBuf
import Derived.Shelf.Bytes.SlSmallAll
import Derived.Shelf.Lay
import Derived.Test.YtegakbobaecdlaaGreatDoorRows
import Derived.FnData
import Derived.LaidSub
import Derived.Lib.LaidTab
set_option linter.unusedVariables false
set_option linter.unusedSimpArgs false
set_option maxHeartbeats 64000000
set_option maxRecDepth 100000
namespace Go.Proofs.YtegakbobaecdlaaGreatDoor
open Go.Shelf Go.RowKit Go.Lib Go.IntWalk
def foldI (L:List Int):List Int:=L.foldl (fun o x=>ins x o) []
theorem zAe (L:List Int) (x:Int):foldI (L++[x])=ins x (foldI L):=by simp [foldI]
theorem foldl_len:∀ (L o:List Int),(L.foldl (fun o x=>ins x o) o).length<=o.length+L.length
 | [],o=>by simp
 | x :: t,o=>by
  have h1:=foldl_len t (ins x o);have h2:=ins_len x o;simp only [List.foldl_cons,List.length_cons];omega
theorem foldI_len (L:List Int):(foldI L).length<=L.length:=by simpa [foldI] using foldl_len L []
theorem named_any (p:Pu) (w:World):Calls Tryz.prog 78 #[.agg #[.int .i64 p.op,.int .i64 p.k,.int .i64 p.v,.int .i64 p.n]] w fun e w'=>e=.returned (.bool (nmd p))/\Below w.heap.size w w':=by
 have bA:Below w.heap.size w (w.alloc (.cells #[.int .i64 p.op,.int .i64 p.k,.int .i64 p.v,.int .i64 p.n] 79 (0,0))):=(Below.refl _ _).alloc zM _;unfold nmd;by_cases h2:(p.op==2)=true
 ·go_enter Tryz.func78,Tryz.ntmps78
  go_wp2;go_ret;exact ⟨by simp [h2],bA⟩
 have h2:(p.op==2)=false:=(by simpa using h2);by_cases h3:(p.op==3)=true
 ·go_enter Tryz.func78,Tryz.ntmps78
  go_wp2;go_ret;exact ⟨by simp [h2,h3],bA⟩
 have h3:(p.op==3)=false:=(by simpa using h3);go_enter Tryz.func78,Tryz.ntmps78;go_wp2;go_ret;exact ⟨by simp [h2,h3],bA⟩
theorem jX {ok:Nat->Prop} {w:World} {va ve:Value} {A:List Int} {E:List Pu} (op k out n:Int) (hA:HInts ok w va A) (hE:HPu ok w ve E) (hAl:A.length<=1000000) (hEl:E.length<=1000000) :
  Calls Tryz.prog 45 #[.agg #[.int .i64 op,.int .i64 k,.int .i64 out,.int .i64 n,va,ve]] w fun e w'=>∃ v,e=.returned v/\OwnL kInt w.heap.size w' v (foldI (usesL A E))/\Below w.heap.size w w':=by
 obtain ⟨aA,cA,rfl,hA1,hA2,_⟩:=hA.at;obtain ⟨aE,cE,rfl,hE1,hE2,_⟩:=hE.at;have HA:=zE hA;have HE:=zE hE;clear hA hE;obtain ⟨W,hW⟩:=nmQ (w.alloc (.cells #[.int .i64 op,.int .i64 k,.int .i64 out,.int .i64 n,.slice aA A.length cA,.slice aE E.length cE] 40 (0,0)));have bA:=newB hW;have KA:W.heap[w.heap.size]?=some (.cells #[.int .i64 op,.int .i64 k,.int .i64 out,.int .i64 n,.slice aA A.length cA,.slice aE E.length cE] 40 (0,0)):=(by rw [hW];exact zI w _);go_enter Tryz.func45,Tryz.ntmps45;go_upto_region 1 with fail;rw [<-hW];clear hW;go_wp2_with fail;go_loopg [3,4] A.length (fun gh s3 s4 wr=>∃ i:Nat,s4=.int .i64 (i:Int)/\i<=A.length/\A.length<=gh+i/\Hid (OwnL kInt (w.heap.size+1) wr s3 (foldI (A.take i)))/\Below w.heap.size w wr/\wr.heap[w.heap.size]?=some (.cells #[.int .i64 op,.int .i64 k,.int .i64 out,.int .i64 n,.slice aA A.length cA,.slice aE E.length cE] 40 (0,0)))
 case atStart=>exact ⟨0,rfl,by omega,by omega,zE OwnL.nil,bA,KA⟩
 case round=>
  clear bA KA;obtain ⟨i,rfl,his,hgi,HO,bR,K⟩:=hrel;have yR:=bR.size;have yK:=zG K;have d4:=coQ K 4;have d5:=coQ K 5;simp at d4 d5;by_cases hlt:i<A.length
  case neg=>
   have hge:¬(i:Int)<(A.length:Int):=(by omega);have hie:i=A.length:=(by omega);have o2:=HO.out;rw [hie,List.take_length] at o2;clear HO hie;obtain ⟨wo,hwo⟩:=nmQ (wr);subst hwo;go_upto_region 6 with fail;clear hge hgi his;go_wp2_with fail;go_loopg [3,5] E.length (fun gh s3 s5 wr=>∃ i:Nat,s5=.int .i64 (i:Int)/\i<=E.length/\E.length<=gh+i/\Hid (OwnL kInt (w.heap.size+1) wr s3 (foldI (usesL A (E.take i))))/\Below w.heap.size w wr/\wr.heap[w.heap.size]?=some (.cells #[.int .i64 op,.int .i64 k,.int .i64 out,.int .i64 n,.slice aA A.length cA,.slice aE E.length cE] 40 (0,0)))
   case atStart=>exact ⟨0,rfl,by omega,by omega,zE (by simpa [usesL] using o2),bR,K⟩
   case round=>
    clear o2 bR K d4 d5 yR yK;obtain ⟨i,rfl,his,hgi,HO,bR,K⟩:=hrel;have yR:=bR.size;have yK:=zG K;have d5:=coQ K 5;simp at d5;by_cases hlt:i<E.length
    case neg=>
     have hge:¬(i:Int)<(E.length:Int):=(by omega);have hie:i=E.length:=(by omega);have ho:=HO.out;rw [hie,List.take_length] at ho;go_wp2_with fail;go_ret;exact ⟨_,rfl,jH ho (Nat.le_succ _),bR⟩
    case pos=>
     have hltI:(i:Int)<(E.length:Int):=(by omega);obtain ⟨ao',cap',ev,_,_,hatR⟩:=(HE.out.under bR).at;injection ev with ev1 ev2 ev3;subst ev1;obtain ⟨b,o,rfl,hb,c0,c1,c2,c3⟩:=hatR i hlt;clear hatR ev2 ev3;have HX:Hid (∀ V:World,Below w.heap.size w V->V.cell? ⟨b,o+i*4+2,none⟩=some (.int .i64 (E[i]).v)):=zE (fun V bV=>by
      obtain ⟨ao',cap',ev,_,_,hatV⟩:=(HE.out.under bV).at;injection ev with ev1 ev2 ev3;subst ev1;obtain ⟨b',o',e,hb',_,_,c1,_⟩:=hatV i hlt;injection e with e;injection e with e1 e2 e3;subst e1 e2;exact c1)
     have HS:=zE (zAo A E i hlt);have hul:=foldI_len (usesL A (E.take i));have hul2:=jQ A (E.take i);rw [List.length_take,Nat.min_eq_left his] at hul2;generalize E[i]=p at c0 c1 c2 c3 HS HX;have hcall:=named_any p
     cases hn:nmd p with
     | false=>
      rw [hn] at HS;simp only [Bool.false_eq_true,if_false,List.append_nil] at HS;have hc:=hcall wr;rw [hn] at hc
      go_wp2_with (go_at_call 78;refine hc.mono ?_;rintro e w' ⟨rfl,b5⟩)
      go_roundg (gk-1)
      case measure=>omega
      case rel=>exact ⟨i+1,by go_num,by omega,by omega,zE (by rw [HS.out];exact HO.out.below b5),bR.trans (b5.mono yR),(b5.block _ yK).trans K⟩
     | true=>
      rw [hn] at HS;simp only [if_true] at HS;have hc:=hcall wr;rw [hn] at hc;go_wp2_with fail;refine hc.mono ?_;rintro e w5 ⟨rfl,b5⟩;have c5:=HX.out w5 (bR.trans (b5.mono yR));have K5:=(b5.block _ yK).trans K;clear c0 c1 c2 c3 d5;have d5:=coQ K5 5;simp at d5;have own:=HO.out.below b5;have y5:=b5.size;have hi:=zAh p.v (zR own.row) (by omega)
      go_wp2_with (go_at_call 77;refine hi.mono ?_;rintro e w6 ⟨v6,rfl,own6,b6⟩)
      go_roundg (gk-1)
      case measure=>omega
      case rel=>exact ⟨i+1,by go_num,by omega,by omega,zE (by rw [HS.out,zAe];exact jH own6 (by omega)),(bR.trans (b5.mono yR)).trans (b6.mono (by omega)),(b6.block _ (by omega)).trans K5⟩
  case pos=>
   have hltI:(i:Int)<(A.length:Int):=(by omega);obtain ⟨ao',cap',ev,_,_,hatR⟩:=(HA.out.under bR).at;injection ev with ev1 ev2 ev3;subst ev1;obtain ⟨b,o,rfl,hb,c0⟩:=hatR i hlt;clear hatR ev2 ev3;have HT:=zE (List.take_succ_eq_append_getElem hlt);have hul:=foldI_len (A.take i);rw [List.length_take,Nat.min_eq_left his] at hul;generalize A[i]=x at c0 HT;have own:=HO.out;have hi:=zAh x (zR own.row) (by omega)
   go_wp2_with (go_at_call 77;refine hi.mono ?_;rintro e w6 ⟨v6,rfl,own6,b6⟩)
   go_roundg (gk-1)
   case measure=>omega
   case rel=>exact ⟨i+1,by go_num,by omega,by omega,zE (by rw [HT.out,zAe];exact jH own6 (by omega)),bR.trans (b6.mono yR),(b6.block _ yK).trans K⟩
end Go.Proofs.YtegakbobaecdlaaGreatDoor
namespace Go.Proofs.YtegakbobaecdlaaGreatDoor
open Go.Shelf Go.RowKit Go.Lib Go.IntWalk
def SS (l:List Int):Prop:=l.Pairwise (fun x y=>x<y)
theorem ss_eq:∀ (a b:List Int),SS a->SS b->(∀ y,y ∈ a↔y ∈ b)->a=b
 | [],[],_,_,_=>rfl
 | [],y :: t,_,_,h=>by have:=(h y).2 (by simp);simp at this
 | x :: s,[],_,_,h=>by have:=(h x).1 (by simp);simp at this
 | x :: s,y :: t,ha,hb,h=>by
  have ha':=List.pairwise_cons.1 ha;have hb':=List.pairwise_cons.1 hb;have e:x=y:=by
   have h1:=(h x).1 (by simp);have h2:=(h y).2 (by simp);rcases List.mem_cons.1 h1 with h1 | h1
   ·exact h1
   rcases List.mem_cons.1 h2 with h2 | h2
   ·exact h2.symm
   have:=hb'.1 x h1;have:=ha'.1 y h2;omega
  subst e;have:=ss_eq s t ha'.2 hb'.2 (fun z=>by
   constructor
   ·intro hz
    rcases List.mem_cons.1 ((h z).1 (List.mem_cons_of_mem _ hz)) with q | q
    ·have:=ha'.1 z hz;omega
    ·exact q
   ·intro hz
    rcases List.mem_cons.1 ((h z).2 (List.mem_cons_of_mem _ hz)) with q | q
    ·have:=hb'.1 z hz;omega
    ·exact q)
  rw [this]
theorem mem_ins (n y:Int):∀ (l:List Int),y ∈ ins n l↔y=n\/y ∈ l
 | []=>by simp [ins]
 | x :: t=>by
  have ih:=mem_ins n y t;rw [ins];by_cases h1:n<=x
  ·rw [if_pos h1]
   by_cases h2:n<x
   ·rw [if_pos h2];simp
   ·rw [if_neg h2]
    have:x=n:=(by omega);subst this;simp
  ·rw [if_neg h1]
   simp only [List.mem_cons,ih]
   constructor
   ·rintro (h | h | h)
    ·exact .inr (.inl h)
    ·exact .inl h
    ·exact .inr (.inr h)
   ·rintro (h | h | h)
    ·exact .inr (.inl h)
    ·exact .inl h
    ·exact .inr (.inr h)
theorem ins_ss (n:Int):∀ (l:List Int),SS l->SS (ins n l)
 | [],_=>by simp [ins,SS]
 | x :: t,h=>by
  have h':=List.pairwise_cons.1 h;rw [ins];by_cases h1:n<=x
  ·rw [if_pos h1]
   by_cases h2:n<x
   ·rw [if_pos h2]
    refine List.pairwise_cons.2 ⟨fun y hy=>?_,h⟩;rcases List.mem_cons.1 hy with e | hy
    ·omega
    ·have:=h'.1 y hy;omega
   ·rw [if_neg h2];exact h
  ·rw [if_neg h1]
   refine List.pairwise_cons.2 ⟨fun y hy=>?_,ins_ss n t h'.2⟩;rcases (mem_ins n y t).1 hy with e | hy
   ·omega
   ·exact h'.1 y hy
theorem zAf:∀ (L o:List Int),SS o->SS (L.foldl (fun o x=>ins x o) o)/\∀ y,y ∈ L.foldl (fun o x=>ins x o) o↔y ∈ o\/y ∈ L
 | [],o,h=>⟨h,fun y=>by simp⟩
 | x :: t,o,h=>by
  obtain ⟨h1,h2⟩:=zAf t (ins x o) (ins_ss x o h);refine ⟨h1,fun y=>?_⟩;rw [List.foldl_cons,h2 y,mem_ins,List.mem_cons]
  constructor
  ·rintro ((h | h) | h)
   ·exact .inr (.inl h)
   ·exact .inl h
   ·exact .inr (.inr h)
  ·rintro (h | h | h)
   ·exact .inl (.inr h)
   ·exact .inl (.inl h)
   ·exact .inr h
theorem zAg {l:List Int} (hs:l.Pairwise (fun x y=>x<=y)):∀ m,m<=l.length->SS (Lib.compactUpTo l.toArray m)/\∀ y,y ∈ Lib.compactUpTo l.toArray m↔∃ j,j<m/\l.toArray[j]! = y
 | 0,_=>⟨by simp [Lib.compactUpTo,SS],fun y=>by simp [Lib.compactUpTo]⟩
 | m+1,hm=>by
  obtain ⟨h1,h2⟩:=zAg hs m (by omega);have hle:∀ i j,i<=j->j<l.length->l.toArray[i]! <= l.toArray[j]! := fun i j hij hj=>by
   rcases Nat.lt_or_eq_of_le hij with h | h
   ·have:=(List.pairwise_iff_getElem.1 hs) i j (by omega) hj h
    simpa [hj,show i<l.length by omega] using this
   ·subst h;exact Int.le_refl _
  rw [Lib.compactUpTo_succ];by_cases hk:Lib.keeps l.toArray m=true
  ·rw [if_pos hk]
   refine ⟨?_,fun y=>?_⟩
   ·refine List.pairwise_append.2 ⟨h1,by simp,fun a ha b hb=>?_⟩
    obtain rfl:b=l.toArray[m]! := by simpa using hb
    obtain ⟨j,hj,rfl⟩:=(h2 a).1 ha;have hk':m=0\/l.toArray[m]! ≠ l.toArray[m-1]! := (by simpa [Lib.keeps] using hk);rcases hk' with h | h
    ·omega
    ·have:=hle j (m-1) (by omega) (by omega)
     have:=hle (m-1) m (by omega) (by omega);omega
   ·rw [List.mem_append,h2 y,List.mem_singleton]
    constructor
    ·rintro (⟨j,hj,e⟩ | e)
     ·exact ⟨j,by omega,e⟩
     ·exact ⟨m,by omega,e.symm⟩
    ·rintro ⟨j,hj,e⟩
     rcases Nat.lt_or_eq_of_le (Nat.le_of_lt_succ hj) with h | h
     ·exact .inl ⟨j,h,e⟩
     ·subst h;exact .inr e.symm
  ·rw [if_neg hk,List.append_nil]
   refine ⟨h1,fun y=>?_⟩;have hk':m≠0/\l.toArray[m]! = l.toArray[m-1]! := by
    have:¬(m=0\/l.toArray[m]! ≠ l.toArray[m-1]!):=by
     intro h;exact hk (by unfold Lib.keeps;exact decide_eq_true h)
    constructor
    ·intro h;exact this (.inl h)
    ·exact Decidable.byContradiction fun h=>this (.inr h)
   rw [h2 y]
   constructor
   ·rintro ⟨j,hj,e⟩;exact ⟨j,by omega,e⟩
   ·rintro ⟨j,hj,e⟩
    rcases Nat.lt_or_eq_of_le (Nat.le_of_lt_succ hj) with h | h
    ·exact ⟨j,h,e⟩
    ·subst h;exact ⟨j-1,by omega,by rw [<-hk'.2];exact e⟩
theorem sort_le (L:List Int):(L.mergeSort leB).Pairwise (fun x y=>x<=y):=by
 have h:=List.pairwise_mergeSort (le:=leB) (by intro a b c;simp [leB];omega) (by intro a b;simp [leB];omega) L;exact h.imp (fun h=>by simpa [leB] using h)
theorem arr_at (l:List Int) (j:Nat) (h:j<l.length):l.toArray[j]! = l[j]:=by simp [h]
theorem foldI_eq (L:List Int):foldI L=Lib.compact (L.mergeSort leB):=by
 obtain ⟨h1,h2⟩:=zAf L [] (by simp [SS]);obtain ⟨h3,h4⟩:=zAg (sort_le L) (L.mergeSort leB).length zM;refine ss_eq _ _ h1 h3 (fun y=>?_);unfold foldI Lib.compact;rw [h2 y];rw [h4 y]
 constructor
 ·rintro (h | h)
  ·cases h
  ·have hm:y ∈ L.mergeSort leB:=List.mem_mergeSort.2 h
   obtain ⟨j,hj,e⟩:=List.getElem_of_mem hm;exact ⟨j,hj,by rw [arr_at _ j hj];exact e⟩
 ·rintro ⟨j,hj,e⟩
  have hm:y ∈ L.mergeSort leB:=(by rw [<-e,arr_at _ j hj];exact List.getElem_mem hj);exact .inr (List.mem_mergeSort.1 hm)
end Go.Proofs.YtegakbobaecdlaaGreatDoor
namespace Go.Proofs.YtegakbobaecdlaaGreatDoor
open Go.RowKit Go.IntWalk Go.Deep
namespace Ld
variable {H:Type} {enc:TypeId × Value->H} {P:Program} {w:World} {base:Nat} {sp:Nat->Bool} {held:Bool}
def fieldsOf (P:Program) (t:TypeId):Option (List (TypeId × Nat)) :=
 match P.underlying t with
 | some (.struct fs)=>some (fs.toList.map fun f=>(f.type,f.offset))
 | _=>none
theorem trod_field {fuel:Nat} {t:TypeId} {cs:List Value} {L:List (TypeId × Nat)} {d:DataW H} {p:List MemPlace} (hF:fieldsOf P t=some L)
  (h:DataW.trod enc P w base sp held fuel t cs=some (d,p)) {j:Nat} {u:TypeId} {off:Nat} (hj:L[j]?=some (u,off)) :
  ∃ ds fuel' d' p',d=.agg ds/\ds[j]?=some d'/\DataW.trod enc P w base sp held fuel' u ((cs.drop off).take (P.cellsOf u))=some (d',p'):=by
 unfold fieldsOf at hF
 split at hF
 ·rename_i fs hu
  obtain rfl:=Option.some.inj hF
  cases fuel with
  | zero=>simp [DataW.trod] at h
  | succ fuel=>
   simp only [DataW.trod,hu] at h
   split at h
   ·obtain ⟨xs,hm,hx⟩:=Option.map_eq_some_iff.1 h
    simp only [List.getElem?_map,Option.map_eq_some_iff] at hj;obtain ⟨f,hf,hfe⟩:=hj;obtain ⟨b,hb,hb2⟩:=Lib.mapM_at hm j f hf;injection hfe with e1 e2;subst e1 e2;refine ⟨xs.map (·.1),fuel,b.1,b.2,?_,by simp [hb],hb2⟩;exact (congrArg Prod.fst hx).symm
   ·cases h
 ·cases hF
theorem trod_elem {fuel:Nat} {t e:TypeId} {n:Nat} {cs:List Value} {ds:List (DataW H)} {p:List MemPlace} (ht:P.underlying t=some (.array n e))
  (h:DataW.trod enc P w base sp held fuel t cs=some (.agg ds,p)) {i:Nat} (hi:i<n) :
  ∃ fuel' d' p',ds[i]?=some d'/\DataW.trod enc P w base sp held fuel' e ((cs.drop (i*P.cellsOf e)).take (P.cellsOf e))=some (d',p'):=by
 cases fuel with
 | zero=>simp [DataW.trod] at h
 | succ fuel=>
  simp only [DataW.trod,ht] at h
  split at h
  ·obtain ⟨xs,hm,hx⟩:=Option.map_eq_some_iff.1 h
   obtain ⟨b,hb,hb2⟩:=Lib.mapM_at hm i i (by simp [hi]);refine ⟨fuel,b.1,b.2,?_,hb2⟩;have:=congrArg Prod.fst hx;simp only [DataW.agg.injEq] at this;rw [<-this];simp [hb]
  ·cases h
theorem row_int {fuel:Nat} {t e u:TypeId} {n c off i j:Nat} {k:IntKind} {cs:List Value} {ds:List (DataW H)} {p:List MemPlace} {L:List (TypeId × Nat)} (ht:P.underlying t=some (.array n e)) (hc:P.cellsOf e=c) (hF:fieldsOf P e=some L)
  (h:DataW.trod enc P w base sp held fuel t cs=some (.agg ds,p)) (hi:i<n) (hj:L[j]?=some (u,off)) (hu:P.underlying u=some (.int k)) (hcu:P.cellsOf u=1) (ho:off<c)
  {es:List (DataW H)} {z:Int} (hd:ds[i]?=some (.agg es)) (he:es[j]?=some (.lit (.int k z))):cs[i*c+off]?=some (.int k z):=by
 obtain ⟨f1,d1,p1,h1,h2⟩:=trod_elem ht h hi;obtain ⟨ds2,f2,d2,p2,rfl,h3,h4⟩:=trod_field hF h2 hj;obtain ⟨s,h5,h6,_⟩:=DataW.trod_int hu h4;rw [hd] at h1;simp only [Option.some.injEq,DataW.agg.injEq] at h1;subst h1;rw [he] at h3;have h7:d2=.lit (.int k s):=congrArg Prod.fst h6;rw [h7] at h3;simp only [Option.some.injEq,DataW.lit.injEq,Lit.int.injEq,true_and] at h3;subst h3;have:=congrArg (·[0]?) h5;rw [hc,hcu] at this
 simpa [List.getElem?_take,List.getElem?_drop,ho] using this
end Ld
theorem heap_lt {W:World} {g j:Nat} {v:Value} (h:W.cell? ⟨g,j,none⟩=some v):g<W.heap.size:=by
 apply Classical.byContradiction
 intro hlt;have:W.heap[g]?=none:=(by simp;omega);simp [World.cell?,this] at h
def kopsL:List (DataW Unit):=Kd.opsT.map fun s=>.agg [.lit (.int .u8 s.1),.lit (.int .u8 s.2.1),.lit (.int .i64 s.2.2)]
theorem kops_eq:Rows.laid_loomwork_kinds_operators=.agg kopsL:=rfl
theorem globK_of {W : World} (h : laidMetH Tryz.prog [("loomwork/kinds.operators", Rows.laid_loomwork_kinds_operators)] W) : GlobK W := by
 have h : laidMet Tryz.prog [("loomwork/kinds.operators", Rows.laid_loomwork_kinds_operators)] W := h;obtain ⟨ps, ⟨g', t', cs, fuel, p, q, hg', ht', hvar, hd, _, _⟩, _⟩ := h;obtain rfl := Option.some.inj ((show Tryz.prog.globalNamed "loomwork/kinds.operators" = some 1 by kernel_rfl).symm.trans hg');obtain rfl := Option.some.inj ((show (Tryz.prog.globals[1]?).map (·.type) = some 177 by kernel_rfl).symm.trans ht');rw [kops_eq] at hd;have hu : Tryz.prog.underlying 177 = some (.array 15 176) := (by kernel_rfl);have hF : Ld.fieldsOf Tryz.prog 176 = some [(5, 0), (5, 1), (3, 2)] := (by kernel_rfl);have hc : Tryz.prog.cellsOf 176 = 3 := (by kernel_rfl);have h5 : Tryz.prog.cellsOf 5 = 1 := (by kernel_rfl);have h3 : Tryz.prog.cellsOf 3 = 1 := (by kernel_rfl);have u3 : Tryz.prog.underlying 3 = some (.int .i64) := (by kernel_rfl);have u5 : Tryz.prog.underlying 5 = some (.int .u8) := (by kernel_rfl);have hv := fun j => World.var?_cell (show Tryz.prog.globalNamed "loomwork/kinds.operators" = some 1 by kernel_rfl) hvar j;have hL : ∀ k, k < 15 -> kopsL[k]? = some (.agg [.lit (.int .u8 (Kd.opN k).1), .lit (.int .u8 (Kd.opN k).2.1), .lit (.int .i64 (Kd.opN k).2.2)]) := by
  intro k hk;have hk':k<Kd.opsT.length:=hk;unfold kopsL Kd.opN;rw [List.getElem?_map,List.getElem?_eq_getElem hk',List.getD_eq_getElem?_getD,List.getElem?_eq_getElem hk'];rfl
 have hall:∀ k,k<15->W.cell? ⟨1,k*3,none⟩=some (.int .u8 (Kd.opN k).1)/\W.cell? ⟨1,k*3+1,none⟩=some (.int .u8 (Kd.opN k).2.1)/\W.cell? ⟨1,k*3+2,none⟩=some (.int .i64 (Kd.opN k).2.2):=by
  intro k hk;have e:=hL k hk;refine ⟨?_,?_,?_⟩
  ·rw [hv,<-Array.getElem?_toList];exact Ld.row_int (j:=0) hu hc hF hd hk rfl u5 h5 (by decide) e rfl
  ·rw [hv,<-Array.getElem?_toList];exact Ld.row_int (j:=1) hu hc hF hd hk rfl u5 h5 (by decide) e rfl
  ·rw [hv,<-Array.getElem?_toList];exact Ld.row_int (j:=2) hu hc hF hd hk rfl u3 h3 (by decide) e rfl
 exact ⟨heap_lt (hall 0 (by decide)).1,hall⟩
def partsD:List (DataW Unit):=Sk.partsT.map fun s=>.lit (.int .i64 s)
theorem parts_eq:Rows.laid_loomwork_sys_partCounts=.agg partsD:=rfl
theorem globP_of {W : World} (h : laidMetH Tryz.prog [("loomwork/sys.partCounts", Rows.laid_loomwork_sys_partCounts)] W) : GlobP W := by
 have h : laidMet Tryz.prog [("loomwork/sys.partCounts", Rows.laid_loomwork_sys_partCounts)] W := h;obtain ⟨ps, ⟨g', t', cs, fuel, p, q, hg', ht', hvar, hd, _, _⟩, _⟩ := h;obtain rfl := Option.some.inj ((show Tryz.prog.globalNamed "loomwork/sys.partCounts" = some 0 by kernel_rfl).symm.trans hg');obtain rfl := Option.some.inj ((show (Tryz.prog.globals[0]?).map (·.type) = some 147 by kernel_rfl).symm.trans ht');rw [parts_eq] at hd;have hu : Tryz.prog.underlying 147 = some (.array 17 3) := (by kernel_rfl);have h3 : Tryz.prog.cellsOf 3 = 1 := (by kernel_rfl);have u3 : Tryz.prog.underlying 3 = some (.int .i64) := (by kernel_rfl);have hv := fun j => World.var?_cell (show Tryz.prog.globalNamed "loomwork/sys.partCounts" = some 0 by kernel_rfl) hvar j;have hall : ∀ k, k < 17 -> W.cell? ⟨0, k, none⟩ = some (.int .i64 (Sk.partsT.getD k 0)) := by
  intro k hk;obtain ⟨f1,d1,p1,h1,h2⟩:=Ld.trod_elem hu hd hk;obtain ⟨s,h5,h6,_⟩:=DataW.trod_int u3 h2;have hk':k<Sk.partsT.length:=hk;have e:partsD[k]?=some (.lit (.int .i64 (Sk.partsT.getD k 0))):=by
   unfold partsD;rw [List.getElem?_map,List.getElem?_eq_getElem hk',List.getD_eq_getElem?_getD,List.getElem?_eq_getElem hk'];rfl
  rw [e] at h1;have h7:d1=.lit (.int .i64 s):=congrArg Prod.fst h6;rw [h7] at h1;simp only [Option.some.injEq,DataW.lit.injEq,Lit.int.injEq,true_and] at h1;rw [hv,<-Array.getElem?_toList,h1];have:=congrArg (·[0]?) h5;rw [h3] at this
  simpa [List.getElem?_take,List.getElem?_drop] using this
 exact ⟨heap_lt (hall 0 (by decide)),hall⟩
section
variable {H:Type} {enc:TypeId × Value->H} {w:World}
instance:Inhabited Pu:=⟨⟨0,0,0,0⟩⟩
instance:Inhabited Sk.Vr:=⟨⟨0,0⟩⟩
instance:Inhabited Sk.Ru:=⟨⟨0,0,0,0,[],[]⟩⟩
instance:Inhabited RuV:=⟨⟨none,0,0,none,0,0⟩⟩
theorem qS {α:Type} [Inhabited α] {n:Nat} {p:Nat->α->Prop} (h:∀ i,i<n->∃ x,p i x):∃ f:Nat->α,∀ i,i<n->p i (f i):=by
 classical
 refine ⟨fun i=>if h1:i<n then Classical.choose (h i h1) else default,fun i hi=>?_⟩;simp only [hi,dif_pos];exact Classical.choose_spec (h i hi)
theorem c22:Tryz.prog.cellsOf 22=1:=by kernel_rfl
theorem c23:Tryz.prog.cellsOf 23=1:=by kernel_rfl
theorem c24:Tryz.prog.cellsOf 24=1:=by kernel_rfl
theorem c26:Tryz.prog.cellsOf 26=4:=by kernel_rfl
theorem c38:Tryz.prog.cellsOf 38=1:=by kernel_rfl
theorem c40:Tryz.prog.cellsOf 40=6:=by kernel_rfl
theorem c61:Tryz.prog.cellsOf 55=2:=by kernel_rfl
theorem c98:Tryz.prog.cellsOf 79=4:=by kernel_rfl
theorem y2:Tryz.prog.bytesOf 2=8:=by kernel_rfl
theorem y3:Tryz.prog.bytesOf 3=8:=by kernel_rfl
theorem y40:Tryz.prog.bytesOf 40=80:=by kernel_rfl
theorem y61:Tryz.prog.bytesOf 55=16:=by kernel_rfl
theorem y98:Tryz.prog.bytesOf 79=32:=by kernel_rfl
theorem two_of {cs:List Value} (h:cs.length=2):∃ a b,cs=[a,b]:=by
 match cs,h with
 | [a,b],_=>exact ⟨a,b,rfl⟩
theorem four_of {cs:List Value} (h:cs.length=4):∃ a b c d,cs=[a,b,c,d]:=by
 match cs,h with
 | [a,b,c,d],_=>exact ⟨a,b,c,d,rfl⟩
theorem six_of {cs:List Value} (h:cs.length=6):∃ a b c d e f,cs=[a,b,c,d,e,f]:=by
 match cs,h with
 | [a,b,c,d,e,f],_=>exact ⟨a,b,c,d,e,f,rfl⟩
theorem qK {v:Value} {t:TypeId} {k:IntKind} (ht:Tryz.prog.underlying t=some (.int k)) (h:Rd0 enc w t [v]):∃ n,v=.int k n:=by
 obtain ⟨n,e⟩:=open_num ht h;injection e with e _;exact ⟨n,e⟩
theorem open_push {cs:List Value} (h:Rd0 enc w 79 cs):∃ p:Pu,cs=p.cs:=by
 have hl:=len_of Tryz.underlying79 h;rw [c98] at hl;obtain ⟨a,b,c,d,rfl⟩:=four_of hl;obtain ⟨n0,rfl⟩:=qK Tryz.underlying3 (zZ Tryz.underlying79 h 0 3 0 rfl c3 _ rfl);obtain ⟨n1,rfl⟩:=qK Tryz.underlying3 (zZ Tryz.underlying79 h 1 3 1 rfl c3 _ rfl);obtain ⟨n2,rfl⟩:=qK Tryz.underlying3 (zZ Tryz.underlying79 h 2 3 2 rfl c3 _ rfl);obtain ⟨n3,rfl⟩:=qK Tryz.underlying2 (zZ Tryz.underlying79 h 3 2 3 rfl c2 _ rfl);exact ⟨⟨n0,n1,n2,n3⟩,rfl⟩
theorem open_var {cs:List Value} (h:Rd0 enc w 55 cs):∃ p:Sk.Vr,cs=[.int .u8 p.elem,.int .i64 p.n]:=by
 have hl:=len_of Tryz.underlying55 h;rw [c61] at hl;obtain ⟨a,b,rfl⟩:=two_of hl;obtain ⟨n0,rfl⟩:=qK Tryz.underlying5 (zZ Tryz.underlying55 h 0 5 0 rfl c5 _ rfl);obtain ⟨n1,rfl⟩:=qK Tryz.underlying3 (zZ Tryz.underlying55 h 1 3 1 rfl c3 _ rfl);exact ⟨⟨n0,n1⟩,rfl⟩
theorem jO {v:Value} (h:Rd0 enc w 23 [v]):∃ a n c L,v=.slice a n c/\n=L.length/\HInts (fun _=>True) w (.slice a n c) L:=by
 obtain ⟨fuel,x,h,hw⟩:=h;obtain ⟨a,n,c,C,m,D,Pl,e,hs,_,hi⟩:=vY Tryz.underlying23 c3 (by decide) y3 h hw;injection e with e _;obtain ⟨f,hf⟩:=qS (n:=n) (α:=Int) (p:=fun i x=>C i=[.int .i64 x]) (fun i h=>by
  obtain ⟨q,e⟩:=open_num (enc:=enc) (w:=w) Tryz.underlying3 ⟨m,_,(hi i h).1,(hi i h).2.1⟩;exact ⟨q,e⟩)
 obtain ⟨l,hl,hg⟩:=zAM n f;refine ⟨a,n,c,l,e,hl.symm,C,by rw [hl];exact hs,fun i h=>?_⟩;rw [hg i h];exact hf i (by omega)
theorem open_pushes {v:Value} (h:Rd0 enc w 38 [v]):∃ a n c L,v=.slice a n c/\n=L.length/\HPu (fun _=>True) w (.slice a n c) L:=by
 obtain ⟨fuel,x,h,hw⟩:=h;obtain ⟨a,n,c,C,m,D,Pl,e,hs,_,hi⟩:=vY Tryz.underlying38 c98 (by decide) y98 h hw;injection e with e _;obtain ⟨f,hf⟩:=qS (n:=n) (α:=Pu) (p:=fun i x=>C i=x.cs) (fun i h=>by
  exact open_push (enc:=enc) (w:=w) ⟨m,_,(hi i h).1,(hi i h).2.1⟩)
 obtain ⟨l,hl,hg⟩:=zAM n f;refine ⟨a,n,c,l,e,hl.symm,C,by rw [hl];exact hs,fun i h=>?_⟩;rw [hg i h];exact hf i (by omega)
theorem open_vars {v:Value} (h:Rd0 enc w 22 [v]):∃ a n c L,v=.slice a n c/\n=L.length/\HVars (fun _=>True) w (.slice a n c) L:=by
 obtain ⟨fuel,x,h,hw⟩:=h;obtain ⟨a,n,c,C,m,D,Pl,e,hs,_,hi⟩:=vY Tryz.underlying22 c61 (by decide) y61 h hw;injection e with e _;obtain ⟨f,hf⟩:=qS (n:=n) (α:=Sk.Vr) (p:=fun i x=>C i=[.int .u8 x.elem,.int .i64 x.n]) (fun i h=>by
  exact open_var (enc:=enc) (w:=w) ⟨m,_,(hi i h).1,(hi i h).2.1⟩)
 obtain ⟨l,hl,hg⟩:=zAM n f;refine ⟨a,n,c,l,e,hl.symm,C,by rw [hl];exact hs,fun i h=>?_⟩;rw [hg i h];exact hf i (by omega)
theorem open_rule {cs:List Value} (h:Rd0 enc w 40 cs):∃ (r:Sk.Ru) (y:RuV),cs=rcs r y/\HRu (fun _=>True) w y r:=by
 have hl:=len_of Tryz.underlying40 h;rw [c40] at hl;obtain ⟨v0,v1,v2,v3,v4,v5,rfl⟩:=six_of hl;obtain ⟨n0,rfl⟩:=qK Tryz.underlying3 (zZ Tryz.underlying40 h 0 3 0 rfl c3 _ rfl);obtain ⟨n1,rfl⟩:=qK Tryz.underlying3 (zZ Tryz.underlying40 h 1 3 1 rfl c3 _ rfl);obtain ⟨n2,rfl⟩:=qK Tryz.underlying3 (zZ Tryz.underlying40 h 2 3 2 rfl c3 _ rfl);obtain ⟨n3,rfl⟩:=qK Tryz.underlying2 (zZ Tryz.underlying40 h 3 2 3 rfl c2 _ rfl);obtain ⟨a,na,ca,A,rfl,-,hA⟩:=jO (zZ Tryz.underlying40 h 4 23 4 rfl c23 _ rfl);obtain ⟨b,nb,cb,E,rfl,-,hE⟩:=open_pushes (zZ Tryz.underlying40 h 5 38 5 rfl c38 _ rfl);exact ⟨⟨n0,n1,n2,n3,A,E⟩,⟨a,na,ca,b,nb,cb⟩,rfl,⟨hA,hE⟩⟩
theorem open_rules {v:Value} (h:Rd0 enc w 24 [v]):∃ a n c L,v=.slice a n c/\n=L.length/\HRus (fun _=>True) w (.slice a n c) L:=by
 obtain ⟨fuel,x,h,hw⟩:=h;obtain ⟨a,n,c,C,m,D,Pl,e,hs,_,hi⟩:=vY Tryz.underlying24 c40 (by decide) y40 h hw;injection e with e _;obtain ⟨f,hf⟩:=qS (n:=n) (α:=Sk.Ru) (p:=fun i x=>∃ y,C i=rcs x y/\HRu (fun _=>True) w y x) (fun i h=>by
  obtain ⟨r,y,h1,h2⟩:=open_rule (enc:=enc) (w:=w) ⟨m,_,(hi i h).1,(hi i h).2.1⟩;exact ⟨r,y,h1,h2⟩)
 obtain ⟨l,hl,hg⟩:=zAM n f;refine ⟨a,n,c,l,e,hl.symm,C,by rw [hl];exact hs,fun i h=>?_⟩;rw [hg i h];exact hf i (by omega)
theorem open_system {cs:List Value} (h:Rd0 enc w 26 cs):∃ aV aI aO aR cV cI cO cR,∃ S:Sk.Sys,cs=[.slice aV S.V.length cV,.slice aI S.I.length cI,.slice aO S.O.length cO,.slice aR S.R.length cR]/\HSys (fun _=>True) w aV aI aO aR cV cI cO cR S:=by
 have hl:=len_of Tryz.underlying26 h;rw [c26] at hl;obtain ⟨v0,v1,v2,v3,rfl⟩:=four_of hl;obtain ⟨aV,nV,cV,V,rfl,rfl,hV⟩:=open_vars (zZ Tryz.underlying26 h 0 22 0 rfl c22 _ rfl);obtain ⟨aI,nI,cI,I,rfl,rfl,hI⟩:=jO (zZ Tryz.underlying26 h 1 23 1 rfl c23 _ rfl);obtain ⟨aO,nO,cO,O,rfl,rfl,hO⟩:=jO (zZ Tryz.underlying26 h 2 23 2 rfl c23 _ rfl);obtain ⟨aR,nR,cR,R,rfl,rfl,hR⟩:=open_rules (zZ Tryz.underlying26 h 3 24 3 rfl c24 _ rfl);exact ⟨aV,aI,aO,aR,cV,cI,cO,cR,⟨V,I,O,R⟩,rfl,⟨hV,hI,hO,hR⟩⟩
end
end Go.Proofs.YtegakbobaecdlaaGreatDoor
