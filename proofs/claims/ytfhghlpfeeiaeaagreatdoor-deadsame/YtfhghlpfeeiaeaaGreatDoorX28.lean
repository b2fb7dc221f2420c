import Derived.Test.YtfhghlpfeeiaeaaGreatDoorX27
import Derived.Deep.Cut
import Derived.Deep.LoopGhost
import Derived.Ground.NamesProg
import Derived.IntWalk
import Derived.Laws.Cover1
import Derived.Laws.EntriesVeiled
import Derived.Laws.Externs
import Derived.Lib.Hide
import Derived.Lib.MakeNoZero
import Derived.Lib.SlBuf
import Derived.Maps.OwnSet
import Derived.Shelf.Bytes.SlSmallAll
import Derived.Shelf.Lay
import Derived.WalkKit
import Derived.WalkSpells
set_option linter.unusedVariables false
set_option linter.unusedSimpArgs false
set_option maxHeartbeats 64000000
set_option maxRecDepth 100000
namespace Go.Proofs.YtfhghlpfeeiaeaaGreatDoor
open Go.Shelf Go.RowKit Go.Lib Go.IntWalk
def foldI (L:List Int):List Int:=L.foldl (fun o x=>ins x o) []
theorem zAf (L:List Int) (x:Int):foldI (L++[x])=ins x (foldI L):=by simp [foldI]
theorem foldl_len:∀ (L o:List Int),(L.foldl (fun o x=>ins x o) o).length<=o.length+L.length
 | [],o=>by simp
 | x :: t,o=>by
  have h1:=foldl_len t (ins x o);have h2:=ins_len x o;simp only [List.foldl_cons,List.length_cons];omega
theorem foldI_len (L:List Int):(foldI L).length<=L.length:=by simpa [foldI] using foldl_len L []
theorem named_any (p:Pu) (w:World):Calls Tryz.prog 74 #[.agg #[.int .i64 p.op,.int .i64 p.k,.int .i64 p.v,.int .i64 p.n]] w fun e w'=>e=.returned (.bool (nmd p))/\Below w.heap.size w w':=by
 have bA:Below w.heap.size w (w.alloc (.cells #[.int .i64 p.op,.int .i64 p.k,.int .i64 p.v,.int .i64 p.n] 66 (0,0))):=(Below.refl _ _).alloc zBR _;unfold nmd;by_cases h2:(p.op==2)=true
 ·go_enter Tryz.func74,Tryz.ntmps74
  go_wp2;go_ret;exact ⟨by simp [h2],bA⟩
 have h2:(p.op==2)=false:=(by simpa using h2);by_cases h3:(p.op==3)=true
 ·go_enter Tryz.func74,Tryz.ntmps74
  go_wp2;go_ret;exact ⟨by simp [h2,h3],bA⟩
 have h3:(p.op==3)=false:=(by simpa using h3);go_enter Tryz.func74,Tryz.ntmps74;go_wp2;go_ret;exact ⟨by simp [h2,h3],bA⟩
theorem zAK {ok:Nat->Prop} {w:World} {va ve:Value} {A:List Int} {E:List Pu} (op k out n:Int) (hA:HInts ok w va A) (hE:HPu ok w ve E) (dm:A.length<=1000000) (fo:E.length<=1000000) :
  Calls Tryz.prog 60 #[.agg #[.int .i64 op,.int .i64 k,.int .i64 out,.int .i64 n,va,ve]] w fun e w'=>∃ v,e=.returned v/\OwnL kInt w.heap.size w' v (foldI (usesL A E))/\Below w.heap.size w w':=by
 obtain ⟨aA,cA,rfl,pM,la,_⟩:=hA.at;obtain ⟨aE,cE,rfl,tN,tP,_⟩:=hE.at;have HA:=zBK hA;have HE:=zBK hE;clear hA hE;obtain ⟨W,hW⟩:=nmQ (w.alloc (.cells #[.int .i64 op,.int .i64 k,.int .i64 out,.int .i64 n,.slice aA A.length cA,.slice aE E.length cE] 42 (0,0)));have bA:=newB hW;have KA:W.heap[w.heap.size]?=some (.cells #[.int .i64 op,.int .i64 k,.int .i64 out,.int .i64 n,.slice aA A.length cA,.slice aE E.length cE] 42 (0,0)):=(by rw [hW];exact zBO w _);go_enter Tryz.func60,Tryz.ntmps60;go_upto_region 1 with fail;rw [<-hW];clear hW;go_wp2_with fail;go_loopg [3,4] A.length (fun gh s3 s4 wr=>∃ i:Nat,s4=.int .i64 (i:Int)/\i<=A.length/\A.length<=gh+i/\Hid (OwnL kInt (w.heap.size+1) wr s3 (foldI (A.take i)))/\Below w.heap.size w wr/\wr.heap[w.heap.size]?=some (.cells #[.int .i64 op,.int .i64 k,.int .i64 out,.int .i64 n,.slice aA A.length cA,.slice aE E.length cE] 42 (0,0)))
 case atStart=>exact ⟨0,rfl,by omega,by omega,zBK OwnL.nil,bA,KA⟩
 case round=>
  clear bA KA;obtain ⟨i,rfl,qb,DW,HO,bR,K⟩:=hrel;have yR:=bR.size;have yK:=zBM K;have d4:=coQ K 4;have d5:=coQ K 5;simp at d4 d5;by_cases bd:i<A.length
  case neg=>
   have tZ:¬(i:Int)<(A.length:Int):=(by omega);have qa:i=A.length:=(by omega);have o2:=HO.out;rw [qa,List.take_length] at o2;clear HO qa;obtain ⟨wo,PD⟩:=nmQ (wr);subst PD;go_upto_region 6 with fail;clear tZ DW qb;go_wp2_with fail;go_loopg [3,5] E.length (fun gh s3 s5 wr=>∃ i:Nat,s5=.int .i64 (i:Int)/\i<=E.length/\E.length<=gh+i/\Hid (OwnL kInt (w.heap.size+1) wr s3 (foldI (usesL A (E.take i))))/\Below w.heap.size w wr/\wr.heap[w.heap.size]?=some (.cells #[.int .i64 op,.int .i64 k,.int .i64 out,.int .i64 n,.slice aA A.length cA,.slice aE E.length cE] 42 (0,0)))
   case atStart=>exact ⟨0,rfl,by omega,by omega,zBK (by simpa [usesL] using o2),bR,K⟩
   case round=>
    clear o2 bR K d4 d5 yR yK;obtain ⟨i,rfl,qb,DW,HO,bR,K⟩:=hrel;have yR:=bR.size;have yK:=zBM K;have d5:=coQ K 5;simp at d5;by_cases bd:i<E.length
    case neg=>
     have tZ:¬(i:Int)<(E.length:Int):=(by omega);have qa:i=E.length:=(by omega);have ho:=HO.out;rw [qa,List.take_length] at ho;go_wp2_with fail;go_ret;exact ⟨_,rfl,zCG ho (Nat.le_succ _),bR⟩
    case pos=>
     have xh:(i:Int)<(E.length:Int):=(by omega);obtain ⟨gw,dk,ev,_,_,dr⟩:=(HE.out.under bR).at;injection ev with nD mw sf;subst nD;obtain ⟨b,o,rfl,hb,c0,c1,c2,c3⟩:=dr i bd;clear dr mw sf;have HX:Hid (∀ V:World,Below w.heap.size w V->V.cell? ⟨b,o+i*4+2,none⟩=some (.int .i64 (E[i]).v)):=zBK (fun V bV=>by
      obtain ⟨gw,dk,ev,_,_,gN⟩:=(HE.out.under bV).at;injection ev with nD mw sf;subst nD;obtain ⟨b',o',e,sn,_,_,c1,_⟩:=gN i bd;injection e with e;injection e with e1 e2 e3;subst e1 e2;exact c1)
     have HS:=zBK (zAZ A E i bd);have xG:=foldI_len (usesL A (E.take i));have Hq:=zCZ A (E.take i);rw [List.length_take,Nat.min_eq_left qb] at Hq;generalize E[i]=p at c0 c1 c2 c3 HS HX;have fB:=named_any p
     cases hn:nmd p with
     | false=>
      rw [hn] at HS;simp only [Bool.false_eq_true,if_false,List.append_nil] at HS;have hc:=fB wr;rw [hn] at hc
      go_wp2_with (go_at_call 74;refine hc.mono ?_;rintro e w' ⟨rfl,b5⟩)
      go_roundg (gk-1)
      case measure=>omega
      case rel=>exact ⟨i+1,by go_num,by omega,by omega,zBK (by rw [HS.out];exact HO.out.below b5),bR.trans (b5.mono yR),(b5.block _ yK).trans K⟩
     | true=>
      rw [hn] at HS;simp only [if_true] at HS;have hc:=fB wr;rw [hn] at hc;go_wp2_with fail;refine hc.mono ?_;rintro e w5 ⟨rfl,b5⟩;have c5:=HX.out w5 (bR.trans (b5.mono yR));have K5:=(b5.block _ yK).trans K;clear c0 c1 c2 c3 d5;have d5:=coQ K5 5;simp at d5;have own:=HO.out.below b5;have y5:=b5.size;have hi:=zAn p.v (zBj own.row) (by omega)
      go_wp2_with (go_at_call 73;refine hi.mono ?_;rintro e w6 ⟨v6,rfl,ob,b6⟩)
      go_roundg (gk-1)
      case measure=>omega
      case rel=>exact ⟨i+1,by go_num,by omega,by omega,zBK (by rw [HS.out,zAf];exact zCG ob (by omega)),(bR.trans (b5.mono yR)).trans (b6.mono (by omega)),(b6.block _ (by omega)).trans K5⟩
  case pos=>
   have xh:(i:Int)<(A.length:Int):=(by omega);obtain ⟨gw,dk,ev,_,_,dr⟩:=(HA.out.under bR).at;injection ev with nD mw sf;subst nD;obtain ⟨b,o,rfl,hb,c0⟩:=dr i bd;clear dr mw sf;have HT:=zBK (List.take_succ_eq_append_getElem bd);have xG:=foldI_len (A.take i);rw [List.length_take,Nat.min_eq_left qb] at xG;generalize A[i]=x at c0 HT;have own:=HO.out;have hi:=zAn x (zBj own.row) (by omega)
   go_wp2_with (go_at_call 73;refine hi.mono ?_;rintro e w6 ⟨v6,rfl,ob,b6⟩)
   go_roundg (gk-1)
   case measure=>omega
   case rel=>exact ⟨i+1,by go_num,by omega,by omega,zBK (by rw [HT.out,zAf];exact zCG ob (by omega)),bR.trans (b6.mono yR),(b6.block _ yK).trans K⟩
end Go.Proofs.YtfhghlpfeeiaeaaGreatDoor
namespace Go.Proofs.YtfhghlpfeeiaeaaGreatDoor
open Go.Shelf Go.RowKit Go.Lib Go.IntWalk
def SS (l:List Int):Prop:=l.Pairwise (fun x y=>x<y)
theorem ss_eq:∀ (a b:List Int),SS a->SS b->(∀ y,y ∈ a↔y ∈ b)->a=b
 | [],[],_,_,_=>rfl
 | [],y :: t,_,_,h=>by have:=(h y).2 (by simp);simp at this
 | x :: s,[],_,_,h=>by have:=(h x).1 (by simp);simp at this
 | x :: s,y :: t,ha,hb,h=>by
  have ha':=List.pairwise_cons.1 ha;have sn:=List.pairwise_cons.1 hb;have e:x=y:=by
   have h1:=(h x).1 (by simp);have h2:=(h y).2 (by simp);rcases List.mem_cons.1 h1 with h1 | h1
   ·exact h1
   rcases List.mem_cons.1 h2 with h2 | h2
   ·exact h2.symm
   have:=sn.1 x h1;have:=ha'.1 y h2;omega
  subst e;have:=ss_eq s t ha'.2 sn.2 (fun z=>by
   constructor
   ·intro hz
    rcases List.mem_cons.1 ((h z).1 (List.mem_cons_of_mem _ hz)) with q | q
    ·have:=ha'.1 z hz;omega
    ·exact q
   ·intro hz
    rcases List.mem_cons.1 ((h z).2 (List.mem_cons_of_mem _ hz)) with q | q
    ·have:=sn.1 z hz;omega
    ·exact q)
  rw [this]
theorem mem_ins (n y:Int):∀ (l:List Int),y ∈ ins n l↔y=n\/y ∈ l
 | []=>by simp [ins]
 | x :: t=>by
  have ih:=mem_ins n y t;rw [ins];by_cases h1:n<=x
  ·rw [if_pos h1]
   by_cases h2:n<x
   ·rw [if_pos h2];simp
   ·rw [if_neg h2]
    have:x=n:=(by omega);subst this;simp
  ·rw [if_neg h1]
   simp only [List.mem_cons,ih]
   constructor
   ·rintro (h | h | h)
    ·exact .inr (.inl h)
    ·exact .inl h
    ·exact .inr (.inr h)
   ·rintro (h | h | h)
    ·exact .inr (.inl h)
    ·exact .inl h
    ·exact .inr (.inr h)
theorem ins_ss (n:Int):∀ (l:List Int),SS l->SS (ins n l)
 | [],_=>by simp [ins,SS]
 | x :: t,h=>by
  have h':=List.pairwise_cons.1 h;rw [ins];by_cases h1:n<=x
  ·rw [if_pos h1]
   by_cases h2:n<x
   ·rw [if_pos h2]
    refine List.pairwise_cons.2 ⟨fun y hy=>?_,h⟩;rcases List.mem_cons.1 hy with e | hy
    ·omega
    ·have:=h'.1 y hy;omega
   ·rw [if_neg h2];exact h
  ·rw [if_neg h1]
   refine List.pairwise_cons.2 ⟨fun y hy=>?_,ins_ss n t h'.2⟩;rcases (mem_ins n y t).1 hy with e | hy
   ·omega
   ·exact h'.1 y hy
theorem foldl_ss:∀ (L o:List Int),SS o->SS (L.foldl (fun o x=>ins x o) o)/\∀ y,y ∈ L.foldl (fun o x=>ins x o) o↔y ∈ o\/y ∈ L
 | [],o,h=>⟨h,fun y=>by simp⟩
 | x :: t,o,h=>by
  obtain ⟨h1,h2⟩:=foldl_ss t (ins x o) (ins_ss x o h);refine ⟨h1,fun y=>?_⟩;rw [List.foldl_cons,h2 y,mem_ins,List.mem_cons]
  constructor
  ·rintro ((h | h) | h)
   ·exact .inr (.inl h)
   ·exact .inl h
   ·exact .inr (.inr h)
  ·rintro (h | h | h)
   ·exact .inl (.inr h)
   ·exact .inl (.inl h)
   ·exact .inr h
theorem zAg {l:List Int} (hs:l.Pairwise (fun x y=>x<=y)):∀ m,m<=l.length->SS (Lib.compactUpTo l.toArray m)/\∀ y,y ∈ Lib.compactUpTo l.toArray m↔∃ j,j<m/\l.toArray[j]! = y
 | 0,_=>⟨by simp [Lib.compactUpTo,SS],fun y=>by simp [Lib.compactUpTo]⟩
 | m+1,hm=>by
  obtain ⟨h1,h2⟩:=zAg hs m (by omega);have hle:∀ i j,i<=j->j<l.length->l.toArray[i]! <= l.toArray[j]! := fun i j y9 hj=>by
   rcases Nat.lt_or_eq_of_le y9 with h | h
   ·have:=(List.pairwise_iff_getElem.1 hs) i j (by omega) hj h
    simpa [hj,show i<l.length by omega] using this
   ·subst h;exact Int.le_refl _
  rw [Lib.compactUpTo_succ];by_cases hk:Lib.keeps l.toArray m=true
  ·rw [if_pos hk]
   refine ⟨?_,fun y=>?_⟩
   ·refine List.pairwise_append.2 ⟨h1,by simp,fun a ha b hb=>?_⟩
    obtain rfl:b=l.toArray[m]! := by simpa using hb
    obtain ⟨j,hj,rfl⟩:=(h2 a).1 ha;have oD:m=0\/l.toArray[m]! ≠ l.toArray[m-1]! := (by simpa [Lib.keeps] using hk);rcases oD with h | h
    ·omega
    ·have:=hle j (m-1) (by omega) (by omega)
     have:=hle (m-1) m (by omega) (by omega);omega
   ·rw [List.mem_append,h2 y,List.mem_singleton]
    constructor
    ·rintro (⟨j,hj,e⟩ | e)
     ·exact ⟨j,by omega,e⟩
     ·exact ⟨m,by omega,e.symm⟩
    ·rintro ⟨j,hj,e⟩
     rcases Nat.lt_or_eq_of_le (Nat.le_of_lt_succ hj) with h | h
     ·exact .inl ⟨j,h,e⟩
     ·subst h;exact .inr e.symm
  ·rw [if_neg hk,List.append_nil]
   refine ⟨h1,fun y=>?_⟩;have oD:m≠0/\l.toArray[m]! = l.toArray[m-1]! := by
    have:¬(m=0\/l.toArray[m]! ≠ l.toArray[m-1]!):=by
     intro h;exact hk (by unfold Lib.keeps;exact decide_eq_true h)
    constructor
    ·intro h;exact this (.inl h)
    ·exact Decidable.byContradiction fun h=>this (.inr h)
   rw [h2 y]
   constructor
   ·rintro ⟨j,hj,e⟩;exact ⟨j,by omega,e⟩
   ·rintro ⟨j,hj,e⟩
    rcases Nat.lt_or_eq_of_le (Nat.le_of_lt_succ hj) with h | h
    ·exact ⟨j,h,e⟩
    ·subst h;exact ⟨j-1,by omega,by rw [<-oD.2];exact e⟩
theorem sort_le (L:List Int):(L.mergeSort leB).Pairwise (fun x y=>x<=y):=by
 have h:=List.pairwise_mergeSort (le:=leB) (by intro a b c;simp [leB];omega) (by intro a b;simp [leB];omega) L;exact h.imp (fun h=>by simpa [leB] using h)
theorem arr_at (l:List Int) (j:Nat) (h:j<l.length):l.toArray[j]! = l[j]:=by simp [h]
theorem foldI_eq (L:List Int):foldI L=Lib.compact (L.mergeSort leB):=by
 obtain ⟨h1,h2⟩:=foldl_ss L [] (by simp [SS]);obtain ⟨h3,h4⟩:=zAg (sort_le L) (L.mergeSort leB).length zBR;refine ss_eq _ _ h1 h3 (fun y=>?_);unfold foldI Lib.compact;rw [h2 y];rw [h4 y]
 constructor
 ·rintro (h | h)
  ·cases h
  ·have hm:y ∈ L.mergeSort leB:=List.mem_mergeSort.2 h
   obtain ⟨j,hj,e⟩:=List.getElem_of_mem hm;exact ⟨j,hj,by rw [arr_at _ j hj];exact e⟩
 ·rintro ⟨j,hj,e⟩
  have hm:y ∈ L.mergeSort leB:=(by rw [<-e,arr_at _ j hj];exact List.getElem_mem hj);exact .inr (List.mem_mergeSort.1 hm)
end Go.Proofs.YtfhghlpfeeiaeaaGreatDoor
namespace Go.Proofs.YtfhghlpfeeiaeaaGreatDoor
open Go.RowKit Go.IntWalk
theorem zBr {ok:Nat->Prop} {w:World} {v:Value} {l:List Int} (x:Int) (hl:HInts ok w v l) :
  Calls Tryz.prog 20 #[v,.int .i64 x] w fun e w'=>e=.returned (.bool (l.any (fun z=>z==x)))/\Below w.heap.size w w':=by
 obtain ⟨ao,cap,rfl,bH,cG,-⟩:=hl.at;unfold maxLen at cG;obtain ⟨R,hR⟩:=nmQ (l.any (fun z=>z==x));rw [<-hR];have HR:=zBK (show R=(l.drop 0).any (fun z=>z==x) by rw [List.drop_zero];exact hR);have HL:=zBK hl;clear hR hl;obtain ⟨n,hn⟩:=nmQ (l.length);rw [<-hn] at bH ⊢;have HN:=zBK hn;clear hn;go_enter Tryz.func20,Tryz.ntmps20;go_wp2_with fail;go_loopg [5] n (fun k v wr=>∃ i,i<=n/\k=n-i/\v=.int .i64 (i:Nat)/\Hid (R=(l.drop i).any (fun z=>z==x))/\Below w.heap.size w wr)
 case atStart=>exact ⟨0,Nat.zero_le _,rfl,rfl,HR,Below.refl _ _⟩
 case round=>
  clear HR;obtain ⟨i,hi,rfl,rfl,H,aH⟩:=hrel;by_cases bd:i<n
  case neg=>
   have bp:i=n:=(by omega);subst bp;have e1:l.drop i=[]:=List.drop_of_length_le (by have:=HN.out;omega);have HZ:=zBK (show R=false by rw [H.out,e1];rfl);clear e1;go_wp2;go_ret;exact ⟨by rw [HZ.out];rfl,aH⟩
  case pos=>
   have dj:i<l.length:=(by have:=HN.out;omega);have hdr:l.drop i=l[i] :: l.drop (i+1):=List.drop_eq_getElem_cons dj;have bY:=H.out;rw [hdr,List.any_cons] at bY;obtain ⟨gw,dk,eqs,-,-,bg⟩:=(HL.out.under aH).at;injection eqs with q1 q2 q3;subst q1;obtain ⟨bb,o,rfl,hb,e0⟩:=bg i dj;obtain ⟨y,hy⟩:=nmQ (l[i]);rw [<-hy] at e0 bY;have cq:=zBK bY;clear bg q2 q3 hy hdr bY H
   cases hq:(y==x)
   case false=>
    have HZ:Hid (R=(l.drop (i+1)).any (fun z=>z==x)):=zBK (by rw [cq.out,hq,Bool.false_or]);clear cq;go_wp2_with fail;go_roundg (n-(i+1))
    case measure=>omega
    case rel=>exact ⟨i+1,by omega,rfl,by go_num,HZ,aH⟩
   case true=>
    have HZ:Hid (R=true):=zBK (by rw [cq.out,hq,Bool.true_or]);clear cq;go_wp2;go_ret;exact ⟨by rw [HZ.out];rfl,aH⟩
theorem zBw {l:List Int} {x:Int}:(l.any (fun z=>z==x))=true↔x ∈ l:=by
 rw [List.any_eq_true]
 constructor
 ·rintro ⟨z,hz,e⟩
  have:z=x:=(by simpa using e);exact this ▸ hz
 ·intro h
  exact ⟨x,h,by simp⟩
theorem zAh {ok ok':Nat->Prop} {w:World} {u v:Value} {l:List Int} (hu:HInts ok w u l) (hv:HInts ok' w v l) :
  Calls Tryz.prog 26 #[u,v] w fun e w'=>e=.returned (.bool true)/\Below w.heap.size w w':=by
 obtain ⟨aU,cU,rfl,lL,j8,-⟩:=hu.at;obtain ⟨aV,cV,rfl,iy,jg,-⟩:=hv.at;unfold maxLen at j8 jg;have HU:=zBK hu;have HV:=zBK hv;obtain ⟨n,hn⟩:=nmQ (l.length);rw [<-hn] at lL iy ⊢;have HN:=zBK hn;clear hu hv hn;go_enter Tryz.func26,Tryz.ntmps26;go_wp2_with fail;go_loopg [5] n (fun k v wr=>∃ (i:Nat),i<=n/\k=n-i/\v=.int .i64 (i:Nat)/\Below w.heap.size w wr)
 case atStart=>exact ⟨0,Nat.zero_le _,rfl,rfl,Below.refl _ _⟩
 case round=>
  obtain ⟨i,hi,rfl,rfl,aH⟩:=hrel;have zr:=aH.size;by_cases bd:i<n
  case neg=>
   have bp:i=n:=(by omega);subst bp;go_wp2;go_ret;exact ⟨rfl,aH⟩
  case pos=>
   have dj:i<l.length:=(by have:=HN.out;omega);obtain ⟨ao,cp,e1,-,-,bo⟩:=(HU.out.under aH).at;injection e1 with q1 q2 q3;obtain ⟨b1,o1,lz,y1,x1⟩:=bo i dj;rw [lz] at q1;subst q1;obtain ⟨vX,DH,e2,-,-,bg⟩:=(HV.out.under aH).at;injection e2 with z1 z2 z3;obtain ⟨b2,o2,lb,y2,x2⟩:=bg i dj;rw [lb] at z1;subst z1;generalize l[i]=y at x1 x2;clear bo bg q2 q3 z2 z3 lz lb dj;go_upto_region 6 with fail;have aM:=zBK (fun (wz:World) (hSw:Below wr.heap.size wr wz)=>And.intro ((hSw.cell (p:=⟨b1,o1+i,none⟩) y1).trans x1) ((hSw.cell (p:=⟨b2,o2+i,none⟩) y2).trans x2));refine zBP (fun w'=>Below wr.heap.size wr w') (fun _=>false) (by kernel_rfl) ?_;have ab:Below wr.heap.size wr wr.drew:=(Below.refl _ _).drew;generalize wr.drew=ag at ab ⊢;refine' tkR 0 17 ab ?o1
   refine' tkR 1 18 ab ?o2
   refine' tkR 2 19 ab ?o3
   refine' tkQ 3 20 ab ?hyv ?o4
   case hyv=>
    intro wz hSw;have bk:=aM.out wz hSw;go_simp
    try rfl
   try simp only [Act.put,sT,sZ,sS]
   refine' tkR 4 21 ab ?o5
   refine' tkR 5 22 ab ?o6
   refine' tkR 6 23 ab ?o7
   refine' tkQ 7 24 ab ?hyv ?o8
   case hyv=>
    intro wz hSw;have bk:=aM.out wz hSw;go_simp
    try rfl
   try simp only [Act.put,sT,sZ,sS]
   refine' tkR 8 25 ab ?o9
   refine zBN (by kernel_rfl) ?_ _;clear x1 x2;have BE:=aH.trans (ab.mono aH.size);go_wp2_with fail;go_roundg (n-(i+1))
   case measure=>omega
   case rel=>exact ⟨i+1,by omega,rfl,by go_num,BE⟩
structure RowsR (w:World) (n:Nat) (e:Ending) (w':World):Prop where
 out:∃ b,e=.returned (.bool b)/\(b=false->n<=60)/\Below w.heap.size w w'
theorem zBF {ok:Nat->Prop} {w:World} {u:Value} {L:List (List Int)} (hu:HRow kLL ok w u L):Calls Tryz.prog 6 #[u] w (RowsR w L.length):=by
 obtain ⟨aU,cU,rfl,lL,j8,-⟩:=hu.llAt;unfold maxLen at j8;have HU:=zBK hu;obtain ⟨n,hn⟩:=nmQ (L.length);rw [<-hn] at lL ⊢;have HN:=zBK hn;clear hu hn;by_cases Ga:60<n
 case pos=>
  go_enter Tryz.func6,Tryz.ntmps6;go_wp2;go_ret;exact ⟨⟨true,rfl,fun h=>(by cases h),Below.refl _ _⟩⟩
 case neg=>
  have Oa:n<=60:=(by omega);go_enter Tryz.func6,Tryz.ntmps6;go_wp2_with fail;go_loopg [3] n (fun k v wr=>∃ (i:Nat),i<=n/\k=n-i/\v=.int .i64 (i:Nat)/\wr=w)
  case atStart=>exact ⟨0,Nat.zero_le _,rfl,rfl,rfl⟩
  case round=>
   obtain ⟨i,hi,rfl,rfl,rfl⟩:=hrel;by_cases bd:i<n
   case neg=>
    have bp:i=n:=(by omega);subst bp;go_wp2;go_ret;exact ⟨⟨false,rfl,fun _=>Oa,Below.refl _ _⟩⟩
   case pos=>
    have dj:i<L.length:=(by have:=HN.out;omega);obtain ⟨ao,cp,e1,-,-,bo⟩:=HU.out.llAt;injection e1 with q1 q2 q3;obtain ⟨b1,o1,v1,lz,y1,x1,p9⟩:=bo i dj;rw [lz] at q1;subst q1;obtain ⟨a2,c2,rfl,-,cG,-⟩:=p9.at;unfold maxLen at cG;generalize (L[i]).length=m at x1;clear bo q2 q3 lz dj p9;by_cases hm:10000<m
    case pos=>
     go_wp2;go_ret;exact ⟨⟨true,rfl,fun h=>(by cases h),Below.refl _ _⟩⟩
    case neg=>
     go_wp2_with fail;go_roundg (n-(i+1))
     case measure=>omega
     case rel=>exact ⟨i+1,by omega,rfl,by go_num,rfl⟩
theorem cells25_any (n:Int) (w:World):Calls Tryz.prog 11 #[.int .i64 n] w fun e w'=>(∃ x:Int,e=.returned (.int .i64 x))/\w'=w:=by
 by_cases h:n<1
 ·go_enter Tryz.func11,Tryz.ntmps11
  go_wp2;go_ret;exact ⟨⟨_,rfl⟩,rfl⟩
 ·go_enter Tryz.func11,Tryz.ntmps11
  go_wp2;go_ret;exact ⟨⟨_,rfl⟩,rfl⟩
structure GreatR (w:World) (S:Sk.Sys) (e:Ending) (w':World):Prop where
 out:∃ b,e=.returned (.bool b)/\(b=false->(S.V.length<=150/\S.I.length<=150/\S.O.length<=150/\S.R.length<=150)/\∀ r ∈ S.R,r.A.length<=100/\r.E.length<=1000)/\Below w.heap.size w w'
theorem great8_any {ok:Nat->Prop} {w:World} {aV aI aO aR:Option Addr} {cV cI cO cR:Nat} {S:Sk.Sys} (hS:HSys ok w aV aI aO aR cV cI cO cR S) :
  Calls Tryz.prog 5 #[.agg #[.slice aV S.V.length cV,.slice aI S.I.length cI,.slice aO S.O.length cO,.slice aR S.R.length cR],.int .i64 150] w (GreatR w S):=by
 obtain ⟨JK,Q1,AW,DQ,wI,-⟩:=hS.V.at;injection AW with q1 q2 q3;subst q1 q3;obtain ⟨om,Q0,iQ,bY,ik,-⟩:=hS.R.at;injection iQ with q1 P3 q3;subst q1 q3;obtain ⟨JI,QY,wm,dS,fT,-⟩:=hS.I.at;injection wm with q1 P4 q3;subst q1 q3;obtain ⟨FQ,QZ,wB,yQ,ri,-⟩:=hS.O.at;injection wB with q1 P7 q3;subst q1 q3;unfold maxLen at wI ik fT ri;clear q2 P3 P4 P7;have b1:Below w.heap.size w (w.alloc (.cells #[.slice aV S.V.length cV,.slice aI S.I.length cI,.slice aO S.O.length cO,.slice aR S.R.length cR] 26 (0,0))):=(Below.refl _ _).alloc zBR _;have kS:=zBO w (.cells #[.slice aV S.V.length cV,.slice aI S.I.length cI,.slice aO S.O.length cO,.slice aR S.R.length cR] 26 (0,0));have HS:=zBK (hS.under b1);clear hS;by_cases hV:150<S.V.length
 case pos=>
  go_enter Tryz.func5,Tryz.ntmps5;go_upto_region 1 with fail;generalize w.alloc (.cells #[.slice aV S.V.length cV,.slice aI S.I.length cI,.slice aO S.O.length cO,.slice aR S.R.length cR] 26 (0,0))=w1 at b1 kS HS ⊢;have k0:=coQ kS 0;have k1:=coQ kS 1;have k2:=coQ kS 2;have k3:=coQ kS 3;simp at k0 k1 k2 k3;go_wp2;go_ret;exact ⟨⟨true,rfl,fun h=>(by cases h),b1⟩⟩
 case neg=>
  by_cases hR:150<S.R.length
  case pos=>
   go_enter Tryz.func5,Tryz.ntmps5;go_upto_region 1 with fail;generalize w.alloc (.cells #[.slice aV S.V.length cV,.slice aI S.I.length cI,.slice aO S.O.length cO,.slice aR S.R.length cR] 26 (0,0))=w1 at b1 kS HS ⊢;have k0:=coQ kS 0;have k1:=coQ kS 1;have k2:=coQ kS 2;have k3:=coQ kS 3;simp at k0 k1 k2 k3;go_wp2;go_ret;exact ⟨⟨true,rfl,fun h=>(by cases h),b1⟩⟩
  case neg=>
   by_cases hI:150<S.I.length
   case pos=>
    go_enter Tryz.func5,Tryz.ntmps5;go_upto_region 1 with fail;generalize w.alloc (.cells #[.slice aV S.V.length cV,.slice aI S.I.length cI,.slice aO S.O.length cO,.slice aR S.R.length cR] 26 (0,0))=w1 at b1 kS HS ⊢;have k0:=coQ kS 0;have k1:=coQ kS 1;have k2:=coQ kS 2;have k3:=coQ kS 3;simp at k0 k1 k2 k3;go_wp2;go_ret;exact ⟨⟨true,rfl,fun h=>(by cases h),b1⟩⟩
   case neg=>
    by_cases hO:150<S.O.length
    case pos=>
     go_enter Tryz.func5,Tryz.ntmps5;go_upto_region 1 with fail;generalize w.alloc (.cells #[.slice aV S.V.length cV,.slice aI S.I.length cI,.slice aO S.O.length cO,.slice aR S.R.length cR] 26 (0,0))=w1 at b1 kS HS ⊢;have k0:=coQ kS 0;have k1:=coQ kS 1;have k2:=coQ kS 2;have k3:=coQ kS 3;simp at k0 k1 k2 k3;go_wp2;go_ret;exact ⟨⟨true,rfl,fun h=>(by cases h),b1⟩⟩
    case neg=>
     go_enter Tryz.func5,Tryz.ntmps5;go_upto_region 1 with fail;generalize w.alloc (.cells #[.slice aV S.V.length cV,.slice aI S.I.length cI,.slice aO S.O.length cO,.slice aR S.R.length cR] 26 (0,0))=w1 at b1 kS HS ⊢;have k0:=coQ kS 0;have k1:=coQ kS 1;have k2:=coQ kS 2;have k3:=coQ kS 3;simp at k0 k1 k2 k3;have yS:=zBM kS;go_wp2_with fail;go_loopg [5,6] S.V.length (fun k u v wr=>∃ (i:Nat) (x:Int),i<=S.V.length/\k=S.V.length-i/\u=.int .i64 x/\v=.int .i64 (i:Nat)/\wr=w1)
     case atStart=>exact ⟨0,0,Nat.zero_le _,rfl,rfl,rfl,rfl⟩
     case round=>
      obtain ⟨i,x,hi,rfl,rfl,rfl,rfl⟩:=hrel;by_cases bd:i<S.V.length
      case pos=>
       obtain ⟨ao,cp,e1,-,-,bo⟩:=HS.out.V.at;injection e1 with q1 q2 q3;obtain ⟨bV,oV,gV,yV,x0,y0⟩:=bo i bd;rw [gV] at q1;subst q1;generalize S.V[i]=va at x0 y0;obtain ⟨ve,vn⟩:=va;simp only at x0 y0;clear bo q2 q3 gV;by_cases hm:1000<vn
       case pos=>
        go_wp2;go_ret;exact ⟨⟨true,rfl,fun h=>(by cases h),b1⟩⟩
       case neg=>
        go_wp2_with fail;refine (cells25_any _ _).mono ?_;rintro e w2 ⟨⟨cx,rfl⟩,rfl⟩;go_wp2_with fail;go_roundg (S.V.length-(i+1))
        case measure=>omega
        case rel=>exact ⟨i+1,_,by omega,rfl,rfl,by go_num,rfl⟩
      case neg=>
       have bp:i=S.V.length:=(by omega);subst bp;obtain ⟨wL,Py⟩:=nmQ (wr);subst Py;have HK:=zBK kS;go_wp2_with fail;go_loopg [5,7] S.R.length (fun k u v wr=>∃ (i:Nat) (x:Int),i<=S.R.length/\k=S.R.length-i/\u=.int .i64 x/\v=.int .i64 (i:Nat)/\Hid (∀ r ∈ S.R.take i,r.A.length<=100/\r.E.length<=1000)/\Below wL.heap.size wL wr)
       case atStart=>exact ⟨0,_,Nat.zero_le _,rfl,rfl,rfl,zBK (by simp),Below.refl _ _⟩
       case round=>
        clear k0 k1 k2 k3 kS;obtain ⟨i,x,hi,rfl,rfl,rfl,HF,aH⟩:=hrel;have zr:=aH.size;have B:=b1.trans (aH.mono b1.size);have ep:=(aH.block _ yS).trans HK.out;have k3:=coQ ep 3;simp at k3;by_cases bd:i<S.R.length
        case neg=>
         have bp:i=S.R.length:=(by omega);subst bp;rw [List.take_length] at HF;go_wp2;go_ret;exact ⟨⟨_,rfl,fun _=>⟨⟨by omega,by omega,by omega,by omega⟩,HF.out⟩,B⟩⟩
        case pos=>
         obtain ⟨gw,dk,eqs,-,-,bg⟩:=(HS.out.under aH).R.at;injection eqs with q1 q2 q3;obtain ⟨bR,oR,y,fU,yb,bo,dA⟩:=bg i bd;rw [fU] at q1;subst q1;obtain ⟨r,hr⟩:=nmQ (S.R[i]);have LP:S.R.take (i+1)=S.R.take i++[r]:=(by rw [List.take_succ_eq_append_getElem bd,hr]);rw [<-hr] at bo dA;obtain ⟨d0,d1,d2,d3,d4,d5⟩:=bo;have lA:y.nA=r.A.length:=(by obtain ⟨a',c',e',-⟩:=dA.A.at;injection e' with _ e' _);have lE:y.nE=r.E.length:=(by obtain ⟨a',c',e',-⟩:=dA.E.at;injection e' with _ e' _);have cA:y.nA<=9223372036854775807:=(by obtain ⟨a',c',e',h1,h2,-⟩:=dA.A.at;unfold maxLen at h2;injection e' with _ e' _;omega);have cE:y.nE<=9223372036854775807:=(by obtain ⟨a',c',e',h1,h2,-⟩:=dA.E.at;unfold maxLen at h2;injection e' with _ e' _;omega);have FA:=zBK LP;have Jd:=zBK (And.intro lA lE);have bA:Below wr.heap.size wr (wr.alloc (.cells #[.int .i64 r.op,.int .i64 r.k,.int .i64 r.out,.int .i64 r.n,.slice y.aA y.nA y.cA,.slice y.aE y.nE y.cE] 42 (0,0))):=(Below.refl _ _).alloc zBR _;have kV:=zBO wr (.cells #[.int .i64 r.op,.int .i64 r.k,.int .i64 r.out,.int .i64 r.n,.slice y.aA y.nA y.cA,.slice y.aE y.nE y.cE] 42 (0,0));obtain ⟨Mg,rk,Ip,rn,rA,rE⟩:=r;obtain ⟨Qq,Mo,Qs,Qr,Mp,Qt⟩:=y;simp only at d0 d1 d2 d3 d4 d5 Jd bA kV cA cE;clear bg q2 q3 fU hr LP dA lA lE;go_upto_region 14 with fail;generalize wr.alloc (.cells #[.int .i64 Mg,.int .i64 rk,.int .i64 Ip,.int .i64 rn,.slice Qq Mo Qs,.slice Qr Mp Qt] 42 (0,0))=wA at bA kV ⊢;have v0:=coQ kV 0;have v1:=coQ kV 1;have v2:=coQ kV 2;have v3:=coQ kV 3;have v4:=coQ kV 4;have v5:=coQ kV 5;simp at v0 v1 v2 v3 v4 v5;have BA:=aH.trans (bA.mono zr);have BB:=b1.trans (BA.mono b1.size);clear d0 d1 d2 d3 d4 d5 kV k3;by_cases hA:100<Mo
         case pos=>
          go_wp2;go_ret;exact ⟨⟨true,rfl,fun h=>(by cases h),BB⟩⟩
         case neg=>
          by_cases hE:1000<Mp
          case pos=>
           go_wp2;go_ret;exact ⟨⟨true,rfl,fun h=>(by cases h),BB⟩⟩
          case neg=>
           have I1:=zBK (show ∀ r ∈ S.R.take (i+1),r.A.length<=100/\r.E.length<=1000 from fun r hr=>by
            rw [FA.out] at hr;rcases List.mem_append.1 hr with q | q
            ·exact HF.out r q
            ·simp at q
             subst q;have:=Jd.out;simp only;omega)
           cases yN:(Mg==15)
           case false=>
            go_wp2_with fail;go_roundg (S.R.length-(i+1))
            case measure=>omega
            case rel=>exact ⟨i+1,_,by omega,rfl,rfl,by go_num,I1,BA⟩
           case true=>
            by_cases hN:1000<rn
            case pos=>
             go_wp2;go_ret;exact ⟨⟨true,rfl,fun h=>(by cases h),BB⟩⟩
            case neg=>
             go_wp2_with fail;go_roundg (S.R.length-(i+1))
             case measure=>omega
             case rel=>exact ⟨i+1,_,by omega,rfl,rfl,by go_num,I1,BA⟩
end Go.Proofs.YtfhghlpfeeiaeaaGreatDoor
