import Derived.Test.YtoldepieaafakaaGreatDoorC44
set_option linter.unusedVariables false
set_option linter.unusedSimpArgs false
set_option maxHeartbeats 64000000
set_option maxRecDepth 100000
namespace Go.Proofs.YtoldepieaafakaaGreatDoor
open Go.Shelf Go.RowKit Go.Lib Go.IntWalk
def foldI (L:List Int):List Int:=L.foldl (fun o x=>ins x o) []
theorem zAx (L:List Int) (x:Int):foldI (L++[x])=ins x (foldI L):=by simp [foldI]
theorem foldl_len:∀ (L o:List Int),(L.foldl (fun o x=>ins x o) o).length<=o.length+L.length
 | [],o=>by simp
 | x :: t,o=>by
  have h1:=foldl_len t (ins x o);have h2:=ins_len x o;simp only [List.foldl_cons,List.length_cons];omega
theorem foldI_len (L:List Int):(foldI L).length<=L.length:=by simpa [foldI] using foldl_len L []
theorem named_any (p:Pu) (w:World):Calls Tryz.prog 52 #[.agg #[.int .i64 p.op,.int .i64 p.k,.int .i64 p.v,.int .i64 p.n]] w fun e w'=>e=.returned (.bool (nmd p))/\Below w.heap.size w w':=by
 have bA:Below w.heap.size w (w.alloc (.cells #[.int .i64 p.op,.int .i64 p.k,.int .i64 p.v,.int .i64 p.n] 84 (0,0))):=(Below.refl _ _).alloc zL _;unfold nmd;by_cases h2:(p.op==2)=true
 ·go_enter Tryz.func52,Tryz.ntmps52
  go_wp2;go_ret;exact ⟨by simp [h2],bA⟩
 have h2:(p.op==2)=false:=(by simpa using h2);by_cases h3:(p.op==3)=true
 ·go_enter Tryz.func52,Tryz.ntmps52
  go_wp2;go_ret;exact ⟨by simp [h2,h3],bA⟩
 have h3:(p.op==3)=false:=(by simpa using h3);go_enter Tryz.func52,Tryz.ntmps52;go_wp2;go_ret;exact ⟨by simp [h2,h3],bA⟩
theorem vO {ok:Nat->Prop} {w:World} {va ve:Value} {A:List Int} {E:List Pu} (op k out n:Int) (hA:HInts ok w va A) (hE:HPu ok w ve E) (hAl:A.length<=1000000) (hEl:E.length<=1000000) :
  Calls Tryz.prog 25 #[.agg #[.int .i64 op,.int .i64 k,.int .i64 out,.int .i64 n,va,ve]] w fun e w'=>∃ v,e=.returned v/\OwnL kInt w.heap.size w' v (foldI (usesL A E))/\Below w.heap.size w w':=by
 obtain ⟨aA,cA,rfl,hA1,hA2,_⟩:=hA.at;obtain ⟨aE,cE,rfl,hE1,hE2,_⟩:=hE.at;have HA:=zD hA;have HE:=zD hE;clear hA hE;obtain ⟨W,hW⟩:=nmQ (w.alloc (.cells #[.int .i64 op,.int .i64 k,.int .i64 out,.int .i64 n,.slice aA A.length cA,.slice aE E.length cE] 39 (0,0)));have bA:=newB hW;have KA:W.heap[w.heap.size]?=some (.cells #[.int .i64 op,.int .i64 k,.int .i64 out,.int .i64 n,.slice aA A.length cA,.slice aE E.length cE] 39 (0,0)):=(by rw [hW];exact zH w _);go_enter Tryz.func25,Tryz.ntmps25;go_upto_region 1 with fail;rw [<-hW];clear hW;go_wp2_with fail;go_loopg [3,4] A.length (fun gh s3 s4 wr=>∃ i:Nat,s4=.int .i64 (i:Int)/\i<=A.length/\A.length<=gh+i/\Hid (OwnL kInt (w.heap.size+1) wr s3 (foldI (A.take i)))/\Below w.heap.size w wr/\wr.heap[w.heap.size]?=some (.cells #[.int .i64 op,.int .i64 k,.int .i64 out,.int .i64 n,.slice aA A.length cA,.slice aE E.length cE] 39 (0,0)))
 case atStart=>exact ⟨0,rfl,by omega,by omega,zD OwnL.nil,bA,KA⟩
 case round=>
  clear bA KA;obtain ⟨i,rfl,his,hgi,HO,bR,K⟩:=hrel;have yR:=bR.size;have yK:=zG K;have d4:=coQ K 4;have d5:=coQ K 5;simp at d4 d5;by_cases hlt:i<A.length
  case neg=>
   have hge:¬(i:Int)<(A.length:Int):=(by omega);have hie:i=A.length:=(by omega);have o2:=HO.out;rw [hie,List.take_length] at o2;clear HO hie;obtain ⟨wo,hwo⟩:=nmQ (wr);subst hwo;go_upto_region 6 with fail;clear hge hgi his;go_wp2_with fail;go_loopg [3,5] E.length (fun gh s3 s5 wr=>∃ i:Nat,s5=.int .i64 (i:Int)/\i<=E.length/\E.length<=gh+i/\Hid (OwnL kInt (w.heap.size+1) wr s3 (foldI (usesL A (E.take i))))/\Below w.heap.size w wr/\wr.heap[w.heap.size]?=some (.cells #[.int .i64 op,.int .i64 k,.int .i64 out,.int .i64 n,.slice aA A.length cA,.slice aE E.length cE] 39 (0,0)))
   case atStart=>exact ⟨0,rfl,by omega,by omega,zD (by simpa [usesL] using o2),bR,K⟩
   case round=>
    clear o2 bR K d4 d5 yR yK;obtain ⟨i,rfl,his,hgi,HO,bR,K⟩:=hrel;have yR:=bR.size;have yK:=zG K;have d5:=coQ K 5;simp at d5;by_cases hlt:i<E.length
    case neg=>
     have hge:¬(i:Int)<(E.length:Int):=(by omega);have hie:i=E.length:=(by omega);have ho:=HO.out;rw [hie,List.take_length] at ho;go_wp2_with fail;go_ret;exact ⟨_,rfl,zY ho (Nat.le_succ _),bR⟩
    case pos=>
     have hltI:(i:Int)<(E.length:Int):=(by omega);obtain ⟨ao',cap',ev,_,_,hatR⟩:=(HE.out.under bR).at;injection ev with ev1 ev2 ev3;subst ev1;obtain ⟨b,o,rfl,hb,c0,c1,c2,c3⟩:=hatR i hlt;clear hatR ev2 ev3;have HX:Hid (∀ V:World,Below w.heap.size w V->V.cell? ⟨b,o+i*4+2,none⟩=some (.int .i64 (E[i]).v)):=zD (fun V bV=>by
      obtain ⟨ao',cap',ev,_,_,hatV⟩:=(HE.out.under bV).at;injection ev with ev1 ev2 ev3;subst ev1;obtain ⟨b',o',e,hb',_,_,c1,_⟩:=hatV i hlt;injection e with e;injection e with e1 e2 e3;subst e1 e2;exact c1)
     have HS:=zD (zAh A E i hlt);have hul:=foldI_len (usesL A (E.take i));have hul2:=vC A (E.take i);rw [List.length_take,Nat.min_eq_left his] at hul2;generalize E[i]=p at c0 c1 c2 c3 HS HX;have hcall:=named_any p
     cases hn:nmd p with
     | false=>
      rw [hn] at HS;simp only [Bool.false_eq_true,if_false,List.append_nil] at HS;have hc:=hcall wr;rw [hn] at hc
      go_wp2_with (go_at_call 52;refine hc.mono ?_;rintro e w' ⟨rfl,b5⟩)
      go_roundg (gk-1)
      case measure=>omega
      case rel=>exact ⟨i+1,by go_num,by omega,by omega,zD (by rw [HS.out];exact HO.out.below b5),bR.trans (b5.mono yR),(b5.block _ yK).trans K⟩
     | true=>
      rw [hn] at HS;simp only [if_true] at HS;have hc:=hcall wr;rw [hn] at hc;go_wp2_with fail;refine hc.mono ?_;rintro e w5 ⟨rfl,b5⟩;have c5:=HX.out w5 (bR.trans (b5.mono yR));have K5:=(b5.block _ yK).trans K;clear c0 c1 c2 c3 d5;have d5:=coQ K5 5;simp at d5;have own:=HO.out.below b5;have y5:=b5.size;have hi:=zBC p.v (xJ own.row) (by omega)
      go_wp2_with (go_at_call 51;refine hi.mono ?_;rintro e w6 ⟨v6,rfl,own6,b6⟩)
      go_roundg (gk-1)
      case measure=>omega
      case rel=>exact ⟨i+1,by go_num,by omega,by omega,zD (by rw [HS.out,zAx];exact zY own6 (by omega)),(bR.trans (b5.mono yR)).trans (b6.mono (by omega)),(b6.block _ (by omega)).trans K5⟩
  case pos=>
   have hltI:(i:Int)<(A.length:Int):=(by omega);obtain ⟨ao',cap',ev,_,_,hatR⟩:=(HA.out.under bR).at;injection ev with ev1 ev2 ev3;subst ev1;obtain ⟨b,o,rfl,hb,c0⟩:=hatR i hlt;clear hatR ev2 ev3;have HT:=zD (List.take_succ_eq_append_getElem hlt);have hul:=foldI_len (A.take i);rw [List.length_take,Nat.min_eq_left his] at hul;generalize A[i]=x at c0 HT;have own:=HO.out;have hi:=zBC x (xJ own.row) (by omega)
   go_wp2_with (go_at_call 51;refine hi.mono ?_;rintro e w6 ⟨v6,rfl,own6,b6⟩)
   go_roundg (gk-1)
   case measure=>omega
   case rel=>exact ⟨i+1,by go_num,by omega,by omega,zD (by rw [HT.out,zAx];exact zY own6 (by omega)),bR.trans (b6.mono yR),(b6.block _ yK).trans K⟩
end Go.Proofs.YtoldepieaafakaaGreatDoor
namespace Go.Proofs.YtoldepieaafakaaGreatDoor
open Go.Shelf Go.RowKit Go.Lib Go.IntWalk
def SS (l:List Int):Prop:=l.Pairwise (fun x y=>x<y)
theorem ss_eq:∀ (a b:List Int),SS a->SS b->(∀ y,y ∈ a↔y ∈ b)->a=b
 | [],[],_,_,_=>rfl
 | [],y :: t,_,_,h=>by have:=(h y).2 (by simp);simp at this
 | x :: s,[],_,_,h=>by have:=(h x).1 (by simp);simp at this
 | x :: s,y :: t,ha,hb,h=>by
  have ha':=List.pairwise_cons.1 ha;have hb':=List.pairwise_cons.1 hb;have e:x=y:=by
   have h1:=(h x).1 (by simp);have h2:=(h y).2 (by simp);rcases List.mem_cons.1 h1 with h1 | h1
   ·exact h1
   rcases List.mem_cons.1 h2 with h2 | h2
   ·exact h2.symm
   have:=hb'.1 x h1;have:=ha'.1 y h2;omega
  subst e;have:=ss_eq s t ha'.2 hb'.2 (fun z=>by
   constructor
   ·intro hz
    rcases List.mem_cons.1 ((h z).1 (List.mem_cons_of_mem _ hz)) with q | q
    ·have:=ha'.1 z hz;omega
    ·exact q
   ·intro hz
    rcases List.mem_cons.1 ((h z).2 (List.mem_cons_of_mem _ hz)) with q | q
    ·have:=hb'.1 z hz;omega
    ·exact q)
  rw [this]
theorem mem_ins (n y:Int):∀ (l:List Int),y ∈ ins n l↔y=n\/y ∈ l
 | []=>by simp [ins]
 | x :: t=>by
  have ih:=mem_ins n y t;rw [ins];by_cases h1:n<=x
  ·rw [if_pos h1]
   by_cases h2:n<x
   ·rw [if_pos h2];simp
   ·rw [if_neg h2]
    have:x=n:=(by omega);subst this;simp
  ·rw [if_neg h1]
   simp only [List.mem_cons,ih]
   constructor
   ·rintro (h | h | h)
    ·exact .inr (.inl h)
    ·exact .inl h
    ·exact .inr (.inr h)
   ·rintro (h | h | h)
    ·exact .inr (.inl h)
    ·exact .inl h
    ·exact .inr (.inr h)
theorem ins_ss (n:Int):∀ (l:List Int),SS l->SS (ins n l)
 | [],_=>by simp [ins,SS]
 | x :: t,h=>by
  have h':=List.pairwise_cons.1 h;rw [ins];by_cases h1:n<=x
  ·rw [if_pos h1]
   by_cases h2:n<x
   ·rw [if_pos h2]
    refine List.pairwise_cons.2 ⟨fun y hy=>?_,h⟩;rcases List.mem_cons.1 hy with e | hy
    ·omega
    ·have:=h'.1 y hy;omega
   ·rw [if_neg h2];exact h
  ·rw [if_neg h1]
   refine List.pairwise_cons.2 ⟨fun y hy=>?_,ins_ss n t h'.2⟩;rcases (mem_ins n y t).1 hy with e | hy
   ·omega
   ·exact h'.1 y hy
theorem zAy:∀ (L o:List Int),SS o->SS (L.foldl (fun o x=>ins x o) o)/\∀ y,y ∈ L.foldl (fun o x=>ins x o) o↔y ∈ o\/y ∈ L
 | [],o,h=>⟨h,fun y=>by simp⟩
 | x :: t,o,h=>by
  obtain ⟨h1,h2⟩:=zAy t (ins x o) (ins_ss x o h);refine ⟨h1,fun y=>?_⟩;rw [List.foldl_cons,h2 y,mem_ins,List.mem_cons]
  constructor
  ·rintro ((h | h) | h)
   ·exact .inr (.inl h)
   ·exact .inl h
   ·exact .inr (.inr h)
  ·rintro (h | h | h)
   ·exact .inl (.inr h)
   ·exact .inl (.inl h)
   ·exact .inr h
theorem zAz {l:List Int} (hs:l.Pairwise (fun x y=>x<=y)):∀ m,m<=l.length->SS (Lib.compactUpTo l.toArray m)/\∀ y,y ∈ Lib.compactUpTo l.toArray m↔∃ j,j<m/\l.toArray[j]! = y
 | 0,_=>⟨by simp [Lib.compactUpTo,SS],fun y=>by simp [Lib.compactUpTo]⟩
 | m+1,hm=>by
  obtain ⟨h1,h2⟩:=zAz hs m (by omega);have hle:∀ i j,i<=j->j<l.length->l.toArray[i]! <= l.toArray[j]! := fun i j hij hj=>by
   rcases Nat.lt_or_eq_of_le hij with h | h
   ·have:=(List.pairwise_iff_getElem.1 hs) i j (by omega) hj h
    simpa [hj,show i<l.length by omega] using this
   ·subst h;exact Int.le_refl _
  rw [Lib.compactUpTo_succ];by_cases hk:Lib.keeps l.toArray m=true
  ·rw [if_pos hk]
   refine ⟨?_,fun y=>?_⟩
   ·refine List.pairwise_append.2 ⟨h1,by simp,fun a ha b hb=>?_⟩
    obtain rfl:b=l.toArray[m]! := by simpa using hb
    obtain ⟨j,hj,rfl⟩:=(h2 a).1 ha;have hk':m=0\/l.toArray[m]! ≠ l.toArray[m-1]! := (by simpa [Lib.keeps] using hk);rcases hk' with h | h
    ·omega
    ·have:=hle j (m-1) (by omega) (by omega)
     have:=hle (m-1) m (by omega) (by omega);omega
   ·rw [List.mem_append,h2 y,List.mem_singleton]
    constructor
    ·rintro (⟨j,hj,e⟩ | e)
     ·exact ⟨j,by omega,e⟩
     ·exact ⟨m,by omega,e.symm⟩
    ·rintro ⟨j,hj,e⟩
     rcases Nat.lt_or_eq_of_le (Nat.le_of_lt_succ hj) with h | h
     ·exact .inl ⟨j,h,e⟩
     ·subst h;exact .inr e.symm
  ·rw [if_neg hk,List.append_nil]
   refine ⟨h1,fun y=>?_⟩;have hk':m≠0/\l.toArray[m]! = l.toArray[m-1]! := by
    have:¬(m=0\/l.toArray[m]! ≠ l.toArray[m-1]!):=by
     intro h;exact hk (by unfold Lib.keeps;exact decide_eq_true h)
    constructor
    ·intro h;exact this (.inl h)
    ·exact Decidable.byContradiction fun h=>this (.inr h)
   rw [h2 y]
   constructor
   ·rintro ⟨j,hj,e⟩;exact ⟨j,by omega,e⟩
   ·rintro ⟨j,hj,e⟩
    rcases Nat.lt_or_eq_of_le (Nat.le_of_lt_succ hj) with h | h
    ·exact ⟨j,h,e⟩
    ·subst h;exact ⟨j-1,by omega,by rw [<-hk'.2];exact e⟩
theorem sort_le (L:List Int):(L.mergeSort leB).Pairwise (fun x y=>x<=y):=by
 have h:=List.pairwise_mergeSort (le:=leB) (by intro a b c;simp [leB];omega) (by intro a b;simp [leB];omega) L;exact h.imp (fun h=>by simpa [leB] using h)
theorem arr_at (l:List Int) (j:Nat) (h:j<l.length):l.toArray[j]! = l[j]:=by simp [h]
theorem foldI_eq (L:List Int):foldI L=Lib.compact (L.mergeSort leB):=by
 obtain ⟨h1,h2⟩:=zAy L [] (by simp [SS]);obtain ⟨h3,h4⟩:=zAz (sort_le L) (L.mergeSort leB).length zL;refine ss_eq _ _ h1 h3 (fun y=>?_);unfold foldI Lib.compact;rw [h2 y];rw [h4 y]
 constructor
 ·rintro (h | h)
  ·cases h
  ·have hm:y ∈ L.mergeSort leB:=List.mem_mergeSort.2 h
   obtain ⟨j,hj,e⟩:=List.getElem_of_mem hm;exact ⟨j,hj,by rw [arr_at _ j hj];exact e⟩
 ·rintro ⟨j,hj,e⟩
  have hm:y ∈ L.mergeSort leB:=(by rw [<-e,arr_at _ j hj];exact List.getElem_mem hj);exact .inr (List.mem_mergeSort.1 hm)
end Go.Proofs.YtoldepieaafakaaGreatDoor
namespace Go.Proofs.YtoldepieaafakaaGreatDoor
open Go.RowKit Go.IntWalk
theorem in12_any {ok:Nat->Prop} {w:World} {v:Value} {l:List Int} (x:Int) (hl:HInts ok w v l) :
  Calls Tryz.prog 10 #[v,.int .i64 x] w fun e w'=>e=.returned (.bool (l.any (fun z=>z==x)))/\Below w.heap.size w w':=by
 obtain ⟨ao,cap,rfl,hc1,hc2,-⟩:=hl.at;unfold maxLen at hc2;obtain ⟨R,hR⟩:=nmQ (l.any (fun z=>z==x));rw [<-hR];have HR:=zD (show R=(l.drop 0).any (fun z=>z==x) by rw [List.drop_zero];exact hR);have HL:=zD hl;clear hR hl;obtain ⟨n,hn⟩:=nmQ (l.length);rw [<-hn] at hc1 ⊢;have HN:=zD hn;clear hn;go_enter Tryz.func10,Tryz.ntmps10;go_wp2_with fail;go_loopg [5] n (fun k v wr=>∃ i,i<=n/\k=n-i/\v=.int .i64 (i:Nat)/\Hid (R=(l.drop i).any (fun z=>z==x))/\Below w.heap.size w wr)
 case atStart=>exact ⟨0,Nat.zero_le _,rfl,rfl,HR,Below.refl _ _⟩
 case round=>
  clear HR;obtain ⟨i,hi,rfl,rfl,H,hbr⟩:=hrel;by_cases hlt:i<n
  case neg=>
   have hin:i=n:=(by omega);subst hin;have e1:l.drop i=[]:=List.drop_of_length_le (by have:=HN.out;omega);have HZ:=zD (show R=false by rw [H.out,e1];rfl);clear e1;go_wp2;go_ret;exact ⟨by rw [HZ.out];rfl,hbr⟩
  case pos=>
   have hil:i<l.length:=(by have:=HN.out;omega);have hdr:l.drop i=l[i] :: l.drop (i+1):=List.drop_eq_getElem_cons hil;have hR1:=H.out;rw [hdr,List.any_cons] at hR1;obtain ⟨ao',cap',eqs,-,-,hat2⟩:=(HL.out.under hbr).at;injection eqs with q1 q2 q3;subst q1;obtain ⟨bb,o,rfl,hb,e0⟩:=hat2 i hil;obtain ⟨y,hy⟩:=nmQ (l[i]);rw [<-hy] at e0 hR1;have HR1:=zD hR1;clear hat2 q2 q3 hy hdr hR1 H
   cases hq:(y==x)
   case false=>
    have HZ:Hid (R=(l.drop (i+1)).any (fun z=>z==x)):=zD (by rw [HR1.out,hq,Bool.false_or]);clear HR1;go_wp2_with fail;go_roundg (n-(i+1))
    case measure=>omega
    case rel=>exact ⟨i+1,by omega,rfl,by go_num,HZ,hbr⟩
   case true=>
    have HZ:Hid (R=true):=zD (by rw [HR1.out,hq,Bool.true_or]);clear HR1;go_wp2;go_ret;exact ⟨by rw [HZ.out];rfl,hbr⟩
end Go.Proofs.YtoldepieaafakaaGreatDoor
