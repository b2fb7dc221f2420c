import Derived.Test.YtkfgbhlpjkkgfaaGreatDoorT07
import Derived.Shelf.SlicesE.Clone
import Derived.Ground.SlgnProg
set_option linter.unusedVariables false
set_option linter.unusedSimpArgs false
set_option maxHeartbeats 64000000
set_option maxRecDepth 100000
namespace Go.Proofs.YtkfgbhlpjkkgfaaGreatDoor
open Go.Shelf Go.RowKit Go.Lib Go.IntWalk Go.Sort
shelf_lay_g SlLaysF0.n14 Slsf 14 at Tryz 175 as lay39
shelf_lay Lays.n125 Nm 125 at Tryz as lay40
shelf_lay_g SlLaysE0.n41 Slgn 41 at Tryz 127 as lay30
shelf_lay Lays.n106 Nm 106 at Tryz as lay33
def cmpT (x y:Tm):Int:=Lib.compareBytes x.2.data.toList y.2.data.toList
theorem closure32 (x y:Tm) (W:World):Calls Tryz.prog 129 #[.agg #[.int .i64 x.1,.string x.2],.agg #[.int .i64 y.1,.string y.2]] W fun e w'=>e=.returned (.int .i64 (cmpT x y))/\∃ q os',w'=grow (W.drewN q) os':=by
 have dM:=fun W'=>Any.strings_Compare lay33 x.2 y.2 W'
 change ∀ W',Calls Tryz.prog 130 _ _ _ at dM
 unfold cmpT;generalize Lib.compareBytes x.2.data.toList y.2.data.toList=r at dM ⊢;go_enter Tryz.func129,Tryz.ntmps129
 go_wp2_with (go_at_call 130;refine (dM _).mono ?_;rintro e w' ⟨rfl,rfl⟩)
 go_ret;exact ⟨rfl,0,_,by rw [alloc_eq_grow,alloc_eq_grow,grow_grow];rfl⟩
theorem ltT (x y:Tm):ltOf cmpT x y=decide (Lib.compareBytes x.2.data.toList y.2.data.toList<0):=rfl
theorem swoT:SWO (ltOf cmpT) where
 irrefl x:=by rw [ltT,zBq];simp
 trans x y z h1 h2:=by
  rw [ltT,decide_eq_true_eq] at *;exact zBr _ _ _ h1 h2
 ntrans x y z h1 h2:=by
  rw [ltT,decide_eq_false_iff_not] at *;intro h;have f1:=zCd y.2.data.toList x.2.data.toList;have f2:=zCd z.2.data.toList y.2.data.toList;have f3:=zCd z.2.data.toList x.2.data.toList;have l1:Lib.compareBytes y.2.data.toList x.2.data.toList<=0:=(by omega);have l2:Lib.compareBytes z.2.data.toList y.2.data.toList<=0:=(by omega);rcases zCn y.2.data.toList x.2.data.toList with q | q | q
  ·have:=le_lt l2 (by omega:Lib.compareBytes y.2.data.toList x.2.data.toList<0);omega
  ·rw [zDh _ _ q] at l2;omega
  ·omega
theorem sort_any {w:World} {g cap:Nat} {l:List Tm} {sp:List Value} (h:Blk w g l sp) (aP:l.length<=1000) :
  Calls Tryz.prog 128 #[.slice (some ⟨g,0,none⟩) l.length cap,.func (.func 129) #[] #[]] w fun e w'=>e=.returned (.tuple #[])/\∃ r,r.Perm l/\r.Pairwise (fun x y=>cmpT x y<=0)/\Blk w' g r sp/\Aside [g] w.heap.size w w':=by
 have eg:∀ args w,(callFunc 129 args).run Tryz.prog w=.ok (.enter 129 args) w:=enters_of Tryz.func129 (by kernel_rfl) rfl;have bo:l.toArray.size<4611686018427387904:=(by simp;omega);have eK:Lib.bitLen l.toArray.size<4611686018427387904:=Nat.lt_of_le_of_lt (Lib.bitLen_le l.toArray.size 62 (by omega) (by omega)) (by omega);have dM:=AnyQ.pdqsortCmpFunc_all lay39 2 Tryz.isAgg83 Tryz.sizeOf83 encT cmpT 129 #[] swoT g 0 cap l.toArray w eg (fun _ _ _ _ x y=>closure32 x y _) ⟨fun _=>rfl,fun x v hv=>by simp [encT] at hv;rcases hv with rfl | rfl<;>rfl,h.holds,h.lt⟩ (l.toArray.size+1) 0 l.toArray.size (Lib.bitLen l.toArray.size) l.toArray w (by omega) rfl (SWK.start h.holds) (Nat.zero_le _) nR bo eK (Or.inl rfl)
 change Calls Tryz.prog 175 _ _ _ at dM
 have xh:=pdq_sorts (ltOf cmpT) swoT l.toArray 0 l.toArray.size (Lib.bitLen l.toArray.size) true true (Nat.zero_le _) nR (Or.inl rfl);generalize pdq (ltOf cmpT) l.toArray 0 l.toArray.size (Lib.bitLen l.toArray.size) true true=d' at dM xh;have hl:Calls Tryz.prog 176 #[.int .u64 (l.length:Int)] w fun e w'=>e=.returned (.int .i64 (Lib.bitLen l.toArray.size:Nat))/\w'=w:=by
  have h:=Any.bits_Len lay40 (l.length:Int) w (by omega) (by omega)
  change Calls Tryz.prog 176 _ _ _ at h
  rw [Int.toNat_natCast] at h;rw [show l.toArray.size=l.length by simp];exact h
 have wr:IntKind.u64.wrap (l.length:Int)=l.length:=(by simp [IntKind.wrap,IntKind.bits,IntKind.signed];omega);have es:l.toArray.size=l.length:=(by simp);rw [es] at dM xh hl;generalize Lib.bitLen l.length=bl at dM hl;have H:=zAA h;clear h bo eK es;refine Calls.mono (R:=fun e w'=>e=.returned (.tuple #[])/\SWK encT 2 w g 0 d' w') ?_ ?_
 ·go_enter Tryz.func128,Tryz.ntmps128
  go_wp2_with (first | (go_at_call 176;refine hl.mono ?_;rintro e w' ⟨rfl,rfl⟩) | (go_at_call 175;refine dM.mono ?_;rintro e w' ⟨rfl,hS⟩))
  go_end0;exact ⟨rfl,hS⟩
 rintro e w' ⟨rfl,n,os,rfl⟩;have h:=H.out;obtain ⟨hp,hs⟩:=xh;obtain ⟨p1,p2,p3⟩:=hp;have bo:d'.size=l.length:=(by simpa using p1);obtain ⟨s1,s2,s3⟩:=zEe w g n d' os;refine ⟨rfl,d'.toList,?_,?_,s2 l sp h bo,⟨rfl,rfl,rfl,s3,fun k hk hn=>s1 k (by simpa using hn) hk⟩⟩
 ·have e1:(d'.extract 0 l.length).toList=d'.toList:=by rw [<-bo];simp
  have e2:(l.toArray.extract 0 l.length).toList=l:=(by simp);rw [e1,e2] at p3;exact p3
 ·rw [List.pairwise_iff_getElem]
  intro i j hi hj KV;have h1:=hs i j (Nat.zero_le _) KV (by simp at hj;omega);have tW:i<d'.size:=(by simpa using hi);have eJ:j<d'.size:=(by simpa using hj);rw [getElem!_pos d' i tW,getElem!_pos d' j eJ,ltT,decide_eq_false_iff_not] at h1;have f:=zCd (d'[j]).2.data.toList (d'[i]).2.data.toList
  show Lib.compareBytes (d'[i]).2.data.toList (d'[j]).2.data.toList<=0
  omega
theorem sclone_any {ok:Nat->Prop} {w:World} {v:Value} {l:List Tm} (hl:HTerms ok w v l) (aP:l.length<=1000) :
  Calls Tryz.prog 127 #[v] w fun e w'=>∃ v',e=.returned v'/\OwnL kTerm w.heap.size w' v' l/\Below w.heap.size w w':=by
 obtain ⟨ao,cap,rfl,aC,av,ai⟩:=hl.at
 cases ao with
 | none=>
  cases l with
  | nil=>
   have dM:=AnyE.slices_Clone_nil lay30 0 cap w
   change Calls Tryz.prog 127 _ _ _ at dM
   refine dM.mono ?_;rintro e w' ⟨rfl,rfl⟩;exact ⟨_,rfl,OwnL.nil,Below.refl _ _⟩
  | cons t l'=>
   obtain ⟨b,o,e,_⟩:=ai 0 (by simp)
   cases e
 | some a=>
  obtain ⟨i0,hi,db,bP,bY⟩:=info_parts kTerm.info;have pH:=zBp (l:=l) (D:=fun j=>[.int .i64 (l[j]!).1,.string (l[j]!).2]) (fun j hj=>by simp [hj]) l.length nR;rw [List.take_length] at pH;have fin:∀ (v':Value) (w':World),w'.ownsRow w.heap.size 83 2 v' l.length (tcs l)->OwnL kTerm w.heap.size w' v' l:=fun v' w' h=>by
   refine ⟨fun j=>[.int .i64 (l[j]!).1,.string (l[j]!).2],?_,fun j hj=>?_⟩
   ·rw [pH];exact h
   ·show [Value.int .i64 (l[j]!).1,.string (l[j]!).2]=[.int .i64 (l[j]).1,.string (l[j]).2]
    simp [hj]
  have dz:∀ j u,(tcs l)[j]?=some u->w.cell? (a.add j)=some u:=fun j u hj=>by
   have cM:j<l.length*2:=by
    rcases Nat.lt_or_ge j (l.length*2) with h | h
    ·exact h
    ·rw [List.getElem?_eq_none (by rw [zAc];exact h)] at hj;cases hj
   have hq:j / 2<l.length:=(by omega);obtain ⟨b,o,e,hb,c0,c1⟩:=ai (j / 2) hq;injection e with e;subst e;have dn:(⟨b,o,none⟩:Addr).add j=⟨b,o+j,none⟩:=by unfold Addr.add;split<;>simp_all
   rw [dn];obtain ⟨g0,g1⟩:=zDd [] l (j / 2) hq;rw [List.append_nil] at g0 g1;rcases (by omega:j % 2=0\/j % 2=1) with e | e
   ·rw [show o+j / 2*2=o+j by omega] at c0
    rw [show j / 2*2=j by omega] at g0;rw [c0,<-hj,g0]
   ·rw [show o+j / 2*2+1=o+j by omega] at c1
    rw [show j / 2*2+1=j by omega] at g1;rw [c1,<-hj,g1]
  have cP:∀ u ∈ tcs l,u.oneCell'=true:=by
   clear fin dz pH ai hl
   induction l with
   | nil=>intro u hu;simp [tcs] at hu
   | cons t l ih=>
    intro u hu;simp [tcs] at hu;rcases hu with rfl | rfl | hu
    ·rfl
    ·rfl
    ·exact ih (by simp at aP;omega) (by simp at aC;omega) u hu
  have PT:∀ (w:World) (a:Option Addr) (n c n' c':Nat),(binOp .eql 33 (.slice a n c) (.slice none n' c')).run Tryz.prog w=.ok (.bool a.isNone) w:=fun w a n c n' c'=>Lib.run_eql_slice_nil w _ _ a n c n' c' Tryz.underlying33;have HA:=zAA dz;have HF:=zAA fin;have HO:=zAA cP;clear dz fin cP pH ai hl;unfold maxLen at av;go_enter Tryz.func127,Tryz.ntmps127
  go_wp2_with (at_builtin;refine wpList_append_own _ rfl _ _ 33 rfl w.heap.size 83 i0 kTerm.zero 2 24 Tryz.underlying33 hi db bP bY rfl (by decide) _ _ _ rfl (World.ownsRow_made w #[] 0 nR (Nat.zero_le _) (by simp)) a l.length cap (tcs l) rfl ?qc1 ?qc2 ?qc3 ?qc4 ?qc5 ?qc6 ?_)
  case qc1=>exact zAc l
  case qc2=>
   intro j u hj;exact Lib.cell?_alloc_some _ (HA.out j u hj)
  case qc3=>exact HO.out
  case qc4=>rw [Nat.zero_add];unfold maxLen;omega
  case qc5=>rw [Nat.zero_add];omega
  case qc6=>simp
  intro v' w1 ah am zM;go_wp2;go_ret;refine ⟨v',rfl,HF.out _ _ (by simpa using ah),?_⟩;exact ((Below.refl _ w).alloc nR _).grown am (by simp) (by intro k hk;simp [Value.ownBlock] at hk;omega)
end Go.Proofs.YtkfgbhlpjkkgfaaGreatDoor
namespace Go.Proofs.YtkfgbhlpjkkgfaaGreatDoor
open Go.Shelf Go.RowKit Go.Lib Go.IntWalk
def kp (t:Tm):Bool:=decide (t.1≠0)
theorem zEp (x:Tm) (w:World):Calls Tryz.prog 132 #[.agg #[.int .i64 x.1,.string x.2]] w fun e w'=>e=.returned (.bool (!kp x))/\Below w.heap.size w w':=by
 have e:(!kp x)=(x.1==0):=by unfold kp;by_cases h:x.1=0<;>simp [h]
 rw [e];go_enter Tryz.func132,Tryz.ntmps132;go_wp2;go_ret;exact ⟨rfl,(Below.refl _ w).alloc nR _⟩
theorem nought_below (w:World):PredBelow Tryz.prog 132 #[] (fun x=>.agg (encT x).toArray) (fun x => !kp x) w:=fun W x hb =>
 (zEp x W).mono fun _ _ ⟨he,jS⟩=>⟨he,hb.trans (jS.mono hb.size)⟩
theorem zDS:∀ l:List Tm,(∀ t ∈ l,kp t=true)\/∃ i,∃ h:i<l.length,kp l[i]=false/\∀ j (hj:j<i),kp (l[j]'(by omega))=true
 | []=>.inl fun t h=>by simp at h
 | t :: l=>by
  cases ht:kp t with
  | false=>exact .inr ⟨0,by simp,ht,fun j hj=>absurd hj (Nat.not_lt_zero _)⟩
  | true=>
   rcases zDS l with h | ⟨i,hi,h1,h2⟩
   ·refine .inl fun u hu=>?_
    rcases List.mem_cons.1 hu with rfl | hu
    ·exact ht
    ·exact h u hu
   ·refine .inr ⟨i+1,by simpa using hi,h1,fun j hj=>?_⟩
    cases j with
    | zero=>exact ht
    | succ j=>exact h2 j (by omega)
structure KI (l:List Tm) (j i:Nat) (aR:List Tm):Prop where
 len:aR.length=l.length
 lt:i<j
 le:j<=l.length
 kept:aR.take i=(l.take j).filter kp
 rest:∀ q,j<=q->aR[q]?=l[q]?
theorem KI.start {l:List Tm} {i:Nat} (h:i<l.length) (h1:kp l[i]=false) (h2:∀ j (hj:j<i),kp (l[j]'(by omega))=true):KI l (i+1) i l:=by
 refine ⟨rfl,by omega,by omega,?_,fun _ _=>rfl⟩;rw [List.take_succ_eq_append_getElem h,List.filter_append];simp only [List.filter_cons,h1,Bool.false_eq_true,if_false,List.filter_nil,List.append_nil]
 symm
 rw [List.filter_eq_self];intro t ht;obtain ⟨j,hj,rfl⟩:=List.mem_iff_getElem.1 ht;simp at hj;rw [List.getElem_take];exact h2 j (by omega)
theorem KI.keep {l aR:List Tm} {j i:Nat} (h:KI l j i aR) (hj:j<l.length) (hk:kp l[j]=true):KI l (j+1) (i+1) (aR.set i l[j]):=by
 have hi:i<aR.length:=(by rw [h.len];have:=h.lt;omega);refine ⟨by simp [h.len],by have:=h.lt;omega,by omega,?_,fun q hq=>?_⟩
 ·have ek:i<(aR.set i l[j]).length:=by simpa using hi
  rw [List.take_succ_eq_append_getElem ek,List.take_succ_eq_append_getElem hj,List.filter_append,List.getElem_set_self,List.take_set_of_le nR,h.kept];simp [hk]
 ·rw [List.getElem?_set_ne (by have:=h.lt;omega)]
  exact h.rest q (by omega)
theorem KI.skip {l aR:List Tm} {j i:Nat} (h:KI l j i aR) (hj:j<l.length) (hk:kp l[j]=false):KI l (j+1) i aR:=by
 refine ⟨h.len,by have:=h.lt;omega,by omega,?_,fun q hq=>h.rest q (by omega)⟩;rw [List.take_succ_eq_append_getElem hj,List.filter_append,h.kept];simp [hk]
theorem zero_cells (m:Nat):∀ u ∈ (Builtin.zeroCells kTerm.zero.cells m).toList,u.oneCell'=true:=by
 intro u hu;unfold Builtin.zeroCells at hu;simp at hu;obtain ⟨a,_,rfl⟩:=hu;have hs:kTerm.zero.cells=#[.int .i64 0,.string ⟨#[]⟩]:=rfl;rw [hs];rcases (by omega:a % 2=0\/a % 2=1) with e | e
 ·simp [e];rfl
 ·simp [e];rfl
theorem zAx (m:Nat):(Builtin.zeroCells kTerm.zero.cells m).toList.length=m*2:=by
 unfold Builtin.zeroCells;have hs:kTerm.zero.cells=#[.int .i64 0,.string ⟨#[]⟩]:=rfl;rw [hs];simp
theorem run_clearT {w:World} {g c i m:Nat} {ty:TypeId} {aR:List Tm} {sp:List Value} (h:Blk w g aR sp) (hm:i+(m+1)=aR.length) :
  ∃ w',(Builtin.clear_ #[33] ty #[.slice (some ⟨g,i*2,none⟩) (m+1) c]).run Tryz.prog w=.ok (.tuple #[]) w'/\Aside [g] w.heap.size w w'/\Blk w' g (aR.take i) ((Builtin.zeroCells kTerm.zero.cells (m+1)).toList++sp):=by
 have DW:=zAx (m+1);have bP:=zero_cells (m+1);have hv:∀ w,(zeroValue 83).run Tryz.prog w=.ok kTerm.zero w:=Tryz.zeroValue83;have eG:=run_storeCells_at (P:=Tryz.prog) g (i*2) 83 (Builtin.zeroCells kTerm.zero.cells (m+1)).toList 0 _ w h (by simp [zAc,DW];omega) bP;generalize hZ:(Builtin.zeroCells kTerm.zero.cells (m+1)).toList=Z at *;obtain ⟨R,hR⟩:=nmQ ((List.take (i*2+0) (tcs aR++sp).toArray.toList++Z++List.drop (i*2+0+Z.length) (tcs aR++sp).toArray.toList).toArray);rw [<-hR] at eG;refine ⟨w.setRow g R,by simp [Builtin.clear_,run_underlying Tryz.underlying33,hv,hZ,eG],⟨rfl,rfl,rfl,by simp,fun k hk hn=>setRow_other w g k R (by simpa using hn)⟩,?_⟩;unfold Blk;rw [setRow_heap _ _ _ _ _ _ h,hR]
 congr 3
 rw [List.toList_toArray,Nat.add_zero,DW];have hc:aR.take i++aR.drop i=aR:=List.take_append_drop _ _;have e1:tcs aR=tcs (aR.take i)++tcs (aR.drop i):=(by rw [<-zCE,hc]);have l1:(tcs (aR.take i)).length=i*2:=(by rw [zAc,List.length_take];congr 1;omega);have l2:(tcs (aR.drop i)).length=(m+1)*2:=(by rw [zAc,List.length_drop];congr 1;omega);have take1:List.take (i*2) (tcs (aR.take i)++tcs (aR.drop i)++sp)=tcs (aR.take i):=(by rw [List.append_assoc,List.take_left' l1]);have drop1:List.drop (i*2+(m+1)*2) (tcs (aR.take i)++tcs (aR.drop i)++sp)=sp:=List.drop_left' (by rw [List.length_append,l1,l2]);rw [e1,take1,drop1,List.append_assoc]
theorem zEq {B:Nat} {w:World} {v:Value} {l:List Tm} (ah:OwnL kTerm B w v l) (aP:l.length<=1000) :
  Calls Tryz.prog 131 #[v,.func (.func 132) #[] #[]] w fun e w'=>∃ v',e=.returned v'/\OwnL kTerm B w' v' (l.filter kp)/\Below B w w':=by
 have eg:∀ args w,(callFunc 132 args).run Tryz.prog w=.ok (.enter 132 args) w:=enters_of Tryz.func132 (by kernel_rfl) rfl;rcases zEi ah with ⟨rfl,rfl⟩ | ⟨g,c,sp,rfl,hB,hb,hc,hm,hs⟩
 ·have iq:Calls Tryz.prog 125 #[.slice none 0 0,.func (.func 132) #[] #[]] w fun e w'=>e=.returned (.int .i64 (-1))/\w'=w:=by
   go_enter Tryz.func125,Tryz.ntmps125;go_wp2;go_loopg [5,8] 0 (fun g _ s8 wr=>s8=.int .i64 0/\wr=w)
   case atStart=>exact ⟨rfl,rfl⟩
   case round=>
    obtain ⟨rfl,rfl⟩:=hrel;go_wp2;go_ret;exact ⟨rfl,rfl⟩
  go_enter Tryz.func131,Tryz.ntmps131
  go_wp2_with (go_at_call 125;refine iq.mono ?_;rintro e w' ⟨rfl,rfl⟩)
  go_ret;exact ⟨_,rfl,OwnL.nil,Below.refl _ _⟩
 ·have AB:=hb.lt
  have iq:=AnyQ.slices_IndexFunc lay28 2 Tryz.isAgg83 Tryz.sizeOf83 encT (fun _=>rfl) (fun x => !kp x) 132 #[] eg g 0 l.length c l w (nought_below w) nR (by omega) AB (fun j hj i v hi=>by
   obtain ⟨t0,t1⟩:=hb.cell hj;rw [getElem!_pos l j hj] at hi;rw [Nat.zero_add]
   match i,hi with
   | 0,hi=>simp [encT] at hi;rw [<-hi];exact t0
   | 1,hi=>simp [encT] at hi;rw [<-hi];exact t1
   | i+2,hi=>simp [encT] at hi)
  change Calls Tryz.prog 125 _ _ _ at iq
  rcases zDS l with h | ⟨i0,gv,h1,h2⟩
  ·rw [show Lib.idxBy (fun _ y => !kp y) (List.take l.length l) default = -1 from Lib.idxBy_miss (fun _ y => !kp y) l l.length default (fun j hj=>by show (!kp l[j]!)=false;rw [getElem!_pos l j hj,h _ (List.getElem_mem hj)];rfl)] at iq
   have HB:=zAA hb;clear hb ah;go_enter Tryz.func131,Tryz.ntmps131
   go_wp2_with (go_at_call 125;refine iq.mono ?_;rintro e w2 ⟨rfl,b2⟩)
   go_ret;rw [List.filter_eq_self.2 h];exact ⟨_,rfl,blk_own (HB.out.below b2 AB) hB hc hm hs,b2.mono (by omega)⟩
  ·rw [show Lib.idxBy (fun _ y => !kp y) (List.take l.length l) default=(i0:Int) from Lib.idxBy_hit (fun _ y => !kp y) l l.length i0 default gv nR (by show (!kp l[i0]!)=true;rw [getElem!_pos l i0 gv,h1];rfl) (fun j hj=>by show (!kp l[j]!)=false;rw [getElem!_pos l j (by omega),h2 j hj];rfl)] at iq
   have GK:((i0:Int) == -1)=false:=beq_eq_false_iff_ne.2 (by omega);have HK:=zAA (KI.start gv h1 h2);clear h1 h2 ah eg;unfold maxLen at hm;have HB:=zAA hb;clear hb;go_enter Tryz.func131,Tryz.ntmps131
   go_wp2_with (go_at_call 125;refine iq.mono ?_;rintro e w2 ⟨rfl,b2⟩)
   have qZ:=zAA (HB.out.below b2 AB);clear HB;have y2:=b2.size;go_loopg [5,6,7] l.length (fun gh s5 s6 _ wr=>∃ (i j:Nat) (aR:List Tm),s5=.int .i64 (i:Int)/\s6=.int .i64 (j:Int)/\j<=l.length/\l.length<=gh+j/\i<j/\aR.length=l.length/\Hid (KI l j i aR)/\Hid (Blk wr g aR sp)/\Aside [g] w.heap.size w wr)
   case atStart=>exact ⟨i0,i0+1,l,rfl,by go_num,by omega,by omega,by omega,rfl,HK,qZ,aside b2⟩
   case round=>
    obtain ⟨i,j,aR,rfl,rfl,cM,OO,KV,G6,HI,yv,hA⟩:=hrel;have j9:=yv.out.lt;by_cases ak:j<l.length
    case pos=>
     have lz:(j:Int)<(l.length:Int):=(by omega);have P0:(i:Int)<(l.length:Int):=(by omega);obtain ⟨c0,c1⟩:=yv.out.cell (i:=j) (by omega);have H8:aR[j]'(by omega)=l[j]:=by
      have:=HI.out.rest j nR;rw [List.getElem?_eq_getElem (by omega),List.getElem?_eq_getElem ak] at this;exact Option.some.inj this
     rw [H8] at c0 c1;have tp:=zAA (HI.out.keep ak);have wJ:=zAA (HI.out.skip ak);generalize l[j]=t at c0 c1 tp wJ;clear H8;go_upto_region 8 with fail;obtain ⟨wA,iN⟩:=nmQ (wr.alloc (.cells #[.int .i64 t.1,.string t.2] 83 (0,0)));have bA:=zAk iN;have KA:=zBa iN;rw [<-iN];clear iN c0 c1;have d0:=co KA 0;have d1:=co KA 1;simp at d0 d1;have ag:=zEp t wA
     cases hk:kp t with
     | true=>
      rw [hk] at ag;go_wp2_with fail;refine ag.mono ?_;rintro e w5 ⟨rfl,b5⟩;have K5:=(b5.block _ (zAB KA)).trans KA;have B5:=(yv.out.below bA j9).below b5 (Nat.lt_of_lt_of_le j9 bA.size);have Nb:=zAA B5;obtain ⟨f0,f1⟩:=B5.cell (i:=i) (by omega);have ff:=fun o=>B5.free o;generalize yz:aR[i]'(by omega)=u at f0 f1;clear yz B5;clear d0 d1;have d0:=co K5 0;have d1:=co K5 1;simp at d0 d1;have A5:=hA.trans (aside (S:=[g]) (bA.trans (b5.mono bA.size))) hA.size;clear ag bA b5 KA K5 iq b2;go_wp2_with fail;go_roundg (gk-1)
      case measure=>omega
      case rel=>exact ⟨i+1,j+1,aR.set i t,by go_num,by go_num,by omega,by omega,by omega,by simp [G6],zAA (tp.out hk),zAA (Nb.out.put (by omega) t),(A5.trans (Aside.setCell (B:=w5.heap.size) (p:=⟨g,i*2,none⟩) (by simp) _) A5.size).trans (Aside.setCell (B:=w5.heap.size) (p:=⟨g,i*2+1,none⟩) (by simp) _) A5.size⟩
     | false=>
      rw [hk] at ag
      go_wp2_with (go_at_call 132;refine ag.mono ?_;rintro e w5 ⟨rfl,b5⟩)
      go_roundg (gk-1)
      case measure=>omega
      case rel=>exact ⟨i,j+1,aR,rfl,by go_num,by omega,by omega,by omega,G6,zAA (wJ.out hk),zAA ((yv.out.below bA j9).below b5 (Nat.lt_of_lt_of_le j9 bA.size)),(hA.trans (aside (bA.trans (b5.mono bA.size))) hA.size)⟩
    case neg=>
     have pF:j=l.length:=(by omega);subst pF;have qn:¬(l.length:Int)<(l.length:Int):=(by omega);obtain ⟨m,GR⟩:∃ m,i+(m+1)=l.length:=⟨l.length-i-1,by omega⟩;have Bg:l.length-i=m+1:=(by omega);have rB:=HI.out.kept;rw [List.take_length] at rB;obtain ⟨w6,dE,A6,B6⟩:=run_clearT (ty:=0) (c:=c-i) (i:=i) (m:=m) yv.out (by omega);have tp:=zAA rB;have OV:=zAA B6;clear rB iq b2 cM OO HI B6;go_wp2;go_ret;have ap:(aR.take i).length=i:=(by rw [List.length_take];omega);have dN:=blk_own (B:=B) (c:=c) OV.out hB (by omega) (by unfold maxLen;omega) (by rw [List.length_append,zAx,ap];omega);rw [ap,tp.out] at dN;exact ⟨_,rfl,dN,((hA.trans A6 hA.size).mono (by omega:B<=w.heap.size)).below (by simp;omega)⟩
end Go.Proofs.YtkfgbhlpjkkgfaaGreatDoor
namespace Go.Proofs.YtkfgbhlpjkkgfaaGreatDoor
open Go.Shelf Go.RowKit Go.Lib Go.IntWalk
structure Mst (ris:List Tm) (i:Nat) (acc:List Tm):Prop where
 mg:MG ((ris.take i).map te) (acc.map te)
 len:acc.length<=i
 fit:∀ u ∈ acc,∃ j,∃ h:j<ris.length,j<i/\u.2.data.toList=(ris[j]).2.data.toList
theorem mst_start (ris:List Tm):Mst ris 0 []:=⟨by simpa using mg_nil,by simp,fun u hu=>by simp at hu⟩
theorem take_te {ris:List Tm} {i:Nat} (h:i<ris.length):(ris.take (i+1)).map te=(ris.take i).map te++[te ris[i]]:=by
 rw [List.take_succ_eq_append_getElem h,List.map_append];rfl
theorem mst_new {ris acc:List Tm} {i:Nat} (hs:ris.Pairwise (fun x y=>cmpT x y<=0)) (h:Mst ris i acc) (hi:i<ris.length) (hl:∀ u,acc.getLast?=some u->u.2.data.toList≠(ris[i]).2.data.toList):Mst ris (i+1) (acc++[ris[i]]):=by
 refine ⟨?_,by rw [List.length_append,List.length_singleton];have:=h.len;omega,fun u hu=>?_⟩
 ·rw [take_te hi,List.map_append]
  refine mg_new h.mg fun x hx=>?_;rcases List.eq_nil_or_concat acc with rfl | ⟨a,u,rfl⟩
  ·simp at hx
  ·rw [List.concat_eq_append] at *
   obtain ⟨j,hj,bJ,e⟩:=h.fit u (by simp);have ii:cmpT ris[j] ris[i]<=0:=(List.pairwise_iff_getElem.1 hs) j i hj hi bJ;have hm:=h.mg;rw [List.map_append,List.map_singleton] at hm hx;exact mg_last (t:=te ris[i]) hm (by show Lib.compareBytes u.2.data.toList _<=0;rw [e];exact ii) (hl u (by simp)) x hx
 ·rcases List.mem_append.1 hu with m | m
  ·obtain ⟨j,hj,bJ,e⟩:=h.fit u m
   exact ⟨j,hj,by omega,e⟩
  ·simp at m
   subst m;exact ⟨i,hi,by omega,rfl⟩
theorem mst_more {ris a:List Tm} {u:Tm} {i:Nat} (h:Mst ris i (a++[u])) (hi:i<ris.length) (he:u.2.data.toList=(ris[i]).2.data.toList):Mst ris (i+1) (a++[(u.1+(ris[i]).1,u.2)]):=by
 refine ⟨?_,?_,fun x hx=>?_⟩
 ·rw [take_te hi,List.map_append]
  have hm:=h.mg;rw [List.map_append,List.map_singleton] at hm;exact mg_more hm he
 ·have:=h.len
  rw [List.length_append,List.length_singleton] at *;omega
 ·rcases List.mem_append.1 hx with m | m
  ·obtain ⟨j,hj,bJ,e⟩:=h.fit x (by simp [m])
   exact ⟨j,hj,by omega,e⟩
  ·simp at m
   subst m;obtain ⟨j,hj,bJ,e⟩:=h.fit u (by simp);exact ⟨j,hj,by omega,e⟩
theorem mst_end {ris acc l:List Tm} (h:Mst ris ris.length acc) (hp:ris.Perm l):NF (l.map te) ((acc.filter kp).map te):=by
 have h1:=h.mg;rw [List.take_length] at h1;have h2:=mg_nf h1;rw [List.filter_map] at h2;exact h2.perm (hp.map te)
theorem mst_bound {ris acc:List Tm} {i:Nat} (h:Mst ris i acc) (hl:ris.length<=1000) (hs:∀ t ∈ ris,small t.1=true):∀ u ∈ acc,-1000000000<=u.1/\u.1<=1000000000:=by
 intro u hu;have e:=h.mg.sum u.1 u.2.data.toList (List.mem_map.2 ⟨u,hu,rfl⟩);rw [e];have h1:=sumOf_bound (l:=(ris.take i).map te) (s:=u.2.data.toList) (m:=1000000) (by omega) (fun t ht=>by
  obtain ⟨x,hx,rfl⟩:=List.mem_map.1 ht;exact zCg.1 (hs x (List.mem_of_mem_take hx)))
 have h2:((ris.take i).map te).length<=1000:=(by simp;omega)
 constructor<;>omega
theorem sort_nil (w:World):Calls Tryz.prog 128 #[.slice none 0 0,.func (.func 129) #[] #[]] w fun e w'=>e=.returned (.tuple #[])/\w'=w:=by
 have Fo:Calls Tryz.prog 203 #[.slice none 0 0,.int .i64 0,.int .i64 0,.func (.func 129) #[] #[]] w fun e w'=>e=.returned (.tuple #[])/\w'=w:=by
  go_enter Tryz.func203,Tryz.ntmps203;go_wp2;go_loopg [8] 0 (fun _ s8 wr=>s8=.int .i64 1/\wr=w)
  case atStart=>exact ⟨rfl,rfl⟩
  case round=>
   obtain ⟨rfl,rfl⟩:=hrel;go_wp2;go_end0;exact ⟨rfl,rfl⟩
 have hl:Calls Tryz.prog 176 #[.int .u64 0] w fun e w'=>e=.returned (.int .i64 0)/\w'=w:=by
  have h:=Any.bits_Len lay40 0 w (by omega) (by omega)
  change Calls Tryz.prog 176 _ _ _ at h
  exact h
 have Gj:Calls Tryz.prog 175 #[.slice none 0 0,.int .i64 0,.int .i64 0,.int .i64 0,.func (.func 129) #[] #[]] w fun e w'=>e=.returned (.tuple #[])/\w'=w:=by
  go_enter Tryz.func175,Tryz.ntmps175;go_wp2_with fail;go_loopg [1,2] 0 (fun _ s1 s2 wr=>s1=.int .i64 0/\s2=.int .i64 0/\wr=w)
  case atStart=>exact ⟨rfl,rfl,rfl⟩
  case round=>
   obtain ⟨rfl,rfl,rfl⟩:=hrel
   go_wp2_with (go_at_call 203;refine Fo.mono ?_;rintro e w' ⟨rfl,rfl⟩)
   exact bodyPost_ret (v:=.tuple #[]) (by simp [results,Tryz.results175,go_sem]) rfl ⟨rfl,rfl⟩
 go_enter Tryz.func128,Tryz.ntmps128
 go_wp2_with (first | (go_at_call 176;refine hl.mono ?_;rintro e w' ⟨rfl,rfl⟩) | (go_at_call 175;refine Gj.mono ?_;rintro e w' ⟨rfl,rfl⟩))
 go_end0;exact ⟨rfl,rfl⟩
def lastIs (acc:List Tm) (t:Tm):Bool:=match acc.getLast? with
 | none=>false
 | some u=>u.2.toList==t.2.toList
theorem zEJ {a:List Tm} {u t:Tm}:lastIs (a++[u]) t=(u.2.toList==t.2.toList):=by simp [lastIs]
theorem lastIs_false {acc:List Tm} {t:Tm} (h:lastIs acc t=false):∀ u,acc.getLast?=some u->u.2.data.toList≠t.2.data.toList:=by
 intro u hu e;unfold lastIs at h;rw [hu] at h;simp only at h;rw [seq_iff.2 e] at h
 cases h
theorem lastIs_true {acc:List Tm} {t:Tm} (h:lastIs acc t=true):∃ a u,acc=a++[u]/\u.2.data.toList=t.2.data.toList:=by
 rcases List.eq_nil_or_concat acc with rfl | ⟨a,u,rfl⟩
 ·cases h
 ·rw [List.concat_eq_append,zEJ] at h
  exact ⟨a,u,by rw [List.concat_eq_append],seq_iff.1 h⟩
theorem sums_any {ok:Nat->Prop} {w:World} {v:Value} {l:List Tm} (hl:HTerms ok w v l) (aP:l.length<=1000) (fw:∀ t ∈ l,small t.1=true) :
  Calls Tryz.prog 93 #[v] w fun e w'=>∃ u r,e=.returned u/\OwnL kTerm w.heap.size w' u r/\NF (l.map te) (r.map te)/\Below w.heap.size w w':=by
 have pL:=sclone_any hl aP;obtain ⟨ao,cap,rfl,aC,av,ai⟩:=hl.at;clear ai hl;go_enter Tryz.func93,Tryz.ntmps93;go_wp2_with fail;refine pL.mono ?_;rintro e w1 ⟨v1,rfl,js,b1⟩;clear pL;have y1:=b1.size;rcases zEi js with ⟨rfl,rfl⟩ | ⟨g,c,sp,rfl,hB,hb,hc,hm,hs⟩
 ·clear js
  go_wp2_with fail;refine (sort_nil _).mono ?_;rintro e w2 ⟨rfl,rfl⟩;go_wp2_with fail;go_loopg [4,14] 0 (fun _ s4 Hg wr=>s4=.slice none 0 0/\Hg=.int .i64 0/\wr=w2)
  case atStart=>exact ⟨rfl,rfl,rfl⟩
  case round=>
   obtain ⟨rfl,rfl,rfl⟩:=hrel;go_wp2_with fail;refine (zEq (B:=w.heap.size) (OwnL.nil (T:=kTerm)) (by simp)).mono ?_;rintro e w3 ⟨v3,rfl,io,b3⟩;go_wp2;go_ret;exact ⟨_,[],rfl,io,⟨List.Pairwise.nil,fun n s=>by simp [sumOf]⟩,b1.trans b3⟩
 ·have si:=sort_any (cap:=c) hb aP
  have sA:=hb.lt;clear js hb;go_wp2_with fail;refine si.mono ?_;rintro e w2 ⟨rfl,r,hp,jk,lj,a2⟩;clear si;have A2:Below w.heap.size w w2:=(((aside (S:=[g]) b1).trans a2 y1)).below (by simp;omega);have y2:=A2.size;have qG:r.length=l.length:=hp.length_eq;have HP:=zAA hp;have HS:=zAA jk;have Jn:=zAA (fun t (ht:t ∈ r)=>fw t (hp.mem_iff.1 ht));have qZ:=zAA lj;have ow:=lj.lt;clear lj a2 hp jk fw b1 y1 sA;clear hs;have Fw:r.length<=1000:=(by omega);rw [<-qG];clear qG;go_wp2_with fail;go_loopg [4,6,7,14] r.length (fun gh s4 _ _ Hg wr=>∃ (i:Nat) (acc:List Tm),Hg=.int .i64 (i:Int)/\i<=r.length/\r.length<=gh+i/\acc.length<=i/\Hid (OwnL kTerm w2.heap.size wr s4 acc)/\Hid (Mst r i acc)/\Below w2.heap.size w2 wr)
  case atStart=>exact ⟨0,[],rfl,by omega,by omega,by simp,OwnL.nil,mst_start r,Below.refl _ _⟩
  case round=>
   obtain ⟨i,acc,rfl,Jz,Qe,xB,HO,HM,bR⟩:=hrel;by_cases ak:i<r.length
   case neg=>
    have eH:i=r.length:=(by omega);subst eH;have qn:¬(r.length:Int)<(r.length:Int):=(by omega);go_wp2_with fail;refine (zEq HO.out (by omega)).mono ?_;rintro e w3 ⟨v3,rfl,io,b3⟩;go_wp2;go_ret;exact ⟨_,_,rfl,io.lower y2,mst_end HM.out HP.out,A2.trans ((bR.trans b3).mono y2)⟩
   case pos=>
    have lz:(i:Int)<(r.length:Int):=(by omega);obtain ⟨c0,c1⟩:=(qZ.out.below bR ow).cell ak;have j9:g<wr.heap.size:=Nat.lt_of_lt_of_le ow bR.size;have ep:=zCg.1 (Jn.out r[i] (List.getElem_mem ak));have Ih:=zAA (mst_new HS.out HM.out ak);have IU:=zAA (fun a u (e:acc=a++[u])=>mst_more (ris:=r) (a:=a) (u:=u) (e ▸ HM.out) ak);have N5:=zAA (mst_bound HM.out (by omega) Jn.out);generalize r[i]=t at c0 c1 ep Ih IU;go_upto_region 7 with fail;obtain ⟨wA,iN⟩:=nmQ (wr.alloc (.cells #[.int .i64 t.1,.string t.2] 83 (0,0)));have bA:=zAk iN;have KA:=zBa iN;rw [<-iN];clear iN c0 c1;have d0:=co KA 0;have d1:=co KA 1;simp at d0 d1;have xa:=bR.trans (bA.mono bR.size);have yA:=zAB KA;have gp:=HO.out.below bA;clear bA KA HO;obtain ⟨a4,c4,rfl,Cm,Ha⟩:=gp.form;go_upto_region 8 with fail;obtain ⟨n,hn⟩:=nmQ (acc.length);rw [<-hn] at Cm gp xB ⊢;obtain ⟨la,Bj⟩:∃ la:Int,la=(n:Int)-1:=⟨_,rfl⟩;rw [<-Bj];have qO:=zAA hn;have EW:=zAA Bj;have DQ:=zAA gp;clear hn Bj gp;go_cut [32] (fun ON wd=>ON=.bool (lastIs acc t)/\Below wA.heap.size wA wd)
    case first=>
     rcases List.eq_nil_or_concat acc with rfl | ⟨a,u,rfl⟩
     ·have e1:=qO.out
      rw [List.length_nil] at e1;subst e1;have e2:=EW.out;simp at e2;subst e2;clear Cm Ha xB;go_quiet (fail);go_wp2_with fail;go_meet
      case rel=>exact ⟨rfl,zBI (Below.refl _ _) _⟩
     ·have e1:=qO.out
      rw [List.concat_eq_append] at *;rw [List.length_append,List.length_singleton] at e1;subst e1;have e2:=EW.out;rw [show ((a.length+1:Nat):Int)-1=(a.length:Int) by omega] at e2;subst e2;rcases zEi DQ.out with ⟨e1,e2⟩ | ⟨gs,cs,ss,ev,Fy,tM,gq,wT,Ch⟩
      ·simp at e2
      ·injection ev with jw iF jX
       subst jw;obtain ⟨s0,s1⟩:=tM.cell (i:=a.length) (by simp);have eu:(a++[u])[a.length]'(by simp)=u:=(by simp);rw [eu] at s0 s1;clear eu tM s0 iF jX Ch gq wT xB Cm Ha;have Oo:(a.length:Int)<((a.length+1:Nat):Int):=(by omega);have BV:(0:Int)<=(a.length:Int):=(by omega);have If:=zAA (zEJ (a:=a) (u:=u) (t:=t))
       cases hEq:(u.2.toList==t.2.toList) with
       | true=>
        go_quiet (fail);go_wp2_with fail;go_meet
        case rel=>exact ⟨by rw [If.out,hEq],zBI (Below.refl _ _) _⟩
       | false=>
        go_quiet (fail);go_wp2_with fail;go_meet
        case rel=>exact ⟨by rw [If.out,hEq],zBI (Below.refl _ _) _⟩
    case rest=>
     obtain ⟨rfl,bB⟩:=hcut;have e0:=(bB.cell (p:=⟨wr.heap.size,0,none⟩) yA).trans d0;have e1:=(bB.cell (p:=⟨wr.heap.size,1,none⟩) yA).trans d1;have DY:=xa.trans (bB.mono xa.size);have yB:wr.heap.size<wc.heap.size:=Nat.lt_of_lt_of_le yA bB.size;have vo:=DY.size;have ownB:=DQ.out.below bB;clear d0 d1 bB xa DQ yA
     cases il:lastIs acc t with
     | false=>
      have wh:=zAA (Ih.out (lastIs_false il));have ja:=fun k hk=>(ownB.lt k hk).2;have q1:kTerm.E (fun i=>wc.heap.size<=i) wc [.int .i64 t.1,.string t.2] t:=rfl;have sO:=qO.out;have q2:(acc.length+1)*kTerm.bytes<=140737488355328:=(by show (acc.length+1)*24<=_;omega);have q3:acc.length+1<=maxLen:=(by unfold maxLen;omega);have ek:=zAA (show (acc++[t]).length<=i+1 by rw [List.length_append,List.length_singleton];omega);clear sO
      go_wp2_with (at_builtin;refine zAV kTerm rfl _ _ 33 83 rfl Tryz.underlying33 w2.heap.size wc.heap.size _ acc (by rfl) ownB [.int .i64 t.1,.string t.2] t q1 (by rfl) ja vo vo q2 q3 ?_;intro v8 w8 cU b8 _ _)
      go_wp2_with fail;go_roundg (gk-1)
      case measure=>omega
      case rel=>exact ⟨i+1,acc++[t],by go_num,by omega,by omega,ek.out,zAA cU,wh,DY.trans b8⟩
     | true=>
      obtain ⟨a,u,rfl,JY⟩:=lastIs_true il;have wh:=zAA (IU.out a u rfl JY);have Qo:=N5.out u (by simp);have q1:=qO.out;rw [List.length_append,List.length_singleton] at q1;subst q1;have q2:=EW.out;rw [show ((a.length+1:Nat):Int)-1=(a.length:Int) by omega] at q2;subst q2;rcases zEi ownB with ⟨z1,z2⟩ | ⟨gs,cs,ss,ev,Fy,tM,gq,wT,Ch⟩
      ·simp at z2
      ·injection ev with jw iF jX
       subst jw;subst jX;obtain ⟨s0,s1⟩:=tM.cell (i:=a.length) (by simp);have eu:(a++[u])[a.length]'(by simp)=u:=(by simp);rw [eu] at s0 s1;have ff:=fun o=>tM.free o;have ny:=fun n=>tM.setN (i:=a.length) (by simp) n;rw [eu] at ny;have eG:∀ n,(a++[u]).set a.length (n,u.2)=a++[(n,u.2)]:=fun n=>by simp
       have G9:=zAA (fun n=>(eG n) ▸ ny n);have Ma:=zAA wT;have MB:=zAA gq;have NU:=zAA Ch;have ek:=zAA (show (a++[(u.1+t.1,u.2)]).length<=i+1 by rw [List.length_append,List.length_singleton];omega);clear ny eG eu iF Ch gq wT tM s1 xB Cm Ha ownB JY il;have Oo:(a.length:Int)<((a.length+1:Nat):Int):=(by omega);go_upto_region 9 with fail
       go_region
       go_wp2_with fail;go_roundg (gk-1)
       case measure=>omega
       case rel=>
        have jm:=G9.out (u.1+t.1);have cU:OwnL kTerm w2.heap.size (wc.setCell ⟨gs,a.length*2,none⟩ (.int .i64 (u.1+t.1))).drew (.slice (some ⟨gs,0,none⟩) (a++[(u.1+t.1,u.2)]).length c4) (a++[(u.1+t.1,u.2)]):=
         blk_own (sp:=ss) jm Fy (by have:=MB.out;rw [List.length_append,List.length_singleton] at *;exact this) Ma.out (by have:=NU.out;rw [List.length_append,List.length_singleton] at *;exact this)
        rw [List.length_append,List.length_singleton] at cU;exact ⟨i+1,a++[(u.1+t.1,u.2)],by go_num,by omega,by omega,ek.out,zAA cU,wh,(DY.setCell (p:=⟨gs,a.length*2,none⟩) Fy _).drew⟩
theorem zEr {ok:Nat->Prop} {w:World} {v:Value} {l:List Tm} (hl:HTerms ok w v l) :
  Calls Tryz.prog 62 #[v] w fun e w'=>∃ u c a,e=.returned (.tuple #[u,.agg #[.int .i64 c,.int .i64 a]])/\NormP w.heap.size w' l u c a/\Below w.heap.size w w':=by
 obtain ⟨w1,ew⟩:=nmQ (w.alloc (.cells #[.int .i64 0,.int .i64 0] 29 (0,0)));have b1:=zAk ew;have j7:=zBa ew;have bh:=hl.keep (w':=w1) b1.size (fun i _ hl=>b1.block i hl);have hf:=faultOf_any bh;obtain ⟨ao,cap,rfl,aC,av,ai⟩:=hl.at;clear ai hl;go_enter Tryz.func62,Tryz.ntmps62;go_upto_region 1 with fail;rw [<-ew];clear ew;go_wp2_with fail;refine hf.mono ?_;rintro e w2 ⟨c,a,rfl,Cu,b2⟩;clear hf;have K2:=(b2.block _ (zAB j7)).trans j7;have y1:=b1.size;have B2:=b1.trans (b2.mono y1);have ek:=bh.keep (w':=w2) b2.size (fun i _ hl=>b2.block i hl);clear bh b1 j7 b2 y1;go_upto_region 2 with fail;obtain ⟨w3,lf⟩:=nmQ (w2.alloc (.cells #[.int .i64 c,.int .i64 a] 29 (0,0)));have b3:=zAk lf;have vD:=zBa lf;rw [<-lf];clear lf;have K3:=(b3.block _ (zAB K2)).trans K2;have y2:=B2.size;have B3:=B2.trans (b3.mono y2);have Hm:=ek.keep (w':=w3) b3.size (fun i _ hl=>b3.block i hl);have yk:=zAB K2;clear ek b3 K2 B2;have d0:=co vD 0;have d1:=co vD 1;simp at d0 d1;have k0:=co K3 0;have k1:=co K3 1;have fk:=fun o=>fo K3 o;simp at k0 k1;by_cases eQ:c=0
 ·have bX:l.length<=1000/\(∀ t ∈ l,small t.1=true)/\a=0:=by
   rcases Cu with ⟨_,e,_⟩ | ⟨_,_,_,_,_,e,_⟩ | ⟨h1,h2,_,h4⟩
   ·omega
   ·omega
   ·exact ⟨h1,h2,h4⟩
  obtain ⟨pv,fw,BV⟩:=bX;subst eQ;subst BV;clear Cu;have hs:=sums_any Hm pv fw;have Np:=zAA fw;clear fw Hm;go_wp2_with fail;refine hs.mono ?_;rintro e w4 ⟨u,r,rfl,kj,zh,b4⟩;have K4:=(b4.block _ (zAB K3)).trans K3;have y3:=B3.size;have B4:=B3.trans (b4.mono y3);have Af:=zAA zh;clear hs zh k0 k1 fk d0 d1 vD;have k0:=co K4 0;have k1:=co K4 1;have fk:=fun o=>fo K4 o;simp at k0 k1;have pB:w.heap.size<w3.heap.size:=zAB K3;go_wp2;have gK:OwnL kTerm w.heap.size ((w4.setCell ⟨w.heap.size,0,none⟩ (.int .i64 0)).setCell ⟨w.heap.size,1,none⟩ (.int .i64 0)) u r:=((kj.set (p:=⟨w.heap.size,0,none⟩) pB _).set (p:=⟨w.heap.size,1,none⟩) pB _).lower (by omega);exact bodyPost_ret (v:=.tuple #[u,.agg #[.int .i64 0,.int .i64 0]]) (by simp [results,Tryz.results62,go_sem,k0,k1]) rfl ⟨_,_,_,rfl,.inr (.inr ⟨pv,Np.out,rfl,rfl,r,gK,Af.out⟩),(B4.setCell (p:=⟨w.heap.size,0,none⟩) nR _).setCell (p:=⟨w.heap.size,1,none⟩) nR _⟩
 ·have cG:(c != 0)=true:=by simpa using eQ
  have OL:=zAA Cu;clear Cu Hm;go_wp2_with fail
  go_region
  go_wp2;have Pe:∀ W,NormP w.heap.size W l (.slice none 0 0) c a:=fun W=>by
   rcases OL.out with ⟨h1,h2,h3⟩ | ⟨h1,i,h,h2,h3,h4,h5⟩ | ⟨_,_,h,_⟩
   ·exact .inl ⟨h1,rfl,h2,h3⟩
   ·exact .inr (.inl ⟨h1,i,h,h2,h3,rfl,h4,h5⟩)
   ·exact absurd h eQ
  exact bodyPost_ret (v:=.tuple #[.slice none 0 0,.agg #[.int .i64 c,.int .i64 a]]) (by simp [results,Tryz.results62,go_sem,k0,k1]) rfl ⟨_,_,_,rfl,Pe _,((B3.setCell (p:=⟨w.heap.size,0,none⟩) nR _).setCell (p:=⟨w.heap.size,1,none⟩) nR _).drew⟩
end Go.Proofs.YtkfgbhlpjkkgfaaGreatDoor
