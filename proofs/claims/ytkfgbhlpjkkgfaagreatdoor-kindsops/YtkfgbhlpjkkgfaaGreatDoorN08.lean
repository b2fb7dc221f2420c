import Derived.Test.YtkfgbhlpjkkgfaaGreatDoorN05
import Derived.Test.YtkfgbhlpjkkgfaaGreatDoorN07
import Derived.Test.YtkfgbhlpjkkgfaaGreatDoorN03
import Derived.Deep.CutBlock
import Derived.Deep.DeepCutAuto
set_option linter.unusedVariables false
set_option linter.unusedSimpArgs false
set_option maxHeartbeats 64000000
set_option maxRecDepth 100000
namespace Go.Proofs.YtkfgbhlpjkkgfaaGreatDoor
open Go.RowKit Go.IntWalk
def small (n:Int):Bool:=decide (-1000000≤n)&&decide (n≤1000000)
theorem small6_any (n:Int) (w:World):Calls Tryz.prog 94 #[.int .i64 n] w fun e w'=>e=.returned (.bool (small n))∧Below w.heap.size w w':=by
 unfold small;by_cases h1 : -1000000≤n
 ·by_cases h2:n≤1000000
  ·go_enter Tryz.func94,Tryz.ntmps94
   go_wp2;go_ret;exact ⟨by simp [h1,h2],Below.refl _ _⟩
  ·go_enter Tryz.func94,Tryz.ntmps94
   go_wp2;go_ret;exact ⟨by simp [h1,h2],Below.refl _ _⟩
 ·go_enter Tryz.func94,Tryz.ntmps94
  go_wp2;go_ret;exact ⟨by rw [show decide (-1000000≤n)=false from decide_eq_false (by omega)];rfl,Below.refl _ _⟩
def te (t:Tm):Te:=(t.1,t.2.data.toList)
theorem gtr_cmp (x y:List UInt8):(!(Op.bytesLess x y || x==y))=decide (Lib.compareBytes y x<0):=by
 rw [less_cmp,cmp_flip x y];rcases cmp_range x y with h | h | h
 ·simp [h]
 ·have:=cmp_zero _ _ h
  subst this;simp [h]
 ·have hne:¬x=y:=fun e=>by subst e;rw [cmp_self] at h;omega
  simp [h,hne]
def ixI:Option Nat→Int
 | none => -1
 | some q=>(q:Int)
def nmO (l:List Tm):Option Nat→Option (List UInt8)
 | none=>none
 | some q=>(l[q]?).map fun t=>t.2.data.toList
theorem nmO_some {l:List Tm} {q:Nat} (h:q<l.length):nmO l (some q)=some (l[q]).2.data.toList:=by simp [nmO,h]
structure Least (l:List Tm) (β:Option (List UInt8)) (i:Nat) (k:Option Nat):Prop where
 none:k=none→∀ j (h:j<l.length),j<i→gtO β (l[j]).2.data.toList=false
 lt:∀ q,k=some q→q<l.length
 gt:∀ q (h:q<l.length),k=some q→gtO β (l[q]).2.data.toList=true
 le:∀ q (h:q<l.length),k=some q→∀ j (hj:j<l.length),j<i→gtO β (l[j]).2.data.toList=true→¬Lib.compareBytes (l[j]).2.data.toList (l[q]).2.data.toList<0
theorem least_start (l:List Tm) (β:Option (List UInt8)):Least l β 0 none:=⟨fun _ j _ h=>absurd h (Nat.not_lt_zero _),fun _ h=>(by cases h),fun _ _ h=>(by cases h),fun _ _ h=>(by cases h)⟩
def takes (l:List Tm) (β:Option (List UInt8)) (i:Nat) (h:i<l.length) (k:Option Nat):Bool :=
 gtO β (l[i]).2.data.toList&&(match nmO l k with | none=>true | some y=>decide (Lib.compareBytes (l[i]).2.data.toList y<0))
theorem least_step {l:List Tm} {β:Option (List UInt8)} {i:Nat} {k:Option Nat} (hL:Least l β i k) (h:i<l.length):Least l β (i+1) (if takes l β i h k=true then some i else k):=by
 by_cases ht:takes l β i h k=true
 ·rw [if_pos ht]
  unfold takes at ht;rw [Bool.and_eq_true] at ht;obtain ⟨t1,t2⟩:=ht;refine ⟨fun e=>(by cases e),fun q e=>?_,fun q hq e=>?_,fun q hq e j hj hji hg=>?_⟩
  ·injection e with e;omega
  ·injection e with e;subst e;exact t1
  ·injection e with e
   subst e;by_cases hji2:j=i
   ·subst hji2;rw [cmp_self];omega
   ·intro hc
    cases k with
    | none=>have:=hL.none rfl j hj (by omega);rw [this] at hg;cases hg
    | some q=>
     have hq:=hL.lt q rfl;rw [nmO_some hq] at t2;have t3:Lib.compareBytes (l[i]).2.data.toList (l[q]).2.data.toList<0:=(by simpa using t2);exact hL.le q hq rfl j hj (by omega) hg (cmp_trans _ _ _ hc t3)
 ·rw [if_neg ht]
  unfold takes at ht;refine ⟨fun e j hj hji=>?_,hL.lt,hL.gt,fun q hq e j hj hji hg=>?_⟩
  ·subst e
   by_cases hji2:j=i
   ·subst hji2
    simpa [nmO] using ht
   ·exact hL.none rfl j hj (by omega)
  ·by_cases hji2:j=i
   ·subst hji2
    subst e;rw [nmO_some hq,hg] at ht
    simpa using ht
   ·exact hL.le q hq e j hj (by omega) hg
theorem takes_ns {l:List Tm} {i q:Nat} {h:i<l.length} (hq:q<l.length):takes l (nmO l none) i h (some q)=Op.bytesLess (l[i]).2.toList (l[q]).2.toList:=by
 unfold takes;rw [nmO_some hq,less_cmp,Lib.toList_data,Lib.toList_data];simp [gtO,nmO]
theorem takes_sn {l:List Tm} {i a:Nat} {h:i<l.length} (ha:a<l.length):takes l (nmO l (some a)) i h none=(!(Op.bytesLess (l[i]).2.toList (l[a]).2.toList || (l[i]).2.toList==(l[a]).2.toList)):=by
 unfold takes;rw [nmO_some ha,gtr_cmp,Lib.toList_data,Lib.toList_data];simp [gtO,nmO]
theorem takes_ss {l:List Tm} {i a q:Nat} {h:i<l.length} (ha:a<l.length) (hq:q<l.length):takes l (nmO l (some a)) i h (some q)=((!(Op.bytesLess (l[i]).2.toList (l[a]).2.toList || (l[i]).2.toList==(l[a]).2.toList))&&Op.bytesLess (l[i]).2.toList (l[q]).2.toList):=by
 unfold takes;rw [nmO_some ha,nmO_some hq,gtr_cmp,less_cmp,Lib.toList_data,Lib.toList_data,Lib.toList_data];simp [gtO]
theorem drewN_below {B:Nat} {w w':World} (h:Below B w w') (n:Nat):Below B w (w'.drewN n):=⟨h.os,h.tape,h.output,h.size,h.block⟩
theorem OwnL.lower {α:Type} {T:Kind α} {B B':Nat} {w:World} {v:Value} {l:List α} (h:OwnL T B' w v l) (hB:B≤B'):OwnL T B w v l:=by
 obtain ⟨D,h1,h2⟩:=h;refine ⟨D,⟨h1.1,?_⟩,fun j hj=>T.wide (h2 j hj) fun i hi _=>⟨Nat.le_trans hB hi.1,hi.2⟩⟩;rcases h1.2 with h0 | ⟨g,cap,cur,hv,hb,hr⟩
 ·exact .inl h0
 ·exact .inr ⟨g,cap,cur,hv,Nat.le_trans hB hb,hr⟩
theorem gtrRun (x z:ByteArray) (W:World):(binOp .gtr 9 (.string x) (.string z)).run Tryz.prog W=.ok (.bool (!(Op.bytesLess x.toList z.toList || x.toList==z.toList))) W:=by
 have e:(binOp .gtr 9 (.string x) (.string z))=Op.stringOp .gtr x z:=rfl;rw [e]
 cases h1:Op.bytesLess x.toList z.toList<;>cases h2:(x.toList==z.toList)<;>simp [Op.stringOp,h1,h2,go_sem]
theorem sumOf_take {l:List Tm} {s:List UInt8} {i:Nat} (h:i<l.length):sumOf ((l.take (i+1)).map te) s=sumOf ((l.take i).map te) s+(if (l[i]).2.data.toList=s then (l[i]).1 else 0):=by
 rw [List.take_succ_eq_append_getElem h,List.map_append,sumOf_append];simp [sumOf,te]
theorem sumOf_bound {l:List Te} {s:List UInt8} {m:Int} (hm:0≤m):(∀ t ∈ l,-m≤t.1∧t.1≤m) →-(m*l.length)≤sumOf l s∧sumOf l s≤m*l.length:=by
 induction l with
 | nil=>intro _;simp [sumOf]
 | cons t l ih=>
  intro h;obtain ⟨a,b⟩:=ih (fun u hu=>h u (by simp [hu]));obtain ⟨c,d⟩:=h t (by simp);have e:m*((t :: l).length:Int)=m*(l.length:Int)+m:=by
   rw [List.length_cons];push_cast;rw [Int.mul_add,Int.mul_one]
  rw [e];unfold sumOf
  split<;>omega
theorem small_iff {n:Int}:small n=true ↔ -1000000≤n∧n≤1000000:=by simp [small]
theorem sum_take_bound {l:List Tm} {s:List UInt8} {i:Nat} (h:l.length≤1000) (hs:∀ j (hj:j<l.length),small (l[j]).1=true) : -1000000000≤sumOf ((l.take i).map te) s∧sumOf ((l.take i).map te) s≤1000000000:=by
 have h1:=sumOf_bound (l:=(l.take i).map te) (s:=s) (m:=1000000) (by omega) (fun t ht=>by
  obtain ⟨x,hx,rfl⟩:=List.mem_map.1 ht;obtain ⟨j,hj,rfl⟩:=List.mem_iff_getElem.1 (List.mem_of_mem_take hx);exact small_iff.1 (hs j hj))
 have h2:((l.take i).map te).length≤1000:=(by simp;omega)
 constructor<;>omega
theorem seq_iff {x y:ByteArray}:(x.toList==y.toList)=true↔x.data.toList=y.data.toList:=by rw [Lib.toList_data,Lib.toList_data];simp
def psum (l:List Tm) (s:List UInt8) (i:Nat):Int:=sumOf ((l.take i).map te) s
theorem psum_zero (l:List Tm) (s:List UInt8):psum l s 0=0:=by simp [psum,sumOf]
theorem psum_all (l:List Tm) (s:List UInt8):psum l s l.length=sumOf (l.map te) s:=by simp [psum]
theorem psum_step {l:List Tm} {s:List UInt8} {i:Nat} (h:i<l.length):psum l s (i+1)=psum l s i+(if (l[i]).2.data.toList=s then (l[i]).1 else 0):=sumOf_take h
theorem psum_bound {l:List Tm} {s:List UInt8} {i:Nat} (h:l.length≤1000) (hs:∀ j (hj:j<l.length),small (l[j]).1=true) : -1000000000≤psum l s i∧psum l s i≤1000000000:=sum_take_bound h hs
theorem told_round {l:List Tm} {out:List Tm} {at':Option Nat} {q g:Nat} {nq:ByteArray} (HT:Told (l.map te) (out.map te) (Upto (nmO l at'))) (HL:Least l (nmO l at') l.length (some q)) (hG:unt (l.map te) (nmO l at')≤g) (hO:out.length+g≤l.length) (hq:q<l.length) (hn:nq=(l[q]).2) :
  1≤g∧unt (l.map te) (nmO l (some q))≤g-1∧(psum l nq.data.toList l.length=0→Told (l.map te) (out.map te) (Upto (nmO l (some q))))∧(psum l nq.data.toList l.length≠0→Told (l.map te) ((out++[(psum l nq.data.toList l.length,nq)]).map te) (Upto (nmO l (some q)))):=by
 subst hn;have hgt:=HL.gt q hq rfl;have h1:=unt_less (l:=l.map te) (β:=nmO l at') (s:=(l[q]).2.data.toList) ⟨te l[q],List.mem_map.2 ⟨l[q],List.getElem_mem hq,rfl⟩,rfl⟩ hgt;have h2:=told_least (s:=(l[q]).2.data.toList) HT hgt (fun t ht hg=>by
  obtain ⟨x,hx,rfl⟩:=List.mem_map.1 ht;obtain ⟨j,hj,rfl⟩:=List.mem_iff_getElem.1 hx;exact HL.le q hq rfl j hj hj hg)
 rw [nmO_some hq,psum_all];refine ⟨by omega,by omega,fun e=>?_,fun e=>?_⟩
 ·rw [if_pos e] at h2;exact h2
 ·rw [if_neg e] at h2
  rw [List.map_append];exact h2
def NormP (B:Nat) (w':World) (l:List Tm) (v:Value) (c a:Int):Prop :=
 (1000<l.length∧v=.slice none 0 0∧c=7∧a = -1) ∨
 (l.length≤1000∧∃ i:Nat,∃ h:i<l.length,small (l[i]).1=false∧(∀ j (hj:j<i),small (l[j]'(by omega)).1=true)∧v=.slice none 0 0∧c=16∧a=(i:Int)) ∨
 (l.length≤1000∧(∀ t ∈ l,small t.1=true)∧c=0∧a=0∧∃ r,OwnL kTerm B w' v r∧NF (l.map te) (r.map te))
theorem refNorm_any {ok:Nat→Prop} {w:World} {v:Value} {l:List Tm} (hl:HTerms ok w v l) :
  Calls Tryz.prog 64 #[v] w fun e w'=>∃ u c a,e=.returned (.tuple #[u,.agg #[.int .i64 c,.int .i64 a]])∧NormP w.heap.size w' l u c a∧Below w.heap.size w w':=by
 obtain ⟨ao,cap,rfl,hc1,hc2,hat⟩:=hl.at;unfold maxLen at hc2;obtain ⟨w1,hw1⟩:=nmQ (w.alloc (.cells #[.int .i64 0,.int .i64 0] 29 (0,0)));have b1:=newB hw1;have K_w1:=newK hw1;by_cases h1000:1000<l.length
 ·have hi:(1000:Int)<(l.length:Int):=by omega
  go_enter Tryz.func64,Tryz.ntmps64;go_wp2_with fail;rw [←hw1];refine (fault_any _ _ _).mono ?_;rintro e w2 ⟨rfl,b2⟩;have K2:=(b2.block _ (lt_of K_w1)).trans K_w1;have B2:=b1.trans (b2.mono b1.size);have k0:=co K2 0;have k1:=co K2 1;have fk:=fun o=>fo K2 o;simp at k0 k1;go_wp2;exact bodyPost_ret (v:=.tuple #[.slice none 0 0,.agg #[.int .i64 7,.int .i64 (-1)]]) (by simp [results,Tryz.results64,go_sem,k0,k1]) rfl ⟨_,_,_,rfl,.inl ⟨h1000,rfl,rfl,rfl⟩,(B2.setCell (p:=⟨w.heap.size,0,none⟩) nR _).setCell (p:=⟨w.heap.size,1,none⟩) nR _⟩
 ·have hi:¬(1000:Int)<(l.length:Int):=by omega
  go_enter Tryz.func64,Tryz.ntmps64;go_upto_block 0 with fail;rw [←hw1];clear hw1;go_cut [4] (fun v wc=>(∀ j (hj:j<l.length),small (l[j]).1=true)∧Below w.heap.size w wc∧wc.heap[w.heap.size]?=some (.cells #[.int .i64 0,.int .i64 0] 29 (0,0)))
  case first=>
   go_wp2_with fail;go_loopg [4] l.length (fun k v wr=>∃ i:Nat,v=.int .i64 (i:Int)∧k+i=l.length∧Hid (∀ j (hj:j<l.length),j<i→small (l[j]).1=true)∧Below w.heap.size w wr∧wr.heap[w.heap.size]?=some (.cells #[.int .i64 0,.int .i64 0] 29 (0,0)))
   case atStart=>exact ⟨0,rfl,by omega,hide (fun j hj h=>absurd h (Nat.not_lt_zero _)),b1,K_w1⟩
   case round=>
    clear b1 K_w1;obtain ⟨i,rfl,hk,HS,hB,hK⟩:=hrel;by_cases hlt:i<l.length
    case neg=>
     have hge:¬(i:Int)<(l.length:Int):=(by omega);go_wp2_with fail;go_meet
     case rel=>exact ⟨fun j hj=>HS.out j hj (by omega),hB,hK⟩
    case pos=>
     have hltI:(i:Int)<(l.length:Int):=(by omega);obtain ⟨b,o,rfl,hb,t0,t1⟩:=hat i hlt;have e0:=(hB.cell (p:=⟨b,o+i*2,none⟩) hb).trans t0;clear t0 t1;have yb:b<wr.heap.size:=Nat.lt_of_lt_of_le hb hB.size;generalize hti:l[i]=ti at e0;have HT:=hide hti;clear hti;go_wp2_with fail;refine (small6_any _ _).mono ?_;rintro e w2 ⟨rfl,b2⟩;have K2:=(b2.block _ (lt_of hK)).trans hK;have B2:=hB.trans (b2.mono hB.size)
     cases hsm:small ti.1 with
     | true=>
      go_wp2_with fail;go_roundg (l.length-(i+1))
      case measure=>omega
      case rel=>exact ⟨i+1,by go_num,by omega,hide (fun j hj h=>by
       by_cases e:j=i
       ·subst e;rw [HT.out];exact hsm
       ·exact HS.out j hj (by omega)),B2,K2⟩
     | false=>
      go_wp2_with fail;refine (fault_any _ _ _).mono ?_;rintro e w3 ⟨rfl,b3⟩;have K3:=(b3.block _ (lt_of K2)).trans K2;have B3:=B2.trans (b3.mono B2.size);have k0:=co K3 0;have k1:=co K3 1;have fk:=fun o=>fo K3 o;simp at k0 k1;go_wp2;exact bodyPost_ret (v:=.tuple #[.slice none 0 0,.agg #[.int .i64 16,.int .i64 (i:Int)]]) (by simp [results,Tryz.results64,go_sem,k0,k1]) rfl ⟨_,_,_,rfl,.inr (.inl ⟨by omega,i,hlt,by rw [HT.out];exact hsm,fun j hj=>HS.out j (by omega) hj,rfl,rfl,rfl⟩),(B3.setCell (p:=⟨w.heap.size,0,none⟩) nR _).setCell (p:=⟨w.heap.size,1,none⟩) nR _⟩
  case rest=>
   clear b1 K_w1;obtain ⟨HSM,hB0,hK0⟩:=hcut;have HSM:=hide HSM;go_wp2_with fail;go_loopg [5,6,7,8,9,10] l.length (fun g s5 s6 _ _ _ _ wr=>∃ (at':Option Nat) (out:List Tm),s6=.int .i64 (ixI at')∧Hid (∀ q,at'=some q→q<l.length)∧Hid (unt (l.map te) (nmO l at')≤g)∧Hid (out.length+g≤l.length)∧OwnL kTerm (w.heap.size+1) wr s5 out∧Hid (Told (l.map te) (out.map te) (Upto (nmO l at')))∧Below w.heap.size w wr∧wr.heap[w.heap.size]?=some (.cells #[.int .i64 0,.int .i64 0] 29 (0,0)))
   case atStart=>exact ⟨none,[],rfl,hide (fun q h=>by cases h),hide (by unfold unt;exact Nat.le_trans (List.length_filter_le _ _) (by simp)),hide (by simp),OwnL.nil,hide (told_start _),hB0,hK0⟩
   case round=>
    obtain ⟨at',out,rfl,HA,HG,HO,hown,HT,hB,hK⟩:=hrel;obtain ⟨wo,hwo⟩:=nmQ (wr);subst hwo;clear hB0 hK0;go_upto_block 4 with fail;go_cut [7,8] (fun v7 _ wd=>∃ k,v7=.int .i64 (ixI k)∧Hid (Least l (nmO l at') l.length k)∧Below wo.heap.size wo wd)
    case first=>
     go_wp2_with fail;go_loopg [7,8] l.length (fun g s7 s8 wr=>∃ (i:Nat) (k:Option Nat),s7=.int .i64 (ixI k)∧s8=.int .i64 (i:Int)∧g+i=l.length∧Hid (Least l (nmO l at') i k)∧Below wo.heap.size wo wr)
     case atStart=>exact ⟨0,none,rfl,rfl,by omega,hide (least_start _ _),Below.refl _ _⟩
     case round=>
      obtain ⟨i,k,rfl,rfl,hgi,HL,hBo⟩:=hrel;by_cases hlt:i<l.length
      case neg=>
       have hge:¬(i:Int)<(l.length:Int):=(by omega);go_wp2_with fail;go_meet
       case rel=>exact ⟨k,rfl,hide (by have e:i=l.length:=(by omega);rw [←e];exact HL.out),hBo⟩
      case pos=>
       have hltI:(i:Int)<(l.length:Int):=(by omega);go_upto_region 14 with fail;go_cut [67] (fun v67 wd=>v67=.bool (takes l (nmO l at') i hlt k)∧Below wo.heap.size wo wd)
       case first=>
        obtain ⟨b,o,rfl,hb,t0,t1⟩:=hat i hlt;have yb:b<wo.heap.size:=Nat.lt_of_lt_of_le hb hB.size;have nm:∀ q (hq:q<l.length),wr.cell? ⟨b,o+q*2+1,none⟩=some (.string (l[q]).2):=fun q hq=>by
         obtain ⟨b',o',e,_,_,t1⟩:=hat q hq;injection e with e;injection e with e1 e2;subst e1;subst e2;exact (hBo.cell (p:=⟨b,o+q*2+1,none⟩) yb).trans ((hB.cell (p:=⟨b,o+q*2+1,none⟩) hb).trans t1)
        have e1:=nm i hlt;have HLk:=hide HL.out.lt;clear hat t0 t1 HL
        cases at' with
        | none=>
         rw [show ixI none=(-1:Int) from rfl]
         cases k with
         | none=>
          try rw [show ixI none=(-1:Int) from rfl]
          clear nm;go_quiet (fail);go_wp2_with fail;go_meet
          case rel=>exact ⟨rfl,drewN_below hBo _⟩
         | some q=>
          have hq:=HLk.out q rfl;rw [show ixI (some q)=(q:Int) from rfl];have hqI:(q:Int)<(l.length:Int):=(by omega);have hq0:¬(q:Int)<0:=(by omega);have e2:=nm q hq;clear nm;have HTK:=hide (takes_ns (i:=i) (h:=hlt) hq);generalize hx:(l[i]).2=x at e1 HTK;generalize hy:(l[q]).2=y at e2 HTK;clear hx hy
          cases h3:Op.bytesLess x.toList y.toList with
          | true=>
           go_quiet (fail);go_wp2_with fail;go_meet
           case rel=>exact ⟨by rw [HTK.out,h3],drewN_below hBo _⟩
          | false=>
           go_quiet (fail);go_wp2_with fail;go_meet
           case rel=>exact ⟨by rw [HTK.out,h3],drewN_below hBo _⟩
        | some a=>
         have ha:=HA.out a rfl;rw [show ixI (some a)=(a:Int) from rfl];have haI:(a:Int)<(l.length:Int):=(by omega);have ha0:¬(a:Int)<0:=(by omega);have e3:=nm a ha
         cases k with
         | none=>
          rw [show ixI none=(-1:Int) from rfl];clear nm;have HTK:=hide (takes_sn (i:=i) (h:=hlt) ha);generalize hx:(l[i]).2=x at e1 HTK;generalize hz:(l[a]).2=z at e3 HTK;clear hx hz;have hG:=fun W=>gtrRun x z W;generalize (!(Op.bytesLess x.toList z.toList || x.toList==z.toList))=gb at hG HTK
          cases gb with
          | true=>
           go_quiet (fail);go_wp2_with fail;go_meet
           case rel=>exact ⟨by rw [HTK.out],drewN_below hBo _⟩
          | false=>
           go_quiet (fail);go_wp2_with fail;go_meet
           case rel=>exact ⟨by rw [HTK.out],drewN_below hBo _⟩
         | some q=>
          have hq:=HLk.out q rfl;rw [show ixI (some q)=(q:Int) from rfl];have hqI:(q:Int)<(l.length:Int):=(by omega);have hq0:¬(q:Int)<0:=(by omega);have e2:=nm q hq;clear nm;have HTK:=hide (takes_ss (i:=i) (h:=hlt) ha hq);generalize hx:(l[i]).2=x at e1 HTK;generalize hy:(l[q]).2=y at e2 HTK;generalize hz:(l[a]).2=z at e3 HTK;clear hx hy hz;have hG:=fun W=>gtrRun x z W;generalize (!(Op.bytesLess x.toList z.toList || x.toList==z.toList))=gb at hG HTK
          cases gb with
          | true=>
           cases h3:Op.bytesLess x.toList y.toList with
           | true=>
            go_quiet (fail);go_wp2_with fail;go_meet
            case rel=>exact ⟨by rw [HTK.out,h3];rfl,drewN_below hBo _⟩
           | false=>
            go_quiet (fail);go_wp2_with fail;go_meet
            case rel=>exact ⟨by rw [HTK.out,h3];rfl,drewN_below hBo _⟩
          | false=>
           go_quiet (fail);go_wp2_with fail;go_meet
           case rel=>exact ⟨by rw [HTK.out];rfl,drewN_below hBo _⟩
       case rest=>
        obtain ⟨rfl,hBd⟩:=hcut;have HL2:=hide (least_step HL.out hlt)
        cases htk:takes l (nmO l at') i hlt k with
        | true=>
         go_wp2_with fail;go_roundg (l.length-(i+1))
         case measure=>omega
         case rel=>exact ⟨i+1,some i,rfl,by go_num,by omega,hide (by have:=HL2.out;rw [if_pos htk] at this;exact this),hBd⟩
        | false=>
         go_wp2_with fail;go_roundg (l.length-(i+1))
         case measure=>omega
         case rel=>exact ⟨i+1,k,rfl,by go_num,by omega,hide (by have:=HL2.out;rw [htk] at this;simpa using this),hBd⟩
    case rest=>
     obtain ⟨k,rfl,HL,hBd⟩:=hcut;have K2:=(hBd.block _ (lt_of hK)).trans hK;have B2:=hB.trans (hBd.mono hB.size);have own2:=hown.below hBd;clear hown hK hBd hB;clear wo
     cases k with
     | none=>
      rw [show ixI none=(-1:Int) from rfl];have k0:=co K2 0;have k1:=co K2 1;have fk:=fun o=>fo K2 o;simp at k0 k1;go_wp2;have own3:OwnL kTerm w.heap.size ((wc.setCell ⟨w.heap.size,0,none⟩ (.int .i64 0)).setCell ⟨w.heap.size,1,none⟩ (.int .i64 0)) u5 out:=((own2.set (p:=⟨w.heap.size,0,none⟩) (by simp) _).set (p:=⟨w.heap.size,1,none⟩) (by simp) _).lower (by omega);exact bodyPost_ret (v:=.tuple #[u5,.agg #[.int .i64 0,.int .i64 0]]) (by simp [results,Tryz.results64,go_sem,k0,k1]) rfl ⟨_,_,_,rfl,.inr (.inr ⟨by omega,fun t ht=>by
       obtain ⟨j,hj,rfl⟩:=List.mem_iff_getElem.1 ht;exact HSM.out j hj,rfl,rfl,out,own3,told_all HT.out fun t ht=>by
        obtain ⟨x,hx,rfl⟩:=List.mem_map.1 ht;obtain ⟨j,hj,rfl⟩:=List.mem_iff_getElem.1 hx;exact HL.out.none rfl j hj hj⟩),(B2.setCell (p:=⟨w.heap.size,0,none⟩) nR _).setCell (p:=⟨w.heap.size,1,none⟩) nR _⟩
     | some q=>
      have hq:=HL.out.lt q rfl;rw [show ixI (some q)=(q:Int) from rfl];have hqI:(q:Int)<(l.length:Int):=(by omega);have hq0:¬(q:Int)<0:=(by omega);obtain ⟨b,o,rfl,hb,_,_⟩:=hat q hq;have cl:∀ W,Below w.heap.size w W→∀ j (hj:j<l.length),W.cell? ⟨b,o+j*2,none⟩=some (.int .i64 (l[j]).1)∧W.cell? ⟨b,o+j*2+1,none⟩=some (.string (l[j]).2):=fun W hW j hj=>by
       obtain ⟨b',o',e,_,t0,t1⟩:=hat j hj;injection e with e;injection e with e1 e2;subst e1;subst e2;exact ⟨(hW.cell (p:=⟨b,o+j*2,none⟩) hb).trans t0,(hW.cell (p:=⟨b,o+j*2+1,none⟩) hb).trans t1⟩
      have HC:=hide cl;clear hat cl;obtain ⟨nq,hnq⟩:∃ x,x=(l[q]).2:=⟨_,rfl⟩;have HNQ:=hide hnq;clear hnq;obtain ⟨wo,hwo⟩:=nmQ (wc);subst hwo;go_upto_block 6 with fail;go_cut [9,10] (fun v9 _ wd=>v9=.int .i64 (psum l nq.data.toList l.length)∧Below wo.heap.size wo wd)
      case first=>
       go_wp2_with fail;go_loopg [9,10] l.length (fun g s9 s10 wr=>∃ (i:Nat),s9=.int .i64 (psum l nq.data.toList i)∧s10=.int .i64 (i:Int)∧g+i=l.length∧Below wo.heap.size wo wr)
       case atStart=>exact ⟨0,by rw [psum_zero],rfl,by omega,Below.refl _ _⟩
       case round=>
        obtain ⟨i,rfl,rfl,hgi,hBo⟩:=hrel;by_cases hlt:i<l.length
        case neg=>
         have hge:¬(i:Int)<(l.length:Int):=(by omega);go_wp2_with fail;go_meet
         case rel=>exact ⟨by
          have e:i=l.length:=(by omega);rw [e],hBo⟩
        case pos=>
         have hltI:(i:Int)<(l.length:Int):=(by omega);obtain ⟨e0,e1⟩:=HC.out wr (B2.trans (hBo.mono B2.size)) i hlt;obtain ⟨_,e2⟩:=HC.out wr (B2.trans (hBo.mono B2.size)) q hq;rw [←HNQ.out] at e2;have hsi:=small_iff.1 (HSM.out i hlt);have hst:=psum_bound (l:=l) (s:=nq.data.toList) (i:=i) (by omega) HSM.out;have HST:=hide (psum_step (s:=nq.data.toList) hlt);generalize hti:l[i]=ti at e0 e1 hsi HST;generalize hS:psum l nq.data.toList i=S at hst HST ⊢;clear hti hS
         cases hEq:(ti.2.toList==nq.toList) with
         | true=>
          go_upto_region 22 with fail;go_quiet (fail);go_wp2_with fail;go_roundg (l.length-(i+1))
          case measure=>omega
          case rel=>exact ⟨i+1,by rw [HST.out,if_pos (seq_iff.1 hEq)],by go_num,by omega,drewN_below hBo _⟩
         | false=>
          go_upto_region 22 with fail;go_quiet (fail);go_wp2_with fail;go_roundg (l.length-(i+1))
          case measure=>omega
          case rel=>exact ⟨i+1,by rw [HST.out,if_neg (fun e=>by rw [seq_iff.2 e] at hEq;cases hEq),Int.add_zero],by go_num,by omega,drewN_below hBo _⟩
      case rest=>
       obtain ⟨rfl,hBd⟩:=hcut;obtain ⟨hg1,hg2,hg3,hg4⟩:=told_round HT.out HL.out HG.out HO.out hq HNQ.out;have HU:=hide hg2;have HO2:=HO.out;have K3:=(hBd.block _ (lt_of K2)).trans K2;have B3:=B2.trans (hBd.mono B2.size);have own3:=own2.below hBd;obtain ⟨_,e2⟩:=HC.out wc B3 q hq;rw [←HNQ.out] at e2;have yb:b<wc.heap.size:=Nat.lt_of_lt_of_le hb B3.size;have yw:=lt_of K3;clear hBd own2 K2 B2;clear wo HC HL HT HG HA;obtain ⟨S,hS⟩:=nmQ (psum l nq.data.toList l.length);rw [←hS] at hg3 hg4 ⊢;clear hS;have HA2:=hide hg3;have HA3:=hide hg4;clear hg3 hg4;by_cases h0:S=0
       ·subst h0
        go_wp2_with fail;go_roundg (gk-1)
        case measure=>omega
        case rel=>exact ⟨some q,out,rfl,hide (fun q' e=>by injection e with e;omega),HU,hide (by omega),own3,hide (HA2.out (by first | trivial | rfl)),B3,K3⟩
       ·have hne:(S != 0)=true:=by simpa using h0
        have hNb:=fun k hk=>(own3.lt k hk).2;have q1:kTerm.E (fun i=>wc.heap.size≤i) wc [.int .i64 S,.string nq] (S,nq):=rfl;have q2:(out.length+1)*kTerm.bytes≤140737488355328:=(by show (out.length+1)*24≤_;omega);have q3:out.length+1≤maxLen:=(by unfold maxLen;omega)
        go_wp2_with (at_builtin;refine wpList_more kTerm rfl _ _ 33 83 rfl Tryz.underlying33 (w.heap.size+1) wc.heap.size _ out (by rfl) own3 [.int .i64 S,.string nq] (S,nq) q1 (by rfl) hNb (by omega) (by omega) q2 q3 ?_;intro v8 w8 own8 b8 _ _)
        go_wp2_with fail;go_roundg (gk-1)
        case measure=>omega
        case rel=>exact ⟨some q,out++[(S,nq)],rfl,hide (fun q' e=>by injection e with e;omega),HU,hide (by rw [List.length_append,List.length_singleton];omega),own8,hide (HA3.out h0),B3.trans (b8.mono (by omega)),(b8.block _ (by omega)).trans K3⟩
end Go.Proofs.YtkfgbhlpjkkgfaaGreatDoor
