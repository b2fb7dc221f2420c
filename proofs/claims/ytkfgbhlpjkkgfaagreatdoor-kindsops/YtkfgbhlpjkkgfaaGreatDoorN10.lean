import Derived.Test.YtkfgbhlpjkkgfaaGreatDoorN09
set_option linter.unusedVariables false
set_option linter.unusedSimpArgs false
set_option maxHeartbeats 64000000
set_option maxRecDepth 100000
namespace Go.Proofs.YtkfgbhlpjkkgfaaGreatDoor
open Go.Shelf Go.RowKit Go.Lib Go.IntWalk
def kp (t:Tm):Bool:=decide (t.1≠0)
theorem nought_any (x:Tm) (w:World):Calls Tryz.prog 132 #[.agg #[.int .i64 x.1,.string x.2]] w fun e w'=>e=.returned (.bool (!kp x))∧Below w.heap.size w w':=by
 have e:(!kp x)=(x.1==0):=by unfold kp;by_cases h:x.1=0<;>simp [h]
 rw [e];go_enter Tryz.func132,Tryz.ntmps132;go_wp2;go_ret;exact ⟨rfl,(Below.refl _ w).alloc nR _⟩
theorem nought_below (w:World):PredBelow Tryz.prog 132 #[] (fun x=>.agg (encT x).toArray) (fun x => !kp x) w:=fun W x hb =>
 (nought_any x W).mono fun _ _ ⟨he,hb'⟩=>⟨he,hb.trans (hb'.mono hb.size)⟩
theorem first_nought:∀ l:List Tm,(∀ t ∈ l,kp t=true)∨∃ i,∃ h:i<l.length,kp l[i]=false∧∀ j (hj:j<i),kp (l[j]'(by omega))=true
 | []=>.inl fun t h=>by simp at h
 | t :: l=>by
  cases ht:kp t with
  | false=>exact .inr ⟨0,by simp,ht,fun j hj=>absurd hj (Nat.not_lt_zero _)⟩
  | true=>
   rcases first_nought l with h | ⟨i,hi,h1,h2⟩
   ·refine .inl fun u hu=>?_
    rcases List.mem_cons.1 hu with rfl | hu
    ·exact ht
    ·exact h u hu
   ·refine .inr ⟨i+1,by simpa using hi,h1,fun j hj=>?_⟩
    cases j with
    | zero=>exact ht
    | succ j=>exact h2 j (by omega)
structure KI (l:List Tm) (j i:Nat) (cur:List Tm):Prop where
 len:cur.length=l.length
 lt:i<j
 le:j≤l.length
 kept:cur.take i=(l.take j).filter kp
 rest:∀ q,j≤q→cur[q]?=l[q]?
theorem KI.start {l:List Tm} {i:Nat} (h:i<l.length) (h1:kp l[i]=false) (h2:∀ j (hj:j<i),kp (l[j]'(by omega))=true):KI l (i+1) i l:=by
 refine ⟨rfl,by omega,by omega,?_,fun _ _=>rfl⟩;rw [List.take_succ_eq_append_getElem h,List.filter_append];simp only [List.filter_cons,h1,Bool.false_eq_true,if_false,List.filter_nil,List.append_nil]
 symm
 rw [List.filter_eq_self];intro t ht;obtain ⟨j,hj,rfl⟩:=List.mem_iff_getElem.1 ht;simp at hj;rw [List.getElem_take];exact h2 j (by omega)
theorem KI.keep {l cur:List Tm} {j i:Nat} (h:KI l j i cur) (hj:j<l.length) (hk:kp l[j]=true):KI l (j+1) (i+1) (cur.set i l[j]):=by
 have hi:i<cur.length:=(by rw [h.len];have:=h.lt;omega);refine ⟨by simp [h.len],by have:=h.lt;omega,by omega,?_,fun q hq=>?_⟩
 ·have hl2:i<(cur.set i l[j]).length:=by simpa using hi
  rw [List.take_succ_eq_append_getElem hl2,List.take_succ_eq_append_getElem hj,List.filter_append,List.getElem_set_self,List.take_set_of_le nR,h.kept];simp [hk]
 ·rw [List.getElem?_set_ne (by have:=h.lt;omega)]
  exact h.rest q (by omega)
theorem KI.skip {l cur:List Tm} {j i:Nat} (h:KI l j i cur) (hj:j<l.length) (hk:kp l[j]=false):KI l (j+1) i cur:=by
 refine ⟨h.len,by have:=h.lt;omega,by omega,?_,fun q hq=>h.rest q (by omega)⟩;rw [List.take_succ_eq_append_getElem hj,List.filter_append,h.kept];simp [hk]
theorem zero_cells (m:Nat):∀ u ∈ (Builtin.zeroCells kTerm.zero.cells m).toList,u.oneCell'=true:=by
 intro u hu;unfold Builtin.zeroCells at hu;simp at hu;obtain ⟨a,_,rfl⟩:=hu;have hs:kTerm.zero.cells=#[.int .i64 0,.string ⟨#[]⟩]:=rfl;rw [hs];rcases (by omega:a % 2=0∨a % 2=1) with e | e
 ·simp [e];rfl
 ·simp [e];rfl
theorem zero_cells_len (m:Nat):(Builtin.zeroCells kTerm.zero.cells m).toList.length=m*2:=by
 unfold Builtin.zeroCells;have hs:kTerm.zero.cells=#[.int .i64 0,.string ⟨#[]⟩]:=rfl;rw [hs];simp
theorem run_clearT {w:World} {g c i m:Nat} {ty:TypeId} {cur:List Tm} {sp:List Value} (h:Blk w g cur sp) (hm:i+(m+1)=cur.length) :
  ∃ w',(Builtin.clear_ #[33] ty #[.slice (some ⟨g,i*2,none⟩) (m+1) c]).run Tryz.prog w=.ok (.tuple #[]) w'∧Aside [g] w.heap.size w w'∧Blk w' g (cur.take i) ((Builtin.zeroCells kTerm.zero.cells (m+1)).toList++sp):=by
 have hzl:=zero_cells_len (m+1);have hz1:=zero_cells (m+1);have hv:∀ w,(zeroValue 83).run Tryz.prog w=.ok kTerm.zero w:=Tryz.zeroValue83;have hst:=run_storeCells_at (P:=Tryz.prog) g (i*2) 83 (Builtin.zeroCells kTerm.zero.cells (m+1)).toList 0 _ w h (by simp [tcs_len,hzl];omega) hz1;generalize hZ:(Builtin.zeroCells kTerm.zero.cells (m+1)).toList=Z at *;obtain ⟨R,hR⟩:=nmQ ((List.take (i*2+0) (tcs cur++sp).toArray.toList++Z++List.drop (i*2+0+Z.length) (tcs cur++sp).toArray.toList).toArray);rw [←hR] at hst;refine ⟨w.setRow g R,by simp [Builtin.clear_,run_underlying Tryz.underlying33,hv,hZ,hst],⟨rfl,rfl,rfl,by simp,fun k hk hn=>setRow_other w g k R (by simpa using hn)⟩,?_⟩;unfold Blk;rw [setRow_heap _ _ _ _ _ _ h,hR]
 congr 3
 rw [List.toList_toArray,Nat.add_zero,hzl];have hc:cur.take i++cur.drop i=cur:=List.take_append_drop _ _;have e1:tcs cur=tcs (cur.take i)++tcs (cur.drop i):=(by rw [←tcs_append,hc]);have l1:(tcs (cur.take i)).length=i*2:=(by rw [tcs_len,List.length_take];congr 1;omega);have l2:(tcs (cur.drop i)).length=(m+1)*2:=(by rw [tcs_len,List.length_drop];congr 1;omega);have take1:List.take (i*2) (tcs (cur.take i)++tcs (cur.drop i)++sp)=tcs (cur.take i):=(by rw [List.append_assoc,List.take_left' l1]);have drop1:List.drop (i*2+(m+1)*2) (tcs (cur.take i)++tcs (cur.drop i)++sp)=sp:=List.drop_left' (by rw [List.length_append,l1,l2]);rw [e1,take1,drop1,List.append_assoc]
theorem delete_any {B:Nat} {w:World} {v:Value} {l:List Tm} (hown:OwnL kTerm B w v l) (hlen:l.length≤1000) :
  Calls Tryz.prog 131 #[v,.func (.func 132) #[] #[]] w fun e w'=>∃ v',e=.returned v'∧OwnL kTerm B w' v' (l.filter kp)∧Below B w w':=by
 have eg:∀ args w,(callFunc 132 args).run Tryz.prog w=.ok (.enter 132 args) w:=enters_of Tryz.func132 (by kernel_rfl) rfl;rcases own_blk hown with ⟨rfl,rfl⟩ | ⟨g,c,sp,rfl,hB,hb,hc,hm,hs⟩
 ·have hidx:Calls Tryz.prog 125 #[.slice none 0 0,.func (.func 132) #[] #[]] w fun e w'=>e=.returned (.int .i64 (-1))∧w'=w:=by
   go_enter Tryz.func125,Tryz.ntmps125;go_wp2;go_loopg [5,8] 0 (fun g _ s8 wr=>s8=.int .i64 0∧wr=w)
   case atStart=>exact ⟨rfl,rfl⟩
   case round=>
    obtain ⟨rfl,rfl⟩:=hrel;go_wp2;go_ret;exact ⟨rfl,rfl⟩
  go_enter Tryz.func131,Tryz.ntmps131
  go_wp2_with (go_at_call 125;refine hidx.mono ?_;rintro e w' ⟨rfl,rfl⟩)
  go_ret;exact ⟨_,rfl,OwnL.nil,Below.refl _ _⟩
 ·have hgl:=hb.lt
  have hidx:=AnyQ.slices_IndexFunc lay28 2 Tryz.isAgg83 Tryz.sizeOf83 encT (fun _=>rfl) (fun x => !kp x) 132 #[] eg g 0 l.length c l w (nought_below w) nR (by omega) hgl (fun j hj i v hi=>by
   obtain ⟨t0,t1⟩:=hb.cell hj;rw [getElem!_pos l j hj] at hi;rw [Nat.zero_add]
   match i,hi with
   | 0,hi=>simp [encT] at hi;rw [←hi];exact t0
   | 1,hi=>simp [encT] at hi;rw [←hi];exact t1
   | i+2,hi=>simp [encT] at hi)
  change Calls Tryz.prog 125 _ _ _ at hidx
  rcases first_nought l with h | ⟨i0,hi0,h1,h2⟩
  ·rw [show Lib.idxBy (fun _ y => !kp y) (List.take l.length l) default = -1 from Lib.idxBy_miss (fun _ y => !kp y) l l.length default (fun j hj=>by show (!kp l[j]!)=false;rw [getElem!_pos l j hj,h _ (List.getElem_mem hj)];rfl)] at hidx
   have HB:=hide hb;clear hb hown;go_enter Tryz.func131,Tryz.ntmps131
   go_wp2_with (go_at_call 125;refine hidx.mono ?_;rintro e w2 ⟨rfl,b2⟩)
   go_ret;rw [List.filter_eq_self.2 h];exact ⟨_,rfl,blk_own (HB.out.below b2 hgl) hB hc hm hs,b2.mono (by omega)⟩
  ·rw [show Lib.idxBy (fun _ y => !kp y) (List.take l.length l) default=(i0:Int) from Lib.idxBy_hit (fun _ y => !kp y) l l.length i0 default hi0 nR (by show (!kp l[i0]!)=true;rw [getElem!_pos l i0 hi0,h1];rfl) (fun j hj=>by show (!kp l[j]!)=false;rw [getElem!_pos l j (by omega),h2 j hj];rfl)] at hidx
   have hne1:((i0:Int) == -1)=false:=beq_eq_false_iff_ne.2 (by omega);have HK:=hide (KI.start hi0 h1 h2);clear h1 h2 hown eg;unfold maxLen at hm;have HB:=hide hb;clear hb;go_enter Tryz.func131,Tryz.ntmps131
   go_wp2_with (go_at_call 125;refine hidx.mono ?_;rintro e w2 ⟨rfl,b2⟩)
   have HB2:=hide (HB.out.below b2 hgl);clear HB;have y2:=b2.size;go_loopg [5,6,7] l.length (fun gh s5 s6 _ wr=>∃ (i j:Nat) (cur:List Tm),s5=.int .i64 (i:Int)∧s6=.int .i64 (j:Int)∧j≤l.length∧l.length≤gh+j∧i<j∧cur.length=l.length∧Hid (KI l j i cur)∧Hid (Blk wr g cur sp)∧Aside [g] w.heap.size w wr)
   case atStart=>exact ⟨i0,i0+1,l,rfl,by go_num,by omega,by omega,by omega,rfl,HK,HB2,aside b2⟩
   case round=>
    obtain ⟨i,j,cur,rfl,rfl,hjl,hgj,hij,hcl,HI,HBr,hA⟩:=hrel;have hgr:=HBr.out.lt;by_cases hlt:j<l.length
    case pos=>
     have hltI:(j:Int)<(l.length:Int):=(by omega);have hiI:(i:Int)<(l.length:Int):=(by omega);obtain ⟨c0,c1⟩:=HBr.out.cell (i:=j) (by omega);have hcj:cur[j]'(by omega)=l[j]:=by
      have:=HI.out.rest j nR;rw [List.getElem?_eq_getElem (by omega),List.getElem?_eq_getElem hlt] at this;exact Option.some.inj this
     rw [hcj] at c0 c1;have HKP:=hide (HI.out.keep hlt);have HSK:=hide (HI.out.skip hlt);generalize l[j]=t at c0 c1 HKP HSK;clear hcj;go_upto_region 8 with fail;obtain ⟨wA,hwA⟩:=nmQ (wr.alloc (.cells #[.int .i64 t.1,.string t.2] 83 (0,0)));have bA:=newB hwA;have KA:=newK hwA;rw [←hwA];clear hwA c0 c1;have d0:=co KA 0;have d1:=co KA 1;simp at d0 d1;have hcall:=nought_any t wA
     cases hk:kp t with
     | true=>
      rw [hk] at hcall;go_wp2_with fail;refine hcall.mono ?_;rintro e w5 ⟨rfl,b5⟩;have K5:=(b5.block _ (lt_of KA)).trans KA;have B5:=(HBr.out.below bA hgr).below b5 (Nat.lt_of_lt_of_le hgr bA.size);have HB5:=hide B5;obtain ⟨f0,f1⟩:=B5.cell (i:=i) (by omega);have ff:=fun o=>B5.free o;generalize hcu:cur[i]'(by omega)=u at f0 f1;clear hcu B5;clear d0 d1;have d0:=co K5 0;have d1:=co K5 1;simp at d0 d1;have A5:=hA.trans (aside (S:=[g]) (bA.trans (b5.mono bA.size))) hA.size;clear hcall bA b5 KA K5 hidx b2;go_wp2_with fail;go_roundg (gk-1)
      case measure=>omega
      case rel=>exact ⟨i+1,j+1,cur.set i t,by go_num,by go_num,by omega,by omega,by omega,by simp [hcl],hide (HKP.out hk),hide (HB5.out.put (by omega) t),(A5.trans (Aside.setCell (B:=w5.heap.size) (p:=⟨g,i*2,none⟩) (by simp) _) A5.size).trans (Aside.setCell (B:=w5.heap.size) (p:=⟨g,i*2+1,none⟩) (by simp) _) A5.size⟩
     | false=>
      rw [hk] at hcall
      go_wp2_with (go_at_call 132;refine hcall.mono ?_;rintro e w5 ⟨rfl,b5⟩)
      go_roundg (gk-1)
      case measure=>omega
      case rel=>exact ⟨i,j+1,cur,rfl,by go_num,by omega,by omega,by omega,hcl,hide (HSK.out hk),hide ((HBr.out.below bA hgr).below b5 (Nat.lt_of_lt_of_le hgr bA.size)),(hA.trans (aside (bA.trans (b5.mono bA.size))) hA.size)⟩
    case neg=>
     have hje:j=l.length:=(by omega);subst hje;have hge:¬(l.length:Int)<(l.length:Int):=(by omega);obtain ⟨m,hm2⟩:∃ m,i+(m+1)=l.length:=⟨l.length-i-1,by omega⟩;have hm3:l.length-i=m+1:=(by omega);have hkp:=HI.out.kept;rw [List.take_length] at hkp;obtain ⟨w6,hrun,A6,B6⟩:=run_clearT (ty:=0) (c:=c-i) (i:=i) (m:=m) HBr.out (by omega);have HKP:=hide hkp;have HB6:=hide B6;clear hkp hidx b2 hjl hgj HI B6;go_wp2;go_ret;have hil:(cur.take i).length=i:=(by rw [List.length_take];omega);have hb6:=blk_own (B:=B) (c:=c) HB6.out hB (by omega) (by unfold maxLen;omega) (by rw [List.length_append,zero_cells_len,hil];omega);rw [hil,HKP.out] at hb6;exact ⟨_,rfl,hb6,((hA.trans A6 hA.size).mono (by omega:B≤w.heap.size)).below (by simp;omega)⟩
end Go.Proofs.YtkfgbhlpjkkgfaaGreatDoor
namespace Go.Proofs.YtkfgbhlpjkkgfaaGreatDoor
open Go.Shelf Go.RowKit Go.Lib Go.IntWalk
structure Mst (ris:List Tm) (i:Nat) (acc:List Tm):Prop where
 mg:MG ((ris.take i).map te) (acc.map te)
 len:acc.length≤i
 fit:∀ u ∈ acc,∃ j,∃ h:j<ris.length,j<i∧u.2.data.toList=(ris[j]).2.data.toList
theorem mst_start (ris:List Tm):Mst ris 0 []:=⟨by simpa using mg_nil,by simp,fun u hu=>by simp at hu⟩
theorem take_te {ris:List Tm} {i:Nat} (h:i<ris.length):(ris.take (i+1)).map te=(ris.take i).map te++[te ris[i]]:=by
 rw [List.take_succ_eq_append_getElem h,List.map_append];rfl
theorem mst_new {ris acc:List Tm} {i:Nat} (hs:ris.Pairwise (fun x y=>cmpT x y≤0)) (h:Mst ris i acc) (hi:i<ris.length) (hl:∀ u,acc.getLast?=some u→u.2.data.toList≠(ris[i]).2.data.toList):Mst ris (i+1) (acc++[ris[i]]):=by
 refine ⟨?_,by rw [List.length_append,List.length_singleton];have:=h.len;omega,fun u hu=>?_⟩
 ·rw [take_te hi,List.map_append]
  refine mg_new h.mg fun x hx=>?_;rcases List.eq_nil_or_concat acc with rfl | ⟨a,u,rfl⟩
  ·simp at hx
  ·rw [List.concat_eq_append] at *
   obtain ⟨j,hj,hji,e⟩:=h.fit u (by simp);have hle:cmpT ris[j] ris[i]≤0:=(List.pairwise_iff_getElem.1 hs) j i hj hi hji;have hm:=h.mg;rw [List.map_append,List.map_singleton] at hm hx;exact mg_last (t:=te ris[i]) hm (by show Lib.compareBytes u.2.data.toList _≤0;rw [e];exact hle) (hl u (by simp)) x hx
 ·rcases List.mem_append.1 hu with m | m
  ·obtain ⟨j,hj,hji,e⟩:=h.fit u m
   exact ⟨j,hj,by omega,e⟩
  ·simp at m
   subst m;exact ⟨i,hi,by omega,rfl⟩
theorem mst_more {ris a:List Tm} {u:Tm} {i:Nat} (h:Mst ris i (a++[u])) (hi:i<ris.length) (he:u.2.data.toList=(ris[i]).2.data.toList):Mst ris (i+1) (a++[(u.1+(ris[i]).1,u.2)]):=by
 refine ⟨?_,?_,fun x hx=>?_⟩
 ·rw [take_te hi,List.map_append]
  have hm:=h.mg;rw [List.map_append,List.map_singleton] at hm;exact mg_more hm he
 ·have:=h.len
  rw [List.length_append,List.length_singleton] at *;omega
 ·rcases List.mem_append.1 hx with m | m
  ·obtain ⟨j,hj,hji,e⟩:=h.fit x (by simp [m])
   exact ⟨j,hj,by omega,e⟩
  ·simp at m
   subst m;obtain ⟨j,hj,hji,e⟩:=h.fit u (by simp);exact ⟨j,hj,by omega,e⟩
theorem mst_end {ris acc l:List Tm} (h:Mst ris ris.length acc) (hp:ris.Perm l):NF (l.map te) ((acc.filter kp).map te):=by
 have h1:=h.mg;rw [List.take_length] at h1;have h2:=mg_nf h1;rw [List.filter_map] at h2;exact h2.perm (hp.map te)
theorem mst_bound {ris acc:List Tm} {i:Nat} (h:Mst ris i acc) (hl:ris.length≤1000) (hs:∀ t ∈ ris,small t.1=true):∀ u ∈ acc,-1000000000≤u.1∧u.1≤1000000000:=by
 intro u hu;have e:=h.mg.sum u.1 u.2.data.toList (List.mem_map.2 ⟨u,hu,rfl⟩);rw [e];have h1:=sumOf_bound (l:=(ris.take i).map te) (s:=u.2.data.toList) (m:=1000000) (by omega) (fun t ht=>by
  obtain ⟨x,hx,rfl⟩:=List.mem_map.1 ht;exact small_iff.1 (hs x (List.mem_of_mem_take hx)))
 have h2:((ris.take i).map te).length≤1000:=(by simp;omega)
 constructor<;>omega
theorem sort_nil (w:World):Calls Tryz.prog 128 #[.slice none 0 0,.func (.func 129) #[] #[]] w fun e w'=>e=.returned (.tuple #[])∧w'=w:=by
 have hins:Calls Tryz.prog 203 #[.slice none 0 0,.int .i64 0,.int .i64 0,.func (.func 129) #[] #[]] w fun e w'=>e=.returned (.tuple #[])∧w'=w:=by
  go_enter Tryz.func203,Tryz.ntmps203;go_wp2;go_loopg [8] 0 (fun _ s8 wr=>s8=.int .i64 1∧wr=w)
  case atStart=>exact ⟨rfl,rfl⟩
  case round=>
   obtain ⟨rfl,rfl⟩:=hrel;go_wp2;go_end0;exact ⟨rfl,rfl⟩
 have hl:Calls Tryz.prog 176 #[.int .u64 0] w fun e w'=>e=.returned (.int .i64 0)∧w'=w:=by
  have h:=Any.bits_Len lay40 0 w (by omega) (by omega)
  change Calls Tryz.prog 176 _ _ _ at h
  exact h
 have hpdq:Calls Tryz.prog 175 #[.slice none 0 0,.int .i64 0,.int .i64 0,.int .i64 0,.func (.func 129) #[] #[]] w fun e w'=>e=.returned (.tuple #[])∧w'=w:=by
  go_enter Tryz.func175,Tryz.ntmps175;go_wp2_with fail;go_loopg [1,2] 0 (fun _ s1 s2 wr=>s1=.int .i64 0∧s2=.int .i64 0∧wr=w)
  case atStart=>exact ⟨rfl,rfl,rfl⟩
  case round=>
   obtain ⟨rfl,rfl,rfl⟩:=hrel
   go_wp2_with (go_at_call 203;refine hins.mono ?_;rintro e w' ⟨rfl,rfl⟩)
   exact bodyPost_ret (v:=.tuple #[]) (by simp [results,Tryz.results175,go_sem]) rfl ⟨rfl,rfl⟩
 go_enter Tryz.func128,Tryz.ntmps128
 go_wp2_with (first | (go_at_call 176;refine hl.mono ?_;rintro e w' ⟨rfl,rfl⟩) | (go_at_call 175;refine hpdq.mono ?_;rintro e w' ⟨rfl,rfl⟩))
 go_end0;exact ⟨rfl,rfl⟩
def lastIs (acc:List Tm) (t:Tm):Bool:=match acc.getLast? with
 | none=>false
 | some u=>u.2.toList==t.2.toList
theorem lastIs_more {a:List Tm} {u t:Tm}:lastIs (a++[u]) t=(u.2.toList==t.2.toList):=by simp [lastIs]
theorem lastIs_false {acc:List Tm} {t:Tm} (h:lastIs acc t=false):∀ u,acc.getLast?=some u→u.2.data.toList≠t.2.data.toList:=by
 intro u hu e;unfold lastIs at h;rw [hu] at h;simp only at h;rw [seq_iff.2 e] at h
 cases h
theorem lastIs_true {acc:List Tm} {t:Tm} (h:lastIs acc t=true):∃ a u,acc=a++[u]∧u.2.data.toList=t.2.data.toList:=by
 rcases List.eq_nil_or_concat acc with rfl | ⟨a,u,rfl⟩
 ·cases h
 ·rw [List.concat_eq_append,lastIs_more] at h
  exact ⟨a,u,by rw [List.concat_eq_append],seq_iff.1 h⟩
theorem sums_any {ok:Nat→Prop} {w:World} {v:Value} {l:List Tm} (hl:HTerms ok w v l) (hlen:l.length≤1000) (hsm:∀ t ∈ l,small t.1=true) :
  Calls Tryz.prog 93 #[v] w fun e w'=>∃ u r,e=.returned u∧OwnL kTerm w.heap.size w' u r∧NF (l.map te) (r.map te)∧Below w.heap.size w w':=by
 have hclone:=sclone_any hl hlen;obtain ⟨ao,cap,rfl,hc1,hc2,hat⟩:=hl.at;clear hat hl;go_enter Tryz.func93,Tryz.ntmps93;go_wp2_with fail;refine hclone.mono ?_;rintro e w1 ⟨v1,rfl,own1,b1⟩;clear hclone;have y1:=b1.size;rcases own_blk own1 with ⟨rfl,rfl⟩ | ⟨g,c,sp,rfl,hB,hb,hc,hm,hs⟩
 ·clear own1
  go_wp2_with fail;refine (sort_nil _).mono ?_;rintro e w2 ⟨rfl,rfl⟩;go_wp2_with fail;go_loopg [4,14] 0 (fun _ s4 s14 wr=>s4=.slice none 0 0∧s14=.int .i64 0∧wr=w2)
  case atStart=>exact ⟨rfl,rfl,rfl⟩
  case round=>
   obtain ⟨rfl,rfl,rfl⟩:=hrel;go_wp2_with fail;refine (delete_any (B:=w.heap.size) (OwnL.nil (T:=kTerm)) (by simp)).mono ?_;rintro e w3 ⟨v3,rfl,own3,b3⟩;go_wp2;go_ret;exact ⟨_,[],rfl,own3,⟨List.Pairwise.nil,fun n s=>by simp [sumOf]⟩,b1.trans b3⟩
 ·have hsort:=sort_any (cap:=c) hb hlen
  have hg1:=hb.lt;clear own1 hb;go_wp2_with fail;refine hsort.mono ?_;rintro e w2 ⟨rfl,r,hp,hs2,hb2,a2⟩;clear hsort;have A2:Below w.heap.size w w2:=(((aside (S:=[g]) b1).trans a2 y1)).below (by simp;omega);have y2:=A2.size;have hrl:r.length=l.length:=hp.length_eq;have HP:=hide hp;have HS:=hide hs2;have hsr:=hide (fun t (ht:t ∈ r)=>hsm t (hp.mem_iff.1 ht));have HB2:=hide hb2;have hg2:=hb2.lt;clear hb2 a2 hp hs2 hsm b1 y1 hg1;clear hs;have hr1000:r.length≤1000:=(by omega);rw [←hrl];clear hrl;go_wp2_with fail;go_loopg [4,6,7,14] r.length (fun gh s4 _ _ s14 wr=>∃ (i:Nat) (acc:List Tm),s14=.int .i64 (i:Int)∧i≤r.length∧r.length≤gh+i∧acc.length≤i∧Hid (OwnL kTerm w2.heap.size wr s4 acc)∧Hid (Mst r i acc)∧Below w2.heap.size w2 wr)
  case atStart=>exact ⟨0,[],rfl,by omega,by omega,by simp,OwnL.nil,mst_start r,Below.refl _ _⟩
  case round=>
   obtain ⟨i,acc,rfl,hir,hgh,hal,HO,HM,bR⟩:=hrel;by_cases hlt:i<r.length
   case neg=>
    have hie:i=r.length:=(by omega);subst hie;have hge:¬(r.length:Int)<(r.length:Int):=(by omega);go_wp2_with fail;refine (delete_any HO.out (by omega)).mono ?_;rintro e w3 ⟨v3,rfl,own3,b3⟩;go_wp2;go_ret;exact ⟨_,_,rfl,own3.lower y2,mst_end HM.out HP.out,A2.trans ((bR.trans b3).mono y2)⟩
   case pos=>
    have hltI:(i:Int)<(r.length:Int):=(by omega);obtain ⟨c0,c1⟩:=(HB2.out.below bR hg2).cell hlt;have hgr:g<wr.heap.size:=Nat.lt_of_lt_of_le hg2 bR.size;have hsi:=small_iff.1 (hsr.out r[i] (List.getElem_mem hlt));have HN1:=hide (mst_new HS.out HM.out hlt);have HN2:=hide (fun a u (e:acc=a++[u])=>mst_more (ris:=r) (a:=a) (u:=u) (e ▸ HM.out) hlt);have HBD:=hide (mst_bound HM.out (by omega) hsr.out);generalize r[i]=t at c0 c1 hsi HN1 HN2;go_upto_region 7 with fail;obtain ⟨wA,hwA⟩:=nmQ (wr.alloc (.cells #[.int .i64 t.1,.string t.2] 83 (0,0)));have bA:=newB hwA;have KA:=newK hwA;rw [←hwA];clear hwA c0 c1;have d0:=co KA 0;have d1:=co KA 1;simp at d0 d1;have bA2:=bR.trans (bA.mono bR.size);have yA:=lt_of KA;have ownA:=HO.out.below bA;clear bA KA HO;obtain ⟨a4,c4,rfl,h41,h42⟩:=ownA.form;go_upto_region 8 with fail;obtain ⟨n,hn⟩:=nmQ (acc.length);rw [←hn] at h41 ownA hal ⊢;obtain ⟨la,hla⟩:∃ la:Int,la=(n:Int)-1:=⟨_,rfl⟩;rw [←hla];have HNN:=hide hn;have HLA:=hide hla;have HOA:=hide ownA;clear hn hla ownA;go_cut [32] (fun v32 wd=>v32=.bool (lastIs acc t)∧Below wA.heap.size wA wd)
    case first=>
     rcases List.eq_nil_or_concat acc with rfl | ⟨a,u,rfl⟩
     ·have e1:=HNN.out
      rw [List.length_nil] at e1;subst e1;have e2:=HLA.out;simp at e2;subst e2;clear h41 h42 hal;go_quiet (fail);go_wp2_with fail;go_meet
      case rel=>exact ⟨rfl,drewN_below (Below.refl _ _) _⟩
     ·have e1:=HNN.out
      rw [List.concat_eq_append] at *;rw [List.length_append,List.length_singleton] at e1;subst e1;have e2:=HLA.out;rw [show ((a.length+1:Nat):Int)-1=(a.length:Int) by omega] at e2;subst e2;rcases own_blk HOA.out with ⟨e1,e2⟩ | ⟨gs,cs,ss,ev,hBs,hbs,hcs,hms,hss⟩
      ·simp at e2
      ·injection ev with ev1 ev2 ev3
       subst ev1;obtain ⟨s0,s1⟩:=hbs.cell (i:=a.length) (by simp);have eu:(a++[u])[a.length]'(by simp)=u:=(by simp);rw [eu] at s0 s1;clear eu hbs s0 ev2 ev3 hss hcs hms hal h41 h42;have hai:(a.length:Int)<((a.length+1:Nat):Int):=(by omega);have ha0:(0:Int)≤(a.length:Int):=(by omega);have HLI:=hide (lastIs_more (a:=a) (u:=u) (t:=t))
       cases hEq:(u.2.toList==t.2.toList) with
       | true=>
        go_quiet (fail);go_wp2_with fail;go_meet
        case rel=>exact ⟨by rw [HLI.out,hEq],drewN_below (Below.refl _ _) _⟩
       | false=>
        go_quiet (fail);go_wp2_with fail;go_meet
        case rel=>exact ⟨by rw [HLI.out,hEq],drewN_below (Below.refl _ _) _⟩
    case rest=>
     obtain ⟨rfl,bB⟩:=hcut;have e0:=(bB.cell (p:=⟨wr.heap.size,0,none⟩) yA).trans d0;have e1:=(bB.cell (p:=⟨wr.heap.size,1,none⟩) yA).trans d1;have bB2:=bA2.trans (bB.mono bA2.size);have yB:wr.heap.size<wc.heap.size:=Nat.lt_of_lt_of_le yA bB.size;have yB2:=bB2.size;have ownB:=HOA.out.below bB;clear d0 d1 bB bA2 HOA yA
     cases hli:lastIs acc t with
     | false=>
      have HM2:=hide (HN1.out (lastIs_false hli));have hNb:=fun k hk=>(ownB.lt k hk).2;have q1:kTerm.E (fun i=>wc.heap.size≤i) wc [.int .i64 t.1,.string t.2] t:=rfl;have hnn:=HNN.out;have q2:(acc.length+1)*kTerm.bytes≤140737488355328:=(by show (acc.length+1)*24≤_;omega);have q3:acc.length+1≤maxLen:=(by unfold maxLen;omega);have hl2:=hide (show (acc++[t]).length≤i+1 by rw [List.length_append,List.length_singleton];omega);clear hnn
      go_wp2_with (at_builtin;refine wpList_more kTerm rfl _ _ 33 83 rfl Tryz.underlying33 w2.heap.size wc.heap.size _ acc (by rfl) ownB [.int .i64 t.1,.string t.2] t q1 (by rfl) hNb yB2 yB2 q2 q3 ?_;intro v8 w8 own8 b8 _ _)
      go_wp2_with fail;go_roundg (gk-1)
      case measure=>omega
      case rel=>exact ⟨i+1,acc++[t],by go_num,by omega,by omega,hl2.out,hide own8,HM2,bB2.trans b8⟩
     | true=>
      obtain ⟨a,u,rfl,hau⟩:=lastIs_true hli;have HM2:=hide (HN2.out a u rfl hau);have hbu:=HBD.out u (by simp);have q1:=HNN.out;rw [List.length_append,List.length_singleton] at q1;subst q1;have q2:=HLA.out;rw [show ((a.length+1:Nat):Int)-1=(a.length:Int) by omega] at q2;subst q2;rcases own_blk ownB with ⟨z1,z2⟩ | ⟨gs,cs,ss,ev,hBs,hbs,hcs,hms,hss⟩
      ·simp at z2
      ·injection ev with ev1 ev2 ev3
       subst ev1;subst ev3;obtain ⟨s0,s1⟩:=hbs.cell (i:=a.length) (by simp);have eu:(a++[u])[a.length]'(by simp)=u:=(by simp);rw [eu] at s0 s1;have ff:=fun o=>hbs.free o;have hset:=fun n=>hbs.setN (i:=a.length) (by simp) n;rw [eu] at hset;have hst:∀ n,(a++[u]).set a.length (n,u.2)=a++[(n,u.2)]:=fun n=>by simp
       have HSET:=hide (fun n=>(hst n) ▸ hset n);have Hms:=hide hms;have Hcs:=hide hcs;have Hss:=hide hss;have hl2:=hide (show (a++[(u.1+t.1,u.2)]).length≤i+1 by rw [List.length_append,List.length_singleton];omega);clear hset hst eu ev2 hss hcs hms hbs s1 hal h41 h42 ownB hau hli;have hai:(a.length:Int)<((a.length+1:Nat):Int):=(by omega);go_upto_region 9 with fail
       go_region
       go_wp2_with fail;go_roundg (gk-1)
       case measure=>omega
       case rel=>
        have hbn:=HSET.out (u.1+t.1);have own8:OwnL kTerm w2.heap.size (wc.setCell ⟨gs,a.length*2,none⟩ (.int .i64 (u.1+t.1))).drew (.slice (some ⟨gs,0,none⟩) (a++[(u.1+t.1,u.2)]).length c4) (a++[(u.1+t.1,u.2)]):=
         blk_own (sp:=ss) hbn hBs (by have:=Hcs.out;rw [List.length_append,List.length_singleton] at *;exact this) Hms.out (by have:=Hss.out;rw [List.length_append,List.length_singleton] at *;exact this)
        rw [List.length_append,List.length_singleton] at own8;exact ⟨i+1,a++[(u.1+t.1,u.2)],by go_num,by omega,by omega,hl2.out,hide own8,HM2,(bB2.setCell (p:=⟨gs,a.length*2,none⟩) hBs _).drew⟩
theorem norm_any {ok:Nat→Prop} {w:World} {v:Value} {l:List Tm} (hl:HTerms ok w v l) :
  Calls Tryz.prog 62 #[v] w fun e w'=>∃ u c a,e=.returned (.tuple #[u,.agg #[.int .i64 c,.int .i64 a]])∧NormP w.heap.size w' l u c a∧Below w.heap.size w w':=by
 obtain ⟨w1,hw1⟩:=nmQ (w.alloc (.cells #[.int .i64 0,.int .i64 0] 29 (0,0)));have b1:=newB hw1;have K_w1:=newK hw1;have hl1:=hl.keep (w':=w1) b1.size (fun i _ hl=>b1.block i hl);have hf:=faultOf_any hl1;obtain ⟨ao,cap,rfl,hc1,hc2,hat⟩:=hl.at;clear hat hl;go_enter Tryz.func62,Tryz.ntmps62;go_upto_region 1 with fail;rw [←hw1];clear hw1;go_wp2_with fail;refine hf.mono ?_;rintro e w2 ⟨c,a,rfl,hfp,b2⟩;clear hf;have K2:=(b2.block _ (lt_of K_w1)).trans K_w1;have y1:=b1.size;have B2:=b1.trans (b2.mono y1);have hl2:=hl1.keep (w':=w2) b2.size (fun i _ hl=>b2.block i hl);clear hl1 b1 K_w1 b2 y1;go_upto_region 2 with fail;obtain ⟨w3,hw3⟩:=nmQ (w2.alloc (.cells #[.int .i64 c,.int .i64 a] 29 (0,0)));have b3:=newB hw3;have K_w3:=newK hw3;rw [←hw3];clear hw3;have K3:=(b3.block _ (lt_of K2)).trans K2;have y2:=B2.size;have B3:=B2.trans (b3.mono y2);have hl3:=hl2.keep (w':=w3) b3.size (fun i _ hl=>b3.block i hl);have yk:=lt_of K2;clear hl2 b3 K2 B2;have d0:=co K_w3 0;have d1:=co K_w3 1;simp at d0 d1;have k0:=co K3 0;have k1:=co K3 1;have fk:=fun o=>fo K3 o;simp at k0 k1;by_cases hc0:c=0
 ·have hall:l.length≤1000∧(∀ t ∈ l,small t.1=true)∧a=0:=by
   rcases hfp with ⟨_,e,_⟩ | ⟨_,_,_,_,_,e,_⟩ | ⟨h1,h2,_,h4⟩
   ·omega
   ·omega
   ·exact ⟨h1,h2,h4⟩
  obtain ⟨hl1000,hsm,ha0⟩:=hall;subst hc0;subst ha0;clear hfp;have hs:=sums_any hl3 hl1000 hsm;have HSM:=hide hsm;clear hsm hl3;go_wp2_with fail;refine hs.mono ?_;rintro e w4 ⟨u,r,rfl,own4,hnf,b4⟩;have K4:=(b4.block _ (lt_of K3)).trans K3;have y3:=B3.size;have B4:=B3.trans (b4.mono y3);have HNF:=hide hnf;clear hs hnf k0 k1 fk d0 d1 K_w3;have k0:=co K4 0;have k1:=co K4 1;have fk:=fun o=>fo K4 o;simp at k0 k1;have hww:w.heap.size<w3.heap.size:=lt_of K3;go_wp2;have own5:OwnL kTerm w.heap.size ((w4.setCell ⟨w.heap.size,0,none⟩ (.int .i64 0)).setCell ⟨w.heap.size,1,none⟩ (.int .i64 0)) u r:=((own4.set (p:=⟨w.heap.size,0,none⟩) hww _).set (p:=⟨w.heap.size,1,none⟩) hww _).lower (by omega);exact bodyPost_ret (v:=.tuple #[u,.agg #[.int .i64 0,.int .i64 0]]) (by simp [results,Tryz.results62,go_sem,k0,k1]) rfl ⟨_,_,_,rfl,.inr (.inr ⟨hl1000,HSM.out,rfl,rfl,r,own5,HNF.out⟩),(B4.setCell (p:=⟨w.heap.size,0,none⟩) nR _).setCell (p:=⟨w.heap.size,1,none⟩) nR _⟩
 ·have hne:(c != 0)=true:=by simpa using hc0
  have HFP:=hide hfp;clear hfp hl3;go_wp2_with fail
  go_region
  go_wp2;have hNP:∀ W,NormP w.heap.size W l (.slice none 0 0) c a:=fun W=>by
   rcases HFP.out with ⟨h1,h2,h3⟩ | ⟨h1,i,h,h2,h3,h4,h5⟩ | ⟨_,_,h,_⟩
   ·exact .inl ⟨h1,rfl,h2,h3⟩
   ·exact .inr (.inl ⟨h1,i,h,h2,h3,rfl,h4,h5⟩)
   ·exact absurd h hc0
  exact bodyPost_ret (v:=.tuple #[.slice none 0 0,.agg #[.int .i64 c,.int .i64 a]]) (by simp [results,Tryz.results62,go_sem,k0,k1]) rfl ⟨_,_,_,rfl,hNP _,((B3.setCell (p:=⟨w.heap.size,0,none⟩) nR _).setCell (p:=⟨w.heap.size,1,none⟩) nR _).drew⟩
end Go.Proofs.YtkfgbhlpjkkgfaaGreatDoor
