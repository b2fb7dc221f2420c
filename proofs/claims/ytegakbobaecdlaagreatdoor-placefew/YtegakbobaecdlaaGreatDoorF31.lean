import Derived.Test.YtegakbobaecdlaaGreatDoorF30
set_option linter.unusedVariables false
set_option linter.unusedSimpArgs false
set_option maxHeartbeats 64000000
set_option maxRecDepth 100000
namespace Go.Proofs.YtegakbobaecdlaaGreatDoor
open Go.RowKit Go.IntWalk
namespace Sk
theorem seq_eq (S:Sys):(List.range (S.I.length+S.R.length)).map (varAt S)=S.I++S.R.map (·.out):=by
 apply List.ext_getElem
 ·simp
 ·intro i h1 h2
  rw [List.getElem_map,List.getElem_range];have hi:i<S.I.length+S.R.length:=(by simpa using h1);rcases var_cases hi with ⟨h',e⟩ | ⟨k,hk,rfl,e⟩
  ·rw [e,List.getElem_append_left h']
  ·rw [e,List.getElem_append_right (by omega)]
   simp
theorem Inv.list {S:Sys} {l:List Sp} {st:St} (I:Inv S l (S.I.length+S.R.length) st):st.L=S.I++S.R.map (·.out):=I.L.trans (seq_eq S)
theorem Inv.sum {S:Sys} {l:List Sp} {st:St} (I:Inv S l (S.I.length+S.R.length) st):(st.L.map (ct S)).sum=(S.R.map fun r=>ct S r.out).sum+(S.I.map (ct S)).sum:=by
 rw [I.list,List.map_append,List.sum_append,List.map_map,Nat.add_comm];rfl
theorem from_at {S:Sys} (ok:Okay S) {i:Nat} (h:i<S.I.length+S.R.length):(spAt (spans S) (varAt S i)).1=(if i<S.I.length then -1 else ((i-S.I.length:Nat):Int))/\(spAt (spans S) (varAt S i)).1<=(spAt (spans S) (varAt S i)).2:=by
 have hs:=start_at ok;have hv:=varAt_in ok h;obtain ⟨f1,f2⟩:=spans_ends ok hv.1;rw [f1];have ge:=f2.ge;rcases var_cases h with ⟨h',e⟩ | ⟨k,hk,rfl,e⟩
 ·have hno:varAt S i ∉ S.R.map (·.out):=fun hm=>by
   obtain ⟨r,hr,e2⟩:=List.mem_map.1 hm;exact (ok.rules r hr).1.2 (by rw [e2,e];exact List.getElem_mem h')
  have e3:=hs.2.2 (varAt S i) hv.1 hno;rw [if_pos (by rw [e];exact List.getElem_mem h')] at e3;rw [e3] at ge ⊢;rw [if_pos h'];exact ⟨rfl,ge⟩
 ·have e3:=hs.2.1 k hk
  rw [<-e] at e3;rw [e3] at ge ⊢;rw [if_neg (by omega),Nat.add_sub_cancel_left];exact ⟨rfl,ge⟩
theorem nowhere {S:Sys} (ok:Okay S) {v:Int} (hv:0<=v) (h1:v ∉ S.I) (h2:v ∉ S.R.map (·.out)):spAt (spans S) v=(0,-1):=by
 have hs:=start_at ok;obtain ⟨f1,f2⟩:=spans_ends ok hv;have e:=hs.2.2 v hv h2;rw [if_neg h1] at e;rw [e] at f1 f2;have no:∀ t,¬Why2 S v t:=fun t ht=>by
  have made:¬(v ∈ S.I\/v ∈ S.R.map (·.out)):=fun q=>q.elim h1 h2;rcases ht with ⟨_,q | ⟨r,hr,e1,e2⟩⟩ | ⟨i,hi,_,q⟩
  ·exact made (ok.told v q)
  ·have hl:=(pre_in ok hr e1).1
   refine made (ok.used r hr v (uses_A ?_));rw [<-e2,List.getD_eq_getElem?_getD,List.getElem?_eq_getElem (by omega)];exact List.getElem_mem _
  ·have hr:S.R[i] ∈ S.R:=List.getElem_mem hi
   exact made (ok.used _ hr v (needs_uses (ok.rules _ hr).2 q fun y hy=>uses_A hy))
 have e2:(spAt (spans S) v).2 = -1:=by
  rcases f2.why with q | q
  ·exact q
  ·exact absurd q (no _)
 exact Prod.ext f1 e2
theorem Inv.laid {S:Sys} {l:List Sp} {st:St} (ok:Okay S) (I:Inv S l (S.I.length+S.R.length) st) {v:Int} (hv:0<=v/\v<S.V.length) (ha:0<=aAt st.A v):∃ i,i<S.I.length+S.R.length/\v=varAt S i:=by
 have hm:v ∈ st.L:=Classical.byContradiction fun h=>by have:=I.out v hv.1 hv.2 h;omega
 rw [I.L] at hm;obtain ⟨i,hi,e⟩:=List.mem_map.1 hm;exact ⟨i,List.mem_range.1 hi,e.symm⟩
theorem Inv.at {S:Sys} {l:List Sp} {st:St} (I:Inv S l (S.I.length+S.R.length) st) {i:Nat} (h:i<S.I.length+S.R.length):(kept S S.R.length:Int)<=aAt st.A (varAt S i)/\aAt st.A (varAt S i)+ct S (varAt S i)<=st.c:=I.inn _ (by rw [I.L];exact List.mem_map.2 ⟨i,List.mem_range.2 h,rfl⟩)
theorem Inv.none {S:Sys} {st:St} (ok:Okay S) (I:Inv S (spans S) (S.I.length+S.R.length) st) {v:Int} (hv:0<=v/\v<S.V.length) (ha:aAt st.A v<0):(spAt (spans S) v).2<(spAt (spans S) v).1:=by
 have hno:v ∉ st.L:=fun hm=>by have:=(I.inn v hm).1;omega
 rw [I.list,List.mem_append,not_or] at hno;rw [nowhere ok hv.1 hno.1 hno.2]
 decide
theorem Inv.apart_of {S:Sys} {st:St} (ok:Okay S) (I:Inv S (spans S) (S.I.length+S.R.length) st) {u v:Int} (hu:0<=u/\u<S.V.length) (hv:0<=v/\v<S.V.length) (ne:u≠v) (au:0<=aAt st.A u) (av:0<=aAt st.A v) (o1:aAt st.A u<aAt st.A v+ct S v) (o2:aAt st.A v<aAt st.A u+ct S u) (hle:(spAt (spans S) u).1<=(spAt (spans S) v).1) :
  (spAt (spans S) u).1≠(spAt (spans S) v).1/\(spAt (spans S) u).2<=(spAt (spans S) v).1/\((spAt (spans S) u).2=(spAt (spans S) v).1->aAt st.A u=aAt st.A v/\∃ k,∃ h:k<S.R.length,(spAt (spans S) v).1=(k:Int)/\over S S.R[k] u=true):=by
 obtain ⟨j,hj,rfl⟩:=I.laid ok hu au;obtain ⟨k,hk,rfl⟩:=I.laid ok hv av;have fj:=from_at ok hj;have fk:=from_at ok hk;by_cases hjk:j<k
 ·rcases I.apart j k hjk hk o1 o2 with q | ⟨q1,q2⟩
  ·exact ⟨by omega,by omega,fun e=>by omega⟩
  ·by_cases hkI:k<S.I.length
   ·rw [mayAt_I hkI] at q2;cases q2
   ·obtain ⟨m,rfl⟩:∃ m,k=S.I.length+m:=⟨k-S.I.length,by omega⟩
    have hm:m<S.R.length:=(by omega);rw [mayAt_R hm] at q2;rw [if_neg hkI,Nat.add_sub_cancel_left] at fk;simp only [Bool.and_eq_true,beq_iff_eq] at q2;have fjl:(spAt (spans S) (varAt S j)).1<(m:Int):=by
     rw [fj.1]
     split<;>omega
    exact ⟨by omega,by omega,fun e=>⟨q1,m,hm,fk.1,q2.2⟩⟩
 ·have hne:j≠k:=fun e=>ne (by rw [e])
  have hkI:k<S.I.length:=by
   refine Classical.byContradiction fun h=>?_;rw [if_neg h] at fk;rw [if_neg (by omega:¬j<S.I.length)] at fj;omega
  rw [if_pos hkI] at fk;have hjI:j<S.I.length:=by
   refine Classical.byContradiction fun h=>?_;rw [if_neg h] at fj;omega
  rw [if_pos hjI] at fj;rcases I.apart k j (by omega) hj o2 o1 with q | ⟨_,q2⟩
  ·omega
  ·rw [mayAt_I hjI] at q2;cases q2
theorem exists_max (f:Nat->Nat):∀ (xs:List Nat),xs≠[]->∃ x ∈ xs,∀ y ∈ xs,f y<=f x
 | [],h=>absurd rfl h
 | [x],_=>⟨x,by simp,fun y hy=>by simp at hy;rw [hy];exact Nat.le_refl _⟩
 | x :: z :: r,_=>by
  obtain ⟨m,hm,h⟩:=exists_max f (z :: r) (by simp);by_cases e:f m<=f x
  ·refine ⟨x,by simp,fun y hy=>?_⟩
   rcases List.mem_cons.1 hy with q | q
   ·rw [q];exact Nat.le_refl _
   ·exact Nat.le_trans (h y q) e
  ·refine ⟨m,List.mem_cons_of_mem _ hm,fun y hy=>?_⟩
   rcases List.mem_cons.1 hy with q | q
   ·rw [q];omega
   ·exact h y q
theorem fit_sum (a w:Nat->Nat) (lo:Nat):∀ (n:Nat) (xs:List Nat) (hi:Nat),xs.length=n->xs.Nodup->lo<=hi->(∀ x ∈ xs,1<=w x/\lo<=a x/\a x+w x<=hi)->(∀ x ∈ xs,∀ y ∈ xs,x≠y->a x+w x<=a y\/a y+w y<=a x)->(xs.map w).sum+lo<=hi
 | 0,xs,hi,hl,_,hh,_,_=>by
  have:xs=[]:=List.length_eq_zero_iff.1 hl;subst this
  simpa using hh
 | n+1,xs,hi,hl,hn,hh,h1,h2=>by
  obtain ⟨x,hx,hmax⟩:=exists_max a xs (by intro e;rw [e] at hl;simp at hl);have hp:=List.perm_cons_erase hx;have e:=(hp.map w).sum_nat;have hx1:=h1 x hx;have hmem:∀ y ∈ xs.erase x,y ∈ xs/\y≠x:=fun y hy=>⟨List.mem_of_mem_erase hy,fun q=>by
   have:=hn.not_mem_erase (a:=x);exact this (q ▸ hy)⟩
  have ih:=fit_sum a w lo n (xs.erase x) (a x) (by rw [List.length_erase_of_mem hx,hl];rfl) (hn.erase x) hx1.2.1 (fun y hy=>by
   obtain ⟨hy1,hy2⟩:=hmem y hy;have hq:=h1 y hy1;refine ⟨hq.1,hq.2.1,?_⟩;rcases h2 x hx y hy1 (Ne.symm hy2) with q | q
   ·have:=hmax y hy1
    omega
   ·exact q) (fun y hy z hz ne=>h2 y (hmem y hy).1 z (hmem z hz).1 ne)
  rw [e,List.map_cons,List.sum_cons];omega
theorem sum_split (f:Nat->Nat) (q:Nat->Bool):∀ (xs:List Nat),(xs.map f).sum=((xs.filter q).map f).sum+((xs.filter fun x => !q x).map f).sum
 | []=>rfl
 | x :: r=>by
  rw [List.map_cons,List.sum_cons,sum_split f q r]
  cases h:q x
  ·rw [List.filter_cons_of_neg (by simp [h]),List.filter_cons_of_pos (by simp [h]),List.map_cons,List.sum_cons]
   omega
  ·rw [List.filter_cons_of_pos (by simp [h]),List.filter_cons_of_neg (by simp [h]),List.map_cons,List.sum_cons]
   omega
theorem meets_nodup (l:List Sp) (p:Int):(meets l p).Nodup:=List.nodup_range.sublist List.filter_sublist
def meetSum (S:Sys) (l:List Sp) (p:Int):Nat:=((meets l p).map fun x:Nat=>ct S (x:Int)).sum
theorem Inv.few {S:Sys} {st:St} (ok:Okay S) (I:Inv S (spans S) (S.I.length+S.R.length) st) (p:Int) (great:Nat) (hg:∀ r ∈ S.R,ct S r.out<=great):kept S S.R.length+meetSum S (spans S) p<=st.c+great:=by
 have hlen:(spans S).length=S.V.length:=(spans_spanned ok).len;have inL:∀ x ∈ meets (spans S) p,∃ i,i<S.I.length+S.R.length/\(x:Int)=varAt S i:=fun x hx=>by
  have h:=mem_meets.1 hx;refine I.laid ok ⟨Int.natCast_nonneg x,by rw [<-hlen];omega⟩ ?_;refine Classical.byContradiction fun q=>?_;have:=I.none ok ⟨Int.natCast_nonneg x,by rw [<-hlen];omega⟩ (by omega:aAt st.A (x:Int)<0);omega
 unfold meetSum;rw [sum_split _ (fun x:Nat => !(decide ((spAt (spans S) (x:Int)).1=p)&&decide (0<=p)))];have hY:=fit_sum (fun x:Nat=>(aAt st.A (x:Int)).toNat) (fun x:Nat=>ct S (x:Int)) (kept S S.R.length) _ ((meets (spans S) p).filter fun x:Nat => !(decide ((spAt (spans S) (x:Int)).1=p)&&decide (0<=p))) st.c rfl ((meets_nodup _ _).filter _) I.cge (fun x hx=>by
  obtain ⟨i,hi,e⟩:=inL x (List.mem_filter.1 hx).1;have:=I.at hi;rw [<-e] at this;exact ⟨ct_pos _ _,by omega,by omega⟩) (fun x hx y hy ne=>by
  obtain ⟨hx1,hx2⟩:=List.mem_filter.1 hx;obtain ⟨hy1,hy2⟩:=List.mem_filter.1 hy;obtain ⟨i,hi,ei⟩:=inL x hx1;obtain ⟨k,hk,ek⟩:=inL y hy1;have mx:=(mem_meets.1 hx1).2;have my:=(mem_meets.1 hy1).2;have ax:=I.at hi;have ay:=I.at hk;rw [<-ei] at ax;rw [<-ek] at ay;simp only [Bool.not_eq_true',Bool.and_eq_false_iff,decide_eq_false_iff_not] at hx2 hy2;refine Classical.byContradiction fun h=>?_;have o1:aAt st.A (x:Int)<aAt st.A (y:Int)+ct S (y:Int):=(by omega);have o2:aAt st.A (y:Int)<aAt st.A (x:Int)+ct S (x:Int):=(by omega);have hxr:(0:Int)<=(x:Int)/\(x:Int)<S.V.length:=⟨Int.natCast_nonneg x,by rw [<-hlen];have:=(mem_meets.1 hx1).1;omega⟩;have hyr:(0:Int)<=(y:Int)/\(y:Int)<S.V.length:=⟨Int.natCast_nonneg y,by rw [<-hlen];have:=(mem_meets.1 hy1).1;omega⟩;have nei:(x:Int)≠(y:Int):=(by omega);by_cases hle:(spAt (spans S) (x:Int)).1<=(spAt (spans S) (y:Int)).1
  ·obtain ⟨c1,c2,-⟩:=I.apart_of ok hxr hyr nei (by omega) (by omega) o1 o2 hle
   have fx:=from_at ok hi;rw [<-ei] at fx;have : -1<=(spAt (spans S) (x:Int)).1:=by rw [fx.1];split<;>omega
   omega
  ·obtain ⟨c1,c2,-⟩:=I.apart_of ok hyr hxr (Ne.symm nei) (by omega) (by omega) o2 o1 (by omega)
   have fy:=from_at ok hk;rw [<-ek] at fy;have : -1<=(spAt (spans S) (y:Int)).1:=by rw [fy.1];split<;>omega
   omega)
 have hZ:(((meets (spans S) p).filter fun x:Nat => !!(decide ((spAt (spans S) (x:Int)).1=p)&&decide (0<=p))).map fun x:Nat=>ct S (x:Int)).sum<=great:=by
  have nd:((meets (spans S) p).filter fun x:Nat => !!(decide ((spAt (spans S) (x:Int)).1=p)&&decide (0<=p))).Nodup:=(meets_nodup _ _).filter _;have all:∀ x ∈ (meets (spans S) p).filter (fun x:Nat => !!(decide ((spAt (spans S) (x:Int)).1=p)&&decide (0<=p))),∃ i,∃ h:i<S.R.length,(i:Int)=p/\(x:Int)=(S.R[i]).out:=fun x hx=>by
   obtain ⟨h1,h2⟩:=List.mem_filter.1 hx;simp only [Bool.not_not,Bool.and_eq_true,decide_eq_true_eq] at h2;obtain ⟨i,hi,e⟩:=inL x h1;have fx:=from_at ok hi;rw [<-e,h2.1] at fx;rcases var_cases hi with ⟨h',e2⟩ | ⟨k,hk,rfl,e2⟩
   ·rw [if_pos h'] at fx;omega
   ·rw [if_neg (by omega),Nat.add_sub_cancel_left] at fx
    exact ⟨k,hk,fx.1.symm,e.trans e2⟩
  generalize (meets (spans S) p).filter (fun x:Nat => !!(decide ((spAt (spans S) (x:Int)).1=p)&&decide (0<=p)))=Z at nd all ⊢
  match Z,nd,all with
  | [],_,_=>simp
  | [x],_,all=>
   obtain ⟨i,hi,_,e⟩:=all x (by simp);have:=hg _ (List.getElem_mem hi);rw [<-e] at this
   simpa using this
  | x :: y :: r,nd,all=>
   obtain ⟨i,hi,e1,e2⟩:=all x (by simp);obtain ⟨k,hk,e3,e4⟩:=all y (by simp);have:i=k:=(by omega);subst this;have:x=y:=(by omega);simp [this] at nd
 omega
end Sk
end Go.Proofs.YtegakbobaecdlaaGreatDoor
namespace Go.Proofs.YtegakbobaecdlaaGreatDoor
open Go.RowKit Go.IntWalk
theorem index57_any {ok:Nat->Prop} {w:World} {v:Value} {l:List Int} (x:Int) (hl:HInts ok w v l) :
  Calls Tryz.prog 56 #[v,.int .i64 x] w fun e w'=>e=.returned (.int .i64 (Sk.idxI (fun z=>x==z) 0 l))/\Below w.heap.size w w':=by
 obtain ⟨ao,cap,rfl,hc1,hc2,-⟩:=hl.at;unfold maxLen at hc2;obtain ⟨R,hR⟩:=nmQ (Sk.idxI (fun z=>x==z) 0 l);rw [<-hR];have HR:=zG (show R=Sk.idxI (fun z=>x==z) 0 (l.drop 0) by rw [List.drop_zero];exact hR);have HL:=zG hl;clear hR hl;obtain ⟨n,hn⟩:=nmQ (l.length);rw [<-hn] at hc1 ⊢;have HN:=zG hn;clear hn;go_enter Tryz.func56,Tryz.ntmps56;go_wp2_with fail;go_loopg [8] n (fun k v wr=>∃ i,i<=n/\k=n-i/\v=.int .i64 (i:Nat)/\Hid (R=Sk.idxI (fun z=>x==z) i (l.drop i))/\Below w.heap.size w wr)
 case atStart=>exact ⟨0,Nat.zero_le _,rfl,rfl,HR,Below.refl _ _⟩
 case round=>
  clear HR;obtain ⟨i,hi,rfl,rfl,H,hbr⟩:=hrel;by_cases hlt:i<n
  case neg=>
   have hin:i=n:=(by omega);subst hin;have e1:l.drop i=[]:=List.drop_of_length_le (by have:=HN.out;omega);have HZ:=zG (show R = -1 by rw [H.out,e1];rfl);clear e1;go_wp2;go_ret;exact ⟨by rw [HZ.out];rfl,hbr⟩
  case pos=>
   have hil:i<l.length:=(by have:=HN.out;omega);have hdr:l.drop i=l[i] :: l.drop (i+1):=List.drop_eq_getElem_cons hil;have hR1:=H.out;rw [hdr] at hR1;obtain ⟨ao',cap',eqs,-,-,hat2⟩:=(HL.out.under hbr).at;injection eqs with q1 q2 q3;subst q1;obtain ⟨bb,o,rfl,hb,e0⟩:=hat2 i hil;obtain ⟨y,hy⟩:=nmQ (l[i]);rw [<-hy] at e0 hR1;unfold Sk.idxI at hR1;have HR1:=zG hR1;clear hat2 q2 q3 hy hdr hR1 H
   cases hq:(x==y)
   case false=>
    have HZ:Hid (R=Sk.idxI (fun z=>x==z) (i+1) (l.drop (i+1))):=zG (by rw [HR1.out,if_neg (show ¬(x==y)=true by rw [hq];decide)]);clear HR1;go_wp2_with fail;go_roundg (n-(i+1))
    case measure=>omega
    case rel=>exact ⟨i+1,by omega,rfl,by go_num,HZ,hbr⟩
   case true=>
    have HZ:Hid (R=(i:Int)):=zG (by rw [HR1.out,if_pos (show (x==y)=true from hq)]);clear HR1;go_wp2;go_ret;exact ⟨by rw [HZ.out];rfl,hbr⟩
theorem jZ {ok:Nat->Prop} {w:World} {v:Value} {l:List Int} (x:Int) (hl:HInts ok w v l) :
  Calls Tryz.prog 54 #[v,.int .i64 x] w fun e w'=>e=.returned (.bool (l.any (fun z=>x==z)))/\Below w.heap.size w w':=by
 have hc:=index57_any x hl;have hi:=Sk.idxI_neg (fun z=>x==z) l 0;obtain ⟨ao,cap,rfl,-⟩:=hl.at;generalize Sk.idxI (fun z=>x==z) 0 l=R at hc hi;have HI:=zG hi;clear hi hl;generalize l.any (fun z=>x==z)=q at HI ⊢;go_enter Tryz.func54,Tryz.ntmps54;go_wp2_with fail;refine hc.mono ?_;rintro e w4 ⟨rfl,b4⟩;have hq:(decide (0<=R))=q:=by
  have:=HI.out.1
  cases q<;>simp at this ⊢<;>omega
 clear hc HI;go_wp2;go_ret;exact ⟨by rw [<-hq];rfl,b4⟩
theorem zAA {ok:Nat->Prop} {w:World} {v:Value} {l:List Int} (x:Int) (hl:HInts ok w v l) :
  Calls Tryz.prog 12 #[v,.int .i64 x] w fun e w'=>e=.returned (.bool (l.any (fun z=>z==x)))/\Below w.heap.size w w':=by
 obtain ⟨ao,cap,rfl,hc1,hc2,-⟩:=hl.at;unfold maxLen at hc2;obtain ⟨R,hR⟩:=nmQ (l.any (fun z=>z==x));rw [<-hR];have HR:=zG (show R=(l.drop 0).any (fun z=>z==x) by rw [List.drop_zero];exact hR);have HL:=zG hl;clear hR hl;obtain ⟨n,hn⟩:=nmQ (l.length);rw [<-hn] at hc1 ⊢;have HN:=zG hn;clear hn;go_enter Tryz.func12,Tryz.ntmps12;go_wp2_with fail;go_loopg [5] n (fun k v wr=>∃ i,i<=n/\k=n-i/\v=.int .i64 (i:Nat)/\Hid (R=(l.drop i).any (fun z=>z==x))/\Below w.heap.size w wr)
 case atStart=>exact ⟨0,Nat.zero_le _,rfl,rfl,HR,Below.refl _ _⟩
 case round=>
  clear HR;obtain ⟨i,hi,rfl,rfl,H,hbr⟩:=hrel;by_cases hlt:i<n
  case neg=>
   have hin:i=n:=(by omega);subst hin;have e1:l.drop i=[]:=List.drop_of_length_le (by have:=HN.out;omega);have HZ:=zG (show R=false by rw [H.out,e1];rfl);clear e1;go_wp2;go_ret;exact ⟨by rw [HZ.out];rfl,hbr⟩
  case pos=>
   have hil:i<l.length:=(by have:=HN.out;omega);have hdr:l.drop i=l[i] :: l.drop (i+1):=List.drop_eq_getElem_cons hil;have hR1:=H.out;rw [hdr,List.any_cons] at hR1;obtain ⟨ao',cap',eqs,-,-,hat2⟩:=(HL.out.under hbr).at;injection eqs with q1 q2 q3;subst q1;obtain ⟨bb,o,rfl,hb,e0⟩:=hat2 i hil;obtain ⟨y,hy⟩:=nmQ (l[i]);rw [<-hy] at e0 hR1;have HR1:=zG hR1;clear hat2 q2 q3 hy hdr hR1 H
   cases hq:(y==x)
   case false=>
    have HZ:Hid (R=(l.drop (i+1)).any (fun z=>z==x)):=zG (by rw [HR1.out,hq,Bool.false_or]);clear HR1;go_wp2_with fail;go_roundg (n-(i+1))
    case measure=>omega
    case rel=>exact ⟨i+1,by omega,rfl,by go_num,HZ,hbr⟩
   case true=>
    have HZ:Hid (R=true):=zG (by rw [HR1.out,hq,Bool.true_or]);clear HR1;go_wp2;go_ret;exact ⟨by rw [HZ.out];rfl,hbr⟩
theorem vI {l:List Int} {x:Int}:(l.any (fun z=>z==x))=true↔x ∈ l:=by
 rw [List.any_eq_true]
 constructor
 ·rintro ⟨z,hz,e⟩
  have:z=x:=(by simpa using e);exact this ▸ hz
 ·intro h
  exact ⟨x,h,by simp⟩
end Go.Proofs.YtegakbobaecdlaaGreatDoor
