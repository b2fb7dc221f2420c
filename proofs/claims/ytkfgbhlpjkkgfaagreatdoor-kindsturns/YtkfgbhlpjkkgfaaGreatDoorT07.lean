import Derived.Test.YtkfgbhlpjkkgfaaGreatDoorT06
import Derived.Shelf.SlicesQ.IndexFunc
import Derived.Shelf.Lay
import Derived.Ground.SlgfProg
import Derived.Lib.SliceRun
import Derived.Shelf.SlSortCmp.WholeK
import Derived.Shelf.Small.Strs
import Derived.Ground.SlsfProg
import Derived.Ground.NamesProg
set_option linter.unusedVariables false
set_option linter.unusedSimpArgs false
set_option maxHeartbeats 64000000
set_option maxRecDepth 100000
namespace Go.Proofs.YtkfgbhlpjkkgfaaGreatDoor
open Go.RowKit Go.IntWalk
def GlobK (w:World):Prop:=0<w.heap.size/\∀ k,k<15->w.cell? ⟨0,k*3,none⟩=some (.int .u8 (Kd.opN k).1)/\w.cell? ⟨0,k*3+1,none⟩=some (.int .u8 (Kd.opN k).2.1)/\w.cell? ⟨0,k*3+2,none⟩=some (.int .i64 (Kd.opN k).2.2)
theorem GlobK.under {w w':World} (h:GlobK w) (b:Below w.heap.size w w'):GlobK w':=by
 refine ⟨Nat.lt_of_lt_of_le h.1 b.size,fun k hk=>?_⟩;obtain ⟨h0,h1,h2⟩:=h.2 k hk;exact ⟨(b.cell (p:=⟨0,k*3,none⟩) h.1).trans h0,(b.cell (p:=⟨0,k*3+1,none⟩) h.1).trans h1,(b.cell (p:=⟨0,k*3+2,none⟩) h.1).trans h2⟩
theorem zAP {ok:Nat->Prop} {w:World} {v:Value} {t:Kd.Ty} (h:HTy ok w v t) :
  Calls Tryz.prog 43 #[v] w fun e w'=>e=.returned (.bool (Kd.arr t))/\Below w.heap.size w w':=by
 obtain ⟨u,rfl,hu⟩:=h;obtain ⟨ao,cap,rfl,aC,av,ai⟩:=hu.at;have bA:Below w.heap.size w (w.alloc (.cells #[.int .u8 t.elem,.slice ao t.n.length cap] 35 (0,0))):=(Below.refl _ _).alloc nR _;unfold Kd.arr;go_enter Tryz.func43,Tryz.ntmps43;go_wp2;go_ret;refine ⟨?_,bA⟩;by_cases h0:0<t.n.length
 ·have:(0:Int)<(t.n.length:Int):=by omega
  simp [h0,this]
 ·have:¬(0:Int)<(t.n.length:Int):=by omega
  simp [h0,this]
theorem zAZ {ok:Nat->Prop} {w:World} {v:Value} {t:Kd.Ty} (h:HTy ok w v t) (e:Int) :
  Calls Tryz.prog 170 #[v,.int .u8 e] w fun r w'=>r=.returned (.bool (Kd.isSc t e))/\Below w.heap.size w w':=by
 obtain ⟨u,rfl,hu⟩:=h;obtain ⟨ao,cap,rfl,aC,av,ai⟩:=hu.at;have bA:Below w.heap.size w (w.alloc (.cells #[.int .u8 t.elem,.slice ao t.n.length cap] 35 (0,0))):=(Below.refl _ _).alloc nR _;have hc:=zAP (ok:=ok) (w:=w.alloc (.cells #[.int .u8 t.elem,.slice ao t.n.length cap] 35 (0,0))) (v:=.agg #[.int .u8 t.elem,.slice ao t.n.length cap]) (t:=t) ⟨_,rfl,hu.under bA⟩;have kA:=zAC w (.cells #[.int .u8 t.elem,.slice ao t.n.length cap] 35 (0,0));unfold Kd.isSc;generalize Kd.arr t=q at hc ⊢;go_enter Tryz.func170,Tryz.ntmps170;go_wp2_with fail;refine hc.mono ?_;rintro r w1 ⟨rfl,b1⟩;have B1:=bA.trans (b1.mono bA.size);have k1:=(b1.block _ (zAB kA)).trans kA;have c0:=co k1 0;simp at c0
 cases q
 ·by_cases he:t.elem=e
  ·subst he
   go_wp2;go_ret;exact ⟨by simp,B1⟩
  ·have bM:(t.elem==e)=false:=by simpa using he
   go_wp2;go_ret;exact ⟨by simp [he],B1⟩
 ·go_wp2
  go_ret;exact ⟨by simp,B1⟩
theorem zAq {ok:Nat->Prop} {w:World} {v:Value} {t:Kd.Ty} (h:HTy ok w v t) (e:Int) :
  Calls Tryz.prog 199 #[v,.int .u8 e] w fun r w'=>r=.returned (.bool (Kd.isAr t e))/\Below w.heap.size w w':=by
 obtain ⟨u,rfl,hu⟩:=h;obtain ⟨ao,cap,rfl,aC,av,ai⟩:=hu.at;have bA:Below w.heap.size w (w.alloc (.cells #[.int .u8 t.elem,.slice ao t.n.length cap] 35 (0,0))):=(Below.refl _ _).alloc nR _;have hc:=zAP (ok:=ok) (w:=w.alloc (.cells #[.int .u8 t.elem,.slice ao t.n.length cap] 35 (0,0))) (v:=.agg #[.int .u8 t.elem,.slice ao t.n.length cap]) (t:=t) ⟨_,rfl,hu.under bA⟩;have kA:=zAC w (.cells #[.int .u8 t.elem,.slice ao t.n.length cap] 35 (0,0));unfold Kd.isAr;generalize Kd.arr t=q at hc ⊢;go_enter Tryz.func199,Tryz.ntmps199;go_wp2_with fail;refine hc.mono ?_;rintro r w1 ⟨rfl,b1⟩;have B1:=bA.trans (b1.mono bA.size);have k1:=(b1.block _ (zAB kA)).trans kA;have c0:=co k1 0;simp at c0
 cases q
 ·go_wp2
  go_ret;exact ⟨by simp,B1⟩
 ·by_cases he:t.elem=e
  ·subst he
   go_wp2;go_ret;exact ⟨by simp,B1⟩
  ·have bM:(t.elem==e)=false:=by simpa using he
   go_wp2;go_ret;exact ⟨by simp [he],B1⟩
theorem op_any (k:Int) (w:World) (hG:GlobK w) :
  Calls Tryz.prog 14 #[.int .i64 k] w fun r w'=>r=.returned (.tuple #[.int .u8 (Kd.opT k).1,.int .u8 (Kd.opT k).2.1,.int .i64 (Kd.opT k).2.2])/\Below w.heap.size w w':=by
 unfold Kd.opT;by_cases h1:k<0
 ·rw [if_pos (.inl h1)]
  go_enter Tryz.func14,Tryz.ntmps14;go_wp2;exact bodyPost_ret (v:=.tuple #[.int .u8 0,.int .u8 0,.int .i64 0]) (by simp [results,Tryz.results14,go_sem]) rfl ⟨rfl,Below.refl _ _⟩
 ·by_cases h2:15<=k
  ·rw [if_pos (.inr h2)]
   have h3:(15:Int)<=k:=h2;go_enter Tryz.func14,Tryz.ntmps14;go_wp2;exact bodyPost_ret (v:=.tuple #[.int .u8 0,.int .u8 0,.int .i64 0]) (by simp [results,Tryz.results14,go_sem]) rfl ⟨rfl,Below.refl _ _⟩
  ·rw [if_neg (by omega)]
   obtain ⟨q,rfl⟩:∃ q:Nat,k=(q:Int):=⟨k.toNat,by omega⟩;have hq:q<15:=(by omega);obtain ⟨c0,c1,c2⟩:=hG.2 q hq;rw [Int.toNat_natCast];generalize Kd.opN q=oq at c0 c1 c2 ⊢;obtain ⟨tk,mk,n⟩:=oq
   dsimp only at c0 c1 c2 ⊢
   have bA:Below w.heap.size w (w.alloc (.cells #[.int .u8 tk,.int .u8 mk,.int .i64 n] 85 (0,0))):=(Below.refl _ _).alloc nR _;have kA:=zAC w (.cells #[.int .u8 tk,.int .u8 mk,.int .i64 n] 85 (0,0));go_enter Tryz.func14,Tryz.ntmps14;go_upto_region 4 with fail;generalize w.alloc (.cells #[.int .u8 tk,.int .u8 mk,.int .i64 n] 85 (0,0))=w1 at bA kA ⊢;have d0:=co kA 0;have d1:=co kA 1;have d2:=co kA 2;simp at d0 d1 d2;clear c0 c1 c2 kA;go_quiet (fail);go_wp2;exact bodyPost_ret (v:=.tuple #[.int .u8 tk,.int .u8 mk,.int .i64 n]) (by simp [results,Tryz.results14,go_sem]) rfl ⟨rfl,zBI bA _⟩
theorem folds_any (k:Int) (w:World) (hG:GlobK w) :
  Calls Tryz.prog 16 #[.int .i64 k] w fun r w'=>r=.returned (.bool (Kd.folds k))/\Below w.heap.size w w':=by
 have hc:=op_any k w hG;unfold Kd.folds;generalize Kd.opT k=oq at hc ⊢;obtain ⟨tk,mk,n⟩:=oq
 dsimp only at hc ⊢
 go_enter Tryz.func16,Tryz.ntmps16;go_wp2_with fail;refine hc.mono ?_;rintro r w1 ⟨rfl,b1⟩;by_cases h2:n=2
 ·subst h2
  by_cases he:tk=mk
  ·subst he
   go_wp2;go_ret;exact ⟨by simp,b1⟩
  ·have bM:(tk==mk)=false:=by simpa using he
   go_wp2;go_ret;exact ⟨by simp [he],b1⟩
 ·have h3:(n==2)=false:=by simpa using h2
  go_wp2;go_ret;exact ⟨by simp [h2],b1⟩
def TRes (ok:Nat->Prop) (w:World) (u:Value) (c:Int):Except Int Kd.Ty->Prop
 | .error k=>c=k/\k≠0/\u=.agg #[.int .u8 0,.slice none 0 0]
 | .ok t=>c=0/\HTy ok w u t
theorem zCD (e:Int) (w:World) :
  Calls Tryz.prog 121 #[.int .u8 e] w fun r w'=>r=.returned (.agg #[.int .u8 e,.slice none 0 0])/\Below w.heap.size w w':=by
 go_enter Tryz.func121,Tryz.ntmps121;go_wp2;exact bodyPost_ret (v:=.agg #[.int .u8 e,.slice none 0 0]) (by simp [results,Tryz.results121,go_sem]) rfl ⟨rfl,by
  repeat (first | exact Below.refl _ _ | refine Below.setCell ?_ (by simp) _ | refine Below.alloc ?_ (by simp) _)⟩
theorem zAi {ok:Nat->Prop} {w:World} {v:Value} {t:Kd.Ty} (h:HTy ok w v t) (b:Bool) :
  Calls Tryz.prog 168 #[.bool b,v] w fun r w'=>∃ u c,r=.returned (.tuple #[u,.int .i64 c])/\TRes ok w' u c (Kd.typed b t)/\Below w.heap.size w w':=by
 have HH:=zAA h;obtain ⟨u,rfl,hu⟩:=h;obtain ⟨ao,cap,rfl,aC,av,ai⟩:=hu.at;clear hu ai
 cases b
 ·go_enter Tryz.func168,Tryz.ntmps168
  go_wp2;refine bodyPost_ret (v:=.tuple #[.agg #[.int .u8 0,.slice none 0 0],.int .i64 10]) (by simp [results,Tryz.results168,go_sem]) rfl ⟨_,_,rfl,⟨rfl,by decide,rfl⟩,?_⟩
  repeat (first | exact Below.refl _ _ | refine Below.setCell ?_ (by simp) _ | refine Below.alloc ?_ (by simp) _)
 ·go_enter Tryz.func168,Tryz.ntmps168
  go_wp2;refine bodyPost_ret (v:=.tuple #[.agg #[.int .u8 t.elem,.slice ao t.n.length cap],.int .i64 0]) (by simp [results,Tryz.results168,go_sem]) rfl ?_;refine (fun h=>⟨_,_,rfl,⟨rfl,HH.out.under h⟩,h⟩:Below w.heap.size w _->_) ?_
  repeat (first | exact Below.refl _ _ | refine Below.setCell ?_ (by simp) _ | refine Below.alloc ?_ (by simp) _)
theorem one_term {ok:Nat->Prop} {w:World} (t:TypeId) (bm:ok w.heap.size):HTerms ok (w.alloc (.cells #[.int .i64 0,.string ⟨#[]⟩] t (0,0))) (.slice (some ⟨w.heap.size,0,none⟩) 1 1) [(0,⟨#[]⟩)]:=by
 have k:=zAC w (.cells #[.int .i64 0,.string ⟨#[]⟩] t (0,0));refine ⟨fun _=>[.int .i64 0,.string ⟨#[]⟩],⟨_,_,rfl,Nat.le_refl _,by unfold maxLen;omega,fun _=>⟨w.heap.size,0,rfl,bm,zAB k,fun i hi=>⟨rfl,fun j hj=>?_⟩⟩⟩,fun i hi=>?_⟩
 ·have gv:i=0:=by simp at hi;omega
  subst gv;have c0:=co k 0;have c1:=co k 1
  match j,hj with
  | 0,_=>simp [c0]
  | 1,_=>simp [c1]
 ·have gv:i=0:=by simp at hi;omega
  subst gv;rfl
theorem zBL {ok:Nat->Prop} {w:World} {u:Value} {n:List Tm} (hu:HTerms ok w u n) (e:Int) :
  Calls Tryz.prog 166 #[.int .u8 e,u] w fun r w'=>∃ v,r=.returned v/\HTy (okU ok w.heap.size) w' v (Kd.mkA e n)/\Below w.heap.size w w':=by
 have HH:=zAA hu;obtain ⟨ao,cap,rfl,aC,av,ai⟩:=hu.at;clear hu ai;unfold Kd.mkA;by_cases hn:n.length=0
 ·rw [if_pos hn]
  have rS:((n.length:Int)==0)=true:=(by simp [hn]);go_enter Tryz.func166,Tryz.ntmps166;go_wp2;refine bodyPost_ret (v:=.agg #[.int .u8 e,.slice (some ⟨w.heap.size+1,0,none⟩) 1 1]) (by simp [results,Tryz.results166,go_sem]) rfl ⟨_,rfl,⟨_,rfl,?_⟩,?_⟩
  ·have:=one_term (ok:=okU ok w.heap.size) (w:=w.alloc (.cells #[.int .u8 e,.slice (some ⟨w.heap.size+1,0,none⟩) 1 1] 35 (0,0))) 83 (.inr (by simp))
   simpa using this
  ·repeat (first | exact Below.refl _ _ | refine Below.setCell ?_ (by simp) _ | refine Below.alloc ?_ (by simp) _)
 ·rw [if_neg hn]
  have rS:((n.length:Int)==0)=false:=(by simp [hn]);go_enter Tryz.func166,Tryz.ntmps166;go_wp2;refine bodyPost_ret (v:=.agg #[.int .u8 e,.slice ao n.length cap]) (by simp [results,Tryz.results166,go_sem]) rfl ?_;refine (fun h=>⟨_,rfl,⟨_,rfl,(HH.out.under h).wide (fun _ hi _=>.inl hi)⟩,h⟩:Below w.heap.size w _->_) ?_
  repeat (first | exact Below.refl _ _ | refine Below.setCell ?_ (by simp) _ | refine Below.alloc ?_ (by simp) _)
end Go.Proofs.YtkfgbhlpjkkgfaaGreatDoor
namespace Go.Proofs.YtkfgbhlpjkkgfaaGreatDoor
open Go.Shelf Go.RowKit Go.Lib Go.IntWalk
shelf_lay_g SlLaysH0.n6 Slgf 6 at Tryz 125 as lay28
theorem within_any (n:Int) (w:World):Calls Tryz.prog 174 #[.int .i64 n] w fun e w'=>e=.returned (.bool (small n))/\Below w.heap.size w w':=by
 unfold small;by_cases h1 : -1000000<=n
 ·by_cases h2:n<=1000000
  ·go_enter Tryz.func174,Tryz.ntmps174
   go_wp2;go_ret;exact ⟨by simp [h1,h2],Below.refl _ _⟩
  ·go_enter Tryz.func174,Tryz.ntmps174
   go_wp2;go_ret;exact ⟨by simp [h1,h2],Below.refl _ _⟩
 ·go_enter Tryz.func174,Tryz.ntmps174
  go_wp2;go_ret;exact ⟨by rw [show decide (-1000000<=n)=false from decide_eq_false (by omega)];rfl,Below.refl _ _⟩
def encT (x:Tm):List Value:=[.int .i64 x.1,.string x.2]
theorem zFQ (x:Tm) (w:World):Calls Tryz.prog 126 #[.agg #[.int .i64 x.1,.string x.2]] w fun e w'=>e=.returned (.bool (!small x.1))/\Below w.heap.size w w':=by
 go_enter Tryz.func126,Tryz.ntmps126;go_wp2_with fail;refine (within_any _ _).mono ?_;rintro e w2 ⟨rfl,b2⟩;go_wp2;go_ret;exact ⟨rfl,((Below.refl _ w).alloc nR _).trans (b2.mono (by simp))⟩
theorem beyond_below (w:World):PredBelow Tryz.prog 126 #[] (fun x=>.agg (encT x).toArray) (fun x => !small x.1) w:=fun W x hb =>
 (zFQ x W).mono fun _ _ ⟨he,jS⟩=>⟨he,hb.trans (jS.mono hb.size)⟩
theorem first_bad:∀ l:List Tm,(∀ j (h:j<l.length),small (l[j]).1=true)\/∃ i,∃ h:i<l.length,small (l[i]).1=false/\∀ j (hj:j<i),small (l[j]'(by omega)).1=true
 | []=>.inl fun j h=>absurd h (Nat.not_lt_zero _)
 | t :: l=>by
  cases ht:small t.1 with
  | false=>exact .inr ⟨0,by simp,ht,fun j hj=>absurd hj (Nat.not_lt_zero _)⟩
  | true=>
   rcases first_bad l with h | ⟨i,hi,h1,h2⟩
   ·refine .inl fun j hj=>?_
    cases j with
    | zero=>exact ht
    | succ j=>exact h j (by simpa using hj)
   ·refine .inr ⟨i+1,by simpa using hi,h1,fun j hj=>?_⟩
    cases j with
    | zero=>exact ht
    | succ j=>exact h2 j (by omega)
def firstI (l:List Tm) (r:Int):Prop :=
 (r = -1/\∀ j (h:j<l.length),small (l[j]).1=true)\/∃ i:Nat,∃ h:i<l.length,r=(i:Int)/\small (l[i]).1=false/\∀ j (hj:j<i),small (l[j]'(by omega)).1=true
theorem zCv {ok:Nat->Prop} {w:World} {v:Value} {l:List Tm} (hl:HTerms ok w v l) :
  Calls Tryz.prog 125 #[v,.func (.func 126) #[] #[]] w fun e w'=>∃ r,e=.returned (.int .i64 r)/\firstI l r/\Below w.heap.size w w':=by
 obtain ⟨ao,cap,rfl,aC,av,ai⟩:=hl.at;unfold maxLen at av
 cases l with
 | nil=>
  clear ai;go_enter Tryz.func125,Tryz.ntmps125;go_wp2;go_loopg [5,8] 0 (fun g _ s8 wr=>s8=.int .i64 0/\wr=w)
  case atStart=>exact ⟨rfl,rfl⟩
  case round=>
   obtain ⟨rfl,rfl⟩:=hrel;go_wp2;go_ret;exact ⟨-1,rfl,.inl ⟨rfl,fun j h=>absurd h (Nat.not_lt_zero _)⟩,Below.refl _ _⟩
 | cons t l'=>
  generalize hL:t :: l'=l at *;have ju:0<l.length:=(by rw [<-hL];simp);obtain ⟨b,o,rfl,hb,_,_⟩:=ai 0 ju;have eg:∀ args w,(callFunc 126 args).run Tryz.prog w=.ok (.enter 126 args) w:=enters_of Tryz.func126 (by kernel_rfl) rfl;have dM:=AnyQ.slices_IndexFunc lay28 2 Tryz.isAgg83 Tryz.sizeOf83 encT (fun _=>rfl) (fun x => !small x.1) 126 #[] eg b o l.length cap l w (beyond_below w) nR (by omega) hb (fun j hj i v hi=>by
   obtain ⟨b',o',e,_,t0,t1⟩:=ai j hj;injection e with e;injection e with e1 e2;subst e1;subst e2;rw [getElem!_pos l j hj] at hi
   match i,hi with
   | 0,hi=>simp [encT] at hi;rw [<-hi];exact t0
   | 1,hi=>simp [encT] at hi;rw [<-hi];exact t1
   | i+2,hi=>simp [encT] at hi)
  change Calls Tryz.prog 125 _ _ _ at dM
  refine dM.mono ?_;rintro e w' ⟨rfl,hB⟩;refine ⟨_,rfl,?_,hB⟩;rcases first_bad l with h | ⟨i,hi,h1,h2⟩
  ·exact .inl ⟨Lib.idxBy_miss (fun _ y => !small y.1) l l.length default (fun j hj=>by show (!small l[j]!.1)=false;rw [getElem!_pos l j hj,h j hj];rfl),h⟩
  ·exact .inr ⟨i,hi,Lib.idxBy_hit (fun _ y => !small y.1) l l.length i default hi nR (by show (!small l[i]!.1)=true;rw [getElem!_pos l i hi,h1];rfl) (fun j hj=>by show (!small l[j]!.1)=false;rw [getElem!_pos l j (by omega),h2 j hj];rfl),h1,h2⟩
def FaultP (l:List Tm) (c a:Int):Prop :=
 (1000<l.length/\c=7/\a = -1) \/
 (l.length<=1000/\∃ i:Nat,∃ h:i<l.length,small (l[i]).1=false/\(∀ j (hj:j<i),small (l[j]'(by omega)).1=true)/\c=16/\a=(i:Int)) \/
 (l.length<=1000/\(∀ t ∈ l,small t.1=true)/\c=0/\a=0)
theorem faultOf_any {ok:Nat->Prop} {w:World} {v:Value} {l:List Tm} (hl:HTerms ok w v l) :
  Calls Tryz.prog 92 #[v] w fun e w'=>∃ c a,e=.returned (.agg #[.int .i64 c,.int .i64 a])/\FaultP l c a/\Below w.heap.size w w':=by
 obtain ⟨ao,cap,rfl,aC,av,ai⟩:=hl.at;unfold maxLen at av;obtain ⟨w1,ew⟩:=nmQ (w.alloc (.cells #[.int .i64 0,.int .i64 0] 29 (0,0)));have b1:=zAk ew;have j7:=zBa ew;by_cases h1000:1000<l.length
 ·have hi:(1000:Int)<(l.length:Int):=by omega
  have k0:=co j7 0;have k1:=co j7 1;have fk:=fun o=>fo j7 o;simp at k0 k1;clear hl ai;go_enter Tryz.func92,Tryz.ntmps92;go_upto_region 1 with fail;rw [<-ew];clear ew;go_wp2;exact bodyPost_ret (v:=.agg #[.int .i64 7,.int .i64 (-1)]) (by simp [results,Tryz.results92,go_sem,k0,k1]) rfl ⟨_,_,rfl,.inl ⟨h1000,rfl,rfl⟩,(b1.setCell (p:=⟨w.heap.size,0,none⟩) nR _).setCell (p:=⟨w.heap.size,1,none⟩) nR _⟩
 ·have hi:¬(1000:Int)<(l.length:Int):=by omega
  have dM:=zCv (hl.keep (w':=w1) b1.size (fun i _ hl=>b1.block i hl));clear hl ai;go_enter Tryz.func92,Tryz.ntmps92;go_upto_region 1 with fail;rw [<-ew];clear ew;go_wp2_with fail;refine dM.mono ?_;rintro e w2 ⟨r,rfl,hr,b2⟩;have K2:=(b2.block _ (zAB j7)).trans j7;have B2:=b1.trans (b2.mono b1.size);have k0:=co K2 0;have k1:=co K2 1;have fk:=fun o=>fo K2 o;simp at k0 k1;rcases hr with ⟨rfl,h⟩ | ⟨i,ap,rfl,h1,h2⟩
  ·go_wp2
   exact bodyPost_ret (v:=.agg #[.int .i64 0,.int .i64 0]) (by simp [results,Tryz.results92,go_sem,k0,k1]) rfl ⟨_,_,rfl,.inr (.inr ⟨by omega,fun t ht=>by
    obtain ⟨j,hj,rfl⟩:=List.mem_iff_getElem.1 ht;exact h j hj,rfl,rfl⟩),(B2.setCell (p:=⟨w.heap.size,0,none⟩) nR _).setCell (p:=⟨w.heap.size,1,none⟩) nR _⟩
  ·have H1:=zAA h1
   have H2:=zAA h2;clear h1 h2;have gv:(0:Int)<=(i:Int):=(by omega);go_wp2;exact bodyPost_ret (v:=.agg #[.int .i64 16,.int .i64 (i:Int)]) (by simp [results,Tryz.results92,go_sem,k0,k1]) rfl ⟨_,_,rfl,.inr (.inl ⟨by omega,i,ap,H1.out,H2.out,rfl,rfl⟩),(B2.setCell (p:=⟨w.heap.size,0,none⟩) nR _).setCell (p:=⟨w.heap.size,1,none⟩) nR _⟩
end Go.Proofs.YtkfgbhlpjkkgfaaGreatDoor
namespace Go.Proofs.YtkfgbhlpjkkgfaaGreatDoor
open Go.Shelf Go.RowKit Go.Lib Go.IntWalk Go.Sort
def tcs:List Tm->List Value
 | []=>[]
 | t :: l=>.int .i64 t.1 :: .string t.2 :: tcs l
theorem zAc:∀ l:List Tm,(tcs l).length=l.length*2
 | []=>rfl
 | t :: l=>by simp [tcs,zAc l];omega
theorem zCE:∀ a b:List Tm,tcs (a++b)=tcs a++tcs b
 | [],b=>rfl
 | t :: a,b=>by simp [tcs,zCE a b]
theorem zDd (sp:List Value):∀ (l:List Tm) (i:Nat) (h:i<l.length),(tcs l++sp)[i*2]?=some (.int .i64 (l[i]).1)/\(tcs l++sp)[i*2+1]?=some (.string (l[i]).2)
 | [],i,h=>absurd h (Nat.not_lt_zero _)
 | t :: l,0,_=>by simp [tcs]
 | t :: l,i+1,h=>by
  have ih:=zDd sp l i (by simpa using h);rw [show (i+1)*2=i*2+2 by omega,show i*2+2+1=i*2+1+2 by omega]
  simpa [tcs] using ih
theorem tcs_set (sp:List Value):∀ (l:List Tm) (i:Nat) (h:i<l.length) (n:Int),(tcs l++sp).set (i*2) (.int .i64 n)=tcs (l.set i (n,(l[i]).2))++sp
 | [],i,h,_=>absurd h (Nat.not_lt_zero _)
 | t :: l,0,_,n=>by simp [tcs]
 | t :: l,i+1,h,n=>by
  have ih:=tcs_set sp l i (by simpa using h) n;rw [show (i+1)*2=i*2+2 by omega]
  simpa [tcs] using ih
theorem tcs_put (sp:List Value):∀ (l:List Tm) (i:Nat) (h:i<l.length) (t:Tm),((tcs l++sp).set (i*2) (.int .i64 t.1)).set (i*2+1) (.string t.2)=tcs (l.set i t)++sp
 | [],i,h,_=>absurd h (Nat.not_lt_zero _)
 | x :: l,0,_,t=>by simp [tcs]
 | x :: l,i+1,h,t=>by
  have ih:=tcs_put sp l i (by simpa using h) t;rw [show (i+1)*2=i*2+2 by omega,show i*2+2+1=i*2+1+2 by omega]
  simpa [tcs] using ih
theorem zBp {l:List Tm} {D:Nat->List Value} (hD:∀ j (h:j<l.length),D j=[.int .i64 (l[j]).1,.string (l[j]).2]):∀ n,n<=l.length->flat D n=tcs (l.take n)
 | 0,_=>by simp [flat,tcs]
 | n+1,h=>by
  rw [flat,zBp hD n (by omega),List.take_succ_eq_append_getElem (by omega:n<l.length),zCE,hD n (by omega)];rfl
def Blk (w:World) (g:Nat) (l:List Tm) (sp:List Value):Prop:=w.heap[g]?=some (.cells (tcs l++sp).toArray 83 (0,0))
theorem Blk.cell {w:World} {g:Nat} {l:List Tm} {sp:List Value} (h:Blk w g l sp) {i:Nat} (hi:i<l.length):w.cell? ⟨g,i*2,none⟩=some (.int .i64 (l[i]).1)/\w.cell? ⟨g,i*2+1,none⟩=some (.string (l[i]).2):=by
 have t:=zDd sp l i hi;rw [co h,co h]
 simpa using t
theorem Blk.free {w:World} {g:Nat} {l:List Tm} {sp:List Value} (h:Blk w g l sp) (o:Nat):w.frozen? ⟨g,o,none⟩=false:=fo h o
theorem Blk.lt {w:World} {g:Nat} {l:List Tm} {sp:List Value} (h:Blk w g l sp):g<w.heap.size:=zAB h
theorem Blk.keep {w w':World} {g:Nat} {l:List Tm} {sp:List Value} (h:Blk w g l sp) (hk:w'.heap[g]?=w.heap[g]?):Blk w' g l sp:=hk.trans h
theorem Blk.below {w w':World} {B g:Nat} {l:List Tm} {sp:List Value} (h:Blk w g l sp) (hb:Below B w w') (hg:g<B):Blk w' g l sp:=(hb.block g hg).trans h
theorem Blk.setN {w:World} {g:Nat} {l:List Tm} {sp:List Value} (h:Blk w g l sp) {i:Nat} (hi:i<l.length) (n:Int):Blk (w.setCell ⟨g,i*2,none⟩ (.int .i64 n)) g (l.set i (n,(l[i]).2)) sp:=by
 unfold Blk;rw [zAD h,sT,tcs_set sp l i hi n]
theorem Blk.put {w:World} {g:Nat} {l:List Tm} {sp:List Value} (h:Blk w g l sp) {i:Nat} (hi:i<l.length) (t:Tm):Blk ((w.setCell ⟨g,i*2,none⟩ (.int .i64 t.1)).setCell ⟨g,i*2+1,none⟩ (.string t.2)) g (l.set i t) sp:=by
 unfold Blk;rw [zAD (zAD h _ _),sT,sT,tcs_put sp l i hi t]
theorem zEi {B:Nat} {w:World} {v:Value} {l:List Tm} (h:OwnL kTerm B w v l) :
  (v=.slice none 0 0/\l=[])\/∃ g c sp,v=.slice (some ⟨g,0,none⟩) l.length c/\B<=g/\Blk w g l sp/\l.length<=c/\c<=maxLen/\l.length*2+sp.length=c*2:=by
 obtain ⟨D,h1,h2⟩:=h;rcases h1.2 with ⟨hv,h0⟩ | ⟨g,cap,aR,hv,hb,hg,eR,eV,gq,gP⟩
 ·exact .inl ⟨hv,List.eq_nil_of_length_eq_zero h0⟩
 ·have e1:=zBp (l:=l) (D:=D) (fun j hj=>h2 j hj) l.length nR
  rw [List.take_length] at e1;have e2:aR=(tcs l++aR.toList.drop (l.length*2)).toArray:=by
   have:aR.toList=tcs l++aR.toList.drop (l.length*2):=by
    have ht:aR.toList.take (l.length*2)=tcs l:=gP.trans e1;rw [<-ht,List.take_append_drop]
   rw [<-this]
  refine .inr ⟨g,cap,aR.toList.drop (l.length*2),hv,hb,?_,eR,eV,?_⟩
  ·unfold Blk
   rw [<-e2];exact hg
  ·have LC:aR.size=cap*2:=gq
   simp;omega
theorem blk_own {B g c:Nat} {w:World} {l:List Tm} {sp:List Value} (h:Blk w g l sp) (hB:B<=g) (hc:l.length<=c) (hm:c<=maxLen) (hs:l.length*2+sp.length=c*2):OwnL kTerm B w (.slice (some ⟨g,0,none⟩) l.length c) l:=by
 have e1:=zBp (l:=l) (D:=fun j=>[.int .i64 (l[j]!).1,.string (l[j]!).2]) (fun j hj=>by simp [hj]) l.length nR;rw [List.take_length] at e1;refine ⟨fun j=>[.int .i64 (l[j]!).1,.string (l[j]!).2],⟨?_,.inr ⟨g,c,_,rfl,hB,h,hc,hm,?_,?_⟩⟩,fun j hj=>?_⟩
 ·rw [e1];exact zAc l
 ·have:=zAc l
  show (tcs l++sp).toArray.size=c*2
  simp;omega
 ·rw [e1]
  show (tcs l++sp).toArray.toList.take (l.length*2)=tcs l
  rw [List.toList_toArray,<-zAc l,List.take_left]
 ·show [Value.int .i64 (l[j]!).1,.string (l[j]!).2]=[.int .i64 (l[j]).1,.string (l[j]).2]
  simp [hj]
/-! ### The sort -/
theorem Blk.holds {w:World} {g:Nat} {l:List Tm} {sp:List Value} (h:Blk w g l sp):HoldsK encT 2 w g 0 l.toArray:=by
 intro j hj;rw [size_flatK] at hj;have eJ:j<l.length*2:=(by simpa using hj);rw [get_flatK _ _ _ _ hj,Nat.zero_add];refine ⟨?_,h.free j⟩;have hq:j / 2<l.length:=(by omega);obtain ⟨c0,c1⟩:=h.cell hq;rcases (by omega:j % 2=0\/j % 2=1) with e | e
 ·rw [show j / 2*2=j by omega] at c0
  rw [c0,e];simp [encT,hq]
 ·rw [show j / 2*2+1=j by omega] at c1
  rw [c1,e];simp [encT,hq]
theorem tcs_flatK (l:List Tm) (sp:List Value) (aR:Array Value) (hc:aR.size=(tcs l++sp).length) (OE:∀ j,l.length*2<=j->aR[j]?=(tcs l++sp)[j]?):putCells id 0 (flatK encT 2 l.toArray) aR=(tcs l++sp).toArray:=by
 apply Array.ext_getElem?
 intro k;unfold putCells;have e0:(tcs l++sp).toArray[k]?=(tcs l++sp)[k]?:=(by simp);rw [Array.getElem?_mapIdx,e0];by_cases hk:k<l.length*2
 ·have Ox:k<aR.size:=by rw [hc,List.length_append,zAc];omega
  have hq:k / 2<l.length:=(by omega);rw [Array.getElem?_eq_getElem Ox];simp only [Option.map_some,Nat.zero_add,size_flatK,Nat.zero_le,true_and,Nat.sub_zero,id];rw [if_pos (by simpa using hk),get_flatK _ _ _ _ (by simpa using hk)];obtain ⟨c0,c1⟩:=zDd sp l (k / 2) hq;rcases (by omega:k % 2=0\/k % 2=1) with e | e
  ·rw [show k / 2*2=k by omega] at c0
   rw [c0,e];simp [encT,hq]
  ·rw [show k / 2*2+1=k by omega] at c1
   rw [c1,e];simp [encT,hq]
 ·rw [<-OE k (by omega)]
  cases hx:aR[k]? with
  | none=>rfl
  | some x=>
   simp only [Option.map_some,Nat.zero_add,size_flatK,Nat.zero_le,true_and];rw [if_neg (by simpa using hk)]
theorem zEe (w:World) (g n:Nat) (d:Array Tm) (os:Array Obj):(∀ k,k≠g->k<w.heap.size->(sortWorldK encT 2 w g 0 n d os).heap[k]?=w.heap[k]?)/\(∀ l sp,Blk w g l sp->d.size=l.length->Blk (sortWorldK encT 2 w g 0 n d os) g d.toList sp)/\w.heap.size<=(sortWorldK encT 2 w g 0 n d os).heap.size:=by
 have hh:(sortWorldK encT 2 w g 0 n d os).heap=w.heap.modify g (onCells (putCells id 0 (flatK encT 2 d)))++os:=rfl;refine ⟨fun k hk hl=>?_,fun l sp h hs=>?_,?_⟩
 ·rw [hh,Array.getElem?_append_left (by simpa using hl),Array.getElem?_modify,if_neg (fun e=>hk e.symm)]
 ·unfold Blk
  rw [hh,Array.getElem?_append_left (by simpa using h.lt),Array.getElem?_modify,if_pos rfl,h];simp only [Option.map_some,onCells];have e:=tcs_flatK d.toList sp (tcs l++sp).toArray (by simp [zAc,hs]) (fun j hj=>by
   rw [gT];have xu:d.toList.length=l.length:=(by simpa using hs);rw [xu] at hj;rw [List.getElem?_append_right (by rw [zAc];exact hj),List.getElem?_append_right (by rw [zAc,xu];exact hj),zAc,zAc,xu])
  simp only [Array.toArray_toList] at e;rw [e]
 ·rw [hh];simp
end Go.Proofs.YtkfgbhlpjkkgfaaGreatDoor
