import Derived.Test.YtophfbefnaelfaaGreatDoorB04
import Derived.Deep.QuietTactic
import Derived.BigQuiet
import Derived.Deep.LoopGhost
import Derived.Deep.RegionWith
set_option linter.unusedVariables false
set_option linter.unusedSimpArgs false
set_option maxHeartbeats 64000000
set_option maxRecDepth 100000
namespace Go.Proofs.YtophfbefnaelfaaGreatDoor
open Go.RowKit Go.IntWalk
def eqL {α:Type} (f:α→α→Bool):List α→List α→Bool
 | [],[]=>true
 | a :: l,b :: r=>f a b&&eqL f l r
 | _,_=>false
theorem eqL_len {α:Type} {f:α→α→Bool}:∀ {l r:List α},l.length≠r.length→eqL f l r=false
 | [],[],h=>by simp at h
 | [],_ :: _,_=>rfl
 | _ :: _,[],_=>rfl
 | a :: l,b :: r,h=>by
  have:eqL f l r=false:=eqL_len (by simpa using h);simp [eqL,this]
theorem eqL_all {α:Type} {f:α→α→Bool}:∀ {l r:List α},l.length=r.length→(∀ i (h:i<l.length) (h':i<r.length),f l[i] r[i]=true)→eqL f l r=true
 | [],[],_,_=>rfl
 | [],_ :: _,h,_=>by simp at h
 | _ :: _,[],h,_=>by simp at h
 | a :: l,b :: r,h,hf=>by
  have h1:=hf 0 (by simp) (by simp);have h2:eqL f l r=true:=eqL_all (by simpa using h) (fun i hi hi'=>hf (i+1) (by simpa using hi) (by simpa using hi'));simp at h1;simp [eqL,h1,h2]
theorem eqL_bad {α:Type} {f:α→α→Bool}:∀ {l r:List α} (i:Nat) (h:i<l.length) (h':i<r.length),f l[i] r[i]=false→eqL f l r=false
 | [],_,i,h,_,_=>by simp at h
 | _ :: _,[],i,_,h',_=>by simp at h'
 | a :: l,b :: r,0,_,_,hf=>by simp at hf;simp [eqL,hf]
 | a :: l,b :: r,i+1,h,h',hf=>by
  have:eqL f l r=false:=eqL_bad i (by simpa using h) (by simpa using h') (by simpa using hf);simp [eqL,this]
theorem eqL_refl {α:Type} {f:α→α→Bool} (l:List α) (h:∀ a,a ∈ l→f a a=true):eqL f l l=true:=eqL_all rfl (fun i hi _=>h _ (List.getElem_mem hi))
def seq (a b:ByteArray):Bool:=a.toList==b.toList
def teq (a b:Tm):Bool:=a.1==b.1&&seq a.2 b.2
theorem seq_refl (a:ByteArray):seq a a=true:=by simp [seq]
theorem teq_refl (a:Tm):teq a a=true:=by simp [teq,seq]
theorem HNames.at {ok:Nat→Prop} {w:World} {v:Value} {l:List ByteArray} (h:HNames ok w v l) :
  ∃ ao cap,v=.slice ao l.length cap∧l.length≤cap∧cap≤maxLen∧∀ i (h:i<l.length),∃ b o,ao=some ⟨b,o,none⟩∧b<w.heap.size∧w.cell? ⟨b,o+i,none⟩=some (.string l[i]):=by
 obtain ⟨C,⟨ao,cap,hv,h1,h2,h3⟩,hC⟩:=h;refine ⟨ao,cap,hv,h1,h2,fun i hi=>?_⟩;obtain ⟨b,o,ha,hob,hb,hc⟩:=h3 (by omega);have:=(hc i hi).2 0 (by decide);rw [hC i hi] at this;exact ⟨b,o,ha,hb,by simpa using this⟩
theorem HTerms.at {ok:Nat→Prop} {w:World} {v:Value} {l:List Tm} (h:HTerms ok w v l) :
  ∃ ao cap,v=.slice ao l.length cap∧l.length≤cap∧cap≤maxLen∧∀ i (h:i<l.length),∃ b o,ao=some ⟨b,o,none⟩∧b<w.heap.size∧w.cell? ⟨b,o+i*2,none⟩=some (.int .i64 (l[i]).1)∧w.cell? ⟨b,o+i*2+1,none⟩=some (.string (l[i]).2):=by
 obtain ⟨C,⟨ao,cap,hv,h1,h2,h3⟩,hC⟩:=h;refine ⟨ao,cap,hv,h1,h2,fun i hi=>?_⟩;obtain ⟨b,o,ha,hob,hb,hc⟩:=h3 (by omega);have t0:=(hc i hi).2 0 (by decide);have t1:=(hc i hi).2 1 (by decide);rw [hC i hi] at t0 t1;exact ⟨b,o,ha,hb,by simpa using t0,by simpa using t1⟩
theorem neqTerm (x1 y1:Int) (x2 y2:ByteArray) (w:World):(binOp .neq 86 (.agg #[.int .i64 x1,.string x2]) (.agg #[.int .i64 y1,.string y2])).run Tryz.prog w=.ok (.bool (!(teq (x1,x2) (y1,y2)))) w:=by
 simp [go_sem,teq,seq];by_cases h1:x1=y1<;>by_cases h2:x2.toList=y2.toList<;>simp [h1,h2]
theorem equalStr_any {ok ok':Nat→Prop} {w:World} {v u:Value} {l r:List ByteArray} (hl:HNames ok w v l) (hr:HNames ok' w u r) :
  Calls Tryz.prog 59 #[v,u] w fun e w'=>e=.returned (.bool (eqL seq l r))∧Below w.heap.size w w':=by
 obtain ⟨ao,cap,rfl,hc1,hc2,hat⟩:=hl.at;obtain ⟨ao',cap',rfl,hd1,hd2,hat'⟩:=hr.at;unfold maxLen at hc2 hd2;obtain ⟨R,hR⟩:=nmQ (eqL seq l r);rw [←hR];have HR:=hide hR;clear hR hl hr;obtain ⟨n,hn⟩:=nmQ (l.length);obtain ⟨m,hm⟩:=nmQ (r.length);rw [←hn] at hc1 ⊢;rw [←hm] at hd1 ⊢;have HN:=hide hn;have HM:=hide hm;by_cases hlen:n=m
 ·subst hlen
  have hq:((n:Int) != (n:Int))=false:=(by simp);clear hn hm;go_enter Tryz.func59,Tryz.ntmps59;go_wp2;go_loopg [13] n (fun k v wr=>∃ i,i≤n∧k=n-i∧v=.int .i64 (i:Nat)∧Hid (∀ j (h:j<l.length) (h':j<r.length),j<i→seq l[j] r[j]=true)∧Below w.heap.size w wr)
  case atStart=>exact ⟨0,Nat.zero_le _,rfl,rfl,fun j _ _ h=>absurd h (Nat.not_lt_zero _),Below.refl _ _⟩
  case round=>
   obtain ⟨i,hi,rfl,rfl,H,hbr⟩:=hrel;by_cases hlt:i<n
   ·have hltr:=hlt
    obtain ⟨b,o,rfl,hb,hc⟩:=hat i (by have:=HN.out;omega);obtain ⟨b',o',rfl,hb',hc'⟩:=hat' i (by have:=HM.out;omega);have e1:=(hbr.cell (p:=⟨b,o+i,none⟩) hb).trans hc;have e2:=(hbr.cell (p:=⟨b',o'+i,none⟩) hb').trans hc';have hil:i<l.length:=(by have:=HN.out;omega);have hir:i<r.length:=(by have:=HM.out;omega);obtain ⟨x,hx⟩:=nmQ (l[i]);obtain ⟨y,hy⟩:=nmQ (r[i]);rw [←hx] at e1;rw [←hy] at e2;have HX:=hide hx;have HY:=hide hy;clear hat hat' hc hc' hx hy
    cases hxy:seq x y
    ·
     have hne:(x.toList==y.toList)=false:=(by unfold seq at hxy;exact hxy);go_wp2
     go_region
     go_wp2;go_ret;refine ⟨ret_bool ?_,hbr.drew⟩;rw [HR.out];exact (eqL_bad i (by rw [←HN.out];exact hlt) (by rw [←HM.out];exact hlt) (by rw [←HX.out,←HY.out];exact hxy)).symm
    ·
     have hne:(x.toList==y.toList)=true:=(by unfold seq at hxy;exact hxy);go_wp2
     go_region
     go_wp2;go_roundg (n-(i+1))
     case measure=>omega
     case rel=>
      refine ⟨i+1,by omega,rfl,by go_num,fun j hj hj' hji=>?_,hbr.drew⟩;by_cases e:j=i
      ·subst e
       rw [←HX.out,←HY.out];exact hxy
      ·exact H.out j hj hj' (by omega)
   ·have hie:i=n:=by omega
    subst hie;clear hat hat';go_wp2;go_ret;refine ⟨ret_bool ?_,hbr⟩;rw [HR.out];exact (eqL_all (by rw [←HN.out,←HM.out]) (fun j hj hj'=>H.out j hj hj' (by rw [HN.out];exact hj))).symm
 ·have hq:((n:Int) != (m:Int))=true:=by simp;omega
  clear hat hat' hn hm;go_enter Tryz.func59,Tryz.ntmps59;go_wp2;go_ret;refine ⟨ret_bool ?_,Below.refl _ _⟩;rw [HR.out];exact (eqL_len (by rw [←HN.out,←HM.out];exact hlen)).symm
theorem equalTerm_any {ok ok':Nat→Prop} {w:World} {v u:Value} {l r:List Tm} (hl:HTerms ok w v l) (hr:HTerms ok' w u r) :
  Calls Tryz.prog 121 #[v,u] w fun e w'=>e=.returned (.bool (eqL teq l r))∧Below w.heap.size w w':=by
 obtain ⟨ao,cap,rfl,hc1,hc2,hat⟩:=hl.at;obtain ⟨ao',cap',rfl,hd1,hd2,hat'⟩:=hr.at;unfold maxLen at hc2 hd2;obtain ⟨R,hR⟩:=nmQ (eqL teq l r);rw [←hR];have HR:=hide hR;clear hR hl hr;obtain ⟨n,hn⟩:=nmQ (l.length);obtain ⟨m,hm⟩:=nmQ (r.length);rw [←hn] at hc1 ⊢;rw [←hm] at hd1 ⊢;have HN:=hide hn;have HM:=hide hm;by_cases hlen:n=m
 ·subst hlen
  have hq:((n:Int) != (n:Int))=false:=(by simp);clear hn hm;go_enter Tryz.func121,Tryz.ntmps121;go_wp2;go_loopg [13] n (fun k v wr=>∃ i,i≤n∧k=n-i∧v=.int .i64 (i:Nat)∧Hid (∀ j (h:j<l.length) (h':j<r.length),j<i→teq l[j] r[j]=true)∧Below w.heap.size w wr)
  case atStart=>exact ⟨0,Nat.zero_le _,rfl,rfl,fun j _ _ h=>absurd h (Nat.not_lt_zero _),Below.refl _ _⟩
  case round=>
   obtain ⟨i,hi,rfl,rfl,H,hbr⟩:=hrel;by_cases hlt:i<n
   ·have hltr:=hlt
    obtain ⟨b,o,rfl,hb,hc,hd⟩:=hat i (by have:=HN.out;omega);obtain ⟨b',o',rfl,hb',hc',hd'⟩:=hat' i (by have:=HM.out;omega);have e1:=(hbr.cell (p:=⟨b,o+i*2,none⟩) hb).trans hc;have e2:=(hbr.cell (p:=⟨b',o'+i*2,none⟩) hb').trans hc';have e3:=(hbr.cell (p:=⟨b,o+i*2+1,none⟩) hb).trans hd;have e4:=(hbr.cell (p:=⟨b',o'+i*2+1,none⟩) hb').trans hd';have hil:i<l.length:=(by have:=HN.out;omega);have hir:i<r.length:=(by have:=HM.out;omega);obtain ⟨x,hx⟩:=nmQ (l[i]);obtain ⟨y,hy⟩:=nmQ (r[i]);rw [←hx] at e1 e3;rw [←hy] at e2 e4;have HX:=hide hx;have HY:=hide hy;clear hat hat' hc hc' hd hd' hx hy;obtain ⟨x1,x2⟩:=x;obtain ⟨y1,y2⟩:=y
    cases hxy:teq (x1,x2) (y1,y2)
    ·
     have hne:=fun w=>neqTerm x1 y1 x2 y2 w;rw [hxy] at hne;go_wp2
     go_region
     go_wp2;go_ret;refine ⟨ret_bool ?_,hbr.drew⟩;rw [HR.out];exact (eqL_bad i (by rw [←HN.out];exact hlt) (by rw [←HM.out];exact hlt) (by rw [←HX.out,←HY.out];exact hxy)).symm
    ·
     have hne:=fun w=>neqTerm x1 y1 x2 y2 w;rw [hxy] at hne;go_wp2
     go_region
     go_wp2;go_roundg (n-(i+1))
     case measure=>omega
     case rel=>
      refine ⟨i+1,by omega,rfl,by go_num,fun j hj hj' hji=>?_,hbr.drew⟩;by_cases e:j=i
      ·subst e
       rw [←HX.out,←HY.out];exact hxy
      ·exact H.out j hj hj' (by omega)
   ·have hie:i=n:=by omega
    subst hie;clear hat hat';go_wp2;go_ret;refine ⟨ret_bool ?_,hbr⟩;rw [HR.out];exact (eqL_all (by rw [←HN.out,←HM.out]) (fun j hj hj'=>H.out j hj hj' (by rw [HN.out];exact hj))).symm
 ·have hq:((n:Int) != (m:Int))=true:=by simp;omega
  clear hat hat' hn hm;go_enter Tryz.func121,Tryz.ntmps121;go_wp2;go_ret;refine ⟨ret_bool ?_,Below.refl _ _⟩;rw [HR.out];exact (eqL_len (by rw [←HN.out,←HM.out];exact hlen)).symm
theorem sameSize_any {ok ok':Nat→Prop} {w:World} {v u:Value} {l r:List Tm} (hl:HTerms ok w v l) (hr:HTerms ok' w u r) :
  Calls Tryz.prog 94 #[v,u] w fun e w'=>e=.returned (.bool (eqL teq l r))∧Below w.heap.size w w':=by
 go_enter Tryz.func94,Tryz.ntmps94;go_wp2_with fail;refine (equalTerm_any hl hr).mono ?_;rintro e w' ⟨rfl,hb⟩;go_wp2;go_ret;exact ⟨rfl,hb⟩
theorem HSizes.at {ok:Nat→Prop} {w:World} {v:Value} {l:List (List Tm)} (h:HSizes ok w v l) :
  ∃ ao cap,v=.slice ao l.length cap∧l.length≤cap∧cap≤maxLen∧∀ i (h:i<l.length),∃ b o au nu cu,ao=some ⟨b,o,none⟩∧b<w.heap.size∧w.cell? ⟨b,o+i,none⟩=some (.slice au nu cu)∧HTerms ok w (.slice au nu cu) l[i]:=by
 obtain ⟨C,⟨ao,cap,hv,h1,h2,h3⟩,hC⟩:=h;refine ⟨ao,cap,hv,h1,h2,fun i hi=>?_⟩;obtain ⟨b,o,ha,hob,hb,hc⟩:=h3 (by omega);have:=(hc i hi).2 0 (by decide);obtain ⟨u,hu,ht⟩:=hC i hi;rw [hu] at this;have ht0:=ht;obtain ⟨_,⟨au,cu,rfl,_⟩,_⟩:=ht0;exact ⟨b,o,au,_,cu,ha,hb,by simpa using this,ht⟩
theorem HTerms.under {ok:Nat→Prop} {w w':World} {v:Value} {l:List Tm} (h:HTerms ok w v l) (a:Below w.heap.size w w'):HTerms ok w' v l:=h.keep a.size fun i _ hl=>a.block i hl
theorem HSizes.under {ok:Nat→Prop} {w w':World} {v:Value} {l:List (List Tm)} (h:HSizes ok w v l) (a:Below w.heap.size w w'):HSizes ok w' v l:=h.keep a.size fun i _ hl=>a.block i hl
theorem HNames.under {ok:Nat→Prop} {w w':World} {v:Value} {l:List ByteArray} (h:HNames ok w v l) (a:Below w.heap.size w w'):HNames ok w' v l:=h.keep a.size fun i _ hl=>a.block i hl
theorem equalSizes_any {ok ok':Nat→Prop} {w:World} {v u:Value} {l r:List (List Tm)} (hl:HSizes ok w v l) (hr:HSizes ok' w u r) :
  Calls Tryz.prog 95 #[v,u,.func (.func 94) #[] #[]] w fun e w'=>e=.returned (.bool (eqL (eqL teq) l r))∧Below w.heap.size w w':=by
 obtain ⟨ao,cap,rfl,hc1,hc2,hat⟩:=hl.at;obtain ⟨ao',cap',rfl,hd1,hd2,hat'⟩:=hr.at;unfold maxLen at hc2 hd2;obtain ⟨R,hR⟩:=nmQ (eqL (eqL teq) l r);rw [←hR];have HR:=hide hR;clear hR hl hr;obtain ⟨n,hn⟩:=nmQ (l.length);obtain ⟨m,hm⟩:=nmQ (r.length);rw [←hn] at hc1 ⊢;rw [←hm] at hd1 ⊢;have HN:=hide hn;have HM:=hide hm;by_cases hlen:n=m
 ·subst hlen
  have hq:((n:Int) != (n:Int))=false:=(by simp);clear hn hm;go_enter Tryz.func95,Tryz.ntmps95;go_wp2;go_loopg [17] n (fun k v wr=>∃ i,i≤n∧k=n-i∧v=.int .i64 (i:Nat)∧Hid (∀ j (h:j<l.length) (h':j<r.length),j<i→(eqL teq) l[j] r[j]=true)∧Below w.heap.size w wr)
  case atStart=>exact ⟨0,Nat.zero_le _,rfl,rfl,fun j _ _ h=>absurd h (Nat.not_lt_zero _),Below.refl _ _⟩
  case round=>
   obtain ⟨i,hi,rfl,rfl,H,hbr⟩:=hrel;by_cases hlt:i<n
   ·have hil:i<l.length:=by have:=HN.out;omega
    have hir:i<r.length:=(by have:=HM.out;omega);obtain ⟨b,o,au,nu,cu,rfl,hb,hc,ht⟩:=hat i hil;obtain ⟨b',o',au',nu',cu',rfl,hb',hc',ht'⟩:=hat' i hir;have e1:=(hbr.cell (p:=⟨b,o+i,none⟩) hb).trans hc;have e2:=(hbr.cell (p:=⟨b',o'+i,none⟩) hb').trans hc';have g1:=ht.under hbr;have g2:=ht'.under hbr;clear hc hc' ht ht';clear hat hat'
    cases hxy:(eqL teq) l[i] r[i]
    ·
     go_wp2_with fail;refine (sameSize_any g1 g2).mono ?_;rintro e w1 ⟨rfl,b1⟩;rw [hxy]
     all_goals
      have hb1:=hbr.trans (b1.mono hbr.size);go_wp2;go_ret;refine ⟨ret_bool ?_,hb1⟩;rw [HR.out];exact (eqL_bad i hil hir hxy).symm
    ·
     go_wp2_with fail;refine (sameSize_any g1 g2).mono ?_;rintro e w1 ⟨rfl,b1⟩;rw [hxy]
     all_goals
      have hb1:=hbr.trans (b1.mono hbr.size);go_wp2;go_roundg (n-(i+1))
      case measure=>omega
      case rel=>
       refine ⟨i+1,by omega,rfl,by go_num,fun j hj hj' hji=>?_,hb1⟩;by_cases e:j=i
       ·subst e
        exact hxy
       ·exact H.out j hj hj' (by omega)
   ·have hie:i=n:=by omega
    subst hie;clear hat hat';go_wp2;go_ret;refine ⟨ret_bool ?_,hbr⟩;rw [HR.out];exact (eqL_all (by rw [←HN.out,←HM.out]) (fun j hj hj'=>H.out j hj hj' (by rw [HN.out];exact hj))).symm
 ·have hq:((n:Int) != (m:Int))=true:=by simp;omega
  clear hat hat' hn hm;go_enter Tryz.func95,Tryz.ntmps95;go_wp2;go_ret;refine ⟨ret_bool ?_,Below.refl _ _⟩;rw [HR.out];exact (eqL_len (by rw [←HN.out,←HM.out];exact hlen)).symm
def deq (a b:De):Bool:=seq a.name b.name&&(a.elem==b.elem)&&eqL teq a.n b.n
theorem deq_refl (a:De):deq a a=true:=by simp [deq,seq_refl,eqL_refl a.n (fun x _=>teq_refl x)]
def HDes (ok:Nat→Prop) (w:World) (v:Value) (l:List De):Prop:=∃ C,Sl ok 3 w v l.length C∧∀ i (h:i<l.length),∃ u,C i=[.string (l[i]).name,.int .u8 (l[i]).elem,u]∧HTerms ok w u (l[i]).n
theorem HDes.keep {ok:Nat→Prop} {w w':World} {v:Value} {l:List De} (h:HDes ok w v l) (hs:w.heap.size≤w'.heap.size) (hk:∀ i,ok i→i<w.heap.size→w'.heap[i]?=w.heap[i]?):HDes ok w' v l:=by
 obtain ⟨C,h1,h2⟩:=h;refine ⟨C,h1.keep hs hk,fun i hi=>?_⟩;obtain ⟨u,e,ht⟩:=h2 i hi;exact ⟨u,e,ht.keep hs hk⟩
theorem HDes.under {ok:Nat→Prop} {w w':World} {v:Value} {l:List De} (h:HDes ok w v l) (a:Below w.heap.size w w'):HDes ok w' v l:=h.keep a.size fun i _ hl=>a.block i hl
theorem HTerms.form {ok:Nat→Prop} {w:World} {v:Value} {l:List Tm} (h:HTerms ok w v l):∃ a n c,v=.slice a n c:=by
 obtain ⟨_,⟨au,cu,rfl,_⟩,_⟩:=h;exact ⟨_,_,_,rfl⟩
theorem HDes.at {ok:Nat→Prop} {w:World} {v:Value} {l:List De} (h:HDes ok w v l) :
  ∃ ao cap,v=.slice ao l.length cap∧l.length≤cap∧cap≤maxLen∧∀ i (h:i<l.length),∃ b o au nu cu,ao=some ⟨b,o,none⟩∧b<w.heap.size∧w.cell? ⟨b,o+i*3,none⟩=some (.string (l[i]).name)∧w.cell? ⟨b,o+i*3+1,none⟩=some (.int .u8 (l[i]).elem)∧w.cell? ⟨b,o+i*3+2,none⟩=some (.slice au nu cu)∧HTerms ok w (.slice au nu cu) (l[i]).n:=by
 obtain ⟨C,⟨ao,cap,hv,h1,h2,h3⟩,hC⟩:=h;refine ⟨ao,cap,hv,h1,h2,fun i hi=>?_⟩;obtain ⟨b,o,ha,hob,hb,hc⟩:=h3 (by omega);obtain ⟨u,hu,ht⟩:=hC i hi;have t0:=(hc i hi).2 0 (by decide);have t1:=(hc i hi).2 1 (by decide);have t2:=(hc i hi).2 2 (by decide);rw [hu] at t0 t1 t2;obtain ⟨au,nu,cu,rfl⟩:=ht.form;exact ⟨b,o,au,nu,cu,ha,hb,by simpa using t0,by simpa using t1,by simpa using t2,ht⟩
theorem sameDecl_any {ok ok':Nat→Prop} {w:World} {a b:De} {au au':Option Addr} {nu cu nu' cu':Nat} (ha:HTerms ok w (.slice au nu cu) a.n) (hb:HTerms ok' w (.slice au' nu' cu') b.n) :
  Calls Tryz.prog 61 #[.agg #[.string a.name,.int .u8 a.elem,.slice au nu cu],.agg #[.string b.name,.int .u8 b.elem,.slice au' nu' cu']] w fun e w'=>e=.returned (.bool (deq a b))∧Below w.heap.size w w':=by
 obtain ⟨R,hR⟩:=nmQ (deq a b);rw [←hR];unfold deq at hR;have hB:∀ o o',Below w.heap.size w ((w.alloc o).alloc o'):=fun o o'=>((Below.refl _ w).alloc nR o).alloc (by simp) o';have hcall:=fun o o'=>sameSize_any (ha.under (hB o o')) (hb.under (hB o o'));obtain ⟨an,ae,al⟩:=a;obtain ⟨bn,be,bl⟩:=b;simp only at hR hcall ⊢;unfold seq at hR
 cases h0:(an.toList==bn.toList)
 ·have:R=false:=by rw [hR,h0];rfl
  subst this;clear hR hcall;go_enter Tryz.func61,Tryz.ntmps61;go_wp2;go_ret;exact ⟨rfl,hB _ _⟩
 ·cases h1:(ae==be)
  ·have:R=false:=by rw [hR,h0,h1];rfl
   subst this;clear hR hcall;go_enter Tryz.func61,Tryz.ntmps61;go_wp2;go_ret;exact ⟨rfl,hB _ _⟩
  ·have h3:R=eqL teq al bl:=by rw [hR,h0,h1];rfl
   subst h3;clear hR;go_enter Tryz.func61,Tryz.ntmps61;go_wp2_with fail;refine (hcall _ _).mono ?_;rintro e w1 ⟨rfl,b1⟩;have hb1:=(hB _ _).trans (b1.mono (by simp;omega));clear hcall;go_wp2;go_ret;exact ⟨rfl,hb1⟩
theorem equalDecls_any {ok ok':Nat→Prop} {w:World} {v u:Value} {l r:List De} (hl:HDes ok w v l) (hr:HDes ok' w u r) :
  Calls Tryz.prog 60 #[v,u,.func (.func 61) #[] #[]] w fun e w'=>e=.returned (.bool (eqL deq l r))∧Below w.heap.size w w':=by
 obtain ⟨ao,cap,rfl,hc1,hc2,hat⟩:=hl.at;obtain ⟨ao',cap',rfl,hd1,hd2,hat'⟩:=hr.at;unfold maxLen at hc2 hd2;obtain ⟨R,hR⟩:=nmQ (eqL deq l r);rw [←hR];have HR:=hide hR;clear hR hl hr;obtain ⟨n,hn⟩:=nmQ (l.length);obtain ⟨m,hm⟩:=nmQ (r.length);rw [←hn] at hc1 ⊢;rw [←hm] at hd1 ⊢;have HN:=hide hn;have HM:=hide hm;by_cases hlen:n=m
 ·subst hlen
  have hq:((n:Int) != (n:Int))=false:=(by simp);clear hn hm;go_enter Tryz.func60,Tryz.ntmps60;go_wp2;go_loopg [17] n (fun k v wr=>∃ i,i≤n∧k=n-i∧v=.int .i64 (i:Nat)∧Hid (∀ j (h:j<l.length) (h':j<r.length),j<i→deq l[j] r[j]=true)∧Below w.heap.size w wr)
  case atStart=>exact ⟨0,Nat.zero_le _,rfl,rfl,fun j _ _ h=>absurd h (Nat.not_lt_zero _),Below.refl _ _⟩
  case round=>
   obtain ⟨i,hi,rfl,rfl,H,hbr⟩:=hrel;by_cases hlt:i<n
   ·have hil:i<l.length:=by have:=HN.out;omega
    have hir:i<r.length:=(by have:=HM.out;omega);obtain ⟨b,o,au,nu,cu,rfl,hb,hc,hd,he,ht⟩:=hat i hil;obtain ⟨b',o',au',nu',cu',rfl,hb',hc',hd',he',ht'⟩:=hat' i hir;have e1:=(hbr.cell (p:=⟨b,o+i*3,none⟩) hb).trans hc;have e2:=(hbr.cell (p:=⟨b',o'+i*3,none⟩) hb').trans hc';have e3:=(hbr.cell (p:=⟨b,o+i*3+1,none⟩) hb).trans hd;have e4:=(hbr.cell (p:=⟨b',o'+i*3+1,none⟩) hb').trans hd';have e5:=(hbr.cell (p:=⟨b,o+i*3+2,none⟩) hb).trans he;have e6:=(hbr.cell (p:=⟨b',o'+i*3+2,none⟩) hb').trans he';have zb:b<wr.heap.size:=Nat.lt_of_lt_of_le hb hbr.size;have zb':b'<wr.heap.size:=Nat.lt_of_lt_of_le hb' hbr.size;have f2:=fun o=>((Below.refl _ wr).alloc nR o).cell (p:=⟨b',o'+i*3,none⟩) zb' |>.trans e2
    have f4:=fun o=>((Below.refl _ wr).alloc nR o).cell (p:=⟨b',o'+i*3+1,none⟩) zb' |>.trans e4
    have f6:=fun o=>((Below.refl _ wr).alloc nR o).cell (p:=⟨b',o'+i*3+2,none⟩) zb' |>.trans e6
    have hB:∀ o o',Below wr.heap.size wr ((wr.alloc o).alloc o'):=fun o o'=>((Below.refl _ wr).alloc nR o).alloc (by simp) o';have g1:=ht.under hbr;have g2:=ht'.under hbr;clear hc hc' hd hd' he he' ht ht';clear hat hat'
    cases hxy:deq l[i] r[i]
    ·
     go_wp2_with fail;refine (sameDecl_any (g1.under (hB _ _)) (g2.under (hB _ _))).mono ?_;rintro e w1 ⟨rfl,b1⟩;rw [hxy]
     all_goals
      have hb1:=hbr.trans (((hB _ _).trans (b1.mono (by simp;omega))).mono hbr.size);go_wp2;go_ret;refine ⟨ret_bool ?_,hb1⟩;rw [HR.out];exact (eqL_bad i hil hir hxy).symm
    ·
     go_wp2_with fail;refine (sameDecl_any (g1.under (hB _ _)) (g2.under (hB _ _))).mono ?_;rintro e w1 ⟨rfl,b1⟩;rw [hxy]
     all_goals
      have hb1:=hbr.trans (((hB _ _).trans (b1.mono (by simp;omega))).mono hbr.size);go_wp2;go_roundg (n-(i+1))
      case measure=>omega
      case rel=>
       refine ⟨i+1,by omega,rfl,by go_num,fun j hj hj' hji=>?_,hb1⟩;by_cases e:j=i
       ·subst e
        exact hxy
       ·exact H.out j hj hj' (by omega)
   ·have hie:i=n:=by omega
    subst hie;clear hat hat';go_wp2;go_ret;refine ⟨ret_bool ?_,hbr⟩;rw [HR.out];exact (eqL_all (by rw [←HN.out,←HM.out]) (fun j hj hj'=>H.out j hj hj' (by rw [HN.out];exact hj))).symm
 ·have hq:((n:Int) != (m:Int))=true:=by simp;omega
  clear hat hat' hn hm;go_enter Tryz.func60,Tryz.ntmps60;go_wp2;go_ret;refine ⟨ret_bool ?_,Below.refl _ _⟩;rw [HR.out];exact (eqL_len (by rw [←HN.out,←HM.out];exact hlen)).symm
end Go.Proofs.YtophfbefnaelfaaGreatDoor
