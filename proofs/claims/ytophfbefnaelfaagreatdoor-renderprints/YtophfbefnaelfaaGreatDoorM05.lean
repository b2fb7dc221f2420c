import Derived.Test.YtophfbefnaelfaaGreatDoorM03
import Derived.Deep.QuietTactic
import Derived.BigQuiet
import Derived.Deep.LoopGhost
import Derived.Deep.RegionWith
set_option linter.unusedVariables false
set_option linter.unusedSimpArgs false
set_option maxHeartbeats 64000000
set_option maxRecDepth 100000
namespace Go.Proofs.YtophfbefnaelfaaGreatDoor
open Go.RowKit Go.IntWalk
def eqL {α:Type} (f:α→α→Bool):List α→List α→Bool
 | [],[]=>true
 | a :: l,b :: r=>f a b&&eqL f l r
 | _,_=>false
theorem eqL_len {α:Type} {f:α→α→Bool}:∀ {l r:List α},l.length≠r.length→eqL f l r=false
 | [],[],h=>by simp at h
 | [],_ :: _,_=>rfl
 | _ :: _,[],_=>rfl
 | a :: l,b :: r,h=>by
  have:eqL f l r=false:=eqL_len (by simpa using h);simp [eqL,this]
theorem eqL_all {α:Type} {f:α→α→Bool}:∀ {l r:List α},l.length=r.length→(∀ i (h:i<l.length) (h':i<r.length),f l[i] r[i]=true)→eqL f l r=true
 | [],[],_,_=>rfl
 | [],_ :: _,h,_=>by simp at h
 | _ :: _,[],h,_=>by simp at h
 | a :: l,b :: r,h,hf=>by
  have h1:=hf 0 (by simp) (by simp);have h2:eqL f l r=true:=eqL_all (by simpa using h) (fun i hi hi'=>hf (i+1) (by simpa using hi) (by simpa using hi'));simp at h1;simp [eqL,h1,h2]
theorem eqL_bad {α:Type} {f:α→α→Bool}:∀ {l r:List α} (i:Nat) (h:i<l.length) (h':i<r.length),f l[i] r[i]=false→eqL f l r=false
 | [],_,i,h,_,_=>by simp at h
 | _ :: _,[],i,_,h',_=>by simp at h'
 | a :: l,b :: r,0,_,_,hf=>by simp at hf;simp [eqL,hf]
 | a :: l,b :: r,i+1,h,h',hf=>by
  have:eqL f l r=false:=eqL_bad i (by simpa using h) (by simpa using h') (by simpa using hf);simp [eqL,this]
theorem eqL_refl {α:Type} {f:α→α→Bool} (l:List α) (h:∀ a,a ∈ l→f a a=true):eqL f l l=true:=eqL_all rfl (fun i hi _=>h _ (List.getElem_mem hi))
def seq (a b:ByteArray):Bool:=a.toList==b.toList
def teq (a b:Tm):Bool:=a.1==b.1&&seq a.2 b.2
theorem seq_refl (a:ByteArray):seq a a=true:=by simp [seq]
theorem teq_refl (a:Tm):teq a a=true:=by simp [teq,seq]
theorem HNames.at {ok:Nat→Prop} {w:World} {v:Value} {l:List ByteArray} (h:HNames ok w v l) :
  ∃ ao cap,v=.slice ao l.length cap∧l.length≤cap∧cap≤maxLen∧∀ i (h:i<l.length),∃ b o,ao=some ⟨b,o,none⟩∧b<w.heap.size∧w.cell? ⟨b,o+i,none⟩=some (.string l[i]):=by
 obtain ⟨C,⟨ao,cap,hv,h1,h2,h3⟩,hC⟩:=h;refine ⟨ao,cap,hv,h1,h2,fun i hi=>?_⟩;obtain ⟨b,o,ha,hob,hb,hc⟩:=h3 (by omega);have:=(hc i hi).2 0 (by decide);rw [hC i hi] at this;exact ⟨b,o,ha,hb,by simpa using this⟩
theorem HTerms.at {ok:Nat→Prop} {w:World} {v:Value} {l:List Tm} (h:HTerms ok w v l) :
  ∃ ao cap,v=.slice ao l.length cap∧l.length≤cap∧cap≤maxLen∧∀ i (h:i<l.length),∃ b o,ao=some ⟨b,o,none⟩∧b<w.heap.size∧w.cell? ⟨b,o+i*2,none⟩=some (.int .i64 (l[i]).1)∧w.cell? ⟨b,o+i*2+1,none⟩=some (.string (l[i]).2):=by
 obtain ⟨C,⟨ao,cap,hv,h1,h2,h3⟩,hC⟩:=h;refine ⟨ao,cap,hv,h1,h2,fun i hi=>?_⟩;obtain ⟨b,o,ha,hob,hb,hc⟩:=h3 (by omega);have t0:=(hc i hi).2 0 (by decide);have t1:=(hc i hi).2 1 (by decide);rw [hC i hi] at t0 t1;exact ⟨b,o,ha,hb,by simpa using t0,by simpa using t1⟩
theorem neqTerm (x1 y1:Int) (x2 y2:ByteArray) (w:World):(binOp .neq 86 (.agg #[.int .i64 x1,.string x2]) (.agg #[.int .i64 y1,.string y2])).run Tryz.prog w=.ok (.bool (!(teq (x1,x2) (y1,y2)))) w:=by
 simp [go_sem,teq,seq];by_cases h1:x1=y1<;>by_cases h2:x2.toList=y2.toList<;>simp [h1,h2]
theorem equalTerm_any {ok ok':Nat→Prop} {w:World} {v u:Value} {l r:List Tm} (hl:HTerms ok w v l) (hr:HTerms ok' w u r) :
  Calls Tryz.prog 121 #[v,u] w fun e w'=>e=.returned (.bool (eqL teq l r))∧Below w.heap.size w w':=by
 obtain ⟨ao,cap,rfl,hc1,hc2,hat⟩:=hl.at;obtain ⟨ao',cap',rfl,hd1,hd2,hat'⟩:=hr.at;unfold maxLen at hc2 hd2;obtain ⟨R,hR⟩:=nmQ (eqL teq l r);rw [←hR];have HR:=hide hR;clear hR hl hr;obtain ⟨n,hn⟩:=nmQ (l.length);obtain ⟨m,hm⟩:=nmQ (r.length);rw [←hn] at hc1 ⊢;rw [←hm] at hd1 ⊢;have HN:=hide hn;have HM:=hide hm;by_cases hlen:n=m
 ·subst hlen
  have hq:((n:Int) != (n:Int))=false:=(by simp);clear hn hm;go_enter Tryz.func121,Tryz.ntmps121;go_wp2;go_loopg [13] n (fun k v wr=>∃ i,i≤n∧k=n-i∧v=.int .i64 (i:Nat)∧Hid (∀ j (h:j<l.length) (h':j<r.length),j<i→teq l[j] r[j]=true)∧Below w.heap.size w wr)
  case atStart=>exact ⟨0,Nat.zero_le _,rfl,rfl,fun j _ _ h=>absurd h (Nat.not_lt_zero _),Below.refl _ _⟩
  case round=>
   obtain ⟨i,hi,rfl,rfl,H,hbr⟩:=hrel;by_cases hlt:i<n
   ·have hltr:=hlt
    obtain ⟨b,o,rfl,hb,hc,hd⟩:=hat i (by have:=HN.out;omega);obtain ⟨b',o',rfl,hb',hc',hd'⟩:=hat' i (by have:=HM.out;omega);have e1:=(hbr.cell (p:=⟨b,o+i*2,none⟩) hb).trans hc;have e2:=(hbr.cell (p:=⟨b',o'+i*2,none⟩) hb').trans hc';have e3:=(hbr.cell (p:=⟨b,o+i*2+1,none⟩) hb).trans hd;have e4:=(hbr.cell (p:=⟨b',o'+i*2+1,none⟩) hb').trans hd';have hil:i<l.length:=(by have:=HN.out;omega);have hir:i<r.length:=(by have:=HM.out;omega);obtain ⟨x,hx⟩:=nmQ (l[i]);obtain ⟨y,hy⟩:=nmQ (r[i]);rw [←hx] at e1 e3;rw [←hy] at e2 e4;have HX:=hide hx;have HY:=hide hy;clear hat hat' hc hc' hd hd' hx hy;obtain ⟨x1,x2⟩:=x;obtain ⟨y1,y2⟩:=y
    cases hxy:teq (x1,x2) (y1,y2)
    ·
     have hne:=fun w=>neqTerm x1 y1 x2 y2 w;rw [hxy] at hne;go_wp2
     go_region
     go_wp2;go_ret;refine ⟨ret_bool ?_,hbr.drew⟩;rw [HR.out];exact (eqL_bad i (by rw [←HN.out];exact hlt) (by rw [←HM.out];exact hlt) (by rw [←HX.out,←HY.out];exact hxy)).symm
    ·
     have hne:=fun w=>neqTerm x1 y1 x2 y2 w;rw [hxy] at hne;go_wp2
     go_region
     go_wp2;go_roundg (n-(i+1))
     case measure=>omega
     case rel=>
      refine ⟨i+1,by omega,rfl,by go_num,fun j hj hj' hji=>?_,hbr.drew⟩;by_cases e:j=i
      ·subst e
       rw [←HX.out,←HY.out];exact hxy
      ·exact H.out j hj hj' (by omega)
   ·have hie:i=n:=by omega
    subst hie;clear hat hat';go_wp2;go_ret;refine ⟨ret_bool ?_,hbr⟩;rw [HR.out];exact (eqL_all (by rw [←HN.out,←HM.out]) (fun j hj hj'=>H.out j hj hj' (by rw [HN.out];exact hj))).symm
 ·have hq:((n:Int) != (m:Int))=true:=by simp;omega
  clear hat hat' hn hm;go_enter Tryz.func121,Tryz.ntmps121;go_wp2;go_ret;refine ⟨ret_bool ?_,Below.refl _ _⟩;rw [HR.out];exact (eqL_len (by rw [←HN.out,←HM.out];exact hlen)).symm
theorem sameSize_any {ok ok':Nat→Prop} {w:World} {v u:Value} {l r:List Tm} (hl:HTerms ok w v l) (hr:HTerms ok' w u r) :
  Calls Tryz.prog 94 #[v,u] w fun e w'=>e=.returned (.bool (eqL teq l r))∧Below w.heap.size w w':=by
 go_enter Tryz.func94,Tryz.ntmps94;go_wp2_with fail;refine (equalTerm_any hl hr).mono ?_;rintro e w' ⟨rfl,hb⟩;go_wp2;go_ret;exact ⟨rfl,hb⟩
theorem HSizes.at {ok:Nat→Prop} {w:World} {v:Value} {l:List (List Tm)} (h:HSizes ok w v l) :
  ∃ ao cap,v=.slice ao l.length cap∧l.length≤cap∧cap≤maxLen∧∀ i (h:i<l.length),∃ b o au nu cu,ao=some ⟨b,o,none⟩∧b<w.heap.size∧w.cell? ⟨b,o+i,none⟩=some (.slice au nu cu)∧HTerms ok w (.slice au nu cu) l[i]:=by
 obtain ⟨C,⟨ao,cap,hv,h1,h2,h3⟩,hC⟩:=h;refine ⟨ao,cap,hv,h1,h2,fun i hi=>?_⟩;obtain ⟨b,o,ha,hob,hb,hc⟩:=h3 (by omega);have:=(hc i hi).2 0 (by decide);obtain ⟨u,hu,ht⟩:=hC i hi;rw [hu] at this;have ht0:=ht;obtain ⟨_,⟨au,cu,rfl,_⟩,_⟩:=ht0;exact ⟨b,o,au,_,cu,ha,hb,by simpa using this,ht⟩
theorem HTerms.under {ok:Nat→Prop} {w w':World} {v:Value} {l:List Tm} (h:HTerms ok w v l) (a:Below w.heap.size w w'):HTerms ok w' v l:=h.keep a.size fun i _ hl=>a.block i hl
theorem HSizes.under {ok:Nat→Prop} {w w':World} {v:Value} {l:List (List Tm)} (h:HSizes ok w v l) (a:Below w.heap.size w w'):HSizes ok w' v l:=h.keep a.size fun i _ hl=>a.block i hl
theorem HNames.under {ok:Nat→Prop} {w w':World} {v:Value} {l:List ByteArray} (h:HNames ok w v l) (a:Below w.heap.size w w'):HNames ok w' v l:=h.keep a.size fun i _ hl=>a.block i hl
theorem refNames_any {ok ok':Nat→Prop} {w:World} {v u:Value} {l r:List ByteArray} (hl:HNames ok w v l) (hr:HNames ok' w u r) :
  Calls Tryz.prog 32 #[v,u] w fun e w'=>e=.returned (.bool (eqL seq l r))∧∃ m,w'=w.drewN m:=by
 obtain ⟨ao,cap,rfl,hc1,hc2,hat⟩:=hl.at;obtain ⟨ao',cap',rfl,hd1,hd2,hat'⟩:=hr.at;unfold maxLen at hc2 hd2;obtain ⟨R,hR⟩:=nmQ (eqL seq l r);rw [←hR];have HR:=hide hR;clear hR hl hr;obtain ⟨n,hn⟩:=nmQ (l.length);obtain ⟨m,hm⟩:=nmQ (r.length);rw [←hn] at hc1 ⊢;rw [←hm] at hd1 ⊢;have HN:=hide hn;have HM:=hide hm;by_cases hlen:n=m
 ·subst hlen
  have hq:((n:Int) != (n:Int))=false:=(by simp);clear hn hm;go_enter Tryz.func32,Tryz.ntmps32;go_wp2;go_loopg [5] n (fun k v wr=>∃ i d,i≤n∧k=n-i∧v=.int .i64 (i:Nat)∧Hid (∀ j (h:j<l.length) (h':j<r.length),j<i→seq l[j] r[j]=true)∧wr=w.drewN d)
  case atStart=>exact ⟨0,0,Nat.zero_le _,rfl,rfl,fun j _ _ h=>absurd h (Nat.not_lt_zero _),rfl⟩
  case round=>
   obtain ⟨i,d,hi,rfl,rfl,H,hW⟩:=hrel;have HW:=hide hW;clear hW;by_cases hlt:i<n
   ·have hil:i<l.length:=by have:=HN.out;omega
    have hir:i<r.length:=(by have:=HM.out;omega);obtain ⟨b,o,rfl,hb,hc⟩:=hat i hil;obtain ⟨b',o',rfl,hb',hc'⟩:=hat' i hir;have e1:wr.cell? ⟨b,o+i,none⟩=some (.string l[i]):=(by rw [HW.out];exact hc);have e2:wr.cell? ⟨b',o'+i,none⟩=some (.string r[i]):=(by rw [HW.out];exact hc');obtain ⟨x,hx⟩:=nmQ (l[i]);obtain ⟨y,hy⟩:=nmQ (r[i]);rw [←hx] at e1;rw [←hy] at e2;have HX:=hide hx;have HY:=hide hy;clear hc hc' hx hy;clear hat hat'
    cases h0:(x.toList==y.toList)
    ·
     have hbad:seq l[i] r[i]=false:=(by rw [←HX.out,←HY.out];exact h0);have HBAD:=hide hbad;clear hbad
     go_wp2_with fail;go_quiet (fail);go_wp2;go_ret;refine ⟨ret_bool ?_,_,by rw [HW.out];exact World.drewN_drewN _ _ _⟩;rw [HR.out];exact (eqL_bad i hil hir HBAD.out).symm
    ·
     have hall:seq l[i] r[i]=true:=(by rw [←HX.out,←HY.out];exact h0);have HALL:=hide hall;clear hall;go_wp2_with fail;go_quiet (fail);go_wp2;go_roundg (n-(i+1))
     case measure=>omega
     case rel=>
      refine ⟨i+1,_,by omega,rfl,by go_num,fun j hj hj' hji=>?_,by rw [HW.out];exact World.drewN_drewN _ _ _⟩;by_cases e:j=i
      ·subst e
       exact HALL.out
      ·exact H.out j hj hj' (by omega)
   ·have hie:i=n:=by omega
    subst hie;clear hat hat';go_wp2;go_ret;refine ⟨ret_bool ?_,_,HW.out⟩;rw [HR.out];exact (eqL_all (by rw [←HN.out,←HM.out]) (fun j hj hj'=>H.out j hj hj' (by rw [HN.out];exact hj))).symm
 ·have hq:((n:Int) != (m:Int))=true:=by simp;omega
  clear hat hat' hn hm;go_enter Tryz.func32,Tryz.ntmps32;go_wp2;go_ret;refine ⟨ret_bool ?_,0,rfl⟩;rw [HR.out];exact (eqL_len (by rw [←HN.out,←HM.out];exact hlen)).symm
theorem refTerms_any {ok ok':Nat→Prop} {w:World} {v u:Value} {l r:List Tm} (hl:HTerms ok w v l) (hr:HTerms ok' w u r) :
  Calls Tryz.prog 52 #[v,u] w fun e w'=>e=.returned (.bool (eqL teq l r))∧∃ m,w'=w.drewN m:=by
 obtain ⟨ao,cap,rfl,hc1,hc2,hat⟩:=hl.at;obtain ⟨ao',cap',rfl,hd1,hd2,hat'⟩:=hr.at;unfold maxLen at hc2 hd2;obtain ⟨R,hR⟩:=nmQ (eqL teq l r);rw [←hR];have HR:=hide hR;clear hR hl hr;obtain ⟨n,hn⟩:=nmQ (l.length);obtain ⟨m,hm⟩:=nmQ (r.length);rw [←hn] at hc1 ⊢;rw [←hm] at hd1 ⊢;have HN:=hide hn;have HM:=hide hm;by_cases hlen:n=m
 ·subst hlen
  have hq:((n:Int) != (n:Int))=false:=(by simp);clear hn hm;go_enter Tryz.func52,Tryz.ntmps52;go_wp2;go_loopg [5] n (fun k v wr=>∃ i d,i≤n∧k=n-i∧v=.int .i64 (i:Nat)∧Hid (∀ j (h:j<l.length) (h':j<r.length),j<i→teq l[j] r[j]=true)∧wr=w.drewN d)
  case atStart=>exact ⟨0,0,Nat.zero_le _,rfl,rfl,fun j _ _ h=>absurd h (Nat.not_lt_zero _),rfl⟩
  case round=>
   obtain ⟨i,d,hi,rfl,rfl,H,hW⟩:=hrel;have HW:=hide hW;clear hW;by_cases hlt:i<n
   ·have hil:i<l.length:=by have:=HN.out;omega
    have hir:i<r.length:=(by have:=HM.out;omega);obtain ⟨b,o,rfl,hb,hc,hd⟩:=hat i hil;obtain ⟨b',o',rfl,hb',hc',hd'⟩:=hat' i hir;have e1:wr.cell? ⟨b,o+i*2,none⟩=some (.int .i64 (l[i]).1):=(by rw [HW.out];exact hc);have e2:wr.cell? ⟨b',o'+i*2,none⟩=some (.int .i64 (r[i]).1):=(by rw [HW.out];exact hc');have e3:wr.cell? ⟨b,o+i*2+1,none⟩=some (.string (l[i]).2):=(by rw [HW.out];exact hd);have e4:wr.cell? ⟨b',o'+i*2+1,none⟩=some (.string (r[i]).2):=(by rw [HW.out];exact hd');obtain ⟨x,hx⟩:=nmQ (l[i]);obtain ⟨y,hy⟩:=nmQ (r[i]);rw [←hx] at e1 e3;rw [←hy] at e2 e4;have HX:=hide hx;have HY:=hide hy;clear hc hc' hd hd' hx hy;obtain ⟨x1,x2⟩:=x;obtain ⟨y1,y2⟩:=y;have hne:=fun w=>neqTerm x1 y1 x2 y2 w;clear hat hat'
    cases h0:teq (x1,x2) (y1,y2)
    ·
     have hbad:teq l[i] r[i]=false:=(by rw [←HX.out,←HY.out];exact h0);have HBAD:=hide hbad;clear hbad;rw [h0] at hne;go_wp2_with fail;go_quiet (fail);go_wp2;go_ret;refine ⟨ret_bool ?_,_,by rw [HW.out];exact World.drewN_drewN _ _ _⟩;rw [HR.out];exact (eqL_bad i hil hir HBAD.out).symm
    ·
     rw [h0] at hne;have hall:teq l[i] r[i]=true:=(by rw [←HX.out,←HY.out];exact h0);have HALL:=hide hall;clear hall;go_wp2_with fail;go_quiet (fail);go_wp2;go_roundg (n-(i+1))
     case measure=>omega
     case rel=>
      refine ⟨i+1,_,by omega,rfl,by go_num,fun j hj hj' hji=>?_,by rw [HW.out];exact World.drewN_drewN _ _ _⟩;by_cases e:j=i
      ·subst e
       exact HALL.out
      ·exact H.out j hj hj' (by omega)
   ·have hie:i=n:=by omega
    subst hie;clear hat hat';go_wp2;go_ret;refine ⟨ret_bool ?_,_,HW.out⟩;rw [HR.out];exact (eqL_all (by rw [←HN.out,←HM.out]) (fun j hj hj'=>H.out j hj hj' (by rw [HN.out];exact hj))).symm
 ·have hq:((n:Int) != (m:Int))=true:=by simp;omega
  clear hat hat' hn hm;go_enter Tryz.func52,Tryz.ntmps52;go_wp2;go_ret;refine ⟨ret_bool ?_,0,rfl⟩;rw [HR.out];exact (eqL_len (by rw [←HN.out,←HM.out];exact hlen)).symm
theorem drewN2 {w wr:World} {a:Nat} (h:wr=w.drewN a) (b:Nat):Below w.heap.size w (wr.drewN b):=by rw [h];exact ⟨rfl,rfl,rfl,Nat.le_refl _,fun _ _=>rfl⟩
theorem refSizes_any {ok ok':Nat→Prop} {w:World} {v u:Value} {l r:List (List Tm)} (hl:HSizes ok w v l) (hr:HSizes ok' w u r) :
  Calls Tryz.prog 34 #[v,u] w fun e w'=>e=.returned (.bool (eqL (eqL teq) l r))∧∃ m,w'=w.drewN m:=by
 obtain ⟨ao,cap,rfl,hc1,hc2,hat⟩:=hl.at;obtain ⟨ao',cap',rfl,hd1,hd2,hat'⟩:=hr.at;unfold maxLen at hc2 hd2;obtain ⟨R,hR⟩:=nmQ (eqL (eqL teq) l r);rw [←hR];have HR:=hide hR;clear hR hl hr;obtain ⟨n,hn⟩:=nmQ (l.length);obtain ⟨m,hm⟩:=nmQ (r.length);rw [←hn] at hc1 ⊢;rw [←hm] at hd1 ⊢;have HN:=hide hn;have HM:=hide hm;by_cases hlen:n=m
 ·subst hlen
  have hq:((n:Int) != (n:Int))=false:=(by simp);clear hn hm;go_enter Tryz.func34,Tryz.ntmps34;go_wp2;go_loopg [5] n (fun k v wr=>∃ i d,i≤n∧k=n-i∧v=.int .i64 (i:Nat)∧Hid (∀ j (h:j<l.length) (h':j<r.length),j<i→(eqL teq) l[j] r[j]=true)∧wr=w.drewN d)
  case atStart=>exact ⟨0,0,Nat.zero_le _,rfl,rfl,fun j _ _ h=>absurd h (Nat.not_lt_zero _),rfl⟩
  case round=>
   obtain ⟨i,d,hi,rfl,rfl,H,hW⟩:=hrel;have HW:=hide hW;clear hW;by_cases hlt:i<n
   ·have hil:i<l.length:=by have:=HN.out;omega
    have hir:i<r.length:=(by have:=HM.out;omega);obtain ⟨b,o,au,nu,cu,rfl,hb,hc,ht⟩:=hat i hil;obtain ⟨b',o',au',nu',cu',rfl,hb',hc',ht'⟩:=hat' i hir;have e1:wr.cell? ⟨b,o+i,none⟩=some (.slice au nu cu):=(by rw [HW.out];exact hc);have e2:wr.cell? ⟨b',o'+i,none⟩=some (.slice au' nu' cu'):=(by rw [HW.out];exact hc');have hcall:=fun q=>refTerms_any (w:=wr.drewN q) (ht.under (drewN2 HW.out q)) (ht'.under (drewN2 HW.out q));clear hc hc' ht ht';clear hat hat'
    cases h0:eqL teq l[i] r[i]
    ·
     have hbad:(eqL teq) l[i] r[i]=false:=(by exact h0);have HBAD:=hide hbad;clear hbad;rw [h0] at hcall;go_wp2_with fail;go_quiet (first | (go_at_call 52;refine Calls.quiet_of (hcall _)));go_wp2;go_ret;refine ⟨ret_bool ?_,_,by rw [HW.out];exact World.drewN_drewN _ _ _⟩;rw [HR.out];exact (eqL_bad i hil hir HBAD.out).symm
    ·
     rw [h0] at hcall;have hall:(eqL teq) l[i] r[i]=true:=(by exact h0);have HALL:=hide hall;clear hall;go_wp2_with fail;go_quiet (first | (go_at_call 52;refine Calls.quiet_of (hcall _)));go_wp2;go_roundg (n-(i+1))
     case measure=>omega
     case rel=>
      refine ⟨i+1,_,by omega,rfl,by go_num,fun j hj hj' hji=>?_,by rw [HW.out];exact World.drewN_drewN _ _ _⟩;by_cases e:j=i
      ·subst e
       exact HALL.out
      ·exact H.out j hj hj' (by omega)
   ·have hie:i=n:=by omega
    subst hie;clear hat hat';go_wp2;go_ret;refine ⟨ret_bool ?_,_,HW.out⟩;rw [HR.out];exact (eqL_all (by rw [←HN.out,←HM.out]) (fun j hj hj'=>H.out j hj hj' (by rw [HN.out];exact hj))).symm
 ·have hq:((n:Int) != (m:Int))=true:=by simp;omega
  clear hat hat' hn hm;go_enter Tryz.func34,Tryz.ntmps34;go_wp2;go_ret;refine ⟨ret_bool ?_,0,rfl⟩;rw [HR.out];exact (eqL_len (by rw [←HN.out,←HM.out];exact hlen)).symm
end Go.Proofs.YtophfbefnaelfaaGreatDoor
