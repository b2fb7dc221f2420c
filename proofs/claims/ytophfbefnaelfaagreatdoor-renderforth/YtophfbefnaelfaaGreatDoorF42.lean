import Derived.Test.YtophfbefnaelfaaGreatDoorF41
set_option linter.unusedVariables false
set_option linter.unusedSimpArgs false
set_option maxHeartbeats 64000000
set_option maxRecDepth 100000
namespace Go.Proofs.YtophfbefnaelfaaGreatDoor
open Go.RowKit
namespace Bk
open Tk Tx
theorem G.partQ {p:List ByteArray} {B:List Bt} (h:G p B) (r least:Int):G (partQ r p least) (partQK r B least):=by
 unfold Tx.partQ partQK
 split
 ·exact h
 ·exact O.g (o_open.app (h.appO o_close s_close))
theorem Fs.partQ {p:List ByteArray} (h:Fs p) (r least:Int):Fs (partQ r p least):=by
 unfold Tx.partQ
 split
 ·exact h
 ·exact (Fs.lit (c:=40) (l:=[]) (by decide)).app _
structure PartOk (op k n:Int) (name:ByteArray) (S:List (List Tm)) (L:List Ex):Prop where
 form:Rn.formOk (.mk op k n name S L)=true
 name:op=3→isName name.data.toList=true
 num:0≤n∧n<1000000000000000000
 sizes:∀ s ∈ S,Rn.sizeC s=0
 parts:∀ x ∈ L,Rn.partC x=0
theorem partsC_all:∀ {L:List Ex},Rn.partsC L=0→∀ x ∈ L,Rn.partC x=0
 | [],_,x,hx=>by simp at hx
 | y :: l,h,x,hx=>by
  unfold Rn.partsC at h
  split at h
  ·rename_i hy
   rcases List.mem_cons.1 hx with rfl | hx
   ·exact hy
   ·exact partsC_all h x hx
  ·rename_i hy
   exact absurd h hy
theorem part_of {op k n:Int} {name:ByteArray} {S:List (List Tm)} {L:List Ex} (h:Rn.partC (.mk op k n name S L)=0):PartOk op k n name S L:=by
 unfold Rn.partC at h
 split at h
 ·simp at h
 ·rename_i h1
  split at h
  ·simp at h
  ·rename_i h2
   split at h
   ·simp at h
   ·rename_i h3
    split at h
    ·rename_i h4
     exact absurd h h4
    ·rename_i h4
     exact ⟨by simpa using h1,fun e=>by simpa [e] using h2,by omega,firstC_all (by simpa using h4),partsC_all h⟩
theorem form_of {op k n:Int} {name:ByteArray} {S:List (List Tm)} {L:List Ex} (h:Rn.formOk (.mk op k n name S L)=true) :
  (1≤op∧op≤15)∧(Rn.shp op.toNat).2.1≤(L.length:Int)∧(L.length:Int)≤(Rn.shp op.toNat).2.2.1∧(S.length:Int)=(Rn.shp op.toNat).2.2.2.1∧(Rn.shp op.toNat).2.2.2.2.1≤k∧k≤(Rn.shp op.toNat).2.2.2.2.2∧Rn.numOk op n=true∧(op=3∨name.size=0):=by
 unfold Rn.formOk at h;simp only [Bool.and_eq_true,Bool.or_eq_true,Ex.op,Ex.k,Ex.n,Ex.name,Ex.S,Ex.L] at h;obtain ⟨h1,⟨⟨⟨⟨⟨h2,h3⟩,h4⟩,h5⟩,h6⟩,h7⟩,h8⟩:=h;exact ⟨of_decide_eq_true h1,of_decide_eq_true h2,of_decide_eq_true h3,of_decide_eq_true h4,of_decide_eq_true h5,of_decide_eq_true h6,h7,h8.imp of_decide_eq_true of_decide_eq_true⟩
theorem parts_mem:∀ {L:List Ex} {x:Ex},x ∈ L→parts x≤partsL L
 | [],x,h=>by simp at h
 | y :: l,x,h=>by
  simp only [partsL];rcases List.mem_cons.1 h with rfl | h
  ·omega
  ·have:=parts_mem h;omega
theorem len1 {α:Type} {L:List α} (h:L.length=1):∃ a,L=[a]:=by
 match L,h with
 | [a],_=>exact ⟨a,rfl⟩
theorem len2 {α:Type} {L:List α} (h:L.length=2):∃ a b,L=[a,b]:=by
 match L,h with
 | [a,b],_=>exact ⟨a,b,rfl⟩
theorem len3 {α:Type} {L:List α} (h:L.length=3):∃ a b c,L=[a,b,c]:=by
 match L,h with
 | [a,b,c],_=>exact ⟨a,b,c,rfl⟩
theorem commas_baresK (L:List Ex):commasK at0K (baresK L)=commasK exprK L:=by
 rw [baresK_eq]
 cases L with
 | nil=>rfl
 | cons x l=>
  simp only [List.map_cons,commasK,List.flatMap_map];rfl
theorem G.exprs {L:List Ex} (h:∀ x ∈ L,G (bare x) (bareK x)):G (Tx.commas at0 (bares L)) (commasK at0K (baresK L)):=by
 rw [commas_bares,commas_baresK];exact G.commas (fun x hx=>(h x hx).partQ _ _)
theorem G.sizes {S:List (List Tm)} (h:∀ s ∈ S,Rn.sizeC s=0) {a:List ByteArray} {A:List Bt} (ha:G a A):G (a++Tx.sizesP S) (A++sizesK S) :=
 G.rows S 0 a A ha (fun s hs j _=>⟨o_comma.appG (G.size (h s hs)).1,s_comma.app _⟩)
theorem opS_o:∀ k:Nat,(1≤k∧k≤5)∨(8≤k∧k≤12)→O [(Tx.opT k).2.1] [opS k]∧St [(Tx.opT k).2.1]∧(Tx.opT k).2.1.size≠0:=by
 intro k hk;have hk2:k=1∨k=2∨k=3∨k=4∨k=5∨k=8∨k=9∨k=10∨k=11∨k=12:=(by omega);rcases hk2 with rfl | rfl | rfl | rfl | rfl | rfl | rfl | rfl | rfl | rfl
 ·exact ⟨O.lit (by rfl),St.lit (c:=32) (l:=[43,32]) (by decide),by decide⟩
 ·exact ⟨O.lit (by rfl),St.lit (c:=32) (l:=[45,32]) (by decide),by decide⟩
 ·exact ⟨O.lit (by rfl),St.lit (c:=32) (l:=[42,32]) (by decide),by decide⟩
 ·exact ⟨O.lit (by rfl),St.lit (c:=32) (l:=[47,32]) (by decide),by decide⟩
 ·exact ⟨O.lit (by rfl),St.lit (c:=32) (l:=[37,32]) (by decide),by decide⟩
 ·exact ⟨O.lit (by rfl),St.lit (c:=32) (l:=[60,32]) (by decide),by decide⟩
 ·exact ⟨O.lit (by rfl),St.lit (c:=32) (l:=[61,61,32]) (by decide),by decide⟩
 ·exact ⟨O.word (a:=[32]) (t:=[97,110,100]) (b:=[32]) (A:=[]) (B:=[]) (by rfl) (by decide) (by rfl) (by decide) (by simp),St.lit (c:=32) (l:=[97,110,100,32]) (by decide),by decide⟩
 ·exact ⟨O.word (a:=[32]) (t:=[111,114]) (b:=[32]) (A:=[]) (B:=[]) (by rfl) (by decide) (by rfl) (by decide) (by simp),St.lit (c:=32) (l:=[111,114,32]) (by decide),by decide⟩
 ·exact ⟨O.word (a:=[32]) (t:=[120,111,114]) (b:=[32]) (A:=[]) (B:=[]) (by rfl) (by decide) (by rfl) (by decide) (by simp),St.lit (c:=32) (l:=[120,111,114,32]) (by decide),by decide⟩
theorem opW_g:∀ k:Nat,1≤k∧k≤14→G [(Tx.opT k).1] [opW k]∧Fs [(Tx.opT k).1]:=by
 intro k hk;have hk2:k=1∨k=2∨k=3∨k=4∨k=5∨k=6∨k=7∨k=8∨k=9∨k=10∨k=11∨k=12∨k=13∨k=14:=(by omega);rcases hk2 with rfl | rfl | rfl | rfl | rfl | rfl | rfl | rfl | rfl | rfl | rfl | rfl | rfl | rfl
 ·exact ⟨G.word (t:=[97,100,100]) (by decide),Fs.lit (c:=97) (l:=[100,100]) (by decide)⟩
 ·exact ⟨G.word (t:=[115,117,98]) (by decide),Fs.lit (c:=115) (l:=[117,98]) (by decide)⟩
 ·exact ⟨G.word (t:=[109,117,108]) (by decide),Fs.lit (c:=109) (l:=[117,108]) (by decide)⟩
 ·exact ⟨G.word (t:=[100,105,118]) (by decide),Fs.lit (c:=100) (l:=[105,118]) (by decide)⟩
 ·exact ⟨G.word (t:=[109,111,100]) (by decide),Fs.lit (c:=109) (l:=[111,100]) (by decide)⟩
 ·exact ⟨G.word (t:=[109,105,110]) (by decide),Fs.lit (c:=109) (l:=[105,110]) (by decide)⟩
 ·exact ⟨G.word (t:=[109,97,120]) (by decide),Fs.lit (c:=109) (l:=[97,120]) (by decide)⟩
 ·exact ⟨G.word (t:=[108,101,115,115]) (by decide),Fs.lit (c:=108) (l:=[101,115,115]) (by decide)⟩
 ·exact ⟨G.word (t:=[101,113]) (by decide),Fs.lit (c:=101) (l:=[113]) (by decide)⟩
 ·exact ⟨G.word (t:=[97,110,100]) (by decide),Fs.lit (c:=97) (l:=[110,100]) (by decide)⟩
 ·exact ⟨G.word (t:=[111,114]) (by decide),Fs.lit (c:=111) (l:=[114]) (by decide)⟩
 ·exact ⟨G.word (t:=[120,111,114]) (by decide),Fs.lit (c:=120) (l:=[111,114]) (by decide)⟩
 ·exact ⟨G.word (t:=[110,101,103]) (by decide),Fs.lit (c:=110) (l:=[101,103]) (by decide)⟩
 ·exact ⟨G.word (t:=[110,111,116]) (by decide),Fs.lit (c:=110) (l:=[111,116]) (by decide)⟩
theorem shp_g:∀ k:Nat,(7≤k∧k≤10)∨(12≤k∧k≤15)→G [(Rn.shp k).1] [wd (Rn.shp k).1.data.toList]∧Fs [(Rn.shp k).1]:=by
 intro k hk;have hk2:k=7∨k=8∨k=9∨k=10∨k=12∨k=13∨k=14∨k=15:=(by omega);rcases hk2 with rfl | rfl | rfl | rfl | rfl | rfl | rfl | rfl
 ·exact ⟨G.word (t:=[109,97,112]) (by decide),Fs.lit (c:=109) (l:=[97,112]) (by decide)⟩
 ·exact ⟨G.word (t:=[102,111,108,100]) (by decide),Fs.lit (c:=102) (l:=[111,108,100]) (by decide)⟩
 ·exact ⟨G.word (t:=[115,99,97,110]) (by decide),Fs.lit (c:=115) (l:=[99,97,110]) (by decide)⟩
 ·exact ⟨G.word (t:=[102,105,108,108]) (by decide),Fs.lit (c:=102) (l:=[105,108,108]) (by decide)⟩
 ·exact ⟨G.word (t:=[119,105,116,104]) (by decide),Fs.lit (c:=119) (l:=[105,116,104]) (by decide)⟩
 ·exact ⟨G.word (t:=[115,108,105,99,101]) (by decide),Fs.lit (c:=115) (l:=[108,105,99,101]) (by decide)⟩
 ·exact ⟨G.word (t:=[99,97,116]) (by decide),Fs.lit (c:=99) (l:=[97,116]) (by decide)⟩
 ·exact ⟨G.word (t:=[112,114,101]) (by decide),Fs.lit (c:=112) (l:=[114,101]) (by decide)⟩
theorem G.bare:∀ (q:Nat) (e:Ex),parts e≤q→Rn.partC e=0→G (bare e) (bareK e)∧Fs (bare e)
 | 0,.mk op k n name S L,h,_=>by simp [parts] at h
 | q+1,.mk op k n name S L,h,hC=>by
  have hp:=part_of hC;obtain ⟨f1,f2,f3,f4,f5,f6,f7,f8⟩:=form_of hp.form;have ih:∀ x ∈ L,G (Tx.bare x) (bareK x)∧Fs (Tx.bare x):=fun x hx=>G.bare q x (by
   have:=parts_mem hx;simp only [parts] at h;omega) (hp.parts x hx)
  have hops:op=1∨op=2∨op=3∨op=4∨op=5∨op=6∨op=11∨((7≤op.toNat∧op.toNat≤10)∨(12≤op.toNat∧op.toNat≤15)):=(by omega);rw [Tx.bare,bareK];rcases hops with rfl | rfl | rfl | rfl | rfl | rfl | rfl | ho
  ·exact ⟨G.num hp.num.1 hp.num.2,Fs.num hp.num.1 hp.num.2⟩
  ·unfold Tx.bareOf bareOfK
   simp only [show ¬(2:Int)=1 by decide,if_false,if_true]
   split
   ·exact ⟨G.word (t:=[116,114,117,101]) (by decide),Fs.lit (c:=116) (l:=[114,117,101]) (by decide)⟩
   ·exact ⟨G.word (t:=[102,97,108,115,101]) (by decide),Fs.lit (c:=102) (l:=[97,108,115,101]) (by decide)⟩
  ·unfold Tx.bareOf bareOfK
   simp only [show ¬(3:Int)=1 by decide,show ¬(3:Int)=2 by decide,if_false,if_true];exact ⟨G.name (hp.name rfl),Fs.name (hp.name rfl)⟩
  ·have hl:L.length=1:=by simp [Rn.shp,Rn.shpT] at f2 f3;omega
   obtain ⟨x,rfl⟩:=len1 hl;have hx:=ih x (by simp);have hk:k=13∨k=14:=(by simp [Rn.shp,Rn.shpT] at f5 f6;omega);unfold Tx.bareOf bareOfK;simp only [show ¬(4:Int)=1 by decide,show ¬(4:Int)=2 by decide,show ¬(4:Int)=3 by decide,if_false,if_true,Tx.bares,baresK,Tx.nth,nthK,List.getD_cons_zero];have g:=hx.1.partQ (Tx.rank x) 6;have f:=hx.2.partQ (Tx.rank x) 6;rcases hk with rfl | rfl
   ·exact ⟨minus_g g f,(Fs.lit (c:=45) (l:=[]) (by decide)).app _⟩
   ·have ho:O [(Tx.opT (14:Int).toNat).2.1] [opS (14:Int).toNat]:=O.word (a:=[]) (t:=[110,111,116]) (b:=[32]) (A:=[]) (B:=[]) (by rfl) (by decide) (by rfl) (by decide) (by simp)
    exact ⟨ho.appG g,(Fs.lit (c:=110) (l:=[111,116,32]) (by decide)).app _⟩
  ·have hl:L.length=2:=by simp [Rn.shp,Rn.shpT] at f2 f3;omega
   obtain ⟨x,y,rfl⟩:=len2 hl;have hx:=ih x (by simp);have hy:=ih y (by simp);have hk:1≤k∧k≤12:=(by simp [Rn.shp,Rn.shpT] at f5 f6;omega);unfold Tx.bareOf bareOfK;simp only [show ¬(5:Int)=1 by decide,show ¬(5:Int)=2 by decide,show ¬(5:Int)=3 by decide,show ¬(5:Int)=4 by decide,if_false,if_true];unfold Tx.pairP pairK;by_cases hm:k.toNat=6∨k.toNat=7
   ·have hz:(Tx.opT k.toNat).2.1.size=0:=by rcases hm with e | e<;>rw [e]<;>rfl
    rw [if_pos hz,if_pos hz];have hw:=opW_g k.toNat (by omega);exact ⟨O.g ((hw.1.appO o_open s_open).app ((G.exprs (fun z hz=>(ih z hz).1)).appO o_close s_close)),(hw.2.app _).app _⟩
   ·have hs:=opS_o k.toNat (by omega)
    rw [if_neg hs.2.2,if_neg hs.2.2];simp only [Tx.bares,baresK,Tx.nth,nthK,List.getD_cons_zero,List.getD_cons_succ];exact ⟨(hx.1.partQ _ _).appG (hs.1.appG (hy.1.partQ _ _)) (hs.2.1.app _),(hx.2.partQ _ _).app _⟩
  ·have hl:L.length=3:=by simp [Rn.shp,Rn.shpT] at f2 f3;omega
   obtain ⟨x,y,z,rfl⟩:=len3 hl;have hx:=(ih x (by simp)).1.partQ (Tx.rank x) 0;have hy:=(ih y (by simp)).1.partQ (Tx.rank y) 0;have hz:=(ih z (by simp)).1.partQ (Tx.rank z) 0;unfold Tx.bareOf bareOfK;simp only [show ¬(6:Int)=1 by decide,show ¬(6:Int)=2 by decide,show ¬(6:Int)=3 by decide,show ¬(6:Int)=4 by decide,show ¬(6:Int)=5 by decide,if_false,if_true];unfold Tx.choiceP choiceK;simp only [Tx.bares,baresK,Tx.nth,nthK,List.getD_cons_zero,List.getD_cons_succ];have o1:O [⟨#[105,102,32]⟩] [wd [105,102]]:=O.word (a:=[]) (t:=[105,102]) (b:=[32]) (A:=[]) (B:=[]) (by rfl) (by decide) (by rfl) (by decide) (by simp);have o2:O [⟨#[32,116,104,101,110,32]⟩] [wd [116,104,101,110]]:=O.word (a:=[32]) (t:=[116,104,101,110]) (b:=[32]) (A:=[]) (B:=[]) (by rfl) (by decide) (by rfl) (by decide) (by simp);have o3:O [⟨#[32,101,108,115,101,32]⟩] [wd [101,108,115,101]]:=O.word (a:=[32]) (t:=[101,108,115,101]) (b:=[32]) (A:=[]) (B:=[]) (by rfl) (by decide) (by rfl) (by decide) (by simp);refine ⟨o1.appG (hx.appG (o2.appG (hy.appG (o3.appG hz) ?_)) ?_),(Fs.lit (c:=105) (l:=[102,32]) (by decide)).app _⟩
   ·exact (St.lit (c:=32) (l:=[101,108,115,101,32]) (by decide)).app _
   ·exact (St.lit (c:=32) (l:=[116,104,101,110,32]) (by decide)).app _
  ·have hl:L.length=3:=by simp [Rn.shp,Rn.shpT] at f2 f3;omega
   obtain ⟨x,y,z,rfl⟩:=len3 hl;have hx:=(ih x (by simp)).1.partQ (Tx.rank x) 7;have hxf:=(ih x (by simp)).2.partQ (Tx.rank x) 7;have hy:=(ih y (by simp)).1.partQ (Tx.rank y) 0;have hz:=(ih z (by simp)).1.partQ (Tx.rank z) 0;unfold Tx.bareOf bareOfK;simp only [show ¬(11:Int)=1 by decide,show ¬(11:Int)=2 by decide,show ¬(11:Int)=3 by decide,show ¬(11:Int)=4 by decide,show ¬(11:Int)=5 by decide,show ¬(11:Int)=6 by decide,if_false,if_true];unfold Tx.indexP indexK;simp only [Tx.bares,baresK,Tx.nth,nthK,List.getD_cons_zero,List.getD_cons_succ];have o1:O [⟨#[91]⟩] [sg 91]:=O.lit (by rfl);have o2:O [⟨#[32,58,32]⟩] [sg 58]:=O.lit (by rfl);have o3:O [⟨#[93]⟩] [sg 93]:=O.lit (by rfl);refine ⟨O.g (hx.appO (o1.app (hy.appO (o2.app (hz.appO o3 (St.lit (c:=93) (l:=[]) (by decide)))) ?_)) ?_),hxf.app _⟩
   ·exact (St.lit (c:=32) (l:=[58,32]) (by decide)).app _
   ·exact (St.lit (c:=91) (l:=[]) (by decide)).app _
  ·unfold Tx.bareOf bareOfK
   rw [if_neg (by omega),if_neg (by omega),if_neg (by omega),if_neg (by omega),if_neg (by omega),if_neg (by omega),if_neg (by omega),if_neg (by omega),if_neg (by omega),if_neg (by omega),if_neg (by omega),if_neg (by omega),if_neg (by omega),if_neg (by omega)];unfold Tx.formP formK;have hw:=shp_g op.toNat ho;refine ⟨O.g ((hw.1.appO o_open s_open).app ?_),(hw.2.app _).app _⟩;have hlast:O (Tx.commas at0 (bares L)++(Tx.sizesP S++[⟨#[41]⟩])) (commasK at0K (baresK L)++(sizesK S++[sg 41])):=by
    have:=(G.sizes hp.sizes (G.exprs (fun z hz=>(ih z hz).1))).appO o_close s_close;rw [List.append_assoc,List.append_assoc] at this;exact this
   by_cases hk0:k=0
   ·rw [if_pos hk0,if_pos hk0]
    exact hlast
   ·rw [if_neg hk0,if_neg hk0]
    have hk:1≤k.toNat∧k.toNat≤14:=by
     have e:(Rn.shp op.toNat).2.2.2.2.1=0∧(Rn.shp op.toNat).2.2.2.2.2=0∨(Rn.shp op.toNat).2.2.2.2.1=1∧(Rn.shp op.toNat).2.2.2.2.2=14:=by
      have h2:op.toNat=7∨op.toNat=8∨op.toNat=9∨op.toNat=10∨op.toNat=12∨op.toNat=13∨op.toNat=14∨op.toNat=15:=(by omega);rcases h2 with e | e | e | e | e | e | e | e<;>rw [e]<;>decide
     omega
    exact ((opW_g k.toNat hk).1.appO o_comma s_comma).app hlast
theorem G.expr {e:Ex} (h:Rn.exprC e=0):G (exprP e) (exprK e):=by
 unfold Rn.exprC at h
 split at h
 ·simp at h
 ·exact (G.bare _ e nR h).1.partQ _ _
theorem eq_of {q:Eqn} (h:Rn.eqC q=0):0<q.names.length∧q.names.length≤30∧(∀ s ∈ q.names,isName s.data.toList=true)∧(q.node.size≠0→isName q.node.data.toList=true)∧(q.node.size=0→q.names.length=1∧q.E.length=1∧q.S.length=0)∧q.S.length≤3∧q.E.length≤30∧(∀ s ∈ q.S,Rn.sizeC s=0)∧(∀ e ∈ q.E,Rn.exprC e=0):=by
 unfold Rn.eqC at h
 split at h
 ·simp at h
 ·rename_i h1
  split at h
  ·simp at h
  ·rename_i h2
   split at h
   ·simp at h
   ·rename_i h3
    split at h
    ·rename_i h4;exact absurd h h4
    ·rename_i h4
     have h5:Rn.firstC Rn.nameC q.names=0:=by
      rcases Decidable.em (Rn.firstC Rn.nameC q.names=0) with e | e
      ·exact e
      ·exact absurd (Or.inl e) h3
     have h6:Rn.firstC Rn.sizeC q.S=0:=(by simpa using h4);refine ⟨by omega,by omega,fun s hs=>name_of (firstC_all h5 s hs),fun hn=>?_,fun hn=>?_,by omega,by omega,firstC_all h6,firstC_all h⟩
     ·cases hb:isName q.node.data.toList with
      | true=>rfl
      | false=>exact absurd (Or.inr ⟨hn,hb⟩) h3
     ·rcases Decidable.em (q.names.length=1∧q.E.length=1∧q.S.length=0) with e | e
      ·exact e
      ·exact absurd (Or.inr ⟨hn,e⟩) h1
theorem O.eq {q:Eqn} (h:Rn.eqC q=0):O (eqP q) (eqK q):=by
 obtain ⟨h1,h2,h3,h4,h5,h6,h7,h8,h9⟩:=eq_of h;have o1:O [⟨#[9]⟩] []:=O.lit (by rfl);have o2:O [⟨#[32,61,32]⟩] [sg 61]:=O.lit (by rfl);have o3:O [⟨#[59,10]⟩] [sg 59]:=O.lit (by rfl);have s3:St [⟨#[59,10]⟩]:=St.lit (c:=59) (l:=[10]) (by decide);have gn:G (Tx.commas wordP q.names) (commasK nameK q.names):=G.commas (fun s hs=>G.name (h3 s hs));unfold eqP eqK;have hb:O ((if q.node.size=0 then (match q.E with | []=>[] | x :: _=>exprP x) else callP q)++[⟨#[59,10]⟩]) ((if q.node.size=0 then (match q.E with | []=>[] | x :: _=>exprK x) else callK q)++[sg 59]):=by
  by_cases hn:q.node.size=0
  ·rw [if_pos hn,if_pos hn]
   obtain ⟨x,hx⟩:=len1 (h5 hn).2.1;rw [hx];exact (G.expr (h9 x (by rw [hx];simp))).appO o3 s3
  ·rw [if_neg hn,if_neg hn]
   refine O.app ?_ o3;unfold callP callK;have o4:O [⟨#[99,97,108,108,32]⟩] [wd [99,97,108,108]]:=O.word (a:=[]) (t:=[99,97,108,108]) (b:=[32]) (A:=[]) (B:=[]) (by rfl) (by decide) (by rfl) (by decide) (by simp);have g4:G ([⟨#[99,97,108,108,32]⟩]++[q.node]) ([wd [99,97,108,108]]++[nm q.node]):=o4.appG (G.name (h4 hn));refine g4.appO ((O.ang (fun s hs=>(G.size (h8 s hs)).1)).app (o_open.app ((G.commas (fun e he=>G.expr (h9 e he))).appO o_close s_close))) ?_;exact St.ang (s_open.app _)
 have:=o1.app (gn.appO (o2.app hb) ((St.lit (c:=32) (l:=[61,32]) (by decide)).app _));exact this
theorem O.loc {d:De} (h:Rn.declC d=0):O (localP d) (localK d):=by
 unfold localP localK;have o1:O [⟨#[9,118,97,114,32]⟩] [wd [118,97,114]]:=O.word (a:=[9]) (t:=[118,97,114]) (b:=[32]) (A:=[]) (B:=[]) (by rfl) (by decide) (by rfl) (by decide) (by simp);have o3:O [⟨#[59,10]⟩] [sg 59]:=O.lit (by rfl);exact o1.app ((G.decl h).appO o3 (St.lit (c:=59) (l:=[10]) (by decide)))
theorem head_of {n:Nd} (h:Rn.headC n=0):isName n.name.data.toList=true∧n.sizes.length≤3∧n.eqs.length≤60∧(∀ s ∈ n.sizes,isName s.data.toList=true)∧0<n.out.length∧Rn.declsC n.inn=0∧Rn.declsC n.out=0∧Rn.declsC n.loc=0:=by
 unfold Rn.headC at h
 split at h
 ·simp at h
 ·rename_i h1
  split at h
  ·simp at h
  ·rename_i h2
   split at h
   ·rename_i h3;exact absurd h h3
   ·rename_i h3
    split at h
    ·simp at h
    ·rename_i h4
     split at h
     ·rename_i h5;exact absurd h h5
     ·rename_i h5
      split at h
      ·rename_i h6;exact absurd h h6
      ·rename_i h6
       exact ⟨by simpa using h1,by omega,by omega,fun s hs=>name_of (firstC_all (by simpa using h3) s hs),by omega,by simpa using h5,by simpa using h6,h⟩
theorem O.node {n:Nd} (h:Rn.headC n=0) (hq:∀ q ∈ n.eqs,Rn.eqC q=0):O (nodeP n) (nodeK n):=by
 obtain ⟨h1,h2,h3,h4,h5,h6,h7,h8⟩:=head_of h;have o1:O [⟨#[110,111,100,101,32]⟩] [wd [110,111,100,101]]:=O.word (a:=[]) (t:=[110,111,100,101]) (b:=[32]) (A:=[]) (B:=[]) (by rfl) (by decide) (by rfl) (by decide) (by simp);have g1:G ([⟨#[110,111,100,101,32]⟩]++[n.name]) ([wd [110,111,100,101]]++[nm n.name]):=o1.appG (G.name h1);have o2:O [⟨#[41,32,45,62,32,40]⟩] [sg 41,⟨4,[45,62],0⟩,sg 40]:=O.lit (by rfl);have o3:O [⟨#[41,32,123,10]⟩] [sg 41,sg 123]:=O.lit (by rfl);have o4:O [⟨#[125,10]⟩] [sg 125]:=O.lit (by rfl);have hi:=G.commas (fun d hd=>G.decl ((decls_of h6).2 d hd));have ho:=G.commas (fun d hd=>G.decl ((decls_of h7).2 d hd));have hl:O (rowP (fun _ d=>localP d) 0 n.loc) (n.loc.flatMap localK):=O.rows n.loc 0 (fun d hd _=>O.loc ((decls_of h8).2 d hd));have he:O (rowP (fun _ q=>eqP q) 0 n.eqs) (n.eqs.flatMap eqK):=O.rows n.eqs 0 (fun q hm _=>O.eq (hq q hm));unfold nodeP nodeK;refine g1.appO ((O.ang (fun s hs=>G.name (h4 s hs))).app (o_open.app (hi.appO (o2.app (ho.appO (o3.app (hl.app (he.app o4))) ?_)) ?_))) ?_
 ·exact (St.lit (c:=41) (l:=[32,123,10]) (by decide)).app _
 ·exact (St.lit (c:=41) (l:=[32,45,62,32,40]) (by decide)).app _
 ·exact St.ang (s_open.app _)
theorem goE_all:∀ {l:List Eqn} {k:Nat},Rn.goE l k=none→∀ q ∈ l,Rn.eqC q=0
 | [],_,_,q,hq=>by simp at hq
 | x :: l,k,h,q,hq=>by
  unfold Rn.goE at h
  split at h
  ·rename_i h0
   rcases List.mem_cons.1 hq with rfl | hq
   ·exact h0
   ·exact goE_all h q hq
  ·cases h
theorem goE_code:∀ {l:List Eqn} {k:Nat} {c:Int × Int},Rn.goE l k=some c→c.1≠0
 | [],_,_,h=>by cases h
 | x :: l,k,c,h=>by
  unfold Rn.goE at h
  split at h
  ·exact goE_code h
  ·rename_i h0
   cases h
   exact h0
theorem goN_all:∀ {l:List Nd} {i k:Nat},(Rn.goN l i k).1=0→∀ n ∈ l,Rn.headC n=0∧∀ q ∈ n.eqs,Rn.eqC q=0
 | [],_,_,_,n,hn=>by simp at hn
 | x :: l,i,k,h,n,hn=>by
  unfold Rn.goN at h
  split at h
  ·rename_i h0
   cases hg:Rn.goE x.eqs k with
   | none=>
    rw [hg] at h;rcases List.mem_cons.1 hn with rfl | hn
    ·exact ⟨h0,goE_all hg⟩
    ·exact goN_all h n hn
   | some c=>
    rw [hg] at h;exact absurd h (goE_code hg)
  ·rename_i h0
   exact absurd h h0
theorem prog_of {l:List Nd} (h:(Rn.nodesC l).1=0):0<l.length∧l.length≤10∧∀ n ∈ l,Rn.headC n=0∧∀ q ∈ n.eqs,Rn.eqC q=0:=by
 unfold Rn.nodesC at h
 split at h
 ·simp at h
 ·split at h
  ·simp at h
  ·exact ⟨by omega,by omega,goN_all h⟩
theorem scan_prog {l:List Nd} (h:(Tx.printC l).1=0):∃ L,scan (Tx.printT l).data.toList=(L,0,0)∧L.map bt=progK l:=by
 unfold Tx.printC at h
 split at h
 ·rename_i h0;exact absurd h h0
 ·rename_i h0
  split at h
  ·simp at h
  ·rename_i hs
   have h0:(Rn.nodesC l).1=0:=(by simpa using h0);have hT:Tx.printT l=Tx.cat (Tx.progP l):=by
    have hc:Tx.printC l=(0,0):=(by unfold Tx.printC;rw [if_neg (fun h=>h h0),if_neg hs]);unfold Tx.printT;rw [hc,if_neg (fun h=>h rfl)]
   obtain ⟨_,_,hn⟩:=prog_of h0;have ho:O (progP l) (progK l):=O.rows l 0 (fun n hm _=>O.node (hn n hm).1 (hn n hm).2);have:=ho [] [] TK.nil;rw [List.append_nil,List.append_nil] at this;rw [hT,by_cat];refine scan_of this ?_;rw [←by_cat,Array.length_toList];exact Nat.le_of_not_lt hs
end Bk
end Go.Proofs.YtophfbefnaelfaaGreatDoor
