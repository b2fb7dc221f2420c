import Derived.Test.YtkfgbhlpjkkgfaaGreatDoorT01
import Derived.Test.YtkfgbhlpjkkgfaaGreatDoorT06
set_option linter.unusedVariables false
set_option linter.unusedSimpArgs false
set_option maxHeartbeats 64000000
set_option maxRecDepth 100000
namespace Go.Proofs.YtkfgbhlpjkkgfaaGreatDoor
open Go.RowKit Go.IntWalk
def isName (l:List UInt8):Bool := !l.isEmpty&&decide (l.length<=12)&&Tk.isL ((l.headD 0).toNat:Int)&&(Tk.runLen l==l.length) && !(Tk.isWord l)
theorem zBs (s:ByteArray) (w:World) (oI:s.size<=maxLen) :
  Calls Tryz.prog 147 #[.string s] w fun e w'=>e=.returned (.bool (isName s.data.toList))/\w'=w:=by
 obtain ⟨r,hr⟩:=nmQ (isName s.data.toList);rw [<-hr];unfold isName at hr;have bo:s.data.toList.length=s.size:=(by rw [Lib.size_eq]);by_cases h0:s.size=0
 ·have hs:s=⟨#[]⟩:=ByteArray.ext (Array.eq_empty_of_size_eq_zero h0)
  subst hs;have:r=false:=(by rw [hr];rfl);subst this;clear hr;go_enter Tryz.func147,Tryz.ntmps147
  go_wp2_with (first
   | (go_at_call 135;refine (zAa _ _).mono ?_;rintro e w' ⟨rfl,rfl⟩)
   | (go_at_call 102;refine (zAX _ _ oI).mono ?_;rintro e w' ⟨rfl,rfl⟩)
   | (go_at_call 138;refine (zBK _ _).mono ?_;rintro e w' ⟨rfl,rfl⟩))
  go_ret;exact ⟨rfl,rfl⟩
 ·have hp:0<s.size:=by omega
  have tD:s.data.toList.headD 0=s[0]:=headD_eq s.data.toList (by rw [<-Lib.size_eq];omega);have nX:s.data.toList.isEmpty=false:=by
   cases hc:s.data.toList with
   | nil=>exfalso;rw [Lib.size_eq,hc] at hp;simp at hp
   | cons a b=>rfl
  rw [tD,bo,nX] at hr;have cG:(s.toList==[])=false:=by
   rw [Lib.toList_data]
   cases hc:s.data.toList with
   | nil=>rw [hc] at nX;cases nX
   | cons a b=>rfl
  clear nX tD bo;by_cases ov:12<s.size
  ·have:r=false:=by rw [hr];simp;omega
   subst this;clear hr;go_enter Tryz.func147,Tryz.ntmps147
   go_wp2_with (first
    | (go_at_call 135;refine (zAa _ _).mono ?_;rintro e w' ⟨rfl,rfl⟩)
    | (go_at_call 102;refine (zAX _ _ oI).mono ?_;rintro e w' ⟨rfl,rfl⟩)
    | (go_at_call 138;refine (zBK _ _).mono ?_;rintro e w' ⟨rfl,rfl⟩))
   go_ret;exact ⟨rfl,rfl⟩
  ·have uN:decide (s.size<=12)=true:=by simp;omega
   have JG:decide ((12:Int)<(s.size:Int))=false:=(by simp;omega);rw [uN] at hr;clear uN
   cases hL:Tk.isL ((s[0]).toNat:Int)
   ·have:r=false:=by rw [hr,hL];rfl
    subst this;clear hr;go_enter Tryz.func147,Tryz.ntmps147
    go_wp2_with (first
     | (go_at_call 135;refine (zAa _ _).mono ?_;rintro e w' ⟨rfl,rfl⟩)
     | (go_at_call 102;refine (zAX _ _ oI).mono ?_;rintro e w' ⟨rfl,rfl⟩)
     | (go_at_call 138;refine (zBK _ _).mono ?_;rintro e w' ⟨rfl,rfl⟩))
    go_ret;exact ⟨rfl,rfl⟩
   ·rw [hL] at hr
    cases qG:(Tk.runLen s.data.toList==s.size)
    ·have:r=false:=by rw [hr,qG];rfl
     subst this;have LB:((Tk.runLen s.data.toList:Int)==(s.size:Int))=false:=by
      rw [beq_eq_false_iff_ne] at qG ⊢;omega
     clear hr qG;go_enter Tryz.func147,Tryz.ntmps147
     go_wp2_with (first
      | (go_at_call 135;refine (zAa _ _).mono ?_;rintro e w' ⟨rfl,rfl⟩)
      | (go_at_call 102;refine (zAX _ _ oI).mono ?_;rintro e w' ⟨rfl,rfl⟩)
      | (go_at_call 138;refine (zBK _ _).mono ?_;rintro e w' ⟨rfl,rfl⟩))
     go_ret;exact ⟨rfl,rfl⟩
    ·have LB:((Tk.runLen s.data.toList:Int)==(s.size:Int))=true:=by
      rw [beq_iff_eq] at qG ⊢;omega
     have HR:Hid (r = !Tk.isWord s.data.toList):=(by show _=_;rw [hr,qG];simp);clear hr qG;go_enter Tryz.func147,Tryz.ntmps147
     go_wp2_with (first
      | (go_at_call 135;refine (zAa _ _).mono ?_;rintro e w' ⟨rfl,rfl⟩)
      | (go_at_call 102;refine (zAX _ _ oI).mono ?_;rintro e w' ⟨rfl,rfl⟩)
      | (go_at_call 138;refine (zBK _ _).mono ?_;rintro e w' ⟨rfl,rfl⟩))
     go_ret;exact ⟨zAf (by rw [HR.out]),rfl⟩
end Go.Proofs.YtkfgbhlpjkkgfaaGreatDoor
namespace Go.Proofs.YtkfgbhlpjkkgfaaGreatDoor
open Go.RowKit Go.IntWalk
namespace Rn
def firstC {α:Type} (f:α->Int):List α->Int
 | []=>0
 | x :: l=>if f x=0 then firstC f l else f x
def nameC (s:ByteArray):Int:=if isName s.data.toList=true then 0 else 3
def termC (t:Tm):Int:=if t.1 <= -1000000000000000000\/1000000000000000000<=t.1 then 2 else if t.2.size=0 then 0 else nameC t.2
def sizeC (s:List Tm):Int:=if s.length=0 then 4 else if 30<s.length then 7 else firstC termC s
def declC (d:De):Int:=if isName d.name.data.toList=false then 3 else if d.elem≠105/\d.elem≠98 then 10 else if d.n.length=0 then 0 else sizeC d.n
def declsC (l:List De):Int:=if 30<l.length then 7 else firstC declC l
theorem firstC_step {α:Type} (f:α->Int):∀ (l:List α) (i:Nat) (h:i<l.length),(∀ j (hj:j<l.length),j<i->f l[j]=0)->f l[i]≠0->firstC f l=f l[i]
 | x :: l,0,_,_,hn=>by simp only [List.getElem_cons_zero] at hn ⊢;unfold firstC;rw [if_neg hn]
 | x :: l,i+1,h,ha,hn=>by
  have h0:f x=0:=ha 0 (by simp) (by omega);unfold firstC;rw [if_pos h0];simp only [List.getElem_cons_succ] at hn ⊢;exact firstC_step f l i (by simpa using h) (fun j hj bJ=>ha (j+1) (by simpa using hj) (by omega)) hn
theorem firstC_none {α:Type} (f:α->Int):∀ (l:List α),(∀ j (hj:j<l.length),f l[j]=0)->firstC f l=0
 | [],_=>rfl
 | x :: l,h=>by
  have h0:f x=0:=h 0 (by simp);unfold firstC;rw [if_pos h0];exact firstC_none f l (fun j hj=>h (j+1) (by simpa using hj))
def nmF (s:ByteArray):Prop:=s.size<=maxLen
def tmF (t:Tm):Prop:=nmF t.2
def szF (s:List Tm):Prop:=∀ t ∈ s,tmF t
def deF (d:De):Prop:=nmF d.name/\szF d.n
end Rn
end Go.Proofs.YtkfgbhlpjkkgfaaGreatDoor
namespace Go.Proofs.YtkfgbhlpjkkgfaaGreatDoor
open Go.RowKit Go.IntWalk
theorem zEC {s:ByteArray} (h:s.size≠0):(s.toList==[])=false:=by
 rw [Lib.toList_data];rw [Lib.size_eq] at h;generalize s.data.toList=q at h
 cases q with
 | nil=>exact absurd rfl h
 | cons a q=>rfl
theorem zCe (s:ByteArray) (w:World) (hs:Rn.nmF s) :
  Calls Tryz.prog 149 #[.string s] w fun e w'=>e=.returned (.int .i64 (Rn.nameC s))/\Below w.heap.size w w':=by
 have hn:=zBs s w hs;unfold Rn.nameC;generalize isName s.data.toList=r at hn;go_enter Tryz.func149,Tryz.ntmps149;go_wp2_with fail;refine hn.mono ?_;rintro e w1 ⟨rfl,rfl⟩
 cases r
 ·go_wp2
  go_ret;exact ⟨rfl,Below.refl _ _⟩
 ·go_wp2
  go_ret;exact ⟨rfl,Below.refl _ _⟩
theorem zCx {ok:Nat->Prop} {w:World} {v:Value} {l:List ByteArray} (hl:HNames ok w v l) (hF:∀ x ∈ l,Rn.nmF x) :
  Calls Tryz.prog 148 #[v,.func (.func 149) #[] #[]] w fun e w'=>e=.returned (.int .i64 (Rn.firstC Rn.nameC l))/\Below w.heap.size w w':=by
 obtain ⟨ao,cap,rfl,aC,av,ai⟩:=hl.at;unfold maxLen at av;obtain ⟨R,hR⟩:=nmQ (Rn.firstC Rn.nameC l);rw [<-hR];have HR:=zAA hR;have HF:=zAA hF;clear hR hl hF;obtain ⟨n,hn⟩:=nmQ (l.length);rw [<-hn] at aC ⊢;have HN:=zAA hn;clear hn;go_enter Tryz.func148,Tryz.ntmps148;go_wp2_with fail;go_loopg [10] n (fun k v wr=>∃ i,i<=n/\k=n-i/\v=.int .i64 (i:Nat)/\Hid (∀ j (h:j<l.length),j<i->Rn.nameC l[j]=0)/\Below w.heap.size w wr)
 case atStart=>exact ⟨0,Nat.zero_le _,rfl,rfl,fun j _ h=>absurd h (Nat.not_lt_zero _),Below.refl _ _⟩
 case round=>
  obtain ⟨i,hi,rfl,rfl,H,aj⟩:=hrel;by_cases ak:i<n
  case neg=>
   have bH:i=n:=(by omega);subst bH;go_wp2;go_ret;refine ⟨?_,aj⟩;rw [HR.out,Rn.firstC_none Rn.nameC l (fun j hj=>H.out j hj (by have:=HN.out;omega))];rfl
  case pos=>
   have ap:i<l.length:=(by have:=HN.out;omega);have cw:=HF.out l[i] (List.getElem_mem ap);obtain ⟨x,hx⟩:=nmQ (l[i]);rw [<-hx] at cw;obtain ⟨b,o,rfl,hb,hc⟩:=ai i ap;rw [<-hx] at hc;have e1:=(aj.cell (p:=⟨b,o+i,none⟩) hb).trans hc;have HX:=zAA hx;clear ai hx hc;have ag:=fun W=>zCe x W cw;go_wp2_with fail;refine (ag _).mono ?_;rintro e w4 ⟨rfl,b4⟩;have BW:=aj.trans (b4.mono aj.size);obtain ⟨c,cR⟩:=nmQ (Rn.nameC x);rw [<-cR];have HC:=zAA cR;clear cR;by_cases hz:c=0
   ·subst hz
    go_wp2_with fail;go_roundg (n-(i+1))
    case measure=>omega
    case rel=>
     refine ⟨i+1,by omega,rfl,by go_num,fun j hj bJ=>?_,BW⟩;by_cases e:j=i
     ·subst e
      rw [<-HX.out,<-HC.out]
     ·exact H.out j hj (by omega)
   ·go_wp2
    go_ret;refine ⟨?_,BW⟩;rw [HR.out,Rn.firstC_step Rn.nameC l i ap (fun j hj bJ=>H.out j hj bJ) (by rw [<-HX.out,<-HC.out];exact hz),<-HX.out,<-HC.out];rfl
theorem zFX (x:Tm) (w:World) (hx:Rn.tmF x) :
  Calls Tryz.prog 189 #[.agg #[.int .i64 x.1,.string x.2]] w fun e w'=>e=.returned (.int .i64 (Rn.termC x))/\Below w.heap.size w w':=by
 obtain ⟨n,s⟩:=x;have bA:Below w.heap.size w (w.alloc (.cells #[.int .i64 n,.string s] 83 (0,0))):=(Below.refl _ _).alloc nR _;have hn:=fun W=>zCe s W hx;unfold Rn.termC
 dsimp only
 by_cases h1:n <= -1000000000000000000
 ·rw [if_pos (.inl h1)]
  go_enter Tryz.func189,Tryz.ntmps189;go_wp2;go_ret;exact ⟨rfl,bA⟩
 by_cases h2:1000000000000000000<=n
 ·rw [if_pos (.inr h2)]
  go_enter Tryz.func189,Tryz.ntmps189;go_wp2;go_ret;exact ⟨rfl,bA⟩
 rw [if_neg (by omega)];by_cases h3:s.size=0
 ·have hs:s=⟨#[]⟩:=ByteArray.ext (Array.eq_empty_of_size_eq_zero h3)
  subst hs;rw [if_pos h3];go_enter Tryz.func189,Tryz.ntmps189;go_wp2;go_ret;exact ⟨rfl,bA⟩
 ·rw [if_neg h3]
  have cG:=zEC h3;go_enter Tryz.func189,Tryz.ntmps189;go_wp2_with fail;refine (hn _).mono ?_;rintro e w4 ⟨rfl,b4⟩;go_wp2;go_ret;exact ⟨rfl,bA.trans (b4.mono bA.size)⟩
theorem zFt {ok:Nat->Prop} {w:World} {v:Value} {l:List Tm} (hl:HTerms ok w v l) (hF:∀ x ∈ l,Rn.tmF x) :
  Calls Tryz.prog 188 #[v,.func (.func 189) #[] #[]] w fun e w'=>e=.returned (.int .i64 (Rn.firstC Rn.termC l))/\Below w.heap.size w w':=by
 obtain ⟨ao,cap,rfl,aC,av,ai⟩:=hl.at;unfold maxLen at av;obtain ⟨R,hR⟩:=nmQ (Rn.firstC Rn.termC l);rw [<-hR];have HR:=zAA hR;have HF:=zAA hF;clear hR hl hF;obtain ⟨n,hn⟩:=nmQ (l.length);rw [<-hn] at aC ⊢;have HN:=zAA hn;clear hn;go_enter Tryz.func188,Tryz.ntmps188;go_wp2_with fail;go_loopg [10] n (fun k v wr=>∃ i,i<=n/\k=n-i/\v=.int .i64 (i:Nat)/\Hid (∀ j (h:j<l.length),j<i->Rn.termC l[j]=0)/\Below w.heap.size w wr)
 case atStart=>exact ⟨0,Nat.zero_le _,rfl,rfl,fun j _ h=>absurd h (Nat.not_lt_zero _),Below.refl _ _⟩
 case round=>
  obtain ⟨i,hi,rfl,rfl,H,aj⟩:=hrel;by_cases ak:i<n
  case neg=>
   have bH:i=n:=(by omega);subst bH;go_wp2;go_ret;refine ⟨?_,aj⟩;rw [HR.out,Rn.firstC_none Rn.termC l (fun j hj=>H.out j hj (by have:=HN.out;omega))];rfl
  case pos=>
   have ap:i<l.length:=(by have:=HN.out;omega);have cw:=HF.out l[i] (List.getElem_mem ap);obtain ⟨x,hx⟩:=nmQ (l[i]);rw [<-hx] at cw;obtain ⟨b,o,rfl,hb,hc,hd⟩:=ai i ap;rw [<-hx] at hc hd;have e1:=(aj.cell (p:=⟨b,o+i*2,none⟩) hb).trans hc;have e2:=(aj.cell (p:=⟨b,o+i*2+1,none⟩) hb).trans hd;have HX:=zAA hx;clear ai hx hc hd;have ag:=fun W=>zFX x W cw;go_wp2_with fail;refine (ag _).mono ?_;rintro e w4 ⟨rfl,b4⟩;have bA:Below wr.heap.size wr (wr.alloc (.cells #[.int .i64 x.1,.string x.2] 83 (0,0))):=(Below.refl _ _).alloc nR _;have BW:=aj.trans ((bA.trans (b4.mono bA.size)).mono aj.size);obtain ⟨c,cR⟩:=nmQ (Rn.termC x);rw [<-cR];have HC:=zAA cR;clear cR;by_cases hz:c=0
   ·subst hz
    go_wp2_with fail;go_roundg (n-(i+1))
    case measure=>omega
    case rel=>
     refine ⟨i+1,by omega,rfl,by go_num,fun j hj bJ=>?_,BW⟩;by_cases e:j=i
     ·subst e
      rw [<-HX.out,<-HC.out]
     ·exact H.out j hj (by omega)
   ·go_wp2
    go_ret;refine ⟨?_,BW⟩;rw [HR.out,Rn.firstC_step Rn.termC l i ap (fun j hj bJ=>H.out j hj bJ) (by rw [<-HX.out,<-HC.out];exact hz),<-HX.out,<-HC.out];rfl
theorem zCf {ok:Nat->Prop} {w:World} {v:Value} {s:List Tm} (hs:HTerms ok w v s) (hF:Rn.szF s) :
  Calls Tryz.prog 152 #[v] w fun e w'=>e=.returned (.int .i64 (Rn.sizeC s))/\Below w.heap.size w w':=by
 have hc:=zFt hs hF;obtain ⟨ao,cap,rfl,aC,av,_⟩:=hs.at;unfold maxLen at av;unfold Rn.sizeC;generalize Rn.firstC Rn.termC s=r at hc;generalize s.length=n at hc aC ⊢;by_cases h0:n=0
 ·rw [if_pos h0]
  subst h0;clear hc;go_enter Tryz.func152,Tryz.ntmps152;go_wp2;go_ret;exact ⟨rfl,Below.refl _ _⟩
 rw [if_neg h0];have rK:¬(n:Int)=0:=(by omega);by_cases h1:30<n
 ·rw [if_pos h1]
  have rm:(30:Int)<(n:Int):=(by omega);clear hc;go_enter Tryz.func152,Tryz.ntmps152;go_wp2;go_ret;exact ⟨rfl,Below.refl _ _⟩
 rw [if_neg h1];have rm:¬(30:Int)<(n:Int):=(by omega);go_enter Tryz.func152,Tryz.ntmps152;go_wp2_with fail;refine hc.mono ?_;rintro e w1 ⟨rfl,b1⟩;go_wp2;go_ret;exact ⟨rfl,b1⟩
theorem zCy {ok:Nat->Prop} {w:World} {v:Value} {l:List (List Tm)} (hl:HSizes ok w v l) (hF:∀ x ∈ l,Rn.szF x) :
  Calls Tryz.prog 151 #[v,.func (.func 152) #[] #[]] w fun e w'=>e=.returned (.int .i64 (Rn.firstC Rn.sizeC l))/\Below w.heap.size w w':=by
 obtain ⟨ao,cap,rfl,aC,av,ai⟩:=hl.at;unfold maxLen at av;obtain ⟨R,hR⟩:=nmQ (Rn.firstC Rn.sizeC l);rw [<-hR];have HR:=zAA hR;have HF:=zAA hF;clear hR hl hF;obtain ⟨n,hn⟩:=nmQ (l.length);rw [<-hn] at aC ⊢;have HN:=zAA hn;clear hn;go_enter Tryz.func151,Tryz.ntmps151;go_wp2_with fail;go_loopg [10] n (fun k v wr=>∃ i,i<=n/\k=n-i/\v=.int .i64 (i:Nat)/\Hid (∀ j (h:j<l.length),j<i->Rn.sizeC l[j]=0)/\Below w.heap.size w wr)
 case atStart=>exact ⟨0,Nat.zero_le _,rfl,rfl,fun j _ h=>absurd h (Nat.not_lt_zero _),Below.refl _ _⟩
 case round=>
  obtain ⟨i,hi,rfl,rfl,H,aj⟩:=hrel;by_cases ak:i<n
  case neg=>
   have bH:i=n:=(by omega);subst bH;go_wp2;go_ret;refine ⟨?_,aj⟩;rw [HR.out,Rn.firstC_none Rn.sizeC l (fun j hj=>H.out j hj (by have:=HN.out;omega))];rfl
  case pos=>
   have ap:i<l.length:=(by have:=HN.out;omega);have cw:=HF.out l[i] (List.getElem_mem ap);obtain ⟨x,hx⟩:=nmQ (l[i]);rw [<-hx] at cw;obtain ⟨b,o,au,nu,cu,rfl,hb,hc,ht⟩:=ai i ap;rw [<-hx] at ht;have e1:=(aj.cell (p:=⟨b,o+i,none⟩) hb).trans hc;have ag:=zCf (ht.keep (w':=wr) aj.size (fun i _ hl=>aj.block i hl)) cw;have HX:=zAA hx;clear ai hx hc ht;go_wp2_with fail;refine ag.mono ?_;rintro e w4 ⟨rfl,b4⟩;have BW:=aj.trans (b4.mono aj.size);obtain ⟨c,cR⟩:=nmQ (Rn.sizeC x);rw [<-cR];have HC:=zAA cR;clear cR;by_cases hz:c=0
   ·subst hz
    go_wp2_with fail;go_roundg (n-(i+1))
    case measure=>omega
    case rel=>
     refine ⟨i+1,by omega,rfl,by go_num,fun j hj bJ=>?_,BW⟩;by_cases e:j=i
     ·subst e
      rw [<-HX.out,<-HC.out]
     ·exact H.out j hj (by omega)
   ·go_wp2
    go_ret;refine ⟨?_,BW⟩;rw [HR.out,Rn.firstC_step Rn.sizeC l i ap (fun j hj bJ=>H.out j hj bJ) (by rw [<-HX.out,<-HC.out];exact hz),<-HX.out,<-HC.out];rfl
theorem zFY {ok:Nat->Prop} {w:World} {d:De} {au:Option Addr} {nu cu:Nat} (ht:HTerms ok w (.slice au nu cu) d.n) (hF:Rn.deF d) :
  Calls Tryz.prog 187 #[.agg #[.string d.name,.int .u8 d.elem,.slice au nu cu]] w fun e w'=>e=.returned (.int .i64 (Rn.declC d))/\Below w.heap.size w w':=by
 obtain ⟨nm,el,l⟩:=d;obtain ⟨W,hW⟩:=nmQ (w.alloc (.cells #[.string nm,.int .u8 el,.slice au nu cu] 50 (0,0)));have bA:=zAk hW;have KA:=zBa hW;have hn:=zBs nm W hF.1;have bo:=zCf (ht.keep (w':=W) bA.size (fun i _ hl=>bA.block i hl)) hF.2;obtain ⟨ao,cap,hv,aC,av,_⟩:=ht.at
 dsimp only at hv bo
 injection hv with uP np sP;subst np;unfold maxLen at av;clear uP sP ht;unfold Rn.declC
 dsimp only at *
 generalize isName nm.data.toList=q at hn;generalize Rn.sizeC l=r at bo;generalize l.length=m at bo aC hW KA ⊢;obtain ⟨R,hR⟩:=nmQ ((if q=false then (3:Int) else if el≠105/\el≠98 then 10 else if m=0 then 0 else r));rw [<-hR];go_enter Tryz.func187,Tryz.ntmps187;rw [hW] at hn;go_wp2_with fail;refine hn.mono ?_;rintro e w1 ⟨rfl,rfl⟩
 cases q
 ·obtain rfl:R=3:=by rw [hR];rfl
  clear hR;go_wp2;go_ret;rw [<-hW];exact ⟨rfl,bA⟩
 rw [if_neg (by decide)] at hR;by_cases h105:el=105
 ·subst h105
  rw [if_neg (by simp)] at hR;by_cases h0:m=0
  ·rw [if_pos h0] at hR
   subst h0;subst hR;go_wp2;go_ret;rw [<-hW];exact ⟨rfl,bA⟩
  ·rw [if_neg h0] at hR
   have rK:¬(m:Int)=0:=(by omega);subst hR;rw [hW] at bo;go_wp2_with fail;refine bo.mono ?_;rintro e w1 ⟨rfl,b1⟩;go_wp2;go_ret;rw [<-hW] at b1;exact ⟨rfl,bA.trans (b1.mono bA.size)⟩
 by_cases h98:el=98
 ·subst h98
  rw [if_neg (by simp)] at hR;by_cases h0:m=0
  ·rw [if_pos h0] at hR
   subst h0;subst hR;go_wp2;go_ret;rw [<-hW];exact ⟨rfl,bA⟩
  ·rw [if_neg h0] at hR
   have rK:¬(m:Int)=0:=(by omega);subst hR;rw [hW] at bo;go_wp2_with fail;refine bo.mono ?_;rintro e w1 ⟨rfl,b1⟩;go_wp2;go_ret;rw [<-hW] at b1;exact ⟨rfl,bA.trans (b1.mono bA.size)⟩
 rw [if_pos ⟨h105,h98⟩] at hR;subst hR;have Fq:(el != 105)=true:=(by simp [h105]);have Js:(el != 98)=true:=(by simp [h98]);go_wp2;go_ret;rw [<-hW];exact ⟨rfl,bA⟩
theorem zFu {ok:Nat->Prop} {w:World} {v:Value} {l:List De} (hl:HDes ok w v l) (hF:∀ x ∈ l,Rn.deF x) :
  Calls Tryz.prog 186 #[v,.func (.func 187) #[] #[]] w fun e w'=>e=.returned (.int .i64 (Rn.firstC Rn.declC l))/\Below w.heap.size w w':=by
 obtain ⟨ao,cap,rfl,aC,av,ai⟩:=hl.at;unfold maxLen at av;obtain ⟨R,hR⟩:=nmQ (Rn.firstC Rn.declC l);rw [<-hR];have HR:=zAA hR;have HF:=zAA hF;clear hR hl hF;obtain ⟨n,hn⟩:=nmQ (l.length);rw [<-hn] at aC ⊢;have HN:=zAA hn;clear hn;go_enter Tryz.func186,Tryz.ntmps186;go_wp2_with fail;go_loopg [10] n (fun k v wr=>∃ i,i<=n/\k=n-i/\v=.int .i64 (i:Nat)/\Hid (∀ j (h:j<l.length),j<i->Rn.declC l[j]=0)/\Below w.heap.size w wr)
 case atStart=>exact ⟨0,Nat.zero_le _,rfl,rfl,fun j _ h=>absurd h (Nat.not_lt_zero _),Below.refl _ _⟩
 case round=>
  obtain ⟨i,hi,rfl,rfl,H,aj⟩:=hrel;by_cases ak:i<n
  case neg=>
   have bH:i=n:=(by omega);subst bH;go_wp2;go_ret;refine ⟨?_,aj⟩;rw [HR.out,Rn.firstC_none Rn.declC l (fun j hj=>H.out j hj (by have:=HN.out;omega))];rfl
  case pos=>
   have ap:i<l.length:=(by have:=HN.out;omega);have cw:=HF.out l[i] (List.getElem_mem ap);obtain ⟨x,hx⟩:=nmQ (l[i]);rw [<-hx] at cw;obtain ⟨b,o,au,nu,cu,rfl,hb,hc,hd,he,ht⟩:=ai i ap;rw [<-hx] at hc hd ht;have e1:=(aj.cell (p:=⟨b,o+i*3,none⟩) hb).trans hc;have e2:=(aj.cell (p:=⟨b,o+i*3+1,none⟩) hb).trans hd;have e3:=(aj.cell (p:=⟨b,o+i*3+2,none⟩) hb).trans he;obtain ⟨W,hW⟩:=nmQ (wr.alloc (.cells #[.string x.name,.int .u8 x.elem,.slice au nu cu] 50 (0,0)));have bA:=zAk hW;have BA:=aj.trans (bA.mono aj.size);have ag:=zFY (ht.keep (w':=W) BA.size (fun i _ hl=>BA.block i hl)) cw;rw [hW] at ag;have HX:=zAA hx;clear ai hx hc hd he ht;go_wp2_with fail;refine ag.mono ?_;rintro e w4 ⟨rfl,b4⟩;rw [<-hW] at b4;have BW:=BA.trans (b4.mono BA.size);obtain ⟨c,cR⟩:=nmQ (Rn.declC x);rw [<-cR];have HC:=zAA cR;clear cR;by_cases hz:c=0
   ·subst hz
    go_wp2_with fail;go_roundg (n-(i+1))
    case measure=>omega
    case rel=>
     refine ⟨i+1,by omega,rfl,by go_num,fun j hj bJ=>?_,BW⟩;by_cases e:j=i
     ·subst e
      rw [<-HX.out,<-HC.out]
     ·exact H.out j hj (by omega)
   ·go_wp2
    go_ret;refine ⟨?_,BW⟩;rw [HR.out,Rn.firstC_step Rn.declC l i ap (fun j hj bJ=>H.out j hj bJ) (by rw [<-HX.out,<-HC.out];exact hz),<-HX.out,<-HC.out];rfl
theorem zBQ {ok:Nat->Prop} {w:World} {v:Value} {l:List De} (hl:HDes ok w v l) (hF:∀ x ∈ l,Rn.deF x) :
  Calls Tryz.prog 150 #[v] w fun e w'=>e=.returned (.int .i64 (Rn.declsC l))/\Below w.heap.size w w':=by
 have hc:=zFu hl hF;obtain ⟨ao,cap,rfl,aC,av,_⟩:=hl.at;unfold maxLen at av;unfold Rn.declsC;generalize Rn.firstC Rn.declC l=r at hc;generalize l.length=n at hc aC ⊢;by_cases h1:30<n
 ·rw [if_pos h1]
  have rm:(30:Int)<(n:Int):=(by omega);clear hc;go_enter Tryz.func150,Tryz.ntmps150;go_wp2;go_ret;exact ⟨rfl,Below.refl _ _⟩
 rw [if_neg h1];have rm:¬(30:Int)<(n:Int):=(by omega);go_enter Tryz.func150,Tryz.ntmps150;go_wp2_with fail;refine hc.mono ?_;rintro e w1 ⟨rfl,b1⟩;go_wp2;go_ret;exact ⟨rfl,b1⟩
end Go.Proofs.YtkfgbhlpjkkgfaaGreatDoor
