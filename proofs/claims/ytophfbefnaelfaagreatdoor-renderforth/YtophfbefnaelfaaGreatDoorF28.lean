import Derived.Test.YtophfbefnaelfaaGreatDoorF22
import Derived.Test.YtophfbefnaelfaaGreatDoorF27
import Derived.Test.YtophfbefnaelfaaGreatDoorF03
import Derived.Test.YtophfbefnaelfaaGreatDoorF08
set_option linter.unusedVariables false
set_option linter.unusedSimpArgs false
set_option maxHeartbeats 64000000
set_option maxRecDepth 100000
namespace Go.Proofs.YtophfbefnaelfaaGreatDoor
open Go.RowKit Go.IntWalk
theorem parse_all (s:ByteArray) (w:World) (hs:s.size≤1000000) (hG:GlobT w) :
  Calls Tryz.prog 16 #[.string s] w (PPost w s.data.toList):=
 parse_any form_any s w hs hG
def isName (l:List UInt8):Bool := !l.isEmpty&&decide (l.length≤12)&&Tk.isL ((l.headD 0).toNat:Int)&&(Tk.runLen l==l.length) && !(Tk.isWord l)
theorem nameT_any (s:ByteArray) (w:World) (hml:s.size≤maxLen) :
  Calls Tryz.prog 68 #[.string s] w fun e w'=>e=.returned (.bool (isName s.data.toList))∧w'=w:=by
 obtain ⟨r,hr⟩:=nmQ (isName s.data.toList);rw [←hr];unfold isName at hr;have hsz:s.data.toList.length=s.size:=(by rw [Lib.size_eq]);by_cases h0:s.size=0
 ·have hs:s=⟨#[]⟩:=ByteArray.ext (Array.eq_empty_of_size_eq_zero h0)
  subst hs;have:r=false:=(by rw [hr];rfl);subst this;clear hr;go_enter Tryz.func68,Tryz.ntmps68
  go_wp2_with (first
   | (go_at_call 98;refine (isLetter_any _ _).mono ?_;rintro e w' ⟨rfl,rfl⟩)
   | (go_at_call 85;refine (runLength_any _ _ hml).mono ?_;rintro e w' ⟨rfl,rfl⟩)
   | (go_at_call 99;refine (word_any _ _).mono ?_;rintro e w' ⟨rfl,rfl⟩))
  go_ret;exact ⟨rfl,rfl⟩
 ·have hp:0<s.size:=by omega
  have hhd:s.data.toList.headD 0=s[0]:=headD_eq s.data.toList (by rw [←Lib.size_eq];omega);have hem:s.data.toList.isEmpty=false:=by
   cases hc:s.data.toList with
   | nil=>exfalso;rw [Lib.size_eq,hc] at hp;simp at hp
   | cons a b=>rfl
  rw [hhd,hsz,hem] at hr;have hne:(s.toList==[])=false:=by
   rw [Lib.toList_data]
   cases hc:s.data.toList with
   | nil=>rw [hc] at hem;cases hem
   | cons a b=>rfl
  clear hem hhd hsz;by_cases h12:12<s.size
  ·have:r=false:=by rw [hr];simp;omega
   subst this;clear hr;go_enter Tryz.func68,Tryz.ntmps68
   go_wp2_with (first
    | (go_at_call 98;refine (isLetter_any _ _).mono ?_;rintro e w' ⟨rfl,rfl⟩)
    | (go_at_call 85;refine (runLength_any _ _ hml).mono ?_;rintro e w' ⟨rfl,rfl⟩)
    | (go_at_call 99;refine (word_any _ _).mono ?_;rintro e w' ⟨rfl,rfl⟩))
   go_ret;exact ⟨rfl,rfl⟩
  ·have hd12:decide (s.size≤12)=true:=by simp;omega
   have hd12':decide ((12:Int)<(s.size:Int))=false:=(by simp;omega);rw [hd12] at hr;clear hd12
   cases hL:Tk.isL ((s[0]).toNat:Int)
   ·have:r=false:=by rw [hr,hL];rfl
    subst this;clear hr;go_enter Tryz.func68,Tryz.ntmps68
    go_wp2_with (first
     | (go_at_call 98;refine (isLetter_any _ _).mono ?_;rintro e w' ⟨rfl,rfl⟩)
     | (go_at_call 85;refine (runLength_any _ _ hml).mono ?_;rintro e w' ⟨rfl,rfl⟩)
     | (go_at_call 99;refine (word_any _ _).mono ?_;rintro e w' ⟨rfl,rfl⟩))
    go_ret;exact ⟨rfl,rfl⟩
   ·rw [hL] at hr
    cases hrl:(Tk.runLen s.data.toList==s.size)
    ·have:r=false:=by rw [hr,hrl];rfl
     subst this;have hri:((Tk.runLen s.data.toList:Int)==(s.size:Int))=false:=by
      rw [beq_eq_false_iff_ne] at hrl ⊢;omega
     clear hr hrl;go_enter Tryz.func68,Tryz.ntmps68
     go_wp2_with (first
      | (go_at_call 98;refine (isLetter_any _ _).mono ?_;rintro e w' ⟨rfl,rfl⟩)
      | (go_at_call 85;refine (runLength_any _ _ hml).mono ?_;rintro e w' ⟨rfl,rfl⟩)
      | (go_at_call 99;refine (word_any _ _).mono ?_;rintro e w' ⟨rfl,rfl⟩))
     go_ret;exact ⟨rfl,rfl⟩
    ·have hri:((Tk.runLen s.data.toList:Int)==(s.size:Int))=true:=by
      rw [beq_iff_eq] at hrl ⊢;omega
     have HR:Hid (r = !Tk.isWord s.data.toList):=(by show _=_;rw [hr,hrl];simp);clear hr hrl;go_enter Tryz.func68,Tryz.ntmps68
     go_wp2_with (first
      | (go_at_call 98;refine (isLetter_any _ _).mono ?_;rintro e w' ⟨rfl,rfl⟩)
      | (go_at_call 85;refine (runLength_any _ _ hml).mono ?_;rintro e w' ⟨rfl,rfl⟩)
      | (go_at_call 99;refine (word_any _ _).mono ?_;rintro e w' ⟨rfl,rfl⟩))
     go_ret;exact ⟨ret_bool (by rw [HR.out]),rfl⟩
end Go.Proofs.YtophfbefnaelfaaGreatDoor
namespace Go.Proofs.YtophfbefnaelfaaGreatDoor
open Go.RowKit Go.IntWalk
namespace Rn
def firstC {α:Type} (f:α→Int):List α→Int
 | []=>0
 | x :: l=>if f x=0 then firstC f l else f x
def nameC (s:ByteArray):Int:=if isName s.data.toList=true then 0 else 3
def termC (t:Tm):Int:=if t.1 ≤ -1000000000000000000∨1000000000000000000≤t.1 then 2 else if t.2.size=0 then 0 else nameC t.2
def sizeC (s:List Tm):Int:=if s.length=0 then 4 else if 30<s.length then 7 else firstC termC s
def declC (d:De):Int:=if isName d.name.data.toList=false then 3 else if d.elem≠105∧d.elem≠98 then 10 else if d.n.length=0 then 0 else sizeC d.n
def declsC (l:List De):Int:=if 30<l.length then 7 else firstC declC l
theorem firstC_step {α:Type} (f:α→Int):∀ (l:List α) (i:Nat) (h:i<l.length),(∀ j (hj:j<l.length),j<i→f l[j]=0)→f l[i]≠0→firstC f l=f l[i]
 | x :: l,0,_,_,hn=>by simp only [List.getElem_cons_zero] at hn ⊢;unfold firstC;rw [if_neg hn]
 | x :: l,i+1,h,ha,hn=>by
  have h0:f x=0:=ha 0 (by simp) (by omega);unfold firstC;rw [if_pos h0];simp only [List.getElem_cons_succ] at hn ⊢;exact firstC_step f l i (by simpa using h) (fun j hj hji=>ha (j+1) (by simpa using hj) (by omega)) hn
theorem firstC_none {α:Type} (f:α→Int):∀ (l:List α),(∀ j (hj:j<l.length),f l[j]=0)→firstC f l=0
 | [],_=>rfl
 | x :: l,h=>by
  have h0:f x=0:=h 0 (by simp);unfold firstC;rw [if_pos h0];exact firstC_none f l (fun j hj=>h (j+1) (by simpa using hj))
def nmF (s:ByteArray):Prop:=s.size≤maxLen
def tmF (t:Tm):Prop:=nmF t.2
def szF (s:List Tm):Prop:=∀ t ∈ s,tmF t
def deF (d:De):Prop:=nmF d.name∧szF d.n
end Rn
end Go.Proofs.YtophfbefnaelfaaGreatDoor
namespace Go.Proofs.YtophfbefnaelfaaGreatDoor
open Go.RowKit Go.IntWalk
theorem str_ne {s:ByteArray} (h:s.size≠0):(s.toList==[])=false:=by
 rw [Lib.toList_data];rw [Lib.size_eq] at h;generalize s.data.toList=q at h
 cases q with
 | nil=>exact absurd rfl h
 | cons a q=>rfl
theorem codeOfName_any (s:ByteArray) (w:World) (hs:Rn.nmF s) :
  Calls Tryz.prog 70 #[.string s] w fun e w'=>e=.returned (.int .i64 (Rn.nameC s))∧Below w.heap.size w w':=by
 have hn:=nameT_any s w hs;unfold Rn.nameC;generalize isName s.data.toList=r at hn;go_enter Tryz.func70,Tryz.ntmps70;go_wp2_with fail;refine hn.mono ?_;rintro e w1 ⟨rfl,rfl⟩
 cases r
 ·go_wp2
  go_ret;exact ⟨rfl,Below.refl _ _⟩
 ·go_wp2
  go_ret;exact ⟨rfl,Below.refl _ _⟩
theorem firstName_any {ok:Nat→Prop} {w:World} {v:Value} {l:List ByteArray} (hl:HNames ok w v l) (hF:∀ x ∈ l,Rn.nmF x) :
  Calls Tryz.prog 69 #[v,.func (.func 70) #[] #[]] w fun e w'=>e=.returned (.int .i64 (Rn.firstC Rn.nameC l))∧Below w.heap.size w w':=by
 obtain ⟨ao,cap,rfl,hc1,hc2,hat⟩:=hl.at;unfold maxLen at hc2;obtain ⟨R,hR⟩:=nmQ (Rn.firstC Rn.nameC l);rw [←hR];have HR:=hide hR;have HF:=hide hF;clear hR hl hF;obtain ⟨n,hn⟩:=nmQ (l.length);rw [←hn] at hc1 ⊢;have HN:=hide hn;clear hn;go_enter Tryz.func69,Tryz.ntmps69;go_wp2_with fail;go_loopg [10] n (fun k v wr=>∃ i,i≤n∧k=n-i∧v=.int .i64 (i:Nat)∧Hid (∀ j (h:j<l.length),j<i→Rn.nameC l[j]=0)∧Below w.heap.size w wr)
 case atStart=>exact ⟨0,Nat.zero_le _,rfl,rfl,fun j _ h=>absurd h (Nat.not_lt_zero _),Below.refl _ _⟩
 case round=>
  obtain ⟨i,hi,rfl,rfl,H,hbr⟩:=hrel;by_cases hlt:i<n
  case neg=>
   have hin:i=n:=(by omega);subst hin;go_wp2;go_ret;refine ⟨?_,hbr⟩;rw [HR.out,Rn.firstC_none Rn.nameC l (fun j hj=>H.out j hj (by have:=HN.out;omega))];rfl
  case pos=>
   have hil:i<l.length:=(by have:=HN.out;omega);have hfi:=HF.out l[i] (List.getElem_mem hil);obtain ⟨x,hx⟩:=nmQ (l[i]);rw [←hx] at hfi;obtain ⟨b,o,rfl,hb,hc⟩:=hat i hil;rw [←hx] at hc;have e1:=(hbr.cell (p:=⟨b,o+i,none⟩) hb).trans hc;have HX:=hide hx;clear hat hx hc;have hcall:=fun W=>codeOfName_any x W hfi;go_wp2_with fail;refine (hcall _).mono ?_;rintro e w4 ⟨rfl,b4⟩;have BW:=hbr.trans (b4.mono hbr.size);obtain ⟨c,hcx⟩:=nmQ (Rn.nameC x);rw [←hcx];have HC:=hide hcx;clear hcx;by_cases hz:c=0
   ·subst hz
    go_wp2_with fail;go_roundg (n-(i+1))
    case measure=>omega
    case rel=>
     refine ⟨i+1,by omega,rfl,by go_num,fun j hj hji=>?_,BW⟩;by_cases e:j=i
     ·subst e
      rw [←HX.out,←HC.out]
     ·exact H.out j hj (by omega)
   ·go_wp2
    go_ret;refine ⟨?_,BW⟩;rw [HR.out,Rn.firstC_step Rn.nameC l i hil (fun j hj hji=>H.out j hj hji) (by rw [←HX.out,←HC.out];exact hz),←HX.out,←HC.out];rfl
theorem codeOfTerm_any (x:Tm) (w:World) (hx:Rn.tmF x) :
  Calls Tryz.prog 103 #[.agg #[.int .i64 x.1,.string x.2]] w fun e w'=>e=.returned (.int .i64 (Rn.termC x))∧Below w.heap.size w w':=by
 obtain ⟨n,s⟩:=x;have bA:Below w.heap.size w (w.alloc (.cells #[.int .i64 n,.string s] 86 (0,0))):=(Below.refl _ _).alloc nR _;have hn:=fun W=>codeOfName_any s W hx;unfold Rn.termC
 dsimp only
 by_cases h1:n ≤ -1000000000000000000
 ·rw [if_pos (.inl h1)]
  go_enter Tryz.func103,Tryz.ntmps103;go_wp2;go_ret;exact ⟨rfl,bA⟩
 by_cases h2:1000000000000000000≤n
 ·rw [if_pos (.inr h2)]
  go_enter Tryz.func103,Tryz.ntmps103;go_wp2;go_ret;exact ⟨rfl,bA⟩
 rw [if_neg (by omega)];by_cases h3:s.size=0
 ·have hs:s=⟨#[]⟩:=ByteArray.ext (Array.eq_empty_of_size_eq_zero h3)
  subst hs;rw [if_pos h3];go_enter Tryz.func103,Tryz.ntmps103;go_wp2;go_ret;exact ⟨rfl,bA⟩
 ·rw [if_neg h3]
  have hne:=str_ne h3;go_enter Tryz.func103,Tryz.ntmps103;go_wp2_with fail;refine (hn _).mono ?_;rintro e w4 ⟨rfl,b4⟩;go_wp2;go_ret;exact ⟨rfl,bA.trans (b4.mono bA.size)⟩
theorem firstTerm_any {ok:Nat→Prop} {w:World} {v:Value} {l:List Tm} (hl:HTerms ok w v l) (hF:∀ x ∈ l,Rn.tmF x) :
  Calls Tryz.prog 102 #[v,.func (.func 103) #[] #[]] w fun e w'=>e=.returned (.int .i64 (Rn.firstC Rn.termC l))∧Below w.heap.size w w':=by
 obtain ⟨ao,cap,rfl,hc1,hc2,hat⟩:=hl.at;unfold maxLen at hc2;obtain ⟨R,hR⟩:=nmQ (Rn.firstC Rn.termC l);rw [←hR];have HR:=hide hR;have HF:=hide hF;clear hR hl hF;obtain ⟨n,hn⟩:=nmQ (l.length);rw [←hn] at hc1 ⊢;have HN:=hide hn;clear hn;go_enter Tryz.func102,Tryz.ntmps102;go_wp2_with fail;go_loopg [10] n (fun k v wr=>∃ i,i≤n∧k=n-i∧v=.int .i64 (i:Nat)∧Hid (∀ j (h:j<l.length),j<i→Rn.termC l[j]=0)∧Below w.heap.size w wr)
 case atStart=>exact ⟨0,Nat.zero_le _,rfl,rfl,fun j _ h=>absurd h (Nat.not_lt_zero _),Below.refl _ _⟩
 case round=>
  obtain ⟨i,hi,rfl,rfl,H,hbr⟩:=hrel;by_cases hlt:i<n
  case neg=>
   have hin:i=n:=(by omega);subst hin;go_wp2;go_ret;refine ⟨?_,hbr⟩;rw [HR.out,Rn.firstC_none Rn.termC l (fun j hj=>H.out j hj (by have:=HN.out;omega))];rfl
  case pos=>
   have hil:i<l.length:=(by have:=HN.out;omega);have hfi:=HF.out l[i] (List.getElem_mem hil);obtain ⟨x,hx⟩:=nmQ (l[i]);rw [←hx] at hfi;obtain ⟨b,o,rfl,hb,hc,hd⟩:=hat i hil;rw [←hx] at hc hd;have e1:=(hbr.cell (p:=⟨b,o+i*2,none⟩) hb).trans hc;have e2:=(hbr.cell (p:=⟨b,o+i*2+1,none⟩) hb).trans hd;have HX:=hide hx;clear hat hx hc hd;have hcall:=fun W=>codeOfTerm_any x W hfi;go_wp2_with fail;refine (hcall _).mono ?_;rintro e w4 ⟨rfl,b4⟩;have bA:Below wr.heap.size wr (wr.alloc (.cells #[.int .i64 x.1,.string x.2] 86 (0,0))):=(Below.refl _ _).alloc nR _;have BW:=hbr.trans ((bA.trans (b4.mono bA.size)).mono hbr.size);obtain ⟨c,hcx⟩:=nmQ (Rn.termC x);rw [←hcx];have HC:=hide hcx;clear hcx;by_cases hz:c=0
   ·subst hz
    go_wp2_with fail;go_roundg (n-(i+1))
    case measure=>omega
    case rel=>
     refine ⟨i+1,by omega,rfl,by go_num,fun j hj hji=>?_,BW⟩;by_cases e:j=i
     ·subst e
      rw [←HX.out,←HC.out]
     ·exact H.out j hj (by omega)
   ·go_wp2
    go_ret;refine ⟨?_,BW⟩;rw [HR.out,Rn.firstC_step Rn.termC l i hil (fun j hj hji=>H.out j hj hji) (by rw [←HX.out,←HC.out];exact hz),←HX.out,←HC.out];rfl
theorem codeOfSize_any {ok:Nat→Prop} {w:World} {v:Value} {s:List Tm} (hs:HTerms ok w v s) (hF:Rn.szF s) :
  Calls Tryz.prog 73 #[v] w fun e w'=>e=.returned (.int .i64 (Rn.sizeC s))∧Below w.heap.size w w':=by
 have hc:=firstTerm_any hs hF;obtain ⟨ao,cap,rfl,hc1,hc2,_⟩:=hs.at;unfold maxLen at hc2;unfold Rn.sizeC;generalize Rn.firstC Rn.termC s=r at hc;generalize s.length=n at hc hc1 ⊢;by_cases h0:n=0
 ·rw [if_pos h0]
  subst h0;clear hc;go_enter Tryz.func73,Tryz.ntmps73;go_wp2;go_ret;exact ⟨rfl,Below.refl _ _⟩
 rw [if_neg h0];have h0I:¬(n:Int)=0:=(by omega);by_cases h1:30<n
 ·rw [if_pos h1]
  have h1I:(30:Int)<(n:Int):=(by omega);clear hc;go_enter Tryz.func73,Tryz.ntmps73;go_wp2;go_ret;exact ⟨rfl,Below.refl _ _⟩
 rw [if_neg h1];have h1I:¬(30:Int)<(n:Int):=(by omega);go_enter Tryz.func73,Tryz.ntmps73;go_wp2_with fail;refine hc.mono ?_;rintro e w1 ⟨rfl,b1⟩;go_wp2;go_ret;exact ⟨rfl,b1⟩
theorem firstSize_any {ok:Nat→Prop} {w:World} {v:Value} {l:List (List Tm)} (hl:HSizes ok w v l) (hF:∀ x ∈ l,Rn.szF x) :
  Calls Tryz.prog 72 #[v,.func (.func 73) #[] #[]] w fun e w'=>e=.returned (.int .i64 (Rn.firstC Rn.sizeC l))∧Below w.heap.size w w':=by
 obtain ⟨ao,cap,rfl,hc1,hc2,hat⟩:=hl.at;unfold maxLen at hc2;obtain ⟨R,hR⟩:=nmQ (Rn.firstC Rn.sizeC l);rw [←hR];have HR:=hide hR;have HF:=hide hF;clear hR hl hF;obtain ⟨n,hn⟩:=nmQ (l.length);rw [←hn] at hc1 ⊢;have HN:=hide hn;clear hn;go_enter Tryz.func72,Tryz.ntmps72;go_wp2_with fail;go_loopg [10] n (fun k v wr=>∃ i,i≤n∧k=n-i∧v=.int .i64 (i:Nat)∧Hid (∀ j (h:j<l.length),j<i→Rn.sizeC l[j]=0)∧Below w.heap.size w wr)
 case atStart=>exact ⟨0,Nat.zero_le _,rfl,rfl,fun j _ h=>absurd h (Nat.not_lt_zero _),Below.refl _ _⟩
 case round=>
  obtain ⟨i,hi,rfl,rfl,H,hbr⟩:=hrel;by_cases hlt:i<n
  case neg=>
   have hin:i=n:=(by omega);subst hin;go_wp2;go_ret;refine ⟨?_,hbr⟩;rw [HR.out,Rn.firstC_none Rn.sizeC l (fun j hj=>H.out j hj (by have:=HN.out;omega))];rfl
  case pos=>
   have hil:i<l.length:=(by have:=HN.out;omega);have hfi:=HF.out l[i] (List.getElem_mem hil);obtain ⟨x,hx⟩:=nmQ (l[i]);rw [←hx] at hfi;obtain ⟨b,o,au,nu,cu,rfl,hb,hc,ht⟩:=hat i hil;rw [←hx] at ht;have e1:=(hbr.cell (p:=⟨b,o+i,none⟩) hb).trans hc;have hcall:=codeOfSize_any (ht.keep (w':=wr) hbr.size (fun i _ hl=>hbr.block i hl)) hfi;have HX:=hide hx;clear hat hx hc ht;go_wp2_with fail;refine hcall.mono ?_;rintro e w4 ⟨rfl,b4⟩;have BW:=hbr.trans (b4.mono hbr.size);obtain ⟨c,hcx⟩:=nmQ (Rn.sizeC x);rw [←hcx];have HC:=hide hcx;clear hcx;by_cases hz:c=0
   ·subst hz
    go_wp2_with fail;go_roundg (n-(i+1))
    case measure=>omega
    case rel=>
     refine ⟨i+1,by omega,rfl,by go_num,fun j hj hji=>?_,BW⟩;by_cases e:j=i
     ·subst e
      rw [←HX.out,←HC.out]
     ·exact H.out j hj (by omega)
   ·go_wp2
    go_ret;refine ⟨?_,BW⟩;rw [HR.out,Rn.firstC_step Rn.sizeC l i hil (fun j hj hji=>H.out j hj hji) (by rw [←HX.out,←HC.out];exact hz),←HX.out,←HC.out];rfl
theorem codeOfDecl_any {ok:Nat→Prop} {w:World} {d:De} {au:Option Addr} {nu cu:Nat} (ht:HTerms ok w (.slice au nu cu) d.n) (hF:Rn.deF d) :
  Calls Tryz.prog 101 #[.agg #[.string d.name,.int .u8 d.elem,.slice au nu cu]] w fun e w'=>e=.returned (.int .i64 (Rn.declC d))∧Below w.heap.size w w':=by
 obtain ⟨nm,el,l⟩:=d;obtain ⟨W,hW⟩:=nmQ (w.alloc (.cells #[.string nm,.int .u8 el,.slice au nu cu] 77 (0,0)));have bA:=newB hW;have KA:=newK hW;have hn:=nameT_any nm W hF.1;have hsz:=codeOfSize_any (ht.keep (w':=W) bA.size (fun i _ hl=>bA.block i hl)) hF.2;obtain ⟨ao,cap,hv,hc1,hc2,_⟩:=ht.at
 dsimp only at hv hsz
 injection hv with hv1 hv2 hv3;subst hv2;unfold maxLen at hc2;clear hv1 hv3 ht;unfold Rn.declC
 dsimp only at *
 generalize isName nm.data.toList=q at hn;generalize Rn.sizeC l=r at hsz;generalize l.length=m at hsz hc1 hW KA ⊢;obtain ⟨R,hR⟩:=nmQ ((if q=false then (3:Int) else if el≠105∧el≠98 then 10 else if m=0 then 0 else r));rw [←hR];go_enter Tryz.func101,Tryz.ntmps101;rw [hW] at hn;go_wp2_with fail;refine hn.mono ?_;rintro e w1 ⟨rfl,rfl⟩
 cases q
 ·obtain rfl:R=3:=by rw [hR];rfl
  clear hR;go_wp2;go_ret;rw [←hW];exact ⟨rfl,bA⟩
 rw [if_neg (by decide)] at hR;by_cases h105:el=105
 ·subst h105
  rw [if_neg (by simp)] at hR;by_cases h0:m=0
  ·rw [if_pos h0] at hR
   subst h0;subst hR;go_wp2;go_ret;rw [←hW];exact ⟨rfl,bA⟩
  ·rw [if_neg h0] at hR
   have h0I:¬(m:Int)=0:=(by omega);subst hR;rw [hW] at hsz;go_wp2_with fail;refine hsz.mono ?_;rintro e w1 ⟨rfl,b1⟩;go_wp2;go_ret;rw [←hW] at b1;exact ⟨rfl,bA.trans (b1.mono bA.size)⟩
 by_cases h98:el=98
 ·subst h98
  rw [if_neg (by simp)] at hR;by_cases h0:m=0
  ·rw [if_pos h0] at hR
   subst h0;subst hR;go_wp2;go_ret;rw [←hW];exact ⟨rfl,bA⟩
  ·rw [if_neg h0] at hR
   have h0I:¬(m:Int)=0:=(by omega);subst hR;rw [hW] at hsz;go_wp2_with fail;refine hsz.mono ?_;rintro e w1 ⟨rfl,b1⟩;go_wp2;go_ret;rw [←hW] at b1;exact ⟨rfl,bA.trans (b1.mono bA.size)⟩
 rw [if_pos ⟨h105,h98⟩] at hR;subst hR;have h1b:(el != 105)=true:=(by simp [h105]);have h2b:(el != 98)=true:=(by simp [h98]);go_wp2;go_ret;rw [←hW];exact ⟨rfl,bA⟩
theorem firstDecl_any {ok:Nat→Prop} {w:World} {v:Value} {l:List De} (hl:HDes ok w v l) (hF:∀ x ∈ l,Rn.deF x) :
  Calls Tryz.prog 100 #[v,.func (.func 101) #[] #[]] w fun e w'=>e=.returned (.int .i64 (Rn.firstC Rn.declC l))∧Below w.heap.size w w':=by
 obtain ⟨ao,cap,rfl,hc1,hc2,hat⟩:=hl.at;unfold maxLen at hc2;obtain ⟨R,hR⟩:=nmQ (Rn.firstC Rn.declC l);rw [←hR];have HR:=hide hR;have HF:=hide hF;clear hR hl hF;obtain ⟨n,hn⟩:=nmQ (l.length);rw [←hn] at hc1 ⊢;have HN:=hide hn;clear hn;go_enter Tryz.func100,Tryz.ntmps100;go_wp2_with fail;go_loopg [10] n (fun k v wr=>∃ i,i≤n∧k=n-i∧v=.int .i64 (i:Nat)∧Hid (∀ j (h:j<l.length),j<i→Rn.declC l[j]=0)∧Below w.heap.size w wr)
 case atStart=>exact ⟨0,Nat.zero_le _,rfl,rfl,fun j _ h=>absurd h (Nat.not_lt_zero _),Below.refl _ _⟩
 case round=>
  obtain ⟨i,hi,rfl,rfl,H,hbr⟩:=hrel;by_cases hlt:i<n
  case neg=>
   have hin:i=n:=(by omega);subst hin;go_wp2;go_ret;refine ⟨?_,hbr⟩;rw [HR.out,Rn.firstC_none Rn.declC l (fun j hj=>H.out j hj (by have:=HN.out;omega))];rfl
  case pos=>
   have hil:i<l.length:=(by have:=HN.out;omega);have hfi:=HF.out l[i] (List.getElem_mem hil);obtain ⟨x,hx⟩:=nmQ (l[i]);rw [←hx] at hfi;obtain ⟨b,o,au,nu,cu,rfl,hb,hc,hd,he,ht⟩:=hat i hil;rw [←hx] at hc hd ht;have e1:=(hbr.cell (p:=⟨b,o+i*3,none⟩) hb).trans hc;have e2:=(hbr.cell (p:=⟨b,o+i*3+1,none⟩) hb).trans hd;have e3:=(hbr.cell (p:=⟨b,o+i*3+2,none⟩) hb).trans he;obtain ⟨W,hW⟩:=nmQ (wr.alloc (.cells #[.string x.name,.int .u8 x.elem,.slice au nu cu] 77 (0,0)));have bA:=newB hW;have BA:=hbr.trans (bA.mono hbr.size);have hcall:=codeOfDecl_any (ht.keep (w':=W) BA.size (fun i _ hl=>BA.block i hl)) hfi;rw [hW] at hcall;have HX:=hide hx;clear hat hx hc hd he ht;go_wp2_with fail;refine hcall.mono ?_;rintro e w4 ⟨rfl,b4⟩;rw [←hW] at b4;have BW:=BA.trans (b4.mono BA.size);obtain ⟨c,hcx⟩:=nmQ (Rn.declC x);rw [←hcx];have HC:=hide hcx;clear hcx;by_cases hz:c=0
   ·subst hz
    go_wp2_with fail;go_roundg (n-(i+1))
    case measure=>omega
    case rel=>
     refine ⟨i+1,by omega,rfl,by go_num,fun j hj hji=>?_,BW⟩;by_cases e:j=i
     ·subst e
      rw [←HX.out,←HC.out]
     ·exact H.out j hj (by omega)
   ·go_wp2
    go_ret;refine ⟨?_,BW⟩;rw [HR.out,Rn.firstC_step Rn.declC l i hil (fun j hj hji=>H.out j hj hji) (by rw [←HX.out,←HC.out];exact hz),←HX.out,←HC.out];rfl
theorem codeOfDecls_any {ok:Nat→Prop} {w:World} {v:Value} {l:List De} (hl:HDes ok w v l) (hF:∀ x ∈ l,Rn.deF x) :
  Calls Tryz.prog 71 #[v] w fun e w'=>e=.returned (.int .i64 (Rn.declsC l))∧Below w.heap.size w w':=by
 have hc:=firstDecl_any hl hF;obtain ⟨ao,cap,rfl,hc1,hc2,_⟩:=hl.at;unfold maxLen at hc2;unfold Rn.declsC;generalize Rn.firstC Rn.declC l=r at hc;generalize l.length=n at hc hc1 ⊢;by_cases h1:30<n
 ·rw [if_pos h1]
  have h1I:(30:Int)<(n:Int):=(by omega);clear hc;go_enter Tryz.func71,Tryz.ntmps71;go_wp2;go_ret;exact ⟨rfl,Below.refl _ _⟩
 rw [if_neg h1];have h1I:¬(30:Int)<(n:Int):=(by omega);go_enter Tryz.func71,Tryz.ntmps71;go_wp2_with fail;refine hc.mono ?_;rintro e w1 ⟨rfl,b1⟩;go_wp2;go_ret;exact ⟨rfl,b1⟩
end Go.Proofs.YtophfbefnaelfaaGreatDoor
