import Derived.Test.YtkfgbhlpjkkgfaaGreatDoorN11
import Derived.Test.YtkfgbhlpjkkgfaaGreatDoorN09
set_option linter.unusedVariables false
set_option linter.unusedSimpArgs false
set_option maxHeartbeats 64000000
set_option maxRecDepth 100000
namespace Go.Proofs.YtkfgbhlpjkkgfaaGreatDoor
open Go.RowKit Go.IntWalk
theorem str_ne {s:ByteArray} (h:s.size≠0):(s.toList==[])=false:=by
 rw [Lib.toList_data];rw [Lib.size_eq] at h;generalize s.data.toList=q at h
 cases q with
 | nil=>exact absurd rfl h
 | cons a q=>rfl
theorem codeOfName_any (s:ByteArray) (w:World) (hs:Rn.nmF s) :
  Calls Tryz.prog 149 #[.string s] w fun e w'=>e=.returned (.int .i64 (Rn.nameC s))∧Below w.heap.size w w':=by
 have hn:=nameT_any s w hs;unfold Rn.nameC;generalize isName s.data.toList=r at hn;go_enter Tryz.func149,Tryz.ntmps149;go_wp2_with fail;refine hn.mono ?_;rintro e w1 ⟨rfl,rfl⟩
 cases r
 ·go_wp2
  go_ret;exact ⟨rfl,Below.refl _ _⟩
 ·go_wp2
  go_ret;exact ⟨rfl,Below.refl _ _⟩
theorem firstName_any {ok:Nat→Prop} {w:World} {v:Value} {l:List ByteArray} (hl:HNames ok w v l) (hF:∀ x ∈ l,Rn.nmF x) :
  Calls Tryz.prog 148 #[v,.func (.func 149) #[] #[]] w fun e w'=>e=.returned (.int .i64 (Rn.firstC Rn.nameC l))∧Below w.heap.size w w':=by
 obtain ⟨ao,cap,rfl,hc1,hc2,hat⟩:=hl.at;unfold maxLen at hc2;obtain ⟨R,hR⟩:=nmQ (Rn.firstC Rn.nameC l);rw [←hR];have HR:=hide hR;have HF:=hide hF;clear hR hl hF;obtain ⟨n,hn⟩:=nmQ (l.length);rw [←hn] at hc1 ⊢;have HN:=hide hn;clear hn;go_enter Tryz.func148,Tryz.ntmps148;go_wp2_with fail;go_loopg [10] n (fun k v wr=>∃ i,i≤n∧k=n-i∧v=.int .i64 (i:Nat)∧Hid (∀ j (h:j<l.length),j<i→Rn.nameC l[j]=0)∧Below w.heap.size w wr)
 case atStart=>exact ⟨0,Nat.zero_le _,rfl,rfl,fun j _ h=>absurd h (Nat.not_lt_zero _),Below.refl _ _⟩
 case round=>
  obtain ⟨i,hi,rfl,rfl,H,hbr⟩:=hrel;by_cases hlt:i<n
  case neg=>
   have hin:i=n:=(by omega);subst hin;go_wp2;go_ret;refine ⟨?_,hbr⟩;rw [HR.out,Rn.firstC_none Rn.nameC l (fun j hj=>H.out j hj (by have:=HN.out;omega))];rfl
  case pos=>
   have hil:i<l.length:=(by have:=HN.out;omega);have hfi:=HF.out l[i] (List.getElem_mem hil);obtain ⟨x,hx⟩:=nmQ (l[i]);rw [←hx] at hfi;obtain ⟨b,o,rfl,hb,hc⟩:=hat i hil;rw [←hx] at hc;have e1:=(hbr.cell (p:=⟨b,o+i,none⟩) hb).trans hc;have HX:=hide hx;clear hat hx hc;have hcall:=fun W=>codeOfName_any x W hfi;go_wp2_with fail;refine (hcall _).mono ?_;rintro e w4 ⟨rfl,b4⟩;have BW:=hbr.trans (b4.mono hbr.size);obtain ⟨c,hcx⟩:=nmQ (Rn.nameC x);rw [←hcx];have HC:=hide hcx;clear hcx;by_cases hz:c=0
   ·subst hz
    go_wp2_with fail;go_roundg (n-(i+1))
    case measure=>omega
    case rel=>
     refine ⟨i+1,by omega,rfl,by go_num,fun j hj hji=>?_,BW⟩;by_cases e:j=i
     ·subst e
      rw [←HX.out,←HC.out]
     ·exact H.out j hj (by omega)
   ·go_wp2
    go_ret;refine ⟨?_,BW⟩;rw [HR.out,Rn.firstC_step Rn.nameC l i hil (fun j hj hji=>H.out j hj hji) (by rw [←HX.out,←HC.out];exact hz),←HX.out,←HC.out];rfl
theorem codeOfTerm_any (x:Tm) (w:World) (hx:Rn.tmF x) :
  Calls Tryz.prog 189 #[.agg #[.int .i64 x.1,.string x.2]] w fun e w'=>e=.returned (.int .i64 (Rn.termC x))∧Below w.heap.size w w':=by
 obtain ⟨n,s⟩:=x;have bA:Below w.heap.size w (w.alloc (.cells #[.int .i64 n,.string s] 83 (0,0))):=(Below.refl _ _).alloc nR _;have hn:=fun W=>codeOfName_any s W hx;unfold Rn.termC
 dsimp only
 by_cases h1:n ≤ -1000000000000000000
 ·rw [if_pos (.inl h1)]
  go_enter Tryz.func189,Tryz.ntmps189;go_wp2;go_ret;exact ⟨rfl,bA⟩
 by_cases h2:1000000000000000000≤n
 ·rw [if_pos (.inr h2)]
  go_enter Tryz.func189,Tryz.ntmps189;go_wp2;go_ret;exact ⟨rfl,bA⟩
 rw [if_neg (by omega)];by_cases h3:s.size=0
 ·have hs:s=⟨#[]⟩:=ByteArray.ext (Array.eq_empty_of_size_eq_zero h3)
  subst hs;rw [if_pos h3];go_enter Tryz.func189,Tryz.ntmps189;go_wp2;go_ret;exact ⟨rfl,bA⟩
 ·rw [if_neg h3]
  have hne:=str_ne h3;go_enter Tryz.func189,Tryz.ntmps189;go_wp2_with fail;refine (hn _).mono ?_;rintro e w4 ⟨rfl,b4⟩;go_wp2;go_ret;exact ⟨rfl,bA.trans (b4.mono bA.size)⟩
theorem firstTerm_any {ok:Nat→Prop} {w:World} {v:Value} {l:List Tm} (hl:HTerms ok w v l) (hF:∀ x ∈ l,Rn.tmF x) :
  Calls Tryz.prog 188 #[v,.func (.func 189) #[] #[]] w fun e w'=>e=.returned (.int .i64 (Rn.firstC Rn.termC l))∧Below w.heap.size w w':=by
 obtain ⟨ao,cap,rfl,hc1,hc2,hat⟩:=hl.at;unfold maxLen at hc2;obtain ⟨R,hR⟩:=nmQ (Rn.firstC Rn.termC l);rw [←hR];have HR:=hide hR;have HF:=hide hF;clear hR hl hF;obtain ⟨n,hn⟩:=nmQ (l.length);rw [←hn] at hc1 ⊢;have HN:=hide hn;clear hn;go_enter Tryz.func188,Tryz.ntmps188;go_wp2_with fail;go_loopg [10] n (fun k v wr=>∃ i,i≤n∧k=n-i∧v=.int .i64 (i:Nat)∧Hid (∀ j (h:j<l.length),j<i→Rn.termC l[j]=0)∧Below w.heap.size w wr)
 case atStart=>exact ⟨0,Nat.zero_le _,rfl,rfl,fun j _ h=>absurd h (Nat.not_lt_zero _),Below.refl _ _⟩
 case round=>
  obtain ⟨i,hi,rfl,rfl,H,hbr⟩:=hrel;by_cases hlt:i<n
  case neg=>
   have hin:i=n:=(by omega);subst hin;go_wp2;go_ret;refine ⟨?_,hbr⟩;rw [HR.out,Rn.firstC_none Rn.termC l (fun j hj=>H.out j hj (by have:=HN.out;omega))];rfl
  case pos=>
   have hil:i<l.length:=(by have:=HN.out;omega);have hfi:=HF.out l[i] (List.getElem_mem hil);obtain ⟨x,hx⟩:=nmQ (l[i]);rw [←hx] at hfi;obtain ⟨b,o,rfl,hb,hc,hd⟩:=hat i hil;rw [←hx] at hc hd;have e1:=(hbr.cell (p:=⟨b,o+i*2,none⟩) hb).trans hc;have e2:=(hbr.cell (p:=⟨b,o+i*2+1,none⟩) hb).trans hd;have HX:=hide hx;clear hat hx hc hd;have hcall:=fun W=>codeOfTerm_any x W hfi;go_wp2_with fail;refine (hcall _).mono ?_;rintro e w4 ⟨rfl,b4⟩;have bA:Below wr.heap.size wr (wr.alloc (.cells #[.int .i64 x.1,.string x.2] 83 (0,0))):=(Below.refl _ _).alloc nR _;have BW:=hbr.trans ((bA.trans (b4.mono bA.size)).mono hbr.size);obtain ⟨c,hcx⟩:=nmQ (Rn.termC x);rw [←hcx];have HC:=hide hcx;clear hcx;by_cases hz:c=0
   ·subst hz
    go_wp2_with fail;go_roundg (n-(i+1))
    case measure=>omega
    case rel=>
     refine ⟨i+1,by omega,rfl,by go_num,fun j hj hji=>?_,BW⟩;by_cases e:j=i
     ·subst e
      rw [←HX.out,←HC.out]
     ·exact H.out j hj (by omega)
   ·go_wp2
    go_ret;refine ⟨?_,BW⟩;rw [HR.out,Rn.firstC_step Rn.termC l i hil (fun j hj hji=>H.out j hj hji) (by rw [←HX.out,←HC.out];exact hz),←HX.out,←HC.out];rfl
theorem codeOfSize_any {ok:Nat→Prop} {w:World} {v:Value} {s:List Tm} (hs:HTerms ok w v s) (hF:Rn.szF s) :
  Calls Tryz.prog 152 #[v] w fun e w'=>e=.returned (.int .i64 (Rn.sizeC s))∧Below w.heap.size w w':=by
 have hc:=firstTerm_any hs hF;obtain ⟨ao,cap,rfl,hc1,hc2,_⟩:=hs.at;unfold maxLen at hc2;unfold Rn.sizeC;generalize Rn.firstC Rn.termC s=r at hc;generalize s.length=n at hc hc1 ⊢;by_cases h0:n=0
 ·rw [if_pos h0]
  subst h0;clear hc;go_enter Tryz.func152,Tryz.ntmps152;go_wp2;go_ret;exact ⟨rfl,Below.refl _ _⟩
 rw [if_neg h0];have h0I:¬(n:Int)=0:=(by omega);by_cases h1:30<n
 ·rw [if_pos h1]
  have h1I:(30:Int)<(n:Int):=(by omega);clear hc;go_enter Tryz.func152,Tryz.ntmps152;go_wp2;go_ret;exact ⟨rfl,Below.refl _ _⟩
 rw [if_neg h1];have h1I:¬(30:Int)<(n:Int):=(by omega);go_enter Tryz.func152,Tryz.ntmps152;go_wp2_with fail;refine hc.mono ?_;rintro e w1 ⟨rfl,b1⟩;go_wp2;go_ret;exact ⟨rfl,b1⟩
theorem firstSize_any {ok:Nat→Prop} {w:World} {v:Value} {l:List (List Tm)} (hl:HSizes ok w v l) (hF:∀ x ∈ l,Rn.szF x) :
  Calls Tryz.prog 151 #[v,.func (.func 152) #[] #[]] w fun e w'=>e=.returned (.int .i64 (Rn.firstC Rn.sizeC l))∧Below w.heap.size w w':=by
 obtain ⟨ao,cap,rfl,hc1,hc2,hat⟩:=hl.at;unfold maxLen at hc2;obtain ⟨R,hR⟩:=nmQ (Rn.firstC Rn.sizeC l);rw [←hR];have HR:=hide hR;have HF:=hide hF;clear hR hl hF;obtain ⟨n,hn⟩:=nmQ (l.length);rw [←hn] at hc1 ⊢;have HN:=hide hn;clear hn;go_enter Tryz.func151,Tryz.ntmps151;go_wp2_with fail;go_loopg [10] n (fun k v wr=>∃ i,i≤n∧k=n-i∧v=.int .i64 (i:Nat)∧Hid (∀ j (h:j<l.length),j<i→Rn.sizeC l[j]=0)∧Below w.heap.size w wr)
 case atStart=>exact ⟨0,Nat.zero_le _,rfl,rfl,fun j _ h=>absurd h (Nat.not_lt_zero _),Below.refl _ _⟩
 case round=>
  obtain ⟨i,hi,rfl,rfl,H,hbr⟩:=hrel;by_cases hlt:i<n
  case neg=>
   have hin:i=n:=(by omega);subst hin;go_wp2;go_ret;refine ⟨?_,hbr⟩;rw [HR.out,Rn.firstC_none Rn.sizeC l (fun j hj=>H.out j hj (by have:=HN.out;omega))];rfl
  case pos=>
   have hil:i<l.length:=(by have:=HN.out;omega);have hfi:=HF.out l[i] (List.getElem_mem hil);obtain ⟨x,hx⟩:=nmQ (l[i]);rw [←hx] at hfi;obtain ⟨b,o,au,nu,cu,rfl,hb,hc,ht⟩:=hat i hil;rw [←hx] at ht;have e1:=(hbr.cell (p:=⟨b,o+i,none⟩) hb).trans hc;have hcall:=codeOfSize_any (ht.keep (w':=wr) hbr.size (fun i _ hl=>hbr.block i hl)) hfi;have HX:=hide hx;clear hat hx hc ht;go_wp2_with fail;refine hcall.mono ?_;rintro e w4 ⟨rfl,b4⟩;have BW:=hbr.trans (b4.mono hbr.size);obtain ⟨c,hcx⟩:=nmQ (Rn.sizeC x);rw [←hcx];have HC:=hide hcx;clear hcx;by_cases hz:c=0
   ·subst hz
    go_wp2_with fail;go_roundg (n-(i+1))
    case measure=>omega
    case rel=>
     refine ⟨i+1,by omega,rfl,by go_num,fun j hj hji=>?_,BW⟩;by_cases e:j=i
     ·subst e
      rw [←HX.out,←HC.out]
     ·exact H.out j hj (by omega)
   ·go_wp2
    go_ret;refine ⟨?_,BW⟩;rw [HR.out,Rn.firstC_step Rn.sizeC l i hil (fun j hj hji=>H.out j hj hji) (by rw [←HX.out,←HC.out];exact hz),←HX.out,←HC.out];rfl
theorem codeOfDecl_any {ok:Nat→Prop} {w:World} {d:De} {au:Option Addr} {nu cu:Nat} (ht:HTerms ok w (.slice au nu cu) d.n) (hF:Rn.deF d) :
  Calls Tryz.prog 187 #[.agg #[.string d.name,.int .u8 d.elem,.slice au nu cu]] w fun e w'=>e=.returned (.int .i64 (Rn.declC d))∧Below w.heap.size w w':=by
 obtain ⟨nm,el,l⟩:=d;obtain ⟨W,hW⟩:=nmQ (w.alloc (.cells #[.string nm,.int .u8 el,.slice au nu cu] 50 (0,0)));have bA:=newB hW;have KA:=newK hW;have hn:=nameT_any nm W hF.1;have hsz:=codeOfSize_any (ht.keep (w':=W) bA.size (fun i _ hl=>bA.block i hl)) hF.2;obtain ⟨ao,cap,hv,hc1,hc2,_⟩:=ht.at
 dsimp only at hv hsz
 injection hv with hv1 hv2 hv3;subst hv2;unfold maxLen at hc2;clear hv1 hv3 ht;unfold Rn.declC
 dsimp only at *
 generalize isName nm.data.toList=q at hn;generalize Rn.sizeC l=r at hsz;generalize l.length=m at hsz hc1 hW KA ⊢;obtain ⟨R,hR⟩:=nmQ ((if q=false then (3:Int) else if el≠105∧el≠98 then 10 else if m=0 then 0 else r));rw [←hR];go_enter Tryz.func187,Tryz.ntmps187;rw [hW] at hn;go_wp2_with fail;refine hn.mono ?_;rintro e w1 ⟨rfl,rfl⟩
 cases q
 ·obtain rfl:R=3:=by rw [hR];rfl
  clear hR;go_wp2;go_ret;rw [←hW];exact ⟨rfl,bA⟩
 rw [if_neg (by decide)] at hR;by_cases h105:el=105
 ·subst h105
  rw [if_neg (by simp)] at hR;by_cases h0:m=0
  ·rw [if_pos h0] at hR
   subst h0;subst hR;go_wp2;go_ret;rw [←hW];exact ⟨rfl,bA⟩
  ·rw [if_neg h0] at hR
   have h0I:¬(m:Int)=0:=(by omega);subst hR;rw [hW] at hsz;go_wp2_with fail;refine hsz.mono ?_;rintro e w1 ⟨rfl,b1⟩;go_wp2;go_ret;rw [←hW] at b1;exact ⟨rfl,bA.trans (b1.mono bA.size)⟩
 by_cases h98:el=98
 ·subst h98
  rw [if_neg (by simp)] at hR;by_cases h0:m=0
  ·rw [if_pos h0] at hR
   subst h0;subst hR;go_wp2;go_ret;rw [←hW];exact ⟨rfl,bA⟩
  ·rw [if_neg h0] at hR
   have h0I:¬(m:Int)=0:=(by omega);subst hR;rw [hW] at hsz;go_wp2_with fail;refine hsz.mono ?_;rintro e w1 ⟨rfl,b1⟩;go_wp2;go_ret;rw [←hW] at b1;exact ⟨rfl,bA.trans (b1.mono bA.size)⟩
 rw [if_pos ⟨h105,h98⟩] at hR;subst hR;have h1b:(el != 105)=true:=(by simp [h105]);have h2b:(el != 98)=true:=(by simp [h98]);go_wp2;go_ret;rw [←hW];exact ⟨rfl,bA⟩
theorem firstDecl_any {ok:Nat→Prop} {w:World} {v:Value} {l:List De} (hl:HDes ok w v l) (hF:∀ x ∈ l,Rn.deF x) :
  Calls Tryz.prog 186 #[v,.func (.func 187) #[] #[]] w fun e w'=>e=.returned (.int .i64 (Rn.firstC Rn.declC l))∧Below w.heap.size w w':=by
 obtain ⟨ao,cap,rfl,hc1,hc2,hat⟩:=hl.at;unfold maxLen at hc2;obtain ⟨R,hR⟩:=nmQ (Rn.firstC Rn.declC l);rw [←hR];have HR:=hide hR;have HF:=hide hF;clear hR hl hF;obtain ⟨n,hn⟩:=nmQ (l.length);rw [←hn] at hc1 ⊢;have HN:=hide hn;clear hn;go_enter Tryz.func186,Tryz.ntmps186;go_wp2_with fail;go_loopg [10] n (fun k v wr=>∃ i,i≤n∧k=n-i∧v=.int .i64 (i:Nat)∧Hid (∀ j (h:j<l.length),j<i→Rn.declC l[j]=0)∧Below w.heap.size w wr)
 case atStart=>exact ⟨0,Nat.zero_le _,rfl,rfl,fun j _ h=>absurd h (Nat.not_lt_zero _),Below.refl _ _⟩
 case round=>
  obtain ⟨i,hi,rfl,rfl,H,hbr⟩:=hrel;by_cases hlt:i<n
  case neg=>
   have hin:i=n:=(by omega);subst hin;go_wp2;go_ret;refine ⟨?_,hbr⟩;rw [HR.out,Rn.firstC_none Rn.declC l (fun j hj=>H.out j hj (by have:=HN.out;omega))];rfl
  case pos=>
   have hil:i<l.length:=(by have:=HN.out;omega);have hfi:=HF.out l[i] (List.getElem_mem hil);obtain ⟨x,hx⟩:=nmQ (l[i]);rw [←hx] at hfi;obtain ⟨b,o,au,nu,cu,rfl,hb,hc,hd,he,ht⟩:=hat i hil;rw [←hx] at hc hd ht;have e1:=(hbr.cell (p:=⟨b,o+i*3,none⟩) hb).trans hc;have e2:=(hbr.cell (p:=⟨b,o+i*3+1,none⟩) hb).trans hd;have e3:=(hbr.cell (p:=⟨b,o+i*3+2,none⟩) hb).trans he;obtain ⟨W,hW⟩:=nmQ (wr.alloc (.cells #[.string x.name,.int .u8 x.elem,.slice au nu cu] 50 (0,0)));have bA:=newB hW;have BA:=hbr.trans (bA.mono hbr.size);have hcall:=codeOfDecl_any (ht.keep (w':=W) BA.size (fun i _ hl=>BA.block i hl)) hfi;rw [hW] at hcall;have HX:=hide hx;clear hat hx hc hd he ht;go_wp2_with fail;refine hcall.mono ?_;rintro e w4 ⟨rfl,b4⟩;rw [←hW] at b4;have BW:=BA.trans (b4.mono BA.size);obtain ⟨c,hcx⟩:=nmQ (Rn.declC x);rw [←hcx];have HC:=hide hcx;clear hcx;by_cases hz:c=0
   ·subst hz
    go_wp2_with fail;go_roundg (n-(i+1))
    case measure=>omega
    case rel=>
     refine ⟨i+1,by omega,rfl,by go_num,fun j hj hji=>?_,BW⟩;by_cases e:j=i
     ·subst e
      rw [←HX.out,←HC.out]
     ·exact H.out j hj (by omega)
   ·go_wp2
    go_ret;refine ⟨?_,BW⟩;rw [HR.out,Rn.firstC_step Rn.declC l i hil (fun j hj hji=>H.out j hj hji) (by rw [←HX.out,←HC.out];exact hz),←HX.out,←HC.out];rfl
theorem codeOfDecls_any {ok:Nat→Prop} {w:World} {v:Value} {l:List De} (hl:HDes ok w v l) (hF:∀ x ∈ l,Rn.deF x) :
  Calls Tryz.prog 150 #[v] w fun e w'=>e=.returned (.int .i64 (Rn.declsC l))∧Below w.heap.size w w':=by
 have hc:=firstDecl_any hl hF;obtain ⟨ao,cap,rfl,hc1,hc2,_⟩:=hl.at;unfold maxLen at hc2;unfold Rn.declsC;generalize Rn.firstC Rn.declC l=r at hc;generalize l.length=n at hc hc1 ⊢;by_cases h1:30<n
 ·rw [if_pos h1]
  have h1I:(30:Int)<(n:Int):=(by omega);clear hc;go_enter Tryz.func150,Tryz.ntmps150;go_wp2;go_ret;exact ⟨rfl,Below.refl _ _⟩
 rw [if_neg h1];have h1I:¬(30:Int)<(n:Int):=(by omega);go_enter Tryz.func150,Tryz.ntmps150;go_wp2_with fail;refine hc.mono ?_;rintro e w1 ⟨rfl,b1⟩;go_wp2;go_ret;exact ⟨rfl,b1⟩
end Go.Proofs.YtkfgbhlpjkkgfaaGreatDoor
namespace Go.Proofs.YtkfgbhlpjkkgfaaGreatDoor
open Go.RowKit Go.IntWalk
namespace Rn
def shpT:List (ByteArray × Int × Int × Int × Int × Int):=[(⟨#[]⟩,0,0,0,0,0),(⟨#[]⟩,0,0,0,0,0),(⟨#[]⟩,0,0,0,0,0),(⟨#[]⟩,0,0,0,0,0),(⟨#[]⟩,1,1,0,13,14),(⟨#[]⟩,2,2,0,1,12),(⟨#[]⟩,3,3,0,0,0),(⟨#[109,97,112]⟩,1,2,0,1,14),(⟨#[102,111,108,100]⟩,2,2,0,1,14),(⟨#[115,99,97,110]⟩,2,2,0,1,14),(⟨#[102,105,108,108]⟩,1,1,1,0,0),(⟨#[]⟩,3,3,0,0,0),(⟨#[119,105,116,104]⟩,3,3,0,0,0),(⟨#[115,108,105,99,101]⟩,1,1,2,0,0),(⟨#[99,97,116]⟩,2,2,0,0,0),(⟨#[112,114,101]⟩,2,2,0,0,0)]
def shp (k:Nat):ByteArray × Int × Int × Int × Int × Int:=shpT.getD k (⟨#[]⟩,0,0,0,0,0)
def numOk (op n:Int):Bool:=if op=1 then true else if op=2 then decide (n=0∨n=1) else decide (n=0)
def formOk (e:Ex):Bool :=
 decide (1≤e.op∧e.op≤15)&&(decide ((shp e.op.toNat).2.1≤(e.L.length:Int))&&decide ((e.L.length:Int)≤(shp e.op.toNat).2.2.1)&&decide ((e.S.length:Int)=(shp e.op.toNat).2.2.2.1)&&decide ((shp e.op.toNat).2.2.2.2.1≤e.k)&&decide (e.k≤(shp e.op.toNat).2.2.2.2.2)&&numOk e.op e.n&&(decide (e.op=3) || decide (e.name.size=0)))
end Rn
def GlobS (w:World):Prop:=3<w.heap.size∧∀ k,k<16→w.cell? ⟨3,k*6,none⟩=some (.string (Rn.shp k).1)∧w.cell? ⟨3,k*6+1,none⟩=some (.int .i64 (Rn.shp k).2.1)∧w.cell? ⟨3,k*6+2,none⟩=some (.int .i64 (Rn.shp k).2.2.1)∧w.cell? ⟨3,k*6+3,none⟩=some (.int .i64 (Rn.shp k).2.2.2.1)∧w.cell? ⟨3,k*6+4,none⟩=some (.int .i64 (Rn.shp k).2.2.2.2.1)∧w.cell? ⟨3,k*6+5,none⟩=some (.int .i64 (Rn.shp k).2.2.2.2.2)
theorem GlobS.under {w w':World} (h:GlobS w) (b:Below w.heap.size w w'):GlobS w':=by
 refine ⟨Nat.lt_of_lt_of_le h.1 b.size,fun k hk=>?_⟩;obtain ⟨h0,h1,h2,h3,h4,h5⟩:=h.2 k hk;exact ⟨(b.cell (p:=⟨3,k*6,none⟩) h.1).trans h0,(b.cell (p:=⟨3,k*6+1,none⟩) h.1).trans h1,(b.cell (p:=⟨3,k*6+2,none⟩) h.1).trans h2,(b.cell (p:=⟨3,k*6+3,none⟩) h.1).trans h3,(b.cell (p:=⟨3,k*6+4,none⟩) h.1).trans h4,(b.cell (p:=⟨3,k*6+5,none⟩) h.1).trans h5⟩
theorem mayHaveNumber_any (op k n:Int) (name:ByteArray) (aS aL:Option Addr) (nS cS nL cL:Nat) (w:World) :
  Calls Tryz.prog 247 #[.agg #[.int .i64 op,.int .i64 k,.int .i64 n,.string name,.slice aS nS cS,.slice aL nL cL]] w fun e w'=>e=.returned (.bool (Rn.numOk op n))∧Below w.heap.size w w':=by
 have bA:Below w.heap.size w (w.alloc (.cells #[.int .i64 op,.int .i64 k,.int .i64 n,.string name,.slice aS nS cS,.slice aL nL cL] 54 (0,0))):=(Below.refl _ _).alloc nR _;unfold Rn.numOk;by_cases h1:op=1
 ·rw [if_pos h1]
  subst h1;go_enter Tryz.func247,Tryz.ntmps247;go_wp2;go_ret;exact ⟨rfl,bA⟩
 rw [if_neg h1];by_cases h2:op=2
 ·rw [if_pos h2]
  subst h2;by_cases h3:n=0
  ·subst h3
   go_enter Tryz.func247,Tryz.ntmps247;go_wp2;go_ret;exact ⟨by simp,bA⟩
  by_cases h4:n=1
  ·subst h4
   go_enter Tryz.func247,Tryz.ntmps247;go_wp2;go_ret;exact ⟨by simp,bA⟩
  rw [show decide (n=0∨n=1)=false by simp [h3,h4]];go_enter Tryz.func247,Tryz.ntmps247;go_wp2;go_ret;exact ⟨by simp [h3,h4],bA⟩
 rw [if_neg h2];by_cases h3:n=0
 ·subst h3
  go_enter Tryz.func247,Tryz.ntmps247;go_wp2;go_ret;exact ⟨by simp,bA⟩
 ·rw [show decide (n=0)=false by simp [h3]]
  go_enter Tryz.func247,Tryz.ntmps247;go_wp2;go_ret;exact ⟨by simp [h3],bA⟩
theorem formed_walk (op k n:Int) (name:ByteArray) (aS aL:Option Addr) (nS cS nL cL:Nat) (w:World) (hg:GlobS w) (hcL:nL≤cL) (hcL2:cL≤maxLen) (hcS:nS≤cS) (hcS2:cS≤maxLen) :
  Calls Tryz.prog 225 #[.agg #[.int .i64 op,.int .i64 k,.int .i64 n,.string name,.slice aS nS cS,.slice aL nL cL]] w fun e w'=>e=.returned (.bool (decide (1≤op∧op≤15)&&(decide ((Rn.shp op.toNat).2.1≤(nL:Int))&&decide ((nL:Int)≤(Rn.shp op.toNat).2.2.1)&&decide ((nS:Int)=(Rn.shp op.toNat).2.2.2.1)&&decide ((Rn.shp op.toNat).2.2.2.2.1≤k)&&decide (k≤(Rn.shp op.toNat).2.2.2.2.2)&&Rn.numOk op n&&(decide (op=3) || decide (name.size=0)))))∧Below w.heap.size w w':=by
 unfold maxLen at hcL2 hcS2;obtain ⟨W,hW⟩:=nmQ (w.alloc (.cells #[.int .i64 op,.int .i64 k,.int .i64 n,.string name,.slice aS nS cS,.slice aL nL cL] 54 (0,0)));have bA:=newB hW;have gW:=hg.under bA;have KA:=newK hW;by_cases hr:1≤op∧op≤15
 case neg=>
  rw [show decide (1≤op∧op≤15)=false by simp [hr],Bool.false_and];by_cases hr1:op<1
  ·go_enter Tryz.func225,Tryz.ntmps225
   go_wp2;go_ret;rw [←hW];exact ⟨rfl,bA⟩
  ·have hr2:15<op:=by omega
   go_enter Tryz.func225,Tryz.ntmps225;go_wp2;go_ret;rw [←hW];exact ⟨rfl,bA⟩
 rw [show decide (1≤op∧op≤15)=true by simp [hr],Bool.true_and];have hr1:¬op<1:=(by omega);have hr2:¬15<op:=(by omega);obtain ⟨q,hq⟩:∃ q:Nat,op=(q:Int):=⟨op.toNat,by omega⟩;have hq16:q<16:=(by omega);have hqn:op.toNat=q:=(by omega);rw [hqn];obtain ⟨c0,c1,c2,c3,c4,c5⟩:=gW.2 q hq16;generalize Rn.shp q=sh at c0 c1 c2 c3 c4 c5 ⊢;obtain ⟨wd,a,b,c,f,l⟩:=sh
 dsimp only at *
 rw [hW] at c0 c1 c2 c3 c4 c5;subst hq;go_enter Tryz.func225,Tryz.ntmps225;go_upto_region 4 with fail;rw [←hW] at c0 c1 c2 c3 c4 c5 ⊢;obtain ⟨W2,hW2⟩:=nmQ (W.alloc (.cells #[.string wd,.int .i64 a,.int .i64 b,.int .i64 c,.int .i64 f,.int .i64 l] 256 (0,0)));have bB:=newB hW2;have bAB:=bA.trans (bB.mono bA.size);have KB:=newK hW2;have KA2:=(bB.block _ (lt_of KA)).trans KA;have zW:=newZ hW;rw [zW] at KB;rw [←hW2];have hwB:w.heap.size<W2.heap.size:=lt_of KA2;clear hW2 KA c0 c1 c2 c3 c4 c5;have hnum:=fun V=>mayHaveNumber_any q k n name aS aL nS cS nL cL V;have p0:=co KA2 0;have p1:=co KA2 1;have p2:=co KA2 2;have p3:=co KA2 3;have p4:=co KA2 4;have p5:=co KA2 5;have t1:=co KB 1;have t2:=co KB 2;have t3:=co KB 3;have t4:=co KB 4;have t5:=co KB 5;simp at p0 p1 p2 p3 p4 p5 t1 t2 t3 t4 t5;clear KA2 KB gW hg hW;have hR:∃ R,R=(decide (a≤(nL:Int))&&decide ((nL:Int)≤b)&&decide ((nS:Int)=c)&&decide (f≤k)&&decide (k≤l)&&Rn.numOk (q:Int) n&&(decide ((q:Int)=3) || decide (name.size=0))):=⟨_,rfl⟩;by_cases h1:a≤(nL:Int)
 case neg=>
  go_wp2;go_ret;exact ⟨by first | (simp [h1];done) | (simp [h1];intros;omega),bAB⟩
 by_cases h2:(nL:Int)≤b
 case neg=>
  go_wp2;go_ret;exact ⟨by first | (simp [h2];done) | (simp [h2];intros;omega),bAB⟩
 by_cases h3:(nS:Int)=c
 case neg=>
  go_wp2;go_ret;exact ⟨by first | (simp [h3];done) | (simp [h3];intros;omega),bAB⟩
 by_cases h4:f≤k
 case neg=>
  go_wp2;go_ret;exact ⟨by first | (simp [h4];done) | (simp [h4];intros;omega),bAB⟩
 by_cases h5:k≤l
 case neg=>
  go_wp2;go_ret;exact ⟨by first | (simp [h5];done) | (simp [h5];intros;omega),bAB⟩
 go_wp2_with fail;refine (hnum _).mono ?_;rintro e w3 ⟨rfl,b3⟩;have B3:=bAB.trans (b3.mono bAB.size);have p0':=(b3.cell (p:=⟨w.heap.size,0,none⟩) hwB).trans p0;have p3':=(b3.cell (p:=⟨w.heap.size,3,none⟩) hwB).trans p3;clear p0 p1 p2 p3 p4 p5 t1 t2 t3 t4 t5
 cases hnq:Rn.numOk (q:Int) n
 ·go_wp2
  go_ret;exact ⟨by simp [hnq],B3⟩
 by_cases hq3:q=3
 ·have hq3I:(q:Int)=3:=by omega
  go_wp2;go_ret;rw [hq3I] at hnq;exact ⟨by simp [h1,h2,h3,h4,h5,hq3I,hnq],B3⟩
 have hq3I:¬(q:Int)=3:=(by omega);by_cases hs0:name.size=0
 ·have hs:name=⟨#[]⟩:=ByteArray.ext (Array.eq_empty_of_size_eq_zero hs0)
  subst hs;go_wp2;go_ret;exact ⟨by simp [h1,h2,h3,h4,h5,hnq,show (⟨#[]⟩:ByteArray)=ByteArray.empty from rfl],B3⟩
 ·have hne:=str_ne hs0
  go_wp2;go_ret;exact ⟨by simp [h1,h2,h3,h4,h5,hq3I,hs0,hne],B3⟩
end Go.Proofs.YtkfgbhlpjkkgfaaGreatDoor
namespace Go.Proofs.YtkfgbhlpjkkgfaaGreatDoor
open Go.RowKit Go.IntWalk
namespace Kd
open Classical in
noncomputable def sameS (a b:List Tm):Bool:=decide (SameN a b)
noncomputable def same (a b:Ty):Bool:=decide (a.elem=b.elem)&&(arr a==arr b)&&(!arr a || sameS a.n b.n)
structure Env where
 above:List Nd
 sizes:List ByteArray
 types:List De
def hasN (l:List ByteArray) (s:ByteArray):Bool:=l.any fun x=>x.data.toList==s.data.toList
def findD (l:List De) (s:ByteArray):Option De:=l.find? fun d=>d.name.data.toList==s.data.toList
def findN (l:List Nd) (s:ByteArray):Option Nd:=l.find? fun d=>d.name.data.toList==s.data.toList
def okB (n:List Tm):Bool:=decide (n.length≤1000)&&n.all fun t=>small t.1
def rng (n:List Tm):Int:=if okB n=true then 0 else 16
def termN (sizes:List ByteArray) (t:Tm):Int:=if hasN sizes t.2=false∧t.2.size≠0 then 9 else 0
def codeSz (sizes:List ByteArray) (n:List Tm):Int:=if Rn.firstC (termN sizes) n≠0 then Rn.firstC (termN sizes) n else rng n
def isFold (k:Int) (a b:Ty):Bool:=folds k&&isSc a (opT k).1&&isAr b (opT k).1
def isPlace (a b c:Ty):Bool:=arr a&&isSc b 105&&isSc c a.elem
noncomputable def mapT (k:Int) (l:List Ty):Except Int Ty :=
 if (l.length:Int)≠(opT k).2.2 then .error 12
 else match l with
  | []=>.error 10
  | t :: r=>typed (isAr t (opT k).1&&r.all fun u=>isAr u (opT k).1&&same u t) (mkA (opT k).2.1 t.n)
def cat (a b:Ty):Except Int Ty:=if (arr a&&isAr b a.elem)=true then (if okB (a.n++b.n)=true then .ok (mkA a.elem (a.n++b.n)) else .error 16) else .error 10
noncomputable def whole (op k:Int) (S:List (List Tm)) (l:List Ty):Except Int Ty :=
 if op=7 then mapT k l
 else if op=8 then typed (isFold k (l.getD 0 (sc 0)) (l.getD 1 (sc 0))) (l.getD 0 (sc 0))
 else if op=9 then typed (isFold k (l.getD 0 (sc 0)) (l.getD 1 (sc 0))) (l.getD 1 (sc 0))
 else if op=6 then typed (isSc (l.getD 0 (sc 0)) 98&&same (l.getD 1 (sc 0)) (l.getD 2 (sc 0))) (l.getD 1 (sc 0))
 else if op=10 then typed (!arr (l.getD 0 (sc 0))) (mkA (l.getD 0 (sc 0)).elem (S.getD 0 []))
 else if op=11 then typed (isPlace (l.getD 0 (sc 0)) (l.getD 1 (sc 0)) (l.getD 2 (sc 0))) (sc (l.getD 0 (sc 0)).elem)
 else if op=12 then typed (isPlace (l.getD 0 (sc 0)) (l.getD 1 (sc 0)) (l.getD 2 (sc 0))) (l.getD 0 (sc 0))
 else if op=13 then typed (arr (l.getD 0 (sc 0))) (mkA (l.getD 0 (sc 0)).elem (S.getD 1 []))
 else if op=14 then cat (l.getD 0 (sc 0)) (l.getD 1 (sc 0))
 else if op=15 then typed (same (l.getD 0 (sc 0)) (l.getD 1 (sc 0))) (l.getD 0 (sc 0))
 else typed (l.all fun t=>isSc t (opT k).1) (sc (opT k).2.1)
def tyD (d:De):Ty:=⟨d.elem,d.n⟩
def tyN (E:Env) (s:ByteArray):Except Int Ty:=match findD E.types s with
 | none=>.error 9
 | some d=>.ok (tyD d)
mutual
noncomputable def tyX (E:Env):Ex→Except Int Ty
 | .mk op k n name S L=>
  if Rn.firstC (codeSz E.sizes) S≠0 then .error (Rn.firstC (codeSz E.sizes) S)
  else match tyL E L with
   | .error c=>.error c
   | .ok l=>if op=1 then .ok (sc 105) else if op=2 then .ok (sc 98) else if op=3 then tyN E name else whole op k S l
noncomputable def tyL (E:Env):List Ex→Except Int (List Ty)
 | []=>.ok []
 | x :: r=>match tyX E x with
  | .error c=>.error c
  | .ok t=>match tyL E r with
   | .error c=>.error c
   | .ok l=>.ok (t :: l)
end
noncomputable def called (names:List ByteArray) (S:List (List Tm)) (d:De):Except Int Ty :=
 if d.n.length=0 then .ok (tyD d)
 else if wcode names S d.n≠0∨okB (withL names S d.n)=false then .error 16
 else .ok (mkA d.elem (withL names S d.n))
noncomputable def calledL (names:List ByteArray) (S:List (List Tm)):List De→Except Int (List Ty)
 | []=>.ok []
 | d :: r=>match called names S d with
  | .error c=>.error c
  | .ok t=>match calledL names S r with
   | .error c=>.error c
   | .ok l=>.ok (t :: l)
noncomputable def codeIn (names:List ByteArray) (S:List (List Tm)):List De→List Ty→Int
 | d :: r,t :: s=>match called names S d with
  | .error c=>c
  | .ok u=>if same t u=true then codeIn names S r s else 10
 | _,_=>0
def typ (l:List De) (s:ByteArray):Ty:=match findD l s with
 | none=>sc 0
 | some d=>tyD d
noncomputable def codeNm (l:List De):List ByteArray→List Ty→Int
 | x :: r,t :: s=>if same (typ l x) t=true then codeNm l r s else 10
 | _,_=>0
noncomputable def codeCall (E:Env) (q:Eqn):Int :=
 match findN E.above q.node with
 | none=>11
 | some g=>
  if Rn.firstC (codeSz E.sizes) q.S≠0 then Rn.firstC (codeSz E.sizes) q.S
  else match tyL E q.E with
   | .error c=>c
   | .ok l=>
    if q.S.length≠g.sizes.length∨q.E.length≠g.inn.length∨q.names.length≠g.out.length then 12
    else if codeIn g.sizes q.S g.inn l≠0 then codeIn g.sizes q.S g.inn l
    else match calledL g.sizes q.S g.out with
     | .error c=>c
     | .ok m=>codeNm E.types q.names m
def mkNm (mk:List ByteArray):List ByteArray→List ByteArray→Int
 | done,[]=>0
 | done,x :: r=>if hasN mk x=false then 9 else if hasN done x=true then 8 else mkNm mk (done++[x]) r
noncomputable def codeEq (E:Env) (mk done:List ByteArray) (q:Eqn):Int :=
 if mkNm mk done q.names≠0 then mkNm mk done q.names
 else if q.node.size≠0 then codeCall E q
 else match tyX E (q.E.getD 0 (.mk 0 0 0 ⟨#[]⟩ [] [])) with
  | .error c=>c
  | .ok t=>if same t (typ E.types (q.names.getD 0 ⟨#[]⟩))=true then 0 else 10
def declC (sizes:List ByteArray):List De→List De→Int
 | _,[]=>0
 | had,d :: r=>if ((findD had d.name).isSome || hasN sizes d.name)=true then 8 else if codeSz sizes d.n≠0 then codeSz sizes d.n else declC sizes (had++[d]) r
def twice:List ByteArray→List ByteArray→Bool
 | _,[]=>false
 | had,x :: r=>hasN had x || twice (had++[x]) r
def headC (above:List Nd) (n:Nd):Int :=
 if (findN above n.name).isSome=true then 8 else if twice [] n.sizes=true then 8 else declC n.sizes [] (n.inn++n.out++n.loc)
noncomputable def goE (E:Env) (mk:List ByteArray):List ByteArray→List Eqn→Nat→Option (Int × Nat)
 | _,[],_=>none
 | done,q :: r,i=>if codeEq E mk done q≠0 then some (codeEq E mk done q,i) else goE E mk (done++q.names) r (i+1)
def unmade (done:List ByteArray) (l:List De):Int:=Rn.firstC (fun d=>if hasN done d.name=true then 0 else 9) l
def mkOf (n:Nd):List ByteArray:=(n.out++n.loc).map De.name
def envOf (above:List Nd) (n:Nd):Env:=⟨above,n.sizes,n.inn++n.out++n.loc⟩
def doneOf (n:Nd):List ByteArray:=n.eqs.flatMap Eqn.names
noncomputable def nodeF (above:List Nd) (n:Nd) (i at0:Nat):Option (Int × Int) :=
 if headC above n≠0 then some (headC above n,-2-(i:Int))
 else match goE (envOf above n) (mkOf n) [] n.eqs at0 with
  | some (c,k)=>some (c,(k:Int))
  | none=>if unmade (doneOf n) (n.out++n.loc)≠0 then some (unmade (doneOf n) (n.out++n.loc),-2-(i:Int)) else none
noncomputable def goN:List Nd→List Nd→Nat→Nat→Int × Int
 | _,[],_,_=>(0,0)
 | above,n :: r,i,k=>match nodeF above n i k with
  | some f=>f
  | none=>goN (above++[n]) r (i+1) (k+n.eqs.length)
def isMain (n:Nd):Bool:=(n.name.data.toList==[109,97,105,110])&&decide (n.sizes.length=0)
noncomputable def checkN (l:List Nd):Int × Int :=
 if (goN [] l 0 0).1≠0 then goN [] l 0 0 else if l.any isMain=true then (0,0) else (14,-1)
theorem okB_iff (n:List Tm):okB n=true↔OkN n:=by
 unfold okB OkN;simp
end Kd
end Go.Proofs.YtkfgbhlpjkkgfaaGreatDoor
