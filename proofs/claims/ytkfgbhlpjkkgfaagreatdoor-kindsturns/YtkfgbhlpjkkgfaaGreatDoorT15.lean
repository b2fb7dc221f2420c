import Derived.Test.YtkfgbhlpjkkgfaaGreatDoorT14
set_option linter.unusedVariables false
set_option linter.unusedSimpArgs false
set_option maxHeartbeats 64000000
set_option maxRecDepth 100000
namespace Go.Proofs.YtkfgbhlpjkkgfaaGreatDoor
open Go.RowKit Go.IntWalk
theorem zDi {ok:Nat->Prop} {w:World} {b:Nat} {t:ByteArray} {v:Value} {l:List ByteArray} (hw:Wr ok w b t) (hg:Gl ok w) (hl:HNames ok w v l) (hs:∀ x ∈ l,okS x) :
  Calls Tryz.prog 192 #[.pointer (some ⟨b,0,none⟩),v,.func (.func 157) #[.pointer (some ⟨b,0,none⟩)] #[]] w (WPost ok w b t (Tx.commas Tx.wordP l)):=by
 obtain ⟨ao,cap,rfl,aC,av,_⟩:=hl.at;unfold maxLen at av;have HL:=zAA hl;have HS:=zAA hs;have HG:=zAA hg;clear hl hs hg;obtain ⟨n,hn⟩:=nmQ (l.length);rw [<-hn] at aC HL ⊢;have HN:=zAA hn;clear hn;go_enter Tryz.func192,Tryz.ntmps192;go_wp2_with fail;go_loopg [10] n (fun k v wr=>∃ i,i<=n/\k=n-i/\v=.int .i64 (i:Nat)/\Hid (Wr ok wr b (Tx.puts t (Tx.rowP (Tx.comma Tx.wordP) 0 (l.take i))))/\Keep ok w wr)
 case atStart=>exact ⟨0,Nat.zero_le _,rfl,rfl,zAA (by simpa [Tx.puts,Tx.rowP] using hw),Keep.refl _ _⟩
 case round=>
  obtain ⟨i,hi,rfl,rfl,H,kr⟩:=hrel;by_cases ak:i<n
  case neg=>
   have bH:i=n:=(by omega);subst bH;go_wp2;go_end0;refine ⟨rfl,?_,kr⟩;have:=H.out
   rwa [List.take_of_length_le (by have:=HN.out;omega)] at this
  case pos=>
   have ap:i<l.length:=(by have:=HN.out;omega);have HX:=zAA (Tx.puts_take (Tx.comma Tx.wordP) t l i ap);have ei:=HS.out l[i] (List.getElem_mem ap);obtain ⟨fi,bE,e1,_,_,ai⟩:=(HL.out.keep kr.size kr.block).at;injection e1 with e2 e3 e4;subst e2 e4;obtain ⟨bl,o,e5,iy,c0⟩:=ai i ap;subst e5;clear ai e3;have dc:=H.out;have j9:=HG.out.keep kr;generalize l[i]=x at HX ei c0;generalize Tx.puts t (Tx.rowP (Tx.comma Tx.wordP) 0 (l.take i))=ti at HX dc H;clear H;by_cases gC:i=0
   ·have lu:¬(0:Int)<(i:Int):=by omega
    have tT:=zAA gC;clear gC;go_wp2_with fail;refine (wordW_any dc x ei).mono ?_;rintro e w3 ⟨rfl,h3,k3⟩;go_wp2_with fail;go_roundg (n-(i+1))
    case measure=>omega
    case rel=>exact ⟨i+1,by omega,rfl,by go_num,zAA (by rw [HX.out,Tx.comma,if_pos tT.out];exact h3),kr.trans k3⟩
   ·have lu:(0:Int)<(i:Int):=by omega
    go_wp2_with fail;refine (zAU dc rfl ⟨#[44,32]⟩ (by unfold okS;decide)).mono ?_;rintro e w2 ⟨rfl,h2,k2⟩;go_wp2_with fail;refine (wordW_any h2 x ei).mono ?_;rintro e w3 ⟨rfl,h3,k3⟩;go_wp2_with fail;go_roundg (n-(i+1))
    case measure=>omega
    case rel=>exact ⟨i+1,by omega,rfl,by go_num,zAA (by rw [HX.out,Tx.comma,if_neg gC,Tx.puts_append];exact h3),kr.trans (k2.trans k3)⟩
def okZ (s:List Tm):Prop:=∀ x ∈ s,okT x
def okD (d:De):Prop:=okS d.name/\okZ d.n
theorem rowSizes_any {ok:Nat->Prop} {w:World} {b:Nat} {t:ByteArray} {v:Value} {l:List (List Tm)} (hw:Wr ok w b t) (hg:Gl ok w) (hl:HSizes ok w v l) (hs:∀ x ∈ l,okZ x) :
  Calls Tryz.prog 251 #[.pointer (some ⟨b,0,none⟩),v,.func (.func 193) #[.pointer (some ⟨b,0,none⟩)] #[]] w (WPost ok w b t (Tx.commas Tx.sizeP l)):=by
 obtain ⟨ao,cap,rfl,aC,av,_⟩:=hl.at;unfold maxLen at av;have HL:=zAA hl;have HS:=zAA hs;have HG:=zAA hg;clear hl hs hg;obtain ⟨n,hn⟩:=nmQ (l.length);rw [<-hn] at aC HL ⊢;have HN:=zAA hn;clear hn;go_enter Tryz.func251,Tryz.ntmps251;go_wp2_with fail;go_loopg [10] n (fun k v wr=>∃ i,i<=n/\k=n-i/\v=.int .i64 (i:Nat)/\Hid (Wr ok wr b (Tx.puts t (Tx.rowP (Tx.comma Tx.sizeP) 0 (l.take i))))/\Keep ok w wr)
 case atStart=>exact ⟨0,Nat.zero_le _,rfl,rfl,zAA (by simpa [Tx.puts,Tx.rowP] using hw),Keep.refl _ _⟩
 case round=>
  obtain ⟨i,hi,rfl,rfl,H,kr⟩:=hrel;by_cases ak:i<n
  case neg=>
   have bH:i=n:=(by omega);subst bH;go_wp2;go_end0;refine ⟨rfl,?_,kr⟩;have:=H.out
   rwa [List.take_of_length_le (by have:=HN.out;omega)] at this
  case pos=>
   have ap:i<l.length:=(by have:=HN.out;omega);have HX:=zAA (Tx.puts_take (Tx.comma Tx.sizeP) t l i ap);have ei:=HS.out l[i] (List.getElem_mem ap);obtain ⟨fi,bE,e1,_,_,ai⟩:=(HL.out.keep kr.size kr.block).at;injection e1 with e2 e3 e4;subst e2 e4;obtain ⟨bl,o,au,nu,cu,e5,iy,c0,ht⟩:=ai i ap;subst e5;clear ai e3;have dc:=H.out;have j9:=HG.out.keep kr;generalize l[i]=x at HX ei ht;generalize Tx.puts t (Tx.rowP (Tx.comma Tx.sizeP) 0 (l.take i))=ti at HX dc H;clear H;by_cases gC:i=0
   ·have lu:¬(0:Int)<(i:Int):=by omega
    have tT:=zAA gC;clear gC;go_wp2_with fail;refine (zCk dc j9 (ht.keep (Keep.refl ok wr).size (Keep.refl ok wr).block) ei).mono ?_;rintro e w3 ⟨rfl,h3,k3⟩;go_wp2_with fail;go_roundg (n-(i+1))
    case measure=>omega
    case rel=>exact ⟨i+1,by omega,rfl,by go_num,zAA (by rw [HX.out,Tx.comma,if_pos tT.out];exact h3),kr.trans k3⟩
   ·have lu:(0:Int)<(i:Int):=by omega
    go_wp2_with fail;refine (zAU dc rfl ⟨#[44,32]⟩ (by unfold okS;decide)).mono ?_;rintro e w2 ⟨rfl,h2,k2⟩;go_wp2_with fail;refine (zCk h2 (j9.keep k2) (ht.keep k2.size k2.block) ei).mono ?_;rintro e w3 ⟨rfl,h3,k3⟩;go_wp2_with fail;go_roundg (n-(i+1))
    case measure=>omega
    case rel=>exact ⟨i+1,by omega,rfl,by go_num,zAA (by rw [HX.out,Tx.comma,if_neg gC,Tx.puts_append];exact h3),kr.trans (k2.trans k3)⟩
theorem angNames_any {ok:Nat->Prop} {w:World} {b:Nat} {t:ByteArray} {v:Value} {l:List ByteArray} (hw:Wr ok w b t) (hg:Gl ok w) (hl:HNames ok w v l) (hs:∀ x ∈ l,okS x) :
  Calls Tryz.prog 156 #[.pointer (some ⟨b,0,none⟩),v,.func (.func 157) #[.pointer (some ⟨b,0,none⟩)] #[]] w (WPost ok w b t (Tx.angP Tx.wordP l)):=by
 obtain ⟨ao,cap,rfl,aC,av,_⟩:=hl.at;unfold maxLen at av;obtain ⟨P,hP⟩:=nmQ (Tx.angP Tx.wordP l);rw [<-hP];unfold Tx.angP at hP;have HP:=zAA hP;clear hP;by_cases h0:l.length=0
 ·rw [h0]
  go_enter Tryz.func156,Tryz.ntmps156;go_wp2;refine bodyPost_ret (results_none rfl _ _ _) rfl ?_;exact ⟨rfl,by rw [HP.out,if_pos h0];exact hw,Keep.refl _ _⟩
 ·have iW:=zAA (HP.out.trans (if_neg h0))
  clear HP;have aU:=fun (W:World) (T:ByteArray) (h1:Wr ok W b T) (h2:Keep ok w W)=>zDi h1 (hg.keep h2) (hl.keep h2.size h2.block) hs;obtain ⟨n,hn⟩:=nmQ (l.length);rw [<-hn] at h0 aC aU ⊢;clear hn;have qV:((n:Int)==0)=false:=(by simp;omega);go_enter Tryz.func156,Tryz.ntmps156;go_wp2_with fail;refine (zAU hw rfl ⟨#[60]⟩ (by unfold okS;decide)).mono ?_;rintro e w2 ⟨rfl,h2,k2⟩;go_wp2_with fail;refine (aU _ _ h2 k2).mono ?_;rintro e w3 ⟨rfl,h3,k3⟩;go_wp2_with fail;refine (zAU h3 rfl ⟨#[62]⟩ (by unfold okS;decide)).mono ?_;rintro e w4 ⟨rfl,h4,k4⟩;go_wp2;go_end0;refine ⟨rfl,?_,k2.trans (k3.trans k4)⟩;rw [iW.out,Tx.puts_append,Tx.puts_append];exact h4
theorem angSizes_any {ok:Nat->Prop} {w:World} {b:Nat} {t:ByteArray} {v:Value} {l:List (List Tm)} (hw:Wr ok w b t) (hg:Gl ok w) (hl:HSizes ok w v l) (hs:∀ x ∈ l,okZ x) :
  Calls Tryz.prog 229 #[.pointer (some ⟨b,0,none⟩),v,.func (.func 193) #[.pointer (some ⟨b,0,none⟩)] #[]] w (WPost ok w b t (Tx.angP Tx.sizeP l)):=by
 obtain ⟨ao,cap,rfl,aC,av,_⟩:=hl.at;unfold maxLen at av;obtain ⟨P,hP⟩:=nmQ (Tx.angP Tx.sizeP l);rw [<-hP];unfold Tx.angP at hP;have HP:=zAA hP;clear hP;by_cases h0:l.length=0
 ·rw [h0]
  go_enter Tryz.func229,Tryz.ntmps229;go_wp2;refine bodyPost_ret (results_none rfl _ _ _) rfl ?_;exact ⟨rfl,by rw [HP.out,if_pos h0];exact hw,Keep.refl _ _⟩
 ·have iW:=zAA (HP.out.trans (if_neg h0))
  clear HP;have aU:=fun (W:World) (T:ByteArray) (h1:Wr ok W b T) (h2:Keep ok w W)=>rowSizes_any h1 (hg.keep h2) (hl.keep h2.size h2.block) hs;obtain ⟨n,hn⟩:=nmQ (l.length);rw [<-hn] at h0 aC aU ⊢;clear hn;have qV:((n:Int)==0)=false:=(by simp;omega);go_enter Tryz.func229,Tryz.ntmps229;go_wp2_with fail;refine (zAU hw rfl ⟨#[60]⟩ (by unfold okS;decide)).mono ?_;rintro e w2 ⟨rfl,h2,k2⟩;go_wp2_with fail;refine (aU _ _ h2 k2).mono ?_;rintro e w3 ⟨rfl,h3,k3⟩;go_wp2_with fail;refine (zAU h3 rfl ⟨#[62]⟩ (by unfold okS;decide)).mono ?_;rintro e w4 ⟨rfl,h4,k4⟩;go_wp2;go_end0;refine ⟨rfl,?_,k2.trans (k3.trans k4)⟩;rw [iW.out,Tx.puts_append,Tx.puts_append];exact h4
theorem zED {ok:Nat->Prop} {w:World} {b:Nat} {t:ByteArray} {nm:ByteArray} {ex:Int} {sz:List Tm} {au:Option Addr} {nu cu:Nat} (hw:Wr ok w b t) (hg:Gl ok w) (ht:HTerms ok w (.slice au nu cu) sz) (hs:okD ⟨nm,ex,sz⟩) :
  Calls Tryz.prog 159 #[.pointer (some ⟨b,0,none⟩),.agg #[.string nm,.int .u8 ex,.slice au nu cu]] w (WPost ok w b t (Tx.declP ⟨nm,ex,sz⟩)):=by
 obtain ⟨dz,jl⟩:=hs
 dsimp only at dz jl
 obtain ⟨a6,c6,tA,de,dH,_⟩:=ht.at;injection tA with e0 e1 e2;subst e0 e2;unfold maxLen at dH;obtain ⟨P,hP⟩:=nmQ (Tx.declP ⟨nm,ex,sz⟩);rw [<-hP];unfold Tx.declP at hP
 dsimp only at hP
 rw [<-e1] at hP;have HP:=zAA hP;clear hP;have bS:=hw.more (.cells #[.string nm,.int .u8 ex,.slice au nu cu] 50 (0,0));have bV:=(hg.keep (Keep.alloc ok w (.cells #[.string nm,.int .u8 ex,.slice au nu cu] 50 (0,0)))).more w.heap.size;have K0:=Keep.refl (okL ok w.heap.size) (w.alloc (.cells #[.string nm,.int .u8 ex,.slice au nu cu] 50 (0,0)));have bo:=fun (W:World) (T:ByteArray) (h1:Wr (okL ok w.heap.size) W b T) (k:Keep (okL ok w.heap.size) (w.alloc (.cells #[.string nm,.int .u8 ex,.slice au nu cu] 50 (0,0))) W)=>zCk h1 (bV.keep k) (ht.step k.all) jl;rw [<-e1] at de;clear ht e1;have jv:∀ (W:World) (T:ByteArray) (k:Keep (okL ok w.heap.size) (w.alloc (.cells #[.string nm,.int .u8 ex,.slice au nu cu] 50 (0,0))) W) (h:Wr (okL ok w.heap.size) W b T),Wr ok W b T/\Keep ok w W:=fun W T k h=>⟨h.fst,k.all⟩;by_cases h105:ex=105
 ·skip
  have iW:Hid (P=[nm,⟨#[58,32]⟩]++([⟨#[105,110,116]⟩]++(if nu=0 then [] else [⟨#[94]⟩]++Tx.sizeP sz))):=zAA (by rw [HP.out,if_pos h105]);clear HP;subst h105;by_cases h0:nu=0
  ·have ud:Hid (P=[nm,⟨#[58,32]⟩]++([⟨#[105,110,116]⟩]++[])):=zAA (by rw [iW.out,if_pos h0])
   clear iW;subst h0;go_enter Tryz.func159,Tryz.ntmps159;go_wp2_with fail;refine (put2 bS (by simp) nm ⟨#[58,32]⟩ dz (by unfold okS;decide)).mono ?_;rintro e w2 ⟨rfl,h2,k2⟩;have dp:=k2.at;have p1:=co dp 1;simp at p1;go_wp2_with fail;refine (zAU h2 rfl ⟨#[105,110,116]⟩ (by unfold okS;decide)).mono ?_;rintro e w3 ⟨rfl,h3,k3⟩;have K3:=k2.trans k3;have iM:=K3.at;have q2:=co iM 2;simp at q2;go_wp2;go_end0;refine ⟨rfl,?_,(jv _ _ K3 h3).2⟩;rw [ud.out];simp only [Tx.puts_append,Tx.puts_nil];exact (jv _ _ K3 h3).1
  ·have ud:Hid (P=[nm,⟨#[58,32]⟩]++([⟨#[105,110,116]⟩]++([⟨#[94]⟩]++Tx.sizeP sz))):=zAA (by rw [iW.out,if_neg h0])
   clear iW;have qV:(0:Int)<(nu:Int):=(by omega);go_enter Tryz.func159,Tryz.ntmps159;go_wp2_with fail;refine (put2 bS (by simp) nm ⟨#[58,32]⟩ dz (by unfold okS;decide)).mono ?_;rintro e w2 ⟨rfl,h2,k2⟩;have dp:=k2.at;have p1:=co dp 1;simp at p1;go_wp2_with fail;refine (zAU h2 rfl ⟨#[105,110,116]⟩ (by unfold okS;decide)).mono ?_;rintro e w3 ⟨rfl,h3,k3⟩;have K3:=k2.trans k3;have iM:=K3.at;have q2:=co iM 2;simp at q2;go_wp2_with fail;refine (zAU h3 rfl ⟨#[94]⟩ (by unfold okS;decide)).mono ?_;rintro e w4 ⟨rfl,h4,k4⟩;have K4:=K3.trans k4;have qq:=K4.at;have r2:=co qq 2;simp at r2;go_wp2_with fail;refine (bo _ _ h4 K4).mono ?_;rintro e w5 ⟨rfl,h5,k5⟩;have K5:=K4.trans k5;go_wp2;go_end0;refine ⟨rfl,?_,(jv _ _ K5 h5).2⟩;rw [ud.out];simp only [Tx.puts_append];exact (jv _ _ K5 h5).1
 ·skip
  have iW:Hid (P=[nm,⟨#[58,32]⟩]++([⟨#[98,111,111,108]⟩]++(if nu=0 then [] else [⟨#[94]⟩]++Tx.sizeP sz))):=zAA (by rw [HP.out,if_neg h105]);clear HP;have Ef:(ex==105)=false:=(by simp [h105]);by_cases h0:nu=0
  ·have ud:Hid (P=[nm,⟨#[58,32]⟩]++([⟨#[98,111,111,108]⟩]++[])):=zAA (by rw [iW.out,if_pos h0])
   clear iW;subst h0;go_enter Tryz.func159,Tryz.ntmps159;go_wp2_with fail;refine (put2 bS (by simp) nm ⟨#[58,32]⟩ dz (by unfold okS;decide)).mono ?_;rintro e w2 ⟨rfl,h2,k2⟩;have dp:=k2.at;have p1:=co dp 1;simp at p1;go_wp2_with fail;refine (zAU h2 rfl ⟨#[98,111,111,108]⟩ (by unfold okS;decide)).mono ?_;rintro e w3 ⟨rfl,h3,k3⟩;have K3:=k2.trans k3;have iM:=K3.at;have q2:=co iM 2;simp at q2;go_wp2;go_end0;refine ⟨rfl,?_,(jv _ _ K3 h3).2⟩;rw [ud.out];simp only [Tx.puts_append,Tx.puts_nil];exact (jv _ _ K3 h3).1
  ·have ud:Hid (P=[nm,⟨#[58,32]⟩]++([⟨#[98,111,111,108]⟩]++([⟨#[94]⟩]++Tx.sizeP sz))):=zAA (by rw [iW.out,if_neg h0])
   clear iW;have qV:(0:Int)<(nu:Int):=(by omega);go_enter Tryz.func159,Tryz.ntmps159;go_wp2_with fail;refine (put2 bS (by simp) nm ⟨#[58,32]⟩ dz (by unfold okS;decide)).mono ?_;rintro e w2 ⟨rfl,h2,k2⟩;have dp:=k2.at;have p1:=co dp 1;simp at p1;go_wp2_with fail;refine (zAU h2 rfl ⟨#[98,111,111,108]⟩ (by unfold okS;decide)).mono ?_;rintro e w3 ⟨rfl,h3,k3⟩;have K3:=k2.trans k3;have iM:=K3.at;have q2:=co iM 2;simp at q2;go_wp2_with fail;refine (zAU h3 rfl ⟨#[94]⟩ (by unfold okS;decide)).mono ?_;rintro e w4 ⟨rfl,h4,k4⟩;have K4:=K3.trans k4;have qq:=K4.at;have r2:=co qq 2;simp at r2;go_wp2_with fail;refine (bo _ _ h4 K4).mono ?_;rintro e w5 ⟨rfl,h5,k5⟩;have K5:=K4.trans k5;go_wp2;go_end0;refine ⟨rfl,?_,(jv _ _ K5 h5).2⟩;rw [ud.out];simp only [Tx.puts_append];exact (jv _ _ K5 h5).1
theorem zDj {ok:Nat->Prop} {w:World} {b:Nat} {t:ByteArray} {v:Value} {l:List De} (hw:Wr ok w b t) (hg:Gl ok w) (hl:HDes ok w v l) (hs:∀ x ∈ l,okD x) :
  Calls Tryz.prog 158 #[.pointer (some ⟨b,0,none⟩),v,.func (.func 159) #[.pointer (some ⟨b,0,none⟩)] #[]] w (WPost ok w b t (Tx.commas Tx.declP l)):=by
 obtain ⟨ao,cap,rfl,aC,av,_⟩:=hl.at;unfold maxLen at av;have HL:=zAA hl;have HS:=zAA hs;have HG:=zAA hg;clear hl hs hg;obtain ⟨n,hn⟩:=nmQ (l.length);rw [<-hn] at aC HL ⊢;have HN:=zAA hn;clear hn;go_enter Tryz.func158,Tryz.ntmps158;go_wp2_with fail;go_loopg [10] n (fun k v wr=>∃ i,i<=n/\k=n-i/\v=.int .i64 (i:Nat)/\Hid (Wr ok wr b (Tx.puts t (Tx.rowP (Tx.comma Tx.declP) 0 (l.take i))))/\Keep ok w wr)
 case atStart=>exact ⟨0,Nat.zero_le _,rfl,rfl,zAA (by simpa [Tx.puts,Tx.rowP] using hw),Keep.refl _ _⟩
 case round=>
  obtain ⟨i,hi,rfl,rfl,H,kr⟩:=hrel;by_cases ak:i<n
  case neg=>
   have bH:i=n:=(by omega);subst bH;go_wp2;go_end0;refine ⟨rfl,?_,kr⟩;have:=H.out
   rwa [List.take_of_length_le (by have:=HN.out;omega)] at this
  case pos=>
   have ap:i<l.length:=(by have:=HN.out;omega);have HX:=zAA (Tx.puts_take (Tx.comma Tx.declP) t l i ap);have ei:=HS.out l[i] (List.getElem_mem ap);obtain ⟨fi,bE,e1,_,_,ai⟩:=(HL.out.keep kr.size kr.block).at;injection e1 with e2 e3 e4;subst e2 e4;obtain ⟨bl,o,au,nu,cu,e5,iy,c0,c1,c2,ht⟩:=ai i ap;subst e5;clear ai e3;have dc:=H.out;have j9:=HG.out.keep kr;generalize l[i]=x at HX ei ht c0 c1;obtain ⟨nm,ex,sz⟩:=x
   dsimp only at c0 c1 ht
   generalize Tx.puts t (Tx.rowP (Tx.comma Tx.declP) 0 (l.take i))=ti at HX dc H;clear H;have bS:=dc.more (.cells #[.string nm,.int .u8 ex,.slice au nu cu] 50 (0,0));have bV:=(j9.keep (Keep.alloc ok wr (.cells #[.string nm,.int .u8 ex,.slice au nu cu] 50 (0,0)))).more wr.heap.size;have Ev:=Keep.alloc ok wr (.cells #[.string nm,.int .u8 ex,.slice au nu cu] 50 (0,0));have K0:=Keep.refl (okL ok wr.heap.size) (wr.alloc (.cells #[.string nm,.int .u8 ex,.slice au nu cu] 50 (0,0)));by_cases gC:i=0
   ·have lu:¬(0:Int)<(i:Int):=by omega
    have tT:=zAA gC;clear gC;go_wp2_with fail;refine (zED bS bV (ht.step Ev) ei).mono ?_;rintro e w3 ⟨rfl,h3,k3⟩;go_wp2_with fail;go_roundg (n-(i+1))
    case measure=>omega
    case rel=>exact ⟨i+1,by omega,rfl,by go_num,zAA (by rw [HX.out,Tx.comma,if_pos tT.out];exact h3.fst),kr.trans k3.all⟩
   ·have lu:(0:Int)<(i:Int):=by omega
    go_wp2_with fail;refine (zAU bS (by simp) ⟨#[44,32]⟩ (by unfold okS;decide)).mono ?_;rintro e w2 ⟨rfl,h2,k2⟩;have dp:=k2.at;have K2:=k2.all;have p0:=co dp 0;simp at p0;have p1:=co dp 1;simp at p1;have p2:=co dp 2;simp at p2;go_wp2_with fail;refine (zED h2 (bV.keep k2) (ht.step K2) ei).mono ?_;rintro e w3 ⟨rfl,h3,k3⟩;go_wp2_with fail;go_roundg (n-(i+1))
    case measure=>omega
    case rel=>exact ⟨i+1,by omega,rfl,by go_num,zAA (by rw [HX.out,Tx.comma,if_neg gC,Tx.puts_append];exact h3.fst),kr.trans (k2.trans k3).all⟩
theorem HEx.step {ok:Nat->Prop} {w W:World} {cs:List Value} {e:Ex} {L:Nat} (h:HEx ok w cs e) (k:Keep ok w W):HEx (okL ok L) W cs e:=(h.keep k.size k.block).wide fun i hi _=>.inl hi
theorem HExs.step {ok:Nat->Prop} {w W:World} {v:Value} {l:List Ex} {L:Nat} (h:HExs ok w v l) (k:Keep ok w W):HExs (okL ok L) W v l:=(h.keep k.size k.block).wide fun i hi _=>.inl hi
def PartDoes (e:Ex):Prop:=∀ (ok:Nat->Prop) (w:World) (b:Nat) (t:ByteArray) (x:ExV) (least:Int),HEx ok w x.cells e->Gl ok w->Wr ok w b t->0<=least->least<=8 ->
 Calls Tryz.prog 228 #[.pointer (some ⟨b,0,none⟩),.agg #[.int .i64 x.op,.int .i64 x.k,.int .i64 x.n,.string x.name,.slice x.aS x.nS x.cS,.slice x.aL x.nL x.cL],.int .i64 least] w (WPost ok w b t (Tx.partP e least))
def BareDoes (e:Ex):Prop:=∀ (ok:Nat->Prop) (w:World) (b:Nat) (t:ByteArray) (x:ExV),HEx ok w x.cells e->Gl ok w->Wr ok w b t ->
 Calls Tryz.prog 250 #[.pointer (some ⟨b,0,none⟩),.agg #[.int .i64 x.op,.int .i64 x.k,.int .i64 x.n,.string x.name,.slice x.aS x.nS x.cS,.slice x.aL x.nL x.cL]] w (WPost ok w b t (Tx.bare e))
theorem zAr {e:Ex} (h:PartDoes e) (ok:Nat->Prop) (w:World) (b:Nat) (t:ByteArray) (x:ExV) (hx:HEx ok w x.cells e) (hg:Gl ok w) (hw:Wr ok w b t) :
  Calls Tryz.prog 194 #[.pointer (some ⟨b,0,none⟩),.agg #[.int .i64 x.op,.int .i64 x.k,.int .i64 x.n,.string x.name,.slice x.aS x.nS x.cS,.slice x.aL x.nL x.cL]] w (WPost ok w b t (Tx.exprP e)):=by
 obtain ⟨op,k,n,name,aS,nS,cS,aL,nL,cL⟩:=x
 dsimp only at *
 have bS:=hw.more (.cells #[.int .i64 op,.int .i64 k,.int .i64 n,.string name,.slice aS nS cS,.slice aL nL cL] 54 (0,0));have bV:=(hg.keep (Keep.alloc ok w (.cells #[.int .i64 op,.int .i64 k,.int .i64 n,.string name,.slice aS nS cS,.slice aL nL cL] 54 (0,0)))).more w.heap.size;have hc:=h (okL ok w.heap.size) _ b t ⟨op,k,n,name,aS,nS,cS,aL,nL,cL⟩ 0 (hx.step (Keep.alloc ok w (.cells #[.int .i64 op,.int .i64 k,.int .i64 n,.string name,.slice aS nS cS,.slice aL nL cL] 54 (0,0)))) bV bS (by omega) (by omega)
 dsimp only at hc
 clear h hx;go_enter Tryz.func194,Tryz.ntmps194;go_wp2_with fail;refine hc.mono ?_;rintro e w2 ⟨rfl,h2,k2⟩;go_wp2;go_end0;exact ⟨rfl,h2.fst,k2.all⟩
def opOk (op k:Int):Prop:=(op=4\/op=5)->1<=k/\k<=14
theorem rankOf_any (op k n:Int) (name:ByteArray) (aS aL:Option Addr) (nS cS nL cL:Nat) (w:World) (hg:GlobO w) (hk:opOk op k) :
  Calls Tryz.prog 249 #[.agg #[.int .i64 op,.int .i64 k,.int .i64 n,.string name,.slice aS nS cS,.slice aL nL cL]] w fun e w'=>e=.returned (.int .i64 (Tx.rankE op k))/\Below w.heap.size w w':=by
 have bA:Below w.heap.size w (w.alloc (.cells #[.int .i64 op,.int .i64 k,.int .i64 n,.string name,.slice aS nS cS,.slice aL nL cL] 54 (0,0))):=(Below.refl _ _).alloc nR _;unfold Tx.rankE;by_cases wN:op=4\/op=5
 ·obtain ⟨lY,jK⟩:=hk wN
  obtain ⟨q,rfl⟩:∃ q:Nat,k=(q:Int):=⟨k.toNat,by omega⟩;have hq:q<15:=(by omega);obtain ⟨c0,c1,c2⟩:=hg.2 q hq;rw [if_pos wN,Int.toNat_natCast];have d2:=(bA.cell (p:=⟨4,q*3+2,none⟩) hg.1).trans c2;generalize Tx.opT q=oq at c0 c1 c2 d2 ⊢;obtain ⟨wd,sg,rk⟩:=oq
  dsimp only at d2 ⊢
  clear c0 c1 c2;rcases wN with rfl | rfl
  ·go_enter Tryz.func249,Tryz.ntmps249
   go_wp2;go_ret;exact ⟨rfl,bA⟩
  ·go_enter Tryz.func249,Tryz.ntmps249
   go_wp2;go_ret;exact ⟨rfl,bA⟩
 ·rw [if_neg wN]
  have h4:(op==4)=false:=(by simp;omega);have h5:(op==5)=false:=(by simp;omega);by_cases h6:op=6
  ·rw [if_pos h6]
   subst h6;go_enter Tryz.func249,Tryz.ntmps249;go_wp2;go_ret;exact ⟨rfl,bA⟩
  ·rw [if_neg h6]
   have QV:(op==6)=false:=(by simp [h6]);go_enter Tryz.func249,Tryz.ntmps249;go_wp2;go_ret;exact ⟨rfl,bA⟩
theorem part_of {e:Ex} (h:BareDoes e) (hk:opOk e.op e.k):PartDoes e:=by
 intro ok w b t x least hx hg hw eR kd;obtain ⟨mT,nH,qB,qh,_,_⟩:=hx.parts;obtain ⟨op,k,n,name,aS,nS,cS,aL,nL,cL⟩:=x
 dsimp only at *
 have JY:Tx.rank e=Tx.rankE op k:=by
  obtain ⟨o',k',n',s',S',L'⟩:=e
  dsimp only [Ex.op,Ex.k] at mT nH
  subst mT nH;rfl
 rw [<-mT,<-nH] at hk;obtain ⟨P,hP⟩:=nmQ (Tx.partP e least);rw [<-hP];unfold Tx.partP Tx.partQ at hP;rw [JY] at hP;have HP:=zAA hP;clear hP JY mT nH qB qh;have bS:=hw.more (.cells #[.int .i64 op,.int .i64 k,.int .i64 n,.string name,.slice aS nS cS,.slice aL nL cL] 54 (0,0));have bV:=(hg.keep (Keep.alloc ok w (.cells #[.int .i64 op,.int .i64 k,.int .i64 n,.string name,.slice aS nS cS,.slice aL nL cL] 54 (0,0)))).more w.heap.size;have hb:=fun (W:World) (T:ByteArray) (h1:Wr (okL ok w.heap.size) W b T) (k1:Keep (okL ok w.heap.size) (w.alloc (.cells #[.int .i64 op,.int .i64 k,.int .i64 n,.string name,.slice aS nS cS,.slice aL nL cL] 54 (0,0))) W)=>h (okL ok w.heap.size) W b T ⟨op,k,n,name,aS,nS,cS,aL,nL,cL⟩ (hx.step k1.all) (bV.keep k1) h1
 dsimp only at hb
 have hr:=rankOf_any op k n name aS aL nS cS nL cL (w.alloc (.cells #[.int .i64 op,.int .i64 k,.int .i64 n,.string name,.slice aS nS cS,.slice aL nL cL] 54 (0,0))) bV.o hk;clear h hx;have Oe:0<=Tx.rankE op k/\Tx.rankE op k<=7:=by
  unfold Tx.rankE
  split
  ·have hq:=hk (by assumption)
   obtain ⟨q,rfl⟩:∃ q:Nat,k=(q:Int):=⟨k.toNat,by omega⟩;have cY:q<15:=(by omega);rw [Int.toNat_natCast];have bX:∀ q,q<15->0<=(Tx.opT q).2.2/\(Tx.opT q).2.2<=7:=(by decide);exact bX q cY
  ·split<;>omega
 generalize Tx.rankE op k=r at HP hr Oe;by_cases iu:least<=r
 ·have iW:=zAA (HP.out.trans (if_pos iu))
  clear HP;go_enter Tryz.func228,Tryz.ntmps228;go_wp2_with fail;refine hr.mono ?_;rintro e w1 ⟨rfl,b1⟩;have K1:Keep (okL ok w.heap.size) (w.alloc (.cells #[.int .i64 op,.int .i64 k,.int .i64 n,.string name,.slice aS nS cS,.slice aL nL cL] 54 (0,0))) w1:=Keep.ofBelow b1;have fY:=K1.at;have p0:=co fY 0;simp at p0;have p1:=co fY 1;simp at p1;have p2:=co fY 2;simp at p2;have p3:=co fY 3;simp at p3;have p4:=co fY 4;simp at p4;have p5:=co fY 5;simp at p5;go_wp2_with fail;refine (hb _ _ (bS.under b1) K1).mono ?_;rintro e w2 ⟨rfl,h2,k2⟩;go_wp2;refine bodyPost_ret (results_none rfl _ _ _) rfl ?_;exact ⟨rfl,by rw [iW.out];exact h2.fst,(K1.trans k2).all⟩
 ·have iW:=zAA (HP.out.trans (if_neg iu))
  clear HP;go_enter Tryz.func228,Tryz.ntmps228;go_wp2_with fail;refine hr.mono ?_;rintro e w1 ⟨rfl,b1⟩;have K1:Keep (okL ok w.heap.size) (w.alloc (.cells #[.int .i64 op,.int .i64 k,.int .i64 n,.string name,.slice aS nS cS,.slice aL nL cL] 54 (0,0))) w1:=Keep.ofBelow b1;go_wp2_with fail;refine (zAU (bS.under b1) rfl ⟨#[40]⟩ (by unfold okS;decide)).mono ?_;rintro e w2 ⟨rfl,h2,k2⟩;have K2:=K1.trans k2;have dp:=K2.at;have p0:=co dp 0;simp at p0;have p1:=co dp 1;simp at p1;have p2:=co dp 2;simp at p2;have p3:=co dp 3;simp at p3;have p4:=co dp 4;simp at p4;have p5:=co dp 5;simp at p5;go_wp2_with fail;refine (hb _ _ h2 K2).mono ?_;rintro e w3 ⟨rfl,h3,k3⟩;go_wp2_with fail;refine (zAU h3 rfl ⟨#[41]⟩ (by unfold okS;decide)).mono ?_;rintro e w4 ⟨rfl,h4,k4⟩;go_wp2;go_end0;refine ⟨rfl,?_,(K2.trans (k3.trans k4)).all⟩;rw [iW.out];simp only [Tx.puts_append];exact h4.fst
theorem zCG {ok:Nat->Prop} {w:World} {b:Nat} {t:ByteArray} {v:Value} {l:List Ex} (hw:Wr ok w b t) (hg:Gl ok w) (hl:HExs ok w v l) (hs:∀ x ∈ l,PartDoes x) :
  Calls Tryz.prog 230 #[.pointer (some ⟨b,0,none⟩),v,.func (.func 194) #[.pointer (some ⟨b,0,none⟩)] #[]] w (WPost ok w b t (Tx.commas Tx.exprP l)):=by
 obtain ⟨ao,cap,rfl,aC,av,_⟩:=hl.at;unfold maxLen at av;have HL:=zAA hl;have HS:=zAA hs;have HG:=zAA hg;clear hl hs hg;obtain ⟨n,hn⟩:=nmQ (l.length);rw [<-hn] at aC HL ⊢;have HN:=zAA hn;clear hn;go_enter Tryz.func230,Tryz.ntmps230;go_wp2_with fail;go_loopg [10] n (fun k v wr=>∃ i,i<=n/\k=n-i/\v=.int .i64 (i:Nat)/\Hid (Wr ok wr b (Tx.puts t (Tx.rowP (Tx.comma Tx.exprP) 0 (l.take i))))/\Keep ok w wr)
 case atStart=>exact ⟨0,Nat.zero_le _,rfl,rfl,zAA (by simpa [Tx.puts,Tx.rowP] using hw),Keep.refl _ _⟩
 case round=>
  obtain ⟨i,hi,rfl,rfl,H,kr⟩:=hrel;by_cases ak:i<n
  case neg=>
   have bH:i=n:=(by omega);subst bH;go_wp2;go_end0;refine ⟨rfl,?_,kr⟩;have:=H.out
   rwa [List.take_of_length_le (by have:=HN.out;omega)] at this
  case pos=>
   have ap:i<l.length:=(by have:=HN.out;omega);have HX:=zAA (Tx.puts_take (Tx.comma Tx.exprP) t l i ap);have ei:=HS.out l[i] (List.getElem_mem ap);obtain ⟨fi,bE,e1,_,_,ai⟩:=(HL.out.keep kr.size kr.block).at;injection e1 with e2 e3 e4;subst e2 e4;obtain ⟨bl,o,y,e5,bm,iy,hy,hex⟩:=ai i ap;subst e5;clear ai e3;have dc:=H.out;have j9:=HG.out.keep kr;obtain ⟨d0,d1,d2,d3,d4,d5⟩:=hy;generalize l[i]=x at HX ei hex;obtain ⟨yo,yk,yn,ys,pH,pJ,oN,xq,wT,wG⟩:=y
   dsimp only at d0 d1 d2 d3 d4 d5
   generalize Tx.puts t (Tx.rowP (Tx.comma Tx.exprP) 0 (l.take i))=ti at HX dc H;clear H;have bS:=dc.more (.cells #[.int .i64 yo,.int .i64 yk,.int .i64 yn,.string ys,.slice pH pJ oN,.slice xq wT wG] 54 (0,0));have bV:=(j9.keep (Keep.alloc ok wr (.cells #[.int .i64 yo,.int .i64 yk,.int .i64 yn,.string ys,.slice pH pJ oN,.slice xq wT wG] 54 (0,0)))).more wr.heap.size;have Ev:=Keep.alloc ok wr (.cells #[.int .i64 yo,.int .i64 yk,.int .i64 yn,.string ys,.slice pH pJ oN,.slice xq wT wG] 54 (0,0));have K0:=Keep.refl (okL ok wr.heap.size) (wr.alloc (.cells #[.int .i64 yo,.int .i64 yk,.int .i64 yn,.string ys,.slice pH pJ oN,.slice xq wT wG] 54 (0,0)));by_cases gC:i=0
   ·have lu:¬(0:Int)<(i:Int):=by omega
    have tT:=zAA gC;clear gC;go_wp2_with fail;refine (zAr ei _ _ _ _ ⟨yo,yk,yn,ys,pH,pJ,oN,xq,wT,wG⟩ (hex.step Ev) bV bS).mono ?_;rintro e w3 ⟨rfl,h3,k3⟩;go_wp2_with fail;go_roundg (n-(i+1))
    case measure=>omega
    case rel=>exact ⟨i+1,by omega,rfl,by go_num,zAA (by rw [HX.out,Tx.comma,if_pos tT.out];exact h3.fst),kr.trans k3.all⟩
   ·have lu:(0:Int)<(i:Int):=by omega
    go_wp2_with fail;refine (zAU bS (by simp) ⟨#[44,32]⟩ (by unfold okS;decide)).mono ?_;rintro e w2 ⟨rfl,h2,k2⟩;have dp:=k2.at;have K2:=k2.all;have p0:=co dp 0;simp at p0;have p1:=co dp 1;simp at p1;have p2:=co dp 2;simp at p2;have p3:=co dp 3;simp at p3;have p4:=co dp 4;simp at p4;have p5:=co dp 5;simp at p5;go_wp2_with fail;refine (zAr ei _ _ _ _ ⟨yo,yk,yn,ys,pH,pJ,oN,xq,wT,wG⟩ (hex.step K2) (bV.keep k2) h2).mono ?_;rintro e w3 ⟨rfl,h3,k3⟩;go_wp2_with fail;go_roundg (n-(i+1))
    case measure=>omega
    case rel=>exact ⟨i+1,by omega,rfl,by go_num,zAA (by rw [HX.out,Tx.comma,if_neg gC,Tx.puts_append];exact h3.fst),kr.trans (k2.trans k3).all⟩
theorem HExs.get {ok:Nat->Prop} {w:World} {aL:Option Addr} {nL cL:Nat} {L:List Ex} (h:HExs ok w (.slice aL nL cL) L) (h0:0<L.length) :
  nL=L.length/\nL<=cL/\cL<=maxLen/\∃ bL oL,aL=some ⟨bL,oL,none⟩/\∀ i (hi:i<L.length),∃ y:ExV,HEx ok w y.cells L[i]/\∀ W,Keep ok w W->ExAt W bL (oL+i*6) y:=by
 obtain ⟨ao,cap,e,h1,h2,ai⟩:=h.at;injection e with e0 e1 e2;subst e0 e1 e2;obtain ⟨b0,o0,y0,oA,_⟩:=ai 0 h0;subst oA;refine ⟨rfl,h1,h2,b0,o0,rfl,fun i hi=>?_⟩;obtain ⟨b1,o1,y1,e,bm,hb,hy,hx⟩:=ai i hi;injection e with e;injection e with e3 e4;subst e3 e4;exact ⟨y1,hx,fun W k=>hy.keep (k.block _ bm hb)⟩
theorem choiceW_any {ok:Nat->Prop} {w:World} {b:Nat} {t:ByteArray} {op k n:Int} {name:ByteArray} {aS aL:Option Addr} {nS cS nL cL:Nat} {S:List (List Tm)} (hw:Wr ok w b t) (hg:Gl ok w) {e0 e1 e2:Ex} (gi:HExs ok w (.slice aL nL cL) [e0,e1,e2]) (lC:PartDoes e0) (sJ:PartDoes e1) (xI:PartDoes e2) :
  Calls Tryz.prog 259 #[.pointer (some ⟨b,0,none⟩),.agg #[.int .i64 op,.int .i64 k,.int .i64 n,.string name,.slice aS nS cS,.slice aL nL cL]] w (WPost ok w b t (Tx.choiceP (Tx.bares [e0,e1,e2]))):=by
 obtain ⟨P,hP⟩:=nmQ ((Tx.choiceP (Tx.bares [e0,e1,e2])));rw [<-hP];have dN:=zAA hP;clear hP;have bS:=hw.more (.cells #[.int .i64 op,.int .i64 k,.int .i64 n,.string name,.slice aS nS cS,.slice aL nL cL] 54 (0,0));have bV:=(hg.keep (Keep.alloc ok w (.cells #[.int .i64 op,.int .i64 k,.int .i64 n,.string name,.slice aS nS cS,.slice aL nL cL] 54 (0,0)))).more w.heap.size;have K0:=Keep.refl (okL ok w.heap.size) (w.alloc (.cells #[.int .i64 op,.int .i64 k,.int .i64 n,.string name,.slice aS nS cS,.slice aL nL cL] 54 (0,0)));obtain ⟨lL,aC,av,bL,oL,oA,d9⟩:=gi.get (by simp);subst oA;simp at lL;subst lL;unfold maxLen at av;obtain ⟨y0,iS,gR⟩:=d9 0 (by simp);simp only [List.getElem_cons_zero,List.getElem_cons_succ] at iS;have mK:=fun (W:World) (T:ByteArray) (h1:Wr (okL ok w.heap.size) W b T) (k1:Keep (okL ok w.heap.size) (w.alloc (.cells #[.int .i64 op,.int .i64 k,.int .i64 n,.string name,.slice aS nS cS,.slice (some ⟨bL,oL,none⟩) 3 cL] 54 (0,0))) W) (least:Int) (eR:0<=least) (kd:least<=8)=>lC (okL ok w.heap.size) W b T y0 least (iS.step k1.all) (bV.keep k1) h1 eR kd;have qD:=fun (W:World) (T:ByteArray) (h1:Wr (okL ok w.heap.size) W b T) (k1:Keep (okL ok w.heap.size) (w.alloc (.cells #[.int .i64 op,.int .i64 k,.int .i64 n,.string name,.slice aS nS cS,.slice (some ⟨bL,oL,none⟩) 3 cL] 54 (0,0))) W)=>zAr lC (okL ok w.heap.size) W b T y0 (iS.step k1.all) (bV.keep k1) h1;obtain ⟨o0,Cp,Cd,Cr,Dt,CL,Cg,Db,DJ,pI⟩:=y0
 dsimp only at mK qD gR
 obtain ⟨y1,iw,e7⟩:=d9 1 (by simp);simp only [List.getElem_cons_zero,List.getElem_cons_succ] at iw;have p7:=fun (W:World) (T:ByteArray) (h1:Wr (okL ok w.heap.size) W b T) (k1:Keep (okL ok w.heap.size) (w.alloc (.cells #[.int .i64 op,.int .i64 k,.int .i64 n,.string name,.slice aS nS cS,.slice (some ⟨bL,oL,none⟩) 3 cL] 54 (0,0))) W) (least:Int) (eR:0<=least) (kd:least<=8)=>sJ (okL ok w.heap.size) W b T y1 least (iw.step k1.all) (bV.keep k1) h1 eR kd;have cj:=fun (W:World) (T:ByteArray) (h1:Wr (okL ok w.heap.size) W b T) (k1:Keep (okL ok w.heap.size) (w.alloc (.cells #[.int .i64 op,.int .i64 k,.int .i64 n,.string name,.slice aS nS cS,.slice (some ⟨bL,oL,none⟩) 3 cL] 54 (0,0))) W)=>zAr sJ (okL ok w.heap.size) W b T y1 (iw.step k1.all) (bV.keep k1) h1;obtain ⟨o1,wQ,xh,xu,wW,xd,wy,xv,wg,wM⟩:=y1
 dsimp only at p7 cj e7
 obtain ⟨y2,og,jb⟩:=d9 2 (by simp);simp only [List.getElem_cons_zero,List.getElem_cons_succ] at og;have pD:=fun (W:World) (T:ByteArray) (h1:Wr (okL ok w.heap.size) W b T) (k1:Keep (okL ok w.heap.size) (w.alloc (.cells #[.int .i64 op,.int .i64 k,.int .i64 n,.string name,.slice aS nS cS,.slice (some ⟨bL,oL,none⟩) 3 cL] 54 (0,0))) W) (least:Int) (eR:0<=least) (kd:least<=8)=>xI (okL ok w.heap.size) W b T y2 least (og.step k1.all) (bV.keep k1) h1 eR kd;have bM:=fun (W:World) (T:ByteArray) (h1:Wr (okL ok w.heap.size) W b T) (k1:Keep (okL ok w.heap.size) (w.alloc (.cells #[.int .i64 op,.int .i64 k,.int .i64 n,.string name,.slice aS nS cS,.slice (some ⟨bL,oL,none⟩) 3 cL] 54 (0,0))) W)=>zAr xI (okL ok w.heap.size) W b T y2 (og.step k1.all) (bV.keep k1) h1;obtain ⟨o2,LY,PD,OJ,MM,LK,NY,MA,Po,OB⟩:=y2
 dsimp only at pD bM jb
 clear d9 gi;have HP:Hid (P=[⟨#[105,102,32]⟩]++(Tx.exprP e0++([⟨#[32,116,104,101,110,32]⟩]++(Tx.exprP e1++([⟨#[32,101,108,115,101,32]⟩]++Tx.exprP e2))))):=zAA (dN.out.trans rfl);clear dN;go_enter Tryz.func259,Tryz.ntmps259;go_wp2_with fail;refine (zAU bS (by simp) ⟨#[105,102,32]⟩ (by unfold okS;decide)).mono ?_;rintro e w1 ⟨rfl,h1,k1⟩;have K1:=k1;have fY:=K1.at;have me:=co fY 5;simp at me;obtain ⟨lU,lM,lw,l9,lN,lW⟩:=gR _ K1.all;simp at lU;simp at lM;simp at lw;simp at l9;simp at lN;simp at lW;go_wp2_with fail;refine (qD _ _ h1 K1).mono ?_;rintro e w2 ⟨rfl,h2,k2⟩;have K2:=K1.trans k2;have dp:=K2.at;go_wp2_with fail;refine (zAU h2 rfl ⟨#[32,116,104,101,110,32]⟩ (by unfold okS;decide)).mono ?_;rintro e w3 ⟨rfl,h3,k3⟩;have K3:=K2.trans k3;have iM:=K3.at;have lz:=co iM 5;simp at lz;obtain ⟨fG,fz,fE,fN,fC,fM⟩:=e7 _ K3.all;simp at fG;simp at fz;simp at fE;simp at fN;simp at fC;simp at fM;go_wp2_with fail;refine (cj _ _ h3 K3).mono ?_;rintro e w4 ⟨rfl,h4,k4⟩;have K4:=K3.trans k4;have qq:=K4.at;go_wp2_with fail;refine (zAU h4 rfl ⟨#[32,101,108,115,101,32]⟩ (by unfold okS;decide)).mono ?_;rintro e w5 ⟨rfl,h5,k5⟩;have K5:=K4.trans k5;have oR:=K5.at;have Fp:=co oR 5;simp at Fp;obtain ⟨vP,tU,ve,tO,uk,uK⟩:=jb _ K5.all;simp at vP;simp at tU;simp at ve;simp at tO;simp at uk;simp at uK;go_wp2_with fail;refine (bM _ _ h5 K5).mono ?_;rintro e w6 ⟨rfl,h6,k6⟩;have K6:=K5.trans k6;have CM:=K6.at;go_wp2;go_end0;refine ⟨rfl,?_,K6.all⟩;rw [HP.out];simp only [Tx.puts_append,Tx.puts_nil];exact h6.fst
theorem indexW_any {ok:Nat->Prop} {w:World} {b:Nat} {t:ByteArray} {op k n:Int} {name:ByteArray} {aS aL:Option Addr} {nS cS nL cL:Nat} {S:List (List Tm)} (hw:Wr ok w b t) (hg:Gl ok w) {e0 e1 e2:Ex} (gi:HExs ok w (.slice aL nL cL) [e0,e1,e2]) (lC:PartDoes e0) (sJ:PartDoes e1) (xI:PartDoes e2) :
  Calls Tryz.prog 260 #[.pointer (some ⟨b,0,none⟩),.agg #[.int .i64 op,.int .i64 k,.int .i64 n,.string name,.slice aS nS cS,.slice aL nL cL]] w (WPost ok w b t (Tx.indexP (Tx.bares [e0,e1,e2]))):=by
 obtain ⟨P,hP⟩:=nmQ ((Tx.indexP (Tx.bares [e0,e1,e2])));rw [<-hP];have dN:=zAA hP;clear hP;have bS:=hw.more (.cells #[.int .i64 op,.int .i64 k,.int .i64 n,.string name,.slice aS nS cS,.slice aL nL cL] 54 (0,0));have bV:=(hg.keep (Keep.alloc ok w (.cells #[.int .i64 op,.int .i64 k,.int .i64 n,.string name,.slice aS nS cS,.slice aL nL cL] 54 (0,0)))).more w.heap.size;have K0:=Keep.refl (okL ok w.heap.size) (w.alloc (.cells #[.int .i64 op,.int .i64 k,.int .i64 n,.string name,.slice aS nS cS,.slice aL nL cL] 54 (0,0)));obtain ⟨lL,aC,av,bL,oL,oA,d9⟩:=gi.get (by simp);subst oA;simp at lL;subst lL;unfold maxLen at av;obtain ⟨y0,iS,gR⟩:=d9 0 (by simp);simp only [List.getElem_cons_zero,List.getElem_cons_succ] at iS;have mK:=fun (W:World) (T:ByteArray) (h1:Wr (okL ok w.heap.size) W b T) (k1:Keep (okL ok w.heap.size) (w.alloc (.cells #[.int .i64 op,.int .i64 k,.int .i64 n,.string name,.slice aS nS cS,.slice (some ⟨bL,oL,none⟩) 3 cL] 54 (0,0))) W) (least:Int) (eR:0<=least) (kd:least<=8)=>lC (okL ok w.heap.size) W b T y0 least (iS.step k1.all) (bV.keep k1) h1 eR kd;have qD:=fun (W:World) (T:ByteArray) (h1:Wr (okL ok w.heap.size) W b T) (k1:Keep (okL ok w.heap.size) (w.alloc (.cells #[.int .i64 op,.int .i64 k,.int .i64 n,.string name,.slice aS nS cS,.slice (some ⟨bL,oL,none⟩) 3 cL] 54 (0,0))) W)=>zAr lC (okL ok w.heap.size) W b T y0 (iS.step k1.all) (bV.keep k1) h1;obtain ⟨o0,Cp,Cd,Cr,Dt,CL,Cg,Db,DJ,pI⟩:=y0
 dsimp only at mK qD gR
 obtain ⟨y1,iw,e7⟩:=d9 1 (by simp);simp only [List.getElem_cons_zero,List.getElem_cons_succ] at iw;have p7:=fun (W:World) (T:ByteArray) (h1:Wr (okL ok w.heap.size) W b T) (k1:Keep (okL ok w.heap.size) (w.alloc (.cells #[.int .i64 op,.int .i64 k,.int .i64 n,.string name,.slice aS nS cS,.slice (some ⟨bL,oL,none⟩) 3 cL] 54 (0,0))) W) (least:Int) (eR:0<=least) (kd:least<=8)=>sJ (okL ok w.heap.size) W b T y1 least (iw.step k1.all) (bV.keep k1) h1 eR kd;have cj:=fun (W:World) (T:ByteArray) (h1:Wr (okL ok w.heap.size) W b T) (k1:Keep (okL ok w.heap.size) (w.alloc (.cells #[.int .i64 op,.int .i64 k,.int .i64 n,.string name,.slice aS nS cS,.slice (some ⟨bL,oL,none⟩) 3 cL] 54 (0,0))) W)=>zAr sJ (okL ok w.heap.size) W b T y1 (iw.step k1.all) (bV.keep k1) h1;obtain ⟨o1,wQ,xh,xu,wW,xd,wy,xv,wg,wM⟩:=y1
 dsimp only at p7 cj e7
 obtain ⟨y2,og,jb⟩:=d9 2 (by simp);simp only [List.getElem_cons_zero,List.getElem_cons_succ] at og;have pD:=fun (W:World) (T:ByteArray) (h1:Wr (okL ok w.heap.size) W b T) (k1:Keep (okL ok w.heap.size) (w.alloc (.cells #[.int .i64 op,.int .i64 k,.int .i64 n,.string name,.slice aS nS cS,.slice (some ⟨bL,oL,none⟩) 3 cL] 54 (0,0))) W) (least:Int) (eR:0<=least) (kd:least<=8)=>xI (okL ok w.heap.size) W b T y2 least (og.step k1.all) (bV.keep k1) h1 eR kd;have bM:=fun (W:World) (T:ByteArray) (h1:Wr (okL ok w.heap.size) W b T) (k1:Keep (okL ok w.heap.size) (w.alloc (.cells #[.int .i64 op,.int .i64 k,.int .i64 n,.string name,.slice aS nS cS,.slice (some ⟨bL,oL,none⟩) 3 cL] 54 (0,0))) W)=>zAr xI (okL ok w.heap.size) W b T y2 (og.step k1.all) (bV.keep k1) h1;obtain ⟨o2,LY,PD,OJ,MM,LK,NY,MA,Po,OB⟩:=y2
 dsimp only at pD bM jb
 clear d9 gi;have HP:Hid (P=Tx.partP e0 7++([⟨#[91]⟩]++(Tx.exprP e1++([⟨#[32,58,32]⟩]++(Tx.exprP e2++[⟨#[93]⟩]))))):=zAA (dN.out.trans rfl);clear dN;go_enter Tryz.func260,Tryz.ntmps260;obtain ⟨fK,fI,fR,fJ,fO,fW⟩:=gR _ K0.all;simp at fK;simp at fI;simp at fR;simp at fJ;simp at fO;simp at fW;go_wp2_with fail;refine (mK _ _ bS K0 7 (by omega) (by omega)).mono ?_;rintro e w1 ⟨rfl,h1,k1⟩;have K1:=k1;have fY:=K1.at;go_wp2_with fail;refine (zAU h1 rfl ⟨#[91]⟩ (by unfold okS;decide)).mono ?_;rintro e w2 ⟨rfl,h2,k2⟩;have K2:=K1.trans k2;have dp:=K2.at;have i6:=co dp 5;simp at i6;obtain ⟨dS,dW,dT,dX,dV,dY⟩:=e7 _ K2.all;simp at dS;simp at dW;simp at dT;simp at dX;simp at dV;simp at dY;go_wp2_with fail;refine (cj _ _ h2 K2).mono ?_;rintro e w3 ⟨rfl,h3,k3⟩;have K3:=K2.trans k3;have iM:=K3.at;go_wp2_with fail;refine (zAU h3 rfl ⟨#[32,58,32]⟩ (by unfold okS;decide)).mono ?_;rintro e w4 ⟨rfl,h4,k4⟩;have K4:=K3.trans k4;have qq:=K4.at;have FI:=co qq 5;simp at FI;obtain ⟨uF,tZ,tN,uB,uM,ui⟩:=jb _ K4.all;simp at uF;simp at tZ;simp at tN;simp at uB;simp at uM;simp at ui;go_wp2_with fail;refine (bM _ _ h4 K4).mono ?_;rintro e w5 ⟨rfl,h5,k5⟩;have K5:=K4.trans k5;have oR:=K5.at;go_wp2_with fail;refine (zAU h5 rfl ⟨#[93]⟩ (by unfold okS;decide)).mono ?_;rintro e w6 ⟨rfl,h6,k6⟩;have K6:=K5.trans k6;have CM:=K6.at;go_wp2;go_end0;refine ⟨rfl,?_,K6.all⟩;rw [HP.out];simp only [Tx.puts_append,Tx.puts_nil];exact h6.fst
end Go.Proofs.YtkfgbhlpjkkgfaaGreatDoor
