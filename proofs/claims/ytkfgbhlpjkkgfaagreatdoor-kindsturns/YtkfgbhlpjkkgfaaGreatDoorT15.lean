import Derived.Test.YtkfgbhlpjkkgfaaGreatDoorT14
set_option linter.unusedVariables false
set_option linter.unusedSimpArgs false
set_option maxHeartbeats 64000000
set_option maxRecDepth 100000
namespace Go.Proofs.YtkfgbhlpjkkgfaaGreatDoor
open Go.RowKit Go.IntWalk
theorem zDi {ok:Nat->Prop} {w:World} {b:Nat} {t:ByteArray} {v:Value} {l:List ByteArray} (hw:Wr ok w b t) (hg:Gl ok w) (hl:HNames ok w v l) (hs:∀ x ∈ l,okS x) :
  Calls Tryz.prog 192 #[.pointer (some ⟨b,0,none⟩),v,.func (.func 157) #[.pointer (some ⟨b,0,none⟩)] #[]] w (WPost ok w b t (Tx.commas Tx.wordP l)):=by
 obtain ⟨ao,cap,rfl,aC,av,_⟩:=hl.at;unfold maxLen at av;have HL:=zAA hl;have HS:=zAA hs;have HG:=zAA hg;clear hl hs hg;obtain ⟨n,hn⟩:=nmQ (l.length);rw [<-hn] at aC HL ⊢;have HN:=zAA hn;clear hn;go_enter Tryz.func192,Tryz.ntmps192;go_wp2_with fail;go_loopg [10] n (fun k v wr=>∃ i,i<=n/\k=n-i/\v=.int .i64 (i:Nat)/\Hid (Wr ok wr b (Tx.puts t (Tx.rowP (Tx.comma Tx.wordP) 0 (l.take i))))/\Keep ok w wr)
 case atStart=>exact ⟨0,Nat.zero_le _,rfl,rfl,zAA (by simpa [Tx.puts,Tx.rowP] using hw),Keep.refl _ _⟩
 case round=>
  obtain ⟨i,hi,rfl,rfl,H,kr⟩:=hrel;by_cases ak:i<n
  case neg=>
   have bH:i=n:=(by omega);subst bH;go_wp2;go_end0;refine ⟨rfl,?_,kr⟩;have:=H.out
   rwa [List.take_of_length_le (by have:=HN.out;omega)] at this
  case pos=>
   have ap:i<l.length:=(by have:=HN.out;omega);have HX:=zAA (Tx.puts_take (Tx.comma Tx.wordP) t l i ap);have ep:=HS.out l[i] (List.getElem_mem ap);obtain ⟨fj,bE,e1,_,_,ai⟩:=(HL.out.keep kr.size kr.block).at;injection e1 with e2 e3 e4;subst e2 e4;obtain ⟨bl,o,e5,iA,c0⟩:=ai i ap;subst e5;clear ai e3;have da:=H.out;have j9:=HG.out.keep kr;generalize l[i]=x at HX ep c0;generalize Tx.puts t (Tx.rowP (Tx.comma Tx.wordP) 0 (l.take i))=ti at HX da H;clear H;by_cases gv:i=0
   ·have lv:¬(0:Int)<(i:Int):=by omega
    have vT:=zAA gv;clear gv;go_wp2_with fail;refine (wordW_any da x ep).mono ?_;rintro e w3 ⟨rfl,h3,k3⟩;go_wp2_with fail;go_roundg (n-(i+1))
    case measure=>omega
    case rel=>exact ⟨i+1,by omega,rfl,by go_num,zAA (by rw [HX.out,Tx.comma,if_pos vT.out];exact h3),kr.trans k3⟩
   ·have lv:(0:Int)<(i:Int):=by omega
    go_wp2_with fail;refine (zAU da rfl ⟨#[44,32]⟩ (by unfold okS;decide)).mono ?_;rintro e w2 ⟨rfl,h2,k2⟩;go_wp2_with fail;refine (wordW_any h2 x ep).mono ?_;rintro e w3 ⟨rfl,h3,k3⟩;go_wp2_with fail;go_roundg (n-(i+1))
    case measure=>omega
    case rel=>exact ⟨i+1,by omega,rfl,by go_num,zAA (by rw [HX.out,Tx.comma,if_neg gv,Tx.puts_append];exact h3),kr.trans (k2.trans k3)⟩
def okZ (s:List Tm):Prop:=∀ x ∈ s,okT x
def okD (d:De):Prop:=okS d.name/\okZ d.n
theorem rowSizes_any {ok:Nat->Prop} {w:World} {b:Nat} {t:ByteArray} {v:Value} {l:List (List Tm)} (hw:Wr ok w b t) (hg:Gl ok w) (hl:HSizes ok w v l) (hs:∀ x ∈ l,okZ x) :
  Calls Tryz.prog 251 #[.pointer (some ⟨b,0,none⟩),v,.func (.func 193) #[.pointer (some ⟨b,0,none⟩)] #[]] w (WPost ok w b t (Tx.commas Tx.sizeP l)):=by
 obtain ⟨ao,cap,rfl,aC,av,_⟩:=hl.at;unfold maxLen at av;have HL:=zAA hl;have HS:=zAA hs;have HG:=zAA hg;clear hl hs hg;obtain ⟨n,hn⟩:=nmQ (l.length);rw [<-hn] at aC HL ⊢;have HN:=zAA hn;clear hn;go_enter Tryz.func251,Tryz.ntmps251;go_wp2_with fail;go_loopg [10] n (fun k v wr=>∃ i,i<=n/\k=n-i/\v=.int .i64 (i:Nat)/\Hid (Wr ok wr b (Tx.puts t (Tx.rowP (Tx.comma Tx.sizeP) 0 (l.take i))))/\Keep ok w wr)
 case atStart=>exact ⟨0,Nat.zero_le _,rfl,rfl,zAA (by simpa [Tx.puts,Tx.rowP] using hw),Keep.refl _ _⟩
 case round=>
  obtain ⟨i,hi,rfl,rfl,H,kr⟩:=hrel;by_cases ak:i<n
  case neg=>
   have bH:i=n:=(by omega);subst bH;go_wp2;go_end0;refine ⟨rfl,?_,kr⟩;have:=H.out
   rwa [List.take_of_length_le (by have:=HN.out;omega)] at this
  case pos=>
   have ap:i<l.length:=(by have:=HN.out;omega);have HX:=zAA (Tx.puts_take (Tx.comma Tx.sizeP) t l i ap);have ep:=HS.out l[i] (List.getElem_mem ap);obtain ⟨fj,bE,e1,_,_,ai⟩:=(HL.out.keep kr.size kr.block).at;injection e1 with e2 e3 e4;subst e2 e4;obtain ⟨bl,o,au,nu,cu,e5,iA,c0,ht⟩:=ai i ap;subst e5;clear ai e3;have da:=H.out;have j9:=HG.out.keep kr;generalize l[i]=x at HX ep ht;generalize Tx.puts t (Tx.rowP (Tx.comma Tx.sizeP) 0 (l.take i))=ti at HX da H;clear H;by_cases gv:i=0
   ·have lv:¬(0:Int)<(i:Int):=by omega
    have vT:=zAA gv;clear gv;go_wp2_with fail;refine (zCk da j9 (ht.keep (Keep.refl ok wr).size (Keep.refl ok wr).block) ep).mono ?_;rintro e w3 ⟨rfl,h3,k3⟩;go_wp2_with fail;go_roundg (n-(i+1))
    case measure=>omega
    case rel=>exact ⟨i+1,by omega,rfl,by go_num,zAA (by rw [HX.out,Tx.comma,if_pos vT.out];exact h3),kr.trans k3⟩
   ·have lv:(0:Int)<(i:Int):=by omega
    go_wp2_with fail;refine (zAU da rfl ⟨#[44,32]⟩ (by unfold okS;decide)).mono ?_;rintro e w2 ⟨rfl,h2,k2⟩;go_wp2_with fail;refine (zCk h2 (j9.keep k2) (ht.keep k2.size k2.block) ep).mono ?_;rintro e w3 ⟨rfl,h3,k3⟩;go_wp2_with fail;go_roundg (n-(i+1))
    case measure=>omega
    case rel=>exact ⟨i+1,by omega,rfl,by go_num,zAA (by rw [HX.out,Tx.comma,if_neg gv,Tx.puts_append];exact h3),kr.trans (k2.trans k3)⟩
theorem angNames_any {ok:Nat->Prop} {w:World} {b:Nat} {t:ByteArray} {v:Value} {l:List ByteArray} (hw:Wr ok w b t) (hg:Gl ok w) (hl:HNames ok w v l) (hs:∀ x ∈ l,okS x) :
  Calls Tryz.prog 156 #[.pointer (some ⟨b,0,none⟩),v,.func (.func 157) #[.pointer (some ⟨b,0,none⟩)] #[]] w (WPost ok w b t (Tx.angP Tx.wordP l)):=by
 obtain ⟨ao,cap,rfl,aC,av,_⟩:=hl.at;unfold maxLen at av;obtain ⟨P,hP⟩:=nmQ (Tx.angP Tx.wordP l);rw [<-hP];unfold Tx.angP at hP;have HP:=zAA hP;clear hP;by_cases h0:l.length=0
 ·rw [h0]
  go_enter Tryz.func156,Tryz.ntmps156;go_wp2;refine bodyPost_ret (results_none rfl _ _ _) rfl ?_;exact ⟨rfl,by rw [HP.out,if_pos h0];exact hw,Keep.refl _ _⟩
 ·have iZ:=zAA (HP.out.trans (if_neg h0))
  clear HP;have aU:=fun (W:World) (T:ByteArray) (h1:Wr ok W b T) (h2:Keep ok w W)=>zDi h1 (hg.keep h2) (hl.keep h2.size h2.block) hs;obtain ⟨n,hn⟩:=nmQ (l.length);rw [<-hn] at h0 aC aU ⊢;clear hn;have rK:((n:Int)==0)=false:=(by simp;omega);go_enter Tryz.func156,Tryz.ntmps156;go_wp2_with fail;refine (zAU hw rfl ⟨#[60]⟩ (by unfold okS;decide)).mono ?_;rintro e w2 ⟨rfl,h2,k2⟩;go_wp2_with fail;refine (aU _ _ h2 k2).mono ?_;rintro e w3 ⟨rfl,h3,k3⟩;go_wp2_with fail;refine (zAU h3 rfl ⟨#[62]⟩ (by unfold okS;decide)).mono ?_;rintro e w4 ⟨rfl,h4,k4⟩;go_wp2;go_end0;refine ⟨rfl,?_,k2.trans (k3.trans k4)⟩;rw [iZ.out,Tx.puts_append,Tx.puts_append];exact h4
theorem angSizes_any {ok:Nat->Prop} {w:World} {b:Nat} {t:ByteArray} {v:Value} {l:List (List Tm)} (hw:Wr ok w b t) (hg:Gl ok w) (hl:HSizes ok w v l) (hs:∀ x ∈ l,okZ x) :
  Calls Tryz.prog 229 #[.pointer (some ⟨b,0,none⟩),v,.func (.func 193) #[.pointer (some ⟨b,0,none⟩)] #[]] w (WPost ok w b t (Tx.angP Tx.sizeP l)):=by
 obtain ⟨ao,cap,rfl,aC,av,_⟩:=hl.at;unfold maxLen at av;obtain ⟨P,hP⟩:=nmQ (Tx.angP Tx.sizeP l);rw [<-hP];unfold Tx.angP at hP;have HP:=zAA hP;clear hP;by_cases h0:l.length=0
 ·rw [h0]
  go_enter Tryz.func229,Tryz.ntmps229;go_wp2;refine bodyPost_ret (results_none rfl _ _ _) rfl ?_;exact ⟨rfl,by rw [HP.out,if_pos h0];exact hw,Keep.refl _ _⟩
 ·have iZ:=zAA (HP.out.trans (if_neg h0))
  clear HP;have aU:=fun (W:World) (T:ByteArray) (h1:Wr ok W b T) (h2:Keep ok w W)=>rowSizes_any h1 (hg.keep h2) (hl.keep h2.size h2.block) hs;obtain ⟨n,hn⟩:=nmQ (l.length);rw [<-hn] at h0 aC aU ⊢;clear hn;have rK:((n:Int)==0)=false:=(by simp;omega);go_enter Tryz.func229,Tryz.ntmps229;go_wp2_with fail;refine (zAU hw rfl ⟨#[60]⟩ (by unfold okS;decide)).mono ?_;rintro e w2 ⟨rfl,h2,k2⟩;go_wp2_with fail;refine (aU _ _ h2 k2).mono ?_;rintro e w3 ⟨rfl,h3,k3⟩;go_wp2_with fail;refine (zAU h3 rfl ⟨#[62]⟩ (by unfold okS;decide)).mono ?_;rintro e w4 ⟨rfl,h4,k4⟩;go_wp2;go_end0;refine ⟨rfl,?_,k2.trans (k3.trans k4)⟩;rw [iZ.out,Tx.puts_append,Tx.puts_append];exact h4
theorem zED {ok:Nat->Prop} {w:World} {b:Nat} {t:ByteArray} {nm:ByteArray} {ex:Int} {sz:List Tm} {au:Option Addr} {nu cu:Nat} (hw:Wr ok w b t) (hg:Gl ok w) (ht:HTerms ok w (.slice au nu cu) sz) (hs:okD ⟨nm,ex,sz⟩) :
  Calls Tryz.prog 159 #[.pointer (some ⟨b,0,none⟩),.agg #[.string nm,.int .u8 ex,.slice au nu cu]] w (WPost ok w b t (Tx.declP ⟨nm,ex,sz⟩)):=by
 obtain ⟨dB,jk⟩:=hs
 dsimp only at dB jk
 obtain ⟨a6,c6,ud,dh,dK,_⟩:=ht.at;injection ud with e0 e1 e2;subst e0 e2;unfold maxLen at dK;obtain ⟨P,hP⟩:=nmQ (Tx.declP ⟨nm,ex,sz⟩);rw [<-hP];unfold Tx.declP at hP
 dsimp only at hP
 rw [<-e1] at hP;have HP:=zAA hP;clear hP;have bS:=hw.more (.cells #[.string nm,.int .u8 ex,.slice au nu cu] 50 (0,0));have bV:=(hg.keep (Keep.alloc ok w (.cells #[.string nm,.int .u8 ex,.slice au nu cu] 50 (0,0)))).more w.heap.size;have K0:=Keep.refl (okL ok w.heap.size) (w.alloc (.cells #[.string nm,.int .u8 ex,.slice au nu cu] 50 (0,0)));have bo:=fun (W:World) (T:ByteArray) (h1:Wr (okL ok w.heap.size) W b T) (k:Keep (okL ok w.heap.size) (w.alloc (.cells #[.string nm,.int .u8 ex,.slice au nu cu] 50 (0,0))) W)=>zCk h1 (bV.keep k) (ht.step k.all) jk;rw [<-e1] at dh;clear ht e1;have jx:∀ (W:World) (T:ByteArray) (k:Keep (okL ok w.heap.size) (w.alloc (.cells #[.string nm,.int .u8 ex,.slice au nu cu] 50 (0,0))) W) (h:Wr (okL ok w.heap.size) W b T),Wr ok W b T/\Keep ok w W:=fun W T k h=>⟨h.fst,k.all⟩;by_cases h105:ex=105
 ·skip
  have iZ:Hid (P=[nm,⟨#[58,32]⟩]++([⟨#[105,110,116]⟩]++(if nu=0 then [] else [⟨#[94]⟩]++Tx.sizeP sz))):=zAA (by rw [HP.out,if_pos h105]);clear HP;subst h105;by_cases h0:nu=0
  ·have uO:Hid (P=[nm,⟨#[58,32]⟩]++([⟨#[105,110,116]⟩]++[])):=zAA (by rw [iZ.out,if_pos h0])
   clear iZ;subst h0;go_enter Tryz.func159,Tryz.ntmps159;go_wp2_with fail;refine (put2 bS (by simp) nm ⟨#[58,32]⟩ dB (by unfold okS;decide)).mono ?_;rintro e w2 ⟨rfl,h2,k2⟩;have dq:=k2.at;have p1:=co dq 1;simp at p1;go_wp2_with fail;refine (zAU h2 rfl ⟨#[105,110,116]⟩ (by unfold okS;decide)).mono ?_;rintro e w3 ⟨rfl,h3,k3⟩;have K3:=k2.trans k3;have iI:=K3.at;have q2:=co iI 2;simp at q2;go_wp2;go_end0;refine ⟨rfl,?_,(jx _ _ K3 h3).2⟩;rw [uO.out];simp only [Tx.puts_append,Tx.puts_nil];exact (jx _ _ K3 h3).1
  ·have uO:Hid (P=[nm,⟨#[58,32]⟩]++([⟨#[105,110,116]⟩]++([⟨#[94]⟩]++Tx.sizeP sz))):=zAA (by rw [iZ.out,if_neg h0])
   clear iZ;have rK:(0:Int)<(nu:Int):=(by omega);go_enter Tryz.func159,Tryz.ntmps159;go_wp2_with fail;refine (put2 bS (by simp) nm ⟨#[58,32]⟩ dB (by unfold okS;decide)).mono ?_;rintro e w2 ⟨rfl,h2,k2⟩;have dq:=k2.at;have p1:=co dq 1;simp at p1;go_wp2_with fail;refine (zAU h2 rfl ⟨#[105,110,116]⟩ (by unfold okS;decide)).mono ?_;rintro e w3 ⟨rfl,h3,k3⟩;have K3:=k2.trans k3;have iI:=K3.at;have q2:=co iI 2;simp at q2;go_wp2_with fail;refine (zAU h3 rfl ⟨#[94]⟩ (by unfold okS;decide)).mono ?_;rintro e w4 ⟨rfl,h4,k4⟩;have K4:=K3.trans k4;have qA:=K4.at;have r2:=co qA 2;simp at r2;go_wp2_with fail;refine (bo _ _ h4 K4).mono ?_;rintro e w5 ⟨rfl,h5,k5⟩;have K5:=K4.trans k5;go_wp2;go_end0;refine ⟨rfl,?_,(jx _ _ K5 h5).2⟩;rw [uO.out];simp only [Tx.puts_append];exact (jx _ _ K5 h5).1
 ·skip
  have iZ:Hid (P=[nm,⟨#[58,32]⟩]++([⟨#[98,111,111,108]⟩]++(if nu=0 then [] else [⟨#[94]⟩]++Tx.sizeP sz))):=zAA (by rw [HP.out,if_neg h105]);clear HP;have Fq:(ex==105)=false:=(by simp [h105]);by_cases h0:nu=0
  ·have uO:Hid (P=[nm,⟨#[58,32]⟩]++([⟨#[98,111,111,108]⟩]++[])):=zAA (by rw [iZ.out,if_pos h0])
   clear iZ;subst h0;go_enter Tryz.func159,Tryz.ntmps159;go_wp2_with fail;refine (put2 bS (by simp) nm ⟨#[58,32]⟩ dB (by unfold okS;decide)).mono ?_;rintro e w2 ⟨rfl,h2,k2⟩;have dq:=k2.at;have p1:=co dq 1;simp at p1;go_wp2_with fail;refine (zAU h2 rfl ⟨#[98,111,111,108]⟩ (by unfold okS;decide)).mono ?_;rintro e w3 ⟨rfl,h3,k3⟩;have K3:=k2.trans k3;have iI:=K3.at;have q2:=co iI 2;simp at q2;go_wp2;go_end0;refine ⟨rfl,?_,(jx _ _ K3 h3).2⟩;rw [uO.out];simp only [Tx.puts_append,Tx.puts_nil];exact (jx _ _ K3 h3).1
  ·have uO:Hid (P=[nm,⟨#[58,32]⟩]++([⟨#[98,111,111,108]⟩]++([⟨#[94]⟩]++Tx.sizeP sz))):=zAA (by rw [iZ.out,if_neg h0])
   clear iZ;have rK:(0:Int)<(nu:Int):=(by omega);go_enter Tryz.func159,Tryz.ntmps159;go_wp2_with fail;refine (put2 bS (by simp) nm ⟨#[58,32]⟩ dB (by unfold okS;decide)).mono ?_;rintro e w2 ⟨rfl,h2,k2⟩;have dq:=k2.at;have p1:=co dq 1;simp at p1;go_wp2_with fail;refine (zAU h2 rfl ⟨#[98,111,111,108]⟩ (by unfold okS;decide)).mono ?_;rintro e w3 ⟨rfl,h3,k3⟩;have K3:=k2.trans k3;have iI:=K3.at;have q2:=co iI 2;simp at q2;go_wp2_with fail;refine (zAU h3 rfl ⟨#[94]⟩ (by unfold okS;decide)).mono ?_;rintro e w4 ⟨rfl,h4,k4⟩;have K4:=K3.trans k4;have qA:=K4.at;have r2:=co qA 2;simp at r2;go_wp2_with fail;refine (bo _ _ h4 K4).mono ?_;rintro e w5 ⟨rfl,h5,k5⟩;have K5:=K4.trans k5;go_wp2;go_end0;refine ⟨rfl,?_,(jx _ _ K5 h5).2⟩;rw [uO.out];simp only [Tx.puts_append];exact (jx _ _ K5 h5).1
theorem zDj {ok:Nat->Prop} {w:World} {b:Nat} {t:ByteArray} {v:Value} {l:List De} (hw:Wr ok w b t) (hg:Gl ok w) (hl:HDes ok w v l) (hs:∀ x ∈ l,okD x) :
  Calls Tryz.prog 158 #[.pointer (some ⟨b,0,none⟩),v,.func (.func 159) #[.pointer (some ⟨b,0,none⟩)] #[]] w (WPost ok w b t (Tx.commas Tx.declP l)):=by
 obtain ⟨ao,cap,rfl,aC,av,_⟩:=hl.at;unfold maxLen at av;have HL:=zAA hl;have HS:=zAA hs;have HG:=zAA hg;clear hl hs hg;obtain ⟨n,hn⟩:=nmQ (l.length);rw [<-hn] at aC HL ⊢;have HN:=zAA hn;clear hn;go_enter Tryz.func158,Tryz.ntmps158;go_wp2_with fail;go_loopg [10] n (fun k v wr=>∃ i,i<=n/\k=n-i/\v=.int .i64 (i:Nat)/\Hid (Wr ok wr b (Tx.puts t (Tx.rowP (Tx.comma Tx.declP) 0 (l.take i))))/\Keep ok w wr)
 case atStart=>exact ⟨0,Nat.zero_le _,rfl,rfl,zAA (by simpa [Tx.puts,Tx.rowP] using hw),Keep.refl _ _⟩
 case round=>
  obtain ⟨i,hi,rfl,rfl,H,kr⟩:=hrel;by_cases ak:i<n
  case neg=>
   have bH:i=n:=(by omega);subst bH;go_wp2;go_end0;refine ⟨rfl,?_,kr⟩;have:=H.out
   rwa [List.take_of_length_le (by have:=HN.out;omega)] at this
  case pos=>
   have ap:i<l.length:=(by have:=HN.out;omega);have HX:=zAA (Tx.puts_take (Tx.comma Tx.declP) t l i ap);have ep:=HS.out l[i] (List.getElem_mem ap);obtain ⟨fj,bE,e1,_,_,ai⟩:=(HL.out.keep kr.size kr.block).at;injection e1 with e2 e3 e4;subst e2 e4;obtain ⟨bl,o,au,nu,cu,e5,iA,c0,c1,c2,ht⟩:=ai i ap;subst e5;clear ai e3;have da:=H.out;have j9:=HG.out.keep kr;generalize l[i]=x at HX ep ht c0 c1;obtain ⟨nm,ex,sz⟩:=x
   dsimp only at c0 c1 ht
   generalize Tx.puts t (Tx.rowP (Tx.comma Tx.declP) 0 (l.take i))=ti at HX da H;clear H;have bS:=da.more (.cells #[.string nm,.int .u8 ex,.slice au nu cu] 50 (0,0));have bV:=(j9.keep (Keep.alloc ok wr (.cells #[.string nm,.int .u8 ex,.slice au nu cu] 50 (0,0)))).more wr.heap.size;have Gv:=Keep.alloc ok wr (.cells #[.string nm,.int .u8 ex,.slice au nu cu] 50 (0,0));have K0:=Keep.refl (okL ok wr.heap.size) (wr.alloc (.cells #[.string nm,.int .u8 ex,.slice au nu cu] 50 (0,0)));by_cases gv:i=0
   ·have lv:¬(0:Int)<(i:Int):=by omega
    have vT:=zAA gv;clear gv;go_wp2_with fail;refine (zED bS bV (ht.step Gv) ep).mono ?_;rintro e w3 ⟨rfl,h3,k3⟩;go_wp2_with fail;go_roundg (n-(i+1))
    case measure=>omega
    case rel=>exact ⟨i+1,by omega,rfl,by go_num,zAA (by rw [HX.out,Tx.comma,if_pos vT.out];exact h3.fst),kr.trans k3.all⟩
   ·have lv:(0:Int)<(i:Int):=by omega
    go_wp2_with fail;refine (zAU bS (by simp) ⟨#[44,32]⟩ (by unfold okS;decide)).mono ?_;rintro e w2 ⟨rfl,h2,k2⟩;have dq:=k2.at;have K2:=k2.all;have p0:=co dq 0;simp at p0;have p1:=co dq 1;simp at p1;have p2:=co dq 2;simp at p2;go_wp2_with fail;refine (zED h2 (bV.keep k2) (ht.step K2) ep).mono ?_;rintro e w3 ⟨rfl,h3,k3⟩;go_wp2_with fail;go_roundg (n-(i+1))
    case measure=>omega
    case rel=>exact ⟨i+1,by omega,rfl,by go_num,zAA (by rw [HX.out,Tx.comma,if_neg gv,Tx.puts_append];exact h3.fst),kr.trans (k2.trans k3).all⟩
theorem HEx.step {ok:Nat->Prop} {w W:World} {cs:List Value} {e:Ex} {L:Nat} (h:HEx ok w cs e) (k:Keep ok w W):HEx (okL ok L) W cs e:=(h.keep k.size k.block).wide fun i hi _=>.inl hi
theorem HExs.step {ok:Nat->Prop} {w W:World} {v:Value} {l:List Ex} {L:Nat} (h:HExs ok w v l) (k:Keep ok w W):HExs (okL ok L) W v l:=(h.keep k.size k.block).wide fun i hi _=>.inl hi
def PartDoes (e:Ex):Prop:=∀ (ok:Nat->Prop) (w:World) (b:Nat) (t:ByteArray) (x:ExV) (least:Int),HEx ok w x.cells e->Gl ok w->Wr ok w b t->0<=least->least<=8 ->
 Calls Tryz.prog 228 #[.pointer (some ⟨b,0,none⟩),.agg #[.int .i64 x.op,.int .i64 x.k,.int .i64 x.n,.string x.name,.slice x.aS x.nS x.cS,.slice x.aL x.nL x.cL],.int .i64 least] w (WPost ok w b t (Tx.partP e least))
def BareDoes (e:Ex):Prop:=∀ (ok:Nat->Prop) (w:World) (b:Nat) (t:ByteArray) (x:ExV),HEx ok w x.cells e->Gl ok w->Wr ok w b t ->
 Calls Tryz.prog 250 #[.pointer (some ⟨b,0,none⟩),.agg #[.int .i64 x.op,.int .i64 x.k,.int .i64 x.n,.string x.name,.slice x.aS x.nS x.cS,.slice x.aL x.nL x.cL]] w (WPost ok w b t (Tx.bare e))
theorem zAr {e:Ex} (h:PartDoes e) (ok:Nat->Prop) (w:World) (b:Nat) (t:ByteArray) (x:ExV) (hx:HEx ok w x.cells e) (hg:Gl ok w) (hw:Wr ok w b t) :
  Calls Tryz.prog 194 #[.pointer (some ⟨b,0,none⟩),.agg #[.int .i64 x.op,.int .i64 x.k,.int .i64 x.n,.string x.name,.slice x.aS x.nS x.cS,.slice x.aL x.nL x.cL]] w (WPost ok w b t (Tx.exprP e)):=by
 obtain ⟨op,k,n,name,aS,nS,cS,aL,nL,cL⟩:=x
 dsimp only at *
 have bS:=hw.more (.cells #[.int .i64 op,.int .i64 k,.int .i64 n,.string name,.slice aS nS cS,.slice aL nL cL] 54 (0,0));have bV:=(hg.keep (Keep.alloc ok w (.cells #[.int .i64 op,.int .i64 k,.int .i64 n,.string name,.slice aS nS cS,.slice aL nL cL] 54 (0,0)))).more w.heap.size;have hc:=h (okL ok w.heap.size) _ b t ⟨op,k,n,name,aS,nS,cS,aL,nL,cL⟩ 0 (hx.step (Keep.alloc ok w (.cells #[.int .i64 op,.int .i64 k,.int .i64 n,.string name,.slice aS nS cS,.slice aL nL cL] 54 (0,0)))) bV bS (by omega) (by omega)
 dsimp only at hc
 clear h hx;go_enter Tryz.func194,Tryz.ntmps194;go_wp2_with fail;refine hc.mono ?_;rintro e w2 ⟨rfl,h2,k2⟩;go_wp2;go_end0;exact ⟨rfl,h2.fst,k2.all⟩
def opOk (op k:Int):Prop:=(op=4\/op=5)->1<=k/\k<=14
theorem rankOf_any (op k n:Int) (name:ByteArray) (aS aL:Option Addr) (nS cS nL cL:Nat) (w:World) (hg:GlobO w) (hk:opOk op k) :
  Calls Tryz.prog 249 #[.agg #[.int .i64 op,.int .i64 k,.int .i64 n,.string name,.slice aS nS cS,.slice aL nL cL]] w fun e w'=>e=.returned (.int .i64 (Tx.rankE op k))/\Below w.heap.size w w':=by
 have bA:Below w.heap.size w (w.alloc (.cells #[.int .i64 op,.int .i64 k,.int .i64 n,.string name,.slice aS nS cS,.slice aL nL cL] 54 (0,0))):=(Below.refl _ _).alloc nR _;unfold Tx.rankE;by_cases xp:op=4\/op=5
 ·obtain ⟨lY,jI⟩:=hk xp
  obtain ⟨q,rfl⟩:∃ q:Nat,k=(q:Int):=⟨k.toNat,by omega⟩;have hq:q<15:=(by omega);obtain ⟨c0,c1,c2⟩:=hg.2 q hq;rw [if_pos xp,Int.toNat_natCast];have d2:=(bA.cell (p:=⟨4,q*3+2,none⟩) hg.1).trans c2;generalize Tx.opT q=oq at c0 c1 c2 d2 ⊢;obtain ⟨wd,sg,rk⟩:=oq
  dsimp only at d2 ⊢
  clear c0 c1 c2;rcases xp with rfl | rfl
  ·go_enter Tryz.func249,Tryz.ntmps249
   go_wp2;go_ret;exact ⟨rfl,bA⟩
  ·go_enter Tryz.func249,Tryz.ntmps249
   go_wp2;go_ret;exact ⟨rfl,bA⟩
 ·rw [if_neg xp]
  have h4:(op==4)=false:=(by simp;omega);have h5:(op==5)=false:=(by simp;omega);by_cases h6:op=6
  ·rw [if_pos h6]
   subst h6;go_enter Tryz.func249,Tryz.ntmps249;go_wp2;go_ret;exact ⟨rfl,bA⟩
  ·rw [if_neg h6]
   have QQ:(op==6)=false:=(by simp [h6]);go_enter Tryz.func249,Tryz.ntmps249;go_wp2;go_ret;exact ⟨rfl,bA⟩
theorem part_of {e:Ex} (h:BareDoes e) (hk:opOk e.op e.k):PartDoes e:=by
 intro ok w b t x least hx hg hw eO kd;obtain ⟨nG,nq,qz,qj,_,_⟩:=hx.parts;obtain ⟨op,k,n,name,aS,nS,cS,aL,nL,cL⟩:=x
 dsimp only at *
 have IH:Tx.rank e=Tx.rankE op k:=by
  obtain ⟨o',k',n',s',S',L'⟩:=e
  dsimp only [Ex.op,Ex.k] at nG nq
  subst nG nq;rfl
 rw [<-nG,<-nq] at hk;obtain ⟨P,hP⟩:=nmQ (Tx.partP e least);rw [<-hP];unfold Tx.partP Tx.partQ at hP;rw [IH] at hP;have HP:=zAA hP;clear hP IH nG nq qz qj;have bS:=hw.more (.cells #[.int .i64 op,.int .i64 k,.int .i64 n,.string name,.slice aS nS cS,.slice aL nL cL] 54 (0,0));have bV:=(hg.keep (Keep.alloc ok w (.cells #[.int .i64 op,.int .i64 k,.int .i64 n,.string name,.slice aS nS cS,.slice aL nL cL] 54 (0,0)))).more w.heap.size;have hb:=fun (W:World) (T:ByteArray) (h1:Wr (okL ok w.heap.size) W b T) (k1:Keep (okL ok w.heap.size) (w.alloc (.cells #[.int .i64 op,.int .i64 k,.int .i64 n,.string name,.slice aS nS cS,.slice aL nL cL] 54 (0,0))) W)=>h (okL ok w.heap.size) W b T ⟨op,k,n,name,aS,nS,cS,aL,nL,cL⟩ (hx.step k1.all) (bV.keep k1) h1
 dsimp only at hb
 have hr:=rankOf_any op k n name aS aL nS cS nL cL (w.alloc (.cells #[.int .i64 op,.int .i64 k,.int .i64 n,.string name,.slice aS nS cS,.slice aL nL cL] 54 (0,0))) bV.o hk;clear h hx;have Mg:0<=Tx.rankE op k/\Tx.rankE op k<=7:=by
  unfold Tx.rankE
  split
  ·have hq:=hk (by assumption)
   obtain ⟨q,rfl⟩:∃ q:Nat,k=(q:Int):=⟨k.toNat,by omega⟩;have cX:q<15:=(by omega);rw [Int.toNat_natCast];have bX:∀ q,q<15->0<=(Tx.opT q).2.2/\(Tx.opT q).2.2<=7:=(by decide);exact bX q cX
  ·split<;>omega
 generalize Tx.rankE op k=r at HP hr Mg;by_cases ii:least<=r
 ·have iZ:=zAA (HP.out.trans (if_pos ii))
  clear HP;go_enter Tryz.func228,Tryz.ntmps228;go_wp2_with fail;refine hr.mono ?_;rintro e w1 ⟨rfl,b1⟩;have K1:Keep (okL ok w.heap.size) (w.alloc (.cells #[.int .i64 op,.int .i64 k,.int .i64 n,.string name,.slice aS nS cS,.slice aL nL cL] 54 (0,0))) w1:=Keep.ofBelow b1;have gd:=K1.at;have p0:=co gd 0;simp at p0;have p1:=co gd 1;simp at p1;have p2:=co gd 2;simp at p2;have p3:=co gd 3;simp at p3;have p4:=co gd 4;simp at p4;have p5:=co gd 5;simp at p5;go_wp2_with fail;refine (hb _ _ (bS.under b1) K1).mono ?_;rintro e w2 ⟨rfl,h2,k2⟩;go_wp2;refine bodyPost_ret (results_none rfl _ _ _) rfl ?_;exact ⟨rfl,by rw [iZ.out];exact h2.fst,(K1.trans k2).all⟩
 ·have iZ:=zAA (HP.out.trans (if_neg ii))
  clear HP;go_enter Tryz.func228,Tryz.ntmps228;go_wp2_with fail;refine hr.mono ?_;rintro e w1 ⟨rfl,b1⟩;have K1:Keep (okL ok w.heap.size) (w.alloc (.cells #[.int .i64 op,.int .i64 k,.int .i64 n,.string name,.slice aS nS cS,.slice aL nL cL] 54 (0,0))) w1:=Keep.ofBelow b1;go_wp2_with fail;refine (zAU (bS.under b1) rfl ⟨#[40]⟩ (by unfold okS;decide)).mono ?_;rintro e w2 ⟨rfl,h2,k2⟩;have K2:=K1.trans k2;have dq:=K2.at;have p0:=co dq 0;simp at p0;have p1:=co dq 1;simp at p1;have p2:=co dq 2;simp at p2;have p3:=co dq 3;simp at p3;have p4:=co dq 4;simp at p4;have p5:=co dq 5;simp at p5;go_wp2_with fail;refine (hb _ _ h2 K2).mono ?_;rintro e w3 ⟨rfl,h3,k3⟩;go_wp2_with fail;refine (zAU h3 rfl ⟨#[41]⟩ (by unfold okS;decide)).mono ?_;rintro e w4 ⟨rfl,h4,k4⟩;go_wp2;go_end0;refine ⟨rfl,?_,(K2.trans (k3.trans k4)).all⟩;rw [iZ.out];simp only [Tx.puts_append];exact h4.fst
theorem zCG {ok:Nat->Prop} {w:World} {b:Nat} {t:ByteArray} {v:Value} {l:List Ex} (hw:Wr ok w b t) (hg:Gl ok w) (hl:HExs ok w v l) (hs:∀ x ∈ l,PartDoes x) :
  Calls Tryz.prog 230 #[.pointer (some ⟨b,0,none⟩),v,.func (.func 194) #[.pointer (some ⟨b,0,none⟩)] #[]] w (WPost ok w b t (Tx.commas Tx.exprP l)):=by
 obtain ⟨ao,cap,rfl,aC,av,_⟩:=hl.at;unfold maxLen at av;have HL:=zAA hl;have HS:=zAA hs;have HG:=zAA hg;clear hl hs hg;obtain ⟨n,hn⟩:=nmQ (l.length);rw [<-hn] at aC HL ⊢;have HN:=zAA hn;clear hn;go_enter Tryz.func230,Tryz.ntmps230;go_wp2_with fail;go_loopg [10] n (fun k v wr=>∃ i,i<=n/\k=n-i/\v=.int .i64 (i:Nat)/\Hid (Wr ok wr b (Tx.puts t (Tx.rowP (Tx.comma Tx.exprP) 0 (l.take i))))/\Keep ok w wr)
 case atStart=>exact ⟨0,Nat.zero_le _,rfl,rfl,zAA (by simpa [Tx.puts,Tx.rowP] using hw),Keep.refl _ _⟩
 case round=>
  obtain ⟨i,hi,rfl,rfl,H,kr⟩:=hrel;by_cases ak:i<n
  case neg=>
   have bH:i=n:=(by omega);subst bH;go_wp2;go_end0;refine ⟨rfl,?_,kr⟩;have:=H.out
   rwa [List.take_of_length_le (by have:=HN.out;omega)] at this
  case pos=>
   have ap:i<l.length:=(by have:=HN.out;omega);have HX:=zAA (Tx.puts_take (Tx.comma Tx.exprP) t l i ap);have ep:=HS.out l[i] (List.getElem_mem ap);obtain ⟨fj,bE,e1,_,_,ai⟩:=(HL.out.keep kr.size kr.block).at;injection e1 with e2 e3 e4;subst e2 e4;obtain ⟨bl,o,y,e5,bm,iA,hy,hex⟩:=ai i ap;subst e5;clear ai e3;have da:=H.out;have j9:=HG.out.keep kr;obtain ⟨d0,d1,d2,d3,d4,d5⟩:=hy;generalize l[i]=x at HX ep hex;obtain ⟨yo,yk,yn,ys,pZ,pz,pt,wy,wY,wq⟩:=y
   dsimp only at d0 d1 d2 d3 d4 d5
   generalize Tx.puts t (Tx.rowP (Tx.comma Tx.exprP) 0 (l.take i))=ti at HX da H;clear H;have bS:=da.more (.cells #[.int .i64 yo,.int .i64 yk,.int .i64 yn,.string ys,.slice pZ pz pt,.slice wy wY wq] 54 (0,0));have bV:=(j9.keep (Keep.alloc ok wr (.cells #[.int .i64 yo,.int .i64 yk,.int .i64 yn,.string ys,.slice pZ pz pt,.slice wy wY wq] 54 (0,0)))).more wr.heap.size;have Gv:=Keep.alloc ok wr (.cells #[.int .i64 yo,.int .i64 yk,.int .i64 yn,.string ys,.slice pZ pz pt,.slice wy wY wq] 54 (0,0));have K0:=Keep.refl (okL ok wr.heap.size) (wr.alloc (.cells #[.int .i64 yo,.int .i64 yk,.int .i64 yn,.string ys,.slice pZ pz pt,.slice wy wY wq] 54 (0,0)));by_cases gv:i=0
   ·have lv:¬(0:Int)<(i:Int):=by omega
    have vT:=zAA gv;clear gv;go_wp2_with fail;refine (zAr ep _ _ _ _ ⟨yo,yk,yn,ys,pZ,pz,pt,wy,wY,wq⟩ (hex.step Gv) bV bS).mono ?_;rintro e w3 ⟨rfl,h3,k3⟩;go_wp2_with fail;go_roundg (n-(i+1))
    case measure=>omega
    case rel=>exact ⟨i+1,by omega,rfl,by go_num,zAA (by rw [HX.out,Tx.comma,if_pos vT.out];exact h3.fst),kr.trans k3.all⟩
   ·have lv:(0:Int)<(i:Int):=by omega
    go_wp2_with fail;refine (zAU bS (by simp) ⟨#[44,32]⟩ (by unfold okS;decide)).mono ?_;rintro e w2 ⟨rfl,h2,k2⟩;have dq:=k2.at;have K2:=k2.all;have p0:=co dq 0;simp at p0;have p1:=co dq 1;simp at p1;have p2:=co dq 2;simp at p2;have p3:=co dq 3;simp at p3;have p4:=co dq 4;simp at p4;have p5:=co dq 5;simp at p5;go_wp2_with fail;refine (zAr ep _ _ _ _ ⟨yo,yk,yn,ys,pZ,pz,pt,wy,wY,wq⟩ (hex.step K2) (bV.keep k2) h2).mono ?_;rintro e w3 ⟨rfl,h3,k3⟩;go_wp2_with fail;go_roundg (n-(i+1))
    case measure=>omega
    case rel=>exact ⟨i+1,by omega,rfl,by go_num,zAA (by rw [HX.out,Tx.comma,if_neg gv,Tx.puts_append];exact h3.fst),kr.trans (k2.trans k3).all⟩
theorem HExs.get {ok:Nat->Prop} {w:World} {aL:Option Addr} {nL cL:Nat} {L:List Ex} (h:HExs ok w (.slice aL nL cL) L) (h0:0<L.length) :
  nL=L.length/\nL<=cL/\cL<=maxLen/\∃ bL oL,aL=some ⟨bL,oL,none⟩/\∀ i (hi:i<L.length),∃ y:ExV,HEx ok w y.cells L[i]/\∀ W,Keep ok w W->ExAt W bL (oL+i*6) y:=by
 obtain ⟨ao,cap,e,h1,h2,ai⟩:=h.at;injection e with e0 e1 e2;subst e0 e1 e2;obtain ⟨b0,o0,y0,oa,_⟩:=ai 0 h0;subst oa;refine ⟨rfl,h1,h2,b0,o0,rfl,fun i hi=>?_⟩;obtain ⟨b1,o1,y1,e,bm,hb,hy,hx⟩:=ai i hi;injection e with e;injection e with e3 e4;subst e3 e4;exact ⟨y1,hx,fun W k=>hy.keep (k.block _ bm hb)⟩
theorem choiceW_any {ok:Nat->Prop} {w:World} {b:Nat} {t:ByteArray} {op k n:Int} {name:ByteArray} {aS aL:Option Addr} {nS cS nL cL:Nat} {S:List (List Tm)} (hw:Wr ok w b t) (hg:Gl ok w) {e0 e1 e2:Ex} (gF:HExs ok w (.slice aL nL cL) [e0,e1,e2]) (lI:PartDoes e0) (rP:PartDoes e1) (AI:PartDoes e2) :
  Calls Tryz.prog 259 #[.pointer (some ⟨b,0,none⟩),.agg #[.int .i64 op,.int .i64 k,.int .i64 n,.string name,.slice aS nS cS,.slice aL nL cL]] w (WPost ok w b t (Tx.choiceP (Tx.bares [e0,e1,e2]))):=by
 obtain ⟨P,hP⟩:=nmQ ((Tx.choiceP (Tx.bares [e0,e1,e2])));rw [<-hP];have dP:=zAA hP;clear hP;have bS:=hw.more (.cells #[.int .i64 op,.int .i64 k,.int .i64 n,.string name,.slice aS nS cS,.slice aL nL cL] 54 (0,0));have bV:=(hg.keep (Keep.alloc ok w (.cells #[.int .i64 op,.int .i64 k,.int .i64 n,.string name,.slice aS nS cS,.slice aL nL cL] 54 (0,0)))).more w.heap.size;have K0:=Keep.refl (okL ok w.heap.size) (w.alloc (.cells #[.int .i64 op,.int .i64 k,.int .i64 n,.string name,.slice aS nS cS,.slice aL nL cL] 54 (0,0)));obtain ⟨lO,aC,av,bL,oL,oa,dW⟩:=gF.get (by simp);subst oa;simp at lO;subst lO;unfold maxLen at av;obtain ⟨y0,iO,gy⟩:=dW 0 (by simp);simp only [List.getElem_cons_zero,List.getElem_cons_succ] at iO;have my:=fun (W:World) (T:ByteArray) (h1:Wr (okL ok w.heap.size) W b T) (k1:Keep (okL ok w.heap.size) (w.alloc (.cells #[.int .i64 op,.int .i64 k,.int .i64 n,.string name,.slice aS nS cS,.slice (some ⟨bL,oL,none⟩) 3 cL] 54 (0,0))) W) (least:Int) (eO:0<=least) (kd:least<=8)=>lI (okL ok w.heap.size) W b T y0 least (iO.step k1.all) (bV.keep k1) h1 eO kd;have qw:=fun (W:World) (T:ByteArray) (h1:Wr (okL ok w.heap.size) W b T) (k1:Keep (okL ok w.heap.size) (w.alloc (.cells #[.int .i64 op,.int .i64 k,.int .i64 n,.string name,.slice aS nS cS,.slice (some ⟨bL,oL,none⟩) 3 cL] 54 (0,0))) W)=>zAr lI (okL ok w.heap.size) W b T y0 (iO.step k1.all) (bV.keep k1) h1;obtain ⟨o0,Dx,Cf,Cc,DJ,CM,DA,Dw,DI,py⟩:=y0
 dsimp only at my qw gy
 obtain ⟨y1,ie,e7⟩:=dW 1 (by simp);simp only [List.getElem_cons_zero,List.getElem_cons_succ] at ie;have qF:=fun (W:World) (T:ByteArray) (h1:Wr (okL ok w.heap.size) W b T) (k1:Keep (okL ok w.heap.size) (w.alloc (.cells #[.int .i64 op,.int .i64 k,.int .i64 n,.string name,.slice aS nS cS,.slice (some ⟨bL,oL,none⟩) 3 cL] 54 (0,0))) W) (least:Int) (eO:0<=least) (kd:least<=8)=>rP (okL ok w.heap.size) W b T y1 least (ie.step k1.all) (bV.keep k1) h1 eO kd;have cv:=fun (W:World) (T:ByteArray) (h1:Wr (okL ok w.heap.size) W b T) (k1:Keep (okL ok w.heap.size) (w.alloc (.cells #[.int .i64 op,.int .i64 k,.int .i64 n,.string name,.slice aS nS cS,.slice (some ⟨bL,oL,none⟩) 3 cL] 54 (0,0))) W)=>zAr rP (okL ok w.heap.size) W b T y1 (ie.step k1.all) (bV.keep k1) h1;obtain ⟨o1,xv,wU,wZ,xw,xt,xr,xi,xf,wi⟩:=y1
 dsimp only at qF cv e7
 obtain ⟨y2,om,jb⟩:=dW 2 (by simp);simp only [List.getElem_cons_zero,List.getElem_cons_succ] at om;have pd:=fun (W:World) (T:ByteArray) (h1:Wr (okL ok w.heap.size) W b T) (k1:Keep (okL ok w.heap.size) (w.alloc (.cells #[.int .i64 op,.int .i64 k,.int .i64 n,.string name,.slice aS nS cS,.slice (some ⟨bL,oL,none⟩) 3 cL] 54 (0,0))) W) (least:Int) (eO:0<=least) (kd:least<=8)=>AI (okL ok w.heap.size) W b T y2 least (om.step k1.all) (bV.keep k1) h1 eO kd;have bM:=fun (W:World) (T:ByteArray) (h1:Wr (okL ok w.heap.size) W b T) (k1:Keep (okL ok w.heap.size) (w.alloc (.cells #[.int .i64 op,.int .i64 k,.int .i64 n,.string name,.slice aS nS cS,.slice (some ⟨bL,oL,none⟩) 3 cL] 54 (0,0))) W)=>zAr AI (okL ok w.heap.size) W b T y2 (om.step k1.all) (bV.keep k1) h1;obtain ⟨o2,Nk,MS,L6,Om,OU,Ow,OZ,Mj,Nq⟩:=y2
 dsimp only at pd bM jb
 clear dW gF;have HP:Hid (P=[⟨#[105,102,32]⟩]++(Tx.exprP e0++([⟨#[32,116,104,101,110,32]⟩]++(Tx.exprP e1++([⟨#[32,101,108,115,101,32]⟩]++Tx.exprP e2))))):=zAA (dP.out.trans rfl);clear dP;go_enter Tryz.func259,Tryz.ntmps259;go_wp2_with fail;refine (zAU bS (by simp) ⟨#[105,102,32]⟩ (by unfold okS;decide)).mono ?_;rintro e w1 ⟨rfl,h1,k1⟩;have K1:=k1;have gd:=K1.at;have lV:=co gd 5;simp at lV;obtain ⟨mj,lT,mn,lZ,mq,lH⟩:=gy _ K1.all;simp at mj;simp at lT;simp at mn;simp at lZ;simp at mq;simp at lH;go_wp2_with fail;refine (qw _ _ h1 K1).mono ?_;rintro e w2 ⟨rfl,h2,k2⟩;have K2:=K1.trans k2;have dq:=K2.at;go_wp2_with fail;refine (zAU h2 rfl ⟨#[32,116,104,101,110,32]⟩ (by unfold okS;decide)).mono ?_;rintro e w3 ⟨rfl,h3,k3⟩;have K3:=K2.trans k3;have iI:=K3.at;have lJ:=co iI 5;simp at lJ;obtain ⟨fz,fC,fX,fV,fM,fE⟩:=e7 _ K3.all;simp at fz;simp at fC;simp at fX;simp at fV;simp at fM;simp at fE;go_wp2_with fail;refine (cv _ _ h3 K3).mono ?_;rintro e w4 ⟨rfl,h4,k4⟩;have K4:=K3.trans k4;have qA:=K4.at;go_wp2_with fail;refine (zAU h4 rfl ⟨#[32,101,108,115,101,32]⟩ (by unfold okS;decide)).mono ?_;rintro e w5 ⟨rfl,h5,k5⟩;have K5:=K4.trans k5;have pG:=K5.at;have Gy:=co pG 5;simp at Gy;obtain ⟨tR,vk,vU,ub,vr,vx⟩:=jb _ K5.all;simp at tR;simp at vk;simp at vU;simp at ub;simp at vr;simp at vx;go_wp2_with fail;refine (bM _ _ h5 K5).mono ?_;rintro e w6 ⟨rfl,h6,k6⟩;have K6:=K5.trans k6;have CT:=K6.at;go_wp2;go_end0;refine ⟨rfl,?_,K6.all⟩;rw [HP.out];simp only [Tx.puts_append,Tx.puts_nil];exact h6.fst
theorem indexW_any {ok:Nat->Prop} {w:World} {b:Nat} {t:ByteArray} {op k n:Int} {name:ByteArray} {aS aL:Option Addr} {nS cS nL cL:Nat} {S:List (List Tm)} (hw:Wr ok w b t) (hg:Gl ok w) {e0 e1 e2:Ex} (gF:HExs ok w (.slice aL nL cL) [e0,e1,e2]) (lI:PartDoes e0) (rP:PartDoes e1) (AI:PartDoes e2) :
  Calls Tryz.prog 260 #[.pointer (some ⟨b,0,none⟩),.agg #[.int .i64 op,.int .i64 k,.int .i64 n,.string name,.slice aS nS cS,.slice aL nL cL]] w (WPost ok w b t (Tx.indexP (Tx.bares [e0,e1,e2]))):=by
 obtain ⟨P,hP⟩:=nmQ ((Tx.indexP (Tx.bares [e0,e1,e2])));rw [<-hP];have dP:=zAA hP;clear hP;have bS:=hw.more (.cells #[.int .i64 op,.int .i64 k,.int .i64 n,.string name,.slice aS nS cS,.slice aL nL cL] 54 (0,0));have bV:=(hg.keep (Keep.alloc ok w (.cells #[.int .i64 op,.int .i64 k,.int .i64 n,.string name,.slice aS nS cS,.slice aL nL cL] 54 (0,0)))).more w.heap.size;have K0:=Keep.refl (okL ok w.heap.size) (w.alloc (.cells #[.int .i64 op,.int .i64 k,.int .i64 n,.string name,.slice aS nS cS,.slice aL nL cL] 54 (0,0)));obtain ⟨lO,aC,av,bL,oL,oa,dW⟩:=gF.get (by simp);subst oa;simp at lO;subst lO;unfold maxLen at av;obtain ⟨y0,iO,gy⟩:=dW 0 (by simp);simp only [List.getElem_cons_zero,List.getElem_cons_succ] at iO;have my:=fun (W:World) (T:ByteArray) (h1:Wr (okL ok w.heap.size) W b T) (k1:Keep (okL ok w.heap.size) (w.alloc (.cells #[.int .i64 op,.int .i64 k,.int .i64 n,.string name,.slice aS nS cS,.slice (some ⟨bL,oL,none⟩) 3 cL] 54 (0,0))) W) (least:Int) (eO:0<=least) (kd:least<=8)=>lI (okL ok w.heap.size) W b T y0 least (iO.step k1.all) (bV.keep k1) h1 eO kd;have qw:=fun (W:World) (T:ByteArray) (h1:Wr (okL ok w.heap.size) W b T) (k1:Keep (okL ok w.heap.size) (w.alloc (.cells #[.int .i64 op,.int .i64 k,.int .i64 n,.string name,.slice aS nS cS,.slice (some ⟨bL,oL,none⟩) 3 cL] 54 (0,0))) W)=>zAr lI (okL ok w.heap.size) W b T y0 (iO.step k1.all) (bV.keep k1) h1;obtain ⟨o0,Dx,Cf,Cc,DJ,CM,DA,Dw,DI,py⟩:=y0
 dsimp only at my qw gy
 obtain ⟨y1,ie,e7⟩:=dW 1 (by simp);simp only [List.getElem_cons_zero,List.getElem_cons_succ] at ie;have qF:=fun (W:World) (T:ByteArray) (h1:Wr (okL ok w.heap.size) W b T) (k1:Keep (okL ok w.heap.size) (w.alloc (.cells #[.int .i64 op,.int .i64 k,.int .i64 n,.string name,.slice aS nS cS,.slice (some ⟨bL,oL,none⟩) 3 cL] 54 (0,0))) W) (least:Int) (eO:0<=least) (kd:least<=8)=>rP (okL ok w.heap.size) W b T y1 least (ie.step k1.all) (bV.keep k1) h1 eO kd;have cv:=fun (W:World) (T:ByteArray) (h1:Wr (okL ok w.heap.size) W b T) (k1:Keep (okL ok w.heap.size) (w.alloc (.cells #[.int .i64 op,.int .i64 k,.int .i64 n,.string name,.slice aS nS cS,.slice (some ⟨bL,oL,none⟩) 3 cL] 54 (0,0))) W)=>zAr rP (okL ok w.heap.size) W b T y1 (ie.step k1.all) (bV.keep k1) h1;obtain ⟨o1,xv,wU,wZ,xw,xt,xr,xi,xf,wi⟩:=y1
 dsimp only at qF cv e7
 obtain ⟨y2,om,jb⟩:=dW 2 (by simp);simp only [List.getElem_cons_zero,List.getElem_cons_succ] at om;have pd:=fun (W:World) (T:ByteArray) (h1:Wr (okL ok w.heap.size) W b T) (k1:Keep (okL ok w.heap.size) (w.alloc (.cells #[.int .i64 op,.int .i64 k,.int .i64 n,.string name,.slice aS nS cS,.slice (some ⟨bL,oL,none⟩) 3 cL] 54 (0,0))) W) (least:Int) (eO:0<=least) (kd:least<=8)=>AI (okL ok w.heap.size) W b T y2 least (om.step k1.all) (bV.keep k1) h1 eO kd;have bM:=fun (W:World) (T:ByteArray) (h1:Wr (okL ok w.heap.size) W b T) (k1:Keep (okL ok w.heap.size) (w.alloc (.cells #[.int .i64 op,.int .i64 k,.int .i64 n,.string name,.slice aS nS cS,.slice (some ⟨bL,oL,none⟩) 3 cL] 54 (0,0))) W)=>zAr AI (okL ok w.heap.size) W b T y2 (om.step k1.all) (bV.keep k1) h1;obtain ⟨o2,Nk,MS,L6,Om,OU,Ow,OZ,Mj,Nq⟩:=y2
 dsimp only at pd bM jb
 clear dW gF;have HP:Hid (P=Tx.partP e0 7++([⟨#[91]⟩]++(Tx.exprP e1++([⟨#[32,58,32]⟩]++(Tx.exprP e2++[⟨#[93]⟩]))))):=zAA (dP.out.trans rfl);clear dP;go_enter Tryz.func260,Tryz.ntmps260;obtain ⟨fy,fO,fK,fD,fU,fW⟩:=gy _ K0.all;simp at fy;simp at fO;simp at fK;simp at fD;simp at fU;simp at fW;go_wp2_with fail;refine (my _ _ bS K0 7 (by omega) (by omega)).mono ?_;rintro e w1 ⟨rfl,h1,k1⟩;have K1:=k1;have gd:=K1.at;go_wp2_with fail;refine (zAU h1 rfl ⟨#[91]⟩ (by unfold okS;decide)).mono ?_;rintro e w2 ⟨rfl,h2,k2⟩;have K2:=K1.trans k2;have dq:=K2.at;have iY:=co dq 5;simp at iY;obtain ⟨dS,d8,d7,dQ,ed,dR⟩:=e7 _ K2.all;simp at dS;simp at d8;simp at d7;simp at dQ;simp at ed;simp at dR;go_wp2_with fail;refine (cv _ _ h2 K2).mono ?_;rintro e w3 ⟨rfl,h3,k3⟩;have K3:=K2.trans k3;have iI:=K3.at;go_wp2_with fail;refine (zAU h3 rfl ⟨#[32,58,32]⟩ (by unfold okS;decide)).mono ?_;rintro e w4 ⟨rfl,h4,k4⟩;have K4:=K3.trans k4;have qA:=K4.at;have GI:=co qA 5;simp at GI;obtain ⟨vJ,uR,vF,vN,vj,tO⟩:=jb _ K4.all;simp at vJ;simp at uR;simp at vF;simp at vN;simp at vj;simp at tO;go_wp2_with fail;refine (bM _ _ h4 K4).mono ?_;rintro e w5 ⟨rfl,h5,k5⟩;have K5:=K4.trans k5;have pG:=K5.at;go_wp2_with fail;refine (zAU h5 rfl ⟨#[93]⟩ (by unfold okS;decide)).mono ?_;rintro e w6 ⟨rfl,h6,k6⟩;have K6:=K5.trans k6;have CT:=K6.at;go_wp2;go_end0;refine ⟨rfl,?_,K6.all⟩;rw [HP.out];simp only [Tx.puts_append,Tx.puts_nil];exact h6.fst
end Go.Proofs.YtkfgbhlpjkkgfaaGreatDoor
