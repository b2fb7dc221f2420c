import Derived.Test.YtkfgbhlpjkkgfaaGreatDoorN16
set_option linter.unusedVariables false
set_option linter.unusedSimpArgs false
set_option maxHeartbeats 64000000
set_option maxRecDepth 100000
namespace Go.Proofs.YtkfgbhlpjkkgfaaGreatDoor
open Go.RowKit Go.IntWalk
theorem rowNames_any {ok:Nat→Prop} {w:World} {b:Nat} {t:ByteArray} {v:Value} {l:List ByteArray} (hw:Wr ok w b t) (hg:Gl ok w) (hl:HNames ok w v l) (hs:∀ x ∈ l,okS x) :
  Calls Tryz.prog 192 #[.pointer (some ⟨b,0,none⟩),v,.func (.func 157) #[.pointer (some ⟨b,0,none⟩)] #[]] w (WPost ok w b t (Tx.commas Tx.wordP l)):=by
 obtain ⟨ao,cap,rfl,hc1,hc2,_⟩:=hl.at;unfold maxLen at hc2;have HL:=hide hl;have HS:=hide hs;have HG:=hide hg;clear hl hs hg;obtain ⟨n,hn⟩:=nmQ (l.length);rw [←hn] at hc1 HL ⊢;have HN:=hide hn;clear hn;go_enter Tryz.func192,Tryz.ntmps192;go_wp2_with fail;go_loopg [10] n (fun k v wr=>∃ i,i≤n∧k=n-i∧v=.int .i64 (i:Nat)∧Hid (Wr ok wr b (Tx.puts t (Tx.rowP (Tx.comma Tx.wordP) 0 (l.take i))))∧Keep ok w wr)
 case atStart=>exact ⟨0,Nat.zero_le _,rfl,rfl,hide (by simpa [Tx.puts,Tx.rowP] using hw),Keep.refl _ _⟩
 case round=>
  obtain ⟨i,hi,rfl,rfl,H,kr⟩:=hrel;by_cases hlt:i<n
  case neg=>
   have hin:i=n:=(by omega);subst hin;go_wp2;go_end0;refine ⟨rfl,?_,kr⟩;have:=H.out
   rwa [List.take_of_length_le (by have:=HN.out;omega)] at this
  case pos=>
   have hil:i<l.length:=(by have:=HN.out;omega);have HX:=hide (Tx.puts_take (Tx.comma Tx.wordP) t l i hil);have hsi:=HS.out l[i] (List.getElem_mem hil);obtain ⟨ao',cap',e1,_,_,hat⟩:=(HL.out.keep kr.size kr.block).at;injection e1 with e2 e3 e4;subst e2 e4;obtain ⟨bl,o,e5,hbl,c0⟩:=hat i hil;subst e5;clear hat e3;have hwr:=H.out;have hgr:=HG.out.keep kr;generalize l[i]=x at HX hsi c0;generalize Tx.puts t (Tx.rowP (Tx.comma Tx.wordP) 0 (l.take i))=ti at HX hwr H;clear H;by_cases hi0:i=0
   ·have hi0I:¬(0:Int)<(i:Int):=by omega
    have HI0:=hide hi0;clear hi0;go_wp2_with fail;refine (wordW_any hwr x hsi).mono ?_;rintro e w3 ⟨rfl,h3,k3⟩;go_wp2_with fail;go_roundg (n-(i+1))
    case measure=>omega
    case rel=>exact ⟨i+1,by omega,rfl,by go_num,hide (by rw [HX.out,Tx.comma,if_pos HI0.out];exact h3),kr.trans k3⟩
   ·have hi0I:(0:Int)<(i:Int):=by omega
    go_wp2_with fail;refine (put1 hwr rfl ⟨#[44,32]⟩ (by unfold okS;decide)).mono ?_;rintro e w2 ⟨rfl,h2,k2⟩;go_wp2_with fail;refine (wordW_any h2 x hsi).mono ?_;rintro e w3 ⟨rfl,h3,k3⟩;go_wp2_with fail;go_roundg (n-(i+1))
    case measure=>omega
    case rel=>exact ⟨i+1,by omega,rfl,by go_num,hide (by rw [HX.out,Tx.comma,if_neg hi0,Tx.puts_append];exact h3),kr.trans (k2.trans k3)⟩
def okZ (s:List Tm):Prop:=∀ x ∈ s,okT x
def okD (d:De):Prop:=okS d.name∧okZ d.n
theorem rowSizes_any {ok:Nat→Prop} {w:World} {b:Nat} {t:ByteArray} {v:Value} {l:List (List Tm)} (hw:Wr ok w b t) (hg:Gl ok w) (hl:HSizes ok w v l) (hs:∀ x ∈ l,okZ x) :
  Calls Tryz.prog 251 #[.pointer (some ⟨b,0,none⟩),v,.func (.func 193) #[.pointer (some ⟨b,0,none⟩)] #[]] w (WPost ok w b t (Tx.commas Tx.sizeP l)):=by
 obtain ⟨ao,cap,rfl,hc1,hc2,_⟩:=hl.at;unfold maxLen at hc2;have HL:=hide hl;have HS:=hide hs;have HG:=hide hg;clear hl hs hg;obtain ⟨n,hn⟩:=nmQ (l.length);rw [←hn] at hc1 HL ⊢;have HN:=hide hn;clear hn;go_enter Tryz.func251,Tryz.ntmps251;go_wp2_with fail;go_loopg [10] n (fun k v wr=>∃ i,i≤n∧k=n-i∧v=.int .i64 (i:Nat)∧Hid (Wr ok wr b (Tx.puts t (Tx.rowP (Tx.comma Tx.sizeP) 0 (l.take i))))∧Keep ok w wr)
 case atStart=>exact ⟨0,Nat.zero_le _,rfl,rfl,hide (by simpa [Tx.puts,Tx.rowP] using hw),Keep.refl _ _⟩
 case round=>
  obtain ⟨i,hi,rfl,rfl,H,kr⟩:=hrel;by_cases hlt:i<n
  case neg=>
   have hin:i=n:=(by omega);subst hin;go_wp2;go_end0;refine ⟨rfl,?_,kr⟩;have:=H.out
   rwa [List.take_of_length_le (by have:=HN.out;omega)] at this
  case pos=>
   have hil:i<l.length:=(by have:=HN.out;omega);have HX:=hide (Tx.puts_take (Tx.comma Tx.sizeP) t l i hil);have hsi:=HS.out l[i] (List.getElem_mem hil);obtain ⟨ao',cap',e1,_,_,hat⟩:=(HL.out.keep kr.size kr.block).at;injection e1 with e2 e3 e4;subst e2 e4;obtain ⟨bl,o,au,nu,cu,e5,hbl,c0,ht⟩:=hat i hil;subst e5;clear hat e3;have hwr:=H.out;have hgr:=HG.out.keep kr;generalize l[i]=x at HX hsi ht;generalize Tx.puts t (Tx.rowP (Tx.comma Tx.sizeP) 0 (l.take i))=ti at HX hwr H;clear H;by_cases hi0:i=0
   ·have hi0I:¬(0:Int)<(i:Int):=by omega
    have HI0:=hide hi0;clear hi0;go_wp2_with fail;refine (sizeW_any hwr hgr (ht.keep (Keep.refl ok wr).size (Keep.refl ok wr).block) hsi).mono ?_;rintro e w3 ⟨rfl,h3,k3⟩;go_wp2_with fail;go_roundg (n-(i+1))
    case measure=>omega
    case rel=>exact ⟨i+1,by omega,rfl,by go_num,hide (by rw [HX.out,Tx.comma,if_pos HI0.out];exact h3),kr.trans k3⟩
   ·have hi0I:(0:Int)<(i:Int):=by omega
    go_wp2_with fail;refine (put1 hwr rfl ⟨#[44,32]⟩ (by unfold okS;decide)).mono ?_;rintro e w2 ⟨rfl,h2,k2⟩;go_wp2_with fail;refine (sizeW_any h2 (hgr.keep k2) (ht.keep k2.size k2.block) hsi).mono ?_;rintro e w3 ⟨rfl,h3,k3⟩;go_wp2_with fail;go_roundg (n-(i+1))
    case measure=>omega
    case rel=>exact ⟨i+1,by omega,rfl,by go_num,hide (by rw [HX.out,Tx.comma,if_neg hi0,Tx.puts_append];exact h3),kr.trans (k2.trans k3)⟩
theorem angNames_any {ok:Nat→Prop} {w:World} {b:Nat} {t:ByteArray} {v:Value} {l:List ByteArray} (hw:Wr ok w b t) (hg:Gl ok w) (hl:HNames ok w v l) (hs:∀ x ∈ l,okS x) :
  Calls Tryz.prog 156 #[.pointer (some ⟨b,0,none⟩),v,.func (.func 157) #[.pointer (some ⟨b,0,none⟩)] #[]] w (WPost ok w b t (Tx.angP Tx.wordP l)):=by
 obtain ⟨ao,cap,rfl,hc1,hc2,_⟩:=hl.at;unfold maxLen at hc2;obtain ⟨P,hP⟩:=nmQ (Tx.angP Tx.wordP l);rw [←hP];unfold Tx.angP at hP;have HP:=hide hP;clear hP;by_cases h0:l.length=0
 ·rw [h0]
  go_enter Tryz.func156,Tryz.ntmps156;go_wp2;refine bodyPost_ret (results_none rfl _ _ _) rfl ?_;exact ⟨rfl,by rw [HP.out,if_pos h0];exact hw,Keep.refl _ _⟩
 ·have HP2:=hide (HP.out.trans (if_neg h0))
  clear HP;have hrow:=fun (W:World) (T:ByteArray) (h1:Wr ok W b T) (h2:Keep ok w W)=>rowNames_any h1 (hg.keep h2) (hl.keep h2.size h2.block) hs;obtain ⟨n,hn⟩:=nmQ (l.length);rw [←hn] at h0 hc1 hrow ⊢;clear hn;have h0I:((n:Int)==0)=false:=(by simp;omega);go_enter Tryz.func156,Tryz.ntmps156;go_wp2_with fail;refine (put1 hw rfl ⟨#[60]⟩ (by unfold okS;decide)).mono ?_;rintro e w2 ⟨rfl,h2,k2⟩;go_wp2_with fail;refine (hrow _ _ h2 k2).mono ?_;rintro e w3 ⟨rfl,h3,k3⟩;go_wp2_with fail;refine (put1 h3 rfl ⟨#[62]⟩ (by unfold okS;decide)).mono ?_;rintro e w4 ⟨rfl,h4,k4⟩;go_wp2;go_end0;refine ⟨rfl,?_,k2.trans (k3.trans k4)⟩;rw [HP2.out,Tx.puts_append,Tx.puts_append];exact h4
theorem angSizes_any {ok:Nat→Prop} {w:World} {b:Nat} {t:ByteArray} {v:Value} {l:List (List Tm)} (hw:Wr ok w b t) (hg:Gl ok w) (hl:HSizes ok w v l) (hs:∀ x ∈ l,okZ x) :
  Calls Tryz.prog 229 #[.pointer (some ⟨b,0,none⟩),v,.func (.func 193) #[.pointer (some ⟨b,0,none⟩)] #[]] w (WPost ok w b t (Tx.angP Tx.sizeP l)):=by
 obtain ⟨ao,cap,rfl,hc1,hc2,_⟩:=hl.at;unfold maxLen at hc2;obtain ⟨P,hP⟩:=nmQ (Tx.angP Tx.sizeP l);rw [←hP];unfold Tx.angP at hP;have HP:=hide hP;clear hP;by_cases h0:l.length=0
 ·rw [h0]
  go_enter Tryz.func229,Tryz.ntmps229;go_wp2;refine bodyPost_ret (results_none rfl _ _ _) rfl ?_;exact ⟨rfl,by rw [HP.out,if_pos h0];exact hw,Keep.refl _ _⟩
 ·have HP2:=hide (HP.out.trans (if_neg h0))
  clear HP;have hrow:=fun (W:World) (T:ByteArray) (h1:Wr ok W b T) (h2:Keep ok w W)=>rowSizes_any h1 (hg.keep h2) (hl.keep h2.size h2.block) hs;obtain ⟨n,hn⟩:=nmQ (l.length);rw [←hn] at h0 hc1 hrow ⊢;clear hn;have h0I:((n:Int)==0)=false:=(by simp;omega);go_enter Tryz.func229,Tryz.ntmps229;go_wp2_with fail;refine (put1 hw rfl ⟨#[60]⟩ (by unfold okS;decide)).mono ?_;rintro e w2 ⟨rfl,h2,k2⟩;go_wp2_with fail;refine (hrow _ _ h2 k2).mono ?_;rintro e w3 ⟨rfl,h3,k3⟩;go_wp2_with fail;refine (put1 h3 rfl ⟨#[62]⟩ (by unfold okS;decide)).mono ?_;rintro e w4 ⟨rfl,h4,k4⟩;go_wp2;go_end0;refine ⟨rfl,?_,k2.trans (k3.trans k4)⟩;rw [HP2.out,Tx.puts_append,Tx.puts_append];exact h4
theorem declW_any {ok:Nat→Prop} {w:World} {b:Nat} {t:ByteArray} {nm:ByteArray} {ex:Int} {sz:List Tm} {au:Option Addr} {nu cu:Nat} (hw:Wr ok w b t) (hg:Gl ok w) (ht:HTerms ok w (.slice au nu cu) sz) (hs:okD ⟨nm,ex,sz⟩) :
  Calls Tryz.prog 159 #[.pointer (some ⟨b,0,none⟩),.agg #[.string nm,.int .u8 ex,.slice au nu cu]] w (WPost ok w b t (Tx.declP ⟨nm,ex,sz⟩)):=by
 obtain ⟨hs1,hs2⟩:=hs
 dsimp only at hs1 hs2
 obtain ⟨a6,c6,hv6,hq1,hq2,_⟩:=ht.at;injection hv6 with e0 e1 e2;subst e0 e2;unfold maxLen at hq2;obtain ⟨P,hP⟩:=nmQ (Tx.declP ⟨nm,ex,sz⟩);rw [←hP];unfold Tx.declP at hP
 dsimp only at hP
 rw [←e1] at hP;have HP:=hide hP;clear hP;have hw0:=hw.more (.cells #[.string nm,.int .u8 ex,.slice au nu cu] 50 (0,0));have hg0:=(hg.keep (Keep.alloc ok w (.cells #[.string nm,.int .u8 ex,.slice au nu cu] 50 (0,0)))).more w.heap.size;have K0:=Keep.refl (okL ok w.heap.size) (w.alloc (.cells #[.string nm,.int .u8 ex,.slice au nu cu] 50 (0,0)));have hsz:=fun (W:World) (T:ByteArray) (h1:Wr (okL ok w.heap.size) W b T) (k:Keep (okL ok w.heap.size) (w.alloc (.cells #[.string nm,.int .u8 ex,.slice au nu cu] 50 (0,0))) W)=>sizeW_any h1 (hg0.keep k) (ht.step k.all) hs2;rw [←e1] at hq1;clear ht e1;have hend:∀ (W:World) (T:ByteArray) (k:Keep (okL ok w.heap.size) (w.alloc (.cells #[.string nm,.int .u8 ex,.slice au nu cu] 50 (0,0))) W) (h:Wr (okL ok w.heap.size) W b T),Wr ok W b T∧Keep ok w W:=fun W T k h=>⟨h.fst,k.all⟩;by_cases h105:ex=105
 ·skip
  have HP2:Hid (P=[nm,⟨#[58,32]⟩]++([⟨#[105,110,116]⟩]++(if nu=0 then [] else [⟨#[94]⟩]++Tx.sizeP sz))):=hide (by rw [HP.out,if_pos h105]);clear HP;subst h105;by_cases h0:nu=0
  ·have HP3:Hid (P=[nm,⟨#[58,32]⟩]++([⟨#[105,110,116]⟩]++[])):=hide (by rw [HP2.out,if_pos h0])
   clear HP2;subst h0;go_enter Tryz.func159,Tryz.ntmps159;go_wp2_with fail;refine (put2 hw0 (by simp) nm ⟨#[58,32]⟩ hs1 (by unfold okS;decide)).mono ?_;rintro e w2 ⟨rfl,h2,k2⟩;have kL2:=k2.at;have p1:=co kL2 1;simp at p1;go_wp2_with fail;refine (put1 h2 rfl ⟨#[105,110,116]⟩ (by unfold okS;decide)).mono ?_;rintro e w3 ⟨rfl,h3,k3⟩;have K3:=k2.trans k3;have kL3:=K3.at;have q2:=co kL3 2;simp at q2;go_wp2;go_end0;refine ⟨rfl,?_,(hend _ _ K3 h3).2⟩;rw [HP3.out];simp only [Tx.puts_append,Tx.puts_nil];exact (hend _ _ K3 h3).1
  ·have HP3:Hid (P=[nm,⟨#[58,32]⟩]++([⟨#[105,110,116]⟩]++([⟨#[94]⟩]++Tx.sizeP sz))):=hide (by rw [HP2.out,if_neg h0])
   clear HP2;have h0I:(0:Int)<(nu:Int):=(by omega);go_enter Tryz.func159,Tryz.ntmps159;go_wp2_with fail;refine (put2 hw0 (by simp) nm ⟨#[58,32]⟩ hs1 (by unfold okS;decide)).mono ?_;rintro e w2 ⟨rfl,h2,k2⟩;have kL2:=k2.at;have p1:=co kL2 1;simp at p1;go_wp2_with fail;refine (put1 h2 rfl ⟨#[105,110,116]⟩ (by unfold okS;decide)).mono ?_;rintro e w3 ⟨rfl,h3,k3⟩;have K3:=k2.trans k3;have kL3:=K3.at;have q2:=co kL3 2;simp at q2;go_wp2_with fail;refine (put1 h3 rfl ⟨#[94]⟩ (by unfold okS;decide)).mono ?_;rintro e w4 ⟨rfl,h4,k4⟩;have K4:=K3.trans k4;have kL4:=K4.at;have r2:=co kL4 2;simp at r2;go_wp2_with fail;refine (hsz _ _ h4 K4).mono ?_;rintro e w5 ⟨rfl,h5,k5⟩;have K5:=K4.trans k5;go_wp2;go_end0;refine ⟨rfl,?_,(hend _ _ K5 h5).2⟩;rw [HP3.out];simp only [Tx.puts_append];exact (hend _ _ K5 h5).1
 ·skip
  have HP2:Hid (P=[nm,⟨#[58,32]⟩]++([⟨#[98,111,111,108]⟩]++(if nu=0 then [] else [⟨#[94]⟩]++Tx.sizeP sz))):=hide (by rw [HP.out,if_neg h105]);clear HP;have h1b:(ex==105)=false:=(by simp [h105]);by_cases h0:nu=0
  ·have HP3:Hid (P=[nm,⟨#[58,32]⟩]++([⟨#[98,111,111,108]⟩]++[])):=hide (by rw [HP2.out,if_pos h0])
   clear HP2;subst h0;go_enter Tryz.func159,Tryz.ntmps159;go_wp2_with fail;refine (put2 hw0 (by simp) nm ⟨#[58,32]⟩ hs1 (by unfold okS;decide)).mono ?_;rintro e w2 ⟨rfl,h2,k2⟩;have kL2:=k2.at;have p1:=co kL2 1;simp at p1;go_wp2_with fail;refine (put1 h2 rfl ⟨#[98,111,111,108]⟩ (by unfold okS;decide)).mono ?_;rintro e w3 ⟨rfl,h3,k3⟩;have K3:=k2.trans k3;have kL3:=K3.at;have q2:=co kL3 2;simp at q2;go_wp2;go_end0;refine ⟨rfl,?_,(hend _ _ K3 h3).2⟩;rw [HP3.out];simp only [Tx.puts_append,Tx.puts_nil];exact (hend _ _ K3 h3).1
  ·have HP3:Hid (P=[nm,⟨#[58,32]⟩]++([⟨#[98,111,111,108]⟩]++([⟨#[94]⟩]++Tx.sizeP sz))):=hide (by rw [HP2.out,if_neg h0])
   clear HP2;have h0I:(0:Int)<(nu:Int):=(by omega);go_enter Tryz.func159,Tryz.ntmps159;go_wp2_with fail;refine (put2 hw0 (by simp) nm ⟨#[58,32]⟩ hs1 (by unfold okS;decide)).mono ?_;rintro e w2 ⟨rfl,h2,k2⟩;have kL2:=k2.at;have p1:=co kL2 1;simp at p1;go_wp2_with fail;refine (put1 h2 rfl ⟨#[98,111,111,108]⟩ (by unfold okS;decide)).mono ?_;rintro e w3 ⟨rfl,h3,k3⟩;have K3:=k2.trans k3;have kL3:=K3.at;have q2:=co kL3 2;simp at q2;go_wp2_with fail;refine (put1 h3 rfl ⟨#[94]⟩ (by unfold okS;decide)).mono ?_;rintro e w4 ⟨rfl,h4,k4⟩;have K4:=K3.trans k4;have kL4:=K4.at;have r2:=co kL4 2;simp at r2;go_wp2_with fail;refine (hsz _ _ h4 K4).mono ?_;rintro e w5 ⟨rfl,h5,k5⟩;have K5:=K4.trans k5;go_wp2;go_end0;refine ⟨rfl,?_,(hend _ _ K5 h5).2⟩;rw [HP3.out];simp only [Tx.puts_append];exact (hend _ _ K5 h5).1
theorem rowDecls_any {ok:Nat→Prop} {w:World} {b:Nat} {t:ByteArray} {v:Value} {l:List De} (hw:Wr ok w b t) (hg:Gl ok w) (hl:HDes ok w v l) (hs:∀ x ∈ l,okD x) :
  Calls Tryz.prog 158 #[.pointer (some ⟨b,0,none⟩),v,.func (.func 159) #[.pointer (some ⟨b,0,none⟩)] #[]] w (WPost ok w b t (Tx.commas Tx.declP l)):=by
 obtain ⟨ao,cap,rfl,hc1,hc2,_⟩:=hl.at;unfold maxLen at hc2;have HL:=hide hl;have HS:=hide hs;have HG:=hide hg;clear hl hs hg;obtain ⟨n,hn⟩:=nmQ (l.length);rw [←hn] at hc1 HL ⊢;have HN:=hide hn;clear hn;go_enter Tryz.func158,Tryz.ntmps158;go_wp2_with fail;go_loopg [10] n (fun k v wr=>∃ i,i≤n∧k=n-i∧v=.int .i64 (i:Nat)∧Hid (Wr ok wr b (Tx.puts t (Tx.rowP (Tx.comma Tx.declP) 0 (l.take i))))∧Keep ok w wr)
 case atStart=>exact ⟨0,Nat.zero_le _,rfl,rfl,hide (by simpa [Tx.puts,Tx.rowP] using hw),Keep.refl _ _⟩
 case round=>
  obtain ⟨i,hi,rfl,rfl,H,kr⟩:=hrel;by_cases hlt:i<n
  case neg=>
   have hin:i=n:=(by omega);subst hin;go_wp2;go_end0;refine ⟨rfl,?_,kr⟩;have:=H.out
   rwa [List.take_of_length_le (by have:=HN.out;omega)] at this
  case pos=>
   have hil:i<l.length:=(by have:=HN.out;omega);have HX:=hide (Tx.puts_take (Tx.comma Tx.declP) t l i hil);have hsi:=HS.out l[i] (List.getElem_mem hil);obtain ⟨ao',cap',e1,_,_,hat⟩:=(HL.out.keep kr.size kr.block).at;injection e1 with e2 e3 e4;subst e2 e4;obtain ⟨bl,o,au,nu,cu,e5,hbl,c0,c1,c2,ht⟩:=hat i hil;subst e5;clear hat e3;have hwr:=H.out;have hgr:=HG.out.keep kr;generalize l[i]=x at HX hsi ht c0 c1;obtain ⟨nm,ex,sz⟩:=x
   dsimp only at c0 c1 ht
   generalize Tx.puts t (Tx.rowP (Tx.comma Tx.declP) 0 (l.take i))=ti at HX hwr H;clear H;have hw0:=hwr.more (.cells #[.string nm,.int .u8 ex,.slice au nu cu] 50 (0,0));have hg0:=(hgr.keep (Keep.alloc ok wr (.cells #[.string nm,.int .u8 ex,.slice au nu cu] 50 (0,0)))).more wr.heap.size;have kr0:=Keep.alloc ok wr (.cells #[.string nm,.int .u8 ex,.slice au nu cu] 50 (0,0));have K0:=Keep.refl (okL ok wr.heap.size) (wr.alloc (.cells #[.string nm,.int .u8 ex,.slice au nu cu] 50 (0,0)));by_cases hi0:i=0
   ·have hi0I:¬(0:Int)<(i:Int):=by omega
    have HI0:=hide hi0;clear hi0;go_wp2_with fail;refine (declW_any hw0 hg0 (ht.step kr0) hsi).mono ?_;rintro e w3 ⟨rfl,h3,k3⟩;go_wp2_with fail;go_roundg (n-(i+1))
    case measure=>omega
    case rel=>exact ⟨i+1,by omega,rfl,by go_num,hide (by rw [HX.out,Tx.comma,if_pos HI0.out];exact h3.fst),kr.trans k3.all⟩
   ·have hi0I:(0:Int)<(i:Int):=by omega
    go_wp2_with fail;refine (put1 hw0 (by simp) ⟨#[44,32]⟩ (by unfold okS;decide)).mono ?_;rintro e w2 ⟨rfl,h2,k2⟩;have kL2:=k2.at;have K2:=k2.all;have p0:=co kL2 0;simp at p0;have p1:=co kL2 1;simp at p1;have p2:=co kL2 2;simp at p2;go_wp2_with fail;refine (declW_any h2 (hg0.keep k2) (ht.step K2) hsi).mono ?_;rintro e w3 ⟨rfl,h3,k3⟩;go_wp2_with fail;go_roundg (n-(i+1))
    case measure=>omega
    case rel=>exact ⟨i+1,by omega,rfl,by go_num,hide (by rw [HX.out,Tx.comma,if_neg hi0,Tx.puts_append];exact h3.fst),kr.trans (k2.trans k3).all⟩
end Go.Proofs.YtkfgbhlpjkkgfaaGreatDoor
