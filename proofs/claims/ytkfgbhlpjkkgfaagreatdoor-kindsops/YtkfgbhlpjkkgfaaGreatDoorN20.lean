import Derived.Test.YtkfgbhlpjkkgfaaGreatDoorN19
import Derived.Deep.CutBlock
set_option linter.unusedVariables false
set_option linter.unusedSimpArgs false
set_option maxHeartbeats 64000000
set_option maxRecDepth 100000
namespace Go.Proofs.YtkfgbhlpjkkgfaaGreatDoor
open Go.RowKit Go.IntWalk
theorem formW_any {ok:Nat→Prop} {w:World} {b:Nat} {t:ByteArray} {n:Int} {p q:Nat} {name:ByteArray} {aS aL:Option Addr} {nS cS nL cL:Nat} {S:List (List Tm)} {L:List Ex} (hw:Wr ok w b t) (hg:Gl ok w)  (hSx:HSizes ok w (.slice aS nS cS) S) (hLx:HExs ok w (.slice aL nL cL) L) (hD:∀ x ∈ L,PartDoes x) (hZ:∀ s ∈ S,okZ s) (hp:p<16) (hq:q<15) :
  Calls Tryz.prog 261 #[.pointer (some ⟨b,0,none⟩),.agg #[.int .i64 (p:Int),.int .i64 (q:Int),.int .i64 n,.string name,.slice aS nS cS,.slice aL nL cL]] w (WPost ok w b t (Tx.formP p q S (Tx.bares L))):=by
 obtain ⟨P,hP⟩:=nmQ (Tx.formP p q S (Tx.bares L));rw [←hP];unfold Tx.formP at hP;rw [Int.toNat_natCast,Int.toNat_natCast,Tx.commas_bares] at hP;obtain ⟨c0,_,_⟩:=hg.o.2 q hq;obtain ⟨g0,_,_,_,_,_⟩:=hg.s.2 p hp;have hok0:=(opT_ok q hq).1;have hok1:=shp_ok p hp;have h02:=hg.o.1;have h00:=hg.s.1;have hk2:=hg.k2;generalize (Tx.opT q).1=wd at hP c0 hok0;generalize (Rn.shp p).1=sw at hP g0 hok1;have HP0:=hide hP;clear hP;have hw0:=hw.more (.cells #[.int .i64 (p:Int),.int .i64 (q:Int),.int .i64 n,.string name,.slice aS nS cS,.slice aL nL cL] 54 (0,0));have hg0:=(hg.keep (Keep.alloc ok w (.cells #[.int .i64 (p:Int),.int .i64 (q:Int),.int .i64 n,.string name,.slice aS nS cS,.slice aL nL cL] 54 (0,0)))).more w.heap.size;have K0:=Keep.refl (okL ok w.heap.size) (w.alloc (.cells #[.int .i64 (p:Int),.int .i64 (q:Int),.int .i64 n,.string name,.slice aS nS cS,.slice aL nL cL] 54 (0,0)));have g1:=(cell_keep (p:=⟨3,p*6,none⟩) (Below.heap_alloc w (.cells #[.int .i64 (p:Int),.int .i64 (q:Int),.int .i64 n,.string name,.slice aS nS cS,.slice aL nL cL] 54 (0,0)) 3 h00)).trans g0;have hrow:=fun (W:World) (T:ByteArray) (h1:Wr (okL ok w.heap.size) W b T) (k1:Keep (okL ok w.heap.size) (w.alloc (.cells #[.int .i64 (p:Int),.int .i64 (q:Int),.int .i64 n,.string name,.slice aS nS cS,.slice aL nL cL] 54 (0,0))) W)=>rowExprs_any h1 (hg0.keep k1) (hLx.step k1.all) hD;have hszs:=fun (W:World) (k1:Keep (okL ok w.heap.size) (w.alloc (.cells #[.int .i64 (p:Int),.int .i64 (q:Int),.int .i64 n,.string name,.slice aS nS cS,.slice aL nL cL] 54 (0,0))) W)=>(hSx.step (L:=w.heap.size) k1.all).at;have hsz:=fun (W:World) (T:ByteArray) (h1:Wr (okL ok w.heap.size) W b T) (k1:Keep (okL ok w.heap.size) (w.alloc (.cells #[.int .i64 (p:Int),.int .i64 (q:Int),.int .i64 n,.string name,.slice aS nS cS,.slice aL nL cL] 54 (0,0))) W) (v:Value) (s:List Tm) (hv:HTerms (okL ok w.heap.size) W v s) (hs:okZ s)=>sizeW_any h1 (hg0.keep k1) hv hs;obtain ⟨aS',cS',hvS,hcS1,hcS2,_⟩:=hSx.at;injection hvS with ev1 ev2 ev3;subst ev1 ev3;have HN:=hide ev2;rw [←ev2] at hcS1;clear ev2;unfold maxLen at hcS2;have HSZS:=hide hszs;have HZ:=hide hZ;clear hszs hZ hD hSx
 -- what comes behind the operator
 have hrest:Hid (∀ (W:World) (T:ByteArray) (h1:Wr (okL ok w.heap.size) W b T) (k1:Keep (okL ok w.heap.size) (w.alloc (.cells #[.int .i64 (p:Int),.int .i64 (q:Int),.int .i64 n,.string name,.slice aS nS cS,.slice aL nL cL] 54 (0,0))) W),True):=hide (fun _ _ _ _=>True.intro);clear hrest;have HC:Hid (∀ W,Keep (okL ok w.heap.size) (w.alloc (.cells #[.int .i64 (p:Int),.int .i64 (q:Int),.int .i64 n,.string name,.slice aS nS cS,.slice aL nL cL] 54 (0,0))) W→W.cell? ⟨4,q*3,none⟩=some (.string wd)):=hide (fun W k1=>(cell_keep (p:=⟨4,q*3,none⟩) (k1.all.block 4 hk2 h02)).trans c0);by_cases hq0:q=0
 ·have HP:Hid (P=[sw,⟨#[40]⟩]++([]++(Tx.commas Tx.exprP L++(Tx.sizesP S++[⟨#[41]⟩])))):=hide (by rw [HP0.out,if_pos (by omega)])
  clear HP0 HC;have hq0I:((q:Int) != 0)=false:=(by simp [hq0]);have HQ:=hide hq0;clear hq0;go_enter Tryz.func261,Tryz.ntmps261;go_wp2_with fail;refine (put2 hw0 (by simp) sw ⟨#[40]⟩ hok1 (by unfold okS;decide)).mono ?_;rintro e w1 ⟨rfl,h1,k1⟩;have K1:=k1;have kL1:=K1.at;have q1_1:=co kL1 1;simp at q1_1;have q1_5:=co kL1 5;simp at q1_5;go_wp2_with fail;refine (hrow _ _ h1 K1).mono ?_;rintro e w5 ⟨rfl,h5,k5⟩;have K5:=K1.trans k5;obtain ⟨t5,ht5⟩:=nmQ (Tx.puts (Tx.puts t [sw,⟨#[40]⟩]) (Tx.commas Tx.exprP L));rw [←ht5] at h5;have HT5:=hide ht5;clear ht5;have kL5:=K5.at;have q5_4:=co kL5 4;simp at q5_4;go_upto_block 0 with fail;go_wp2_with fail;go_loopg [34] nS (fun gk v wr=>∃ i,i≤nS∧gk=nS-i∧v=.int .i64 (i:Nat)∧Hid (Wr (okL ok w.heap.size) wr b (Tx.puts t5 (Tx.rowP (fun _ s=>[⟨#[44,32]⟩]++Tx.sizeP s) 0 (S.take i))))∧Keep (okL ok w.heap.size) (w.alloc (.cells #[.int .i64 (p:Int),.int .i64 (q:Int),.int .i64 n,.string name,.slice aS nS cS,.slice aL nL cL] 54 (0,0))) wr)
  case atStart=>exact ⟨0,Nat.zero_le _,rfl,rfl,hide (by simpa [Tx.puts,Tx.rowP] using h5),K5⟩
  case round=>
   obtain ⟨i,hi,rfl,rfl,H,kr⟩:=hrel;by_cases hlt:i<nS
   case neg=>
    have hin:i=nS:=(by omega);subst hin;have hwr:=H.out;rw [List.take_of_length_le (by have:=HN.out;omega)] at hwr;clear H;go_wp2_with fail;refine (put1 hwr rfl ⟨#[41]⟩ (by unfold okS;decide)).mono ?_;rintro e w7 ⟨rfl,h7,k7⟩;go_wp2;go_end0;refine ⟨rfl,?_,(kr.trans k7).all⟩;rw [HP.out];simp only [Tx.puts_append,Tx.puts_nil];rw [HT5.out] at h7;exact h7.fst
   case pos=>
    have hil:i<S.length:=(by have:=HN.out;omega);have HX:=hide (Tx.puts_take (fun _ s=>[⟨#[44,32]⟩]++Tx.sizeP s) t5 S i hil);have hsi:=HZ.out S[i] (List.getElem_mem hil);obtain ⟨ao',cap',e1,_,_,hat⟩:=HSZS.out wr kr;injection e1 with e2 e3 e4;subst e2 e4;obtain ⟨bl,o,au,nu,cu,e5,hbl,d0,hte⟩:=hat i hil;subst e5;clear hat e3;have hwr:=H.out;generalize S[i]=x at HX hsi hte;generalize Tx.puts t5 (Tx.rowP (fun _ s=>[⟨#[44,32]⟩]++Tx.sizeP s) 0 (S.take i))=ti at HX hwr H;clear H;go_wp2_with fail;refine (put1 hwr rfl ⟨#[44,32]⟩ (by unfold okS;decide)).mono ?_;rintro e w7 ⟨rfl,h7,k7⟩;go_wp2_with fail;refine (hsz _ _ h7 (kr.trans k7) _ x (hte.keep k7.size k7.block) hsi).mono ?_;rintro e w8 ⟨rfl,h8,k8⟩;go_wp2_with fail;go_roundg (nS-(i+1))
    case measure=>omega
    case rel=>exact ⟨i+1,by omega,rfl,by go_num,hide (by rw [HX.out,Tx.puts_append];exact h8),kr.trans (k7.trans k8)⟩
 ·have HP:Hid (P=[sw,⟨#[40]⟩]++([wd,⟨#[44,32]⟩]++(Tx.commas Tx.exprP L++(Tx.sizesP S++[⟨#[41]⟩])))):=hide (by rw [HP0.out,if_neg (by omega)])
  clear HP0;have hq0I:((q:Int) != 0)=true:=(by simp [hq0]);go_enter Tryz.func261,Tryz.ntmps261;go_wp2_with fail;refine (put2 hw0 (by simp) sw ⟨#[40]⟩ hok1 (by unfold okS;decide)).mono ?_;rintro e w1 ⟨rfl,h1,k1⟩;have K1:=k1;have kL1:=K1.at;have q1_1:=co kL1 1;simp at q1_1;have hcw:=HC.out _ K1;go_wp2_with fail;refine (put2 h1 rfl wd ⟨#[44,32]⟩ hok0 (by unfold okS;decide)).mono ?_;rintro e w2 ⟨rfl,h2,k2⟩;have K2:=K1.trans k2;have kL2:=K2.at;have q2_5:=co kL2 5;simp at q2_5;go_wp2_with fail;refine (hrow _ _ h2 K2).mono ?_;rintro e w5 ⟨rfl,h5,k5⟩;have K5:=K2.trans k5;obtain ⟨t5,ht5⟩:=nmQ (Tx.puts (Tx.puts (Tx.puts t [sw,⟨#[40]⟩]) [wd,⟨#[44,32]⟩]) (Tx.commas Tx.exprP L));rw [←ht5] at h5;have HT5:=hide ht5;clear ht5;have kL5:=K5.at;have q5_4:=co kL5 4;simp at q5_4;go_upto_block 0 with fail;go_wp2_with fail;go_loopg [34] nS (fun gk v wr=>∃ i,i≤nS∧gk=nS-i∧v=.int .i64 (i:Nat)∧Hid (Wr (okL ok w.heap.size) wr b (Tx.puts t5 (Tx.rowP (fun _ s=>[⟨#[44,32]⟩]++Tx.sizeP s) 0 (S.take i))))∧Keep (okL ok w.heap.size) (w.alloc (.cells #[.int .i64 (p:Int),.int .i64 (q:Int),.int .i64 n,.string name,.slice aS nS cS,.slice aL nL cL] 54 (0,0))) wr)
  case atStart=>exact ⟨0,Nat.zero_le _,rfl,rfl,hide (by simpa [Tx.puts,Tx.rowP] using h5),K5⟩
  case round=>
   obtain ⟨i,hi,rfl,rfl,H,kr⟩:=hrel;by_cases hlt:i<nS
   case neg=>
    have hin:i=nS:=(by omega);subst hin;have hwr:=H.out;rw [List.take_of_length_le (by have:=HN.out;omega)] at hwr;clear H;go_wp2_with fail;refine (put1 hwr rfl ⟨#[41]⟩ (by unfold okS;decide)).mono ?_;rintro e w7 ⟨rfl,h7,k7⟩;go_wp2;go_end0;refine ⟨rfl,?_,(kr.trans k7).all⟩;rw [HP.out];simp only [Tx.puts_append,Tx.puts_nil];rw [HT5.out] at h7;exact h7.fst
   case pos=>
    have hil:i<S.length:=(by have:=HN.out;omega);have HX:=hide (Tx.puts_take (fun _ s=>[⟨#[44,32]⟩]++Tx.sizeP s) t5 S i hil);have hsi:=HZ.out S[i] (List.getElem_mem hil);obtain ⟨ao',cap',e1,_,_,hat⟩:=HSZS.out wr kr;injection e1 with e2 e3 e4;subst e2 e4;obtain ⟨bl,o,au,nu,cu,e5,hbl,d0,hte⟩:=hat i hil;subst e5;clear hat e3;have hwr:=H.out;generalize S[i]=x at HX hsi hte;generalize Tx.puts t5 (Tx.rowP (fun _ s=>[⟨#[44,32]⟩]++Tx.sizeP s) 0 (S.take i))=ti at HX hwr H;clear H;go_wp2_with fail;refine (put1 hwr rfl ⟨#[44,32]⟩ (by unfold okS;decide)).mono ?_;rintro e w7 ⟨rfl,h7,k7⟩;go_wp2_with fail;refine (hsz _ _ h7 (kr.trans k7) _ x (hte.keep k7.size k7.block) hsi).mono ?_;rintro e w8 ⟨rfl,h8,k8⟩;go_wp2_with fail;go_roundg (nS-(i+1))
    case measure=>omega
    case rel=>exact ⟨i+1,by omega,rfl,by go_num,hide (by rw [HX.out,Tx.puts_append];exact h8),kr.trans (k7.trans k8)⟩
end Go.Proofs.YtkfgbhlpjkkgfaaGreatDoor
namespace Go.Proofs.YtkfgbhlpjkkgfaaGreatDoor
open Go.RowKit Go.IntWalk
mutual
def okE:Ex→Prop
 | .mk op k n name S L=>Rn.formOk (.mk op k n name S L)=true∧(0≤n∧n<1000000000000000000)∧okS name∧(∀ s ∈ S,okZ s)∧okEs L
def okEs:List Ex→Prop
 | []=>True
 | x :: l=>okE x∧okEs l
end
theorem okEs_mem:∀ {l:List Ex},okEs l→∀ x ∈ l,okE x
 | [],_,x,hx=>by simp at hx
 | y :: l,h,x,hx=>by
  rw [okEs] at h;rcases List.mem_cons.1 hx with rfl | hm
  ·exact h.1
  ·exact okEs_mem h.2 x hm
theorem formOk_parts {op k n:Int} {name:ByteArray} {S:List (List Tm)} {L:List Ex} (h:Rn.formOk (.mk op k n name S L)=true) :
  (1≤op∧op≤15)∧(Rn.shp op.toNat).2.1≤(L.length:Int)∧(L.length:Int)≤(Rn.shp op.toNat).2.2.1∧(S.length:Int)=(Rn.shp op.toNat).2.2.2.1∧(Rn.shp op.toNat).2.2.2.2.1≤k∧k≤(Rn.shp op.toNat).2.2.2.2.2∧Rn.numOk op n=true:=by
 simp only [Rn.formOk,Bool.and_eq_true,decide_eq_true_eq,Ex.op,Ex.k,Ex.n,Ex.S,Ex.L] at h;obtain ⟨h0,⟨⟨⟨⟨⟨⟨h1,h2⟩,h3⟩,h4⟩,h5⟩,h6⟩,h7⟩⟩:=h;exact ⟨of_decide_eq_true h0,of_decide_eq_true h1,of_decide_eq_true h2,of_decide_eq_true h3,of_decide_eq_true h4,of_decide_eq_true h5,h6⟩
theorem opOk_of {op k n:Int} {name:ByteArray} {S:List (List Tm)} {L:List Ex} (h:Rn.formOk (.mk op k n name S L)=true):opOk op k:=by
 obtain ⟨h0,_,_,_,h4,h5,_⟩:=formOk_parts h;intro h45;rcases h45 with rfl | rfl
 ·have a:(Rn.shp (4:Int).toNat).2.2.2.2.1=13:=by decide
  have c:(Rn.shp (4:Int).toNat).2.2.2.2.2=14:=(by decide);omega
 ·have a:(Rn.shp (5:Int).toNat).2.2.2.2.1=1:=by decide
  have c:(Rn.shp (5:Int).toNat).2.2.2.2.2=12:=(by decide);omega
theorem formatBool_any (v:Bool) (w:World):Calls Tryz.prog 257 #[.bool v] w fun e w'=>e=.returned (.string (if v=true then ⟨#[116,114,117,101]⟩ else ⟨#[102,97,108,115,101]⟩))∧w'=w:=by
 have h166:Calls Tryz.prog 265 #[.bool v] w fun e w'=>e=.returned (.string (if v=true then ⟨#[116,114,117,101]⟩ else ⟨#[102,97,108,115,101]⟩))∧w'=w:=by
  cases v
  ·go_enter Tryz.func265,Tryz.ntmps265
   go_wp2;go_ret;exact ⟨rfl,rfl⟩
  ·go_enter Tryz.func265,Tryz.ntmps265
   go_wp2;go_ret;exact ⟨rfl,rfl⟩
 generalize (if v=true then (⟨#[116,114,117,101]⟩:ByteArray) else ⟨#[102,97,108,115,101]⟩)=sv at h166 ⊢;go_enter Tryz.func257,Tryz.ntmps257;go_wp2_with fail;refine h166.mono ?_;rintro e w1 ⟨rfl,rfl⟩;go_wp2;go_ret;exact ⟨rfl,rfl⟩
theorem len1 {l:List Ex} (h:l.length=1):∃ a,l=[a]:=by
 match l,h with
 | [a],_=>exact ⟨a,rfl⟩
theorem len2 {l:List Ex} (h:l.length=2):∃ a c,l=[a,c]:=by
 match l,h with
 | [a,c],_=>exact ⟨a,c,rfl⟩
theorem len3 {l:List Ex} (h:l.length=3):∃ a c d,l=[a,c,d]:=by
 match l,h with
 | [a,c,d],_=>exact ⟨a,c,d,rfl⟩
theorem bare_step {op k n:Int} {name:ByteArray} {S:List (List Tm)} {L:List Ex} (hE:okE (.mk op k n name S L)) (hD:∀ x ∈ L,PartDoes x):BareDoes (.mk op k n name S L):=by
 intro ok w b t x hx hg hw;obtain ⟨ex1,ex2,ex3,ex4,hSx,hLx⟩:=hx.parts;obtain ⟨op',k',n',name',aS,nS,cS,aL,nL,cL⟩:=x
 dsimp only [Ex.op,Ex.k,Ex.n,Ex.name,Ex.S,Ex.L] at ex1 ex2 ex3 ex4 hSx hLx ⊢
 obtain rfl:=ex1.symm;obtain rfl:=ex2.symm;obtain rfl:=ex3.symm;obtain rfl:=ex4.symm;rw [okE] at hE;obtain ⟨hF,⟨hn0,hn1⟩,hname,hZ,_⟩:=hE;obtain ⟨⟨ho1,ho15⟩,hl1,hl2,hs1,hk1,hk2,hnum⟩:=formOk_parts hF;clear hF hx;obtain ⟨P,hP⟩:=nmQ (Tx.bare (.mk op k n name S L));rw [←hP];rw [Tx.bare] at hP;unfold Tx.bareOf at hP;have HP0:=hide hP;clear hP;have hw0:=hw.more (.cells #[.int .i64 op,.int .i64 k,.int .i64 n,.string name,.slice aS nS cS,.slice aL nL cL] 54 (0,0));have hg0:=(hg.keep (Keep.alloc ok w (.cells #[.int .i64 op,.int .i64 k,.int .i64 n,.string name,.slice aS nS cS,.slice aL nL cL] 54 (0,0)))).more w.heap.size;have K0:=Keep.refl (okL ok w.heap.size) (w.alloc (.cells #[.int .i64 op,.int .i64 k,.int .i64 n,.string name,.slice aS nS cS,.slice aL nL cL] 54 (0,0)));by_cases c1:op=1
 ·have HP:Hid (P=[Tx.num n]):=hide (by rw [HP0.out,if_pos c1])
  clear HP0 hl1 hl2 hs1 hk1 hk2 hnum ho1 ho15;subst c1;go_enter Tryz.func250,Tryz.ntmps250;go_wp2_with fail;refine (number_any hw0 hg0 n (by omega) hn1).mono ?_;rintro e w2 ⟨rfl,h2,k2⟩;go_wp2;go_end0;exact ⟨rfl,by rw [HP.out];exact h2.fst,k2.all⟩
 by_cases c2:op=2
 ·have HP:Hid (P=[if n=1 then ⟨#[116,114,117,101]⟩ else ⟨#[102,97,108,115,101]⟩]):=hide (by rw [HP0.out,if_neg c1,if_pos c2])
  clear HP0 hl1 hl2 hs1 hk1 hk2 hnum ho1 ho15 c1;subst c2;obtain ⟨v,hv⟩:=nmQ ((n==1));have hvI:(n==1)=v:=hv.symm;have hfb:=formatBool_any v;have hif:(if n=1 then (⟨#[116,114,117,101]⟩:ByteArray) else ⟨#[102,97,108,115,101]⟩)=(if v=true then ⟨#[116,114,117,101]⟩ else ⟨#[102,97,108,115,101]⟩):=(by rw [hv];simp);rw [hif] at HP;have hok:okS (if v=true then (⟨#[116,114,117,101]⟩:ByteArray) else ⟨#[102,97,108,115,101]⟩):=by unfold okS;cases v<;>decide
  clear hif hv;generalize (if v=true then (⟨#[116,114,117,101]⟩:ByteArray) else ⟨#[102,97,108,115,101]⟩)=sv at HP hfb hok;go_enter Tryz.func250,Tryz.ntmps250;go_wp2_with fail;refine (hfb _).mono ?_;rintro e w1 ⟨rfl,rfl⟩;go_wp2_with fail;refine (put1 hw0 (by simp) sv hok).mono ?_;rintro e w2 ⟨rfl,h2,k2⟩;go_wp2;go_end0;exact ⟨rfl,by rw [HP.out];exact h2.fst,k2.all⟩
 by_cases c3:op=3
 ·have HP:Hid (P=[name]):=hide (by rw [HP0.out,if_neg c1,if_neg c2,if_pos c3])
  clear HP0 hl1 hl2 hs1 hk1 hk2 hnum ho1 ho15 c1 c2;subst c3;go_enter Tryz.func250,Tryz.ntmps250;go_wp2_with fail;refine (put1 hw0 (by simp) name hname).mono ?_;rintro e w2 ⟨rfl,h2,k2⟩;go_wp2;go_end0;exact ⟨rfl,by rw [HP.out];exact h2.fst,k2.all⟩
 by_cases c4:op=4
 ·have hsh:(Rn.shp op.toNat).2.1=1∧(Rn.shp op.toNat).2.2.1=1∧(Rn.shp op.toNat).2.2.2.2.1=13∧(Rn.shp op.toNat).2.2.2.2.2=14:=by subst c4;decide
  obtain ⟨e0,rfl⟩:=len1 (l:=L) (by omega);obtain ⟨q,rfl⟩:∃ q:Nat,k=(q:Int):=⟨k.toNat,by omega⟩;have hq:q<15:=(by omega);have HP:Hid (P=[(Tx.opT q).2.1]++Tx.partP e0 6):=hide (by rw [HP0.out,if_neg c1,if_neg c2,if_neg c3,if_pos c4,Int.toNat_natCast];rfl);clear HP0 hl1 hl2 hs1 hk1 hk2 hnum ho1 ho15 c1 c2 c3 hsh;have hD0:=hD e0 (by simp);clear hD;obtain ⟨_,g1,_⟩:=hg0.o.2 q hq;have hok1:=(opT_ok q hq).2.1;generalize (Tx.opT q).2.1=sg at HP g1 hok1;subst c4;obtain ⟨hnL,hc1,hc2,bL,oL,hao,hget⟩:=hLx.get (by simp);subst hao;simp at hnL;subst hnL;unfold maxLen at hc2;obtain ⟨y0,hx0,hy0⟩:=hget 0 (by simp);simp only [List.getElem_cons_zero,List.getElem_cons_succ] at hx0;have hp0:=fun (W:World) (T:ByteArray) (h1:Wr (okL ok w.heap.size) W b T) (k1:Keep (okL ok w.heap.size) (w.alloc (.cells #[.int .i64 4,.int .i64 (q:Int),.int .i64 n,.string name,.slice aS nS cS,.slice (some ⟨bL,oL,none⟩) 1 cL] 54 (0,0))) W) (least:Int) (hl0:0≤least) (hl8:least≤8)=>hD0 (okL ok w.heap.size) W b T y0 least (hx0.step k1.all) (hg0.keep k1) h1 hl0 hl8;have he0:=fun (W:World) (T:ByteArray) (h1:Wr (okL ok w.heap.size) W b T) (k1:Keep (okL ok w.heap.size) (w.alloc (.cells #[.int .i64 4,.int .i64 (q:Int),.int .i64 n,.string name,.slice aS nS cS,.slice (some ⟨bL,oL,none⟩) 1 cL] 54 (0,0))) W)=>exprW_of hD0 (okL ok w.heap.size) W b T y0 (hx0.step k1.all) (hg0.keep k1) h1;obtain ⟨o0,k0_,n0_,s0_,aS0,nS0,cS0,aL0,nL0,cL0⟩:=y0
  dsimp only at hp0 he0 hy0
  clear hget hLx;go_enter Tryz.func250,Tryz.ntmps250;go_wp2_with fail;refine (put1 hw0 (by simp) sg hok1).mono ?_;rintro e w1 ⟨rfl,h1,k1⟩;have K1:=k1;have kL1:=K1.at;have q1_5:=co kL1 5;simp at q1_5;obtain ⟨d1_0_0,d1_0_1,d1_0_2,d1_0_3,d1_0_4,d1_0_5⟩:=hy0 _ K1.all;simp at d1_0_0;simp at d1_0_1;simp at d1_0_2;simp at d1_0_3;simp at d1_0_4;simp at d1_0_5;go_wp2_with fail;refine (hp0 _ _ h1 K1 6 (by omega) (by omega)).mono ?_;rintro e w2 ⟨rfl,h2,k2⟩;have K2:=K1.trans k2;have kL2:=K2.at;go_wp2;go_end0;refine ⟨rfl,?_,K2.all⟩;rw [HP.out];simp only [Tx.puts_append,Tx.puts_nil];exact h2.fst
 by_cases c5:op=5
 ·have hsh:(Rn.shp op.toNat).2.1=2∧(Rn.shp op.toNat).2.2.1=2∧(Rn.shp op.toNat).2.2.2.2.1=1∧(Rn.shp op.toNat).2.2.2.2.2=12:=by subst c5;decide
  obtain ⟨e0,e1,rfl⟩:=len2 (l:=L) (by omega);obtain ⟨q,rfl⟩:∃ q:Nat,k=(q:Int):=⟨k.toNat,by omega⟩;have hq:q<15:=(by omega);have HP:Hid (P=Tx.pairP q (Tx.bares [e0,e1])):=hide (by rw [HP0.out,if_neg c1,if_neg c2,if_neg c3,if_neg c4,if_pos c5]);clear HP0 hl1 hl2 hs1 hk1 hk2 hnum ho1 ho15 c1 c2 c3 c4 hsh;have hc:=pairW_any (op:=op) (n:=n) (name:=name) (aS:=aS) (nS:=nS) (cS:=cS) (S:=S) hw0 hg0 (hLx.step (Keep.alloc ok w (.cells #[.int .i64 op,.int .i64 (q:Int),.int .i64 n,.string name,.slice aS nS cS,.slice aL nL cL] 54 (0,0)))) (hD e0 (by simp)) (hD e1 (by simp)) hq;subst c5;go_enter Tryz.func250,Tryz.ntmps250;go_wp2_with fail;refine hc.mono ?_;rintro e w2 ⟨rfl,h2,k2⟩;go_wp2;go_end0;exact ⟨rfl,by rw [HP.out];exact h2.fst,k2.all⟩
 by_cases c6:op=6
 ·have hsh:(Rn.shp op.toNat).2.1=3∧(Rn.shp op.toNat).2.2.1=3:=by subst c6;decide
  obtain ⟨e0,e1,e2,rfl⟩:=len3 (l:=L) (by omega);have HP:Hid (P=Tx.choiceP (Tx.bares [e0,e1,e2])):=hide (by rw [HP0.out,if_neg c1,if_neg c2,if_neg c3,if_neg c4,if_neg c5,if_pos c6]);have hc:=choiceW_any (op:=op) (k:=k) (n:=n) (name:=name) (aS:=aS) (nS:=nS) (cS:=cS) (S:=S) hw0 hg0 (hLx.step (Keep.alloc ok w (.cells #[.int .i64 op,.int .i64 k,.int .i64 n,.string name,.slice aS nS cS,.slice aL nL cL] 54 (0,0)))) (hD e0 (by simp)) (hD e1 (by simp)) (hD e2 (by simp));clear HP0 hl1 hl2 hs1 hk1 hk2 hnum ho1 ho15 c1 c2 c3 c4 c5 hsh;subst c6;go_enter Tryz.func250,Tryz.ntmps250;go_wp2_with fail;refine hc.mono ?_;rintro e w2 ⟨rfl,h2,k2⟩;go_wp2;go_end0;exact ⟨rfl,by rw [HP.out];exact h2.fst,k2.all⟩
 by_cases c11:op=11
 ·have hsh:(Rn.shp op.toNat).2.1=3∧(Rn.shp op.toNat).2.2.1=3:=by subst c11;decide
  obtain ⟨e0,e1,e2,rfl⟩:=len3 (l:=L) (by omega);have HP:Hid (P=Tx.indexP (Tx.bares [e0,e1,e2])):=hide (by rw [HP0.out,if_neg c1,if_neg c2,if_neg c3,if_neg c4,if_neg c5,if_neg c6,if_pos c11]);have hc:=indexW_any (op:=op) (k:=k) (n:=n) (name:=name) (aS:=aS) (nS:=nS) (cS:=cS) (S:=S) hw0 hg0 (hLx.step (Keep.alloc ok w (.cells #[.int .i64 op,.int .i64 k,.int .i64 n,.string name,.slice aS nS cS,.slice aL nL cL] 54 (0,0)))) (hD e0 (by simp)) (hD e1 (by simp)) (hD e2 (by simp));clear HP0 hl1 hl2 hs1 hk1 hk2 hnum ho1 ho15 c1 c2 c3 c4 c5 hsh c6;subst c11;go_enter Tryz.func250,Tryz.ntmps250;go_wp2_with fail;refine hc.mono ?_;rintro e w2 ⟨rfl,h2,k2⟩;go_wp2;go_end0;exact ⟨rfl,by rw [HP.out];exact h2.fst,k2.all⟩
 have HP:Hid (P=Tx.formP op k S (Tx.bares L)):=hide (by rw [HP0.out,if_neg c1,if_neg c2,if_neg c3,if_neg c4,if_neg c5,if_neg c6,if_neg c11]);obtain ⟨p,rfl⟩:∃ p:Nat,op=(p:Int):=⟨op.toNat,by omega⟩;have hp16:p<16:=(by omega);rw [Int.toNat_natCast] at hk1 hk2;have hall:∀ p,p<16→0≤(Rn.shp p).2.2.2.2.1∧(Rn.shp p).2.2.2.2.2≤14:=(by decide);have hkk:=hall p hp16;obtain ⟨q,rfl⟩:∃ q:Nat,k=(q:Int):=⟨k.toNat,by omega⟩;have hq:q<15:=(by omega);have f1:((p:Int)==1)=false:=(by simp;omega);have f2:((p:Int)==2)=false:=(by simp;omega);have f3:((p:Int)==3)=false:=(by simp;omega);have f4:((p:Int)==4)=false:=(by simp;omega);have f5:((p:Int)==5)=false:=(by simp;omega);have f6:((p:Int)==6)=false:=(by simp;omega);have f11:((p:Int)==11)=false:=(by simp;omega);clear HP0 hl1 hl2 hs1 hk1 hk2 hnum ho1 ho15 c1 c2 c3 c4 c5 c6 c11 hall hkk;have hc:=formW_any (n:=n) (name:=name) hw0 hg0 (hSx.step (Keep.alloc ok w (.cells #[.int .i64 (p:Int),.int .i64 (q:Int),.int .i64 n,.string name,.slice aS nS cS,.slice aL nL cL] 54 (0,0)))) (hLx.step (Keep.alloc ok w (.cells #[.int .i64 (p:Int),.int .i64 (q:Int),.int .i64 n,.string name,.slice aS nS cS,.slice aL nL cL] 54 (0,0)))) hD hZ hp16 hq;clear hSx hLx hD hZ;go_enter Tryz.func250,Tryz.ntmps250;go_wp2_with fail;refine hc.mono ?_;rintro e w2 ⟨rfl,h2,k2⟩;go_wp2;go_end0;exact ⟨rfl,by rw [HP.out];exact h2.fst,k2.all⟩
theorem part_any:∀ (q:Nat) (e:Ex),parts e≤q→okE e→PartDoes e
 | 0,.mk _ _ _ _ _ _,h,_=>by simp [parts] at h
 | q+1,.mk op k n name S L,h,hE=>part_of (bare_step hE (fun x hx=>by
  rw [parts] at h;rw [okE] at hE;obtain ⟨i,hi,rfl⟩:=List.getElem_of_mem hx;have:=parts_mem L i hi;exact part_any q _ (by omega) (okEs_mem hE.2.2.2.2 _ hx))) (by
  rw [okE] at hE;exact opOk_of hE.1)
theorem partW_any {e:Ex} (h:okE e):PartDoes e:=part_any _ e nR h
end Go.Proofs.YtkfgbhlpjkkgfaaGreatDoor
