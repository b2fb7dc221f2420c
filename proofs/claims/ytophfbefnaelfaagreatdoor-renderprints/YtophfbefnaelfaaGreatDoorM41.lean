import Derived.Test.YtophfbefnaelfaaGreatDoorM40
import Derived.Test.YtophfbefnaelfaaGreatDoorM32
import Derived.Deep.CutBlock
set_option linter.unusedVariables false
set_option linter.unusedSimpArgs false
set_option maxHeartbeats 64000000
set_option maxRecDepth 100000
namespace Go.Proofs.YtophfbefnaelfaaGreatDoor
open Go.RowKit Go.IntWalk
def okD2 (d:De):Prop:=okD d∧(d.elem=105∨d.elem=98)
theorem declText_any {ok:Nat→Prop} {w:World} {nm:ByteArray} {ex:Int} {sz:List Tm} {au:Option Addr} {nu cu:Nat} (ht:HTerms ok w (.slice au nu cu) sz) (htab:TabN w) (hd:okD2 ⟨nm,ex,sz⟩) (hX:Tx.fitX (Tx.declP ⟨nm,ex,sz⟩)) :
  Calls Tryz.prog 38 #[.agg #[.string nm,.int .u8 ex,.slice au nu cu]] w fun e w'=>e=.returned (.string (Tx.cat (Tx.declP ⟨nm,ex,sz⟩)))∧Below w.heap.size w w':=by
 obtain ⟨⟨hs1,hs2⟩,hel⟩:=hd
 dsimp only at hs1 hs2 hel
 obtain ⟨a6,c6,hv6,hq1,hq2,_⟩:=ht.at;injection hv6 with e0 e1 e2;subst e0 e2;unfold maxLen at hq2;have bA:Below w.heap.size w (w.alloc (.cells #[.string nm,.int .u8 ex,.slice au nu cu] 77 (0,0))):=(Below.refl _ _).alloc nR _;have kA:=heap_new w (.cells #[.string nm,.int .u8 ex,.slice au nu cu] 77 (0,0));obtain ⟨R,hR⟩:=nmQ (Tx.cat (Tx.declP ⟨nm,ex,sz⟩));rw [←hR];unfold Tx.declP at hX hR
 dsimp only at hX hR
 have hXs:nu≠0→Tx.fitX (Tx.sizeP sz):=fun h=>by
  have h1:=hX.right.right;rw [if_neg (by rw [←e1];exact h)] at h1;exact h1.right
 have hsz:=fun (h:nu≠0)=>sizeText_any (ht.under bA) (htab.under bA) hs2 (hXs h);have hXR:R.size≤1000000000000000000:=(by rw [hR];exact hX);rw [←e1] at hR hq1;have HR:=hide hR;clear hX hR ht e1 hXs;unfold okS at hs1;rcases hel with rfl | rfl
 ·by_cases h0:nu=0
  ·have HE:Hid (R=nm++⟨#[58,32]⟩++⟨#[105,110,116]⟩):=hide (by rw [HR.out,if_pos rfl,if_pos h0];simp only [Tx.cat,Tx.cat_append,ByteArray.append_empty,ByteArray.append_assoc])
   subst h0;have hR2:nm.size+2+4≤1000000000000000000:=(by omega);clear hXR HR hsz;go_enter Tryz.func38,Tryz.ntmps38;go_wp2;go_ret;exact ⟨by rw [HE.out];rfl,bA⟩
  ·have HE:Hid (R=nm++⟨#[58,32]⟩++⟨#[105,110,116]⟩++(⟨#[94]⟩++Tx.cat (Tx.sizeP sz))):=hide (by rw [HR.out,if_pos rfl,if_neg h0];simp only [Tx.cat,Tx.cat_append,ByteArray.append_empty,ByteArray.append_assoc])
   have hc:=hsz h0;have h0I:(0:Int)<(nu:Int):=(by omega);generalize Tx.cat (Tx.sizeP sz)=S at HE hc;have hR2:nm.size+2+3+(1+S.size)≤1000000000000000000:=by
    have:=hXR;rw [HE.out] at this;simp only [ByteArray.size_append] at this;rw [show (⟨#[58,32]⟩:ByteArray).size=2 from rfl,show (⟨#[105,110,116]⟩:ByteArray).size=3 from rfl,show (⟨#[94]⟩:ByteArray).size=1 from rfl] at this;exact this
   clear hXR HR hsz;go_enter Tryz.func38,Tryz.ntmps38;go_wp2_with fail;refine hc.mono ?_;rintro e w2 ⟨rfl,b2⟩;go_wp2;go_ret;exact ⟨by rw [HE.out];rfl,bA.trans (b2.mono bA.size)⟩
 ·by_cases h0:nu=0
  ·have HE:Hid (R=nm++⟨#[58,32]⟩++⟨#[98,111,111,108]⟩):=hide (by rw [HR.out,if_neg (by decide),if_pos h0];simp only [Tx.cat,Tx.cat_append,ByteArray.append_empty,ByteArray.append_assoc])
   subst h0;have hR2:nm.size+2+4≤1000000000000000000:=(by omega);clear hXR HR hsz;go_enter Tryz.func38,Tryz.ntmps38;go_wp2;go_ret;exact ⟨by rw [HE.out];rfl,bA⟩
  ·have HE:Hid (R=nm++⟨#[58,32]⟩++⟨#[98,111,111,108]⟩++(⟨#[94]⟩++Tx.cat (Tx.sizeP sz))):=hide (by rw [HR.out,if_neg (by decide),if_neg h0];simp only [Tx.cat,Tx.cat_append,ByteArray.append_empty,ByteArray.append_assoc])
   have hc:=hsz h0;have h0I:(0:Int)<(nu:Int):=(by omega);generalize Tx.cat (Tx.sizeP sz)=S at HE hc;have hR2:nm.size+2+4+(1+S.size)≤1000000000000000000:=by
    have:=hXR;rw [HE.out] at this;simp only [ByteArray.size_append] at this;rw [show (⟨#[58,32]⟩:ByteArray).size=2 from rfl,show (⟨#[98,111,111,108]⟩:ByteArray).size=4 from rfl,show (⟨#[94]⟩:ByteArray).size=1 from rfl] at this;exact this
   clear hXR HR hsz;go_enter Tryz.func38,Tryz.ntmps38;go_wp2_with fail;refine hc.mono ?_;rintro e w2 ⟨rfl,b2⟩;go_wp2;go_ret;exact ⟨by rw [HE.out];rfl,bA.trans (b2.mono bA.size)⟩
theorem declsText_any {ok:Nat→Prop} {w:World} {v:Value} {l:List De} (hl:HDes ok w v l) (htab:TabN w) (hs:∀ x ∈ l,okD2 x) (hX:Tx.fitX ([⟨#[40]⟩]++(Tx.commas Tx.declP l++[⟨#[41]⟩]))) :
  Calls Tryz.prog 37 #[v] w fun e w'=>e=.returned (.string (Tx.cat ([⟨#[40]⟩]++(Tx.commas Tx.declP l++[⟨#[41]⟩]))))∧Below w.heap.size w w':=by
 obtain ⟨ao,cap,rfl,hc1,hc2,_⟩:=hl.at;unfold maxLen at hc2;obtain ⟨R,hR⟩:=nmQ (Tx.cat ([⟨#[40]⟩]++(Tx.commas Tx.declP l++[⟨#[41]⟩])));rw [←hR];have hXR:R.size≤1000000000000000000:=(by rw [hR];exact hX);have HR:=hide hR;have HX:=hide (show Tx.fitX (Tx.rowP (Tx.comma Tx.declP) 0 l) from hX.right.left);have HS:=hide hs;have HL:=hide hl;clear hR hX hl hs;obtain ⟨n,hn⟩:=nmQ (l.length);rw [←hn] at hc1 HL ⊢;have HN:=hide hn;clear hn;go_enter Tryz.func37,Tryz.ntmps37;go_wp2_with fail;go_loopg [3,4] n (fun k v3 v4 wr=>∃ i,i≤n∧k=n-i∧v4=.int .i64 (i:Nat)∧(∃ s,v3=.string s∧Hid (s=Tx.cat (Tx.rowP (Tx.comma Tx.declP) 0 (l.take i))))∧Below w.heap.size w wr)
 case atStart=>exact ⟨0,Nat.zero_le _,rfl,rfl,⟨_,rfl,hide (by rfl)⟩,Below.refl _ _⟩
 case round=>
  obtain ⟨i,hi,rfl,rfl,⟨s,rfl,H⟩,br⟩:=hrel;by_cases hlt:i<n
  case neg=>
   have hin:i=n:=(by omega);subst hin;have hs:R=⟨#[40]⟩++s++⟨#[41]⟩:=(by rw [H.out,HR.out,List.take_of_length_le (by have:=HN.out;omega)];unfold Tx.commas;simp only [Tx.cat,Tx.cat_append,ByteArray.append_empty,ByteArray.append_assoc]);have hR2:1+s.size+1≤1000000000000000000:=by
    have:=hXR;rw [hs] at this;simp only [ByteArray.size_append] at this;rw [show (⟨#[40]⟩:ByteArray).size=1 from rfl,show (⟨#[41]⟩:ByteArray).size=1 from rfl] at this;exact this
   have HE:=hide hs;clear H HR hXR hs;go_wp2;go_ret;exact ⟨by rw [HE.out];rfl,br⟩
  case pos=>
   have hil:i<l.length:=(by have:=HN.out;omega);have HY:=hide (Tx.cat_take (Tx.comma Tx.declP) l i hil);have hM:=HX.out.mid hil;have hM0:=hM.right;unfold Tx.fitX at hM;rw [Tx.cat_append,←H.out,ByteArray.size_append] at hM;have hsi:=HS.out l[i] (List.getElem_mem hil);obtain ⟨ao',cap',e1,_,_,hat⟩:=(HL.out.under br).at;injection e1 with e2 e3 e4;subst e2 e4;obtain ⟨bl,o,au,nu,cu,e5,hbl,d0,d1,d2,ht⟩:=hat i hil;subst e5;clear hat e3 hXR;have htr:=htab.under br;generalize l[i]=x at HY hM hM0 hsi d0 d1 ht;obtain ⟨nm,ex,sz⟩:=x
   dsimp only at d0 d1 ht
   have hXd:Tx.fitX (Tx.declP ⟨nm,ex,sz⟩):=by
    unfold Tx.comma at hM0;by_cases hi0:i=0
    ·rw [if_pos hi0] at hM0;exact hM0
    ·rw [if_neg hi0] at hM0;exact hM0.right
   have hc:=declText_any ht htr hsi hXd;by_cases hi0:i=0
   ·have hi0I:¬(0:Int)<(i:Int):=by omega
    have hcm:Tx.cat (Tx.comma Tx.declP i ⟨nm,ex,sz⟩)=Tx.cat (Tx.declP ⟨nm,ex,sz⟩):=(by rw [Tx.comma,if_pos hi0]);have HI0:=hide hi0;clear hi0;rw [hcm] at hM HY;clear hcm hM0 hXd;generalize Tx.cat (Tx.declP ⟨nm,ex,sz⟩)=D at hM HY hc;go_wp2_with fail;refine hc.mono ?_;rintro e w2 ⟨rfl,b2⟩;go_wp2_with fail;go_roundg (n-(i+1))
    case measure=>omega
    case rel=>exact ⟨i+1,by omega,rfl,by go_num,⟨_,rfl,hide (by rw [HY.out,←H.out])⟩,br.trans (b2.mono br.size)⟩
   ·have hi0I:(0:Int)<(i:Int):=by omega
    have hcm:Tx.cat (Tx.comma Tx.declP i ⟨nm,ex,sz⟩)=⟨#[44,32]⟩++Tx.cat (Tx.declP ⟨nm,ex,sz⟩):=(by rw [Tx.comma,if_neg hi0,Tx.cat_append,Tx.cat_one]);rw [hcm] at hM HY;clear hcm hM0 hXd;generalize Tx.cat (Tx.declP ⟨nm,ex,sz⟩)=D at hM HY hc;have hM2:s.size+2+D.size≤1000000000000000000:=(by rw [ByteArray.size_append,show (⟨#[44,32]⟩:ByteArray).size=2 from rfl] at hM;omega);clear hM;go_wp2_with fail;refine hc.mono ?_;rintro e w2 ⟨rfl,b2⟩;go_wp2_with fail;go_roundg (n-(i+1))
    case measure=>omega
    case rel=>exact ⟨i+1,by omega,rfl,by go_num,⟨_,rfl,hide (by rw [HY.out,←H.out,ByteArray.append_assoc])⟩,br.trans (b2.mono br.size)⟩
theorem binds_any (op k n:Int) (name:ByteArray) (aS aL:Option Addr) (nS cS nL cL:Nat) (w:World) (hk4:op=4→k=13∨k=14) (hk:op=5→1≤k∧k≤12) :
  Calls Tryz.prog 83 #[.agg #[.int .i64 op,.int .i64 k,.int .i64 n,.string name,.slice aS nS cS,.slice aL nL cL]] w fun e w'=>e=.returned (.int .i64 (Tx.rankE op k))∧Below w.heap.size w w':=by
 have bA:Below w.heap.size w (w.alloc (.cells #[.int .i64 op,.int .i64 k,.int .i64 n,.string name,.slice aS nS cS,.slice aL nL cL] 88 (0,0))):=(Below.refl _ _).alloc nR _;by_cases h6:op=6
 ·subst h6
  go_enter Tryz.func83,Tryz.ntmps83;go_wp2;go_ret;exact ⟨rfl,bA⟩
 have h6b:(op==6)=false:=(by simp [h6]);by_cases h4:op=4
 ·have hr:Tx.rankE op k=6:=by
   rw [Tx.rankE,if_pos (.inl h4)];rcases hk4 h4 with rfl | rfl<;>rfl
  rw [hr];subst h4;go_enter Tryz.func83,Tryz.ntmps83;go_wp2;go_ret;exact ⟨rfl,bA⟩
 have h4b:(op==4)=false:=(by simp [h4]);by_cases h5:op=5
 ·have hkk:=hk h5
  subst h5;have hcases:k=1∨k=2∨k=3∨k=4∨k=5∨k=6∨k=7∨k=8∨k=9∨k=10∨k=11∨k=12:=(by omega);rcases hcases with rfl | rfl | rfl | rfl | rfl | rfl | rfl | rfl | rfl | rfl | rfl | rfl
  all_goals
   go_enter Tryz.func83,Tryz.ntmps83;go_wp2;go_ret;exact ⟨rfl,((Below.refl _ _).alloc nR _).alloc (by simp) _⟩
 have h5b:(op==5)=false:=(by simp [h5]);have hr:Tx.rankE op k=7:=(by rw [Tx.rankE,if_neg (by omega),if_neg h6]);rw [hr];go_enter Tryz.func83,Tryz.ntmps83;go_wp2;go_ret;exact ⟨rfl,bA⟩
theorem un_k {op k n:Int} {name:ByteArray} {S:List (List Tm)} {L:List Ex} (hF:Rn.formOk (.mk op k n name S L)=true) (h:op=4):k=13∨k=14:=by
 obtain ⟨_,_,_,_,h4,h5,_⟩:=formOk_parts hF;subst h;have a:(Rn.shp (4:Int).toNat).2.2.2.2.1=13:=(by decide);have c:(Rn.shp (4:Int).toNat).2.2.2.2.2=14:=(by decide);omega
theorem bin_k {op k n:Int} {name:ByteArray} {S:List (List Tm)} {L:List Ex} (hF:Rn.formOk (.mk op k n name S L)=true) (h:op=5):1≤k∧k≤12:=by
 obtain ⟨_,_,_,_,h4,h5,_⟩:=formOk_parts hF;subst h;have a:(Rn.shp (5:Int).toNat).2.2.2.2.1=1:=(by decide);have c:(Rn.shp (5:Int).toNat).2.2.2.2.2=12:=(by decide);omega
def sgn (q:Nat):ByteArray:=([⟨#[]⟩,⟨#[43]⟩,⟨#[45]⟩,⟨#[42]⟩,⟨#[47]⟩,⟨#[37]⟩,⟨#[]⟩,⟨#[]⟩,⟨#[60]⟩,⟨#[61,61]⟩,⟨#[97,110,100]⟩,⟨#[111,114]⟩,⟨#[120,111,114]⟩]:List ByteArray).getD q ⟨#[]⟩
theorem opsRow:∀ q,q<15→(#[.string ⟨#[]⟩,.string ⟨#[97,100,100]⟩,.string ⟨#[115,117,98]⟩,.string ⟨#[109,117,108]⟩,.string ⟨#[100,105,118]⟩,.string ⟨#[109,111,100]⟩,.string ⟨#[109,105,110]⟩,.string ⟨#[109,97,120]⟩,.string ⟨#[108,101,115,115]⟩,.string ⟨#[101,113]⟩,.string ⟨#[97,110,100]⟩,.string ⟨#[111,114]⟩,.string ⟨#[120,111,114]⟩,.string ⟨#[110,101,103]⟩,.string ⟨#[110,111,116]⟩]:Array Value)[q]?=some (.string (Tx.opT q).1)
 | 0,_=>rfl
 | 1,_=>rfl
 | 2,_=>rfl
 | 3,_=>rfl
 | 4,_=>rfl
 | 5,_=>rfl
 | 6,_=>rfl
 | 7,_=>rfl
 | 8,_=>rfl
 | 9,_=>rfl
 | 10,_=>rfl
 | 11,_=>rfl
 | 12,_=>rfl
 | 13,_=>rfl
 | 14,_=>rfl
theorem sgnRow:∀ q,q<13→(#[.string ⟨#[]⟩,.string ⟨#[43]⟩,.string ⟨#[45]⟩,.string ⟨#[42]⟩,.string ⟨#[47]⟩,.string ⟨#[37]⟩,.string ⟨#[]⟩,.string ⟨#[]⟩,.string ⟨#[60]⟩,.string ⟨#[61,61]⟩,.string ⟨#[97,110,100]⟩,.string ⟨#[111,114]⟩,.string ⟨#[120,111,114]⟩]:Array Value)[q]?=some (.string (sgn q))
 | 0,_=>rfl
 | 1,_=>rfl
 | 2,_=>rfl
 | 3,_=>rfl
 | 4,_=>rfl
 | 5,_=>rfl
 | 6,_=>rfl
 | 7,_=>rfl
 | 8,_=>rfl
 | 9,_=>rfl
 | 10,_=>rfl
 | 11,_=>rfl
 | 12,_=>rfl
theorem wordsRow:∀ q,q<16→(#[.string ⟨#[]⟩,.string ⟨#[]⟩,.string ⟨#[]⟩,.string ⟨#[]⟩,.string ⟨#[]⟩,.string ⟨#[]⟩,.string ⟨#[]⟩,.string ⟨#[109,97,112]⟩,.string ⟨#[102,111,108,100]⟩,.string ⟨#[115,99,97,110]⟩,.string ⟨#[102,105,108,108]⟩,.string ⟨#[]⟩,.string ⟨#[119,105,116,104]⟩,.string ⟨#[115,108,105,99,101]⟩,.string ⟨#[99,97,116]⟩,.string ⟨#[112,114,101]⟩]:Array Value)[q]?=some (.string (Rn.shp q).1)
 | 0,_=>rfl
 | 1,_=>rfl
 | 2,_=>rfl
 | 3,_=>rfl
 | 4,_=>rfl
 | 5,_=>rfl
 | 6,_=>rfl
 | 7,_=>rfl
 | 8,_=>rfl
 | 9,_=>rfl
 | 10,_=>rfl
 | 11,_=>rfl
 | 12,_=>rfl
 | 13,_=>rfl
 | 14,_=>rfl
 | 15,_=>rfl
 | _+16,h=>absurd h (by omega)
theorem sgn_eq:∀ q,q<13→(Tx.opT q).2.1.size≠0→(Tx.opT q).2.1=⟨#[32]⟩++sgn q++⟨#[32]⟩
 | 0,_,h=>absurd rfl h
 | 1,_,_=>by decide
 | 2,_,_=>by decide
 | 3,_,_=>by decide
 | 4,_,_=>by decide
 | 5,_,_=>by decide
 | 6,_,h=>absurd rfl h
 | 7,_,h=>absurd rfl h
 | 8,_,_=>by decide
 | 9,_,_=>by decide
 | 10,_,_=>by decide
 | 11,_,_=>by decide
 | 12,_,_=>by decide
def XtDoes (e:Ex):Prop:=∀ (ok:Nat→Prop) (w:World) (x:ExV) (must:Int),HEx ok w x.cells e→TabN w→0≤must→must≤8→Tx.fitX (Tx.partP e must) →
 Calls Tryz.prog 54 #[.agg #[.int .i64 x.op,.int .i64 x.k,.int .i64 x.n,.string x.name,.slice x.aS x.nS x.cS,.slice x.aL x.nL x.cL],.int .i64 must] w fun r w'=>r=.returned (.string (Tx.cat (Tx.partP e must)))∧Below w.heap.size w w'
theorem HExs.getB {ok:Nat→Prop} {w:World} {aL:Option Addr} {nL cL:Nat} {L:List Ex} (h:HExs ok w (.slice aL nL cL) L) (h0:0<L.length) :
  nL=L.length∧nL≤cL∧cL≤maxLen∧∃ bL oL,aL=some ⟨bL,oL,none⟩∧∀ i (hi:i<L.length),∃ y:ExV,HEx ok w y.cells L[i]∧∀ W,Below w.heap.size w W→ExAt W bL (oL+i*6) y:=by
 obtain ⟨h1,h2,h3,bL,oL,h4,h5⟩:=h.get h0;refine ⟨h1,h2,h3,bL,oL,h4,fun i hi=>?_⟩;obtain ⟨y,hx,hy⟩:=h5 i hi;exact ⟨y,hx,fun W b=>hy W (Keep.ofBelow b)⟩
theorem exprP_eq (e:Ex):Tx.exprP e=Tx.partP e 0:=rfl
theorem sz_lit1 (a:UInt8):(⟨#[a]⟩:ByteArray).size=1:=rfl
theorem exprText_low {op k n:Int} {name:ByteArray} {S:List (List Tm)} {L:List Ex} (hE:okE (.mk op k n name S L)) (hD:∀ x ∈ L,XtDoes x) (hop:op≤4):XtDoes (.mk op k n name S L):=by
 intro ok w x must hx htab hm0 hm8 hX;obtain ⟨ex1,ex2,ex3,ex4,hSx,hLx⟩:=hx.parts;obtain ⟨op',k',n',name',aS,nS,cS,aL,nL,cL⟩:=x
 dsimp only [Ex.op,Ex.k,Ex.n,Ex.name,Ex.S,Ex.L] at ex1 ex2 ex3 ex4 hSx hLx ⊢
 obtain rfl:=ex1.symm;obtain rfl:=ex2.symm;obtain rfl:=ex3.symm;obtain rfl:=ex4.symm;clear ex1 ex2 ex3 ex4;rw [okE] at hE;obtain ⟨hF,⟨hn0,hn1⟩,hname,hZ,_⟩:=hE;have hbi:=fun V=>binds_any op k n name aS aL nS cS nL cL V (un_k hF) (bin_k hF);have hun:=un_k hF;have hbin:=bin_k hF;obtain ⟨⟨ho1,ho15⟩,hl1,hl2,hs1,hk1,hk2,hnum⟩:=formOk_parts hF;clear hx;obtain ⟨R,hR⟩:=nmQ (Tx.cat (Tx.partP (.mk op k n name S L) must));rw [←hR];obtain ⟨X,hXe⟩:=nmQ (Tx.cat (Tx.bare (.mk op k n name S L)));have hXs:Tx.fitX (Tx.bare (.mk op k n name S L)):=by
  unfold Tx.partP Tx.partQ at hX
  split at hX
  ·exact hX
  ·exact hX.right.left
 have hrk:Tx.rank (.mk op k n name S L)=Tx.rankE op k:=rfl;have HR:Hid (R=if must≤Tx.rankE op k then X else ⟨#[40]⟩++X++⟨#[41]⟩):=hide (by
  rw [hR,hXe];unfold Tx.partP Tx.partQ;rw [hrk]
  split
  ·rfl
  ·simp only [Tx.cat_append,Tx.cat,ByteArray.append_empty,ByteArray.append_assoc])
 have hRs:R.size≤1000000000000000000:=(by rw [hR];exact hX);have HXE:=hide hXe;have HXS:=hide hXs;have hXsz:X.size≤1000000000000000000:=(by rw [hXe];exact hXs);clear hX hR hXe hXs hF hrk;have bA:Below w.heap.size w (w.alloc (.cells #[.int .i64 op,.int .i64 k,.int .i64 n,.string name,.slice aS nS cS,.slice aL nL cL] 88 (0,0))):=(Below.refl _ _).alloc nR _;obtain ⟨r,hr⟩:=nmQ (Tx.rankE op k);simp only [←hr] at HR hbi;have HRK:=hide hr;clear hr;go_enter Tryz.func54,Tryz.ntmps54;go_wp2_with fail;refine (hbi _).mono ?_;rintro e w1 ⟨rfl,b1⟩;have B1:=bA.trans (b1.mono bA.size);have kL:=(b1.block w.heap.size (by simp)).trans (heap_new w (.cells #[.int .i64 op,.int .i64 k,.int .i64 n,.string name,.slice aS nS cS,.slice aL nL cL] 88 (0,0)));clear hbi;go_upto_block 0 with fail;have bB:Below w1.heap.size w1 (((w1.alloc (.cells #[.string ⟨#[]⟩,.string ⟨#[97,100,100]⟩,.string ⟨#[115,117,98]⟩,.string ⟨#[109,117,108]⟩,.string ⟨#[100,105,118]⟩,.string ⟨#[109,111,100]⟩,.string ⟨#[109,105,110]⟩,.string ⟨#[109,97,120]⟩,.string ⟨#[108,101,115,115]⟩,.string ⟨#[101,113]⟩,.string ⟨#[97,110,100]⟩,.string ⟨#[111,114]⟩,.string ⟨#[120,111,114]⟩,.string ⟨#[110,101,103]⟩,.string ⟨#[110,111,116]⟩] 9 (0,0))).alloc (.cells #[.string ⟨#[]⟩,.string ⟨#[43]⟩,.string ⟨#[45]⟩,.string ⟨#[42]⟩,.string ⟨#[47]⟩,.string ⟨#[37]⟩,.string ⟨#[]⟩,.string ⟨#[]⟩,.string ⟨#[60]⟩,.string ⟨#[61,61]⟩,.string ⟨#[97,110,100]⟩,.string ⟨#[111,114]⟩,.string ⟨#[120,111,114]⟩] 9 (0,0))).alloc (.cells #[.string ⟨#[]⟩,.string ⟨#[]⟩,.string ⟨#[]⟩,.string ⟨#[]⟩,.string ⟨#[]⟩,.string ⟨#[]⟩,.string ⟨#[]⟩,.string ⟨#[109,97,112]⟩,.string ⟨#[102,111,108,100]⟩,.string ⟨#[115,99,97,110]⟩,.string ⟨#[102,105,108,108]⟩,.string ⟨#[]⟩,.string ⟨#[119,105,116,104]⟩,.string ⟨#[115,108,105,99,101]⟩,.string ⟨#[99,97,116]⟩,.string ⟨#[112,114,101]⟩] 9 (0,0))):=(((Below.refl _ _).alloc nR _).alloc (by simp) _).alloc (by simp;omega) _;have B4:=B1.trans (bB.mono B1.size);have kL4:=(bB.block _ (lt_of kL)).trans kL;have kO:(((w1.alloc (.cells #[.string ⟨#[]⟩,.string ⟨#[97,100,100]⟩,.string ⟨#[115,117,98]⟩,.string ⟨#[109,117,108]⟩,.string ⟨#[100,105,118]⟩,.string ⟨#[109,111,100]⟩,.string ⟨#[109,105,110]⟩,.string ⟨#[109,97,120]⟩,.string ⟨#[108,101,115,115]⟩,.string ⟨#[101,113]⟩,.string ⟨#[97,110,100]⟩,.string ⟨#[111,114]⟩,.string ⟨#[120,111,114]⟩,.string ⟨#[110,101,103]⟩,.string ⟨#[110,111,116]⟩] 9 (0,0))).alloc (.cells #[.string ⟨#[]⟩,.string ⟨#[43]⟩,.string ⟨#[45]⟩,.string ⟨#[42]⟩,.string ⟨#[47]⟩,.string ⟨#[37]⟩,.string ⟨#[]⟩,.string ⟨#[]⟩,.string ⟨#[60]⟩,.string ⟨#[61,61]⟩,.string ⟨#[97,110,100]⟩,.string ⟨#[111,114]⟩,.string ⟨#[120,111,114]⟩] 9 (0,0))).alloc (.cells #[.string ⟨#[]⟩,.string ⟨#[]⟩,.string ⟨#[]⟩,.string ⟨#[]⟩,.string ⟨#[]⟩,.string ⟨#[]⟩,.string ⟨#[]⟩,.string ⟨#[109,97,112]⟩,.string ⟨#[102,111,108,100]⟩,.string ⟨#[115,99,97,110]⟩,.string ⟨#[102,105,108,108]⟩,.string ⟨#[]⟩,.string ⟨#[119,105,116,104]⟩,.string ⟨#[115,108,105,99,101]⟩,.string ⟨#[99,97,116]⟩,.string ⟨#[112,114,101]⟩] 9 (0,0))).heap[w1.heap.size]?=some (.cells #[.string ⟨#[]⟩,.string ⟨#[97,100,100]⟩,.string ⟨#[115,117,98]⟩,.string ⟨#[109,117,108]⟩,.string ⟨#[100,105,118]⟩,.string ⟨#[109,111,100]⟩,.string ⟨#[109,105,110]⟩,.string ⟨#[109,97,120]⟩,.string ⟨#[108,101,115,115]⟩,.string ⟨#[101,113]⟩,.string ⟨#[97,110,100]⟩,.string ⟨#[111,114]⟩,.string ⟨#[120,111,114]⟩,.string ⟨#[110,101,103]⟩,.string ⟨#[110,111,116]⟩] 9 (0,0)):=((Below.heap_alloc _ _ _ (by simp;omega)).trans (Below.heap_alloc _ _ _ (by simp))).trans (heap_new w1 _);have kS:(((w1.alloc (.cells #[.string ⟨#[]⟩,.string ⟨#[97,100,100]⟩,.string ⟨#[115,117,98]⟩,.string ⟨#[109,117,108]⟩,.string ⟨#[100,105,118]⟩,.string ⟨#[109,111,100]⟩,.string ⟨#[109,105,110]⟩,.string ⟨#[109,97,120]⟩,.string ⟨#[108,101,115,115]⟩,.string ⟨#[101,113]⟩,.string ⟨#[97,110,100]⟩,.string ⟨#[111,114]⟩,.string ⟨#[120,111,114]⟩,.string ⟨#[110,101,103]⟩,.string ⟨#[110,111,116]⟩] 9 (0,0))).alloc (.cells #[.string ⟨#[]⟩,.string ⟨#[43]⟩,.string ⟨#[45]⟩,.string ⟨#[42]⟩,.string ⟨#[47]⟩,.string ⟨#[37]⟩,.string ⟨#[]⟩,.string ⟨#[]⟩,.string ⟨#[60]⟩,.string ⟨#[61,61]⟩,.string ⟨#[97,110,100]⟩,.string ⟨#[111,114]⟩,.string ⟨#[120,111,114]⟩] 9 (0,0))).alloc (.cells #[.string ⟨#[]⟩,.string ⟨#[]⟩,.string ⟨#[]⟩,.string ⟨#[]⟩,.string ⟨#[]⟩,.string ⟨#[]⟩,.string ⟨#[]⟩,.string ⟨#[109,97,112]⟩,.string ⟨#[102,111,108,100]⟩,.string ⟨#[115,99,97,110]⟩,.string ⟨#[102,105,108,108]⟩,.string ⟨#[]⟩,.string ⟨#[119,105,116,104]⟩,.string ⟨#[115,108,105,99,101]⟩,.string ⟨#[99,97,116]⟩,.string ⟨#[112,114,101]⟩] 9 (0,0))).heap[w1.heap.size+1]?=some (.cells #[.string ⟨#[]⟩,.string ⟨#[43]⟩,.string ⟨#[45]⟩,.string ⟨#[42]⟩,.string ⟨#[47]⟩,.string ⟨#[37]⟩,.string ⟨#[]⟩,.string ⟨#[]⟩,.string ⟨#[60]⟩,.string ⟨#[61,61]⟩,.string ⟨#[97,110,100]⟩,.string ⟨#[111,114]⟩,.string ⟨#[120,111,114]⟩] 9 (0,0)):=(Below.heap_alloc _ _ _ (by simp)).trans (by have:=heap_new (w1.alloc (.cells #[.string ⟨#[]⟩,.string ⟨#[97,100,100]⟩,.string ⟨#[115,117,98]⟩,.string ⟨#[109,117,108]⟩,.string ⟨#[100,105,118]⟩,.string ⟨#[109,111,100]⟩,.string ⟨#[109,105,110]⟩,.string ⟨#[109,97,120]⟩,.string ⟨#[108,101,115,115]⟩,.string ⟨#[101,113]⟩,.string ⟨#[97,110,100]⟩,.string ⟨#[111,114]⟩,.string ⟨#[120,111,114]⟩,.string ⟨#[110,101,103]⟩,.string ⟨#[110,111,116]⟩] 9 (0,0))) (.cells #[.string ⟨#[]⟩,.string ⟨#[43]⟩,.string ⟨#[45]⟩,.string ⟨#[42]⟩,.string ⟨#[47]⟩,.string ⟨#[37]⟩,.string ⟨#[]⟩,.string ⟨#[]⟩,.string ⟨#[60]⟩,.string ⟨#[61,61]⟩,.string ⟨#[97,110,100]⟩,.string ⟨#[111,114]⟩,.string ⟨#[120,111,114]⟩] 9 (0,0));simpa using this);have kW:(((w1.alloc (.cells #[.string ⟨#[]⟩,.string ⟨#[97,100,100]⟩,.string ⟨#[115,117,98]⟩,.string ⟨#[109,117,108]⟩,.string ⟨#[100,105,118]⟩,.string ⟨#[109,111,100]⟩,.string ⟨#[109,105,110]⟩,.string ⟨#[109,97,120]⟩,.string ⟨#[108,101,115,115]⟩,.string ⟨#[101,113]⟩,.string ⟨#[97,110,100]⟩,.string ⟨#[111,114]⟩,.string ⟨#[120,111,114]⟩,.string ⟨#[110,101,103]⟩,.string ⟨#[110,111,116]⟩] 9 (0,0))).alloc (.cells #[.string ⟨#[]⟩,.string ⟨#[43]⟩,.string ⟨#[45]⟩,.string ⟨#[42]⟩,.string ⟨#[47]⟩,.string ⟨#[37]⟩,.string ⟨#[]⟩,.string ⟨#[]⟩,.string ⟨#[60]⟩,.string ⟨#[61,61]⟩,.string ⟨#[97,110,100]⟩,.string ⟨#[111,114]⟩,.string ⟨#[120,111,114]⟩] 9 (0,0))).alloc (.cells #[.string ⟨#[]⟩,.string ⟨#[]⟩,.string ⟨#[]⟩,.string ⟨#[]⟩,.string ⟨#[]⟩,.string ⟨#[]⟩,.string ⟨#[]⟩,.string ⟨#[109,97,112]⟩,.string ⟨#[102,111,108,100]⟩,.string ⟨#[115,99,97,110]⟩,.string ⟨#[102,105,108,108]⟩,.string ⟨#[]⟩,.string ⟨#[119,105,116,104]⟩,.string ⟨#[115,108,105,99,101]⟩,.string ⟨#[99,97,116]⟩,.string ⟨#[112,114,101]⟩] 9 (0,0))).heap[w1.heap.size+1+1]?=some (.cells #[.string ⟨#[]⟩,.string ⟨#[]⟩,.string ⟨#[]⟩,.string ⟨#[]⟩,.string ⟨#[]⟩,.string ⟨#[]⟩,.string ⟨#[]⟩,.string ⟨#[109,97,112]⟩,.string ⟨#[102,111,108,100]⟩,.string ⟨#[115,99,97,110]⟩,.string ⟨#[102,105,108,108]⟩,.string ⟨#[]⟩,.string ⟨#[119,105,116,104]⟩,.string ⟨#[115,108,105,99,101]⟩,.string ⟨#[99,97,116]⟩,.string ⟨#[112,114,101]⟩] 9 (0,0)):=(by have:=heap_new ((w1.alloc (.cells #[.string ⟨#[]⟩,.string ⟨#[97,100,100]⟩,.string ⟨#[115,117,98]⟩,.string ⟨#[109,117,108]⟩,.string ⟨#[100,105,118]⟩,.string ⟨#[109,111,100]⟩,.string ⟨#[109,105,110]⟩,.string ⟨#[109,97,120]⟩,.string ⟨#[108,101,115,115]⟩,.string ⟨#[101,113]⟩,.string ⟨#[97,110,100]⟩,.string ⟨#[111,114]⟩,.string ⟨#[120,111,114]⟩,.string ⟨#[110,101,103]⟩,.string ⟨#[110,111,116]⟩] 9 (0,0))).alloc (.cells #[.string ⟨#[]⟩,.string ⟨#[43]⟩,.string ⟨#[45]⟩,.string ⟨#[42]⟩,.string ⟨#[47]⟩,.string ⟨#[37]⟩,.string ⟨#[]⟩,.string ⟨#[]⟩,.string ⟨#[60]⟩,.string ⟨#[61,61]⟩,.string ⟨#[97,110,100]⟩,.string ⟨#[111,114]⟩,.string ⟨#[120,111,114]⟩] 9 (0,0))) (.cells #[.string ⟨#[]⟩,.string ⟨#[]⟩,.string ⟨#[]⟩,.string ⟨#[]⟩,.string ⟨#[]⟩,.string ⟨#[]⟩,.string ⟨#[]⟩,.string ⟨#[109,97,112]⟩,.string ⟨#[102,111,108,100]⟩,.string ⟨#[115,99,97,110]⟩,.string ⟨#[102,105,108,108]⟩,.string ⟨#[]⟩,.string ⟨#[119,105,116,104]⟩,.string ⟨#[115,108,105,99,101]⟩,.string ⟨#[99,97,116]⟩,.string ⟨#[112,114,101]⟩] 9 (0,0));simpa using this);generalize (((w1.alloc (.cells #[.string ⟨#[]⟩,.string ⟨#[97,100,100]⟩,.string ⟨#[115,117,98]⟩,.string ⟨#[109,117,108]⟩,.string ⟨#[100,105,118]⟩,.string ⟨#[109,111,100]⟩,.string ⟨#[109,105,110]⟩,.string ⟨#[109,97,120]⟩,.string ⟨#[108,101,115,115]⟩,.string ⟨#[101,113]⟩,.string ⟨#[97,110,100]⟩,.string ⟨#[111,114]⟩,.string ⟨#[120,111,114]⟩,.string ⟨#[110,101,103]⟩,.string ⟨#[110,111,116]⟩] 9 (0,0))).alloc (.cells #[.string ⟨#[]⟩,.string ⟨#[43]⟩,.string ⟨#[45]⟩,.string ⟨#[42]⟩,.string ⟨#[47]⟩,.string ⟨#[37]⟩,.string ⟨#[]⟩,.string ⟨#[]⟩,.string ⟨#[60]⟩,.string ⟨#[61,61]⟩,.string ⟨#[97,110,100]⟩,.string ⟨#[111,114]⟩,.string ⟨#[120,111,114]⟩] 9 (0,0))).alloc (.cells #[.string ⟨#[]⟩,.string ⟨#[]⟩,.string ⟨#[]⟩,.string ⟨#[]⟩,.string ⟨#[]⟩,.string ⟨#[]⟩,.string ⟨#[]⟩,.string ⟨#[109,97,112]⟩,.string ⟨#[102,111,108,100]⟩,.string ⟨#[115,99,97,110]⟩,.string ⟨#[102,105,108,108]⟩,.string ⟨#[]⟩,.string ⟨#[119,105,116,104]⟩,.string ⟨#[115,108,105,99,101]⟩,.string ⟨#[99,97,116]⟩,.string ⟨#[112,114,101]⟩] 9 (0,0)))=W at B4 kL4 kO kS kW bB ⊢;have htW:=htab.under B4;clear bB kL;go_cut [9] (fun v9 wc=>v9=.string X∧Below w.heap.size w wc)
 case rest=>
  obtain ⟨rfl,BC⟩:=hcut;by_cases hle:must≤r
  ·have hRR:=HR.out
   rw [if_pos hle] at hRR;have hlI:¬r<must:=(by omega);clear HR HXE HXS HRK;have HE:=hide hRR;clear hRR;go_wp2;go_ret;exact ⟨by rw [HE.out];rfl,BC⟩
  ·have hRR:=HR.out
   rw [if_neg hle] at hRR;have hlI:r<must:=(by omega);have hR2:1+X.size+1≤1000000000000000000:=by
    have:=hRs;rw [hRR] at this;simp only [ByteArray.size_append,sz_lit1] at this;exact this
   have HE:=hide hRR;clear HR HXE HXS hRR HRK;go_wp2;go_ret;exact ⟨by rw [HE.out];rfl,BC⟩
 case first=>
  have q0:=co kL4 0;have q1:=co kL4 1;have q2:=co kL4 2;have q3:=co kL4 3;have q4:=co kL4 4;have q5:=co kL4 5;simp at q0 q1 q2 q3 q4 q5;clear HR hRs;have hX0:=HXE.out;rw [Tx.bare] at hX0;unfold Tx.bareOf at hX0;have HX0:=hide hX0;clear hX0 HXE;by_cases c1:op=1
  ·have hXX:X=Tx.num n:=by rw [HX0.out,if_pos c1];exact Tx.cat_one _
   clear HX0 HXS HRK hun hbin hl1 hl2 hs1 hk1 hk2;subst c1;go_wp2_with fail;refine (formatInt_any n (by omega) (by omega) W htW).mono ?_;rintro e w2 ⟨rfl,b2⟩;go_wp2_with fail;go_meet
   case rel=>exact ⟨by rw [hXX],B4.trans (b2.mono B4.size)⟩
  by_cases c2:op=2
  ·by_cases hn:n=1
   ·have hXX:X=⟨#[116,114,117,101]⟩:=by rw [HX0.out,if_neg c1,if_pos c2,if_pos hn];exact Tx.cat_one _
    clear HX0 HXS HRK hun hbin hl1 hl2 hs1 hk1 hk2 c1;subst c2 hn;go_wp2_with fail;go_meet
    case rel=>exact ⟨by rw [hXX],B4⟩
   ·have hXX:X=⟨#[102,97,108,115,101]⟩:=by rw [HX0.out,if_neg c1,if_pos c2,if_neg hn];exact Tx.cat_one _
    have hnb:(n==1)=false:=(by simp [hn]);clear HX0 HXS HRK hun hbin hl1 hl2 hs1 hk1 hk2 c1;subst c2;go_wp2_with fail;go_meet
    case rel=>exact ⟨by rw [hXX],B4⟩
  by_cases c3:op=3
  ·have hXX:X=name:=by rw [HX0.out,if_neg c1,if_neg c2,if_pos c3];exact Tx.cat_one _
   clear HX0 HXS HRK hun hbin hl1 hl2 hs1 hk1 hk2 c1 c2;subst c3;go_wp2_with fail;go_meet
   case rel=>exact ⟨by rw [hXX],B4⟩
  by_cases c4:op=4
  ·have hsh:(Rn.shp op.toNat).2.1=1∧(Rn.shp op.toNat).2.2.1=1:=by subst c4;decide
   obtain ⟨e0,rfl⟩:=len1 (l:=L) (by omega);have hfx:Tx.fitX (Tx.partP e0 6):=by
    have h:=HXS.out;rw [Tx.bare] at h;unfold Tx.bareOf at h;rw [if_neg c1,if_neg c2,if_neg c3,if_pos c4] at h;exact h.right
   have hXX:X=(Tx.opT k.toNat).2.1++Tx.cat (Tx.partP e0 6):=(by rw [HX0.out,if_neg c1,if_neg c2,if_neg c3,if_pos c4,Tx.cat_append,Tx.cat_one];rfl);have hD0:=hD e0 (by simp);obtain ⟨hnL,hcc1,hcc2,bL,oL,hao,hget⟩:=hLx.getB (by simp);subst hao;simp at hnL;subst hnL;unfold maxLen at hcc2;obtain ⟨y0,hx0,hy0⟩:=hget 0 (by simp);simp only [List.getElem_cons_zero,List.getElem_cons_succ] at hx0;have hp0:=fun (V:World) (b:Below w.heap.size w V) (must:Int) (h0:0≤must) (h8:must≤8) (hX:Tx.fitX (Tx.partP e0 must))=>hD0 ok V y0 must (hx0.under b) (htab.under b) h0 h8 hX;obtain ⟨o0,k0_,n0_,s0_,aS0,nS0,cS0,aL0,nL0,cL0⟩:=y0
   dsimp only at hp0 hy0
   clear hget hLx hD;have hc0:=hp0 W B4 6 (by omega) (by omega) hfx;obtain ⟨d0,d1,d2,d3,d4,d5⟩:=hy0 W B4;simp at d0 d1 d2 d3 d4 d5;generalize Tx.cat (Tx.partP e0 6)=T0 at hXX hc0;have hk:=hun c4;clear HX0 HXS HRK hun hbin hl1 hl2 hs1 hk1 hk2 c1 c2 c3 hsh;subst c4;rcases hk with rfl | rfl
   ·have hXX2:X=⟨#[45]⟩++T0:=hXX
    have hs2:1+T0.size≤1000000000000000000:=(by have:=hXsz;rw [hXX2,ByteArray.size_append,sz_lit1] at this;exact this);clear hXX hXsz;have HE:=hide hXX2;clear hXX2;go_wp2_with fail;refine hc0.mono ?_;rintro e w2 ⟨rfl,b2⟩;go_wp2_with fail;go_meet
    case rel=>exact ⟨by rw [HE.out],B4.trans (b2.mono B4.size)⟩
   ·have hXX2:X=⟨#[110,111,116,32]⟩++T0:=hXX
    have hs2:4+T0.size≤1000000000000000000:=(by have:=hXsz;rw [hXX2,ByteArray.size_append,show (⟨#[110,111,116,32]⟩:ByteArray).size=4 from rfl] at this;exact this);clear hXX hXsz;have HE:=hide hXX2;clear hXX2;go_wp2_with fail;refine hc0.mono ?_;rintro e w2 ⟨rfl,b2⟩;go_wp2_with fail;go_meet
    case rel=>exact ⟨by rw [HE.out],B4.trans (b2.mono B4.size)⟩
  omega
end Go.Proofs.YtophfbefnaelfaaGreatDoor
