import Derived.Test.YtophfbefnaelfaaGreatDoorM29
import Derived.Test.YtophfbefnaelfaaGreatDoorM37
set_option linter.unusedVariables false
set_option linter.unusedSimpArgs false
set_option maxHeartbeats 64000000
set_option maxRecDepth 100000
namespace Go.Proofs.YtophfbefnaelfaaGreatDoor
open Go.RowKit Go.IntWalk
namespace Tx
def fitX (l:List ByteArray):Prop:=(cat l).size≤1000000000000000000
theorem fitX.left {a b:List ByteArray} (h:fitX (a++b)):fitX a:=by unfold fitX at *;rw [cat_append,ByteArray.size_append] at h;omega
theorem fitX.right {a b:List ByteArray} (h:fitX (a++b)):fitX b:=by unfold fitX at *;rw [cat_append,ByteArray.size_append] at h;omega
theorem fitX.mid {α:Type} {g:Nat→α→List ByteArray} {l:List α} (h:fitX (rowP g 0 l)) {i:Nat} (hi:i<l.length):fitX (rowP g 0 (l.take i)++g i l[i]):=by
 have e:l=l.take (i+1)++l.drop (i+1):=(List.take_append_drop _ l).symm;rw [←rowP_take g l i hi];rw [show rowP g 0 l=rowP g 0 (l.take (i+1)++l.drop (i+1)) by rw [←e],rowP_append] at h;exact h.left
theorem cat_take {α:Type} (g:Nat→α→List ByteArray) (l:List α) (i:Nat) (h:i<l.length):cat (rowP g 0 (l.take (i+1)))=cat (rowP g 0 (l.take i))++cat (g i l[i]):=by
 rw [rowP_take g l i h,cat_append]
end Tx
theorem TabN.under {w w':World} (h:TabN w) (b:Below w.heap.size w w'):TabN w':=h.keep (b.block 1 h.lt)
theorem bs_empty:(⟨#[]⟩:ByteArray)=ByteArray.empty:=rfl
theorem namesText_any {ok:Nat→Prop} {w:World} {v:Value} {l:List ByteArray} (hl:HNames ok w v l) (hX:Tx.fitX (Tx.commas Tx.wordP l)) :
  Calls Tryz.prog 36 #[v] w fun e w'=>e=.returned (.string (Tx.cat (Tx.commas Tx.wordP l)))∧w'=w:=by
 obtain ⟨ao,cap,rfl,hc1,hc2,hat⟩:=hl.at;unfold maxLen at hc2;obtain ⟨R,hR⟩:=nmQ (Tx.cat (Tx.commas Tx.wordP l));rw [←hR];have HR:=hide hR;have HX:=hide hX;have HAT:=hide hat;clear hR hX hat hl;obtain ⟨n,hn⟩:=nmQ (l.length);rw [←hn] at hc1 ⊢;have HN:=hide hn;clear hn;go_enter Tryz.func36,Tryz.ntmps36;go_wp2_with fail;go_loopg [3,4] n (fun k v3 v4 wr=>∃ i,i≤n∧k=n-i∧v4=.int .i64 (i:Nat)∧(∃ s,v3=.string s∧Hid (s=Tx.cat (Tx.rowP (Tx.comma Tx.wordP) 0 (l.take i))))∧wr=w)
 case atStart=>exact ⟨0,Nat.zero_le _,rfl,rfl,⟨_,rfl,hide (by rfl)⟩,rfl⟩
 case round=>
  obtain ⟨i,hi,rfl,rfl,⟨s,rfl,H⟩,rfl⟩:=hrel;by_cases hlt:i<n
  case neg=>
   have hin:i=n:=(by omega);subst hin;have hs:s=R:=(by rw [H.out,HR.out,List.take_of_length_le (by have:=HN.out;omega)];rfl);clear H HR;subst hs;go_wp2;go_ret;exact ⟨rfl,rfl⟩
  case pos=>
   have hil:i<l.length:=(by have:=HN.out;omega);have HY:=hide (Tx.cat_take (Tx.comma Tx.wordP) l i hil);have hM:=HX.out.mid hil;unfold Tx.fitX at hM;rw [Tx.cat_append,←H.out,ByteArray.size_append] at hM;obtain ⟨bl,o,e5,hbl,hcell⟩:=HAT.out i hil;subst e5;generalize l[i]=x at HY hM hcell;by_cases hi0:i=0
   ·have hi0I:¬(0:Int)<(i:Int):=by omega
    have hcm:Tx.cat (Tx.comma Tx.wordP i x)=x:=(by rw [Tx.comma,if_pos hi0];exact Tx.cat_one x);have HI0:=hide hi0;clear hi0;rw [hcm] at hM HY;clear hcm;go_wp2_with fail;go_roundg (n-(i+1))
    case measure=>omega
    case rel=>exact ⟨i+1,by omega,rfl,by go_num,⟨_,rfl,hide (by rw [HY.out,←H.out])⟩,rfl⟩
   ·have hi0I:(0:Int)<(i:Int):=by omega
    have hcm:Tx.cat (Tx.comma Tx.wordP i x)=⟨#[44,32]⟩++x:=(by rw [Tx.comma,if_neg hi0,Tx.cat_append,Tx.cat_one];exact congrArg _ (Tx.cat_one x));rw [hcm] at hM HY;clear hcm;have hM2:s.size+2+x.size≤1000000000000000000:=(by rw [ByteArray.size_append,show (⟨#[44,32]⟩:ByteArray).size=2 from rfl] at hM;omega);clear hM;go_wp2_with fail;go_roundg (n-(i+1))
    case measure=>omega
    case rel=>exact ⟨i+1,by omega,rfl,by go_num,⟨_,rfl,hide (by rw [HY.out,←H.out,ByteArray.append_assoc])⟩,rfl⟩
theorem sizeText_any {ok:Nat→Prop} {w:World} {v:Value} {l:List Tm} (hl:HTerms ok w v l) (htab:TabN w) (hs:∀ x ∈ l,okT x) (hX:Tx.fitX (Tx.sizeP l)) :
  Calls Tryz.prog 53 #[v] w fun e w'=>e=.returned (.string (Tx.cat (Tx.sizeP l)))∧Below w.heap.size w w':=by
 obtain ⟨ao,cap,rfl,hc1,hc2,_⟩:=hl.at;unfold maxLen at hc2;obtain ⟨R,hR⟩:=nmQ (Tx.cat (Tx.sizeP l));rw [←hR];have HR:=hide hR;have HX:=hide hX;have HS:=hide hs;have HL:=hide hl;clear hR hX hl hs;obtain ⟨n,hn⟩:=nmQ (l.length);rw [←hn] at hc1 HL ⊢;have HN:=hide hn;clear hn;go_enter Tryz.func53,Tryz.ntmps53;go_wp2_with fail;go_loopg [3,4] n (fun k v3 v4 wr=>∃ i,i≤n∧k=n-i∧v4=.int .i64 (i:Nat)∧(∃ s,v3=.string s∧Hid (s=Tx.cat (Tx.rowP Tx.sizeAt 0 (l.take i))))∧Below w.heap.size w wr)
 case atStart=>exact ⟨0,Nat.zero_le _,rfl,rfl,⟨_,rfl,hide (by rfl)⟩,Below.refl _ _⟩
 case round=>
  obtain ⟨i,hi,rfl,rfl,⟨s,rfl,H⟩,br⟩:=hrel;by_cases hlt:i<n
  case neg=>
   have hin:i=n:=(by omega);subst hin;have hs:s=R:=(by rw [H.out,HR.out,List.take_of_length_le (by have:=HN.out;omega)];rfl);clear H HR;subst hs;go_wp2;go_ret;exact ⟨rfl,br⟩
  case pos=>
   have hil:i<l.length:=(by have:=HN.out;omega);have HY:=hide (Tx.cat_take Tx.sizeAt l i hil);have hM:=HX.out.mid hil;unfold Tx.fitX at hM;rw [Tx.cat_append,←H.out,ByteArray.size_append] at hM;have hsi:=HS.out l[i] (List.getElem_mem hil);obtain ⟨ao',cap',e1,_,_,hat⟩:=(HL.out.under br).at;injection e1 with e2 e3 e4;subst e2 e4;obtain ⟨bl,o,e5,hbl,d0,d1⟩:=hat i hil;subst e5;clear hat e3;have htr:=htab.under br;generalize l[i]=x at HY hM hsi d0 d1;obtain ⟨z,nm⟩:=x;obtain ⟨z0,z1,hnm⟩:=hsi
   dsimp only at d0 d1 z0 z1 hnm
   unfold okS at hnm;obtain ⟨m,hm⟩:=nmQ (Tx.abs z);have hmr:m<1000000000000000000∧0≤m:=by rw [hm];unfold Tx.abs;split<;>omega
   have hnsz:=num_size m (by omega) hmr.1;have hsS:s.size≤1000000000000000000:=(by omega);clear hM;by_cases hneg:z<0
   ·have hmz:m = -z:=by rw [hm];unfold Tx.abs;rw [if_pos hneg]
    have hmz2 : -z=m:=hmz.symm;by_cases hi0:i=0
    ·have hi0I:¬(0:Int)<(i:Int):=by omega
     have hi1I:((i:Int)==0)=true:=(by simp [hi0]);have hsg:Tx.signP z (decide (i=0))=⟨#[45]⟩:=(by simp [Tx.signP,hi0,hneg]);have HI0:=hide hi0;clear hi0;by_cases hz:nm.size=0
     ·have hse:nm=⟨#[]⟩:=ByteArray.ext (Array.eq_empty_of_size_eq_zero hz)
      have HE:Hid (Tx.cat (Tx.sizeAt i (z,nm))=⟨#[45]⟩++Tx.num m):=hide (by unfold Tx.sizeAt Tx.termP;dsimp only;rw [hsg,if_pos hz,←hm,Tx.cat_append,Tx.cat_one,Tx.cat_one]);clear hsg;have HM:=hide hm;clear hm hmz;subst hse;go_wp2_with fail;refine (formatInt_any m (by omega) (by omega) wr htr).mono ?_;rintro e w2 ⟨rfl,b2⟩;have B2:=br.trans (b2.mono br.size);have q0:=(b2.cell (p:=⟨bl,o+i*2,none⟩) hbl).trans d0;have q1:=(b2.cell (p:=⟨bl,o+i*2+1,none⟩) hbl).trans d1;go_wp2_with fail;go_roundg (n-(i+1))
      case measure=>omega
      case rel=>exact ⟨i+1,by omega,rfl,by go_num,⟨_,rfl,hide (by rw [HY.out,←H.out,HE.out];simp only [ByteArray.append_assoc,bs_empty,ByteArray.append_empty,ByteArray.empty_append])⟩,B2⟩
     have hne:=str_ne hz;have hne2:(nm.toList != [])=true:=(by simp only [bne,hne];rfl);by_cases h11:m=1
     ·have HE:Hid (Tx.cat (Tx.sizeAt i (z,nm))=⟨#[45]⟩++nm):=hide (by unfold Tx.sizeAt Tx.termP;dsimp only;rw [hsg,if_neg hz,←hm,if_pos h11,Tx.cat_append,Tx.cat_one,Tx.cat_one])
      clear hsg;have h11b:(m != 1)=false:=(by simp [h11]);have H11:=hide h11;clear h11;have HM:=hide hm;clear hm hmz;go_wp2_with fail;go_roundg (n-(i+1))
      case measure=>omega
      case rel=>exact ⟨i+1,by omega,rfl,by go_num,⟨_,rfl,hide (by rw [HY.out,←H.out,HE.out];simp only [ByteArray.append_assoc,bs_empty,ByteArray.append_empty,ByteArray.empty_append])⟩,br⟩
     ·have HE:Hid (Tx.cat (Tx.sizeAt i (z,nm))=⟨#[45]⟩++(Tx.num m++(⟨#[42]⟩++nm))):=hide (by unfold Tx.sizeAt Tx.termP;dsimp only;rw [hsg,if_neg hz,←hm,if_neg h11,Tx.cat_append,Tx.cat_one];simp only [Tx.cat,ByteArray.append_empty])
      clear hsg;have h11b:(m != 1)=true:=(by simp [h11]);have HM:=hide hm;clear hm hmz;go_wp2_with fail;refine (formatInt_any m (by omega) (by omega) wr htr).mono ?_;rintro e w2 ⟨rfl,b2⟩;have B2:=br.trans (b2.mono br.size);have q0:=(b2.cell (p:=⟨bl,o+i*2,none⟩) hbl).trans d0;have q1:=(b2.cell (p:=⟨bl,o+i*2+1,none⟩) hbl).trans d1;go_wp2_with fail;go_roundg (n-(i+1))
      case measure=>omega
      case rel=>exact ⟨i+1,by omega,rfl,by go_num,⟨_,rfl,hide (by rw [HY.out,←H.out,HE.out];simp only [ByteArray.append_assoc,bs_empty,ByteArray.append_empty,ByteArray.empty_append])⟩,B2⟩
    ·have hi0I:(0:Int)<(i:Int):=by omega
     have hi1I:((i:Int)==0)=false:=(by simp [hi0]);have hsg:Tx.signP z (decide (i=0))=⟨#[32,45,32]⟩:=(by simp [Tx.signP,hi0,hneg]);have HI0:=hide hi0;clear hi0;by_cases hz:nm.size=0
     ·have hse:nm=⟨#[]⟩:=ByteArray.ext (Array.eq_empty_of_size_eq_zero hz)
      have HE:Hid (Tx.cat (Tx.sizeAt i (z,nm))=⟨#[32,45,32]⟩++Tx.num m):=hide (by unfold Tx.sizeAt Tx.termP;dsimp only;rw [hsg,if_pos hz,←hm,Tx.cat_append,Tx.cat_one,Tx.cat_one]);clear hsg;have HM:=hide hm;clear hm hmz;subst hse;go_wp2_with fail;refine (formatInt_any m (by omega) (by omega) wr htr).mono ?_;rintro e w2 ⟨rfl,b2⟩;have B2:=br.trans (b2.mono br.size);have q0:=(b2.cell (p:=⟨bl,o+i*2,none⟩) hbl).trans d0;have q1:=(b2.cell (p:=⟨bl,o+i*2+1,none⟩) hbl).trans d1;go_wp2_with fail;go_roundg (n-(i+1))
      case measure=>omega
      case rel=>exact ⟨i+1,by omega,rfl,by go_num,⟨_,rfl,hide (by rw [HY.out,←H.out,HE.out];simp only [ByteArray.append_assoc,bs_empty,ByteArray.append_empty,ByteArray.empty_append])⟩,B2⟩
     have hne:=str_ne hz;have hne2:(nm.toList != [])=true:=(by simp only [bne,hne];rfl);by_cases h11:m=1
     ·have HE:Hid (Tx.cat (Tx.sizeAt i (z,nm))=⟨#[32,45,32]⟩++nm):=hide (by unfold Tx.sizeAt Tx.termP;dsimp only;rw [hsg,if_neg hz,←hm,if_pos h11,Tx.cat_append,Tx.cat_one,Tx.cat_one])
      clear hsg;have h11b:(m != 1)=false:=(by simp [h11]);have H11:=hide h11;clear h11;have HM:=hide hm;clear hm hmz;go_wp2_with fail;go_roundg (n-(i+1))
      case measure=>omega
      case rel=>exact ⟨i+1,by omega,rfl,by go_num,⟨_,rfl,hide (by rw [HY.out,←H.out,HE.out];simp only [ByteArray.append_assoc,bs_empty,ByteArray.append_empty,ByteArray.empty_append])⟩,br⟩
     ·have HE:Hid (Tx.cat (Tx.sizeAt i (z,nm))=⟨#[32,45,32]⟩++(Tx.num m++(⟨#[42]⟩++nm))):=hide (by unfold Tx.sizeAt Tx.termP;dsimp only;rw [hsg,if_neg hz,←hm,if_neg h11,Tx.cat_append,Tx.cat_one];simp only [Tx.cat,ByteArray.append_empty])
      clear hsg;have h11b:(m != 1)=true:=(by simp [h11]);have HM:=hide hm;clear hm hmz;go_wp2_with fail;refine (formatInt_any m (by omega) (by omega) wr htr).mono ?_;rintro e w2 ⟨rfl,b2⟩;have B2:=br.trans (b2.mono br.size);have q0:=(b2.cell (p:=⟨bl,o+i*2,none⟩) hbl).trans d0;have q1:=(b2.cell (p:=⟨bl,o+i*2+1,none⟩) hbl).trans d1;go_wp2_with fail;go_roundg (n-(i+1))
      case measure=>omega
      case rel=>exact ⟨i+1,by omega,rfl,by go_num,⟨_,rfl,hide (by rw [HY.out,←H.out,HE.out];simp only [ByteArray.append_assoc,bs_empty,ByteArray.append_empty,ByteArray.empty_append])⟩,B2⟩
   ·have hmz:m=z:=by rw [hm];unfold Tx.abs;rw [if_neg hneg]
    have hnegI:¬z<0:=hneg;have hmz2:z=m:=hmz.symm;by_cases hi0:i=0
    ·have hi0I:¬(0:Int)<(i:Int):=by omega
     have hi1I:((i:Int)==0)=true:=(by simp [hi0]);have hsg:Tx.signP z (decide (i=0))=⟨#[]⟩:=(by simp [Tx.signP,hi0,hneg]);have HI0:=hide hi0;clear hi0;by_cases hz:nm.size=0
     ·have hse:nm=⟨#[]⟩:=ByteArray.ext (Array.eq_empty_of_size_eq_zero hz)
      have HE:Hid (Tx.cat (Tx.sizeAt i (z,nm))=⟨#[]⟩++Tx.num m):=hide (by unfold Tx.sizeAt Tx.termP;dsimp only;rw [hsg,if_pos hz,←hm,Tx.cat_append,Tx.cat_one,Tx.cat_one]);clear hsg;have HM:=hide hm;clear hm hmz;subst hmz2;subst hse;go_wp2_with fail;refine (formatInt_any z (by omega) (by omega) wr htr).mono ?_;rintro e w2 ⟨rfl,b2⟩;have B2:=br.trans (b2.mono br.size);have q0:=(b2.cell (p:=⟨bl,o+i*2,none⟩) hbl).trans d0;have q1:=(b2.cell (p:=⟨bl,o+i*2+1,none⟩) hbl).trans d1;go_wp2_with fail;go_roundg (n-(i+1))
      case measure=>omega
      case rel=>exact ⟨i+1,by omega,rfl,by go_num,⟨_,rfl,hide (by rw [HY.out,←H.out,HE.out];simp only [ByteArray.append_assoc,bs_empty,ByteArray.append_empty,ByteArray.empty_append])⟩,B2⟩
     have hne:=str_ne hz;have hne2:(nm.toList != [])=true:=(by simp only [bne,hne];rfl);by_cases h11:m=1
     ·have HE:Hid (Tx.cat (Tx.sizeAt i (z,nm))=⟨#[]⟩++nm):=hide (by unfold Tx.sizeAt Tx.termP;dsimp only;rw [hsg,if_neg hz,←hm,if_pos h11,Tx.cat_append,Tx.cat_one,Tx.cat_one])
      clear hsg;have h11b:(m != 1)=false:=(by simp [h11]);have H11:=hide h11;clear h11;have HM:=hide hm;clear hm hmz;subst hmz2;go_wp2_with fail;go_roundg (n-(i+1))
      case measure=>omega
      case rel=>exact ⟨i+1,by omega,rfl,by go_num,⟨_,rfl,hide (by rw [HY.out,←H.out,HE.out];simp only [ByteArray.append_assoc,bs_empty,ByteArray.append_empty,ByteArray.empty_append])⟩,br⟩
     ·have HE:Hid (Tx.cat (Tx.sizeAt i (z,nm))=⟨#[]⟩++(Tx.num m++(⟨#[42]⟩++nm))):=hide (by unfold Tx.sizeAt Tx.termP;dsimp only;rw [hsg,if_neg hz,←hm,if_neg h11,Tx.cat_append,Tx.cat_one];simp only [Tx.cat,ByteArray.append_empty])
      clear hsg;have h11b:(m != 1)=true:=(by simp [h11]);have HM:=hide hm;clear hm hmz;subst hmz2;go_wp2_with fail;refine (formatInt_any z (by omega) (by omega) wr htr).mono ?_;rintro e w2 ⟨rfl,b2⟩;have B2:=br.trans (b2.mono br.size);have q0:=(b2.cell (p:=⟨bl,o+i*2,none⟩) hbl).trans d0;have q1:=(b2.cell (p:=⟨bl,o+i*2+1,none⟩) hbl).trans d1;go_wp2_with fail;go_roundg (n-(i+1))
      case measure=>omega
      case rel=>exact ⟨i+1,by omega,rfl,by go_num,⟨_,rfl,hide (by rw [HY.out,←H.out,HE.out];simp only [ByteArray.append_assoc,bs_empty,ByteArray.append_empty,ByteArray.empty_append])⟩,B2⟩
    ·have hi0I:(0:Int)<(i:Int):=by omega
     have hi1I:((i:Int)==0)=false:=(by simp [hi0]);have hsg:Tx.signP z (decide (i=0))=⟨#[32,43,32]⟩:=(by simp [Tx.signP,hi0,hneg]);have HI0:=hide hi0;clear hi0;by_cases hz:nm.size=0
     ·have hse:nm=⟨#[]⟩:=ByteArray.ext (Array.eq_empty_of_size_eq_zero hz)
      have HE:Hid (Tx.cat (Tx.sizeAt i (z,nm))=⟨#[32,43,32]⟩++Tx.num m):=hide (by unfold Tx.sizeAt Tx.termP;dsimp only;rw [hsg,if_pos hz,←hm,Tx.cat_append,Tx.cat_one,Tx.cat_one]);clear hsg;have HM:=hide hm;clear hm hmz;subst hmz2;subst hse;go_wp2_with fail;refine (formatInt_any z (by omega) (by omega) wr htr).mono ?_;rintro e w2 ⟨rfl,b2⟩;have B2:=br.trans (b2.mono br.size);have q0:=(b2.cell (p:=⟨bl,o+i*2,none⟩) hbl).trans d0;have q1:=(b2.cell (p:=⟨bl,o+i*2+1,none⟩) hbl).trans d1;go_wp2_with fail;go_roundg (n-(i+1))
      case measure=>omega
      case rel=>exact ⟨i+1,by omega,rfl,by go_num,⟨_,rfl,hide (by rw [HY.out,←H.out,HE.out];simp only [ByteArray.append_assoc,bs_empty,ByteArray.append_empty,ByteArray.empty_append])⟩,B2⟩
     have hne:=str_ne hz;have hne2:(nm.toList != [])=true:=(by simp only [bne,hne];rfl);by_cases h11:m=1
     ·have HE:Hid (Tx.cat (Tx.sizeAt i (z,nm))=⟨#[32,43,32]⟩++nm):=hide (by unfold Tx.sizeAt Tx.termP;dsimp only;rw [hsg,if_neg hz,←hm,if_pos h11,Tx.cat_append,Tx.cat_one,Tx.cat_one])
      clear hsg;have h11b:(m != 1)=false:=(by simp [h11]);have H11:=hide h11;clear h11;have HM:=hide hm;clear hm hmz;subst hmz2;go_wp2_with fail;go_roundg (n-(i+1))
      case measure=>omega
      case rel=>exact ⟨i+1,by omega,rfl,by go_num,⟨_,rfl,hide (by rw [HY.out,←H.out,HE.out];simp only [ByteArray.append_assoc,bs_empty,ByteArray.append_empty,ByteArray.empty_append])⟩,br⟩
     ·have HE:Hid (Tx.cat (Tx.sizeAt i (z,nm))=⟨#[32,43,32]⟩++(Tx.num m++(⟨#[42]⟩++nm))):=hide (by unfold Tx.sizeAt Tx.termP;dsimp only;rw [hsg,if_neg hz,←hm,if_neg h11,Tx.cat_append,Tx.cat_one];simp only [Tx.cat,ByteArray.append_empty])
      clear hsg;have h11b:(m != 1)=true:=(by simp [h11]);have HM:=hide hm;clear hm hmz;subst hmz2;go_wp2_with fail;refine (formatInt_any z (by omega) (by omega) wr htr).mono ?_;rintro e w2 ⟨rfl,b2⟩;have B2:=br.trans (b2.mono br.size);have q0:=(b2.cell (p:=⟨bl,o+i*2,none⟩) hbl).trans d0;have q1:=(b2.cell (p:=⟨bl,o+i*2+1,none⟩) hbl).trans d1;go_wp2_with fail;go_roundg (n-(i+1))
      case measure=>omega
      case rel=>exact ⟨i+1,by omega,rfl,by go_num,⟨_,rfl,hide (by rw [HY.out,←H.out,HE.out];simp only [ByteArray.append_assoc,bs_empty,ByteArray.append_empty,ByteArray.empty_append])⟩,B2⟩
end Go.Proofs.YtophfbefnaelfaaGreatDoor
