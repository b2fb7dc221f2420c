import Derived.Test.YtkfgbhlpjkkgfaaGreatDoorN01
import Derived.Test.YtkfgbhlpjkkgfaaGreatDoorN00
import Derived.Deep.QuietTactic
import Derived.BigQuiet
import Derived.WalkSmall
set_option linter.unusedVariables false
set_option linter.unusedSimpArgs false
set_option maxHeartbeats 64000000
set_option maxRecDepth 100000
namespace Go.Proofs.YtkfgbhlpjkkgfaaGreatDoor
open Go.RowKit Go.IntWalk
theorem headD_eq:∀ (l:List UInt8) (h:0<l.length),l.headD 0=l[0]
 | [],h=>by simp at h
 | _ :: _,_=>rfl
theorem read_any (s:ByteArray) (w:World) (hlim:s.size≤281474976710656) :
  Calls Tryz.prog 75 #[.string s] w fun e w'=>e=.returned (gotV (Tk.read s.data.toList))∧Below w.heap.size w w':=by
 have hml:s.size≤maxLen:=(by unfold maxLen;omega);have hle:=Tk.runLen_le s.data.toList;rw [←Lib.size_eq] at hle;by_cases h0:Tk.runLen s.data.toList=0
 ·have h1:((Tk.runLen s.data.toList:Int)==0)=true:=by simp [h0]
  have HG:Hid (Tk.read s.data.toList=Tk.readSign s.data.toList):=(by show _=_;simp [Tk.read,h0]);clear h0;obtain ⟨g,hg⟩:=nmQ (Tk.readSign s.data.toList);rw [HG.out,←hg];unfold gotV;have HGG:=hide hg;clear hg HG;go_enter Tryz.func75,Tryz.ntmps75
  go_wp2_with (go_at_call 102;refine (runLength_any _ _ hml).mono ?_;rintro e w' ⟨rfl,rfl⟩)
  refine (readSign_any _ _ hlim).mono ?_;rintro e w1 ⟨he,hb⟩;rw [←unhide HGG] at he;unfold gotV at he;subst he;obtain ⟨hc,hf⟩:=bcell hb;go_wp2;have hb0:Below w.heap.size w w1:=((Below.refl _ w).alloc nR _).trans (hb.mono (by simp));exact bodyPost_ret (v:=.tuple #[.agg #[.int .i64 g.kind,.int .i64 0,.string ⟨g.text.toArray⟩,.int .i64 g.n],.int .i64 g.code]) (by simp [results,Tryz.results75,go_sem,hc]) rfl ⟨rfl,(((hb0.setCell (by simp) _).setCell (by simp) _).setCell (by simp) _).setCell (by simp) _⟩
 ·have h1:((Tk.runLen s.data.toList:Int)==0)=false:=by simp [h0]
  have hp:0<s.size:=(by omega);have hhd:s.data.toList.headD 0=s[0]:=by
   exact headD_eq s.data.toList (by rw [←Lib.size_eq];omega)
  cases hD:Tk.isD ((s[0]).toNat:Int)
  ·have HG:Hid (Tk.read s.data.toList=Tk.readName (s.extract 0 (Tk.runLen s.data.toList)).data.toList):=by show _=_;rw [extract_list];simp only [Tk.read,h0,hhd,hD];simp
   clear h0 hhd;obtain ⟨g,hg⟩:=nmQ (Tk.readName (s.extract 0 (Tk.runLen s.data.toList)).data.toList);rw [HG.out,←hg];unfold gotV;have HGG:=hide hg;clear hg HG;go_enter Tryz.func75,Tryz.ntmps75
   go_wp2_with (first
    | (go_at_call 102;refine (runLength_any _ _ hml).mono ?_;rintro e w' ⟨rfl,rfl⟩)
    | (go_at_call 104;refine (isDigit_any _ _).mono ?_;rintro e w' ⟨rfl,rfl⟩))
   refine (readWordOrName_any _ _ (by rw [ByteArray.size_extract];omega)).mono ?_;rintro e w1 ⟨he,hb⟩;rw [←unhide HGG] at he;unfold gotV at he;subst he;obtain ⟨hc,hf⟩:=bcell hb;go_wp2;have hb0:Below w.heap.size w w1:=((Below.refl _ w).alloc nR _).trans (hb.mono (by simp));exact bodyPost_ret (v:=.tuple #[.agg #[.int .i64 g.kind,.int .i64 0,.string ⟨g.text.toArray⟩,.int .i64 g.n],.int .i64 g.code]) (by simp [results,Tryz.results75,go_sem,hc]) rfl ⟨rfl,(((hb0.setCell (by simp) _).setCell (by simp) _).setCell (by simp) _).setCell (by simp) _⟩
  ·have HG:Hid (Tk.read s.data.toList=Tk.readNum (s.extract 0 (Tk.runLen s.data.toList)).data.toList):=by show _=_;rw [extract_list];simp only [Tk.read,h0,hhd,hD];simp
   clear h0 hhd;obtain ⟨g,hg⟩:=nmQ (Tk.readNum (s.extract 0 (Tk.runLen s.data.toList)).data.toList);rw [HG.out,←hg];unfold gotV;have HGG:=hide hg;clear hg HG;go_enter Tryz.func75,Tryz.ntmps75
   go_wp2_with (first
    | (go_at_call 102;refine (runLength_any _ _ hml).mono ?_;rintro e w' ⟨rfl,rfl⟩)
    | (go_at_call 104;refine (isDigit_any _ _).mono ?_;rintro e w' ⟨rfl,rfl⟩))
   refine (readNumber_any _ _ (by rw [ByteArray.size_extract];omega)).mono ?_;rintro e w1 ⟨he,hb⟩;rw [←unhide HGG] at he;unfold gotV at he;subst he;obtain ⟨hc,hf⟩:=bcell hb;go_wp2;have hb0:Below w.heap.size w w1:=((Below.refl _ w).alloc nR _).trans (hb.mono (by simp));exact bodyPost_ret (v:=.tuple #[.agg #[.int .i64 g.kind,.int .i64 0,.string ⟨g.text.toArray⟩,.int .i64 g.n],.int .i64 g.code]) (by simp [results,Tryz.results75,go_sem,hc]) rfl ⟨rfl,(((hb0.setCell (by simp) _).setCell (by simp) _).setCell (by simp) _).setCell (by simp) _⟩
end Go.Proofs.YtkfgbhlpjkkgfaaGreatDoor
namespace Go.Proofs.YtkfgbhlpjkkgfaaGreatDoor.Tk
theorem signLen_le (l:List UInt8):signLen l≤l.length:=by
 unfold signLen
 split
 ·simp
 ·rename_i c l
  split
  ·rename_i h
   cases l with
   | nil=>simp at h
   | cons d l=>simp
  ·split<;>simp
theorem read_ok (l:List UInt8) (hl:l≠[]) (h:(read l).code=0):(read l).text=l.take (read l).text.length∧0<(read l).text.length∧(read l).text.length≤l.length:=by
 have key:∀ k,0<k→k≤l.length→(read l).text=l.take k→(read l).text=l.take (read l).text.length∧0<(read l).text.length∧(read l).text.length≤l.length:=by
  intro k h0 h1 e;have el:(read l).text.length=k:=(by rw [e,List.length_take];omega);rw [el];exact ⟨e,h0,h1⟩
 have hr:=runLen_le l;have hs:=signLen_le l;by_cases h0:runLen l=0
 ·have e:read l=readSign l:=by simp [read,h0]
  rw [e] at h;by_cases h1:signLen l=0
  ·simp [readSign,h1,bad] at h
  ·exact key (signLen l) (by omega) hs (by rw [e];simp [readSign,h1])
 ·apply key (runLen l) (by omega) hr
  by_cases h1:isD ((l.headD 0).toNat:Int)=true
  ·have e:read l=readNum (l.take (runLen l)):=by unfold read;rw [if_neg h0,if_pos h1]
   rw [e] at h ⊢;unfold readNum at h ⊢
   split at h
   ·simp [bad] at h
   ·rename_i h2
    rw [if_neg h2]
    split at h
    ·rename_i h3
     rw [if_pos h3]
    ·simp [bad] at h
  ·have e:read l=readName (l.take (runLen l)):=by unfold read;rw [if_neg h0,if_neg h1]
   rw [e] at h ⊢;unfold readName at h ⊢
   split at h
   ·rename_i h2
    rw [if_pos h2]
   ·rename_i h2
    rw [if_neg h2]
    split at h
    ·simp [bad] at h
    ·rename_i h3
     rw [if_neg h3]
def comb (acc:List Tok) (q:List Tok × Int × Int):List Tok × Int × Int:=if q.2.1≠0 then ([],q.2) else (acc++q.1,0,0)
theorem scanR_fault (f:Nat) (l:List UInt8) (p:Nat) (hl:l≠[]) (h:(read l).code≠0) (acc:List Tok) :
  comb acc (scanR (f+1) l p)=([],(read l).code,(p:Int)):=by
 cases l with
 | nil=>exact absurd rfl hl
 | cons c l=>simp only [scanR];rw [if_pos h];simp [comb,h]
def nextAt (l:List UInt8):Nat:=(read l).text.length+blankLen false (l.drop (read l).text.length)
theorem scanR_step (f:Nat) (l:List UInt8) (p:Nat) (hl:l≠[]) (h:(read l).code=0) (acc:List Tok) :
  comb acc (scanR (f+1) l p)=comb (acc++[⟨(read l).kind,p,(read l).text,(read l).n⟩]) (scanR f (l.drop (nextAt l)) (p+nextAt l)):=by
 cases l with
 | nil=>exact absurd rfl hl
 | cons c l=>
  simp only [scanR];rw [if_neg (by simpa using h)];have e1:List.drop (blankLen false (List.drop (read (c :: l)).text.length (c :: l))) (List.drop (read (c :: l)).text.length (c :: l))=List.drop (nextAt (c :: l)) (c :: l):=by
   rw [List.drop_drop];rfl
  have e2:p+(read (c :: l)).text.length+blankLen false (List.drop (read (c :: l)).text.length (c :: l))=p+nextAt (c :: l):=(by unfold nextAt;omega);rw [e1,e2];generalize scanR f (List.drop (nextAt (c :: l)) (c :: l)) (p+nextAt (c :: l))=q;unfold comb;by_cases hq:q.2.1=0
  ·simp [hq]
  ·simp [hq]
theorem scanR_end (f:Nat) (p:Nat) (acc:List Tok):comb acc (scanR f [] p)=(acc,0,0):=by
 cases f<;>simp [scanR,comb]
theorem nextAt_le (l:List UInt8) (hl:l≠[]) (h:(read l).code=0):0<nextAt l∧nextAt l≤l.length:=by
 have h1:=read_ok l hl h;have h2:=blankLen_le false (l.drop (read l).text.length);rw [List.length_drop] at h2;unfold nextAt;omega
theorem scan_start (l:List UInt8) (hl:l.length≤12000):scan l=comb [] (scanR l.length (l.drop (blankLen false l)) (blankLen false l)):=by
 unfold scan;rw [if_neg (by omega)];generalize hq:scanR l.length (l.drop (blankLen false l)) (blankLen false l)=q;have key:∀ (f:Nat) (l:List UInt8) (p:Nat),(scanR f l p).2.1≠0→(scanR f l p).1=[]:=by
  intro f l p
  cases f with
  | zero=>simp [scanR]
  | succ f=>
   cases l with
   | nil=>simp [scanR]
   | cons c l=>
    simp only [scanR]
    split
    ·intro _;rfl
    ·split
     ·intro _;rfl
     ·simp
 have key2:∀ (f:Nat) (l:List UInt8) (p:Nat),(scanR f l p).2.1=0→(scanR f l p).2.2=0:=by
  intro f l p
  cases f with
  | zero=>simp [scanR]
  | succ f=>
   cases l with
   | nil=>simp [scanR]
   | cons c l=>
    simp only [scanR]
    split
    ·rename_i h;intro h';exact absurd h' h
    ·split
     ·rename_i h;intro h';exact absurd h' h
     ·simp
 have k1:=key l.length (l.drop (blankLen false l)) (blankLen false l);have k2:=key2 l.length (l.drop (blankLen false l)) (blankLen false l);rw [hq] at k1 k2;obtain ⟨a,b,c⟩:=q;unfold comb;by_cases hb:b=0
 ·subst hb;simp at k2;simp [k2]
 ·simp at k1;simp [hb,k1 hb]
end Go.Proofs.YtkfgbhlpjkkgfaaGreatDoor.Tk
namespace Go.Proofs.YtkfgbhlpjkkgfaaGreatDoor
open Go.RowKit Go.IntWalk
theorem Tryz.info119:(Tryz.prog.info? 119).map (fun i=>(i.zero,i.size,i.bytes))=some (some (.agg #[.int .i64 0,.int .i64 0,.string ⟨#[]⟩,.int .i64 0]),4,40):=by kernel_rfl
def str (l:List UInt8):ByteArray:=⟨l.toArray⟩
def tokCells (t:Tk.Tok):List Value:=[.int .i64 t.kind,.int .i64 (t.place:Int),.string (str t.text),.int .i64 t.n]
def toksCells (l:List Tk.Tok):List Value:=l.flatMap tokCells
theorem drop_extract (s:ByteArray) (p:Nat):(s.extract p s.size).data.toList=s.data.toList.drop p:=by
 rw [extract_list,List.take_of_length_le];rw [List.length_drop,←Lib.size_eq];exact Nat.le_refl _
theorem ownsRow_below {w w':World} {base:Nat} {e:TypeId} {size:Nat} {v:Value} {n:Nat} {xs:List Value} (h:w.ownsRow base e size v n xs) (hb:Below w.heap.size w w'):w'.ownsRow base e size v n xs :=
 h.kept (row:=none) ⟨hb.os,hb.tape,hb.output,hb.size,fun k hk _=>hb.block k hk⟩ (by cases hv:v.ownBlock<;>simp)
theorem res_cells {w w1:World} (h:Below (w.heap.size+1) (w.alloc (.cells #[.int .i64 0,.int .i64 0] 29)) w1) :
  w1.cell? ⟨w.heap.size,0,none⟩=some (.int .i64 0)∧w1.cell? ⟨w.heap.size,1,none⟩=some (.int .i64 0)∧w1.frozen? ⟨w.heap.size,0,none⟩=false∧w1.frozen? ⟨w.heap.size,1,none⟩=false∧w.heap.size<w1.heap.size:=by
 obtain ⟨hc,hf⟩:=bcellB h;refine ⟨?_,?_,?_,?_,?_⟩
 ·rw [hc _ _ (by omega)];simp
 ·rw [hc _ _ (by omega)];simp
 ·rw [hf _ _ (by omega)];simp
 ·rw [hf _ _ (by omega)];simp
 ·have:=h.size;simp at this;omega
theorem scan_any (s:ByteArray) (w:World) (hlim:s.size≤281474976710656) :
  Calls Tryz.prog 49 #[.string s] w fun e w'=>∃ v,e=.returned (.tuple #[v,.agg #[.int .i64 (Tk.scan s.data.toList).2.1,.int .i64 (Tk.scan s.data.toList).2.2]]) ∧
   w'.ownsRow (w.heap.size+1) 119 4 v (Tk.scan s.data.toList).1.length (toksCells (Tk.scan s.data.toList).1)∧Below w.heap.size w w':=by
 have hsz:s.data.toList.length=s.size:=(by rw [Lib.size_eq]);by_cases hbig:12000<s.size
 ·have e:Tk.scan s.data.toList=([],7,12000):=by simp [Tk.scan,hsz,hbig]
  rw [e];clear e hsz;go_enter Tryz.func49,Tryz.ntmps49;go_wp2;refine bodyPost_ret (v:=.tuple #[.slice none 0 0,.agg #[.int .i64 7,.int .i64 12000]]) (by simp [results,Tryz.results49,go_sem]) rfl ⟨_,rfl,World.ownsRow_nil _ _ _ _,?_⟩;exact (Below.refl _ _).alloc nR _
 ·have hml:s.size≤maxLen:=by unfold maxLen;omega
  have hb:=Tk.blankLen_le false s.data.toList;rw [hsz] at hb;obtain ⟨R,hR⟩:=nmQ (Tk.scan s.data.toList);have HS:Hid (R=Tk.comb [] (Tk.scanR s.data.toList.length (s.data.toList.drop (Tk.blankLen false s.data.toList)) (Tk.blankLen false s.data.toList))):=by
   show _=_
   rw [hR,←Tk.scan_start _ (by omega)]
  rw [←hR];clear hR hsz;obtain ⟨i0,hi,hz0,hz1,hz2⟩:=info_parts Tryz.info119;have hd12:decide ((12000:Int)<(s.size:Int))=false:=(by simp;omega);go_enter Tryz.func49,Tryz.ntmps49
  go_wp2_with (go_at_call 74;refine (blankLength_any _ _ hml).mono ?_;rintro e w' ⟨rfl,rfl⟩)
  go_loopw [4,5] (fun v i wr=>∃ (acc:List Tk.Tok) (p f:Nat),p≤s.size∧i=.int .i64 p∧acc.length≤p∧wr.ownsRow (w.heap.size+1) 119 4 v acc.length (toksCells acc)∧s.size-p≤f ∧
    Hid (R=Tk.comb acc (Tk.scanR f (s.data.toList.drop p) p))∧Below (w.heap.size+1) (w.alloc (.cells #[.int .i64 0,.int .i64 0] 29)) wr)
   (fun _ i _=>s.size-(intOf i).toNat)
  case atStart=>exact ⟨[],_,s.data.toList.length,hb,rfl,Nat.zero_le _,World.ownsRow_nil _ _ _ _,by rw [←Lib.size_eq];omega,HS,Below.refl _ _⟩
  case round=>
   obtain ⟨acc,p,f,hp,rfl,hacc,hown,hf,H,hbr⟩:=hrel;obtain ⟨hcr,hfr⟩:=bcellB hbr;have hzr:w.heap.size<wr.heap.size:=(by have:=hbr.size;simp at this;omega);by_cases hlt:p<s.size
   ·obtain ⟨f,rfl⟩:∃ f',f=f'+1:=⟨f-1,by omega⟩
    have hne:s.data.toList.drop p≠[]:=by
     intro e;have:=congrArg List.length e;rw [List.length_drop,←Lib.size_eq] at this;simp at this;omega
    have hstep:=Tk.scanR_step f (s.data.toList.drop p) p hne;have hfault:=Tk.scanR_fault f (s.data.toList.drop p) p hne;have hok:=Tk.read_ok (s.data.toList.drop p) hne;have hnx:=Tk.nextAt_le (s.data.toList.drop p) hne;have hnd:Tk.nextAt (s.data.toList.drop p)=(Tk.read (s.data.toList.drop p)).text.length+Tk.blankLen false (s.data.toList.drop (p+(Tk.read (s.data.toList.drop p)).text.length)):=(by unfold Tk.nextAt;rw [List.drop_drop]);rw [List.drop_drop] at hstep;rw [List.length_drop,←Lib.size_eq] at hok hnx;have HG:Hid (∃ g,g=Tk.read (s.data.toList.drop p)):=⟨_,rfl⟩;obtain ⟨g,hg⟩:=HG.out;rw [←hg] at hstep hfault hok hnx hnd;have HGG:=hide hg;clear hg HG HS hne;by_cases hcode:g.code=0
    ·have hR:R=Tk.comb (acc++[⟨g.kind,p,g.text,g.n⟩]) (Tk.scanR f (s.data.toList.drop (p+Tk.nextAt (s.data.toList.drop p))) (p+Tk.nextAt (s.data.toList.drop p))):=by rw [H.out];exact hstep hcode acc
     have hok:=hok hcode;have hnx:=hnx hcode;obtain ⟨nx,hnxe⟩:=nmQ (Tk.nextAt (s.data.toList.drop p));rw [←hnxe] at hR hnx hnd;have HR:=hide hR;obtain ⟨bl,hbl⟩:=nmQ (Tk.blankLen false (s.data.toList.drop (p+g.text.length)));rw [←hbl] at hnd;have HND:=hide hnd;have HBL:=hide hbl;have hbll:bl≤s.size-(p+g.text.length):=(by rw [hbl];have:=Tk.blankLen_le false (s.data.toList.drop (p+g.text.length));rw [List.length_drop,←Lib.size_eq] at this;exact this);clear hbl;have htl:0<g.text.length:=hok.2.1;have htl2:g.text.length≤s.size-p:=hok.2.2;clear hR hnd hstep hfault H hnxe hok;have hcb:(g.code==0)=true:=(by simpa using hcode);clear hcode;go_wp2_with fail;refine (read_any _ _ (by rw [ByteArray.size_extract];omega)).mono ?_;rintro e w1 ⟨he,hb1⟩;rw [drop_extract,←unhide HGG] at he;unfold gotV at he;subst he;have hbw:=hbr.trans (hb1.mono hzr);have hown1:=ownsRow_below hown hb1;obtain ⟨r0,r1,q0,q1,hzw⟩:=res_cells hbw;clear hcr hfr hown hbr hb1
     go_wp2_with (at_builtin;refine wpList_append_own _ rfl _ _ 92 rfl (w.heap.size+1) 119 i0 (.agg #[.int .i64 0,.int .i64 0,.string ⟨#[]⟩,.int .i64 0]) 4 40 Tryz.underlying92 hi hz0 hz1 hz2 rfl (by decide) _ _ _ rfl ((hown1.alloc _).alloc _) ⟨w1.heap.size+1,0,none⟩ 1 1 [.int .i64 g.kind,.int .i64 (p:Int),.string ⟨g.text.toArray⟩,.int .i64 g.n] rfl rfl ?c1 ?c2 ?c3 ?c4 ?c5 ?_)
     case c1=>
      intro j u hj
      match j,hj with
      | 0,hj=>simp at hj;subst hj;simp [Addr.add]
      | 1,hj=>simp at hj;subst hj;simp [Addr.add]
      | 2,hj=>simp at hj;subst hj;simp [Addr.add]
      | 3,hj=>simp at hj;subst hj;simp [Addr.add]
     case c2=>intro u hu;simp at hu;rcases hu with rfl | rfl | rfl | rfl<;>rfl
     case c3=>unfold maxLen;omega
     case c4=>omega
     case c5=>simp;omega
     intro v2 w2 hown2 hgrow _;have hlt2:=hown1.lt;have hbw2:Below (w.heap.size+1) (w.alloc (.cells #[.int .i64 0,.int .i64 0] 29)) w2:=
      ((hbw.alloc hzw _).alloc (by simp;omega) _).grown hgrow (by simp;omega) (fun k hk=>(hlt2 k hk).1)
     have hct:w2.cell? ⟨w1.heap.size,2,none⟩=some (.string ⟨g.text.toArray⟩):=
      hgrow.cell (by simp) (fun e=>by have:=(hlt2 _ e.symm).2;simp at this)
     have hown3:w2.ownsRow (w.heap.size+1) 119 4 v2 (acc++[(⟨g.kind,p,g.text,g.n⟩:Tk.Tok)]).length (toksCells (acc++[⟨g.kind,p,g.text,g.n⟩])):=by
      have e1:(acc++[(⟨g.kind,p,g.text,g.n⟩:Tk.Tok)]).length=acc.length+1:=(by simp);have e2:toksCells (acc++[(⟨g.kind,p,g.text,g.n⟩:Tk.Tok)])=toksCells acc++[Value.int .i64 g.kind,.int .i64 (p:Int),.string ⟨g.text.toArray⟩,.int .i64 g.n]:=(by simp [toksCells,tokCells,str]);rw [e1,e2];exact hown2
     clear hgrow hown2 hown1 hlt2 hbw r0 r1 q0 q1;go_wp2_with fail;refine (blankLength_any _ _ (by rw [ByteArray.size_extract];unfold maxLen;omega)).mono ?_;rintro e w3 ⟨he,rfl⟩;rw [drop_extract,←unhide HBL] at he;subst he;go_wp2
     go_roundw
     case rel=>exact ⟨acc++[⟨g.kind,p,g.text,g.n⟩],p+nx,f,by omega,by rw [HND.out];go_num,by simp;omega,hown3,by omega,HR,hbw2⟩
     case measure=>simp [intOf];omega
    ·have hR:R=([],g.code,(p:Int)):=by rw [H.out];exact hfault hcode acc
     subst hR;clear hstep hfault hok hnx hnd H;have hcb:(g.code==0)=false:=(by simpa using hcode);go_wp2_with fail;refine (read_any _ _ (by rw [ByteArray.size_extract];omega)).mono ?_;rintro e w1 ⟨he,hb1⟩;rw [drop_extract,←unhide HGG] at he;unfold gotV at he;subst he;have hbw:=hbr.trans (hb1.mono hzr);obtain ⟨r0,r1,q0,q1,hzw⟩:=res_cells hbw;clear hcr hfr;go_wp2;refine bodyPost_ret (v:=.tuple #[.slice none 0 0,.agg #[.int .i64 g.code,.int .i64 (p:Int)]]) (by simp [results,Tryz.results49,go_sem,r0,r1,hzw]) rfl ⟨_,rfl,World.ownsRow_nil _ _ _ _,?_⟩;exact (((((Below.refl _ w).alloc nR _).trans (hbw.mono (Nat.le_succ _))).setCell (p:=⟨w.heap.size,0,none⟩) nR _).setCell (p:=⟨w.heap.size,1,none⟩) nR _).alloc (by simp;omega) _
   ·have hpe:p=s.size:=by omega
    subst hpe;have hR:R=(acc,0,0):=(by rw [H.out,List.drop_of_length_le (by rw [←Lib.size_eq];exact Nat.le_refl _),Tk.scanR_end]);subst hR;obtain ⟨r0,r1,q0,q1,hzw⟩:=res_cells hbr;clear hcr hfr HS H;go_wp2;refine bodyPost_ret (v:=.tuple #[u4,.agg #[.int .i64 0,.int .i64 0]]) (by simp [results,Tryz.results49,go_sem,r0,r1,hzw]) rfl ⟨_,rfl,?_,?_⟩
    ·exact ownsRow_setCell_below (ownsRow_setCell_below hown (by simp) _) (by simp) _
    ·exact ((((Below.refl _ w).alloc nR _).trans (hbr.mono (Nat.le_succ _))).setCell (by simp) _).setCell (by simp) _
def HoldsToks (w:World) (g:Nat) (L:List Tk.Tok):Prop :=
 ∀ i (hi:i<L.length),w.cell? ⟨g,i*4,none⟩=some (.int .i64 (L[i]).kind)∧w.cell? ⟨g,i*4+1,none⟩=some (.int .i64 ((L[i]).place:Int)) ∧
  w.cell? ⟨g,i*4+2,none⟩=some (.string (str (L[i]).text))∧w.cell? ⟨g,i*4+3,none⟩=some (.int .i64 (L[i]).n)
theorem toksCells_at:∀ (L:List Tk.Tok) (i:Nat) (hi:i<L.length),
  (toksCells L)[i*4]?=some (.int .i64 (L[i]).kind)∧(toksCells L)[i*4+1]?=some (.int .i64 ((L[i]).place:Int)) ∧
  (toksCells L)[i*4+2]?=some (.string (str (L[i]).text))∧(toksCells L)[i*4+3]?=some (.int .i64 (L[i]).n)
 | [],i,hi=>by simp at hi
 | t :: L,0,_=>by simp [toksCells,tokCells]
 | t :: L,i+1,hi=>by
  have ih:=toksCells_at L i (by simpa using hi);have e:toksCells (t :: L)=tokCells t++toksCells L:=(by simp [toksCells]);have hl:(tokCells t).length=4:=rfl;rw [e];have go:∀ j,(tokCells t++toksCells L)[(i+1)*4+j]?=(toksCells L)[i*4+j]?:=by
   intro j;rw [List.getElem?_append_right (by rw [hl];omega),hl]
   congr 1
   omega
  exact ⟨(go 0).trans ih.1,(go 1).trans ih.2.1,(go 2).trans ih.2.2.1,(go 3).trans ih.2.2.2⟩
theorem owns_toks {w:World} {base:Nat} {v:Value} {L:List Tk.Tok} (h:w.ownsRow base 119 4 v L.length (toksCells L)) :
  (v=.slice none 0 0∧L=[])∨∃ g cap,v=.slice (some ⟨g,0,none⟩) L.length cap∧base≤g∧g<w.heap.size∧L.length≤cap∧cap≤maxLen∧HoldsToks w g L:=by
 have hcell:=@World.ownsRow.cells _ _ _ _ _ _ _ h;rcases h.2 with ⟨rfl,h0⟩ | ⟨g,cap,cur,rfl,hb,hg,hnc,hcm,hcs,htake⟩
 ·exact .inl ⟨rfl,List.length_eq_zero_iff.1 h0⟩
 ·refine .inr ⟨g,cap,rfl,hb,(Array.getElem?_eq_some_iff.1 hg).1,hnc,hcm,fun i hi=>?_⟩
  have hc:=@hcell g rfl;have ha:=toksCells_at L i hi;have adds:∀ j,(⟨g,0,none⟩:Addr).add j=⟨g,j,none⟩:=by intro j;unfold Addr.add;split<;>simp_all
  have k0:=hc _ _ ha.1;have k1:=hc _ _ ha.2.1;have k2:=hc _ _ ha.2.2.1;have k3:=hc _ _ ha.2.2.2;rw [adds] at k0 k1 k2 k3;exact ⟨k0,k1,k2,k3⟩
theorem toks_slice {w:World} {base:Nat} {v:Value} {L:List Tk.Tok} (h:w.ownsRow base 119 4 v L.length (toksCells L)) :
  ∃ ao g cap,v=.slice ao L.length cap∧L.length≤cap∧cap≤maxLen∧(0<L.length→ao=some ⟨g,0,none⟩∧base≤g∧g<w.heap.size∧HoldsToks w g L):=by
 rcases owns_toks h with ⟨rfl,rfl⟩ | ⟨g,cap,rfl,h1,h2,h3,h4,h5⟩
 ·exact ⟨none,0,0,rfl,Nat.le_refl _,Nat.zero_le _,fun h=>by simp at h⟩
 ·exact ⟨some ⟨g,0,none⟩,g,cap,rfl,h3,h4,fun _=>⟨rfl,h1,h2,h5⟩⟩
structure Rd (w:World) (b g cap:Nat) (L:List Tk.Tok) (len nx op:Nat):Prop where
 here:w.heap[b]?=some (.cells #[.slice (some ⟨g,0,none⟩) L.length cap,.int .i64 nx,.int .i64 len,.int .i64 op] 126 (0,0))
 toks:HoldsToks w g L
 apart:b≠g
 gb:g<w.heap.size
 le:nx≤L.length
 lc:L.length≤cap
 cm:cap≤maxLen
def peekT (L:List Tk.Tok) (len nx:Nat):Tk.Tok:=if h:nx<L.length then L[nx] else ⟨0,len,[],0⟩
def tokV (t:Tk.Tok):Value:=.agg #[.int .i64 t.kind,.int .i64 (t.place:Int),.string (str t.text),.int .i64 t.n]
theorem Rd.cells {w:World} {b g cap:Nat} {L:List Tk.Tok} {len nx op:Nat} (h:Rd w b g cap L len nx op) :
  w.cell? ⟨b,0,none⟩=some (.slice (some ⟨g,0,none⟩) L.length cap)∧w.cell? ⟨b,1,none⟩=some (.int .i64 nx)∧w.cell? ⟨b,2,none⟩=some (.int .i64 len)∧w.cell? ⟨b,3,none⟩=some (.int .i64 op)∧b<w.heap.size:=by
 have h1:=h.here;refine ⟨?_,?_,?_,?_,(Array.getElem?_eq_some_iff.1 h1).1⟩<;>simp [World.cell?,h1]
structure Aside (S:List Nat) (B:Nat) (w w':World):Prop where
 os:w'.os=w.os
 tape:w'.tape=w.tape
 output:w'.output=w.output
 size:w.heap.size≤w'.heap.size
 block:∀ k,k<B→k ∉ S→w'.heap[k]?=w.heap[k]?
theorem heap_new (w:World) (o:Obj):(w.alloc o).heap[w.heap.size]?=some o:=by
 show (w.heap.push o)[w.heap.size]?=_
 simp
theorem aside {S:List Nat} {B:Nat} {w w':World} (h:Below B w w'):Aside S B w w':=⟨h.os,h.tape,h.output,h.size,fun k hk _=>h.block k hk⟩
theorem Aside.refl {S:List Nat} {B:Nat} (w:World):Aside S B w w:=⟨rfl,rfl,rfl,Nat.le_refl _,fun _ _ _=>rfl⟩
theorem Aside.trans {S:List Nat} {B B':Nat} {a b c:World} (h:Aside S B a b) (k:Aside S B' b c) (hB:B≤B'):Aside S B a c :=
 ⟨k.os.trans h.os,k.tape.trans h.tape,k.output.trans h.output,Nat.le_trans h.size k.size,fun i hi hs=>(k.block i (Nat.lt_of_lt_of_le hi hB) hs).trans (h.block i hi hs)⟩
theorem Aside.wide {S S':List Nat} {B:Nat} {w w':World} (h:Aside S B w w') (hs:∀ k,k<B→k ∉ S'→k ∉ S):Aside S' B w w':=⟨h.os,h.tape,h.output,h.size,fun k hk hn=>h.block k hk (hs k hk hn)⟩
theorem Aside.below {S:List Nat} {B:Nat} {w w':World} (h:Aside S B w w') (hs:∀ k,k ∈ S→B≤k):Below B w w' :=
 ⟨h.os,h.tape,h.output,h.size,fun k hk=>h.block k hk fun hm=>absurd (hs k hm) (by omega)⟩
theorem HoldsToks.keep {w w':World} {g:Nat} {L:List Tk.Tok} (h:HoldsToks w g L) (hg:w'.heap[g]?=w.heap[g]?):HoldsToks w' g L:=by
 intro i hi;have hc:∀ o,w'.cell? ⟨g,o,none⟩=w.cell? ⟨g,o,none⟩:=fun o=>World.cell?_of_block (w:=w) hg;rw [hc,hc,hc,hc];exact h i hi
theorem Rd.below {w w':World} {b g cap:Nat} {L:List Tk.Tok} {len nx op:Nat} (h:Rd w b g cap L len nx op) (hb:Below w.heap.size w w'):Rd w' b g cap L len nx op :=
 ⟨(hb.block b h.cells.2.2.2.2).trans h.here,h.toks.keep (hb.block g h.gb),h.apart,Nat.lt_of_lt_of_le h.gb hb.size,h.le,h.lc,h.cm⟩
theorem peek_any {w:World} {b g cap:Nat} {L:List Tk.Tok} {len nx op:Nat} (h:Rd w b g cap L len nx op) :
  Calls Tryz.prog 108 #[.pointer (some ⟨b,0,none⟩)] w fun e w'=>e=.returned (tokV (peekT L len nx))∧Below w.heap.size w w':=by
 obtain ⟨c0,c1,c2,c3,hb⟩:=h.cells;have hle:=h.le;have hcm:=h.cm;have hlc:=h.lc;unfold maxLen at hcm;have hgb:=h.gb;by_cases hn:nx<L.length
 ·have hq:((nx:Int)==(L.length:Int))=false:=by rw [beq_eq_false_iff_ne];omega
  obtain ⟨t0,t1,t2,t3⟩:=h.toks nx hn;have e:peekT L len nx=L[nx]:=(by simp [peekT,hn]);rw [e];clear e;go_enter Tryz.func108,Tryz.ntmps108;go_wp2
  go_region
  go_wp2
  go_region
  go_wp2;exact bodyPost_ret (v:=tokV L[nx]) (by simp [tokV,results,Tryz.results108,go_sem]) rfl ⟨rfl,((Below.refl _ w).alloc nR _).drew.drew⟩
 ·have hq:((nx:Int)==(L.length:Int))=true:=by rw [beq_iff_eq];omega
  have e:peekT L len nx=⟨0,len,[],0⟩:=(by simp [peekT,hn]);rw [e];clear e;go_enter Tryz.func108,Tryz.ntmps108;go_wp2
  go_region
  go_wp2;exact bodyPost_ret (v:=tokV ⟨0,len,[],0⟩) (by simp [tokV,str,results,Tryz.results108,go_sem]) rfl ⟨rfl,((Below.refl _ w).alloc nR _).drew⟩
theorem tok_field2 (t:Tk.Tok) (x:ByteArray) (w:World):(Instr.field 119 (.agg #[.int .i64 t.kind,.int .i64 (t.place:Int),.string x,.int .i64 t.n]) 2).run Tryz.prog w=.ok (.string x) w:=by
 kernel_rfl
theorem sees_any {w:World} {b g cap:Nat} {L:List Tk.Tok} {len nx op:Nat} (h:Rd w b g cap L len nx op) (s:ByteArray) :
  Calls Tryz.prog 109 #[.pointer (some ⟨b,0,none⟩),.string s] w fun e w'=>e=.returned (.bool ((peekT L len nx).text==s.data.toList))∧Below w.heap.size w w':=by
 have hp:=@peek_any _ _ _ _ _ _ _ _ h;obtain ⟨t,ht⟩:=nmQ (peekT L len nx);rw [←ht] at hp ⊢;unfold tokV at hp;clear h ht;have hf:=fun x w=>tok_field2 t x w;go_enter Tryz.func109,Tryz.ntmps109
 go_wp2_with (go_at_call 108;refine hp.mono ?_;rintro e w' ⟨rfl,hb⟩)
 go_ret;refine ⟨ret_bool ?_,hb⟩;simp [str,Lib.toList_data]
theorem Aside.setCell {S:List Nat} {B:Nat} {w:World} {p:Addr} (hp:p.block ∈ S) (u:Value):Aside S B w (w.setCell p u) :=
 ⟨rfl,rfl,rfl,by simp [World.setCell],fun k _ hs=>Below.heap_setCell _ _ _ _ (fun e=>hs (e ▸ hp))⟩
theorem Rd.moved {w:World} {b g cap:Nat} {L:List Tk.Tok} {len nx op:Nat} (h:Rd w b g cap L len nx op) (hn:nx<L.length) :
  Rd (w.setCell ⟨b,1,none⟩ (.int .i64 ((nx:Int)+1))) b g cap L len (nx+1) op:=by
 refine ⟨?_,h.toks.keep (Below.heap_setCell _ _ _ _ (fun e=>h.apart e.symm)),h.apart,by simpa [World.setCell] using h.gb,hn,h.lc,h.cm⟩;simp [World.setCell,Array.getElem?_modify,h.here]
theorem step_any {w:World} {b g cap:Nat} {L:List Tk.Tok} {len nx op:Nat} (h:Rd w b g cap L len nx op) (hn:nx<L.length) :
  Calls Tryz.prog 183 #[.pointer (some ⟨b,0,none⟩)] w fun e w'=>e=.returned (.tuple #[])∧Rd w' b g cap L len (nx+1) op∧Aside [b] w.heap.size w w':=by
 obtain ⟨c0,c1,c2,c3,hb⟩:=h.cells;have hle:=h.le;have hcm:=h.cm;have hlc:=h.lc;have hz:w.frozen? ⟨b,1,none⟩=false:=(by simp [World.frozen?,h.here]);unfold maxLen at hcm;go_enter Tryz.func183,Tryz.ntmps183;go_wp2;go_end0;exact ⟨rfl,h.moved hn,Aside.setCell (by simp) _⟩
theorem take_yes {w:World} {b g cap:Nat} {L:List Tk.Tok} {len nx op:Nat} (h:Rd w b g cap L len nx op) (s:ByteArray) (hs:((peekT L len nx).text==s.data.toList)=true) (hn:nx<L.length) :
  Calls Tryz.prog 141 #[.pointer (some ⟨b,0,none⟩),.string s] w fun e w'=>e=.returned (.bool true)∧Rd w' b g cap L len (nx+1) op∧Aside [b] w.heap.size w w':=by
 have hp:=sees_any h s;rw [hs] at hp;have hnot:∀ (x:Bool) (w:World),(Op.unary .not (.bool x)).run Tryz.prog w=.ok (.bool (!x)) w:=fun _ _=>rfl;go_enter Tryz.func141,Tryz.ntmps141
 go_wp2_with (go_at_call 109;refine hp.mono ?_;rintro e w1 ⟨rfl,hb⟩)
 refine (step_any (h.below hb) hn).mono ?_;rintro e w2 ⟨rfl,h2,ha⟩;go_wp2;go_ret;exact ⟨rfl,h2,(aside hb).trans ha hb.size⟩
theorem take_no {w:World} {b g cap:Nat} {L:List Tk.Tok} {len nx op:Nat} (h:Rd w b g cap L len nx op) (s:ByteArray) (hs:((peekT L len nx).text==s.data.toList)=false) :
  Calls Tryz.prog 141 #[.pointer (some ⟨b,0,none⟩),.string s] w fun e w'=>e=.returned (.bool false)∧Below w.heap.size w w':=by
 have hp:=sees_any h s;rw [hs] at hp;go_enter Tryz.func141,Tryz.ntmps141
 go_wp2_with (go_at_call 109;refine hp.mono ?_;rintro e w1 ⟨rfl,hb⟩)
 go_ret;exact ⟨rfl,hb⟩
theorem need_yes {w:World} {b g cap:Nat} {L:List Tk.Tok} {len nx op:Nat} (h:Rd w b g cap L len nx op) (s:ByteArray) (hs:((peekT L len nx).text==s.data.toList)=true) (hn:nx<L.length) :
  Calls Tryz.prog 139 #[.pointer (some ⟨b,0,none⟩),.string s] w fun e w'=>e=.returned (.tuple #[])∧Rd w' b g cap L len (nx+1) op∧Aside [b] w.heap.size w w':=by
 have hp:=take_yes h s hs hn;go_enter Tryz.func139,Tryz.ntmps139
 go_wp2_with (go_at_call 141;refine hp.mono ?_;rintro e w1 ⟨rfl,h1,ha⟩)
 go_end0;exact ⟨rfl,h1,ha⟩
theorem name_yes {w:World} {b g cap:Nat} {L:List Tk.Tok} {len nx op:Nat} (h:Rd w b g cap L len nx op) (hk:(peekT L len nx).kind=2) (hn:nx<L.length) :
  Calls Tryz.prog 140 #[.pointer (some ⟨b,0,none⟩)] w fun e w'=>e=.returned (.string (str (peekT L len nx).text))∧Rd w' b g cap L len (nx+1) op∧Aside [b] w.heap.size w w':=by
 have hp:=@peek_any _ _ _ _ _ _ _ _ h;obtain ⟨t,ht⟩:=nmQ (peekT L len nx);rw [←ht] at hp hk ⊢;unfold tokV at hp;rw [hk] at hp;clear ht;go_enter Tryz.func140,Tryz.ntmps140
 go_wp2_with (go_at_call 108;refine hp.mono ?_;rintro e w1 ⟨rfl,hb⟩)
 refine (step_any ((h.below hb).below ((Below.refl _ w1).alloc nR _)) hn).mono ?_;rintro e w2 ⟨rfl,h2,ha⟩;have hzb:=h.cells.2.2.2.2;have hs1:=hb.size;have hbl:w2.heap[w1.heap.size]?=some (.cells #[.int .i64 2,.int .i64 (t.place:Int),.string (str t.text),.int .i64 t.n] 119 (0,0)):=by
  rw [ha.block w1.heap.size (by simp) (by simp;omega)];exact heap_new _ _
 have hcl:w2.cell? ⟨w1.heap.size,2,none⟩=some (.string (str t.text)):=(by simp [World.cell?,hbl]);go_wp2;go_ret;exact ⟨rfl,h2,(aside hb).trans ((aside ((Below.refl w1.heap.size w1).alloc nR _)).trans ha (by simp)) hs1⟩
end Go.Proofs.YtkfgbhlpjkkgfaaGreatDoor
