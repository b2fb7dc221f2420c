import Derived.Test.YtophfbefnaelfaaGreatDoorF01
import Derived.Test.YtophfbefnaelfaaGreatDoorF00
set_option linter.unusedVariables false
set_option linter.unusedSimpArgs false
set_option maxHeartbeats 64000000
set_option maxRecDepth 100000
namespace Go.Proofs.YtophfbefnaelfaaGreatDoor
open Go.RowKit Go.IntWalk
theorem headD_eq:∀ (l:List UInt8) (h:0<l.length),l.headD 0=l[0]
 | [],h=>by simp at h
 | _ :: _,_=>rfl
theorem read_any (s:ByteArray) (w:World) (hlim:s.size≤281474976710656) :
  Calls Tryz.prog 56 #[.string s] w fun e w'=>e=.returned (gotV (Tk.read s.data.toList))∧Below w.heap.size w w':=by
 have hml:s.size≤maxLen:=(by unfold maxLen;omega);have hle:=Tk.runLen_le s.data.toList;rw [←Lib.size_eq] at hle;by_cases h0:Tk.runLen s.data.toList=0
 ·have h1:((Tk.runLen s.data.toList:Int)==0)=true:=by simp [h0]
  have HG:Hid (Tk.read s.data.toList=Tk.readSign s.data.toList):=(by show _=_;simp [Tk.read,h0]);clear h0;obtain ⟨g,hg⟩:=nmQ (Tk.readSign s.data.toList);rw [HG.out,←hg];unfold gotV;have HGG:=hide hg;clear hg HG;go_enter Tryz.func56,Tryz.ntmps56
  go_wp2_with (go_at_call 85;refine (runLength_any _ _ hml).mono ?_;rintro e w' ⟨rfl,rfl⟩)
  refine (readSign_any _ _ hlim).mono ?_;rintro e w1 ⟨he,hb⟩;rw [←unhide HGG] at he;unfold gotV at he;subst he;obtain ⟨hc,hf⟩:=bcell hb;go_wp2;have hb0:Below w.heap.size w w1:=((Below.refl _ w).alloc nR _).trans (hb.mono (by simp));exact bodyPost_ret (v:=.tuple #[.agg #[.int .i64 g.kind,.int .i64 0,.string ⟨g.text.toArray⟩,.int .i64 g.n],.int .i64 g.code]) (by simp [results,Tryz.results56,go_sem,hc]) rfl ⟨rfl,(((hb0.setCell (by simp) _).setCell (by simp) _).setCell (by simp) _).setCell (by simp) _⟩
 ·have h1:((Tk.runLen s.data.toList:Int)==0)=false:=by simp [h0]
  have hp:0<s.size:=(by omega);have hhd:s.data.toList.headD 0=s[0]:=by
   exact headD_eq s.data.toList (by rw [←Lib.size_eq];omega)
  cases hD:Tk.isD ((s[0]).toNat:Int)
  ·have HG:Hid (Tk.read s.data.toList=Tk.readName (s.extract 0 (Tk.runLen s.data.toList)).data.toList):=by show _=_;rw [extract_list];simp only [Tk.read,h0,hhd,hD];simp
   clear h0 hhd;obtain ⟨g,hg⟩:=nmQ (Tk.readName (s.extract 0 (Tk.runLen s.data.toList)).data.toList);rw [HG.out,←hg];unfold gotV;have HGG:=hide hg;clear hg HG;go_enter Tryz.func56,Tryz.ntmps56
   go_wp2_with (first
    | (go_at_call 85;refine (runLength_any _ _ hml).mono ?_;rintro e w' ⟨rfl,rfl⟩)
    | (go_at_call 87;refine (isDigit_any _ _).mono ?_;rintro e w' ⟨rfl,rfl⟩))
   refine (readWordOrName_any _ _ (by rw [ByteArray.size_extract];omega)).mono ?_;rintro e w1 ⟨he,hb⟩;rw [←unhide HGG] at he;unfold gotV at he;subst he;obtain ⟨hc,hf⟩:=bcell hb;go_wp2;have hb0:Below w.heap.size w w1:=((Below.refl _ w).alloc nR _).trans (hb.mono (by simp));exact bodyPost_ret (v:=.tuple #[.agg #[.int .i64 g.kind,.int .i64 0,.string ⟨g.text.toArray⟩,.int .i64 g.n],.int .i64 g.code]) (by simp [results,Tryz.results56,go_sem,hc]) rfl ⟨rfl,(((hb0.setCell (by simp) _).setCell (by simp) _).setCell (by simp) _).setCell (by simp) _⟩
  ·have HG:Hid (Tk.read s.data.toList=Tk.readNum (s.extract 0 (Tk.runLen s.data.toList)).data.toList):=by show _=_;rw [extract_list];simp only [Tk.read,h0,hhd,hD];simp
   clear h0 hhd;obtain ⟨g,hg⟩:=nmQ (Tk.readNum (s.extract 0 (Tk.runLen s.data.toList)).data.toList);rw [HG.out,←hg];unfold gotV;have HGG:=hide hg;clear hg HG;go_enter Tryz.func56,Tryz.ntmps56
   go_wp2_with (first
    | (go_at_call 85;refine (runLength_any _ _ hml).mono ?_;rintro e w' ⟨rfl,rfl⟩)
    | (go_at_call 87;refine (isDigit_any _ _).mono ?_;rintro e w' ⟨rfl,rfl⟩))
   refine (readNumber_any _ _ (by rw [ByteArray.size_extract];omega)).mono ?_;rintro e w1 ⟨he,hb⟩;rw [←unhide HGG] at he;unfold gotV at he;subst he;obtain ⟨hc,hf⟩:=bcell hb;go_wp2;have hb0:Below w.heap.size w w1:=((Below.refl _ w).alloc nR _).trans (hb.mono (by simp));exact bodyPost_ret (v:=.tuple #[.agg #[.int .i64 g.kind,.int .i64 0,.string ⟨g.text.toArray⟩,.int .i64 g.n],.int .i64 g.code]) (by simp [results,Tryz.results56,go_sem,hc]) rfl ⟨rfl,(((hb0.setCell (by simp) _).setCell (by simp) _).setCell (by simp) _).setCell (by simp) _⟩
end Go.Proofs.YtophfbefnaelfaaGreatDoor
namespace Go.Proofs.YtophfbefnaelfaaGreatDoor.Tk
theorem signLen_le (l:List UInt8):signLen l≤l.length:=by
 unfold signLen
 split
 ·simp
 ·rename_i c l
  split
  ·rename_i h
   cases l with
   | nil=>simp at h
   | cons d l=>simp
  ·split<;>simp
theorem read_ok (l:List UInt8) (hl:l≠[]) (h:(read l).code=0):(read l).text=l.take (read l).text.length∧0<(read l).text.length∧(read l).text.length≤l.length:=by
 have key:∀ k,0<k→k≤l.length→(read l).text=l.take k→(read l).text=l.take (read l).text.length∧0<(read l).text.length∧(read l).text.length≤l.length:=by
  intro k h0 h1 e;have el:(read l).text.length=k:=(by rw [e,List.length_take];omega);rw [el];exact ⟨e,h0,h1⟩
 have hr:=runLen_le l;have hs:=signLen_le l;by_cases h0:runLen l=0
 ·have e:read l=readSign l:=by simp [read,h0]
  rw [e] at h;by_cases h1:signLen l=0
  ·simp [readSign,h1,bad] at h
  ·exact key (signLen l) (by omega) hs (by rw [e];simp [readSign,h1])
 ·apply key (runLen l) (by omega) hr
  by_cases h1:isD ((l.headD 0).toNat:Int)=true
  ·have e:read l=readNum (l.take (runLen l)):=by unfold read;rw [if_neg h0,if_pos h1]
   rw [e] at h ⊢;unfold readNum at h ⊢
   split at h
   ·simp [bad] at h
   ·rename_i h2
    rw [if_neg h2]
    split at h
    ·rename_i h3
     rw [if_pos h3]
    ·simp [bad] at h
  ·have e:read l=readName (l.take (runLen l)):=by unfold read;rw [if_neg h0,if_neg h1]
   rw [e] at h ⊢;unfold readName at h ⊢
   split at h
   ·rename_i h2
    rw [if_pos h2]
   ·rename_i h2
    rw [if_neg h2]
    split at h
    ·simp [bad] at h
    ·rename_i h3
     rw [if_neg h3]
def comb (acc:List Tok) (q:List Tok × Int × Int):List Tok × Int × Int:=if q.2.1≠0 then ([],q.2) else (acc++q.1,0,0)
theorem scanR_fault (f:Nat) (l:List UInt8) (p:Nat) (hl:l≠[]) (h:(read l).code≠0) (acc:List Tok) :
  comb acc (scanR (f+1) l p)=([],(read l).code,(p:Int)):=by
 cases l with
 | nil=>exact absurd rfl hl
 | cons c l=>simp only [scanR];rw [if_pos h];simp [comb,h]
def nextAt (l:List UInt8):Nat:=(read l).text.length+blankLen false (l.drop (read l).text.length)
theorem scanR_step (f:Nat) (l:List UInt8) (p:Nat) (hl:l≠[]) (h:(read l).code=0) (acc:List Tok) :
  comb acc (scanR (f+1) l p)=comb (acc++[⟨(read l).kind,p,(read l).text,(read l).n⟩]) (scanR f (l.drop (nextAt l)) (p+nextAt l)):=by
 cases l with
 | nil=>exact absurd rfl hl
 | cons c l=>
  simp only [scanR];rw [if_neg (by simpa using h)];have e1:List.drop (blankLen false (List.drop (read (c :: l)).text.length (c :: l))) (List.drop (read (c :: l)).text.length (c :: l))=List.drop (nextAt (c :: l)) (c :: l):=by
   rw [List.drop_drop];rfl
  have e2:p+(read (c :: l)).text.length+blankLen false (List.drop (read (c :: l)).text.length (c :: l))=p+nextAt (c :: l):=(by unfold nextAt;omega);rw [e1,e2];generalize scanR f (List.drop (nextAt (c :: l)) (c :: l)) (p+nextAt (c :: l))=q;unfold comb;by_cases hq:q.2.1=0
  ·simp [hq]
  ·simp [hq]
theorem scanR_end (f:Nat) (p:Nat) (acc:List Tok):comb acc (scanR f [] p)=(acc,0,0):=by
 cases f<;>simp [scanR,comb]
theorem nextAt_le (l:List UInt8) (hl:l≠[]) (h:(read l).code=0):0<nextAt l∧nextAt l≤l.length:=by
 have h1:=read_ok l hl h;have h2:=blankLen_le false (l.drop (read l).text.length);rw [List.length_drop] at h2;unfold nextAt;omega
theorem scan_start (l:List UInt8) (hl:l.length≤12000):scan l=comb [] (scanR l.length (l.drop (blankLen false l)) (blankLen false l)):=by
 unfold scan;rw [if_neg (by omega)];generalize hq:scanR l.length (l.drop (blankLen false l)) (blankLen false l)=q;have key:∀ (f:Nat) (l:List UInt8) (p:Nat),(scanR f l p).2.1≠0→(scanR f l p).1=[]:=by
  intro f l p
  cases f with
  | zero=>simp [scanR]
  | succ f=>
   cases l with
   | nil=>simp [scanR]
   | cons c l=>
    simp only [scanR]
    split
    ·intro _;rfl
    ·split
     ·intro _;rfl
     ·simp
 have key2:∀ (f:Nat) (l:List UInt8) (p:Nat),(scanR f l p).2.1=0→(scanR f l p).2.2=0:=by
  intro f l p
  cases f with
  | zero=>simp [scanR]
  | succ f=>
   cases l with
   | nil=>simp [scanR]
   | cons c l=>
    simp only [scanR]
    split
    ·rename_i h;intro h';exact absurd h' h
    ·split
     ·rename_i h;intro h';exact absurd h' h
     ·simp
 have k1:=key l.length (l.drop (blankLen false l)) (blankLen false l);have k2:=key2 l.length (l.drop (blankLen false l)) (blankLen false l);rw [hq] at k1 k2;obtain ⟨a,b,c⟩:=q;unfold comb;by_cases hb:b=0
 ·subst hb;simp at k2;simp [k2]
 ·simp at k1;simp [hb,k1 hb]
end Go.Proofs.YtophfbefnaelfaaGreatDoor.Tk
namespace Go.Proofs.YtophfbefnaelfaaGreatDoor
open Go.RowKit Go.IntWalk
theorem Tryz.info99:(Tryz.prog.info? 99).map (fun i=>(i.zero,i.size,i.bytes))=some (some (.agg #[.int .i64 0,.int .i64 0,.string ⟨#[]⟩,.int .i64 0]),4,40):=by kernel_rfl
def str (l:List UInt8):ByteArray:=⟨l.toArray⟩
def tokCells (t:Tk.Tok):List Value:=[.int .i64 t.kind,.int .i64 (t.place:Int),.string (str t.text),.int .i64 t.n]
def toksCells (l:List Tk.Tok):List Value:=l.flatMap tokCells
theorem drop_extract (s:ByteArray) (p:Nat):(s.extract p s.size).data.toList=s.data.toList.drop p:=by
 rw [extract_list,List.take_of_length_le];rw [List.length_drop,←Lib.size_eq];exact Nat.le_refl _
theorem ownsRow_below {w w':World} {base:Nat} {e:TypeId} {size:Nat} {v:Value} {n:Nat} {xs:List Value} (h:w.ownsRow base e size v n xs) (hb:Below w.heap.size w w'):w'.ownsRow base e size v n xs :=
 h.kept (row:=none) ⟨hb.os,hb.tape,hb.output,hb.size,fun k hk _=>hb.block k hk⟩ (by cases hv:v.ownBlock<;>simp)
theorem res_cells {w w1:World} (h:Below (w.heap.size+1) (w.alloc (.cells #[.int .i64 0,.int .i64 0] 28)) w1) :
  w1.cell? ⟨w.heap.size,0,none⟩=some (.int .i64 0)∧w1.cell? ⟨w.heap.size,1,none⟩=some (.int .i64 0)∧w1.frozen? ⟨w.heap.size,0,none⟩=false∧w1.frozen? ⟨w.heap.size,1,none⟩=false∧w.heap.size<w1.heap.size:=by
 obtain ⟨hc,hf⟩:=bcellB h;refine ⟨?_,?_,?_,?_,?_⟩
 ·rw [hc _ _ (by omega)];simp
 ·rw [hc _ _ (by omega)];simp
 ·rw [hf _ _ (by omega)];simp
 ·rw [hf _ _ (by omega)];simp
 ·have:=h.size;simp at this;omega
theorem scan_any (s:ByteArray) (w:World) (hlim:s.size≤281474976710656) :
  Calls Tryz.prog 40 #[.string s] w fun e w'=>∃ v,e=.returned (.tuple #[v,.agg #[.int .i64 (Tk.scan s.data.toList).2.1,.int .i64 (Tk.scan s.data.toList).2.2]]) ∧
   w'.ownsRow (w.heap.size+1) 99 4 v (Tk.scan s.data.toList).1.length (toksCells (Tk.scan s.data.toList).1)∧Below w.heap.size w w':=by
 have hsz:s.data.toList.length=s.size:=(by rw [Lib.size_eq]);by_cases hbig:12000<s.size
 ·have e:Tk.scan s.data.toList=([],7,12000):=by simp [Tk.scan,hsz,hbig]
  rw [e];clear e hsz;go_enter Tryz.func40,Tryz.ntmps40;go_wp2;refine bodyPost_ret (v:=.tuple #[.slice none 0 0,.agg #[.int .i64 7,.int .i64 12000]]) (by simp [results,Tryz.results40,go_sem]) rfl ⟨_,rfl,World.ownsRow_nil _ _ _ _,?_⟩;exact (Below.refl _ _).alloc nR _
 ·have hml:s.size≤maxLen:=by unfold maxLen;omega
  have hb:=Tk.blankLen_le false s.data.toList;rw [hsz] at hb;obtain ⟨R,hR⟩:=nmQ (Tk.scan s.data.toList);have HS:Hid (R=Tk.comb [] (Tk.scanR s.data.toList.length (s.data.toList.drop (Tk.blankLen false s.data.toList)) (Tk.blankLen false s.data.toList))):=by
   show _=_
   rw [hR,←Tk.scan_start _ (by omega)]
  rw [←hR];clear hR hsz;obtain ⟨i0,hi,hz0,hz1,hz2⟩:=info_parts Tryz.info99;have hd12:decide ((12000:Int)<(s.size:Int))=false:=(by simp;omega);go_enter Tryz.func40,Tryz.ntmps40
  go_wp2_with (go_at_call 55;refine (blankLength_any _ _ hml).mono ?_;rintro e w' ⟨rfl,rfl⟩)
  go_loopw [4,5] (fun v i wr=>∃ (acc:List Tk.Tok) (p f:Nat),p≤s.size∧i=.int .i64 p∧acc.length≤p∧wr.ownsRow (w.heap.size+1) 99 4 v acc.length (toksCells acc)∧s.size-p≤f ∧
    Hid (R=Tk.comb acc (Tk.scanR f (s.data.toList.drop p) p))∧Below (w.heap.size+1) (w.alloc (.cells #[.int .i64 0,.int .i64 0] 28)) wr)
   (fun _ i _=>s.size-(intOf i).toNat)
  case atStart=>exact ⟨[],_,s.data.toList.length,hb,rfl,Nat.zero_le _,World.ownsRow_nil _ _ _ _,by rw [←Lib.size_eq];omega,HS,Below.refl _ _⟩
  case round=>
   obtain ⟨acc,p,f,hp,rfl,hacc,hown,hf,H,hbr⟩:=hrel;obtain ⟨hcr,hfr⟩:=bcellB hbr;have hzr:w.heap.size<wr.heap.size:=(by have:=hbr.size;simp at this;omega);by_cases hlt:p<s.size
   ·obtain ⟨f,rfl⟩:∃ f',f=f'+1:=⟨f-1,by omega⟩
    have hne:s.data.toList.drop p≠[]:=by
     intro e;have:=congrArg List.length e;rw [List.length_drop,←Lib.size_eq] at this;simp at this;omega
    have hstep:=Tk.scanR_step f (s.data.toList.drop p) p hne;have hfault:=Tk.scanR_fault f (s.data.toList.drop p) p hne;have hok:=Tk.read_ok (s.data.toList.drop p) hne;have hnx:=Tk.nextAt_le (s.data.toList.drop p) hne;have hnd:Tk.nextAt (s.data.toList.drop p)=(Tk.read (s.data.toList.drop p)).text.length+Tk.blankLen false (s.data.toList.drop (p+(Tk.read (s.data.toList.drop p)).text.length)):=(by unfold Tk.nextAt;rw [List.drop_drop]);rw [List.drop_drop] at hstep;rw [List.length_drop,←Lib.size_eq] at hok hnx;have HG:Hid (∃ g,g=Tk.read (s.data.toList.drop p)):=⟨_,rfl⟩;obtain ⟨g,hg⟩:=HG.out;rw [←hg] at hstep hfault hok hnx hnd;have HGG:=hide hg;clear hg HG HS hne;by_cases hcode:g.code=0
    ·have hR:R=Tk.comb (acc++[⟨g.kind,p,g.text,g.n⟩]) (Tk.scanR f (s.data.toList.drop (p+Tk.nextAt (s.data.toList.drop p))) (p+Tk.nextAt (s.data.toList.drop p))):=by rw [H.out];exact hstep hcode acc
     have hok:=hok hcode;have hnx:=hnx hcode;obtain ⟨nx,hnxe⟩:=nmQ (Tk.nextAt (s.data.toList.drop p));rw [←hnxe] at hR hnx hnd;have HR:=hide hR;obtain ⟨bl,hbl⟩:=nmQ (Tk.blankLen false (s.data.toList.drop (p+g.text.length)));rw [←hbl] at hnd;have HND:=hide hnd;have HBL:=hide hbl;have hbll:bl≤s.size-(p+g.text.length):=(by rw [hbl];have:=Tk.blankLen_le false (s.data.toList.drop (p+g.text.length));rw [List.length_drop,←Lib.size_eq] at this;exact this);clear hbl;have htl:0<g.text.length:=hok.2.1;have htl2:g.text.length≤s.size-p:=hok.2.2;clear hR hnd hstep hfault H hnxe hok;have hcb:(g.code==0)=true:=(by simpa using hcode);clear hcode;go_wp2_with fail;refine (read_any _ _ (by rw [ByteArray.size_extract];omega)).mono ?_;rintro e w1 ⟨he,hb1⟩;rw [drop_extract,←unhide HGG] at he;unfold gotV at he;subst he;have hbw:=hbr.trans (hb1.mono hzr);have hown1:=ownsRow_below hown hb1;obtain ⟨r0,r1,q0,q1,hzw⟩:=res_cells hbw;clear hcr hfr hown hbr hb1
     go_wp2_with (at_builtin;refine wpList_append_own _ rfl _ _ 79 rfl (w.heap.size+1) 99 i0 (.agg #[.int .i64 0,.int .i64 0,.string ⟨#[]⟩,.int .i64 0]) 4 40 Tryz.underlying79 hi hz0 hz1 hz2 rfl (by decide) _ _ _ rfl ((hown1.alloc _).alloc _) ⟨w1.heap.size+1,0,none⟩ 1 1 [.int .i64 g.kind,.int .i64 (p:Int),.string ⟨g.text.toArray⟩,.int .i64 g.n] rfl rfl ?c1 ?c2 ?c3 ?c4 ?c5 ?_)
     case c1=>
      intro j u hj
      match j,hj with
      | 0,hj=>simp at hj;subst hj;simp [Addr.add]
      | 1,hj=>simp at hj;subst hj;simp [Addr.add]
      | 2,hj=>simp at hj;subst hj;simp [Addr.add]
      | 3,hj=>simp at hj;subst hj;simp [Addr.add]
     case c2=>intro u hu;simp at hu;rcases hu with rfl | rfl | rfl | rfl<;>rfl
     case c3=>unfold maxLen;omega
     case c4=>omega
     case c5=>simp;omega
     intro v2 w2 hown2 hgrow _;have hlt2:=hown1.lt;have hbw2:Below (w.heap.size+1) (w.alloc (.cells #[.int .i64 0,.int .i64 0] 28)) w2:=
      ((hbw.alloc hzw _).alloc (by simp;omega) _).grown hgrow (by simp;omega) (fun k hk=>(hlt2 k hk).1)
     have hct:w2.cell? ⟨w1.heap.size,2,none⟩=some (.string ⟨g.text.toArray⟩):=
      hgrow.cell (by simp) (fun e=>by have:=(hlt2 _ e.symm).2;simp at this)
     have hown3:w2.ownsRow (w.heap.size+1) 99 4 v2 (acc++[(⟨g.kind,p,g.text,g.n⟩:Tk.Tok)]).length (toksCells (acc++[⟨g.kind,p,g.text,g.n⟩])):=by
      have e1:(acc++[(⟨g.kind,p,g.text,g.n⟩:Tk.Tok)]).length=acc.length+1:=(by simp);have e2:toksCells (acc++[(⟨g.kind,p,g.text,g.n⟩:Tk.Tok)])=toksCells acc++[Value.int .i64 g.kind,.int .i64 (p:Int),.string ⟨g.text.toArray⟩,.int .i64 g.n]:=(by simp [toksCells,tokCells,str]);rw [e1,e2];exact hown2
     clear hgrow hown2 hown1 hlt2 hbw r0 r1 q0 q1;go_wp2_with fail;refine (blankLength_any _ _ (by rw [ByteArray.size_extract];unfold maxLen;omega)).mono ?_;rintro e w3 ⟨he,rfl⟩;rw [drop_extract,←unhide HBL] at he;subst he;go_wp2
     go_roundw
     case rel=>exact ⟨acc++[⟨g.kind,p,g.text,g.n⟩],p+nx,f,by omega,by rw [HND.out];go_num,by simp;omega,hown3,by omega,HR,hbw2⟩
     case measure=>simp [intOf];omega
    ·have hR:R=([],g.code,(p:Int)):=by rw [H.out];exact hfault hcode acc
     subst hR;clear hstep hfault hok hnx hnd H;have hcb:(g.code==0)=false:=(by simpa using hcode);go_wp2_with fail;refine (read_any _ _ (by rw [ByteArray.size_extract];omega)).mono ?_;rintro e w1 ⟨he,hb1⟩;rw [drop_extract,←unhide HGG] at he;unfold gotV at he;subst he;have hbw:=hbr.trans (hb1.mono hzr);obtain ⟨r0,r1,q0,q1,hzw⟩:=res_cells hbw;clear hcr hfr;go_wp2;refine bodyPost_ret (v:=.tuple #[.slice none 0 0,.agg #[.int .i64 g.code,.int .i64 (p:Int)]]) (by simp [results,Tryz.results40,go_sem,r0,r1,hzw]) rfl ⟨_,rfl,World.ownsRow_nil _ _ _ _,?_⟩;exact (((((Below.refl _ w).alloc nR _).trans (hbw.mono (Nat.le_succ _))).setCell (p:=⟨w.heap.size,0,none⟩) nR _).setCell (p:=⟨w.heap.size,1,none⟩) nR _).alloc (by simp;omega) _
   ·have hpe:p=s.size:=by omega
    subst hpe;have hR:R=(acc,0,0):=(by rw [H.out,List.drop_of_length_le (by rw [←Lib.size_eq];exact Nat.le_refl _),Tk.scanR_end]);subst hR;obtain ⟨r0,r1,q0,q1,hzw⟩:=res_cells hbr;clear hcr hfr HS H;go_wp2;refine bodyPost_ret (v:=.tuple #[u4,.agg #[.int .i64 0,.int .i64 0]]) (by simp [results,Tryz.results40,go_sem,r0,r1,hzw]) rfl ⟨_,rfl,?_,?_⟩
    ·exact ownsRow_setCell_below (ownsRow_setCell_below hown (by simp) _) (by simp) _
    ·exact ((((Below.refl _ w).alloc nR _).trans (hbr.mono (Nat.le_succ _))).setCell (by simp) _).setCell (by simp) _
end Go.Proofs.YtophfbefnaelfaaGreatDoor
