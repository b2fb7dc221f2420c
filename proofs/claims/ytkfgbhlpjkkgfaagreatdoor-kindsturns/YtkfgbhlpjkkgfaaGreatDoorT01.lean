import Derived.Test.YtkfgbhlpjkkgfaaGreatDoorT00
import Derived.Deep.QuietTactic
import Derived.BigQuiet
import Derived.WalkSmall
set_option linter.unusedVariables false
set_option linter.unusedSimpArgs false
set_option maxHeartbeats 64000000
set_option maxRecDepth 100000
namespace Go.Proofs.YtkfgbhlpjkkgfaaGreatDoor
open Go.RowKit Go.IntWalk
theorem bcellB {B:Nat} {W w1:World} (hb:Below B W w1):(∀ b o,b<B->w1.cell? ⟨b,o,none⟩=W.cell? ⟨b,o,none⟩)/\(∀ b o,b<B->w1.frozen? ⟨b,o,none⟩=W.frozen? ⟨b,o,none⟩) :=
 ⟨fun b o h=>hb.cell (p:=⟨b,o,none⟩) h,fun b o h=>hb.frozen (p:=⟨b,o,none⟩) h⟩
theorem zCj (w:World) (b o o':Nat) (v:Value) (h:o≠o'):(w.setCell ⟨b,o,none⟩ v).drew.cell? ⟨b,o',none⟩=w.cell? ⟨b,o',none⟩ :=
 World.cell?_setCell_other (w:=w) (a:=⟨b,o,none⟩) (b:=⟨b,o',none⟩) (v:=v) (by intro e;injection e;omega)
theorem pow_bd2:∀ k:Nat,k<=17->(10:Int) ^ k<=100000000000000000:=by
 intro k hk;have:(10:Int) ^ k<=10 ^ 17:=by
  have h:=Nat.pow_le_pow_right (n:=10) (by omega) hk
  exact_mod_cast h
 simpa using this
theorem zFF (s:ByteArray) (w:World) (eK:s.size<=281474976710656) :
  Calls Tryz.prog 105 #[.string s] w fun e w'=>e=.returned (gotV (Tk.readNum s.data.toList))/\Below w.heap.size w w':=by
 have bo:s.data.toList.length=s.size:=(by rw [Lib.size_eq])
 cases jm:Tk.badNum s.data.toList
 ·have ii:s.size<=18:=by unfold Tk.badNum at jm;rw [bo] at jm;simp at jm;omega
  have Cn:1<s.size->∀ h:0<s.size,(((s[0]).toNat:Int)==48)=false:=by
   intro h1 h;have hh:s.data.toList.head?=some s[0]:=by
    rw [List.head?_eq_getElem?,List.getElem?_eq_getElem (by simpa using h)];rfl
   unfold Tk.badNum at jm;rw [bo,hh] at jm;simp [h1] at jm;have h9:=jm.2;rw [beq_eq_false_iff_ne];intro e
   apply h9
   apply UInt8.toNat_inj.1
   simp;omega
  have HG:Hid (Tk.readNum s.data.toList=if s.data.toList.all (fun c=>Tk.isD (c.toNat:Int)) then ⟨3,s.data.toList,Tk.numVal s.data.toList,0⟩ else Tk.bad 2):=(by show _=_;simp [Tk.readNum,jm]);clear bo jm;by_cases h1:1<s.size
  ·have h0:0<s.size:=by omega
   have h9:=Cn h1 h0;have Fs:decide ((18:Int)<(s.size:Int))=false:=(by simp;omega);clear Cn;go_enter Tryz.func105,Tryz.ntmps105;go_wp2_with fail;refine (zAp _ _ _ eK).mono ?_;rintro e w1 ⟨rfl,hb⟩;obtain ⟨hc,hf⟩:=zDc hb;have hz:w.heap.size<w1.heap.size:=(by have:=hb.size;simp at this;omega);go_wp2_with fail
   go_loopw [24] (fun i wr=>∃ k:Nat,k<=s.size/\i=.int .i64 k/\wr.cell? ⟨w1.heap.size,0,none⟩=some (.int .i64 3)/\wr.cell? ⟨w1.heap.size,1,none⟩=some (.int .i64 0)/\wr.cell? ⟨w1.heap.size,2,none⟩=some (.string s) /\
     wr.cell? ⟨w1.heap.size,3,none⟩=some (.int .i64 (Tk.numVal (s.data.toList.take k)))/\wr.frozen? ⟨w1.heap.size,3,none⟩=false/\Hid (∀ j (hj:j<s.data.toList.length),j<k->Tk.isD ((s.data.toList[j]).toNat:Int)=true)/\Below w1.heap.size w1 wr)
    (fun i _=>s.size-(intOf i).toNat)
   case atStart=>exact ⟨0,Nat.zero_le _,rfl,by simp,by simp,by simp,by simp [Tk.numVal],by simp,fun j _ h=>absurd h (Nat.not_lt_zero _),(Below.refl _ _).alloc nR _⟩
   case round=>
    obtain ⟨k,hk,rfl,c0,c1,c2,c3,f3,H,aj⟩:=hrel;have uE:=zDy s k hk H.out;have hp:=pow_bd k (by omega);have pd:=pow_bd2 k;obtain ⟨n,hn⟩:=nmQ (Tk.numVal (s.data.toList.take k));rw [<-hn] at c3 uE;have jo:0<=n:=uE.1;have mw:n<1000000000000000000:=(by omega);have rS:k<s.size->n<100000000000000000:=fun h=>by have:=pd (by omega);omega
    have HN:=zAA hn;clear hn uE hp pd;obtain ⟨pM,yH⟩:=bcellB aj;by_cases ak:k<s.size
    ·cases hD:Tk.isD ((s[k]).toNat:Int)
     ·go_wp2_with (go_at_call 104;refine (zAb _ _).mono ?_;rintro e w' ⟨rfl,rfl⟩)
      rw [HG.out,if_neg (by
       intro bX;rw [List.all_eq_true] at bX;have:=bX s[k] (List.getElem_mem (by simpa using ak));rw [hD] at this
       cases this)]
      have iE:Below w.heap.size w w1:=((Below.refl _ w).alloc nR _).trans (hb.mono (by simp));have ke:=iE.trans (aj.mono (Nat.le_of_lt hz));exact bodyPost_ret (v:=gotV (Tk.bad 2)) (by simp [results,Tryz.results105,go_sem,pM,hc,hz,gotV,Tk.bad]) rfl ⟨rfl,(((ke.setCell (by simp) _).setCell (by simp) _).setCell (by simp) _).setCell (by simp) _⟩
     ·have nJ:48<=((s[k]).toNat:Int):=by simp [Tk.isD] at hD;omega
      have jz:((s[k]).toNat:Int)<=57:=(by simp [Tk.isD] at hD;omega);have HD:=zAA hD;have wm:=rS ak;clear rS
      go_wp2_with (go_at_call 104;refine (zAb _ _).mono ?_;rintro e w' ⟨rfl,rfl⟩)
      go_region
      all_goals go_wp2
      go_roundw
      case rel=>
       refine ⟨k+1,by omega,by go_num,(zCj _ _ _ _ _ (by omega)).trans c0,(zCj _ _ _ _ _ (by omega)).trans c1,(zCj _ _ _ _ _ (by omega)).trans c2,?_,by simpa using f3,?_,(aj.setCell nR _).drew⟩
       ·have e:Tk.numVal (List.take (k+1) s.data.toList)=n*10+(((s[k]).toNat:Int)-48):=by rw [zDx s k ak,zCY,<-HN.out]
        rw [e];exact World.cell?_setCell_same _ (a:=⟨w1.heap.size,3,none⟩) (h:=c3) _
       ·intro j hj kV
        by_cases ej:j=k
        ·subst ej;rw [zDb s j ak];exact HD.out
        ·exact H.out j hj (by omega)
      case measure=>simp [intOf];omega
    ·have qR:k=s.size:=by omega
     subst qR;go_wp2;have bX:s.data.toList.all (fun c=>Tk.isD (c.toNat:Int))=true:=by
      rw [List.all_eq_true];intro c eV;obtain ⟨j,hj,rfl⟩:=List.getElem_of_mem eV;exact H.out j hj (by rw [<-Lib.size_eq] at hj;exact hj)
     have wF:n=Tk.numVal s.data.toList:=(by rw [HN.out,List.take_of_length_le (by rw [<-Lib.size_eq];exact Nat.le_refl _)]);rw [HG.out,if_pos bX,<-wF];have iE:Below w.heap.size w w1:=((Below.refl _ w).alloc nR _).trans (hb.mono (by simp));have ke:=iE.trans (aj.mono (Nat.le_of_lt hz));exact bodyPost_ret (v:=gotV ⟨3,s.data.toList,n,0⟩) (by simp [results,Tryz.results105,go_sem,pM,hc,hz,gotV,zCl]) rfl ⟨rfl,(((ke.setCell (by simp) _).setCell (by simp) _).setCell (by simp) _).setCell (by simp) _⟩
  ·have ND:decide ((1:Int)<(s.size:Int))=false:=by simp;omega
   have Fs:decide ((18:Int)<(s.size:Int))=false:=(by simp;omega);clear Cn;go_enter Tryz.func105,Tryz.ntmps105;go_wp2_with fail;refine (zAp _ _ _ eK).mono ?_;rintro e w1 ⟨rfl,hb⟩;obtain ⟨hc,hf⟩:=zDc hb;have hz:w.heap.size<w1.heap.size:=(by have:=hb.size;simp at this;omega);go_wp2_with fail
   go_loopw [24] (fun i wr=>∃ k:Nat,k<=s.size/\i=.int .i64 k/\wr.cell? ⟨w1.heap.size,0,none⟩=some (.int .i64 3)/\wr.cell? ⟨w1.heap.size,1,none⟩=some (.int .i64 0)/\wr.cell? ⟨w1.heap.size,2,none⟩=some (.string s) /\
     wr.cell? ⟨w1.heap.size,3,none⟩=some (.int .i64 (Tk.numVal (s.data.toList.take k)))/\wr.frozen? ⟨w1.heap.size,3,none⟩=false/\Hid (∀ j (hj:j<s.data.toList.length),j<k->Tk.isD ((s.data.toList[j]).toNat:Int)=true)/\Below w1.heap.size w1 wr)
    (fun i _=>s.size-(intOf i).toNat)
   case atStart=>exact ⟨0,Nat.zero_le _,rfl,by simp,by simp,by simp,by simp [Tk.numVal],by simp,fun j _ h=>absurd h (Nat.not_lt_zero _),(Below.refl _ _).alloc nR _⟩
   case round=>
    obtain ⟨k,hk,rfl,c0,c1,c2,c3,f3,H,aj⟩:=hrel;have uE:=zDy s k hk H.out;have hp:=pow_bd k (by omega);have pd:=pow_bd2 k;obtain ⟨n,hn⟩:=nmQ (Tk.numVal (s.data.toList.take k));rw [<-hn] at c3 uE;have jo:0<=n:=uE.1;have mw:n<1000000000000000000:=(by omega);have rS:k<s.size->n<100000000000000000:=fun h=>by have:=pd (by omega);omega
    have HN:=zAA hn;clear hn uE hp pd;obtain ⟨pM,yH⟩:=bcellB aj;by_cases ak:k<s.size
    ·cases hD:Tk.isD ((s[k]).toNat:Int)
     ·go_wp2_with (go_at_call 104;refine (zAb _ _).mono ?_;rintro e w' ⟨rfl,rfl⟩)
      rw [HG.out,if_neg (by
       intro bX;rw [List.all_eq_true] at bX;have:=bX s[k] (List.getElem_mem (by simpa using ak));rw [hD] at this
       cases this)]
      have iE:Below w.heap.size w w1:=((Below.refl _ w).alloc nR _).trans (hb.mono (by simp));have ke:=iE.trans (aj.mono (Nat.le_of_lt hz));exact bodyPost_ret (v:=gotV (Tk.bad 2)) (by simp [results,Tryz.results105,go_sem,pM,hc,hz,gotV,Tk.bad]) rfl ⟨rfl,(((ke.setCell (by simp) _).setCell (by simp) _).setCell (by simp) _).setCell (by simp) _⟩
     ·have nJ:48<=((s[k]).toNat:Int):=by simp [Tk.isD] at hD;omega
      have jz:((s[k]).toNat:Int)<=57:=(by simp [Tk.isD] at hD;omega);have HD:=zAA hD;have wm:=rS ak;clear rS
      go_wp2_with (go_at_call 104;refine (zAb _ _).mono ?_;rintro e w' ⟨rfl,rfl⟩)
      go_region
      all_goals go_wp2
      go_roundw
      case rel=>
       refine ⟨k+1,by omega,by go_num,(zCj _ _ _ _ _ (by omega)).trans c0,(zCj _ _ _ _ _ (by omega)).trans c1,(zCj _ _ _ _ _ (by omega)).trans c2,?_,by simpa using f3,?_,(aj.setCell nR _).drew⟩
       ·have e:Tk.numVal (List.take (k+1) s.data.toList)=n*10+(((s[k]).toNat:Int)-48):=by rw [zDx s k ak,zCY,<-HN.out]
        rw [e];exact World.cell?_setCell_same _ (a:=⟨w1.heap.size,3,none⟩) (h:=c3) _
       ·intro j hj kV
        by_cases ej:j=k
        ·subst ej;rw [zDb s j ak];exact HD.out
        ·exact H.out j hj (by omega)
      case measure=>simp [intOf];omega
    ·have qR:k=s.size:=by omega
     subst qR;go_wp2;have bX:s.data.toList.all (fun c=>Tk.isD (c.toNat:Int))=true:=by
      rw [List.all_eq_true];intro c eV;obtain ⟨j,hj,rfl⟩:=List.getElem_of_mem eV;exact H.out j hj (by rw [<-Lib.size_eq] at hj;exact hj)
     have wF:n=Tk.numVal s.data.toList:=(by rw [HN.out,List.take_of_length_le (by rw [<-Lib.size_eq];exact Nat.le_refl _)]);rw [HG.out,if_pos bX,<-wF];have iE:Below w.heap.size w w1:=((Below.refl _ w).alloc nR _).trans (hb.mono (by simp));have ke:=iE.trans (aj.mono (Nat.le_of_lt hz));exact bodyPost_ret (v:=gotV ⟨3,s.data.toList,n,0⟩) (by simp [results,Tryz.results105,go_sem,pM,hc,hz,gotV,zCl]) rfl ⟨rfl,(((ke.setCell (by simp) _).setCell (by simp) _).setCell (by simp) _).setCell (by simp) _⟩
 ·have HG:Hid (Tk.readNum s.data.toList=Tk.bad 2):=by show _=_;simp [Tk.readNum,jm]
  unfold Tk.badNum at jm;rw [bo] at jm;clear bo;by_cases nI:18<s.size
  ·clear jm
   go_enter Tryz.func105,Tryz.ntmps105;go_wp2;rw [HG.out];exact bodyPost_ret (v:=gotV (Tk.bad 2)) (by simp [results,Tryz.results105,go_sem,gotV,Tk.bad]) rfl ⟨rfl,(Below.refl _ _).alloc nR _⟩
  ·have h1:1<s.size:=by simp [nI] at jm;omega
   have Cn:(((s[0]).toNat:Int)==48)=true:=by
    have hh:s.data.toList.head?=some s[0]:=by
     rw [List.head?_eq_getElem?,List.getElem?_eq_getElem (by simpa using (by omega:0<s.size))];rfl
    rw [hh] at jm;simp [nI,h1] at jm;simp [jm]
   clear jm;go_enter Tryz.func105,Tryz.ntmps105;go_wp2;rw [HG.out];exact bodyPost_ret (v:=gotV (Tk.bad 2)) (by simp [results,Tryz.results105,go_sem,gotV,Tk.bad]) rfl ⟨rfl,(Below.refl _ _).alloc nR _⟩
theorem headD_eq:∀ (l:List UInt8) (h:0<l.length),l.headD 0=l[0]
 | [],h=>by simp at h
 | _ :: _,_=>rfl
theorem read_any (s:ByteArray) (w:World) (eK:s.size<=281474976710656) :
  Calls Tryz.prog 75 #[.string s] w fun e w'=>e=.returned (gotV (Tk.read s.data.toList))/\Below w.heap.size w w':=by
 have oI:s.size<=maxLen:=(by unfold maxLen;omega);have ii:=Tk.runLen_le s.data.toList;rw [<-Lib.size_eq] at ii;by_cases h0:Tk.runLen s.data.toList=0
 ·have h1:((Tk.runLen s.data.toList:Int)==0)=true:=by simp [h0]
  have HG:Hid (Tk.read s.data.toList=Tk.readSign s.data.toList):=(by show _=_;simp [Tk.read,h0]);clear h0;obtain ⟨g,hg⟩:=nmQ (Tk.readSign s.data.toList);rw [HG.out,<-hg];unfold gotV;have qi:=zAA hg;clear hg HG;go_enter Tryz.func75,Tryz.ntmps75
  go_wp2_with (go_at_call 102;refine (zAX _ _ oI).mono ?_;rintro e w' ⟨rfl,rfl⟩)
  refine (readSign_any _ _ eK).mono ?_;rintro e w1 ⟨he,hb⟩;rw [<-zBE qi] at he;unfold gotV at he;subst he;obtain ⟨hc,hf⟩:=zDc hb;go_wp2;have iE:Below w.heap.size w w1:=((Below.refl _ w).alloc nR _).trans (hb.mono (by simp));exact bodyPost_ret (v:=.tuple #[.agg #[.int .i64 g.kind,.int .i64 0,.string ⟨g.text.toArray⟩,.int .i64 g.n],.int .i64 g.code]) (by simp [results,Tryz.results75,go_sem,hc]) rfl ⟨rfl,(((iE.setCell (by simp) _).setCell (by simp) _).setCell (by simp) _).setCell (by simp) _⟩
 ·have h1:((Tk.runLen s.data.toList:Int)==0)=false:=by simp [h0]
  have hp:0<s.size:=(by omega);have tD:s.data.toList.headD 0=s[0]:=by
   exact headD_eq s.data.toList (by rw [<-Lib.size_eq];omega)
  cases hD:Tk.isD ((s[0]).toNat:Int)
  ·have HG:Hid (Tk.read s.data.toList=Tk.readName (s.extract 0 (Tk.runLen s.data.toList)).data.toList):=by show _=_;rw [zCC];simp only [Tk.read,h0,tD,hD];simp
   clear h0 tD;obtain ⟨g,hg⟩:=nmQ (Tk.readName (s.extract 0 (Tk.runLen s.data.toList)).data.toList);rw [HG.out,<-hg];unfold gotV;have qi:=zAA hg;clear hg HG;go_enter Tryz.func75,Tryz.ntmps75
   go_wp2_with (first
    | (go_at_call 102;refine (zAX _ _ oI).mono ?_;rintro e w' ⟨rfl,rfl⟩)
    | (go_at_call 104;refine (zAb _ _).mono ?_;rintro e w' ⟨rfl,rfl⟩))
   refine (zDM _ _ (by rw [ByteArray.size_extract];omega)).mono ?_;rintro e w1 ⟨he,hb⟩;rw [<-zBE qi] at he;unfold gotV at he;subst he;obtain ⟨hc,hf⟩:=zDc hb;go_wp2;have iE:Below w.heap.size w w1:=((Below.refl _ w).alloc nR _).trans (hb.mono (by simp));exact bodyPost_ret (v:=.tuple #[.agg #[.int .i64 g.kind,.int .i64 0,.string ⟨g.text.toArray⟩,.int .i64 g.n],.int .i64 g.code]) (by simp [results,Tryz.results75,go_sem,hc]) rfl ⟨rfl,(((iE.setCell (by simp) _).setCell (by simp) _).setCell (by simp) _).setCell (by simp) _⟩
  ·have HG:Hid (Tk.read s.data.toList=Tk.readNum (s.extract 0 (Tk.runLen s.data.toList)).data.toList):=by show _=_;rw [zCC];simp only [Tk.read,h0,tD,hD];simp
   clear h0 tD;obtain ⟨g,hg⟩:=nmQ (Tk.readNum (s.extract 0 (Tk.runLen s.data.toList)).data.toList);rw [HG.out,<-hg];unfold gotV;have qi:=zAA hg;clear hg HG;go_enter Tryz.func75,Tryz.ntmps75
   go_wp2_with (first
    | (go_at_call 102;refine (zAX _ _ oI).mono ?_;rintro e w' ⟨rfl,rfl⟩)
    | (go_at_call 104;refine (zAb _ _).mono ?_;rintro e w' ⟨rfl,rfl⟩))
   refine (zFF _ _ (by rw [ByteArray.size_extract];omega)).mono ?_;rintro e w1 ⟨he,hb⟩;rw [<-zBE qi] at he;unfold gotV at he;subst he;obtain ⟨hc,hf⟩:=zDc hb;go_wp2;have iE:Below w.heap.size w w1:=((Below.refl _ w).alloc nR _).trans (hb.mono (by simp));exact bodyPost_ret (v:=.tuple #[.agg #[.int .i64 g.kind,.int .i64 0,.string ⟨g.text.toArray⟩,.int .i64 g.n],.int .i64 g.code]) (by simp [results,Tryz.results75,go_sem,hc]) rfl ⟨rfl,(((iE.setCell (by simp) _).setCell (by simp) _).setCell (by simp) _).setCell (by simp) _⟩
end Go.Proofs.YtkfgbhlpjkkgfaaGreatDoor
namespace Go.Proofs.YtkfgbhlpjkkgfaaGreatDoor.Tk
theorem signLen_le (l:List UInt8):signLen l<=l.length:=by
 unfold signLen
 split
 ·simp
 ·rename_i c l
  split
  ·rename_i h
   cases l with
   | nil=>simp at h
   | cons d l=>simp
  ·split<;>simp
theorem read_ok (l:List UInt8) (hl:l≠[]) (h:(read l).code=0):(read l).text=l.take (read l).text.length/\0<(read l).text.length/\(read l).text.length<=l.length:=by
 have key:∀ k,0<k->k<=l.length->(read l).text=l.take k->(read l).text=l.take (read l).text.length/\0<(read l).text.length/\(read l).text.length<=l.length:=by
  intro k h0 h1 e;have el:(read l).text.length=k:=(by rw [e,List.length_take];omega);rw [el];exact ⟨e,h0,h1⟩
 have hr:=runLen_le l;have hs:=signLen_le l;by_cases h0:runLen l=0
 ·have e:read l=readSign l:=by simp [read,h0]
  rw [e] at h;by_cases h1:signLen l=0
  ·simp [readSign,h1,bad] at h
  ·exact key (signLen l) (by omega) hs (by rw [e];simp [readSign,h1])
 ·apply key (runLen l) (by omega) hr
  by_cases h1:isD ((l.headD 0).toNat:Int)=true
  ·have e:read l=readNum (l.take (runLen l)):=by unfold read;rw [if_neg h0,if_pos h1]
   rw [e] at h ⊢;unfold readNum at h ⊢
   split at h
   ·simp [bad] at h
   ·rename_i h2
    rw [if_neg h2]
    split at h
    ·rename_i h3
     rw [if_pos h3]
    ·simp [bad] at h
  ·have e:read l=readName (l.take (runLen l)):=by unfold read;rw [if_neg h0,if_neg h1]
   rw [e] at h ⊢;unfold readName at h ⊢
   split at h
   ·rename_i h2
    rw [if_pos h2]
   ·rename_i h2
    rw [if_neg h2]
    split at h
    ·simp [bad] at h
    ·rename_i h3
     rw [if_neg h3]
def comb (acc:List Tok) (q:List Tok × Int × Int):List Tok × Int × Int:=if q.2.1≠0 then ([],q.2) else (acc++q.1,0,0)
theorem scanR_fault (f:Nat) (l:List UInt8) (p:Nat) (hl:l≠[]) (h:(read l).code≠0) (acc:List Tok) :
  comb acc (scanR (f+1) l p)=([],(read l).code,(p:Int)):=by
 cases l with
 | nil=>exact absurd rfl hl
 | cons c l=>simp only [scanR];rw [if_pos h];simp [comb,h]
def nextAt (l:List UInt8):Nat:=(read l).text.length+blankLen false (l.drop (read l).text.length)
theorem scanR_step (f:Nat) (l:List UInt8) (p:Nat) (hl:l≠[]) (h:(read l).code=0) (acc:List Tok) :
  comb acc (scanR (f+1) l p)=comb (acc++[⟨(read l).kind,p,(read l).text,(read l).n⟩]) (scanR f (l.drop (nextAt l)) (p+nextAt l)):=by
 cases l with
 | nil=>exact absurd rfl hl
 | cons c l=>
  simp only [scanR];rw [if_neg (by simpa using h)];have e1:List.drop (blankLen false (List.drop (read (c :: l)).text.length (c :: l))) (List.drop (read (c :: l)).text.length (c :: l))=List.drop (nextAt (c :: l)) (c :: l):=by
   rw [List.drop_drop];rfl
  have e2:p+(read (c :: l)).text.length+blankLen false (List.drop (read (c :: l)).text.length (c :: l))=p+nextAt (c :: l):=(by unfold nextAt;omega);rw [e1,e2];generalize scanR f (List.drop (nextAt (c :: l)) (c :: l)) (p+nextAt (c :: l))=q;unfold comb;by_cases hq:q.2.1=0
  ·simp [hq]
  ·simp [hq]
theorem scanR_end (f:Nat) (p:Nat) (acc:List Tok):comb acc (scanR f [] p)=(acc,0,0):=by
 cases f<;>simp [scanR,comb]
theorem nextAt_le (l:List UInt8) (hl:l≠[]) (h:(read l).code=0):0<nextAt l/\nextAt l<=l.length:=by
 have h1:=read_ok l hl h;have h2:=blankLen_le false (l.drop (read l).text.length);rw [List.length_drop] at h2;unfold nextAt;omega
theorem scan_start (l:List UInt8) (hl:l.length<=12000):scan l=comb [] (scanR l.length (l.drop (blankLen false l)) (blankLen false l)):=by
 unfold scan;rw [if_neg (by omega)];generalize hq:scanR l.length (l.drop (blankLen false l)) (blankLen false l)=q;have key:∀ (f:Nat) (l:List UInt8) (p:Nat),(scanR f l p).2.1≠0->(scanR f l p).1=[]:=by
  intro f l p
  cases f with
  | zero=>simp [scanR]
  | succ f=>
   cases l with
   | nil=>simp [scanR]
   | cons c l=>
    simp only [scanR]
    split
    ·intro _;rfl
    ·split
     ·intro _;rfl
     ·simp
 have Fz:∀ (f:Nat) (l:List UInt8) (p:Nat),(scanR f l p).2.1=0->(scanR f l p).2.2=0:=by
  intro f l p
  cases f with
  | zero=>simp [scanR]
  | succ f=>
   cases l with
   | nil=>simp [scanR]
   | cons c l=>
    simp only [scanR]
    split
    ·rename_i h;intro h';exact absurd h' h
    ·split
     ·rename_i h;intro h';exact absurd h' h
     ·simp
 have k1:=key l.length (l.drop (blankLen false l)) (blankLen false l);have k2:=Fz l.length (l.drop (blankLen false l)) (blankLen false l);rw [hq] at k1 k2;obtain ⟨a,b,c⟩:=q;unfold comb;by_cases hb:b=0
 ·subst hb;simp at k2;simp [k2]
 ·simp at k1;simp [hb,k1 hb]
end Go.Proofs.YtkfgbhlpjkkgfaaGreatDoor.Tk
namespace Go.Proofs.YtkfgbhlpjkkgfaaGreatDoor
open Go.RowKit Go.IntWalk
theorem Tryz.info119:(Tryz.prog.info? 119).map (fun i=>(i.zero,i.size,i.bytes))=some (some (.agg #[.int .i64 0,.int .i64 0,.string ⟨#[]⟩,.int .i64 0]),4,40):=by kernel_rfl
def str (l:List UInt8):ByteArray:=⟨l.toArray⟩
def tokCells (t:Tk.Tok):List Value:=[.int .i64 t.kind,.int .i64 (t.place:Int),.string (str t.text),.int .i64 t.n]
def toksCells (l:List Tk.Tok):List Value:=l.flatMap tokCells
theorem zCA (s:ByteArray) (p:Nat):(s.extract p s.size).data.toList=s.data.toList.drop p:=by
 rw [zCC,List.take_of_length_le];rw [List.length_drop,<-Lib.size_eq];exact Nat.le_refl _
theorem zAQ {w w':World} {base:Nat} {e:TypeId} {size:Nat} {v:Value} {n:Nat} {xs:List Value} (h:w.ownsRow base e size v n xs) (hb:Below w.heap.size w w'):w'.ownsRow base e size v n xs :=
 h.kept (row:=none) ⟨hb.os,hb.tape,hb.output,hb.size,fun k hk _=>hb.block k hk⟩ (by cases hv:v.ownBlock<;>simp)
theorem zDq {w w1:World} (h:Below (w.heap.size+1) (w.alloc (.cells #[.int .i64 0,.int .i64 0] 29)) w1) :
  w1.cell? ⟨w.heap.size,0,none⟩=some (.int .i64 0)/\w1.cell? ⟨w.heap.size,1,none⟩=some (.int .i64 0)/\w1.frozen? ⟨w.heap.size,0,none⟩=false/\w1.frozen? ⟨w.heap.size,1,none⟩=false/\w.heap.size<w1.heap.size:=by
 obtain ⟨hc,hf⟩:=bcellB h;refine ⟨?_,?_,?_,?_,?_⟩
 ·rw [hc _ _ (by omega)];simp
 ·rw [hc _ _ (by omega)];simp
 ·rw [hf _ _ (by omega)];simp
 ·rw [hf _ _ (by omega)];simp
 ·have:=h.size;simp at this;omega
theorem scan_any (s:ByteArray) (w:World) (eK:s.size<=281474976710656) :
  Calls Tryz.prog 49 #[.string s] w fun e w'=>∃ v,e=.returned (.tuple #[v,.agg #[.int .i64 (Tk.scan s.data.toList).2.1,.int .i64 (Tk.scan s.data.toList).2.2]]) /\
   w'.ownsRow (w.heap.size+1) 119 4 v (Tk.scan s.data.toList).1.length (toksCells (Tk.scan s.data.toList).1)/\Below w.heap.size w w':=by
 have bo:s.data.toList.length=s.size:=(by rw [Lib.size_eq]);by_cases hbig:12000<s.size
 ·have e:Tk.scan s.data.toList=([],7,12000):=by simp [Tk.scan,bo,hbig]
  rw [e];clear e bo;go_enter Tryz.func49,Tryz.ntmps49;go_wp2;refine bodyPost_ret (v:=.tuple #[.slice none 0 0,.agg #[.int .i64 7,.int .i64 12000]]) (by simp [results,Tryz.results49,go_sem]) rfl ⟨_,rfl,World.ownsRow_nil _ _ _ _,?_⟩;exact (Below.refl _ _).alloc nR _
 ·have oI:s.size<=maxLen:=by unfold maxLen;omega
  have hb:=Tk.blankLen_le false s.data.toList;rw [bo] at hb;obtain ⟨R,hR⟩:=nmQ (Tk.scan s.data.toList);have HS:Hid (R=Tk.comb [] (Tk.scanR s.data.toList.length (s.data.toList.drop (Tk.blankLen false s.data.toList)) (Tk.blankLen false s.data.toList))):=by
   show _=_
   rw [hR,<-Tk.scan_start _ (by omega)]
  rw [<-hR];clear hR bo;obtain ⟨i0,hi,db,bP,bY⟩:=info_parts Tryz.info119;have uN:decide ((12000:Int)<(s.size:Int))=false:=(by simp;omega);go_enter Tryz.func49,Tryz.ntmps49
  go_wp2_with (go_at_call 74;refine (zCK _ _ oI).mono ?_;rintro e w' ⟨rfl,rfl⟩)
  go_loopw [4,5] (fun v i wr=>∃ (acc:List Tk.Tok) (p f:Nat),p<=s.size/\i=.int .i64 p/\acc.length<=p/\wr.ownsRow (w.heap.size+1) 119 4 v acc.length (toksCells acc)/\s.size-p<=f /\
    Hid (R=Tk.comb acc (Tk.scanR f (s.data.toList.drop p) p))/\Below (w.heap.size+1) (w.alloc (.cells #[.int .i64 0,.int .i64 0] 29)) wr)
   (fun _ i _=>s.size-(intOf i).toNat)
  case atStart=>exact ⟨[],_,s.data.toList.length,hb,rfl,Nat.zero_le _,World.ownsRow_nil _ _ _ _,by rw [<-Lib.size_eq];omega,HS,Below.refl _ _⟩
  case round=>
   obtain ⟨acc,p,f,hp,rfl,Lw,ah,hf,H,aj⟩:=hrel;obtain ⟨pM,yH⟩:=bcellB aj;have Kq:w.heap.size<wr.heap.size:=(by have:=aj.size;simp at this;omega);by_cases ak:p<s.size
   ·obtain ⟨f,rfl⟩:∃ f',f=f'+1:=⟨f-1,by omega⟩
    have cG:s.data.toList.drop p≠[]:=by
     intro e;have:=congrArg List.length e;rw [List.length_drop,<-Lib.size_eq] at this;simp at this;omega
    have du:=Tk.scanR_step f (s.data.toList.drop p) p cG;have jW:=Tk.scanR_fault f (s.data.toList.drop p) p cG;have bm:=Tk.read_ok (s.data.toList.drop p) cG;have wQ:=Tk.nextAt_le (s.data.toList.drop p) cG;have lQ:Tk.nextAt (s.data.toList.drop p)=(Tk.read (s.data.toList.drop p)).text.length+Tk.blankLen false (s.data.toList.drop (p+(Tk.read (s.data.toList.drop p)).text.length)):=(by unfold Tk.nextAt;rw [List.drop_drop]);rw [List.drop_drop] at du;rw [List.length_drop,<-Lib.size_eq] at bm wQ;have HG:Hid (∃ g,g=Tk.read (s.data.toList.drop p)):=⟨_,rfl⟩;obtain ⟨g,hg⟩:=HG.out;rw [<-hg] at du jW bm wQ lQ;have qi:=zAA hg;clear hg HG HS cG;by_cases cT:g.code=0
    ·have hR:R=Tk.comb (acc++[⟨g.kind,p,g.text,g.n⟩]) (Tk.scanR f (s.data.toList.drop (p+Tk.nextAt (s.data.toList.drop p))) (p+Tk.nextAt (s.data.toList.drop p))):=by rw [H.out];exact du cT acc
     have bm:=bm cT;have wQ:=wQ cT;obtain ⟨nx,AX⟩:=nmQ (Tk.nextAt (s.data.toList.drop p));rw [<-AX] at hR wQ lQ;have HR:=zAA hR;obtain ⟨bl,iA⟩:=nmQ (Tk.blankLen false (s.data.toList.drop (p+g.text.length)));rw [<-iA] at lQ;have wE:=zAA lQ;have N1:=zAA iA;have Mp:bl<=s.size-(p+g.text.length):=(by rw [iA];have:=Tk.blankLen_le false (s.data.toList.drop (p+g.text.length));rw [List.length_drop,<-Lib.size_eq] at this;exact this);clear iA;have lB:0<g.text.length:=bm.2.1;have N3:g.text.length<=s.size-p:=bm.2.2;clear hR lQ du jW H AX bm;have uZ:(g.code==0)=true:=(by simpa using cT);clear cT;go_wp2_with fail;refine (read_any _ _ (by rw [ByteArray.size_extract];omega)).mono ?_;rintro e w1 ⟨he,ke⟩;rw [zCA,<-zBE qi] at he;unfold gotV at he;subst he;have iV:=aj.trans (ke.mono Kq);have fi:=zAQ ah ke;obtain ⟨r0,r1,q0,q1,BP⟩:=zDq iV;clear pM yH ah aj ke
     go_wp2_with (at_builtin;refine wpList_append_own _ rfl _ _ 92 rfl (w.heap.size+1) 119 i0 (.agg #[.int .i64 0,.int .i64 0,.string ⟨#[]⟩,.int .i64 0]) 4 40 Tryz.underlying92 hi db bP bY rfl (by decide) _ _ _ rfl ((fi.alloc _).alloc _) ⟨w1.heap.size+1,0,none⟩ 1 1 [.int .i64 g.kind,.int .i64 (p:Int),.string ⟨g.text.toArray⟩,.int .i64 g.n] rfl rfl ?c1 ?c2 ?c3 ?c4 ?c5 ?_)
     case c1=>
      intro j u hj
      match j,hj with
      | 0,hj=>simp at hj;subst hj;simp [Addr.add]
      | 1,hj=>simp at hj;subst hj;simp [Addr.add]
      | 2,hj=>simp at hj;subst hj;simp [Addr.add]
      | 3,hj=>simp at hj;subst hj;simp [Addr.add]
     case c2=>intro u hu;simp at hu;rcases hu with rfl | rfl | rfl | rfl<;>rfl
     case c3=>unfold maxLen;omega
     case c4=>omega
     case c5=>simp;omega
     intro v2 w2 sE am _;have tz:=fi.lt;have Gm:Below (w.heap.size+1) (w.alloc (.cells #[.int .i64 0,.int .i64 0] 29)) w2:=
      ((iV.alloc BP _).alloc (by simp;omega) _).grown am (by simp;omega) (fun k hk=>(tz k hk).1)
     have ui:w2.cell? ⟨w1.heap.size,2,none⟩=some (.string ⟨g.text.toArray⟩):=
      am.cell (by simp) (fun e=>by have:=(tz _ e.symm).2;simp at this)
     have cf:w2.ownsRow (w.heap.size+1) 119 4 v2 (acc++[(⟨g.kind,p,g.text,g.n⟩:Tk.Tok)]).length (toksCells (acc++[⟨g.kind,p,g.text,g.n⟩])):=by
      have e1:(acc++[(⟨g.kind,p,g.text,g.n⟩:Tk.Tok)]).length=acc.length+1:=(by simp);have e2:toksCells (acc++[(⟨g.kind,p,g.text,g.n⟩:Tk.Tok)])=toksCells acc++[Value.int .i64 g.kind,.int .i64 (p:Int),.string ⟨g.text.toArray⟩,.int .i64 g.n]:=(by simp [toksCells,tokCells,str]);rw [e1,e2];exact sE
     clear am sE fi tz iV r0 r1 q0 q1;go_wp2_with fail;refine (zCK _ _ (by rw [ByteArray.size_extract];unfold maxLen;omega)).mono ?_;rintro e w3 ⟨he,rfl⟩;rw [zCA,<-zBE N1] at he;subst he;go_wp2
     go_roundw
     case rel=>exact ⟨acc++[⟨g.kind,p,g.text,g.n⟩],p+nx,f,by omega,by rw [wE.out];go_num,by simp;omega,cf,by omega,HR,Gm⟩
     case measure=>simp [intOf];omega
    ·have hR:R=([],g.code,(p:Int)):=by rw [H.out];exact jW cT acc
     subst hR;clear du jW bm wQ lQ H;have uZ:(g.code==0)=false:=(by simpa using cT);go_wp2_with fail;refine (read_any _ _ (by rw [ByteArray.size_extract];omega)).mono ?_;rintro e w1 ⟨he,ke⟩;rw [zCA,<-zBE qi] at he;unfold gotV at he;subst he;have iV:=aj.trans (ke.mono Kq);obtain ⟨r0,r1,q0,q1,BP⟩:=zDq iV;clear pM yH;go_wp2;refine bodyPost_ret (v:=.tuple #[.slice none 0 0,.agg #[.int .i64 g.code,.int .i64 (p:Int)]]) (by simp [results,Tryz.results49,go_sem,r0,r1,BP]) rfl ⟨_,rfl,World.ownsRow_nil _ _ _ _,?_⟩;exact (((((Below.refl _ w).alloc nR _).trans (iV.mono (Nat.le_succ _))).setCell (p:=⟨w.heap.size,0,none⟩) nR _).setCell (p:=⟨w.heap.size,1,none⟩) nR _).alloc (by simp;omega) _
   ·have Pv:p=s.size:=by omega
    subst Pv;have hR:R=(acc,0,0):=(by rw [H.out,List.drop_of_length_le (by rw [<-Lib.size_eq];exact Nat.le_refl _),Tk.scanR_end]);subst hR;obtain ⟨r0,r1,q0,q1,BP⟩:=zDq aj;clear pM yH HS H;go_wp2;refine bodyPost_ret (v:=.tuple #[u4,.agg #[.int .i64 0,.int .i64 0]]) (by simp [results,Tryz.results49,go_sem,r0,r1,BP]) rfl ⟨_,rfl,?_,?_⟩
    ·exact ownsRow_setCell_below (ownsRow_setCell_below ah (by simp) _) (by simp) _
    ·exact ((((Below.refl _ w).alloc nR _).trans (aj.mono (Nat.le_succ _))).setCell (by simp) _).setCell (by simp) _
def HoldsToks (w:World) (g:Nat) (L:List Tk.Tok):Prop :=
 ∀ i (hi:i<L.length),w.cell? ⟨g,i*4,none⟩=some (.int .i64 (L[i]).kind)/\w.cell? ⟨g,i*4+1,none⟩=some (.int .i64 ((L[i]).place:Int)) /\
  w.cell? ⟨g,i*4+2,none⟩=some (.string (str (L[i]).text))/\w.cell? ⟨g,i*4+3,none⟩=some (.int .i64 (L[i]).n)
theorem zDW:∀ (L:List Tk.Tok) (i:Nat) (hi:i<L.length),
  (toksCells L)[i*4]?=some (.int .i64 (L[i]).kind)/\(toksCells L)[i*4+1]?=some (.int .i64 ((L[i]).place:Int)) /\
  (toksCells L)[i*4+2]?=some (.string (str (L[i]).text))/\(toksCells L)[i*4+3]?=some (.int .i64 (L[i]).n)
 | [],i,hi=>by simp at hi
 | t :: L,0,_=>by simp [toksCells,tokCells]
 | t :: L,i+1,hi=>by
  have ih:=zDW L i (by simpa using hi);have e:toksCells (t :: L)=tokCells t++toksCells L:=(by simp [toksCells]);have hl:(tokCells t).length=4:=rfl;rw [e];have go:∀ j,(tokCells t++toksCells L)[(i+1)*4+j]?=(toksCells L)[i*4+j]?:=by
   intro j;rw [List.getElem?_append_right (by rw [hl];omega),hl]
   congr 1
   omega
  exact ⟨(go 0).trans ih.1,(go 1).trans ih.2.1,(go 2).trans ih.2.2.1,(go 3).trans ih.2.2.2⟩
theorem owns_toks {w:World} {base:Nat} {v:Value} {L:List Tk.Tok} (h:w.ownsRow base 119 4 v L.length (toksCells L)) :
  (v=.slice none 0 0/\L=[])\/∃ g cap,v=.slice (some ⟨g,0,none⟩) L.length cap/\base<=g/\g<w.heap.size/\L.length<=cap/\cap<=maxLen/\HoldsToks w g L:=by
 have fx:=@World.ownsRow.cells _ _ _ _ _ _ _ h;rcases h.2 with ⟨rfl,h0⟩ | ⟨g,cap,aR,rfl,hb,hg,eR,eV,gq,gP⟩
 ·exact .inl ⟨rfl,List.length_eq_zero_iff.1 h0⟩
 ·refine .inr ⟨g,cap,rfl,hb,(Array.getElem?_eq_some_iff.1 hg).1,eR,eV,fun i hi=>?_⟩
  have hc:=@fx g rfl;have ha:=zDW L i hi;have dn:∀ j,(⟨g,0,none⟩:Addr).add j=⟨g,j,none⟩:=by intro j;unfold Addr.add;split<;>simp_all
  have k0:=hc _ _ ha.1;have k1:=hc _ _ ha.2.1;have k2:=hc _ _ ha.2.2.1;have k3:=hc _ _ ha.2.2.2;rw [dn] at k0 k1 k2 k3;exact ⟨k0,k1,k2,k3⟩
theorem toks_slice {w:World} {base:Nat} {v:Value} {L:List Tk.Tok} (h:w.ownsRow base 119 4 v L.length (toksCells L)) :
  ∃ ao g cap,v=.slice ao L.length cap/\L.length<=cap/\cap<=maxLen/\(0<L.length->ao=some ⟨g,0,none⟩/\base<=g/\g<w.heap.size/\HoldsToks w g L):=by
 rcases owns_toks h with ⟨rfl,rfl⟩ | ⟨g,cap,rfl,h1,h2,h3,h4,h5⟩
 ·exact ⟨none,0,0,rfl,Nat.le_refl _,Nat.zero_le _,fun h=>by simp at h⟩
 ·exact ⟨some ⟨g,0,none⟩,g,cap,rfl,h3,h4,fun _=>⟨rfl,h1,h2,h5⟩⟩
structure Rd (w:World) (b g cap:Nat) (L:List Tk.Tok) (len nx op:Nat):Prop where
 here:w.heap[b]?=some (.cells #[.slice (some ⟨g,0,none⟩) L.length cap,.int .i64 nx,.int .i64 len,.int .i64 op] 126 (0,0))
 toks:HoldsToks w g L
 apart:b≠g
 gb:g<w.heap.size
 le:nx<=L.length
 lc:L.length<=cap
 cm:cap<=maxLen
def peekT (L:List Tk.Tok) (len nx:Nat):Tk.Tok:=if h:nx<L.length then L[nx] else ⟨0,len,[],0⟩
def tokV (t:Tk.Tok):Value:=.agg #[.int .i64 t.kind,.int .i64 (t.place:Int),.string (str t.text),.int .i64 t.n]
theorem Rd.cells {w:World} {b g cap:Nat} {L:List Tk.Tok} {len nx op:Nat} (h:Rd w b g cap L len nx op) :
  w.cell? ⟨b,0,none⟩=some (.slice (some ⟨g,0,none⟩) L.length cap)/\w.cell? ⟨b,1,none⟩=some (.int .i64 nx)/\w.cell? ⟨b,2,none⟩=some (.int .i64 len)/\w.cell? ⟨b,3,none⟩=some (.int .i64 op)/\b<w.heap.size:=by
 have h1:=h.here;refine ⟨?_,?_,?_,?_,(Array.getElem?_eq_some_iff.1 h1).1⟩<;>simp [World.cell?,h1]
structure Aside (S:List Nat) (B:Nat) (w w':World):Prop where
 os:w'.os=w.os
 tape:w'.tape=w.tape
 output:w'.output=w.output
 size:w.heap.size<=w'.heap.size
 block:∀ k,k<B->k ∉ S->w'.heap[k]?=w.heap[k]?
theorem zAC (w:World) (o:Obj):(w.alloc o).heap[w.heap.size]?=some o:=by
 show (w.heap.push o)[w.heap.size]?=_
 simp
theorem aside {S:List Nat} {B:Nat} {w w':World} (h:Below B w w'):Aside S B w w':=⟨h.os,h.tape,h.output,h.size,fun k hk _=>h.block k hk⟩
theorem Aside.refl {S:List Nat} {B:Nat} (w:World):Aside S B w w:=⟨rfl,rfl,rfl,Nat.le_refl _,fun _ _ _=>rfl⟩
theorem Aside.trans {S:List Nat} {B B':Nat} {a b c:World} (h:Aside S B a b) (k:Aside S B' b c) (hB:B<=B'):Aside S B a c :=
 ⟨k.os.trans h.os,k.tape.trans h.tape,k.output.trans h.output,Nat.le_trans h.size k.size,fun i hi hs=>(k.block i (Nat.lt_of_lt_of_le hi hB) hs).trans (h.block i hi hs)⟩
theorem Aside.wide {S S':List Nat} {B:Nat} {w w':World} (h:Aside S B w w') (hs:∀ k,k<B->k ∉ S'->k ∉ S):Aside S' B w w':=⟨h.os,h.tape,h.output,h.size,fun k hk hn=>h.block k hk (hs k hk hn)⟩
theorem Aside.below {S:List Nat} {B:Nat} {w w':World} (h:Aside S B w w') (hs:∀ k,k ∈ S->B<=k):Below B w w' :=
 ⟨h.os,h.tape,h.output,h.size,fun k hk=>h.block k hk fun hm=>absurd (hs k hm) (by omega)⟩
theorem HoldsToks.keep {w w':World} {g:Nat} {L:List Tk.Tok} (h:HoldsToks w g L) (hg:w'.heap[g]?=w.heap[g]?):HoldsToks w' g L:=by
 intro i hi;have hc:∀ o,w'.cell? ⟨g,o,none⟩=w.cell? ⟨g,o,none⟩:=fun o=>World.cell?_of_block (w:=w) hg;rw [hc,hc,hc,hc];exact h i hi
theorem Rd.below {w w':World} {b g cap:Nat} {L:List Tk.Tok} {len nx op:Nat} (h:Rd w b g cap L len nx op) (hb:Below w.heap.size w w'):Rd w' b g cap L len nx op :=
 ⟨(hb.block b h.cells.2.2.2.2).trans h.here,h.toks.keep (hb.block g h.gb),h.apart,Nat.lt_of_lt_of_le h.gb hb.size,h.le,h.lc,h.cm⟩
theorem zAT {w:World} {b g cap:Nat} {L:List Tk.Tok} {len nx op:Nat} (h:Rd w b g cap L len nx op) :
  Calls Tryz.prog 108 #[.pointer (some ⟨b,0,none⟩)] w fun e w'=>e=.returned (tokV (peekT L len nx))/\Below w.heap.size w w':=by
 obtain ⟨c0,c1,c2,c3,hb⟩:=h.cells;have ii:=h.le;have eV:=h.cm;have GV:=h.lc;unfold maxLen at eV;have Qs:=h.gb;by_cases hn:nx<L.length
 ·have hq:((nx:Int)==(L.length:Int))=false:=by rw [beq_eq_false_iff_ne];omega
  obtain ⟨t0,t1,t2,t3⟩:=h.toks nx hn;have e:peekT L len nx=L[nx]:=(by simp [peekT,hn]);rw [e];clear e;go_enter Tryz.func108,Tryz.ntmps108;go_wp2
  go_region
  go_wp2
  go_region
  go_wp2;exact bodyPost_ret (v:=tokV L[nx]) (by simp [tokV,results,Tryz.results108,go_sem]) rfl ⟨rfl,((Below.refl _ w).alloc nR _).drew.drew⟩
 ·have hq:((nx:Int)==(L.length:Int))=true:=by rw [beq_iff_eq];omega
  have e:peekT L len nx=⟨0,len,[],0⟩:=(by simp [peekT,hn]);rw [e];clear e;go_enter Tryz.func108,Tryz.ntmps108;go_wp2
  go_region
  go_wp2;exact bodyPost_ret (v:=tokV ⟨0,len,[],0⟩) (by simp [tokV,str,results,Tryz.results108,go_sem]) rfl ⟨rfl,((Below.refl _ w).alloc nR _).drew⟩
theorem zDI (t:Tk.Tok) (x:ByteArray) (w:World):(Instr.field 119 (.agg #[.int .i64 t.kind,.int .i64 (t.place:Int),.string x,.int .i64 t.n]) 2).run Tryz.prog w=.ok (.string x) w:=by
 kernel_rfl
theorem zFG {w:World} {b g cap:Nat} {L:List Tk.Tok} {len nx op:Nat} (h:Rd w b g cap L len nx op) (s:ByteArray) :
  Calls Tryz.prog 109 #[.pointer (some ⟨b,0,none⟩),.string s] w fun e w'=>e=.returned (.bool ((peekT L len nx).text==s.data.toList))/\Below w.heap.size w w':=by
 have hp:=@zAT _ _ _ _ _ _ _ _ h;obtain ⟨t,ht⟩:=nmQ (peekT L len nx);rw [<-ht] at hp ⊢;unfold tokV at hp;clear h ht;have hf:=fun x w=>zDI t x w;go_enter Tryz.func109,Tryz.ntmps109
 go_wp2_with (go_at_call 108;refine hp.mono ?_;rintro e w' ⟨rfl,hb⟩)
 go_ret;refine ⟨zAf ?_,hb⟩;simp [str,Lib.toList_data]
theorem Aside.setCell {S:List Nat} {B:Nat} {w:World} {p:Addr} (hp:p.block ∈ S) (u:Value):Aside S B w (w.setCell p u) :=
 ⟨rfl,rfl,rfl,by simp [World.setCell],fun k _ hs=>Below.heap_setCell _ _ _ _ (fun e=>hs (e ▸ hp))⟩
theorem Rd.moved {w:World} {b g cap:Nat} {L:List Tk.Tok} {len nx op:Nat} (h:Rd w b g cap L len nx op) (hn:nx<L.length) :
  Rd (w.setCell ⟨b,1,none⟩ (.int .i64 ((nx:Int)+1))) b g cap L len (nx+1) op:=by
 refine ⟨?_,h.toks.keep (Below.heap_setCell _ _ _ _ (fun e=>h.apart e.symm)),h.apart,by simpa [World.setCell] using h.gb,hn,h.lc,h.cm⟩;simp [World.setCell,Array.getElem?_modify,h.here]
theorem zAj {w:World} {b g cap:Nat} {L:List Tk.Tok} {len nx op:Nat} (h:Rd w b g cap L len nx op) (hn:nx<L.length) :
  Calls Tryz.prog 183 #[.pointer (some ⟨b,0,none⟩)] w fun e w'=>e=.returned (.tuple #[])/\Rd w' b g cap L len (nx+1) op/\Aside [b] w.heap.size w w':=by
 obtain ⟨c0,c1,c2,c3,hb⟩:=h.cells;have ii:=h.le;have eV:=h.cm;have GV:=h.lc;have hz:w.frozen? ⟨b,1,none⟩=false:=(by simp [World.frozen?,h.here]);unfold maxLen at eV;go_enter Tryz.func183,Tryz.ntmps183;go_wp2;go_end0;exact ⟨rfl,h.moved hn,Aside.setCell (by simp) _⟩
theorem take_yes {w:World} {b g cap:Nat} {L:List Tk.Tok} {len nx op:Nat} (h:Rd w b g cap L len nx op) (s:ByteArray) (hs:((peekT L len nx).text==s.data.toList)=true) (hn:nx<L.length) :
  Calls Tryz.prog 141 #[.pointer (some ⟨b,0,none⟩),.string s] w fun e w'=>e=.returned (.bool true)/\Rd w' b g cap L len (nx+1) op/\Aside [b] w.heap.size w w':=by
 have hp:=zFG h s;rw [hs] at hp;have pC:∀ (x:Bool) (w:World),(Op.unary .not (.bool x)).run Tryz.prog w=.ok (.bool (!x)) w:=fun _ _=>rfl;go_enter Tryz.func141,Tryz.ntmps141
 go_wp2_with (go_at_call 109;refine hp.mono ?_;rintro e w1 ⟨rfl,hb⟩)
 refine (zAj (h.below hb) hn).mono ?_;rintro e w2 ⟨rfl,h2,ha⟩;go_wp2;go_ret;exact ⟨rfl,h2,(aside hb).trans ha hb.size⟩
theorem take_no {w:World} {b g cap:Nat} {L:List Tk.Tok} {len nx op:Nat} (h:Rd w b g cap L len nx op) (s:ByteArray) (hs:((peekT L len nx).text==s.data.toList)=false) :
  Calls Tryz.prog 141 #[.pointer (some ⟨b,0,none⟩),.string s] w fun e w'=>e=.returned (.bool false)/\Below w.heap.size w w':=by
 have hp:=zFG h s;rw [hs] at hp;go_enter Tryz.func141,Tryz.ntmps141
 go_wp2_with (go_at_call 109;refine hp.mono ?_;rintro e w1 ⟨rfl,hb⟩)
 go_ret;exact ⟨rfl,hb⟩
theorem need_yes {w:World} {b g cap:Nat} {L:List Tk.Tok} {len nx op:Nat} (h:Rd w b g cap L len nx op) (s:ByteArray) (hs:((peekT L len nx).text==s.data.toList)=true) (hn:nx<L.length) :
  Calls Tryz.prog 139 #[.pointer (some ⟨b,0,none⟩),.string s] w fun e w'=>e=.returned (.tuple #[])/\Rd w' b g cap L len (nx+1) op/\Aside [b] w.heap.size w w':=by
 have hp:=take_yes h s hs hn;go_enter Tryz.func139,Tryz.ntmps139
 go_wp2_with (go_at_call 141;refine hp.mono ?_;rintro e w1 ⟨rfl,h1,ha⟩)
 go_end0;exact ⟨rfl,h1,ha⟩
theorem name_yes {w:World} {b g cap:Nat} {L:List Tk.Tok} {len nx op:Nat} (h:Rd w b g cap L len nx op) (hk:(peekT L len nx).kind=2) (hn:nx<L.length) :
  Calls Tryz.prog 140 #[.pointer (some ⟨b,0,none⟩)] w fun e w'=>e=.returned (.string (str (peekT L len nx).text))/\Rd w' b g cap L len (nx+1) op/\Aside [b] w.heap.size w w':=by
 have hp:=@zAT _ _ _ _ _ _ _ _ h;obtain ⟨t,ht⟩:=nmQ (peekT L len nx);rw [<-ht] at hp hk ⊢;unfold tokV at hp;rw [hk] at hp;clear ht;go_enter Tryz.func140,Tryz.ntmps140
 go_wp2_with (go_at_call 108;refine hp.mono ?_;rintro e w1 ⟨rfl,hb⟩)
 refine (zAj ((h.below hb).below ((Below.refl _ w1).alloc nR _)) hn).mono ?_;rintro e w2 ⟨rfl,h2,ha⟩;have Dm:=h.cells.2.2.2.2;have dB:=hb.size;have iA:w2.heap[w1.heap.size]?=some (.cells #[.int .i64 2,.int .i64 (t.place:Int),.string (str t.text),.int .i64 t.n] 119 (0,0)):=by
  rw [ha.block w1.heap.size (by simp) (by simp;omega)];exact zAC _ _
 have G6:w2.cell? ⟨w1.heap.size,2,none⟩=some (.string (str t.text)):=(by simp [World.cell?,iA]);go_wp2;go_ret;exact ⟨rfl,h2,(aside hb).trans ((aside ((Below.refl w1.heap.size w1).alloc nR _)).trans ha (by simp)) dB⟩
theorem nw2 (w:World) (A B:Obj):Below w.heap.size w ((w.alloc A).alloc B)/\((w.alloc A).alloc B).heap[w.heap.size]?=some A/\((w.alloc A).alloc B).heap[w.heap.size+1]?=some B:=⟨((Below.refl _ _).alloc (Nat.le_refl _) _).alloc (by simp) _,(Below.heap_alloc _ _ _ (by simp)).trans (zAC w _),(by have:=zAC (w.alloc A) B;simpa using this)⟩
end Go.Proofs.YtkfgbhlpjkkgfaaGreatDoor
