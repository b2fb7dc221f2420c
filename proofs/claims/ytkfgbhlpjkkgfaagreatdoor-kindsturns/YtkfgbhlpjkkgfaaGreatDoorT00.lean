import Derived.Test.YtkfgbhlpjkkgfaaGreatDoorRows
import Derived.WalkKit
import Derived.WalkSpells
import Derived.Lib.Strings
import Derived.Lib.Walk
import Derived.Lib.Slices
import Derived.Lib.Bytealg
import Derived.Lib.BufferWrite
import Derived.Lib.UnsafeStr
import Derived.Lib.Hide
import Derived.Laws.MakeOwn
import Derived.RegionTactic
set_option linter.unusedVariables false
set_option linter.unusedSimpArgs false
set_option maxHeartbeats 64000000
set_option maxRecDepth 100000
namespace Go.Proofs.YtkfgbhlpjkkgfaaGreatDoor
theorem nmQ {α:Sort _} (e:α):∃ x,x=e:=⟨e,rfl⟩
theorem nR {n:Nat}:n<=n:=Nat.le_refl n
theorem gT {α:Type _} {l:List α} {i:Nat}:l.toArray[i]?=l[i]?:=List.getElem?_toArray
theorem gZ {α:Type _} {a:α} {l:List α}:(a :: l)[0]?=some a:=List.getElem?_cons_zero
theorem gS {α:Type _} {a:α} {l:List α} {i:Nat}:(a :: l)[i+1]?=l[i]?:=List.getElem?_cons_succ
theorem sT {α:Type _} {l:List α} {i:Nat} {a:α}:l.toArray.setIfInBounds i a=(l.set i a).toArray:=List.setIfInBounds_toArray ..
theorem sZ {α:Type _} {x:α} {l:List α} {a:α}:(x :: l).set 0 a=a :: l:=List.set_cons_zero ..
theorem sS {α:Type _} {x:α} {l:List α} {n:Nat} {a:α}:(x :: l).set (n+1) a=x :: l.set n a:=List.set_cons_succ ..
end Go.Proofs.YtkfgbhlpjkkgfaaGreatDoor
namespace Go.Proofs.YtkfgbhlpjkkgfaaGreatDoor.Tk
def isL (c:Int):Bool:=decide (97<=c)&&decide (c<=122)
def isD (c:Int):Bool:=decide (48<=c)&&decide (c<=57)
def isB (c:Int):Bool:=c==32 || c==9 || c==10 || c==13
def isR (c:Int):Bool:=isL c || isD c
def runLen (l:List UInt8):Nat:=(l.takeWhile fun c=>isR (c.toNat:Int)).length
def blankLen:Bool->List UInt8->Nat
 | _,[]=>0
 | r,c :: l=>
  if c.toNat=10 then 1+blankLen false l
  else if c.toNat=35 then 1+blankLen true l
  else if r=false/\isB (c.toNat:Int)=false then 0
  else 1+blankLen r l
theorem runLen_le (l:List UInt8):runLen l<=l.length:=by
 unfold runLen;exact List.Sublist.length_le (List.takeWhile_sublist _)
theorem runLen_at:∀ (l:List UInt8) (k:Nat) (hk:k<l.length),(∀ j (hj:j<l.length),j<k->isR ((l[j]).toNat:Int)=true)->isR ((l[k]).toNat:Int)=false->runLen l=k
 | [],_,hk,_,_=>by simp at hk
 | c :: l,0,_,_,hn=>by simp at hn;simp [runLen,hn]
 | c :: l,k+1,hk,h,hn=>by
  have h0:=h 0 (by simp) (by omega);simp at h0;have ih:=runLen_at l k (by simpa using hk) (fun j hj kV=>by have:=h (j+1) (by simpa using hj) (by omega);simpa using this) (by simpa using hn);unfold runLen at ih ⊢;simp [h0,ih]
theorem runLen_all:∀ (l:List UInt8),(∀ j (hj:j<l.length),isR ((l[j]).toNat:Int)=true)->runLen l=l.length
 | [],_=>rfl
 | c :: l,h=>by
  have h0:=h 0 (by simp);simp at h0;have ih:=runLen_all l (fun j hj=>by have:=h (j+1) (by simpa using hj);simpa using this);unfold runLen at ih ⊢;simp [h0,ih]
theorem blankLen_le:∀ (r:Bool) (l:List UInt8),blankLen r l<=l.length
 | _,[]=>Nat.le_refl _
 | r,c :: l=>by
  have h1:=blankLen_le false l;have h2:=blankLen_le true l;have h3:=blankLen_le r l;unfold blankLen;simp only [List.length_cons]
  split
  ·omega
  ·split
   ·omega
   ·split<;>omega
def flag (r:Bool) (c:Int):Bool:=if c=10 then false else if c=35 then true else r
def stops (r:Bool) (c:Int):Bool := !(flag r c) && !(isB c)
theorem blankLen_stop (r:Bool) (c:UInt8) (l:List UInt8) (h:stops r (c.toNat:Int)=true):blankLen r (c :: l)=0:=by
 unfold stops flag at h;unfold blankLen;by_cases h1:(c.toNat:Int)=10
 ·simp [h1,isB] at h
 ·by_cases h2:(c.toNat:Int)=35
  ·simp [h2] at h
  ·have ur:¬c.toNat=10:=by omega
   have vG:¬c.toNat=35:=(by omega);simp [h1,h2] at h;simp [ur,vG,h]
theorem blankLen_go (r:Bool) (c:UInt8) (l:List UInt8) (h:stops r (c.toNat:Int)=false):blankLen r (c :: l)=1+blankLen (flag r (c.toNat:Int)) l:=by
 unfold stops flag at h;unfold flag;by_cases h1:(c.toNat:Int)=10
 ·have ur:c.toNat=10:=by omega
  simp [blankLen,ur]
 ·by_cases h2:(c.toNat:Int)=35
  ·have vG:c.toNat=35:=by omega
   simp [blankLen,vG]
  ·have ur:¬c.toNat=10:=by omega
   have vG:¬c.toNat=35:=(by omega);simp [h1,h2] at h;have h3:¬(r=false/\isB (c.toNat:Int)=false):=by
    rintro ⟨rfl,hb⟩;simp [hb] at h
   simp only [blankLen,ur,vG,h3,if_false,h1,h2]
def words:List (List UInt8):=
  [[97,100,100],
   [97,110,100],
   [98,111,111,108],
   [99,97,108,108],
   [99,97,116],
   [100,105,118],
   [101,108,115,101],
   [101,113],
   [102,97,108,115,101],
   [102,105,108,108],
   [102,111,108,100],
   [105,102],
   [105,110,116],
   [108,101,115,115],
   [109,97,112],
   [109,97,120],
   [109,105,110],
   [109,111,100],
   [109,117,108],
   [110,101,103],
   [110,111,100,101],
   [110,111,116],
   [111,114],
   [112,114,101],
   [115,99,97,110],
   [115,108,105,99,101],
   [115,117,98],
   [116,104,101,110],
   [116,114,117,101],
   [118,97,114],
   [119,105,116,104],
   [120,111,114]]
def isWord (l:List UInt8):Bool:=words.any fun x=>l==x
def signs:List UInt8:=[40,41,123,125,91,93,60,62,44,59,58,43,45,42,47,37,61,94]
def isS (c:UInt8):Bool:=signs.any fun x=>x==c
def signLen:List UInt8->Nat
 | []=>0
 | c :: l=>if (c==61&&l.head?==some 61) || (c==45&&l.head?==some 62) then 2 else if isS c then 1 else 0
def numVal (l:List UInt8):Int:=l.foldl (fun a c=>a*10+((c.toNat:Int)-48)) 0
structure Got where
 kind:Int
 text:List UInt8
 n:Int
 code:Int
def bad (c:Int):Got:=⟨0,[],0,c⟩
def readSign (l:List UInt8):Got:=if signLen l=0 then bad 1 else ⟨4,l.take (signLen l),0,0⟩
def badNum (l:List UInt8):Bool:=decide (18<l.length) || (decide (1<l.length)&&l.head?==some 48)
def readNum (l:List UInt8):Got:=if badNum l then bad 2 else if l.all (fun c=>isD (c.toNat:Int)) then ⟨3,l,numVal l,0⟩ else bad 2
def readName (l:List UInt8):Got:=if isWord l then ⟨1,l,0,0⟩ else if 12<l.length then bad 3 else ⟨2,l,0,0⟩
def read (l:List UInt8):Got :=
 if runLen l=0 then readSign l
 else if isD ((l.headD 0).toNat:Int) then readNum (l.take (runLen l))
 else readName (l.take (runLen l))
structure Tok where
 kind:Int
 place:Nat
 text:List UInt8
 n:Int
def scanR:Nat->List UInt8->Nat->List Tok × Int × Int
 | 0,_,_=>([],0,0)
 | _+1,[],_=>([],0,0)
 | f+1,c :: l,p=>
  if (read (c :: l)).code≠0 then ([],(read (c :: l)).code,(p:Int))
  else
   let t:=(read (c :: l)).text
   let r:=(c :: l).drop t.length
   let b:=blankLen false r
   let q:=scanR f (r.drop b) (p+t.length+b)
   if q.2.1≠0 then ([],q.2) else (⟨(read (c :: l)).kind,p,t,(read (c :: l)).n⟩ :: q.1,0,0)
def scan (l:List UInt8):List Tok × Int × Int :=
 if 12000<l.length then ([],7,12000) else scanR l.length (l.drop (blankLen false l)) (blankLen false l)
end Go.Proofs.YtkfgbhlpjkkgfaaGreatDoor.Tk
namespace Go.Proofs.YtkfgbhlpjkkgfaaGreatDoor
open Go.RowKit
theorem zAA {p:Prop} (h:p):Hid p:=h
theorem zBE {p:Prop} (h:Hid p):p:=h
theorem zAs {k:IntKind} {a b:Int} (h:a=b):Ending.returned (.int k a)=.returned (.int k b):=by rw [h]
theorem zAf {a b:Bool} (h:a=b):Ending.returned (.bool a)=.returned (.bool b):=by rw [h]
theorem zAa (c:Int) (w:World) :
  Calls Tryz.prog 135 #[.int .u8 c] w fun e w'=>e=.returned (.bool (Tk.isL c))/\w'=w:=by
 unfold Tk.isL;go_enter Tryz.func135,Tryz.ntmps135;go_wp2
 all_goals go_ret
 all_goals refine ⟨zAf ?_,rfl⟩
 all_goals (rw [Bool.eq_iff_iff];simp;try omega)
theorem zAb (c:Int) (w:World) :
  Calls Tryz.prog 104 #[.int .u8 c] w fun e w'=>e=.returned (.bool (Tk.isD c))/\w'=w:=by
 unfold Tk.isD;go_enter Tryz.func104,Tryz.ntmps104;go_wp2
 all_goals go_ret
 all_goals refine ⟨zAf ?_,rfl⟩
 all_goals (rw [Bool.eq_iff_iff];simp;try omega)
theorem zCW (c:Int) (w:World) :
  Calls Tryz.prog 101 #[.int .u8 c] w fun e w'=>e=.returned (.bool (Tk.isB c))/\w'=w:=by
 unfold Tk.isB;go_enter Tryz.func101,Tryz.ntmps101;go_wp2
 all_goals go_ret
 all_goals simp_all
theorem zDb (s:ByteArray) (k:Nat) (h:k<s.size) (h':k<s.data.toList.length):s.data.toList[k]=s[k]:=by
 rfl
theorem zAX (s:ByteArray) (w:World) (hs:s.size<=maxLen) :
  Calls Tryz.prog 102 #[.string s] w fun e w'=>e=.returned (.int .i64 (Tk.runLen s.data.toList:Int))/\w'=w:=by
 unfold maxLen at hs;go_enter Tryz.func102,Tryz.ntmps102;go_wp2
 go_loop [6] (fun i=>∃ k:Nat,k<=s.size/\i=.int .i64 k/\Hid (∀ j (hj:j<s.data.toList.length),j<k->Tk.isR ((s.data.toList[j]).toNat:Int)=true)) (fun i=>s.size-(intOf i).toNat)
 case atStart=>exact ⟨0,Nat.zero_le _,rfl,fun j _ h=>absurd h (Nat.not_lt_zero _)⟩
 case round=>
  obtain ⟨k,hk,rfl,H⟩:=hrel;by_cases ak:k<s.size
  ·cases hL:Tk.isL ((s[k]).toNat:Int)
   ·cases hD:Tk.isD ((s[k]).toNat:Int)
    ·go_wp2_with (first
      | (go_at_call 135;refine (zAa _ _).mono ?_;rintro e w' ⟨rfl,rfl⟩)
      | (go_at_call 104;refine (zAb _ _).mono ?_;rintro e w' ⟨rfl,rfl⟩))
     go_ret;refine ⟨zAs ?_,rfl⟩;rw [Tk.runLen_at s.data.toList k (by simpa using ak) H.out (by rw [zDb s k ak];simp [Tk.isR,hL,hD])]
    ·go_wp2_with (first
      | (go_at_call 135;refine (zAa _ _).mono ?_;rintro e w' ⟨rfl,rfl⟩)
      | (go_at_call 104;refine (zAb _ _).mono ?_;rintro e w' ⟨rfl,rfl⟩))
     go_round
     case rel=>exact ⟨k+1,by omega,by go_num,fun j hj kV=>by
      by_cases e:j=k
      ·subst e;rw [zDb s j ak];simp [Tk.isR,hD]
      ·exact H.out j hj (by omega)⟩
     case measure=>simp [intOf];omega
   ·go_wp2_with (first
      | (go_at_call 135;refine (zAa _ _).mono ?_;rintro e w' ⟨rfl,rfl⟩)
      | (go_at_call 104;refine (zAb _ _).mono ?_;rintro e w' ⟨rfl,rfl⟩))
    go_round
    case rel=>exact ⟨k+1,by omega,by go_num,fun j hj kV=>by
      by_cases e:j=k
      ·subst e;rw [zDb s j ak];simp [Tk.isR,hL]
      ·exact H.out j hj (by omega)⟩
    case measure=>simp [intOf];omega
  ·have qR:k=s.size:=by omega
   subst qR;go_wp2;go_ret;refine ⟨zAs ?_,rfl⟩;rw [Tk.runLen_all s.data.toList (fun j hj=>H.out j hj (by simpa using hj))];simp
theorem zCK (s:ByteArray) (w:World) (hs:s.size<=maxLen) :
  Calls Tryz.prog 74 #[.string s] w fun e w'=>e=.returned (.int .i64 (Tk.blankLen false s.data.toList:Int))/\w'=w:=by
 unfold maxLen at hs;have bo:s.data.toList.length=s.size:=(by simp);go_enter Tryz.func74,Tryz.ntmps74;go_wp2
 go_loop [3,7] (fun r i=>∃ (k:Nat) (b:Bool),k<=s.size/\r=.bool b/\i=.int .i64 k/\Hid (Tk.blankLen false s.data.toList=k+Tk.blankLen b (s.data.toList.drop k))) (fun _ i=>s.size-(intOf i).toNat)
 case atStart=>exact ⟨0,false,Nat.zero_le _,rfl,rfl,by show _=_;simp⟩
 case round=>
  obtain ⟨k,b,hk,rfl,rfl,H⟩:=hrel;by_cases ak:k<s.size
  ·have HD:Hid (s.data.toList.drop k=s[k] :: s.data.toList.drop (k+1)):=List.drop_eq_getElem_cons (by simpa using ak)
   by_cases cQ:((s[k]).toNat:Int)=10
   ·have rJ:Hid (((s[k]).toNat:Int)=10):=cQ
    have Kb:(((s[k]).toNat:Int)==10)=true:=(by simpa using cQ);clear cQ;go_wp2
    go_round
    case rel=>exact ⟨k+1,false,by omega,rfl,by go_num,by
     show _=_
     rw [H.out,HD.out,Tk.blankLen_go _ _ _ (by simp [Tk.stops,Tk.flag,Tk.isB,rJ.out])];simp [Tk.flag,rJ.out];omega⟩
    case measure=>simp [intOf];omega
   ·have Kb:(((s[k]).toNat:Int)==10)=false:=by simpa using cQ
    have rJ:Hid (¬((s[k]).toNat:Int)=10):=cQ;clear cQ;by_cases h35:((s[k]).toNat:Int)=35
    ·have vu:Hid (((s[k]).toNat:Int)=35):=h35
     have Lz:(((s[k]).toNat:Int)==35)=true:=(by simpa using h35);clear h35;go_wp2
     go_round
     case rel=>exact ⟨k+1,true,by omega,rfl,by go_num,by
      show _=_
      rw [H.out,HD.out,Tk.blankLen_go _ _ _ (by simp [Tk.stops,Tk.flag,vu.out])];simp [Tk.flag,vu.out];omega⟩
     case measure=>simp [intOf];omega
    ·have Lz:(((s[k]).toNat:Int)==35)=false:=by simpa using h35
     have vu:Hid (¬((s[k]).toNat:Int)=35):=h35;clear h35
     cases b
     ·cases hB:Tk.isB ((s[k]).toNat:Int)
      ·go_wp2_with (go_at_call 101;refine (zCW _ _).mono ?_;rintro e w' ⟨rfl,rfl⟩)
       go_ret;refine ⟨zAs ?_,rfl⟩;rw [H.out,HD.out,Tk.blankLen_stop _ _ _ (by simp [Tk.stops,Tk.flag,rJ.out,vu.out,hB])];simp
      ·go_wp2_with (go_at_call 101;refine (zCW _ _).mono ?_;rintro e w' ⟨rfl,rfl⟩)
       go_round
       case rel=>exact ⟨k+1,false,by omega,rfl,by go_num,by
        show _=_
        rw [H.out,HD.out,Tk.blankLen_go _ _ _ (by simp [Tk.stops,hB])];simp [Tk.flag,rJ.out,vu.out];omega⟩
       case measure=>simp [intOf];omega
     ·go_wp2_with (go_at_call 101;refine (zCW _ _).mono ?_;rintro e w' ⟨rfl,rfl⟩)
      go_round
      case rel=>exact ⟨k+1,true,by omega,rfl,by go_num,by
       show _=_
       rw [H.out,HD.out,Tk.blankLen_go _ _ _ (by simp [Tk.stops,Tk.flag,rJ.out,vu.out])];simp [Tk.flag,rJ.out,vu.out];omega⟩
      case measure=>simp [intOf];omega
  ·have qR:k=s.size:=by omega
   subst qR;go_wp2;go_ret;refine ⟨zAs ?_,rfl⟩;rw [H.out,List.drop_of_length_le (by simp)];simp [Tk.blankLen]
end Go.Proofs.YtkfgbhlpjkkgfaaGreatDoor
namespace Go.Proofs.YtkfgbhlpjkkgfaaGreatDoor
open Go.RowKit
theorem hasPrefix33 (s p:ByteArray) (w:World) :
  Calls Tryz.prog 218 #[.string s,.string p] w fun e w'=>e=.returned (.bool (Lib.hasPrefix s.data.toList p.data.toList))/\w'=w:=by
 rw [<-Lib.hasPrefix_of_take,<-Lib.size_eq,<-Lib.size_eq];go_enter Tryz.func218,Tryz.ntmps218;go_wp2
 ·rename_i h
  go_ret;refine ⟨?_,rfl⟩
  show Ending.returned (Value.bool ((s.extract 0 p.size).toList==p.toList))=_
  rw [Lib.extract_toList,Lib.toList_data];simp [h]
 ·rename_i h
  go_ret;refine ⟨?_,rfl⟩
  show Ending.returned (Value.bool false)=_
  simp [h]
theorem zAn (s p:ByteArray) (w:World) :
  Calls Tryz.prog 179 #[.string s,.string p] w fun e w'=>e=.returned (.bool (Lib.hasPrefix s.data.toList p.data.toList))/\w'=w:=by
 go_enter Tryz.func179,Tryz.ntmps179
 go_wp2_with (go_at_call 218;refine (hasPrefix33 _ _ _).mono ?_;rintro e w' ⟨rfl,rfl⟩)
 go_ret;exact ⟨rfl,rfl⟩
theorem indexByte34 (s:ByteArray) (c:Int) (w:World) :
  Calls Tryz.prog 219 #[.string s,.int .u8 c] w fun e w'=>e=.returned (.int .i64 (Lib.indexByte s.data.toList c.toNat.toUInt8))/\w'=w:=by
 go_enter Tryz.func219,Tryz.ntmps219;go_wp2;rw [run_callFunc_extern Tryz.func244 (by kernel_rfl) (by kernel_rfl) (by kernel_rfl) (e:=Extern.BytealgIndexByte.indexByte) (by kernel_rfl),Lib.run_indexByteString];simp only [Result.andThen];rw [Oper.upon_value];go_wp2;go_ret;exact ⟨rfl,rfl⟩
theorem zAo (s:ByteArray) (c:Int) (w:World) :
  Calls Tryz.prog 180 #[.string s,.int .u8 c] w fun e w'=>e=.returned (.int .i64 (Lib.indexByte s.data.toList c.toNat.toUInt8))/\w'=w:=by
 go_enter Tryz.func180,Tryz.ntmps180
 go_wp2_with (go_at_call 219;refine (indexByte34 _ _ _).mono ?_;rintro e w' ⟨rfl,rfl⟩)
 go_ret;exact ⟨rfl,rfl⟩
theorem zBK (s:ByteArray) (w:World) :
  Calls Tryz.prog 138 #[.string s] w fun e w'=>e=.returned (.bool (Tk.isWord s.data.toList))/\w'=w:=by
 rw [<-Lib.toList_data];go_enter Tryz.func138,Tryz.ntmps138;go_wp2
 all_goals go_ret
 all_goals refine ⟨zAf ?_,rfl⟩
 all_goals first
  | (simp only [Tk.isWord,Tk.words,List.any_cons,List.any_nil, *,Bool.or_true,Bool.true_or,Bool.or_false];done)
  | (exfalso;simp_all;done)
theorem zBo (c:UInt8):∀ l:List UInt8,decide (0<=Lib.indexByte l c)=l.any fun x=>x==c
 | []=>by simp [Lib.indexByte]
 | b :: l=>by
  have ih:=zBo c l;have hg:=Lib.indexByte_ge l c;unfold Lib.indexByte;by_cases hb:(b==c)=true
  ·simp [hb]
  ·have jS:(b==c)=false:=by simpa using hb
   rw [List.any_cons,jS,Bool.false_or,<-ih];simp only [Bool.false_eq_true,if_false];by_cases h1:Lib.indexByte l c = -1
   ·simp [h1]
   ·have h2:(Lib.indexByte l c == -1)=false:=by simpa using h1
    simp only [h2,Bool.false_eq_true,if_false];rw [Bool.eq_iff_iff];simp;omega
theorem signLen_of (l:List UInt8):Tk.signLen l=if Lib.hasPrefix l [61,61] then 2 else if Lib.hasPrefix l [45,62] then 2 else if l≠[]/\Tk.isS (l.headD 0)=true then 1 else 0:=by
 match l with
 | []=>simp [Tk.signLen,Lib.hasPrefix]
 | [c]=>simp [Tk.signLen,Lib.hasPrefix]
 | c :: d :: l=>
  simp only [Tk.signLen,Lib.hasPrefix,List.isPrefixOf,List.head?_cons,List.headD_cons];by_cases h1:c=61<;>by_cases h2:d=61<;>by_cases h3:c=45<;>by_cases h4:d=62<;>simp [h1,h2,h3,h4,eq_comm (a:=(61:UInt8)),eq_comm (a:=(45:UInt8)),eq_comm (a:=(62:UInt8))]
theorem zCX (s:ByteArray) (w:World) :
  Calls Tryz.prog 136 #[.string s] w fun e w'=>e=.returned (.int .i64 (Tk.signLen s.data.toList:Int))/\w'=w:=by
 obtain ⟨r,hr⟩:=nmQ (Tk.signLen s.data.toList);rw [<-hr];rw [signLen_of] at hr;have HR:=zAA hr;clear hr
 cases h1:Lib.hasPrefix s.data.toList [61,61]
 ·cases h2:Lib.hasPrefix s.data.toList [45,62]
  ·by_cases h0:s.size=0
   ·have hs:s=⟨#[]⟩:=ByteArray.ext (Array.eq_empty_of_size_eq_zero h0)
    subst hs;go_enter Tryz.func136,Tryz.ntmps136
    go_wp2_with (first
     | (go_at_call 179;refine (zAn _ _ _).mono ?_;rintro e w' ⟨rfl,rfl⟩)
     | (go_at_call 180;refine (zAo _ _ _).mono ?_;rintro e w' ⟨rfl,rfl⟩))
    go_ret;exact ⟨zAs (by rw [zBE HR];simp [h1,h2]),rfl⟩
   ·have hp:0<s.size:=by omega
    have nX:s.toList.isEmpty=false:=by
     rw [Lib.toList_data]
     cases hc:s.data.toList with
     | nil=>exfalso;rw [Lib.size_eq,hc] at hp;simp at hp
     | cons a b=>rfl
    have cG:¬s.toList=[]:=(by intro e;rw [e] at nX;simp at nX);have HS:=zAA (zBo s[0] [40,41,123,125,91,93,60,62,44,59,58,43,45,42,47,37,61,94]);have HD:Hid (s.data.toList.headD 0=s[0]/\s.data.toList≠[]):=by
     rw [Lib.toList_data] at cG;refine ⟨?_,cG⟩
     cases hc:s.data.toList with
     | nil=>exact absurd hc cG
     | cons a b=>
      have:s.data.toList[0]'(by simp;omega)=a:=by simp [hc]
      rw [List.headD_cons,<-this];rfl
    by_cases hi:0<=Lib.indexByte [40,41,123,125,91,93,60,62,44,59,58,43,45,42,47,37,61,94] s[0]
    ·go_enter Tryz.func136,Tryz.ntmps136
     go_wp2_with (first
      | (go_at_call 179;refine (zAn _ _ _).mono ?_;rintro e w' ⟨rfl,rfl⟩)
      | (go_at_call 180;refine (zAo _ _ _).mono ?_;rintro e w' ⟨rfl,rfl⟩))
     go_ret;refine ⟨zAs ?_,rfl⟩;have hS:Tk.isS s[0]=true:=(by rw [Tk.isS,Tk.signs,<-zBE HS];simpa using hi);rw [zBE HR,HD.out.1];simp [h1,h2,hS,HD.out.2]
    ·have wC:Lib.indexByte [40,41,123,125,91,93,60,62,44,59,58,43,45,42,47,37,61,94] s[0]<0:=by omega
     go_enter Tryz.func136,Tryz.ntmps136
     go_wp2_with (first
      | (go_at_call 179;refine (zAn _ _ _).mono ?_;rintro e w' ⟨rfl,rfl⟩)
      | (go_at_call 180;refine (zAo _ _ _).mono ?_;rintro e w' ⟨rfl,rfl⟩))
     go_ret;refine ⟨zAs ?_,rfl⟩;have hS:Tk.isS s[0]=false:=(by rw [Tk.isS,Tk.signs,<-zBE HS];simpa using wC);rw [zBE HR,HD.out.1];simp [h1,h2,hS]
  ·go_enter Tryz.func136,Tryz.ntmps136
   go_wp2_with (first
    | (go_at_call 179;refine (zAn _ _ _).mono ?_;rintro e w' ⟨rfl,rfl⟩)
    | (go_at_call 180;refine (zAo _ _ _).mono ?_;rintro e w' ⟨rfl,rfl⟩))
   go_ret;exact ⟨zAs (by rw [zBE HR];simp [h1,h2]),rfl⟩
 ·go_enter Tryz.func136,Tryz.ntmps136
  go_wp2_with (first
   | (go_at_call 179;refine (zAn _ _ _).mono ?_;rintro e w' ⟨rfl,rfl⟩)
   | (go_at_call 180;refine (zAo _ _ _).mono ?_;rintro e w' ⟨rfl,rfl⟩))
  go_ret;exact ⟨zAs (by rw [zBE HR];simp [h1]),rfl⟩
theorem Tryz.info5:(Tryz.prog.info? 5).map (fun i=>(i.zero,i.size,i.bytes))=some (some (.int .u8 0),1,1):=by kernel_rfl
theorem clone35 (s:ByteArray) (w:World) (eK:s.size<=281474976710656) :
  Calls Tryz.prog 220 #[.string s] w fun e w'=>e=.returned (.string s)/\Below w.heap.size w w':=by
 by_cases h0:s.size=0
 ·have hs:s=⟨#[]⟩:=ByteArray.ext (Array.eq_empty_of_size_eq_zero h0)
  subst hs;go_enter Tryz.func220,Tryz.ntmps220;go_wp2;go_ret;exact ⟨rfl,Below.refl _ _⟩
 ·obtain ⟨i0,hi,db,bP,bY⟩:=info_parts Tryz.info5
  have zg:(Tryz.prog.info? 5).map (·.size)=some 1:=(by rw [hi];simp [bP]);have MY:Tryz.prog.cellsOf 5=1:=(by simp [Program.cellsOf,hi,bP]);obtain ⟨M,hM⟩:=nmQ (madeCells (Value.int .u8 0).cells (((s.size:Nat):Int).toNat*i0.size));have xb:M.size=s.size:=(by rw [hM,size_madeCells,bP];simp);have mV:∀ W:World,(Instr.makeSlice 129 (.int .i64 (s.size:Int)) (.int .i64 (s.size:Int))).run Tryz.prog W=.ok (.slice (some ⟨W.heap.size,0,none⟩) s.size s.size) (W.alloc (.cells M 5)):=fun W=>by
   have h:=run_make (P:=Tryz.prog) W 129 5 i0 (.int .u8 0) Tryz.underlying129 hi db .i64 .i64 (s.size:Int) (s.size:Int) (by omega) (by omega) (by rw [bY];omega) (by omega);rw [<-hM] at h
   simpa using h
  clear hM;have Dq:=Lib.run_copy_row_string (P:=Tryz.prog) (w.alloc (.cells M 5)) 129 9 3 5 w.heap.size 0 s.size s.size s M 5 Tryz.underlying129 zg (heap_alloc_new w _) nR (by omega);obtain ⟨Y,hY⟩:=nmQ ((M.toList.take 0++Lib.byteCells s.data.toList++M.toList.drop (0+s.size)).toArray);rw [<-hY] at Dq;have J7:Y.toList=Lib.byteCells s.data.toList:=by
   rw [hY,List.toList_toArray,List.take_zero,List.nil_append,List.drop_of_length_le (by rw [Array.length_toList];omega),List.append_nil]
  have Qk:Y.size=s.size:=(by rw [<-Array.length_toList,J7,Lib.byteCells_length,<-Lib.size_eq]);have KL:((w.alloc (.cells M 5)).setRow w.heap.size Y).heap[w.heap.size]?=some (.cells Y 5 (0,0)):=setRow_heap _ _ M _ 5 (0,0) (heap_alloc_new w _);have cG:s.data.toList≠[]:=fun e=>h0 (by rw [Lib.size_eq,e];rfl);have Pk:=Lib.run_unsafeString_row (P:=Tryz.prog) ((w.alloc (.cells M 5)).setRow w.heap.size Y) 254 3 9 5 Tryz.underlying254 MY w.heap.size Y.size (by unfold World.shape?;rw [KL]) s.data.toList cG (by rw [<-Lib.size_eq];omega) (by rw [<-Lib.size_eq];omega)
   (fun j x hx=>Lib.cells_of_row KL Y.size j _ (by rw [List.take_of_length_le (by rw [Array.length_toList];exact Nat.le_refl _),J7];simp [Lib.byteCells,hx]))
  rw [<-Lib.size_eq] at Pk;clear hY;go_enter Tryz.func220,Tryz.ntmps220;go_wp2;go_ret;have ke:Below w.heap.size w (w.alloc (.cells M 5)):=(Below.refl _ w).alloc nR _;have lj:Below w.heap.size (w.alloc (.cells M 5)) ((w.alloc (.cells M 5)).setRow w.heap.size Y):=⟨rfl,rfl,rfl,by simp,fun k hk=>setRow_other _ _ _ _ (by omega)⟩;exact ⟨rfl,Lib.below_freeze (ke.trans lj) (p:=⟨w.heap.size,0,none⟩) nR _⟩
theorem clone_any (s:ByteArray) (w:World) (eK:s.size<=281474976710656) :
  Calls Tryz.prog 181 #[.string s] w fun e w'=>e=.returned (.string s)/\Below w.heap.size w w':=by
 go_enter Tryz.func181,Tryz.ntmps181
 go_wp2_with (go_at_call 220;refine (clone35 _ _ eK).mono ?_;rintro e w' ⟨rfl,hb⟩)
 go_ret;exact ⟨rfl,hb⟩
theorem zDc {W w1:World} (hb:Below W.heap.size W w1):(∀ b o,b<W.heap.size->w1.cell? ⟨b,o,none⟩=W.cell? ⟨b,o,none⟩)/\(∀ b o,b<W.heap.size->w1.frozen? ⟨b,o,none⟩=W.frozen? ⟨b,o,none⟩) :=
 ⟨fun b o h=>hb.cell (p:=⟨b,o,none⟩) h,fun b o h=>hb.frozen (p:=⟨b,o,none⟩) h⟩
end Go.Proofs.YtkfgbhlpjkkgfaaGreatDoor
namespace Go.Proofs.YtkfgbhlpjkkgfaaGreatDoor
open Go.RowKit
def gotV (g:Tk.Got):Value:=.tuple #[.agg #[.int .i64 g.kind,.int .i64 0,.string ⟨g.text.toArray⟩,.int .i64 g.n],.int .i64 g.code]
theorem zAp (k:Int) (s:ByteArray) (w:World) (eK:s.size<=281474976710656) :
  Calls Tryz.prog 137 #[.int .i64 k,.string s] w fun e w'=>e=.returned (.agg #[.int .i64 k,.int .i64 0,.string s,.int .i64 0])/\Below w.heap.size w w':=by
 go_enter Tryz.func137,Tryz.ntmps137;go_wp2_with fail;refine (clone_any _ _ eK).mono ?_;rintro e w1 ⟨rfl,hb⟩;obtain ⟨hc,hf⟩:=zDc hb;have hz:w.heap.size<w1.heap.size:=(by have:=hb.size;simp at this;omega);go_wp2;have iE:Below w.heap.size w w1:=((Below.refl _ w).alloc nR _).trans (hb.mono (by simp));exact bodyPost_ret (v:=.agg #[.int .i64 k,.int .i64 0,.string s,.int .i64 0]) (by simp [results,Tryz.results137,go_sem,hc]) rfl ⟨rfl,(((iE.setCell (by simp) _).setCell (by simp) _).setCell (by simp) _).setCell (by simp) _⟩
theorem zCl (s:ByteArray):(⟨s.data.toList.toArray⟩:ByteArray)=s:=by cases s;simp
theorem mk_take (s:ByteArray) (k:Nat):(⟨(s.data.toList.take k).toArray⟩:ByteArray)=s.extract 0 k:=by
 apply ByteArray.ext
 rw [ByteArray.data_extract]
 apply Array.toList_inj.1
 simp
theorem zCC (s:ByteArray) (a b:Nat):(s.extract a b).data.toList=(s.data.toList.drop a).take (b-a):=by
 rw [ByteArray.data_extract];simp
theorem signLen_le (l:List UInt8):Tk.signLen l<=l.length:=by
 unfold Tk.signLen
 split
 ·simp
 ·rename_i c l
  split
  ·rename_i h
   cases l with
   | nil=>simp at h
   | cons d l=>simp
  ·split<;>simp
theorem readSign_any (s:ByteArray) (w:World) (eK:s.size<=281474976710656) :
  Calls Tryz.prog 103 #[.string s] w fun e w'=>e=.returned (gotV (Tk.readSign s.data.toList))/\Below w.heap.size w w':=by
 by_cases h0:Tk.signLen s.data.toList=0
 ·have h1:((Tk.signLen s.data.toList:Int)==0)=true:=by simp [h0]
  have HG:Hid (Tk.readSign s.data.toList=Tk.bad 1):=(by show _=_;simp [Tk.readSign,h0]);clear h0;go_enter Tryz.func103,Tryz.ntmps103
  go_wp2_with (go_at_call 136;refine (zCX _ _).mono ?_;rintro e w' ⟨rfl,rfl⟩)
  rw [HG.out];exact bodyPost_ret (v:=gotV (Tk.bad 1)) (by simp [results,Tryz.results103,go_sem,gotV,Tk.bad]) rfl ⟨rfl,(Below.refl _ _).alloc nR _⟩
 ·have h1:((Tk.signLen s.data.toList:Int)==0)=false:=by simp [h0]
  have ii:=signLen_le s.data.toList;rw [<-Lib.size_eq] at ii;have HG:Hid (Tk.readSign s.data.toList=⟨4,s.data.toList.take (Tk.signLen s.data.toList),0,0⟩):=(by show _=_;simp [Tk.readSign,h0]);clear h0;go_enter Tryz.func103,Tryz.ntmps103
  go_wp2_with (go_at_call 136;refine (zCX _ _).mono ?_;rintro e w' ⟨rfl,rfl⟩)
  refine (zAp _ _ _ (by rw [ByteArray.size_extract];omega)).mono ?_;rintro e w1 ⟨rfl,hb⟩;obtain ⟨hc,hf⟩:=zDc hb;go_wp2;rw [HG.out];have iE:Below w.heap.size w w1:=((Below.refl _ w).alloc nR _).trans (hb.mono (by simp));exact bodyPost_ret (v:=gotV ⟨4,s.data.toList.take (Tk.signLen s.data.toList),0,0⟩) (by simp [results,Tryz.results103,go_sem,hc,gotV,mk_take]) rfl ⟨rfl,(((iE.setCell (by simp) _).setCell (by simp) _).setCell (by simp) _).setCell (by simp) _⟩
theorem zDM (s:ByteArray) (w:World) (eK:s.size<=281474976710656) :
  Calls Tryz.prog 106 #[.string s] w fun e w'=>e=.returned (gotV (Tk.readName s.data.toList))/\Below w.heap.size w w':=by
 have bo:s.data.toList.length=s.size:=(by rw [Lib.size_eq])
 cases h1:Tk.isWord s.data.toList
 ·by_cases h2:12<s.size
  ·have HG:Hid (Tk.readName s.data.toList=Tk.bad 3):=by show _=_;simp [Tk.readName,h1,bo,h2]
   clear bo;go_enter Tryz.func106,Tryz.ntmps106
   go_wp2_with (go_at_call 138;refine (zBK _ _).mono ?_;rintro e w' ⟨rfl,rfl⟩)
   rw [HG.out];exact bodyPost_ret (v:=gotV (Tk.bad 3)) (by simp [results,Tryz.results106,go_sem,gotV,Tk.bad]) rfl ⟨rfl,(Below.refl _ _).alloc nR _⟩
  ·have HG:Hid (Tk.readName s.data.toList=⟨2,s.data.toList,0,0⟩):=by show _=_;simp [Tk.readName,h1,bo,h2]
   clear bo;go_enter Tryz.func106,Tryz.ntmps106
   go_wp2_with (go_at_call 138;refine (zBK _ _).mono ?_;rintro e w' ⟨rfl,rfl⟩)
   refine (zAp _ _ _ eK).mono ?_;rintro e w1 ⟨rfl,hb⟩;obtain ⟨hc,hf⟩:=zDc hb;go_wp2;rw [HG.out];have iE:Below w.heap.size w w1:=((Below.refl _ w).alloc nR _).trans (hb.mono (by simp));exact bodyPost_ret (v:=gotV ⟨2,s.data.toList,0,0⟩) (by simp [results,Tryz.results106,go_sem,hc,gotV,zCl]) rfl ⟨rfl,(((iE.setCell (by simp) _).setCell (by simp) _).setCell (by simp) _).setCell (by simp) _⟩
 ·have HG:Hid (Tk.readName s.data.toList=⟨1,s.data.toList,0,0⟩):=by show _=_;simp [Tk.readName,h1]
  clear bo;go_enter Tryz.func106,Tryz.ntmps106
  go_wp2_with (go_at_call 138;refine (zBK _ _).mono ?_;rintro e w' ⟨rfl,rfl⟩)
  refine (zAp _ _ _ eK).mono ?_;rintro e w1 ⟨rfl,hb⟩;obtain ⟨hc,hf⟩:=zDc hb;go_wp2;rw [HG.out];have iE:Below w.heap.size w w1:=((Below.refl _ w).alloc nR _).trans (hb.mono (by simp));exact bodyPost_ret (v:=gotV ⟨1,s.data.toList,0,0⟩) (by simp [results,Tryz.results106,go_sem,hc,gotV,zCl]) rfl ⟨rfl,(((iE.setCell (by simp) _).setCell (by simp) _).setCell (by simp) _).setCell (by simp) _⟩
theorem zCY (l:List UInt8) (c:UInt8):Tk.numVal (l++[c])=Tk.numVal l*10+((c.toNat:Int)-48):=by
 simp [Tk.numVal,List.foldl_append]
theorem zDx (s:ByteArray) (k:Nat) (h:k<s.size):s.data.toList.take (k+1)=s.data.toList.take k++[s[k]]:=by
 rw [List.take_succ_eq_append_getElem (by simpa using h)];rfl
theorem zDy (s:ByteArray):∀ k:Nat,k<=s.size->(∀ j (hj:j<s.data.toList.length),j<k->Tk.isD ((s.data.toList[j]).toNat:Int)=true)->0<=Tk.numVal (s.data.toList.take k)/\Tk.numVal (s.data.toList.take k)<(10:Int) ^ k
 | 0,_,_=>by simp [Tk.numVal]
 | k+1,hk,h=>by
  have ih:=zDy s k (by omega) (fun j hj kV=>h j hj (by omega));have hd:=h k (by rw [<-Lib.size_eq];omega) (by omega);rw [zDx s k (by omega),zCY];have e:s.data.toList[k]'(by rw [<-Lib.size_eq];omega)=s[k]'(by omega):=rfl;rw [e] at hd;simp [Tk.isD] at hd;have cQ:(10:Int) ^ (k+1)=10 ^ k*10:=Int.pow_succ 10 k;omega
theorem pow_bd:∀ k:Nat,k<=18->(10:Int) ^ k<=1000000000000000000:=by
 intro k hk;have:(10:Int) ^ k<=10 ^ 18:=by
  have h:=Nat.pow_le_pow_right (n:=10) (by omega) hk
  exact_mod_cast h
 simpa using this
end Go.Proofs.YtkfgbhlpjkkgfaaGreatDoor
