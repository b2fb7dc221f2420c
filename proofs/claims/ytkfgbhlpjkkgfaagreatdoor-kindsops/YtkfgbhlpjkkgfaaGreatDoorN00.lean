import Derived.Test.YtkfgbhlpjkkgfaaGreatDoorRows
import Derived.WalkKit
import Derived.WalkSpells
import Derived.Lib.Strings
import Derived.Lib.Walk
set_option linter.unusedVariables false
set_option linter.unusedSimpArgs false
set_option maxHeartbeats 64000000
set_option maxRecDepth 100000
namespace Go.Proofs.YtkfgbhlpjkkgfaaGreatDoor
theorem nmQ {α:Sort _} (e:α):∃ x,x=e:=⟨e,rfl⟩
theorem nR {n:Nat}:n≤n:=Nat.le_refl n
theorem gT {α:Type _} {l:List α} {i:Nat}:l.toArray[i]?=l[i]?:=List.getElem?_toArray
theorem gZ {α:Type _} {a:α} {l:List α}:(a :: l)[0]?=some a:=List.getElem?_cons_zero
theorem gS {α:Type _} {a:α} {l:List α} {i:Nat}:(a :: l)[i+1]?=l[i]?:=List.getElem?_cons_succ
theorem sT {α:Type _} {l:List α} {i:Nat} {a:α}:l.toArray.setIfInBounds i a=(l.set i a).toArray:=List.setIfInBounds_toArray ..
theorem sZ {α:Type _} {x:α} {l:List α} {a:α}:(x :: l).set 0 a=a :: l:=List.set_cons_zero ..
theorem sS {α:Type _} {x:α} {l:List α} {n:Nat} {a:α}:(x :: l).set (n+1) a=x :: l.set n a:=List.set_cons_succ ..
end Go.Proofs.YtkfgbhlpjkkgfaaGreatDoor
namespace Go.Proofs.YtkfgbhlpjkkgfaaGreatDoor.Tk
def isL (c:Int):Bool:=decide (97≤c)&&decide (c≤122)
def isD (c:Int):Bool:=decide (48≤c)&&decide (c≤57)
def isB (c:Int):Bool:=c==32 || c==9 || c==10 || c==13
def isR (c:Int):Bool:=isL c || isD c
def runLen (l:List UInt8):Nat:=(l.takeWhile fun c=>isR (c.toNat:Int)).length
def blankLen:Bool→List UInt8→Nat
 | _,[]=>0
 | r,c :: l=>
  if c.toNat=10 then 1+blankLen false l
  else if c.toNat=35 then 1+blankLen true l
  else if r=false∧isB (c.toNat:Int)=false then 0
  else 1+blankLen r l
theorem runLen_le (l:List UInt8):runLen l≤l.length:=by
 unfold runLen;exact List.Sublist.length_le (List.takeWhile_sublist _)
theorem runLen_at:∀ (l:List UInt8) (k:Nat) (hk:k<l.length),(∀ j (hj:j<l.length),j<k→isR ((l[j]).toNat:Int)=true)→isR ((l[k]).toNat:Int)=false→runLen l=k
 | [],_,hk,_,_=>by simp at hk
 | c :: l,0,_,_,hn=>by simp at hn;simp [runLen,hn]
 | c :: l,k+1,hk,h,hn=>by
  have h0:=h 0 (by simp) (by omega);simp at h0;have ih:=runLen_at l k (by simpa using hk) (fun j hj hjk=>by have:=h (j+1) (by simpa using hj) (by omega);simpa using this) (by simpa using hn);unfold runLen at ih ⊢;simp [h0,ih]
theorem runLen_all:∀ (l:List UInt8),(∀ j (hj:j<l.length),isR ((l[j]).toNat:Int)=true)→runLen l=l.length
 | [],_=>rfl
 | c :: l,h=>by
  have h0:=h 0 (by simp);simp at h0;have ih:=runLen_all l (fun j hj=>by have:=h (j+1) (by simpa using hj);simpa using this);unfold runLen at ih ⊢;simp [h0,ih]
theorem blankLen_le:∀ (r:Bool) (l:List UInt8),blankLen r l≤l.length
 | _,[]=>Nat.le_refl _
 | r,c :: l=>by
  have h1:=blankLen_le false l;have h2:=blankLen_le true l;have h3:=blankLen_le r l;unfold blankLen;simp only [List.length_cons]
  split
  ·omega
  ·split
   ·omega
   ·split<;>omega
def flag (r:Bool) (c:Int):Bool:=if c=10 then false else if c=35 then true else r
def stops (r:Bool) (c:Int):Bool := !(flag r c) && !(isB c)
theorem blankLen_stop (r:Bool) (c:UInt8) (l:List UInt8) (h:stops r (c.toNat:Int)=true):blankLen r (c :: l)=0:=by
 unfold stops flag at h;unfold blankLen;by_cases h1:(c.toNat:Int)=10
 ·simp [h1,isB] at h
 ·by_cases h2:(c.toNat:Int)=35
  ·simp [h2] at h
  ·have h1':¬c.toNat=10:=by omega
   have h2':¬c.toNat=35:=(by omega);simp [h1,h2] at h;simp [h1',h2',h]
theorem blankLen_go (r:Bool) (c:UInt8) (l:List UInt8) (h:stops r (c.toNat:Int)=false):blankLen r (c :: l)=1+blankLen (flag r (c.toNat:Int)) l:=by
 unfold stops flag at h;unfold flag;by_cases h1:(c.toNat:Int)=10
 ·have h1':c.toNat=10:=by omega
  simp [blankLen,h1']
 ·by_cases h2:(c.toNat:Int)=35
  ·have h2':c.toNat=35:=by omega
   simp [blankLen,h2']
  ·have h1':¬c.toNat=10:=by omega
   have h2':¬c.toNat=35:=(by omega);simp [h1,h2] at h;have h3:¬(r=false∧isB (c.toNat:Int)=false):=by
    rintro ⟨rfl,hb⟩;simp [hb] at h
   simp only [blankLen,h1',h2',h3,if_false,h1,h2]
def words:List (List UInt8):=
  [[97,100,100],
   [97,110,100],
   [98,111,111,108],
   [99,97,108,108],
   [99,97,116],
   [100,105,118],
   [101,108,115,101],
   [101,113],
   [102,97,108,115,101],
   [102,105,108,108],
   [102,111,108,100],
   [105,102],
   [105,110,116],
   [108,101,115,115],
   [109,97,112],
   [109,97,120],
   [109,105,110],
   [109,111,100],
   [109,117,108],
   [110,101,103],
   [110,111,100,101],
   [110,111,116],
   [111,114],
   [112,114,101],
   [115,99,97,110],
   [115,108,105,99,101],
   [115,117,98],
   [116,104,101,110],
   [116,114,117,101],
   [118,97,114],
   [119,105,116,104],
   [120,111,114]]
def isWord (l:List UInt8):Bool:=words.any fun x=>l==x
def signs:List UInt8:=[40,41,123,125,91,93,60,62,44,59,58,43,45,42,47,37,61,94]
def isS (c:UInt8):Bool:=signs.any fun x=>x==c
def signLen:List UInt8→Nat
 | []=>0
 | c :: l=>if (c==61&&l.head?==some 61) || (c==45&&l.head?==some 62) then 2 else if isS c then 1 else 0
def numVal (l:List UInt8):Int:=l.foldl (fun a c=>a*10+((c.toNat:Int)-48)) 0
structure Got where
 kind:Int
 text:List UInt8
 n:Int
 code:Int
def bad (c:Int):Got:=⟨0,[],0,c⟩
def readSign (l:List UInt8):Got:=if signLen l=0 then bad 1 else ⟨4,l.take (signLen l),0,0⟩
def badNum (l:List UInt8):Bool:=decide (18<l.length) || (decide (1<l.length)&&l.head?==some 48)
def readNum (l:List UInt8):Got:=if badNum l then bad 2 else if l.all (fun c=>isD (c.toNat:Int)) then ⟨3,l,numVal l,0⟩ else bad 2
def readName (l:List UInt8):Got:=if isWord l then ⟨1,l,0,0⟩ else if 12<l.length then bad 3 else ⟨2,l,0,0⟩
def read (l:List UInt8):Got :=
 if runLen l=0 then readSign l
 else if isD ((l.headD 0).toNat:Int) then readNum (l.take (runLen l))
 else readName (l.take (runLen l))
structure Tok where
 kind:Int
 place:Nat
 text:List UInt8
 n:Int
def scanR:Nat→List UInt8→Nat→List Tok × Int × Int
 | 0,_,_=>([],0,0)
 | _+1,[],_=>([],0,0)
 | f+1,c :: l,p=>
  if (read (c :: l)).code≠0 then ([],(read (c :: l)).code,(p:Int))
  else
   let t:=(read (c :: l)).text
   let r:=(c :: l).drop t.length
   let b:=blankLen false r
   let q:=scanR f (r.drop b) (p+t.length+b)
   if q.2.1≠0 then ([],q.2) else (⟨(read (c :: l)).kind,p,t,(read (c :: l)).n⟩ :: q.1,0,0)
def scan (l:List UInt8):List Tok × Int × Int :=
 if 12000<l.length then ([],7,12000) else scanR l.length (l.drop (blankLen false l)) (blankLen false l)
end Go.Proofs.YtkfgbhlpjkkgfaaGreatDoor.Tk
namespace Go.Proofs.YtkfgbhlpjkkgfaaGreatDoor
open Go.RowKit
theorem hide {p:Prop} (h:p):Hid p:=h
theorem unhide {p:Prop} (h:Hid p):p:=h
theorem ret_int {k:IntKind} {a b:Int} (h:a=b):Ending.returned (.int k a)=.returned (.int k b):=by rw [h]
theorem ret_bool {a b:Bool} (h:a=b):Ending.returned (.bool a)=.returned (.bool b):=by rw [h]
theorem isLetter_any (c:Int) (w:World) :
  Calls Tryz.prog 135 #[.int .u8 c] w fun e w'=>e=.returned (.bool (Tk.isL c))∧w'=w:=by
 unfold Tk.isL;go_enter Tryz.func135,Tryz.ntmps135;go_wp2
 all_goals go_ret
 all_goals refine ⟨ret_bool ?_,rfl⟩
 all_goals (rw [Bool.eq_iff_iff];simp;try omega)
theorem isDigit_any (c:Int) (w:World) :
  Calls Tryz.prog 104 #[.int .u8 c] w fun e w'=>e=.returned (.bool (Tk.isD c))∧w'=w:=by
 unfold Tk.isD;go_enter Tryz.func104,Tryz.ntmps104;go_wp2
 all_goals go_ret
 all_goals refine ⟨ret_bool ?_,rfl⟩
 all_goals (rw [Bool.eq_iff_iff];simp;try omega)
theorem isBlank_any (c:Int) (w:World) :
  Calls Tryz.prog 101 #[.int .u8 c] w fun e w'=>e=.returned (.bool (Tk.isB c))∧w'=w:=by
 unfold Tk.isB;go_enter Tryz.func101,Tryz.ntmps101;go_wp2
 all_goals go_ret
 all_goals simp_all
theorem byte_at (s:ByteArray) (k:Nat) (h:k<s.size) (h':k<s.data.toList.length):s.data.toList[k]=s[k]:=by
 rfl
theorem runLength_any (s:ByteArray) (w:World) (hs:s.size≤maxLen) :
  Calls Tryz.prog 102 #[.string s] w fun e w'=>e=.returned (.int .i64 (Tk.runLen s.data.toList:Int))∧w'=w:=by
 unfold maxLen at hs;go_enter Tryz.func102,Tryz.ntmps102;go_wp2
 go_loop [6] (fun i=>∃ k:Nat,k≤s.size∧i=.int .i64 k∧Hid (∀ j (hj:j<s.data.toList.length),j<k→Tk.isR ((s.data.toList[j]).toNat:Int)=true)) (fun i=>s.size-(intOf i).toNat)
 case atStart=>exact ⟨0,Nat.zero_le _,rfl,fun j _ h=>absurd h (Nat.not_lt_zero _)⟩
 case round=>
  obtain ⟨k,hk,rfl,H⟩:=hrel;by_cases hlt:k<s.size
  ·cases hL:Tk.isL ((s[k]).toNat:Int)
   ·cases hD:Tk.isD ((s[k]).toNat:Int)
    ·go_wp2_with (first
      | (go_at_call 135;refine (isLetter_any _ _).mono ?_;rintro e w' ⟨rfl,rfl⟩)
      | (go_at_call 104;refine (isDigit_any _ _).mono ?_;rintro e w' ⟨rfl,rfl⟩))
     go_ret;refine ⟨ret_int ?_,rfl⟩;rw [Tk.runLen_at s.data.toList k (by simpa using hlt) H.out (by rw [byte_at s k hlt];simp [Tk.isR,hL,hD])]
    ·go_wp2_with (first
      | (go_at_call 135;refine (isLetter_any _ _).mono ?_;rintro e w' ⟨rfl,rfl⟩)
      | (go_at_call 104;refine (isDigit_any _ _).mono ?_;rintro e w' ⟨rfl,rfl⟩))
     go_round
     case rel=>exact ⟨k+1,by omega,by go_num,fun j hj hjk=>by
      by_cases e:j=k
      ·subst e;rw [byte_at s j hlt];simp [Tk.isR,hD]
      ·exact H.out j hj (by omega)⟩
     case measure=>simp [intOf];omega
   ·go_wp2_with (first
      | (go_at_call 135;refine (isLetter_any _ _).mono ?_;rintro e w' ⟨rfl,rfl⟩)
      | (go_at_call 104;refine (isDigit_any _ _).mono ?_;rintro e w' ⟨rfl,rfl⟩))
    go_round
    case rel=>exact ⟨k+1,by omega,by go_num,fun j hj hjk=>by
      by_cases e:j=k
      ·subst e;rw [byte_at s j hlt];simp [Tk.isR,hL]
      ·exact H.out j hj (by omega)⟩
    case measure=>simp [intOf];omega
  ·have hke:k=s.size:=by omega
   subst hke;go_wp2;go_ret;refine ⟨ret_int ?_,rfl⟩;rw [Tk.runLen_all s.data.toList (fun j hj=>H.out j hj (by simpa using hj))];simp
theorem blankLength_any (s:ByteArray) (w:World) (hs:s.size≤maxLen) :
  Calls Tryz.prog 74 #[.string s] w fun e w'=>e=.returned (.int .i64 (Tk.blankLen false s.data.toList:Int))∧w'=w:=by
 unfold maxLen at hs;have hsz:s.data.toList.length=s.size:=(by simp);go_enter Tryz.func74,Tryz.ntmps74;go_wp2
 go_loop [3,7] (fun r i=>∃ (k:Nat) (b:Bool),k≤s.size∧r=.bool b∧i=.int .i64 k∧Hid (Tk.blankLen false s.data.toList=k+Tk.blankLen b (s.data.toList.drop k))) (fun _ i=>s.size-(intOf i).toNat)
 case atStart=>exact ⟨0,false,Nat.zero_le _,rfl,rfl,by show _=_;simp⟩
 case round=>
  obtain ⟨k,b,hk,rfl,rfl,H⟩:=hrel;by_cases hlt:k<s.size
  ·have HD:Hid (s.data.toList.drop k=s[k] :: s.data.toList.drop (k+1)):=List.drop_eq_getElem_cons (by simpa using hlt)
   by_cases h10:((s[k]).toNat:Int)=10
   ·have H10:Hid (((s[k]).toNat:Int)=10):=h10
    have t10:(((s[k]).toNat:Int)==10)=true:=(by simpa using h10);clear h10;go_wp2
    go_round
    case rel=>exact ⟨k+1,false,by omega,rfl,by go_num,by
     show _=_
     rw [H.out,HD.out,Tk.blankLen_go _ _ _ (by simp [Tk.stops,Tk.flag,Tk.isB,H10.out])];simp [Tk.flag,H10.out];omega⟩
    case measure=>simp [intOf];omega
   ·have t10:(((s[k]).toNat:Int)==10)=false:=by simpa using h10
    have H10:Hid (¬((s[k]).toNat:Int)=10):=h10;clear h10;by_cases h35:((s[k]).toNat:Int)=35
    ·have H35:Hid (((s[k]).toNat:Int)=35):=h35
     have t35:(((s[k]).toNat:Int)==35)=true:=(by simpa using h35);clear h35;go_wp2
     go_round
     case rel=>exact ⟨k+1,true,by omega,rfl,by go_num,by
      show _=_
      rw [H.out,HD.out,Tk.blankLen_go _ _ _ (by simp [Tk.stops,Tk.flag,H35.out])];simp [Tk.flag,H35.out];omega⟩
     case measure=>simp [intOf];omega
    ·have t35:(((s[k]).toNat:Int)==35)=false:=by simpa using h35
     have H35:Hid (¬((s[k]).toNat:Int)=35):=h35;clear h35
     cases b
     ·cases hB:Tk.isB ((s[k]).toNat:Int)
      ·go_wp2_with (go_at_call 101;refine (isBlank_any _ _).mono ?_;rintro e w' ⟨rfl,rfl⟩)
       go_ret;refine ⟨ret_int ?_,rfl⟩;rw [H.out,HD.out,Tk.blankLen_stop _ _ _ (by simp [Tk.stops,Tk.flag,H10.out,H35.out,hB])];simp
      ·go_wp2_with (go_at_call 101;refine (isBlank_any _ _).mono ?_;rintro e w' ⟨rfl,rfl⟩)
       go_round
       case rel=>exact ⟨k+1,false,by omega,rfl,by go_num,by
        show _=_
        rw [H.out,HD.out,Tk.blankLen_go _ _ _ (by simp [Tk.stops,hB])];simp [Tk.flag,H10.out,H35.out];omega⟩
       case measure=>simp [intOf];omega
     ·go_wp2_with (go_at_call 101;refine (isBlank_any _ _).mono ?_;rintro e w' ⟨rfl,rfl⟩)
      go_round
      case rel=>exact ⟨k+1,true,by omega,rfl,by go_num,by
       show _=_
       rw [H.out,HD.out,Tk.blankLen_go _ _ _ (by simp [Tk.stops,Tk.flag,H10.out,H35.out])];simp [Tk.flag,H10.out,H35.out];omega⟩
      case measure=>simp [intOf];omega
  ·have hke:k=s.size:=by omega
   subst hke;go_wp2;go_ret;refine ⟨ret_int ?_,rfl⟩;rw [H.out,List.drop_of_length_le (by simp)];simp [Tk.blankLen]
end Go.Proofs.YtkfgbhlpjkkgfaaGreatDoor
