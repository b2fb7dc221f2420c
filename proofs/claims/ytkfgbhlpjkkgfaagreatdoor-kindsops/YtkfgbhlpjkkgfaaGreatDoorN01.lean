import Derived.Test.YtkfgbhlpjkkgfaaGreatDoorN00
import Derived.Lib.Slices
import Derived.Lib.Bytealg
import Derived.Lib.BufferWrite
import Derived.Lib.UnsafeStr
import Derived.Lib.Hide
import Derived.Laws.MakeOwn
import Derived.RegionTactic
set_option linter.unusedVariables false
set_option linter.unusedSimpArgs false
set_option maxHeartbeats 64000000
set_option maxRecDepth 100000
namespace Go.Proofs.YtkfgbhlpjkkgfaaGreatDoor
open Go.RowKit
theorem hasPrefix33 (s p:ByteArray) (w:World) :
  Calls Tryz.prog 218 #[.string s,.string p] w fun e w'=>e=.returned (.bool (Lib.hasPrefix s.data.toList p.data.toList))∧w'=w:=by
 rw [←Lib.hasPrefix_of_take,←Lib.size_eq,←Lib.size_eq];go_enter Tryz.func218,Tryz.ntmps218;go_wp2
 ·rename_i h
  go_ret;refine ⟨?_,rfl⟩
  show Ending.returned (Value.bool ((s.extract 0 p.size).toList==p.toList))=_
  rw [Lib.extract_toList,Lib.toList_data];simp [h]
 ·rename_i h
  go_ret;refine ⟨?_,rfl⟩
  show Ending.returned (Value.bool false)=_
  simp [h]
theorem hasPrefix_any (s p:ByteArray) (w:World) :
  Calls Tryz.prog 179 #[.string s,.string p] w fun e w'=>e=.returned (.bool (Lib.hasPrefix s.data.toList p.data.toList))∧w'=w:=by
 go_enter Tryz.func179,Tryz.ntmps179
 go_wp2_with (go_at_call 218;refine (hasPrefix33 _ _ _).mono ?_;rintro e w' ⟨rfl,rfl⟩)
 go_ret;exact ⟨rfl,rfl⟩
theorem indexByte34 (s:ByteArray) (c:Int) (w:World) :
  Calls Tryz.prog 219 #[.string s,.int .u8 c] w fun e w'=>e=.returned (.int .i64 (Lib.indexByte s.data.toList c.toNat.toUInt8))∧w'=w:=by
 go_enter Tryz.func219,Tryz.ntmps219;go_wp2;rw [run_callFunc_extern Tryz.func244 (by kernel_rfl) (by kernel_rfl) (by kernel_rfl) (e:=Extern.BytealgIndexByte.indexByte) (by kernel_rfl),Lib.run_indexByteString];simp only [Result.andThen];rw [Oper.upon_value];go_wp2;go_ret;exact ⟨rfl,rfl⟩
theorem indexByte_any (s:ByteArray) (c:Int) (w:World) :
  Calls Tryz.prog 180 #[.string s,.int .u8 c] w fun e w'=>e=.returned (.int .i64 (Lib.indexByte s.data.toList c.toNat.toUInt8))∧w'=w:=by
 go_enter Tryz.func180,Tryz.ntmps180
 go_wp2_with (go_at_call 219;refine (indexByte34 _ _ _).mono ?_;rintro e w' ⟨rfl,rfl⟩)
 go_ret;exact ⟨rfl,rfl⟩
theorem word_any (s:ByteArray) (w:World) :
  Calls Tryz.prog 138 #[.string s] w fun e w'=>e=.returned (.bool (Tk.isWord s.data.toList))∧w'=w:=by
 rw [←Lib.toList_data];go_enter Tryz.func138,Tryz.ntmps138;go_wp2
 all_goals go_ret
 all_goals refine ⟨ret_bool ?_,rfl⟩
 all_goals first
  | (simp only [Tk.isWord,Tk.words,List.any_cons,List.any_nil, *,Bool.or_true,Bool.true_or,Bool.or_false];done)
  | (exfalso;simp_all;done)
theorem indexByte_nonneg (c:UInt8):∀ l:List UInt8,decide (0≤Lib.indexByte l c)=l.any fun x=>x==c
 | []=>by simp [Lib.indexByte]
 | b :: l=>by
  have ih:=indexByte_nonneg c l;have hg:=Lib.indexByte_ge l c;unfold Lib.indexByte;by_cases hb:(b==c)=true
  ·simp [hb]
  ·have hb':(b==c)=false:=by simpa using hb
   rw [List.any_cons,hb',Bool.false_or,←ih];simp only [Bool.false_eq_true,if_false];by_cases h1:Lib.indexByte l c = -1
   ·simp [h1]
   ·have h2:(Lib.indexByte l c == -1)=false:=by simpa using h1
    simp only [h2,Bool.false_eq_true,if_false];rw [Bool.eq_iff_iff];simp;omega
theorem signLen_of (l:List UInt8):Tk.signLen l=if Lib.hasPrefix l [61,61] then 2 else if Lib.hasPrefix l [45,62] then 2 else if l≠[]∧Tk.isS (l.headD 0)=true then 1 else 0:=by
 match l with
 | []=>simp [Tk.signLen,Lib.hasPrefix]
 | [c]=>simp [Tk.signLen,Lib.hasPrefix]
 | c :: d :: l=>
  simp only [Tk.signLen,Lib.hasPrefix,List.isPrefixOf,List.head?_cons,List.headD_cons];by_cases h1:c=61<;>by_cases h2:d=61<;>by_cases h3:c=45<;>by_cases h4:d=62<;>simp [h1,h2,h3,h4,eq_comm (a:=(61:UInt8)),eq_comm (a:=(45:UInt8)),eq_comm (a:=(62:UInt8))]
theorem signLength_any (s:ByteArray) (w:World) :
  Calls Tryz.prog 136 #[.string s] w fun e w'=>e=.returned (.int .i64 (Tk.signLen s.data.toList:Int))∧w'=w:=by
 obtain ⟨r,hr⟩:=nmQ (Tk.signLen s.data.toList);rw [←hr];rw [signLen_of] at hr;have HR:=hide hr;clear hr
 cases h1:Lib.hasPrefix s.data.toList [61,61]
 ·cases h2:Lib.hasPrefix s.data.toList [45,62]
  ·by_cases h0:s.size=0
   ·have hs:s=⟨#[]⟩:=ByteArray.ext (Array.eq_empty_of_size_eq_zero h0)
    subst hs;go_enter Tryz.func136,Tryz.ntmps136
    go_wp2_with (first
     | (go_at_call 179;refine (hasPrefix_any _ _ _).mono ?_;rintro e w' ⟨rfl,rfl⟩)
     | (go_at_call 180;refine (indexByte_any _ _ _).mono ?_;rintro e w' ⟨rfl,rfl⟩))
    go_ret;exact ⟨ret_int (by rw [unhide HR];simp [h1,h2]),rfl⟩
   ·have hp:0<s.size:=by omega
    have hem:s.toList.isEmpty=false:=by
     rw [Lib.toList_data]
     cases hc:s.data.toList with
     | nil=>exfalso;rw [Lib.size_eq,hc] at hp;simp at hp
     | cons a b=>rfl
    have hne:¬s.toList=[]:=(by intro e;rw [e] at hem;simp at hem);have HS:=hide (indexByte_nonneg s[0] [40,41,123,125,91,93,60,62,44,59,58,43,45,42,47,37,61,94]);have HD:Hid (s.data.toList.headD 0=s[0]∧s.data.toList≠[]):=by
     rw [Lib.toList_data] at hne;refine ⟨?_,hne⟩
     cases hc:s.data.toList with
     | nil=>exact absurd hc hne
     | cons a b=>
      have:s.data.toList[0]'(by simp;omega)=a:=by simp [hc]
      rw [List.headD_cons,←this];rfl
    by_cases hi:0≤Lib.indexByte [40,41,123,125,91,93,60,62,44,59,58,43,45,42,47,37,61,94] s[0]
    ·go_enter Tryz.func136,Tryz.ntmps136
     go_wp2_with (first
      | (go_at_call 179;refine (hasPrefix_any _ _ _).mono ?_;rintro e w' ⟨rfl,rfl⟩)
      | (go_at_call 180;refine (indexByte_any _ _ _).mono ?_;rintro e w' ⟨rfl,rfl⟩))
     go_ret;refine ⟨ret_int ?_,rfl⟩;have hS:Tk.isS s[0]=true:=(by rw [Tk.isS,Tk.signs,←unhide HS];simpa using hi);rw [unhide HR,HD.out.1];simp [h1,h2,hS,HD.out.2]
    ·have hi':Lib.indexByte [40,41,123,125,91,93,60,62,44,59,58,43,45,42,47,37,61,94] s[0]<0:=by omega
     go_enter Tryz.func136,Tryz.ntmps136
     go_wp2_with (first
      | (go_at_call 179;refine (hasPrefix_any _ _ _).mono ?_;rintro e w' ⟨rfl,rfl⟩)
      | (go_at_call 180;refine (indexByte_any _ _ _).mono ?_;rintro e w' ⟨rfl,rfl⟩))
     go_ret;refine ⟨ret_int ?_,rfl⟩;have hS:Tk.isS s[0]=false:=(by rw [Tk.isS,Tk.signs,←unhide HS];simpa using hi');rw [unhide HR,HD.out.1];simp [h1,h2,hS]
  ·go_enter Tryz.func136,Tryz.ntmps136
   go_wp2_with (first
    | (go_at_call 179;refine (hasPrefix_any _ _ _).mono ?_;rintro e w' ⟨rfl,rfl⟩)
    | (go_at_call 180;refine (indexByte_any _ _ _).mono ?_;rintro e w' ⟨rfl,rfl⟩))
   go_ret;exact ⟨ret_int (by rw [unhide HR];simp [h1,h2]),rfl⟩
 ·go_enter Tryz.func136,Tryz.ntmps136
  go_wp2_with (first
   | (go_at_call 179;refine (hasPrefix_any _ _ _).mono ?_;rintro e w' ⟨rfl,rfl⟩)
   | (go_at_call 180;refine (indexByte_any _ _ _).mono ?_;rintro e w' ⟨rfl,rfl⟩))
  go_ret;exact ⟨ret_int (by rw [unhide HR];simp [h1]),rfl⟩
theorem Tryz.info5:(Tryz.prog.info? 5).map (fun i=>(i.zero,i.size,i.bytes))=some (some (.int .u8 0),1,1):=by kernel_rfl
theorem clone35 (s:ByteArray) (w:World) (hlim:s.size≤281474976710656) :
  Calls Tryz.prog 220 #[.string s] w fun e w'=>e=.returned (.string s)∧Below w.heap.size w w':=by
 by_cases h0:s.size=0
 ·have hs:s=⟨#[]⟩:=ByteArray.ext (Array.eq_empty_of_size_eq_zero h0)
  subst hs;go_enter Tryz.func220,Tryz.ntmps220;go_wp2;go_ret;exact ⟨rfl,Below.refl _ _⟩
 ·obtain ⟨i0,hi,hz0,hz1,hz2⟩:=info_parts Tryz.info5
  have hinfo:(Tryz.prog.info? 5).map (·.size)=some 1:=(by rw [hi];simp [hz1]);have hco:Tryz.prog.cellsOf 5=1:=(by simp [Program.cellsOf,hi,hz1]);obtain ⟨M,hM⟩:=nmQ (madeCells (Value.int .u8 0).cells (((s.size:Nat):Int).toNat*i0.size));have hMs:M.size=s.size:=(by rw [hM,size_madeCells,hz1];simp);have hmk:∀ W:World,(Instr.makeSlice 129 (.int .i64 (s.size:Int)) (.int .i64 (s.size:Int))).run Tryz.prog W=.ok (.slice (some ⟨W.heap.size,0,none⟩) s.size s.size) (W.alloc (.cells M 5)):=fun W=>by
   have h:=run_make (P:=Tryz.prog) W 129 5 i0 (.int .u8 0) Tryz.underlying129 hi hz0 .i64 .i64 (s.size:Int) (s.size:Int) (by omega) (by omega) (by rw [hz2];omega) (by omega);rw [←hM] at h
   simpa using h
  clear hM;have hcp:=Lib.run_copy_row_string (P:=Tryz.prog) (w.alloc (.cells M 5)) 129 9 3 5 w.heap.size 0 s.size s.size s M 5 Tryz.underlying129 hinfo (heap_alloc_new w _) nR (by omega);obtain ⟨Y,hY⟩:=nmQ ((M.toList.take 0++Lib.byteCells s.data.toList++M.toList.drop (0+s.size)).toArray);rw [←hY] at hcp;have hYl:Y.toList=Lib.byteCells s.data.toList:=by
   rw [hY,List.toList_toArray,List.take_zero,List.nil_append,List.drop_of_length_le (by rw [Array.length_toList];omega),List.append_nil]
  have hYs:Y.size=s.size:=(by rw [←Array.length_toList,hYl,Lib.byteCells_length,←Lib.size_eq]);have hgY:((w.alloc (.cells M 5)).setRow w.heap.size Y).heap[w.heap.size]?=some (.cells Y 5 (0,0)):=setRow_heap _ _ M _ 5 (0,0) (heap_alloc_new w _);have hne:s.data.toList≠[]:=fun e=>h0 (by rw [Lib.size_eq,e];rfl);have hUS:=Lib.run_unsafeString_row (P:=Tryz.prog) ((w.alloc (.cells M 5)).setRow w.heap.size Y) 254 3 9 5 Tryz.underlying254 hco w.heap.size Y.size (by unfold World.shape?;rw [hgY]) s.data.toList hne (by rw [←Lib.size_eq];omega) (by rw [←Lib.size_eq];omega)
   (fun j x hx=>Lib.cells_of_row hgY Y.size j _ (by rw [List.take_of_length_le (by rw [Array.length_toList];exact Nat.le_refl _),hYl];simp [Lib.byteCells,hx]))
  rw [←Lib.size_eq] at hUS;clear hY;go_enter Tryz.func220,Tryz.ntmps220;go_wp2;go_ret;have hb1:Below w.heap.size w (w.alloc (.cells M 5)):=(Below.refl _ w).alloc nR _;have hb2:Below w.heap.size (w.alloc (.cells M 5)) ((w.alloc (.cells M 5)).setRow w.heap.size Y):=⟨rfl,rfl,rfl,by simp,fun k hk=>setRow_other _ _ _ _ (by omega)⟩;exact ⟨rfl,Lib.below_freeze (hb1.trans hb2) (p:=⟨w.heap.size,0,none⟩) nR _⟩
theorem clone_any (s:ByteArray) (w:World) (hlim:s.size≤281474976710656) :
  Calls Tryz.prog 181 #[.string s] w fun e w'=>e=.returned (.string s)∧Below w.heap.size w w':=by
 go_enter Tryz.func181,Tryz.ntmps181
 go_wp2_with (go_at_call 220;refine (clone35 _ _ hlim).mono ?_;rintro e w' ⟨rfl,hb⟩)
 go_ret;exact ⟨rfl,hb⟩
theorem bcell {W w1:World} (hb:Below W.heap.size W w1):(∀ b o,b<W.heap.size→w1.cell? ⟨b,o,none⟩=W.cell? ⟨b,o,none⟩)∧(∀ b o,b<W.heap.size→w1.frozen? ⟨b,o,none⟩=W.frozen? ⟨b,o,none⟩) :=
 ⟨fun b o h=>hb.cell (p:=⟨b,o,none⟩) h,fun b o h=>hb.frozen (p:=⟨b,o,none⟩) h⟩
end Go.Proofs.YtkfgbhlpjkkgfaaGreatDoor
namespace Go.Proofs.YtkfgbhlpjkkgfaaGreatDoor
open Go.RowKit
def gotV (g:Tk.Got):Value:=.tuple #[.agg #[.int .i64 g.kind,.int .i64 0,.string ⟨g.text.toArray⟩,.int .i64 g.n],.int .i64 g.code]
theorem makeToken_any (k:Int) (s:ByteArray) (w:World) (hlim:s.size≤281474976710656) :
  Calls Tryz.prog 137 #[.int .i64 k,.string s] w fun e w'=>e=.returned (.agg #[.int .i64 k,.int .i64 0,.string s,.int .i64 0])∧Below w.heap.size w w':=by
 go_enter Tryz.func137,Tryz.ntmps137;go_wp2_with fail;refine (clone_any _ _ hlim).mono ?_;rintro e w1 ⟨rfl,hb⟩;obtain ⟨hc,hf⟩:=bcell hb;have hz:w.heap.size<w1.heap.size:=(by have:=hb.size;simp at this;omega);go_wp2;have hb0:Below w.heap.size w w1:=((Below.refl _ w).alloc nR _).trans (hb.mono (by simp));exact bodyPost_ret (v:=.agg #[.int .i64 k,.int .i64 0,.string s,.int .i64 0]) (by simp [results,Tryz.results137,go_sem,hc]) rfl ⟨rfl,(((hb0.setCell (by simp) _).setCell (by simp) _).setCell (by simp) _).setCell (by simp) _⟩
theorem mk_toList (s:ByteArray):(⟨s.data.toList.toArray⟩:ByteArray)=s:=by cases s;simp
theorem mk_take (s:ByteArray) (k:Nat):(⟨(s.data.toList.take k).toArray⟩:ByteArray)=s.extract 0 k:=by
 apply ByteArray.ext
 rw [ByteArray.data_extract]
 apply Array.toList_inj.1
 simp
theorem extract_list (s:ByteArray) (a b:Nat):(s.extract a b).data.toList=(s.data.toList.drop a).take (b-a):=by
 rw [ByteArray.data_extract];simp
theorem signLen_le (l:List UInt8):Tk.signLen l≤l.length:=by
 unfold Tk.signLen
 split
 ·simp
 ·rename_i c l
  split
  ·rename_i h
   cases l with
   | nil=>simp at h
   | cons d l=>simp
  ·split<;>simp
theorem readSign_any (s:ByteArray) (w:World) (hlim:s.size≤281474976710656) :
  Calls Tryz.prog 103 #[.string s] w fun e w'=>e=.returned (gotV (Tk.readSign s.data.toList))∧Below w.heap.size w w':=by
 by_cases h0:Tk.signLen s.data.toList=0
 ·have h1:((Tk.signLen s.data.toList:Int)==0)=true:=by simp [h0]
  have HG:Hid (Tk.readSign s.data.toList=Tk.bad 1):=(by show _=_;simp [Tk.readSign,h0]);clear h0;go_enter Tryz.func103,Tryz.ntmps103
  go_wp2_with (go_at_call 136;refine (signLength_any _ _).mono ?_;rintro e w' ⟨rfl,rfl⟩)
  rw [HG.out];exact bodyPost_ret (v:=gotV (Tk.bad 1)) (by simp [results,Tryz.results103,go_sem,gotV,Tk.bad]) rfl ⟨rfl,(Below.refl _ _).alloc nR _⟩
 ·have h1:((Tk.signLen s.data.toList:Int)==0)=false:=by simp [h0]
  have hle:=signLen_le s.data.toList;rw [←Lib.size_eq] at hle;have HG:Hid (Tk.readSign s.data.toList=⟨4,s.data.toList.take (Tk.signLen s.data.toList),0,0⟩):=(by show _=_;simp [Tk.readSign,h0]);clear h0;go_enter Tryz.func103,Tryz.ntmps103
  go_wp2_with (go_at_call 136;refine (signLength_any _ _).mono ?_;rintro e w' ⟨rfl,rfl⟩)
  refine (makeToken_any _ _ _ (by rw [ByteArray.size_extract];omega)).mono ?_;rintro e w1 ⟨rfl,hb⟩;obtain ⟨hc,hf⟩:=bcell hb;go_wp2;rw [HG.out];have hb0:Below w.heap.size w w1:=((Below.refl _ w).alloc nR _).trans (hb.mono (by simp));exact bodyPost_ret (v:=gotV ⟨4,s.data.toList.take (Tk.signLen s.data.toList),0,0⟩) (by simp [results,Tryz.results103,go_sem,hc,gotV,mk_take]) rfl ⟨rfl,(((hb0.setCell (by simp) _).setCell (by simp) _).setCell (by simp) _).setCell (by simp) _⟩
theorem readWordOrName_any (s:ByteArray) (w:World) (hlim:s.size≤281474976710656) :
  Calls Tryz.prog 106 #[.string s] w fun e w'=>e=.returned (gotV (Tk.readName s.data.toList))∧Below w.heap.size w w':=by
 have hsz:s.data.toList.length=s.size:=(by rw [Lib.size_eq])
 cases h1:Tk.isWord s.data.toList
 ·by_cases h2:12<s.size
  ·have HG:Hid (Tk.readName s.data.toList=Tk.bad 3):=by show _=_;simp [Tk.readName,h1,hsz,h2]
   clear hsz;go_enter Tryz.func106,Tryz.ntmps106
   go_wp2_with (go_at_call 138;refine (word_any _ _).mono ?_;rintro e w' ⟨rfl,rfl⟩)
   rw [HG.out];exact bodyPost_ret (v:=gotV (Tk.bad 3)) (by simp [results,Tryz.results106,go_sem,gotV,Tk.bad]) rfl ⟨rfl,(Below.refl _ _).alloc nR _⟩
  ·have HG:Hid (Tk.readName s.data.toList=⟨2,s.data.toList,0,0⟩):=by show _=_;simp [Tk.readName,h1,hsz,h2]
   clear hsz;go_enter Tryz.func106,Tryz.ntmps106
   go_wp2_with (go_at_call 138;refine (word_any _ _).mono ?_;rintro e w' ⟨rfl,rfl⟩)
   refine (makeToken_any _ _ _ hlim).mono ?_;rintro e w1 ⟨rfl,hb⟩;obtain ⟨hc,hf⟩:=bcell hb;go_wp2;rw [HG.out];have hb0:Below w.heap.size w w1:=((Below.refl _ w).alloc nR _).trans (hb.mono (by simp));exact bodyPost_ret (v:=gotV ⟨2,s.data.toList,0,0⟩) (by simp [results,Tryz.results106,go_sem,hc,gotV,mk_toList]) rfl ⟨rfl,(((hb0.setCell (by simp) _).setCell (by simp) _).setCell (by simp) _).setCell (by simp) _⟩
 ·have HG:Hid (Tk.readName s.data.toList=⟨1,s.data.toList,0,0⟩):=by show _=_;simp [Tk.readName,h1]
  clear hsz;go_enter Tryz.func106,Tryz.ntmps106
  go_wp2_with (go_at_call 138;refine (word_any _ _).mono ?_;rintro e w' ⟨rfl,rfl⟩)
  refine (makeToken_any _ _ _ hlim).mono ?_;rintro e w1 ⟨rfl,hb⟩;obtain ⟨hc,hf⟩:=bcell hb;go_wp2;rw [HG.out];have hb0:Below w.heap.size w w1:=((Below.refl _ w).alloc nR _).trans (hb.mono (by simp));exact bodyPost_ret (v:=gotV ⟨1,s.data.toList,0,0⟩) (by simp [results,Tryz.results106,go_sem,hc,gotV,mk_toList]) rfl ⟨rfl,(((hb0.setCell (by simp) _).setCell (by simp) _).setCell (by simp) _).setCell (by simp) _⟩
theorem numVal_snoc (l:List UInt8) (c:UInt8):Tk.numVal (l++[c])=Tk.numVal l*10+((c.toNat:Int)-48):=by
 simp [Tk.numVal,List.foldl_append]
theorem take_snoc (s:ByteArray) (k:Nat) (h:k<s.size):s.data.toList.take (k+1)=s.data.toList.take k++[s[k]]:=by
 rw [List.take_succ_eq_append_getElem (by simpa using h)];rfl
theorem numVal_bd (s:ByteArray):∀ k:Nat,k≤s.size→(∀ j (hj:j<s.data.toList.length),j<k→Tk.isD ((s.data.toList[j]).toNat:Int)=true)→0≤Tk.numVal (s.data.toList.take k)∧Tk.numVal (s.data.toList.take k)<(10:Int) ^ k
 | 0,_,_=>by simp [Tk.numVal]
 | k+1,hk,h=>by
  have ih:=numVal_bd s k (by omega) (fun j hj hjk=>h j hj (by omega));have hd:=h k (by rw [←Lib.size_eq];omega) (by omega);rw [take_snoc s k (by omega),numVal_snoc];have e:s.data.toList[k]'(by rw [←Lib.size_eq];omega)=s[k]'(by omega):=rfl;rw [e] at hd;simp [Tk.isD] at hd;have h10:(10:Int) ^ (k+1)=10 ^ k*10:=Int.pow_succ 10 k;omega
theorem pow_bd:∀ k:Nat,k≤18→(10:Int) ^ k≤1000000000000000000:=by
 intro k hk;have:(10:Int) ^ k≤10 ^ 18:=by
  have h:=Nat.pow_le_pow_right (n:=10) (by omega) hk
  exact_mod_cast h
 simpa using this
end Go.Proofs.YtkfgbhlpjkkgfaaGreatDoor
namespace Go.Proofs.YtkfgbhlpjkkgfaaGreatDoor
open Go.RowKit Go.IntWalk
theorem bcellB {B:Nat} {W w1:World} (hb:Below B W w1):(∀ b o,b<B→w1.cell? ⟨b,o,none⟩=W.cell? ⟨b,o,none⟩)∧(∀ b o,b<B→w1.frozen? ⟨b,o,none⟩=W.frozen? ⟨b,o,none⟩) :=
 ⟨fun b o h=>hb.cell (p:=⟨b,o,none⟩) h,fun b o h=>hb.frozen (p:=⟨b,o,none⟩) h⟩
theorem set_off (w:World) (b o o':Nat) (v:Value) (h:o≠o'):(w.setCell ⟨b,o,none⟩ v).drew.cell? ⟨b,o',none⟩=w.cell? ⟨b,o',none⟩ :=
 World.cell?_setCell_other (w:=w) (a:=⟨b,o,none⟩) (b:=⟨b,o',none⟩) (v:=v) (by intro e;injection e;omega)
theorem pow_bd2:∀ k:Nat,k≤17→(10:Int) ^ k≤100000000000000000:=by
 intro k hk;have:(10:Int) ^ k≤10 ^ 17:=by
  have h:=Nat.pow_le_pow_right (n:=10) (by omega) hk
  exact_mod_cast h
 simpa using this
theorem readNumber_any (s:ByteArray) (w:World) (hlim:s.size≤281474976710656) :
  Calls Tryz.prog 105 #[.string s] w fun e w'=>e=.returned (gotV (Tk.readNum s.data.toList))∧Below w.heap.size w w':=by
 have hsz:s.data.toList.length=s.size:=(by rw [Lib.size_eq])
 cases hbn:Tk.badNum s.data.toList
 ·have hle:s.size≤18:=by unfold Tk.badNum at hbn;rw [hsz] at hbn;simp at hbn;omega
  have h48:1<s.size→∀ h:0<s.size,(((s[0]).toNat:Int)==48)=false:=by
   intro h1 h;have hh:s.data.toList.head?=some s[0]:=by
    rw [List.head?_eq_getElem?,List.getElem?_eq_getElem (by simpa using h)];rfl
   unfold Tk.badNum at hbn;rw [hsz,hh] at hbn;simp [h1] at hbn;have h9:=hbn.2;rw [beq_eq_false_iff_ne];intro e
   apply h9
   apply UInt8.toNat_inj.1
   simp;omega
  have HG:Hid (Tk.readNum s.data.toList=if s.data.toList.all (fun c=>Tk.isD (c.toNat:Int)) then ⟨3,s.data.toList,Tk.numVal s.data.toList,0⟩ else Tk.bad 2):=(by show _=_;simp [Tk.readNum,hbn]);clear hsz hbn;by_cases h1:1<s.size
  ·have h0:0<s.size:=by omega
   have h9:=h48 h1 h0;have hd18:decide ((18:Int)<(s.size:Int))=false:=(by simp;omega);clear h48;go_enter Tryz.func105,Tryz.ntmps105;go_wp2_with fail;refine (makeToken_any _ _ _ hlim).mono ?_;rintro e w1 ⟨rfl,hb⟩;obtain ⟨hc,hf⟩:=bcell hb;have hz:w.heap.size<w1.heap.size:=(by have:=hb.size;simp at this;omega);go_wp2_with fail
   go_loopw [24] (fun i wr=>∃ k:Nat,k≤s.size∧i=.int .i64 k∧wr.cell? ⟨w1.heap.size,0,none⟩=some (.int .i64 3)∧wr.cell? ⟨w1.heap.size,1,none⟩=some (.int .i64 0)∧wr.cell? ⟨w1.heap.size,2,none⟩=some (.string s) ∧
     wr.cell? ⟨w1.heap.size,3,none⟩=some (.int .i64 (Tk.numVal (s.data.toList.take k)))∧wr.frozen? ⟨w1.heap.size,3,none⟩=false∧Hid (∀ j (hj:j<s.data.toList.length),j<k→Tk.isD ((s.data.toList[j]).toNat:Int)=true)∧Below w1.heap.size w1 wr)
    (fun i _=>s.size-(intOf i).toNat)
   case atStart=>exact ⟨0,Nat.zero_le _,rfl,by simp,by simp,by simp,by simp [Tk.numVal],by simp,fun j _ h=>absurd h (Nat.not_lt_zero _),(Below.refl _ _).alloc nR _⟩
   case round=>
    obtain ⟨k,hk,rfl,c0,c1,c2,c3,f3,H,hbr⟩:=hrel;have hbd:=numVal_bd s k hk H.out;have hp:=pow_bd k (by omega);have hp2:=pow_bd2 k;obtain ⟨n,hn⟩:=nmQ (Tk.numVal (s.data.toList.take k));rw [←hn] at c3 hbd;have hn0:0≤n:=hbd.1;have hn1:n<1000000000000000000:=(by omega);have hn2:k<s.size→n<100000000000000000:=fun h=>by have:=hp2 (by omega);omega
    have HN:=hide hn;clear hn hbd hp hp2;obtain ⟨hcr,hfr⟩:=bcellB hbr;by_cases hlt:k<s.size
    ·cases hD:Tk.isD ((s[k]).toNat:Int)
     ·go_wp2_with (go_at_call 104;refine (isDigit_any _ _).mono ?_;rintro e w' ⟨rfl,rfl⟩)
      rw [HG.out,if_neg (by
       intro hall;rw [List.all_eq_true] at hall;have:=hall s[k] (List.getElem_mem (by simpa using hlt));rw [hD] at this
       cases this)]
      have hb0:Below w.heap.size w w1:=((Below.refl _ w).alloc nR _).trans (hb.mono (by simp));have hb1:=hb0.trans (hbr.mono (Nat.le_of_lt hz));exact bodyPost_ret (v:=gotV (Tk.bad 2)) (by simp [results,Tryz.results105,go_sem,hcr,hc,hz,gotV,Tk.bad]) rfl ⟨rfl,(((hb1.setCell (by simp) _).setCell (by simp) _).setCell (by simp) _).setCell (by simp) _⟩
     ·have hd1:48≤((s[k]).toNat:Int):=by simp [Tk.isD] at hD;omega
      have hd2:((s[k]).toNat:Int)≤57:=(by simp [Tk.isD] at hD;omega);have HD:=hide hD;have hn3:=hn2 hlt;clear hn2
      go_wp2_with (go_at_call 104;refine (isDigit_any _ _).mono ?_;rintro e w' ⟨rfl,rfl⟩)
      go_region
      all_goals go_wp2
      go_roundw
      case rel=>
       refine ⟨k+1,by omega,by go_num,(set_off _ _ _ _ _ (by omega)).trans c0,(set_off _ _ _ _ _ (by omega)).trans c1,(set_off _ _ _ _ _ (by omega)).trans c2,?_,by simpa using f3,?_,(hbr.setCell nR _).drew⟩
       ·have e:Tk.numVal (List.take (k+1) s.data.toList)=n*10+(((s[k]).toNat:Int)-48):=by rw [take_snoc s k hlt,numVal_snoc,←HN.out]
        rw [e];exact World.cell?_setCell_same _ (a:=⟨w1.heap.size,3,none⟩) (h:=c3) _
       ·intro j hj hjk
        by_cases ej:j=k
        ·subst ej;rw [byte_at s j hlt];exact HD.out
        ·exact H.out j hj (by omega)
      case measure=>simp [intOf];omega
    ·have hke:k=s.size:=by omega
     subst hke;go_wp2;have hall:s.data.toList.all (fun c=>Tk.isD (c.toNat:Int))=true:=by
      rw [List.all_eq_true];intro c hcm;obtain ⟨j,hj,rfl⟩:=List.getElem_of_mem hcm;exact H.out j hj (by rw [←Lib.size_eq] at hj;exact hj)
     have hnv:n=Tk.numVal s.data.toList:=(by rw [HN.out,List.take_of_length_le (by rw [←Lib.size_eq];exact Nat.le_refl _)]);rw [HG.out,if_pos hall,←hnv];have hb0:Below w.heap.size w w1:=((Below.refl _ w).alloc nR _).trans (hb.mono (by simp));have hb1:=hb0.trans (hbr.mono (Nat.le_of_lt hz));exact bodyPost_ret (v:=gotV ⟨3,s.data.toList,n,0⟩) (by simp [results,Tryz.results105,go_sem,hcr,hc,hz,gotV,mk_toList]) rfl ⟨rfl,(((hb1.setCell (by simp) _).setCell (by simp) _).setCell (by simp) _).setCell (by simp) _⟩
  ·have hd1':decide ((1:Int)<(s.size:Int))=false:=by simp;omega
   have hd18:decide ((18:Int)<(s.size:Int))=false:=(by simp;omega);clear h48;go_enter Tryz.func105,Tryz.ntmps105;go_wp2_with fail;refine (makeToken_any _ _ _ hlim).mono ?_;rintro e w1 ⟨rfl,hb⟩;obtain ⟨hc,hf⟩:=bcell hb;have hz:w.heap.size<w1.heap.size:=(by have:=hb.size;simp at this;omega);go_wp2_with fail
   go_loopw [24] (fun i wr=>∃ k:Nat,k≤s.size∧i=.int .i64 k∧wr.cell? ⟨w1.heap.size,0,none⟩=some (.int .i64 3)∧wr.cell? ⟨w1.heap.size,1,none⟩=some (.int .i64 0)∧wr.cell? ⟨w1.heap.size,2,none⟩=some (.string s) ∧
     wr.cell? ⟨w1.heap.size,3,none⟩=some (.int .i64 (Tk.numVal (s.data.toList.take k)))∧wr.frozen? ⟨w1.heap.size,3,none⟩=false∧Hid (∀ j (hj:j<s.data.toList.length),j<k→Tk.isD ((s.data.toList[j]).toNat:Int)=true)∧Below w1.heap.size w1 wr)
    (fun i _=>s.size-(intOf i).toNat)
   case atStart=>exact ⟨0,Nat.zero_le _,rfl,by simp,by simp,by simp,by simp [Tk.numVal],by simp,fun j _ h=>absurd h (Nat.not_lt_zero _),(Below.refl _ _).alloc nR _⟩
   case round=>
    obtain ⟨k,hk,rfl,c0,c1,c2,c3,f3,H,hbr⟩:=hrel;have hbd:=numVal_bd s k hk H.out;have hp:=pow_bd k (by omega);have hp2:=pow_bd2 k;obtain ⟨n,hn⟩:=nmQ (Tk.numVal (s.data.toList.take k));rw [←hn] at c3 hbd;have hn0:0≤n:=hbd.1;have hn1:n<1000000000000000000:=(by omega);have hn2:k<s.size→n<100000000000000000:=fun h=>by have:=hp2 (by omega);omega
    have HN:=hide hn;clear hn hbd hp hp2;obtain ⟨hcr,hfr⟩:=bcellB hbr;by_cases hlt:k<s.size
    ·cases hD:Tk.isD ((s[k]).toNat:Int)
     ·go_wp2_with (go_at_call 104;refine (isDigit_any _ _).mono ?_;rintro e w' ⟨rfl,rfl⟩)
      rw [HG.out,if_neg (by
       intro hall;rw [List.all_eq_true] at hall;have:=hall s[k] (List.getElem_mem (by simpa using hlt));rw [hD] at this
       cases this)]
      have hb0:Below w.heap.size w w1:=((Below.refl _ w).alloc nR _).trans (hb.mono (by simp));have hb1:=hb0.trans (hbr.mono (Nat.le_of_lt hz));exact bodyPost_ret (v:=gotV (Tk.bad 2)) (by simp [results,Tryz.results105,go_sem,hcr,hc,hz,gotV,Tk.bad]) rfl ⟨rfl,(((hb1.setCell (by simp) _).setCell (by simp) _).setCell (by simp) _).setCell (by simp) _⟩
     ·have hd1:48≤((s[k]).toNat:Int):=by simp [Tk.isD] at hD;omega
      have hd2:((s[k]).toNat:Int)≤57:=(by simp [Tk.isD] at hD;omega);have HD:=hide hD;have hn3:=hn2 hlt;clear hn2
      go_wp2_with (go_at_call 104;refine (isDigit_any _ _).mono ?_;rintro e w' ⟨rfl,rfl⟩)
      go_region
      all_goals go_wp2
      go_roundw
      case rel=>
       refine ⟨k+1,by omega,by go_num,(set_off _ _ _ _ _ (by omega)).trans c0,(set_off _ _ _ _ _ (by omega)).trans c1,(set_off _ _ _ _ _ (by omega)).trans c2,?_,by simpa using f3,?_,(hbr.setCell nR _).drew⟩
       ·have e:Tk.numVal (List.take (k+1) s.data.toList)=n*10+(((s[k]).toNat:Int)-48):=by rw [take_snoc s k hlt,numVal_snoc,←HN.out]
        rw [e];exact World.cell?_setCell_same _ (a:=⟨w1.heap.size,3,none⟩) (h:=c3) _
       ·intro j hj hjk
        by_cases ej:j=k
        ·subst ej;rw [byte_at s j hlt];exact HD.out
        ·exact H.out j hj (by omega)
      case measure=>simp [intOf];omega
    ·have hke:k=s.size:=by omega
     subst hke;go_wp2;have hall:s.data.toList.all (fun c=>Tk.isD (c.toNat:Int))=true:=by
      rw [List.all_eq_true];intro c hcm;obtain ⟨j,hj,rfl⟩:=List.getElem_of_mem hcm;exact H.out j hj (by rw [←Lib.size_eq] at hj;exact hj)
     have hnv:n=Tk.numVal s.data.toList:=(by rw [HN.out,List.take_of_length_le (by rw [←Lib.size_eq];exact Nat.le_refl _)]);rw [HG.out,if_pos hall,←hnv];have hb0:Below w.heap.size w w1:=((Below.refl _ w).alloc nR _).trans (hb.mono (by simp));have hb1:=hb0.trans (hbr.mono (Nat.le_of_lt hz));exact bodyPost_ret (v:=gotV ⟨3,s.data.toList,n,0⟩) (by simp [results,Tryz.results105,go_sem,hcr,hc,hz,gotV,mk_toList]) rfl ⟨rfl,(((hb1.setCell (by simp) _).setCell (by simp) _).setCell (by simp) _).setCell (by simp) _⟩
 ·have HG:Hid (Tk.readNum s.data.toList=Tk.bad 2):=by show _=_;simp [Tk.readNum,hbn]
  unfold Tk.badNum at hbn;rw [hsz] at hbn;clear hsz;by_cases h18:18<s.size
  ·clear hbn
   go_enter Tryz.func105,Tryz.ntmps105;go_wp2;rw [HG.out];exact bodyPost_ret (v:=gotV (Tk.bad 2)) (by simp [results,Tryz.results105,go_sem,gotV,Tk.bad]) rfl ⟨rfl,(Below.refl _ _).alloc nR _⟩
  ·have h1:1<s.size:=by simp [h18] at hbn;omega
   have h48:(((s[0]).toNat:Int)==48)=true:=by
    have hh:s.data.toList.head?=some s[0]:=by
     rw [List.head?_eq_getElem?,List.getElem?_eq_getElem (by simpa using (by omega:0<s.size))];rfl
    rw [hh] at hbn;simp [h18,h1] at hbn;simp [hbn]
   clear hbn;go_enter Tryz.func105,Tryz.ntmps105;go_wp2;rw [HG.out];exact bodyPost_ret (v:=gotV (Tk.bad 2)) (by simp [results,Tryz.results105,go_sem,gotV,Tk.bad]) rfl ⟨rfl,(Below.refl _ _).alloc nR _⟩
end Go.Proofs.YtkfgbhlpjkkgfaaGreatDoor
