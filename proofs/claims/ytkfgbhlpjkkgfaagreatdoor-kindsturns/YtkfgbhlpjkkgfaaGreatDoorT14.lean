import Derived.Test.YtkfgbhlpjkkgfaaGreatDoorT13
import Derived.Test.YtkfgbhlpjkkgfaaGreatDoorT06
import Derived.Lib.AppendStr
import Derived.Lib.LaidTab
import Derived.Shelf.Strconv.Itoa4
import Derived.Shelf.Lay
import Derived.Ground.NamesProg
import Derived.Lib.AppendIntMem
set_option linter.unusedVariables false
set_option linter.unusedSimpArgs false
set_option maxHeartbeats 64000000
set_option maxRecDepth 100000
namespace Go.Proofs.YtkfgbhlpjkkgfaaGreatDoor
open Go.RowKit Go.IntWalk
structure Keep (ok:Nat->Prop) (w w':World):Prop where
 os:w'.os=w.os
 tape:w'.tape=w.tape
 output:w'.output=w.output
 size:w.heap.size<=w'.heap.size
 block:∀ k,ok k->k<w.heap.size->w'.heap[k]?=w.heap[k]?
theorem Keep.refl (ok:Nat->Prop) (w:World):Keep ok w w:=⟨rfl,rfl,rfl,Nat.le_refl _,fun _ _ _=>rfl⟩
theorem Keep.trans {ok:Nat->Prop} {a b c:World} (h:Keep ok a b) (k:Keep ok b c):Keep ok a c :=
 ⟨k.os.trans h.os,k.tape.trans h.tape,k.output.trans h.output,Nat.le_trans h.size k.size,fun i hi hl=>(k.block i hi (Nat.lt_of_lt_of_le hl h.size)).trans (h.block i hi hl)⟩
theorem Keep.ofBelow {ok:Nat->Prop} {w w':World} (h:Below w.heap.size w w'):Keep ok w w':=⟨h.os,h.tape,h.output,h.size,fun i _ hl=>h.block i hl⟩
theorem Keep.less {ok ok':Nat->Prop} {w w':World} (h:Keep ok w w') (hk:∀ i,ok' i->i<w.heap.size->ok i):Keep ok' w w':=⟨h.os,h.tape,h.output,h.size,fun i hi hl=>h.block i (hk i hi hl) hl⟩
theorem Keep.alloc (ok:Nat->Prop) (w:World) (o:Obj):Keep ok w (w.alloc o):=Keep.ofBelow ((Below.refl _ _).alloc nR o)
def okL (ok:Nat->Prop) (L:Nat):Nat->Prop:=fun i=>ok i\/i=L
def Wr (ok:Nat->Prop) (w:World) (b:Nat) (t:ByteArray):Prop :=
 (∀ k,ok k->k<w.heap.size)/\¬ok b/\t.size<=2000000/\∃ v,w.heap[b]?=some (.cells #[v] 131 (0,0))/\w.ownsRow (b+1) 5 1 v t.size (Lib.strCells t)/\∀ k,v.ownBlock=some k->¬ok k
theorem Wr.under {ok:Nat->Prop} {w w':World} {b:Nat} {t:ByteArray} (h:Wr ok w b t) (hb:Below w.heap.size w w'):Wr ok w' b t:=by
 obtain ⟨h0,h1,h2,v,h3,h4,h5⟩:=h;exact ⟨fun k hk=>Nat.lt_of_lt_of_le (h0 k hk) hb.size,h1,h2,v,(hb.block _ (zAB h3)).trans h3,zAQ h4 hb,h5⟩
theorem Wr.less {ok ok':Nat->Prop} {w:World} {b:Nat} {t:ByteArray} (h:Wr ok w b t) (hk:∀ i,ok' i->ok i):Wr ok' w b t:=by
 obtain ⟨h0,h1,h2,v,h3,h4,h5⟩:=h;exact ⟨fun k e=>h0 k (hk _ e),fun e=>h1 (hk _ e),h2,v,h3,h4,fun k nj e=>h5 k nj (hk _ e)⟩
theorem Wr.lt {ok:Nat->Prop} {w:World} {b:Nat} {t:ByteArray} (h:Wr ok w b t):b<w.heap.size:=by
 obtain ⟨h0,h1,h2,v,h3,h4,h5⟩:=h;exact zAB h3
theorem Wr.small {ok:Nat->Prop} {w:World} {b:Nat} {t:ByteArray} (h:Wr ok w b t):t.size<=2000000:=h.2.2.1
theorem Wr.more {ok:Nat->Prop} {w:World} {b:Nat} {t:ByteArray} (h:Wr ok w b t) (o:Obj):Wr (okL ok w.heap.size) (w.alloc o) b t:=by
 have hl:=h.lt;have bo:(w.alloc o).heap.size=w.heap.size+1:=(by simp);obtain ⟨g0,g1,g2,v,g3,g4,g5⟩:=h;refine ⟨fun k hk=>hk.elim (fun e=>by have:=g0 k e;omega) (fun e=>by omega),fun e=>e.elim g1 (fun e=>by omega),g2,v,(Below.heap_alloc _ _ _ hl).trans g3,zAQ g4 ((Below.refl _ _).alloc nR o),fun k hk e=>e.elim (g5 k hk) (fun e=>?_)⟩;have:=(World.ownsRow.lt g4 k hk).2;omega
theorem info5:(Tryz.prog.info? 5).map (fun i=>(i.zero,i.size,i.bytes))=some (some (.int .u8 0),1,1):=by kernel_rfl
theorem under61:Tryz.prog.underlying 129=some (.slice 5):=by kernel_rfl
theorem under9:Tryz.prog.underlying 9=some .string:=by kernel_rfl
theorem Wr.form {ok:Nat->Prop} {w:World} {b:Nat} {t:ByteArray} (h:Wr ok w b t):∃ a c,w.cell? ⟨b,0,none⟩=some (.slice a t.size c)/\t.size<=c/\c<=maxLen/\w.ownsRow (b+1) 5 1 (.slice a t.size c) t.size (Lib.strCells t)/\(∀ k,(Value.slice a t.size c).ownBlock=some k->¬ok k)/\w.heap[b]?=some (.cells #[.slice a t.size c] 131 (0,0)):=by
 obtain ⟨h0,h1,h2,v,h3,h4,h5⟩:=h;have hf:∃ a c,v=.slice a t.size c/\t.size<=c/\c<=maxLen:=by
  rcases h4.2 with ⟨rfl,h0⟩ | ⟨g,cap,aR,rfl,hb,hg,eR,eV,_⟩
  ·exact ⟨none,0,by rw [h0],by omega,by unfold maxLen;omega⟩
  ·exact ⟨_,_,rfl,eR,eV⟩
 obtain ⟨a,c,rfl,aC,av⟩:=hf;exact ⟨a,c,by have:=co h3 0;simpa using this,aC,av,h4,h5,h3⟩
theorem zFN {ok:Nat->Prop} {w:World} {b:Nat} {t:ByteArray} (h:Wr ok w b t) :
  Calls Tryz.prog 80 #[.pointer (some ⟨b,0,none⟩)] w fun e w'=>e=.returned (.bool (decide (12000<t.size)))/\w'=w:=by
 have h2:=h.small;obtain ⟨a,c,hc,aC,av,_,_,_⟩:=h.form;unfold maxLen at av;generalize t.size=n at *;go_enter Tryz.func80,Tryz.ntmps80;by_cases hf:12000<n
 ·have Kz:(12000:Int)<(n:Int):=by omega
  go_wp2;go_ret;exact ⟨by simp [hf],rfl⟩
 ·have Kz:¬(12000:Int)<(n:Int):=by omega
  go_wp2;go_ret;exact ⟨by simp [hf],rfl⟩
theorem run_pushS {P:Program} (w:World) (base:Nat) (t u ty e:TypeId) (i:TypeInfo) (ht:P.underlying t=some (.slice e)) (hu:P.underlying u=some .string) (hi:P.info? e=some i) (hz:i.zero=some (.int .u8 0))
  (dH:i.size=1) (l8:i.bytes=1) (v:Value) (n:Nat) (xs:List Value) (ah:w.ownsRow base e 1 v n xs) (s:ByteArray)
  (mT:n+s.size<=maxLen) (dC:n+s.size<=140737488355328) (i8:base<=w.heap.size) :
  ∃ v' w',(Builtin.append_ #[t,u] ty #[v,.string s]).run P w=.ok v' w'/\w'.ownsRow base e 1 v' (n+s.size) (xs++Lib.strCells s)/\w.grownBy w' v.ownBlock/\Moved w v v':=by
 obtain ⟨v',w',hr,h2,h3,h4⟩:=Lib.run_append_own_string (P:=P) w base t u ty e i ht hu hi hz dH l8 v n xs ah s mT dC i8;refine ⟨v',w',hr,h2,h3,?_⟩;have Dz:xs.length=n:=(by simpa using ah.1);rcases ah.2 with ⟨rfl,h0⟩ | ⟨g,cap,aR,rfl,hb,hg,eR,eV,gq,gP⟩
 ·obtain ⟨v2,w2,im,Ar,_⟩:=Lib.run_append_own_string (P:=P) w w.heap.size t u ty e i ht hu hi hz dH l8 (.slice none 0 0) n xs ⟨ah.1,.inl ⟨rfl,h0⟩⟩ s mT dC nR
  rw [hr] at im;injection im with e1 e2;subst e1 e2;rcases Ar.2 with ⟨rfl,_⟩ | ⟨g,cap,aR,rfl,hb,_⟩
  ·exact .inl rfl
  ·exact .inr ⟨g,rfl,hb⟩
 ·have jO:n+s.size<=9223372036854775807:=by simp only [maxLen] at mT;omega
  by_cases hroom:n+s.size<=cap
  ·have OM:aR.size=cap:=by simpa using gq
   have im:=Lib.run_append_room_string (P:=P) w t u ty e i ht hu hi dH g n cap aR hg s hroom (by omega);rw [hr] at im;injection im with e1 e2;subst e1;exact .inl rfl
  ·have holds:∀ j u,xs[j]?=some u->w.cell? ((⟨g,0,none⟩:Addr).add j)=some u:=ah.cells (g:=g) rfl
   have im:=Lib.run_append_grow_string (P:=P) w t u ty e i (.int .u8 0) ht hu hi hz ⟨g,0,none⟩ n cap xs (by rw [dH];simpa using Dz) holds s (by omega) (by omega) (by rw [l8];exact growslice_fits (by omega) (by omega));rw [hr] at im;injection im with e1 e2;subst e1;exact .inr ⟨w.heap.size,rfl,Nat.le_refl _⟩
theorem wpList_pushS {w:World} {ops:Array Oper} {rest:List Oper} {o:Oper} {a:Act} {Q:Exit->Act->World->Prop} (jv:o.guard=none) (sl x:Operand)
  (ho:o.op=.call { callee:=.builtin .append,args:=#[sl,x],argTypes:=#[129,9] })
  (base:Nat) (v:Value) (n:Nat) (xs:List Value) (hs:a.eval sl=v) (ah:w.ownsRow base 5 1 v n xs) (s:ByteArray) (hx:a.eval x=.string s)
  (mT:n+s.size<=maxLen) (dC:n+s.size<=140737488355328) (i8:base<=w.heap.size)
  (h:∀ v' w',w'.ownsRow base 5 1 v' (n+s.size) (xs++Lib.strCells s)->w.grownBy w' v.ownBlock->Moved w v v'->wpList Tryz.prog ops Q rest (a.put o.dst v') w'):wpList Tryz.prog ops Q (o :: rest) a w:=by
 obtain ⟨i0,hi,db,bP,bY⟩:=info_parts info5;obtain ⟨v',w',hr,h2,h3,h4⟩:=run_pushS (P:=Tryz.prog) w base 129 9 o.type 5 i0 under61 under9 hi db bP bY v n xs ah s mT dC i8;refine wpList_plain jv fun _ hK=>?_;unfold Oper.wp execOp;simp only [ho,resolve,invoke,builtin,Sem.run_bind,Sem.run_pure,Result.andThen_ok,List.map_toArray,List.map_cons,List.map_nil,hs,hx,hr];exact hK _ _ (h v' w' h2 h3 h4)
theorem owns_slice {w:World} {base:Nat} {e:TypeId} {size:Nat} {v:Value} {n:Nat} {xs:List Value} (h:w.ownsRow base e size v n xs):∃ a m c,v=.slice a m c:=by
 rcases h.2 with ⟨rfl,_⟩ | ⟨g,cap,aR,rfl,_⟩
 ·exact ⟨_,_,_,rfl⟩
 ·exact ⟨_,_,_,rfl⟩
theorem zEb (a b:ByteArray):Lib.strCells (a++b)=Lib.strCells a++Lib.strCells b:=by simp [Lib.strCells]
theorem Wr.grow {ok:Nat->Prop} {w w1:World} {b:Nat} {t s:ByteArray} (h:Wr ok w b t) (hs:t.size+s.size<=2000000) {a:Option Addr} {c:Nat} {v':Value} (fx:w.heap[b]?=some (.cells #[.slice a t.size c] 131 (0,0)))
  (ah:w.ownsRow (b+1) 5 1 (.slice a t.size c) t.size (Lib.strCells t)) (lL:∀ k,(Value.slice a t.size c).ownBlock=some k->¬ok k)
  (aU:w1.ownsRow (b+1) 5 1 v' (t.size+s.size) (Lib.strCells t++Lib.strCells s)) (hg:w.grownBy w1 (Value.slice a t.size c).ownBlock) (fR:Moved w (.slice a t.size c) v') :
  Wr ok (w1.setCell ⟨b,0,none⟩ v') b (t++s)/\Keep ok w (w1.setCell ⟨b,0,none⟩ v'):=by
 obtain ⟨h0,h1,h2,v,h3,h4,h5⟩:=h;have ML:some b≠(Value.slice a t.size c).ownBlock:=fun e=>by have:=(World.ownsRow.lt ah b e.symm).1;omega
 have ke:w1.heap[b]?=some (.cells #[.slice a t.size c] 131 (0,0)):=(hg.block b (zAB fx) ML).trans fx;have bo:(w1.setCell ⟨b,0,none⟩ v').heap.size=w1.heap.size:=(by simp [World.setCell]);refine ⟨⟨fun k hk=>by rw [bo];exact Nat.lt_of_lt_of_le (h0 k hk) hg.size,h1,by rw [ByteArray.size_append];exact hs,v',?_,?_,fun k hk e=>?_⟩,⟨?_,?_,?_,by rw [bo];exact hg.size,fun k hk hl=>?_⟩⟩
 ·exact one_setCell ke
 ·rw [ByteArray.size_append,zEb]
  exact ownsRow_setCell_below aU (by simp) _
 ·rcases fR with e1 | ⟨q,hq,hz⟩
  ·exact lL k (e1 ▸ hk) e
  ·rw [hq] at hk
   injection hk with hk;have:=h0 k e;omega
 ·exact hg.os
 ·exact hg.tape
 ·exact hg.output
 ·rw [Below.heap_setCell _ _ _ _ (fun e=>h1 (by rw [e] at hk;exact hk))]
  exact hg.block k hl (fun e=>lL k e.symm hk)
def WPost (ok:Nat->Prop) (w:World) (b:Nat) (t:ByteArray) (l:List ByteArray):Ending->World->Prop:=fun e w'=>e=.returned (.tuple #[])/\Wr ok w' b (Tx.puts t l)/\Keep ok w w'
def okS (s:ByteArray):Prop:=s.size<=1000000
theorem take_put {t:ByteArray} {l:List ByteArray} {i:Nat} (h:i<l.length):Tx.puts t (l.take (i+1))=Tx.put (Tx.puts t (l.take i)) l[i]:=by
 rw [List.take_succ_eq_append_getElem h,Tx.puts_append];rfl
theorem put_any {ok:Nat->Prop} {w:World} {b:Nat} {t:ByteArray} {v:Value} {l:List ByteArray} (hw:Wr ok w b t) (hl:HNames ok w v l) (hs:∀ s ∈ l,okS s) :
  Calls Tryz.prog 155 #[.pointer (some ⟨b,0,none⟩),v] w (WPost ok w b t l):=by
 obtain ⟨ao,cap,rfl,aC,av,_⟩:=hl.at;unfold maxLen at av;have HL:=zAA hl;have HS:=zAA hs;have HW:=zAA hw;clear hl hs;obtain ⟨n,hn⟩:=nmQ (l.length);rw [<-hn] at aC HL ⊢;have HN:=zAA hn;clear hn;go_enter Tryz.func155,Tryz.ntmps155;go_wp2_with fail;go_loopg [8] n (fun k v wr=>∃ i,i<=n/\k=n-i/\v=.int .i64 (i:Nat)/\Hid (Wr ok wr b (Tx.puts t (l.take i)))/\Keep ok w wr)
 case atStart=>exact ⟨0,Nat.zero_le _,rfl,rfl,zAA (by simpa [Tx.puts] using hw),Keep.refl _ _⟩
 case round=>
  obtain ⟨i,hi,rfl,rfl,H,kr⟩:=hrel;by_cases ak:i<n
  case neg=>
   have bH:i=n:=(by omega);subst bH;go_wp2;go_end0;refine ⟨rfl,?_,kr⟩;have:=H.out
   rwa [List.take_of_length_le (by have:=HN.out;omega)] at this
  case pos=>
   have ap:i<l.length:=(by have:=HN.out;omega);have iC:=take_put (t:=t) ap;have ep:=HS.out l[i] (List.getElem_mem ap);obtain ⟨fj,bE,e1,_,_,ai⟩:=(HL.out.keep kr.size kr.block).at;injection e1 with e2 e3 e4;subst e2 e4;obtain ⟨bl,o,e5,iA,fx⟩:=ai i ap;subst e5;clear ai e3;have da:=H.out;generalize l[i]=s at iC ep fx;generalize Tx.puts t (l.take i)=ti at iC da H;have dt:=zFN da;by_cases hf:12000<ti.size
   ·rw [show decide (12000<ti.size)=true by simp [hf]] at dt
    have hx:Tx.put ti s=ti:=(by rw [Tx.put,if_pos hf]);rw [hx] at iC;have HX:=zAA iC;clear iC hx;go_wp2_with fail;refine dt.mono ?_;rintro e w4 ⟨rfl,rfl⟩;go_wp2_with fail;go_roundg (n-(i+1))
    case measure=>omega
    case rel=>exact ⟨i+1,by omega,rfl,by go_num,zAA (by rw [HX.out];exact da),kr⟩
   ·rw [show decide (12000<ti.size)=false by simp [hf]] at dt
    have hx:Tx.put ti s=ti++s:=(by rw [Tx.put,if_neg hf]);rw [hx] at iC;have HX:=zAA iC;clear iC hx;obtain ⟨a,c,hc,Ci,CO,ah,lL,mb⟩:=da.form;unfold okS at ep;have F6:=CO;unfold maxLen at F6;have mT:ti.size+s.size<=maxLen:=(by unfold maxLen;omega);have l8:ti.size+s.size<=140737488355328:=(by omega);have NZ:=da.lt;go_wp2_with fail;refine dt.mono ?_;rintro e w4 ⟨rfl,rfl⟩
    go_wp2_with (at_builtin;refine wpList_pushS rfl _ _ rfl (b+1) _ _ _ rfl ah s rfl mT l8 (by omega) ?_;intro v5 w5 aU hg fR;obtain ⟨a5,n5,c5,rfl⟩:=owns_slice aU;have eP:w5.heap[b]?=some (.cells #[.slice a ti.size c] 131 (0,0)):=(hg.block b (zAB mb) (fun e=>by have:=(World.ownsRow.lt ah b e.symm).1;omega)).trans mb;have q5:=co eP 0;have q6:=fo eP 0;simp at q5)
    have Kn:=da.grow (by omega) mb ah lL aU hg fR;go_roundg (n-(i+1))
    case measure=>omega
    case rel=>exact ⟨i+1,by omega,rfl,by go_num,zAA (by rw [HX.out];exact Kn.1),kr.trans Kn.2⟩
theorem names_new (w:World) (l:List ByteArray) (ok:Nat->Prop) (hk:ok w.heap.size) (h:l.length<=maxLen):HNames ok (w.alloc (.cells (l.map Value.string).toArray 9 (0,0))) (.slice (some ⟨w.heap.size,0,none⟩) l.length l.length) l:=by
 refine ⟨fun i=>[.string (l.getD i ⟨#[]⟩)],⟨_,_,rfl,Nat.le_refl _,h,fun _=>⟨w.heap.size,0,rfl,hk,by simp,fun i hi=>⟨rfl,fun j hj=>?_⟩⟩⟩,fun i hi=>by simp [List.getD_eq_getElem?_getD,List.getElem?_eq_getElem hi]⟩;have GP:j=0:=(by omega);subst GP;rw [co (zAC w _)];simp [List.getD_eq_getElem?_getD,List.getElem?_eq_getElem hi]
theorem put_lit {ok:Nat->Prop} {w:World} {b:Nat} {t:ByteArray} (hw:Wr ok w b t) (l:List ByteArray) (hl:l.length<=10) (hs:∀ s ∈ l,okS s) :
  Calls Tryz.prog 155 #[.pointer (some ⟨b,0,none⟩),.slice (some ⟨w.heap.size,0,none⟩) l.length l.length] (w.alloc (.cells (l.map Value.string).toArray 9 (0,0))) (WPost ok w b t l):=by
 refine (put_any (hw.more _) (names_new w l _ (.inr rfl) (by unfold maxLen;omega)) hs).mono ?_;rintro e w' ⟨he,h1,h2⟩;exact ⟨he,h1.less fun i hi=>.inl hi,(Keep.alloc ok w _).trans (h2.less fun i hi _=>.inl hi)⟩
theorem zAU {ok:Nat->Prop} {w:World} {b:Nat} {t:ByteArray} (hw:Wr ok w b t) {L:Nat} (hL:w.heap.size=L) (s:ByteArray) (hs:okS s) :
  Calls Tryz.prog 155 #[.pointer (some ⟨b,0,none⟩),.slice (some ⟨L,0,none⟩) 1 1] (w.alloc (.cells #[.string s] 9 (0,0))) (WPost ok w b t [s]):=by
 subst hL;exact put_lit hw [s] (by simp) (by intro x hx;simp at hx;subst hx;exact hs)
theorem put2 {ok:Nat->Prop} {w:World} {b:Nat} {t:ByteArray} (hw:Wr ok w b t) {L:Nat} (hL:w.heap.size=L) (s r:ByteArray) (hs:okS s) (hr:okS r) :
  Calls Tryz.prog 155 #[.pointer (some ⟨b,0,none⟩),.slice (some ⟨L,0,none⟩) 2 2] (w.alloc (.cells #[.string s,.string r] 9 (0,0))) (WPost ok w b t [s,r]):=by
 subst hL;exact put_lit hw [s,r] (by simp) (by intro x hx;simp at hx;rcases hx with rfl | rfl;exact hs;exact hr)
end Go.Proofs.YtkfgbhlpjkkgfaaGreatDoor
namespace Go.Proofs.YtkfgbhlpjkkgfaaGreatDoor
open Go.RowKit Go.IntWalk
def GlobO (w:World):Prop:=4<w.heap.size/\∀ k,k<15->w.cell? ⟨4,k*3,none⟩=some (.string (Tx.opT k).1)/\w.cell? ⟨4,k*3+1,none⟩=some (.string (Tx.opT k).2.1)/\w.cell? ⟨4,k*3+2,none⟩=some (.int .i64 (Tx.opT k).2.2)
theorem named1 : Tryz.prog.globalNamed "internal/strconv.uint64pow10" = some 2 := by kernel_rfl
def TabN (w : World) : Prop := Lib.TabIs Tryz.prog w "internal/strconv.uint64pow10" .u64 Lib.pow10Tab
theorem var_keep {w w' : World} (h : w'.heap[2]? = w.heap[2]?) : w'.var? Tryz.prog "internal/strconv.uint64pow10" = w.var? Tryz.prog "internal/strconv.uint64pow10" := by
 unfold World.var?;rw [named1];simp [h]
theorem TabN.lt {w:World} (h:TabN w):2<w.heap.size:=by
 unfold TabN Lib.TabIs World.var? at h;rw [named1] at h;by_cases hl:2<w.heap.size
 ·exact hl
 ·rw [Option.bind_some,Array.getElem?_eq_none (by omega)] at h
  simp at h
theorem TabN.keep {w w':World} (h:TabN w) (hk:w'.heap[2]?=w.heap[2]?):TabN w':=by
 unfold TabN Lib.TabIs at h ⊢;rw [var_keep hk];exact h
structure Gl (ok:Nat->Prop) (w:World):Prop where
 s:GlobS w
 o:GlobO w
 t:TabN w
 k0:ok 3
 k1:ok 2
 k2:ok 4
theorem zAS {w w':World} {p:Addr} (h:w'.heap[p.block]?=w.heap[p.block]?):w'.cell? p=w.cell? p:=by unfold World.cell?;rw [h]
theorem Gl.keep {ok:Nat->Prop} {w w':World} (h:Gl ok w) (k:Keep ok w w'):Gl ok w':=by
 have e0:=k.block 3 h.k0 h.s.1;have e1:=k.block 2 h.k1 h.t.lt;have e2:=k.block 4 h.k2 h.o.1;refine ⟨⟨Nat.lt_of_lt_of_le h.s.1 k.size,fun q hq=>?_⟩,⟨Nat.lt_of_lt_of_le h.o.1 k.size,fun q hq=>?_⟩,h.t.keep e1,h.k0,h.k1,h.k2⟩
 ·obtain ⟨h0,h1,h2,h3,h4,h5⟩:=h.s.2 q hq
  exact ⟨(zAS (p:=⟨3,q*6,none⟩) e0).trans h0,(zAS (p:=⟨3,q*6+1,none⟩) e0).trans h1,(zAS (p:=⟨3,q*6+2,none⟩) e0).trans h2,(zAS (p:=⟨3,q*6+3,none⟩) e0).trans h3,(zAS (p:=⟨3,q*6+4,none⟩) e0).trans h4,(zAS (p:=⟨3,q*6+5,none⟩) e0).trans h5⟩
 ·obtain ⟨h0,h1,h2⟩:=h.o.2 q hq
  exact ⟨(zAS (p:=⟨4,q*3,none⟩) e2).trans h0,(zAS (p:=⟨4,q*3+1,none⟩) e2).trans h1,(zAS (p:=⟨4,q*3+2,none⟩) e2).trans h2⟩
theorem Gl.more {ok:Nat->Prop} {w:World} (h:Gl ok w) (L:Nat):Gl (okL ok L) w:=⟨h.s,h.o,h.t,.inl h.k0,.inl h.k1,.inl h.k2⟩
theorem wend {ok:Nat->Prop} {w W:World} {o:Obj} {b:Nat} {t:ByteArray} {l:List ByteArray} (h1:Wr (okL ok w.heap.size) W b (Tx.puts t l)) (h2:Keep (okL ok w.heap.size) (w.alloc o) W):Wr ok W b (Tx.puts t l)/\Keep ok w W :=
 ⟨h1.less fun i hi=>.inl hi,(Keep.alloc ok w o).trans (h2.less fun i hi _=>.inl hi)⟩
theorem Keep.at {ok:Nat->Prop} {w W:World} {o:Obj} (h:Keep (okL ok w.heap.size) (w.alloc o) W):W.heap[w.heap.size]?=some o:=(h.block _ (.inr rfl) (by simp)).trans (zAC w o)
theorem Keep.all {ok:Nat->Prop} {w W:World} {o:Obj} (h:Keep (okL ok w.heap.size) (w.alloc o) W):Keep ok w W:=(Keep.alloc ok w o).trans (h.less fun i hi _=>.inl hi)
theorem HTerms.step {ok:Nat->Prop} {w W:World} {v:Value} {l:List Tm} {L:Nat} (h:HTerms ok w v l) (k:Keep ok w W):HTerms (okL ok L) W v l:=(h.keep k.size k.block).wide fun i hi _=>.inl hi
theorem HNames.step {ok:Nat->Prop} {w W:World} {v:Value} {l:List ByteArray} {L:Nat} (h:HNames ok w v l) (k:Keep ok w W):HNames (okL ok L) W v l:=(h.keep k.size k.block).wide fun i hi _=>.inl hi
theorem HSizes.step {ok:Nat->Prop} {w W:World} {v:Value} {l:List (List Tm)} {L:Nat} (h:HSizes ok w v l) (k:Keep ok w W):HSizes (okL ok L) W v l:=(h.keep k.size k.block).wide fun i hi _=>.inl hi
theorem HDes.step {ok:Nat->Prop} {w W:World} {v:Value} {l:List De} {L:Nat} (h:HDes ok w v l) (k:Keep ok w W):HDes (okL ok L) W v l:=(h.keep k.size k.block).wide fun i hi _=>.inl hi
theorem Wr.fst {ok:Nat->Prop} {W:World} {b L:Nat} {t:ByteArray} (h:Wr (okL ok L) W b t):Wr ok W b t:=h.less fun i hi=>.inl hi
open Go.Shelf in
shelf_lay LaysM.n173 Nm 173 at Tryz as lay82
theorem zFq (n:Int) (h0 : -9223372036854775808<=n) (h1:n<=9223372036854775807) (w:World) (FP:TabN w) :
  Calls Tryz.prog 133 #[.int .i64 n,.int .i64 10] w fun e w'=>e=.returned (.string (Tx.num n))/\Below w.heap.size w w':=by
 refine (Any.strconv_FormatInt_10 lay82 n h0 h1 w FP).mono ?_;rintro e w' ⟨rfl,k,os,rfl⟩;exact ⟨rfl,Lib.below_grow _ _ nR _ _⟩
theorem zDv:∀ (k u:Nat),u<10 ^ (k+1)->(Lib.decDigits u).length<=k+1
 | 0,u,h=>by rw [Lib.decDigits,dif_pos (by simpa using h)];simp
 | k+1,u,h=>by
  rw [Lib.decDigits]
  split
  ·simp
  ·rw [List.length_append]
   have:=zDv k (u / 10) (by rw [Nat.pow_succ] at h;omega);simp only [List.length_singleton];omega
theorem num_size (n:Int) (h0 : -1000000000000000000<n) (h1:n<1000000000000000000):(Tx.num n).size<=20:=by
 have e:(Tx.num n).size=(Lib.itoa n).length:=(by simp [Tx.num,ByteArray.size]);rw [e,Lib.itoa]
 split
 ·have:=zDv 17 n.natAbs (by omega)
  simp only [List.length_cons];omega
 ·have:=zDv 17 n.toNat (by omega)
  omega
theorem zDL {ok:Nat->Prop} {w:World} {b:Nat} {t:ByteArray} (hw:Wr ok w b t) (hg:Gl ok w) (n:Int) (h0 : -1000000000000000000<n) (h1:n<1000000000000000000) :
  Calls Tryz.prog 248 #[.pointer (some ⟨b,0,none⟩),.int .i64 n] w (WPost ok w b t [Tx.num n]):=by
 have hc:=zFq n (by omega) (by omega) w hg.t;go_enter Tryz.func248,Tryz.ntmps248;go_wp2_with fail;refine hc.mono ?_;rintro e w1 ⟨rfl,b1⟩;go_wp2_with fail;refine (zAU (hw.under b1) rfl (Tx.num n) (by have:=num_size n h0 h1;unfold okS;omega)).mono ?_;rintro e w2 ⟨rfl,h2,k2⟩;go_wp2;go_end0;exact ⟨rfl,h2,(Keep.ofBelow b1).trans k2⟩
theorem wordW_any {ok:Nat->Prop} {w:World} {b:Nat} {t:ByteArray} (hw:Wr ok w b t) (s:ByteArray) (hs:okS s) :
  Calls Tryz.prog 157 #[.pointer (some ⟨b,0,none⟩),.string s] w (WPost ok w b t (Tx.wordP s)):=by
 go_enter Tryz.func157,Tryz.ntmps157;go_wp2_with fail;refine (zAU hw rfl s hs).mono ?_;rintro e w2 ⟨rfl,h2,k2⟩;go_wp2;go_end0;exact ⟨rfl,h2,k2⟩
theorem zFr (n:Int) (f:Bool) (w:World) :
  Calls Tryz.prog 226 #[.int .i64 n,.bool f] w fun e w'=>e=.returned (.string (Tx.signP n f))/\w'=w:=by
 unfold Tx.signP
 cases f
 ·by_cases hn:n<0
  ·go_enter Tryz.func226,Tryz.ntmps226
   go_wp2;go_ret;exact ⟨by simp [hn],rfl⟩
  ·go_enter Tryz.func226,Tryz.ntmps226
   go_wp2;go_ret;exact ⟨by simp [hn],rfl⟩
 ·by_cases hn:n<0
  ·go_enter Tryz.func226,Tryz.ntmps226
   go_wp2;go_ret;exact ⟨by simp [hn],rfl⟩
  ·go_enter Tryz.func226,Tryz.ntmps226
   go_wp2;go_ret;exact ⟨by simp [hn],rfl⟩
def okT (t:Tm):Prop := -1000000000000000000<t.1/\t.1<1000000000000000000/\okS t.2
theorem termW_any {ok:Nat->Prop} {w:World} {b:Nat} {t:ByteArray} (hw:Wr ok w b t) (hg:Gl ok w) (n:Int) (s:ByteArray) (ht:okT (n,s)) :
  Calls Tryz.prog 227 #[.pointer (some ⟨b,0,none⟩),.agg #[.int .i64 n,.string s]] w (WPost ok w b t (Tx.termP (n,s))):=by
 obtain ⟨h0,h1,hs⟩:=ht
 dsimp only at h0 h1 hs
 obtain ⟨W,hW⟩:=nmQ (w.alloc (.cells #[.int .i64 n,.string s] 83 (0,0)));have bS:=hw.more (.cells #[.int .i64 n,.string s] 83 (0,0));have bV:=(hg.keep (Keep.alloc ok w (.cells #[.int .i64 n,.string s] 83 (0,0)))).more w.heap.size;have K0:=Keep.refl (okL ok w.heap.size) (w.alloc (.cells #[.int .i64 n,.string s] 83 (0,0)));have kL:=K0.at;have p0:=co kL 0;have p1:=co kL 1;simp at p0 p1;obtain ⟨m,hm⟩:=nmQ (Tx.abs n);have vY:m<1000000000000000000/\0<=m:=by rw [hm];unfold Tx.abs;split<;>omega
 have Qn:max n (-n)=m:=by rw [hm];unfold Tx.abs;split<;>omega
 unfold Tx.termP
 dsimp only
 rw [<-hm];have HM:=zAA hm;clear hm;by_cases hz:s.size=0
 ·rw [if_pos hz]
  have AP:s=⟨#[]⟩:=ByteArray.ext (Array.eq_empty_of_size_eq_zero hz);subst AP;go_enter Tryz.func227,Tryz.ntmps227;go_wp2_with fail;refine (zDL bS bV m (by omega) vY.1).mono ?_;rintro e w2 ⟨rfl,h2,k2⟩;go_wp2;go_end0;exact ⟨rfl,wend h2 k2⟩
 rw [if_neg hz];have cG:=zEC hz;by_cases lW:m=1
 ·rw [if_pos lW]
  go_enter Tryz.func227,Tryz.ntmps227;go_wp2_with fail;refine (zAU bS (by simp) s hs).mono ?_;rintro e w2 ⟨rfl,h2,k2⟩;go_wp2;go_end0;exact ⟨rfl,wend h2 k2⟩
 ·rw [if_neg lW]
  go_enter Tryz.func227,Tryz.ntmps227;go_wp2_with fail;refine (zDL bS bV m (by omega) vY.1).mono ?_;rintro e w2 ⟨rfl,h2,k2⟩;have dq:=k2.at;have p2:=co dq 1;simp at p2;go_wp2_with fail;refine (put2 h2 rfl ⟨#[42]⟩ s (by unfold okS;decide) hs).mono ?_;rintro e w3 ⟨rfl,h3,k3⟩;go_wp2;go_end0;exact ⟨rfl,wend h3 (k2.trans k3)⟩
theorem okSign (n:Int) (f:Bool):okS (Tx.signP n f):=by
 unfold Tx.signP okS
 split<;>split<;>decide
theorem zCk {ok:Nat->Prop} {w:World} {b:Nat} {t:ByteArray} {v:Value} {s:List Tm} (hw:Wr ok w b t) (hg:Gl ok w) (hl:HTerms ok w v s) (hs:∀ x ∈ s,okT x) :
  Calls Tryz.prog 193 #[.pointer (some ⟨b,0,none⟩),v] w (WPost ok w b t (Tx.sizeP s)):=by
 obtain ⟨ao,cap,rfl,aC,av,_⟩:=hl.at;unfold maxLen at av;have HL:=zAA hl;have HS:=zAA hs;have HW:=zAA hw;have HG:=zAA hg;clear hl hs hg;obtain ⟨n,hn⟩:=nmQ (s.length);rw [<-hn] at aC HL ⊢;have HN:=zAA hn;clear hn;go_enter Tryz.func193,Tryz.ntmps193;go_wp2_with fail;go_loopg [8] n (fun k v wr=>∃ i,i<=n/\k=n-i/\v=.int .i64 (i:Nat)/\Hid (Wr ok wr b (Tx.puts t (Tx.rowP Tx.sizeAt 0 (s.take i))))/\Keep ok w wr)
 case atStart=>exact ⟨0,Nat.zero_le _,rfl,rfl,zAA (by simpa [Tx.puts,Tx.rowP] using hw),Keep.refl _ _⟩
 case round=>
  obtain ⟨i,hi,rfl,rfl,H,kr⟩:=hrel;by_cases ak:i<n
  case neg=>
   have bH:i=n:=(by omega);subst bH;go_wp2;go_end0;refine ⟨rfl,?_,kr⟩;have:=H.out
   rwa [List.take_of_length_le (by have:=HN.out;omega)] at this
  case pos=>
   have ap:i<s.length:=(by have:=HN.out;omega);have HX:=zAA (Tx.puts_take Tx.sizeAt t s i ap);have ep:=HS.out s[i] (List.getElem_mem ap);obtain ⟨fj,bE,e1,_,_,ai⟩:=(HL.out.keep kr.size kr.block).at;injection e1 with e2 e3 e4;subst e2 e4;obtain ⟨bl,o,e5,iA,c0,c1⟩:=ai i ap;subst e5;clear ai e3;have da:=H.out;have j9:=HG.out.keep kr;generalize s[i]=x at HX ep c0 c1;obtain ⟨m,nm⟩:=x
   dsimp only at c0 c1
   generalize Tx.puts t (Tx.rowP Tx.sizeAt 0 (s.take i))=ti at HX da H;obtain ⟨fb,xd⟩:=nmQ (decide (i=0));have Kz:((i:Int)==0)=fb:=by rw [xd];by_cases h:i=0<;>simp [h]
   have HY:Hid (Tx.sizeAt i (m,nm)=[Tx.signP m fb]++Tx.termP (m,nm)):=zAA (by unfold Tx.sizeAt;rw [xd]);clear xd H;have bS:=da.more (.cells #[.int .i64 m,.string nm] 83 (0,0));have bV:=(j9.keep (Keep.alloc ok wr (.cells #[.int .i64 m,.string nm] 83 (0,0)))).more wr.heap.size;have K0:=Keep.refl (okL ok wr.heap.size) (wr.alloc (.cells #[.int .i64 m,.string nm] 83 (0,0)));have kL:=K0.at;go_wp2_with fail;refine (zFr m fb _).mono ?_;rintro e w1 ⟨rfl,rfl⟩;go_wp2_with fail;refine (zAU bS (by simp) _ (okSign m fb)).mono ?_;rintro e w2 ⟨rfl,h2,k2⟩;have dq:=k2.at;have p0:=co dq 0;have p1:=co dq 1;simp at p0 p1;go_wp2_with fail;refine (termW_any h2 (bV.keep k2) m nm ep).mono ?_;rintro e w3 ⟨rfl,h3,k3⟩;go_wp2_with fail;go_roundg (n-(i+1))
   case measure=>omega
   case rel=>exact ⟨i+1,by omega,rfl,by go_num,zAA (by rw [HX.out,HY.out,Tx.puts_append];exact h3.fst),kr.trans (k2.trans k3).all⟩
end Go.Proofs.YtkfgbhlpjkkgfaaGreatDoor
