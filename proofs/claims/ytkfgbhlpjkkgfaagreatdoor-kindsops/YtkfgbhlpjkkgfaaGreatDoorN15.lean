import Derived.Test.YtkfgbhlpjkkgfaaGreatDoorN14
import Derived.Test.YtkfgbhlpjkkgfaaGreatDoorN00
import Derived.Test.YtkfgbhlpjkkgfaaGreatDoorN12
import Derived.Lib.ItoaNum
set_option linter.unusedVariables false
set_option linter.unusedSimpArgs false
set_option maxHeartbeats 64000000
set_option maxRecDepth 100000
namespace Go.Proofs.YtkfgbhlpjkkgfaaGreatDoor
open Go.RowKit Go.IntWalk
def HTys (ok:Nat→Prop) (w:World) (v:Value) (l:List Kd.Ty):Prop:=∃ C,Sl ok 2 w v l.length C∧∀ i (h:i<l.length),∃ u,C i=[.int .u8 (l[i]).elem,u]∧HTerms ok w u (l[i]).n
theorem HTys.keep {ok:Nat→Prop} {w w':World} {v:Value} {l:List Kd.Ty} (h:HTys ok w v l) (hs:w.heap.size≤w'.heap.size) (hk:∀ i,ok i→i<w.heap.size→w'.heap[i]?=w.heap[i]?):HTys ok w' v l:=by
 obtain ⟨C,h1,h2⟩:=h;refine ⟨C,h1.keep hs hk,fun i hi=>?_⟩;obtain ⟨u,e,hu⟩:=h2 i hi;exact ⟨u,e,hu.keep hs hk⟩
theorem HTys.under {ok:Nat→Prop} {w w':World} {v:Value} {l:List Kd.Ty} (h:HTys ok w v l) (a:Below w.heap.size w w'):HTys ok w' v l:=h.keep a.size fun i _ hl=>a.block i hl
theorem HTys.at {ok:Nat→Prop} {w:World} {v:Value} {l:List Kd.Ty} (h:HTys ok w v l) :
  ∃ ao cap,v=.slice ao l.length cap∧l.length≤cap∧cap≤maxLen∧∀ i (h:i<l.length),∃ b o au nu cu,ao=some ⟨b,o,none⟩∧b<w.heap.size∧w.cell? ⟨b,o+i*2,none⟩=some (.int .u8 (l[i]).elem)∧w.cell? ⟨b,o+i*2+1,none⟩=some (.slice au nu cu)∧HTy ok w (.agg #[.int .u8 (l[i]).elem,.slice au nu cu]) l[i]:=by
 obtain ⟨C,⟨ao,cap,hv,h1,h2,h3⟩,hC⟩:=h;refine ⟨ao,cap,hv,h1,h2,fun i hi=>?_⟩;obtain ⟨b,o,ha,hob,hb,hc⟩:=h3 (by omega);obtain ⟨u,hu,ht⟩:=hC i hi;obtain ⟨au,nu,cu,rfl⟩:=ht.slice;have hcc:=(hc i hi).2;rw [hu] at hcc;exact ⟨b,o,au,nu,cu,ha,hb,(by have:=hcc 0 (by decide);simpa only [Nat.add_zero,gZ] using this),(by have:=hcc 1 (by decide);simpa only [gS,gZ] using this),⟨_,rfl,ht⟩⟩
def RowT (ok:Nat→Prop) (w:World) (g n:Nat) (T:List Kd.Ty):Prop :=
 ∃ A:Array Value,w.heap[g]?=some (.cells A 35 (0,0))∧A.size=n*2∧∀ j (h:j<T.length),∃ u,A[j*2]?=some (.int .u8 (T[j]).elem)∧A[j*2+1]?=some u∧HTerms ok w u (T[j]).n
theorem RowT.keep {ok:Nat→Prop} {w w':World} {g n:Nat} {T:List Kd.Ty} (h:RowT ok w g n T) (hb:Below w.heap.size w w'):RowT ok w' g n T:=by
 obtain ⟨A,h1,h2,h3⟩:=h;refine ⟨A,(hb.block _ (lt_of h1)).trans h1,h2,fun j hj=>?_⟩;obtain ⟨u,a,b,c⟩:=h3 j hj;exact ⟨u,a,b,c.under hb⟩
theorem RowT.lt {ok:Nat→Prop} {w:World} {g n:Nat} {T:List Kd.Ty} (h:RowT ok w g n T):g<w.heap.size:=by
 obtain ⟨A,h1,_⟩:=h;exact lt_of h1
theorem RowT.put {ok:Nat→Prop} {w:World} {g n:Nat} {T:List Kd.Ty} (h:RowT ok w g n T) {t:Kd.Ty} {u:Value} (hu:HTerms ok w u t.n) (hg:¬ok g) (hn:T.length<n) :
  RowT ok ((w.setCell ⟨g,T.length*2,none⟩ (.int .u8 t.elem)).setCell ⟨g,T.length*2+1,none⟩ u) g n (T++[t]):=by
 obtain ⟨A,h1,h2,h3⟩:=h;have hset:∀ {v:Value} {l:List Tm},HTerms ok w v l→HTerms ok ((w.setCell ⟨g,T.length*2,none⟩ (.int .u8 t.elem)).setCell ⟨g,T.length*2+1,none⟩ u) v l:=fun h=>(h.set (p:=⟨g,T.length*2,none⟩) hg _).set (p:=⟨g,T.length*2+1,none⟩) hg _;refine ⟨_,set_in (set_in h1 _ _) _ _,by simp [h2],fun j hj=>?_⟩;by_cases e:j=T.length
 ·subst e
  refine ⟨u,?_,?_,by simpa using hset hu⟩
  ·rw [Array.getElem?_setIfInBounds_ne (by omega),Array.getElem?_setIfInBounds_self_of_lt (by omega)]
   simp
  ·rw [Array.getElem?_setIfInBounds_self_of_lt (by simp;omega)]
 ·have hj':j<T.length:=by simp at hj;omega
  obtain ⟨v,a,b,c⟩:=h3 j hj';have eT:(T++[t])[j]=T[j]:=List.getElem_append_left hj';refine ⟨v,?_,?_,by rw [eT];exact hset c⟩
  ·rw [Array.getElem?_setIfInBounds_ne (by omega),Array.getElem?_setIfInBounds_ne (by omega),eT]
   exact a
  ·rw [Array.getElem?_setIfInBounds_ne (by omega),Array.getElem?_setIfInBounds_ne (by omega)]
   exact b
theorem RowT.full {ok ok':Nat→Prop} {w:World} {g n:Nat} {T:List Kd.Ty} (h:RowT ok w g n T) (hT:T.length=n) (hn:n≤maxLen) (hk:∀ i,ok i→ok' i) (hg:ok' g):HTys ok' w (.slice (some ⟨g,0,none⟩) n n) T:=by
 obtain ⟨A,h1,h2,h3⟩:=h;refine ⟨fun i=>[A.getD (i*2) undef,A.getD (i*2+1) undef],⟨_,_,by rw [hT],by omega,hn,fun _=>⟨g,0,rfl,hg,lt_of h1,fun i hi=>⟨rfl,fun j hj=>?_⟩⟩⟩,fun i hi=>?_⟩
 ·obtain ⟨u,a,b,_⟩:=h3 i hi
  have c:=co h1 (i*2+j)
  match j,hj with
  | 0,_=>simpa [a,Array.getD_eq_getD_getElem?] using c
  | 1,_=>simpa [b,Array.getD_eq_getD_getElem?] using c
 ·obtain ⟨u,a,b,c⟩:=h3 i hi
  refine ⟨u,?_,c.wide (fun i hi _=>hk i hi)⟩;simp [Array.getD_eq_getD_getElem?,a,b]
theorem typeOfName_any {ok:Nat→Prop} {w:World} {x:SB} {E:Kd.Env} {mk done:List ByteArray} (hS:Scp ok w x E mk done) (s:ByteArray) (hs:s.size≤maxLen) :
  Calls Tryz.prog 122 #[.pointer (some ⟨x.b,0,none⟩),.string s] w fun r w'=>∃ u c,r=.returned (.tuple #[u,.int .i64 c])∧TRes ok w' u c (Kd.tyN E s)∧Below w.heap.size w w':=by
 have bA:Below w.heap.size w (w.alloc (.cells #[.int .u8 0,.slice none 0 0] 35 (0,0))):=(Below.refl _ _).alloc nR _;obtain ⟨te,ta,tn,tc,hv,_,hty⟩:=hS.lookType hs;have hl:=hv _ bA;have kS:=(hS.keep bA).blk;have e2:=co kS 2;simp at e2;obtain ⟨R,hR⟩:=nmQ (Kd.tyN E s);rw [←hR];have HT:=hide hty;have HR:=hide (show R=Kd.tyN E s from hR);generalize hq:(Kd.findD E.types s).isSome=q at hl;clear hS hv hR kS hty
 cases q
 ·go_enter Tryz.func122,Tryz.ntmps122
  go_wp2;refine bodyPost_ret (v:=.tuple #[.agg #[.int .u8 0,.slice none 0 0],.int .i64 9]) (by simp [results,Tryz.results122,go_sem]) rfl ⟨_,_,rfl,?_,?_⟩
  ·rw [HR.out]
   have hn:Kd.findD E.types s=none:=(by simpa using hq);unfold Kd.tyN;rw [hn];exact ⟨rfl,by decide,rfl⟩
  ·repeat (first | exact Below.refl _ _ | refine Below.setCell ?_ (by simp) _ | refine Below.alloc ?_ (by simp) _)
 ·obtain ⟨d,hd⟩:=Option.isSome_iff_exists.1 hq
  have h1:R=.ok (Kd.tyD d):=(by rw [HR.out];unfold Kd.tyN;rw [hd]);have h2:=HT.out;unfold Kd.typ at h2;rw [hd] at h2;have H2:=hide h2;subst h1;clear h2 hd hq HT HR;go_enter Tryz.func122,Tryz.ntmps122;go_wp2;refine bodyPost_ret (v:=.tuple #[.agg #[.int .u8 te,.slice ta tn tc],.int .i64 0]) (by simp [results,Tryz.results122,go_sem]) rfl ?_;refine (fun h=>⟨_,_,rfl,⟨rfl,H2.out.under h⟩,h⟩:Below w.heap.size w _→_) ?_
  repeat (first | exact Below.refl _ _ | refine Below.setCell ?_ (by simp) _ | refine Below.alloc ?_ (by simp) _)
def LRes (ok:Nat→Prop) (w:World) (v:Value) (c:Int):Except Int (List Kd.Ty)→Prop
 | .error k=>c=k∧k≠0∧v=.slice none 0 0
 | .ok l=>c=0∧HTys ok w v l
def TyDoes (x:SB) (E:Kd.Env) (e:Ex):Prop:=∀ (ok:Nat→Prop) (w:World) (mk done:List ByteArray) (y:ExV),Scp ok w x E mk done→GlobK w→HEx ok w y.cells e→(∀ i,ok i→i<w.heap.size) →
 Calls Tryz.prog 87 #[.pointer (some ⟨x.b,0,none⟩),.agg #[.int .i64 y.op,.int .i64 y.k,.int .i64 y.n,.string y.name,.slice y.aS y.nS y.cS,.slice y.aL y.nL y.cL]] w fun r w'=>∃ u c,r=.returned (.tuple #[u,.int .i64 c])∧TRes (okU ok w.heap.size) w' u c (Kd.tyX E e)∧Below w.heap.size w w'
noncomputable def tyTo (E:Kd.Env) (T:List Kd.Ty) (r:List Ex):Except Int (List Kd.Ty):=match Kd.tyL E r with
 | .error c=>.error c
 | .ok l=>.ok (T++l)
theorem tyTo_nil (E:Kd.Env) (T:List Kd.Ty):tyTo E T []=.ok T:=by simp [tyTo,Kd.tyL]
theorem tyTo_err {E:Kd.Env} {T:List Kd.Ty} {x:Ex} {r:List Ex} {c:Int} (h:Kd.tyX E x=.error c):tyTo E T (x :: r)=.error c:=by
 simp [tyTo,Kd.tyL,h]
theorem tyTo_ok {E:Kd.Env} {T:List Kd.Ty} {x:Ex} {r:List Ex} {t:Kd.Ty} (h:Kd.tyX E x=.ok t):tyTo E T (x :: r)=tyTo E (T++[t]) r:=by
 unfold tyTo;simp only [Kd.tyL,h]
 cases Kd.tyL E r with
 | error c=>rfl
 | ok l=>simp
theorem info35k:(Tryz.prog.info? 35).map (fun i=>(i.zero,i.size,i.bytes))=some (some (.agg #[.int .u8 0,.slice none 0 0]),2,32):=by kernel_rfl
theorem typesOf_any {ok:Nat→Prop} {w:World} {x:SB} {E:Kd.Env} {mk done:List ByteArray} (hS:Scp ok w x E mk done) (hG:GlobK w) {v:Value} {L:List Ex} (hl:HExs ok w v L) (hok:∀ i,ok i→i<w.heap.size) (hX:∀ e ∈ L,TyDoes x E e) (hlen:L.length≤1000000) :
  Calls Tryz.prog 116 #[v,.func (.func 87) #[.pointer (some ⟨x.b,0,none⟩)] #[]] w fun r w'=>∃ u c,r=.returned (.tuple #[u,.int .i64 c])∧LRes (okU ok w.heap.size) w' u c (Kd.tyL E L)∧Below w.heap.size w w':=by
 obtain ⟨i0,hi,hz0,hz1,hz2⟩:=info_parts info35k;obtain ⟨M,hM⟩:=nmQ (madeCells (Value.agg #[.int .u8 0,.slice none 0 0]).cells (L.length*i0.size));have hmk:∀ W:World,(Instr.makeSlice 144 (.int .i64 (L.length:Int)) (.int .i64 (L.length:Int))).run Tryz.prog W=.ok (.slice (some ⟨W.heap.size,0,none⟩) L.length L.length) (W.alloc (.cells M 35)):=fun W=>by
  have h:=run_make (P:=Tryz.prog) W 144 35 i0 (.agg #[.int .u8 0,.slice none 0 0]) Tryz.underlying144 hi hz0 .i64 .i64 (L.length:Int) (L.length:Int) (by omega) (by omega) (by rw [hz2];omega) (by omega)
  simpa [hM] using h
 have hMs:M.size=L.length*2:=(by rw [hM,size_madeCells,hz1]);obtain ⟨ao,cap,rfl,hc1,hc2,hat⟩:=hl.at;unfold maxLen at hc2;obtain ⟨R,hR⟩:=nmQ (Kd.tyL E L);rw [←hR];have HR:=hide (show R=tyTo E [] L by rw [hR];unfold tyTo;cases Kd.tyL E L<;>simp);have HX:=hide hX;have HS:=hide hS;have HG:=hide hG;have HAT:=hide hat;have HL:=hide hl;have HO:=hide hok;have hng:¬ok w.heap.size:=fun h=>absurd (hok _ h) (Nat.lt_irrefl _);clear hX hS hG hl hok hat hR hM hi hz0 hz1 hz2;obtain ⟨n,hn⟩:=nmQ (L.length);rw [←hn] at hc1 hmk hMs hlen ⊢;have HN:=hide hn;clear hn;go_enter Tryz.func116,Tryz.ntmps116;go_wp2_with fail;go_loopg [16] n (fun gh v wr=>∃ (i:Nat) (T:List Kd.Ty),i≤n∧gh=n-i∧v=.int .i64 (i:Nat)∧T.length=i∧Hid (R=tyTo E T (L.drop i))∧Hid (RowT (fun j=>ok j∨w.heap.size+1≤j) wr w.heap.size n T)∧Below w.heap.size w wr)
 case atStart=>exact ⟨0,[],Nat.zero_le _,rfl,rfl,rfl,hide (by simpa using HR.out),hide ⟨M,heap_new w _,hMs,fun j h=>absurd h (Nat.not_lt_zero _)⟩,(Below.refl _ _).alloc nR _⟩
 case round=>
  obtain ⟨i,T,hi,rfl,rfl,hTl,H,HRow,hbr⟩:=hrel;by_cases hlt:i<n
  case neg=>
   have hin:i=n:=(by omega);subst hin;have e1:L.drop i=[]:=List.drop_of_length_le (by have:=HN.out;omega);have hz:R=.ok T:=(by rw [H.out,e1,tyTo_nil]);go_wp2
   go_ret2
   refine ⟨_,_,rfl,?_,hbr⟩;rw [hz];exact ⟨rfl,HRow.out.full hTl (by unfold maxLen;omega) (fun j hj=>hj.imp id (fun h=>by omega)) (.inr nR)⟩
  case pos=>
   have hil:i<L.length:=(by have:=HN.out;omega);have hdr:L.drop i=L[i] :: L.drop (i+1):=List.drop_eq_getElem_cons hil;have hX:=HX.out _ (List.getElem_mem hil);have hR1:=H.out;rw [hdr] at hR1;obtain ⟨ao',cap',eqs,_,_,hat2⟩:=(HL.out.under hbr).at;injection eqs with q1 q2 q3;subst q1;obtain ⟨b,o,y,rfl,hob,hb,hy,hex⟩:=hat2 i hil;obtain ⟨e0,e1,e2,e3,e4,e5⟩:=hy;obtain ⟨xx,hxx⟩:=nmQ (L[i]);rw [←hxx] at hX hR1 hex;have bA:Below wr.heap.size wr (wr.alloc (.cells #[.int .i64 y.op,.int .i64 y.k,.int .i64 y.n,.string y.name,.slice y.aS y.nS y.cS,.slice y.aL y.nL y.cL] 54 (0,0))):=(Below.refl _ _).alloc nR _;have BA:=hbr.trans (bA.mono hbr.size);have hcall:=hX ok _ mk done y (HS.out.keep BA) (HG.out.under BA) (hex.under bA) (fun j hj=>Nat.lt_of_lt_of_le (HO.out j hj) BA.size);have hgl:=HRow.out.lt;have hrow:=HRow.out.keep bA;have hsz:(wr.alloc (.cells #[.int .i64 y.op,.int .i64 y.k,.int .i64 y.n,.string y.name,.slice y.aS y.nS y.cS,.slice y.aL y.nL y.cL] 54 (0,0))).heap.size=wr.heap.size+1:=(by simp);clear hat2 hX hex q2 q3 hxx hdr;go_wp2_with fail;refine hcall.mono ?_;rintro e w4 ⟨u,c,rfl,hT,b4⟩;have B4:=BA.trans (b4.mono BA.size);clear hcall
   cases hty:Kd.tyX E xx with
   | error k=>
    rw [hty] at hT;obtain ⟨rfl,hk0,rfl⟩:=hT;have hz2:(c != 0)=true:=(by simpa using hk0);have hz:R=.error c:=(by rw [hR1,tyTo_err hty]);clear hrow HRow H hR1 hty;go_wp2
    go_ret2
    refine ⟨_,_,rfl,?_,?_⟩
    ·rw [hz]
     exact ⟨rfl,hk0,rfl⟩
    ·exact B4.alloc B4.size _
   | ok t=>
    rw [hty] at hT;obtain ⟨rfl,uu,rfl,hu⟩:=hT;obtain ⟨ua,un,uc,rfl⟩:=hu.slice;have hz:R=tyTo E (T++[t]) (L.drop (i+1)):=(by rw [hR1,tyTo_ok hty]);have hrow4:=hrow.keep b4;have hu4:=hu.wide (ok':=fun j=>ok j∨w.heap.size+1≤j) (fun j hj _=>hj.imp id (fun h=>by rw [hsz] at h;omega));have hgn:¬(ok w.heap.size∨w.heap.size+1≤w.heap.size):=by
     rintro (h | h)
     ·exact hng h
     ·omega
    have HPUT:=hide (hrow4.put hu4 hgn (by omega));have HZ:=hide hz;obtain ⟨A,hA,hAs,_⟩:=hrow4;obtain ⟨a0,st0⟩:∃ a0,w4.cell? ⟨w.heap.size,i*2,none⟩=some a0:=⟨A[i*2]'(by omega),by rw [co hA];exact Array.getElem?_eq_getElem (by omega)⟩;obtain ⟨a1,st1⟩:∃ a1,w4.cell? ⟨w.heap.size,i*2+1,none⟩=some a1:=⟨A[i*2+1]'(by omega),by rw [co hA];exact Array.getElem?_eq_getElem (by omega)⟩;have fr0:=fo hA (i*2);have fr1:=fo hA (i*2+1);have y4:w.heap.size<w4.heap.size:=lt_of hA;clear hrow HRow H hR1 hty hu hu4 hA hAs hz;go_wp2_with fail;go_roundg (n-(i+1))
    case measure=>omega
    case rel=>
     refine ⟨i+1,T++[t],by omega,rfl,by go_num,by simp [hTl],HZ,?_,?_⟩
     ·have:=HPUT.out
      rw [hTl] at this;exact hide (this.keep ((Below.refl _ _).alloc nR _))
     ·exact ((B4.setCell (p:=⟨w.heap.size,i*2,none⟩) nR _).setCell (p:=⟨w.heap.size,i*2+1,none⟩) nR _).alloc (by simp;omega) _
end Go.Proofs.YtkfgbhlpjkkgfaaGreatDoor
namespace Go.Proofs.YtkfgbhlpjkkgfaaGreatDoor
namespace Bk
open Tk
structure Bt where
 kind:Int
 text:List UInt8
 n:Int
end Bk
end Go.Proofs.YtkfgbhlpjkkgfaaGreatDoor
namespace Go.Proofs.YtkfgbhlpjkkgfaaGreatDoor
open Go.RowKit Go.IntWalk
namespace Tx
def put (t s:ByteArray):ByteArray:=if 12000<t.size then t else t++s
def puts (t:ByteArray) (l:List ByteArray):ByteArray:=l.foldl put t
def cat:List ByteArray→ByteArray
 | []=>ByteArray.empty
 | s :: l=>s++cat l
theorem puts_nil (t:ByteArray):puts t []=t:=rfl
theorem puts_cons (t s:ByteArray) (l:List ByteArray):puts t (s :: l)=puts (put t s) l:=rfl
theorem puts_append (t:ByteArray) (a b:List ByteArray):puts t (a++b)=puts (puts t a) b:=by simp [puts]
theorem puts_full {t:ByteArray} (h:12000<t.size):∀ l,puts t l=t
 | []=>rfl
 | s :: l=>by rw [puts_cons,put,if_pos h];exact puts_full h l
theorem puts_fit:∀ (l:List ByteArray) (t:ByteArray),t.size+(cat l).size≤12000→puts t l=t++cat l
 | [],t,_=>by simp [puts,cat,ByteArray.append_empty]
 | s :: l,t,h=>by
  simp only [cat,ByteArray.size_append] at h;rw [puts_cons,put,if_neg (by omega),puts_fit l (t++s) (by rw [ByteArray.size_append];omega),cat,ByteArray.append_assoc]
theorem puts_over:∀ (l:List ByteArray) (t:ByteArray),12000<t.size+(cat l).size→12000<(puts t l).size
 | [],t,h=>by simpa [puts,cat] using h
 | s :: l,t,h=>by
  by_cases ht:12000<t.size
  ·rw [puts_full ht];exact ht
  simp only [cat,ByteArray.size_append] at h;rw [puts_cons,put,if_neg ht];exact puts_over l (t++s) (by rw [ByteArray.size_append];omega)
def num (n:Int):ByteArray:=⟨(Lib.itoa n).toArray⟩
def abs (n:Int):Int:=if n<0 then -n else n
def signP (n:Int) (first:Bool):ByteArray:=if first=true then (if n<0 then ⟨#[45]⟩ else ⟨#[]⟩) else (if n<0 then ⟨#[32,45,32]⟩ else ⟨#[32,43,32]⟩)
def termP (t:Tm):List ByteArray:=if t.2.size=0 then [num (abs t.1)] else if abs t.1=1 then [t.2] else [num (abs t.1),⟨#[42]⟩,t.2]
def rowP {α:Type} (g:Nat→α→List ByteArray):Nat→List α→List ByteArray
 | _,[]=>[]
 | i,x :: l=>g i x++rowP g (i+1) l
theorem rowP_append {α:Type} (g:Nat→α→List ByteArray):∀ (i:Nat) (a b:List α),rowP g i (a++b)=rowP g i a++rowP g (i+a.length) b
 | i,[],b=>by simp [rowP]
 | i,x :: a,b=>by
  rw [List.cons_append,rowP,rowP,rowP_append g (i+1) a b,List.append_assoc,List.length_cons];rw [show i+1+a.length=i+(a.length+1) by omega]
theorem rowP_take {α:Type} (g:Nat→α→List ByteArray) (l:List α) (i:Nat) (h:i<l.length):rowP g 0 (l.take (i+1))=rowP g 0 (l.take i)++g i l[i]:=by
 rw [List.take_succ_eq_append_getElem h,rowP_append];rw [List.length_take,Nat.min_eq_left (by omega)];simp [rowP]
theorem puts_take {α:Type} (g:Nat→α→List ByteArray) (t:ByteArray) (l:List α) (i:Nat) (h:i<l.length):puts t (rowP g 0 (l.take (i+1)))=puts (puts t (rowP g 0 (l.take i))) (g i l[i]):=by
 rw [rowP_take g l i h,puts_append]
def comma {α:Type} (f:α→List ByteArray) (i:Nat) (x:α):List ByteArray:=if i=0 then f x else [⟨#[44,32]⟩]++f x
def commas {α:Type} (f:α→List ByteArray) (l:List α):List ByteArray:=rowP (comma f) 0 l
def sizeAt (i:Nat) (t:Tm):List ByteArray:=[signP t.1 (decide (i=0))]++termP t
def sizeP (s:List Tm):List ByteArray:=rowP sizeAt 0 s
def declP (d:De):List ByteArray:=[d.name,⟨#[58,32]⟩]++([if d.elem=105 then ⟨#[105,110,116]⟩ else ⟨#[98,111,111,108]⟩]++(if d.n.length=0 then [] else [⟨#[94]⟩]++sizeP d.n))
def angP {α:Type} (f:α→List ByteArray) (l:List α):List ByteArray:=if l.length=0 then [] else [⟨#[60]⟩]++(commas f l++[⟨#[62]⟩])
def wordP (s:ByteArray):List ByteArray:=[s]
def opsT:List (ByteArray × ByteArray × Int):=[(⟨#[]⟩,⟨#[]⟩,0),(⟨#[97,100,100]⟩,⟨#[32,43,32]⟩,4),(⟨#[115,117,98]⟩,⟨#[32,45,32]⟩,4),(⟨#[109,117,108]⟩,⟨#[32,42,32]⟩,5),(⟨#[100,105,118]⟩,⟨#[32,47,32]⟩,5),(⟨#[109,111,100]⟩,⟨#[32,37,32]⟩,5),(⟨#[109,105,110]⟩,⟨#[]⟩,7),(⟨#[109,97,120]⟩,⟨#[]⟩,7),(⟨#[108,101,115,115]⟩,⟨#[32,60,32]⟩,3),(⟨#[101,113]⟩,⟨#[32,61,61,32]⟩,3),(⟨#[97,110,100]⟩,⟨#[32,97,110,100,32]⟩,2),(⟨#[111,114]⟩,⟨#[32,111,114,32]⟩,1),(⟨#[120,111,114]⟩,⟨#[32,120,111,114,32]⟩,1),(⟨#[110,101,103]⟩,⟨#[45]⟩,6),(⟨#[110,111,116]⟩,⟨#[110,111,116,32]⟩,6)]
def opT (k:Nat):ByteArray × ByteArray × Int:=opsT.getD k (⟨#[]⟩,⟨#[]⟩,0)
def rankE (op k:Int):Int:=if op=4∨op=5 then (opT k.toNat).2.2 else if op=6 then 0 else 7
def partQ (r:Int) (p:List ByteArray) (least:Int):List ByteArray:=if least≤r then p else [⟨#[40]⟩]++(p++[⟨#[41]⟩])
abbrev Pt:=Int × List ByteArray
def nth (l:List Pt) (i:Nat):Pt:=l.getD i (0,[])
def at0 (p:Pt):List ByteArray:=partQ p.1 p.2 0
def sizesP (S:List (List Tm)):List ByteArray:=rowP (fun _ s=>[⟨#[44,32]⟩]++sizeP s) 0 S
def pairP (k:Int) (l:List Pt):List ByteArray :=
 if (opT k.toNat).2.1.size=0 then [(opT k.toNat).1,⟨#[40]⟩]++(commas at0 l++[⟨#[41]⟩])
 else partQ (nth l 0).1 (nth l 0).2 (if (opT k.toNat).2.2=3 then 4 else (opT k.toNat).2.2)++([(opT k.toNat).2.1]++partQ (nth l 1).1 (nth l 1).2 ((opT k.toNat).2.2+1))
def choiceP (l:List Pt):List ByteArray:=[⟨#[105,102,32]⟩]++(at0 (nth l 0)++([⟨#[32,116,104,101,110,32]⟩]++(at0 (nth l 1)++([⟨#[32,101,108,115,101,32]⟩]++at0 (nth l 2)))))
def indexP (l:List Pt):List ByteArray:=partQ (nth l 0).1 (nth l 0).2 7++([⟨#[91]⟩]++(at0 (nth l 1)++([⟨#[32,58,32]⟩]++(at0 (nth l 2)++[⟨#[93]⟩]))))
def formP (op k:Int) (S:List (List Tm)) (l:List Pt):List ByteArray :=
 [(Rn.shp op.toNat).1,⟨#[40]⟩]++((if k=0 then [] else [(opT k.toNat).1,⟨#[44,32]⟩])++(commas at0 l++(sizesP S++[⟨#[41]⟩])))
def bareOf (op k n:Int) (name:ByteArray) (S:List (List Tm)) (l:List Pt):List ByteArray :=
 if op=1 then [num n] else if op=2 then [if n=1 then ⟨#[116,114,117,101]⟩ else ⟨#[102,97,108,115,101]⟩] else if op=3 then [name]
 else if op=4 then [(opT k.toNat).2.1]++partQ (nth l 0).1 (nth l 0).2 6
 else if op=5 then pairP k l else if op=6 then choiceP l else if op=11 then indexP l else formP op k S l
def rank:Ex→Int
 | .mk op k _ _ _ _=>rankE op k
mutual
def bare:Ex→List ByteArray
 | .mk op k n name S L=>bareOf op k n name S (bares L)
def bares:List Ex→List Pt
 | []=>[]
 | x :: l=>(rank x,bare x) :: bares l
end
theorem bares_eq:∀ l:List Ex,bares l=l.map (fun x=>(rank x,bare x))
 | []=>by simp [bares]
 | x :: l=>by rw [bares,bares_eq l];rfl
theorem rowP_map {α β:Type} (f:α→β) (g:Nat→β→List ByteArray):∀ (i:Nat) (l:List α),rowP g i (l.map f)=rowP (fun i x=>g i (f x)) i l
 | i,[]=>rfl
 | i,x :: l=>by rw [List.map_cons,rowP,rowP,rowP_map f g (i+1) l]
def partP (e:Ex) (least:Int):List ByteArray:=partQ (rank e) (bare e) least
def exprP (e:Ex):List ByteArray:=partP e 0
theorem commas_bares (l:List Ex):commas at0 (bares l)=commas exprP l:=by
 rw [bares_eq,commas,commas,rowP_map];rfl
def callP (q:Eqn):List ByteArray:=[⟨#[99,97,108,108,32]⟩,q.node]++(angP sizeP q.S++([⟨#[40]⟩]++(commas exprP q.E++[⟨#[41]⟩])))
def eqP (q:Eqn):List ByteArray:=[⟨#[9]⟩]++(commas wordP q.names++([⟨#[32,61,32]⟩]++((if q.node.size=0 then (match q.E with | []=>[] | x :: _=>exprP x) else callP q)++[⟨#[59,10]⟩])))
def localP (d:De):List ByteArray:=[⟨#[9,118,97,114,32]⟩]++(declP d++[⟨#[59,10]⟩])
def nodeP (n:Nd):List ByteArray :=
 [⟨#[110,111,100,101,32]⟩,n.name]++(angP wordP n.sizes++([⟨#[40]⟩]++(commas declP n.inn++([⟨#[41,32,45,62,32,40]⟩]++(commas declP n.out++([⟨#[41,32,123,10]⟩]++(rowP (fun _ d=>localP d) 0 n.loc++(rowP (fun _ q=>eqP q) 0 n.eqs++[⟨#[125,10]⟩]))))))))
def progP (l:List Nd):List ByteArray:=rowP (fun _ n=>nodeP n) 0 l
end Tx
end Go.Proofs.YtkfgbhlpjkkgfaaGreatDoor
