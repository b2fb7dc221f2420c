import Derived.Test.YtkfgbhlpjkkgfaaGreatDoorN10
import Derived.Maps.OwnSet
import Derived.StringKeys
import Derived.Laws.OwnMore
import Derived.Test.YtkfgbhlpjkkgfaaGreatDoorN07
import Derived.Test.YtkfgbhlpjkkgfaaGreatDoorN06
set_option linter.unusedVariables false
set_option linter.unusedSimpArgs false
set_option maxHeartbeats 64000000
set_option maxRecDepth 100000
namespace Go.Proofs.YtkfgbhlpjkkgfaaGreatDoor
open Go.Shelf Go.RowKit Go.Lib Go.IntWalk Go.Maps Go.WideMaps
def plc (names:List ByteArray) (k:Nat) (s:List UInt8):Option Nat:=if s=[] then none else (names.take k).findIdx? fun x=>x.data.toList==s
def PlD (names:List ByteArray) (k:Nat) (D:DataW Unit):Prop :=
 ∀ s:List UInt8,Maps.has D (.string s)=(plc names k s).isSome∧D.atKey (.string s) (.lit (.int .i64 0))=.lit (.int .i64 (((plc names k s).getD 0:Nat):Int))
structure FnP (ok:Nat→Prop) (w:World) (f:Value) (names:List ByteArray) (k:Nat):Prop where
 out:∃ B M n D,f=.func (.func 231) #[] #[.pointer (some ⟨B,0,none⟩)]∧ok B∧ok M∧w.heap[B]?=some (.cells #[.map (some M)] 133 (0,0))∧w.ownsMap Tryz.prog 9 (plainElem Tryz.prog 3) M n D∧PlD names k D
theorem FnP.keep {ok:Nat→Prop} {w w':World} {f:Value} {names:List ByteArray} {k:Nat} (h:FnP ok w f names k) (hk:∀ i,ok i→i<w.heap.size→w'.heap[i]?=w.heap[i]?):FnP ok w' f names k:=by
 obtain ⟨B,M,n,D,e,o1,o2,h1,h2,h3⟩:=h.out;obtain ⟨es,clock,hb,r⟩:=h2;exact ⟨B,M,n,D,e,o1,o2,(hk B o1 (lt_of h1)).trans h1,⟨es,clock,(hk M o2 (lt_of hb)).trans hb,r⟩,h3⟩
end Go.Proofs.YtkfgbhlpjkkgfaaGreatDoor
namespace Go.Proofs.YtkfgbhlpjkkgfaaGreatDoor
open Go.Shelf Go.RowKit Go.Lib Go.IntWalk Go.Maps
def HInts (ok:Nat→Prop) (w:World) (v:Value) (L:List Int):Prop:=∃ C,Sl ok 1 w v L.length C∧∀ i (h:i<L.length),C i=[.int .i64 L[i]]
theorem HInts.at {ok:Nat→Prop} {w:World} {v:Value} {l:List Int} (h:HInts ok w v l) :
  ∃ ao cap,v=.slice ao l.length cap∧l.length≤cap∧cap≤maxLen∧∀ i (h:i<l.length),∃ b o,ao=some ⟨b,o,none⟩∧b<w.heap.size∧w.cell? ⟨b,o+i,none⟩=some (.int .i64 l[i]):=by
 obtain ⟨C,⟨ao,cap,hv,h1,h2,h3⟩,hC⟩:=h;refine ⟨ao,cap,hv,h1,h2,fun i hi=>?_⟩;obtain ⟨b,o,ha,hob,hb,hc⟩:=h3 (by omega);have:=(hc i hi).2 0 (by decide);rw [hC i hi] at this;exact ⟨b,o,ha,hb,by simpa using this⟩
theorem HInts.keep {ok:Nat→Prop} {w w':World} {v:Value} {l:List Int} (h:HInts ok w v l) (h1:w.heap.size≤w'.heap.size) (h2:∀ i,ok i→i<w.heap.size→w'.heap[i]?=w.heap[i]?):HInts ok w' v l:=by
 obtain ⟨C,h3,h4⟩:=h;exact ⟨C,h3.keep h1 h2,h4⟩
end Go.Proofs.YtkfgbhlpjkkgfaaGreatDoor
namespace Go.Proofs.YtkfgbhlpjkkgfaaGreatDoor
open Go.Shelf Go.RowKit Go.Lib Go.IntWalk Go.Maps
theorem normP_cases {B:Nat} {w:World} {l:List Tm} {u:Value} {c a:Int} (h:NormP B w l u c a) :
  (c≠0∧FaultP l c a)∨(c=0∧a=0∧l.length≤1000∧(∀ t ∈ l,small t.1=true)∧∃ r,OwnL kTerm B w u r∧NF (l.map te) (r.map te)):=by
 rcases h with ⟨h1,h2,h3,h4⟩ | ⟨h1,i,h,h2,h3,h4,h5,h6⟩ | ⟨h1,h2,h3,h4,r,h5,h6⟩
 ·exact .inl ⟨by omega,.inl ⟨h1,h3,h4⟩⟩
 ·exact .inl ⟨by omega,.inr (.inl ⟨h1,i,h,h2,h3,h5,h6⟩)⟩
 ·exact .inr ⟨h3,h4,h1,h2,r,h5,h6⟩
end Go.Proofs.YtkfgbhlpjkkgfaaGreatDoor
namespace Go.Proofs.YtkfgbhlpjkkgfaaGreatDoor
open Go.Shelf Go.RowKit Go.Lib Go.IntWalk Go.Maps
def OkN (l:List Tm):Prop:=l.length≤1000∧∀ t ∈ l,small t.1=true
def SameN (a b:List Tm):Prop:=OkN a∧OkN b∧∃ r,NF (a.map te) r∧NF (b.map te) r
theorem teq_te {a b:Tm}:teq a b=true↔te a=te b:=by
 unfold teq seq te;rw [Lib.toList_data,Lib.toList_data];simp
theorem eqL_te:∀ {l r:List Tm},eqL teq l r=true↔l.map te=r.map te
 | [],[]=>by simp [eqL]
 | [],_ :: _=>by simp [eqL]
 | _ :: _,[]=>by simp [eqL]
 | a :: l,b :: r=>by
  unfold eqL;rw [Bool.and_eq_true,teq_te,eqL_te,List.map_cons,List.map_cons,List.cons.injEq]
theorem faultP_not {l:List Tm} {c a:Int} (h:FaultP l c a) (hc:c≠0):¬OkN l:=by
 rintro ⟨h1,h2⟩;rcases h with ⟨h3,_⟩ | ⟨_,i,hi,h3,_⟩ | ⟨_,_,h3,_⟩
 ·omega
 ·rw [h2 _ (List.getElem_mem hi)] at h3;cases h3
 ·exact hc h3
theorem same_any {ok ok':Nat→Prop} {w:World} {v u:Value} {a b:List Tm} (ha:HTerms ok w v a) (hb:HTerms ok' w u b) :
  Calls Tryz.prog 44 #[v,u] w fun e w'=>∃ q:Bool,e=.returned (.bool q)∧(q=true↔SameN a b)∧Below w.heap.size w w':=by
 have hna:=norm_any ha;obtain ⟨aa,ca,rfl,_,_,_⟩:=ha.at;obtain ⟨ab,cb,rfl,_,_,_⟩:=hb.at;clear ha;go_enter Tryz.func44,Tryz.ntmps44;go_wp2_with fail;refine hna.mono ?_;rintro e w1 ⟨ra,c1,a1,rfl,np1,b1⟩;clear hna;go_upto_region 2 with fail;obtain ⟨w2,hw2⟩:=nmQ (w1.alloc (.cells #[.int .i64 c1,.int .i64 a1] 29 (0,0)));have b2:=newB hw2;have K2:=newK hw2;rw [←hw2];clear hw2;have B2:=b1.trans (b2.mono b1.size);have hnb:=norm_any (hb.keep (w':=w2) B2.size (fun i _ hl=>B2.block i hl));clear hb;go_wp2_with fail;refine hnb.mono ?_;rintro e w3 ⟨rb,c2,a2,rfl,np2,b3⟩;clear hnb;have K3:=(b3.block _ (lt_of K2)).trans K2;go_upto_region 3 with fail;obtain ⟨w4,hw4⟩:=nmQ (w3.alloc (.cells #[.int .i64 c2,.int .i64 a2] 29 (0,0)));have b4:=newB hw4;have K4:=newK hw4;rw [←hw4];clear hw4;have K5:=(b4.block _ (lt_of K3)).trans K3;have B3:=B2.trans (b3.mono B2.size);have B4:=B3.trans (b4.mono B3.size);have d0:=co K4 0;have k0:=co K5 0;simp at d0 k0;rcases normP_cases np1 with ⟨hc1,f1⟩ | ⟨rfl,rfl,hl1,hs1,r1,own1,nf1⟩
 ·have h1:(c1==0)=false:=by simpa using hc1
  have HF:=hide (faultP_not f1 hc1);clear np1 np2 f1;go_wp2;go_ret;exact ⟨false,rfl,⟨fun h=>(by cases h),fun h=>absurd h.1 HF.out⟩,B4⟩
 ·rcases normP_cases np2 with ⟨hc2,f2⟩ | ⟨rfl,rfl,hl2,hs2,r2,own2,nf2⟩
  ·have h1:(c2==0)=false:=by simpa using hc2
   have HF:=hide (faultP_not f2 hc2);clear np1 np2 f2 own1 nf1;go_wp2;go_ret;exact ⟨false,rfl,⟨fun h=>(by cases h),fun h=>absurd h.2.1 HF.out⟩,B4⟩
  ·have bb:Below w1.heap.size w1 w4:=b2.trans ((b3.mono b2.size).trans (b4.mono (Nat.le_trans b2.size b3.size)))
   have heq:=equalTerm_any (terms_row ((own1.below bb).row)) (terms_row ((own2.below b4).row));have HNF1:=hide nf1;have HNF2:=hide nf2;have HO1:=hide (show OkN a from ⟨hl1,hs1⟩);have HO2:=hide (show OkN b from ⟨hl2,hs2⟩);clear np1 np2 own1 own2 nf1 nf2;go_wp2_with fail;refine heq.mono ?_;rintro e w5 ⟨rfl,b5⟩;go_wp2;go_ret;refine ⟨_,rfl,?_,B4.trans (b5.mono B4.size)⟩;rw [eqL_te]
   constructor
   ·intro h
    exact ⟨HO1.out,HO2.out,_,HNF1.out,h ▸ HNF2.out⟩
   ·rintro ⟨_,_,r,n1,n2⟩
    rw [HNF1.out.uniq n1,HNF2.out.uniq n2]
end Go.Proofs.YtkfgbhlpjkkgfaaGreatDoor
namespace Go.Proofs.YtkfgbhlpjkkgfaaGreatDoor
open Go.Shelf Go.RowKit Go.Lib Go.IntWalk Go.Maps
theorem HTerms.news {ok:Nat→Prop} {w:World} {a:Addr} {cap:Nat} {l:List Tm} (h:HTerms ok w (.slice (some a) l.length cap) l):∀ j u,(tcs l)[j]?=some u→w.cell? (a.add j)=some u:=by
 obtain ⟨ao,cap',ev,_,_,hat⟩:=h.at;injection ev with ev1 _ _;subst ev1;intro j u hj;have hjl:j<l.length*2:=by
  rcases Nat.lt_or_ge j (l.length*2) with h | h
  ·exact h
  ·rw [List.getElem?_eq_none (by rw [tcs_len];exact h)] at hj;cases hj
 have hq:j / 2<l.length:=(by omega);obtain ⟨b,o,e,hb,c0,c1⟩:=hat (j / 2) hq;injection e with e;subst e;have adds:(⟨b,o,none⟩:Addr).add j=⟨b,o+j,none⟩:=by unfold Addr.add;split<;>simp_all
 rw [adds];obtain ⟨g0,g1⟩:=tcs_get [] l (j / 2) hq;rw [List.append_nil] at g0 g1;rcases (by omega:j % 2=0∨j % 2=1) with e | e
 ·rw [show o+j / 2*2=o+j by omega] at c0
  rw [show j / 2*2=j by omega] at g0;rw [c0,←hj,g0]
 ·rw [show o+j / 2*2+1=o+j by omega] at c1
  rw [show j / 2*2+1=j by omega] at g1;rw [c1,←hj,g1]
theorem tcs_one (l:List Tm):∀ u ∈ tcs l,u.oneCell'=true:=by
 induction l with
 | nil=>intro u hu;simp [tcs] at hu
 | cons t l ih=>
  intro u hu;simp [tcs] at hu;rcases hu with rfl | rfl | hu
  ·rfl
  ·rfl
  ·exact ih u hu
theorem flat_tcs (l:List Tm):flat (fun j=>[.int .i64 (l[j]!).1,.string (l[j]!).2]) l.length=tcs l:=by
 have e1:=tcs_flat (l:=l) (D:=fun j=>[.int .i64 (l[j]!).1,.string (l[j]!).2]) (fun j hj=>by simp [hj]) l.length nR;rw [List.take_length] at e1;exact e1
theorem own_rows {B:Nat} {w:World} {v:Value} {l:List Tm} (h:OwnL kTerm B w v l):w.ownsRow B 83 2 v l.length (tcs l):=by
 obtain ⟨D,h1,h2⟩:=h;have e1:=tcs_flat (l:=l) (D:=D) (fun j hj=>h2 j hj) l.length nR;rw [List.take_length] at e1;rw [←e1];exact h1
theorem rows_own {B:Nat} {w:World} {v:Value} {l:List Tm} (h:w.ownsRow B 83 2 v l.length (tcs l)):OwnL kTerm B w v l:=by
 refine ⟨fun j=>[.int .i64 (l[j]!).1,.string (l[j]!).2],?_,fun j hj=>?_⟩
 ·rw [flat_tcs];exact h
 ·show [Value.int .i64 (l[j]!).1,.string (l[j]!).2]=[.int .i64 (l[j]).1,.string (l[j]).2]
  simp [hj]
theorem run_cat {ok:Nat→Prop} {B:Nat} {w:World} {v u:Value} {l m:List Tm} {ty:TypeId} (hown:OwnL kTerm B w v l) (hm:HTerms ok w u m) (hB:B≤w.heap.size) (hlen:l.length+m.length≤3000000) :
  ∃ v' w',(Builtin.append_ #[33,33] ty #[v,u]).run Tryz.prog w=.ok v' w'∧OwnL kTerm B w' v' (l++m)∧Below B w w'∧w.grownBy w' v.ownBlock:=by
 obtain ⟨i0,hi,hz0,hz1,hz2⟩:=info_parts kTerm.info;obtain ⟨ao,cap,rfl,hc1,hc2,hat⟩:=hm.at
 cases ao with
 | none=>
  cases m with
  | nil=>
   rw [List.length_nil,List.append_nil];have hr:(Builtin.append_ #[33,33] ty #[v,.slice none 0 cap]).run Tryz.prog w=.ok v w:=by
    have hi':Tryz.prog.info? 83=some i0:=hi;rcases (own_rows hown).2 with ⟨rfl,h0⟩ | ⟨g,c,cur,rfl,_,_,hnc,_⟩
    ·simp [Builtin.append_,run_underlying Tryz.underlying33,sizeOf,typeInfo,hi',Builtin.lenOf,Builtin.firstCells]
    ·simp [Builtin.append_,run_underlying Tryz.underlying33,sizeOf,typeInfo,hi',Builtin.lenOf,Builtin.firstCells,hnc,storeCells]
   exact ⟨v,w,hr,hown,Below.refl _ _,⟨rfl,rfl,rfl,Nat.le_refl _,fun _ _ _=>rfl⟩⟩
  | cons t m'=>
   obtain ⟨b,o,e,_⟩:=hat 0 (by simp)
   cases e
 | some a=>
  obtain ⟨v',w',hr,h2,h3,h4⟩:=run_push (P:=Tryz.prog) w B 33 ty 83 i0 kTerm.zero 2 24 Tryz.underlying33 hi hz0 hz1 hz2 rfl (by decide) v l.length _ (own_rows hown) a m.length cap (tcs m) (tcs_len m) hm.news (tcs_one m) (by unfold maxLen;omega) (by omega) hB;refine ⟨v',w',hr,rows_own ?_,Below.push (Below.refl B w) hB (own_rows hown) h3,h3⟩;rw [List.length_append,tcs_append];exact h2
end Go.Proofs.YtkfgbhlpjkkgfaaGreatDoor
namespace Go.Proofs.YtkfgbhlpjkkgfaaGreatDoor
open Go.Shelf Go.RowKit Go.Lib Go.IntWalk Go.Maps
def times (n:Int) (u:Tm):Tm:=(n*u.1,u.2)
def wt (names:List ByteArray) (L:List (List Tm)) (t:Tm):List Tm :=
 match plc names L.length t.2.data.toList with
 | some q=>(L.getD q []).map (times t.1)
 | none=>[t]
def wbad (names:List ByteArray) (L:List (List Tm)) (t:Tm):Bool :=
 match plc names L.length t.2.data.toList with
 | some q=>(L.getD q []).any fun u => !small u.1 || !small t.1
 | none=>false
def withL (names:List ByteArray) (L:List (List Tm)) (s:List Tm):List Tm:=s.flatMap (wt names L)
def wcode (names:List ByteArray) (L:List (List Tm)) (s:List Tm):Int:=if s.any (wbad names L)=true then 16 else if 1000<(withL names L s).length then 7 else 0
end Go.Proofs.YtkfgbhlpjkkgfaaGreatDoor
namespace Go.Proofs.YtkfgbhlpjkkgfaaGreatDoor
open Go.RowKit Go.IntWalk
def isName (l:List UInt8):Bool := !l.isEmpty&&decide (l.length≤12)&&Tk.isL ((l.headD 0).toNat:Int)&&(Tk.runLen l==l.length) && !(Tk.isWord l)
theorem nameT_any (s:ByteArray) (w:World) (hml:s.size≤maxLen) :
  Calls Tryz.prog 147 #[.string s] w fun e w'=>e=.returned (.bool (isName s.data.toList))∧w'=w:=by
 obtain ⟨r,hr⟩:=nmQ (isName s.data.toList);rw [←hr];unfold isName at hr;have hsz:s.data.toList.length=s.size:=(by rw [Lib.size_eq]);by_cases h0:s.size=0
 ·have hs:s=⟨#[]⟩:=ByteArray.ext (Array.eq_empty_of_size_eq_zero h0)
  subst hs;have:r=false:=(by rw [hr];rfl);subst this;clear hr;go_enter Tryz.func147,Tryz.ntmps147
  go_wp2_with (first
   | (go_at_call 135;refine (isLetter_any _ _).mono ?_;rintro e w' ⟨rfl,rfl⟩)
   | (go_at_call 102;refine (runLength_any _ _ hml).mono ?_;rintro e w' ⟨rfl,rfl⟩)
   | (go_at_call 138;refine (word_any _ _).mono ?_;rintro e w' ⟨rfl,rfl⟩))
  go_ret;exact ⟨rfl,rfl⟩
 ·have hp:0<s.size:=by omega
  have hhd:s.data.toList.headD 0=s[0]:=headD_eq s.data.toList (by rw [←Lib.size_eq];omega);have hem:s.data.toList.isEmpty=false:=by
   cases hc:s.data.toList with
   | nil=>exfalso;rw [Lib.size_eq,hc] at hp;simp at hp
   | cons a b=>rfl
  rw [hhd,hsz,hem] at hr;have hne:(s.toList==[])=false:=by
   rw [Lib.toList_data]
   cases hc:s.data.toList with
   | nil=>rw [hc] at hem;cases hem
   | cons a b=>rfl
  clear hem hhd hsz;by_cases h12:12<s.size
  ·have:r=false:=by rw [hr];simp;omega
   subst this;clear hr;go_enter Tryz.func147,Tryz.ntmps147
   go_wp2_with (first
    | (go_at_call 135;refine (isLetter_any _ _).mono ?_;rintro e w' ⟨rfl,rfl⟩)
    | (go_at_call 102;refine (runLength_any _ _ hml).mono ?_;rintro e w' ⟨rfl,rfl⟩)
    | (go_at_call 138;refine (word_any _ _).mono ?_;rintro e w' ⟨rfl,rfl⟩))
   go_ret;exact ⟨rfl,rfl⟩
  ·have hd12:decide (s.size≤12)=true:=by simp;omega
   have hd12':decide ((12:Int)<(s.size:Int))=false:=(by simp;omega);rw [hd12] at hr;clear hd12
   cases hL:Tk.isL ((s[0]).toNat:Int)
   ·have:r=false:=by rw [hr,hL];rfl
    subst this;clear hr;go_enter Tryz.func147,Tryz.ntmps147
    go_wp2_with (first
     | (go_at_call 135;refine (isLetter_any _ _).mono ?_;rintro e w' ⟨rfl,rfl⟩)
     | (go_at_call 102;refine (runLength_any _ _ hml).mono ?_;rintro e w' ⟨rfl,rfl⟩)
     | (go_at_call 138;refine (word_any _ _).mono ?_;rintro e w' ⟨rfl,rfl⟩))
    go_ret;exact ⟨rfl,rfl⟩
   ·rw [hL] at hr
    cases hrl:(Tk.runLen s.data.toList==s.size)
    ·have:r=false:=by rw [hr,hrl];rfl
     subst this;have hri:((Tk.runLen s.data.toList:Int)==(s.size:Int))=false:=by
      rw [beq_eq_false_iff_ne] at hrl ⊢;omega
     clear hr hrl;go_enter Tryz.func147,Tryz.ntmps147
     go_wp2_with (first
      | (go_at_call 135;refine (isLetter_any _ _).mono ?_;rintro e w' ⟨rfl,rfl⟩)
      | (go_at_call 102;refine (runLength_any _ _ hml).mono ?_;rintro e w' ⟨rfl,rfl⟩)
      | (go_at_call 138;refine (word_any _ _).mono ?_;rintro e w' ⟨rfl,rfl⟩))
     go_ret;exact ⟨rfl,rfl⟩
    ·have hri:((Tk.runLen s.data.toList:Int)==(s.size:Int))=true:=by
      rw [beq_iff_eq] at hrl ⊢;omega
     have HR:Hid (r = !Tk.isWord s.data.toList):=(by show _=_;rw [hr,hrl];simp);clear hr hrl;go_enter Tryz.func147,Tryz.ntmps147
     go_wp2_with (first
      | (go_at_call 135;refine (isLetter_any _ _).mono ?_;rintro e w' ⟨rfl,rfl⟩)
      | (go_at_call 102;refine (runLength_any _ _ hml).mono ?_;rintro e w' ⟨rfl,rfl⟩)
      | (go_at_call 138;refine (word_any _ _).mono ?_;rintro e w' ⟨rfl,rfl⟩))
     go_ret;exact ⟨ret_bool (by rw [HR.out]),rfl⟩
end Go.Proofs.YtkfgbhlpjkkgfaaGreatDoor
namespace Go.Proofs.YtkfgbhlpjkkgfaaGreatDoor
open Go.RowKit Go.IntWalk
namespace Rn
def firstC {α:Type} (f:α→Int):List α→Int
 | []=>0
 | x :: l=>if f x=0 then firstC f l else f x
def nameC (s:ByteArray):Int:=if isName s.data.toList=true then 0 else 3
def termC (t:Tm):Int:=if t.1 ≤ -1000000000000000000∨1000000000000000000≤t.1 then 2 else if t.2.size=0 then 0 else nameC t.2
def sizeC (s:List Tm):Int:=if s.length=0 then 4 else if 30<s.length then 7 else firstC termC s
def declC (d:De):Int:=if isName d.name.data.toList=false then 3 else if d.elem≠105∧d.elem≠98 then 10 else if d.n.length=0 then 0 else sizeC d.n
def declsC (l:List De):Int:=if 30<l.length then 7 else firstC declC l
theorem firstC_step {α:Type} (f:α→Int):∀ (l:List α) (i:Nat) (h:i<l.length),(∀ j (hj:j<l.length),j<i→f l[j]=0)→f l[i]≠0→firstC f l=f l[i]
 | x :: l,0,_,_,hn=>by simp only [List.getElem_cons_zero] at hn ⊢;unfold firstC;rw [if_neg hn]
 | x :: l,i+1,h,ha,hn=>by
  have h0:f x=0:=ha 0 (by simp) (by omega);unfold firstC;rw [if_pos h0];simp only [List.getElem_cons_succ] at hn ⊢;exact firstC_step f l i (by simpa using h) (fun j hj hji=>ha (j+1) (by simpa using hj) (by omega)) hn
theorem firstC_none {α:Type} (f:α→Int):∀ (l:List α),(∀ j (hj:j<l.length),f l[j]=0)→firstC f l=0
 | [],_=>rfl
 | x :: l,h=>by
  have h0:f x=0:=h 0 (by simp);unfold firstC;rw [if_pos h0];exact firstC_none f l (fun j hj=>h (j+1) (by simpa using hj))
def nmF (s:ByteArray):Prop:=s.size≤maxLen
def tmF (t:Tm):Prop:=nmF t.2
def szF (s:List Tm):Prop:=∀ t ∈ s,tmF t
def deF (d:De):Prop:=nmF d.name∧szF d.n
end Rn
end Go.Proofs.YtkfgbhlpjkkgfaaGreatDoor
