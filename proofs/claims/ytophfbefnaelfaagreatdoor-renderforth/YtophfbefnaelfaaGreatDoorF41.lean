import Derived.Test.YtophfbefnaelfaaGreatDoorF00
import Derived.Test.YtophfbefnaelfaaGreatDoorF39
import Derived.Test.YtophfbefnaelfaaGreatDoorF05
set_option linter.unusedVariables false
set_option linter.unusedSimpArgs false
set_option maxHeartbeats 64000000
set_option maxRecDepth 100000
namespace Go.Proofs.YtophfbefnaelfaaGreatDoor
namespace Bk
open Tk
structure Bt where
 kind:Int
 text:List UInt8
 n:Int
def bt (t:Tok):Bt:=⟨t.kind,t.text,t.n⟩
inductive TK:List UInt8→List Bt→Prop where
 | nil:TK [] []
 | blank (c:UInt8) (l:List UInt8) (K:List Bt):isB (c.toNat:Int)=true→TK l K→TK (c :: l) K
 | tok (c:UInt8) (t l:List UInt8) (k n:Int) (K:List Bt):isB (c.toNat:Int)=false→c.toNat≠35→read (c :: t++l)=⟨k,c :: t,n,0⟩→TK l K→TK (c :: t++l) (⟨k,c :: t,n⟩ :: K)
theorem blank_toNat {c:UInt8} (h:isB (c.toNat:Int)=true):c.toNat=32∨c.toNat=9∨c.toNat=10∨c.toNat=13:=by
 simp only [isB,Bool.or_eq_true,beq_iff_eq] at h;omega
theorem blankLen_blank {c:UInt8} (l:List UInt8) (h:isB (c.toNat:Int)=true):blankLen false (c :: l)=1+blankLen false l:=by
 have hc:=blank_toNat h
 conv=>lhs;unfold blankLen
 by_cases h1:c.toNat=10
 ·rw [if_pos h1]
 ·rw [if_neg h1,if_neg (by omega),if_neg (by simp [h])]
theorem blankLen_not {c:UInt8} (l:List UInt8) (h:isB (c.toNat:Int)=false) (h2:c.toNat≠35):blankLen false (c :: l)=0:=by
 have h1:c.toNat≠10:=by
  intro e;rw [e] at h;simp [isB] at h
 unfold blankLen;rw [if_neg h1,if_neg h2,if_pos ⟨rfl,h⟩]
theorem scanR_of {l:List UInt8} {K:List Bt} (h:TK l K):∀ (f p:Nat),l.length≤f→∃ L,scanR f (l.drop (blankLen false l)) p=(L,0,0)∧L.map bt=K:=by
 induction h with
 | nil=>
  intro f p _;refine ⟨[],?_,rfl⟩
  cases f<;>simp [scanR]
 | blank c l K hb _ ih=>
  intro f p hf;simp only [List.length_cons] at hf;obtain ⟨L,e,m⟩:=ih f p (by omega);refine ⟨L,?_,m⟩;rw [blankLen_blank l hb,Nat.add_comm,List.drop_succ_cons];exact e
 | tok c t l k n K hb hh hr _ ih=>
  intro f p hf;simp only [List.cons_append,List.length_cons,List.length_append] at hf hr;obtain ⟨f,rfl⟩:∃ g,f=g+1:=⟨f-1,by omega⟩;rw [List.cons_append,blankLen_not _ hb hh,List.drop_zero];obtain ⟨L,e,m⟩:=ih f (p+(c :: t).length+blankLen false l) (by omega);refine ⟨⟨k,p,c :: t,n⟩ :: L,?_,by simp [bt,m]⟩;unfold scanR;rw [hr];simp only [ne_eq,not_true_eq_false,if_false];have hd:(c :: (t++l)).drop (c :: t).length=l:=(by rw [←List.cons_append,List.drop_left]);rw [hd,e];simp
theorem scan_of {l:List UInt8} {K:List Bt} (h:TK l K) (hl:l.length≤12000):∃ L,scan l=(L,0,0)∧L.map bt=K:=by
 unfold scan;rw [if_neg (by omega)];exact scanR_of h _ _ nR
def Edge (l:List UInt8):Prop:=∀ c,l.head?=some c→isR (c.toNat:Int)=false
theorem Edge.cons {c:UInt8} {l:List UInt8} (h:isR (c.toNat:Int)=false):Edge (c :: l):=by
 intro d hd;simp at hd;rw [←hd];exact h
theorem run_edge:∀ (t l:List UInt8),(∀ c ∈ t,isR (c.toNat:Int)=true)→Edge l→runLen (t++l)=t.length
 | [],[],_,_=>rfl
 | [],c :: l,_,h=>by
  have:=h c rfl;simp [runLen,this]
 | c :: t,l,h,e=>by
  have h0:=h c (by simp);have ih:=run_edge t l (fun d hd=>h d (by simp [hd])) e;unfold runLen at ih ⊢;simp [h0,ih]
theorem isR_not {c:UInt8} (h:isR (c.toNat:Int)=true):isB (c.toNat:Int)=false∧c.toNat≠35:=by
 unfold isR isL isD at h;simp only [Bool.or_eq_true,Bool.and_eq_true,decide_eq_true_eq] at h
 constructor
 ·unfold isB
  simp only [Bool.or_eq_false_iff,beq_eq_false_iff_ne,ne_eq];omega
 ·omega
theorem TK.word {c:UInt8} {t l:List UInt8} {K:List Bt} (h:∀ d ∈ c :: t,isR (d.toNat:Int)=true) (hc:isL (c.toNat:Int)=true) (hn:isWord (c :: t)=true∨t.length<12) (he:Edge l) (hl:TK l K) :
  TK (c :: t++l) (⟨if isWord (c :: t)=true then 1 else 2,c :: t,0⟩ :: K):=by
 have h0:=isR_not (h c (by simp));refine .tok c t l _ _ K h0.1 h0.2 ?_ hl;unfold Tk.read;rw [run_edge (c :: t) l h he];have hd:isD (c.toNat:Int)=false:=by
  unfold isL isD at *;simp only [Bool.and_eq_true,decide_eq_true_eq] at hc;simp only [Bool.and_eq_false_iff,decide_eq_false_iff_not];omega
 rw [if_neg (by simp),List.take_left];simp only [List.cons_append,List.headD_cons,hd,Bool.false_eq_true,if_false];unfold readName;by_cases hw:isWord (c :: t)=true
 ·rw [if_pos hw,if_pos hw]
 ·rw [if_neg hw,if_neg hw,if_neg (by simp;have:=hn.resolve_left hw;omega)]
theorem TK.num {c:UInt8} {t l:List UInt8} {K:List Bt} (h:∀ d ∈ c :: t,isD (d.toNat:Int)=true) (hb:badNum (c :: t)=false) (he:Edge l) (hl:TK l K):TK (c :: t++l) (⟨3,c :: t,numVal (c :: t)⟩ :: K):=by
 have hR:∀ d ∈ c :: t,isR (d.toNat:Int)=true:=fun d hd=>by simp [isR,h d hd]
 have h0:=isR_not (hR c (by simp));refine .tok c t l _ _ K h0.1 h0.2 ?_ hl;unfold Tk.read;rw [run_edge (c :: t) l hR he];rw [if_neg (by simp),List.take_left];simp only [List.cons_append,List.headD_cons,h c (by simp),if_true];unfold readNum;rw [hb];have:(c :: t).all (fun c=>isD (c.toNat:Int))=true:=(by rw [List.all_eq_true];exact h);simp only [Bool.false_eq_true,if_false,this,if_true]
theorem TK.sign {c:UInt8} {l:List UInt8} {K:List Bt} (hs:isS c=true) (h1:c=61→l.head?≠some 61) (h2:c=45→l.head?≠some 62) (hl:TK l K):TK (c :: l) (⟨4,[c],0⟩ :: K):=by
 have hm:c ∈ signs:=by
  unfold isS at hs;rw [List.any_eq_true] at hs;obtain ⟨x,hx,e⟩:=hs;rw [←of_decide_eq_true e];exact hx
 have hq:∀ c ∈ signs,isB (c.toNat:Int)=false∧c.toNat≠35∧isR (c.toNat:Int)=false:=(by decide);obtain ⟨q1,q2,q3⟩:=hq c hm;refine TK.tok c [] l 4 0 K q1 q2 ?_ hl;unfold Tk.read;have hr:runLen (c :: l)=0:=(by simp [runLen,q3]);rw [List.cons_append,List.nil_append,if_pos hr];have hsl:signLen (c :: l)=1:=by
  simp only [signLen];rw [if_neg,if_pos hs];simp only [Bool.or_eq_true,Bool.and_eq_true,beq_iff_eq,not_or,not_and];exact ⟨h1,h2⟩
 unfold readSign;rw [hsl];simp
theorem TK.sign2 {l:List UInt8} {K:List Bt} (hl:TK l K):TK (61 :: 61 :: l) (⟨4,[61,61],0⟩ :: K):=by
 refine TK.tok 61 [61] l 4 0 K (by decide) (by decide) ?_ hl;unfold Tk.read;have hr:runLen (61 :: 61 :: l)=0:=(by simp [runLen,isR,isL,isD]);simp only [List.cons_append,List.nil_append];rw [if_pos hr];simp [readSign,signLen]
theorem TK.arrow {l:List UInt8} {K:List Bt} (hl:TK l K):TK (45 :: 62 :: l) (⟨4,[45,62],0⟩ :: K):=by
 refine TK.tok 45 [62] l 4 0 K (by decide) (by decide) ?_ hl;unfold Tk.read;have hr:runLen (45 :: 62 :: l)=0:=(by simp [runLen,isR,isL,isD]);simp only [List.cons_append,List.nil_append];rw [if_pos hr];simp [readSign,signLen]
end Bk
end Go.Proofs.YtophfbefnaelfaaGreatDoor
namespace Go.Proofs.YtophfbefnaelfaaGreatDoor
open Go.RowKit
namespace Bk
open Tk
def sg (c:UInt8):Bt:=⟨4,[c],0⟩
def wd (t:List UInt8):Bt:=⟨1,t,0⟩
def nm (s:ByteArray):Bt:=⟨2,s.data.toList,0⟩
def nu (n:Int):Bt:=⟨3,Lib.itoa n,n⟩
def commasK {α:Type} (f:α→List Bt):List α→List Bt
 | []=>[]
 | x :: l=>f x++l.flatMap (fun y=>sg 44 :: f y)
def termK (t:Tm):List Bt:=if t.2.size=0 then [nu (Tx.abs t.1)] else if Tx.abs t.1=1 then [nm t.2] else [nu (Tx.abs t.1),sg 42,nm t.2]
def sizeK:List Tm→List Bt
 | []=>[]
 | t :: l=>(if t.1<0 then [sg 45] else [])++(termK t++l.flatMap (fun t=>(if t.1<0 then sg 45 else sg 43) :: termK t))
def declK (d:De):List Bt:=[nm d.name,sg 58]++([if d.elem=105 then wd [105,110,116] else wd [98,111,111,108]]++(if d.n.length=0 then [] else sg 94 :: sizeK d.n))
def angK {α:Type} (f:α→List Bt) (l:List α):List Bt:=if l.length=0 then [] else sg 60 :: (commasK f l++[sg 62])
def nameK (s:ByteArray):List Bt:=[nm s]
def opW (k:Nat):Bt:=wd (Tx.opT k).1.data.toList
def opS (k:Nat):Bt:=[wd [],sg 43,sg 45,sg 42,sg 47,sg 37,wd [],wd [],sg 60,⟨4,[61,61],0⟩,wd [97,110,100],wd [111,114],wd [120,111,114],sg 45,wd [110,111,116]].getD k (wd [])
def partQK (r:Int) (p:List Bt) (least:Int):List Bt:=if least≤r then p else sg 40 :: (p++[sg 41])
abbrev PtK:=Int × List Bt
def nthK (l:List PtK) (i:Nat):PtK:=l.getD i (0,[])
def at0K (p:PtK):List Bt:=partQK p.1 p.2 0
def sizesK (S:List (List Tm)):List Bt:=S.flatMap (fun s=>sg 44 :: sizeK s)
def pairK (k:Int) (l:List PtK):List Bt :=
 if (Tx.opT k.toNat).2.1.size=0 then [opW k.toNat,sg 40]++(commasK at0K l++[sg 41])
 else partQK (nthK l 0).1 (nthK l 0).2 (if (Tx.opT k.toNat).2.2=3 then 4 else (Tx.opT k.toNat).2.2)++(opS k.toNat :: partQK (nthK l 1).1 (nthK l 1).2 ((Tx.opT k.toNat).2.2+1))
def choiceK (l:List PtK):List Bt:=wd [105,102] :: (at0K (nthK l 0)++(wd [116,104,101,110] :: (at0K (nthK l 1)++(wd [101,108,115,101] :: at0K (nthK l 2)))))
def indexK (l:List PtK):List Bt:=partQK (nthK l 0).1 (nthK l 0).2 7++(sg 91 :: (at0K (nthK l 1)++(sg 58 :: (at0K (nthK l 2)++[sg 93]))))
def formK (op k:Int) (S:List (List Tm)) (l:List PtK):List Bt :=
 [wd (Rn.shp op.toNat).1.data.toList,sg 40]++((if k=0 then [] else [opW k.toNat,sg 44])++(commasK at0K l++(sizesK S++[sg 41])))
def bareOfK (op k n:Int) (name:ByteArray) (S:List (List Tm)) (l:List PtK):List Bt :=
 if op=1 then [nu n] else if op=2 then [if n=1 then wd [116,114,117,101] else wd [102,97,108,115,101]] else if op=3 then [nm name]
 else if op=4 then opS k.toNat :: partQK (nthK l 0).1 (nthK l 0).2 6
 else if op=5 then pairK k l else if op=6 then choiceK l else if op=11 then indexK l else formK op k S l
mutual
def bareK:Ex→List Bt
 | .mk op k n name S L=>bareOfK op k n name S (baresK L)
def baresK:List Ex→List PtK
 | []=>[]
 | x :: l=>(Tx.rank x,bareK x) :: baresK l
end
theorem baresK_eq:∀ l:List Ex,baresK l=l.map (fun x=>(Tx.rank x,bareK x))
 | []=>by simp [baresK]
 | x :: l=>by rw [baresK,baresK_eq l];rfl
def partK (e:Ex) (least:Int):List Bt:=partQK (Tx.rank e) (bareK e) least
def exprK (e:Ex):List Bt:=partK e 0
def callK (q:Eqn):List Bt:=[wd [99,97,108,108],nm q.node]++(angK sizeK q.S++(sg 40 :: (commasK exprK q.E++[sg 41])))
def eqK (q:Eqn):List Bt:=commasK nameK q.names++(sg 61 :: ((if q.node.size=0 then (match q.E with | []=>[] | x :: _=>exprK x) else callK q)++[sg 59]))
def localK (d:De):List Bt:=wd [118,97,114] :: (declK d++[sg 59])
def nodeK (n:Nd):List Bt :=
 [wd [110,111,100,101],nm n.name]++(angK nameK n.sizes++(sg 40 :: (commasK declK n.inn++([sg 41,⟨4,[45,62],0⟩,sg 40]++(commasK declK n.out++([sg 41,sg 123]++(n.loc.flatMap localK++(n.eqs.flatMap eqK++[sg 125]))))))))
def progK (l:List Nd):List Bt:=l.flatMap nodeK
def by' (l:List ByteArray):List UInt8:=l.flatMap (fun s=>s.data.toList)
theorem by_cat:∀ l:List ByteArray,(Tx.cat l).data.toList=by' l
 | []=>by simp [Tx.cat,by']
 | s :: l=>by simp [Tx.cat,by',by_cat l]
theorem by_append (a b:List ByteArray):by' (a++b)=by' a++by' b:=by simp [by']
def O (ps:List ByteArray) (B:List Bt):Prop:=∀ rest K,TK rest K→TK (by' ps++rest) (B++K)
def G (ps:List ByteArray) (B:List Bt):Prop:=∀ rest K,TK rest K→Edge rest→TK (by' ps++rest) (B++K)
def St (ps:List ByteArray):Prop:=∀ rest,Edge (by' ps++rest)
def Fs (ps:List ByteArray):Prop:=∀ rest,(by' ps++rest).head?≠some 62
theorem O.g {a:List ByteArray} {A:List Bt} (h:O a A):G a A:=fun r K k _=>h r K k
theorem O.nil:O [] []:=fun r K k=>by simpa [by'] using k
theorem O.app {a b:List ByteArray} {A B:List Bt} (h:O a A) (k:O b B):O (a++b) (A++B):=fun r K x=>by
 rw [by_append,List.append_assoc,List.append_assoc];exact h _ _ (k r K x)
theorem O.appG {a b:List ByteArray} {A B:List Bt} (h:O a A) (k:G b B):G (a++b) (A++B):=fun r K x e=>by
 rw [by_append,List.append_assoc,List.append_assoc];exact h _ _ (k r K x e)
theorem G.appO {a b:List ByteArray} {A B:List Bt} (h:G a A) (k:O b B) (s:St b):O (a++b) (A++B):=fun r K x=>by
 rw [by_append,List.append_assoc,List.append_assoc];exact h _ _ (k r K x) (s r)
theorem G.appG {a b:List ByteArray} {A B:List Bt} (h:G a A) (k:G b B) (s:St b):G (a++b) (A++B):=fun r K x e=>by
 rw [by_append,List.append_assoc,List.append_assoc];exact h _ _ (k r K x e) (s r)
theorem St.app {a:List ByteArray} (h:St a) (b:List ByteArray):St (a++b):=fun r=>by rw [by_append,List.append_assoc];exact h _
theorem Fs.app {a:List ByteArray} (h:Fs a) (b:List ByteArray):Fs (a++b):=fun r=>by rw [by_append,List.append_assoc];exact h _
def lit:List UInt8→Option (List Bt)
 | []=>some []
 | [c]=>if isB (c.toNat:Int) then some [] else if isS c&&c != 61&&c != 45 then some [sg c] else none
 | c :: d :: l=>
  if isB (c.toNat:Int) then lit (d :: l)
  else if c==61&&d==61 then (lit l).map (⟨4,[61,61],0⟩ :: ·) else if c==45&&d==62 then (lit l).map (⟨4,[45,62],0⟩ :: ·)
  else if isS c then (lit (d :: l)).map (sg c :: ·) else none
theorem lit_of:∀ (s:List UInt8) (B:List Bt),lit s=some B→∀ rest K,TK rest K→TK (s++rest) (B++K)
 | [],B,h,r,K,k=>by simp [lit] at h;subst h;simpa using k
 | [c],B,h,r,K,k=>by
  unfold lit at h
  split at h
  ·rename_i hb
   simp at h;subst h;exact TK.blank c r K hb k
  ·split at h
   ·rename_i hs
    simp only [Bool.and_eq_true,bne_iff_ne,ne_eq] at hs;simp at h;subst h;exact TK.sign hs.1.1 (fun e=>absurd e hs.1.2) (fun e=>absurd e hs.2) k
   ·simp at h
 | c :: d :: l,B,h,r,K,k=>by
  unfold lit at h
  split at h
  ·rename_i hb
   exact TK.blank c _ _ hb (lit_of (d :: l) B h r K k)
  ·split at h
   ·rename_i hs
    simp only [Bool.and_eq_true,beq_iff_eq] at hs;obtain ⟨rfl,rfl⟩:=hs;obtain ⟨B',h',rfl⟩:=Option.map_eq_some_iff.1 h;exact TK.sign2 (lit_of l B' h' r K k)
   ·split at h
    ·rename_i hs
     simp only [Bool.and_eq_true,beq_iff_eq] at hs;obtain ⟨rfl,rfl⟩:=hs;obtain ⟨B',h',rfl⟩:=Option.map_eq_some_iff.1 h;exact TK.arrow (lit_of l B' h' r K k)
    ·split at h
     ·rename_i h1 h2 hs
      obtain ⟨B',h',rfl⟩:=Option.map_eq_some_iff.1 h;simp only [Bool.and_eq_true,beq_iff_eq,not_and] at h1 h2;refine TK.sign hs (fun e=>?_) (fun e=>?_) (lit_of (d :: l) B' h' r K k)
      ·simpa using h1 e
      ·simpa using h2 e
     ·simp at h
theorem O.lit {s:ByteArray} {B:List Bt} (h:Bk.lit s.data.toList=some B):O [s] B:=fun r K k=>by
 simpa [by'] using lit_of _ B h r K k
theorem St.lit {c:UInt8} {l:List UInt8} (h:isR (c.toNat:Int)=false):St [⟨(c :: l).toArray⟩]:=fun r=>by
 simp only [by',List.flatMap_cons,List.flatMap_nil,List.append_nil,List.cons_append];exact Edge.cons h
theorem Fs.lit {c:UInt8} {l:List UInt8} (h:c≠62):Fs [⟨(c :: l).toArray⟩]:=fun r=>by
 simp [by',h]
def wordB (t:List UInt8):Bool:=t.all (fun c=>isR (c.toNat:Int))&&isL ((t.headD 0).toNat:Int)&&isWord t
theorem G.word {t:List UInt8} (h:wordB t=true):G [⟨t.toArray⟩] [wd t]:=fun r K k e=>by
 unfold wordB at h;simp only [Bool.and_eq_true,List.all_eq_true] at h;obtain ⟨⟨h1,h2⟩,h3⟩:=h
 cases t with
 | nil=>simp [isWord,words] at h3
 | cons c t=>
  have:=TK.word (K:=K) h1 (by simpa using h2) (.inl h3) e k;rw [if_pos h3] at this
  simpa [by',wd] using this
theorem O.word {a t b:List UInt8} {A B:List Bt} (ha:Bk.lit a=some A) (h:wordB t=true) (hb:Bk.lit b=some B) (hs:(b.all fun c=>isB (c.toNat:Int) || !(isR (c.toNat:Int)))=true) (hn:b≠[]):O [⟨(a++(t++b)).toArray⟩] (A++(wd t :: B)):=fun r K k=>by
 have h1:=lit_of b B hb r K k;have h2:=G.word h (b++r) _ h1 (by
  cases b with
  | nil=>exact absurd rfl hn
  | cons c b=>
   simp only [List.all_cons,Bool.and_eq_true,Bool.or_eq_true] at hs;refine Edge.cons ?_;rcases hs.1 with x | x
   ·have:=blank_toNat x
    unfold isR isL isD;simp only [Bool.or_eq_false_iff,Bool.and_eq_false_iff,decide_eq_false_iff_not];omega
   ·simpa using x)
 have h3:=lit_of a A ha _ _ h2
 simpa [by'] using h3
theorem takeWhile_all {α:Type} (p:α→Bool):∀ l:List α,(l.takeWhile p).length=l.length→∀ d ∈ l,p d=true
 | [],_,d,hd=>by simp at hd
 | x :: l,h,d,hd=>by
  rw [List.takeWhile_cons] at h
  split at h
  ·rename_i hx
   rcases List.mem_cons.1 hd with rfl | hm
   ·exact hx
   ·exact takeWhile_all p l (by simpa using h) d hm
  ·simp at h
theorem isName_iff {l:List UInt8} (h:isName l=true):∃ c t,l=c :: t∧(∀ d ∈ c :: t,isR (d.toNat:Int)=true)∧isL (c.toNat:Int)=true∧t.length<12∧isWord (c :: t)=false:=by
 unfold isName at h;simp only [Bool.and_eq_true,Bool.not_eq_true',decide_eq_true_eq,beq_iff_eq] at h;obtain ⟨⟨⟨⟨h1,h2⟩,h3⟩,h4⟩,h5⟩:=h
 cases l with
 | nil=>simp at h1
 | cons c t=>
  refine ⟨c,t,rfl,?_,by simpa using h3,by simp at h2;omega,h5⟩;exact takeWhile_all (fun c:UInt8=>isR (c.toNat:Int)) (c :: t) h4
theorem G.name {s:ByteArray} (h:isName s.data.toList=true):G [s] [nm s]:=fun r K k e=>by
 obtain ⟨c,t,he,h1,h2,h3,h4⟩:=isName_iff h;have:=TK.word (K:=K) h1 h2 (.inr h3) e k;rw [if_neg (by simp [h4])] at this
 simpa [by',nm,he] using this
end Bk
end Go.Proofs.YtophfbefnaelfaaGreatDoor
namespace Go.Proofs.YtophfbefnaelfaaGreatDoor
open Go.RowKit
namespace Bk
open Tk Tx
theorem dig_isD {u:Nat} (h:u<10):isD ((UInt8.ofNat (48+u)).toNat:Int)=true:=by
 have:(UInt8.ofNat (48+u)).toNat=48+u:=(by simp [UInt8.toNat_ofNat];omega);rw [this];unfold isD;simp only [Bool.and_eq_true,decide_eq_true_eq];omega
theorem dig_val {u:Nat} (h:u<10):((UInt8.ofNat (48+u)).toNat:Int)-48=u:=by
 have:(UInt8.ofNat (48+u)).toNat=48+u:=(by simp [UInt8.toNat_ofNat];omega);rw [this];omega
theorem dec_all (u:Nat):∀ d ∈ Lib.decDigits u,isD (d.toNat:Int)=true:=by
 induction u using Nat.strongRecOn with
 | ind u ih=>
  intro d hd;rw [Lib.decDigits] at hd
  split at hd
  ·rename_i h
   rw [List.mem_singleton] at hd;subst hd;exact dig_isD h
  ·rename_i h
   rcases List.mem_append.1 hd with hd | hd
   ·exact ih (u / 10) (by omega) d hd
   ·rw [List.mem_singleton] at hd;subst hd
    exact dig_isD (by omega)
theorem dec_val (u:Nat):numVal (Lib.decDigits u)=u:=by
 induction u using Nat.strongRecOn with
 | ind u ih=>
  rw [Lib.decDigits]
  split
  ·rename_i h
   simp only [numVal,List.foldl_cons,List.foldl_nil];rw [dig_val h];omega
  ·rename_i h
   have e:=ih (u / 10) (by omega);unfold numVal at e ⊢;rw [List.foldl_append,e,List.foldl_cons,List.foldl_nil,dig_val (by omega:u % 10<10)];omega
theorem dec_ne (u:Nat):Lib.decDigits u≠[]:=by
 rw [Lib.decDigits]
 split<;>simp
theorem dec_len:∀ (k u:Nat),u<10 ^ (k+1)→(Lib.decDigits u).length≤k+1
 | 0,u,h=>by rw [Lib.decDigits,dif_pos (by simpa using h)];simp
 | k+1,u,h=>by
  rw [Lib.decDigits]
  split
  ·simp
  ·have:=dec_len k (u / 10) (by rw [Nat.pow_succ] at h;omega)
   simp;omega
theorem dec_head (u:Nat):0<u→(Lib.decDigits u).head?≠some 48:=by
 induction u using Nat.strongRecOn with
 | ind u ih=>
  intro hu;rw [Lib.decDigits]
  split
  ·rename_i h
   intro e;simp at e;have:=congrArg UInt8.toNat e;simp [UInt8.toNat_ofNat] at this;omega
  ·rename_i h
   have hn:=dec_ne (u / 10);have hi:=ih (u / 10) (by omega) (by omega)
   cases hq:Lib.decDigits (u / 10) with
   | nil=>exact absurd hq hn
   | cons c t=>rw [hq] at hi;simpa using hi
theorem num_ok {n:Int} (h0:0≤n) (h1:n<1000000000000000000):∃ c t,Lib.itoa n=c :: t∧(∀ d ∈ c :: t,isD (d.toNat:Int)=true)∧badNum (c :: t)=false∧numVal (c :: t)=n:=by
 unfold Lib.itoa;rw [if_neg (by omega)]
 cases e:Lib.decDigits n.toNat with
 | nil=>exact absurd e (dec_ne _)
 | cons c t=>
  have a:=dec_all n.toNat;have v:=dec_val n.toNat;have l:=dec_len 17 n.toNat (by omega);have hh:=dec_head n.toNat;rw [e] at a v l hh;refine ⟨c,t,rfl,a,?_,by rw [v];omega⟩;unfold badNum;simp only [Bool.or_eq_false_iff,Bool.and_eq_false_iff,decide_eq_false_iff_not,beq_eq_false_iff_ne];refine ⟨by omega,?_⟩;by_cases hz:n.toNat=0
  ·left
   rw [hz,Lib.decDigits_one (by omega)] at e;simp at e;simp [←e.2]
  ·right
   exact hh (by omega)
theorem G.num {n:Int} (h0:0≤n) (h1:n<1000000000000000000):G [Tx.num n] [nu n]:=fun r K k e=>by
 obtain ⟨c,t,he,ha,hb,hv⟩:=num_ok h0 h1;have:=TK.num (K:=K) ha hb e k
 simpa [by',Tx.num,nu,he,hv] using this
theorem isR_ne {c:UInt8} (h:isR (c.toNat:Int)=true):c≠62:=by
 intro e;subst e;revert h;decide
theorem Fs.num {n:Int} (h0:0≤n) (h1:n<1000000000000000000):Fs [Tx.num n]:=fun r=>by
 obtain ⟨c,t,he,ha,hb,hv⟩:=num_ok h0 h1;have:=isR_ne (c:=c) (by simp [isR,ha c (by simp)]);simp [by',Tx.num,he,this]
theorem Fs.name {s:ByteArray} (h:isName s.data.toList=true):Fs [s]:=fun r=>by
 obtain ⟨c,t,he,h1,h2,h3,h4⟩:=isName_iff h;have:=isR_ne (c:=c) (h1 c (by simp));simp [by',he,this]
theorem G.rows {α:Type} {g:Nat→α→List ByteArray} {gK:α→List Bt}:∀ (l:List α) (i:Nat) (a:List ByteArray) (A:List Bt),G a A→(∀ x ∈ l,∀ j,i≤j→G (g j x) (gK x)∧St (g j x))→G (a++rowP g i l) (A++l.flatMap gK)
 | [],i,a,A,h,_=>by simpa [rowP] using h
 | x :: l,i,a,A,h,hx=>by
  have h0:=hx x (by simp) i nR;have:=G.rows l (i+1) (a++g i x) (A++gK x) (h.appG h0.1 h0.2) (fun y hy j hj=>hx y (by simp [hy]) j (by omega));rw [rowP,List.flatMap_cons,←List.append_assoc,←List.append_assoc];exact this
theorem O.rows {α:Type} {g:Nat→α→List ByteArray} {gK:α→List Bt}:∀ (l:List α) (i:Nat),(∀ x ∈ l,∀ j,O (g j x) (gK x))→O (rowP g i l) (l.flatMap gK)
 | [],i,_=>by simpa [rowP] using O.nil
 | x :: l,i,hx=>by
  rw [rowP,List.flatMap_cons];exact (hx x (by simp) i).app (O.rows l (i+1) (fun y hy=>hx y (by simp [hy])))
theorem o_comma:O [⟨#[44,32]⟩] [sg 44]:=O.lit (by rfl)
theorem s_comma:St [⟨#[44,32]⟩]:=St.lit (by decide)
theorem G.commas {α:Type} {f:α→List ByteArray} {fK:α→List Bt} {l:List α} (h:∀ x ∈ l,G (f x) (fK x)):G (Tx.commas f l) (commasK fK l):=by
 cases l with
 | nil=>exact O.nil.g
 | cons x l=>
  rw [Tx.commas,rowP,commasK];refine G.rows l 1 _ _ ?_ (fun y hy j hj=>?_)
  ·rw [comma,if_pos rfl]
   exact h x (by simp)
  ·rw [comma,if_neg (by omega)]
   exact ⟨o_comma.appG (h y (by simp [hy])),s_comma.app _⟩
theorem firstC_all {α:Type} {f:α→Int}:∀ {l:List α},Rn.firstC f l=0→∀ x ∈ l,f x=0
 | [],_,x,hx=>by simp at hx
 | y :: l,h,x,hx=>by
  unfold Rn.firstC at h
  split at h
  ·rename_i hy
   rcases List.mem_cons.1 hx with rfl | hx
   ·exact hy
   ·exact firstC_all h x hx
  ·rename_i hy
   exact absurd h hy
theorem name_of {s:ByteArray} (h:Rn.nameC s=0):isName s.data.toList=true:=by
 unfold Rn.nameC at h
 split at h
 ·assumption
 ·simp at h
theorem term_of {t:Tm} (h:Rn.termC t=0) : -1000000000000000000<t.1∧t.1<1000000000000000000∧(t.2.size=0∨isName t.2.data.toList=true):=by
 unfold Rn.termC at h
 split at h
 ·simp at h
 ·split at h
  ·refine ⟨by omega,by omega,.inl (by assumption)⟩
  ·refine ⟨by omega,by omega,.inr (name_of h)⟩
theorem G.term {t:Tm} (h:Rn.termC t=0):G (termP t) (termK t)∧Fs (termP t):=by
 obtain ⟨h1,h2,h3⟩:=term_of h;have ha:0≤Tx.abs t.1∧Tx.abs t.1<1000000000000000000:=by unfold Tx.abs;split<;>omega
 have hg:=G.num ha.1 ha.2;have hf:=Fs.num ha.1 ha.2;unfold termP termK;by_cases hs:t.2.size=0
 ·rw [if_pos hs,if_pos hs];exact ⟨hg,hf⟩
 ·rw [if_neg hs,if_neg hs]
  have hn:=h3.resolve_left hs;by_cases h1:Tx.abs t.1=1
  ·rw [if_pos h1,if_pos h1];exact ⟨G.name hn,Fs.name hn⟩
  ·rw [if_neg h1,if_neg h1]
   have ho:O [⟨#[42]⟩] [sg 42]:=O.lit (by rfl);exact ⟨hg.appG (ho.appG (G.name hn)) ((St.lit (c:=42) (l:=[]) (by decide)).app _),hf.app _⟩
theorem minus_g {p:List ByteArray} {B:List Bt} (h:G p B) (f:Fs p):G ([⟨#[45]⟩]++p) ([sg 45]++B):=fun r K k e=>by
 have:=TK.sign (c:=45) (by decide) (fun h=>absurd h (by decide)) (fun _=>f r) (h r K k e)
 simpa [by',by_append,sg] using this
theorem size_of {s:List Tm} (h:Rn.sizeC s=0):0<s.length∧s.length≤30∧∀ t ∈ s,Rn.termC t=0:=by
 unfold Rn.sizeC at h
 split at h
 ·simp at h
 ·split at h
  ·simp at h
  ·exact ⟨by omega,by omega,firstC_all h⟩
theorem G.size {s:List Tm} (h:Rn.sizeC s=0):G (sizeP s) (sizeK s)∧Fs (sizeP s):=by
 obtain ⟨h1,_,h2⟩:=size_of h
 cases s with
 | nil=>simp at h1
 | cons t l=>
  have ht:=G.term (h2 t (by simp));have hfst:G (sizeAt 0 t) ((if t.1<0 then [sg 45] else [])++termK t)∧Fs (sizeAt 0 t):=by
   unfold sizeAt signP;simp only [decide_true,if_true]
   split
   ·exact ⟨minus_g ht.1 ht.2,(Fs.lit (c:=45) (l:=[]) (by decide)).app _⟩
   ·refine ⟨?_,?_⟩
    ·intro r K k e
     simpa [by'] using ht.1 r K k e
    ·intro r
     simpa [by'] using ht.2 r
  rw [sizeP,rowP,sizeK,←List.append_assoc];refine ⟨G.rows l 1 _ _ hfst.1 (fun y hy j hj=>?_),hfst.2.app _⟩;have hy:=(G.term (h2 y (by simp [hy]))).1;unfold sizeAt signP;rw [show decide (j=0)=false from decide_eq_false (by omega)];simp only [Bool.false_eq_true,if_false]
  split
  ·exact ⟨O.appG (A:=[sg 45]) (O.lit (by rfl)) hy,(St.lit (c:=32) (l:=[45,32]) (by decide)).app _⟩
  ·exact ⟨O.appG (A:=[sg 43]) (O.lit (by rfl)) hy,(St.lit (c:=32) (l:=[43,32]) (by decide)).app _⟩
theorem decl_of {d:De} (h:Rn.declC d=0):isName d.name.data.toList=true∧(d.elem=105∨d.elem=98)∧(d.n.length≠0→Rn.sizeC d.n=0):=by
 unfold Rn.declC at h
 split at h
 ·simp at h
 ·split at h
  ·simp at h
  ·rename_i h1 h2
   refine ⟨by simpa using h1,by omega,fun hl=>?_⟩;rw [if_neg hl] at h;exact h
theorem G.decl {d:De} (h:Rn.declC d=0):G (declP d) (declK d):=by
 obtain ⟨h1,h2,h3⟩:=decl_of h;have ho:O [⟨#[58,32]⟩] [sg 58]:=O.lit (by rfl);have hn:O ([d.name]++[⟨#[58,32]⟩]) ([nm d.name]++[sg 58]):=(G.name h1).appO ho (St.lit (c:=58) (l:=[32]) (by decide));have hw:G [if d.elem=105 then ⟨#[105,110,116]⟩ else ⟨#[98,111,111,108]⟩] [if d.elem=105 then wd [105,110,116] else wd [98,111,111,108]]:=by
  split
  ·exact G.word (t:=[105,110,116]) (by decide)
  ·exact G.word (t:=[98,111,111,108]) (by decide)
 unfold declP declK;refine hn.appG ?_;by_cases hl:d.n.length=0
 ·rw [if_pos hl,if_pos hl,List.append_nil,List.append_nil];exact hw
 ·rw [if_neg hl,if_neg hl]
  have hp:O [⟨#[94]⟩] [sg 94]:=O.lit (by rfl);exact hw.appG (hp.appG (G.size (h3 hl)).1) ((St.lit (c:=94) (l:=[]) (by decide)).app _)
theorem decls_of {l:List De} (h:Rn.declsC l=0):l.length≤30∧∀ d ∈ l,Rn.declC d=0:=by
 unfold Rn.declsC at h
 split at h
 ·simp at h
 ·exact ⟨by omega,firstC_all h⟩
theorem o_open:O [⟨#[40]⟩] [sg 40]:=O.lit (by rfl)
theorem s_open:St [⟨#[40]⟩]:=St.lit (c:=40) (l:=[]) (by decide)
theorem o_close:O [⟨#[41]⟩] [sg 41]:=O.lit (by rfl)
theorem s_close:St [⟨#[41]⟩]:=St.lit (c:=41) (l:=[]) (by decide)
theorem O.ang {α:Type} {f:α→List ByteArray} {fK:α→List Bt} {l:List α} (h:∀ x ∈ l,G (f x) (fK x)):O (angP f l) (angK fK l):=by
 unfold angP angK;by_cases hl:l.length=0
 ·rw [if_pos hl,if_pos hl];exact O.nil
 ·rw [if_neg hl,if_neg hl]
  have h1:O [⟨#[60]⟩] [sg 60]:=O.lit (by rfl);have h2:O [⟨#[62]⟩] [sg 62]:=O.lit (by rfl);exact h1.app ((G.commas h).appO h2 (St.lit (c:=62) (l:=[]) (by decide)))
theorem St.ang {α:Type} {f:α→List ByteArray} {l:List α} {b:List ByteArray} (h:St b):St (angP f l++b):=by
 unfold angP
 split
 ·exact h
 ·exact ((St.lit (c:=60) (l:=[]) (by decide)).app _).app _
end Bk
end Go.Proofs.YtophfbefnaelfaaGreatDoor
