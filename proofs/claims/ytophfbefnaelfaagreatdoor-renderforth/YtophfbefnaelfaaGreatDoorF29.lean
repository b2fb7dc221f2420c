import Derived.Test.YtophfbefnaelfaaGreatDoorF28
import Derived.Lib.ItoaNum
set_option linter.unusedVariables false
set_option linter.unusedSimpArgs false
set_option maxHeartbeats 64000000
set_option maxRecDepth 100000
namespace Go.Proofs.YtophfbefnaelfaaGreatDoor
open Go.RowKit Go.IntWalk
namespace Rn
def shpT:List (ByteArray × Int × Int × Int × Int × Int):=[(⟨#[]⟩,0,0,0,0,0),(⟨#[]⟩,0,0,0,0,0),(⟨#[]⟩,0,0,0,0,0),(⟨#[]⟩,0,0,0,0,0),(⟨#[]⟩,1,1,0,13,14),(⟨#[]⟩,2,2,0,1,12),(⟨#[]⟩,3,3,0,0,0),(⟨#[109,97,112]⟩,1,2,0,1,14),(⟨#[102,111,108,100]⟩,2,2,0,1,14),(⟨#[115,99,97,110]⟩,2,2,0,1,14),(⟨#[102,105,108,108]⟩,1,1,1,0,0),(⟨#[]⟩,3,3,0,0,0),(⟨#[119,105,116,104]⟩,3,3,0,0,0),(⟨#[115,108,105,99,101]⟩,1,1,2,0,0),(⟨#[99,97,116]⟩,2,2,0,0,0),(⟨#[112,114,101]⟩,2,2,0,0,0)]
def shp (k:Nat):ByteArray × Int × Int × Int × Int × Int:=shpT.getD k (⟨#[]⟩,0,0,0,0,0)
def numOk (op n:Int):Bool:=if op=1 then true else if op=2 then decide (n=0∨n=1) else decide (n=0)
def formOk (e:Ex):Bool :=
 decide (1≤e.op∧e.op≤15)&&(decide ((shp e.op.toNat).2.1≤(e.L.length:Int))&&decide ((e.L.length:Int)≤(shp e.op.toNat).2.2.1)&&decide ((e.S.length:Int)=(shp e.op.toNat).2.2.2.1)&&decide ((shp e.op.toNat).2.2.2.2.1≤e.k)&&decide (e.k≤(shp e.op.toNat).2.2.2.2.2)&&numOk e.op e.n&&(decide (e.op=3) || decide (e.name.size=0)))
end Rn
def GlobS (w:World):Prop:=0<w.heap.size∧∀ k,k<16→w.cell? ⟨0,k*6,none⟩=some (.string (Rn.shp k).1)∧w.cell? ⟨0,k*6+1,none⟩=some (.int .i64 (Rn.shp k).2.1)∧w.cell? ⟨0,k*6+2,none⟩=some (.int .i64 (Rn.shp k).2.2.1)∧w.cell? ⟨0,k*6+3,none⟩=some (.int .i64 (Rn.shp k).2.2.2.1)∧w.cell? ⟨0,k*6+4,none⟩=some (.int .i64 (Rn.shp k).2.2.2.2.1)∧w.cell? ⟨0,k*6+5,none⟩=some (.int .i64 (Rn.shp k).2.2.2.2.2)
theorem GlobS.under {w w':World} (h:GlobS w) (b:Below w.heap.size w w'):GlobS w':=by
 refine ⟨Nat.lt_of_lt_of_le h.1 b.size,fun k hk=>?_⟩;obtain ⟨h0,h1,h2,h3,h4,h5⟩:=h.2 k hk;exact ⟨(b.cell (p:=⟨0,k*6,none⟩) h.1).trans h0,(b.cell (p:=⟨0,k*6+1,none⟩) h.1).trans h1,(b.cell (p:=⟨0,k*6+2,none⟩) h.1).trans h2,(b.cell (p:=⟨0,k*6+3,none⟩) h.1).trans h3,(b.cell (p:=⟨0,k*6+4,none⟩) h.1).trans h4,(b.cell (p:=⟨0,k*6+5,none⟩) h.1).trans h5⟩
theorem mayHaveNumber_any (op k n:Int) (name:ByteArray) (aS aL:Option Addr) (nS cS nL cL:Nat) (w:World) :
  Calls Tryz.prog 139 #[.agg #[.int .i64 op,.int .i64 k,.int .i64 n,.string name,.slice aS nS cS,.slice aL nL cL]] w fun e w'=>e=.returned (.bool (Rn.numOk op n))∧Below w.heap.size w w':=by
 have bA:Below w.heap.size w (w.alloc (.cells #[.int .i64 op,.int .i64 k,.int .i64 n,.string name,.slice aS nS cS,.slice aL nL cL] 88 (0,0))):=(Below.refl _ _).alloc nR _;unfold Rn.numOk;by_cases h1:op=1
 ·rw [if_pos h1]
  subst h1;go_enter Tryz.func139,Tryz.ntmps139;go_wp2;go_ret;exact ⟨rfl,bA⟩
 rw [if_neg h1];by_cases h2:op=2
 ·rw [if_pos h2]
  subst h2;by_cases h3:n=0
  ·subst h3
   go_enter Tryz.func139,Tryz.ntmps139;go_wp2;go_ret;exact ⟨by simp,bA⟩
  by_cases h4:n=1
  ·subst h4
   go_enter Tryz.func139,Tryz.ntmps139;go_wp2;go_ret;exact ⟨by simp,bA⟩
  rw [show decide (n=0∨n=1)=false by simp [h3,h4]];go_enter Tryz.func139,Tryz.ntmps139;go_wp2;go_ret;exact ⟨by simp [h3,h4],bA⟩
 rw [if_neg h2];by_cases h3:n=0
 ·subst h3
  go_enter Tryz.func139,Tryz.ntmps139;go_wp2;go_ret;exact ⟨by simp,bA⟩
 ·rw [show decide (n=0)=false by simp [h3]]
  go_enter Tryz.func139,Tryz.ntmps139;go_wp2;go_ret;exact ⟨by simp [h3],bA⟩
theorem formed_walk (op k n:Int) (name:ByteArray) (aS aL:Option Addr) (nS cS nL cL:Nat) (w:World) (hg:GlobS w) (hcL:nL≤cL) (hcL2:cL≤maxLen) (hcS:nS≤cS) (hcS2:cS≤maxLen) :
  Calls Tryz.prog 122 #[.agg #[.int .i64 op,.int .i64 k,.int .i64 n,.string name,.slice aS nS cS,.slice aL nL cL]] w fun e w'=>e=.returned (.bool (decide (1≤op∧op≤15)&&(decide ((Rn.shp op.toNat).2.1≤(nL:Int))&&decide ((nL:Int)≤(Rn.shp op.toNat).2.2.1)&&decide ((nS:Int)=(Rn.shp op.toNat).2.2.2.1)&&decide ((Rn.shp op.toNat).2.2.2.2.1≤k)&&decide (k≤(Rn.shp op.toNat).2.2.2.2.2)&&Rn.numOk op n&&(decide (op=3) || decide (name.size=0)))))∧Below w.heap.size w w':=by
 unfold maxLen at hcL2 hcS2;obtain ⟨W,hW⟩:=nmQ (w.alloc (.cells #[.int .i64 op,.int .i64 k,.int .i64 n,.string name,.slice aS nS cS,.slice aL nL cL] 88 (0,0)));have bA:=newB hW;have gW:=hg.under bA;have KA:=newK hW;by_cases hr:1≤op∧op≤15
 case neg=>
  rw [show decide (1≤op∧op≤15)=false by simp [hr],Bool.false_and];by_cases hr1:op<1
  ·go_enter Tryz.func122,Tryz.ntmps122
   go_wp2;go_ret;rw [←hW];exact ⟨rfl,bA⟩
  ·have hr2:15<op:=by omega
   go_enter Tryz.func122,Tryz.ntmps122;go_wp2;go_ret;rw [←hW];exact ⟨rfl,bA⟩
 rw [show decide (1≤op∧op≤15)=true by simp [hr],Bool.true_and];have hr1:¬op<1:=(by omega);have hr2:¬15<op:=(by omega);obtain ⟨q,hq⟩:∃ q:Nat,op=(q:Int):=⟨op.toNat,by omega⟩;have hq16:q<16:=(by omega);have hqn:op.toNat=q:=(by omega);rw [hqn];obtain ⟨c0,c1,c2,c3,c4,c5⟩:=gW.2 q hq16;generalize Rn.shp q=sh at c0 c1 c2 c3 c4 c5 ⊢;obtain ⟨wd,a,b,c,f,l⟩:=sh
 dsimp only at *
 rw [hW] at c0 c1 c2 c3 c4 c5;subst hq;go_enter Tryz.func122,Tryz.ntmps122;go_upto_region 4 with fail;rw [←hW] at c0 c1 c2 c3 c4 c5 ⊢;obtain ⟨W2,hW2⟩:=nmQ (W.alloc (.cells #[.string wd,.int .i64 a,.int .i64 b,.int .i64 c,.int .i64 f,.int .i64 l] 164 (0,0)));have bB:=newB hW2;have bAB:=bA.trans (bB.mono bA.size);have KB:=newK hW2;have KA2:=(bB.block _ (lt_of KA)).trans KA;have zW:=newZ hW;rw [zW] at KB;rw [←hW2];have hwB:w.heap.size<W2.heap.size:=lt_of KA2;clear hW2 KA c0 c1 c2 c3 c4 c5;have hnum:=fun V=>mayHaveNumber_any q k n name aS aL nS cS nL cL V;have p0:=co KA2 0;have p1:=co KA2 1;have p2:=co KA2 2;have p3:=co KA2 3;have p4:=co KA2 4;have p5:=co KA2 5;have t1:=co KB 1;have t2:=co KB 2;have t3:=co KB 3;have t4:=co KB 4;have t5:=co KB 5;simp at p0 p1 p2 p3 p4 p5 t1 t2 t3 t4 t5;clear KA2 KB gW hg hW;have hR:∃ R,R=(decide (a≤(nL:Int))&&decide ((nL:Int)≤b)&&decide ((nS:Int)=c)&&decide (f≤k)&&decide (k≤l)&&Rn.numOk (q:Int) n&&(decide ((q:Int)=3) || decide (name.size=0))):=⟨_,rfl⟩;by_cases h1:a≤(nL:Int)
 case neg=>
  go_wp2;go_ret;exact ⟨by first | (simp [h1];done) | (simp [h1];intros;omega),bAB⟩
 by_cases h2:(nL:Int)≤b
 case neg=>
  go_wp2;go_ret;exact ⟨by first | (simp [h2];done) | (simp [h2];intros;omega),bAB⟩
 by_cases h3:(nS:Int)=c
 case neg=>
  go_wp2;go_ret;exact ⟨by first | (simp [h3];done) | (simp [h3];intros;omega),bAB⟩
 by_cases h4:f≤k
 case neg=>
  go_wp2;go_ret;exact ⟨by first | (simp [h4];done) | (simp [h4];intros;omega),bAB⟩
 by_cases h5:k≤l
 case neg=>
  go_wp2;go_ret;exact ⟨by first | (simp [h5];done) | (simp [h5];intros;omega),bAB⟩
 go_wp2_with fail;refine (hnum _).mono ?_;rintro e w3 ⟨rfl,b3⟩;have B3:=bAB.trans (b3.mono bAB.size);have p0':=(b3.cell (p:=⟨w.heap.size,0,none⟩) hwB).trans p0;have p3':=(b3.cell (p:=⟨w.heap.size,3,none⟩) hwB).trans p3;clear p0 p1 p2 p3 p4 p5 t1 t2 t3 t4 t5
 cases hnq:Rn.numOk (q:Int) n
 ·go_wp2
  go_ret;exact ⟨by simp [hnq],B3⟩
 by_cases hq3:q=3
 ·have hq3I:(q:Int)=3:=by omega
  go_wp2;go_ret;rw [hq3I] at hnq;exact ⟨by simp [h1,h2,h3,h4,h5,hq3I,hnq],B3⟩
 have hq3I:¬(q:Int)=3:=(by omega);by_cases hs0:name.size=0
 ·have hs:name=⟨#[]⟩:=ByteArray.ext (Array.eq_empty_of_size_eq_zero hs0)
  subst hs;go_wp2;go_ret;exact ⟨by simp [h1,h2,h3,h4,h5,hnq,show (⟨#[]⟩:ByteArray)=ByteArray.empty from rfl],B3⟩
 ·have hne:=str_ne hs0
  go_wp2;go_ret;exact ⟨by simp [h1,h2,h3,h4,h5,hq3I,hs0,hne],B3⟩
end Go.Proofs.YtophfbefnaelfaaGreatDoor
namespace Go.Proofs.YtophfbefnaelfaaGreatDoor
open Go.RowKit Go.IntWalk
namespace Tx
def put (t s:ByteArray):ByteArray:=if 12000<t.size then t else t++s
def puts (t:ByteArray) (l:List ByteArray):ByteArray:=l.foldl put t
def cat:List ByteArray→ByteArray
 | []=>ByteArray.empty
 | s :: l=>s++cat l
theorem puts_nil (t:ByteArray):puts t []=t:=rfl
theorem puts_cons (t s:ByteArray) (l:List ByteArray):puts t (s :: l)=puts (put t s) l:=rfl
theorem puts_append (t:ByteArray) (a b:List ByteArray):puts t (a++b)=puts (puts t a) b:=by simp [puts]
theorem puts_full {t:ByteArray} (h:12000<t.size):∀ l,puts t l=t
 | []=>rfl
 | s :: l=>by rw [puts_cons,put,if_pos h];exact puts_full h l
theorem puts_fit:∀ (l:List ByteArray) (t:ByteArray),t.size+(cat l).size≤12000→puts t l=t++cat l
 | [],t,_=>by simp [puts,cat,ByteArray.append_empty]
 | s :: l,t,h=>by
  simp only [cat,ByteArray.size_append] at h;rw [puts_cons,put,if_neg (by omega),puts_fit l (t++s) (by rw [ByteArray.size_append];omega),cat,ByteArray.append_assoc]
theorem puts_over:∀ (l:List ByteArray) (t:ByteArray),12000<t.size+(cat l).size→12000<(puts t l).size
 | [],t,h=>by simpa [puts,cat] using h
 | s :: l,t,h=>by
  by_cases ht:12000<t.size
  ·rw [puts_full ht];exact ht
  simp only [cat,ByteArray.size_append] at h;rw [puts_cons,put,if_neg ht];exact puts_over l (t++s) (by rw [ByteArray.size_append];omega)
def num (n:Int):ByteArray:=⟨(Lib.itoa n).toArray⟩
def abs (n:Int):Int:=if n<0 then -n else n
def signP (n:Int) (first:Bool):ByteArray:=if first=true then (if n<0 then ⟨#[45]⟩ else ⟨#[]⟩) else (if n<0 then ⟨#[32,45,32]⟩ else ⟨#[32,43,32]⟩)
def termP (t:Tm):List ByteArray:=if t.2.size=0 then [num (abs t.1)] else if abs t.1=1 then [t.2] else [num (abs t.1),⟨#[42]⟩,t.2]
def rowP {α:Type} (g:Nat→α→List ByteArray):Nat→List α→List ByteArray
 | _,[]=>[]
 | i,x :: l=>g i x++rowP g (i+1) l
theorem rowP_append {α:Type} (g:Nat→α→List ByteArray):∀ (i:Nat) (a b:List α),rowP g i (a++b)=rowP g i a++rowP g (i+a.length) b
 | i,[],b=>by simp [rowP]
 | i,x :: a,b=>by
  rw [List.cons_append,rowP,rowP,rowP_append g (i+1) a b,List.append_assoc,List.length_cons];rw [show i+1+a.length=i+(a.length+1) by omega]
theorem rowP_take {α:Type} (g:Nat→α→List ByteArray) (l:List α) (i:Nat) (h:i<l.length):rowP g 0 (l.take (i+1))=rowP g 0 (l.take i)++g i l[i]:=by
 rw [List.take_succ_eq_append_getElem h,rowP_append];rw [List.length_take,Nat.min_eq_left (by omega)];simp [rowP]
theorem puts_take {α:Type} (g:Nat→α→List ByteArray) (t:ByteArray) (l:List α) (i:Nat) (h:i<l.length):puts t (rowP g 0 (l.take (i+1)))=puts (puts t (rowP g 0 (l.take i))) (g i l[i]):=by
 rw [rowP_take g l i h,puts_append]
def comma {α:Type} (f:α→List ByteArray) (i:Nat) (x:α):List ByteArray:=if i=0 then f x else [⟨#[44,32]⟩]++f x
def commas {α:Type} (f:α→List ByteArray) (l:List α):List ByteArray:=rowP (comma f) 0 l
def sizeAt (i:Nat) (t:Tm):List ByteArray:=[signP t.1 (decide (i=0))]++termP t
def sizeP (s:List Tm):List ByteArray:=rowP sizeAt 0 s
def declP (d:De):List ByteArray:=[d.name,⟨#[58,32]⟩]++([if d.elem=105 then ⟨#[105,110,116]⟩ else ⟨#[98,111,111,108]⟩]++(if d.n.length=0 then [] else [⟨#[94]⟩]++sizeP d.n))
def angP {α:Type} (f:α→List ByteArray) (l:List α):List ByteArray:=if l.length=0 then [] else [⟨#[60]⟩]++(commas f l++[⟨#[62]⟩])
def wordP (s:ByteArray):List ByteArray:=[s]
def opsT:List (ByteArray × ByteArray × Int):=[(⟨#[]⟩,⟨#[]⟩,0),(⟨#[97,100,100]⟩,⟨#[32,43,32]⟩,4),(⟨#[115,117,98]⟩,⟨#[32,45,32]⟩,4),(⟨#[109,117,108]⟩,⟨#[32,42,32]⟩,5),(⟨#[100,105,118]⟩,⟨#[32,47,32]⟩,5),(⟨#[109,111,100]⟩,⟨#[32,37,32]⟩,5),(⟨#[109,105,110]⟩,⟨#[]⟩,7),(⟨#[109,97,120]⟩,⟨#[]⟩,7),(⟨#[108,101,115,115]⟩,⟨#[32,60,32]⟩,3),(⟨#[101,113]⟩,⟨#[32,61,61,32]⟩,3),(⟨#[97,110,100]⟩,⟨#[32,97,110,100,32]⟩,2),(⟨#[111,114]⟩,⟨#[32,111,114,32]⟩,1),(⟨#[120,111,114]⟩,⟨#[32,120,111,114,32]⟩,1),(⟨#[110,101,103]⟩,⟨#[45]⟩,6),(⟨#[110,111,116]⟩,⟨#[110,111,116,32]⟩,6)]
def opT (k:Nat):ByteArray × ByteArray × Int:=opsT.getD k (⟨#[]⟩,⟨#[]⟩,0)
def rankE (op k:Int):Int:=if op=4∨op=5 then (opT k.toNat).2.2 else if op=6 then 0 else 7
def partQ (r:Int) (p:List ByteArray) (least:Int):List ByteArray:=if least≤r then p else [⟨#[40]⟩]++(p++[⟨#[41]⟩])
abbrev Pt:=Int × List ByteArray
def nth (l:List Pt) (i:Nat):Pt:=l.getD i (0,[])
def at0 (p:Pt):List ByteArray:=partQ p.1 p.2 0
def sizesP (S:List (List Tm)):List ByteArray:=rowP (fun _ s=>[⟨#[44,32]⟩]++sizeP s) 0 S
def pairP (k:Int) (l:List Pt):List ByteArray :=
 if (opT k.toNat).2.1.size=0 then [(opT k.toNat).1,⟨#[40]⟩]++(commas at0 l++[⟨#[41]⟩])
 else partQ (nth l 0).1 (nth l 0).2 (if (opT k.toNat).2.2=3 then 4 else (opT k.toNat).2.2)++([(opT k.toNat).2.1]++partQ (nth l 1).1 (nth l 1).2 ((opT k.toNat).2.2+1))
def choiceP (l:List Pt):List ByteArray:=[⟨#[105,102,32]⟩]++(at0 (nth l 0)++([⟨#[32,116,104,101,110,32]⟩]++(at0 (nth l 1)++([⟨#[32,101,108,115,101,32]⟩]++at0 (nth l 2)))))
def indexP (l:List Pt):List ByteArray:=partQ (nth l 0).1 (nth l 0).2 7++([⟨#[91]⟩]++(at0 (nth l 1)++([⟨#[32,58,32]⟩]++(at0 (nth l 2)++[⟨#[93]⟩]))))
def formP (op k:Int) (S:List (List Tm)) (l:List Pt):List ByteArray :=
 [(Rn.shp op.toNat).1,⟨#[40]⟩]++((if k=0 then [] else [(opT k.toNat).1,⟨#[44,32]⟩])++(commas at0 l++(sizesP S++[⟨#[41]⟩])))
def bareOf (op k n:Int) (name:ByteArray) (S:List (List Tm)) (l:List Pt):List ByteArray :=
 if op=1 then [num n] else if op=2 then [if n=1 then ⟨#[116,114,117,101]⟩ else ⟨#[102,97,108,115,101]⟩] else if op=3 then [name]
 else if op=4 then [(opT k.toNat).2.1]++partQ (nth l 0).1 (nth l 0).2 6
 else if op=5 then pairP k l else if op=6 then choiceP l else if op=11 then indexP l else formP op k S l
def rank:Ex→Int
 | .mk op k _ _ _ _=>rankE op k
mutual
def bare:Ex→List ByteArray
 | .mk op k n name S L=>bareOf op k n name S (bares L)
def bares:List Ex→List Pt
 | []=>[]
 | x :: l=>(rank x,bare x) :: bares l
end
theorem bares_eq:∀ l:List Ex,bares l=l.map (fun x=>(rank x,bare x))
 | []=>by simp [bares]
 | x :: l=>by rw [bares,bares_eq l];rfl
theorem rowP_map {α β:Type} (f:α→β) (g:Nat→β→List ByteArray):∀ (i:Nat) (l:List α),rowP g i (l.map f)=rowP (fun i x=>g i (f x)) i l
 | i,[]=>rfl
 | i,x :: l=>by rw [List.map_cons,rowP,rowP,rowP_map f g (i+1) l]
def partP (e:Ex) (least:Int):List ByteArray:=partQ (rank e) (bare e) least
def exprP (e:Ex):List ByteArray:=partP e 0
theorem commas_bares (l:List Ex):commas at0 (bares l)=commas exprP l:=by
 rw [bares_eq,commas,commas,rowP_map];rfl
def callP (q:Eqn):List ByteArray:=[⟨#[99,97,108,108,32]⟩,q.node]++(angP sizeP q.S++([⟨#[40]⟩]++(commas exprP q.E++[⟨#[41]⟩])))
def eqP (q:Eqn):List ByteArray:=[⟨#[9]⟩]++(commas wordP q.names++([⟨#[32,61,32]⟩]++((if q.node.size=0 then (match q.E with | []=>[] | x :: _=>exprP x) else callP q)++[⟨#[59,10]⟩])))
def localP (d:De):List ByteArray:=[⟨#[9,118,97,114,32]⟩]++(declP d++[⟨#[59,10]⟩])
def nodeP (n:Nd):List ByteArray :=
 [⟨#[110,111,100,101,32]⟩,n.name]++(angP wordP n.sizes++([⟨#[40]⟩]++(commas declP n.inn++([⟨#[41,32,45,62,32,40]⟩]++(commas declP n.out++([⟨#[41,32,123,10]⟩]++(rowP (fun _ d=>localP d) 0 n.loc++(rowP (fun _ q=>eqP q) 0 n.eqs++[⟨#[125,10]⟩]))))))))
def progP (l:List Nd):List ByteArray:=rowP (fun _ n=>nodeP n) 0 l
end Tx
end Go.Proofs.YtophfbefnaelfaaGreatDoor
