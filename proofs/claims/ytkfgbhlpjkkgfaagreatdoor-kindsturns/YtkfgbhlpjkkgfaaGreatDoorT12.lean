import Derived.Test.YtkfgbhlpjkkgfaaGreatDoorT11
import Derived.Test.YtkfgbhlpjkkgfaaGreatDoorT10
import Derived.Test.YtkfgbhlpjkkgfaaGreatDoorT06
import Derived.Test.YtkfgbhlpjkkgfaaGreatDoorT07
import Derived.Test.YtkfgbhlpjkkgfaaGreatDoorT03
import Derived.Maps.OwnSet
import Derived.StringKeys
set_option linter.unusedVariables false
set_option linter.unusedSimpArgs false
set_option maxHeartbeats 64000000
set_option maxRecDepth 100000
namespace Go.Proofs.YtkfgbhlpjkkgfaaGreatDoor
open Go.RowKit Go.IntWalk
namespace Rn
def shpT:List (ByteArray × Int × Int × Int × Int × Int):=[(⟨#[]⟩,0,0,0,0,0),(⟨#[]⟩,0,0,0,0,0),(⟨#[]⟩,0,0,0,0,0),(⟨#[]⟩,0,0,0,0,0),(⟨#[]⟩,1,1,0,13,14),(⟨#[]⟩,2,2,0,1,12),(⟨#[]⟩,3,3,0,0,0),(⟨#[109,97,112]⟩,1,2,0,1,14),(⟨#[102,111,108,100]⟩,2,2,0,1,14),(⟨#[115,99,97,110]⟩,2,2,0,1,14),(⟨#[102,105,108,108]⟩,1,1,1,0,0),(⟨#[]⟩,3,3,0,0,0),(⟨#[119,105,116,104]⟩,3,3,0,0,0),(⟨#[115,108,105,99,101]⟩,1,1,2,0,0),(⟨#[99,97,116]⟩,2,2,0,0,0),(⟨#[112,114,101]⟩,2,2,0,0,0)]
def shp (k:Nat):ByteArray × Int × Int × Int × Int × Int:=shpT.getD k (⟨#[]⟩,0,0,0,0,0)
def numOk (op n:Int):Bool:=if op=1 then true else if op=2 then decide (n=0\/n=1) else decide (n=0)
def formOk (e:Ex):Bool :=
 decide (1<=e.op/\e.op<=15)&&(decide ((shp e.op.toNat).2.1<=(e.L.length:Int))&&decide ((e.L.length:Int)<=(shp e.op.toNat).2.2.1)&&decide ((e.S.length:Int)=(shp e.op.toNat).2.2.2.1)&&decide ((shp e.op.toNat).2.2.2.2.1<=e.k)&&decide (e.k<=(shp e.op.toNat).2.2.2.2.2)&&numOk e.op e.n&&(decide (e.op=3) || decide (e.name.size=0)))
end Rn
def GlobS (w:World):Prop:=3<w.heap.size/\∀ k,k<16->w.cell? ⟨3,k*6,none⟩=some (.string (Rn.shp k).1)/\w.cell? ⟨3,k*6+1,none⟩=some (.int .i64 (Rn.shp k).2.1)/\w.cell? ⟨3,k*6+2,none⟩=some (.int .i64 (Rn.shp k).2.2.1)/\w.cell? ⟨3,k*6+3,none⟩=some (.int .i64 (Rn.shp k).2.2.2.1)/\w.cell? ⟨3,k*6+4,none⟩=some (.int .i64 (Rn.shp k).2.2.2.2.1)/\w.cell? ⟨3,k*6+5,none⟩=some (.int .i64 (Rn.shp k).2.2.2.2.2)
theorem GlobS.under {w w':World} (h:GlobS w) (b:Below w.heap.size w w'):GlobS w':=by
 refine ⟨Nat.lt_of_lt_of_le h.1 b.size,fun k hk=>?_⟩;obtain ⟨h0,h1,h2,h3,h4,h5⟩:=h.2 k hk;exact ⟨(b.cell (p:=⟨3,k*6,none⟩) h.1).trans h0,(b.cell (p:=⟨3,k*6+1,none⟩) h.1).trans h1,(b.cell (p:=⟨3,k*6+2,none⟩) h.1).trans h2,(b.cell (p:=⟨3,k*6+3,none⟩) h.1).trans h3,(b.cell (p:=⟨3,k*6+4,none⟩) h.1).trans h4,(b.cell (p:=⟨3,k*6+5,none⟩) h.1).trans h5⟩
theorem zDX (op k n:Int) (name:ByteArray) (aS aL:Option Addr) (nS cS nL cL:Nat) (w:World) :
  Calls Tryz.prog 247 #[.agg #[.int .i64 op,.int .i64 k,.int .i64 n,.string name,.slice aS nS cS,.slice aL nL cL]] w fun e w'=>e=.returned (.bool (Rn.numOk op n))/\Below w.heap.size w w':=by
 have bA:Below w.heap.size w (w.alloc (.cells #[.int .i64 op,.int .i64 k,.int .i64 n,.string name,.slice aS nS cS,.slice aL nL cL] 54 (0,0))):=(Below.refl _ _).alloc nR _;unfold Rn.numOk;by_cases h1:op=1
 ·rw [if_pos h1]
  subst h1;go_enter Tryz.func247,Tryz.ntmps247;go_wp2;go_ret;exact ⟨rfl,bA⟩
 rw [if_neg h1];by_cases h2:op=2
 ·rw [if_pos h2]
  subst h2;by_cases h3:n=0
  ·subst h3
   go_enter Tryz.func247,Tryz.ntmps247;go_wp2;go_ret;exact ⟨by simp,bA⟩
  by_cases h4:n=1
  ·subst h4
   go_enter Tryz.func247,Tryz.ntmps247;go_wp2;go_ret;exact ⟨by simp,bA⟩
  rw [show decide (n=0\/n=1)=false by simp [h3,h4]];go_enter Tryz.func247,Tryz.ntmps247;go_wp2;go_ret;exact ⟨by simp [h3,h4],bA⟩
 rw [if_neg h2];by_cases h3:n=0
 ·subst h3
  go_enter Tryz.func247,Tryz.ntmps247;go_wp2;go_ret;exact ⟨by simp,bA⟩
 ·rw [show decide (n=0)=false by simp [h3]]
  go_enter Tryz.func247,Tryz.ntmps247;go_wp2;go_ret;exact ⟨by simp [h3],bA⟩
theorem formed_walk (op k n:Int) (name:ByteArray) (aS aL:Option Addr) (nS cS nL cL:Nat) (w:World) (hg:GlobS w) (Dv:nL<=cL) (oX:cL<=maxLen) (CL:nS<=cS) (kz:cS<=maxLen) :
  Calls Tryz.prog 225 #[.agg #[.int .i64 op,.int .i64 k,.int .i64 n,.string name,.slice aS nS cS,.slice aL nL cL]] w fun e w'=>e=.returned (.bool (decide (1<=op/\op<=15)&&(decide ((Rn.shp op.toNat).2.1<=(nL:Int))&&decide ((nL:Int)<=(Rn.shp op.toNat).2.2.1)&&decide ((nS:Int)=(Rn.shp op.toNat).2.2.2.1)&&decide ((Rn.shp op.toNat).2.2.2.2.1<=k)&&decide (k<=(Rn.shp op.toNat).2.2.2.2.2)&&Rn.numOk op n&&(decide (op=3) || decide (name.size=0)))))/\Below w.heap.size w w':=by
 unfold maxLen at oX kz;obtain ⟨W,hW⟩:=nmQ (w.alloc (.cells #[.int .i64 op,.int .i64 k,.int .i64 n,.string name,.slice aS nS cS,.slice aL nL cL] 54 (0,0)));have bA:=zAk hW;have gW:=hg.under bA;have KA:=zBa hW;by_cases hr:1<=op/\op<=15
 case neg=>
  rw [show decide (1<=op/\op<=15)=false by simp [hr],Bool.false_and];by_cases lk:op<1
  ·go_enter Tryz.func225,Tryz.ntmps225
   go_wp2;go_ret;rw [<-hW];exact ⟨rfl,bA⟩
  ·have im:15<op:=by omega
   go_enter Tryz.func225,Tryz.ntmps225;go_wp2;go_ret;rw [<-hW];exact ⟨rfl,bA⟩
 rw [show decide (1<=op/\op<=15)=true by simp [hr],Bool.true_and];have lk:¬op<1:=(by omega);have im:¬15<op:=(by omega);obtain ⟨q,hq⟩:∃ q:Nat,op=(q:Int):=⟨op.toNat,by omega⟩;have Er:q<16:=(by omega);have Ej:op.toNat=q:=(by omega);rw [Ej];obtain ⟨c0,c1,c2,c3,c4,c5⟩:=gW.2 q Er;generalize Rn.shp q=sh at c0 c1 c2 c3 c4 c5 ⊢;obtain ⟨wd,a,b,c,f,l⟩:=sh
 dsimp only at *
 rw [hW] at c0 c1 c2 c3 c4 c5;subst hq;go_enter Tryz.func225,Tryz.ntmps225;go_upto_region 4 with fail;rw [<-hW] at c0 c1 c2 c3 c4 c5 ⊢;obtain ⟨W2,kK⟩:=nmQ (W.alloc (.cells #[.string wd,.int .i64 a,.int .i64 b,.int .i64 c,.int .i64 f,.int .i64 l] 256 (0,0)));have bB:=zAk kK;have ul:=bA.trans (bB.mono bA.size);have KB:=zBa kK;have qu:=(bB.block _ (zAB KA)).trans KA;have zW:=newZ hW;rw [zW] at KB;rw [<-kK];have Dp:w.heap.size<W2.heap.size:=zAB qu;clear kK KA c0 c1 c2 c3 c4 c5;have jr:=fun V=>zDX q k n name aS aL nS cS nL cL V;have p0:=co qu 0;have p1:=co qu 1;have p2:=co qu 2;have p3:=co qu 3;have p4:=co qu 4;have p5:=co qu 5;have t1:=co KB 1;have t2:=co KB 2;have t3:=co KB 3;have t4:=co KB 4;have t5:=co KB 5;simp at p0 p1 p2 p3 p4 p5 t1 t2 t3 t4 t5;clear qu KB gW hg hW;have hR:∃ R,R=(decide (a<=(nL:Int))&&decide ((nL:Int)<=b)&&decide ((nS:Int)=c)&&decide (f<=k)&&decide (k<=l)&&Rn.numOk (q:Int) n&&(decide ((q:Int)=3) || decide (name.size=0))):=⟨_,rfl⟩;by_cases h1:a<=(nL:Int)
 case neg=>
  go_wp2;go_ret;exact ⟨by first | (simp [h1];done) | (simp [h1];intros;omega),ul⟩
 by_cases h2:(nL:Int)<=b
 case neg=>
  go_wp2;go_ret;exact ⟨by first | (simp [h2];done) | (simp [h2];intros;omega),ul⟩
 by_cases h3:(nS:Int)=c
 case neg=>
  go_wp2;go_ret;exact ⟨by first | (simp [h3];done) | (simp [h3];intros;omega),ul⟩
 by_cases h4:f<=k
 case neg=>
  go_wp2;go_ret;exact ⟨by first | (simp [h4];done) | (simp [h4];intros;omega),ul⟩
 by_cases h5:k<=l
 case neg=>
  go_wp2;go_ret;exact ⟨by first | (simp [h5];done) | (simp [h5];intros;omega),ul⟩
 go_wp2_with fail;refine (jr _).mono ?_;rintro e w3 ⟨rfl,b3⟩;have B3:=ul.trans (b3.mono ul.size);have QV:=(b3.cell (p:=⟨w.heap.size,0,none⟩) Dp).trans p0;have PI:=(b3.cell (p:=⟨w.heap.size,3,none⟩) Dp).trans p3;clear p0 p1 p2 p3 p4 p5 t1 t2 t3 t4 t5
 cases hnq:Rn.numOk (q:Int) n
 ·go_wp2
  go_ret;exact ⟨by simp [hnq],B3⟩
 by_cases ko:q=3
 ·have rf:(q:Int)=3:=by omega
  go_wp2;go_ret;rw [rf] at hnq;exact ⟨by simp [h1,h2,h3,h4,h5,rf,hnq],B3⟩
 have rf:¬(q:Int)=3:=(by omega);by_cases yq:name.size=0
 ·have hs:name=⟨#[]⟩:=ByteArray.ext (Array.eq_empty_of_size_eq_zero yq)
  subst hs;go_wp2;go_ret;exact ⟨by simp [h1,h2,h3,h4,h5,hnq,show (⟨#[]⟩:ByteArray)=ByteArray.empty from rfl],B3⟩
 ·have cG:=zEC yq
  go_wp2;go_ret;exact ⟨by simp [h1,h2,h3,h4,h5,rf,yq,cG],B3⟩
end Go.Proofs.YtkfgbhlpjkkgfaaGreatDoor
namespace Go.Proofs.YtkfgbhlpjkkgfaaGreatDoor
open Go.RowKit Go.IntWalk
namespace Kd
open Classical in
noncomputable def sameS (a b:List Tm):Bool:=decide (SameN a b)
noncomputable def same (a b:Ty):Bool:=decide (a.elem=b.elem)&&(arr a==arr b)&&(!arr a || sameS a.n b.n)
structure Env where
 above:List Nd
 sizes:List ByteArray
 types:List De
def hasN (l:List ByteArray) (s:ByteArray):Bool:=l.any fun x=>x.data.toList==s.data.toList
def findD (l:List De) (s:ByteArray):Option De:=l.find? fun d=>d.name.data.toList==s.data.toList
def findN (l:List Nd) (s:ByteArray):Option Nd:=l.find? fun d=>d.name.data.toList==s.data.toList
def okB (n:List Tm):Bool:=decide (n.length<=1000)&&n.all fun t=>small t.1
def rng (n:List Tm):Int:=if okB n=true then 0 else 16
def termN (sizes:List ByteArray) (t:Tm):Int:=if hasN sizes t.2=false/\t.2.size≠0 then 9 else 0
def codeSz (sizes:List ByteArray) (n:List Tm):Int:=if Rn.firstC (termN sizes) n≠0 then Rn.firstC (termN sizes) n else rng n
def isFold (k:Int) (a b:Ty):Bool:=folds k&&isSc a (opT k).1&&isAr b (opT k).1
def isPlace (a b c:Ty):Bool:=arr a&&isSc b 105&&isSc c a.elem
noncomputable def mapT (k:Int) (l:List Ty):Except Int Ty :=
 if (l.length:Int)≠(opT k).2.2 then .error 12
 else match l with
  | []=>.error 10
  | t :: r=>typed (isAr t (opT k).1&&r.all fun u=>isAr u (opT k).1&&same u t) (mkA (opT k).2.1 t.n)
def cat (a b:Ty):Except Int Ty:=if (arr a&&isAr b a.elem)=true then (if okB (a.n++b.n)=true then .ok (mkA a.elem (a.n++b.n)) else .error 16) else .error 10
noncomputable def whole (op k:Int) (S:List (List Tm)) (l:List Ty):Except Int Ty :=
 if op=7 then mapT k l
 else if op=8 then typed (isFold k (l.getD 0 (sc 0)) (l.getD 1 (sc 0))) (l.getD 0 (sc 0))
 else if op=9 then typed (isFold k (l.getD 0 (sc 0)) (l.getD 1 (sc 0))) (l.getD 1 (sc 0))
 else if op=6 then typed (isSc (l.getD 0 (sc 0)) 98&&same (l.getD 1 (sc 0)) (l.getD 2 (sc 0))) (l.getD 1 (sc 0))
 else if op=10 then typed (!arr (l.getD 0 (sc 0))) (mkA (l.getD 0 (sc 0)).elem (S.getD 0 []))
 else if op=11 then typed (isPlace (l.getD 0 (sc 0)) (l.getD 1 (sc 0)) (l.getD 2 (sc 0))) (sc (l.getD 0 (sc 0)).elem)
 else if op=12 then typed (isPlace (l.getD 0 (sc 0)) (l.getD 1 (sc 0)) (l.getD 2 (sc 0))) (l.getD 0 (sc 0))
 else if op=13 then typed (arr (l.getD 0 (sc 0))) (mkA (l.getD 0 (sc 0)).elem (S.getD 1 []))
 else if op=14 then cat (l.getD 0 (sc 0)) (l.getD 1 (sc 0))
 else if op=15 then typed (same (l.getD 0 (sc 0)) (l.getD 1 (sc 0))) (l.getD 0 (sc 0))
 else typed (l.all fun t=>isSc t (opT k).1) (sc (opT k).2.1)
def tyD (d:De):Ty:=⟨d.elem,d.n⟩
def tyN (E:Env) (s:ByteArray):Except Int Ty:=match findD E.types s with
 | none=>.error 9
 | some d=>.ok (tyD d)
mutual
noncomputable def tyX (E:Env):Ex->Except Int Ty
 | .mk op k n name S L=>
  if Rn.firstC (codeSz E.sizes) S≠0 then .error (Rn.firstC (codeSz E.sizes) S)
  else match tyL E L with
   | .error c=>.error c
   | .ok l=>if op=1 then .ok (sc 105) else if op=2 then .ok (sc 98) else if op=3 then tyN E name else whole op k S l
noncomputable def tyL (E:Env):List Ex->Except Int (List Ty)
 | []=>.ok []
 | x :: r=>match tyX E x with
  | .error c=>.error c
  | .ok t=>match tyL E r with
   | .error c=>.error c
   | .ok l=>.ok (t :: l)
end
noncomputable def called (names:List ByteArray) (S:List (List Tm)) (d:De):Except Int Ty :=
 if d.n.length=0 then .ok (tyD d)
 else if wcode names S d.n≠0\/okB (withL names S d.n)=false then .error 16
 else .ok (mkA d.elem (withL names S d.n))
noncomputable def calledL (names:List ByteArray) (S:List (List Tm)):List De->Except Int (List Ty)
 | []=>.ok []
 | d :: r=>match called names S d with
  | .error c=>.error c
  | .ok t=>match calledL names S r with
   | .error c=>.error c
   | .ok l=>.ok (t :: l)
noncomputable def codeIn (names:List ByteArray) (S:List (List Tm)):List De->List Ty->Int
 | d :: r,t :: s=>match called names S d with
  | .error c=>c
  | .ok u=>if same t u=true then codeIn names S r s else 10
 | _,_=>0
def typ (l:List De) (s:ByteArray):Ty:=match findD l s with
 | none=>sc 0
 | some d=>tyD d
noncomputable def codeNm (l:List De):List ByteArray->List Ty->Int
 | x :: r,t :: s=>if same (typ l x) t=true then codeNm l r s else 10
 | _,_=>0
noncomputable def codeCall (E:Env) (q:Eqn):Int :=
 match findN E.above q.node with
 | none=>11
 | some g=>
  if Rn.firstC (codeSz E.sizes) q.S≠0 then Rn.firstC (codeSz E.sizes) q.S
  else match tyL E q.E with
   | .error c=>c
   | .ok l=>
    if q.S.length≠g.sizes.length\/q.E.length≠g.inn.length\/q.names.length≠g.out.length then 12
    else if codeIn g.sizes q.S g.inn l≠0 then codeIn g.sizes q.S g.inn l
    else match calledL g.sizes q.S g.out with
     | .error c=>c
     | .ok m=>codeNm E.types q.names m
def mkNm (mk:List ByteArray):List ByteArray->List ByteArray->Int
 | done,[]=>0
 | done,x :: r=>if hasN mk x=false then 9 else if hasN done x=true then 8 else mkNm mk (done++[x]) r
noncomputable def codeEq (E:Env) (mk done:List ByteArray) (q:Eqn):Int :=
 if mkNm mk done q.names≠0 then mkNm mk done q.names
 else if q.node.size≠0 then codeCall E q
 else match tyX E (q.E.getD 0 (.mk 0 0 0 ⟨#[]⟩ [] [])) with
  | .error c=>c
  | .ok t=>if same t (typ E.types (q.names.getD 0 ⟨#[]⟩))=true then 0 else 10
def declC (sizes:List ByteArray):List De->List De->Int
 | _,[]=>0
 | had,d :: r=>if ((findD had d.name).isSome || hasN sizes d.name)=true then 8 else if codeSz sizes d.n≠0 then codeSz sizes d.n else declC sizes (had++[d]) r
def twice:List ByteArray->List ByteArray->Bool
 | _,[]=>false
 | had,x :: r=>hasN had x || twice (had++[x]) r
def headC (above:List Nd) (n:Nd):Int :=
 if (findN above n.name).isSome=true then 8 else if twice [] n.sizes=true then 8 else declC n.sizes [] (n.inn++n.out++n.loc)
noncomputable def goE (E:Env) (mk:List ByteArray):List ByteArray->List Eqn->Nat->Option (Int × Nat)
 | _,[],_=>none
 | done,q :: r,i=>if codeEq E mk done q≠0 then some (codeEq E mk done q,i) else goE E mk (done++q.names) r (i+1)
def unmade (done:List ByteArray) (l:List De):Int:=Rn.firstC (fun d=>if hasN done d.name=true then 0 else 9) l
def mkOf (n:Nd):List ByteArray:=(n.out++n.loc).map De.name
def envOf (above:List Nd) (n:Nd):Env:=⟨above,n.sizes,n.inn++n.out++n.loc⟩
def doneOf (n:Nd):List ByteArray:=n.eqs.flatMap Eqn.names
noncomputable def nodeF (above:List Nd) (n:Nd) (i at0:Nat):Option (Int × Int) :=
 if headC above n≠0 then some (headC above n,-2-(i:Int))
 else match goE (envOf above n) (mkOf n) [] n.eqs at0 with
  | some (c,k)=>some (c,(k:Int))
  | none=>if unmade (doneOf n) (n.out++n.loc)≠0 then some (unmade (doneOf n) (n.out++n.loc),-2-(i:Int)) else none
noncomputable def goN:List Nd->List Nd->Nat->Nat->Int × Int
 | _,[],_,_=>(0,0)
 | above,n :: r,i,k=>match nodeF above n i k with
  | some f=>f
  | none=>goN (above++[n]) r (i+1) (k+n.eqs.length)
def isMain (n:Nd):Bool:=(n.name.data.toList==[109,97,105,110])&&decide (n.sizes.length=0)
noncomputable def checkN (l:List Nd):Int × Int :=
 if (goN [] l 0 0).1≠0 then goN [] l 0 0 else if l.any isMain=true then (0,0) else (14,-1)
theorem okB_iff (n:List Tm):okB n=true↔OkN n:=by
 unfold okB OkN;simp
end Kd
end Go.Proofs.YtkfgbhlpjkkgfaaGreatDoor
namespace Go.Proofs.YtkfgbhlpjkkgfaaGreatDoor
open Go.RowKit Go.IntWalk
theorem zBP {ok:Nat->Prop} {w:World} {u:Value} {n:List Tm} (hu:HTerms ok w u n) :
  Calls Tryz.prog 163 #[u] w fun r w'=>r=.returned (.int .i64 (Kd.rng n))/\Below w.heap.size w w':=by
 have hc:=zEr hu;obtain ⟨ao,cap,rfl,aC,av,ai⟩:=hu.at;clear hu ai;go_enter Tryz.func163,Tryz.ntmps163;go_wp2_with fail;refine hc.mono ?_;rintro r w1 ⟨u1,c,a,rfl,hP,b1⟩;clear hc;have bA:Below w1.heap.size w1 (w1.alloc (.cells #[.int .i64 c,.int .i64 a] 29 (0,0))):=(Below.refl _ _).alloc nR _;have B:=b1.trans (bA.mono b1.size);by_cases hz:c=0
 ·subst hz
  have hk:Kd.okB n=true:=by
   rw [Kd.okB_iff];rcases hP with ⟨_,_,h,_⟩ | ⟨_,_,_,_,_,_,h,_⟩ | ⟨h1,h2,_⟩
   ·cases h
   ·cases h
   ·exact ⟨h1,h2⟩
  clear hP;go_wp2;go_ret;exact ⟨by unfold Kd.rng;rw [if_pos hk];rfl,B⟩
 ·have bY:(c != 0)=true:=by simpa using hz
  have hk:Kd.okB n=false:=by
   cases hb:Kd.okB n with
   | false=>rfl
   | true=>
    rw [Kd.okB_iff] at hb;rcases hP with ⟨h,_⟩ | ⟨_,i,hi,h,_⟩ | ⟨_,_,h,_⟩
    ·have:=hb.1;omega
    ·rw [hb.2 _ (List.getElem_mem hi)] at h;cases h
    ·exact absurd h hz
  clear hP;go_wp2;go_ret;exact ⟨by unfold Kd.rng;rw [hk];rfl,B⟩
theorem zBT {ok ok':Nat->Prop} {w:World} {v u:Value} {a b:Kd.Ty} (ha:HTy ok w v a) (hb:HTy ok' w u b) :
  Calls Tryz.prog 18 #[v,u] w fun r w'=>r=.returned (.bool (Kd.same a b))/\Below w.heap.size w w':=by
 have HA:=zAA ha;have HB:=zAA hb;obtain ⟨va,rfl,tF⟩:=ha;obtain ⟨aa,ca,rfl,_,_,_⟩:=tF.at;obtain ⟨vb,rfl,eL⟩:=hb;obtain ⟨ab,cb,rfl,_,_,_⟩:=eL.at;obtain ⟨w2,gX⟩:=nmQ ((w.alloc (.cells #[.int .u8 a.elem,.slice aa a.n.length ca] 35 (0,0))).alloc (.cells #[.int .u8 b.elem,.slice ab b.n.length cb] 35 (0,0)));have b2:Below w.heap.size w w2:=(by rw [gX];exact ((Below.refl _ _).alloc nR _).alloc (by simp) _);have kA:w2.heap[w.heap.size]?=some (.cells #[.int .u8 a.elem,.slice aa a.n.length ca] 35 (0,0)):=(by rw [gX];exact (Below.heap_alloc _ _ _ (by simp)).trans (zAC w _));have kB:w2.heap[w.heap.size+1]?=some (.cells #[.int .u8 b.elem,.slice ab b.n.length cb] 35 (0,0)):=by
  rw [gX];have:=zAC (w.alloc (.cells #[.int .u8 a.elem,.slice aa a.n.length ca] 35 (0,0))) (.cells #[.int .u8 b.elem,.slice ab b.n.length cb] 35 (0,0))
  simpa using this
 have uT:=zAA (tF.under b2);have uy:=zAA (eL.under b2);have Io:=zAA (HA.out.under b2);have qZ:=zAA (HB.out.under b2);clear tF eL HA HB;have yA:=zAB kA;have yB:=zAB kB;have g0:=co kA 0;have g1:=co kA 1;have h0:=co kB 0;have h1:=co kB 1;simp at g0 g1 h0 h1;clear kA kB;by_cases he:a.elem=b.elem
 case neg=>
  have bM:(a.elem != b.elem)=true:=(by simpa using he);have hf:Kd.same a b=false:=(by unfold Kd.same;simp [he]);rw [hf];clear hf;go_enter Tryz.func18,Tryz.ntmps18;go_upto_region 1 with fail;rw [<-gX];clear gX;go_quiet (fail);go_wp2;go_ret;exact ⟨rfl,zBI b2 _⟩
 case pos=>
  have hs:Kd.same a b=((Kd.arr a==Kd.arr b)&&(!Kd.arr a || Kd.sameS a.n b.n)):=(by unfold Kd.same;simp [he]);rw [hs];clear hs;have bM:(a.elem != b.elem)=false:=(by simpa using he);have HE:=zAA he;clear he;generalize tg:Kd.arr a=qa;generalize nF:Kd.arr b=qb;go_enter Tryz.func18,Tryz.ntmps18;go_upto_region 1 with fail;rw [<-gX];clear gX;go_cut [16] (fun Gi wd=>Gi=.bool (qa != qb)/\Below w2.heap.size w2 wd)
  case first=>
   refine zAE (fun w'=>Below w2.heap.size w2 w') (fun _=>false) (by kernel_rfl) ?_;have af:Below w2.heap.size w2 w2.drew:=(Below.refl _ _).drew;generalize w2.drew=aW at af ⊢;refine' tkR 0 5 af ?o1
   refine' tkQ 1 6 af ?hyv ?o2
   case hyv=>
    intro wz ae;have bI:=(ae.cell (p:=⟨w.heap.size,0,none⟩) yA).trans g0;have d9:=(ae.cell (p:=⟨w.heap.size,1,none⟩) yA).trans g1;go_simp
    try rfl
   try simp only [Act.put,sT,sZ,sS]
   refine' tkR 2 7 af ?o3
   refine' tkQ 3 8 af ?hyv ?o4
   case hyv=>
    intro wz ae;have bI:=(ae.cell (p:=⟨w.heap.size+1,0,none⟩) yB).trans h0;have d9:=(ae.cell (p:=⟨w.heap.size+1,1,none⟩) yB).trans h1;go_simp
    try rfl
   try simp only [Act.put,sT,sZ,sS]
   refine' tkR 4 9 af ?o5
   refine' tkR 5 10 af ?o6
   refine' tkQ 6 11 af ?hyv ?o7
   case hyv=>
    intro wz ae;have bI:=(ae.cell (p:=⟨w.heap.size,0,none⟩) yA).trans g0;have d9:=(ae.cell (p:=⟨w.heap.size,1,none⟩) yA).trans g1;go_simp
    try rfl
   try simp only [Act.put,sT,sZ,sS]
   refine' tkQ 8 13 af ?hyv ?o8
   case hyv=>
    intro wz ae;have bI:=(ae.cell (p:=⟨w.heap.size+1,0,none⟩) yB).trans h0;have d9:=(ae.cell (p:=⟨w.heap.size+1,1,none⟩) yB).trans h1;go_simp
    try rfl
   try simp only [Act.put,sT,sZ,sS]
   refine tnQ 7 (fun K hK=>?_);go_simp;refine (zAP (Io.out.under af)).mono ?_;rintro eq cW ⟨rfl,dL⟩;have al:Below w2.heap.size w2 cW:=af.trans (dL.mono af.size);rw [tg];refine hK.out _ _ (fun _=>al) ?_;clear hK K
   try simp only [Act.put,sT,sZ,sS]
   refine tnQ 9 (fun K hK=>?_);go_simp;refine (zAP (qZ.out.under al)).mono ?_;rintro eq fY ⟨rfl,ib⟩;have aK:Below w2.heap.size w2 fY:=al.trans (ib.mono al.size);rw [nF];refine hK.out _ _ (fun _=>aK) ?_;clear hK K
   try simp only [Act.put,sT,sZ,sS]
   refine' tkR 10 15 aK ?o9
   refine' tkR 11 16 aK ?o10
   refine zAF (by kernel_rfl) ?_ _;go_wp2_with fail;go_meet
   case rel=>exact ⟨by cases qa<;>cases qb<;>rfl,aK⟩
  case rest=>
   obtain ⟨rfl,bc⟩:=hcut;have B3:=b2.trans (bc.mono b2.size);have e0:=(bc.cell (p:=⟨w.heap.size,0,none⟩) yA).trans g0;have e1:=(bc.cell (p:=⟨w.heap.size,1,none⟩) yA).trans g1;have f1:=(bc.cell (p:=⟨w.heap.size+1,1,none⟩) yB).trans h1;have qM:=Nat.lt_of_lt_of_le yA bc.size;have vo:=Nat.lt_of_lt_of_le yB bc.size;by_cases hq:qa=qb
   case neg=>
    have dK:(qa != qb)=true:=(by simpa using hq);rw [dK];go_wp2;go_ret;exact ⟨by simp [hq],B3⟩
   case pos=>
    have dK:(qa != qb)=false:=(by simpa using hq);rw [dK];subst hq;have hc:=zAP (Io.out.under bc);rw [tg] at hc;clear dK;go_wp2_with fail;refine hc.mono ?_;rintro eq w4 ⟨rfl,b4⟩;have B4:=B3.trans (b4.mono B3.size);have x1:=(b4.cell (p:=⟨w.heap.size,1,none⟩) qM).trans e1;have x2:=(b4.cell (p:=⟨w.heap.size+1,1,none⟩) vo).trans f1
    cases qa
    ·go_wp2
     go_ret;exact ⟨by simp,B4⟩
    ·have hn:=same_any ((uT.out.under bc).under b4) ((uy.out.under bc).under b4)
     go_wp2_with fail;refine hn.mono ?_;rintro eq w5 ⟨q,rfl,hq,b5⟩;have B5:=B4.trans (b5.mono B4.size);go_wp2;go_ret;refine ⟨?_,B5⟩;have:Kd.sameS a.n b.n=q:=by
      unfold Kd.sameS
      cases q
      ·simp
       intro h;have:=hq.2 h
       cases this
      ·simp
       exact hq.1 rfl
     simp [this]
end Go.Proofs.YtkfgbhlpjkkgfaaGreatDoor
namespace Go.Proofs.YtkfgbhlpjkkgfaaGreatDoor
open Go.RowKit Go.IntWalk Go.Maps Go.WideMaps
theorem law9k:Keyed Tryz.prog 9:=string_keyed Tryz.underlying9
theorem zero3k (w:World):(zeroValue 3).run Tryz.prog w=.ok (.int .i64 0) w:=by kernel_rfl
def selfR (v:Value):Option (DataW Value × List MemPlace):=some (.held v,[])
structure MapIs (w:World) (b n:Nat) (f:List UInt8->Option Value):Prop where
 out:∃ D:DataW Value,w.ownsMap Tryz.prog 9 selfR b n D/\∀ s:List UInt8,Maps.has D (.string s)=(f s).isSome/\∀ z:Value,D.atKey (.string s) (.held z)=.held ((f s).getD z)
def putF (f:List UInt8->Option Value) (s:List UInt8) (v:Value):List UInt8->Option Value:=fun x=>if x=s then some v else f x
theorem MapIs.made (w:World):MapIs (w.alloc (.map #[] 0)) w.heap.size 0 (fun _=>none) :=
 ⟨⟨.map [],World.ownsMap_made w _ _ _,fun s=>⟨rfl,fun z=>rfl⟩⟩⟩
theorem MapIs.lt {w:World} {b n:Nat} {f:List UInt8->Option Value} (h:MapIs w b n f):b<w.heap.size:=by
 obtain ⟨D,h1,_⟩:=h.out;exact h1.lt
theorem MapIs.keep {w w':World} {b n:Nat} {f:List UInt8->Option Value} (h:MapIs w b n f) (hk:w'.heap[b]?=w.heap[b]?):MapIs w' b n f:=by
 obtain ⟨D,⟨es,clock,hb,r⟩,h2⟩:=h.out;exact ⟨⟨D,⟨es,clock,hk.trans hb,r⟩,h2⟩⟩
theorem MapIs.mono {w:World} {b n m:Nat} {f:List UInt8->Option Value} (h:MapIs w b n f) (hn:n<=m):MapIs w b m f:=by
 obtain ⟨D,h1,h2⟩:=h.out;exact ⟨⟨D,h1.mono hn,h2⟩⟩
theorem MapIs.lookOk {w:World} {b n:Nat} {f:List UInt8->Option Value} (h:MapIs w b n f) {t e:TypeId} (ht:Tryz.prog.underlying t=some (.map 9 e)) {z:Value} (hz:(zeroValue e).run Tryz.prog w=.ok z w) {s:ByteArray} (hs:s.size<=maxLen) :
  (Instr.lookup t (.map (some b)) (.string s) true).run Tryz.prog w=.ok (.tuple #[(f s.data.toList).getD z,.bool (f s.data.toList).isSome]) w:=by
 obtain ⟨D,h1,h2⟩:=h.out;obtain ⟨v,ps,dE,hv⟩:=h1.look_ok law9k ht hz (zd:=.held z) (zp:=[]) rfl (keyOf_string_mk Tryz.underlying9 hs);rw [(h2 _).1] at dE;rw [(h2 _).2 z] at hv;unfold selfR at hv;injection hv with hv;injection hv with hv _;injection hv with hv;rw [<-hv];exact dE
theorem MapIs.look {w:World} {b n:Nat} {f:List UInt8->Option Value} (h:MapIs w b n f) {t e:TypeId} (ht:Tryz.prog.underlying t=some (.map 9 e)) {z:Value} (hz:(zeroValue e).run Tryz.prog w=.ok z w) {s:ByteArray} (hs:s.size<=maxLen) :
  (Instr.lookup t (.map (some b)) (.string s) false).run Tryz.prog w=.ok ((f s.data.toList).getD z) w:=by
 obtain ⟨D,h1,h2⟩:=h.out;obtain ⟨v,ps,dE,hv⟩:=h1.lookup law9k ht hz (zd:=.held z) (zp:=[]) rfl (keyOf_string_mk Tryz.underlying9 hs);rw [(h2 _).2 z] at hv;unfold selfR at hv;injection hv with hv;injection hv with hv _;injection hv with hv;rw [<-hv];exact dE
theorem MapIs.put {w:World} {b n:Nat} {f:List UInt8->Option Value} (h:MapIs w b n f) {t e:TypeId} (ht:Tryz.prog.underlying t=some (.map 9 e)) (hn:n<maxLen) {s:ByteArray} (hs:s.size<=maxLen) (v:Value) :
  ∃ w',(Instr.mapUpdate t (.map (some b)) (.string s) v).run Tryz.prog w=.ok () w'/\MapIs w' b (n+1) (putF f s.data.toList v)/\w.grownBy w' (some b):=by
 obtain ⟨D,h1,h2⟩:=h.out;obtain ⟨w',dE,h3,h4⟩:=h1.update law9k ht hn (keyOf_string_mk Tryz.underlying9 hs) (val:=v) (d:=.held v) (ps:=[]) rfl;refine ⟨w',dE,⟨⟨_,h3,fun x=>?_⟩⟩,h4⟩;have dI:WideAt.IsKeyLit (.string s.data.toList):=(by trivial);unfold putF;by_cases e:x=s.data.toList
 ·subst e
  rw [if_pos rfl];exact ⟨has_put_same h1.isMap dI _,fun z=>atKey_put_same h1.isMap dI _ _⟩
 ·have jU:(Lit.string x)≠.string s.data.toList:=fun q=>by injection q with q;exact e q
  rw [if_neg e,has_put_other jU];exact ⟨(h2 x).1,fun z=>by rw [atKey_put_other jU];exact (h2 x).2 z⟩
theorem zDJ {w:World} {ops:Array Oper} {rest:List Oper} {o:Oper} {a:Act} {Q:Exit->Act->World->Prop} (hg:o.guard=none) (m x v:Operand) (t:TypeId) (Ah:o.op=Op.mapUpdate t m x v)
  (e:TypeId) (ht:Tryz.prog.underlying t=some (.map 9 e)) {b n:Nat} {f:List UInt8->Option Value} (h:MapIs w b n f) (hn:n<maxLen) {s:ByteArray} (hs:s.size<=maxLen) (hm:a.eval m=.map (some b)) (hx:a.eval x=.string s)
  (hK:∀ w',MapIs w' b (n+1) (putF f s.data.toList (a.eval v))->w.grownBy w' (some b)->wpList Tryz.prog ops Q rest (a.put o.dst undef) w') :
  wpList Tryz.prog ops Q (o :: rest) a w:=by
 refine wpList_plain hg fun K' O8=>?_;obtain ⟨w',dE,r1,r2⟩:=h.put ht hn hs (a.eval v);unfold Oper.wp;simp [execOp,Ah,hm,hx,dE,Result.andThen];exact O8 _ _ (hK w' r1 r2)
end Go.Proofs.YtkfgbhlpjkkgfaaGreatDoor
namespace Go.Proofs.YtkfgbhlpjkkgfaaGreatDoor
open Go.RowKit Go.IntWalk Go.Maps Go.WideMaps
theorem zero35 (w:World):(zeroValue 35).run Tryz.prog w=.ok (.agg #[.int .u8 0,.slice none 0 0]) w:=by kernel_rfl
theorem zero47 (w:World):(zeroValue 47).run Tryz.prog w=.ok (.agg #[.string ⟨#[]⟩,.int .i64 0,.slice none 0 0,.slice none 0 0,.slice none 0 0,.slice none 0 0,.slice none 0 0]) w:=by kernel_rfl
theorem u98:Tryz.prog.underlying 98=some (.map 9 47):=by kernel_rfl
theorem u133:Tryz.prog.underlying 133=some (.map 9 3):=by kernel_rfl
theorem u134:Tryz.prog.underlying 134=some (.map 9 35):=by kernel_rfl
def TyF (ok:Nat->Prop) (w:World) (l:List De) (f:List UInt8->Option Value):Prop :=
 ∀ s:ByteArray,match Kd.findD l s with
  | none=>f s.data.toList=none
  | some d=>∃ v,f s.data.toList=some v/\HTy ok w v (Kd.tyD d)
def NdF (ok:Nat->Prop) (w:World) (l:List Nd) (f:List UInt8->Option Value):Prop :=
 ∀ s:ByteArray,match Kd.findN l s with
  | none=>f s.data.toList=none
  | some g=>∃ x:NdV,f s.data.toList=some (.agg x.cells.toArray)/\HNd ok w x g
def SzF (l:List ByteArray) (f:List UInt8->Option Value):Prop:=∀ s:ByteArray,(f s.data.toList).isSome=Kd.hasN l s
def MkF (mk done:List ByteArray) (f:List UInt8->Option Value):Prop:=∀ s:ByteArray,f s.data.toList=if Kd.hasN done s=true then some (.int .i64 1) else if Kd.hasN mk s=true then some (.int .i64 0) else none
structure SB where
 b:Nat
 m0:Nat
 m1:Nat
 m2:Nat
 m3:Nat
structure Scp (ok:Nat->Prop) (w:World) (x:SB) (E:Kd.Env) (mk done:List ByteArray):Prop where
 blk:w.heap[x.b]?=some (.cells #[.map (some x.m0),.map (some x.m1),.map (some x.m2),.map (some x.m3)] 136 (0,0))
 nb:¬ok x.b
 n0:¬ok x.m0
 n1:¬ok x.m1
 n2:¬ok x.m2
 n3:¬ok x.m3
 d01:x.m0≠x.m1
 d02:x.m0≠x.m2
 d03:x.m0≠x.m3
 d12:x.m1≠x.m2
 d13:x.m1≠x.m3
 d23:x.m2≠x.m3
 h0:∃ f,MapIs w x.m0 E.above.length f/\NdF ok w E.above f
 h1:∃ f,MapIs w x.m1 E.sizes.length f/\SzF E.sizes f
 h2:∃ f,MapIs w x.m2 E.types.length f/\TyF ok w E.types f
 h3:∃ f,MapIs w x.m3 (mk.length+done.length) f/\MkF mk done f
theorem TyF.keep {ok:Nat->Prop} {w w':World} {l:List De} {f:List UInt8->Option Value} (h:TyF ok w l f) (hs:w.heap.size<=w'.heap.size) (hk:∀ i,ok i->i<w.heap.size->w'.heap[i]?=w.heap[i]?):TyF ok w' l f:=by
 intro s;have:=h s
 cases hf:Kd.findD l s with
 | none=>rw [hf] at this;exact this
 | some d=>
  rw [hf] at this;obtain ⟨v,e,hv⟩:=this;exact ⟨v,e,hv.keep hs hk⟩
theorem NdF.keep {ok:Nat->Prop} {w w':World} {l:List Nd} {f:List UInt8->Option Value} (h:NdF ok w l f) (hs:w.heap.size<=w'.heap.size) (hk:∀ i,ok i->i<w.heap.size->w'.heap[i]?=w.heap[i]?):NdF ok w' l f:=by
 intro s;have:=h s
 cases hf:Kd.findN l s with
 | none=>rw [hf] at this;exact this
 | some d=>
  rw [hf] at this;obtain ⟨v,e,hv⟩:=this;exact ⟨v,e,hv.keep hs hk⟩
theorem Scp.keep {ok:Nat->Prop} {w w':World} {x:SB} {E:Kd.Env} {mk done:List ByteArray} (h:Scp ok w x E mk done) (hb:Below w.heap.size w w'):Scp ok w' x E mk done:=by
 have hk:∀ i,ok i->i<w.heap.size->w'.heap[i]?=w.heap[i]?:=fun i _ hl=>hb.block i hl;refine ⟨(hb.block _ (zAB h.blk)).trans h.blk,h.nb,h.n0,h.n1,h.n2,h.n3,h.d01,h.d02,h.d03,h.d12,h.d13,h.d23,?_,?_,?_,?_⟩
 ·obtain ⟨f,a,c⟩:=h.h0
  exact ⟨f,a.keep (hb.block _ a.lt),c.keep hb.size hk⟩
 ·obtain ⟨f,a,c⟩:=h.h1
  exact ⟨f,a.keep (hb.block _ a.lt),c⟩
 ·obtain ⟨f,a,c⟩:=h.h2
  exact ⟨f,a.keep (hb.block _ a.lt),c.keep hb.size hk⟩
 ·obtain ⟨f,a,c⟩:=h.h3
  exact ⟨f,a.keep (hb.block _ a.lt),c⟩
theorem Scp.lookSize {ok:Nat->Prop} {w:World} {x:SB} {E:Kd.Env} {mk done:List ByteArray} (h:Scp ok w x E mk done) {s:ByteArray} (hs:s.size<=maxLen) :
  ∃ v,∀ w',Below w.heap.size w w'->(Instr.lookup 133 (.map (some x.m1)) (.string s) true).run Tryz.prog w'=.ok (.tuple #[v,.bool (Kd.hasN E.sizes s)]) w':=by
 obtain ⟨f,a,c⟩:=h.h1;refine ⟨(f s.data.toList).getD (.int .i64 0),fun w' hb=>?_⟩;have:=(a.keep (hb.block _ a.lt)).lookOk u133 (zero3k w') hs;rw [c s] at this;exact this
theorem Scp.lookType {ok:Nat->Prop} {w:World} {x:SB} {E:Kd.Env} {mk done:List ByteArray} (h:Scp ok w x E mk done) {s:ByteArray} (hs:s.size<=maxLen) :
  ∃ e a n c,(∀ w',Below w.heap.size w w'->(Instr.lookup 134 (.map (some x.m2)) (.string s) true).run Tryz.prog w'=.ok (.tuple #[.agg #[.int .u8 e,.slice a n c],.bool (Kd.findD E.types s).isSome]) w')/\(∀ w',Below w.heap.size w w'->(Instr.lookup 134 (.map (some x.m2)) (.string s) false).run Tryz.prog w'=.ok (.agg #[.int .u8 e,.slice a n c]) w')/\HTy ok w (.agg #[.int .u8 e,.slice a n c]) (Kd.typ E.types s):=by
 obtain ⟨f,a,c⟩:=h.h2;have h1:=fun w' (hb:Below w.heap.size w w')=>(a.keep (hb.block _ a.lt)).lookOk u134 (zero35 w') hs;have h2:=fun w' (hb:Below w.heap.size w w')=>(a.keep (hb.block _ a.lt)).look u134 (zero35 w') hs;have h3:=c s;unfold Kd.typ
 cases hf:Kd.findD E.types s with
 | none=>
  rw [hf] at h3;simp only at h3;rw [h3] at h1 h2;exact ⟨_,_,_,_,h1,h2,HTy.zero 0⟩
 | some d=>
  rw [hf] at h3;obtain ⟨v,e,hv⟩:=h3;rw [e] at h1 h2;have Nw:=hv;obtain ⟨u,rfl,hu⟩:=hv;obtain ⟨ao,n,cap,rfl⟩:=hu.slice;exact ⟨_,_,_,_,h1,h2,Nw⟩
theorem Scp.lookNode {ok:Nat->Prop} {w:World} {x:SB} {E:Kd.Env} {mk done:List ByteArray} (h:Scp ok w x E mk done) {s:ByteArray} (hs:s.size<=maxLen) :
  ∃ y:NdV,(∀ w',Below w.heap.size w w'->(Instr.lookup 98 (.map (some x.m0)) (.string s) true).run Tryz.prog w'=.ok (.tuple #[.agg y.cells.toArray,.bool (Kd.findN E.above s).isSome]) w')/\∀ g,Kd.findN E.above s=some g->HNd ok w y g:=by
 obtain ⟨f,a,c⟩:=h.h0;have h1:=fun w' (hb:Below w.heap.size w w')=>(a.keep (hb.block _ a.lt)).lookOk u98 (zero47 w') hs;have h3:=c s
 cases hf:Kd.findN E.above s with
 | none=>
  rw [hf] at h3;simp only at h3;rw [h3] at h1;exact ⟨⟨⟨#[]⟩,0,none,0,0,none,0,0,none,0,0,none,0,0,none,0,0⟩,h1,fun g e=>by cases e⟩
 | some d=>
  rw [hf] at h3;obtain ⟨v,e,hv⟩:=h3;rw [e] at h1;exact ⟨v,h1,fun g e=>by injection e with e;subst e;exact hv⟩
theorem Scp.lookMade {ok:Nat->Prop} {w:World} {x:SB} {E:Kd.Env} {mk done:List ByteArray} (h:Scp ok w x E mk done) {s:ByteArray} (hs:s.size<=maxLen) {w':World} (hb:Below w.heap.size w w') :
  (Instr.lookup 133 (.map (some x.m3)) (.string s) true).run Tryz.prog w'=.ok (.tuple #[.int .i64 (if Kd.hasN done s=true then 1 else 0),.bool (Kd.hasN done s || Kd.hasN mk s)]) w' /\
  (Instr.lookup 133 (.map (some x.m3)) (.string s) false).run Tryz.prog w'=.ok (.int .i64 (if Kd.hasN done s=true then 1 else 0)) w':=by
 obtain ⟨f,a,c⟩:=h.h3;have h1:=(a.keep (hb.block _ a.lt)).lookOk u133 (zero3k w') hs;have h2:=(a.keep (hb.block _ a.lt)).look u133 (zero3k w') hs;have h3:=c s;rw [h3] at h1 h2
 cases hd:Kd.hasN done s with
 | true=>simp only [hd,if_true,Bool.true_or] at h1 h2 ⊢;exact ⟨h1,h2⟩
 | false=>
  cases hm:Kd.hasN mk s with
  | true=>simp [hd,hm] at h1 h2 ⊢;exact ⟨h1,h2⟩
  | false=>simp [hd,hm] at h1 h2 ⊢;exact ⟨h1,h2⟩
end Go.Proofs.YtkfgbhlpjkkgfaaGreatDoor
