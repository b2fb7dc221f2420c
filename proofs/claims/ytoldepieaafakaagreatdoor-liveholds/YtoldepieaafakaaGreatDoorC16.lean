import Derived.Test.YtoldepieaafakaaGreatDoorC15
import Derived.Test.YtoldepieaafakaaGreatDoorC14
import Derived.Test.YtoldepieaafakaaGreatDoorC12
import Derived.Test.YtoldepieaafakaaGreatDoorC10
import Derived.Test.YtoldepieaafakaaGreatDoorC08
import Derived.WalkKit
import Derived.WalkSpells
import Derived.IntWalk
import Derived.Deep.Cut
import Derived.Deep.LoopGhost
import Derived.Laws.Cover1
import Derived.Lib.Hide
set_option linter.unusedVariables false
set_option linter.unusedSimpArgs false
set_option maxHeartbeats 64000000
set_option maxRecDepth 100000
namespace Go.Proofs.YtoldepieaafakaaGreatDoor
open Go.RowKit Go.IntWalk
namespace Sk
def nt (a:List Vr) (i:Nat):Vr:=a.getD i (sc 0)
def fits (op k n:Int) (o:Vr) (a:List Vr):Bool :=
 if op=1 then same o (sc 105) || (same o (sc 98)&&truth n)
 else if op=2 then same o (nt a 0)
 else if op=3\/op=4 then operates k o a
 else if op=5 then (same (nt a 0) (sc 98)&&same (nt a 1) (nt a 2))&&same o (nt a 1)
 else if op=6 then goesOver k (nt a 0) (nt a 1)&&same o (nt a 0)
 else if op=7 then goesOver k (nt a 0) (nt a 1)&&same o (nt a 1)
 else if op=8 then arrOf o (nt a 0)
 else if op=9 then hasPlace (nt a 0) (nt a 1) (nt a 2)&&same o (nt a 2)
 else if op=10 then hasPlace (nt a 0) (nt a 1) (nt a 2)&&same o (nt a 0)
 else if op=11 then ((arr (nt a 0)&&arrOf o (sc (nt a 0).elem))&&decide (0<=n))&&decide (n<=(nt a 0).n-o.n)
 else if op=12 then (arr (nt a 0)&&arrOf (nt a 1) (sc (nt a 0).elem))&&same o ⟨(nt a 0).elem,(nt a 0).n+(nt a 1).n⟩
 else same (nt a 0) (nt a 1)&&same o (nt a 0)
theorem len0 {a:List Vr} (h:a.length=0):a=[]:=List.length_eq_zero_iff.1 h
theorem len1 {a:List Vr} (h:a.length=1):∃ x,a=[x]:=by
 match a,h with
 | [x],_=>exact ⟨x,rfl⟩
theorem len2 {a:List Vr} (h:a.length=2):∃ x y,a=[x,y]:=by
 match a,h with
 | [x,y],_=>exact ⟨x,y,rfl⟩
theorem len3 {a:List Vr} (h:a.length=3):∃ x y z,a=[x,y,z]:=by
 match a,h with
 | [x,y,z],_=>exact ⟨x,y,z,rfl⟩
end Sk
theorem fits_any {ok:Nat->Prop} (t:TRv) {aa:Option Addr} {na ca:Nat} (a:List Sk.Vr) (w:World) (hG:GlobK w) (hl:HVars ok w (.slice aa na ca) a) (h1:1<=t.op) (h2:t.op<=13) (hn:(a.length:Int)=Sk.partsT.getD t.op.toNat 0)
  (hb:∀ v ∈ a,0<=v.n/\v.n<=300) (ho:0<=t.o.n/\t.o.n<=300):Calls Tryz.prog 65 #[tv t aa na ca] w fun e w'=>e=.returned (.bool (Sk.fits t.op t.k t.n t.o a))/\Below w.heap.size w w':=by
 obtain ⟨op,k,out,n,aA,nA,cA,aE,nE,cE,o⟩:=t
 dsimp only at h1 h2 hn ho
 have hc:op=1\/op=2\/op=3\/op=4\/op=5\/op=6\/op=7\/op=8\/op=9\/op=10\/op=11\/op=12\/op=13:=(by omega);rcases hc with rfl | rfl | rfl | rfl | rfl | rfl | rfl | rfl | rfl | rfl | rfl | rfl | rfl
 ·have e:Sk.partsT.getD (1:Int).toNat 0=0:=rfl
  rw [e] at hn;have hn:a.length=0:=(by omega);obtain rfl:=Sk.len0 hn;exact fits1_any ⟨1,k,out,n,aA,nA,cA,aE,nE,cE,o⟩ w hG
 ·have e:Sk.partsT.getD (2:Int).toNat 0=1:=rfl
  rw [e] at hn;have hn:a.length=1:=(by omega);obtain ⟨x,rfl⟩:=Sk.len1 hn;exact fits2_any ⟨2,k,out,n,aA,nA,cA,aE,nE,cE,o⟩ x w hG hl
 ·have e:Sk.partsT.getD (3:Int).toNat 0=1:=rfl
  rw [e] at hn;have hn:a.length=1:=(by omega);obtain ⟨x,rfl⟩:=Sk.len1 hn;exact fits3_any ⟨3,k,out,n,aA,nA,cA,aE,nE,cE,o⟩ x [] w hG hl
 ·have e:Sk.partsT.getD (4:Int).toNat 0=2:=rfl
  rw [e] at hn;have hn:a.length=2:=(by omega);obtain ⟨x,y,rfl⟩:=Sk.len2 hn;exact fits4_any ⟨4,k,out,n,aA,nA,cA,aE,nE,cE,o⟩ x [y] w hG hl
 ·have e:Sk.partsT.getD (5:Int).toNat 0=3:=rfl
  rw [e] at hn;have hn:a.length=3:=(by omega);obtain ⟨x,y,z,rfl⟩:=Sk.len3 hn;exact fits5_any ⟨5,k,out,n,aA,nA,cA,aE,nE,cE,o⟩ x y z w hG hl
 ·have e:Sk.partsT.getD (6:Int).toNat 0=2:=rfl
  rw [e] at hn;have hn:a.length=2:=(by omega);obtain ⟨x,y,rfl⟩:=Sk.len2 hn;exact fits6_any ⟨6,k,out,n,aA,nA,cA,aE,nE,cE,o⟩ x y w hG hl
 ·have e:Sk.partsT.getD (7:Int).toNat 0=2:=rfl
  rw [e] at hn;have hn:a.length=2:=(by omega);obtain ⟨x,y,rfl⟩:=Sk.len2 hn;exact fits7_any ⟨7,k,out,n,aA,nA,cA,aE,nE,cE,o⟩ x y w hG hl
 ·have e:Sk.partsT.getD (8:Int).toNat 0=1:=rfl
  rw [e] at hn;have hn:a.length=1:=(by omega);obtain ⟨x,rfl⟩:=Sk.len1 hn;exact fits8_any ⟨8,k,out,n,aA,nA,cA,aE,nE,cE,o⟩ x w hG hl
 ·have e:Sk.partsT.getD (9:Int).toNat 0=3:=rfl
  rw [e] at hn;have hn:a.length=3:=(by omega);obtain ⟨x,y,z,rfl⟩:=Sk.len3 hn;exact fits9_any ⟨9,k,out,n,aA,nA,cA,aE,nE,cE,o⟩ x y z w hG hl
 ·have e:Sk.partsT.getD (10:Int).toNat 0=3:=rfl
  rw [e] at hn;have hn:a.length=3:=(by omega);obtain ⟨x,y,z,rfl⟩:=Sk.len3 hn;exact fits10_any ⟨10,k,out,n,aA,nA,cA,aE,nE,cE,o⟩ x y z w hG hl
 ·have e:Sk.partsT.getD (11:Int).toNat 0=1:=rfl
  rw [e] at hn;have hn:a.length=1:=(by omega);obtain ⟨x,rfl⟩:=Sk.len1 hn;exact fits11_any ⟨11,k,out,n,aA,nA,cA,aE,nE,cE,o⟩ x w hG hl (hb x (by simp)).1 (hb x (by simp)).2 ho.1 ho.2
 ·have e:Sk.partsT.getD (12:Int).toNat 0=2:=rfl
  rw [e] at hn;have hn:a.length=2:=(by omega);obtain ⟨x,y,rfl⟩:=Sk.len2 hn;exact fits12_any ⟨12,k,out,n,aA,nA,cA,aE,nE,cE,o⟩ x y w hG hl (hb x (by simp)).1 (hb x (by simp)).2 (hb y (by simp)).1 (hb y (by simp)).2
 ·have e:Sk.partsT.getD (13:Int).toNat 0=2:=rfl
  rw [e] at hn;have hn:a.length=2:=(by omega);obtain ⟨x,y,rfl⟩:=Sk.len2 hn;exact fits13_any ⟨13,k,out,n,aA,nA,cA,aE,nE,cE,o⟩ x y w hG hl
end Go.Proofs.YtoldepieaafakaaGreatDoor
namespace Go.Proofs.YtoldepieaafakaaGreatDoor
open Go.RowKit Go.IntWalk
def HBy (ok:Nat->Prop) (w:World) (v:Value) (L:List Int):Prop:=∃ C,Sl ok 1 w v L.length C/\∀ i (h:i<L.length),C i=[.int .u8 L[i]]
theorem HBy.keep {ok:Nat->Prop} {w w':World} {v:Value} {l:List Int} (h:HBy ok w v l) (h1:w.heap.size<=w'.heap.size) (h2:∀ i,ok i->i<w.heap.size->w'.heap[i]?=w.heap[i]?):HBy ok w' v l:=by
 obtain ⟨C,h3,h4⟩:=h;exact ⟨C,h3.keep h1 h2,h4⟩
theorem HBy.under {ok:Nat->Prop} {w w':World} {v:Value} {l:List Int} (h:HBy ok w v l) (b:Below w.heap.size w w'):HBy ok w' v l:=h.keep b.size fun i _ hl=>b.block i hl
theorem HBy.wide {ok ok':Nat->Prop} {w:World} {v:Value} {l:List Int} (h:HBy ok w v l) (hk:∀ i,ok i->i<w.heap.size->ok' i):HBy ok' w v l:=by
 obtain ⟨C,h3,h4⟩:=h;exact ⟨C,h3.wide hk,h4⟩
theorem HBy.at {ok:Nat->Prop} {w:World} {v:Value} {l:List Int} (h:HBy ok w v l) :
  ∃ ao cap,v=.slice ao l.length cap/\l.length<=cap/\cap<=maxLen/\∀ i (h:i<l.length),∃ b o,ao=some ⟨b,o,none⟩/\b<w.heap.size/\w.cell? ⟨b,o+i,none⟩=some (.int .u8 l[i]):=by
 obtain ⟨C,⟨ao,cap,hv,h1,h2,h3⟩,hC⟩:=h;refine ⟨ao,cap,hv,h1,h2,fun i hi=>?_⟩;obtain ⟨b,o,ha,hob,hb,hc⟩:=h3 (by omega);have hcc:=(hc i hi).2 0 (by decide);rw [hC i hi] at hcc;exact ⟨b,o,ha,hb,by simpa using hcc⟩
theorem HBy.hnil {ok:Nat->Prop} {w:World}:HBy ok w (.slice none 0 0) []:=⟨fun _=>[],⟨Option.none,0,rfl,Nat.le_refl _,Nat.zero_le _,fun h=>absurd h (Nat.lt_irrefl _)⟩,fun i h=>absurd h (Nat.not_lt_zero _)⟩
theorem HBy.lit {w:World} (l:List Int) (hl:l.length<=1000) (t:TypeId):HBy (fun i=>w.heap.size<=i) (w.alloc (.cells (l.map (Value.int .u8)).toArray t (0,0))) (.slice (some ⟨w.heap.size,0,none⟩) l.length l.length) l:=by
 have hn:=zH w (.cells (l.map (Value.int .u8)).toArray t (0,0));refine ⟨fun i=>[.int .u8 (l.getD i 0)],⟨_,_,rfl,Nat.le_refl _,by unfold maxLen;omega,fun _=>⟨w.heap.size,0,rfl,Nat.le_refl _,zG hn,fun i hi=>⟨rfl,fun j hj=>?_⟩⟩⟩,fun i hi=>?_⟩
 ·have e:j=0:=by omega
  subst e;rw [coQ hn];simp [hi]
 ·simp [hi]
namespace Sk
def choice (l:List Int):List Int × Int:=match l.getLast? with
 | none=>([],0)
 | some t=>([98,t,t],t)
end Sk
theorem vU {ok:Nat->Prop} {w:World} {v:Value} {l:List Int} (hl:HBy ok w v l) :
  Calls Tryz.prog 101 #[v] w fun r w'=>∃ u,r=.returned (.tuple #[u,.int .u8 (Sk.choice l).2])/\HBy (fun i=>w.heap.size<=i) w' u (Sk.choice l).1/\Below w.heap.size w w':=by
 obtain ⟨ao,cap,rfl,hc1,hc2,hat⟩:=hl.at;unfold maxLen at hc2;by_cases h0:l=[]
 ·subst h0
  clear hl hat;go_enter Tryz.func101,Tryz.ntmps101;go_wp2
  go_ret2
  exact ⟨_,rfl,HBy.hnil,Below.refl _ _⟩
 ·obtain ⟨m,hm⟩:∃ m,l.length=m+1:=⟨l.length-1,by have:=List.length_pos_iff.2 h0;omega⟩
  obtain ⟨b,o,rfl,hb,hcell⟩:=hat m (by omega);have hlast:l.getLast?=some (l[m]'(by omega)):=by
   rw [List.getLast?_eq_getElem?,show l.length-1=m by omega,List.getElem?_eq_getElem]
  obtain ⟨tp,htp⟩:=nmQ (l[m]'(by omega));rw [<-htp] at hcell hlast;have HC:=zD (show Sk.choice l=([98,tp,tp],tp) by unfold Sk.choice;rw [hlast]);rw [hm] at hc1 ⊢;clear hl hat hlast htp;have HM:=zD hm;clear hm h0;generalize Sk.choice l=R at HC ⊢;go_enter Tryz.func101,Tryz.ntmps101;go_wp2
  go_ret2
  rw [HC.out];exact ⟨_,rfl,HBy.lit [98,tp,tp] (by simp) _,(Below.refl _ _).alloc zL _⟩
end Go.Proofs.YtoldepieaafakaaGreatDoor
namespace Go.Proofs.YtoldepieaafakaaGreatDoor
open Go.RowKit Go.IntWalk
namespace Sk
def isNone (n:Nat) (x:Int):Bool:=decide (x<0) || decide ((n:Int)<=x)
def codeNum (n:Nat) (x:Int):Int:=if isNone n x=true then 16 else 0
def codeType (v:Vr):Int:=if v.elem≠105/\v.elem≠98 then 10 else if v.n<0\/300<v.n then 13 else 0
def madeNum (p:Pu):Int:=if p.k=0 then 105 else if p.k=1 then when (truth p.n) 98 else 0
def madeVar (p:Pu) (v:Vr) (cells:Int):Int:=if p.op=2 then when (!arr v) v.elem else when ((arr v&&decide (0<=p.n))&&decide (p.n<=v.n-cells)) v.elem
end Sk
structure LkV where
 aV:Option Addr
 nV:Nat
 cV:Nat
 aI:Option Addr
 nI:Nat
 cI:Nat
 aO:Option Addr
 nO:Nat
 cO:Nat
 aR:Option Addr
 nR:Nat
 cR:Nat
 g:Nat
def LkAt (w:World) (b:Nat) (x:LkV):Prop:=w.heap[b]?=some (.cells #[.slice x.aV x.nV x.cV,.slice x.aI x.nI x.cI,.slice x.aO x.nO x.cO,.slice x.aR x.nR x.cR,.slice (some ⟨x.g,0,none⟩) x.nV x.nV] 60 (0,0))
theorem LkAt.under {w w':World} {b:Nat} {x:LkV} (h:LkAt w b x) (a:Below w.heap.size w w'):LkAt w' b x:=(a.block _ (zG h)).trans h
theorem qJ {w:World} {b:Nat} {x:LkV} (h:LkAt w b x) (v:Int):Calls Tryz.prog 53 #[.pointer (some ⟨b,0,none⟩),.int .i64 v] w fun e w'=>e=.returned (.bool (Sk.isNone x.nV v))/\Below w.heap.size w w':=by
 unfold LkAt at h;have c0:=coQ h 0;simp at c0;have yb:=zG h;unfold Sk.isNone;by_cases h0:v<0
 ·go_enter Tryz.func53,Tryz.ntmps53
  go_wp2;go_ret;exact ⟨by simp [h0],Below.refl _ _⟩
 ·go_enter Tryz.func53,Tryz.ntmps53
  go_wp2
  all_goals go_ret
  all_goals refine ⟨?_,Below.refl _ _⟩
  all_goals clear h c0
  all_goals simp_all
  all_goals omega
theorem jR {w:World} {b:Nat} {x:LkV} (h:LkAt w b x) (v:Int):Calls Tryz.prog 36 #[.pointer (some ⟨b,0,none⟩),.int .i64 v] w fun e w'=>e=.returned (.int .i64 (Sk.codeNum x.nV v))/\Below w.heap.size w w':=by
 have hc:=qJ h v;unfold Sk.codeNum;generalize Sk.isNone x.nV v=q at hc;clear h;go_enter Tryz.func36,Tryz.ntmps36;go_wp2_with fail;refine hc.mono ?_;rintro e w1 ⟨rfl,b1⟩
 cases q
 ·go_wp2
  go_ret;exact ⟨rfl,b1⟩
 ·go_wp2
  go_ret;exact ⟨rfl,b1⟩
theorem zAY (v:Sk.Vr) (w:World):Calls Tryz.prog 29 #[vv v] w fun e w'=>e=.returned (.int .i64 (Sk.codeType v))/\Below w.heap.size w w':=by
 have bA:Below w.heap.size w (w.alloc (.cells #[.int .u8 v.elem,.int .i64 v.n] 42 (0,0))):=(Below.refl _ _).alloc zL _;unfold Sk.codeType;go_enter Tryz.func29,Tryz.ntmps29;go_wp2
 all_goals go_ret
 all_goals refine ⟨?_,(Below.refl _ _).alloc zL _⟩
 all_goals simp_all
 all_goals omega
theorem qU (n:Int) (w:World):Calls Tryz.prog 34 #[.int .i64 n] w fun e w'=>e=.returned (.int .i64 (-1))/\Below w.heap.size w w':=by
 go_enter Tryz.func34,Tryz.ntmps34;go_wp2;go_ret;exact ⟨rfl,Below.refl _ _⟩
theorem zAZ (n:Int) (w:World):Calls Tryz.prog 40 #[.int .i64 n] w fun e w'=>e=.returned (.int .i64 n)/\Below w.heap.size w w':=by
 go_enter Tryz.func40,Tryz.ntmps40;go_wp2;go_ret;exact ⟨rfl,Below.refl _ _⟩
theorem zAa (n:Nat) (h:n<=1000000) (w:World):Calls Tryz.prog 30 #[.int .i64 (n:Int)] w fun e w'=>e=.returned (.int .i64 (-2-(n:Int)))/\Below w.heap.size w w':=by
 go_enter Tryz.func30,Tryz.ntmps30;go_wp2;go_ret;exact ⟨rfl,Below.refl _ _⟩
end Go.Proofs.YtoldepieaafakaaGreatDoor
