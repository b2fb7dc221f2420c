import Derived.Test.YtfhghlpfeeiaeaaGreatDoorX10
import Derived.Test.YtfhghlpfeeiaeaaGreatDoorX08
import Derived.Test.YtfhghlpfeeiaeaaGreatDoorX07
import Derived.Deep.Cut
import Derived.Deep.LoopGhost
import Derived.IntWalk
import Derived.Laws.Cover1
import Derived.Lib.Hide
import Derived.WalkKit
import Derived.WalkSpells
set_option linter.unusedVariables false
set_option linter.unusedSimpArgs false
set_option maxHeartbeats 64000000
set_option maxRecDepth 100000
namespace Go.Proofs.YtfhghlpfeeiaeaaGreatDoor
open Go.RowKit Go.IntWalk
namespace Sk
def nt (a:List Vr) (i:Nat):Vr:=a.getD i (sc 0)
def fits (op k n:Int) (o:Vr) (a:List Vr):Bool :=
 if op=1 then same o (sc 105) || (same o (sc 98)&&truth n)
 else if op=2 then same o (nt a 0)
 else if op=3\/op=4 then operates k o a
 else if op=5 then (same (nt a 0) (sc 98)&&same (nt a 1) (nt a 2))&&same o (nt a 1)
 else if op=6 then goesOver k (nt a 0) (nt a 1)&&same o (nt a 0)
 else if op=7 then goesOver k (nt a 0) (nt a 1)&&same o (nt a 1)
 else if op=8 then arrOf o (nt a 0)
 else if op=9 then hasPlace (nt a 0) (nt a 1) (nt a 2)&&same o (nt a 2)
 else if op=10 then hasPlace (nt a 0) (nt a 1) (nt a 2)&&same o (nt a 0)
 else if op=11 then ((arr (nt a 0)&&arrOf o (sc (nt a 0).elem))&&decide (0<=n))&&decide (n<=(nt a 0).n-o.n)
 else if op=12 then (arr (nt a 0)&&arrOf (nt a 1) (sc (nt a 0).elem))&&same o ⟨(nt a 0).elem,(nt a 0).n+(nt a 1).n⟩
 else same (nt a 0) (nt a 1)&&same o (nt a 0)
theorem len0 {a:List Vr} (h:a.length=0):a=[]:=List.length_eq_zero_iff.1 h
theorem len1 {a:List Vr} (h:a.length=1):∃ x,a=[x]:=by
 match a,h with
 | [x],_=>exact ⟨x,rfl⟩
theorem len2 {a:List Vr} (h:a.length=2):∃ x y,a=[x,y]:=by
 match a,h with
 | [x,y],_=>exact ⟨x,y,rfl⟩
theorem len3 {a:List Vr} (h:a.length=3):∃ x y z,a=[x,y,z]:=by
 match a,h with
 | [x,y,z],_=>exact ⟨x,y,z,rfl⟩
end Sk
theorem fits_any {ok:Nat->Prop} (t:TRv) {aa:Option Addr} {na ca:Nat} (a:List Sk.Vr) (w:World) (hG:GlobK w) (hl:HVars ok w (.slice aa na ca) a) (h1:1<=t.op) (h2:t.op<=13) (hn:(a.length:Int)=Sk.partsT.getD t.op.toNat 0)
  (hb:∀ v ∈ a,0<=v.n/\v.n<=300) (ho:0<=t.o.n/\t.o.n<=300):Calls Tryz.prog 83 #[tv t aa na ca] w fun e w'=>e=.returned (.bool (Sk.fits t.op t.k t.n t.o a))/\Below w.heap.size w w':=by
 obtain ⟨op,k,out,n,aA,nA,cA,aE,nE,cE,o⟩:=t
 dsimp only at h1 h2 hn ho
 have hc:op=1\/op=2\/op=3\/op=4\/op=5\/op=6\/op=7\/op=8\/op=9\/op=10\/op=11\/op=12\/op=13:=(by omega);rcases hc with rfl | rfl | rfl | rfl | rfl | rfl | rfl | rfl | rfl | rfl | rfl | rfl | rfl
 ·have e:Sk.partsT.getD (1:Int).toNat 0=0:=rfl
  rw [e] at hn;have hn:a.length=0:=(by omega);obtain rfl:=Sk.len0 hn;exact fits1_any ⟨1,k,out,n,aA,nA,cA,aE,nE,cE,o⟩ w hG
 ·have e:Sk.partsT.getD (2:Int).toNat 0=1:=rfl
  rw [e] at hn;have hn:a.length=1:=(by omega);obtain ⟨x,rfl⟩:=Sk.len1 hn;exact fits2_any ⟨2,k,out,n,aA,nA,cA,aE,nE,cE,o⟩ x w hG hl
 ·have e:Sk.partsT.getD (3:Int).toNat 0=1:=rfl
  rw [e] at hn;have hn:a.length=1:=(by omega);obtain ⟨x,rfl⟩:=Sk.len1 hn;exact fits3_any ⟨3,k,out,n,aA,nA,cA,aE,nE,cE,o⟩ x [] w hG hl
 ·have e:Sk.partsT.getD (4:Int).toNat 0=2:=rfl
  rw [e] at hn;have hn:a.length=2:=(by omega);obtain ⟨x,y,rfl⟩:=Sk.len2 hn;exact fits4_any ⟨4,k,out,n,aA,nA,cA,aE,nE,cE,o⟩ x [y] w hG hl
 ·have e:Sk.partsT.getD (5:Int).toNat 0=3:=rfl
  rw [e] at hn;have hn:a.length=3:=(by omega);obtain ⟨x,y,z,rfl⟩:=Sk.len3 hn;exact fits5_any ⟨5,k,out,n,aA,nA,cA,aE,nE,cE,o⟩ x y z w hG hl
 ·have e:Sk.partsT.getD (6:Int).toNat 0=2:=rfl
  rw [e] at hn;have hn:a.length=2:=(by omega);obtain ⟨x,y,rfl⟩:=Sk.len2 hn;exact fits6_any ⟨6,k,out,n,aA,nA,cA,aE,nE,cE,o⟩ x y w hG hl
 ·have e:Sk.partsT.getD (7:Int).toNat 0=2:=rfl
  rw [e] at hn;have hn:a.length=2:=(by omega);obtain ⟨x,y,rfl⟩:=Sk.len2 hn;exact fits7_any ⟨7,k,out,n,aA,nA,cA,aE,nE,cE,o⟩ x y w hG hl
 ·have e:Sk.partsT.getD (8:Int).toNat 0=1:=rfl
  rw [e] at hn;have hn:a.length=1:=(by omega);obtain ⟨x,rfl⟩:=Sk.len1 hn;exact fits8_any ⟨8,k,out,n,aA,nA,cA,aE,nE,cE,o⟩ x w hG hl
 ·have e:Sk.partsT.getD (9:Int).toNat 0=3:=rfl
  rw [e] at hn;have hn:a.length=3:=(by omega);obtain ⟨x,y,z,rfl⟩:=Sk.len3 hn;exact fits9_any ⟨9,k,out,n,aA,nA,cA,aE,nE,cE,o⟩ x y z w hG hl
 ·have e:Sk.partsT.getD (10:Int).toNat 0=3:=rfl
  rw [e] at hn;have hn:a.length=3:=(by omega);obtain ⟨x,y,z,rfl⟩:=Sk.len3 hn;exact fits10_any ⟨10,k,out,n,aA,nA,cA,aE,nE,cE,o⟩ x y z w hG hl
 ·have e:Sk.partsT.getD (11:Int).toNat 0=1:=rfl
  rw [e] at hn;have hn:a.length=1:=(by omega);obtain ⟨x,rfl⟩:=Sk.len1 hn;exact fits11_any ⟨11,k,out,n,aA,nA,cA,aE,nE,cE,o⟩ x w hG hl (hb x (by simp)).1 (hb x (by simp)).2 ho.1 ho.2
 ·have e:Sk.partsT.getD (12:Int).toNat 0=2:=rfl
  rw [e] at hn;have hn:a.length=2:=(by omega);obtain ⟨x,y,rfl⟩:=Sk.len2 hn;exact fits12_any ⟨12,k,out,n,aA,nA,cA,aE,nE,cE,o⟩ x y w hG hl (hb x (by simp)).1 (hb x (by simp)).2 (hb y (by simp)).1 (hb y (by simp)).2
 ·have e:Sk.partsT.getD (13:Int).toNat 0=2:=rfl
  rw [e] at hn;have hn:a.length=2:=(by omega);obtain ⟨x,y,rfl⟩:=Sk.len2 hn;exact fits13_any ⟨13,k,out,n,aA,nA,cA,aE,nE,cE,o⟩ x y w hG hl
end Go.Proofs.YtfhghlpfeeiaeaaGreatDoor
namespace Go.Proofs.YtfhghlpfeeiaeaaGreatDoor
open Go.RowKit Go.IntWalk
def HBy (ok:Nat->Prop) (w:World) (v:Value) (L:List Int):Prop:=∃ C,Sl ok 1 w v L.length C/\∀ i (h:i<L.length),C i=[.int .u8 L[i]]
theorem HBy.keep {ok:Nat->Prop} {w w':World} {v:Value} {l:List Int} (h:HBy ok w v l) (h1:w.heap.size<=w'.heap.size) (h2:∀ i,ok i->i<w.heap.size->w'.heap[i]?=w.heap[i]?):HBy ok w' v l:=by
 obtain ⟨C,h3,h4⟩:=h;exact ⟨C,h3.keep h1 h2,h4⟩
theorem HBy.under {ok:Nat->Prop} {w w':World} {v:Value} {l:List Int} (h:HBy ok w v l) (b:Below w.heap.size w w'):HBy ok w' v l:=h.keep b.size fun i _ hl=>b.block i hl
theorem HBy.wide {ok ok':Nat->Prop} {w:World} {v:Value} {l:List Int} (h:HBy ok w v l) (hk:∀ i,ok i->i<w.heap.size->ok' i):HBy ok' w v l:=by
 obtain ⟨C,h3,h4⟩:=h;exact ⟨C,h3.wide hk,h4⟩
theorem HBy.at {ok:Nat->Prop} {w:World} {v:Value} {l:List Int} (h:HBy ok w v l) :
  ∃ ao cap,v=.slice ao l.length cap/\l.length<=cap/\cap<=maxLen/\∀ i (h:i<l.length),∃ b o,ao=some ⟨b,o,none⟩/\b<w.heap.size/\w.cell? ⟨b,o+i,none⟩=some (.int .u8 l[i]):=by
 obtain ⟨C,⟨ao,cap,hv,h1,h2,h3⟩,hC⟩:=h;refine ⟨ao,cap,hv,h1,h2,fun i hi=>?_⟩;obtain ⟨b,o,ha,gG,hb,hc⟩:=h3 (by omega);have eh:=(hc i hi).2 0 (by decide);rw [hC i hi] at eh;exact ⟨b,o,ha,hb,by simpa using eh⟩
theorem HBy.hnil {ok:Nat->Prop} {w:World}:HBy ok w (.slice none 0 0) []:=⟨fun _=>[],⟨Option.none,0,rfl,Nat.le_refl _,Nat.zero_le _,fun h=>absurd h (Nat.lt_irrefl _)⟩,fun i h=>absurd h (Nat.not_lt_zero _)⟩
theorem HBy.lit {w:World} (l:List Int) (hl:l.length<=1000) (t:TypeId):HBy (fun i=>w.heap.size<=i) (w.alloc (.cells (l.map (Value.int .u8)).toArray t (0,0))) (.slice (some ⟨w.heap.size,0,none⟩) l.length l.length) l:=by
 have hn:=zBO w (.cells (l.map (Value.int .u8)).toArray t (0,0));refine ⟨fun i=>[.int .u8 (l.getD i 0)],⟨_,_,rfl,Nat.le_refl _,by unfold maxLen;omega,fun _=>⟨w.heap.size,0,rfl,Nat.le_refl _,zBM hn,fun i hi=>⟨rfl,fun j hj=>?_⟩⟩⟩,fun i hi=>?_⟩
 ·have e:j=0:=by omega
  subst e;rw [coQ hn];simp [hi]
 ·simp [hi]
namespace Sk
def choice (l:List Int):List Int × Int:=match l.getLast? with
 | none=>([],0)
 | some t=>([98,t,t],t)
end Sk
theorem zCh {ok:Nat->Prop} {w:World} {v:Value} {l:List Int} (hl:HBy ok w v l) :
  Calls Tryz.prog 120 #[v] w fun r w'=>∃ u,r=.returned (.tuple #[u,.int .u8 (Sk.choice l).2])/\HBy (fun i=>w.heap.size<=i) w' u (Sk.choice l).1/\Below w.heap.size w w':=by
 obtain ⟨ao,cap,rfl,bH,cG,bo⟩:=hl.at;unfold maxLen at cG;by_cases h0:l=[]
 ·subst h0
  clear hl bo;go_enter Tryz.func120,Tryz.ntmps120;go_wp2
  go_ret2
  exact ⟨_,rfl,HBy.hnil,Below.refl _ _⟩
 ·obtain ⟨m,hm⟩:∃ m,l.length=m+1:=⟨l.length-1,by have:=List.length_pos_iff.2 h0;omega⟩
  obtain ⟨b,o,rfl,hb,ct⟩:=bo m (by omega);have qh:l.getLast?=some (l[m]'(by omega)):=by
   rw [List.getLast?_eq_getElem?,show l.length-1=m by omega,List.getElem?_eq_getElem]
  obtain ⟨tp,LS⟩:=nmQ (l[m]'(by omega));rw [<-LS] at ct qh;have HC:=zBK (show Sk.choice l=([98,tp,tp],tp) by unfold Sk.choice;rw [qh]);rw [hm] at bH ⊢;clear hl bo qh LS;have HM:=zBK hm;clear hm h0;generalize Sk.choice l=R at HC ⊢;go_enter Tryz.func120,Tryz.ntmps120;go_wp2
  go_ret2
  rw [HC.out];exact ⟨_,rfl,HBy.lit [98,tp,tp] (by simp) _,(Below.refl _ _).alloc zBR _⟩
end Go.Proofs.YtfhghlpfeeiaeaaGreatDoor
namespace Go.Proofs.YtfhghlpfeeiaeaaGreatDoor
open Go.RowKit Go.IntWalk
namespace Sk
def isNone (n:Nat) (x:Int):Bool:=decide (x<0) || decide ((n:Int)<=x)
def codeNum (n:Nat) (x:Int):Int:=if isNone n x=true then 16 else 0
def codeType (v:Vr):Int:=if v.elem≠105/\v.elem≠98 then 10 else if v.n<0\/300<v.n then 13 else 0
def madeNum (p:Pu):Int:=if p.k=0 then 105 else if p.k=1 then when (truth p.n) 98 else 0
def madeVar (p:Pu) (v:Vr) (cells:Int):Int:=if p.op=2 then when (!arr v) v.elem else when ((arr v&&decide (0<=p.n))&&decide (p.n<=v.n-cells)) v.elem
end Sk
structure LkV where
 aV:Option Addr
 nV:Nat
 cV:Nat
 aI:Option Addr
 nI:Nat
 cI:Nat
 aO:Option Addr
 nO:Nat
 cO:Nat
 aR:Option Addr
 nR:Nat
 cR:Nat
 g:Nat
def LkAt (w:World) (b:Nat) (x:LkV):Prop:=w.heap[b]?=some (.cells #[.slice x.aV x.nV x.cV,.slice x.aI x.nI x.cI,.slice x.aO x.nO x.cO,.slice x.aR x.nR x.cR,.slice (some ⟨x.g,0,none⟩) x.nV x.nV] 79 (0,0))
theorem LkAt.under {w w':World} {b:Nat} {x:LkV} (h:LkAt w b x) (a:Below w.heap.size w w'):LkAt w' b x:=(a.block _ (zBM h)).trans h
theorem zCK {w:World} {b:Nat} {x:LkV} (h:LkAt w b x) (v:Int):Calls Tryz.prog 67 #[.pointer (some ⟨b,0,none⟩),.int .i64 v] w fun e w'=>e=.returned (.bool (Sk.isNone x.nV v))/\Below w.heap.size w w':=by
 unfold LkAt at h;have c0:=coQ h 0;simp at c0;have yb:=zBM h;unfold Sk.isNone;by_cases h0:v<0
 ·go_enter Tryz.func67,Tryz.ntmps67
  go_wp2;go_ret;exact ⟨by simp [h0],Below.refl _ _⟩
 ·go_enter Tryz.func67,Tryz.ntmps67
  go_wp2
  all_goals go_ret
  all_goals refine ⟨?_,Below.refl _ _⟩
  all_goals clear h c0
  all_goals simp_all
  all_goals omega
theorem zAE {w:World} {b:Nat} {x:LkV} (h:LkAt w b x) (v:Int):Calls Tryz.prog 49 #[.pointer (some ⟨b,0,none⟩),.int .i64 v] w fun e w'=>e=.returned (.int .i64 (Sk.codeNum x.nV v))/\Below w.heap.size w w':=by
 have hc:=zCK h v;unfold Sk.codeNum;generalize Sk.isNone x.nV v=q at hc;clear h;go_enter Tryz.func49,Tryz.ntmps49;go_wp2_with fail;refine hc.mono ?_;rintro e w1 ⟨rfl,b1⟩
 cases q
 ·go_wp2
  go_ret;exact ⟨rfl,b1⟩
 ·go_wp2
  go_ret;exact ⟨rfl,b1⟩
theorem zAx (v:Sk.Vr) (w:World):Calls Tryz.prog 42 #[vv v] w fun e w'=>e=.returned (.int .i64 (Sk.codeType v))/\Below w.heap.size w w':=by
 have bA:Below w.heap.size w (w.alloc (.cells #[.int .u8 v.elem,.int .i64 v.n] 39 (0,0))):=(Below.refl _ _).alloc zBR _;unfold Sk.codeType;go_enter Tryz.func42,Tryz.ntmps42;go_wp2
 all_goals go_ret
 all_goals refine ⟨?_,(Below.refl _ _).alloc zBR _⟩
 all_goals simp_all
 all_goals omega
theorem zCT (n:Int) (w:World):Calls Tryz.prog 47 #[.int .i64 n] w fun e w'=>e=.returned (.int .i64 (-1))/\Below w.heap.size w w':=by
 go_enter Tryz.func47,Tryz.ntmps47;go_wp2;go_ret;exact ⟨rfl,Below.refl _ _⟩
theorem zAy (n:Int) (w:World):Calls Tryz.prog 53 #[.int .i64 n] w fun e w'=>e=.returned (.int .i64 n)/\Below w.heap.size w w':=by
 go_enter Tryz.func53,Tryz.ntmps53;go_wp2;go_ret;exact ⟨rfl,Below.refl _ _⟩
theorem zAz (n:Nat) (h:n<=1000000) (w:World):Calls Tryz.prog 43 #[.int .i64 (n:Int)] w fun e w'=>e=.returned (.int .i64 (-2-(n:Int)))/\Below w.heap.size w w':=by
 go_enter Tryz.func43,Tryz.ntmps43;go_wp2;go_ret;exact ⟨rfl,Below.refl _ _⟩
end Go.Proofs.YtfhghlpfeeiaeaaGreatDoor
namespace Go.Proofs.YtfhghlpfeeiaeaaGreatDoor
open Go.RowKit Go.IntWalk
namespace Sk
def firstV:Nat->List Vr->Int × Int
 | _,[]=>(0,0)
 | i,v :: r=>if codeType v≠0 then (codeType v,-2-(i:Int)) else firstV (i+1) r
end Sk
theorem zAT {ok:Nat->Prop} {w:World} {v:Value} {l:List Sk.Vr} (hl:HVars ok w v l) (hlen:l.length<=1000000) :
  Calls Tryz.prog 41 #[v,.func (.func 42) #[] #[],.func (.func 43) #[] #[]] w fun r w'=>r=.returned (.agg #[.int .i64 (Sk.firstV 0 l).1,.int .i64 (Sk.firstV 0 l).2])/\Below w.heap.size w w':=by
 obtain ⟨ao,cap,rfl,bH,cG,_⟩:=hl.at;unfold maxLen at cG;obtain ⟨R,hR⟩:=nmQ (Sk.firstV 0 l);rw [<-hR];have HR:=zBK (show R=Sk.firstV 0 (l.drop 0) by rw [List.drop_zero];exact hR);clear hR;have b0:Below w.heap.size w (w.alloc (.cells #[.int .i64 0,.int .i64 0] 32 (0,0))):=(Below.refl _ _).alloc zBR _;have k0:=zBO w (.cells #[.int .i64 0,.int .i64 0] 32 (0,0));have HL:=zBK hl;clear hl;obtain ⟨n,hn⟩:=nmQ (l.length);rw [<-hn] at bH hlen ⊢;have HN:=zBK hn;clear hn;go_enter Tryz.func41,Tryz.ntmps41;go_upto_region 1 with fail;generalize w.alloc (.cells #[.int .i64 0,.int .i64 0] 32 (0,0))=w0 at b0 k0 ⊢;go_wp2_with fail;go_loopg [12] n (fun k v wr=>∃ i,i<=n/\k=n-i/\v=.int .i64 (i:Nat)/\Hid (R=Sk.firstV i (l.drop i))/\Below w.heap.size w wr/\wr.heap[w.heap.size]?=some (.cells #[.int .i64 0,.int .i64 0] 32 (0,0)))
 case atStart=>exact ⟨0,Nat.zero_le _,rfl,rfl,HR,b0,k0⟩
 case round=>
  clear b0 k0 HR;obtain ⟨i,hi,rfl,rfl,H,aH,kr⟩:=hrel;by_cases bd:i<n
  case neg=>
   have bp:i=n:=(by omega);subst bp;have e1:l.drop i=[]:=List.drop_of_length_le (by have:=HN.out;omega);have hz:R=(0,0):=(by rw [H.out,e1];rfl);have HZ:=zBK hz;clear hz e1;have cJ:=coQ kr 0;have cW:=coQ kr 1;have eO:=foQ kr 0;have fl:=foQ kr 1;simp at cJ cW;have KR:=zBQ (zBQ kr 0 (.int .i64 0)) 1 (.int .i64 0);have r0:=coQ KR 0;have r1:=coQ KR 1;simp at r0 r1;have BR:=(aH.setCell (p:=⟨w.heap.size,0,none⟩) zBR (.int .i64 0)).setCell (p:=⟨w.heap.size,1,none⟩) zBR (.int .i64 0);clear KR;go_wp2;exact bodyPost_ret (v:=.agg #[.int .i64 0,.int .i64 0]) (by simp [results,Tryz.results41,go_sem,r0,r1]) rfl ⟨by rw [HZ.out],BR⟩
  case pos=>
   have dj:i<l.length:=(by have:=HN.out;omega);have hdr:l.drop i=l[i] :: l.drop (i+1):=List.drop_eq_getElem_cons dj;have bY:=H.out;rw [hdr] at bY;obtain ⟨gw,dk,eqs,_,_,bg⟩:=(HL.out.under aH).at;injection eqs with q1 q2 q3;subst q1;obtain ⟨b,o,rfl,hb,e0,e1⟩:=bg i dj;obtain ⟨y,hy⟩:=nmQ (l[i]);rw [<-hy] at e0 e1 bY;unfold Sk.firstV at bY;have hc:=zAx y;have bA:Below wr.heap.size wr (wr.alloc (.cells #[.int .u8 y.elem,.int .i64 y.n] 39 (0,0))):=(Below.refl _ _).alloc zBR _;have BA:=aH.trans (bA.mono aH.size);have kA:=(bA.block _ (zBM kr)).trans kr;generalize Sk.codeType y=cd at hc bY;have cq:=zBK bY;clear bg q2 q3 hy hdr bY H;go_upto_region 4 with fail;have kV:=zBO wr (.cells #[.int .u8 y.elem,.int .i64 y.n] 39 (0,0));generalize wr.alloc (.cells #[.int .u8 y.elem,.int .i64 y.n] 39 (0,0))=wa at bA BA kA kV ⊢;have v0:=coQ kV 0;have v1:=coQ kV 1;simp at v0 v1;go_wp2_with fail;refine (hc wa).mono ?_;rintro e w4 ⟨rfl,b4⟩;have B4:=BA.trans (b4.mono BA.size);have k4:=(b4.block _ (zBM kA)).trans kA;clear hc v0 v1 kV;by_cases hz:cd=0
   case pos=>
    have dZ:(cd != 0)=false:=(by simp [hz]);have HZ:Hid (R=Sk.firstV (i+1) (l.drop (i+1))):=zBK (by rw [cq.out,if_neg (by simp [hz])]);clear cq hz;go_wp2_with fail;go_roundg (n-(i+1))
    case measure=>omega
    case rel=>exact ⟨i+1,by omega,rfl,by go_num,HZ,B4,k4⟩
   case neg=>
    have dZ:(cd != 0)=true:=(by simp [hz]);have HZ:Hid (R=(cd,-2-(i:Int))):=zBK (by rw [cq.out,if_pos hz]);clear cq hz;go_wp2_with fail;refine (zAz i (by omega) w4).mono ?_;rintro e w5 ⟨rfl,b5⟩;have B5:=B4.trans (b5.mono B4.size);have k5:=(b5.block _ (zBM k4)).trans k4;have cJ:=coQ k5 0;have cW:=coQ k5 1;have eO:=foQ k5 0;have fl:=foQ k5 1;simp at cJ cW;have KR:=zBQ (zBQ k5 0 (.int .i64 cd)) 1 (.int .i64 (-2-(i:Int)));have r0:=coQ KR 0;have r1:=coQ KR 1;simp at r0 r1;have BR:=(B5.setCell (p:=⟨w.heap.size,0,none⟩) zBR (.int .i64 cd)).setCell (p:=⟨w.heap.size,1,none⟩) zBR (.int .i64 (-2-(i:Int)));clear KR;go_wp2;exact bodyPost_ret (v:=.agg #[.int .i64 cd,.int .i64 (-2-(i:Int))]) (by simp [results,Tryz.results41,go_sem,r0,r1]) rfl ⟨by rw [HZ.out],BR⟩
end Go.Proofs.YtfhghlpfeeiaeaaGreatDoor
namespace Go.Proofs.YtfhghlpfeeiaeaaGreatDoor
open Go.RowKit Go.IntWalk
def Md (w:World) (g:Nat) (m:List Bool):Prop:=w.heap[g]?=some (.cells (m.map Value.bool).toArray 4 (0,0))
theorem Md.under {w w':World} {g:Nat} {m:List Bool} (h:Md w g m) (a:Below w.heap.size w w'):Md w' g m:=(a.block _ (zBM h)).trans h
theorem Md.cell {w:World} {g:Nat} {m:List Bool} (h:Md w g m) {i:Nat} (hi:i<m.length):w.cell? ⟨g,i,none⟩=some (.bool m[i]):=by
 have:=coQ h i;rw [this];simp [hi]
theorem Md.put {w:World} {g:Nat} {m:List Bool} (h:Md w g m) {i:Nat} (hi:i<m.length) (q:Bool):Md (w.setCell ⟨g,i,none⟩ (.bool q)) g (m.set i q):=by
 have:=zBQ h i (.bool q);unfold Md;rw [this]
 congr 2
 apply Array.ext_getElem?
 intro k;by_cases hk:k=i
 ·subst hk
  simp [hi]
 ·simp [Array.getElem?_setIfInBounds,List.getElem?_set,Ne.symm hk]
namespace Sk
def unmade (m:List Bool) (v:Nat):Int:=if m.getD v false=true then 0 else 9
def given (m:List Bool) (v:Int):Int × List Bool:=if isNone m.length v=true then (16,m) else if m.getD v.toNat false=true then (8,m) else (0,m.set v.toNat true)
end Sk
theorem zCO {w:World} {b:Nat} {x:LkV} {m:List Bool} (h:LkAt w b x) (hm:Md w x.g m) (hn:x.nV=m.length) (v:Nat) (hv:v<m.length) (hmx:m.length<=1000000) :
  Calls Tryz.prog 57 #[.pointer (some ⟨b,0,none⟩),.int .i64 (v:Int)] w fun e w'=>e=.returned (.int .i64 (Sk.unmade m v))/\Below w.heap.size w w':=by
 unfold LkAt at h;have c4:=coQ h 4;simp at c4;have yb:=zBM h;have yg:=zBM hm;have cv:=hm.cell hv;have dh:v<x.nV:=(by omega);obtain ⟨R,hR⟩:=nmQ (Sk.unmade m v);rw [<-hR];unfold Sk.unmade at hR;rw [List.getD_eq_getElem?_getD,List.getElem?_eq_getElem hv,Option.getD_some] at hR;generalize m[v]=q at cv hR;have HR:=zBK hR;clear hR h hm hn hv hmx
 cases q
 ·go_enter Tryz.func57,Tryz.ntmps57
  go_wp2;go_ret;exact ⟨by rw [HR.out];rfl,Below.refl _ _⟩
 ·go_enter Tryz.func57,Tryz.ntmps57
  go_wp2;go_ret;exact ⟨by rw [HR.out];rfl,Below.refl _ _⟩
theorem zAU {w:World} {b:Nat} {x:LkV} {m:List Bool} (h:LkAt w b x) (hm:Md w x.g m) (hn:x.nV=m.length) (gx:b≠x.g) (v:Int) :
  Calls Tryz.prog 46 #[.pointer (some ⟨b,0,none⟩),.int .i64 v] w fun e w'=>e=.returned (.int .i64 (Sk.given m v).1)/\LkAt w' b x/\Md w' x.g (Sk.given m v).2/\Aside [x.g] w.heap.size w w':=by
 have hc:=zCK h v;rw [hn] at hc;obtain ⟨R,hR⟩:=nmQ (Sk.given m v);rw [<-hR];unfold Sk.given at hR;by_cases hq:Sk.isNone m.length v=true
 ·rw [hq] at hc
  rw [if_pos hq] at hR;have HR:=zBK hR;have HH:=zBK h;have HM:=zBK hm;clear hR h hm hq hn;go_enter Tryz.func46,Tryz.ntmps46;go_wp2_with fail;refine hc.mono ?_;rintro e w1 ⟨rfl,b1⟩;go_wp2;go_ret;exact ⟨by rw [HR.out];rfl,HH.out.under b1,by rw [HR.out];exact HM.out.under b1,aside b1⟩
 ·have aY:Sk.isNone m.length v=false:=by simpa using hq
  rw [aY] at hc;rw [if_neg hq] at hR;have jg:0<=v/\v<m.length:=by
   unfold Sk.isNone at aY;simp at aY;omega
  obtain ⟨i,rfl⟩:∃ i:Nat,v=(i:Int):=⟨v.toNat,by omega⟩;have hi:i<m.length:=(by omega);have bp:i<x.nV:=(by omega);rw [Int.toNat_natCast,List.getD_eq_getElem?_getD,List.getElem?_eq_getElem hi,Option.getD_some] at hR;obtain ⟨q,je⟩:=nmQ (m[i]);rw [<-je] at hR;have HR:=zBK hR;have HH:=zBK h;have HM:=zBK hm;have HQ:=zBK je;have HI:=zBK (show i<m.length from hi);have HB:=zBK gx;clear hR h hm hq je jg aY hn gx;go_enter Tryz.func46,Tryz.ntmps46;go_wp2_with fail;refine hc.mono ?_;rintro e w1 ⟨rfl,b1⟩;have h1:=HH.out.under b1;unfold LkAt at h1;have c4:=coQ h1 4;simp at c4;have yb:=zBM h1;have m1:=HM.out.under b1;have yg:=zBM m1;have cv:=m1.cell HI.out;rw [<-HQ.out] at cv;have fr:=foQ m1 i;have Jf:=zBK m1;have I7:=zBK (HH.out.under b1);clear h1 m1 hc
  cases q
  ·go_wp2
   go_ret;refine ⟨by rw [HR.out];rfl,?_,?_,(aside b1).trans (Aside.setCell (S:=[x.g]) (B:=w1.heap.size) (p:=⟨x.g,i,none⟩) (by simp) _) b1.size⟩
   ·exact zBT I7.out (fun e=>HB.out e.symm) _
   ·rw [HR.out]
    exact Jf.out.put HI.out true
  ·go_wp2
   go_ret;exact ⟨by rw [HR.out];rfl,I7.out,by rw [HR.out];exact Jf.out,aside b1⟩
end Go.Proofs.YtfhghlpfeeiaeaaGreatDoor
