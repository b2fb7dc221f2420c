import Derived.Test.YtnhmcpnbaajjcaaGreatDoorC15
import Derived.Lib.MakeNoZero
set_option linter.unusedVariables false
set_option linter.unusedSimpArgs false
set_option maxHeartbeats 64000000
set_option maxRecDepth 100000
namespace Go.Proofs.YtnhmcpnbaajjcaaGreatDoor
open Go.RowKit Go.IntWalk
namespace Sk
structure Ru where
 op:Int
 k:Int
 out:Int
 n:Int
 A:List Int
 E:List Pu
end Sk
structure RuV where
 aA:Option Addr
 nA:Nat
 cA:Nat
 aE:Option Addr
 nE:Nat
 cE:Nat
def rcs (r:Sk.Ru) (y:RuV):List Value:=[.int .i64 r.op,.int .i64 r.k,.int .i64 r.out,.int .i64 r.n,.slice y.aA y.nA y.cA,.slice y.aE y.nE y.cE]
theorem HPu.wide {ok ok':Nat→Prop} {w:World} {v:Value} {l:List Pu} (h:HPu ok w v l) (hk:∀ i,ok i→i<w.heap.size→ok' i):HPu ok' w v l:=by
 obtain ⟨C,h3,h4⟩:=h;exact ⟨C,h3.wide hk,h4⟩
structure HRu (ok:Nat→Prop) (w:World) (y:RuV) (r:Sk.Ru):Prop where
 A:HInts ok w (.slice y.aA y.nA y.cA) r.A
 E:HPu ok w (.slice y.aE y.nE y.cE) r.E
theorem HRu.keep {ok:Nat→Prop} {w w':World} {y:RuV} {r:Sk.Ru} (h:HRu ok w y r) (h1:w.heap.size≤w'.heap.size) (h2:∀ i,ok i→i<w.heap.size→w'.heap[i]?=w.heap[i]?):HRu ok w' y r:=⟨h.A.keep h1 h2,h.E.keep h1 h2⟩
theorem HRu.under {ok:Nat→Prop} {w w':World} {y:RuV} {r:Sk.Ru} (h:HRu ok w y r) (b:Below w.heap.size w w'):HRu ok w' y r:=h.keep b.size fun i _ hl=>b.block i hl
theorem HRu.wide {ok ok':Nat→Prop} {w:World} {y:RuV} {r:Sk.Ru} (h:HRu ok w y r) (hk:∀ i,ok i→i<w.heap.size→ok' i):HRu ok' w y r:=⟨h.A.wide hk,h.E.wide hk⟩
def HRus (ok:Nat→Prop) (w:World) (v:Value) (l:List Sk.Ru):Prop:=∃ C,Sl ok 6 w v l.length C∧∀ i (h:i<l.length),∃ y,C i=rcs l[i] y∧HRu ok w y l[i]
theorem HRus.keep {ok:Nat→Prop} {w w':World} {v:Value} {l:List Sk.Ru} (h:HRus ok w v l) (h1:w.heap.size≤w'.heap.size) (h2:∀ i,ok i→i<w.heap.size→w'.heap[i]?=w.heap[i]?):HRus ok w' v l:=by
 obtain ⟨C,h3,h4⟩:=h;refine ⟨C,h3.keep h1 h2,fun i hi=>?_⟩;obtain ⟨y,e,hy⟩:=h4 i hi;exact ⟨y,e,hy.keep h1 h2⟩
theorem HRus.under {ok:Nat→Prop} {w w':World} {v:Value} {l:List Sk.Ru} (h:HRus ok w v l) (b:Below w.heap.size w w'):HRus ok w' v l:=h.keep b.size fun i _ hl=>b.block i hl
theorem HRus.wide {ok ok':Nat→Prop} {w:World} {v:Value} {l:List Sk.Ru} (h:HRus ok w v l) (hk:∀ i,ok i→i<w.heap.size→ok' i):HRus ok' w v l:=by
 obtain ⟨C,h3,h4⟩:=h;refine ⟨C,h3.wide hk,fun i hi=>?_⟩;obtain ⟨y,e,hy⟩:=h4 i hi;exact ⟨y,e,hy.wide hk⟩
def RuAt (w:World) (b o:Nat) (r:Sk.Ru) (y:RuV):Prop :=
 w.cell? ⟨b,o,none⟩=some (.int .i64 r.op)∧w.cell? ⟨b,o+1,none⟩=some (.int .i64 r.k)∧w.cell? ⟨b,o+2,none⟩=some (.int .i64 r.out)∧w.cell? ⟨b,o+3,none⟩=some (.int .i64 r.n)∧w.cell? ⟨b,o+4,none⟩=some (.slice y.aA y.nA y.cA)∧w.cell? ⟨b,o+5,none⟩=some (.slice y.aE y.nE y.cE)
theorem HRus.at {ok:Nat→Prop} {w:World} {v:Value} {l:List Sk.Ru} (h:HRus ok w v l) :
  ∃ ao cap,v=.slice ao l.length cap∧l.length≤cap∧cap≤maxLen∧∀ i (h:i<l.length),∃ b o y,ao=some ⟨b,o,none⟩∧b<w.heap.size∧RuAt w b (o+i*6) l[i] y∧HRu ok w y l[i]:=by
 obtain ⟨C,⟨ao,cap,hv,h1,h2,h3⟩,hC⟩:=h;refine ⟨ao,cap,hv,h1,h2,fun i hi=>?_⟩;obtain ⟨b,o,ha,hob,hb,hc⟩:=h3 (by omega);obtain ⟨y,e,hy⟩:=hC i hi;have hcc:=(hc i hi).2;rw [e] at hcc;refine ⟨b,o,y,ha,hb,⟨?_,?_,?_,?_,?_,?_⟩,hy⟩
 ·have:=hcc 0 (by decide);simp only [rcs,Nat.add_zero,gZ,gS] at this;exact this
 ·have:=hcc 1 (by decide);simp only [rcs,Nat.add_zero,gZ,gS] at this;exact this
 ·have:=hcc 2 (by decide);simp only [rcs,Nat.add_zero,gZ,gS] at this;exact this
 ·have:=hcc 3 (by decide);simp only [rcs,Nat.add_zero,gZ,gS] at this;exact this
 ·have:=hcc 4 (by decide);simp only [rcs,Nat.add_zero,gZ,gS] at this;exact this
 ·have:=hcc 5 (by decide);simp only [rcs,Nat.add_zero,gZ,gS] at this;exact this
end Go.Proofs.YtnhmcpnbaajjcaaGreatDoor
namespace Go.Proofs.YtnhmcpnbaajjcaaGreatDoor
open Go.RowKit Go.IntWalk
namespace Sk
def usesC (m:List Bool) (r:Ru):Int:=firstI (fun z=>unmade m z.toNat) (usesT r.A (ownE r.op r.E))
def firstR (f:Ru→Int):Nat→List Ru→Int × Int
 | _,[]=>(0,0)
 | i,r :: l=>if f r≠0 then (f r,(i:Int)) else firstR f (i+1) l
end Sk
theorem firstFaultRU_any {ok:Nat→Prop} {w:World} {b:Nat} {x:LkV} {m:List Bool} {v:Value} {l:List Sk.Ru} (hk:LkAt w b x) (hm:Md w x.g m) (hn:x.nV=m.length) (hmx:m.length≤1000000) (hl:HRus ok w v l)
  (hfit:∀ r ∈ l,r.A.length≤1000000∧r.E.length≤1000000∧∀ z ∈ usesT r.A (Sk.ownE r.op r.E),0≤z∧z<m.length) :
  Calls Tryz.prog 86 #[v,.func (.func 90) #[.pointer (some ⟨b,0,none⟩)] #[],.func (.func 88) #[] #[]] w fun r w'=>r=.returned (.agg #[.int .i64 (Sk.firstR (Sk.usesC m) 0 l).1,.int .i64 (Sk.firstR (Sk.usesC m) 0 l).2])∧Below w.heap.size w w':=by
 obtain ⟨ao,cap,rfl,hc1,hc2,_⟩:=hl.at;unfold maxLen at hc2;obtain ⟨R,hR⟩:=nmQ (Sk.firstR (Sk.usesC m) 0 l);rw [←hR];have HR:=hide (show R=Sk.firstR (Sk.usesC m) 0 (l.drop 0) by rw [List.drop_zero];exact hR);clear hR;have b0:Below w.heap.size w (w.alloc (.cells #[.int .i64 0,.int .i64 0] 30 (0,0))):=(Below.refl _ _).alloc nR _;have k0:=heap_new w (.cells #[.int .i64 0,.int .i64 0] 30 (0,0));have HL:=hide hl;have HK:=hide hk;have HM:=hide hm;have HNV:=hide hn;have HF:=hide hfit;clear hl hk hm hn hfit;obtain ⟨n,hn⟩:=nmQ (l.length);rw [←hn] at hc1 ⊢;have HN:=hide hn;clear hn;go_enter Tryz.func86,Tryz.ntmps86;go_upto_region 1 with fail;generalize w.alloc (.cells #[.int .i64 0,.int .i64 0] 30 (0,0))=w0 at b0 k0 ⊢;go_wp2_with fail;go_loopg [12] n (fun k v wr=>∃ i,i≤n∧k=n-i∧v=.int .i64 (i:Nat)∧Hid (R=Sk.firstR (Sk.usesC m) i (l.drop i))∧Below w.heap.size w wr∧wr.heap[w.heap.size]?=some (.cells #[.int .i64 0,.int .i64 0] 30 (0,0)))
 case atStart=>exact ⟨0,Nat.zero_le _,rfl,rfl,HR,b0,k0⟩
 case round=>
  clear b0 k0 HR;obtain ⟨i,hi,rfl,rfl,H,hbr,kr⟩:=hrel;by_cases hlt:i<n
  case neg=>
   have hin:i=n:=(by omega);subst hin;have e1:l.drop i=[]:=List.drop_of_length_le (by have:=HN.out;omega);have HZ:=hide (show R=(0,0) by rw [H.out,e1];rfl);clear e1;have st0:=co kr 0;have st1:=co kr 1;have fr0:=fo kr 0;have fr1:=fo kr 1;simp at st0 st1;have KR:=set_in (set_in kr 0 (.int .i64 0)) 1 (.int .i64 0);have r0:=co KR 0;have r1:=co KR 1;simp at r0 r1;have BR:=(hbr.setCell (p:=⟨w.heap.size,0,none⟩) nR (.int .i64 0)).setCell (p:=⟨w.heap.size,1,none⟩) nR (.int .i64 0);clear KR;go_wp2;exact bodyPost_ret (v:=.agg #[.int .i64 0,.int .i64 0]) (by simp [results,Tryz.results86,go_sem,r0,r1]) rfl ⟨by rw [HZ.out],BR⟩
  case pos=>
   have hil:i<l.length:=(by have:=HN.out;omega);have hdr:l.drop i=l[i] :: l.drop (i+1):=List.drop_eq_getElem_cons hil;have hR1:=H.out;rw [hdr] at hR1;obtain ⟨ao',cap',eqs,_,_,hat2⟩:=(HL.out.under hbr).at;injection eqs with q1 q2 q3;subst q1;obtain ⟨bb,o,z,rfl,hb,hat,hru⟩:=hat2 i hil;obtain ⟨y,hy⟩:=nmQ (l[i]);have hfy:=HF.out y (by rw [hy];exact List.getElem_mem hil);rw [←hy] at hat hru hR1;obtain ⟨e0,e1,e2,e3,e4,e5⟩:=hat;unfold Sk.firstR at hR1;have bA:Below wr.heap.size wr (wr.alloc (.cells #[.int .i64 y.op,.int .i64 y.k,.int .i64 y.out,.int .i64 y.n,.slice z.aA z.nA z.cA,.slice z.aE z.nE z.cE] 40 (0,0))):=(Below.refl _ _).alloc nR _;have BA:=hbr.trans (bA.mono hbr.size);have kA:=(bA.block _ (lt_of kr)).trans kr;have kV:=heap_new wr (.cells #[.int .i64 y.op,.int .i64 y.k,.int .i64 y.out,.int .i64 y.n,.slice z.aA z.nA z.cA,.slice z.aE z.nE z.cE] 40 (0,0));have hc:=codeOfUses_any y.op y.k y.out y.n (HK.out.under BA) (HM.out.under BA) HNV.out hmx (hru.A.under bA) (hru.E.under bA) hfy.1 hfy.2.1 hfy.2.2;have ecd:Sk.firstI (fun z=>Sk.unmade m z.toNat) (usesT y.A (Sk.ownE y.op y.E))=Sk.usesC m y:=rfl;rw [ecd] at hc;clear ecd;generalize Sk.usesC m y=cd at hc hR1;have HR1:=hide hR1;clear hat2 q2 q3 hy hdr hR1 H hru hfy;go_upto_region 4 with fail;generalize wr.alloc (.cells #[.int .i64 y.op,.int .i64 y.k,.int .i64 y.out,.int .i64 y.n,.slice z.aA z.nA z.cA,.slice z.aE z.nE z.cE] 40 (0,0))=wa at bA BA kA kV hc ⊢;have v0:=co kV 0;have v1:=co kV 1;have v2:=co kV 2;have v3:=co kV 3;have v4:=co kV 4;have v5:=co kV 5;simp at v0 v1 v2 v3 v4 v5;go_wp2_with fail;refine hc.mono ?_;rintro e w4 ⟨rfl,b4⟩;have B4:=BA.trans (b4.mono BA.size);have k4:=(b4.block _ (lt_of kA)).trans kA;clear hc v0 v1 v2 v3 v4 v5 kV;by_cases hz:cd=0
   case pos=>
    have hz2:(cd != 0)=false:=(by simp [hz]);have HZ:Hid (R=Sk.firstR (Sk.usesC m) (i+1) (l.drop (i+1))):=hide (by rw [HR1.out,if_neg (by simp [hz])]);clear HR1 hz;go_wp2_with fail;go_roundg (n-(i+1))
    case measure=>omega
    case rel=>exact ⟨i+1,by omega,rfl,by go_num,HZ,B4,k4⟩
   case neg=>
    have hz2:(cd != 0)=true:=(by simp [hz]);have HZ:Hid (R=(cd,(i:Int))):=hide (by rw [HR1.out,if_pos hz]);clear HR1 hz;go_wp2_with fail;refine (atRule_any i w4).mono ?_;rintro e w5 ⟨rfl,b5⟩;have B5:=B4.trans (b5.mono B4.size);have k5:=(b5.block _ (lt_of k4)).trans k4;have st0:=co k5 0;have st1:=co k5 1;have fr0:=fo k5 0;have fr1:=fo k5 1;simp at st0 st1;have KR:=set_in (set_in k5 0 (.int .i64 cd)) 1 (.int .i64 (i:Int));have r0:=co KR 0;have r1:=co KR 1;simp at r0 r1;have BR:=(B5.setCell (p:=⟨w.heap.size,0,none⟩) nR (.int .i64 cd)).setCell (p:=⟨w.heap.size,1,none⟩) nR (.int .i64 (i:Int));clear KR;go_wp2;exact bodyPost_ret (v:=.agg #[.int .i64 cd,.int .i64 (i:Int)]) (by simp [results,Tryz.results86,go_sem,r0,r1]) rfl ⟨by rw [HZ.out],BR⟩
end Go.Proofs.YtnhmcpnbaajjcaaGreatDoor
namespace Go.Proofs.YtnhmcpnbaajjcaaGreatDoor
open Go.RowKit Go.IntWalk
theorem mul64_1 (w:World):Calls Tryz.prog 176 #[.int .u64 1,.int .u64 1] w fun e w'=>e=.returned (.tuple #[.int .u64 0,.int .u64 1])∧w'=w:=by
 go_enter Tryz.func176,Tryz.ntmps176;go_wp2
 go_ret2
 exact ⟨rfl,rfl⟩
theorem mul_1 (w:World):Calls Tryz.prog 173 #[.int .u64 1,.int .u64 1] w fun e w'=>e=.returned (.tuple #[.int .u64 0,.int .u64 1])∧w'=w:=by
 go_enter Tryz.func173,Tryz.ntmps173;go_wp2_with fail;refine (mul64_1 w).mono ?_;rintro e w1 ⟨rfl,rfl⟩;go_wp2
 go_ret2
 exact ⟨rfl,rfl⟩
theorem mul64_2 (w:World):Calls Tryz.prog 176 #[.int .u64 1,.int .u64 2] w fun e w'=>e=.returned (.tuple #[.int .u64 0,.int .u64 2])∧w'=w:=by
 go_enter Tryz.func176,Tryz.ntmps176;go_wp2
 go_ret2
 exact ⟨rfl,rfl⟩
theorem mul_2 (w:World):Calls Tryz.prog 173 #[.int .u64 1,.int .u64 2] w fun e w'=>e=.returned (.tuple #[.int .u64 0,.int .u64 2])∧w'=w:=by
 go_enter Tryz.func173,Tryz.ntmps173;go_wp2_with fail;refine (mul64_2 w).mono ?_;rintro e w1 ⟨rfl,rfl⟩;go_wp2
 go_ret2
 exact ⟨rfl,rfl⟩
end Go.Proofs.YtnhmcpnbaajjcaaGreatDoor
namespace Go.Proofs.YtnhmcpnbaajjcaaGreatDoor
open Go.RowKit Go.IntWalk
namespace Sk
def opEff (p:Pu):List Int × Int:=(List.replicate (Kd.opT p.k).2.2.toNat (Kd.opT p.k).1,when ((((Kd.opT p.k).2.2==1)&&(p.op==5)) || (((Kd.opT p.k).2.2==2)&&(p.op==6))) (Kd.opT p.k).2.1)
def vAt (V:List Vr) (x:Int):Vr:=V.getD x.toNat (sc 0)
def effect (V:List Vr) (p:Pu) (cells:Int) (st:List Int):List Int × Int :=
 if p.op=1 then ([],madeNum p)
 else if p.op=2∨p.op=3 then ([],madeVar p (vAt V p.v) cells)
 else if p.op=4 then ([],when (decide (-1000000≤p.n)&&decide (p.n≤1000000)) 105)
 else if p.op=5∨p.op=6 then opEff p
 else if p.op=7 then choice st
 else if p.op=8 then ([105,(vAt V p.v).elem],when (arr (vAt V p.v)) (vAt V p.v).elem)
 else ([],0)
def ends (st t:List Int):Bool:=decide (t.length≤st.length)&&(st.drop (st.length-t.length)==t)
def treeL (V:List Vr) (cells:Int):List Int→List Pu→Int
 | st,[]=>if st.length=1 then st.getD 0 0 else 0
 | st,p :: r=>if (effect V p cells st).2=0∨ends st (effect V p cells st).1=false then 0 else treeL V cells (st.take (st.length-(effect V p cells st).1.length)++[(effect V p cells st).2]) r
def fitsT (V:List Vr) (op k n:Int) (o:Vr) (a:List Vr) (E:List Pu):Bool :=
 if op=14 then treeL V (max 1 o.n) [] E==o.elem
 else if op=15 then (((goesFrom k (nt a 0)&&same o (nt a 0))&&decide (1≤n))&&decide (n≤300))&&(treeL V n [] E==o.elem)
 else (goesFrom k (nt a 0)&&arrOf o (nt a 0))&&(treeL V o.n [] E==o.elem)
def fitsR (V:List Vr) (r:Ru):Bool :=
 if r.op<14 then fits r.op r.k r.n (vAt V r.out) (r.A.map (vAt V)) else fitsT V r.op r.k r.n (vAt V r.out) (r.A.map (vAt V)) r.E
def codeRule (V:List Vr) (m:List Bool) (r:Ru):Int × List Bool :=
 if isNone m.length r.out=true then (16,m)
 else if m.getD r.out.toNat false=true then (8,m)
 else if hasForm r.op r.A.length=false then (4,m)
 else if 24<(ownE r.op r.E).length then (7,m)
 else if (usesT r.A (ownE r.op r.E)).any (isNone m.length)=true then (16,m)
 else if fitsR V r=false then (10,m)
 else (0,m.set r.out.toNat true)
def rulesL (V:List Vr):List Bool→Nat→List Ru→(Int × Int) × List Bool
 | m,_,[]=>((0,0),m)
 | m,i,r :: l=>if (codeRule V m r).1≠0 then (((codeRule V m r).1,(i:Int)),m) else rulesL V (codeRule V m r).2 (i+1) l
structure Sys where
 V:List Vr
 I:List Int
 O:List Int
 R:List Ru
def m0 (S:Sys):List Bool:=(givenL (List.replicate S.V.length false) S.I).2
def m1 (S:Sys):List Bool:=(rulesL S.V (m0 S) 0 S.R).2
def check (S:Sys):Int × Int :=
 if tooMany S.V.length S.I.length S.O.length S.R.length=true then (7,-1)
 else if (firstV 0 S.V).1≠0 then firstV 0 S.V
 else if (givenL (List.replicate S.V.length false) S.I).1≠0 then ((givenL (List.replicate S.V.length false) S.I).1,-1)
 else if firstI (codeNum S.V.length) S.O≠0 then (firstI (codeNum S.V.length) S.O,-1)
 else if (rulesL S.V (m0 S) 0 S.R).1.1≠0 then (rulesL S.V (m0 S) 0 S.R).1
 else if (firstR (usesC (m1 S)) 0 S.R).1≠0 then firstR (usesC (m1 S)) 0 S.R
 else if firstI (fun z=>unmade (m1 S) z.toNat) S.O≠0 then (firstI (fun z=>unmade (m1 S) z.toNat) S.O,-1)
 else (0,0)
end Sk
end Go.Proofs.YtnhmcpnbaajjcaaGreatDoor
namespace Go.Proofs.YtnhmcpnbaajjcaaGreatDoor
open Go.RowKit Go.IntWalk
namespace Sk
def MadeBy (m:List Bool) (n:Nat) (L:List Int):Prop:=m.length=n∧∀ i,i<n→(m.getD i false=true↔(i:Int) ∈ L)
theorem isNone_false {n:Nat} {x:Int}:isNone n x=false↔0≤x∧x<n:=by
 unfold isNone;simp
theorem MadeBy.at {m:List Bool} {n:Nat} {L:List Int} (h:MadeBy m n L) {x:Int} (hx:0≤x∧x<n):m.getD x.toNat false=true↔x ∈ L:=by
 have:=h.2 x.toNat (by omega)
 rwa [Int.toNat_of_nonneg hx.1] at this
theorem MadeBy.set {m:List Bool} {n:Nat} {L:List Int} (h:MadeBy m n L) {x:Int} (hx:0≤x∧x<n):MadeBy (m.set x.toNat true) n (L++[x]):=by
 refine ⟨by rw [List.length_set];exact h.1,fun i hi=>?_⟩;by_cases e:x.toNat=i
 ·subst e
  have hl:x.toNat<m.length:=(by rw [h.1];exact hi);have:(m.set x.toNat true).getD x.toNat false=true:=(by simp [List.getD_eq_getElem?_getD,hl]);rw [this];simp [Int.toNat_of_nonneg hx.1]
 ·have e2:(m.set x.toNat true).getD i false=m.getD i false:=by simp [List.getD_eq_getElem?_getD,List.getElem?_set,e]
  rw [e2,h.2 i hi];simp;intro q;omega
theorem MadeBy.start (n:Nat):MadeBy (List.replicate n false) n []:=by
 refine ⟨by simp,fun i hi=>?_⟩;simp [List.getD_eq_getElem?_getD,List.getElem?_replicate,hi]
theorem given_zero {m:List Bool} {n:Nat} {L:List Int} (h:MadeBy m n L) (x:Int):(given m x).1=0↔(0≤x∧x<n)∧x ∉ L:=by
 unfold given;rw [h.1];by_cases hx:isNone n x=true
 ·rw [if_pos hx]
  constructor
  ·intro q;simp at q
  ·rintro ⟨q,_⟩
   rw [isNone_false.2 q] at hx
   cases hx
 ·have hx2:=isNone_false.1 (by simpa using hx)
  rw [if_neg hx];by_cases hm:m.getD x.toNat false=true
  ·rw [if_pos hm]
   constructor
   ·intro q;simp at q
   ·rintro ⟨_,q⟩
    exact absurd ((h.at hx2).1 hm) q
  ·rw [if_neg hm]
   constructor
   ·intro _;exact ⟨hx2,fun q=>hm ((h.at hx2).2 q)⟩
   ·intro _;rfl
theorem given_made {m:List Bool} {n:Nat} {L:List Int} (h:MadeBy m n L) {x:Int} (hz:(given m x).1=0):MadeBy (given m x).2 n (L++[x]):=by
 have hx:=(given_zero h x).1 hz;have h1:isNone n x=false:=isNone_false.2 hx.1;have h2:¬m.getD x.toNat false=true:=fun q=>hx.2 ((h.at hx.1).1 q);have e:given m x=(0,m.set x.toNat true):=by
  unfold given;rw [h.1,if_neg (by rw [h1];simp),if_neg h2]
 rw [e];exact h.set hx.1
theorem givenL_spec {n:Nat}:∀ (I:List Int) {m:List Bool} {L:List Int},MadeBy m n L→(((givenL m I).1=0↔(∀ x ∈ I,(0≤x∧x<n)∧x ∉ L)∧I.Nodup)∧((givenL m I).1=0→MadeBy (givenL m I).2 n (L++I)))
 | [],m,L,h=>⟨by simp [givenL],fun _=>by simpa [givenL] using h⟩
 | x :: r,m,L,h=>by
  unfold givenL;by_cases hz:(given m x).1=0
  ·rw [if_neg (by simpa using hz)]
   have h2:=given_made h hz;have hx:=(given_zero h x).1 hz;obtain ⟨i1,i2⟩:=givenL_spec r h2;refine ⟨?_,fun q=>by have:=i2 q;simpa using this⟩;rw [i1,List.nodup_cons]
   constructor
   ·rintro ⟨a,b⟩
    refine ⟨fun y hy=>?_,?_,b⟩
    ·rcases List.mem_cons.1 hy with rfl | hy
     ·exact hx
     ·exact ⟨(a y hy).1,fun q=>(a y hy).2 (by simp [q])⟩
    ·intro q
     exact (a x q).2 (by simp)
   ·rintro ⟨a,b,c⟩
    refine ⟨fun y hy=>⟨(a y (by simp [hy])).1,fun q=>?_⟩,c⟩;rcases List.mem_append.1 q with q | q
    ·exact (a y (by simp [hy])).2 q
    ·simp at q
     subst q;exact b hy
  ·rw [if_pos (by simpa using hz)]
   refine ⟨?_,fun q=>absurd q hz⟩
   constructor
   ·intro q;exact absurd q hz
   ·rintro ⟨a,_⟩
    exact absurd ((given_zero h x).2 (a x (by simp))) hz
structure RuOk (V:List Vr) (r:Ru):Prop where
 form:hasForm r.op r.A.length=true
 tree:(ownE r.op r.E).length≤24
 uses:∀ z ∈ usesT r.A (ownE r.op r.E),0≤z∧z<V.length
 fit:fitsR V r=true
theorem codeRule_zero {V:List Vr} {m:List Bool} {L:List Int} (h:MadeBy m V.length L) (r:Ru):((codeRule V m r).1=0↔((0≤r.out∧r.out<V.length)∧r.out ∉ L)∧RuOk V r)∧((codeRule V m r).1=0→MadeBy (codeRule V m r).2 V.length (L++[r.out])):=by
 unfold codeRule;rw [h.1];by_cases hx:isNone V.length r.out=true
 ·rw [if_pos hx]
  refine ⟨⟨fun q=>by simp at q,fun q=>?_⟩,fun q=>by simp at q⟩;rw [isNone_false.2 q.1.1] at hx
  cases hx
 ·have hx2:=isNone_false.1 (by simpa using hx)
  rw [if_neg hx];by_cases hm:m.getD r.out.toNat false=true
  ·rw [if_pos hm]
   exact ⟨⟨fun q=>by simp at q,fun q=>absurd ((h.at hx2).1 hm) q.1.2⟩,fun q=>by simp at q⟩
  ·rw [if_neg hm]
   have hnl:r.out ∉ L:=fun q=>hm ((h.at hx2).2 q);by_cases hf:hasForm r.op r.A.length=false
   ·rw [if_pos hf]
    exact ⟨⟨fun q=>by simp at q,fun q=>by rw [q.2.form] at hf;cases hf⟩,fun q=>by simp at q⟩
   ·rw [if_neg hf]
    by_cases ht:24<(ownE r.op r.E).length
    ·rw [if_pos ht]
     exact ⟨⟨fun q=>by simp at q,fun q=>by have:=q.2.tree;omega⟩,fun q=>by simp at q⟩
    ·rw [if_neg ht]
     by_cases hu:(usesT r.A (ownE r.op r.E)).any (isNone V.length)=true
     ·rw [if_pos hu]
      refine ⟨⟨fun q=>by simp at q,fun q=>?_⟩,fun q=>by simp at q⟩;obtain ⟨z,hz,hz2⟩:=List.any_eq_true.1 hu;rw [isNone_false.2 (q.2.uses z hz)] at hz2
      cases hz2
     ·rw [if_neg hu]
      have hu2:∀ z ∈ usesT r.A (ownE r.op r.E),0≤z∧z<V.length:=by
       intro z hz;refine isNone_false.1 ?_;have:(usesT r.A (ownE r.op r.E)).any (isNone V.length)=false:=(by simpa using hu);rw [List.any_eq_false] at this
       simpa using this z hz
      by_cases hg:fitsR V r=false
      ·rw [if_pos hg]
       exact ⟨⟨fun q=>by simp at q,fun q=>by rw [q.2.fit] at hg;cases hg⟩,fun q=>by simp at q⟩
      ·rw [if_neg hg]
       exact ⟨⟨fun _=>⟨⟨hx2,hnl⟩,by simpa using hf,by omega,hu2,by simpa using hg⟩,fun _=>rfl⟩,fun _=>h.set hx2⟩
theorem rulesL_spec {V:List Vr}:∀ (R:List Ru) (i:Nat) {m:List Bool} {L:List Int},MadeBy m V.length L→(((rulesL V m i R).1.1=0↔(∀ r ∈ R,((0≤r.out∧r.out<V.length)∧r.out ∉ L)∧RuOk V r)∧(R.map (·.out)).Nodup)∧((rulesL V m i R).1.1=0→MadeBy (rulesL V m i R).2 V.length (L++R.map (·.out))))
 | [],i,m,L,h=>⟨by simp [rulesL],fun _=>by simpa [rulesL] using h⟩
 | r :: l,i,m,L,h=>by
  unfold rulesL;obtain ⟨c1,c2⟩:=codeRule_zero h r;by_cases hz:(codeRule V m r).1=0
  ·rw [if_neg (by simpa using hz)]
   have h2:=c2 hz;have hx:=c1.1 hz;obtain ⟨i1,i2⟩:=rulesL_spec l (i+1) h2;refine ⟨?_,fun q=>by have:=i2 q;simpa using this⟩;rw [i1,List.map_cons,List.nodup_cons]
   constructor
   ·rintro ⟨a,b⟩
    refine ⟨fun y hy=>?_,?_,b⟩
    ·rcases List.mem_cons.1 hy with rfl | hy
     ·exact hx
     ·exact ⟨⟨(a y hy).1.1,fun q=>(a y hy).1.2 (by simp [q])⟩,(a y hy).2⟩
    ·intro q
     obtain ⟨y,hy,e⟩:=List.mem_map.1 q;exact (a y hy).1.2 (by simp [e])
   ·rintro ⟨a,b,c⟩
    refine ⟨fun y hy=>⟨⟨(a y (by simp [hy])).1.1,fun q=>?_⟩,(a y (by simp [hy])).2⟩,c⟩;rcases List.mem_append.1 q with q | q
    ·exact (a y (by simp [hy])).1.2 q
    ·simp at q
     exact b (List.mem_map.2 ⟨y,hy,q⟩)
  ·rw [if_pos (by simpa using hz)]
   refine ⟨?_,fun q=>absurd q hz⟩
   constructor
   ·intro q;exact absurd q hz
   ·rintro ⟨a,_⟩
    exact absurd (c1.2 (a r (by simp))) hz
theorem firstI_zero {f:Int→Int}:∀ (l:List Int),firstI f l=0↔∀ x ∈ l,f x=0
 | []=>by simp [firstI]
 | x :: r=>by
  unfold firstI;by_cases h:f x=0
  ·rw [if_neg (by simpa using h),firstI_zero r]
   simp [h]
  ·rw [if_pos (by simpa using h)]
   simp [h]
theorem firstR_zero {f:Ru→Int}:∀ (l:List Ru) (i:Nat),((firstR f i l).1=0↔∀ x ∈ l,f x=0)
 | [],i=>by simp [firstR]
 | x :: r,i=>by
  unfold firstR;by_cases h:f x=0
  ·rw [if_neg (by simpa using h),firstR_zero r]
   simp [h]
  ·rw [if_pos (by simpa using h)]
   simp [h]
def VrOk (v:Vr):Prop:=(v.elem=105∨v.elem=98)∧0≤v.n∧v.n≤300
theorem codeType_zero (v:Vr):codeType v=0↔VrOk v:=by
 unfold codeType VrOk;by_cases h:v.elem≠105∧v.elem≠98
 ·rw [if_pos h]
  constructor
  ·intro q;simp at q
  ·rintro ⟨q | q,_⟩
   ·exact absurd q h.1
   ·exact absurd q h.2
 ·rw [if_neg h]
  by_cases h2:v.n<0∨300<v.n
  ·rw [if_pos h2]
   constructor
   ·intro q;simp at q
   ·rintro ⟨_,q⟩
    omega
  ·rw [if_neg h2]
   constructor
   ·intro _
    exact ⟨by omega,by omega,by omega⟩
   ·intro _;rfl
theorem firstV_zero:∀ (l:List Vr) (i:Nat),((firstV i l).1=0↔∀ x ∈ l,VrOk x)
 | [],i=>by simp [firstV]
 | x :: r,i=>by
  unfold firstV;by_cases h:codeType x=0
  ·rw [if_neg (by simpa using h),firstV_zero r]
   have:=(codeType_zero x).1 h;simp [this]
  ·rw [if_pos (by simpa using h)]
   constructor
   ·intro q;exact absurd q h
   ·intro q;exact absurd ((codeType_zero x).2 (q x (by simp))) h
def uses (r:Ru):List Int:=usesT r.A (ownE r.op r.E)
structure Okay (S:Sys):Prop where
 nV:S.V.length≤400
 nI:S.I.length≤400
 nO:S.O.length≤400
 nR:S.R.length≤400
 vars:∀ v ∈ S.V,VrOk v
 ins:∀ x ∈ S.I,0≤x∧x<S.V.length
 insN:S.I.Nodup
 outs:∀ x ∈ S.O,0≤x∧x<S.V.length
 rules:∀ r ∈ S.R,((0≤r.out∧r.out<S.V.length)∧r.out ∉ S.I)∧RuOk S.V r
 rulesN:(S.R.map (·.out)).Nodup
 used:∀ r ∈ S.R,∀ z ∈ uses r,z ∈ S.I∨z ∈ S.R.map (·.out)
 told:∀ x ∈ S.O,x ∈ S.I∨x ∈ S.R.map (·.out)
theorem unmade_zero {m:List Bool} {n:Nat} {L:List Int} (h:MadeBy m n L) {z:Int} (hz:0≤z∧z<n):unmade m z.toNat=0↔z ∈ L:=by
 unfold unmade;by_cases q:m.getD z.toNat false=true
 ·rw [if_pos q]
  simp [(h.at hz).1 q]
 ·rw [if_neg q]
  constructor
  ·intro e;simp at e
  ·intro e;exact absurd ((h.at hz).2 e) q
theorem check_zero (S:Sys):check S=(0,0)↔Okay S:=by
 unfold check;have hst:=MadeBy.start S.V.length;obtain ⟨g1,g2⟩:=givenL_spec (n:=S.V.length) S.I hst;by_cases ht:tooMany S.V.length S.I.length S.O.length S.R.length=true
 ·rw [if_pos ht]
  constructor
  ·intro q;simp at q
  ·intro q
   have:=q.nV;have:=q.nI;have:=q.nO;have:=q.nR;unfold tooMany at ht;simp at ht;omega
 rw [if_neg ht];have ht2:S.V.length≤400∧S.I.length≤400∧S.O.length≤400∧S.R.length≤400:=by
  unfold tooMany at ht;simp at ht;omega
 by_cases hv:(firstV 0 S.V).1=0
 case neg=>
  rw [if_pos (by simpa using hv)]
  constructor
  ·intro q;rw [q] at hv;exact absurd rfl hv
  ·intro q;exact absurd ((firstV_zero S.V 0).2 q.vars) hv
 rw [if_neg (by simpa using hv)];by_cases hg:(givenL (List.replicate S.V.length false) S.I).1=0
 case neg=>
  rw [if_pos (by simpa using hg)]
  constructor
  ·intro q;injection q with q1 q2;exact absurd q1 hg
  ·intro q;exact absurd (g1.2 ⟨fun x hx=>⟨q.ins x hx,by simp⟩,q.insN⟩) hg
 rw [if_neg (by simpa using hg)];have hm0:MadeBy (m0 S) S.V.length S.I:=(by have:=g2 hg;simpa [m0] using this);by_cases ho:firstI (codeNum S.V.length) S.O=0
 case neg=>
  rw [if_pos (by simpa using ho)]
  constructor
  ·intro q;injection q with q1 q2;exact absurd q1 ho
  ·intro q
   refine absurd ((firstI_zero S.O).2 fun x hx=>?_) ho;unfold codeNum;rw [isNone_false.2 (q.outs x hx)];rfl
 rw [if_neg (by simpa using ho)];have ho2:∀ x ∈ S.O,0≤x∧x<S.V.length:=by
  intro x hx;have:=(firstI_zero S.O).1 ho x hx;unfold codeNum at this;refine isNone_false.1 ?_
  cases h:isNone S.V.length x
  ·rfl
  ·rw [h] at this;simp at this
 obtain ⟨r1,r2⟩:=rulesL_spec (V:=S.V) S.R 0 hm0;by_cases hr:(rulesL S.V (m0 S) 0 S.R).1.1=0
 case neg=>
  rw [if_pos (by simpa using hr)]
  constructor
  ·intro q;rw [q] at hr;exact absurd rfl hr
  ·intro q;exact absurd (r1.2 ⟨q.rules,q.rulesN⟩) hr
 rw [if_neg (by simpa using hr)];have hm1:MadeBy (m1 S) S.V.length (S.I++S.R.map (·.out)):=r2 hr;obtain ⟨hr1,hr2⟩:=r1.1 hr;by_cases hu:(firstR (usesC (m1 S)) 0 S.R).1=0
 case neg=>
  rw [if_pos (by simpa using hu)]
  constructor
  ·intro q;rw [q] at hu;exact absurd rfl hu
  ·intro q
   refine absurd ((firstR_zero S.R 0).2 fun r hr=>?_) hu;refine (firstI_zero _).2 fun z hz=>?_;have:=q.used r hr z hz;exact (unmade_zero hm1 ((hr1 r hr).2.uses z hz)).2 (by simpa using this)
 rw [if_neg (by simpa using hu)];have hu2:∀ r ∈ S.R,∀ z ∈ uses r,z ∈ S.I∨z ∈ S.R.map (·.out):=by
  intro r hr z hz;have:=(firstI_zero _).1 ((firstR_zero S.R 0).1 hu r hr) z hz;have:=(unmade_zero hm1 ((hr1 r hr).2.uses z hz)).1 this
  simpa using this
 by_cases hn:firstI (fun z=>unmade (m1 S) z.toNat) S.O=0
 case neg=>
  rw [if_pos (by simpa using hn)]
  constructor
  ·intro q;injection q with q1 q2;exact absurd q1 hn
  ·intro q
   refine absurd ((firstI_zero S.O).2 fun x hx=>?_) hn;exact (unmade_zero hm1 (ho2 x hx)).2 (by have:=q.told x hx;simpa using this)
 rw [if_neg (by simpa using hn)];refine ⟨fun _=>⟨ht2.1,ht2.2.1,ht2.2.2.1,ht2.2.2.2,(firstV_zero S.V 0).1 hv,fun x hx=>((g1.1 hg).1 x hx).1,(g1.1 hg).2,ho2,hr1,hr2,hu2,fun x hx=>?_⟩,fun _=>rfl⟩;have:=(unmade_zero hm1 (ho2 x hx)).1 ((firstI_zero S.O).1 hn x hx)
 simpa using this
end Sk
end Go.Proofs.YtnhmcpnbaajjcaaGreatDoor
namespace Go.Proofs.YtnhmcpnbaajjcaaGreatDoor
open Go.RowKit Go.IntWalk
namespace Sk
theorem opT_ok (k:Int):((Kd.opT k).1=0∨(Kd.opT k).1=105∨(Kd.opT k).1=98)∧((Kd.opT k).2.1=0∨(Kd.opT k).2.1=105∨(Kd.opT k).2.1=98)∧((Kd.opT k).2.2=0∨(Kd.opT k).2.2=1∨(Kd.opT k).2.2=2):=by
 have H:∀ t ∈ Kd.opsT,(t.1=0∨t.1=105∨t.1=98)∧(t.2.1=0∨t.2.1=105∨t.2.1=98)∧(t.2.2=0∨t.2.2=1∨t.2.2=2):=(by decide);unfold Kd.opT
 split
 ·decide
 ·unfold Kd.opN
  rw [List.getD_eq_getElem?_getD]
  cases h:Kd.opsT[k.toNat]? with
  | none=>decide
  | some t=>exact H t (List.mem_of_getElem? h)
def By (l:List Int):Prop:=∀ x ∈ l,0≤x∧x<256
theorem vAt_elem {V:List Vr} (h:∀ v ∈ V,VrOk v) (x:Int):(vAt V x).elem=0∨(vAt V x).elem=105∨(vAt V x).elem=98:=by
 unfold vAt;rw [List.getD_eq_getElem?_getD]
 cases e:V[x.toNat]? with
 | none=>exact .inl rfl
 | some t=>exact .inr (h t (List.mem_of_getElem? e)).1
theorem when_by {b:Bool} {e:Int} (h:0≤e∧e<256):0≤when b e∧when b e<256:=by
 unfold when
 split
 ·exact h
 ·omega
theorem effect_by {V:List Vr} (hV:∀ v ∈ V,VrOk v) {p:Pu} {c:Int} {st:List Int} (hs:By st):By (effect V p c st).1∧0≤(effect V p c st).2∧(effect V p c st).2<256:=by
 have hnil:By []:=fun x hx=>by cases hx
 have hv:=vAt_elem hV p.v;unfold effect
 split
 ·refine ⟨hnil,?_⟩
  show 0≤madeNum p∧madeNum p<256
  unfold madeNum
  split
  ·omega
  ·split
   ·exact when_by (by omega)
   ·omega
 ·split
  ·refine ⟨hnil,?_⟩
   show 0≤madeVar p (vAt V p.v) c∧madeVar p (vAt V p.v) c<256
   unfold madeVar
   split
   ·exact when_by (by omega)
   ·exact when_by (by omega)
  ·split
   ·exact ⟨hnil,when_by (by omega)⟩
   ·split
    ·have:=opT_ok p.k
     unfold opEff;refine ⟨fun x hx=>?_,when_by (by omega)⟩;have:=(List.mem_replicate.1 hx).2;omega
    ·split
     ·unfold choice
      cases h:st.getLast? with
      | none=>exact ⟨hnil,by simp⟩
      | some t=>
       have ht:0≤t∧t<256:=hs t (List.mem_of_getLast? h);refine ⟨fun x hx=>?_,ht⟩;simp at hx;omega
     ·split
      ·refine ⟨fun x hx=>?_,when_by (by omega)⟩
       simp at hx;omega
      ·exact ⟨hnil,by simp⟩
theorem take_by {st:List Int} (hs:By st) (n:Nat):By (st.take n):=fun x hx=>hs x (List.mem_of_mem_take hx)
theorem push_by {st:List Int} (hs:By st) {e:Int} (he:0≤e∧e<256):By (st++[e]):=by
 intro x hx;rcases List.mem_append.1 hx with q | q
 ·exact hs x q
 ·simp at q
  omega
theorem effect_len {V:List Vr} {p:Pu} {c:Int} {st:List Int}:(effect V p c st).1.length≤3:=by
 unfold effect
 split
 ·simp
 ·split
  ·simp
  ·split
   ·simp
   ·split
    ·have:=opT_ok p.k
     unfold opEff;rw [List.length_replicate];omega
    ·split
     ·unfold choice
      split<;>simp
     ·split<;>simp
end Sk
end Go.Proofs.YtnhmcpnbaajjcaaGreatDoor
