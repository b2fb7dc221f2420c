import Derived.Test.YtfhghlpfeeiaeaaGreatDoorX12
import Derived.Deep.Cut
import Derived.Deep.LoopGhost
import Derived.IntWalk
import Derived.Laws.Cover1
import Derived.Lib.Hide
import Derived.WalkKit
import Derived.WalkSpells
set_option linter.unusedVariables false
set_option linter.unusedSimpArgs false
set_option maxHeartbeats 64000000
set_option maxRecDepth 100000
namespace Go.Proofs.YtfhghlpfeeiaeaaGreatDoor
open Go.RowKit Go.IntWalk
namespace Sk
def ownE (op:Int) (E:List Pu):List Pu:=if op<14 then [] else E
end Sk
theorem HPu.hnil {ok:Nat->Prop} {w:World}:HPu ok w (.slice none 0 0) []:=⟨fun _=>[],⟨Option.none,0,rfl,Nat.le_refl _,Nat.zero_le _,fun h=>absurd h (Nat.lt_irrefl _)⟩,fun i h=>absurd h (Nat.not_lt_zero _)⟩
theorem own_row {ok:Nat->Prop} {w:World} {E:List Pu} (op k out n:Int) (aA aE:Option Addr) (nA cA nE cE:Nat) (hE:HPu ok w (.slice aE nE cE) E) :
  Calls Tryz.prog 69 #[.agg #[.int .i64 op,.int .i64 k,.int .i64 out,.int .i64 n,.slice aA nA cA,.slice aE nE cE]] w fun e w'=>∃ a m c,e=.returned (.agg #[.int .i64 op,.int .i64 k,.int .i64 out,.int .i64 n,.slice aA nA cA,.slice a m c])/\HPu ok w' (.slice a m c) (Sk.ownE op E)/\Below w.heap.size w w':=by
 unfold Sk.ownE;by_cases h:op<14
 ·rw [if_pos h]
  exact (own_low op k out n aA aE nA cA nE cE h w).mono fun _ _ ⟨h1,h2⟩=>⟨none,0,0,h1,HPu.hnil,h2⟩
 ·rw [if_neg h]
  exact (own_tree op k out n aA aE nA cA nE cE (by omega) w).mono fun _ _ ⟨h1,h2⟩=>⟨aE,nE,cE,h1,hE.under h2,h2⟩
theorem zAc {ok:Nat->Prop} {w:World} {b:Nat} {x:LkV} {m:List Bool} {A:List Int} {E:List Pu} (op k out n:Int) {aA aE:Option Addr} {nA cA nE cE:Nat} (hk:LkAt w b x) (hm:Md w x.g m) (hn:x.nV=m.length) (hmx:m.length<=1000000)
  (hA:HInts ok w (.slice aA nA cA) A) (hE:HPu ok w (.slice aE nE cE) E) (dm:A.length<=1000000) (fo:E.length<=1000000) (bp:∀ z ∈ usesT A (Sk.ownE op E),0<=z/\z<m.length) :
  Calls Tryz.prog 55 #[.pointer (some ⟨b,0,none⟩),.agg #[.int .i64 op,.int .i64 k,.int .i64 out,.int .i64 n,.slice aA nA cA,.slice aE nE cE]] w fun r w'=>r=.returned (.int .i64 (Sk.firstI (fun z=>Sk.unmade m z.toNat) (usesT A (Sk.ownE op E))))/\Below w.heap.size w w':=by
 have b0:Below w.heap.size w (w.alloc (.cells #[.int .i64 op,.int .i64 k,.int .i64 out,.int .i64 n,.slice aA nA cA,.slice aE nE cE] 42 (0,0))):=(Below.refl _ _).alloc zBR _;have k0:=zBO w (.cells #[.int .i64 op,.int .i64 k,.int .i64 out,.int .i64 n,.slice aA nA cA,.slice aE nE cE] 42 (0,0));have gy:=own_row op k out n aA aE nA cA nE cE (hE.under b0);have HA:=zBK (hA.under b0);have HK:=zBK (hk.under b0);have HM:=zBK (hm.under b0);have A8:(Sk.ownE op E).length<=1000000:=(by unfold Sk.ownE;split;exact Nat.zero_le _;exact fo);generalize Sk.ownE op E=E2 at gy bp A8 ⊢;have ld:∀ V ve,HInts ok V (.slice aA nA cA) A->HPu ok V ve E2->Calls Tryz.prog 71 #[.agg #[.int .i64 op,.int .i64 k,.int .i64 out,.int .i64 n,.slice aA nA cA,ve]] V _:=fun V ve h1 h2=>zCm op k out n h1 h2 dm A8;generalize usesT A E2=l at bp ld ⊢;obtain ⟨R,hR⟩:=nmQ (Sk.firstI (fun z=>Sk.unmade m z.toNat) l);rw [<-hR];have HR:=zBK (show R=Sk.firstI (fun z=>Sk.unmade m z.toNat) (l.drop 0) by rw [List.drop_zero];exact hR);have jF:=zBK bp;have rX:=zBK hn;clear hR bp hn hA hE hk hm;go_enter Tryz.func55,Tryz.ntmps55;go_upto_region 1 with fail;generalize w.alloc (.cells #[.int .i64 op,.int .i64 k,.int .i64 out,.int .i64 n,.slice aA nA cA,.slice aE nE cE] 42 (0,0))=w0 at b0 k0 gy HA HK HM ⊢;have c0:=coQ k0 0;have c1:=coQ k0 1;have c2:=coQ k0 2;have c3:=coQ k0 3;have c4:=coQ k0 4;have c5:=coQ k0 5;simp at c0 c1 c2 c3 c4 c5;go_wp2_with fail;refine gy.mono ?_;rintro e w1 ⟨ea,en,ec,rfl,tN,b1⟩;have B1:=b0.trans (b1.mono b0.size);clear c0 c1 c2 c3 c4 c5 gy;go_wp2_with fail;refine (ld w1 _ (HA.out.under b1) tN).mono ?_;rintro e w2 ⟨u,rfl,jP,b2⟩;have B2:=B1.trans (b2.mono B1.size);have bb:=b1.trans (b2.mono b1.size);have qN:=zBK (HK.out.under bb);have tD:=zBK (HM.out.under bb);have dC:HInts (fun i=>w1.heap.size<=i) w2 u l:=jP.row;obtain ⟨ua,Qc,rfl,bH,cG,_⟩:=dC.at;unfold maxLen at cG;have HL:=zBK dC;clear ld tN jP dC HA HK HM;obtain ⟨N,hN⟩:=nmQ (l.length);rw [<-hN] at bH ⊢;have HN:=zBK hN;clear hN;go_wp2_with fail;go_loopg [12] N (fun k v wr=>∃ i,i<=N/\k=N-i/\v=.int .i64 (i:Nat)/\Hid (R=Sk.firstI (fun z=>Sk.unmade m z.toNat) (l.drop i))/\Below w2.heap.size w2 wr)
 case atStart=>exact ⟨0,Nat.zero_le _,rfl,rfl,HR,Below.refl _ _⟩
 case round=>
  clear HR;obtain ⟨i,hi,rfl,rfl,H,aH⟩:=hrel;by_cases bd:i<N
  case neg=>
   have bp:i=N:=(by omega);subst bp;have e1:l.drop i=[]:=List.drop_of_length_le (by have:=HN.out;omega);have HZ:=zBK (show R=0 by rw [H.out,e1];rfl);clear e1;go_wp2;go_ret;exact ⟨by rw [HZ.out];rfl,B2.trans (aH.mono B2.size)⟩
  case pos=>
   have dj:i<l.length:=(by have:=HN.out;omega);have hdr:l.drop i=l[i] :: l.drop (i+1):=List.drop_eq_getElem_cons dj;have bY:=H.out;rw [hdr] at bY;obtain ⟨gw,dk,eqs,_,_,bg⟩:=(HL.out.under aH).at;injection eqs with q1 q2 q3;subst q1;obtain ⟨QK,o,rfl,hb,e0⟩:=bg i dj;obtain ⟨y,hy⟩:=nmQ (l[i]);rw [<-hy] at e0 bY;have iM:=jF.out y (by rw [hy];exact List.getElem_mem dj);have hc:=zCO (qN.out.under aH) (tD.out.under aH) rX.out y.toNat (by omega) hmx;rw [Int.toNat_of_nonneg iM.1] at hc;unfold Sk.firstI at bY;generalize Sk.unmade m y.toNat=cd at hc bY;have cq:=zBK bY;clear bg q2 q3 hy hdr bY H iM;go_wp2_with fail;refine hc.mono ?_;rintro e w4 ⟨rfl,b4⟩;have B4:=aH.trans (b4.mono aH.size);clear hc;by_cases hz:cd=0
   case pos=>
    have dZ:(cd != 0)=false:=(by simp [hz]);have HZ:Hid (R=Sk.firstI (fun z=>Sk.unmade m z.toNat) (l.drop (i+1))):=zBK (by rw [cq.out,if_neg (by simp [hz])]);clear cq hz;go_wp2_with fail;go_roundg (N-(i+1))
    case measure=>omega
    case rel=>exact ⟨i+1,by omega,rfl,by go_num,HZ,B4⟩
   case neg=>
    have dZ:(cd != 0)=true:=(by simp [hz]);have HZ:Hid (R=cd):=zBK (by rw [cq.out,if_pos hz]);clear cq hz;go_wp2;go_ret;exact ⟨by rw [HZ.out];rfl,B2.trans (B4.mono B2.size)⟩
end Go.Proofs.YtfhghlpfeeiaeaaGreatDoor
namespace Go.Proofs.YtfhghlpfeeiaeaaGreatDoor
open Go.RowKit Go.IntWalk
namespace Sk
structure Ru where
 op:Int
 k:Int
 out:Int
 n:Int
 A:List Int
 E:List Pu
end Sk
structure RuV where
 aA:Option Addr
 nA:Nat
 cA:Nat
 aE:Option Addr
 nE:Nat
 cE:Nat
def rcs (r:Sk.Ru) (y:RuV):List Value:=[.int .i64 r.op,.int .i64 r.k,.int .i64 r.out,.int .i64 r.n,.slice y.aA y.nA y.cA,.slice y.aE y.nE y.cE]
theorem HPu.wide {ok ok':Nat->Prop} {w:World} {v:Value} {l:List Pu} (h:HPu ok w v l) (hk:∀ i,ok i->i<w.heap.size->ok' i):HPu ok' w v l:=by
 obtain ⟨C,h3,h4⟩:=h;exact ⟨C,h3.wide hk,h4⟩
structure HRu (ok:Nat->Prop) (w:World) (y:RuV) (r:Sk.Ru):Prop where
 A:HInts ok w (.slice y.aA y.nA y.cA) r.A
 E:HPu ok w (.slice y.aE y.nE y.cE) r.E
theorem HRu.keep {ok:Nat->Prop} {w w':World} {y:RuV} {r:Sk.Ru} (h:HRu ok w y r) (h1:w.heap.size<=w'.heap.size) (h2:∀ i,ok i->i<w.heap.size->w'.heap[i]?=w.heap[i]?):HRu ok w' y r:=⟨h.A.keep h1 h2,h.E.keep h1 h2⟩
theorem HRu.under {ok:Nat->Prop} {w w':World} {y:RuV} {r:Sk.Ru} (h:HRu ok w y r) (b:Below w.heap.size w w'):HRu ok w' y r:=h.keep b.size fun i _ hl=>b.block i hl
theorem HRu.wide {ok ok':Nat->Prop} {w:World} {y:RuV} {r:Sk.Ru} (h:HRu ok w y r) (hk:∀ i,ok i->i<w.heap.size->ok' i):HRu ok' w y r:=⟨h.A.wide hk,h.E.wide hk⟩
def HRus (ok:Nat->Prop) (w:World) (v:Value) (l:List Sk.Ru):Prop:=∃ C,Sl ok 6 w v l.length C/\∀ i (h:i<l.length),∃ y,C i=rcs l[i] y/\HRu ok w y l[i]
theorem HRus.keep {ok:Nat->Prop} {w w':World} {v:Value} {l:List Sk.Ru} (h:HRus ok w v l) (h1:w.heap.size<=w'.heap.size) (h2:∀ i,ok i->i<w.heap.size->w'.heap[i]?=w.heap[i]?):HRus ok w' v l:=by
 obtain ⟨C,h3,h4⟩:=h;refine ⟨C,h3.keep h1 h2,fun i hi=>?_⟩;obtain ⟨y,e,hy⟩:=h4 i hi;exact ⟨y,e,hy.keep h1 h2⟩
theorem HRus.under {ok:Nat->Prop} {w w':World} {v:Value} {l:List Sk.Ru} (h:HRus ok w v l) (b:Below w.heap.size w w'):HRus ok w' v l:=h.keep b.size fun i _ hl=>b.block i hl
theorem HRus.wide {ok ok':Nat->Prop} {w:World} {v:Value} {l:List Sk.Ru} (h:HRus ok w v l) (hk:∀ i,ok i->i<w.heap.size->ok' i):HRus ok' w v l:=by
 obtain ⟨C,h3,h4⟩:=h;refine ⟨C,h3.wide hk,fun i hi=>?_⟩;obtain ⟨y,e,hy⟩:=h4 i hi;exact ⟨y,e,hy.wide hk⟩
def RuAt (w:World) (b o:Nat) (r:Sk.Ru) (y:RuV):Prop :=
 w.cell? ⟨b,o,none⟩=some (.int .i64 r.op)/\w.cell? ⟨b,o+1,none⟩=some (.int .i64 r.k)/\w.cell? ⟨b,o+2,none⟩=some (.int .i64 r.out)/\w.cell? ⟨b,o+3,none⟩=some (.int .i64 r.n)/\w.cell? ⟨b,o+4,none⟩=some (.slice y.aA y.nA y.cA)/\w.cell? ⟨b,o+5,none⟩=some (.slice y.aE y.nE y.cE)
theorem HRus.at {ok:Nat->Prop} {w:World} {v:Value} {l:List Sk.Ru} (h:HRus ok w v l) :
  ∃ ao cap,v=.slice ao l.length cap/\l.length<=cap/\cap<=maxLen/\∀ i (h:i<l.length),∃ b o y,ao=some ⟨b,o,none⟩/\b<w.heap.size/\RuAt w b (o+i*6) l[i] y/\HRu ok w y l[i]:=by
 obtain ⟨C,⟨ao,cap,hv,h1,h2,h3⟩,hC⟩:=h;refine ⟨ao,cap,hv,h1,h2,fun i hi=>?_⟩;obtain ⟨b,o,ha,gG,hb,hc⟩:=h3 (by omega);obtain ⟨y,e,hy⟩:=hC i hi;have eh:=(hc i hi).2;rw [e] at eh;refine ⟨b,o,y,ha,hb,⟨?_,?_,?_,?_,?_,?_⟩,hy⟩
 ·have:=eh 0 (by decide);simp only [rcs,Nat.add_zero,gZ,gS] at this;exact this
 ·have:=eh 1 (by decide);simp only [rcs,Nat.add_zero,gZ,gS] at this;exact this
 ·have:=eh 2 (by decide);simp only [rcs,Nat.add_zero,gZ,gS] at this;exact this
 ·have:=eh 3 (by decide);simp only [rcs,Nat.add_zero,gZ,gS] at this;exact this
 ·have:=eh 4 (by decide);simp only [rcs,Nat.add_zero,gZ,gS] at this;exact this
 ·have:=eh 5 (by decide);simp only [rcs,Nat.add_zero,gZ,gS] at this;exact this
end Go.Proofs.YtfhghlpfeeiaeaaGreatDoor
namespace Go.Proofs.YtfhghlpfeeiaeaaGreatDoor
open Go.RowKit Go.IntWalk
namespace Sk
def usesC (m:List Bool) (r:Ru):Int:=firstI (fun z=>unmade m z.toNat) (usesT r.A (ownE r.op r.E))
def firstR (f:Ru->Int):Nat->List Ru->Int × Int
 | _,[]=>(0,0)
 | i,r :: l=>if f r≠0 then (f r,(i:Int)) else firstR f (i+1) l
end Sk
theorem zDE {ok:Nat->Prop} {w:World} {b:Nat} {x:LkV} {m:List Bool} {v:Value} {l:List Sk.Ru} (hk:LkAt w b x) (hm:Md w x.g m) (hn:x.nV=m.length) (hmx:m.length<=1000000) (hl:HRus ok w v l)
  (aB:∀ r ∈ l,r.A.length<=1000000/\r.E.length<=1000000/\∀ z ∈ usesT r.A (Sk.ownE r.op r.E),0<=z/\z<m.length) :
  Calls Tryz.prog 51 #[v,.func (.func 55) #[.pointer (some ⟨b,0,none⟩)] #[],.func (.func 53) #[] #[]] w fun r w'=>r=.returned (.agg #[.int .i64 (Sk.firstR (Sk.usesC m) 0 l).1,.int .i64 (Sk.firstR (Sk.usesC m) 0 l).2])/\Below w.heap.size w w':=by
 obtain ⟨ao,cap,rfl,bH,cG,_⟩:=hl.at;unfold maxLen at cG;obtain ⟨R,hR⟩:=nmQ (Sk.firstR (Sk.usesC m) 0 l);rw [<-hR];have HR:=zBK (show R=Sk.firstR (Sk.usesC m) 0 (l.drop 0) by rw [List.drop_zero];exact hR);clear hR;have b0:Below w.heap.size w (w.alloc (.cells #[.int .i64 0,.int .i64 0] 32 (0,0))):=(Below.refl _ _).alloc zBR _;have k0:=zBO w (.cells #[.int .i64 0,.int .i64 0] 32 (0,0));have HL:=zBK hl;have HK:=zBK hk;have HM:=zBK hm;have rX:=zBK hn;have HF:=zBK aB;clear hl hk hm hn aB;obtain ⟨n,hn⟩:=nmQ (l.length);rw [<-hn] at bH ⊢;have HN:=zBK hn;clear hn;go_enter Tryz.func51,Tryz.ntmps51;go_upto_region 1 with fail;generalize w.alloc (.cells #[.int .i64 0,.int .i64 0] 32 (0,0))=w0 at b0 k0 ⊢;go_wp2_with fail;go_loopg [12] n (fun k v wr=>∃ i,i<=n/\k=n-i/\v=.int .i64 (i:Nat)/\Hid (R=Sk.firstR (Sk.usesC m) i (l.drop i))/\Below w.heap.size w wr/\wr.heap[w.heap.size]?=some (.cells #[.int .i64 0,.int .i64 0] 32 (0,0)))
 case atStart=>exact ⟨0,Nat.zero_le _,rfl,rfl,HR,b0,k0⟩
 case round=>
  clear b0 k0 HR;obtain ⟨i,hi,rfl,rfl,H,aH,kr⟩:=hrel;by_cases bd:i<n
  case neg=>
   have bp:i=n:=(by omega);subst bp;have e1:l.drop i=[]:=List.drop_of_length_le (by have:=HN.out;omega);have HZ:=zBK (show R=(0,0) by rw [H.out,e1];rfl);clear e1;have cJ:=coQ kr 0;have cW:=coQ kr 1;have eO:=foQ kr 0;have fl:=foQ kr 1;simp at cJ cW;have KR:=zBQ (zBQ kr 0 (.int .i64 0)) 1 (.int .i64 0);have r0:=coQ KR 0;have r1:=coQ KR 1;simp at r0 r1;have BR:=(aH.setCell (p:=⟨w.heap.size,0,none⟩) zBR (.int .i64 0)).setCell (p:=⟨w.heap.size,1,none⟩) zBR (.int .i64 0);clear KR;go_wp2;exact bodyPost_ret (v:=.agg #[.int .i64 0,.int .i64 0]) (by simp [results,Tryz.results51,go_sem,r0,r1]) rfl ⟨by rw [HZ.out],BR⟩
  case pos=>
   have dj:i<l.length:=(by have:=HN.out;omega);have hdr:l.drop i=l[i] :: l.drop (i+1):=List.drop_eq_getElem_cons dj;have bY:=H.out;rw [hdr] at bY;obtain ⟨gw,dk,eqs,_,_,bg⟩:=(HL.out.under aH).at;injection eqs with q1 q2 q3;subst q1;obtain ⟨bb,o,z,rfl,hb,bo,dA⟩:=bg i dj;obtain ⟨y,hy⟩:=nmQ (l[i]);have lF:=HF.out y (by rw [hy];exact List.getElem_mem dj);rw [<-hy] at bo dA bY;obtain ⟨e0,e1,e2,e3,e4,e5⟩:=bo;unfold Sk.firstR at bY;have bA:Below wr.heap.size wr (wr.alloc (.cells #[.int .i64 y.op,.int .i64 y.k,.int .i64 y.out,.int .i64 y.n,.slice z.aA z.nA z.cA,.slice z.aE z.nE z.cE] 42 (0,0))):=(Below.refl _ _).alloc zBR _;have BA:=aH.trans (bA.mono aH.size);have kA:=(bA.block _ (zBM kr)).trans kr;have kV:=zBO wr (.cells #[.int .i64 y.op,.int .i64 y.k,.int .i64 y.out,.int .i64 y.n,.slice z.aA z.nA z.cA,.slice z.aE z.nE z.cE] 42 (0,0));have hc:=zAc y.op y.k y.out y.n (HK.out.under BA) (HM.out.under BA) rX.out hmx (dA.A.under bA) (dA.E.under bA) lF.1 lF.2.1 lF.2.2;have JV:Sk.firstI (fun z=>Sk.unmade m z.toNat) (usesT y.A (Sk.ownE y.op y.E))=Sk.usesC m y:=rfl;rw [JV] at hc;clear JV;generalize Sk.usesC m y=cd at hc bY;have cq:=zBK bY;clear bg q2 q3 hy hdr bY H dA lF;go_upto_region 4 with fail;generalize wr.alloc (.cells #[.int .i64 y.op,.int .i64 y.k,.int .i64 y.out,.int .i64 y.n,.slice z.aA z.nA z.cA,.slice z.aE z.nE z.cE] 42 (0,0))=wa at bA BA kA kV hc ⊢;have v0:=coQ kV 0;have v1:=coQ kV 1;have v2:=coQ kV 2;have v3:=coQ kV 3;have v4:=coQ kV 4;have v5:=coQ kV 5;simp at v0 v1 v2 v3 v4 v5;go_wp2_with fail;refine hc.mono ?_;rintro e w4 ⟨rfl,b4⟩;have B4:=BA.trans (b4.mono BA.size);have k4:=(b4.block _ (zBM kA)).trans kA;clear hc v0 v1 v2 v3 v4 v5 kV;by_cases hz:cd=0
   case pos=>
    have dZ:(cd != 0)=false:=(by simp [hz]);have HZ:Hid (R=Sk.firstR (Sk.usesC m) (i+1) (l.drop (i+1))):=zBK (by rw [cq.out,if_neg (by simp [hz])]);clear cq hz;go_wp2_with fail;go_roundg (n-(i+1))
    case measure=>omega
    case rel=>exact ⟨i+1,by omega,rfl,by go_num,HZ,B4,k4⟩
   case neg=>
    have dZ:(cd != 0)=true:=(by simp [hz]);have HZ:Hid (R=(cd,(i:Int))):=zBK (by rw [cq.out,if_pos hz]);clear cq hz;go_wp2_with fail;refine (zAy i w4).mono ?_;rintro e w5 ⟨rfl,b5⟩;have B5:=B4.trans (b5.mono B4.size);have k5:=(b5.block _ (zBM k4)).trans k4;have cJ:=coQ k5 0;have cW:=coQ k5 1;have eO:=foQ k5 0;have fl:=foQ k5 1;simp at cJ cW;have KR:=zBQ (zBQ k5 0 (.int .i64 cd)) 1 (.int .i64 (i:Int));have r0:=coQ KR 0;have r1:=coQ KR 1;simp at r0 r1;have BR:=(B5.setCell (p:=⟨w.heap.size,0,none⟩) zBR (.int .i64 cd)).setCell (p:=⟨w.heap.size,1,none⟩) zBR (.int .i64 (i:Int));clear KR;go_wp2;exact bodyPost_ret (v:=.agg #[.int .i64 cd,.int .i64 (i:Int)]) (by simp [results,Tryz.results51,go_sem,r0,r1]) rfl ⟨by rw [HZ.out],BR⟩
end Go.Proofs.YtfhghlpfeeiaeaaGreatDoor
namespace Go.Proofs.YtfhghlpfeeiaeaaGreatDoor
open Go.RowKit Go.IntWalk
namespace Sk
def opEff (p:Pu):List Int × Int:=(List.replicate (Kd.opT p.k).2.2.toNat (Kd.opT p.k).1,when ((((Kd.opT p.k).2.2==1)&&(p.op==5)) || (((Kd.opT p.k).2.2==2)&&(p.op==6))) (Kd.opT p.k).2.1)
def vAt (V:List Vr) (x:Int):Vr:=V.getD x.toNat (sc 0)
def effect (V:List Vr) (p:Pu) (cells:Int) (st:List Int):List Int × Int :=
 if p.op=1 then ([],madeNum p)
 else if p.op=2\/p.op=3 then ([],madeVar p (vAt V p.v) cells)
 else if p.op=4 then ([],when (decide (-1000000<=p.n)&&decide (p.n<=1000000)) 105)
 else if p.op=5\/p.op=6 then opEff p
 else if p.op=7 then choice st
 else if p.op=8 then ([105,(vAt V p.v).elem],when (arr (vAt V p.v)) (vAt V p.v).elem)
 else ([],0)
def ends (st t:List Int):Bool:=decide (t.length<=st.length)&&(st.drop (st.length-t.length)==t)
def treeL (V:List Vr) (cells:Int):List Int->List Pu->Int
 | st,[]=>if st.length=1 then st.getD 0 0 else 0
 | st,p :: r=>if (effect V p cells st).2=0\/ends st (effect V p cells st).1=false then 0 else treeL V cells (st.take (st.length-(effect V p cells st).1.length)++[(effect V p cells st).2]) r
def fitsT (V:List Vr) (op k n:Int) (o:Vr) (a:List Vr) (E:List Pu):Bool :=
 if op=14 then treeL V (max 1 o.n) [] E==o.elem
 else if op=15 then (((goesFrom k (nt a 0)&&same o (nt a 0))&&decide (1<=n))&&decide (n<=300))&&(treeL V n [] E==o.elem)
 else (goesFrom k (nt a 0)&&arrOf o (nt a 0))&&(treeL V o.n [] E==o.elem)
def fitsR (V:List Vr) (r:Ru):Bool :=
 if r.op<14 then fits r.op r.k r.n (vAt V r.out) (r.A.map (vAt V)) else fitsT V r.op r.k r.n (vAt V r.out) (r.A.map (vAt V)) r.E
def codeRule (V:List Vr) (m:List Bool) (r:Ru):Int × List Bool :=
 if isNone m.length r.out=true then (16,m)
 else if m.getD r.out.toNat false=true then (8,m)
 else if hasForm r.op r.A.length=false then (4,m)
 else if 24<(ownE r.op r.E).length then (7,m)
 else if (usesT r.A (ownE r.op r.E)).any (isNone m.length)=true then (16,m)
 else if fitsR V r=false then (10,m)
 else (0,m.set r.out.toNat true)
def rulesL (V:List Vr):List Bool->Nat->List Ru->(Int × Int) × List Bool
 | m,_,[]=>((0,0),m)
 | m,i,r :: l=>if (codeRule V m r).1≠0 then (((codeRule V m r).1,(i:Int)),m) else rulesL V (codeRule V m r).2 (i+1) l
structure Sys where
 V:List Vr
 I:List Int
 O:List Int
 R:List Ru
def m0 (S:Sys):List Bool:=(givenL (List.replicate S.V.length false) S.I).2
def m1 (S:Sys):List Bool:=(rulesL S.V (m0 S) 0 S.R).2
def check (S:Sys):Int × Int :=
 if tooMany S.V.length S.I.length S.O.length S.R.length=true then (7,-1)
 else if (firstV 0 S.V).1≠0 then firstV 0 S.V
 else if (givenL (List.replicate S.V.length false) S.I).1≠0 then ((givenL (List.replicate S.V.length false) S.I).1,-1)
 else if firstI (codeNum S.V.length) S.O≠0 then (firstI (codeNum S.V.length) S.O,-1)
 else if (rulesL S.V (m0 S) 0 S.R).1.1≠0 then (rulesL S.V (m0 S) 0 S.R).1
 else if (firstR (usesC (m1 S)) 0 S.R).1≠0 then firstR (usesC (m1 S)) 0 S.R
 else if firstI (fun z=>unmade (m1 S) z.toNat) S.O≠0 then (firstI (fun z=>unmade (m1 S) z.toNat) S.O,-1)
 else (0,0)
end Sk
end Go.Proofs.YtfhghlpfeeiaeaaGreatDoor
