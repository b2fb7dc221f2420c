import Derived.Test.YtnhmcpnbaajjcaaGreatDoorC39
import Derived.Test.YtnhmcpnbaajjcaaGreatDoorC37
import Derived.Deep.Cut
import Derived.Deep.LoopGhost
import Derived.Ground.NamesProg
import Derived.IntWalk
import Derived.Laws.Cover1
import Derived.Laws.EntriesVeiled
import Derived.Laws.Externs
import Derived.Lib.Hide
import Derived.Lib.MakeNoZero
import Derived.Lib.SlBuf
import Derived.Maps.OwnSet
import Derived.Shelf.Bytes.SlSmallAll
import Derived.Shelf.Lay
import Derived.WalkKit
import Derived.WalkSpells
set_option linter.unusedVariables false
set_option linter.unusedSimpArgs false
set_option maxHeartbeats 64000000
set_option maxRecDepth 100000
namespace Go.Proofs.YtnhmcpnbaajjcaaGreatDoor
open Go.RowKit Go.IntWalk
theorem qQ {w:World} {rb:Nat} {op K out n:Int} {aA aE:Option Addr} {nA cA nE cE:Nat} {g:Nat->Int} {N:Nat} (ho:op=6\/op=7\/14<=op) (hct:Calls Tryz.prog 110 #[.agg #[.pointer (some ⟨rb,0,none⟩),.int .i64 op,.int .i64 K,.int .i64 out,.int .i64 n,.slice aA nA cA,.slice aE nE cE]] (w.alloc (.cells #[.pointer (some ⟨rb,0,none⟩),.int .i64 op,.int .i64 K,.int .i64 out,.int .i64 n,.slice aA nA cA,.slice aE nE cE] 110 (0,0))) fun e w'=>CellPost (w.alloc (.cells #[.pointer (some ⟨rb,0,none⟩),.int .i64 op,.int .i64 K,.int .i64 out,.int .i64 n,.slice aA nA cA,.slice aE nE cE] 110 (0,0))) w' e g N):Calls Tryz.prog 70 #[.agg #[.pointer (some ⟨rb,0,none⟩),.int .i64 op,.int .i64 K,.int .i64 out,.int .i64 n,.slice aA nA cA,.slice aE nE cE]] w fun e w'=>CellPost w w' e g N:=by
 have b1:Below w.heap.size w (w.alloc (.cells #[.pointer (some ⟨rb,0,none⟩),.int .i64 op,.int .i64 K,.int .i64 out,.int .i64 n,.slice aA nA cA,.slice aE nE cE] 110 (0,0))):=(Below.refl _ _).alloc zL _;have kM:=zH w (.cells #[.pointer (some ⟨rb,0,none⟩),.int .i64 op,.int .i64 K,.int .i64 out,.int .i64 n,.slice aA nA cA,.slice aE nE cE] 110 (0,0));have e1:(op==1)=false:=(by rw [beq_eq_false_iff_ne];omega);have e2:(op==2)=false:=(by rw [beq_eq_false_iff_ne];omega);have e3:(op==3)=false:=(by rw [beq_eq_false_iff_ne];omega);have e4:(op==4)=false:=(by rw [beq_eq_false_iff_ne];omega);have e5:(op==5)=false:=(by rw [beq_eq_false_iff_ne];omega);have e8:(op==8)=false:=(by rw [beq_eq_false_iff_ne];omega);have e9:(op==9)=false:=(by rw [beq_eq_false_iff_ne];omega);have e10:(op==10)=false:=(by rw [beq_eq_false_iff_ne];omega);have e11:(op==11)=false:=(by rw [beq_eq_false_iff_ne];omega);have e12:(op==12)=false:=(by rw [beq_eq_false_iff_ne];omega);have e13:(op==13)=false:=(by rw [beq_eq_false_iff_ne];omega);have HCT:=zD hct;clear hct ho;go_enter Tryz.func70,Tryz.ntmps70;go_upto_region 1 with fail;generalize w.alloc (.cells #[.pointer (some ⟨rb,0,none⟩),.int .i64 op,.int .i64 K,.int .i64 out,.int .i64 n,.slice aA nA cA,.slice aE nE cE] 110 (0,0))=w1 at b1 kM HCT ⊢;have m0:=coQ kM 0;have m1:=coQ kM 1;have m2:=coQ kM 2;have m3:=coQ kM 3;have m4:=coQ kM 4;have m5:=coQ kM 5;have m6:=coQ kM 6;simp at m0 m1 m2 m3 m4 m5 m6;go_wp2_with fail;refine HCT.out.mono ?_;rintro e w2 ⟨v,rfl,hT,b2⟩;obtain ⟨N2,bs,cs,J,S,rfl,hrest⟩:=hT;have HEND:=zD (show Tells w w2 (.func (.func N2) bs cs) g N/\Below w.heap.size w w2 from ⟨Tells.since ⟨N2,bs,cs,J,S,rfl,hrest⟩ b1.size,b1.trans (b2.mono b1.size)⟩);clear hrest m0 m1 m2 m3 m4 m5 m6 kM HCT;go_wp2;go_ret;exact ⟨_,rfl,HEND.out.1,HEND.out.2⟩
namespace Sk
theorem aN_get {r:Ru} {i:Nat} (h:i<r.A.length):aN r i=r.A[i]:=by unfold aN;simp [List.getD_eq_getElem?_getD,h]
end Sk
theorem cell_any {w:World} {rb:Nat} {ok okC:Nat->Prop} {x:WkV} {vC:Value} {oA:Option Nat} {C:List (List Int)} {V:List Sk.Vr} {r:Sk.Ru} {y:RuV} {f:Int->Option Value} {ah:Int->Option (List Int)} (hr:RowAt w rb x vC (.map oA)) (hC:HRow kLL okC w vC C) (hu:HRu ok w y r) (hf:AhIs w oA f) (hah:AhRel (fun i=>i<w.heap.size) w f ah) (fit:Sk.RFit V C ah r) (hlz:∀ z,(Sk.cAt C z).length<=300) (hV:V.length<=400) (hCV:C.length=V.length) :
  Calls Tryz.prog 70 #[.agg #[.pointer (some ⟨rb,0,none⟩),.int .i64 r.op,.int .i64 r.k,.int .i64 r.out,.int .i64 r.n,.slice y.aA y.nA y.cA,.slice y.aE y.nE y.cE]] w fun e w'=>CellPost w w' e (Sk.evalG C ah r) (Sk.cnt (Sk.vAt V r.out)):=by
 have hA:=hu.A;have hE:=hu.E;have hrng:∀ i (h:i<r.A.length),0<=r.A[i]/\r.A[i]<C.length:=fun i h=>fit.rng _ (List.getElem_mem h);have hone:r.op≠13->∀ i (h:i<r.A.length),0<(Sk.cAt C r.A[i]).length:=fun q i h=>fit.one q _ (List.getElem_mem h);have hnA:=fit.nA;have hpt:∀ i (h:i<r.A.length),Sk.pt C r i=Sk.cAt C r.A[i]:=fun i h=>by unfold Sk.pt;rw [Sk.aN_get h]
 have b1:Below w.heap.size w (w.alloc (.cells #[.pointer (some ⟨rb,0,none⟩),.int .i64 r.op,.int .i64 r.k,.int .i64 r.out,.int .i64 r.n,.slice y.aA y.nA y.cA,.slice y.aE y.nE y.cE] 110 (0,0))):=(Below.refl _ _).alloc zL _;have hr1:=hr.under b1;have hC1:=(hC.wide (ok':=fun _=>True) fun i _ _=>trivial).keep b1.size (fun i _ h=>b1.block i h);have hA1:=hA.under b1;have hE1:=hE.under b1;have htr:14<=r.op->r.E.length<=1000:=fun q=>by have:=fit.tree;unfold Sk.ownE at this;rw [if_neg (by omega)] at this;omega
 have hop:r.op=1\/r.op=2\/r.op=3\/r.op=4\/r.op=5\/r.op=6\/r.op=7\/r.op=8\/r.op=9\/r.op=10\/r.op=11\/r.op=12\/r.op=13\/r.op=14\/r.op=15\/r.op=16:=(by have:=fit.op;omega);rcases hop with e | e | e | e | e | e | e | e | e | e | e | e | e | e | e | e
 ·
  have hl:r.A.length=0:=(by rw [e] at hnA;have:Sk.partsT.getD (1:Int).toNat 0=0:=rfl;omega);rw [e];refine (cellA_any (N:=Sk.cnt (Sk.vAt V r.out))).mono fun _ _ h=>?_;exact h.same fun k _=>by simp [Sk.evalG,e,Sk.sca]
 ·
  have hl:r.A.length=1:=(by rw [e] at hnA;have:Sk.partsT.getD (2:Int).toNat 0=1:=rfl;omega);have l0:0<r.A.length:=(by omega);have p0:=hpt 0 l0;have g:=fit.f2 (by omega);rw [p0] at g;rw [e];refine (cellB_any (N:=Sk.cnt (Sk.vAt V r.out)) hr hC hA l0 (hrng 0 l0) g).mono fun _ _ h=>?_;exact h.same fun k _=>by simp [Sk.evalG,e,Sk.sca,p0]
 ·
  have hl:r.A.length=1:=(by rw [e] at hnA;have:Sk.partsT.getD (3:Int).toNat 0=1:=rfl;omega);have l0:0<r.A.length:=(by omega);have p0:=hpt 0 l0;have g:=fit.f2 (by omega);rw [p0] at g;rw [e];refine (cellC_any (N:=Sk.cnt (Sk.vAt V r.out)) hr hC hA l0 (hrng 0 l0) g).mono fun _ _ h=>?_;exact h.same fun k _=>by simp [Sk.evalG,e,Sk.sca,p0]
 ·
  have hl:r.A.length=2:=(by rw [e] at hnA;have:Sk.partsT.getD (4:Int).toNat 0=2:=rfl;omega);have l0:0<r.A.length:=(by omega);have p0:=hpt 0 l0;have l1:1<r.A.length:=(by omega);have p1:=hpt 1 l1;have g:=fit.f2 (by omega);rw [p0] at g;have g4:=fit.f4 (by omega);rw [p1] at g4;rw [e];refine (cellD_any (N:=Sk.cnt (Sk.vAt V r.out)) hr hC hA l0 l1 (hrng 0 l0) (hrng 1 l1) g g4).mono fun _ _ h=>?_;exact h.same fun k _=>by simp [Sk.evalG,e,Sk.sca,p0,p1]
 ·
  have hl:r.A.length=3:=(by rw [e] at hnA;have:Sk.partsT.getD (5:Int).toNat 0=3:=rfl;omega);have l0:0<r.A.length:=(by omega);have p0:=hpt 0 l0;have l1:1<r.A.length:=(by omega);have p1:=hpt 1 l1;have l2:2<r.A.length:=(by omega);have p2:=hpt 2 l2;have g4:=fit.f4 (by omega);rw [p1] at g4;have g5:=fit.f5 e;rw [p2] at g5;rw [e];refine (cellE_any (N:=Sk.cnt (Sk.vAt V r.out)) hr hC hA l0 l1 l2 (hrng 0 l0) (hrng 1 l1) (hrng 2 l2) (hone (by omega) 0 l0) g4 g5).mono fun _ _ h=>?_;exact h.same fun k _=>by simp [Sk.evalG,e,Sk.sca,p0,p1,p2]
 ·
  have hl:r.A.length=2:=(by rw [e] at hnA;have:Sk.partsT.getD (6:Int).toNat 0=2:=rfl;omega);have l0:0<r.A.length:=(by omega);have p0:=hpt 0 l0;have l1:1<r.A.length:=(by omega);have p1:=hpt 1 l1;rw [e] at b1 hr1 hC1 hA1 hE1;rw [e];refine (qQ (by omega) (walkF_any (N:=Sk.cnt (Sk.vAt V r.out)) hr1 hC1 hA1 l1 (hrng 1 l1) l0 (hrng 0 l0) (hone (by omega) 0 l0) (hone (by omega) 1 l1) (by have:=fit.f6 e;rw [p1] at this;exact this))).mono fun _ _ h=>?_;exact h.same fun k _=>by simp [Sk.evalG,e,Sk.sca,p0,p1]
 ·
  have hl:r.A.length=2:=(by rw [e] at hnA;have:Sk.partsT.getD (7:Int).toNat 0=2:=rfl;omega);have l0:0<r.A.length:=(by omega);have p0:=hpt 0 l0;have l1:1<r.A.length:=(by omega);have p1:=hpt 1 l1;have g4:=fit.f4 (by omega);rw [p1] at g4;rw [e] at b1 hr1 hC1 hA1 hE1;rw [e];refine (qQ (by omega) (walkG_any (N:=Sk.cnt (Sk.vAt V r.out)) hr1 hC1 hA1 l1 (hrng 1 l1) l0 (hrng 0 l0) (hone (by omega) 0 l0) g4)).mono fun _ _ h=>?_;exact h.same fun k _=>by simp [Sk.evalG,e,Sk.sca,p0,p1]
 ·
  have hl:r.A.length=1:=(by rw [e] at hnA;have:Sk.partsT.getD (8:Int).toNat 0=1:=rfl;omega);have l0:0<r.A.length:=(by omega);have p0:=hpt 0 l0;rw [e];refine (cellH_any (N:=Sk.cnt (Sk.vAt V r.out)) hr hC hA l0 (hrng 0 l0) (hone (by omega) 0 l0)).mono fun _ _ h=>?_;exact h.same fun k _=>by simp [Sk.evalG,e,Sk.sca,p0]
 ·
  have hl:r.A.length=3:=(by rw [e] at hnA;have:Sk.partsT.getD (9:Int).toNat 0=3:=rfl;omega);have l0:0<r.A.length:=(by omega);have p0:=hpt 0 l0;have l1:1<r.A.length:=(by omega);have p1:=hpt 1 l1;have l2:2<r.A.length:=(by omega);have p2:=hpt 2 l2;rw [e];refine (cellI_any (N:=Sk.cnt (Sk.vAt V r.out)) hr hC hA l0 l1 l2 (hrng 0 l0) (hrng 1 l1) (hrng 2 l2) (hone (by omega) 1 l1) (hone (by omega) 2 l2)).mono fun _ _ h=>?_;exact h.same fun k _=>by simp [Sk.evalG,e,Sk.sca,p0,p1,p2]
 ·
  have hl:r.A.length=3:=(by rw [e] at hnA;have:Sk.partsT.getD (10:Int).toNat 0=3:=rfl;omega);have l0:0<r.A.length:=(by omega);have p0:=hpt 0 l0;have l1:1<r.A.length:=(by omega);have p1:=hpt 1 l1;have l2:2<r.A.length:=(by omega);have p2:=hpt 2 l2;have g:=fit.f2 (by omega);rw [p0] at g;rw [e];refine (cellJ_any (N:=Sk.cnt (Sk.vAt V r.out)) hr hC hA l0 l1 l2 (hrng 0 l0) (hrng 1 l1) (hrng 2 l2) (hone (by omega) 1 l1) (hone (by omega) 2 l2) g).mono fun _ _ h=>?_;exact h.same fun k _=>by simp [Sk.evalG,e,Sk.sca,p0,p1,p2]
 ·
  have hl:r.A.length=1:=(by rw [e] at hnA;have:Sk.partsT.getD (11:Int).toNat 0=1:=rfl;omega);have l0:0<r.A.length:=(by omega);have p0:=hpt 0 l0;have g:=fit.f11 e;rw [p0] at g;obtain ⟨fN,hfN⟩:∃ fN:Nat,r.n=(fN:Int):=⟨r.n.toNat,by omega⟩;have q:r.n.toNat=fN:=(by omega);rw [e,hfN];refine (cellK_any (N:=Sk.cnt (Sk.vAt V r.out)) (f:=fN) hr hC hA l0 (hrng 0 l0) (by omega) (hlz _)).mono fun _ _ h=>?_;exact h.same fun k _=>by simp [Sk.evalG,e,p0,q]
 ·
  have hl:r.A.length=2:=(by rw [e] at hnA;have:Sk.partsT.getD (12:Int).toNat 0=2:=rfl;omega);have l0:0<r.A.length:=(by omega);have p0:=hpt 0 l0;have l1:1<r.A.length:=(by omega);have p1:=hpt 1 l1;have g:=fit.f12 e;rw [p0,p1] at g;rw [e];refine (cellL_any (N:=Sk.cnt (Sk.vAt V r.out)) hr hC hA l0 l1 (hrng 0 l0) (hrng 1 l1) g (hlz _) (Nat.le_trans fit.sz (by decide))).mono fun _ _ h=>?_;exact h.same fun k _=>by simp [Sk.evalG,e,Sk.sca,p0,p1]
 ·
  have hl:r.A.length=2:=(by rw [e] at hnA;have:Sk.partsT.getD (13:Int).toNat 0=2:=rfl;omega);have l0:0<r.A.length:=(by omega);have p0:=hpt 0 l0;have l1:1<r.A.length:=(by omega);have p1:=hpt 1 l1;have g:=fit.f2 (by omega);rw [p0] at g;have a1:=Sk.aN_get l1;have hw1:(Lit.int .i64 r.A[1]).wf=true:=by
   have:=hrng 1 l1;simp [Lit.wf,IntKind.min,IntKind.max,IntKind.signed,IntKind.bits];omega
  rw [e];refine (cellM_any (N:=Sk.cnt (Sk.vAt V r.out)) hr hC hA hf hah l0 l1 (hrng 0 l0) hw1 (by
   cases hh:ah r.A[1] with
   | none=>exact g
   | some l=>exact fit.f13 e l (by rw [a1];exact hh))).mono fun _ _ h=>?_
  exact h.same fun k _=>by simp [Sk.evalG,e,p0,a1]
 ·
  have hl:r.A.length=0:=(by rw [e] at hnA;have:Sk.partsT.getD (14:Int).toNat 0=0:=rfl;omega);rw [e] at b1 hr1 hC1 hA1 hE1;rw [e];refine (qQ (by omega) (walkN_any (N:=Sk.cnt (Sk.vAt V r.out)) hr1 hC1 hA1 hE1 (fit.f14 (by omega)) hlz fit.sz (htr (by omega)))).mono fun _ _ h=>?_;exact h.same fun k _=>by simp [Sk.evalG,e,Sk.sca]
 ·
  have hl:r.A.length=1:=(by rw [e] at hnA;have:Sk.partsT.getD (15:Int).toNat 0=1:=rfl;omega);have l0:0<r.A.length:=(by omega);have p0:=hpt 0 l0;have g:=fit.f15 e;obtain ⟨fN,hfN⟩:∃ fN:Nat,r.n=(fN:Int):=⟨r.n.toNat,by omega⟩;have q:r.n.toNat=fN:=(by omega);rw [q] at g;rw [e,hfN] at b1 hr1 hC1 hA1 hE1;rw [e,hfN];refine (qQ (by omega) (walkO_any (N:=Sk.cnt (Sk.vAt V r.out)) (f:=fN) hr1 hC1 hA1 l0 (hrng 0 l0) (hone (by omega) 0 l0) hE1 (by omega) g.2 hlz (by omega) (htr (by omega)))).mono fun _ _ h=>?_;exact h.same fun k _=>by simp [Sk.evalG,e,p0,Sk.sca,q]
 ·
  have hl:r.A.length=1:=(by rw [e] at hnA;have:Sk.partsT.getD (16:Int).toNat 0=1:=rfl;omega);have l0:0<r.A.length:=(by omega);have p0:=hpt 0 l0;rw [e] at b1 hr1 hC1 hA1 hE1;rw [e];refine (qQ (by omega) (walkP_any (N:=Sk.cnt (Sk.vAt V r.out)) hr1 hC1 hA1 l0 (hrng 0 l0) (hone (by omega) 0 l0) hE1 (fit.f14 (by omega)) hlz fit.sz (htr (by omega)))).mono fun _ _ h=>?_;exact h.same fun k _=>by simp [Sk.evalG,e,Sk.sca,p0]
end Go.Proofs.YtnhmcpnbaajjcaaGreatDoor
namespace Go.Proofs.YtnhmcpnbaajjcaaGreatDoor
open Go.Shelf Go.RowKit Go.Lib Go.IntWalk
def CellsAt (ok:Nat->Prop) (w:World) (cb:Nat) (C:List (List Int)):Prop:=∃ cur:Array Value,w.heap[cb]?=some (.cells cur 52 (0,0))/\cur.size=C.length/\∀ i (h:i<C.length),∃ a n c,cur[i]?=some (.slice a n c)/\HInts ok w (.slice a n c) C[i]
theorem CellsAt.keep {ok:Nat->Prop} {w w':World} {cb:Nat} {C:List (List Int)} (h:CellsAt ok w cb C) (h0:w'.heap[cb]?=w.heap[cb]?) (h1:w.heap.size<=w'.heap.size) (h2:∀ i,ok i->i<w.heap.size->w'.heap[i]?=w.heap[i]?):CellsAt ok w' cb C:=by
 obtain ⟨cur,k,hz,hc⟩:=h;refine ⟨cur,h0.trans k,hz,fun i hi=>?_⟩;obtain ⟨a,n,c,e,hu⟩:=hc i hi;exact ⟨a,n,c,e,hu.keep h1 h2⟩
theorem CellsAt.lt {ok:Nat->Prop} {w:World} {cb:Nat} {C:List (List Int)} (h:CellsAt ok w cb C):cb<w.heap.size:=by
 obtain ⟨cur,k,_⟩:=h;exact zG k
theorem CellsAt.under {ok:Nat->Prop} {w w':World} {cb:Nat} {C:List (List Int)} (h:CellsAt ok w cb C) (b:Below w.heap.size w w'):CellsAt ok w' cb C:=h.keep (b.block _ h.lt) b.size (fun i _ hl=>b.block i hl)
theorem CellsAt.row {ok:Nat->Prop} {w:World} {cb:Nat} {C:List (List Int)} (h:CellsAt ok w cb C) (hm:C.length<=400):HRow kLL (fun _=>True) w (.slice (some ⟨cb,0,none⟩) C.length C.length) C:=by
 have hlt:=h.lt;obtain ⟨cur,k,hz,hc⟩:=h;refine ⟨fun i=>[cur.getD i (.slice none 0 0)],⟨_,_,rfl,Nat.le_refl _,by unfold maxLen;omega,fun _=>⟨cb,0,rfl,trivial,hlt,fun i hi=>⟨rfl,fun j hj=>?_⟩⟩⟩,fun i hi=>?_⟩
 ·obtain ⟨a,n,c,e,hu⟩:=hc i hi
  have hj0:j=0:=(by have:j<1:=hj;omega);subst hj0;have:=coQ k i;have e2:0+i*kLL.k+0=i:=(by show 0+i*1+0=i;omega);rw [e2,this,e];simp [Array.getD_eq_getD_getElem?,e]
 ·obtain ⟨a,n,c,e,hu⟩:=hc i hi
  exact ⟨_,rfl,by simp only [Array.getD_eq_getD_getElem?,e,Option.getD_some];exact hu.wide fun _ _ _=>trivial⟩
theorem CellsAt.at {ok:Nat->Prop} {w:World} {cb:Nat} {C:List (List Int)} (h:CellsAt ok w cb C) (i:Nat) (hi:i<C.length):∃ a n c,w.cell? ⟨cb,i,none⟩=some (.slice a n c)/\HInts ok w (.slice a n c) C[i]:=by
 obtain ⟨cur,k,hz,hc⟩:=h;obtain ⟨a,n,c,e,hu⟩:=hc i hi;exact ⟨a,n,c,(coQ k i).trans e,hu⟩
theorem CellsAt.free {ok:Nat->Prop} {w:World} {cb:Nat} {C:List (List Int)} (h:CellsAt ok w cb C) (i:Nat):w.frozen? ⟨cb,i,none⟩=false:=by
 obtain ⟨cur,k,hz,hc⟩:=h;exact foQ k i
theorem CellsAt.set {ok:Nat->Prop} {w:World} {cb:Nat} {C:List (List Int)} (h:CellsAt ok w cb C) (hok:¬ok cb) {i:Nat} (hi:i<C.length) {a:Option Addr} {n c:Nat} {l:List Int} (hl:HInts ok w (.slice a n c) l):CellsAt ok (w.setCell ⟨cb,i,none⟩ (.slice a n c)) cb (C.set i l):=by
 obtain ⟨cur,k,hz,hc⟩:=h;have hb:∀ q,ok q->q<w.heap.size->(w.setCell ⟨cb,i,none⟩ (.slice a n c)).heap[q]?=w.heap[q]?:=fun q hq _=>by
  have hne:q≠cb:=fun e=>hok (e ▸ hq);simp [World.setCell,Array.getElem?_modify,Ne.symm hne]
 have hs:w.heap.size<=(w.setCell ⟨cb,i,none⟩ (.slice a n c)).heap.size:=(by simp [World.setCell]);refine ⟨cur.setIfInBounds i (.slice a n c),zP k i _,by simpa using hz,fun j hj=>?_⟩;rw [List.length_set] at hj;by_cases e:i=j
 ·subst e
  have hic:i<cur.size:=(by omega);exact ⟨a,n,c,by simp [hic],by rw [List.getElem_set_self];exact hl.keep hs hb⟩
 ·obtain ⟨a',n',c',e',hu⟩:=hc j hj
  exact ⟨a',n',c',by rw [Array.getElem?_setIfInBounds_ne e];exact e',by rw [List.getElem_set_ne e];exact hu.keep hs hb⟩
theorem CellsAt.made {ok:Nat->Prop} (w:World) (n:Nat):CellsAt ok (w.alloc (.cells (Array.replicate n (.slice none 0 0)) 52 (0,0))) w.heap.size (List.replicate n []) :=
 ⟨_,zH _ _,by simp,fun i hi=>⟨none,0,0,by simp at hi;simp [hi],by rw [List.getElem_replicate];exact ⟨fun _=>[],Sl.nil,fun j h=>absurd h (Nat.not_lt_zero _)⟩⟩⟩
theorem zAJ {ok:Nat->Prop} {w:World} {v:Value} {l:List Int} {N:Nat} {p:Int->Bool} (eg:∀ args w,(callFunc N args).run Tryz.prog w=.ok (.enter N args) w) (hl:HInts ok w v l) (hp:∀ x ∈ l,∀ W,Below w.heap.size w W->Calls Tryz.prog N #[.int .i64 x] W fun e W'=>e=.returned (.bool (p x))/\Below W.heap.size W W') :
  Calls Tryz.prog 67 #[v,.func (.func N) #[] #[]] w fun e w'=>e=.returned (.int .i64 (Sk.idxI p 0 l))/\Below w.heap.size w w':=by
 obtain ⟨ao,cap,rfl,hc1,hc2,-⟩:=hl.at;unfold maxLen at hc2;obtain ⟨R,hR⟩:=nmQ (Sk.idxI p 0 l);rw [<-hR];have HR:=zD (show R=Sk.idxI p 0 (l.drop 0) by rw [List.drop_zero];exact hR);have HL:=zD hl;have HP:=zD hp;clear hR hl hp;obtain ⟨n,hn⟩:=nmQ (l.length);rw [<-hn] at hc1 ⊢;have HN:=zD hn;clear hn;go_enter Tryz.func67,Tryz.ntmps67;go_wp2_with fail;go_loopg [8] n (fun k v wr=>∃ i,i<=n/\k=n-i/\v=.int .i64 (i:Nat)/\Hid (R=Sk.idxI p i (l.drop i))/\Below w.heap.size w wr)
 case atStart=>exact ⟨0,Nat.zero_le _,rfl,rfl,HR,Below.refl _ _⟩
 case round=>
  clear HR;obtain ⟨i,hi,rfl,rfl,H,hbr⟩:=hrel;by_cases hlt:i<n
  case neg=>
   have hin:i=n:=(by omega);subst hin;have e1:l.drop i=[]:=List.drop_of_length_le (by have:=HN.out;omega);have HZ:=zD (show R = -1 by rw [H.out,e1];rfl);clear e1;go_wp2;go_ret;exact ⟨by rw [HZ.out];rfl,hbr⟩
  case pos=>
   have hil:i<l.length:=(by have:=HN.out;omega);have hdr:l.drop i=l[i] :: l.drop (i+1):=List.drop_eq_getElem_cons hil;have hR1:=H.out;rw [hdr] at hR1;obtain ⟨ao',cap',eqs,-,-,hat2⟩:=(HL.out.under hbr).at;injection eqs with q1 q2 q3;subst q1;obtain ⟨bb,o,rfl,hb,e0⟩:=hat2 i hil;obtain ⟨y,hy⟩:=nmQ (l[i]);have hc:=HP.out y (by rw [hy];exact List.getElem_mem hil) wr hbr;rw [<-hy] at e0 hR1;unfold Sk.idxI at hR1;generalize p y=q at hc hR1;have HR1:=zD hR1;clear hat2 q2 q3 hy hdr hR1 H;go_wp2_with fail;refine hc.mono ?_;rintro e w4 ⟨rfl,b4⟩;have B4:=hbr.trans (b4.mono hbr.size);clear hc
   cases q
   case false=>
    have HZ:Hid (R=Sk.idxI p (i+1) (l.drop (i+1))):=zD (by rw [HR1.out];simp);clear HR1;go_wp2_with fail;go_roundg (n-(i+1))
    case measure=>omega
    case rel=>exact ⟨i+1,by omega,rfl,by go_num,HZ,B4⟩
   case true=>
    have HZ:Hid (R=(i:Int)):=zD (by rw [HR1.out];simp);clear HR1;go_wp2;go_ret;exact ⟨by rw [HZ.out];rfl,B4⟩
namespace Sk
theorem idxI_find (p:Int->Bool):∀ (l:List Int) (i:Nat),l.any p=true->idxI p i l=((i+l.findIdx p:Nat):Int)
 | [],i,h=>by simp at h
 | x :: r,i,h=>by
  unfold idxI;by_cases e:p x=true
  ·rw [if_pos e]
   simp [List.findIdx_cons,e]
  ·rw [if_neg e,idxI_find p r (i+1) (by simpa [e] using h)]
   have e2:p x=false:=(by simpa using e);simp [List.findIdx_cons,e2];omega
end Sk
end Go.Proofs.YtnhmcpnbaajjcaaGreatDoor
namespace Go.Proofs.YtnhmcpnbaajjcaaGreatDoor
open Go.RowKit Go.IntWalk
theorem run_any {w:World} {rb cb:Nat} {oA:Option Nat} {okS ok:Nat->Prop} {aV aI aO aR:Option Addr} {cV cI cO cR:Nat} {S:Sk.Sys} {C0:List (List Int)} {f:Int->Option Value} {ah:Int->Option (List Int)} (hr:RowAt w rb ⟨aV,S.V.length,cV,aI,S.I.length,cI,aO,S.O.length,cO,aR,S.R.length,cR,0⟩ (.slice (some ⟨cb,0,none⟩) S.V.length S.V.length) (.map oA)) (hS:HSys okS w aV aI aO aR cV cI cO cR S) (hC:CellsAt ok w cb C0) (hAh:∀ W,Aside [cb] w.heap.size w W->AhIs W oA f/\AhRel (fun i=>i<W.heap.size) W f ah) (hokS:¬okS cb) (hok:¬ok cb) (hnew:∀ i,w.heap.size<=i->ok i) (hrc:rb≠cb) (okay:Sk.Okay S) (hah:Sk.Ahead S) (hfine:Sk.Fine S.V S.I C0) (hAF:Sk.AhFine S.V ah) (hlen:∀ l ∈ C0,l.length<=300) :
  Calls Tryz.prog 43 #[.pointer (some ⟨rb,0,none⟩)] w fun e w'=>e=.returned (.tuple #[])/\CellsAt ok w' cb (Sk.runR S.V ah C0 S.R)/\Aside [cb] w.heap.size w w':=by
 obtain ⟨aoR,capR,evR,hR1,hR2,-⟩:=hS.R.at;injection evR with q1 q2 q3;subst q1 q3;clear q2;unfold maxLen at hR2;have hr0:=hr;unfold RowAt at hr0;have k3:=coQ hr0 3;simp at k3;have yR:=zG hr0;have yC:=hC.lt;have zR:=okay.nR;have zV:=okay.nV;obtain ⟨RR,hRR⟩:=nmQ (Sk.runR S.V ah C0 S.R);rw [<-hRR];have HRR:=zD (show RR=Sk.runR S.V ah C0 (S.R.drop 0) by rw [List.drop_zero];exact hRR);have HROW:=zD hr0;have HS:=zD hS;have HC:=zD hC;have HAH:=zD hAh;have HOS:=zD hokS;have HOK:=zD hok;have HNW:=zD hnew;have HRC:=zD hrc;have HO:=zD okay;have HAD:=zD hah;have HAF:=zD hAF;have HFI:=zD (show Sk.Fine S.V (S.I++(S.R.take 0).map (·.out)) C0 by simpa using hfine);have HLE:=zD hlen;clear hRR hr hr0 hS hC hAh hokS hok hnew hrc okay hah hAF hfine hlen;go_enter Tryz.func43,Tryz.ntmps43;go_wp2_with fail;go_loopg [10] S.R.length (fun k v wr=>∃ (i:Nat) (C:List (List Int)),i<=S.R.length/\k=S.R.length-i/\v=.int .i64 (i:Nat)/\Hid (RR=Sk.runR S.V ah C (S.R.drop i))/\Hid (Sk.Fine S.V (S.I++(S.R.take i).map (·.out)) C)/\Hid (∀ l ∈ C,l.length<=300)/\Hid (CellsAt ok wr cb C)/\Aside [cb] w.heap.size w wr)
 case atStart=>exact ⟨0,C0,Nat.zero_le _,rfl,rfl,HRR,HFI,HLE,HC,Aside.refl _⟩
 case round=>
  clear HRR HFI HLE HC k3;obtain ⟨i,C,hi,rfl,rfl,H,HFI,HLE,HC,fr⟩:=hrel;have zr:=fr.size;by_cases hlt:i<S.R.length
  case neg=>
   have hin:i=S.R.length:=(by omega);subst hin;have e1:S.R.drop S.R.length=[]:=List.drop_of_length_le zL;have HZ:=zD (show C=RR by rw [H.out,e1];rfl);clear e1 H;go_wp2;refine bodyPost_end (v:=.tuple #[]) (by simp [results,Tryz.results43,go_sem]) rfl ?_;exact ⟨rfl,by rw [<-HZ.out];exact HC.out,fr⟩
  case pos=>
   have hfit:=Sk.fine_rfit HO.out HAD.out HAF.out hlt HFI.out;have hfine2:=Sk.fine_step (ah:=ah) HO.out hlt HFI.out;have hdr:S.R.drop i=S.R[i] :: S.R.drop (i+1):=List.drop_eq_getElem_cons hlt;have hR:=H.out;rw [hdr] at hR;unfold Sk.runR at hR;have hSr:HSys okS wr aV aI aO aR cV cI cO cR S:=HS.out.keep zr (fun j hj hl=>fr.block j hl (by simp;exact fun e=>HOS.out (e ▸ hj)));have hrow:RowAt wr rb ⟨aV,S.V.length,cV,aI,S.I.length,cI,aO,S.O.length,cO,aR,S.R.length,cR,0⟩ (.slice (some ⟨cb,0,none⟩) S.V.length S.V.length) (.map oA):=fr.keep HROW.out yR (by simp;exact HRC.out);obtain ⟨ao',cap',eqs,-,-,hat2⟩:=hSr.R.at;injection eqs with q1 q2 q3;obtain ⟨bR,oR,y,hbR,yb,hat,hru⟩:=hat2 i hlt;rw [hbR] at q1;subst q1;obtain ⟨r,hr⟩:=nmQ (S.R[i]);rw [<-hr] at hat hru hfit hfine2 hR;obtain ⟨d0,d1,d2,d3,d4,d5⟩:=hat;have ho:=hfit.out;obtain ⟨q,hq⟩:∃ q:Nat,r.out=(q:Int):=⟨r.out.toNat,by omega⟩;have hqV:q<S.V.length:=(by omega);obtain ⟨ao3,cap3,eq3,hv1,hv2,hat3⟩:=hSr.V.at;injection eq3 with z1 z2 z3;subst z1 z3;obtain ⟨bV,oV,rfl,yV0,x0,y0⟩:=hat3 q hqV;unfold maxLen at hv2;have hev:Sk.vAt S.V r.out=S.V[q]:=(by rw [hq];exact qW hqV);have hCl:C.length=S.V.length:=HFI.out.len;have hlz:∀ z,(Sk.cAt C z).length<=300:=fun z=>by
    unfold Sk.cAt;rw [List.getD_eq_getElem?_getD]
    cases hg:C[z.toNat]? with
    | none=>simp
    | some l=>exact HLE.out l (List.mem_of_getElem? hg)
   have bA:Below wr.heap.size wr (wr.alloc (.cells #[.int .i64 r.op,.int .i64 r.k,.int .i64 r.out,.int .i64 r.n,.slice y.aA y.nA y.cA,.slice y.aE y.nE y.cE] 40 (0,0))):=(Below.refl _ _).alloc zL _;have kV:=zH wr (.cells #[.int .i64 r.op,.int .i64 r.k,.int .i64 r.out,.int .i64 r.n,.slice y.aA y.nA y.cA,.slice y.aE y.nE y.cE] 40 (0,0));have HCELL:=zD (fun (W:World) (hb:Below wr.heap.size wr W)=>cell_any (V:=S.V) (C:=C) (ah:=ah) (r:=r) (y:=y) (hrow.under hb) (by have:=(HC.out.under hb).row (by omega);rw [hCl] at this;exact this) (hru.under hb) (HAH.out W (fr.trans (aside hb) zr)).1 (HAH.out W (fr.trans (aside hb) zr)).2 hfit hlz (by omega) hCl);have hcc:=hfit.sz;rw [hev] at HCELL hcc;have HCT:=zD (fun W=>qM S.V[q] W);have HEV:=zD (show Sk.evalR S.V C ah r=(List.range (Sk.cnt S.V[q])).map (Sk.evalG C ah r) by unfold Sk.evalR;rw [hev]);have hle2:∀ l ∈ C.set r.out.toNat (Sk.evalR S.V C ah r),l.length<=300:=fun l hl=>by
    rcases List.mem_or_eq_of_mem_set hl with h | h
    ·exact HLE.out l h
    ·rw [h,Sk.evalR_len];exact hfit.sz
   generalize Sk.evalR S.V C ah r=ER at HEV hR hfine2 hle2;generalize Sk.evalG C ah r=G at HCELL HEV;rw [hq,Int.toNat_natCast] at hR hfine2 hle2;have HR2:=zD hR;have HF2:=zD hfine2;have HL2:=zD hle2;have HCL:=zD hCl;generalize S.V[q]=va at x0 y0 HCELL HCT HEV hcc;have hrA:=hrow.under bA;unfold RowAt at hrA;have yVA:=Nat.lt_of_lt_of_le yV0 bA.size;have x1:=(bA.cell (p:=⟨bV,_,none⟩) yV0).trans x0;have y1:=(bA.cell (p:=⟨bV,_,none⟩) yV0).trans y0;have hc3:Sk.cnt va<=1000000:=Nat.le_trans hcc (by decide);generalize Sk.cnt va=cc at HCELL HCT HEV hcc hc3;have HCC3:=zD hc3;obtain ⟨rop,rk,rout,rn,rA,rE⟩:=r;simp only at hq d0 d1 d2 d3 d4 d5 HCELL ho bA kV hrA x1 y1 yVA;subst hq;clear hat2 q2 q3 z2 hat3 hr hdr hR hfine2 hle2 hru hrow hfit hlz hCl hev ho H HLE HFI hSr x0 y0 hcc hc3 hbR;unfold vv at HCT;go_upto_region 3 with fail;generalize wr.alloc (.cells #[.int .i64 rop,.int .i64 rk,.int .i64 (q:Int),.int .i64 rn,.slice y.aA y.nA y.cA,.slice y.aE y.nE y.cE] 40 (0,0))=wA at bA kV hrA x1 y1 yVA ⊢;have k0:=coQ hrA 0;have k4:=coQ hrA 4;have v0:=coQ kV 0;have v1:=coQ kV 1;have v2:=coQ kV 2;have v3:=coQ kV 3;have v4:=coQ kV 4;have v5:=coQ kV 5;simp at k0 k4 v0 v1 v2 v3 v4 v5;have yV:=zG kV;have yB:=zG hrA;clear d0 d1 d2 d3 d4 d5 hrA;refine zK (fun w'=>Below wA.heap.size wA w') (fun i=>i==22) (by kernel_rfl) ?_;have hH0:Below wA.heap.size wA wA.drew:=(Below.refl _ _).drew;generalize wA.drew=wd0 at hH0 ⊢;refine' tkR 0 14 hH0 ?o1
   refine' tkR 1 15 hH0 ?o2
   refine' tkR 2 16 hH0 ?o3
   refine' tkQ 3 17 hH0 ?hyv ?o4
   case hyv=>
    intro wz hSw;have zc0:=(hSw.cell (p:=⟨rb,0,none⟩) yB).trans k0;have zc1:=(hSw.cell (p:=⟨rb,4,none⟩) yB).trans k4;have zc2:=(hSw.cell (p:=⟨wr.heap.size,0,none⟩) yV).trans v0;have zc3:=(hSw.cell (p:=⟨wr.heap.size,1,none⟩) yV).trans v1;have zc4:=(hSw.cell (p:=⟨wr.heap.size,2,none⟩) yV).trans v2;have zc5:=(hSw.cell (p:=⟨wr.heap.size,3,none⟩) yV).trans v3;have zc6:=(hSw.cell (p:=⟨wr.heap.size,4,none⟩) yV).trans v4;have zc7:=(hSw.cell (p:=⟨wr.heap.size,5,none⟩) yV).trans v5;have zc8:=(hSw.cell (p:=⟨bV,oV+q*2,none⟩) yVA).trans x1;have zc9:=(hSw.cell (p:=⟨bV,oV+q*2+1,none⟩) yVA).trans y1;go_simp
    try rfl
   try simp only [Act.put,sT,sZ,sS]
   refine' tkR 4 18 hH0 ?o5
   refine' tkQ 5 19 hH0 ?hyv ?o6
   case hyv=>
    intro wz hSw;have zc0:=(hSw.cell (p:=⟨rb,0,none⟩) yB).trans k0;have zc1:=(hSw.cell (p:=⟨rb,4,none⟩) yB).trans k4;have zc2:=(hSw.cell (p:=⟨wr.heap.size,0,none⟩) yV).trans v0;have zc3:=(hSw.cell (p:=⟨wr.heap.size,1,none⟩) yV).trans v1;have zc4:=(hSw.cell (p:=⟨wr.heap.size,2,none⟩) yV).trans v2;have zc5:=(hSw.cell (p:=⟨wr.heap.size,3,none⟩) yV).trans v3;have zc6:=(hSw.cell (p:=⟨wr.heap.size,4,none⟩) yV).trans v4;have zc7:=(hSw.cell (p:=⟨wr.heap.size,5,none⟩) yV).trans v5;have zc8:=(hSw.cell (p:=⟨bV,oV+q*2,none⟩) yVA).trans x1;have zc9:=(hSw.cell (p:=⟨bV,oV+q*2+1,none⟩) yVA).trans y1;go_simp
    try rfl
   try simp only [Act.put,sT,sZ,sS]
   refine' tkR 6 20 hH0 ?o7
   refine' tkR 7 21 hH0 ?o8
   refine' tkR 8 22 hH0 ?o9
   refine' tkR 9 23 hH0 ?o10
   refine' tkQ 10 24 hH0 ?hyv ?o11
   case hyv=>
    intro wz hSw;have zc0:=(hSw.cell (p:=⟨rb,0,none⟩) yB).trans k0;have zc1:=(hSw.cell (p:=⟨rb,4,none⟩) yB).trans k4;have zc2:=(hSw.cell (p:=⟨wr.heap.size,0,none⟩) yV).trans v0;have zc3:=(hSw.cell (p:=⟨wr.heap.size,1,none⟩) yV).trans v1;have zc4:=(hSw.cell (p:=⟨wr.heap.size,2,none⟩) yV).trans v2;have zc5:=(hSw.cell (p:=⟨wr.heap.size,3,none⟩) yV).trans v3;have zc6:=(hSw.cell (p:=⟨wr.heap.size,4,none⟩) yV).trans v4;have zc7:=(hSw.cell (p:=⟨wr.heap.size,5,none⟩) yV).trans v5;have zc8:=(hSw.cell (p:=⟨bV,oV+q*2,none⟩) yVA).trans x1;have zc9:=(hSw.cell (p:=⟨bV,oV+q*2+1,none⟩) yVA).trans y1;go_simp
    try rfl
   try simp only [Act.put,sT,sZ,sS]
   refine' tkR 11 25 hH0 ?o12
   refine' tkQ 12 26 hH0 ?hyv ?o13
   case hyv=>
    intro wz hSw;have zc0:=(hSw.cell (p:=⟨rb,0,none⟩) yB).trans k0;have zc1:=(hSw.cell (p:=⟨rb,4,none⟩) yB).trans k4;have zc2:=(hSw.cell (p:=⟨wr.heap.size,0,none⟩) yV).trans v0;have zc3:=(hSw.cell (p:=⟨wr.heap.size,1,none⟩) yV).trans v1;have zc4:=(hSw.cell (p:=⟨wr.heap.size,2,none⟩) yV).trans v2;have zc5:=(hSw.cell (p:=⟨wr.heap.size,3,none⟩) yV).trans v3;have zc6:=(hSw.cell (p:=⟨wr.heap.size,4,none⟩) yV).trans v4;have zc7:=(hSw.cell (p:=⟨wr.heap.size,5,none⟩) yV).trans v5;have zc8:=(hSw.cell (p:=⟨bV,oV+q*2,none⟩) yVA).trans x1;have zc9:=(hSw.cell (p:=⟨bV,oV+q*2+1,none⟩) yVA).trans y1;go_simp
    try rfl
   try simp only [Act.put,sT,sZ,sS]
   refine' tkR 13 27 hH0 ?o14
   refine' tkQ 14 28 hH0 ?hyv ?o15
   case hyv=>
    intro wz hSw;have zc0:=(hSw.cell (p:=⟨rb,0,none⟩) yB).trans k0;have zc1:=(hSw.cell (p:=⟨rb,4,none⟩) yB).trans k4;have zc2:=(hSw.cell (p:=⟨wr.heap.size,0,none⟩) yV).trans v0;have zc3:=(hSw.cell (p:=⟨wr.heap.size,1,none⟩) yV).trans v1;have zc4:=(hSw.cell (p:=⟨wr.heap.size,2,none⟩) yV).trans v2;have zc5:=(hSw.cell (p:=⟨wr.heap.size,3,none⟩) yV).trans v3;have zc6:=(hSw.cell (p:=⟨wr.heap.size,4,none⟩) yV).trans v4;have zc7:=(hSw.cell (p:=⟨wr.heap.size,5,none⟩) yV).trans v5;have zc8:=(hSw.cell (p:=⟨bV,oV+q*2,none⟩) yVA).trans x1;have zc9:=(hSw.cell (p:=⟨bV,oV+q*2+1,none⟩) yVA).trans y1;go_simp
    try rfl
   try simp only [Act.put,sT,sZ,sS]
   refine' tkR 16 30 hH0 ?o16
   refine' tkQ 17 31 hH0 ?hyv ?o17
   case hyv=>
    intro wz hSw;have zc0:=(hSw.cell (p:=⟨rb,0,none⟩) yB).trans k0;have zc1:=(hSw.cell (p:=⟨rb,4,none⟩) yB).trans k4;have zc2:=(hSw.cell (p:=⟨wr.heap.size,0,none⟩) yV).trans v0;have zc3:=(hSw.cell (p:=⟨wr.heap.size,1,none⟩) yV).trans v1;have zc4:=(hSw.cell (p:=⟨wr.heap.size,2,none⟩) yV).trans v2;have zc5:=(hSw.cell (p:=⟨wr.heap.size,3,none⟩) yV).trans v3;have zc6:=(hSw.cell (p:=⟨wr.heap.size,4,none⟩) yV).trans v4;have zc7:=(hSw.cell (p:=⟨wr.heap.size,5,none⟩) yV).trans v5;have zc8:=(hSw.cell (p:=⟨bV,oV+q*2,none⟩) yVA).trans x1;have zc9:=(hSw.cell (p:=⟨bV,oV+q*2+1,none⟩) yVA).trans y1;go_simp
    try rfl
   try simp only [Act.put,sT,sZ,sS]
   refine' tkR 18 32 hH0 ?o18
   refine tnQ 15 (fun K hK=>?_);go_simp;refine (HCT.out wd0).mono ?_;rintro eq wd1 ⟨rfl,bq1⟩;have hH1:Below wA.heap.size wA wd1:=hH0.trans (bq1.mono hH0.size);refine hK.out _ _ (fun _=>hH1) ?_;clear hK K
   try simp only [Act.put,sT,sZ,sS]
   refine tnQ 19 (fun K hK=>?_);go_simp;refine (HCELL.out wd1 (bA.trans (hH1.mono bA.size))).mono ?_;rintro eq wd2 ⟨_,rfl,⟨N,bs,cs,J,SS,rfl,hT⟩,bq2⟩;have hH2:Below wA.heap.size wA wd2:=hH1.trans (bq2.mono hH1.size)
   replace hT:=zD hT
   refine hK.out _ _ (fun _=>hH2) ?_;clear hK K
   try simp only [Act.put,sT,sZ,sS]
   refine tnQ 20 (fun K hK=>?_);go_simp;refine (each_any hT.out.1 cc HCC3.out hT.out.2.1 (fun b hb=>(hT.out.2.2.1 b hb).2) hT.out.2.2.2.1 hT.out.2.2.2.2).mono ?_;rintro eq wd3 ⟨v3,rfl,own,-,ha⟩;have hH3:Below wA.heap.size wA wd3:=hH2.trans ((ha.mono hH2.size).below (fun k hk=>Nat.le_trans hH1.size (hT.out.2.2.1 k hk).1));rw [<-HEV.out] at own;obtain ⟨a3,c3,e3,-,-⟩:=own.form;have hel:ER.length=cc:=(by rw [HEV.out];simp);rw [hel] at e3;subst e3;have HOWN:=zD (show HInts ok wd3 (.slice a3 cc c3) ER from (xP own.row).wide fun k hk _=>HNW.out k (Nat.le_trans zr (Nat.le_trans bA.size (Nat.le_trans hH2.size hk))));clear own hel ha;refine hK.out _ _ (fun _=>hH3) ?_;clear hK K
   try simp only [Act.put,sT,sZ,sS]
   refine' tkR 21 35 hH3 ?o19
   refine tnQ 22 (fun K hK=>?_);have hcs:=HC.out.under (bA.trans (hH3.mono bA.size));have hqC:q<C.length:=(by have:=HCL.out;omega);obtain ⟨sa,sn,sc,st0,-⟩:=hcs.at q hqC;have fr0:=hcs.free q;have NEW:=hcs.set HOK.out hqC (l:=ER) HOWN.out;have AS:Aside [cb] w.heap.size w (wd3.setCell ⟨cb,q,none⟩ (.slice a3 cc c3)):=(fr.trans (aside (bA.trans (hH3.mono bA.size))) zr).trans (Aside.setCell (B:=w.heap.size) (p:=⟨cb,q,none⟩) (by simp) (.slice a3 cc c3)) zL;have HNEW:=zD (And.intro NEW AS);clear NEW AS hcs hqC;go_simp;refine hK.out _ _ (fun h=>absurd h (by decide)) ?_;clear hK K st0 fr0
   try simp only [Act.put,sT,sZ,sS]
   generalize wd3.setCell ⟨cb,q,none⟩ (.slice a3 cc c3)=wd4 at HNEW ⊢;refine zJ (by kernel_rfl) ?_ _;clear k0 k4 v0 v1 v2 v3 v4 v5 x1 y1 kV;go_wp2_with fail;go_roundg (S.R.length-(i+1))
   case measure=>omega
   case rel=>exact ⟨i+1,C.set q ER,by omega,rfl,by go_num,HR2,HF2,HL2,zD HNEW.out.1,HNEW.out.2⟩
end Go.Proofs.YtnhmcpnbaajjcaaGreatDoor
