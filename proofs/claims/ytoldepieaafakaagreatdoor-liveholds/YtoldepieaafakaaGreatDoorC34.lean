import Derived.Test.YtoldepieaafakaaGreatDoorC33
import Derived.WalkKit
import Derived.WalkSpells
import Derived.IntWalk
import Derived.Deep.Cut
import Derived.Deep.LoopGhost
import Derived.Ground.NamesProg
import Derived.Laws.Cover1
import Derived.Laws.EntriesVeiled
import Derived.Laws.Externs
import Derived.Lib.Hide
import Derived.Lib.MakeNoZero
import Derived.Lib.SlBuf
import Derived.Shelf.Bytes.SlSmallAll
import Derived.Shelf.Lay
set_option linter.unusedVariables false
set_option linter.unusedSimpArgs false
set_option maxHeartbeats 64000000
set_option maxRecDepth 100000
namespace Go.Proofs.YtoldepieaafakaaGreatDoor
open Go.RowKit Go.IntWalk
theorem Tryz.infoIL:(Tryz.prog.info? 23).map (fun i=>(i.zero,i.size,i.bytes))=some (some (.slice none 0 0),1,24):=by kernel_rfl
def kIL:Kind (List Int) where
 ty:=23
 k:=1
 bytes:=24
 zero:=.slice none 0 0
 E:=fun ok w cs l=>∃ u,cs=[u]/\HInts ok w u l
 pos:=by decide
 zs:=rfl
 info:=Tryz.infoIL
 len:=by rintro _ _ _ _ ⟨u,rfl,_⟩;rfl
 one:=by
  rintro _ _ _ _ ⟨u,rfl,h⟩ v hv;simp at hv;subst hv;obtain ⟨ao,cap,rfl,_⟩:=h.at;rfl
 keep:=by rintro _ _ _ _ _ ⟨u,rfl,h⟩ hs hk;exact ⟨u,rfl,h.keep hs hk⟩
 wide:=by rintro _ _ _ _ _ ⟨u,rfl,h⟩ hk;exact ⟨u,rfl,h.wide hk⟩
theorem HRow.ilAt {ok:Nat->Prop} {w:World} {v:Value} {l:List (List Int)} (h:HRow kIL ok w v l) :
  ∃ ao cap,v=.slice ao l.length cap/\l.length<=cap/\cap<=maxLen/\∀ i (h:i<l.length),∃ b o u,ao=some ⟨b,o,none⟩/\b<w.heap.size/\w.cell? ⟨b,o+i,none⟩=some u/\HInts ok w u l[i]:=by
 obtain ⟨C,⟨ao,cap,hv,h1,h2,h3⟩,hC⟩:=h;refine ⟨ao,cap,hv,h1,h2,fun i hi=>?_⟩;obtain ⟨b,o,ha,hob,hb,hc⟩:=h3 (by omega);obtain ⟨u,e,hu⟩:=hC i hi;have:=(hc i hi).2 0 (by decide);rw [e] at this;exact ⟨b,o,u,ha,hb,by simpa [kIL] using this,hu⟩
structure WkV where
 aV:Option Addr
 nV:Nat
 cV:Nat
 aI:Option Addr
 nI:Nat
 cI:Nat
 aO:Option Addr
 nO:Nat
 cO:Nat
 aR:Option Addr
 nR:Nat
 cR:Nat
 g:Nat
def WkAt (w:World) (b:Nat) (x:WkV) (vN vL:Value):Prop:=w.heap[b]?=some (.cells #[.slice x.aV x.nV x.cV,.slice x.aI x.nI x.cI,.slice x.aO x.nO x.cO,.slice x.aR x.nR x.cR,vN,.slice (some ⟨x.g,0,none⟩) x.nV x.nV,vL] 72 (0,0))
theorem WkAt.under {w w':World} {b:Nat} {x:WkV} {vN vL:Value} (h:WkAt w b x vN vL) (a:Below w.heap.size w w'):WkAt w' b x vN vL:=(a.block _ (zG h)).trans h
theorem zAv {w:World} {b:Nat} {x:WkV} {vN vL:Value} {m:List Bool} (h:WkAt w b x vN vL) (hm:Md w x.g m) (hn:x.nV=m.length) (v:Nat) (hv:v<m.length) :
  Calls Tryz.prog 58 #[.pointer (some ⟨b,0,none⟩),.int .i64 (v:Int)] w fun e w'=>e=.returned (.bool (!(m.getD v false)))/\Below w.heap.size w w':=by
 unfold WkAt at h;have c5:=coQ h 5;simp at c5;have cv:=hm.cell hv;have hvn:v<x.nV:=(by omega);rw [List.getD_eq_getElem?_getD,List.getElem?_eq_getElem hv,Option.getD_some];generalize m[v]=q at cv ⊢;clear h hm hn hv;go_enter Tryz.func58,Tryz.ntmps58;go_wp2;go_ret;exact ⟨rfl,Below.refl _ _⟩
theorem eg62:∀ args w,(callFunc 58 args).run Tryz.prog w=.ok (.enter 58 args) w:=enters_of Tryz.func58 (by kernel_rfl) rfl
theorem canCome_any {ok:Nat->Prop} {w:World} {b:Nat} {x:WkV} {vN vL:Value} {m:List Bool} {N:List (List Int)} (h:WkAt w b x vN vL) (hm:Md w x.g m) (hn:x.nV=m.length) (hN:HRow kIL ok w vN N) (j:Nat) (hj:j<N.length) (hr:∀ z ∈ N[j],0<=z/\z<m.length) :
  Calls Tryz.prog 46 #[.pointer (some ⟨b,0,none⟩),.int .i64 (j:Int)] w fun e w'=>e=.returned (.bool (Sk.canC N m j))/\Below w.heap.size w w':=by
 have h2:=h;unfold WkAt at h2;obtain ⟨aN,cN,rfl,hc1,hc2,hat⟩:=hN.ilAt;unfold maxLen at hc2;obtain ⟨bN,oN,u,rfl,hb,hcell,hu⟩:=hat j hj;have c4:=coQ h2 4;simp at c4;have hct:=qL (p:=fun z => !(m.getD z.toNat false)) (a:=.pointer (some ⟨b,0,none⟩)) eg62 hu (fun z hz W hW=>by
  obtain ⟨zn,rfl⟩:∃ zn:Nat,z=(zn:Int):=⟨z.toNat,by have:=hr z hz;omega⟩;have:=zAv (h.under hW) (hm.under hW) hn zn (by have:=hr _ hz;omega);rw [Int.toNat_natCast];exact this)
 have e:Sk.canC N m j = !((N[j]).any fun z => !(m.getD z.toNat false)):=by
  unfold Sk.canC;rw [List.getD_eq_getElem?_getD,List.getElem?_eq_getElem hj,Option.getD_some]
 rw [e];generalize (N[j]).any (fun z => !(m.getD z.toNat false))=q at hct ⊢;obtain ⟨L,hL⟩:=nmQ (N.length);rw [<-hL] at c4 hc1 hj;obtain ⟨au,cu,rfl,-⟩:=hu.at;clear h h2 hm hn hN hat hr e hL hu;generalize (N[j]?).getD []=nj at *;go_enter Tryz.func46,Tryz.ntmps46;go_wp2_with fail;refine hct.mono ?_;rintro e w2 ⟨rfl,b2⟩;go_wp2;go_ret;exact ⟨rfl,b2⟩
theorem needs_any {ok:Nat->Prop} {w:World} {r:Sk.Ru} {y:RuV} (hR:HRu ok w y r) (hAl:r.A.length<=1000000) (hEl:r.E.length<=1000000) :
  Calls Tryz.prog 23 #[.agg #[.int .i64 r.op,.int .i64 r.k,.int .i64 r.out,.int .i64 r.n,.slice y.aA y.nA y.cA,.slice y.aE y.nE y.cE]] w fun e w'=>∃ v,e=.returned v/\HInts (fun i=>w.heap.size<=i) w' v (Sk.needs r)/\Below w.heap.size w w':=by
 obtain ⟨op,k,out,n,A,E⟩:=r;obtain ⟨aA,nA,cA,aE,nE,cE⟩:=y;have hA:=hR.A;have hE:=hR.E
 dsimp only at hA hE hAl hEl ⊢
 obtain ⟨ao,cap,ev,hc1,hc2,hat⟩:=hA.at;injection ev with e1 e2 e3;subst e1 e2 e3;unfold maxLen at hc2;have b1:Below w.heap.size w (w.alloc (.cells #[.int .i64 op,.int .i64 k,.int .i64 out,.int .i64 n,.slice aA A.length cA,.slice aE nE cE] 39 (0,0))):=(Below.refl _ _).alloc zL _;have kA:=zH w (.cells #[.int .i64 op,.int .i64 k,.int .i64 out,.int .i64 n,.slice aA A.length cA,.slice aE nE cE] 39 (0,0));unfold Sk.needs
 dsimp only
 by_cases hp:op=13/\A.length=2
 case pos=>
  rw [if_pos hp];obtain ⟨rfl,hl2⟩:=hp;obtain ⟨bA,oA,rfl,hb,c0⟩:=hat 0 (by omega);have C0:=(b1.cell (p:=⟨bA,oA+0,none⟩) hb).trans c0;have e0:A[0]'(by omega)=A.getD 0 0:=(by simp [List.getD_eq_getElem?_getD,show 0<A.length by omega]);rw [e0,Nat.add_zero] at C0;generalize A.getD 0 0=a0 at C0 ⊢;rw [hl2] at hc1 b1 kA C0 ⊢;clear hR hA hE hat hl2 e0 c0 hAl;go_enter Tryz.func23,Tryz.ntmps23;go_upto_region 1 with fail;generalize w.alloc (.cells #[.int .i64 13,.int .i64 k,.int .i64 out,.int .i64 n,.slice (some ⟨bA,oA,none⟩) 2 cA,.slice aE nE cE] 39 (0,0))=w1 at b1 kA C0 ⊢;have d0:=coQ kA 0;have d4:=coQ kA 4;simp at d0 d4;have HI:=zD (show HInts (fun i=>w.heap.size<=i) (w1.alloc (.cells #[.int .i64 a0] 3 (0,0))) (.slice (some ⟨w1.heap.size,0,none⟩) 1 1) [a0] from xJ ((OwnL.lit (T:=kInt) (B:=w.heap.size) (w:=w1) (cs:=[.int .i64 a0]) (x:=a0) b1.size rfl).row));have HB:=zD (b1.alloc b1.size (.cells #[.int .i64 a0] 3 (0,0)));clear kA;go_wp2;go_ret;exact ⟨_,rfl,HI.out,HB.out⟩
 case neg=>
  rw [if_neg hp];unfold Sk.uses
  dsimp only
  have hel2:(Sk.ownE op E).length<=1000000:=(by unfold Sk.ownE;split;exact Nat.zero_le _;exact hEl);have hcond:((op==13)&&((A.length:Int)==2))=false:=by
   cases h1:(op==13)
   ·rfl
   ·cases h2:((A.length:Int)==2)
    ·rfl
    ·exact absurd ⟨by simpa using h1,by have:=(beq_iff_eq.1 h2);omega⟩ hp
  have HHA:=zD (show HInts (fun i=>i<w.heap.size) _ (.slice aA A.length cA) A from (hA.wide (ok':=fun i=>i<w.heap.size) fun i _ hl=>hl).under b1);have HHE:=zD (show HPu (fun i=>i<w.heap.size) _ (.slice aE nE cE) E from (hE.wide (ok':=fun i=>i<w.heap.size) fun i _ hl=>hl).under b1);clear hR hA hE hat hp;by_cases h14:op<14
  case pos=>
   have e2:Sk.ownE op E=[]:=(by unfold Sk.ownE;rw [if_pos h14]);rw [e2] at hel2 ⊢;have hcu:∀ W,Below w.heap.size (w.alloc (.cells #[.int .i64 op,.int .i64 k,.int .i64 out,.int .i64 n,.slice aA A.length cA,.slice aE nE cE] 39 (0,0))) W->Calls Tryz.prog 50 #[.agg #[.int .i64 op,.int .i64 k,.int .i64 out,.int .i64 n,.slice aA A.length cA,.slice none 0 0]] W _:=fun W hW=>jC (ok:=fun i=>i<w.heap.size) op k out n (HHA.out.keep hW.size (fun i hi _=>hW.block i hi)) (HPu.hnil) hAl (Nat.zero_le _);generalize usesT A []=l at hcu ⊢;have HCU:=zD hcu;clear e2 hcu;by_cases h13:op=13
   case pos=>
    subst h13;have hA2:((A.length:Int)==2)=false:=(by simpa using hcond);clear hcond;go_enter Tryz.func23,Tryz.ntmps23;go_upto_region 1 with fail;generalize w.alloc (.cells #[.int .i64 13,.int .i64 k,.int .i64 out,.int .i64 n,.slice aA A.length cA,.slice aE nE cE] 39 (0,0))=w1 at b1 kA HHA HHE HCU ⊢;have d0:=coQ kA 0;have d1:=coQ kA 1;have d2:=coQ kA 2;have d3:=coQ kA 3;have d4:=coQ kA 4;have d5:=coQ kA 5;have f5:=foQ kA 5;simp at d0 d1 d2 d3 d4 d5;have KR:=zP kA 5 (.slice none 0 0);simp at KR;have B2:=b1.setCell (p:=⟨w.heap.size,5,none⟩) zL (.slice none 0 0);have HW:=zD (show Below w.heap.size w1 (w1.setCell ⟨w.heap.size,5,none⟩ (.slice none 0 0)) from (Below.refl _ _).setCell (p:=⟨w.heap.size,5,none⟩) zL (.slice none 0 0));go_upto_region 5 with fail;generalize w1.setCell ⟨w.heap.size,5,none⟩ (.slice none 0 0)=w2 at KR B2 HW ⊢;have g0:=coQ KR 0;have g1:=coQ KR 1;have g2:=coQ KR 2;have g3:=coQ KR 3;have g4:=coQ KR 4;have g5:=coQ KR 5;simp at g0 g1 g2 g3 g4 g5;clear d0 d1 d2 d3 d4 d5 f5;go_wp2_with fail;refine (HCU.out w2 HW.out).mono ?_;rintro e w3 ⟨v,rfl,own3,b3⟩;have HO:=zD ((xJ own3.row).wide (ok':=fun i=>w.heap.size<=i) fun i hi _=>Nat.le_trans B2.size hi);clear own3;go_wp2;go_ret;exact ⟨v,rfl,HO.out,B2.trans (b3.mono B2.size)⟩
   case neg=>
    have hb13:(op==13)=false:=(by simpa using h13);clear h13 hcond;go_enter Tryz.func23,Tryz.ntmps23;go_upto_region 1 with fail;generalize w.alloc (.cells #[.int .i64 op,.int .i64 k,.int .i64 out,.int .i64 n,.slice aA A.length cA,.slice aE nE cE] 39 (0,0))=w1 at b1 kA HHA HHE HCU ⊢;have d0:=coQ kA 0;have d1:=coQ kA 1;have d2:=coQ kA 2;have d3:=coQ kA 3;have d4:=coQ kA 4;have d5:=coQ kA 5;have f5:=foQ kA 5;simp at d0 d1 d2 d3 d4 d5;have KR:=zP kA 5 (.slice none 0 0);simp at KR;have B2:=b1.setCell (p:=⟨w.heap.size,5,none⟩) zL (.slice none 0 0);have HW:=zD (show Below w.heap.size w1 (w1.setCell ⟨w.heap.size,5,none⟩ (.slice none 0 0)) from (Below.refl _ _).setCell (p:=⟨w.heap.size,5,none⟩) zL (.slice none 0 0));go_upto_region 5 with fail;generalize w1.setCell ⟨w.heap.size,5,none⟩ (.slice none 0 0)=w2 at KR B2 HW ⊢;have g0:=coQ KR 0;have g1:=coQ KR 1;have g2:=coQ KR 2;have g3:=coQ KR 3;have g4:=coQ KR 4;have g5:=coQ KR 5;simp at g0 g1 g2 g3 g4 g5;clear d0 d1 d2 d3 d4 d5 f5;go_wp2_with fail;refine (HCU.out w2 HW.out).mono ?_;rintro e w3 ⟨v,rfl,own3,b3⟩;have HO:=zD ((xJ own3.row).wide (ok':=fun i=>w.heap.size<=i) fun i hi _=>Nat.le_trans B2.size hi);clear own3;go_wp2;go_ret;exact ⟨v,rfl,HO.out,B2.trans (b3.mono B2.size)⟩
  case neg=>
   have e2:Sk.ownE op E=E:=(by unfold Sk.ownE;rw [if_neg h14]);rw [e2] at hel2 ⊢;have hcu:=jC op k out n HHA.out HHE.out hAl hEl;generalize usesT A E=l at hcu ⊢;have HCU:=zD hcu;clear e2 hcu;go_enter Tryz.func23,Tryz.ntmps23;go_upto_region 1 with fail;generalize w.alloc (.cells #[.int .i64 op,.int .i64 k,.int .i64 out,.int .i64 n,.slice aA A.length cA,.slice aE nE cE] 39 (0,0))=w1 at b1 kA HHA HHE HCU ⊢;have d0:=coQ kA 0;have d1:=coQ kA 1;have d2:=coQ kA 2;have d3:=coQ kA 3;have d4:=coQ kA 4;have d5:=coQ kA 5;simp at d0 d1 d2 d3 d4 d5;have h13:(op==13)=false:=(by simp;omega);clear hcond;go_wp2_with fail;refine HCU.out.mono ?_;rintro e w3 ⟨v,rfl,own3,b3⟩;have HO:=zD ((xJ own3.row).wide (ok':=fun i=>w.heap.size<=i) fun i hi _=>Nat.le_trans b1.size hi);clear own3;go_wp2;go_ret;exact ⟨v,rfl,HO.out,b1.trans (b3.mono b1.size)⟩
end Go.Proofs.YtoldepieaafakaaGreatDoor
