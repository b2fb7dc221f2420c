import Derived.Test.YtegakbobaecdlaaGreatDoorG27
import Derived.WalkKit
import Derived.WalkSpells
import Derived.IntWalk
import Derived.Deep.Cut
import Derived.Deep.LoopGhost
import Derived.Ground.NamesProg
import Derived.Laws.Cover1
import Derived.Laws.EntriesVeiled
import Derived.Laws.Externs
import Derived.Lib.Hide
import Derived.Lib.MakeNoZero
import Derived.Lib.SlBuf
import Derived.Shelf.Bytes.SlSmallAll
import Derived.Shelf.Lay
set_option linter.unusedVariables false
set_option linter.unusedSimpArgs false
set_option maxHeartbeats 64000000
set_option maxRecDepth 100000
namespace Go.Proofs.YtegakbobaecdlaaGreatDoor
open Go.RowKit Go.IntWalk
theorem Tryz.infoIL:(Tryz.prog.info? 23).map (fun i=>(i.zero,i.size,i.bytes))=some (some (.slice none 0 0),1,24):=by kernel_rfl
def kIL:Kind (List Int) where
 ty:=23
 k:=1
 bytes:=24
 zero:=.slice none 0 0
 E:=fun ok w cs l=>∃ u,cs=[u]/\HInts ok w u l
 pos:=by decide
 zs:=rfl
 info:=Tryz.infoIL
 len:=by rintro _ _ _ _ ⟨u,rfl,_⟩;rfl
 one:=by
  rintro _ _ _ _ ⟨u,rfl,h⟩ v hv;simp at hv;subst hv;obtain ⟨ao,cap,rfl,_⟩:=h.at;rfl
 keep:=by rintro _ _ _ _ _ ⟨u,rfl,h⟩ hs hk;exact ⟨u,rfl,h.keep hs hk⟩
 wide:=by rintro _ _ _ _ _ ⟨u,rfl,h⟩ hk;exact ⟨u,rfl,h.wide hk⟩
theorem HRow.ilAt {ok:Nat->Prop} {w:World} {v:Value} {l:List (List Int)} (h:HRow kIL ok w v l) :
  ∃ ao cap,v=.slice ao l.length cap/\l.length<=cap/\cap<=maxLen/\∀ i (h:i<l.length),∃ b o u,ao=some ⟨b,o,none⟩/\b<w.heap.size/\w.cell? ⟨b,o+i,none⟩=some u/\HInts ok w u l[i]:=by
 obtain ⟨C,⟨ao,cap,hv,h1,h2,h3⟩,hC⟩:=h;refine ⟨ao,cap,hv,h1,h2,fun i hi=>?_⟩;obtain ⟨b,o,ha,hob,hb,hc⟩:=h3 (by omega);obtain ⟨u,e,hu⟩:=hC i hi;have:=(hc i hi).2 0 (by decide);rw [e] at this;exact ⟨b,o,u,ha,hb,by simpa [kIL] using this,hu⟩
structure WkV where
 aV:Option Addr
 nV:Nat
 cV:Nat
 aI:Option Addr
 nI:Nat
 cI:Nat
 aO:Option Addr
 nO:Nat
 cO:Nat
 aR:Option Addr
 nR:Nat
 cR:Nat
 g:Nat
def WkAt (w:World) (b:Nat) (x:WkV) (vN vL:Value):Prop:=w.heap[b]?=some (.cells #[.slice x.aV x.nV x.cV,.slice x.aI x.nI x.cI,.slice x.aO x.nO x.cO,.slice x.aR x.nR x.cR,vN,.slice (some ⟨x.g,0,none⟩) x.nV x.nV,vL] 72 (0,0))
theorem WkAt.under {w w':World} {b:Nat} {x:WkV} {vN vL:Value} (h:WkAt w b x vN vL) (a:Below w.heap.size w w'):WkAt w' b x vN vL:=(a.block _ (zH h)).trans h
theorem zAP {w:World} {b:Nat} {x:WkV} {vN vL:Value} {m:List Bool} (h:WkAt w b x vN vL) (hm:Md w x.g m) (hn:x.nV=m.length) (v:Nat) (hv:v<m.length) :
  Calls Tryz.prog 61 #[.pointer (some ⟨b,0,none⟩),.int .i64 (v:Int)] w fun e w'=>e=.returned (.bool (!(m.getD v false)))/\Below w.heap.size w w':=by
 unfold WkAt at h;have c5:=coQ h 5;simp at c5;have cv:=hm.cell hv;have hvn:v<x.nV:=(by omega);rw [List.getD_eq_getElem?_getD,List.getElem?_eq_getElem hv,Option.getD_some];generalize m[v]=q at cv ⊢;clear h hm hn hv;go_enter Tryz.func61,Tryz.ntmps61;go_wp2;go_ret;exact ⟨rfl,Below.refl _ _⟩
theorem eg62:∀ args w,(callFunc 61 args).run Tryz.prog w=.ok (.enter 61 args) w:=enters_of Tryz.func61 (by kernel_rfl) rfl
theorem canCome_any {ok:Nat->Prop} {w:World} {b:Nat} {x:WkV} {vN vL:Value} {m:List Bool} {N:List (List Int)} (h:WkAt w b x vN vL) (hm:Md w x.g m) (hn:x.nV=m.length) (hN:HRow kIL ok w vN N) (j:Nat) (hj:j<N.length) (hr:∀ z ∈ N[j],0<=z/\z<m.length) :
  Calls Tryz.prog 37 #[.pointer (some ⟨b,0,none⟩),.int .i64 (j:Int)] w fun e w'=>e=.returned (.bool (Sk.canC N m j))/\Below w.heap.size w w':=by
 have h2:=h;unfold WkAt at h2;obtain ⟨aN,cN,rfl,hc1,hc2,hat⟩:=hN.ilAt;unfold maxLen at hc2;obtain ⟨bN,oN,u,rfl,hb,hcell,hu⟩:=hat j hj;have c4:=coQ h2 4;simp at c4;have hct:=xQ (p:=fun z => !(m.getD z.toNat false)) (a:=.pointer (some ⟨b,0,none⟩)) eg62 hu (fun z hz W hW=>by
  obtain ⟨zn,rfl⟩:∃ zn:Nat,z=(zn:Int):=⟨z.toNat,by have:=hr z hz;omega⟩;have:=zAP (h.under hW) (hm.under hW) hn zn (by have:=hr _ hz;omega);rw [Int.toNat_natCast];exact this)
 have e:Sk.canC N m j = !((N[j]).any fun z => !(m.getD z.toNat false)):=by
  unfold Sk.canC;rw [List.getD_eq_getElem?_getD,List.getElem?_eq_getElem hj,Option.getD_some]
 rw [e];generalize (N[j]).any (fun z => !(m.getD z.toNat false))=q at hct ⊢;obtain ⟨L,hL⟩:=nmQ (N.length);rw [<-hL] at c4 hc1 hj;obtain ⟨au,cu,rfl,-⟩:=hu.at;clear h h2 hm hn hN hat hr e hL hu;generalize (N[j]?).getD []=nj at *;go_enter Tryz.func37,Tryz.ntmps37;go_wp2_with fail;refine hct.mono ?_;rintro e w2 ⟨rfl,b2⟩;go_wp2;go_ret;exact ⟨rfl,b2⟩
theorem needs_any {ok:Nat->Prop} {w:World} {r:Sk.Ru} {y:RuV} (hR:HRu ok w y r) (hAl:r.A.length<=1000000) (hEl:r.E.length<=1000000) :
  Calls Tryz.prog 13 #[.agg #[.int .i64 r.op,.int .i64 r.k,.int .i64 r.out,.int .i64 r.n,.slice y.aA y.nA y.cA,.slice y.aE y.nE y.cE]] w fun e w'=>∃ v,e=.returned v/\HInts (fun i=>w.heap.size<=i) w' v (Sk.needs r)/\Below w.heap.size w w':=by
 obtain ⟨op,k,out,n,A,E⟩:=r;obtain ⟨aA,nA,cA,aE,nE,cE⟩:=y;have hA:=hR.A;have hE:=hR.E
 dsimp only at hA hE hAl hEl ⊢
 obtain ⟨ao,cap,ev,hc1,hc2,hat⟩:=hA.at;injection ev with e1 e2 e3;subst e1 e2 e3;unfold maxLen at hc2;have b1:Below w.heap.size w (w.alloc (.cells #[.int .i64 op,.int .i64 k,.int .i64 out,.int .i64 n,.slice aA A.length cA,.slice aE nE cE] 40 (0,0))):=(Below.refl _ _).alloc zL _;have kA:=zJ w (.cells #[.int .i64 op,.int .i64 k,.int .i64 out,.int .i64 n,.slice aA A.length cA,.slice aE nE cE] 40 (0,0));unfold Sk.needs
 dsimp only
 by_cases hp:op=13/\A.length=2
 case pos=>
  rw [if_pos hp];obtain ⟨rfl,hl2⟩:=hp;obtain ⟨bA,oA,rfl,hb,c0⟩:=hat 0 (by omega);have C0:=(b1.cell (p:=⟨bA,oA+0,none⟩) hb).trans c0;have e0:A[0]'(by omega)=A.getD 0 0:=(by simp [List.getD_eq_getElem?_getD,show 0<A.length by omega]);rw [e0,Nat.add_zero] at C0;generalize A.getD 0 0=a0 at C0 ⊢;rw [hl2] at hc1 b1 kA C0 ⊢;clear hR hA hE hat hl2 e0 c0 hAl;go_enter Tryz.func13,Tryz.ntmps13;go_upto_region 1 with fail;generalize w.alloc (.cells #[.int .i64 13,.int .i64 k,.int .i64 out,.int .i64 n,.slice (some ⟨bA,oA,none⟩) 2 cA,.slice aE nE cE] 40 (0,0))=w1 at b1 kA C0 ⊢;have d0:=coQ kA 0;have d4:=coQ kA 4;simp at d0 d4;have HI:=zG (show HInts (fun i=>w.heap.size<=i) (w1.alloc (.cells #[.int .i64 a0] 3 (0,0))) (.slice (some ⟨w1.heap.size,0,none⟩) 1 1) [a0] from zU ((OwnL.lit (T:=kInt) (B:=w.heap.size) (w:=w1) (cs:=[.int .i64 a0]) (x:=a0) b1.size rfl).row));have HB:=zG (b1.alloc b1.size (.cells #[.int .i64 a0] 3 (0,0)));clear kA;go_wp2;go_ret;exact ⟨_,rfl,HI.out,HB.out⟩
 case neg=>
  rw [if_neg hp];unfold Sk.uses
  dsimp only
  have hel2:(Sk.ownE op E).length<=1000000:=(by unfold Sk.ownE;split;exact Nat.zero_le _;exact hEl);have hcond:((op==13)&&((A.length:Int)==2))=false:=by
   cases h1:(op==13)
   ·rfl
   ·cases h2:((A.length:Int)==2)
    ·rfl
    ·exact absurd ⟨by simpa using h1,by have:=(beq_iff_eq.1 h2);omega⟩ hp
  have HHA:=zG (show HInts (fun i=>i<w.heap.size) _ (.slice aA A.length cA) A from (hA.wide (ok':=fun i=>i<w.heap.size) fun i _ hl=>hl).under b1);have HHE:=zG (show HPu (fun i=>i<w.heap.size) _ (.slice aE nE cE) E from (hE.wide (ok':=fun i=>i<w.heap.size) fun i _ hl=>hl).under b1);clear hR hA hE hat hp;by_cases h14:op<14
  case pos=>
   have e2:Sk.ownE op E=[]:=(by unfold Sk.ownE;rw [if_pos h14]);rw [e2] at hel2 ⊢;have hcu:∀ W,Below w.heap.size (w.alloc (.cells #[.int .i64 op,.int .i64 k,.int .i64 out,.int .i64 n,.slice aA A.length cA,.slice aE nE cE] 40 (0,0))) W->Calls Tryz.prog 36 #[.agg #[.int .i64 op,.int .i64 k,.int .i64 out,.int .i64 n,.slice aA A.length cA,.slice none 0 0]] W _:=fun W hW=>qZ (ok:=fun i=>i<w.heap.size) op k out n (HHA.out.keep hW.size (fun i hi _=>hW.block i hi)) (HPu.hnil) hAl (Nat.zero_le _);generalize usesT A []=l at hcu ⊢;have HCU:=zG hcu;clear e2 hcu;by_cases h13:op=13
   case pos=>
    subst h13;have hA2:((A.length:Int)==2)=false:=(by simpa using hcond);clear hcond;go_enter Tryz.func13,Tryz.ntmps13;go_upto_region 1 with fail;generalize w.alloc (.cells #[.int .i64 13,.int .i64 k,.int .i64 out,.int .i64 n,.slice aA A.length cA,.slice aE nE cE] 40 (0,0))=w1 at b1 kA HHA HHE HCU ⊢;have d0:=coQ kA 0;have d1:=coQ kA 1;have d2:=coQ kA 2;have d3:=coQ kA 3;have d4:=coQ kA 4;have d5:=coQ kA 5;have f5:=foQ kA 5;simp at d0 d1 d2 d3 d4 d5;have KR:=zO kA 5 (.slice none 0 0);simp at KR;have B2:=b1.setCell (p:=⟨w.heap.size,5,none⟩) zL (.slice none 0 0);have HW:=zG (show Below w.heap.size w1 (w1.setCell ⟨w.heap.size,5,none⟩ (.slice none 0 0)) from (Below.refl _ _).setCell (p:=⟨w.heap.size,5,none⟩) zL (.slice none 0 0));go_upto_region 5 with fail;generalize w1.setCell ⟨w.heap.size,5,none⟩ (.slice none 0 0)=w2 at KR B2 HW ⊢;have g0:=coQ KR 0;have g1:=coQ KR 1;have g2:=coQ KR 2;have g3:=coQ KR 3;have g4:=coQ KR 4;have g5:=coQ KR 5;simp at g0 g1 g2 g3 g4 g5;clear d0 d1 d2 d3 d4 d5 f5;go_wp2_with fail;refine (HCU.out w2 HW.out).mono ?_;rintro e w3 ⟨v,rfl,own3,b3⟩;have HO:=zG ((zU own3.row).wide (ok':=fun i=>w.heap.size<=i) fun i hi _=>Nat.le_trans B2.size hi);clear own3;go_wp2;go_ret;exact ⟨v,rfl,HO.out,B2.trans (b3.mono B2.size)⟩
   case neg=>
    have hb13:(op==13)=false:=(by simpa using h13);clear h13 hcond;go_enter Tryz.func13,Tryz.ntmps13;go_upto_region 1 with fail;generalize w.alloc (.cells #[.int .i64 op,.int .i64 k,.int .i64 out,.int .i64 n,.slice aA A.length cA,.slice aE nE cE] 40 (0,0))=w1 at b1 kA HHA HHE HCU ⊢;have d0:=coQ kA 0;have d1:=coQ kA 1;have d2:=coQ kA 2;have d3:=coQ kA 3;have d4:=coQ kA 4;have d5:=coQ kA 5;have f5:=foQ kA 5;simp at d0 d1 d2 d3 d4 d5;have KR:=zO kA 5 (.slice none 0 0);simp at KR;have B2:=b1.setCell (p:=⟨w.heap.size,5,none⟩) zL (.slice none 0 0);have HW:=zG (show Below w.heap.size w1 (w1.setCell ⟨w.heap.size,5,none⟩ (.slice none 0 0)) from (Below.refl _ _).setCell (p:=⟨w.heap.size,5,none⟩) zL (.slice none 0 0));go_upto_region 5 with fail;generalize w1.setCell ⟨w.heap.size,5,none⟩ (.slice none 0 0)=w2 at KR B2 HW ⊢;have g0:=coQ KR 0;have g1:=coQ KR 1;have g2:=coQ KR 2;have g3:=coQ KR 3;have g4:=coQ KR 4;have g5:=coQ KR 5;simp at g0 g1 g2 g3 g4 g5;clear d0 d1 d2 d3 d4 d5 f5;go_wp2_with fail;refine (HCU.out w2 HW.out).mono ?_;rintro e w3 ⟨v,rfl,own3,b3⟩;have HO:=zG ((zU own3.row).wide (ok':=fun i=>w.heap.size<=i) fun i hi _=>Nat.le_trans B2.size hi);clear own3;go_wp2;go_ret;exact ⟨v,rfl,HO.out,B2.trans (b3.mono B2.size)⟩
  case neg=>
   have e2:Sk.ownE op E=E:=(by unfold Sk.ownE;rw [if_neg h14]);rw [e2] at hel2 ⊢;have hcu:=qZ op k out n HHA.out HHE.out hAl hEl;generalize usesT A E=l at hcu ⊢;have HCU:=zG hcu;clear e2 hcu;go_enter Tryz.func13,Tryz.ntmps13;go_upto_region 1 with fail;generalize w.alloc (.cells #[.int .i64 op,.int .i64 k,.int .i64 out,.int .i64 n,.slice aA A.length cA,.slice aE nE cE] 40 (0,0))=w1 at b1 kA HHA HHE HCU ⊢;have d0:=coQ kA 0;have d1:=coQ kA 1;have d2:=coQ kA 2;have d3:=coQ kA 3;have d4:=coQ kA 4;have d5:=coQ kA 5;simp at d0 d1 d2 d3 d4 d5;have h13:(op==13)=false:=(by simp;omega);clear hcond;go_wp2_with fail;refine HCU.out.mono ?_;rintro e w3 ⟨v,rfl,own3,b3⟩;have HO:=zG ((zU own3.row).wide (ok':=fun i=>w.heap.size<=i) fun i hi _=>Nat.le_trans b1.size hi);clear own3;go_wp2;go_ret;exact ⟨v,rfl,HO.out,b1.trans (b3.mono b1.size)⟩
def nI (l:List Nat):List Int:=l.map Int.ofNat
theorem nI_filter (l:List Nat) (j:Nat):(nI l).filter (· != (j:Int))=nI (l.filter (· != j)):=by
 unfold nI;rw [List.filter_map]
 congr 1
 apply List.filter_congr
 intro x _;rw [Bool.eq_iff_iff];simp;omega
theorem HRus.out {ok:Nat->Prop} {w:World} {ao:Option Addr} {n c:Nat} {l:List Sk.Ru} (h:HRus ok w (.slice ao n c) l) {j:Nat} (hj:j<l.length):∃ b o,ao=some ⟨b,o,none⟩/\b<w.heap.size/\ok b/\n=l.length/\l.length<=c/\c<=maxLen/\w.cell? ⟨b,o+j*6+2,none⟩=some (.int .i64 (l[j]).out):=by
 obtain ⟨C,⟨ao',cap,hv,h1,h2,h3⟩,hC⟩:=h;injection hv with e1 e2 e3;subst e1 e2 e3;obtain ⟨b,o,ha,hob,hb,hc⟩:=h3 (by omega);obtain ⟨y,e,hy⟩:=hC j hj;have:=(hc j hj).2 2 (by decide);rw [e] at this;exact ⟨b,o,ha,hb,hob,rfl,h1,h2,by simpa [rcs] using this⟩
theorem zR {α:Type} {T:Kind α} {B:Nat} {w:World} {v:Value} {l:List α} (h:OwnL T B w v l) {p:Addr} (hp:v.ownBlock≠some p.block) (hE:∀ ok w w' cs a,T.E ok w cs a->T.E ok w' cs a) (u:Value):OwnL T B (w.setCell p u) v l:=by
 obtain ⟨D,⟨h1,h2⟩,h3⟩:=h;refine ⟨D,⟨h1,?_⟩,fun j hj=>hE _ _ _ _ _ (h3 j hj)⟩;rcases h2 with h | ⟨g,cap,cur,e1,e2,e3,e4⟩
 ·exact .inl h
 ·refine .inr ⟨g,cap,cur,e1,e2,?_,e4⟩
  refine zN e3 ?_ u;intro e
  apply hp
  rw [e1,e];rfl
theorem take_any {okR:Nat->Prop} {w:World} {b B:Nat} {x:WkV} {vN vL:Value} {m:List Bool} {R:List Sk.Ru} {L:List Nat} (hk:WkAt w b x vN vL) (hm:Md w x.g m) (hn:x.nV=m.length) (hbg:b≠x.g) (hR:HRus okR w (.slice x.aR x.nR x.cR) R) (hL:OwnL kInt B w vL (nI L)) (hLl:L.length<=1000) (hBw:B<=w.heap.size)
  (hvb:vL.ownBlock≠some b) (hvg:vL.ownBlock≠some x.g) (j:Nat) (hj:j<R.length) (ho:0<=(R[j]).out/\(R[j]).out<m.length) :
  Calls Tryz.prog 38 #[.pointer (some ⟨b,0,none⟩),.int .i64 (j:Int)] w fun e w'=>e=.returned (.tuple #[])/\∃ vL',WkAt w' b x vN vL'/\Md w' x.g (m.set (R[j]).out.toNat true)/\OwnL kInt B w' vL' (nI (L.filter (· != j)))/\vL'.ownBlock=vL.ownBlock/\∀ S,b ∈ S->x.g ∈ S->(∀ k,vL.ownBlock=some k->k ∈ S)->Aside S w.heap.size w w':=by
 obtain ⟨bR,oR,haR,yR,-,hnR,hcR1,hcR2,cR⟩:=hR.out hj;obtain ⟨oi,hoi⟩:∃ oi:Nat,(R[j]).out=(oi:Int):=⟨(R[j]).out.toNat,by omega⟩;have hoi2:oi<m.length:=(by omega);rw [hoi] at cR ⊢;rw [Int.toNat_natCast];unfold maxLen at hcR2;have hk2:=hk;unfold WkAt at hk2;rw [haR,hnR] at hk2;obtain ⟨RL,hRL⟩:=nmQ (R.length);rw [<-hRL] at hk2 hj hcR1;have b1:Below w.heap.size w (w.alloc (.cells #[.int .i64 (j:Int)] 3 (0,0))):=(Below.refl _ _).alloc zL _;have kJ:=zJ w (.cells #[.int .i64 (j:Int)] 3 (0,0));have kW:=(b1.block _ (zH hk2)).trans hk2;have CR:=(b1.cell (p:=⟨bR,oR+j*6+2,none⟩) yR).trans cR;have hm1:=hm.under b1;have hbw:b<w.heap.size:=zH hk;have hgw:x.g<w.heap.size:=zH hm;have HL:=zG (hL.below b1);have HKW:=zG (show WkAt _ b x vN vL from hk.under b1);have HLT:=zG hL.lt;obtain ⟨aL,cL,rfl,-,-⟩:=hL.form;have hoN:oi<x.nV:=(by omega);clear hk hk2 hm hR hL hRL hn cR haR hnR ho hoi;go_enter Tryz.func38,Tryz.ntmps38;go_upto_region 1 with fail;generalize w.alloc (.cells #[.int .i64 (j:Int)] 3 (0,0))=w1 at b1 kJ kW CR hm1 HL HKW ⊢;have j0:=coQ kJ 0;have k3:=coQ kW 3;have k5:=coQ kW 5;have k6:=coQ kW 6;simp at j0 k3 k5 k6;have yJ:=zH kJ;have yW:=zH kW;have yR1:bR<w1.heap.size:=Nat.lt_of_lt_of_le yR b1.size;have cM:=hm1.cell hoi2;have yM:=zH hm1;have fM:=foQ hm1 oi;refine zK (fun w'=>Below w1.heap.size w1 w') (fun i=>i==14) (by kernel_rfl) ?_;have hH0:Below w1.heap.size w1 w1.drew:=(Below.refl _ _).drew;generalize w1.drew=wd0 at hH0 ⊢;refine' tkR 0 4 hH0 ?o1
 refine' tkR 1 5 hH0 ?o2
 refine' tkR 2 6 hH0 ?o3
 refine' tkQ 3 7 hH0 ?hyv ?o4
 case hyv=>
  intro wz hSw;have zc0:=(hSw.cell (p:=⟨w.heap.size,0,none⟩) yJ).trans j0;have zc1:=(hSw.cell (p:=⟨b,3,none⟩) yW).trans k3;have zc2:=(hSw.cell (p:=⟨b,5,none⟩) yW).trans k5;have zc3:=(hSw.cell (p:=⟨b,6,none⟩) yW).trans k6;have zc4:=(hSw.cell (p:=⟨bR,oR+j*6+2,none⟩) yR1).trans CR;have zc5:=(hSw.cell (p:=⟨x.g,oi,none⟩) yM).trans cM;go_simp
  try rfl
 try simp only [Act.put,sT,sZ,sS]
 refine' tkR 4 8 hH0 ?o5
 refine' tkR 5 9 hH0 ?o6
 refine' tkR 6 10 hH0 ?o7
 refine' tkR 7 11 hH0 ?o8
 refine' tkQ 8 12 hH0 ?hyv ?o9
 case hyv=>
  intro wz hSw;have zc0:=(hSw.cell (p:=⟨w.heap.size,0,none⟩) yJ).trans j0;have zc1:=(hSw.cell (p:=⟨b,3,none⟩) yW).trans k3;have zc2:=(hSw.cell (p:=⟨b,5,none⟩) yW).trans k5;have zc3:=(hSw.cell (p:=⟨b,6,none⟩) yW).trans k6;have zc4:=(hSw.cell (p:=⟨bR,oR+j*6+2,none⟩) yR1).trans CR;have zc5:=(hSw.cell (p:=⟨x.g,oi,none⟩) yM).trans cM;go_simp
  try rfl
 try simp only [Act.put,sT,sZ,sS]
 refine' tkQ 9 13 hH0 ?hyv ?o10
 case hyv=>
  intro wz hSw;have zc0:=(hSw.cell (p:=⟨w.heap.size,0,none⟩) yJ).trans j0;have zc1:=(hSw.cell (p:=⟨b,3,none⟩) yW).trans k3;have zc2:=(hSw.cell (p:=⟨b,5,none⟩) yW).trans k5;have zc3:=(hSw.cell (p:=⟨b,6,none⟩) yW).trans k6;have zc4:=(hSw.cell (p:=⟨bR,oR+j*6+2,none⟩) yR1).trans CR;have zc5:=(hSw.cell (p:=⟨x.g,oi,none⟩) yM).trans cM;go_simp
  try rfl
 try simp only [Act.put,sT,sZ,sS]
 refine' tkR 10 14 hH0 ?o11
 refine' tkR 11 15 hH0 ?o12
 refine' tkQ 12 16 hH0 ?hyv ?o13
 case hyv=>
  intro wz hSw;have zc0:=(hSw.cell (p:=⟨w.heap.size,0,none⟩) yJ).trans j0;have zc1:=(hSw.cell (p:=⟨b,3,none⟩) yW).trans k3;have zc2:=(hSw.cell (p:=⟨b,5,none⟩) yW).trans k5;have zc3:=(hSw.cell (p:=⟨b,6,none⟩) yW).trans k6;have zc4:=(hSw.cell (p:=⟨bR,oR+j*6+2,none⟩) yR1).trans CR;have zc5:=(hSw.cell (p:=⟨x.g,oi,none⟩) yM).trans cM;go_simp
  try rfl
 try simp only [Act.put,sT,sZ,sS]
 refine' tkR 13 17 hH0 ?o14
 refine tnQ 14 (fun K hK=>?_);have MD:=hm1.under hH0;have cm2:=MD.cell hoi2;have fr2:=foQ MD oi;have kJ2:=(hH0.block _ yJ).trans kJ;have kW2:=(hH0.block _ yW).trans HKW.out;have HA1:=zG (show ∀ S,x.g ∈ S->Aside S w.heap.size w (wd0.setCell ⟨x.g,oi,none⟩ (.bool true)) from fun S hS=>((aside (S:=S) b1).trans ((aside (S:=S) hH0).mono b1.size) zL).trans (Aside.setCell (B:=w.heap.size) (p:=⟨x.g,oi,none⟩) hS (.bool true)) zL);have HEND:=zG (And.intro (Md.put MD hoi2 true) (And.intro (zN (p:=⟨x.g,oi,none⟩) kJ2 (by show x.g≠w.heap.size;omega) (.bool true)) (And.intro (zN (p:=⟨x.g,oi,none⟩) kW2 (by show x.g≠b;exact fun e=>hbg e.symm) (.bool true)) (show OwnL kInt B (wd0.setCell ⟨x.g,oi,none⟩ (.bool true)) (.slice aL (nI L).length cL) (nI L) from zR (HL.out.below hH0) (by simpa using hvg) (fun _ _ _ _ _ h=>h) _))));clear MD kJ2 kW2;go_simp;refine hK.out _ _ (fun h=>absurd h (by decide)) ?_;clear hK K
 try simp only [Act.put,sT,sZ,sS]
 generalize wd0.setCell ⟨x.g,oi,none⟩ (.bool true)=wd1 at HA1 HEND ⊢;refine zI (by kernel_rfl) ?_ _;obtain ⟨md3,kJ3,kW3,own3⟩:=HEND.out;have hdl:=delete_any (nb:=w.heap.size) own3 (by unfold nI;rw [List.length_map];exact hLl) kJ3 (fun e=>by have:=(HLT.out w.heap.size e).2;omega) (Nat.le_trans hBw (HA1.out [x.g] (by simp)).size);have w6:=coQ kW3 6;simp at w6;have zW:=(HA1.out [x.g] (by simp)).size;generalize wd1=w3 at HA1 HEND hdl md3 kJ3 kW3 own3 w6 zW ⊢;have HMD:=zG md3;have HKW3:=zG (show WkAt w3 b x vN (.slice aL (nI L).length cL) from kW3);clear HEND md3 kJ3 kW3 own3 k3 k5 k6 j0 CR cM fM HL HKW hm1 kJ kW hH0;go_upto_region 2 with fail;go_wp2_with fail;refine hdl.mono ?_;rintro e w5 ⟨v',rfl,own5,hob,hA5⟩;obtain ⟨a5,c5,rfl,-,-⟩:=own5.form;have hA6:=hA5 (b :: x.g :: (Value.slice aL (nI L).length cL).ownBlock.toList) (fun k hk=>by rw [hk];simp);have hbb:b<w3.heap.size:=Nat.lt_of_lt_of_le hbw zW;have hgg:x.g<w3.heap.size:=Nat.lt_of_lt_of_le hgw zW;have hA7:=hA5 ((Value.slice aL (nI L).length cL).ownBlock.toList) (fun k hk=>by rw [hk];simp);have kW5:=hA7.keep HKW3.out hbb (fun hm=>hvb (by simpa using hm));have md5:Md w5 x.g (m.set oi true):=hA7.keep HMD.out hgg (fun hm=>hvg (by simpa using hm));have s6:=coQ kW5 6;have f6:=foQ kW5 6;simp at s6;have KR:=zO kW5 6 (.slice a5 ((nI L).filter (· != (j:Int))).length c5);have HF:=zG (And.intro KR (And.intro (show Md (w5.setCell ⟨b,6,none⟩ (.slice a5 ((nI L).filter (· != (j:Int))).length c5)) x.g (m.set oi true) from zN md5 (by show b≠x.g;exact hbg) _) (zR (p:=⟨b,6,none⟩) own5 (by rw [hob];exact hvb) (fun _ _ _ _ _ h=>h) (.slice a5 ((nI L).filter (· != (j:Int))).length c5))));have HAS:=zG (show ∀ S,b ∈ S->x.g ∈ S->(∀ k,(Value.slice aL (nI L).length cL).ownBlock=some k->k ∈ S)->Aside S w.heap.size w (w5.setCell ⟨b,6,none⟩ (.slice a5 ((nI L).filter (· != (j:Int))).length c5)) from fun S h1 h2 h3=>((HA1.out S h2).trans (hA5 S h3) zW).trans (Aside.setCell (B:=w.heap.size) (p:=⟨b,6,none⟩) h1 _) zL);have HOB:=zG hob;clear KR md5 own5 kW5 hA6 hA7 hA5 hdl w6 hob;go_wp2;refine bodyPost_end (v:=.tuple #[]) (by simp [results,Tryz.results38,go_sem]) rfl ?_;refine ⟨rfl,.slice a5 ((nI L).filter (· != (j:Int))).length c5,?_,HF.out.2.1,?_,HOB.out,HAS.out⟩
 ·have:=HF.out.1
  simp at this;exact this
 ·rw [<-nI_filter]
  exact HF.out.2.2
end Go.Proofs.YtegakbobaecdlaaGreatDoor
namespace Go.Proofs.YtegakbobaecdlaaGreatDoor
open Go.RowKit Go.IntWalk
theorem nI_len (l:List Nat):(nI l).length=l.length:=by simp [nI]
namespace Sk
end Sk
theorem ownI_keep {B:Nat} {w w':World} {v:Value} {l:List Int} (h:OwnL kInt B w v l) (hk:∀ k,v.ownBlock=some k->w'.heap[k]?=w.heap[k]?):OwnL kInt B w' v l:=by
 obtain ⟨D,⟨h1,h2⟩,h3⟩:=h;refine ⟨D,⟨h1,?_⟩,h3⟩;rcases h2 with h | ⟨g,cap,cur,e1,e2,e3,e4⟩
 ·exact .inl h
 ·exact .inr ⟨g,cap,cur,e1,e2,(hk g (by rw [e1];rfl)).trans e3,e4⟩
structure TkAt (okN okR:Nat->Prop) (w wr:World) (b B:Nat) (x:WkV) (vN:Value) (ob:Option Nat) (N:List (List Int)) (R:List Sk.Ru) (v3:Value) (m:List Bool) (L tk:List Nat):Prop where
 left:∃ vL,WkAt wr b x vN vL/\OwnL kInt B wr vL (nI L)/\vL.ownBlock=ob
 made:Md wr x.g m
 len:x.nV=m.length
 needs:HRow kIL okN wr vN N
 rules:HRus okR wr (.slice x.aR x.nR x.cR) R
 taken:OwnL kInt w.heap.size wr v3 (nI tk)
 size:w.heap.size<=wr.heap.size
 few:tk.length+L.length<=R.length
 nodup:L.Nodup
 inR:∀ j ∈ L,j<R.length
 frame:∀ S,b ∈ S->x.g ∈ S->(∀ k,ob=some k->k ∈ S)->Aside S w.heap.size w wr
end Go.Proofs.YtegakbobaecdlaaGreatDoor
