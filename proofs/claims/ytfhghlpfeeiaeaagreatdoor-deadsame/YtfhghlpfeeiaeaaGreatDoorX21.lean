import Derived.Test.YtfhghlpfeeiaeaaGreatDoorX20
import Derived.Deep.Cut
import Derived.Deep.LoopGhost
import Derived.Ground.NamesProg
import Derived.IntWalk
import Derived.Laws.Cover1
import Derived.Laws.Externs
import Derived.Lib.Hide
import Derived.Lib.MakeNoZero
import Derived.Lib.SlBuf
import Derived.Shelf.Bytes.SlSmallAll
import Derived.Shelf.Lay
import Derived.WalkKit
import Derived.WalkSpells
set_option linter.unusedVariables false
set_option linter.unusedSimpArgs false
set_option maxHeartbeats 64000000
set_option maxRecDepth 100000
namespace Go.Proofs.YtfhghlpfeeiaeaaGreatDoor
open Go.RowKit Go.IntWalk
theorem pass75_any {w:World} {b pl:Nat} {x:LkV} {m':List Bool} {F1 F2:Int} (kl:w.heap[pl]?=some (.cells #[.pointer (some ⟨b,0,none⟩)] 77 (0,0))) (hk:LkAt w b x) (BD:x.g<w.heap.size) (j4:pl≠x.g) (gx:b≠x.g) (hc:∀ W,Below w.heap.size w W->Calls Tryz.prog 41 #[.slice x.aV x.nV x.cV,.func (.func 42) #[] #[],.func (.func 43) #[] #[]] W fun e W'=>e=.returned (.agg #[.int .i64 F1,.int .i64 F2])/\LkAt W' b x/\Md W' x.g m'/\Aside [x.g] W.heap.size W W') :
  Calls Tryz.prog 40 #[.pointer (some ⟨pl,0,none⟩)] w fun e w'=>e=.returned (.agg #[.int .i64 F1,.int .i64 F2])/\LkAt w' b x/\Md w' x.g m'/\Aside [x.g] w.heap.size w w':=by
 have b1:Below w.heap.size w (w.alloc (.cells #[.int .i64 0,.int .i64 0] 32 (0,0))):=(Below.refl _ _).alloc zBR _;have kA:=zBO w (.cells #[.int .i64 0,.int .i64 0] 32 (0,0));have jx:=(b1.block _ (zBM kl)).trans kl;have fZ:=hk.under b1;have su:b<w.heap.size:=zBM hk;unfold LkAt at fZ;clear hk kl;go_enter Tryz.func40,Tryz.ntmps40;go_upto_region 1 with fail;generalize w.alloc (.cells #[.int .i64 0,.int .i64 0] 32 (0,0))=w1 at b1 kA jx fZ ⊢;have l0:=coQ jx 0;have k0:=coQ fZ 0;simp at l0 k0;have yl:=zBM jx;have yk:=zBM fZ;have yr:=zBM kA;go_wp2_with fail;refine (hc w1 b1).mono ?_;rintro e w5 ⟨rfl,l5,m5,a5⟩;have k5:=a5.keep kA (zBM kA) (by simp;omega);have z1:=b1.size;have zq:=Nat.le_refl w1.heap.size;have z5:=a5.size;have cJ:=coQ k5 0;have cW:=coQ k5 1;have eO:=foQ k5 0;have fl:=foQ k5 1;simp at cJ cW;have KR:=zBQ (zBQ k5 0 (.int .i64 F1)) 1 (.int .i64 F2);have r0:=coQ KR 0;have r1:=coQ KR 1;simp at r0 r1;have A5:Aside [x.g] w.heap.size w w5:=(aside (S:=[x.g]) (b1.trans ((Below.refl w1.heap.size w1).mono b1.size))).trans a5 (Nat.le_trans z1 zq);have BR:=(A5.set (p:=⟨w.heap.size,0,none⟩) zBR (.int .i64 F1)).set (p:=⟨w.heap.size,1,none⟩) zBR (.int .i64 F2);have HE:=zBK (show LkAt ((w5.setCell ⟨w.heap.size,0,none⟩ (.int .i64 F1)).setCell ⟨w.heap.size,1,none⟩ (.int .i64 F2)) b x/\Md ((w5.setCell ⟨w.heap.size,0,none⟩ (.int .i64 F1)).setCell ⟨w.heap.size,1,none⟩ (.int .i64 F2)) x.g m' from ⟨zBT (zBT l5 (by show w.heap.size≠b;omega) _) (by show w.heap.size≠b;omega) _,zBT (zBT m5 (by show w.heap.size≠x.g;omega) _) (by show w.heap.size≠x.g;omega) _⟩);clear KR l5 m5 a5 A5;clear l0 k0;go_wp2;exact bodyPost_ret (v:=.agg #[.int .i64 F1,.int .i64 F2]) (by simp [results,Tryz.results40,go_sem,r0,r1]) rfl ⟨rfl,HE.out.1,HE.out.2,BR⟩
theorem pass79_any {w:World} {b pl:Nat} {x:LkV} {m':List Bool} {F1 F2:Int} (kl:w.heap[pl]?=some (.cells #[.pointer (some ⟨b,0,none⟩)] 77 (0,0))) (hk:LkAt w b x) (BD:x.g<w.heap.size) (j4:pl≠x.g) (gx:b≠x.g) (hc:∀ W,Below w.heap.size w W->Calls Tryz.prog 45 #[.slice x.aI x.nI x.cI,.func (.func 46) #[.pointer (some ⟨b,0,none⟩)] #[],.func (.func 47) #[] #[]] W fun e W'=>e=.returned (.agg #[.int .i64 F1,.int .i64 F2])/\LkAt W' b x/\Md W' x.g m'/\Aside [x.g] W.heap.size W W') :
  Calls Tryz.prog 44 #[.pointer (some ⟨pl,0,none⟩)] w fun e w'=>e=.returned (.agg #[.int .i64 F1,.int .i64 F2])/\LkAt w' b x/\Md w' x.g m'/\Aside [x.g] w.heap.size w w':=by
 have b1:Below w.heap.size w (w.alloc (.cells #[.int .i64 0,.int .i64 0] 32 (0,0))):=(Below.refl _ _).alloc zBR _;have kA:=zBO w (.cells #[.int .i64 0,.int .i64 0] 32 (0,0));have jx:=(b1.block _ (zBM kl)).trans kl;have fZ:=hk.under b1;have su:b<w.heap.size:=zBM hk;unfold LkAt at fZ;clear hk kl;go_enter Tryz.func44,Tryz.ntmps44;go_upto_region 1 with fail;generalize w.alloc (.cells #[.int .i64 0,.int .i64 0] 32 (0,0))=w1 at b1 kA jx fZ ⊢;have l0:=coQ jx 0;have k1:=coQ fZ 1;simp at l0 k1;have yl:=zBM jx;have yk:=zBM fZ;have yr:=zBM kA;refine zBP (fun w'=>Aside [x.g] w1.heap.size w1 w') (fun i=>i==8) (by kernel_rfl) ?_;have ab:Aside [x.g] w1.heap.size w1 w1.drew:=(Aside.refl _).drew;have bz:Below w1.heap.size w1 w1.drew:=(Below.refl _ _).drew;generalize w1.drew=ag at ab bz ⊢;refine' tkQ 0 2 ab ?hyv ?o1
 case hyv=>
  intro wz hSw;have aq:=(zBL hSw (p:=⟨pl,0,none⟩) yl (by simp;exact j4)).trans l0;have av:=(zBL hSw (p:=⟨b,1,none⟩) yk (by simp;exact gx)).trans k1;go_simp
  try rfl
 try simp only [Act.put,sT,sZ,sS]
 refine' tkR 1 3 ab ?o2
 refine' tkR 2 4 ab ?o3
 refine' tkR 3 5 ab ?o4
 refine' tkQ 4 6 ab ?hyv ?o5
 case hyv=>
  intro wz hSw;have aq:=(zBL hSw (p:=⟨pl,0,none⟩) yl (by simp;exact j4)).trans l0;have av:=(zBL hSw (p:=⟨b,1,none⟩) yk (by simp;exact gx)).trans k1;go_simp
  try rfl
 try simp only [Act.put,sT,sZ,sS]
 refine' tkQ 5 7 ab ?hyv ?o6
 case hyv=>
  intro wz hSw;have aq:=(zBL hSw (p:=⟨pl,0,none⟩) yl (by simp;exact j4)).trans l0;have av:=(zBL hSw (p:=⟨b,1,none⟩) yk (by simp;exact gx)).trans k1;go_simp
  try rfl
 try simp only [Act.put,sT,sZ,sS]
 refine' tkR 6 8 ab ?o7
 refine tnQ 7 (fun K hK=>?_);go_simp;refine (hc ag (b1.trans (bz.mono b1.size))).mono ?_;rintro e w5 ⟨rfl,l5,m5,a5⟩;have mY:=bz;have kB:=(bz.block _ yr).trans kA;have af:Aside [x.g] w1.heap.size w1 w5:=ab.trans a5 ab.size;refine hK.out _ _ (fun _=>af) ?_;clear hK K
 try simp only [Act.put,sT,sZ,sS]
 refine tnQ 8 (fun K hK=>?_);have k5:=a5.keep kB (zBM kB) (by simp;omega);have z1:=b1.size;have zq:=mY.size;have z5:=a5.size;have cJ:=coQ k5 0;have cW:=coQ k5 1;have eO:=foQ k5 0;have fl:=foQ k5 1;simp at cJ cW;have KR:=zBQ (zBQ k5 0 (.int .i64 F1)) 1 (.int .i64 F2);have r0:=coQ KR 0;have r1:=coQ KR 1;simp at r0 r1;have A5:Aside [x.g] w.heap.size w w5:=(aside (S:=[x.g]) (b1.trans (mY.mono b1.size))).trans a5 (Nat.le_trans z1 zq);have BR:=(A5.set (p:=⟨w.heap.size,0,none⟩) zBR (.int .i64 F1)).set (p:=⟨w.heap.size,1,none⟩) zBR (.int .i64 F2);have HE:=zBK (show LkAt ((w5.setCell ⟨w.heap.size,0,none⟩ (.int .i64 F1)).setCell ⟨w.heap.size,1,none⟩ (.int .i64 F2)) b x/\Md ((w5.setCell ⟨w.heap.size,0,none⟩ (.int .i64 F1)).setCell ⟨w.heap.size,1,none⟩ (.int .i64 F2)) x.g m' from ⟨zBT (zBT l5 (by show w.heap.size≠b;omega) _) (by show w.heap.size≠b;omega) _,zBT (zBT m5 (by show w.heap.size≠x.g;omega) _) (by show w.heap.size≠x.g;omega) _⟩);clear KR l5 m5 a5 A5;go_simp;refine hK.out _ _ (fun h=>absurd h (by decide)) ?_;clear hK K
 try simp only [Act.put,sT,sZ,sS]
 refine zBN (by kernel_rfl) ?_ _;go_wp2;exact bodyPost_ret (v:=.agg #[.int .i64 F1,.int .i64 F2]) (by simp [results,Tryz.results44,go_sem,r0,r1]) rfl ⟨rfl,HE.out.1,HE.out.2,BR⟩
theorem pass83_any {w:World} {b pl:Nat} {x:LkV} {m':List Bool} {F1 F2:Int} (kl:w.heap[pl]?=some (.cells #[.pointer (some ⟨b,0,none⟩)] 77 (0,0))) (hk:LkAt w b x) (BD:x.g<w.heap.size) (j4:pl≠x.g) (gx:b≠x.g) (hc:∀ W,Below w.heap.size w W->Calls Tryz.prog 45 #[.slice x.aO x.nO x.cO,.func (.func 49) #[.pointer (some ⟨b,0,none⟩)] #[],.func (.func 47) #[] #[]] W fun e W'=>e=.returned (.agg #[.int .i64 F1,.int .i64 F2])/\LkAt W' b x/\Md W' x.g m'/\Aside [x.g] W.heap.size W W') :
  Calls Tryz.prog 48 #[.pointer (some ⟨pl,0,none⟩)] w fun e w'=>e=.returned (.agg #[.int .i64 F1,.int .i64 F2])/\LkAt w' b x/\Md w' x.g m'/\Aside [x.g] w.heap.size w w':=by
 have b1:Below w.heap.size w (w.alloc (.cells #[.int .i64 0,.int .i64 0] 32 (0,0))):=(Below.refl _ _).alloc zBR _;have kA:=zBO w (.cells #[.int .i64 0,.int .i64 0] 32 (0,0));have jx:=(b1.block _ (zBM kl)).trans kl;have fZ:=hk.under b1;have su:b<w.heap.size:=zBM hk;unfold LkAt at fZ;clear hk kl;go_enter Tryz.func48,Tryz.ntmps48;go_upto_region 1 with fail;generalize w.alloc (.cells #[.int .i64 0,.int .i64 0] 32 (0,0))=w1 at b1 kA jx fZ ⊢;have l0:=coQ jx 0;have k2:=coQ fZ 2;simp at l0 k2;have yl:=zBM jx;have yk:=zBM fZ;have yr:=zBM kA;refine zBP (fun w'=>Aside [x.g] w1.heap.size w1 w') (fun i=>i==8) (by kernel_rfl) ?_;have ab:Aside [x.g] w1.heap.size w1 w1.drew:=(Aside.refl _).drew;have bz:Below w1.heap.size w1 w1.drew:=(Below.refl _ _).drew;generalize w1.drew=ag at ab bz ⊢;refine' tkQ 0 2 ab ?hyv ?o8
 case hyv=>
  intro wz hSw;have aq:=(zBL hSw (p:=⟨pl,0,none⟩) yl (by simp;exact j4)).trans l0;have av:=(zBL hSw (p:=⟨b,2,none⟩) yk (by simp;exact gx)).trans k2;go_simp
  try rfl
 try simp only [Act.put,sT,sZ,sS]
 refine' tkR 1 3 ab ?o9
 refine' tkR 2 4 ab ?o10
 refine' tkR 3 5 ab ?o11
 refine' tkQ 4 6 ab ?hyv ?o12
 case hyv=>
  intro wz hSw;have aq:=(zBL hSw (p:=⟨pl,0,none⟩) yl (by simp;exact j4)).trans l0;have av:=(zBL hSw (p:=⟨b,2,none⟩) yk (by simp;exact gx)).trans k2;go_simp
  try rfl
 try simp only [Act.put,sT,sZ,sS]
 refine' tkQ 5 7 ab ?hyv ?o13
 case hyv=>
  intro wz hSw;have aq:=(zBL hSw (p:=⟨pl,0,none⟩) yl (by simp;exact j4)).trans l0;have av:=(zBL hSw (p:=⟨b,2,none⟩) yk (by simp;exact gx)).trans k2;go_simp
  try rfl
 try simp only [Act.put,sT,sZ,sS]
 refine' tkR 6 8 ab ?o14
 refine tnQ 7 (fun K hK=>?_);go_simp;refine (hc ag (b1.trans (bz.mono b1.size))).mono ?_;rintro e w5 ⟨rfl,l5,m5,a5⟩;have mY:=bz;have kB:=(bz.block _ yr).trans kA;have af:Aside [x.g] w1.heap.size w1 w5:=ab.trans a5 ab.size;refine hK.out _ _ (fun _=>af) ?_;clear hK K
 try simp only [Act.put,sT,sZ,sS]
 refine tnQ 8 (fun K hK=>?_);have k5:=a5.keep kB (zBM kB) (by simp;omega);have z1:=b1.size;have zq:=mY.size;have z5:=a5.size;have cJ:=coQ k5 0;have cW:=coQ k5 1;have eO:=foQ k5 0;have fl:=foQ k5 1;simp at cJ cW;have KR:=zBQ (zBQ k5 0 (.int .i64 F1)) 1 (.int .i64 F2);have r0:=coQ KR 0;have r1:=coQ KR 1;simp at r0 r1;have A5:Aside [x.g] w.heap.size w w5:=(aside (S:=[x.g]) (b1.trans (mY.mono b1.size))).trans a5 (Nat.le_trans z1 zq);have BR:=(A5.set (p:=⟨w.heap.size,0,none⟩) zBR (.int .i64 F1)).set (p:=⟨w.heap.size,1,none⟩) zBR (.int .i64 F2);have HE:=zBK (show LkAt ((w5.setCell ⟨w.heap.size,0,none⟩ (.int .i64 F1)).setCell ⟨w.heap.size,1,none⟩ (.int .i64 F2)) b x/\Md ((w5.setCell ⟨w.heap.size,0,none⟩ (.int .i64 F1)).setCell ⟨w.heap.size,1,none⟩ (.int .i64 F2)) x.g m' from ⟨zBT (zBT l5 (by show w.heap.size≠b;omega) _) (by show w.heap.size≠b;omega) _,zBT (zBT m5 (by show w.heap.size≠x.g;omega) _) (by show w.heap.size≠x.g;omega) _⟩);clear KR l5 m5 a5 A5;go_simp;refine hK.out _ _ (fun h=>absurd h (by decide)) ?_;clear hK K
 try simp only [Act.put,sT,sZ,sS]
 refine zBN (by kernel_rfl) ?_ _;go_wp2;exact bodyPost_ret (v:=.agg #[.int .i64 F1,.int .i64 F2]) (by simp [results,Tryz.results48,go_sem,r0,r1]) rfl ⟨rfl,HE.out.1,HE.out.2,BR⟩
theorem pass85_any {w:World} {b pl:Nat} {x:LkV} {m':List Bool} {F1 F2:Int} (kl:w.heap[pl]?=some (.cells #[.pointer (some ⟨b,0,none⟩)] 77 (0,0))) (hk:LkAt w b x) (BD:x.g<w.heap.size) (j4:pl≠x.g) (gx:b≠x.g) (hc:∀ W,Below w.heap.size w W->Calls Tryz.prog 51 #[.slice x.aR x.nR x.cR,.func (.func 52) #[.pointer (some ⟨b,0,none⟩)] #[],.func (.func 53) #[] #[]] W fun e W'=>e=.returned (.agg #[.int .i64 F1,.int .i64 F2])/\LkAt W' b x/\Md W' x.g m'/\Aside [x.g] W.heap.size W W') :
  Calls Tryz.prog 50 #[.pointer (some ⟨pl,0,none⟩)] w fun e w'=>e=.returned (.agg #[.int .i64 F1,.int .i64 F2])/\LkAt w' b x/\Md w' x.g m'/\Aside [x.g] w.heap.size w w':=by
 have b1:Below w.heap.size w (w.alloc (.cells #[.int .i64 0,.int .i64 0] 32 (0,0))):=(Below.refl _ _).alloc zBR _;have kA:=zBO w (.cells #[.int .i64 0,.int .i64 0] 32 (0,0));have jx:=(b1.block _ (zBM kl)).trans kl;have fZ:=hk.under b1;have su:b<w.heap.size:=zBM hk;unfold LkAt at fZ;clear hk kl;go_enter Tryz.func50,Tryz.ntmps50;go_upto_region 1 with fail;generalize w.alloc (.cells #[.int .i64 0,.int .i64 0] 32 (0,0))=w1 at b1 kA jx fZ ⊢;have l0:=coQ jx 0;have k3:=coQ fZ 3;simp at l0 k3;have yl:=zBM jx;have yk:=zBM fZ;have yr:=zBM kA;refine zBP (fun w'=>Aside [x.g] w1.heap.size w1 w') (fun i=>i==8) (by kernel_rfl) ?_;have ab:Aside [x.g] w1.heap.size w1 w1.drew:=(Aside.refl _).drew;have bz:Below w1.heap.size w1 w1.drew:=(Below.refl _ _).drew;generalize w1.drew=ag at ab bz ⊢;refine' tkQ 0 2 ab ?hyv ?o15
 case hyv=>
  intro wz hSw;have aq:=(zBL hSw (p:=⟨pl,0,none⟩) yl (by simp;exact j4)).trans l0;have av:=(zBL hSw (p:=⟨b,3,none⟩) yk (by simp;exact gx)).trans k3;go_simp
  try rfl
 try simp only [Act.put,sT,sZ,sS]
 refine' tkR 1 3 ab ?o16
 refine' tkR 2 4 ab ?o17
 refine' tkR 3 5 ab ?o18
 refine' tkQ 4 6 ab ?hyv ?o19
 case hyv=>
  intro wz hSw;have aq:=(zBL hSw (p:=⟨pl,0,none⟩) yl (by simp;exact j4)).trans l0;have av:=(zBL hSw (p:=⟨b,3,none⟩) yk (by simp;exact gx)).trans k3;go_simp
  try rfl
 try simp only [Act.put,sT,sZ,sS]
 refine' tkQ 5 7 ab ?hyv ?o20
 case hyv=>
  intro wz hSw;have aq:=(zBL hSw (p:=⟨pl,0,none⟩) yl (by simp;exact j4)).trans l0;have av:=(zBL hSw (p:=⟨b,3,none⟩) yk (by simp;exact gx)).trans k3;go_simp
  try rfl
 try simp only [Act.put,sT,sZ,sS]
 refine' tkR 6 8 ab ?o21
 refine tnQ 7 (fun K hK=>?_);go_simp;refine (hc ag (b1.trans (bz.mono b1.size))).mono ?_;rintro e w5 ⟨rfl,l5,m5,a5⟩;have mY:=bz;have kB:=(bz.block _ yr).trans kA;have af:Aside [x.g] w1.heap.size w1 w5:=ab.trans a5 ab.size;refine hK.out _ _ (fun _=>af) ?_;clear hK K
 try simp only [Act.put,sT,sZ,sS]
 refine tnQ 8 (fun K hK=>?_);have k5:=a5.keep kB (zBM kB) (by simp;omega);have z1:=b1.size;have zq:=mY.size;have z5:=a5.size;have cJ:=coQ k5 0;have cW:=coQ k5 1;have eO:=foQ k5 0;have fl:=foQ k5 1;simp at cJ cW;have KR:=zBQ (zBQ k5 0 (.int .i64 F1)) 1 (.int .i64 F2);have r0:=coQ KR 0;have r1:=coQ KR 1;simp at r0 r1;have A5:Aside [x.g] w.heap.size w w5:=(aside (S:=[x.g]) (b1.trans (mY.mono b1.size))).trans a5 (Nat.le_trans z1 zq);have BR:=(A5.set (p:=⟨w.heap.size,0,none⟩) zBR (.int .i64 F1)).set (p:=⟨w.heap.size,1,none⟩) zBR (.int .i64 F2);have HE:=zBK (show LkAt ((w5.setCell ⟨w.heap.size,0,none⟩ (.int .i64 F1)).setCell ⟨w.heap.size,1,none⟩ (.int .i64 F2)) b x/\Md ((w5.setCell ⟨w.heap.size,0,none⟩ (.int .i64 F1)).setCell ⟨w.heap.size,1,none⟩ (.int .i64 F2)) x.g m' from ⟨zBT (zBT l5 (by show w.heap.size≠b;omega) _) (by show w.heap.size≠b;omega) _,zBT (zBT m5 (by show w.heap.size≠x.g;omega) _) (by show w.heap.size≠x.g;omega) _⟩);clear KR l5 m5 a5 A5;go_simp;refine hK.out _ _ (fun h=>absurd h (by decide)) ?_;clear hK K
 try simp only [Act.put,sT,sZ,sS]
 refine zBN (by kernel_rfl) ?_ _;go_wp2;exact bodyPost_ret (v:=.agg #[.int .i64 F1,.int .i64 F2]) (by simp [results,Tryz.results50,go_sem,r0,r1]) rfl ⟨rfl,HE.out.1,HE.out.2,BR⟩
theorem pass89_any {w:World} {b pl:Nat} {x:LkV} {m':List Bool} {F1 F2:Int} (kl:w.heap[pl]?=some (.cells #[.pointer (some ⟨b,0,none⟩)] 77 (0,0))) (hk:LkAt w b x) (BD:x.g<w.heap.size) (j4:pl≠x.g) (gx:b≠x.g) (hc:∀ W,Below w.heap.size w W->Calls Tryz.prog 51 #[.slice x.aR x.nR x.cR,.func (.func 55) #[.pointer (some ⟨b,0,none⟩)] #[],.func (.func 53) #[] #[]] W fun e W'=>e=.returned (.agg #[.int .i64 F1,.int .i64 F2])/\LkAt W' b x/\Md W' x.g m'/\Aside [x.g] W.heap.size W W') :
  Calls Tryz.prog 54 #[.pointer (some ⟨pl,0,none⟩)] w fun e w'=>e=.returned (.agg #[.int .i64 F1,.int .i64 F2])/\LkAt w' b x/\Md w' x.g m'/\Aside [x.g] w.heap.size w w':=by
 have b1:Below w.heap.size w (w.alloc (.cells #[.int .i64 0,.int .i64 0] 32 (0,0))):=(Below.refl _ _).alloc zBR _;have kA:=zBO w (.cells #[.int .i64 0,.int .i64 0] 32 (0,0));have jx:=(b1.block _ (zBM kl)).trans kl;have fZ:=hk.under b1;have su:b<w.heap.size:=zBM hk;unfold LkAt at fZ;clear hk kl;go_enter Tryz.func54,Tryz.ntmps54;go_upto_region 1 with fail;generalize w.alloc (.cells #[.int .i64 0,.int .i64 0] 32 (0,0))=w1 at b1 kA jx fZ ⊢;have l0:=coQ jx 0;have k3:=coQ fZ 3;simp at l0 k3;have yl:=zBM jx;have yk:=zBM fZ;have yr:=zBM kA;refine zBP (fun w'=>Aside [x.g] w1.heap.size w1 w') (fun i=>i==8) (by kernel_rfl) ?_;have ab:Aside [x.g] w1.heap.size w1 w1.drew:=(Aside.refl _).drew;have bz:Below w1.heap.size w1 w1.drew:=(Below.refl _ _).drew;generalize w1.drew=ag at ab bz ⊢;refine' tkQ 0 2 ab ?hyv ?o22
 case hyv=>
  intro wz hSw;have aq:=(zBL hSw (p:=⟨pl,0,none⟩) yl (by simp;exact j4)).trans l0;have av:=(zBL hSw (p:=⟨b,3,none⟩) yk (by simp;exact gx)).trans k3;go_simp
  try rfl
 try simp only [Act.put,sT,sZ,sS]
 refine' tkR 1 3 ab ?o23
 refine' tkR 2 4 ab ?o24
 refine' tkR 3 5 ab ?o25
 refine' tkQ 4 6 ab ?hyv ?o26
 case hyv=>
  intro wz hSw;have aq:=(zBL hSw (p:=⟨pl,0,none⟩) yl (by simp;exact j4)).trans l0;have av:=(zBL hSw (p:=⟨b,3,none⟩) yk (by simp;exact gx)).trans k3;go_simp
  try rfl
 try simp only [Act.put,sT,sZ,sS]
 refine' tkQ 5 7 ab ?hyv ?o27
 case hyv=>
  intro wz hSw;have aq:=(zBL hSw (p:=⟨pl,0,none⟩) yl (by simp;exact j4)).trans l0;have av:=(zBL hSw (p:=⟨b,3,none⟩) yk (by simp;exact gx)).trans k3;go_simp
  try rfl
 try simp only [Act.put,sT,sZ,sS]
 refine' tkR 6 8 ab ?o28
 refine tnQ 7 (fun K hK=>?_);go_simp;refine (hc ag (b1.trans (bz.mono b1.size))).mono ?_;rintro e w5 ⟨rfl,l5,m5,a5⟩;have mY:=bz;have kB:=(bz.block _ yr).trans kA;have af:Aside [x.g] w1.heap.size w1 w5:=ab.trans a5 ab.size;refine hK.out _ _ (fun _=>af) ?_;clear hK K
 try simp only [Act.put,sT,sZ,sS]
 refine tnQ 8 (fun K hK=>?_);have k5:=a5.keep kB (zBM kB) (by simp;omega);have z1:=b1.size;have zq:=mY.size;have z5:=a5.size;have cJ:=coQ k5 0;have cW:=coQ k5 1;have eO:=foQ k5 0;have fl:=foQ k5 1;simp at cJ cW;have KR:=zBQ (zBQ k5 0 (.int .i64 F1)) 1 (.int .i64 F2);have r0:=coQ KR 0;have r1:=coQ KR 1;simp at r0 r1;have A5:Aside [x.g] w.heap.size w w5:=(aside (S:=[x.g]) (b1.trans (mY.mono b1.size))).trans a5 (Nat.le_trans z1 zq);have BR:=(A5.set (p:=⟨w.heap.size,0,none⟩) zBR (.int .i64 F1)).set (p:=⟨w.heap.size,1,none⟩) zBR (.int .i64 F2);have HE:=zBK (show LkAt ((w5.setCell ⟨w.heap.size,0,none⟩ (.int .i64 F1)).setCell ⟨w.heap.size,1,none⟩ (.int .i64 F2)) b x/\Md ((w5.setCell ⟨w.heap.size,0,none⟩ (.int .i64 F1)).setCell ⟨w.heap.size,1,none⟩ (.int .i64 F2)) x.g m' from ⟨zBT (zBT l5 (by show w.heap.size≠b;omega) _) (by show w.heap.size≠b;omega) _,zBT (zBT m5 (by show w.heap.size≠x.g;omega) _) (by show w.heap.size≠x.g;omega) _⟩);clear KR l5 m5 a5 A5;go_simp;refine hK.out _ _ (fun h=>absurd h (by decide)) ?_;clear hK K
 try simp only [Act.put,sT,sZ,sS]
 refine zBN (by kernel_rfl) ?_ _;go_wp2;exact bodyPost_ret (v:=.agg #[.int .i64 F1,.int .i64 F2]) (by simp [results,Tryz.results54,go_sem,r0,r1]) rfl ⟨rfl,HE.out.1,HE.out.2,BR⟩
theorem pass91_any {w:World} {b pl:Nat} {x:LkV} {m':List Bool} {F1 F2:Int} (kl:w.heap[pl]?=some (.cells #[.pointer (some ⟨b,0,none⟩)] 77 (0,0))) (hk:LkAt w b x) (BD:x.g<w.heap.size) (j4:pl≠x.g) (gx:b≠x.g) (hc:∀ W,Below w.heap.size w W->Calls Tryz.prog 45 #[.slice x.aO x.nO x.cO,.func (.func 57) #[.pointer (some ⟨b,0,none⟩)] #[],.func (.func 47) #[] #[]] W fun e W'=>e=.returned (.agg #[.int .i64 F1,.int .i64 F2])/\LkAt W' b x/\Md W' x.g m'/\Aside [x.g] W.heap.size W W') :
  Calls Tryz.prog 56 #[.pointer (some ⟨pl,0,none⟩)] w fun e w'=>e=.returned (.agg #[.int .i64 F1,.int .i64 F2])/\LkAt w' b x/\Md w' x.g m'/\Aside [x.g] w.heap.size w w':=by
 have b1:Below w.heap.size w (w.alloc (.cells #[.int .i64 0,.int .i64 0] 32 (0,0))):=(Below.refl _ _).alloc zBR _;have kA:=zBO w (.cells #[.int .i64 0,.int .i64 0] 32 (0,0));have jx:=(b1.block _ (zBM kl)).trans kl;have fZ:=hk.under b1;have su:b<w.heap.size:=zBM hk;unfold LkAt at fZ;clear hk kl;go_enter Tryz.func56,Tryz.ntmps56;go_upto_region 1 with fail;generalize w.alloc (.cells #[.int .i64 0,.int .i64 0] 32 (0,0))=w1 at b1 kA jx fZ ⊢;have l0:=coQ jx 0;have k2:=coQ fZ 2;simp at l0 k2;have yl:=zBM jx;have yk:=zBM fZ;have yr:=zBM kA;refine zBP (fun w'=>Aside [x.g] w1.heap.size w1 w') (fun i=>i==8) (by kernel_rfl) ?_;have ab:Aside [x.g] w1.heap.size w1 w1.drew:=(Aside.refl _).drew;have bz:Below w1.heap.size w1 w1.drew:=(Below.refl _ _).drew;generalize w1.drew=ag at ab bz ⊢;refine' tkQ 0 2 ab ?hyv ?o29
 case hyv=>
  intro wz hSw;have aq:=(zBL hSw (p:=⟨pl,0,none⟩) yl (by simp;exact j4)).trans l0;have av:=(zBL hSw (p:=⟨b,2,none⟩) yk (by simp;exact gx)).trans k2;go_simp
  try rfl
 try simp only [Act.put,sT,sZ,sS]
 refine' tkR 1 3 ab ?o30
 refine' tkR 2 4 ab ?o31
 refine' tkR 3 5 ab ?o32
 refine' tkQ 4 6 ab ?hyv ?o33
 case hyv=>
  intro wz hSw;have aq:=(zBL hSw (p:=⟨pl,0,none⟩) yl (by simp;exact j4)).trans l0;have av:=(zBL hSw (p:=⟨b,2,none⟩) yk (by simp;exact gx)).trans k2;go_simp
  try rfl
 try simp only [Act.put,sT,sZ,sS]
 refine' tkQ 5 7 ab ?hyv ?o34
 case hyv=>
  intro wz hSw;have aq:=(zBL hSw (p:=⟨pl,0,none⟩) yl (by simp;exact j4)).trans l0;have av:=(zBL hSw (p:=⟨b,2,none⟩) yk (by simp;exact gx)).trans k2;go_simp
  try rfl
 try simp only [Act.put,sT,sZ,sS]
 refine' tkR 6 8 ab ?o35
 refine tnQ 7 (fun K hK=>?_);go_simp;refine (hc ag (b1.trans (bz.mono b1.size))).mono ?_;rintro e w5 ⟨rfl,l5,m5,a5⟩;have mY:=bz;have kB:=(bz.block _ yr).trans kA;have af:Aside [x.g] w1.heap.size w1 w5:=ab.trans a5 ab.size;refine hK.out _ _ (fun _=>af) ?_;clear hK K
 try simp only [Act.put,sT,sZ,sS]
 refine tnQ 8 (fun K hK=>?_);have k5:=a5.keep kB (zBM kB) (by simp;omega);have z1:=b1.size;have zq:=mY.size;have z5:=a5.size;have cJ:=coQ k5 0;have cW:=coQ k5 1;have eO:=foQ k5 0;have fl:=foQ k5 1;simp at cJ cW;have KR:=zBQ (zBQ k5 0 (.int .i64 F1)) 1 (.int .i64 F2);have r0:=coQ KR 0;have r1:=coQ KR 1;simp at r0 r1;have A5:Aside [x.g] w.heap.size w w5:=(aside (S:=[x.g]) (b1.trans (mY.mono b1.size))).trans a5 (Nat.le_trans z1 zq);have BR:=(A5.set (p:=⟨w.heap.size,0,none⟩) zBR (.int .i64 F1)).set (p:=⟨w.heap.size,1,none⟩) zBR (.int .i64 F2);have HE:=zBK (show LkAt ((w5.setCell ⟨w.heap.size,0,none⟩ (.int .i64 F1)).setCell ⟨w.heap.size,1,none⟩ (.int .i64 F2)) b x/\Md ((w5.setCell ⟨w.heap.size,0,none⟩ (.int .i64 F1)).setCell ⟨w.heap.size,1,none⟩ (.int .i64 F2)) x.g m' from ⟨zBT (zBT l5 (by show w.heap.size≠b;omega) _) (by show w.heap.size≠b;omega) _,zBT (zBT m5 (by show w.heap.size≠x.g;omega) _) (by show w.heap.size≠x.g;omega) _⟩);clear KR l5 m5 a5 A5;go_simp;refine hK.out _ _ (fun h=>absurd h (by decide)) ?_;clear hK K
 try simp only [Act.put,sT,sZ,sS]
 refine zBN (by kernel_rfl) ?_ _;go_wp2;exact bodyPost_ret (v:=.agg #[.int .i64 F1,.int .i64 F2]) (by simp [results,Tryz.results56,go_sem,r0,r1]) rfl ⟨rfl,HE.out.1,HE.out.2,BR⟩
end Go.Proofs.YtfhghlpfeeiaeaaGreatDoor
