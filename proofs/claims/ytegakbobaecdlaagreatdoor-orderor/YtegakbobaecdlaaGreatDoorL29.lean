import Derived.Test.YtegakbobaecdlaaGreatDoorL28
import Derived.WalkKit
import Derived.WalkSpells
import Derived.IntWalk
import Derived.Deep.Cut
import Derived.Deep.LoopGhost
import Derived.Ground.NamesProg
import Derived.Laws.Cover1
import Derived.Laws.Externs
import Derived.Lib.Hide
import Derived.Lib.MakeNoZero
import Derived.Lib.SlBuf
import Derived.Shelf.Bytes.SlSmallAll
import Derived.Shelf.Lay
set_option linter.unusedVariables false
set_option linter.unusedSimpArgs false
set_option maxHeartbeats 64000000
set_option maxRecDepth 100000
namespace Go.Proofs.YtegakbobaecdlaaGreatDoor
open Go.RowKit Go.IntWalk
theorem pass75_any {w:World} {b pl:Nat} {x:LkV} {m':List Bool} {F1 F2:Int} (kl:w.heap[pl]?=some (.cells #[.pointer (some ⟨b,0,none⟩)] 106 (0,0))) (hk:LkAt w b x) (hgx:x.g<w.heap.size) (hpg:pl≠x.g) (hbg:b≠x.g) (hc:∀ W,Below w.heap.size w W->Calls Tryz.prog 82 #[.slice x.aV x.nV x.cV,.func (.func 83) #[] #[],.func (.func 84) #[] #[]] W fun e W'=>e=.returned (.agg #[.int .i64 F1,.int .i64 F2])/\LkAt W' b x/\Md W' x.g m'/\Aside [x.g] W.heap.size W W') :
  Calls Tryz.prog 81 #[.pointer (some ⟨pl,0,none⟩)] w fun e w'=>e=.returned (.agg #[.int .i64 F1,.int .i64 F2])/\LkAt w' b x/\Md w' x.g m'/\Aside [x.g] w.heap.size w w':=by
 have b1:Below w.heap.size w (w.alloc (.cells #[.int .i64 0,.int .i64 0] 30 (0,0))):=(Below.refl _ _).alloc zM _;have kA:=zI w (.cells #[.int .i64 0,.int .i64 0] 30 (0,0));have kl1:=(b1.block _ (zG kl)).trans kl;have hk1:=hk.under b1;have hbw:b<w.heap.size:=zG hk;unfold LkAt at hk1;clear hk kl;go_enter Tryz.func81,Tryz.ntmps81;go_upto_region 1 with fail;generalize w.alloc (.cells #[.int .i64 0,.int .i64 0] 30 (0,0))=w1 at b1 kA kl1 hk1 ⊢;have l0:=coQ kl1 0;have k0:=coQ hk1 0;simp at l0 k0;have yl:=zG kl1;have yk:=zG hk1;have yr:=zG kA;go_wp2_with fail;refine (hc w1 b1).mono ?_;rintro e w5 ⟨rfl,l5,m5,a5⟩;have k5:=a5.keep kA (zG kA) (by simp;omega);have z1:=b1.size;have zq:=Nat.le_refl w1.heap.size;have z5:=a5.size;have st0:=coQ k5 0;have st1:=coQ k5 1;have fr0:=foQ k5 0;have fr1:=foQ k5 1;simp at st0 st1;have KR:=zJ (zJ k5 0 (.int .i64 F1)) 1 (.int .i64 F2);have r0:=coQ KR 0;have r1:=coQ KR 1;simp at r0 r1;have A5:Aside [x.g] w.heap.size w w5:=(aside (S:=[x.g]) (b1.trans ((Below.refl w1.heap.size w1).mono b1.size))).trans a5 (Nat.le_trans z1 zq);have BR:=(A5.set (p:=⟨w.heap.size,0,none⟩) zM (.int .i64 F1)).set (p:=⟨w.heap.size,1,none⟩) zM (.int .i64 F2);have HE:=zE (show LkAt ((w5.setCell ⟨w.heap.size,0,none⟩ (.int .i64 F1)).setCell ⟨w.heap.size,1,none⟩ (.int .i64 F2)) b x/\Md ((w5.setCell ⟨w.heap.size,0,none⟩ (.int .i64 F1)).setCell ⟨w.heap.size,1,none⟩ (.int .i64 F2)) x.g m' from ⟨zP (zP l5 (by show w.heap.size≠b;omega) _) (by show w.heap.size≠b;omega) _,zP (zP m5 (by show w.heap.size≠x.g;omega) _) (by show w.heap.size≠x.g;omega) _⟩);clear KR l5 m5 a5 A5;clear l0 k0;go_wp2;exact bodyPost_ret (v:=.agg #[.int .i64 F1,.int .i64 F2]) (by simp [results,Tryz.results81,go_sem,r0,r1]) rfl ⟨rfl,HE.out.1,HE.out.2,BR⟩
theorem pass79_any {w:World} {b pl:Nat} {x:LkV} {m':List Bool} {F1 F2:Int} (kl:w.heap[pl]?=some (.cells #[.pointer (some ⟨b,0,none⟩)] 106 (0,0))) (hk:LkAt w b x) (hgx:x.g<w.heap.size) (hpg:pl≠x.g) (hbg:b≠x.g) (hc:∀ W,Below w.heap.size w W->Calls Tryz.prog 86 #[.slice x.aI x.nI x.cI,.func (.func 87) #[.pointer (some ⟨b,0,none⟩)] #[],.func (.func 88) #[] #[]] W fun e W'=>e=.returned (.agg #[.int .i64 F1,.int .i64 F2])/\LkAt W' b x/\Md W' x.g m'/\Aside [x.g] W.heap.size W W') :
  Calls Tryz.prog 85 #[.pointer (some ⟨pl,0,none⟩)] w fun e w'=>e=.returned (.agg #[.int .i64 F1,.int .i64 F2])/\LkAt w' b x/\Md w' x.g m'/\Aside [x.g] w.heap.size w w':=by
 have b1:Below w.heap.size w (w.alloc (.cells #[.int .i64 0,.int .i64 0] 30 (0,0))):=(Below.refl _ _).alloc zM _;have kA:=zI w (.cells #[.int .i64 0,.int .i64 0] 30 (0,0));have kl1:=(b1.block _ (zG kl)).trans kl;have hk1:=hk.under b1;have hbw:b<w.heap.size:=zG hk;unfold LkAt at hk1;clear hk kl;go_enter Tryz.func85,Tryz.ntmps85;go_upto_region 1 with fail;generalize w.alloc (.cells #[.int .i64 0,.int .i64 0] 30 (0,0))=w1 at b1 kA kl1 hk1 ⊢;have l0:=coQ kl1 0;have k1:=coQ hk1 1;simp at l0 k1;have yl:=zG kl1;have yk:=zG hk1;have yr:=zG kA;refine zK (fun w'=>Aside [x.g] w1.heap.size w1 w') (fun i=>i==8) (by kernel_rfl) ?_;have hH0:Aside [x.g] w1.heap.size w1 w1.drew:=(Aside.refl _).drew;have bz:Below w1.heap.size w1 w1.drew:=(Below.refl _ _).drew;generalize w1.drew=wd0 at hH0 bz ⊢;refine' tkQ 0 2 hH0 ?hyv ?o1
 case hyv=>
  intro wz hSw;have zc0:=(zL hSw (p:=⟨pl,0,none⟩) yl (by simp;exact hpg)).trans l0;have zc1:=(zL hSw (p:=⟨b,1,none⟩) yk (by simp;exact hbg)).trans k1;go_simp
  try rfl
 try simp only [Act.put,sT,sZ,sS]
 refine' tkR 1 3 hH0 ?o2
 refine' tkR 2 4 hH0 ?o3
 refine' tkR 3 5 hH0 ?o4
 refine' tkQ 4 6 hH0 ?hyv ?o5
 case hyv=>
  intro wz hSw;have zc0:=(zL hSw (p:=⟨pl,0,none⟩) yl (by simp;exact hpg)).trans l0;have zc1:=(zL hSw (p:=⟨b,1,none⟩) yk (by simp;exact hbg)).trans k1;go_simp
  try rfl
 try simp only [Act.put,sT,sZ,sS]
 refine' tkQ 5 7 hH0 ?hyv ?o6
 case hyv=>
  intro wz hSw;have zc0:=(zL hSw (p:=⟨pl,0,none⟩) yl (by simp;exact hpg)).trans l0;have zc1:=(zL hSw (p:=⟨b,1,none⟩) yk (by simp;exact hbg)).trans k1;go_simp
  try rfl
 try simp only [Act.put,sT,sZ,sS]
 refine' tkR 6 8 hH0 ?o7
 refine tnQ 7 (fun K hK=>?_);go_simp;refine (hc wd0 (b1.trans (bz.mono b1.size))).mono ?_;rintro e w5 ⟨rfl,l5,m5,a5⟩;have hHX:=bz;have kB:=(bz.block _ yr).trans kA;have hH1:Aside [x.g] w1.heap.size w1 w5:=hH0.trans a5 hH0.size;refine hK.out _ _ (fun _=>hH1) ?_;clear hK K
 try simp only [Act.put,sT,sZ,sS]
 refine tnQ 8 (fun K hK=>?_);have k5:=a5.keep kB (zG kB) (by simp;omega);have z1:=b1.size;have zq:=hHX.size;have z5:=a5.size;have st0:=coQ k5 0;have st1:=coQ k5 1;have fr0:=foQ k5 0;have fr1:=foQ k5 1;simp at st0 st1;have KR:=zJ (zJ k5 0 (.int .i64 F1)) 1 (.int .i64 F2);have r0:=coQ KR 0;have r1:=coQ KR 1;simp at r0 r1;have A5:Aside [x.g] w.heap.size w w5:=(aside (S:=[x.g]) (b1.trans (hHX.mono b1.size))).trans a5 (Nat.le_trans z1 zq);have BR:=(A5.set (p:=⟨w.heap.size,0,none⟩) zM (.int .i64 F1)).set (p:=⟨w.heap.size,1,none⟩) zM (.int .i64 F2);have HE:=zE (show LkAt ((w5.setCell ⟨w.heap.size,0,none⟩ (.int .i64 F1)).setCell ⟨w.heap.size,1,none⟩ (.int .i64 F2)) b x/\Md ((w5.setCell ⟨w.heap.size,0,none⟩ (.int .i64 F1)).setCell ⟨w.heap.size,1,none⟩ (.int .i64 F2)) x.g m' from ⟨zP (zP l5 (by show w.heap.size≠b;omega) _) (by show w.heap.size≠b;omega) _,zP (zP m5 (by show w.heap.size≠x.g;omega) _) (by show w.heap.size≠x.g;omega) _⟩);clear KR l5 m5 a5 A5;go_simp;refine hK.out _ _ (fun h=>absurd h (by decide)) ?_;clear hK K
 try simp only [Act.put,sT,sZ,sS]
 refine zH (by kernel_rfl) ?_ _;go_wp2;exact bodyPost_ret (v:=.agg #[.int .i64 F1,.int .i64 F2]) (by simp [results,Tryz.results85,go_sem,r0,r1]) rfl ⟨rfl,HE.out.1,HE.out.2,BR⟩
theorem pass83_any {w:World} {b pl:Nat} {x:LkV} {m':List Bool} {F1 F2:Int} (kl:w.heap[pl]?=some (.cells #[.pointer (some ⟨b,0,none⟩)] 106 (0,0))) (hk:LkAt w b x) (hgx:x.g<w.heap.size) (hpg:pl≠x.g) (hbg:b≠x.g) (hc:∀ W,Below w.heap.size w W->Calls Tryz.prog 86 #[.slice x.aO x.nO x.cO,.func (.func 90) #[.pointer (some ⟨b,0,none⟩)] #[],.func (.func 88) #[] #[]] W fun e W'=>e=.returned (.agg #[.int .i64 F1,.int .i64 F2])/\LkAt W' b x/\Md W' x.g m'/\Aside [x.g] W.heap.size W W') :
  Calls Tryz.prog 89 #[.pointer (some ⟨pl,0,none⟩)] w fun e w'=>e=.returned (.agg #[.int .i64 F1,.int .i64 F2])/\LkAt w' b x/\Md w' x.g m'/\Aside [x.g] w.heap.size w w':=by
 have b1:Below w.heap.size w (w.alloc (.cells #[.int .i64 0,.int .i64 0] 30 (0,0))):=(Below.refl _ _).alloc zM _;have kA:=zI w (.cells #[.int .i64 0,.int .i64 0] 30 (0,0));have kl1:=(b1.block _ (zG kl)).trans kl;have hk1:=hk.under b1;have hbw:b<w.heap.size:=zG hk;unfold LkAt at hk1;clear hk kl;go_enter Tryz.func89,Tryz.ntmps89;go_upto_region 1 with fail;generalize w.alloc (.cells #[.int .i64 0,.int .i64 0] 30 (0,0))=w1 at b1 kA kl1 hk1 ⊢;have l0:=coQ kl1 0;have k2:=coQ hk1 2;simp at l0 k2;have yl:=zG kl1;have yk:=zG hk1;have yr:=zG kA;refine zK (fun w'=>Aside [x.g] w1.heap.size w1 w') (fun i=>i==8) (by kernel_rfl) ?_;have hH0:Aside [x.g] w1.heap.size w1 w1.drew:=(Aside.refl _).drew;have bz:Below w1.heap.size w1 w1.drew:=(Below.refl _ _).drew;generalize w1.drew=wd0 at hH0 bz ⊢;refine' tkQ 0 2 hH0 ?hyv ?o8
 case hyv=>
  intro wz hSw;have zc0:=(zL hSw (p:=⟨pl,0,none⟩) yl (by simp;exact hpg)).trans l0;have zc1:=(zL hSw (p:=⟨b,2,none⟩) yk (by simp;exact hbg)).trans k2;go_simp
  try rfl
 try simp only [Act.put,sT,sZ,sS]
 refine' tkR 1 3 hH0 ?o9
 refine' tkR 2 4 hH0 ?o10
 refine' tkR 3 5 hH0 ?o11
 refine' tkQ 4 6 hH0 ?hyv ?o12
 case hyv=>
  intro wz hSw;have zc0:=(zL hSw (p:=⟨pl,0,none⟩) yl (by simp;exact hpg)).trans l0;have zc1:=(zL hSw (p:=⟨b,2,none⟩) yk (by simp;exact hbg)).trans k2;go_simp
  try rfl
 try simp only [Act.put,sT,sZ,sS]
 refine' tkQ 5 7 hH0 ?hyv ?o13
 case hyv=>
  intro wz hSw;have zc0:=(zL hSw (p:=⟨pl,0,none⟩) yl (by simp;exact hpg)).trans l0;have zc1:=(zL hSw (p:=⟨b,2,none⟩) yk (by simp;exact hbg)).trans k2;go_simp
  try rfl
 try simp only [Act.put,sT,sZ,sS]
 refine' tkR 6 8 hH0 ?o14
 refine tnQ 7 (fun K hK=>?_);go_simp;refine (hc wd0 (b1.trans (bz.mono b1.size))).mono ?_;rintro e w5 ⟨rfl,l5,m5,a5⟩;have hHX:=bz;have kB:=(bz.block _ yr).trans kA;have hH1:Aside [x.g] w1.heap.size w1 w5:=hH0.trans a5 hH0.size;refine hK.out _ _ (fun _=>hH1) ?_;clear hK K
 try simp only [Act.put,sT,sZ,sS]
 refine tnQ 8 (fun K hK=>?_);have k5:=a5.keep kB (zG kB) (by simp;omega);have z1:=b1.size;have zq:=hHX.size;have z5:=a5.size;have st0:=coQ k5 0;have st1:=coQ k5 1;have fr0:=foQ k5 0;have fr1:=foQ k5 1;simp at st0 st1;have KR:=zJ (zJ k5 0 (.int .i64 F1)) 1 (.int .i64 F2);have r0:=coQ KR 0;have r1:=coQ KR 1;simp at r0 r1;have A5:Aside [x.g] w.heap.size w w5:=(aside (S:=[x.g]) (b1.trans (hHX.mono b1.size))).trans a5 (Nat.le_trans z1 zq);have BR:=(A5.set (p:=⟨w.heap.size,0,none⟩) zM (.int .i64 F1)).set (p:=⟨w.heap.size,1,none⟩) zM (.int .i64 F2);have HE:=zE (show LkAt ((w5.setCell ⟨w.heap.size,0,none⟩ (.int .i64 F1)).setCell ⟨w.heap.size,1,none⟩ (.int .i64 F2)) b x/\Md ((w5.setCell ⟨w.heap.size,0,none⟩ (.int .i64 F1)).setCell ⟨w.heap.size,1,none⟩ (.int .i64 F2)) x.g m' from ⟨zP (zP l5 (by show w.heap.size≠b;omega) _) (by show w.heap.size≠b;omega) _,zP (zP m5 (by show w.heap.size≠x.g;omega) _) (by show w.heap.size≠x.g;omega) _⟩);clear KR l5 m5 a5 A5;go_simp;refine hK.out _ _ (fun h=>absurd h (by decide)) ?_;clear hK K
 try simp only [Act.put,sT,sZ,sS]
 refine zH (by kernel_rfl) ?_ _;go_wp2;exact bodyPost_ret (v:=.agg #[.int .i64 F1,.int .i64 F2]) (by simp [results,Tryz.results89,go_sem,r0,r1]) rfl ⟨rfl,HE.out.1,HE.out.2,BR⟩
theorem pass85_any {w:World} {b pl:Nat} {x:LkV} {m':List Bool} {F1 F2:Int} (kl:w.heap[pl]?=some (.cells #[.pointer (some ⟨b,0,none⟩)] 106 (0,0))) (hk:LkAt w b x) (hgx:x.g<w.heap.size) (hpg:pl≠x.g) (hbg:b≠x.g) (hc:∀ W,Below w.heap.size w W->Calls Tryz.prog 92 #[.slice x.aR x.nR x.cR,.func (.func 93) #[.pointer (some ⟨b,0,none⟩)] #[],.func (.func 94) #[] #[]] W fun e W'=>e=.returned (.agg #[.int .i64 F1,.int .i64 F2])/\LkAt W' b x/\Md W' x.g m'/\Aside [x.g] W.heap.size W W') :
  Calls Tryz.prog 91 #[.pointer (some ⟨pl,0,none⟩)] w fun e w'=>e=.returned (.agg #[.int .i64 F1,.int .i64 F2])/\LkAt w' b x/\Md w' x.g m'/\Aside [x.g] w.heap.size w w':=by
 have b1:Below w.heap.size w (w.alloc (.cells #[.int .i64 0,.int .i64 0] 30 (0,0))):=(Below.refl _ _).alloc zM _;have kA:=zI w (.cells #[.int .i64 0,.int .i64 0] 30 (0,0));have kl1:=(b1.block _ (zG kl)).trans kl;have hk1:=hk.under b1;have hbw:b<w.heap.size:=zG hk;unfold LkAt at hk1;clear hk kl;go_enter Tryz.func91,Tryz.ntmps91;go_upto_region 1 with fail;generalize w.alloc (.cells #[.int .i64 0,.int .i64 0] 30 (0,0))=w1 at b1 kA kl1 hk1 ⊢;have l0:=coQ kl1 0;have k3:=coQ hk1 3;simp at l0 k3;have yl:=zG kl1;have yk:=zG hk1;have yr:=zG kA;refine zK (fun w'=>Aside [x.g] w1.heap.size w1 w') (fun i=>i==8) (by kernel_rfl) ?_;have hH0:Aside [x.g] w1.heap.size w1 w1.drew:=(Aside.refl _).drew;have bz:Below w1.heap.size w1 w1.drew:=(Below.refl _ _).drew;generalize w1.drew=wd0 at hH0 bz ⊢;refine' tkQ 0 2 hH0 ?hyv ?o15
 case hyv=>
  intro wz hSw;have zc0:=(zL hSw (p:=⟨pl,0,none⟩) yl (by simp;exact hpg)).trans l0;have zc1:=(zL hSw (p:=⟨b,3,none⟩) yk (by simp;exact hbg)).trans k3;go_simp
  try rfl
 try simp only [Act.put,sT,sZ,sS]
 refine' tkR 1 3 hH0 ?o16
 refine' tkR 2 4 hH0 ?o17
 refine' tkR 3 5 hH0 ?o18
 refine' tkQ 4 6 hH0 ?hyv ?o19
 case hyv=>
  intro wz hSw;have zc0:=(zL hSw (p:=⟨pl,0,none⟩) yl (by simp;exact hpg)).trans l0;have zc1:=(zL hSw (p:=⟨b,3,none⟩) yk (by simp;exact hbg)).trans k3;go_simp
  try rfl
 try simp only [Act.put,sT,sZ,sS]
 refine' tkQ 5 7 hH0 ?hyv ?o20
 case hyv=>
  intro wz hSw;have zc0:=(zL hSw (p:=⟨pl,0,none⟩) yl (by simp;exact hpg)).trans l0;have zc1:=(zL hSw (p:=⟨b,3,none⟩) yk (by simp;exact hbg)).trans k3;go_simp
  try rfl
 try simp only [Act.put,sT,sZ,sS]
 refine' tkR 6 8 hH0 ?o21
 refine tnQ 7 (fun K hK=>?_);go_simp;refine (hc wd0 (b1.trans (bz.mono b1.size))).mono ?_;rintro e w5 ⟨rfl,l5,m5,a5⟩;have hHX:=bz;have kB:=(bz.block _ yr).trans kA;have hH1:Aside [x.g] w1.heap.size w1 w5:=hH0.trans a5 hH0.size;refine hK.out _ _ (fun _=>hH1) ?_;clear hK K
 try simp only [Act.put,sT,sZ,sS]
 refine tnQ 8 (fun K hK=>?_);have k5:=a5.keep kB (zG kB) (by simp;omega);have z1:=b1.size;have zq:=hHX.size;have z5:=a5.size;have st0:=coQ k5 0;have st1:=coQ k5 1;have fr0:=foQ k5 0;have fr1:=foQ k5 1;simp at st0 st1;have KR:=zJ (zJ k5 0 (.int .i64 F1)) 1 (.int .i64 F2);have r0:=coQ KR 0;have r1:=coQ KR 1;simp at r0 r1;have A5:Aside [x.g] w.heap.size w w5:=(aside (S:=[x.g]) (b1.trans (hHX.mono b1.size))).trans a5 (Nat.le_trans z1 zq);have BR:=(A5.set (p:=⟨w.heap.size,0,none⟩) zM (.int .i64 F1)).set (p:=⟨w.heap.size,1,none⟩) zM (.int .i64 F2);have HE:=zE (show LkAt ((w5.setCell ⟨w.heap.size,0,none⟩ (.int .i64 F1)).setCell ⟨w.heap.size,1,none⟩ (.int .i64 F2)) b x/\Md ((w5.setCell ⟨w.heap.size,0,none⟩ (.int .i64 F1)).setCell ⟨w.heap.size,1,none⟩ (.int .i64 F2)) x.g m' from ⟨zP (zP l5 (by show w.heap.size≠b;omega) _) (by show w.heap.size≠b;omega) _,zP (zP m5 (by show w.heap.size≠x.g;omega) _) (by show w.heap.size≠x.g;omega) _⟩);clear KR l5 m5 a5 A5;go_simp;refine hK.out _ _ (fun h=>absurd h (by decide)) ?_;clear hK K
 try simp only [Act.put,sT,sZ,sS]
 refine zH (by kernel_rfl) ?_ _;go_wp2;exact bodyPost_ret (v:=.agg #[.int .i64 F1,.int .i64 F2]) (by simp [results,Tryz.results91,go_sem,r0,r1]) rfl ⟨rfl,HE.out.1,HE.out.2,BR⟩
theorem pass89_any {w:World} {b pl:Nat} {x:LkV} {m':List Bool} {F1 F2:Int} (kl:w.heap[pl]?=some (.cells #[.pointer (some ⟨b,0,none⟩)] 106 (0,0))) (hk:LkAt w b x) (hgx:x.g<w.heap.size) (hpg:pl≠x.g) (hbg:b≠x.g) (hc:∀ W,Below w.heap.size w W->Calls Tryz.prog 92 #[.slice x.aR x.nR x.cR,.func (.func 96) #[.pointer (some ⟨b,0,none⟩)] #[],.func (.func 94) #[] #[]] W fun e W'=>e=.returned (.agg #[.int .i64 F1,.int .i64 F2])/\LkAt W' b x/\Md W' x.g m'/\Aside [x.g] W.heap.size W W') :
  Calls Tryz.prog 95 #[.pointer (some ⟨pl,0,none⟩)] w fun e w'=>e=.returned (.agg #[.int .i64 F1,.int .i64 F2])/\LkAt w' b x/\Md w' x.g m'/\Aside [x.g] w.heap.size w w':=by
 have b1:Below w.heap.size w (w.alloc (.cells #[.int .i64 0,.int .i64 0] 30 (0,0))):=(Below.refl _ _).alloc zM _;have kA:=zI w (.cells #[.int .i64 0,.int .i64 0] 30 (0,0));have kl1:=(b1.block _ (zG kl)).trans kl;have hk1:=hk.under b1;have hbw:b<w.heap.size:=zG hk;unfold LkAt at hk1;clear hk kl;go_enter Tryz.func95,Tryz.ntmps95;go_upto_region 1 with fail;generalize w.alloc (.cells #[.int .i64 0,.int .i64 0] 30 (0,0))=w1 at b1 kA kl1 hk1 ⊢;have l0:=coQ kl1 0;have k3:=coQ hk1 3;simp at l0 k3;have yl:=zG kl1;have yk:=zG hk1;have yr:=zG kA;refine zK (fun w'=>Aside [x.g] w1.heap.size w1 w') (fun i=>i==8) (by kernel_rfl) ?_;have hH0:Aside [x.g] w1.heap.size w1 w1.drew:=(Aside.refl _).drew;have bz:Below w1.heap.size w1 w1.drew:=(Below.refl _ _).drew;generalize w1.drew=wd0 at hH0 bz ⊢;refine' tkQ 0 2 hH0 ?hyv ?o22
 case hyv=>
  intro wz hSw;have zc0:=(zL hSw (p:=⟨pl,0,none⟩) yl (by simp;exact hpg)).trans l0;have zc1:=(zL hSw (p:=⟨b,3,none⟩) yk (by simp;exact hbg)).trans k3;go_simp
  try rfl
 try simp only [Act.put,sT,sZ,sS]
 refine' tkR 1 3 hH0 ?o23
 refine' tkR 2 4 hH0 ?o24
 refine' tkR 3 5 hH0 ?o25
 refine' tkQ 4 6 hH0 ?hyv ?o26
 case hyv=>
  intro wz hSw;have zc0:=(zL hSw (p:=⟨pl,0,none⟩) yl (by simp;exact hpg)).trans l0;have zc1:=(zL hSw (p:=⟨b,3,none⟩) yk (by simp;exact hbg)).trans k3;go_simp
  try rfl
 try simp only [Act.put,sT,sZ,sS]
 refine' tkQ 5 7 hH0 ?hyv ?o27
 case hyv=>
  intro wz hSw;have zc0:=(zL hSw (p:=⟨pl,0,none⟩) yl (by simp;exact hpg)).trans l0;have zc1:=(zL hSw (p:=⟨b,3,none⟩) yk (by simp;exact hbg)).trans k3;go_simp
  try rfl
 try simp only [Act.put,sT,sZ,sS]
 refine' tkR 6 8 hH0 ?o28
 refine tnQ 7 (fun K hK=>?_);go_simp;refine (hc wd0 (b1.trans (bz.mono b1.size))).mono ?_;rintro e w5 ⟨rfl,l5,m5,a5⟩;have hHX:=bz;have kB:=(bz.block _ yr).trans kA;have hH1:Aside [x.g] w1.heap.size w1 w5:=hH0.trans a5 hH0.size;refine hK.out _ _ (fun _=>hH1) ?_;clear hK K
 try simp only [Act.put,sT,sZ,sS]
 refine tnQ 8 (fun K hK=>?_);have k5:=a5.keep kB (zG kB) (by simp;omega);have z1:=b1.size;have zq:=hHX.size;have z5:=a5.size;have st0:=coQ k5 0;have st1:=coQ k5 1;have fr0:=foQ k5 0;have fr1:=foQ k5 1;simp at st0 st1;have KR:=zJ (zJ k5 0 (.int .i64 F1)) 1 (.int .i64 F2);have r0:=coQ KR 0;have r1:=coQ KR 1;simp at r0 r1;have A5:Aside [x.g] w.heap.size w w5:=(aside (S:=[x.g]) (b1.trans (hHX.mono b1.size))).trans a5 (Nat.le_trans z1 zq);have BR:=(A5.set (p:=⟨w.heap.size,0,none⟩) zM (.int .i64 F1)).set (p:=⟨w.heap.size,1,none⟩) zM (.int .i64 F2);have HE:=zE (show LkAt ((w5.setCell ⟨w.heap.size,0,none⟩ (.int .i64 F1)).setCell ⟨w.heap.size,1,none⟩ (.int .i64 F2)) b x/\Md ((w5.setCell ⟨w.heap.size,0,none⟩ (.int .i64 F1)).setCell ⟨w.heap.size,1,none⟩ (.int .i64 F2)) x.g m' from ⟨zP (zP l5 (by show w.heap.size≠b;omega) _) (by show w.heap.size≠b;omega) _,zP (zP m5 (by show w.heap.size≠x.g;omega) _) (by show w.heap.size≠x.g;omega) _⟩);clear KR l5 m5 a5 A5;go_simp;refine hK.out _ _ (fun h=>absurd h (by decide)) ?_;clear hK K
 try simp only [Act.put,sT,sZ,sS]
 refine zH (by kernel_rfl) ?_ _;go_wp2;exact bodyPost_ret (v:=.agg #[.int .i64 F1,.int .i64 F2]) (by simp [results,Tryz.results95,go_sem,r0,r1]) rfl ⟨rfl,HE.out.1,HE.out.2,BR⟩
theorem pass91_any {w:World} {b pl:Nat} {x:LkV} {m':List Bool} {F1 F2:Int} (kl:w.heap[pl]?=some (.cells #[.pointer (some ⟨b,0,none⟩)] 106 (0,0))) (hk:LkAt w b x) (hgx:x.g<w.heap.size) (hpg:pl≠x.g) (hbg:b≠x.g) (hc:∀ W,Below w.heap.size w W->Calls Tryz.prog 86 #[.slice x.aO x.nO x.cO,.func (.func 98) #[.pointer (some ⟨b,0,none⟩)] #[],.func (.func 88) #[] #[]] W fun e W'=>e=.returned (.agg #[.int .i64 F1,.int .i64 F2])/\LkAt W' b x/\Md W' x.g m'/\Aside [x.g] W.heap.size W W') :
  Calls Tryz.prog 97 #[.pointer (some ⟨pl,0,none⟩)] w fun e w'=>e=.returned (.agg #[.int .i64 F1,.int .i64 F2])/\LkAt w' b x/\Md w' x.g m'/\Aside [x.g] w.heap.size w w':=by
 have b1:Below w.heap.size w (w.alloc (.cells #[.int .i64 0,.int .i64 0] 30 (0,0))):=(Below.refl _ _).alloc zM _;have kA:=zI w (.cells #[.int .i64 0,.int .i64 0] 30 (0,0));have kl1:=(b1.block _ (zG kl)).trans kl;have hk1:=hk.under b1;have hbw:b<w.heap.size:=zG hk;unfold LkAt at hk1;clear hk kl;go_enter Tryz.func97,Tryz.ntmps97;go_upto_region 1 with fail;generalize w.alloc (.cells #[.int .i64 0,.int .i64 0] 30 (0,0))=w1 at b1 kA kl1 hk1 ⊢;have l0:=coQ kl1 0;have k2:=coQ hk1 2;simp at l0 k2;have yl:=zG kl1;have yk:=zG hk1;have yr:=zG kA;refine zK (fun w'=>Aside [x.g] w1.heap.size w1 w') (fun i=>i==8) (by kernel_rfl) ?_;have hH0:Aside [x.g] w1.heap.size w1 w1.drew:=(Aside.refl _).drew;have bz:Below w1.heap.size w1 w1.drew:=(Below.refl _ _).drew;generalize w1.drew=wd0 at hH0 bz ⊢;refine' tkQ 0 2 hH0 ?hyv ?o29
 case hyv=>
  intro wz hSw;have zc0:=(zL hSw (p:=⟨pl,0,none⟩) yl (by simp;exact hpg)).trans l0;have zc1:=(zL hSw (p:=⟨b,2,none⟩) yk (by simp;exact hbg)).trans k2;go_simp
  try rfl
 try simp only [Act.put,sT,sZ,sS]
 refine' tkR 1 3 hH0 ?o30
 refine' tkR 2 4 hH0 ?o31
 refine' tkR 3 5 hH0 ?o32
 refine' tkQ 4 6 hH0 ?hyv ?o33
 case hyv=>
  intro wz hSw;have zc0:=(zL hSw (p:=⟨pl,0,none⟩) yl (by simp;exact hpg)).trans l0;have zc1:=(zL hSw (p:=⟨b,2,none⟩) yk (by simp;exact hbg)).trans k2;go_simp
  try rfl
 try simp only [Act.put,sT,sZ,sS]
 refine' tkQ 5 7 hH0 ?hyv ?o34
 case hyv=>
  intro wz hSw;have zc0:=(zL hSw (p:=⟨pl,0,none⟩) yl (by simp;exact hpg)).trans l0;have zc1:=(zL hSw (p:=⟨b,2,none⟩) yk (by simp;exact hbg)).trans k2;go_simp
  try rfl
 try simp only [Act.put,sT,sZ,sS]
 refine' tkR 6 8 hH0 ?o35
 refine tnQ 7 (fun K hK=>?_);go_simp;refine (hc wd0 (b1.trans (bz.mono b1.size))).mono ?_;rintro e w5 ⟨rfl,l5,m5,a5⟩;have hHX:=bz;have kB:=(bz.block _ yr).trans kA;have hH1:Aside [x.g] w1.heap.size w1 w5:=hH0.trans a5 hH0.size;refine hK.out _ _ (fun _=>hH1) ?_;clear hK K
 try simp only [Act.put,sT,sZ,sS]
 refine tnQ 8 (fun K hK=>?_);have k5:=a5.keep kB (zG kB) (by simp;omega);have z1:=b1.size;have zq:=hHX.size;have z5:=a5.size;have st0:=coQ k5 0;have st1:=coQ k5 1;have fr0:=foQ k5 0;have fr1:=foQ k5 1;simp at st0 st1;have KR:=zJ (zJ k5 0 (.int .i64 F1)) 1 (.int .i64 F2);have r0:=coQ KR 0;have r1:=coQ KR 1;simp at r0 r1;have A5:Aside [x.g] w.heap.size w w5:=(aside (S:=[x.g]) (b1.trans (hHX.mono b1.size))).trans a5 (Nat.le_trans z1 zq);have BR:=(A5.set (p:=⟨w.heap.size,0,none⟩) zM (.int .i64 F1)).set (p:=⟨w.heap.size,1,none⟩) zM (.int .i64 F2);have HE:=zE (show LkAt ((w5.setCell ⟨w.heap.size,0,none⟩ (.int .i64 F1)).setCell ⟨w.heap.size,1,none⟩ (.int .i64 F2)) b x/\Md ((w5.setCell ⟨w.heap.size,0,none⟩ (.int .i64 F1)).setCell ⟨w.heap.size,1,none⟩ (.int .i64 F2)) x.g m' from ⟨zP (zP l5 (by show w.heap.size≠b;omega) _) (by show w.heap.size≠b;omega) _,zP (zP m5 (by show w.heap.size≠x.g;omega) _) (by show w.heap.size≠x.g;omega) _⟩);clear KR l5 m5 a5 A5;go_simp;refine hK.out _ _ (fun h=>absurd h (by decide)) ?_;clear hK K
 try simp only [Act.put,sT,sZ,sS]
 refine zH (by kernel_rfl) ?_ _;go_wp2;exact bodyPost_ret (v:=.agg #[.int .i64 F1,.int .i64 F2]) (by simp [results,Tryz.results97,go_sem,r0,r1]) rfl ⟨rfl,HE.out.1,HE.out.2,BR⟩
end Go.Proofs.YtegakbobaecdlaaGreatDoor
