import Derived.Test.YtoldepieaafakaaGreatDoorC22
import Derived.Test.YtoldepieaafakaaGreatDoorC21
import Derived.WalkKit
import Derived.WalkSpells
import Derived.IntWalk
import Derived.Deep.Cut
import Derived.Deep.LoopGhost
import Derived.Ground.NamesProg
import Derived.Laws.Cover1
import Derived.Laws.Externs
import Derived.Lib.Hide
import Derived.Lib.MakeNoZero
import Derived.Lib.SlBuf
import Derived.Shelf.Bytes.SlSmallAll
import Derived.Shelf.Lay
set_option linter.unusedVariables false
set_option linter.unusedSimpArgs false
set_option maxHeartbeats 64000000
set_option maxRecDepth 100000
namespace Go.Proofs.YtoldepieaafakaaGreatDoor
open Go.RowKit Go.IntWalk
theorem opEff0_any (p:Pu) (tk mk:Int) (w:World) (hG:GlobK w) (ho:Kd.opT p.k=(tk,mk,0)):Calls Tryz.prog 100 #[pv p] w fun r w'=>∃ u,r=.returned (.tuple #[u,.int .u8 (Sk.when false mk)])/\HBy (fun i=>w.heap.size<=i) w' u (List.replicate 0 tk)/\Below w.heap.size w w':=by
 have b1:Below w.heap.size w (w.alloc (.cells #[.int .i64 p.op,.int .i64 p.k,.int .i64 p.v,.int .i64 p.n] 84 (0,0))):=(Below.refl _ _).alloc zL _;have kA:=zH w (.cells #[.int .i64 p.op,.int .i64 p.k,.int .i64 p.v,.int .i64 p.n] 84 (0,0));have hco:=jO p.k _ (hG.under b1);rw [ho] at hco
 dsimp only at hco
 clear hG ho;obtain ⟨op,k,v,n⟩:=p
 dsimp only at *
 go_enter Tryz.func100,Tryz.ntmps100;go_upto_region 1 with fail;generalize w.alloc (.cells #[.int .i64 op,.int .i64 k,.int .i64 v,.int .i64 n] 84 (0,0))=w1 at b1 kA hco ⊢;have a1:=coQ kA 1;simp at a1;go_wp2_with fail;refine hco.mono ?_;rintro e w2 ⟨rfl,b2⟩;have B2:=b1.trans (b2.mono b1.size);have kA2:=(b2.block _ (zG kA)).trans kA;have c0:=coQ kA2 0;simp at c0;clear hco kA a1;have b3:Below w2.heap.size w2 (w2.alloc (.cells #[.int .u8 tk] 5 (0,0))):=(Below.refl _ _).alloc zL _;have kB:=zH w2 (.cells #[.int .u8 tk] 5 (0,0));have hcell:(w2.alloc (.cells #[.int .u8 tk] 5 (0,0))).cell? ⟨w2.heap.size,0,none⟩=some (.int .u8 tk):=(coQ kB 0).trans rfl;have HB3:=zD (B2.trans (b3.mono B2.size));have HRP:=zD (qH (c:=1) 0 hcell (zG kB) (by omega));clear kA2 kB hcell b3;go_wp2_with fail;refine HRP.out.mono ?_;rintro e w4 ⟨u,rfl,h4,b4⟩;have B4:=HB3.out.trans (b4.mono HB3.out.size);have H4:=zD (h4.wide (ok':=fun i=>w.heap.size<=i) fun i hi _=>Nat.le_trans HB3.out.size hi);clear h4 HRP HB3;go_wp2_with fail;refine (xE _ mk _).mono ?_;rintro e w5 ⟨rfl,b5⟩;have B5:=B4.trans (b5.mono B4.size);have H5:=zD (H4.out.under b5);go_wp2
 go_ret2
 exact ⟨u,by first | rfl | (rw [e5]) | (rw [e5];rfl),H5.out,B5⟩
theorem opEff1_any (p:Pu) (tk mk:Int) (w:World) (hG:GlobK w) (ho:Kd.opT p.k=(tk,mk,1)):Calls Tryz.prog 100 #[pv p] w fun r w'=>∃ u,r=.returned (.tuple #[u,.int .u8 (Sk.when (p.op==5) mk)])/\HBy (fun i=>w.heap.size<=i) w' u (List.replicate 1 tk)/\Below w.heap.size w w':=by
 have b1:Below w.heap.size w (w.alloc (.cells #[.int .i64 p.op,.int .i64 p.k,.int .i64 p.v,.int .i64 p.n] 84 (0,0))):=(Below.refl _ _).alloc zL _;have kA:=zH w (.cells #[.int .i64 p.op,.int .i64 p.k,.int .i64 p.v,.int .i64 p.n] 84 (0,0));have hco:=jO p.k _ (hG.under b1);rw [ho] at hco
 dsimp only at hco
 clear hG ho;obtain ⟨op,k,v,n⟩:=p
 dsimp only at *
 cases e5:(op==5)
 ·go_enter Tryz.func100,Tryz.ntmps100
  go_upto_region 1 with fail;generalize w.alloc (.cells #[.int .i64 op,.int .i64 k,.int .i64 v,.int .i64 n] 84 (0,0))=w1 at b1 kA hco ⊢;have a1:=coQ kA 1;simp at a1;go_wp2_with fail;refine hco.mono ?_;rintro e w2 ⟨rfl,b2⟩;have B2:=b1.trans (b2.mono b1.size);have kA2:=(b2.block _ (zG kA)).trans kA;have c0:=coQ kA2 0;simp at c0;clear hco kA a1;have b3:Below w2.heap.size w2 (w2.alloc (.cells #[.int .u8 tk] 5 (0,0))):=(Below.refl _ _).alloc zL _;have kB:=zH w2 (.cells #[.int .u8 tk] 5 (0,0));have hcell:(w2.alloc (.cells #[.int .u8 tk] 5 (0,0))).cell? ⟨w2.heap.size,0,none⟩=some (.int .u8 tk):=(coQ kB 0).trans rfl;have HB3:=zD (B2.trans (b3.mono B2.size));have HRP:=zD (qH (c:=1) 1 hcell (zG kB) (by omega));clear kA2 kB hcell b3;go_wp2_with fail;refine HRP.out.mono ?_;rintro e w4 ⟨u,rfl,h4,b4⟩;have B4:=HB3.out.trans (b4.mono HB3.out.size);have H4:=zD (h4.wide (ok':=fun i=>w.heap.size<=i) fun i hi _=>Nat.le_trans HB3.out.size hi);clear h4 HRP HB3;go_wp2_with fail;refine (xE _ mk _).mono ?_;rintro e w5 ⟨rfl,b5⟩;have B5:=B4.trans (b5.mono B4.size);have H5:=zD (H4.out.under b5);go_wp2
  go_ret2
  exact ⟨u,by first | rfl | (rw [e5]) | (rw [e5];rfl),H5.out,B5⟩
 ·go_enter Tryz.func100,Tryz.ntmps100
  go_upto_region 1 with fail;generalize w.alloc (.cells #[.int .i64 op,.int .i64 k,.int .i64 v,.int .i64 n] 84 (0,0))=w1 at b1 kA hco ⊢;have a1:=coQ kA 1;simp at a1;go_wp2_with fail;refine hco.mono ?_;rintro e w2 ⟨rfl,b2⟩;have B2:=b1.trans (b2.mono b1.size);have kA2:=(b2.block _ (zG kA)).trans kA;have c0:=coQ kA2 0;simp at c0;clear hco kA a1;have b3:Below w2.heap.size w2 (w2.alloc (.cells #[.int .u8 tk] 5 (0,0))):=(Below.refl _ _).alloc zL _;have kB:=zH w2 (.cells #[.int .u8 tk] 5 (0,0));have hcell:(w2.alloc (.cells #[.int .u8 tk] 5 (0,0))).cell? ⟨w2.heap.size,0,none⟩=some (.int .u8 tk):=(coQ kB 0).trans rfl;have HB3:=zD (B2.trans (b3.mono B2.size));have HRP:=zD (qH (c:=1) 1 hcell (zG kB) (by omega));clear kA2 kB hcell b3;go_wp2_with fail;refine HRP.out.mono ?_;rintro e w4 ⟨u,rfl,h4,b4⟩;have B4:=HB3.out.trans (b4.mono HB3.out.size);have H4:=zD (h4.wide (ok':=fun i=>w.heap.size<=i) fun i hi _=>Nat.le_trans HB3.out.size hi);clear h4 HRP HB3;go_wp2_with fail;refine (xE _ mk _).mono ?_;rintro e w5 ⟨rfl,b5⟩;have B5:=B4.trans (b5.mono B4.size);have H5:=zD (H4.out.under b5);go_wp2
  go_ret2
  exact ⟨u,by first | rfl | (rw [e5]) | (rw [e5];rfl),H5.out,B5⟩
theorem opEff2_any (p:Pu) (tk mk:Int) (w:World) (hG:GlobK w) (ho:Kd.opT p.k=(tk,mk,2)):Calls Tryz.prog 100 #[pv p] w fun r w'=>∃ u,r=.returned (.tuple #[u,.int .u8 (Sk.when (p.op==6) mk)])/\HBy (fun i=>w.heap.size<=i) w' u (List.replicate 2 tk)/\Below w.heap.size w w':=by
 have b1:Below w.heap.size w (w.alloc (.cells #[.int .i64 p.op,.int .i64 p.k,.int .i64 p.v,.int .i64 p.n] 84 (0,0))):=(Below.refl _ _).alloc zL _;have kA:=zH w (.cells #[.int .i64 p.op,.int .i64 p.k,.int .i64 p.v,.int .i64 p.n] 84 (0,0));have hco:=jO p.k _ (hG.under b1);rw [ho] at hco
 dsimp only at hco
 clear hG ho;obtain ⟨op,k,v,n⟩:=p
 dsimp only at *
 cases e5:(op==6)
 ·go_enter Tryz.func100,Tryz.ntmps100
  go_upto_region 1 with fail;generalize w.alloc (.cells #[.int .i64 op,.int .i64 k,.int .i64 v,.int .i64 n] 84 (0,0))=w1 at b1 kA hco ⊢;have a1:=coQ kA 1;simp at a1;go_wp2_with fail;refine hco.mono ?_;rintro e w2 ⟨rfl,b2⟩;have B2:=b1.trans (b2.mono b1.size);have kA2:=(b2.block _ (zG kA)).trans kA;have c0:=coQ kA2 0;simp at c0;clear hco kA a1;have b3:Below w2.heap.size w2 (w2.alloc (.cells #[.int .u8 tk] 5 (0,0))):=(Below.refl _ _).alloc zL _;have kB:=zH w2 (.cells #[.int .u8 tk] 5 (0,0));have hcell:(w2.alloc (.cells #[.int .u8 tk] 5 (0,0))).cell? ⟨w2.heap.size,0,none⟩=some (.int .u8 tk):=(coQ kB 0).trans rfl;have HB3:=zD (B2.trans (b3.mono B2.size));have HRP:=zD (qH (c:=1) 2 hcell (zG kB) (by omega));clear kA2 kB hcell b3;go_wp2_with fail;refine HRP.out.mono ?_;rintro e w4 ⟨u,rfl,h4,b4⟩;have B4:=HB3.out.trans (b4.mono HB3.out.size);have H4:=zD (h4.wide (ok':=fun i=>w.heap.size<=i) fun i hi _=>Nat.le_trans HB3.out.size hi);clear h4 HRP HB3;go_wp2_with fail;refine (xE _ mk _).mono ?_;rintro e w5 ⟨rfl,b5⟩;have B5:=B4.trans (b5.mono B4.size);have H5:=zD (H4.out.under b5);go_wp2
  go_ret2
  exact ⟨u,by first | rfl | (rw [e5]) | (rw [e5];rfl),H5.out,B5⟩
 ·go_enter Tryz.func100,Tryz.ntmps100
  go_upto_region 1 with fail;generalize w.alloc (.cells #[.int .i64 op,.int .i64 k,.int .i64 v,.int .i64 n] 84 (0,0))=w1 at b1 kA hco ⊢;have a1:=coQ kA 1;simp at a1;go_wp2_with fail;refine hco.mono ?_;rintro e w2 ⟨rfl,b2⟩;have B2:=b1.trans (b2.mono b1.size);have kA2:=(b2.block _ (zG kA)).trans kA;have c0:=coQ kA2 0;simp at c0;clear hco kA a1;have b3:Below w2.heap.size w2 (w2.alloc (.cells #[.int .u8 tk] 5 (0,0))):=(Below.refl _ _).alloc zL _;have kB:=zH w2 (.cells #[.int .u8 tk] 5 (0,0));have hcell:(w2.alloc (.cells #[.int .u8 tk] 5 (0,0))).cell? ⟨w2.heap.size,0,none⟩=some (.int .u8 tk):=(coQ kB 0).trans rfl;have HB3:=zD (B2.trans (b3.mono B2.size));have HRP:=zD (qH (c:=1) 2 hcell (zG kB) (by omega));clear kA2 kB hcell b3;go_wp2_with fail;refine HRP.out.mono ?_;rintro e w4 ⟨u,rfl,h4,b4⟩;have B4:=HB3.out.trans (b4.mono HB3.out.size);have H4:=zD (h4.wide (ok':=fun i=>w.heap.size<=i) fun i hi _=>Nat.le_trans HB3.out.size hi);clear h4 HRP HB3;go_wp2_with fail;refine (xE _ mk _).mono ?_;rintro e w5 ⟨rfl,b5⟩;have B5:=B4.trans (b5.mono B4.size);have H5:=zD (H4.out.under b5);go_wp2
  go_ret2
  exact ⟨u,by first | rfl | (rw [e5]) | (rw [e5];rfl),H5.out,B5⟩
theorem qB (p:Pu) (w:World) (hG:GlobK w):Calls Tryz.prog 100 #[pv p] w fun r w'=>∃ u,r=.returned (.tuple #[u,.int .u8 (Sk.opEff p).2])/\HBy (fun i=>w.heap.size<=i) w' u (Sk.opEff p).1/\Below w.heap.size w w':=by
 have hok:=(Sk.opT_ok p.k).2.2;unfold Sk.opEff;obtain ⟨tk,mk,on,ho⟩:∃ tk mk on,Kd.opT p.k=(tk,mk,on):=⟨_,_,_,rfl⟩;rw [ho] at hok ⊢
 dsimp only at hok ⊢
 rcases hok with rfl | rfl | rfl
 ·exact opEff0_any p tk mk w hG ho
 ·exact (opEff1_any p tk mk w hG ho).mono fun _ _ ⟨u,h1,h2⟩=>⟨u,by rw [h1];simp,h2⟩
 ·exact (opEff2_any p tk mk w hG ho).mono fun _ _ ⟨u,h1,h2⟩=>⟨u,by rw [h1];simp,h2⟩
end Go.Proofs.YtoldepieaafakaaGreatDoor
