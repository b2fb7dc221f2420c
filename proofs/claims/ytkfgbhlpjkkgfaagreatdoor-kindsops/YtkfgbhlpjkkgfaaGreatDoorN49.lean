import Derived.Test.YtkfgbhlpjkkgfaaGreatDoorN48
import Derived.Test.YtkfgbhlpjkkgfaaGreatDoorRows
import Derived.Lib.LaidTab
import Derived.LaidSub
import Derived.FnData
set_option linter.unusedVariables false
set_option linter.unusedSimpArgs false
set_option maxHeartbeats 64000000
set_option maxRecDepth 100000
namespace Go.Proofs.YtkfgbhlpjkkgfaaGreatDoor
open Go.RowKit Go.IntWalk
theorem HNames.hnone {ok:Nat→Prop} {w:World}:HNames ok w (.slice none 0 0) []:=⟨fun _=>[],⟨Option.none,0,rfl,Nat.le_refl _,Nat.zero_le _,fun h=>absurd h (Nat.lt_irrefl _)⟩,fun i h=>absurd h (Nat.not_lt_zero _)⟩
theorem HSizes.hnone {ok:Nat→Prop} {w:World}:HSizes ok w (.slice none 0 0) []:=⟨fun _=>[],⟨Option.none,0,rfl,Nat.le_refl _,Nat.zero_le _,fun h=>absurd h (Nat.lt_irrefl _)⟩,fun i h=>absurd h (Nat.not_lt_zero _)⟩
theorem ops_walk {ok ok':Nat→Prop} {w:World} {v u:Value} {a b:Kd.Ty} (k:Int) (ha:HTy ok w v a) (hb:HTy ok' w u b) (hT:GlobT w) (hK:GlobK w) (hg:Gl (fun i=>i<w.heap.size) w) :
  Calls Tryz.prog 4 #[.int .i64 k,v,u] w fun r w'=>r=.returned (.bool true)∧Below w.heap.size w w':=by
 have HA:=hide ha;have HB:=hide hb;obtain ⟨va,rfl,hva⟩:=ha;obtain ⟨aa,ca,rfl,_,_,_⟩:=hva.at;obtain ⟨vb,rfl,hvb⟩:=hb;obtain ⟨ab,cb,rfl,_,_,_⟩:=hvb.at;have b1:Below w.heap.size w ((w.alloc (.cells #[.int .u8 a.elem,.slice aa a.n.length ca] 35 (0,0))).alloc (.cells #[.int .u8 b.elem,.slice ab b.n.length cb] 35 (0,0))):=((Below.refl _ _).alloc nR _).alloc (by simp) _;have kA:((w.alloc (.cells #[.int .u8 a.elem,.slice aa a.n.length ca] 35 (0,0))).alloc (.cells #[.int .u8 b.elem,.slice ab b.n.length cb] 35 (0,0))).heap[w.heap.size]?=some (.cells #[.int .u8 a.elem,.slice aa a.n.length ca] 35 (0,0)):=(Below.heap_alloc _ _ _ (by simp)).trans (heap_new w _);have kB:((w.alloc (.cells #[.int .u8 a.elem,.slice aa a.n.length ca] 35 (0,0))).alloc (.cells #[.int .u8 b.elem,.slice ab b.n.length cb] 35 (0,0))).heap[w.heap.size+1]?=some (.cells #[.int .u8 b.elem,.slice ab b.n.length cb] 35 (0,0)):=by
  have:=heap_new (w.alloc (.cells #[.int .u8 a.elem,.slice aa a.n.length ca] 35 (0,0))) (.cells #[.int .u8 b.elem,.slice ab b.n.length cb] 35 (0,0))
  simpa using this
 have HA1:=hide (HA.out.under b1);have HB1:=hide (HB.out.under b1);have HVA:=hide (hva.under b1);have HVB:=hide (hvb.under b1);have hgW:Gl (fun i=>i<((w.alloc (.cells #[.int .u8 a.elem,.slice aa a.n.length ca] 35 (0,0))).alloc (.cells #[.int .u8 b.elem,.slice ab b.n.length cb] 35 (0,0))).heap.size) ((w.alloc (.cells #[.int .u8 a.elem,.slice aa a.n.length ca] 35 (0,0))).alloc (.cells #[.int .u8 b.elem,.slice ab b.n.length cb] 35 (0,0))):=by
  have g:=hg.keep (Keep.ofBelow b1);have:=b1.size;exact ⟨g.s,g.o,g.t,Nat.lt_of_lt_of_le hg.k0 this,Nat.lt_of_lt_of_le hg.k1 this,Nat.lt_of_lt_of_le hg.k2 this⟩
 have hTW:GlobT ((w.alloc (.cells #[.int .u8 a.elem,.slice aa a.n.length ca] 35 (0,0))).alloc (.cells #[.int .u8 b.elem,.slice ab b.n.length cb] 35 (0,0))):=hT.keep b1.size (b1.block _ hT.1);have hKW:=hK.under b1;clear hva hvb HA HB hT hK hg;go_enter Tryz.func4,Tryz.ntmps4;go_upto_region 1 with fail;generalize (w.alloc (.cells #[.int .u8 a.elem,.slice aa a.n.length ca] 35 (0,0))).alloc (.cells #[.int .u8 b.elem,.slice ab b.n.length cb] 35 (0,0))=w1 at b1 kA kB HA1 HB1 HVA HVB hgW hTW hKW ⊢;have hc:=kbegun_any w1 hTW hKW hgW;have HK:=hide hKW;clear hgW hTW hKW;go_wp2_with fail;refine hc.mono ?_;rintro e w2 ⟨rfl,b2⟩;clear hc;have B2:=b1.trans (b2.mono b1.size);have kA2:=(b2.block _ (lt_of kA)).trans kA;have kB2:=(b2.block _ (lt_of kB)).trans kB;have yA:=lt_of kA2;have yB:=lt_of kB2;have g0:=co kA2 0;have g1:=co kA2 1;have h0:=co kB2 0;have h1:=co kB2 1;simp at g0 g1 h0 h1;have HK2:=hide (HK.out.under b2);have HA2:=hide (HA1.out.under b2);have HB2:=hide (HB1.out.under b2);have hc:=szgreat_any (HVA.out.under b2) (HNames.hnone (ok:=anyB) (w:=w2)) (HSizes.hnone (ok:=anyB) (w:=w2));have hc2:=szgreat_any (HVB.out.under b2) (HNames.hnone (ok:=anyB) (w:=w2)) (HSizes.hnone (ok:=anyB) (w:=w2));clear kA kB kA2 kB2 HK HA1 HB1 HVA HVB;go_wp2_with fail;refine hc.mono ?_;rintro e w3 ⟨he,rfl⟩;clear hc;rcases he with rfl | ⟨rfl,_⟩
 ·go_wp2
  go_ret;exact ⟨rfl,B2⟩
 ·go_wp2_with fail
  refine hc2.mono ?_;rintro e w3 ⟨he,rfl⟩;clear hc2;rcases he with rfl | ⟨rfl,_⟩
  ·go_wp2
   go_ret;exact ⟨rfl,B2⟩
  ·have hc:=op_any k w3 HK2.out
   generalize hop:Kd.opT k=oq at hc;obtain ⟨tk,mk,n⟩:=oq
   dsimp only at hc
   go_wp2_with fail;refine hc.mono ?_;rintro e w4 ⟨rfl,b4⟩;clear hc;have hc:=refOp_any k w4;rw [hop] at hc
   dsimp only at hc
   go_wp2_with fail;refine hc.mono ?_;rintro e w5 ⟨rfl,b5⟩;clear hc;have B5:=b4.trans (b5.mono b4.size);have BW:=B2.trans (B5.mono B2.size);have c0:=(B5.cell (p:=⟨w.heap.size,0,none⟩) yA).trans g0;have c1:=(B5.cell (p:=⟨w.heap.size,1,none⟩) yA).trans g1;have d0:=(B5.cell (p:=⟨w.heap.size+1,0,none⟩) yB).trans h0;have d1:=(B5.cell (p:=⟨w.heap.size+1,1,none⟩) yB).trans h1;have zA:=Nat.lt_of_lt_of_le yA B5.size;have zB:=Nat.lt_of_lt_of_le yB B5.size;have HK5:=hide (HK2.out.under B5);have HA5:=hide (HA2.out.under B5);have HB5:=hide (HB2.out.under B5);generalize hfo:Kd.folds k=fo;have HFO:=hide hfo;generalize hsm:Kd.same a b=sm;have HSM:=hide hsm;clear hop hfo hsm g0 g1 h0 h1 HK2 HA2 HB2;go_upto_region 7 with fail;refine wp_region_late (fun w'=>Below w5.heap.size w5 w') (fun _=>false) (by kernel_rfl) ?_;have hH0:Below w5.heap.size w5 w5.drew:=(Below.refl _ _).drew;generalize w5.drew=wd0 at hH0 ⊢;refine' wpAnyL_take (i:=0) (oi:=⟨some 35,_,_,_,_,_⟩) (v:=_) rfl (by kernel_rfl) (by kernel_rfl) (by kernel_rfl) (by kernel_rfl) (fun _ _ _ h=>h) hH0 (by rfl) ?hyv ?o1
   case hyv=>
    intro wz hSw;go_simp
    try rfl
   try simp only [Act.put,sT,sZ,sS]
   refine' wpAnyL_take (i:=1) (oi:=⟨some 36,_,_,_,_,_⟩) (v:=_) rfl (by kernel_rfl) (by kernel_rfl) (by kernel_rfl) (by kernel_rfl) (fun _ _ _ h=>h) hH0 (by rfl) ?hyv ?o2
   case hyv=>
    intro wz hSw;go_simp
    try rfl
   try simp only [Act.put,sT,sZ,sS]
   refine' wpAnyL_take (i:=2) (oi:=⟨some 37,_,_,_,_,_⟩) (v:=_) rfl (by kernel_rfl) (by kernel_rfl) (by kernel_rfl) (by kernel_rfl) (fun _ _ _ h=>h) hH0 (by rfl) ?hyv ?o3
   case hyv=>
    intro wz hSw;go_simp
    try rfl
   try simp only [Act.put,sT,sZ,sS]
   refine' wpAnyL_take (i:=3) (oi:=⟨some 38,_,_,_,_,_⟩) (v:=_) rfl (by kernel_rfl) (by kernel_rfl) (by kernel_rfl) (by kernel_rfl) (fun _ _ _ h=>h) hH0 (by rfl) ?hyv ?o4
   case hyv=>
    intro wz hSw;go_simp
    try rfl
   try simp only [Act.put,sT,sZ,sS]
   refine' wpAnyL_take (i:=4) (oi:=⟨some 39,_,_,_,_,_⟩) (v:=_) rfl (by kernel_rfl) (by kernel_rfl) (by kernel_rfl) (by kernel_rfl) (fun _ _ _ h=>h) hH0 (by rfl) ?hyv ?o5
   case hyv=>
    intro wz hSw;go_simp
    try rfl
   try simp only [Act.put,sT,sZ,sS]
   refine' wpAnyL_take (i:=5) (oi:=⟨some 40,_,_,_,_,_⟩) (v:=_) rfl (by kernel_rfl) (by kernel_rfl) (by kernel_rfl) (by kernel_rfl) (fun _ _ _ h=>h) hH0 (by rfl) ?hyv ?o6
   case hyv=>
    intro wz hSw;go_simp
    try rfl
   try simp only [Act.put,sT,sZ,sS]
   refine' wpAnyL_take (i:=6) (oi:=⟨some 41,_,_,_,_,_⟩) (v:=_) rfl (by kernel_rfl) (by kernel_rfl) (by kernel_rfl) (by kernel_rfl) (fun _ _ _ h=>h) hH0 (by rfl) ?hyv ?o7
   case hyv=>
    intro wz hSw;go_simp
    try rfl
   try simp only [Act.put,sT,sZ,sS]
   refine' wpAnyL_take (i:=7) (oi:=⟨some 42,_,_,_,_,_⟩) (v:=_) rfl (by kernel_rfl) (by kernel_rfl) (by kernel_rfl) (by kernel_rfl) (fun _ _ _ h=>h) hH0 (by rfl) ?hyv ?o8
   case hyv=>
    intro wz hSw;go_simp
    try rfl
   try simp only [Act.put,sT,sZ,sS]
   refine' wpAnyL_take (i:=8) (oi:=⟨some 43,_,_,_,_,_⟩) (v:=_) rfl (by kernel_rfl) (by kernel_rfl) (by kernel_rfl) (by kernel_rfl) (fun _ _ _ h=>h) hH0 (by rfl) ?hyv ?o9
   case hyv=>
    intro wz hSw;go_simp
    try rfl
   try simp only [Act.put,sT,sZ,sS]
   refine' wpAnyL_take (i:=9) (oi:=⟨some 44,_,_,_,_,_⟩) (v:=_) rfl (by kernel_rfl) (by kernel_rfl) (by kernel_rfl) (by kernel_rfl) (fun _ _ _ h=>h) hH0 (by rfl) ?hyv ?o10
   case hyv=>
    intro wz hSw;go_simp
    try rfl
   try simp only [Act.put,sT,sZ,sS]
   refine' wpAnyL_take (i:=10) (oi:=⟨some 45,_,_,_,_,_⟩) (v:=_) rfl (by kernel_rfl) (by kernel_rfl) (by kernel_rfl) (by kernel_rfl) (fun _ _ _ h=>h) hH0 (by rfl) ?hyv ?o11
   case hyv=>
    intro wz hSw;go_simp
    try rfl
   try simp only [Act.put,sT,sZ,sS]
   refine' wpAnyL_take (i:=11) (oi:=⟨some 46,_,_,_,_,_⟩) (v:=_) rfl (by kernel_rfl) (by kernel_rfl) (by kernel_rfl) (by kernel_rfl) (fun _ _ _ h=>h) hH0 (by rfl) ?hyv ?o12
   case hyv=>
    intro wz hSw;go_simp
    try rfl
   try simp only [Act.put,sT,sZ,sS]
   refine' wpAnyL_take (i:=12) (oi:=⟨some 47,_,_,_,_,_⟩) (v:=_) rfl (by kernel_rfl) (by kernel_rfl) (by kernel_rfl) (by kernel_rfl) (fun _ _ _ h=>h) hH0 (by rfl) ?hyv ?o13
   case hyv=>
    intro wz hSw;go_simp
    try rfl
   try simp only [Act.put,sT,sZ,sS]
   refine' wpAnyL_take (i:=13) (oi:=⟨some 48,_,_,_,_,_⟩) (v:=_) rfl (by kernel_rfl) (by kernel_rfl) (by kernel_rfl) (by kernel_rfl) (fun _ _ _ h=>h) hH0 (by rfl) ?hyv ?o14
   case hyv=>
    intro wz hSw;go_simp
    try rfl
   try simp only [Act.put,sT,sZ,sS]
   refine' wpAnyL_take (i:=14) (oi:=⟨some 49,_,_,_,_,_⟩) (v:=_) rfl (by kernel_rfl) (by kernel_rfl) (by kernel_rfl) (by kernel_rfl) (fun _ _ _ h=>h) hH0 (by rfl) ?hyv ?o15
   case hyv=>
    intro wz hSw;go_simp
    try rfl
   try simp only [Act.put,sT,sZ,sS]
   refine' wpAnyL_take (i:=16) (oi:=⟨some 51,_,_,_,_,_⟩) (v:=_) rfl (by kernel_rfl) (by kernel_rfl) (by kernel_rfl) (by kernel_rfl) (fun _ _ _ h=>h) hH0 (by rfl) ?hyv ?o16
   case hyv=>
    intro wz hSw;go_simp
    try rfl
   try simp only [Act.put,sT,sZ,sS]
   refine wpAnyL_one (i:=15) (o:=_) rfl (by kernel_rfl) (by rfl) (fun K hK=>?_);go_simp;refine (folds_any k _ (HK5.out.under hH0)).mono ?_;rintro eq wd1 ⟨rfl,bq1⟩;have hH1:Below w5.heap.size w5 wd1:=hH0.trans (bq1.mono hH0.size);rw [HFO.out];refine hK.out _ _ (fun _=>hH1) ?_;clear hK K
   try simp only [Act.put,sT,sZ,sS]
   refine wpAnyL_one (i:=17) (o:=_) rfl (by kernel_rfl) (by rfl) (fun K hK=>?_);go_simp;refine (refFolds_any k _).mono ?_;rintro eq wd2 ⟨rfl,bq2⟩;have hH2:Below w5.heap.size w5 wd2:=hH1.trans (bq2.mono hH1.size);rw [HFO.out];refine hK.out _ _ (fun _=>hH2) ?_;clear hK K
   try simp only [Act.put,sT,sZ,sS]
   refine' wpAnyL_take (i:=18) (oi:=⟨some 53,_,_,_,_,_⟩) (v:=_) rfl (by kernel_rfl) (by kernel_rfl) (by kernel_rfl) (by kernel_rfl) (fun _ _ _ h=>h) hH2 (by rfl) ?hyv ?o17
   case hyv=>
    intro wz hSw;go_simp
    try rfl
   try simp only [Act.put,sT,sZ,sS]
   refine' wpAnyL_take (i:=19) (oi:=⟨some 54,_,_,_,_,_⟩) (v:=_) rfl (by kernel_rfl) (by kernel_rfl) (by kernel_rfl) (by kernel_rfl) (fun _ _ _ h=>h) hH2 (by rfl) ?hyv ?o18
   case hyv=>
    intro wz hSw;go_simp
    try rfl
   try simp only [Act.put,sT,sZ,sS]
   refine' wpAnyL_take (i:=20) (oi:=⟨some 55,_,_,_,_,_⟩) (v:=_) rfl (by kernel_rfl) (by kernel_rfl) (by kernel_rfl) (by kernel_rfl) (fun _ _ _ h=>h) hH2 (by rfl) ?hyv ?o19
   case hyv=>
    intro wz hSw;go_simp
    try rfl
   try simp only [Act.put,sT,sZ,sS]
   refine' wpAnyL_take (i:=21) (oi:=⟨some 56,_,_,_,_,_⟩) (v:=_) rfl (by kernel_rfl) (by kernel_rfl) (by kernel_rfl) (by kernel_rfl) (fun _ _ _ h=>h) hH2 (by rfl) ?hyv ?o20
   case hyv=>
    intro wz hSw;have zc0:=(hSw.cell (p:=⟨w.heap.size,0,none⟩) zA).trans c0;have zc1:=(hSw.cell (p:=⟨w.heap.size,1,none⟩) zA).trans c1;go_simp
    try rfl
   try simp only [Act.put,sT,sZ,sS]
   refine' wpAnyL_take (i:=22) (oi:=⟨some 57,_,_,_,_,_⟩) (v:=_) rfl (by kernel_rfl) (by kernel_rfl) (by kernel_rfl) (by kernel_rfl) (fun _ _ _ h=>h) hH2 (by rfl) ?hyv ?o21
   case hyv=>
    intro wz hSw;have zc0:=(hSw.cell (p:=⟨w.heap.size+1,0,none⟩) zB).trans d0;have zc1:=(hSw.cell (p:=⟨w.heap.size+1,1,none⟩) zB).trans d1;go_simp
    try rfl
   try simp only [Act.put,sT,sZ,sS]
   refine' wpAnyL_take (i:=24) (oi:=⟨some 59,_,_,_,_,_⟩) (v:=_) rfl (by kernel_rfl) (by kernel_rfl) (by kernel_rfl) (by kernel_rfl) (fun _ _ _ h=>h) hH2 (by rfl) ?hyv ?o22
   case hyv=>
    intro wz hSw;have zc0:=(hSw.cell (p:=⟨w.heap.size,0,none⟩) zA).trans c0;have zc1:=(hSw.cell (p:=⟨w.heap.size,1,none⟩) zA).trans c1;go_simp
    try rfl
   try simp only [Act.put,sT,sZ,sS]
   refine' wpAnyL_take (i:=25) (oi:=⟨some 60,_,_,_,_,_⟩) (v:=_) rfl (by kernel_rfl) (by kernel_rfl) (by kernel_rfl) (by kernel_rfl) (fun _ _ _ h=>h) hH2 (by rfl) ?hyv ?o23
   case hyv=>
    intro wz hSw;have zc0:=(hSw.cell (p:=⟨w.heap.size+1,0,none⟩) zB).trans d0;have zc1:=(hSw.cell (p:=⟨w.heap.size+1,1,none⟩) zB).trans d1;go_simp
    try rfl
   try simp only [Act.put,sT,sZ,sS]
   refine wpAnyL_one (i:=23) (o:=_) rfl (by kernel_rfl) (by rfl) (fun K hK=>?_);go_simp;refine (ksame_any (HA5.out.under hH2) (HB5.out.under hH2)).mono ?_;rintro eq wd3 ⟨rfl,bq3⟩;have hH3:Below w5.heap.size w5 wd3:=hH2.trans (bq3.mono hH2.size);rw [HSM.out];refine hK.out _ _ (fun _=>hH3) ?_;clear hK K
   try simp only [Act.put,sT,sZ,sS]
   refine wpAnyL_one (i:=26) (o:=_) rfl (by kernel_rfl) (by rfl) (fun K hK=>?_);go_simp;refine (refSame_any (HA5.out.under hH3) (HB5.out.under hH3)).mono ?_;rintro eq wd4 ⟨rfl,bq4⟩;have hH4:Below w5.heap.size w5 wd4:=hH3.trans (bq4.mono hH3.size);rw [HSM.out];refine hK.out _ _ (fun _=>hH4) ?_;clear hK K
   try simp only [Act.put,sT,sZ,sS]
   refine' wpAnyL_take (i:=27) (oi:=⟨some 62,_,_,_,_,_⟩) (v:=_) rfl (by kernel_rfl) (by kernel_rfl) (by kernel_rfl) (by kernel_rfl) (fun _ _ _ h=>h) hH4 (by rfl) ?hyv ?o24
   case hyv=>
    intro wz hSw;go_simp
    try rfl
   try simp only [Act.put,sT,sZ,sS]
   refine' wpAnyL_take (i:=28) (oi:=⟨some 63,_,_,_,_,_⟩) (v:=_) rfl (by kernel_rfl) (by kernel_rfl) (by kernel_rfl) (by kernel_rfl) (fun _ _ _ h=>h) hH4 (by rfl) ?hyv ?o25
   case hyv=>
    intro wz hSw;go_simp
    try rfl
   try simp only [Act.put,sT,sZ,sS]
   refine' wpAnyL_take (i:=29) (oi:=⟨some 6,_,_,_,_,_⟩) (v:=_) rfl (by kernel_rfl) (by kernel_rfl) (by kernel_rfl) (by kernel_rfl) (fun _ _ _ h=>h) hH4 (by rfl) ?hyv ?o26
   case hyv=>
    intro wz hSw;go_simp
    try rfl
   try simp only [Act.put,sT,sZ,sS]
   refine wpAnyL_done (by kernel_rfl) ?_ _;go_wp2;go_ret;exact ⟨rfl,BW.trans (hH4.mono BW.size)⟩
end Go.Proofs.YtkfgbhlpjkkgfaaGreatDoor
namespace Go.Proofs.YtkfgbhlpjkkgfaaGreatDoor
open Go.RowKit Go.IntWalk
namespace Ld
variable {H:Type} {enc:TypeId × Value→H} {P:Program} {w:World} {base:Nat} {sp:Nat→Bool} {held:Bool}
theorem cells_of_strs {fuel:Nat} {t e:TypeId} {n:Nat} {cs:List Value} {zs:List (List UInt8)} {p:List MemPlace}
  (ht:P.underlying t=some (.array n e)) (he:P.underlying e=some .string) (hce:P.cellsOf e=1) (hct:P.cellsOf t=n)
  (h:DataW.trod enc P w base sp held fuel t cs=some (.agg (zs.map fun z=>.lit (.string z)),p)):cs=zs.map fun z=>Value.string (str z):=by
 cases fuel with
 | zero=>simp [DataW.trod] at h
 | succ fuel=>
  simp only [DataW.trod,ht,hce,hct,Nat.mul_one] at h
  split at h
  ·rename_i hl
   obtain ⟨xs,hm,hx⟩:=Option.map_eq_some_iff.1 h;have hxs:xs.map (·.1)=zs.map fun z=>(DataW.lit (.string z):DataW H):=by
    have:=congrArg Prod.fst hx
    simpa using this
   have hxl:xs.length=n:=(by simpa using Lib.mapM_length hm);have hzl:zs.length=n:=by
    have:=congrArg List.length hxs;simp at this;omega
   apply List.ext_getElem?
   intro i;by_cases hi:i<n
   ·obtain ⟨b,hb,hf⟩:=Lib.mapM_at hm i i (by simp [hi])
    obtain ⟨s,hc,rfl,_⟩:=DataW.trod_string he hf;have h1:cs[i]?=some (.string s):=by
     have:=congrArg (·[0]?) hc
     simpa [List.getElem?_take,List.getElem?_drop] using this
    have h2:(xs.map (·.1))[i]?=some (DataW.lit (.string s.data.toList):DataW H):=(by simp [hb]);rw [hxs] at h2;simp only [List.getElem?_map,Option.map_eq_some_iff,DataW.lit.injEq,Lit.string.injEq] at h2;obtain ⟨z',hz',rfl⟩:=h2;simp [h1,hz',str]
   ·rw [List.getElem?_eq_none (by omega),List.getElem?_eq_none (by simp;omega)]
  ·cases h
def fieldsOf (P:Program) (t:TypeId):Option (List (TypeId × Nat)) :=
 match P.underlying t with
 | some (.struct fs)=>some (fs.toList.map fun f=>(f.type,f.offset))
 | _=>none
theorem trod_field {fuel:Nat} {t:TypeId} {cs:List Value} {L:List (TypeId × Nat)} {d:DataW H} {p:List MemPlace} (hF:fieldsOf P t=some L)
  (h:DataW.trod enc P w base sp held fuel t cs=some (d,p)) {j:Nat} {u:TypeId} {off:Nat} (hj:L[j]?=some (u,off)) :
  ∃ ds fuel' d' p',d=.agg ds∧ds[j]?=some d'∧DataW.trod enc P w base sp held fuel' u ((cs.drop off).take (P.cellsOf u))=some (d',p'):=by
 unfold fieldsOf at hF
 split at hF
 ·rename_i fs hu
  obtain rfl:=Option.some.inj hF
  cases fuel with
  | zero=>simp [DataW.trod] at h
  | succ fuel=>
   simp only [DataW.trod,hu] at h
   split at h
   ·obtain ⟨xs,hm,hx⟩:=Option.map_eq_some_iff.1 h
    simp only [List.getElem?_map,Option.map_eq_some_iff] at hj;obtain ⟨f,hf,hfe⟩:=hj;obtain ⟨b,hb,hb2⟩:=Lib.mapM_at hm j f hf;injection hfe with e1 e2;subst e1 e2;refine ⟨xs.map (·.1),fuel,b.1,b.2,?_,by simp [hb],hb2⟩;exact (congrArg Prod.fst hx).symm
   ·cases h
 ·cases hF
theorem trod_elem {fuel:Nat} {t e:TypeId} {n:Nat} {cs:List Value} {ds:List (DataW H)} {p:List MemPlace} (ht:P.underlying t=some (.array n e))
  (h:DataW.trod enc P w base sp held fuel t cs=some (.agg ds,p)) {i:Nat} (hi:i<n) :
  ∃ fuel' d' p',ds[i]?=some d'∧DataW.trod enc P w base sp held fuel' e ((cs.drop (i*P.cellsOf e)).take (P.cellsOf e))=some (d',p'):=by
 cases fuel with
 | zero=>simp [DataW.trod] at h
 | succ fuel=>
  simp only [DataW.trod,ht] at h
  split at h
  ·obtain ⟨xs,hm,hx⟩:=Option.map_eq_some_iff.1 h
   obtain ⟨b,hb,hb2⟩:=Lib.mapM_at hm i i (by simp [hi]);refine ⟨fuel,b.1,b.2,?_,hb2⟩;have:=congrArg Prod.fst hx;simp only [DataW.agg.injEq] at this;rw [←this];simp [hb]
  ·cases h
theorem row_str {fuel:Nat} {t e u:TypeId} {n c off i j:Nat} {cs:List Value} {ds:List (DataW H)} {p:List MemPlace} {L:List (TypeId × Nat)} (ht:P.underlying t=some (.array n e)) (hc:P.cellsOf e=c) (hF:fieldsOf P e=some L)
  (h:DataW.trod enc P w base sp held fuel t cs=some (.agg ds,p)) (hi:i<n) (hj:L[j]?=some (u,off)) (hu:P.underlying u=some .string) (hcu:P.cellsOf u=1) (ho:off<c)
  {es:List (DataW H)} {z:ByteArray} (hd:ds[i]?=some (.agg es)) (he:es[j]?=some (.lit (.string z.data.toList))):cs[i*c+off]?=some (.string z):=by
 obtain ⟨f1,d1,p1,h1,h2⟩:=trod_elem ht h hi;obtain ⟨ds2,f2,d2,p2,rfl,h3,h4⟩:=trod_field hF h2 hj;obtain ⟨s,h5,h6,_⟩:=DataW.trod_string hu h4;rw [hd] at h1;simp only [Option.some.injEq,DataW.agg.injEq] at h1;subst h1;rw [he] at h3;have h7:d2=.lit (.string s.data.toList):=congrArg Prod.fst h6;rw [h7] at h3;simp only [Option.some.injEq,DataW.lit.injEq,Lit.string.injEq] at h3;have hz:z=s:=by
  obtain ⟨⟨a⟩⟩:=z;obtain ⟨⟨b⟩⟩:=s;simp at h3;rw [h3]
 subst hz;have:=congrArg (·[0]?) h5;rw [hc,hcu] at this
 simpa [List.getElem?_take,List.getElem?_drop,ho] using this
theorem row_int {fuel:Nat} {t e u:TypeId} {n c off i j:Nat} {k:IntKind} {cs:List Value} {ds:List (DataW H)} {p:List MemPlace} {L:List (TypeId × Nat)} (ht:P.underlying t=some (.array n e)) (hc:P.cellsOf e=c) (hF:fieldsOf P e=some L)
  (h:DataW.trod enc P w base sp held fuel t cs=some (.agg ds,p)) (hi:i<n) (hj:L[j]?=some (u,off)) (hu:P.underlying u=some (.int k)) (hcu:P.cellsOf u=1) (ho:off<c)
  {es:List (DataW H)} {z:Int} (hd:ds[i]?=some (.agg es)) (he:es[j]?=some (.lit (.int k z))):cs[i*c+off]?=some (.int k z):=by
 obtain ⟨f1,d1,p1,h1,h2⟩:=trod_elem ht h hi;obtain ⟨ds2,f2,d2,p2,rfl,h3,h4⟩:=trod_field hF h2 hj;obtain ⟨s,h5,h6,_⟩:=DataW.trod_int hu h4;rw [hd] at h1;simp only [Option.some.injEq,DataW.agg.injEq] at h1;subst h1;rw [he] at h3;have h7:d2=.lit (.int k s):=congrArg Prod.fst h6;rw [h7] at h3;simp only [Option.some.injEq,DataW.lit.injEq,Lit.int.injEq,true_and] at h3;subst h3;have:=congrArg (·[0]?) h5;rw [hc,hcu] at this
 simpa [List.getElem?_take,List.getElem?_drop,ho] using this
end Ld
theorem heap_lt {W:World} {g j:Nat} {v:Value} (h:W.cell? ⟨g,j,none⟩=some v):g<W.heap.size:=by
 apply Classical.byContradiction
 intro hlt;have:W.heap[g]?=none:=(by simp;omega);simp [World.cell?,this] at h
def shapesL:List (DataW Unit):=Rn.shpT.map fun s=>.agg [.lit (.string s.1.data.toList),.lit (.int .i64 s.2.1),.lit (.int .i64 s.2.2.1),.lit (.int .i64 s.2.2.2.1),.lit (.int .i64 s.2.2.2.2.1),.lit (.int .i64 s.2.2.2.2.2)]
theorem shapes_eq:Rows.laid_loomwork_render_shapes=.agg shapesL:=rfl
theorem globS_of {W : World} (h : laidMetH Tryz.prog [("loomwork/render.shapes", Rows.laid_loomwork_render_shapes)] W) : GlobS W := by
 have h : laidMet Tryz.prog [("loomwork/render.shapes", Rows.laid_loomwork_render_shapes)] W := h;obtain ⟨ps, ⟨g', t', cs, fuel, p, q, hg', ht', hvar, hd, _, _⟩, _⟩ := h;obtain rfl := Option.some.inj ((show Tryz.prog.globalNamed "loomwork/render.shapes" = some 3 by kernel_rfl).symm.trans hg');obtain rfl := Option.some.inj ((show (Tryz.prog.globals[3]?).map (·.type) = some 257 by kernel_rfl).symm.trans ht');rw [shapes_eq] at hd;have hu : Tryz.prog.underlying 257 = some (.array 16 256) := (by kernel_rfl);have hF : Ld.fieldsOf Tryz.prog 256 = some [(9, 0), (3, 1), (3, 2), (3, 3), (3, 4), (3, 5)] := (by kernel_rfl);have hc : Tryz.prog.cellsOf 256 = 6 := (by kernel_rfl);have h9 : Tryz.prog.cellsOf 9 = 1 := (by kernel_rfl);have h3 : Tryz.prog.cellsOf 3 = 1 := (by kernel_rfl);have u3 : Tryz.prog.underlying 3 = some (.int .i64) := (by kernel_rfl);have u9 : Tryz.prog.underlying 9 = some .string := (by kernel_rfl);have hv := fun j => World.var?_cell (show Tryz.prog.globalNamed "loomwork/render.shapes" = some 3 by kernel_rfl) hvar j;have hL : ∀ k, k < 16 → shapesL[k]? = some (.agg [.lit (.string (Rn.shp k).1.data.toList), .lit (.int .i64 (Rn.shp k).2.1), .lit (.int .i64 (Rn.shp k).2.2.1), .lit (.int .i64 (Rn.shp k).2.2.2.1), .lit (.int .i64 (Rn.shp k).2.2.2.2.1), .lit (.int .i64 (Rn.shp k).2.2.2.2.2)]) := by
  intro k hk;have hk':k<Rn.shpT.length:=hk;unfold shapesL Rn.shp;rw [List.getElem?_map,List.getElem?_eq_getElem hk',List.getD_eq_getElem?_getD,List.getElem?_eq_getElem hk'];rfl
 have hall:∀ k,k<16→W.cell? ⟨3,k*6,none⟩=some (.string (Rn.shp k).1)∧W.cell? ⟨3,k*6+1,none⟩=some (.int .i64 (Rn.shp k).2.1)∧W.cell? ⟨3,k*6+2,none⟩=some (.int .i64 (Rn.shp k).2.2.1)∧W.cell? ⟨3,k*6+3,none⟩=some (.int .i64 (Rn.shp k).2.2.2.1)∧W.cell? ⟨3,k*6+4,none⟩=some (.int .i64 (Rn.shp k).2.2.2.2.1)∧W.cell? ⟨3,k*6+5,none⟩=some (.int .i64 (Rn.shp k).2.2.2.2.2):=by
  intro k hk;have e:=hL k hk;refine ⟨?_,?_,?_,?_,?_,?_⟩
  ·rw [hv,←Array.getElem?_toList];exact Ld.row_str (j:=0) hu hc hF hd hk rfl u9 h9 (by decide) e rfl
  ·rw [hv,←Array.getElem?_toList];exact Ld.row_int (j:=1) hu hc hF hd hk rfl u3 h3 (by decide) e rfl
  ·rw [hv,←Array.getElem?_toList];exact Ld.row_int (j:=2) hu hc hF hd hk rfl u3 h3 (by decide) e rfl
  ·rw [hv,←Array.getElem?_toList];exact Ld.row_int (j:=3) hu hc hF hd hk rfl u3 h3 (by decide) e rfl
  ·rw [hv,←Array.getElem?_toList];exact Ld.row_int (j:=4) hu hc hF hd hk rfl u3 h3 (by decide) e rfl
  ·rw [hv,←Array.getElem?_toList];exact Ld.row_int (j:=5) hu hc hF hd hk rfl u3 h3 (by decide) e rfl
 exact ⟨heap_lt (hall 0 (by decide)).1,hall⟩
def opsL:List (DataW Unit):=Tx.opsT.map fun s=>.agg [.lit (.string s.1.data.toList),.lit (.string s.2.1.data.toList),.lit (.int .i64 s.2.2)]
theorem ops_eq:Rows.laid_loomwork_render_operators=.agg opsL:=rfl
theorem globO_of {W : World} (h : laidMetH Tryz.prog [("loomwork/render.operators", Rows.laid_loomwork_render_operators)] W) : GlobO W := by
 have h : laidMet Tryz.prog [("loomwork/render.operators", Rows.laid_loomwork_render_operators)] W := h;obtain ⟨ps, ⟨g', t', cs, fuel, p, q, hg', ht', hvar, hd, _, _⟩, _⟩ := h;obtain rfl := Option.some.inj ((show Tryz.prog.globalNamed "loomwork/render.operators" = some 4 by kernel_rfl).symm.trans hg');obtain rfl := Option.some.inj ((show (Tryz.prog.globals[4]?).map (·.type) = some 265 by kernel_rfl).symm.trans ht');rw [ops_eq] at hd;have hu : Tryz.prog.underlying 265 = some (.array 15 264) := (by kernel_rfl);have hF : Ld.fieldsOf Tryz.prog 264 = some [(9, 0), (9, 1), (3, 2)] := (by kernel_rfl);have hc : Tryz.prog.cellsOf 264 = 3 := (by kernel_rfl);have h9 : Tryz.prog.cellsOf 9 = 1 := (by kernel_rfl);have h3 : Tryz.prog.cellsOf 3 = 1 := (by kernel_rfl);have u3 : Tryz.prog.underlying 3 = some (.int .i64) := (by kernel_rfl);have u9 : Tryz.prog.underlying 9 = some .string := (by kernel_rfl);have hv := fun j => World.var?_cell (show Tryz.prog.globalNamed "loomwork/render.operators" = some 4 by kernel_rfl) hvar j;have hL : ∀ k, k < 15 → opsL[k]? = some (.agg [.lit (.string (Tx.opT k).1.data.toList), .lit (.string (Tx.opT k).2.1.data.toList), .lit (.int .i64 (Tx.opT k).2.2)]) := by
  intro k hk;have hk':k<Tx.opsT.length:=hk;unfold opsL Tx.opT;rw [List.getElem?_map,List.getElem?_eq_getElem hk',List.getD_eq_getElem?_getD,List.getElem?_eq_getElem hk'];rfl
 have hall:∀ k,k<15→W.cell? ⟨4,k*3,none⟩=some (.string (Tx.opT k).1)∧W.cell? ⟨4,k*3+1,none⟩=some (.string (Tx.opT k).2.1)∧W.cell? ⟨4,k*3+2,none⟩=some (.int .i64 (Tx.opT k).2.2):=by
  intro k hk;have e:=hL k hk;refine ⟨?_,?_,?_⟩
  ·rw [hv,←Array.getElem?_toList];exact Ld.row_str (j:=0) hu hc hF hd hk rfl u9 h9 (by decide) e rfl
  ·rw [hv,←Array.getElem?_toList];exact Ld.row_str (j:=1) hu hc hF hd hk rfl u9 h9 (by decide) e rfl
  ·rw [hv,←Array.getElem?_toList];exact Ld.row_int (j:=2) hu hc hF hd hk rfl u3 h3 (by decide) e rfl
 exact ⟨heap_lt (hall 0 (by decide)).1,hall⟩
theorem globT_of {W : World} (h : laidMetH Tryz.prog [("loomwork/syntax.operators", Rows.laid_loomwork_syntax_operators)] W) : GlobT W := by
 have h : laidMet Tryz.prog [("loomwork/syntax.operators", Rows.laid_loomwork_syntax_operators)] W := h;obtain ⟨ps, ⟨g', t', cs, fuel, p, q, hg', ht', hvar, hd, _, _⟩, _⟩ := h;obtain rfl := Option.some.inj ((show Tryz.prog.globalNamed "loomwork/syntax.operators" = some 7 by kernel_rfl).symm.trans hg');obtain rfl := Option.some.inj ((show (Tryz.prog.globals[7]?).map (·.type) = some 279 by kernel_rfl).symm.trans ht');have hcs := Ld.cells_of_strs (zs := Ps.words) (show Tryz.prog.underlying 279 = some (.array 14 9) by kernel_rfl) (show Tryz.prog.underlying 9 = some .string by kernel_rfl) (by kernel_rfl) (by kernel_rfl) hd;have hc : ∀ j (h : j < Ps.words.length), W.cell? ⟨7, j, none⟩ = some (.string (str Ps.words[j])) := by
  intro j hj;have := World.var?_cell (show Tryz.prog.globalNamed "loomwork/syntax.operators" = some 7 by kernel_rfl) hvar j;rw [this, ← Array.getElem?_toList, hcs];simp [hj]
 exact ⟨heap_lt (hc 0 (by decide)),hc⟩
theorem pow_eq:Rows.laid_internal_strconv_uint64pow10=(Lib.tabData .u64 Lib.pow10Tab:DataW Unit):=rfl
theorem tabN_of {W : World} (h : laidMetH Tryz.prog [("internal/strconv.uint64pow10", Rows.laid_internal_strconv_uint64pow10)] W) : TabN W := by
 have h : laidMet Tryz.prog [("internal/strconv.uint64pow10", Rows.laid_internal_strconv_uint64pow10)] W := h;rw [pow_eq] at h;exact Lib.tabIs_of_head named1 (show (Tryz.prog.globals[2]?).map (·.type) = some 252 by kernel_rfl) (show Tryz.prog.underlying 252 = some (.array 20 225) by kernel_rfl) (by kernel_rfl) (by kernel_rfl) (by kernel_rfl) h
def kopsL:List (DataW Unit):=Kd.opsT.map fun s=>.agg [.lit (.int .u8 s.1),.lit (.int .u8 s.2.1),.lit (.int .i64 s.2.2)]
theorem kops_eq:Rows.laid_loomwork_kinds_operators=.agg kopsL:=rfl
theorem globK_of {W : World} (h : laidMetH Tryz.prog [("loomwork/kinds.operators", Rows.laid_loomwork_kinds_operators)] W) : GlobK W := by
 have h : laidMet Tryz.prog [("loomwork/kinds.operators", Rows.laid_loomwork_kinds_operators)] W := h;obtain ⟨ps, ⟨g', t', cs, fuel, p, q, hg', ht', hvar, hd, _, _⟩, _⟩ := h;obtain rfl := Option.some.inj ((show Tryz.prog.globalNamed "loomwork/kinds.operators" = some 0 by kernel_rfl).symm.trans hg');obtain rfl := Option.some.inj ((show (Tryz.prog.globals[0]?).map (·.type) = some 86 by kernel_rfl).symm.trans ht');rw [kops_eq] at hd;have hu : Tryz.prog.underlying 86 = some (.array 15 85) := (by kernel_rfl);have hF : Ld.fieldsOf Tryz.prog 85 = some [(5, 0), (5, 1), (3, 2)] := (by kernel_rfl);have hc : Tryz.prog.cellsOf 85 = 3 := (by kernel_rfl);have h5 : Tryz.prog.cellsOf 5 = 1 := (by kernel_rfl);have h3 : Tryz.prog.cellsOf 3 = 1 := (by kernel_rfl);have u3 : Tryz.prog.underlying 3 = some (.int .i64) := (by kernel_rfl);have u5 : Tryz.prog.underlying 5 = some (.int .u8) := (by kernel_rfl);have hv := fun j => World.var?_cell (show Tryz.prog.globalNamed "loomwork/kinds.operators" = some 0 by kernel_rfl) hvar j;have hL : ∀ k, k < 15 → kopsL[k]? = some (.agg [.lit (.int .u8 (Kd.opN k).1), .lit (.int .u8 (Kd.opN k).2.1), .lit (.int .i64 (Kd.opN k).2.2)]) := by
  intro k hk;have hk':k<Kd.opsT.length:=hk;unfold kopsL Kd.opN;rw [List.getElem?_map,List.getElem?_eq_getElem hk',List.getD_eq_getElem?_getD,List.getElem?_eq_getElem hk'];rfl
 have hall:∀ k,k<15→W.cell? ⟨0,k*3,none⟩=some (.int .u8 (Kd.opN k).1)∧W.cell? ⟨0,k*3+1,none⟩=some (.int .u8 (Kd.opN k).2.1)∧W.cell? ⟨0,k*3+2,none⟩=some (.int .i64 (Kd.opN k).2.2):=by
  intro k hk;have e:=hL k hk;refine ⟨?_,?_,?_⟩
  ·rw [hv,←Array.getElem?_toList];exact Ld.row_int (j:=0) hu hc hF hd hk rfl u5 h5 (by decide) e rfl
  ·rw [hv,←Array.getElem?_toList];exact Ld.row_int (j:=1) hu hc hF hd hk rfl u5 h5 (by decide) e rfl
  ·rw [hv,←Array.getElem?_toList];exact Ld.row_int (j:=2) hu hc hF hd hk rfl u3 h3 (by decide) e rfl
 exact ⟨heap_lt (hall 0 (by decide)).1,hall⟩
theorem laid_all {W:World} (h:laidMetH Tryz.prog Rows.kindsOpsRow.laid W):GlobT W∧GlobK W∧Gl (fun i=>i<W.heap.size) W:=by
 have hT : GlobT W := globT_of (h.filter (fun x => x.1 == "loomwork/syntax.operators"));have hK : GlobK W := globK_of (h.filter (fun x => x.1 == "loomwork/kinds.operators"));have hS : GlobS W := globS_of (h.filter (fun x => x.1 == "loomwork/render.shapes"));have hO : GlobO W := globO_of (h.filter (fun x => x.1 == "loomwork/render.operators"));have hN : TabN W := tabN_of (h.filter (fun x => x.1 == "internal/strconv.uint64pow10"));exact ⟨hT, hK, hS, hO, hN, hS.1, hN.lt, hO.1⟩
end Go.Proofs.YtkfgbhlpjkkgfaaGreatDoor
