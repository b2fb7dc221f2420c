import Derived.Test.YtegakbobaecdlaaGreatDoorG37
set_option linter.unusedVariables false
set_option linter.unusedSimpArgs false
set_option maxHeartbeats 64000000
set_option maxRecDepth 100000
namespace Go.Proofs.YtegakbobaecdlaaGreatDoor
open Go.RowKit Go.IntWalk
theorem IB.below {w w':World} {g:Nat} {l:List Int} (h:IB w g l) (b:Below w.heap.size w w'):IB w' g l:=h.under b
theorem zAN {w:World} {aV aI aO aR:Option Addr} {cV cI cO cR sg:Nat} {S:Sk.Sys} (nV:S.V.length<=400) (nR:S.R.length<=400) :
  Calls Tryz.prog 42 #[.agg #[.slice aV S.V.length cV,.slice aI S.I.length cI,.slice aO S.O.length cO,.slice aR S.R.length cR],.slice (some ⟨sg,0,none⟩) S.V.length S.V.length] w fun e w'=>∃ gb ga gk,e=.returned (.pointer (some ⟨gb,0,none⟩))/\GdAt w' gb ⟨aV,cV,aI,cI,aO,cO,aR,cR,sg,ga,gk⟩ S 1 0 (.slice none 0 0)/\IB w' ga (List.replicate S.V.length (-1))/\IB w' gk (List.replicate S.R.length (-1))/\(w.heap.size<=gb/\w.heap.size<=ga/\w.heap.size<=gk)/\(gb≠ga/\gb≠gk/\ga≠gk)/\Below w.heap.size w w':=by
 have b0:Below w.heap.size w (w.alloc (.cells #[.slice aV S.V.length cV,.slice aI S.I.length cI,.slice aO S.O.length cO,.slice aR S.R.length cR] 26 (0,0))):=(Below.refl _ _).alloc zL _;have kS:=zJ w (.cells #[.slice aV S.V.length cV,.slice aI S.I.length cI,.slice aO S.O.length cO,.slice aR S.R.length cR] 26 (0,0));unfold GdAt
 dsimp only
 obtain ⟨vl,hvl⟩:=nmQ (S.V.length);obtain ⟨rl,hrl⟩:=nmQ (S.R.length);obtain ⟨il,hil⟩:=nmQ (S.I.length);obtain ⟨ol,hol⟩:=nmQ (S.O.length);rw [<-hvl] at nV b0 kS ⊢;rw [<-hrl] at nR b0 kS ⊢;rw [<-hil,<-hol] at b0 kS ⊢;clear hvl hrl hil hol;have nV2:vl<=1000:=(by omega);have nR2:rl<=1000:=(by omega);go_enter Tryz.func42,Tryz.ntmps42;go_upto_region 1 with fail;generalize w.alloc (.cells #[.slice aV vl cV,.slice aI il cI,.slice aO ol cO,.slice aR rl cR] 26 (0,0))=w1 at b0 kS ⊢;have s0:=coQ kS 0;have s1:=coQ kS 1;have s2:=coQ kS 2;have s3:=coQ kS 3;simp at s0 s1 s2 s3;have yS:=zH kS;refine zK (fun w'=>Below w1.heap.size w1 w') (fun _=>false) (by kernel_rfl) ?_;have hH0:Below w1.heap.size w1 w1.drew:=(Below.refl _ _).drew;generalize w1.drew=wd0 at hH0 ⊢;refine' tkQ 0 5 hH0 ?hyv ?o1
 case hyv=>
  intro wz hSw;have zc0:=(hSw.cell (p:=⟨w.heap.size,0,none⟩) yS).trans s0;have zc1:=(hSw.cell (p:=⟨w.heap.size,1,none⟩) yS).trans s1;have zc2:=(hSw.cell (p:=⟨w.heap.size,2,none⟩) yS).trans s2;have zc3:=(hSw.cell (p:=⟨w.heap.size,3,none⟩) yS).trans s3;go_simp
  try rfl
 try simp only [Act.put,sT,sZ,sS]
 refine' tkR 1 6 hH0 ?o2
 refine' tkR 3 8 hH0 ?o3
 refine' tkQ 4 9 hH0 ?hyv ?o4
 case hyv=>
  intro wz hSw;have zc0:=(hSw.cell (p:=⟨w.heap.size,0,none⟩) yS).trans s0;have zc1:=(hSw.cell (p:=⟨w.heap.size,1,none⟩) yS).trans s1;have zc2:=(hSw.cell (p:=⟨w.heap.size,2,none⟩) yS).trans s2;have zc3:=(hSw.cell (p:=⟨w.heap.size,3,none⟩) yS).trans s3;go_simp
  try rfl
 try simp only [Act.put,sT,sZ,sS]
 refine' tkR 5 10 hH0 ?o5
 refine' tkR 8 13 hH0 ?o6
 refine' tkQ 9 14 hH0 ?hyv ?o7
 case hyv=>
  intro wz hSw;have zc0:=(hSw.cell (p:=⟨w.heap.size,0,none⟩) yS).trans s0;have zc1:=(hSw.cell (p:=⟨w.heap.size,1,none⟩) yS).trans s1;have zc2:=(hSw.cell (p:=⟨w.heap.size,2,none⟩) yS).trans s2;have zc3:=(hSw.cell (p:=⟨w.heap.size,3,none⟩) yS).trans s3;go_simp
  try rfl
 try simp only [Act.put,sT,sZ,sS]
 refine' tkR 10 15 hH0 ?o8
 refine zZ (i:=2) (j:=7) rfl rfl (by kernel_rfl) (by rfl) (by rfl) (fun K hK=>?_) (fun K hK=>?_)
 case _=>
  go_simp;have hH1:Below w1.heap.size w1 (wd0.alloc (.cells #[.int .i64 (-1)] 3 (0,0))):=hH0.alloc hH0.size _;have kn1:=zJ wd0 (.cells #[.int .i64 (-1)] 3 (0,0));have zn1:=hH0.size;refine hK.out _ _ (fun _=>hH1) ?_;clear hK K
  try simp only [Act.put,sT,sZ,sS]
  generalize wd0.alloc (.cells #[.int .i64 (-1)] 3 (0,0))=wd1 at hH1 kn1 ⊢;refine zZ (i:=6) (j:=7) rfl rfl (by kernel_rfl) (by rfl) (by rfl) (fun K hK=>?_) (fun K hK=>?_)
  case _=>
   go_simp;refine (xB (x := -1) vl nV2 kn1).mono ?_;rintro eq wd2 ⟨ga,rfl,hga,ib6,bq2⟩;have kn1_2:=(bq2.block _ (zH kn1)).trans kn1;have hH2:Below w1.heap.size w1 wd2:=hH1.trans (bq2.mono hH1.size);have zga:=hH1.size;refine hK.out _ _ (fun _=>hH2) ?_;clear hK K
   try simp only [Act.put,sT,sZ,sS]
   refine tnQ 7 (fun K hK=>?_);go_simp;have hH3:Below w1.heap.size w1 (wd2.alloc (.cells #[.int .i64 (-1)] 3 (0,0))):=hH2.alloc hH2.size _;have kn3:=zJ wd2 (.cells #[.int .i64 (-1)] 3 (0,0));have zn3:=hH2.size;refine hK.out _ _ (fun _=>hH3) ?_;clear hK K
   try simp only [Act.put,sT,sZ,sS]
   have kn1_3:=(Below.heap_alloc wd2 (.cells #[.int .i64 (-1)] 3 (0,0)) _ (zH kn1_2)).trans kn1_2;have ib6_3:=ib6.below ((Below.refl _ wd2).alloc zL (.cells #[.int .i64 (-1)] 3 (0,0)));generalize wd2.alloc (.cells #[.int .i64 (-1)] 3 (0,0))=wd3 at ib6_3 hH3 kn3 kn1_3 ⊢;refine tnQ 11 (fun K hK=>?_);go_simp;refine (xB (x := -1) rl nR2 kn3).mono ?_;rintro eq wd4 ⟨gk,rfl,hgk,ib11,bq4⟩;have kn1_4:=(bq4.block _ (zH kn1_3)).trans kn1_3;have kn3_4:=(bq4.block _ (zH kn3)).trans kn3;have hH4:Below w1.heap.size w1 wd4:=hH3.trans (bq4.mono hH3.size);have lt11:=ib6_3.lt;have zgk:=hH3.size;have ib6_4:=ib6_3.below bq4;refine hK.out _ _ (fun _=>hH4) ?_;clear hK K
   try simp only [Act.put,sT,sZ,sS]
   refine' tkR 12 17 hH4 ?o9
   refine' tkR 13 18 hH4 ?o10
   refine tnQ 14 (fun K hK=>?_);go_simp;have hH5:Below w1.heap.size w1 (wd4.alloc (.cells #[.slice aV vl cV,.slice aI il cI,.slice aO ol cO,.slice aR rl cR,.slice (some ⟨sg,0,none⟩) vl vl,.slice (some ⟨ga,0,none⟩) vl vl,.slice (some ⟨gk,0,none⟩) rl rl,.int .i64 1,.int .i64 0,.slice none 0 0] 86 (0,0))):=hH4.alloc hH4.size _;have kn5:=zJ wd4 (.cells #[.slice aV vl cV,.slice aI il cI,.slice aO ol cO,.slice aR rl cR,.slice (some ⟨sg,0,none⟩) vl vl,.slice (some ⟨ga,0,none⟩) vl vl,.slice (some ⟨gk,0,none⟩) rl rl,.int .i64 1,.int .i64 0,.slice none 0 0] 86 (0,0));have zn5:=hH4.size;refine hK.out _ _ (fun _=>hH5) ?_;clear hK K
   try simp only [Act.put,sT,sZ,sS]
   have kn1_5:=(Below.heap_alloc wd4 (.cells #[.slice aV vl cV,.slice aI il cI,.slice aO ol cO,.slice aR rl cR,.slice (some ⟨sg,0,none⟩) vl vl,.slice (some ⟨ga,0,none⟩) vl vl,.slice (some ⟨gk,0,none⟩) rl rl,.int .i64 1,.int .i64 0,.slice none 0 0] 86 (0,0)) _ (zH kn1_4)).trans kn1_4;have kn3_5:=(Below.heap_alloc wd4 (.cells #[.slice aV vl cV,.slice aI il cI,.slice aO ol cO,.slice aR rl cR,.slice (some ⟨sg,0,none⟩) vl vl,.slice (some ⟨ga,0,none⟩) vl vl,.slice (some ⟨gk,0,none⟩) rl rl,.int .i64 1,.int .i64 0,.slice none 0 0] 86 (0,0)) _ (zH kn3_4)).trans kn3_4;have ib6_5:=ib6_4.below ((Below.refl _ wd4).alloc zL (.cells #[.slice aV vl cV,.slice aI il cI,.slice aO ol cO,.slice aR rl cR,.slice (some ⟨sg,0,none⟩) vl vl,.slice (some ⟨ga,0,none⟩) vl vl,.slice (some ⟨gk,0,none⟩) rl rl,.int .i64 1,.int .i64 0,.slice none 0 0] 86 (0,0)));have ib11_5:=ib11.below ((Below.refl _ wd4).alloc zL (.cells #[.slice aV vl cV,.slice aI il cI,.slice aO ol cO,.slice aR rl cR,.slice (some ⟨sg,0,none⟩) vl vl,.slice (some ⟨ga,0,none⟩) vl vl,.slice (some ⟨gk,0,none⟩) rl rl,.int .i64 1,.int .i64 0,.slice none 0 0] 86 (0,0)));generalize wd4.alloc (.cells #[.slice aV vl cV,.slice aI il cI,.slice aO ol cO,.slice aR rl cR,.slice (some ⟨sg,0,none⟩) vl vl,.slice (some ⟨ga,0,none⟩) vl vl,.slice (some ⟨gk,0,none⟩) rl rl,.int .i64 1,.int .i64 0,.slice none 0 0] 86 (0,0))=wd5 at ib6_5 ib11_5 hH5 kn5 kn1_5 kn3_5 ⊢;refine' tkR 15 4 hH5 ?o11
   refine zI (by kernel_rfl) ?_ _;have la:=ib6_5.lt;have lk:=ib11_5.lt;have p1:=ib6_4.lt;have p2:=ib11.lt;have zz:=hH5.size;have z0:=b0.size;go_wp2;go_ret;refine ⟨wd4.heap.size,ga,gk,rfl,kn5,ib6_5,ib11_5,?_,?_,b0.trans (hH5.mono b0.size)⟩
   ·omega
   ·omega
  case _=>
   go_simp;have hH2:Below w1.heap.size w1 (wd1.alloc (.cells #[.int .i64 (-1)] 3 (0,0))):=hH1.alloc hH1.size _;have kn2:=zJ wd1 (.cells #[.int .i64 (-1)] 3 (0,0));have zn2:=hH1.size;refine hK.out _ _ (fun _=>hH2) ?_;clear hK K
   try simp only [Act.put,sT,sZ,sS]
   have kn1_2:=(Below.heap_alloc wd1 (.cells #[.int .i64 (-1)] 3 (0,0)) _ (zH kn1)).trans kn1;generalize wd1.alloc (.cells #[.int .i64 (-1)] 3 (0,0))=wd2 at hH2 kn2 kn1_2 ⊢;refine tnQ 6 (fun K hK=>?_);go_simp;refine (xB (x := -1) vl nV2 kn1_2).mono ?_;rintro eq wd3 ⟨ga,rfl,hga,ib6,bq3⟩;have kn1_3:=(bq3.block _ (zH kn1_2)).trans kn1_2;have kn2_3:=(bq3.block _ (zH kn2)).trans kn2;have hH3:Below w1.heap.size w1 wd3:=hH2.trans (bq3.mono hH2.size);have zga:=hH2.size;refine hK.out _ _ (fun _=>hH3) ?_;clear hK K
   try simp only [Act.put,sT,sZ,sS]
   refine tnQ 11 (fun K hK=>?_);go_simp;refine (xB (x := -1) rl nR2 kn2_3).mono ?_;rintro eq wd4 ⟨gk,rfl,hgk,ib11,bq4⟩;have kn1_4:=(bq4.block _ (zH kn1_3)).trans kn1_3;have kn2_4:=(bq4.block _ (zH kn2_3)).trans kn2_3;have hH4:Below w1.heap.size w1 wd4:=hH3.trans (bq4.mono hH3.size);have lt11:=ib6.lt;have zgk:=hH3.size;have ib6_4:=ib6.below bq4;refine hK.out _ _ (fun _=>hH4) ?_;clear hK K
   try simp only [Act.put,sT,sZ,sS]
   refine' tkR 12 17 hH4 ?o12
   refine' tkR 13 18 hH4 ?o13
   refine tnQ 14 (fun K hK=>?_);go_simp;have hH5:Below w1.heap.size w1 (wd4.alloc (.cells #[.slice aV vl cV,.slice aI il cI,.slice aO ol cO,.slice aR rl cR,.slice (some ⟨sg,0,none⟩) vl vl,.slice (some ⟨ga,0,none⟩) vl vl,.slice (some ⟨gk,0,none⟩) rl rl,.int .i64 1,.int .i64 0,.slice none 0 0] 86 (0,0))):=hH4.alloc hH4.size _;have kn5:=zJ wd4 (.cells #[.slice aV vl cV,.slice aI il cI,.slice aO ol cO,.slice aR rl cR,.slice (some ⟨sg,0,none⟩) vl vl,.slice (some ⟨ga,0,none⟩) vl vl,.slice (some ⟨gk,0,none⟩) rl rl,.int .i64 1,.int .i64 0,.slice none 0 0] 86 (0,0));have zn5:=hH4.size;refine hK.out _ _ (fun _=>hH5) ?_;clear hK K
   try simp only [Act.put,sT,sZ,sS]
   have kn1_5:=(Below.heap_alloc wd4 (.cells #[.slice aV vl cV,.slice aI il cI,.slice aO ol cO,.slice aR rl cR,.slice (some ⟨sg,0,none⟩) vl vl,.slice (some ⟨ga,0,none⟩) vl vl,.slice (some ⟨gk,0,none⟩) rl rl,.int .i64 1,.int .i64 0,.slice none 0 0] 86 (0,0)) _ (zH kn1_4)).trans kn1_4;have kn2_5:=(Below.heap_alloc wd4 (.cells #[.slice aV vl cV,.slice aI il cI,.slice aO ol cO,.slice aR rl cR,.slice (some ⟨sg,0,none⟩) vl vl,.slice (some ⟨ga,0,none⟩) vl vl,.slice (some ⟨gk,0,none⟩) rl rl,.int .i64 1,.int .i64 0,.slice none 0 0] 86 (0,0)) _ (zH kn2_4)).trans kn2_4;have ib6_5:=ib6_4.below ((Below.refl _ wd4).alloc zL (.cells #[.slice aV vl cV,.slice aI il cI,.slice aO ol cO,.slice aR rl cR,.slice (some ⟨sg,0,none⟩) vl vl,.slice (some ⟨ga,0,none⟩) vl vl,.slice (some ⟨gk,0,none⟩) rl rl,.int .i64 1,.int .i64 0,.slice none 0 0] 86 (0,0)));have ib11_5:=ib11.below ((Below.refl _ wd4).alloc zL (.cells #[.slice aV vl cV,.slice aI il cI,.slice aO ol cO,.slice aR rl cR,.slice (some ⟨sg,0,none⟩) vl vl,.slice (some ⟨ga,0,none⟩) vl vl,.slice (some ⟨gk,0,none⟩) rl rl,.int .i64 1,.int .i64 0,.slice none 0 0] 86 (0,0)));generalize wd4.alloc (.cells #[.slice aV vl cV,.slice aI il cI,.slice aO ol cO,.slice aR rl cR,.slice (some ⟨sg,0,none⟩) vl vl,.slice (some ⟨ga,0,none⟩) vl vl,.slice (some ⟨gk,0,none⟩) rl rl,.int .i64 1,.int .i64 0,.slice none 0 0] 86 (0,0))=wd5 at ib6_5 ib11_5 hH5 kn5 kn1_5 kn2_5 ⊢;refine' tkR 15 4 hH5 ?o14
   refine zI (by kernel_rfl) ?_ _;have la:=ib6_5.lt;have lk:=ib11_5.lt;have p1:=ib6_4.lt;have p2:=ib11.lt;have zz:=hH5.size;have z0:=b0.size;go_wp2;go_ret;refine ⟨wd4.heap.size,ga,gk,rfl,kn5,ib6_5,ib11_5,?_,?_,b0.trans (hH5.mono b0.size)⟩
   ·omega
   ·omega
 case _=>
  go_simp;have hH1:Below w1.heap.size w1 (wd0.alloc (.cells #[.int .i64 (-1)] 3 (0,0))):=hH0.alloc hH0.size _;have kn1:=zJ wd0 (.cells #[.int .i64 (-1)] 3 (0,0));have zn1:=hH0.size;refine hK.out _ _ (fun _=>hH1) ?_;clear hK K
  try simp only [Act.put,sT,sZ,sS]
  generalize wd0.alloc (.cells #[.int .i64 (-1)] 3 (0,0))=wd1 at hH1 kn1 ⊢;refine tnQ 2 (fun K hK=>?_);go_simp;have hH2:Below w1.heap.size w1 (wd1.alloc (.cells #[.int .i64 (-1)] 3 (0,0))):=hH1.alloc hH1.size _;have kn2:=zJ wd1 (.cells #[.int .i64 (-1)] 3 (0,0));have zn2:=hH1.size;refine hK.out _ _ (fun _=>hH2) ?_;clear hK K
  try simp only [Act.put,sT,sZ,sS]
  have kn1_2:=(Below.heap_alloc wd1 (.cells #[.int .i64 (-1)] 3 (0,0)) _ (zH kn1)).trans kn1;generalize wd1.alloc (.cells #[.int .i64 (-1)] 3 (0,0))=wd2 at hH2 kn2 kn1_2 ⊢;refine tnQ 6 (fun K hK=>?_);go_simp;refine (xB (x := -1) vl nV2 kn2).mono ?_;rintro eq wd3 ⟨ga,rfl,hga,ib6,bq3⟩;have kn1_3:=(bq3.block _ (zH kn1_2)).trans kn1_2;have kn2_3:=(bq3.block _ (zH kn2)).trans kn2;have hH3:Below w1.heap.size w1 wd3:=hH2.trans (bq3.mono hH2.size);have zga:=hH2.size;refine hK.out _ _ (fun _=>hH3) ?_;clear hK K
  try simp only [Act.put,sT,sZ,sS]
  refine tnQ 11 (fun K hK=>?_);go_simp;refine (xB (x := -1) rl nR2 kn1_3).mono ?_;rintro eq wd4 ⟨gk,rfl,hgk,ib11,bq4⟩;have kn1_4:=(bq4.block _ (zH kn1_3)).trans kn1_3;have kn2_4:=(bq4.block _ (zH kn2_3)).trans kn2_3;have hH4:Below w1.heap.size w1 wd4:=hH3.trans (bq4.mono hH3.size);have lt11:=ib6.lt;have zgk:=hH3.size;have ib6_4:=ib6.below bq4;refine hK.out _ _ (fun _=>hH4) ?_;clear hK K
  try simp only [Act.put,sT,sZ,sS]
  refine' tkR 12 17 hH4 ?o15
  refine' tkR 13 18 hH4 ?o16
  refine tnQ 14 (fun K hK=>?_);go_simp;have hH5:Below w1.heap.size w1 (wd4.alloc (.cells #[.slice aV vl cV,.slice aI il cI,.slice aO ol cO,.slice aR rl cR,.slice (some ⟨sg,0,none⟩) vl vl,.slice (some ⟨ga,0,none⟩) vl vl,.slice (some ⟨gk,0,none⟩) rl rl,.int .i64 1,.int .i64 0,.slice none 0 0] 86 (0,0))):=hH4.alloc hH4.size _;have kn5:=zJ wd4 (.cells #[.slice aV vl cV,.slice aI il cI,.slice aO ol cO,.slice aR rl cR,.slice (some ⟨sg,0,none⟩) vl vl,.slice (some ⟨ga,0,none⟩) vl vl,.slice (some ⟨gk,0,none⟩) rl rl,.int .i64 1,.int .i64 0,.slice none 0 0] 86 (0,0));have zn5:=hH4.size;refine hK.out _ _ (fun _=>hH5) ?_;clear hK K
  try simp only [Act.put,sT,sZ,sS]
  have kn1_5:=(Below.heap_alloc wd4 (.cells #[.slice aV vl cV,.slice aI il cI,.slice aO ol cO,.slice aR rl cR,.slice (some ⟨sg,0,none⟩) vl vl,.slice (some ⟨ga,0,none⟩) vl vl,.slice (some ⟨gk,0,none⟩) rl rl,.int .i64 1,.int .i64 0,.slice none 0 0] 86 (0,0)) _ (zH kn1_4)).trans kn1_4;have kn2_5:=(Below.heap_alloc wd4 (.cells #[.slice aV vl cV,.slice aI il cI,.slice aO ol cO,.slice aR rl cR,.slice (some ⟨sg,0,none⟩) vl vl,.slice (some ⟨ga,0,none⟩) vl vl,.slice (some ⟨gk,0,none⟩) rl rl,.int .i64 1,.int .i64 0,.slice none 0 0] 86 (0,0)) _ (zH kn2_4)).trans kn2_4;have ib6_5:=ib6_4.below ((Below.refl _ wd4).alloc zL (.cells #[.slice aV vl cV,.slice aI il cI,.slice aO ol cO,.slice aR rl cR,.slice (some ⟨sg,0,none⟩) vl vl,.slice (some ⟨ga,0,none⟩) vl vl,.slice (some ⟨gk,0,none⟩) rl rl,.int .i64 1,.int .i64 0,.slice none 0 0] 86 (0,0)));have ib11_5:=ib11.below ((Below.refl _ wd4).alloc zL (.cells #[.slice aV vl cV,.slice aI il cI,.slice aO ol cO,.slice aR rl cR,.slice (some ⟨sg,0,none⟩) vl vl,.slice (some ⟨ga,0,none⟩) vl vl,.slice (some ⟨gk,0,none⟩) rl rl,.int .i64 1,.int .i64 0,.slice none 0 0] 86 (0,0)));generalize wd4.alloc (.cells #[.slice aV vl cV,.slice aI il cI,.slice aO ol cO,.slice aR rl cR,.slice (some ⟨sg,0,none⟩) vl vl,.slice (some ⟨ga,0,none⟩) vl vl,.slice (some ⟨gk,0,none⟩) rl rl,.int .i64 1,.int .i64 0,.slice none 0 0] 86 (0,0))=wd5 at ib6_5 ib11_5 hH5 kn5 kn1_5 kn2_5 ⊢;refine' tkR 15 4 hH5 ?o17
  refine zI (by kernel_rfl) ?_ _;have la:=ib6_5.lt;have lk:=ib11_5.lt;have p1:=ib6_4.lt;have p2:=ib11.lt;have zz:=hH5.size;have z0:=b0.size;go_wp2;go_ret;refine ⟨wd4.heap.size,ga,gk,rfl,kn5,ib6_5,ib11_5,?_,?_,b0.trans (hH5.mono b0.size)⟩
  ·omega
  ·omega
def Sk.KeptTo (S:Sk.Sys) (i:Nat) (K:List Int):Prop:=∀ j (h:j<S.R.length),K.getD j 0=if j<i/\(S.R[j]).op=13 then (Sk.kept S j:Int) else -1
theorem Sk.KeptTo.start (S:Sk.Sys):Sk.KeptTo S 0 (List.replicate S.R.length (-1)):=fun j h=>by
 rw [List.getD_eq_getElem?_getD,List.getElem?_replicate,if_pos h,if_neg (by omega)];rfl
theorem Sk.KeptTo.skip {S:Sk.Sys} {i:Nat} {K:List Int} (h:Sk.KeptTo S i K) (hi:i<S.R.length) (ho:¬(S.R[i]).op=13):Sk.KeptTo S (i+1) K:=fun j hj=>by
 rw [h j hj];by_cases e:j=i
 ·subst e
  rw [if_neg (by omega),if_neg (fun q=>ho q.2)]
 ·by_cases q:j<i
  ·by_cases o:(S.R[j]).op=13
   ·rw [if_pos ⟨q,o⟩,if_pos ⟨by omega,o⟩]
   ·rw [if_neg (fun z=>o z.2),if_neg (fun z=>o z.2)]
  ·rw [if_neg (fun z=>q z.1),if_neg (fun z=>by omega)]
theorem Sk.KeptTo.put {S:Sk.Sys} {i:Nat} {K:List Int} (h:Sk.KeptTo S i K) (hl:K.length=S.R.length) (hi:i<S.R.length) (ho:(S.R[i]).op=13):Sk.KeptTo S (i+1) (K.set i (Sk.kept S i:Int)):=fun j hj=>by
 rw [List.getD_eq_getElem?_getD,List.getElem?_set];by_cases e:i=j
 ·subst e
  rw [if_pos rfl,if_pos (by omega),if_pos ⟨by omega,ho⟩];rfl
 ·rw [if_neg e,<-List.getD_eq_getElem?_getD,h j hj]
  by_cases q:j<i
  ·by_cases o:(S.R[j]).op=13
   ·rw [if_pos ⟨q,o⟩,if_pos ⟨by omega,o⟩]
   ·rw [if_neg (fun z=>o z.2),if_neg (fun z=>o z.2)]
  ·rw [if_neg (fun z=>q z.1),if_neg (fun z=>by omega)]
theorem Sk.kept_le {S:Sk.Sys} (ok:Sk.Okay S):∀ i,i<=S.R.length->Sk.kept S i<=1+300*i
 | 0,_=>by rw [Sk.kept_zero];omega
 | i+1,h=>by
  rw [Sk.kept_succ S (by omega)];have:=Sk.kept_le ok i (by omega)
  split
  ·have hr:=(ok.rules _ (List.getElem_mem (l:=S.R) (n:=i) (by omega))).1.1
   have:=Sk.ct_le ok (S.R[i]).out hr.1 hr.2;omega
  ·omega
theorem keep71_any {B:Nat} {w:World} {gb:Nat} {x:GdV} {S:Sk.Sys} {A:List Int} (h:Gnd B w gb x S (List.replicate S.R.length (-1)) 0 ⟨A,1,[]⟩ (.slice none 0 0)) (ok:Sk.Okay S) :
  Calls Tryz.prog 71 #[.pointer (some ⟨gb,0,none⟩)] w fun e w'=>e=.returned (.tuple #[])/\∃ K,Sk.KeptTo S S.R.length K/\Gnd B w' gb x S K (Sk.kept S S.R.length) ⟨A,Sk.kept S S.R.length,[]⟩ (.slice none 0 0)/\Aside [gb,x.gk] w.heap.size w w':=by
 obtain ⟨aV,cV,aI,cI,aO,cO,aR,cR,sg,ga,gk⟩:=x
 dsimp only at *
 have H0:=zG h;have HOK:=zG ok;obtain ⟨-,-,-,c3,-⟩:=h.gd.cells
 dsimp only at c3
 obtain ⟨aoR,capR,evR,hR1,hR2,-⟩:=h.sys.R.at
 dsimp only at evR
 injection evR with g4 g5 g6;rw [<-g6] at hR1 hR2;unfold maxLen at hR2;have nR:=ok.nR;have hlo:=h.lo
 dsimp only at hlo
 clear h ok g4 g5 g6;go_enter Tryz.func71,Tryz.ntmps71;go_wp2_with fail;clear c3;go_loopg [10] S.R.length (fun k v wr=>∃ (i:Nat) (K:List Int),i<=S.R.length/\k=S.R.length-i/\v=.int .i64 (i:Nat)/\Hid (Sk.KeptTo S i K)/\Hid (Gnd B wr gb ⟨aV,cV,aI,cI,aO,cO,aR,cR,sg,ga,gk⟩ S K 0 ⟨A,Sk.kept S i,[]⟩ (.slice none 0 0))/\Aside [gb,gk] w.heap.size w wr)
 case atStart=>exact ⟨0,_,Nat.zero_le _,rfl,rfl,zG (Sk.KeptTo.start S),H0,Aside.refl _⟩
 case round=>
  clear H0;obtain ⟨i,kl,hi,rfl,rfl,HK,HG,fr⟩:=hrel;by_cases hlt:i<S.R.length
  case neg=>
   have hin:i=S.R.length:=(by omega);subst hin;obtain ⟨-,-,-,-,-,-,-,c7,-,-⟩:=HG.out.gd.cells;have ff:=foQ HG.out.gd 8;have st_:=HG.out.gd.cells.2.2.2.2.2.2.2.2.1;have HG2:=zG (HG.out.setB (Sk.kept S S.R.length));have fr2:=zG (fr.trans (Aside.setCell (S:=[gb,gk]) (B:=w.heap.size) (p:=⟨gb,8,none⟩) (by simp) (.int .i64 (Sk.kept S S.R.length:Int))) zL);obtain ⟨kp,hkp⟩:=nmQ (Sk.kept S S.R.length);rw [<-hkp] at c7 HG2 fr2;have HKP:=zG hkp;clear HG fr hkp;go_wp2;refine bodyPost_end (v:=.tuple #[]) (by simp [results,Tryz.results71,go_sem]) rfl ?_;have ekp:=HKP.out;subst ekp;exact ⟨rfl,kl,HK.out,HG2.out,fr2.out⟩
  case pos=>
   obtain ⟨ao,cp,e1,-,-,hat⟩:=HG.out.sys.R.at
   dsimp only at e1
   injection e1 with q1 q2 q3;obtain ⟨bR,oR,y,hbR,yR,hrat,-⟩:=hat i hlt;rw [hbR] at q1;subst q1;obtain ⟨r,hr⟩:=nmQ (S.R[i]);have hrm:r ∈ S.R:=(by rw [hr];exact List.getElem_mem hlt);have hout:=(HOK.out.rules r hrm).1.1;rw [<-hr] at hrat;obtain ⟨d0,d1,d2,d3,d4,d5⟩:=hrat;obtain ⟨op,rk,out,rn,A',E⟩:=r;obtain ⟨aA,nA,cA,aE,nE,cE⟩:=y
   dsimp only at hout d0 d1 d2 d3 d4 d5
   obtain ⟨o,rfl⟩:∃ o:Nat,out=(o:Int):=⟨out.toNat,by omega⟩;have hol:o<S.V.length:=(by omega);have hks:=Sk.kept_succ S hlt;rw [<-hr] at hks
   dsimp only at hks
   have HR:=zG hr;have hkl:=Sk.kept_le HOK.out i (by omega);have hcl:=Sk.ct_le HOK.out (o:Int) (by omega) (by omega);have b2:Below wr.heap.size wr (wr.alloc (.cells #[.int .i64 op,.int .i64 rk,.int .i64 (o:Int),.int .i64 rn,.slice aA nA cA,.slice aE nE cE] 40 (0,0))):=(Below.refl _ _).alloc zL _;have kR:=zJ wr (.cells #[.int .i64 op,.int .i64 rk,.int .i64 (o:Int),.int .i64 rn,.slice aA nA cA,.slice aE nE cE] 40 (0,0));have HG2:=zG (HG.out.under b2);have fr2:=fr.trans (aside (b2.mono fr.size)) zL;have gwr:gb<wr.heap.size:=zH HG.out.gd;have kwr:gk<wr.heap.size:=HG.out.keep_.lt;clear hat q2 q3 hr hrm hout HG fr;clear hbR;go_upto_region 3 with fail;clear d0 d1 d2 d3 d4 d5 yR;generalize wr.alloc (.cells #[.int .i64 op,.int .i64 rk,.int .i64 (o:Int),.int .i64 rn,.slice aA nA cA,.slice aE nE cE] 40 (0,0))=w3 at b2 kR HG2 fr2 ⊢;have e0:=coQ kR 0;simp at e0;by_cases h13:op=13
   case neg=>
    have hks2:Sk.kept S (i+1)=Sk.kept S i:=(by rw [hks];simp [h13]);have HK2:=zG (HK.out.skip hlt (by rw [<-HR.out];exact h13));rw [<-hks2] at HG2;clear HK HR hks hks2 hkl hcl kR;go_wp2_with fail;go_roundg (S.R.length-(i+1))
    case measure=>omega
    case rel=>exact ⟨i+1,_,by omega,rfl,by go_num,HK2,HG2,fr2⟩
   case pos=>
    rw [if_pos h13] at hks;have HK2:=zG (HK.out.put HG2.out.lk hlt (by rw [<-HR.out];exact h13));subst h13;clear HK HR;obtain ⟨kp,hkp⟩:=nmQ (Sk.kept S i);rw [<-hkp] at hks HK2 HG2 hkl;obtain ⟨cn,hcn⟩:=nmQ (Sk.ct S (o:Int));have hw:=fun (W:World) (st':Sk.St) (K':List Int) (hW:Gnd B W gb ⟨aV,cV,aI,cI,aO,cO,some ⟨bR,oR,none⟩,cR,sg,ga,gk⟩ S K' 0 st' (.slice none 0 0))=>xM hW HOK.out o hol;rw [<-hcn] at hks hcl hw;have HW:=zG hw;have HKS:=zG hks;clear hkp hcn hks hw;have HGx:=HG2;obtain ⟨-,-,-,-,-,-,c6,c7,-,-⟩:=HG2.out.gd.cells
    dsimp only at c6
    have yG:=zH HG2.out.gd;have lkK:=HG2.out.lk;have hik:i<kl.length:=(by rw [HG2.out.lk];exact hlt);have ki:=HG2.out.keep_.at hik
    dsimp only at ki
    generalize kl[i]=kold at ki;have yK:gk<w3.heap.size:=HG2.out.keep_.lt;have r2:=coQ kR 2;simp at r2;have yR:=zH kR;have hne:=HG2.out.nes;have wrg:wr.heap.size≠gb:=(by omega);have wrk:wr.heap.size≠gk:=(by omega);clear HGx;go_upto_region 4 with fail;refine zK (fun w'=>Below w3.heap.size w3 w') (fun i=>i==12) (by kernel_rfl) ?_;have hH0:Below w3.heap.size w3 w3.drew:=(Below.refl _ _).drew;generalize w3.drew=wd0 at hH0 ⊢;refine' tkR 0 18 hH0 ?o1
    refine' tkR 1 19 hH0 ?o2
    refine' tkR 2 20 hH0 ?o3
    refine' tkR 3 21 hH0 ?o4
    refine' tkQ 4 22 hH0 ?hyv ?o5
    case hyv=>
     intro wz hSw;have zc0:=(hSw.cell (p:=⟨gb,6,none⟩) yG).trans c6;have zc1:=(hSw.cell (p:=⟨gb,7,none⟩) yG).trans c7;go_simp
     try rfl
    try simp only [Act.put,sT,sZ,sS]
    refine' tkR 5 23 hH0 ?o6
    refine' tkR 6 24 hH0 ?o7
    refine' tkR 7 25 hH0 ?o8
    refine' tkR 8 26 hH0 ?o9
    refine' tkR 9 27 hH0 ?o10
    refine' tkQ 10 28 hH0 ?hyv ?o11
    case hyv=>
     intro wz hSw;have zc0:=(hSw.cell (p:=⟨gb,6,none⟩) yG).trans c6;have zc1:=(hSw.cell (p:=⟨gb,7,none⟩) yG).trans c7;go_simp
     try rfl
    try simp only [Act.put,sT,sZ,sS]
    refine' tkR 11 29 hH0 ?o12
    refine tnQ 12 (fun K hK=>?_);have hr_:=HG2.out.under hH0;have st_:=hr_.keep_.at hik;have ff_:=hr_.keep_.free i
    dsimp only at st_ ff_
    have HG4:=zG (hr_.setKeep i (kp:Int));have kR4:=zG (zN ((hH0.block _ yR).trans kR) (Ne.symm wrk) (p:=⟨gk,i,none⟩) (.int .i64 (kp:Int)));have fr4:=zG ((fr2.trans (aside (hH0.mono fr2.size)) zL).trans (Aside.setCell (S:=[gb,gk]) (B:=w.heap.size) (p:=⟨gk,i,none⟩) (by simp) (.int .i64 (kp:Int))) zL);clear hr_;go_simp;refine hK.out _ _ (fun h=>absurd h (by decide)) ?_;clear hK K
    try simp only [Act.put,sT,sZ,sS]
    clear st_ ff_;generalize wd0.setCell ⟨gk,i,none⟩ (.int .i64 (kp:Int))=wd1 at HG4 kR4 fr4 ⊢;refine zI (by kernel_rfl) ?_ _;obtain ⟨wx,hwx⟩:=nmQ (wd1);subst hwx;clear c6 c7 yG ki yK r2 yR HG2 kR fr2 b2 e0;obtain ⟨-,-,-,-,-,-,-,c7,-,-⟩:=HG4.out.gd.cells;have kR5:=kR4.out;have r2:=coQ kR5 2;simp at r2;have yR:=zH kR5;have yG:=zH HG4.out.gd;have frF:=fr4.out;have wz:=HW.out wx _ _ HG4.out;go_upto_region 5 with fail;refine zK (fun w'=>Below wx.heap.size wx w') (fun i=>i==13) (by kernel_rfl) ?_;have hH0:Below wx.heap.size wx wx.drew:=(Below.refl _ _).drew;generalize wx.drew=wd0 at hH0 ⊢;refine' tkR 0 30 hH0 ?o13
    refine' tkR 1 31 hH0 ?o14
    refine' tkR 2 32 hH0 ?o15
    refine' tkR 3 33 hH0 ?o16
    refine' tkQ 4 34 hH0 ?hyv ?o17
    case hyv=>
     intro wz hSw;have zc0:=(hSw.cell (p:=⟨gb,7,none⟩) yG).trans c7;have zc1:=(hSw.cell (p:=⟨wr.heap.size,2,none⟩) yR).trans r2;go_simp
     try rfl
    try simp only [Act.put,sT,sZ,sS]
    refine' tkR 5 35 hH0 ?o18
    refine' tkR 6 36 hH0 ?o19
    refine' tkQ 7 37 hH0 ?hyv ?o20
    case hyv=>
     intro wz hSw;have zc0:=(hSw.cell (p:=⟨gb,7,none⟩) yG).trans c7;have zc1:=(hSw.cell (p:=⟨wr.heap.size,2,none⟩) yR).trans r2;go_simp
     try rfl
    try simp only [Act.put,sT,sZ,sS]
    refine tnQ 8 (fun K hK=>?_);go_simp;refine (HW.out wd0 _ _ (HG4.out.under hH0)).mono ?_;rintro eq wd1 ⟨rfl,bq1⟩;have hH1:Below wx.heap.size wx wd1:=hH0.trans (bq1.mono hH0.size);refine hK.out _ _ (fun _=>hH1) ?_;clear hK K
    try simp only [Act.put,sT,sZ,sS]
    refine' tkR 9 39 hH1 ?o21
    refine tnQ 10 (fun K hK=>?_);go_simp;have hH2:=hH1;obtain ⟨wd2,hwd2⟩:=nmQ (wd1);rw [<-hwd2] at hH2;refine hK.out _ _ (fun _=>by rw [<-hwd2];exact hH2) ?_;clear hK K
    try simp only [Act.put,sT,sZ,sS]
    rw [<-hwd2];clear hwd2;refine tnQ 11 (fun K hK=>?_);go_simp;have hH3:=hH2;obtain ⟨wd3,hwd3⟩:=nmQ (wd2);rw [<-hwd3] at hH3;refine hK.out _ _ (fun _=>by rw [<-hwd3];exact hH3) ?_;clear hK K
    try simp only [Act.put,sT,sZ,sS]
    rw [<-hwd3];clear hwd3;refine' tkR 12 42 hH3 ?o22
    refine tnQ 13 (fun K hK=>?_);have hr_:=HG4.out.under hH3;have st_:=hr_.gd.cells.2.2.2.2.2.2.2.1;have ff_:=foQ hr_.gd 7;have HG6:=zG (show Gnd B (wd3.setCell ⟨gb,7,none⟩ (.int .i64 ((kp:Int)+(cn:Int)))) gb ⟨aV,cV,aI,cI,aO,cO,some ⟨bR,oR,none⟩,cR,sg,ga,gk⟩ S (kl.set i (kp:Int)) 0 ⟨A,kp+cn,[]⟩ (.slice none 0 0) by have h5:=hr_.setC (kp+cn);rw [Int.natCast_add] at h5;exact h5);have fr6:=zG ((frF.trans (aside (hH3.mono frF.size)) zL).trans (Aside.setCell (S:=[gb,gk]) (B:=w.heap.size) (p:=⟨gb,7,none⟩) (by simp) (.int .i64 ((kp:Int)+(cn:Int)))) zL);have hwr_:IntKind.i64.wrap ((kp:Int)+(cn:Int))=(kp:Int)+(cn:Int):=i64_in _ ⟨by omega,by omega⟩;clear hr_;go_simp;refine hK.out _ _ (fun h=>absurd h (by decide)) ?_;clear hK K
    try simp only [Act.put,sT,sZ,sS]
    clear st_ ff_;generalize wd3.setCell ⟨gb,7,none⟩ (.int .i64 ((kp:Int)+(cn:Int)))=wd4 at HG6 fr6 ⊢;refine zI (by kernel_rfl) ?_ _;rw [<-HKS.out] at HG6;go_wp2_with fail;go_roundg (S.R.length-(i+1))
    case measure=>omega
    case rel=>exact ⟨i+1,_,by omega,rfl,by go_num,HK2,HG6,fr6.out⟩
end Go.Proofs.YtegakbobaecdlaaGreatDoor
