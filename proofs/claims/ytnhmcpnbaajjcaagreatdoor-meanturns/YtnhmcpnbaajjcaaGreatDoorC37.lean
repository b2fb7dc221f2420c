import Derived.Test.YtnhmcpnbaajjcaaGreatDoorC36
import Derived.Deep.Cut
import Derived.Deep.LoopGhost
import Derived.Ground.NamesProg
import Derived.IntWalk
import Derived.Laws.Cover1
import Derived.Laws.EntriesVeiled
import Derived.Laws.Externs
import Derived.Lib.Hide
import Derived.Lib.MakeNoZero
import Derived.Lib.SlBuf
import Derived.Shelf.Bytes.SlSmallAll
import Derived.Shelf.Lay
import Derived.WalkKit
import Derived.WalkSpells
set_option linter.unusedVariables false
set_option linter.unusedSimpArgs false
set_option maxHeartbeats 64000000
set_option maxRecDepth 100000
namespace Go.Proofs.YtnhmcpnbaajjcaaGreatDoor
open Go.RowKit Go.IntWalk
theorem cellD_any {w:World} {rb:Nat} {K out n:Int} {aA aE:Option Addr} {nA cA nE cE:Nat}  {ok okA:Nat->Prop} {x:WkV} {vC vA:Value} {C:List (List Int)} {A:List Int} (hr:RowAt w rb x vC vA) (hC:HRow kLL ok w vC C) (hA:HInts okA w (.slice aA nA cA) A) (h0:0<A.length) (h1:1<A.length) (hz0:0<=A[0]/\A[0]<C.length) (hz1:0<=A[1]/\A[1]<C.length) {N:Nat} (hN:N<=(Sk.cAt C A[0]).length) (hM:N<=(Sk.cAt C A[1]).length):Calls Tryz.prog 70 #[.agg #[.pointer (some ⟨rb,0,none⟩),.int .i64 4,.int .i64 K,.int .i64 out,.int .i64 n,.slice aA nA cA,.slice aE nE cE]] w fun e w'=>CellPost w w' e (fun k=>apT K ((Sk.cAt C A[0]).getD k 0) ((Sk.cAt C A[1]).getD k 0)) N:=by
 have b1:Below w.heap.size w (w.alloc (.cells #[.pointer (some ⟨rb,0,none⟩),.int .i64 4,.int .i64 K,.int .i64 out,.int .i64 n,.slice aA nA cA,.slice aE nE cE] 110 (0,0))):=(Below.refl _ _).alloc zL _;have kM:=zH w (.cells #[.pointer (some ⟨rb,0,none⟩),.int .i64 4,.int .i64 K,.int .i64 out,.int .i64 n,.slice aA nA cA,.slice aE nE cE] 110 (0,0));have hC2:=hC.wide (ok':=fun i=>i<w.heap.size) fun i _ hl=>hl;have HRW:=zD (hr.under b1);have HCC:=zD (hC2.keep b1.size (fun i _ h=>b1.block i h));have HAA:=zD (hA.under b1);have HP0:=zD (fun (W:World) (hr:RowAt W rb x vC vA) (hC:HRow kLL (fun i=>i<w.heap.size) W vC C) (hA:HInts okA W (.slice aA nA cA) A)=>xB (op:=4) (k:=K) (out:=out) (n:=n) (aE:=aE) (nE:=nE) (cE:=cE) hr hC hA 0 h0 hz0);have HP1:=zD (fun (W:World) (hr:RowAt W rb x vC vA) (hC:HRow kLL (fun i=>i<w.heap.size) W vC C) (hA:HInts okA W (.slice aA nA cA) A)=>xB (op:=4) (k:=K) (out:=out) (n:=n) (aE:=aE) (nE:=nE) (cE:=cE) hr hC hA 1 h1 hz1);generalize Sk.cAt C A[0]=l0 at HP0 hN ⊢;generalize Sk.cAt C A[1]=l1 at HP1 hM ⊢;have HhN:=zD hN;clear hN;have HhM:=zD hM;clear hM;clear hr hC hC2 hA hz0 hz1  h0 h1;go_enter Tryz.func70,Tryz.ntmps70;go_upto_region 1 with fail;obtain ⟨w1,hw1⟩:=nmQ (w.alloc (.cells #[.pointer (some ⟨rb,0,none⟩),.int .i64 4,.int .i64 K,.int .i64 out,.int .i64 n,.slice aA nA cA,.slice aE nE cE] 110 (0,0)));rw [<-hw1] at b1 kM HRW HCC HAA ⊢;have yM:w.heap.size<w1.heap.size:=zG kM;clear hw1;have B1:Below w1.heap.size w1 w1:=Below.refl _ _;have m0:=coQ kM 0;have m1:=coQ kM 1;have m2:=coQ kM 2;have m3:=coQ kM 3;have m4:=coQ kM 4;have m5:=coQ kM 5;have m6:=coQ kM 6;simp at m0 m1 m2 m3 m4 m5 m6;go_upto_region 10 with fail;refine zK (fun w'=>Below w1.heap.size w1 w') (fun _=>false) (by kernel_rfl) ?_;have hH0:Below w1.heap.size w1 w1.drew:=(Below.refl _ _).drew;generalize w1.drew=wd0 at hH0 ⊢;refine' tkQ 0 29 hH0 ?hyv ?o1
 case hyv=>
  intro wz hSw;have zc0:=(hSw.cell (p:=⟨w.heap.size,0,none⟩) yM).trans m0;have zc1:=(hSw.cell (p:=⟨w.heap.size,1,none⟩) yM).trans m1;have zc2:=(hSw.cell (p:=⟨w.heap.size,2,none⟩) yM).trans m2;have zc3:=(hSw.cell (p:=⟨w.heap.size,3,none⟩) yM).trans m3;have zc4:=(hSw.cell (p:=⟨w.heap.size,4,none⟩) yM).trans m4;have zc5:=(hSw.cell (p:=⟨w.heap.size,5,none⟩) yM).trans m5;have zc6:=(hSw.cell (p:=⟨w.heap.size,6,none⟩) yM).trans m6;go_simp
  try rfl
 try simp only [Act.put,sT,sZ,sS]
 refine' tkQ 2 31 hH0 ?hyv ?o2
 case hyv=>
  intro wz hSw;have zc0:=(hSw.cell (p:=⟨w.heap.size,0,none⟩) yM).trans m0;have zc1:=(hSw.cell (p:=⟨w.heap.size,1,none⟩) yM).trans m1;have zc2:=(hSw.cell (p:=⟨w.heap.size,2,none⟩) yM).trans m2;have zc3:=(hSw.cell (p:=⟨w.heap.size,3,none⟩) yM).trans m3;have zc4:=(hSw.cell (p:=⟨w.heap.size,4,none⟩) yM).trans m4;have zc5:=(hSw.cell (p:=⟨w.heap.size,5,none⟩) yM).trans m5;have zc6:=(hSw.cell (p:=⟨w.heap.size,6,none⟩) yM).trans m6;go_simp
  try rfl
 try simp only [Act.put,sT,sZ,sS]
 refine qX (fun a0 D a V=>∃ t1 t3 t4 t5:Value,a=((((a0.put (some 30) t1).put (some 32) t3).put (some 4) t4).put (some 5) t5)/\Below w1.heap.size w1 V/\(D 0=true/\D 2=true)/\(D 1=true->SlI w.heap.size V t1 l0)/\(D 3=true->SlI w.heap.size V t3 l1)/\(D 4=true->Blk V w1.heap.size t4 52 (if D 6=true then t1 else .slice none 0 0))/\(D 5=true->Blk V w1.heap.size t5 52 (if D 7=true then t3 else .slice none 0 0))/\(D 4=true->D 5=true->t4≠t5)/\(D 6=true->D 4=true)/\(D 7=true->D 5=true)/\(D 6=true->D 1=true)/\(D 7=true->D 3=true)) [0,1,2,3,4,5,6,7] rfl (by kernel_rfl) (by kernel_rfl) (by kernel_rfl) ?start ?stays ?steps ?ends
 case start=>exact ⟨_,_,_,_,rfl,hH0,⟨rfl,rfl⟩,fun h=>absurd h (by decide),fun h=>absurd h (by decide),fun h=>absurd h (by decide),fun h=>absurd h (by decide),fun h=>absurd h (by decide),fun h=>absurd h (by decide),fun h=>absurd h (by decide),fun h=>absurd h (by decide),fun h=>absurd h (by decide)⟩
 case stays=>exact fun D a V h=>by obtain ⟨t1,t3,t4,t5,-,h,-⟩:=h;exact h
 case steps=>
  refine Keeps.skip (fun D a V hI=>by obtain ⟨t1,t3,t4,t5,-,hB,hT,c1,c3,b4,b5,n4_5,u6,u7,x6,x7⟩:=hI;exact hT.1) ?_;refine Keeps.cons (o:=_) [0] rfl rfl (by kernel_rfl) ?step1 ?_
  case step1=>
   intro D a wd hI hD hw K hK;obtain ⟨t1,t3,t4,t5,ea,hB,hT,c1,c3,b4,b5,n4_5,u6,u7,x6,x7⟩:=hI;clear hw
   replace hT:=zD hT
   replace c1:=zD c1
   replace c3:=zD c3
   replace b4:=zD b4
   replace b5:=zD b5
   replace n4_5:=zD n4_5
   replace u6:=zD u6
   replace u7:=zD u7
   replace x6:=zD x6
   replace x7:=zD x7
   have hs4:=zD (show D 6=false from Bool.eq_false_iff.2 (fun h=>by rw [x6.out h] at hD;cases hD));clear hD;subst ea
   try simp only [Act.put,sT,sZ,sS]
   go_simp;refine (HP0.out wd (HRW.out.under hB) (HCC.out.keep hB.size (fun i hi _=>hB.block i (Nat.lt_trans hi yM))) (HAA.out.under hB)).mono ?_;rintro eq wn ⟨p,q,c,rfl,hu,bq⟩;have hn:Below w1.heap.size w1 wn:=hB.trans (bq.mono hB.size);refine hK.out _ _ ?_;exact ⟨_,t3,t4,t5,rfl,hn,hT.out,fun _=>SlI.keep ⟨⟨_,_,_,rfl⟩,hu⟩ (bq.mono hB.size) (Nat.le_of_lt yM),fun h=>(c3.out h).keep (bq.mono hB.size) (Nat.le_of_lt yM),fun h=>Blk.off ((b4.out h).grow bq) hs4.out hs4.out,fun h=>(b5.out h).grow bq,n4_5.out,u6.out,u7.out,fun _=>rfl,x7.out⟩
  refine Keeps.skip (fun D a V hI=>by obtain ⟨t1,t3,t4,t5,-,hB,hT,c1,c3,b4,b5,n4_5,u6,u7,x6,x7⟩:=hI;exact hT.2) ?_;refine Keeps.cons (o:=_) [2,1] rfl rfl (by kernel_rfl) ?step3 ?_
  case step3=>
   intro D a wd hI hD hw K hK;obtain ⟨t1,t3,t4,t5,ea,hB,hT,c1,c3,b4,b5,n4_5,u6,u7,x6,x7⟩:=hI;have d1:=zD (hw 1 (by simp));clear hw
   replace hT:=zD hT
   replace c1:=zD c1
   replace c3:=zD c3
   replace b4:=zD b4
   replace b5:=zD b5
   replace n4_5:=zD n4_5
   replace u6:=zD u6
   replace u7:=zD u7
   replace x6:=zD x6
   replace x7:=zD x7
   have hs5:=zD (show D 7=false from Bool.eq_false_iff.2 (fun h=>by rw [x7.out h] at hD;cases hD));clear hD;subst ea
   try simp only [Act.put,sT,sZ,sS]
   go_simp;refine (HP1.out wd (HRW.out.under hB) (HCC.out.keep hB.size (fun i hi _=>hB.block i (Nat.lt_trans hi yM))) (HAA.out.under hB)).mono ?_;rintro eq wn ⟨p,q,c,rfl,hu,bq⟩;have hn:Below w1.heap.size w1 wn:=hB.trans (bq.mono hB.size);refine hK.out _ _ ?_;exact ⟨t1,_,t4,t5,rfl,hn,hT.out,fun h=>(c1.out h).keep (bq.mono hB.size) (Nat.le_of_lt yM),fun _=>SlI.keep ⟨⟨_,_,_,rfl⟩,hu⟩ (bq.mono hB.size) (Nat.le_of_lt yM),fun h=>(b4.out h).grow bq,fun h=>Blk.off ((b5.out h).grow bq) hs5.out hs5.out,n4_5.out,u6.out,u7.out,x6.out,fun _=>rfl⟩
  refine Keeps.cons (o:=_) [] rfl rfl (by kernel_rfl) ?step4 ?_
  case step4=>
   intro D a wd hI hD hw K hK;obtain ⟨t1,t3,t4,t5,ea,hB,hT,c1,c3,b4,b5,n4_5,u6,u7,x6,x7⟩:=hI;clear hw
   replace hT:=zD hT
   replace c1:=zD c1
   replace c3:=zD c3
   replace b4:=zD b4
   replace b5:=zD b5
   replace n4_5:=zD n4_5
   replace u6:=zD u6
   replace u7:=zD u7
   replace x6:=zD x6
   replace x7:=zD x7
   have bq:Below wd.heap.size wd (wd.alloc (.cells #[.slice none 0 0] 52 (0,0))):=(Below.refl _ _).alloc zL _;have hn:=hB.trans (bq.mono hB.size);have nb:=zD (Blk.new (w:=wd) (B:=w1.heap.size) hB.size (.slice none 0 0) 52)
   replace bq:=zD bq
   replace hn:=zD hn
   have hs4:=zD (show D 6=false from Bool.eq_false_iff.2 (fun h=>by rw [u6.out h] at hD;cases hD));clear hD;subst ea
   try simp only [Act.put,sT,sZ,sS]
   go_simp;refine hK.out _ _ ?_;exact ⟨t1,t3,_,t5,rfl,hn.out,hT.out,fun h=>(c1.out h).keep (bq.out.mono hB.size) (Nat.le_of_lt yM),fun h=>(c3.out h).keep (bq.out.mono hB.size) (Nat.le_of_lt yM),fun _=>by have e:also D 4 6=false:=hs4.out;rw [e];exact nb.out,fun h=>(b5.out h).grow bq.out,fun _ h=>fun e=>(b5.out h).ne_new e.symm,fun _=>rfl,u7.out,x6.out,x7.out⟩
  refine Keeps.cons (o:=_) [] rfl rfl (by kernel_rfl) ?step5 ?_
  case step5=>
   intro D a wd hI hD hw K hK;obtain ⟨t1,t3,t4,t5,ea,hB,hT,c1,c3,b4,b5,n4_5,u6,u7,x6,x7⟩:=hI;clear hw
   replace hT:=zD hT
   replace c1:=zD c1
   replace c3:=zD c3
   replace b4:=zD b4
   replace b5:=zD b5
   replace n4_5:=zD n4_5
   replace u6:=zD u6
   replace u7:=zD u7
   replace x6:=zD x6
   replace x7:=zD x7
   have bq:Below wd.heap.size wd (wd.alloc (.cells #[.slice none 0 0] 52 (0,0))):=(Below.refl _ _).alloc zL _;have hn:=hB.trans (bq.mono hB.size);have nb:=zD (Blk.new (w:=wd) (B:=w1.heap.size) hB.size (.slice none 0 0) 52)
   replace bq:=zD bq
   replace hn:=zD hn
   have hs5:=zD (show D 7=false from Bool.eq_false_iff.2 (fun h=>by rw [u7.out h] at hD;cases hD));clear hD;subst ea
   try simp only [Act.put,sT,sZ,sS]
   go_simp;refine hK.out _ _ ?_;exact ⟨t1,t3,t4,_,rfl,hn.out,hT.out,fun h=>(c1.out h).keep (bq.out.mono hB.size) (Nat.le_of_lt yM),fun h=>(c3.out h).keep (bq.out.mono hB.size) (Nat.le_of_lt yM),fun h=>(b4.out h).grow bq.out,fun _=>by have e:also D 5 7=false:=hs5.out;rw [e];exact nb.out,fun h _=>(b4.out h).ne_new,u6.out,fun _=>rfl,x6.out,x7.out⟩
  refine Keeps.cons (o:=_) [4,1,3,0,1,4,5] rfl rfl (by kernel_rfl) ?step6 ?_
  case step6=>
   intro D a wd hI hD hw K hK;obtain ⟨t1,t3,t4,t5,ea,hB,hT,c1,c3,b4,b5,n4_5,u6,u7,x6,x7⟩:=hI;have d4:=zD (hw 4 (by simp));have d1:=zD (hw 1 (by simp));have d3:=zD (hw 3 (by simp));have d5:=zD (hw 5 (by simp));clear hw
   replace hT:=zD hT
   replace c1:=zD c1
   replace c3:=zD c3
   replace b4:=zD b4
   replace b5:=zD b5
   replace n4_5:=zD n4_5
   replace u6:=zD u6
   replace u7:=zD u7
   replace x6:=zD x6
   replace x7:=zD x7
   have hx:=b4.out d4.out;unfold Blk at hx;obtain ⟨b,e,hb,kb⟩:=hx;subst e;simp only [hD,Bool.false_eq_true,if_false] at kb;have st0:=coQ kb 0;have fr0:=foQ kb 0;simp at st0;have ck:=c1.out d1.out;unfold SlI at ck;obtain ⟨⟨p,q,c,et⟩,hu⟩:=ck;subst et;have hst:Below w1.heap.size wd (wd.setCell ⟨b,0,none⟩ (.slice p q c)):=(Below.refl _ _).setCell (p:=⟨b,0,none⟩) hb (.slice p q c);have hn:=hB.trans hst;have nb:=zD (Blk.set (B:=w1.heap.size) hb kb (.slice p q c))
   replace hst:=zD hst
   replace hn:=zD hn
   clear kb;clear hD;subst ea
   try simp only [Act.put,sT,sZ,sS]
   go_simp;refine hK.out _ _ ?_;exact ⟨_,t3,_,t5,rfl,hn.out,hT.out,fun h=>(c1.out h).keep hst.out (Nat.le_of_lt yM),fun h=>(c3.out h).keep hst.out (Nat.le_of_lt yM),fun _=>by rw [if_pos (show also D 6 6=true from rfl)];exact nb.out,fun h=>(b5.out h).set_other (fun q=>n4_5.out d4.out h q.symm) _,n4_5.out,fun _=>d4.out,u7.out,fun _=>d1.out,x7.out⟩
  refine Keeps.cons (o:=_) [5,3,6,0,1,2,3,4,5,6] rfl rfl (by kernel_rfl) ?step7 ?_
  case step7=>
   intro D a wd hI hD hw K hK;obtain ⟨t1,t3,t4,t5,ea,hB,hT,c1,c3,b4,b5,n4_5,u6,u7,x6,x7⟩:=hI;have d5:=zD (hw 5 (by simp));have d3:=zD (hw 3 (by simp));have d6:=zD (hw 6 (by simp));have d1:=zD (hw 1 (by simp));have d4:=zD (hw 4 (by simp));clear hw
   replace hT:=zD hT
   replace c1:=zD c1
   replace c3:=zD c3
   replace b4:=zD b4
   replace b5:=zD b5
   replace n4_5:=zD n4_5
   replace u6:=zD u6
   replace u7:=zD u7
   replace x6:=zD x6
   replace x7:=zD x7
   have hx:=b5.out d5.out;unfold Blk at hx;obtain ⟨b,e,hb,kb⟩:=hx;subst e;simp only [hD,Bool.false_eq_true,if_false] at kb;have st0:=coQ kb 0;have fr0:=foQ kb 0;simp at st0;have ck:=c3.out d3.out;unfold SlI at ck;obtain ⟨⟨p,q,c,et⟩,hu⟩:=ck;subst et;have hst:Below w1.heap.size wd (wd.setCell ⟨b,0,none⟩ (.slice p q c)):=(Below.refl _ _).setCell (p:=⟨b,0,none⟩) hb (.slice p q c);have hn:=hB.trans hst;have nb:=zD (Blk.set (B:=w1.heap.size) hb kb (.slice p q c))
   replace hst:=zD hst
   replace hn:=zD hn
   clear kb;clear hD;subst ea
   try simp only [Act.put,sT,sZ,sS]
   go_simp;refine hK.out _ _ ?_;exact ⟨t1,_,t4,_,rfl,hn.out,hT.out,fun h=>(c1.out h).keep hst.out (Nat.le_of_lt yM),fun h=>(c3.out h).keep hst.out (Nat.le_of_lt yM),fun h=>(b4.out h).set_other (fun q=>n4_5.out h d5.out q) _,fun _=>by rw [if_pos (show also D 7 7=true from rfl)];exact nb.out,n4_5.out,u6.out,fun _=>d5.out,x6.out,fun _=>d3.out⟩
  exact Keeps.nil
 case ends=>
  intro D a wF hI hD;obtain ⟨t1,t3,t4,t5,ea,hB,hT,c1,c3,b4,b5,n4_5,u6,u7,x6,x7⟩:=hI
  replace c1:=c1 (hD 1)
  replace c3:=c3 (hD 3)
  replace b4:=b4 (hD 4)
  rw [if_pos (hD 6)] at b4
  replace b5:=b5 (hD 5)
  rw [if_pos (hD 7)] at b5;clear n4_5 u6 u7 x6 x7 hT hD;unfold Blk at b4;obtain ⟨x4,ex4,-,k4⟩:=b4;subst ex4;unfold Blk at b5;obtain ⟨x5,ex5,-,k5⟩:=b5;subst ex5;unfold SlI at c1;obtain ⟨⟨p,q,c,etc1⟩,g1⟩:=c1;subst etc1;unfold SlI at c3;obtain ⟨⟨p',q',c',etc3⟩,g3⟩:=c3;subst etc3;have kM3:=(hB.block _ (zG kM)).trans kM;have HEND:=zD (show Tells w wF (.func (.func 103) #[] #[.pointer (some ⟨w.heap.size,0,none⟩),.pointer (some ⟨x4,0,none⟩),.pointer (some ⟨x5,0,none⟩)]) (fun k=>apT K (l0.getD k 0) (l1.getD k 0)) N/\Below w.heap.size w wF from ⟨Tells.of eg103 fun k W hk hb=>cell2_any ((hb.block _ (zG kM3)).trans kM3) ((hb.block _ (zG k4)).trans k4) (xN g1 hb (Nat.le_of_lt (Nat.lt_of_lt_of_le yM hB.size))) ((hb.block _ (zG k5)).trans k5) (xN g3 hb (Nat.le_of_lt (Nat.lt_of_lt_of_le yM hB.size))) (Nat.lt_of_lt_of_le hk HhN.out) (Nat.lt_of_lt_of_le hk HhM.out),b1.trans (hB.mono b1.size)⟩);clear k4 k5 g1 g3 m0 m1 m2 m3 m4 m5 m6 kM kM3;subst ea
  try simp only [Act.put,sT,sZ,sS]
  go_wp2;go_ret;exact ⟨_,rfl,HEND.out.1,HEND.out.2⟩
theorem cellK_any {w:World} {rb:Nat} {K out:Int} {aA aE:Option Addr} {nA cA nE cE:Nat}  {f:Nat} {ok okA:Nat->Prop} {x:WkV} {vC vA:Value} {C:List (List Int)} {A:List Int} (hr:RowAt w rb x vC vA) (hC:HRow kLL ok w vC C) (hA:HInts okA w (.slice aA nA cA) A) (h0:0<A.length) (hz0:0<=A[0]/\A[0]<C.length) {N:Nat} (hN:f+N<=(Sk.cAt C A[0]).length) (hM:(Sk.cAt C A[0]).length<=300):Calls Tryz.prog 70 #[.agg #[.pointer (some ⟨rb,0,none⟩),.int .i64 11,.int .i64 K,.int .i64 out,.int .i64 (f:Int),.slice aA nA cA,.slice aE nE cE]] w fun e w'=>CellPost w w' e (fun k=>(Sk.cAt C A[0]).getD (f+k) 0) N:=by
 have b1:Below w.heap.size w (w.alloc (.cells #[.pointer (some ⟨rb,0,none⟩),.int .i64 11,.int .i64 K,.int .i64 out,.int .i64 (f:Int),.slice aA nA cA,.slice aE nE cE] 110 (0,0))):=(Below.refl _ _).alloc zL _;have kM:=zH w (.cells #[.pointer (some ⟨rb,0,none⟩),.int .i64 11,.int .i64 K,.int .i64 out,.int .i64 (f:Int),.slice aA nA cA,.slice aE nE cE] 110 (0,0));have hC2:=hC.wide (ok':=fun i=>i<w.heap.size) fun i _ hl=>hl;have HRW:=zD (hr.under b1);have HCC:=zD (hC2.keep b1.size (fun i _ h=>b1.block i h));have HAA:=zD (hA.under b1);have HP0:=zD (fun (W:World) (hr:RowAt W rb x vC vA) (hC:HRow kLL (fun i=>i<w.heap.size) W vC C) (hA:HInts okA W (.slice aA nA cA) A)=>xB (op:=11) (k:=K) (out:=out) (n:=(f:Int)) (aE:=aE) (nE:=nE) (cE:=cE) hr hC hA 0 h0 hz0);generalize Sk.cAt C A[0]=l0 at HP0 hN hM ⊢;have HhN:=zD hN;clear hN;have HhM:=zD hM;clear hM;clear hr hC hC2 hA hz0  h0;go_enter Tryz.func70,Tryz.ntmps70;go_upto_region 1 with fail;obtain ⟨w1,hw1⟩:=nmQ (w.alloc (.cells #[.pointer (some ⟨rb,0,none⟩),.int .i64 11,.int .i64 K,.int .i64 out,.int .i64 (f:Int),.slice aA nA cA,.slice aE nE cE] 110 (0,0)));rw [<-hw1] at b1 kM HRW HCC HAA ⊢;have yM:w.heap.size<w1.heap.size:=zG kM;clear hw1;have B1:Below w1.heap.size w1 w1:=Below.refl _ _;have m0:=coQ kM 0;have m1:=coQ kM 1;have m2:=coQ kM 2;have m3:=coQ kM 3;have m4:=coQ kM 4;have m5:=coQ kM 5;have m6:=coQ kM 6;simp at m0 m1 m2 m3 m4 m5 m6;go_upto_region 23 with fail;refine zK (fun w'=>Below w1.heap.size w1 w') (fun _=>false) (by kernel_rfl) ?_;have hH0:Below w1.heap.size w1 w1.drew:=(Below.refl _ _).drew;generalize w1.drew=wd0 at hH0 ⊢;refine' tkQ 0 66 hH0 ?hyv ?o3
 case hyv=>
  intro wz hSw;have zc0:=(hSw.cell (p:=⟨w.heap.size,0,none⟩) yM).trans m0;have zc1:=(hSw.cell (p:=⟨w.heap.size,1,none⟩) yM).trans m1;have zc2:=(hSw.cell (p:=⟨w.heap.size,2,none⟩) yM).trans m2;have zc3:=(hSw.cell (p:=⟨w.heap.size,3,none⟩) yM).trans m3;have zc4:=(hSw.cell (p:=⟨w.heap.size,4,none⟩) yM).trans m4;have zc5:=(hSw.cell (p:=⟨w.heap.size,5,none⟩) yM).trans m5;have zc6:=(hSw.cell (p:=⟨w.heap.size,6,none⟩) yM).trans m6;go_simp
  try rfl
 try simp only [Act.put,sT,sZ,sS]
 refine' tkR 2 68 hH0 ?o4
 refine' tkR 3 69 hH0 ?o5
 refine' tkQ 4 70 hH0 ?hyv ?o6
 case hyv=>
  intro wz hSw;have zc0:=(hSw.cell (p:=⟨w.heap.size,0,none⟩) yM).trans m0;have zc1:=(hSw.cell (p:=⟨w.heap.size,1,none⟩) yM).trans m1;have zc2:=(hSw.cell (p:=⟨w.heap.size,2,none⟩) yM).trans m2;have zc3:=(hSw.cell (p:=⟨w.heap.size,3,none⟩) yM).trans m3;have zc4:=(hSw.cell (p:=⟨w.heap.size,4,none⟩) yM).trans m4;have zc5:=(hSw.cell (p:=⟨w.heap.size,5,none⟩) yM).trans m5;have zc6:=(hSw.cell (p:=⟨w.heap.size,6,none⟩) yM).trans m6;go_simp
  try rfl
 try simp only [Act.put,sT,sZ,sS]
 refine qX (fun a0 D a V=>∃ t1 t5 t6:Value,a=(((a0.put (some 67) t1).put (some 6) t5).put (some 7) t6)/\Below w1.heap.size w1 V/\(D 0=true/\D 2=true/\D 3=true/\D 4=true)/\(D 1=true->SlI w.heap.size V t1 l0)/\(D 5=true->Blk V w1.heap.size t5 52 (if D 7=true then t1 else .slice none 0 0))/\(D 6=true->Blk V w1.heap.size t6 3 (if D 8=true then .int .i64 (f:Int) else .int .i64 0))/\(D 5=true->D 6=true->t5≠t6)/\(D 7=true->D 5=true)/\(D 8=true->D 6=true)/\(D 7=true->D 1=true)) [0,1,2,3,4,5,6,7,8] rfl (by kernel_rfl) (by kernel_rfl) (by kernel_rfl) ?start ?stays ?steps ?ends
 case start=>exact ⟨_,_,_,rfl,hH0,⟨rfl,rfl,rfl,rfl⟩,fun h=>absurd h (by decide),fun h=>absurd h (by decide),fun h=>absurd h (by decide),fun h=>absurd h (by decide),fun h=>absurd h (by decide),fun h=>absurd h (by decide),fun h=>absurd h (by decide)⟩
 case stays=>exact fun D a V h=>by obtain ⟨t1,t5,t6,-,h,-⟩:=h;exact h
 case steps=>
  refine Keeps.skip (fun D a V hI=>by obtain ⟨t1,t5,t6,-,hB,hT,c1,b5,b6,n5_6,u7,u8,x7⟩:=hI;exact hT.1) ?_;refine Keeps.cons (o:=_) [0] rfl rfl (by kernel_rfl) ?step1 ?_
  case step1=>
   intro D a wd hI hD hw K hK;obtain ⟨t1,t5,t6,ea,hB,hT,c1,b5,b6,n5_6,u7,u8,x7⟩:=hI;clear hw
   replace hT:=zD hT
   replace c1:=zD c1
   replace b5:=zD b5
   replace b6:=zD b6
   replace n5_6:=zD n5_6
   replace u7:=zD u7
   replace u8:=zD u8
   replace x7:=zD x7
   have hs5:=zD (show D 7=false from Bool.eq_false_iff.2 (fun h=>by rw [x7.out h] at hD;cases hD));clear hD;subst ea
   try simp only [Act.put,sT,sZ,sS]
   go_simp;refine (HP0.out wd (HRW.out.under hB) (HCC.out.keep hB.size (fun i hi _=>hB.block i (Nat.lt_trans hi yM))) (HAA.out.under hB)).mono ?_;rintro eq wn ⟨p,q,c,rfl,hu,bq⟩;have hn:Below w1.heap.size w1 wn:=hB.trans (bq.mono hB.size);refine hK.out _ _ ?_;exact ⟨_,t5,t6,rfl,hn,hT.out,fun _=>SlI.keep ⟨⟨_,_,_,rfl⟩,hu⟩ (bq.mono hB.size) (Nat.le_of_lt yM),fun h=>Blk.off ((b5.out h).grow bq) hs5.out hs5.out,fun h=>(b6.out h).grow bq,n5_6.out,u7.out,u8.out,fun _=>rfl⟩
  refine Keeps.skip (fun D a V hI=>by obtain ⟨t1,t5,t6,-,hB,hT,c1,b5,b6,n5_6,u7,u8,x7⟩:=hI;exact hT.2.1) ?_;refine Keeps.skip (fun D a V hI=>by obtain ⟨t1,t5,t6,-,hB,hT,c1,b5,b6,n5_6,u7,u8,x7⟩:=hI;exact hT.2.2.1) ?_;refine Keeps.skip (fun D a V hI=>by obtain ⟨t1,t5,t6,-,hB,hT,c1,b5,b6,n5_6,u7,u8,x7⟩:=hI;exact hT.2.2.2) ?_;refine Keeps.cons (o:=_) [] rfl rfl (by kernel_rfl) ?step5 ?_
  case step5=>
   intro D a wd hI hD hw K hK;obtain ⟨t1,t5,t6,ea,hB,hT,c1,b5,b6,n5_6,u7,u8,x7⟩:=hI;clear hw
   replace hT:=zD hT
   replace c1:=zD c1
   replace b5:=zD b5
   replace b6:=zD b6
   replace n5_6:=zD n5_6
   replace u7:=zD u7
   replace u8:=zD u8
   replace x7:=zD x7
   have bq:Below wd.heap.size wd (wd.alloc (.cells #[.slice none 0 0] 52 (0,0))):=(Below.refl _ _).alloc zL _;have hn:=hB.trans (bq.mono hB.size);have nb:=zD (Blk.new (w:=wd) (B:=w1.heap.size) hB.size (.slice none 0 0) 52)
   replace bq:=zD bq
   replace hn:=zD hn
   have hs5:=zD (show D 7=false from Bool.eq_false_iff.2 (fun h=>by rw [u7.out h] at hD;cases hD));clear hD;subst ea
   try simp only [Act.put,sT,sZ,sS]
   go_simp;refine hK.out _ _ ?_;exact ⟨t1,_,t6,rfl,hn.out,hT.out,fun h=>(c1.out h).keep (bq.out.mono hB.size) (Nat.le_of_lt yM),fun _=>by have e:also D 5 7=false:=hs5.out;rw [e];exact nb.out,fun h=>(b6.out h).grow bq.out,fun _ h=>fun e=>(b6.out h).ne_new e.symm,fun _=>rfl,u8.out,x7.out⟩
  refine Keeps.cons (o:=_) [] rfl rfl (by kernel_rfl) ?step6 ?_
  case step6=>
   intro D a wd hI hD hw K hK;obtain ⟨t1,t5,t6,ea,hB,hT,c1,b5,b6,n5_6,u7,u8,x7⟩:=hI;clear hw
   replace hT:=zD hT
   replace c1:=zD c1
   replace b5:=zD b5
   replace b6:=zD b6
   replace n5_6:=zD n5_6
   replace u7:=zD u7
   replace u8:=zD u8
   replace x7:=zD x7
   have bq:Below wd.heap.size wd (wd.alloc (.cells #[.int .i64 0] 3 (0,0))):=(Below.refl _ _).alloc zL _;have hn:=hB.trans (bq.mono hB.size);have nb:=zD (Blk.new (w:=wd) (B:=w1.heap.size) hB.size (.int .i64 0) 3)
   replace bq:=zD bq
   replace hn:=zD hn
   have hs6:=zD (show D 8=false from Bool.eq_false_iff.2 (fun h=>by rw [u8.out h] at hD;cases hD));clear hD;subst ea
   try simp only [Act.put,sT,sZ,sS]
   go_simp;refine hK.out _ _ ?_;exact ⟨t1,t5,_,rfl,hn.out,hT.out,fun h=>(c1.out h).keep (bq.out.mono hB.size) (Nat.le_of_lt yM),fun h=>(b5.out h).grow bq.out,fun _=>by have e:also D 6 8=false:=hs6.out;rw [e];exact nb.out,fun h _=>(b5.out h).ne_new,u7.out,fun _=>rfl,x7.out⟩
  refine Keeps.cons (o:=_) [5,1,1,0,1,5,6] rfl rfl (by kernel_rfl) ?step7 ?_
  case step7=>
   intro D a wd hI hD hw K hK;obtain ⟨t1,t5,t6,ea,hB,hT,c1,b5,b6,n5_6,u7,u8,x7⟩:=hI;have d5:=zD (hw 5 (by simp));have d1:=zD (hw 1 (by simp));have d6:=zD (hw 6 (by simp));clear hw
   replace hT:=zD hT
   replace c1:=zD c1
   replace b5:=zD b5
   replace b6:=zD b6
   replace n5_6:=zD n5_6
   replace u7:=zD u7
   replace u8:=zD u8
   replace x7:=zD x7
   have hx:=b5.out d5.out;unfold Blk at hx;obtain ⟨b,e,hb,kb⟩:=hx;subst e;simp only [hD,Bool.false_eq_true,if_false] at kb;have st0:=coQ kb 0;have fr0:=foQ kb 0;simp at st0;have ck:=c1.out d1.out;unfold SlI at ck;obtain ⟨⟨p,q,c,et⟩,hu⟩:=ck;subst et;have hst:Below w1.heap.size wd (wd.setCell ⟨b,0,none⟩ (.slice p q c)):=(Below.refl _ _).setCell (p:=⟨b,0,none⟩) hb (.slice p q c);have hn:=hB.trans hst;have nb:=zD (Blk.set (B:=w1.heap.size) hb kb (.slice p q c))
   replace hst:=zD hst
   replace hn:=zD hn
   clear kb;clear hD;subst ea
   try simp only [Act.put,sT,sZ,sS]
   go_simp;refine hK.out _ _ ?_;exact ⟨_,_,t6,rfl,hn.out,hT.out,fun h=>(c1.out h).keep hst.out (Nat.le_of_lt yM),fun _=>by rw [if_pos (show also D 7 7=true from rfl)];exact nb.out,fun h=>(b6.out h).set_other (fun q=>n5_6.out d5.out h q.symm) _,n5_6.out,fun _=>d5.out,u8.out,fun _=>d1.out⟩
  refine Keeps.cons (o:=_) [6,4,7,0,1,2,3,4,5,6,7] rfl rfl (by kernel_rfl) ?step8 ?_
  case step8=>
   intro D a wd hI hD hw K hK;obtain ⟨t1,t5,t6,ea,hB,hT,c1,b5,b6,n5_6,u7,u8,x7⟩:=hI;have d6:=zD (hw 6 (by simp));have d7:=zD (hw 7 (by simp));have d1:=zD (hw 1 (by simp));have d5:=zD (hw 5 (by simp));clear hw
   replace hT:=zD hT
   replace c1:=zD c1
   replace b5:=zD b5
   replace b6:=zD b6
   replace n5_6:=zD n5_6
   replace u7:=zD u7
   replace u8:=zD u8
   replace x7:=zD x7
   have hx:=b6.out d6.out;unfold Blk at hx;obtain ⟨b,e,hb,kb⟩:=hx;subst e;simp only [hD,Bool.false_eq_true,if_false] at kb;have st0:=coQ kb 0;have fr0:=foQ kb 0;simp at st0;have hst:Below w1.heap.size wd (wd.setCell ⟨b,0,none⟩ (.int .i64 (f:Int))):=(Below.refl _ _).setCell (p:=⟨b,0,none⟩) hb (.int .i64 (f:Int));have hn:=hB.trans hst;have nb:=zD (Blk.set (B:=w1.heap.size) hb kb (.int .i64 (f:Int)))
   replace hst:=zD hst
   replace hn:=zD hn
   clear kb;clear hD;subst ea
   try simp only [Act.put,sT,sZ,sS]
   go_simp;refine hK.out _ _ ?_;exact ⟨t1,t5,_,rfl,hn.out,hT.out,fun h=>(c1.out h).keep hst.out (Nat.le_of_lt yM),fun h=>(b5.out h).set_other (fun q=>n5_6.out h d6.out q) _,fun _=>by rw [if_pos (show also D 8 8=true from rfl)];exact nb.out,n5_6.out,u7.out,fun _=>d6.out,x7.out⟩
  exact Keeps.nil
 case ends=>
  intro D a wF hI hD;obtain ⟨t1,t5,t6,ea,hB,hT,c1,b5,b6,n5_6,u7,u8,x7⟩:=hI
  replace c1:=c1 (hD 1)
  replace b5:=b5 (hD 5)
  rw [if_pos (hD 7)] at b5
  replace b6:=b6 (hD 6)
  rw [if_pos (hD 8)] at b6;clear n5_6 u7 u8 x7 hT hD;unfold Blk at b5;obtain ⟨x5,ex5,-,k5⟩:=b5;subst ex5;unfold Blk at b6;obtain ⟨x6,ex6,-,k6⟩:=b6;subst ex6;unfold SlI at c1;obtain ⟨⟨p,q,c,etc1⟩,g1⟩:=c1;subst etc1;have HEND:=zD (show Tells w wF (.func (.func 107) #[] #[.pointer (some ⟨x5,0,none⟩),.pointer (some ⟨x6,0,none⟩)]) (fun k=>l0.getD (f+k) 0) N/\Below w.heap.size w wF from ⟨Tells.of eg107 fun k W hk hb=>cell3_any ((hb.block _ (zG k5)).trans k5) (xN g1 hb (Nat.le_of_lt (Nat.lt_of_lt_of_le yM hB.size))) ((hb.block _ (zG k6)).trans k6) k (by have:=HhN.out;omega) HhM.out,b1.trans (hB.mono b1.size)⟩);clear k5 k6 g1 m0 m1 m2 m3 m4 m5 m6 kM;subst ea
  try simp only [Act.put,sT,sZ,sS]
  go_wp2;go_ret;exact ⟨_,rfl,HEND.out.1,HEND.out.2⟩
theorem cellI_any {w:World} {rb:Nat} {K out n:Int} {aA aE:Option Addr} {nA cA nE cE:Nat}  {ok okA:Nat->Prop} {x:WkV} {vC vA:Value} {C:List (List Int)} {A:List Int} (hr:RowAt w rb x vC vA) (hC:HRow kLL ok w vC C) (hA:HInts okA w (.slice aA nA cA) A) (h0:0<A.length) (h1:1<A.length) (h2:2<A.length) (hz0:0<=A[0]/\A[0]<C.length) (hz1:0<=A[1]/\A[1]<C.length) (hz2:0<=A[2]/\A[2]<C.length) (hl1:0<(Sk.cAt C A[1]).length) (hl2:0<(Sk.cAt C A[2]).length) {N:Nat} :Calls Tryz.prog 70 #[.agg #[.pointer (some ⟨rb,0,none⟩),.int .i64 9,.int .i64 K,.int .i64 out,.int .i64 n,.slice aA nA cA,.slice aE nE cE]] w fun e w'=>CellPost w w' e (fun _=>Sk.cellAt (Sk.cAt C A[0]) ((Sk.cAt C A[1]).getD 0 0) ((Sk.cAt C A[2]).getD 0 0)) N:=by
 have b1:Below w.heap.size w (w.alloc (.cells #[.pointer (some ⟨rb,0,none⟩),.int .i64 9,.int .i64 K,.int .i64 out,.int .i64 n,.slice aA nA cA,.slice aE nE cE] 110 (0,0))):=(Below.refl _ _).alloc zL _;have kM:=zH w (.cells #[.pointer (some ⟨rb,0,none⟩),.int .i64 9,.int .i64 K,.int .i64 out,.int .i64 n,.slice aA nA cA,.slice aE nE cE] 110 (0,0));have hC2:=hC.wide (ok':=fun i=>i<w.heap.size) fun i _ hl=>hl;have HRW:=zD (hr.under b1);have HCC:=zD (hC2.keep b1.size (fun i _ h=>b1.block i h));have HAA:=zD (hA.under b1);have HP0:=zD (fun (W:World) (hr:RowAt W rb x vC vA) (hC:HRow kLL (fun i=>i<w.heap.size) W vC C) (hA:HInts okA W (.slice aA nA cA) A)=>xB (op:=9) (k:=K) (out:=out) (n:=n) (aE:=aE) (nE:=nE) (cE:=cE) hr hC hA 0 h0 hz0);have HP1:=zD (fun (W:World) (hr:RowAt W rb x vC vA) (hC:HRow kLL (fun i=>i<w.heap.size) W vC C) (hA:HInts okA W (.slice aA nA cA) A)=>xM (op:=9) (k:=K) (out:=out) (n:=n) (aE:=aE) (nE:=nE) (cE:=cE) hr hC hA 1 h1 hz1 hl1);have HP2:=zD (fun (W:World) (hr:RowAt W rb x vC vA) (hC:HRow kLL (fun i=>i<w.heap.size) W vC C) (hA:HInts okA W (.slice aA nA cA) A)=>xM (op:=9) (k:=K) (out:=out) (n:=n) (aE:=aE) (nE:=nE) (cE:=cE) hr hC hA 2 h2 hz2 hl2);generalize Sk.cAt C A[0]=l0 at HP0  ⊢;generalize (Sk.cAt C A[1]).getD 0 0=v1 at HP1 ⊢;generalize (Sk.cAt C A[2]).getD 0 0=v2 at HP2 ⊢;clear hr hC hC2 hA hz0 hz1 hz2 hl1 hl2 h0 h1 h2;go_enter Tryz.func70,Tryz.ntmps70;go_upto_region 1 with fail;obtain ⟨w1,hw1⟩:=nmQ (w.alloc (.cells #[.pointer (some ⟨rb,0,none⟩),.int .i64 9,.int .i64 K,.int .i64 out,.int .i64 n,.slice aA nA cA,.slice aE nE cE] 110 (0,0)));rw [<-hw1] at b1 kM HRW HCC HAA ⊢;have yM:w.heap.size<w1.heap.size:=zG kM;clear hw1;have B1:Below w1.heap.size w1 w1:=Below.refl _ _;have m0:=coQ kM 0;have m1:=coQ kM 1;have m2:=coQ kM 2;have m3:=coQ kM 3;have m4:=coQ kM 4;have m5:=coQ kM 5;have m6:=coQ kM 6;simp at m0 m1 m2 m3 m4 m5 m6;go_upto_region 19 with fail;refine zK (fun w'=>Below w1.heap.size w1 w') (fun _=>false) (by kernel_rfl) ?_;have hH0:Below w1.heap.size w1 w1.drew:=(Below.refl _ _).drew;generalize w1.drew=wd0 at hH0 ⊢;refine' tkQ 0 52 hH0 ?hyv ?o7
 case hyv=>
  intro wz hSw;have zc0:=(hSw.cell (p:=⟨w.heap.size,0,none⟩) yM).trans m0;have zc1:=(hSw.cell (p:=⟨w.heap.size,1,none⟩) yM).trans m1;have zc2:=(hSw.cell (p:=⟨w.heap.size,2,none⟩) yM).trans m2;have zc3:=(hSw.cell (p:=⟨w.heap.size,3,none⟩) yM).trans m3;have zc4:=(hSw.cell (p:=⟨w.heap.size,4,none⟩) yM).trans m4;have zc5:=(hSw.cell (p:=⟨w.heap.size,5,none⟩) yM).trans m5;have zc6:=(hSw.cell (p:=⟨w.heap.size,6,none⟩) yM).trans m6;go_simp
  try rfl
 try simp only [Act.put,sT,sZ,sS]
 refine' tkQ 2 54 hH0 ?hyv ?o8
 case hyv=>
  intro wz hSw;have zc0:=(hSw.cell (p:=⟨w.heap.size,0,none⟩) yM).trans m0;have zc1:=(hSw.cell (p:=⟨w.heap.size,1,none⟩) yM).trans m1;have zc2:=(hSw.cell (p:=⟨w.heap.size,2,none⟩) yM).trans m2;have zc3:=(hSw.cell (p:=⟨w.heap.size,3,none⟩) yM).trans m3;have zc4:=(hSw.cell (p:=⟨w.heap.size,4,none⟩) yM).trans m4;have zc5:=(hSw.cell (p:=⟨w.heap.size,5,none⟩) yM).trans m5;have zc6:=(hSw.cell (p:=⟨w.heap.size,6,none⟩) yM).trans m6;go_simp
  try rfl
 try simp only [Act.put,sT,sZ,sS]
 refine' tkQ 4 56 hH0 ?hyv ?o9
 case hyv=>
  intro wz hSw;have zc0:=(hSw.cell (p:=⟨w.heap.size,0,none⟩) yM).trans m0;have zc1:=(hSw.cell (p:=⟨w.heap.size,1,none⟩) yM).trans m1;have zc2:=(hSw.cell (p:=⟨w.heap.size,2,none⟩) yM).trans m2;have zc3:=(hSw.cell (p:=⟨w.heap.size,3,none⟩) yM).trans m3;have zc4:=(hSw.cell (p:=⟨w.heap.size,4,none⟩) yM).trans m4;have zc5:=(hSw.cell (p:=⟨w.heap.size,5,none⟩) yM).trans m5;have zc6:=(hSw.cell (p:=⟨w.heap.size,6,none⟩) yM).trans m6;go_simp
  try rfl
 try simp only [Act.put,sT,sZ,sS]
 refine tnQ 1 (fun K hK=>?_);go_simp;refine (HP0.out wd0 (HRW.out.under hH0) (HCC.out.keep hH0.size (fun i hi _=>hH0.block i (Nat.lt_trans hi yM))) (HAA.out.under hH0)).mono ?_;rintro eq wd1 ⟨p0,q0,c0,rfl,hu0,bq1⟩;have hH1:Below w1.heap.size w1 wd1:=hH0.trans (bq1.mono hH0.size)
 replace hu0:=zD hu0
 refine hK.out _ _ (fun _=>hH1) ?_;clear hK K
 try simp only [Act.put,sT,sZ,sS]
 refine tnQ 3 (fun K hK=>?_);go_simp;refine (HP1.out wd1 (HRW.out.under hH1) (HCC.out.keep hH1.size (fun i hi _=>hH1.block i (Nat.lt_trans hi yM))) (HAA.out.under hH1)).mono ?_;rintro eq wd2 ⟨rfl,bq2⟩;have hH2:Below w1.heap.size w1 wd2:=hH1.trans (bq2.mono hH1.size);refine hK.out _ _ (fun _=>hH2) ?_;clear hK K
 try simp only [Act.put,sT,sZ,sS]
 refine tnQ 5 (fun K hK=>?_);go_simp;refine (HP2.out wd2 (HRW.out.under hH2) (HCC.out.keep hH2.size (fun i hi _=>hH2.block i (Nat.lt_trans hi yM))) (HAA.out.under hH2)).mono ?_;rintro eq wd3 ⟨rfl,bq3⟩;have hH3:Below w1.heap.size w1 wd3:=hH2.trans (bq3.mono hH2.size);refine hK.out _ _ (fun _=>hH3) ?_;clear hK K
 try simp only [Act.put,sT,sZ,sS]
 refine tnQ 6 (fun K hK=>?_);go_simp;refine (zAe (ik hu0.out hH0 hH3 yM) v1 v2).mono ?_;rintro eq wd4 ⟨rfl,bq4⟩;have hH4:Below w1.heap.size w1 wd4:=hH3.trans (bq4.mono hH3.size);refine hK.out _ _ (fun _=>hH4) ?_;clear hK K
 try simp only [Act.put,sT,sZ,sS]
 refine tnQ 7 (fun K hK=>?_);go_simp;refine (qI _ _).mono ?_;rintro eq wd5 ⟨rfl,hw5⟩;have hH5:Below w1.heap.size w1 wd5:=(by rw [hw5];exact hH4.alloc hH4.size _);refine hK.out _ _ (fun _=>hH5) ?_;clear hK K
 try simp only [Act.put,sT,sZ,sS]
 refine' tkR 8 2 hH5 ?o10
 refine zJ (by kernel_rfl) ?_ _;have HEND:=zD (show Tells w wd5 (.func (.func 126) #[] #[.pointer (some ⟨wd4.heap.size,0,none⟩)]) (fun _=>Sk.cellAt l0 v1 v2) N/\Below w.heap.size w wd5 from ⟨xV (by rw [hw5];exact zH _ _),b1.trans (hH5.mono b1.size)⟩);clear hw5 m0 m1 m2 m3 m4 m5 m6 kM;go_wp2;go_ret;exact ⟨_,rfl,HEND.out.1,HEND.out.2⟩
theorem cellJ_any {w:World} {rb:Nat} {K out n:Int} {aA aE:Option Addr} {nA cA nE cE:Nat}  {ok okA:Nat->Prop} {x:WkV} {vC vA:Value} {C:List (List Int)} {A:List Int} (hr:RowAt w rb x vC vA) (hC:HRow kLL ok w vC C) (hA:HInts okA w (.slice aA nA cA) A) (h0:0<A.length) (h1:1<A.length) (h2:2<A.length) (hz0:0<=A[0]/\A[0]<C.length) (hz1:0<=A[1]/\A[1]<C.length) (hz2:0<=A[2]/\A[2]<C.length) (hl1:0<(Sk.cAt C A[1]).length) (hl2:0<(Sk.cAt C A[2]).length) {N:Nat} (hN:N<=(Sk.cAt C A[0]).length):Calls Tryz.prog 70 #[.agg #[.pointer (some ⟨rb,0,none⟩),.int .i64 10,.int .i64 K,.int .i64 out,.int .i64 n,.slice aA nA cA,.slice aE nE cE]] w fun e w'=>CellPost w w' e (fun k=>if (k:Int)=(Sk.cAt C A[1]).getD 0 0 then (Sk.cAt C A[2]).getD 0 0 else (Sk.cAt C A[0]).getD k 0) N:=by
 have b1:Below w.heap.size w (w.alloc (.cells #[.pointer (some ⟨rb,0,none⟩),.int .i64 10,.int .i64 K,.int .i64 out,.int .i64 n,.slice aA nA cA,.slice aE nE cE] 110 (0,0))):=(Below.refl _ _).alloc zL _;have kM:=zH w (.cells #[.pointer (some ⟨rb,0,none⟩),.int .i64 10,.int .i64 K,.int .i64 out,.int .i64 n,.slice aA nA cA,.slice aE nE cE] 110 (0,0));have hct:=cellWith_any (op:=10) (K:=K) (out:=out) (n:=n) (aE:=aE) (nE:=nE) (cE:=cE) (hr.under b1) ((hC.wide (ok':=fun i=>i<w.heap.size) fun i _ hl=>hl).keep b1.size (fun i _ h=>b1.block i h)) (hA.under b1) h0 h1 h2 hz0 hz1 hz2 hl1 hl2;generalize Sk.cAt C A[0]=l0 at hct hN ⊢;generalize (Sk.cAt C A[1]).getD 0 0=v1 at hct ⊢;generalize (Sk.cAt C A[2]).getD 0 0=v2 at hct ⊢;have HCT:=zD hct;have HhN:=zD hN;clear hct hN hr hC hA h0 h1 h2 hz0 hz1 hz2 hl1 hl2;go_enter Tryz.func70,Tryz.ntmps70;go_upto_region 1 with fail;generalize w.alloc (.cells #[.pointer (some ⟨rb,0,none⟩),.int .i64 10,.int .i64 K,.int .i64 out,.int .i64 n,.slice aA nA cA,.slice aE nE cE] 110 (0,0))=w1 at b1 kM HCT ⊢;have m0:=coQ kM 0;have m1:=coQ kM 1;have m2:=coQ kM 2;have m3:=coQ kM 3;have m4:=coQ kM 4;have m5:=coQ kM 5;have m6:=coQ kM 6;simp at m0 m1 m2 m3 m4 m5 m6;go_wp2_with fail;refine HCT.out.mono ?_;rintro e w2 ⟨pb,ob,nb,u,rfl,k1,k2,⟨k3,hu⟩,b2⟩;have HEND:=zD (show Tells w w2 (.func (.func 131) #[] #[.pointer (some ⟨pb,0,none⟩),.pointer (some ⟨ob,0,none⟩),.pointer (some ⟨nb,0,none⟩)]) (fun k=>if (k:Int)=v1 then v2 else l0.getD k 0) N/\Below w.heap.size w w2 from ⟨Tells.of eg131 fun k W hk hb=>zAw ((hb.block _ (zG k1)).trans k1) ((hb.block _ (zG k2)).trans k2) ((hb.block _ (zG k3)).trans k3) (xN hu hb b2.size) k (Nat.lt_of_lt_of_le hk HhN.out),b1.trans (b2.mono b1.size)⟩);clear k1 k2 k3 hu m0 m1 m2 m3 m4 m5 m6 kM HCT;go_wp2;go_ret;exact ⟨_,rfl,HEND.out.1,HEND.out.2⟩
theorem cellL_any {w:World} {rb:Nat} {K out n:Int} {aA aE:Option Addr} {nA cA nE cE:Nat}  {ok okA:Nat->Prop} {x:WkV} {vC vA:Value} {C:List (List Int)} {A:List Int} (hr:RowAt w rb x vC vA) (hC:HRow kLL ok w vC C) (hA:HInts okA w (.slice aA nA cA) A) (h0:0<A.length) (h1:1<A.length) (hz0:0<=A[0]/\A[0]<C.length) (hz1:0<=A[1]/\A[1]<C.length) {N:Nat} (hN:N<=(Sk.cAt C A[0]).length+(Sk.cAt C A[1]).length) (hM:(Sk.cAt C A[0]).length<=300) (hK:N<=1000):Calls Tryz.prog 70 #[.agg #[.pointer (some ⟨rb,0,none⟩),.int .i64 12,.int .i64 K,.int .i64 out,.int .i64 n,.slice aA nA cA,.slice aE nE cE]] w fun e w'=>CellPost w w' e (fun k=>if k<(Sk.cAt C A[0]).length then (Sk.cAt C A[0]).getD k 0 else (Sk.cAt C A[1]).getD (k-(Sk.cAt C A[0]).length) 0) N:=by
 have b1:Below w.heap.size w (w.alloc (.cells #[.pointer (some ⟨rb,0,none⟩),.int .i64 12,.int .i64 K,.int .i64 out,.int .i64 n,.slice aA nA cA,.slice aE nE cE] 110 (0,0))):=(Below.refl _ _).alloc zL _;have kM:=zH w (.cells #[.pointer (some ⟨rb,0,none⟩),.int .i64 12,.int .i64 K,.int .i64 out,.int .i64 n,.slice aA nA cA,.slice aE nE cE] 110 (0,0));have hct:=zAi (op:=12) (K:=K) (out:=out) (n:=n) (aE:=aE) (nE:=nE) (cE:=cE) (hr.under b1) ((hC.wide (ok':=fun i=>i<w.heap.size) fun i _ hl=>hl).keep b1.size (fun i _ h=>b1.block i h)) (hA.under b1) h0 h1 hz0 hz1;generalize Sk.cAt C A[0]=l0 at hct hN hM ⊢;generalize Sk.cAt C A[1]=l1 at hct hN ⊢;have HCT:=zD hct;have HhN:=zD hN;have HhM:=zD hM;have HhK:=zD hK;clear hct hN hM hK hr hC hA h0 h1 hz0 hz1;go_enter Tryz.func70,Tryz.ntmps70;go_upto_region 1 with fail;generalize w.alloc (.cells #[.pointer (some ⟨rb,0,none⟩),.int .i64 12,.int .i64 K,.int .i64 out,.int .i64 n,.slice aA nA cA,.slice aE nE cE] 110 (0,0))=w1 at b1 kM HCT ⊢;have m0:=coQ kM 0;have m1:=coQ kM 1;have m2:=coQ kM 2;have m3:=coQ kM 3;have m4:=coQ kM 4;have m5:=coQ kM 5;have m6:=coQ kM 6;simp at m0 m1 m2 m3 m4 m5 m6;go_wp2_with fail;refine HCT.out.mono ?_;rintro e w2 ⟨nb,mb,u,v,rfl,⟨k1,hu⟩,⟨k2,hv⟩,b2⟩;have HEND:=zD (show Tells w w2 (.func (.func 132) #[] #[.pointer (some ⟨nb,0,none⟩),.pointer (some ⟨mb,0,none⟩)]) (fun k=>if k<l0.length then l0.getD k 0 else l1.getD (k-l0.length) 0) N/\Below w.heap.size w w2 from ⟨Tells.of eg132 fun k W hk hb=>zAL ((hb.block _ (zG k1)).trans k1) (xN hu hb b2.size) ((hb.block _ (zG k2)).trans k2) (xN hv hb b2.size) HhM.out k (by have:=HhN.out;omega) (by have:=HhK.out;omega),b1.trans (b2.mono b1.size)⟩);clear k1 k2 hu hv m0 m1 m2 m3 m4 m5 m6 kM HCT;go_wp2;go_ret;exact ⟨_,rfl,HEND.out.1,HEND.out.2⟩
end Go.Proofs.YtnhmcpnbaajjcaaGreatDoor
