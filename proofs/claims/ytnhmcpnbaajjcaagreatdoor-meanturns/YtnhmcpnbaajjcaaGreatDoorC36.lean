import Derived.Test.YtnhmcpnbaajjcaaGreatDoorC35
import Derived.Deep.Cut
import Derived.Deep.LoopGhost
import Derived.Ground.NamesProg
import Derived.IntWalk
import Derived.Laws.Cover1
import Derived.Laws.EntriesVeiled
import Derived.Laws.Externs
import Derived.Lib.Hide
import Derived.Lib.MakeNoZero
import Derived.Lib.SlBuf
import Derived.Shelf.Bytes.SlSmallAll
import Derived.Shelf.Lay
import Derived.WalkKit
import Derived.WalkSpells
set_option linter.unusedVariables false
set_option linter.unusedSimpArgs false
set_option maxHeartbeats 64000000
set_option maxRecDepth 100000
namespace Go.Proofs.YtnhmcpnbaajjcaaGreatDoor
open Go.RowKit Go.IntWalk
theorem ik {b:Nat} {w1 wd wF:World} {u:Value} {l:List Int} (h:HInts (fun i=>i<b) wd u l) (h1:Below w1.heap.size w1 wd) (h2:Below w1.heap.size w1 wF) (hb:b<w1.heap.size):HInts (fun i=>i<b) wF u l:=by
 obtain ⟨C,⟨ao,cap,hv,g2,g3,g4⟩,hC⟩:=h;refine ⟨C,⟨ao,cap,hv,g2,g3,fun h0=>?_⟩,hC⟩;obtain ⟨b',o,rfl,hb',hbl,hcells⟩:=g4 h0;have hs:=h2.size;have hb2:b'<w1.heap.size:=Nat.lt_trans hb' hb;exact ⟨b',o,rfl,hb',Nat.lt_of_lt_of_le hb2 hs,fun i hi=>⟨(hcells i hi).1,fun j hj=>((h2.cell (p:=⟨b',_,none⟩) hb2).trans (h1.cell (p:=⟨b',_,none⟩) hb2).symm).trans ((hcells i hi).2 j hj)⟩⟩
theorem zAi {w:World} {rb:Nat} {op K out n:Int} {aA aE:Option Addr} {nA cA nE cE:Nat} {ok okA:Nat->Prop} {x:WkV} {vC vA:Value} {C:List (List Int)} {A:List Int} (hr:RowAt w rb x vC vA) (hC:HRow kLL ok w vC C) (hA:HInts okA w (.slice aA nA cA) A) (h0:0<A.length) (h1:1<A.length) (hz0:0<=A[0]/\A[0]<C.length) (hz1:0<=A[1]/\A[1]<C.length) :
  Calls Tryz.prog 108 #[.agg #[.pointer (some ⟨rb,0,none⟩),.int .i64 op,.int .i64 K,.int .i64 out,.int .i64 n,.slice aA nA cA,.slice aE nE cE]] w fun e w'=>∃ (nb mb:Nat) (u v:Value),e=.returned (.func (.func 132) #[] #[.pointer (some ⟨nb,0,none⟩),.pointer (some ⟨mb,0,none⟩)])/\(w'.heap[nb]?=some (.cells #[u] 52 (0,0))/\HInts (fun i=>i<w.heap.size) w' u (Sk.cAt C A[0]))/\(w'.heap[mb]?=some (.cells #[v] 52 (0,0))/\HInts (fun i=>i<w.heap.size) w' v (Sk.cAt C A[1]))/\Below w.heap.size w w':=by
 have b1:Below w.heap.size w (w.alloc (.cells #[.pointer (some ⟨rb,0,none⟩),.int .i64 op,.int .i64 K,.int .i64 out,.int .i64 n,.slice aA nA cA,.slice aE nE cE] 110 (0,0))):=(Below.refl _ _).alloc zL _;have kM:=zH w (.cells #[.pointer (some ⟨rb,0,none⟩),.int .i64 op,.int .i64 K,.int .i64 out,.int .i64 n,.slice aA nA cA,.slice aE nE cE] 110 (0,0));have hC2:=hC.wide (ok':=fun i=>i<w.heap.size) fun i _ hl=>hl;have HRW:=zD (hr.under b1);have HCC:=zD (hC2.keep b1.size (fun i _ h=>b1.block i h));have HAA:=zD (hA.under b1);have HP0:=zD (fun (W:World) (hr:RowAt W rb x vC vA) (hC:HRow kLL (fun i=>i<w.heap.size) W vC C) (hA:HInts okA W (.slice aA nA cA) A)=>xB (op:=op) (k:=K) (out:=out) (n:=n) (aE:=aE) (nE:=nE) (cE:=cE) hr hC hA 0 h0 hz0);generalize Sk.cAt C A[0]=l0 at HP0 ⊢;have HP1:=zD (fun (W:World) (hr:RowAt W rb x vC vA) (hC:HRow kLL (fun i=>i<w.heap.size) W vC C) (hA:HInts okA W (.slice aA nA cA) A)=>xB (op:=op) (k:=K) (out:=out) (n:=n) (aE:=aE) (nE:=nE) (cE:=cE) hr hC hA 1 h1 hz1);generalize Sk.cAt C A[1]=l1 at HP1 ⊢;clear hr hC hC2 hA hz0 hz1;go_enter Tryz.func108,Tryz.ntmps108;go_upto_region 1 with fail;obtain ⟨w1,hw1⟩:=nmQ (w.alloc (.cells #[.pointer (some ⟨rb,0,none⟩),.int .i64 op,.int .i64 K,.int .i64 out,.int .i64 n,.slice aA nA cA,.slice aE nE cE] 110 (0,0)));rw [<-hw1] at b1 kM HRW HCC HAA ⊢;have yM:w.heap.size<w1.heap.size:=zG kM;clear hw1;have m0:=coQ kM 0;have m1:=coQ kM 1;have m2:=coQ kM 2;have m3:=coQ kM 3;have m4:=coQ kM 4;have m5:=coQ kM 5;have m6:=coQ kM 6;simp at m0 m1 m2 m3 m4 m5 m6;clear h0 h1;refine zK (fun w'=>Below w1.heap.size w1 w') (fun _=>false) (by kernel_rfl) ?_;have hH0:Below w1.heap.size w1 w1.drew:=(Below.refl _ _).drew;generalize w1.drew=wd0 at hH0 ⊢;refine' tkQ 0 5 hH0 ?hyv ?o1
 case hyv=>
  intro wz hSw;have zc0:=(hSw.cell (p:=⟨w.heap.size,0,none⟩) yM).trans m0;have zc1:=(hSw.cell (p:=⟨w.heap.size,1,none⟩) yM).trans m1;have zc2:=(hSw.cell (p:=⟨w.heap.size,2,none⟩) yM).trans m2;have zc3:=(hSw.cell (p:=⟨w.heap.size,3,none⟩) yM).trans m3;have zc4:=(hSw.cell (p:=⟨w.heap.size,4,none⟩) yM).trans m4;have zc5:=(hSw.cell (p:=⟨w.heap.size,5,none⟩) yM).trans m5;have zc6:=(hSw.cell (p:=⟨w.heap.size,6,none⟩) yM).trans m6;go_simp
  try rfl
 try simp only [Act.put,sT,sZ,sS]
 refine' tkQ 2 7 hH0 ?hyv ?o2
 case hyv=>
  intro wz hSw;have zc0:=(hSw.cell (p:=⟨w.heap.size,0,none⟩) yM).trans m0;have zc1:=(hSw.cell (p:=⟨w.heap.size,1,none⟩) yM).trans m1;have zc2:=(hSw.cell (p:=⟨w.heap.size,2,none⟩) yM).trans m2;have zc3:=(hSw.cell (p:=⟨w.heap.size,3,none⟩) yM).trans m3;have zc4:=(hSw.cell (p:=⟨w.heap.size,4,none⟩) yM).trans m4;have zc5:=(hSw.cell (p:=⟨w.heap.size,5,none⟩) yM).trans m5;have zc6:=(hSw.cell (p:=⟨w.heap.size,6,none⟩) yM).trans m6;go_simp
  try rfl
 try simp only [Act.put,sT,sZ,sS]
 refine qX (fun a0 D a V=>∃ t1 t3 t4 t5:Value,a=((((a0.put (some 6) t1).put (some 8) t3).put (some 3) t4).put (some 4) t5)/\Below w1.heap.size w1 V/\(D 0=true/\D 2=true)/\(D 1=true->SlI w.heap.size V t1 l0)/\(D 3=true->SlI w.heap.size V t3 l1)/\(D 4=true->Blk V w1.heap.size t4 52 (if D 6=true then t1 else .slice none 0 0))/\(D 5=true->Blk V w1.heap.size t5 52 (if D 7=true then t3 else .slice none 0 0))/\(D 4=true->D 5=true->t4≠t5)/\(D 6=true->D 4=true)/\(D 7=true->D 5=true)/\(D 6=true->D 1=true)/\(D 7=true->D 3=true)) [0,1,2,3,4,5,6,7] rfl (by kernel_rfl) (by kernel_rfl) (by kernel_rfl) ?start ?stays ?steps ?ends
 case start=>exact ⟨_,_,_,_,rfl,hH0,⟨rfl,rfl⟩,fun h=>absurd h (by decide),fun h=>absurd h (by decide),fun h=>absurd h (by decide),fun h=>absurd h (by decide),fun h=>absurd h (by decide),fun h=>absurd h (by decide),fun h=>absurd h (by decide),fun h=>absurd h (by decide),fun h=>absurd h (by decide)⟩
 case stays=>exact fun D a V h=>by obtain ⟨t1,t3,t4,t5,-,h,-⟩:=h;exact h
 case steps=>
  refine Keeps.skip (fun D a V hI=>by obtain ⟨t1,t3,t4,t5,-,hB,hT,c1,c3,b4,b5,n4_5,u6,u7,x6,x7⟩:=hI;exact hT.1) ?_;refine Keeps.cons (o:=_) [0] rfl rfl (by kernel_rfl) ?step1 ?_
  case step1=>
   intro D a wd hI hD hw K hK;obtain ⟨t1,t3,t4,t5,ea,hB,hT,c1,c3,b4,b5,n4_5,u6,u7,x6,x7⟩:=hI;clear hw
   replace hT:=zD hT
   replace c1:=zD c1
   replace c3:=zD c3
   replace b4:=zD b4
   replace b5:=zD b5
   replace n4_5:=zD n4_5
   replace u6:=zD u6
   replace u7:=zD u7
   replace x6:=zD x6
   replace x7:=zD x7
   have hs4:=zD (show D 6=false from Bool.eq_false_iff.2 (fun h=>by rw [x6.out h] at hD;cases hD));clear hD;subst ea
   try simp only [Act.put,sT,sZ,sS]
   go_simp;refine (HP0.out wd (HRW.out.under hB) (HCC.out.keep hB.size (fun i hi _=>hB.block i (Nat.lt_trans hi yM))) (HAA.out.under hB)).mono ?_;rintro eq wn ⟨p,q,c,rfl,hu,bq⟩;have hn:Below w1.heap.size w1 wn:=hB.trans (bq.mono hB.size);refine hK.out _ _ ?_;exact ⟨_,t3,t4,t5,rfl,hn,hT.out,fun _=>SlI.keep ⟨⟨_,_,_,rfl⟩,hu⟩ (bq.mono hB.size) (Nat.le_of_lt yM),fun h=>(c3.out h).keep (bq.mono hB.size) (Nat.le_of_lt yM),fun h=>Blk.off ((b4.out h).grow bq) hs4.out hs4.out,fun h=>(b5.out h).grow bq,n4_5.out,u6.out,u7.out,fun _=>rfl,x7.out⟩
  refine Keeps.skip (fun D a V hI=>by obtain ⟨t1,t3,t4,t5,-,hB,hT,c1,c3,b4,b5,n4_5,u6,u7,x6,x7⟩:=hI;exact hT.2) ?_;refine Keeps.cons (o:=_) [2,1] rfl rfl (by kernel_rfl) ?step3 ?_
  case step3=>
   intro D a wd hI hD hw K hK;obtain ⟨t1,t3,t4,t5,ea,hB,hT,c1,c3,b4,b5,n4_5,u6,u7,x6,x7⟩:=hI;have d1:=zD (hw 1 (by simp));clear hw
   replace hT:=zD hT
   replace c1:=zD c1
   replace c3:=zD c3
   replace b4:=zD b4
   replace b5:=zD b5
   replace n4_5:=zD n4_5
   replace u6:=zD u6
   replace u7:=zD u7
   replace x6:=zD x6
   replace x7:=zD x7
   have hs5:=zD (show D 7=false from Bool.eq_false_iff.2 (fun h=>by rw [x7.out h] at hD;cases hD));clear hD;subst ea
   try simp only [Act.put,sT,sZ,sS]
   go_simp;refine (HP1.out wd (HRW.out.under hB) (HCC.out.keep hB.size (fun i hi _=>hB.block i (Nat.lt_trans hi yM))) (HAA.out.under hB)).mono ?_;rintro eq wn ⟨p,q,c,rfl,hu,bq⟩;have hn:Below w1.heap.size w1 wn:=hB.trans (bq.mono hB.size);refine hK.out _ _ ?_;exact ⟨t1,_,t4,t5,rfl,hn,hT.out,fun h=>(c1.out h).keep (bq.mono hB.size) (Nat.le_of_lt yM),fun _=>SlI.keep ⟨⟨_,_,_,rfl⟩,hu⟩ (bq.mono hB.size) (Nat.le_of_lt yM),fun h=>(b4.out h).grow bq,fun h=>Blk.off ((b5.out h).grow bq) hs5.out hs5.out,n4_5.out,u6.out,u7.out,x6.out,fun _=>rfl⟩
  refine Keeps.cons (o:=_) [] rfl rfl (by kernel_rfl) ?step4 ?_
  case step4=>
   intro D a wd hI hD hw K hK;obtain ⟨t1,t3,t4,t5,ea,hB,hT,c1,c3,b4,b5,n4_5,u6,u7,x6,x7⟩:=hI;clear hw
   replace hT:=zD hT
   replace c1:=zD c1
   replace c3:=zD c3
   replace b4:=zD b4
   replace b5:=zD b5
   replace n4_5:=zD n4_5
   replace u6:=zD u6
   replace u7:=zD u7
   replace x6:=zD x6
   replace x7:=zD x7
   have bq:Below wd.heap.size wd (wd.alloc (.cells #[.slice none 0 0] 52 (0,0))):=(Below.refl _ _).alloc zL _;have hn:=hB.trans (bq.mono hB.size);have nb:=zD (Blk.new (w:=wd) (B:=w1.heap.size) hB.size (.slice none 0 0) 52)
   replace bq:=zD bq
   replace hn:=zD hn
   have hs4:=zD (show D 6=false from Bool.eq_false_iff.2 (fun h=>by rw [u6.out h] at hD;cases hD));clear hD;subst ea
   try simp only [Act.put,sT,sZ,sS]
   go_simp;refine hK.out _ _ ?_;exact ⟨t1,t3,_,t5,rfl,hn.out,hT.out,fun h=>(c1.out h).keep (bq.out.mono hB.size) (Nat.le_of_lt yM),fun h=>(c3.out h).keep (bq.out.mono hB.size) (Nat.le_of_lt yM),fun _=>by have e:also D 4 6=false:=hs4.out;rw [e];exact nb.out,fun h=>(b5.out h).grow bq.out,fun _ h=>fun e=>(b5.out h).ne_new e.symm,fun _=>rfl,u7.out,x6.out,x7.out⟩
  refine Keeps.cons (o:=_) [] rfl rfl (by kernel_rfl) ?step5 ?_
  case step5=>
   intro D a wd hI hD hw K hK;obtain ⟨t1,t3,t4,t5,ea,hB,hT,c1,c3,b4,b5,n4_5,u6,u7,x6,x7⟩:=hI;clear hw
   replace hT:=zD hT
   replace c1:=zD c1
   replace c3:=zD c3
   replace b4:=zD b4
   replace b5:=zD b5
   replace n4_5:=zD n4_5
   replace u6:=zD u6
   replace u7:=zD u7
   replace x6:=zD x6
   replace x7:=zD x7
   have bq:Below wd.heap.size wd (wd.alloc (.cells #[.slice none 0 0] 52 (0,0))):=(Below.refl _ _).alloc zL _;have hn:=hB.trans (bq.mono hB.size);have nb:=zD (Blk.new (w:=wd) (B:=w1.heap.size) hB.size (.slice none 0 0) 52)
   replace bq:=zD bq
   replace hn:=zD hn
   have hs5:=zD (show D 7=false from Bool.eq_false_iff.2 (fun h=>by rw [u7.out h] at hD;cases hD));clear hD;subst ea
   try simp only [Act.put,sT,sZ,sS]
   go_simp;refine hK.out _ _ ?_;exact ⟨t1,t3,t4,_,rfl,hn.out,hT.out,fun h=>(c1.out h).keep (bq.out.mono hB.size) (Nat.le_of_lt yM),fun h=>(c3.out h).keep (bq.out.mono hB.size) (Nat.le_of_lt yM),fun h=>(b4.out h).grow bq.out,fun _=>by have e:also D 5 7=false:=hs5.out;rw [e];exact nb.out,fun h _=>(b4.out h).ne_new,u6.out,fun _=>rfl,x6.out,x7.out⟩
  refine Keeps.cons (o:=_) [4,1,3,0,1,4,5] rfl rfl (by kernel_rfl) ?step6 ?_
  case step6=>
   intro D a wd hI hD hw K hK;obtain ⟨t1,t3,t4,t5,ea,hB,hT,c1,c3,b4,b5,n4_5,u6,u7,x6,x7⟩:=hI;have d4:=zD (hw 4 (by simp));have d1:=zD (hw 1 (by simp));have d3:=zD (hw 3 (by simp));have d5:=zD (hw 5 (by simp));clear hw
   replace hT:=zD hT
   replace c1:=zD c1
   replace c3:=zD c3
   replace b4:=zD b4
   replace b5:=zD b5
   replace n4_5:=zD n4_5
   replace u6:=zD u6
   replace u7:=zD u7
   replace x6:=zD x6
   replace x7:=zD x7
   have hx:=b4.out d4.out;unfold Blk at hx;obtain ⟨b,e,hb,kb⟩:=hx;subst e;simp only [hD,Bool.false_eq_true,if_false] at kb;have st0:=coQ kb 0;have fr0:=foQ kb 0;simp at st0;have ck:=c1.out d1.out;unfold SlI at ck;obtain ⟨⟨p,q,c,et⟩,hu⟩:=ck;subst et;have hst:Below w1.heap.size wd (wd.setCell ⟨b,0,none⟩ (.slice p q c)):=(Below.refl _ _).setCell (p:=⟨b,0,none⟩) hb (.slice p q c);have hn:=hB.trans hst;have nb:=zD (Blk.set (B:=w1.heap.size) hb kb (.slice p q c))
   replace hst:=zD hst
   replace hn:=zD hn
   clear kb;clear hD;subst ea
   try simp only [Act.put,sT,sZ,sS]
   go_simp;refine hK.out _ _ ?_;exact ⟨_,t3,_,t5,rfl,hn.out,hT.out,fun h=>(c1.out h).keep hst.out (Nat.le_of_lt yM),fun h=>(c3.out h).keep hst.out (Nat.le_of_lt yM),fun _=>by rw [if_pos (show also D 6 6=true from rfl)];exact nb.out,fun h=>(b5.out h).set_other (fun q=>n4_5.out d4.out h q.symm) _,n4_5.out,fun _=>d4.out,u7.out,fun _=>d1.out,x7.out⟩
  refine Keeps.cons (o:=_) [5,3,6,0,1,2,3,4,5,6] rfl rfl (by kernel_rfl) ?step7 ?_
  case step7=>
   intro D a wd hI hD hw K hK;obtain ⟨t1,t3,t4,t5,ea,hB,hT,c1,c3,b4,b5,n4_5,u6,u7,x6,x7⟩:=hI;have d5:=zD (hw 5 (by simp));have d3:=zD (hw 3 (by simp));have d6:=zD (hw 6 (by simp));have d1:=zD (hw 1 (by simp));have d4:=zD (hw 4 (by simp));clear hw
   replace hT:=zD hT
   replace c1:=zD c1
   replace c3:=zD c3
   replace b4:=zD b4
   replace b5:=zD b5
   replace n4_5:=zD n4_5
   replace u6:=zD u6
   replace u7:=zD u7
   replace x6:=zD x6
   replace x7:=zD x7
   have hx:=b5.out d5.out;unfold Blk at hx;obtain ⟨b,e,hb,kb⟩:=hx;subst e;simp only [hD,Bool.false_eq_true,if_false] at kb;have st0:=coQ kb 0;have fr0:=foQ kb 0;simp at st0;have ck:=c3.out d3.out;unfold SlI at ck;obtain ⟨⟨p,q,c,et⟩,hu⟩:=ck;subst et;have hst:Below w1.heap.size wd (wd.setCell ⟨b,0,none⟩ (.slice p q c)):=(Below.refl _ _).setCell (p:=⟨b,0,none⟩) hb (.slice p q c);have hn:=hB.trans hst;have nb:=zD (Blk.set (B:=w1.heap.size) hb kb (.slice p q c))
   replace hst:=zD hst
   replace hn:=zD hn
   clear kb;clear hD;subst ea
   try simp only [Act.put,sT,sZ,sS]
   go_simp;refine hK.out _ _ ?_;exact ⟨t1,_,t4,_,rfl,hn.out,hT.out,fun h=>(c1.out h).keep hst.out (Nat.le_of_lt yM),fun h=>(c3.out h).keep hst.out (Nat.le_of_lt yM),fun h=>(b4.out h).set_other (fun q=>n4_5.out h d5.out q) _,fun _=>by rw [if_pos (show also D 7 7=true from rfl)];exact nb.out,n4_5.out,u6.out,fun _=>d5.out,x6.out,fun _=>d3.out⟩
  exact Keeps.nil
 case ends=>
  intro D a wF hI hD;obtain ⟨t1,t3,t4,t5,ea,hB,hT,c1,c3,b4,b5,n4_5,u6,u7,x6,x7⟩:=hI
  replace c1:=c1 (hD 1)
  replace c3:=c3 (hD 3)
  replace b4:=b4 (hD 4)
  rw [if_pos (hD 6)] at b4
  replace b5:=b5 (hD 5)
  rw [if_pos (hD 7)] at b5;clear n4_5 u6 u7 x6 x7 hT hD;unfold Blk at b4;obtain ⟨x4,ex4,-,k4⟩:=b4;subst ex4;unfold Blk at b5;obtain ⟨x5,ex5,-,k5⟩:=b5;subst ex5;unfold SlI at c1;obtain ⟨⟨p,q,c,etc1⟩,g1⟩:=c1;subst etc1;unfold SlI at c3;obtain ⟨⟨p',q',c',etc3⟩,g3⟩:=c3;subst etc3;have HEND:=zD (And.intro k4 (And.intro g1 (And.intro k5 (And.intro g3 (b1.trans (hB.mono b1.size))))));clear k4 k5 g1 g3 m0 m1 m2 m3 m4 m5 m6 kM;subst ea
  try simp only [Act.put,sT,sZ,sS]
  go_wp2;go_ret;obtain ⟨e1,e2,e3,e4,e5⟩:=HEND.out;exact ⟨_,_,_,_,rfl,⟨e1,e2⟩,⟨e3,e4⟩,e5⟩
theorem cellWith_any {w:World} {rb:Nat} {op K out n:Int} {aA aE:Option Addr} {nA cA nE cE:Nat} {ok okA:Nat->Prop} {x:WkV} {vC vA:Value} {C:List (List Int)} {A:List Int} (hr:RowAt w rb x vC vA) (hC:HRow kLL ok w vC C) (hA:HInts okA w (.slice aA nA cA) A) (h0:0<A.length) (h1:1<A.length) (h2:2<A.length) (hz0:0<=A[0]/\A[0]<C.length) (hz1:0<=A[1]/\A[1]<C.length) (hz2:0<=A[2]/\A[2]<C.length) (hl1:0<(Sk.cAt C A[1]).length) (hl2:0<(Sk.cAt C A[2]).length) :
  Calls Tryz.prog 106 #[.agg #[.pointer (some ⟨rb,0,none⟩),.int .i64 op,.int .i64 K,.int .i64 out,.int .i64 n,.slice aA nA cA,.slice aE nE cE]] w fun e w'=>∃ (pb ob nb:Nat) (u:Value),e=.returned (.func (.func 131) #[] #[.pointer (some ⟨pb,0,none⟩),.pointer (some ⟨ob,0,none⟩),.pointer (some ⟨nb,0,none⟩)])/\w'.heap[pb]?=some (.cells #[.int .i64 ((Sk.cAt C A[1]).getD 0 0)] 2 (0,0))/\w'.heap[ob]?=some (.cells #[.int .i64 ((Sk.cAt C A[2]).getD 0 0)] 2 (0,0))/\(w'.heap[nb]?=some (.cells #[u] 52 (0,0))/\HInts (fun i=>i<w.heap.size) w' u (Sk.cAt C A[0]))/\Below w.heap.size w w':=by
 have b1:Below w.heap.size w (w.alloc (.cells #[.pointer (some ⟨rb,0,none⟩),.int .i64 op,.int .i64 K,.int .i64 out,.int .i64 n,.slice aA nA cA,.slice aE nE cE] 110 (0,0))):=(Below.refl _ _).alloc zL _;have kM:=zH w (.cells #[.pointer (some ⟨rb,0,none⟩),.int .i64 op,.int .i64 K,.int .i64 out,.int .i64 n,.slice aA nA cA,.slice aE nE cE] 110 (0,0));have hC2:=hC.wide (ok':=fun i=>i<w.heap.size) fun i _ hl=>hl;have HRW:=zD (hr.under b1);have HCC:=zD (hC2.keep b1.size (fun i _ h=>b1.block i h));have HAA:=zD (hA.under b1);have HP0:=zD (fun (W:World) (hr:RowAt W rb x vC vA) (hC:HRow kLL (fun i=>i<w.heap.size) W vC C) (hA:HInts okA W (.slice aA nA cA) A)=>xB (op:=op) (k:=K) (out:=out) (n:=n) (aE:=aE) (nE:=nE) (cE:=cE) hr hC hA 0 h0 hz0);generalize Sk.cAt C A[0]=l0 at HP0 ⊢;have HP1:=zD (fun (W:World) (hr:RowAt W rb x vC vA) (hC:HRow kLL (fun i=>i<w.heap.size) W vC C) (hA:HInts okA W (.slice aA nA cA) A)=>xM (op:=op) (k:=K) (out:=out) (n:=n) (aE:=aE) (nE:=nE) (cE:=cE) hr hC hA 1 h1 hz1 hl1);generalize (Sk.cAt C A[1]).getD 0 0=v1 at HP1 ⊢;have HP2:=zD (fun (W:World) (hr:RowAt W rb x vC vA) (hC:HRow kLL (fun i=>i<w.heap.size) W vC C) (hA:HInts okA W (.slice aA nA cA) A)=>xM (op:=op) (k:=K) (out:=out) (n:=n) (aE:=aE) (nE:=nE) (cE:=cE) hr hC hA 2 h2 hz2 hl2);generalize (Sk.cAt C A[2]).getD 0 0=v2 at HP2 ⊢;clear hr hC hC2 hA hz0 hz1 hz2 hl1 hl2;go_enter Tryz.func106,Tryz.ntmps106;go_upto_region 1 with fail;obtain ⟨w1,hw1⟩:=nmQ (w.alloc (.cells #[.pointer (some ⟨rb,0,none⟩),.int .i64 op,.int .i64 K,.int .i64 out,.int .i64 n,.slice aA nA cA,.slice aE nE cE] 110 (0,0)));rw [<-hw1] at b1 kM HRW HCC HAA ⊢;have yM:w.heap.size<w1.heap.size:=zG kM;clear hw1;have m0:=coQ kM 0;have m1:=coQ kM 1;have m2:=coQ kM 2;have m3:=coQ kM 3;have m4:=coQ kM 4;have m5:=coQ kM 5;have m6:=coQ kM 6;simp at m0 m1 m2 m3 m4 m5 m6;clear h0 h1 h2;refine zK (fun w'=>Below w1.heap.size w1 w') (fun _=>false) (by kernel_rfl) ?_;have hH0:Below w1.heap.size w1 w1.drew:=(Below.refl _ _).drew;generalize w1.drew=wd0 at hH0 ⊢;refine' tkQ 0 6 hH0 ?hyv ?o3
 case hyv=>
  intro wz hSw;have zc0:=(hSw.cell (p:=⟨w.heap.size,0,none⟩) yM).trans m0;have zc1:=(hSw.cell (p:=⟨w.heap.size,1,none⟩) yM).trans m1;have zc2:=(hSw.cell (p:=⟨w.heap.size,2,none⟩) yM).trans m2;have zc3:=(hSw.cell (p:=⟨w.heap.size,3,none⟩) yM).trans m3;have zc4:=(hSw.cell (p:=⟨w.heap.size,4,none⟩) yM).trans m4;have zc5:=(hSw.cell (p:=⟨w.heap.size,5,none⟩) yM).trans m5;have zc6:=(hSw.cell (p:=⟨w.heap.size,6,none⟩) yM).trans m6;go_simp
  try rfl
 try simp only [Act.put,sT,sZ,sS]
 refine' tkQ 2 8 hH0 ?hyv ?o4
 case hyv=>
  intro wz hSw;have zc0:=(hSw.cell (p:=⟨w.heap.size,0,none⟩) yM).trans m0;have zc1:=(hSw.cell (p:=⟨w.heap.size,1,none⟩) yM).trans m1;have zc2:=(hSw.cell (p:=⟨w.heap.size,2,none⟩) yM).trans m2;have zc3:=(hSw.cell (p:=⟨w.heap.size,3,none⟩) yM).trans m3;have zc4:=(hSw.cell (p:=⟨w.heap.size,4,none⟩) yM).trans m4;have zc5:=(hSw.cell (p:=⟨w.heap.size,5,none⟩) yM).trans m5;have zc6:=(hSw.cell (p:=⟨w.heap.size,6,none⟩) yM).trans m6;go_simp
  try rfl
 try simp only [Act.put,sT,sZ,sS]
 refine' tkQ 4 10 hH0 ?hyv ?o5
 case hyv=>
  intro wz hSw;have zc0:=(hSw.cell (p:=⟨w.heap.size,0,none⟩) yM).trans m0;have zc1:=(hSw.cell (p:=⟨w.heap.size,1,none⟩) yM).trans m1;have zc2:=(hSw.cell (p:=⟨w.heap.size,2,none⟩) yM).trans m2;have zc3:=(hSw.cell (p:=⟨w.heap.size,3,none⟩) yM).trans m3;have zc4:=(hSw.cell (p:=⟨w.heap.size,4,none⟩) yM).trans m4;have zc5:=(hSw.cell (p:=⟨w.heap.size,5,none⟩) yM).trans m5;have zc6:=(hSw.cell (p:=⟨w.heap.size,6,none⟩) yM).trans m6;go_simp
  try rfl
 try simp only [Act.put,sT,sZ,sS]
 refine qX (fun a0 D a V=>∃ t1 t3 t5 t6 t7 t8:Value,a=((((((a0.put (some 7) t1).put (some 9) t3).put (some 11) t5).put (some 3) t6).put (some 4) t7).put (some 5) t8)/\Below w1.heap.size w1 V/\(D 0=true/\D 2=true/\D 4=true)/\(D 1=true->SlI w.heap.size V t1 l0)/\(D 3=true->t3=.int .i64 v1)/\(D 5=true->t5=.int .i64 v2)/\(D 6=true->Blk V w1.heap.size t6 52 (if D 9=true then t1 else .slice none 0 0))/\(D 7=true->Blk V w1.heap.size t7 2 (if D 10=true then t3 else .int .i64 0))/\(D 8=true->Blk V w1.heap.size t8 2 (if D 11=true then t5 else .int .i64 0))/\(D 6=true->D 7=true->t6≠t7)/\(D 6=true->D 8=true->t6≠t8)/\(D 7=true->D 8=true->t7≠t8)/\(D 9=true->D 6=true)/\(D 10=true->D 7=true)/\(D 11=true->D 8=true)/\(D 9=true->D 1=true)/\(D 10=true->D 3=true)/\(D 11=true->D 5=true)) [0,1,2,3,4,5,6,7,8,9,10,11] rfl (by kernel_rfl) (by kernel_rfl) (by kernel_rfl) ?start ?stays ?steps ?ends
 case start=>exact ⟨_,_,_,_,_,_,rfl,hH0,⟨rfl,rfl,rfl⟩,fun h=>absurd h (by decide),fun h=>absurd h (by decide),fun h=>absurd h (by decide),fun h=>absurd h (by decide),fun h=>absurd h (by decide),fun h=>absurd h (by decide),fun h=>absurd h (by decide),fun h=>absurd h (by decide),fun h=>absurd h (by decide),fun h=>absurd h (by decide),fun h=>absurd h (by decide),fun h=>absurd h (by decide),fun h=>absurd h (by decide),fun h=>absurd h (by decide),fun h=>absurd h (by decide)⟩
 case stays=>exact fun D a V h=>by obtain ⟨t1,t3,t5,t6,t7,t8,-,h,-⟩:=h;exact h
 case steps=>
  refine Keeps.skip (fun D a V hI=>by obtain ⟨t1,t3,t5,t6,t7,t8,-,hB,hT,c1,c3,c5,b6,b7,b8,n6_7,n6_8,n7_8,u9,u10,u11,x9,x10,x11⟩:=hI;exact hT.1) ?_;refine Keeps.cons (o:=_) [0] rfl rfl (by kernel_rfl) ?step1 ?_
  case step1=>
   intro D a wd hI hD hw K hK;obtain ⟨t1,t3,t5,t6,t7,t8,ea,hB,hT,c1,c3,c5,b6,b7,b8,n6_7,n6_8,n7_8,u9,u10,u11,x9,x10,x11⟩:=hI;clear hw
   replace hT:=zD hT
   replace c1:=zD c1
   replace c3:=zD c3
   replace c5:=zD c5
   replace b6:=zD b6
   replace b7:=zD b7
   replace b8:=zD b8
   replace n6_7:=zD n6_7
   replace n6_8:=zD n6_8
   replace n7_8:=zD n7_8
   replace u9:=zD u9
   replace u10:=zD u10
   replace u11:=zD u11
   replace x9:=zD x9
   replace x10:=zD x10
   replace x11:=zD x11
   have hs6:=zD (show D 9=false from Bool.eq_false_iff.2 (fun h=>by rw [x9.out h] at hD;cases hD));clear hD;subst ea
   try simp only [Act.put,sT,sZ,sS]
   go_simp;refine (HP0.out wd (HRW.out.under hB) (HCC.out.keep hB.size (fun i hi _=>hB.block i (Nat.lt_trans hi yM))) (HAA.out.under hB)).mono ?_;rintro eq wn ⟨p,q,c,rfl,hu,bq⟩;have hn:Below w1.heap.size w1 wn:=hB.trans (bq.mono hB.size);refine hK.out _ _ ?_;exact ⟨_,t3,t5,t6,t7,t8,rfl,hn,hT.out,fun _=>SlI.keep ⟨⟨_,_,_,rfl⟩,hu⟩ (bq.mono hB.size) (Nat.le_of_lt yM),fun h=>(c3.out h),fun h=>(c5.out h),fun h=>Blk.off ((b6.out h).grow bq) hs6.out hs6.out,fun h=>(b7.out h).grow bq,fun h=>(b8.out h).grow bq,n6_7.out,n6_8.out,n7_8.out,u9.out,u10.out,u11.out,fun _=>rfl,x10.out,x11.out⟩
  refine Keeps.skip (fun D a V hI=>by obtain ⟨t1,t3,t5,t6,t7,t8,-,hB,hT,c1,c3,c5,b6,b7,b8,n6_7,n6_8,n7_8,u9,u10,u11,x9,x10,x11⟩:=hI;exact hT.2.1) ?_;refine Keeps.cons (o:=_) [2,1] rfl rfl (by kernel_rfl) ?step3 ?_
  case step3=>
   intro D a wd hI hD hw K hK;obtain ⟨t1,t3,t5,t6,t7,t8,ea,hB,hT,c1,c3,c5,b6,b7,b8,n6_7,n6_8,n7_8,u9,u10,u11,x9,x10,x11⟩:=hI;have d1:=zD (hw 1 (by simp));clear hw
   replace hT:=zD hT
   replace c1:=zD c1
   replace c3:=zD c3
   replace c5:=zD c5
   replace b6:=zD b6
   replace b7:=zD b7
   replace b8:=zD b8
   replace n6_7:=zD n6_7
   replace n6_8:=zD n6_8
   replace n7_8:=zD n7_8
   replace u9:=zD u9
   replace u10:=zD u10
   replace u11:=zD u11
   replace x9:=zD x9
   replace x10:=zD x10
   replace x11:=zD x11
   have hs7:=zD (show D 10=false from Bool.eq_false_iff.2 (fun h=>by rw [x10.out h] at hD;cases hD));clear hD;subst ea
   try simp only [Act.put,sT,sZ,sS]
   go_simp;refine (HP1.out wd (HRW.out.under hB) (HCC.out.keep hB.size (fun i hi _=>hB.block i (Nat.lt_trans hi yM))) (HAA.out.under hB)).mono ?_;rintro eq wn ⟨rfl,bq⟩;have hn:Below w1.heap.size w1 wn:=hB.trans (bq.mono hB.size);refine hK.out _ _ ?_;exact ⟨t1,_,t5,t6,t7,t8,rfl,hn,hT.out,fun h=>(c1.out h).keep (bq.mono hB.size) (Nat.le_of_lt yM),fun _=>rfl,fun h=>(c5.out h),fun h=>(b6.out h).grow bq,fun h=>Blk.off ((b7.out h).grow bq) hs7.out hs7.out,fun h=>(b8.out h).grow bq,n6_7.out,n6_8.out,n7_8.out,u9.out,u10.out,u11.out,x9.out,fun _=>rfl,x11.out⟩
  refine Keeps.skip (fun D a V hI=>by obtain ⟨t1,t3,t5,t6,t7,t8,-,hB,hT,c1,c3,c5,b6,b7,b8,n6_7,n6_8,n7_8,u9,u10,u11,x9,x10,x11⟩:=hI;exact hT.2.2) ?_;refine Keeps.cons (o:=_) [4,3] rfl rfl (by kernel_rfl) ?step5 ?_
  case step5=>
   intro D a wd hI hD hw K hK;obtain ⟨t1,t3,t5,t6,t7,t8,ea,hB,hT,c1,c3,c5,b6,b7,b8,n6_7,n6_8,n7_8,u9,u10,u11,x9,x10,x11⟩:=hI;have d3:=zD (hw 3 (by simp));clear hw
   replace hT:=zD hT
   replace c1:=zD c1
   replace c3:=zD c3
   replace c5:=zD c5
   replace b6:=zD b6
   replace b7:=zD b7
   replace b8:=zD b8
   replace n6_7:=zD n6_7
   replace n6_8:=zD n6_8
   replace n7_8:=zD n7_8
   replace u9:=zD u9
   replace u10:=zD u10
   replace u11:=zD u11
   replace x9:=zD x9
   replace x10:=zD x10
   replace x11:=zD x11
   have hs8:=zD (show D 11=false from Bool.eq_false_iff.2 (fun h=>by rw [x11.out h] at hD;cases hD));clear hD;subst ea
   try simp only [Act.put,sT,sZ,sS]
   go_simp;refine (HP2.out wd (HRW.out.under hB) (HCC.out.keep hB.size (fun i hi _=>hB.block i (Nat.lt_trans hi yM))) (HAA.out.under hB)).mono ?_;rintro eq wn ⟨rfl,bq⟩;have hn:Below w1.heap.size w1 wn:=hB.trans (bq.mono hB.size);refine hK.out _ _ ?_;exact ⟨t1,t3,_,t6,t7,t8,rfl,hn,hT.out,fun h=>(c1.out h).keep (bq.mono hB.size) (Nat.le_of_lt yM),fun h=>(c3.out h),fun _=>rfl,fun h=>(b6.out h).grow bq,fun h=>(b7.out h).grow bq,fun h=>Blk.off ((b8.out h).grow bq) hs8.out hs8.out,n6_7.out,n6_8.out,n7_8.out,u9.out,u10.out,u11.out,x9.out,x10.out,fun _=>rfl⟩
  refine Keeps.cons (o:=_) [] rfl rfl (by kernel_rfl) ?step6 ?_
  case step6=>
   intro D a wd hI hD hw K hK;obtain ⟨t1,t3,t5,t6,t7,t8,ea,hB,hT,c1,c3,c5,b6,b7,b8,n6_7,n6_8,n7_8,u9,u10,u11,x9,x10,x11⟩:=hI;clear hw
   replace hT:=zD hT
   replace c1:=zD c1
   replace c3:=zD c3
   replace c5:=zD c5
   replace b6:=zD b6
   replace b7:=zD b7
   replace b8:=zD b8
   replace n6_7:=zD n6_7
   replace n6_8:=zD n6_8
   replace n7_8:=zD n7_8
   replace u9:=zD u9
   replace u10:=zD u10
   replace u11:=zD u11
   replace x9:=zD x9
   replace x10:=zD x10
   replace x11:=zD x11
   have bq:Below wd.heap.size wd (wd.alloc (.cells #[.slice none 0 0] 52 (0,0))):=(Below.refl _ _).alloc zL _;have hn:=hB.trans (bq.mono hB.size);have nb:=zD (Blk.new (w:=wd) (B:=w1.heap.size) hB.size (.slice none 0 0) 52)
   replace bq:=zD bq
   replace hn:=zD hn
   have hs6:=zD (show D 9=false from Bool.eq_false_iff.2 (fun h=>by rw [u9.out h] at hD;cases hD));clear hD;subst ea
   try simp only [Act.put,sT,sZ,sS]
   go_simp;refine hK.out _ _ ?_;exact ⟨t1,t3,t5,_,t7,t8,rfl,hn.out,hT.out,fun h=>(c1.out h).keep (bq.out.mono hB.size) (Nat.le_of_lt yM),fun h=>(c3.out h),fun h=>(c5.out h),fun _=>by have e:also D 6 9=false:=hs6.out;rw [e];exact nb.out,fun h=>(b7.out h).grow bq.out,fun h=>(b8.out h).grow bq.out,fun _ h=>fun e=>(b7.out h).ne_new e.symm,fun _ h=>fun e=>(b8.out h).ne_new e.symm,n7_8.out,fun _=>rfl,u10.out,u11.out,x9.out,x10.out,x11.out⟩
  refine Keeps.cons (o:=_) [] rfl rfl (by kernel_rfl) ?step7 ?_
  case step7=>
   intro D a wd hI hD hw K hK;obtain ⟨t1,t3,t5,t6,t7,t8,ea,hB,hT,c1,c3,c5,b6,b7,b8,n6_7,n6_8,n7_8,u9,u10,u11,x9,x10,x11⟩:=hI;clear hw
   replace hT:=zD hT
   replace c1:=zD c1
   replace c3:=zD c3
   replace c5:=zD c5
   replace b6:=zD b6
   replace b7:=zD b7
   replace b8:=zD b8
   replace n6_7:=zD n6_7
   replace n6_8:=zD n6_8
   replace n7_8:=zD n7_8
   replace u9:=zD u9
   replace u10:=zD u10
   replace u11:=zD u11
   replace x9:=zD x9
   replace x10:=zD x10
   replace x11:=zD x11
   have bq:Below wd.heap.size wd (wd.alloc (.cells #[.int .i64 0] 2 (0,0))):=(Below.refl _ _).alloc zL _;have hn:=hB.trans (bq.mono hB.size);have nb:=zD (Blk.new (w:=wd) (B:=w1.heap.size) hB.size (.int .i64 0) 2)
   replace bq:=zD bq
   replace hn:=zD hn
   have hs7:=zD (show D 10=false from Bool.eq_false_iff.2 (fun h=>by rw [u10.out h] at hD;cases hD));clear hD;subst ea
   try simp only [Act.put,sT,sZ,sS]
   go_simp;refine hK.out _ _ ?_;exact ⟨t1,t3,t5,t6,_,t8,rfl,hn.out,hT.out,fun h=>(c1.out h).keep (bq.out.mono hB.size) (Nat.le_of_lt yM),fun h=>(c3.out h),fun h=>(c5.out h),fun h=>(b6.out h).grow bq.out,fun _=>by have e:also D 7 10=false:=hs7.out;rw [e];exact nb.out,fun h=>(b8.out h).grow bq.out,fun h _=>(b6.out h).ne_new,n6_8.out,fun _ h=>fun e=>(b8.out h).ne_new e.symm,u9.out,fun _=>rfl,u11.out,x9.out,x10.out,x11.out⟩
  refine Keeps.cons (o:=_) [] rfl rfl (by kernel_rfl) ?step8 ?_
  case step8=>
   intro D a wd hI hD hw K hK;obtain ⟨t1,t3,t5,t6,t7,t8,ea,hB,hT,c1,c3,c5,b6,b7,b8,n6_7,n6_8,n7_8,u9,u10,u11,x9,x10,x11⟩:=hI;clear hw
   replace hT:=zD hT
   replace c1:=zD c1
   replace c3:=zD c3
   replace c5:=zD c5
   replace b6:=zD b6
   replace b7:=zD b7
   replace b8:=zD b8
   replace n6_7:=zD n6_7
   replace n6_8:=zD n6_8
   replace n7_8:=zD n7_8
   replace u9:=zD u9
   replace u10:=zD u10
   replace u11:=zD u11
   replace x9:=zD x9
   replace x10:=zD x10
   replace x11:=zD x11
   have bq:Below wd.heap.size wd (wd.alloc (.cells #[.int .i64 0] 2 (0,0))):=(Below.refl _ _).alloc zL _;have hn:=hB.trans (bq.mono hB.size);have nb:=zD (Blk.new (w:=wd) (B:=w1.heap.size) hB.size (.int .i64 0) 2)
   replace bq:=zD bq
   replace hn:=zD hn
   have hs8:=zD (show D 11=false from Bool.eq_false_iff.2 (fun h=>by rw [u11.out h] at hD;cases hD));clear hD;subst ea
   try simp only [Act.put,sT,sZ,sS]
   go_simp;refine hK.out _ _ ?_;exact ⟨t1,t3,t5,t6,t7,_,rfl,hn.out,hT.out,fun h=>(c1.out h).keep (bq.out.mono hB.size) (Nat.le_of_lt yM),fun h=>(c3.out h),fun h=>(c5.out h),fun h=>(b6.out h).grow bq.out,fun h=>(b7.out h).grow bq.out,fun _=>by have e:also D 8 11=false:=hs8.out;rw [e];exact nb.out,n6_7.out,fun h _=>(b6.out h).ne_new,fun h _=>(b7.out h).ne_new,u9.out,u10.out,fun _=>rfl,x9.out,x10.out,x11.out⟩
  refine Keeps.cons (o:=_) [6,1,5,0,1,6,7,8] rfl rfl (by kernel_rfl) ?step9 ?_
  case step9=>
   intro D a wd hI hD hw K hK;obtain ⟨t1,t3,t5,t6,t7,t8,ea,hB,hT,c1,c3,c5,b6,b7,b8,n6_7,n6_8,n7_8,u9,u10,u11,x9,x10,x11⟩:=hI;have d6:=zD (hw 6 (by simp));have d1:=zD (hw 1 (by simp));have d5:=zD (hw 5 (by simp));have d7:=zD (hw 7 (by simp));have d8:=zD (hw 8 (by simp));clear hw
   replace hT:=zD hT
   replace c1:=zD c1
   replace c3:=zD c3
   replace c5:=zD c5
   replace b6:=zD b6
   replace b7:=zD b7
   replace b8:=zD b8
   replace n6_7:=zD n6_7
   replace n6_8:=zD n6_8
   replace n7_8:=zD n7_8
   replace u9:=zD u9
   replace u10:=zD u10
   replace u11:=zD u11
   replace x9:=zD x9
   replace x10:=zD x10
   replace x11:=zD x11
   have hx:=b6.out d6.out;unfold Blk at hx;obtain ⟨b,e,hb,kb⟩:=hx;subst e;simp only [hD,Bool.false_eq_true,if_false] at kb;have st0:=coQ kb 0;have fr0:=foQ kb 0;simp at st0;have ck:=c1.out d1.out;unfold SlI at ck;obtain ⟨⟨p,q,c,et⟩,hu⟩:=ck;subst et;have hst:Below w1.heap.size wd (wd.setCell ⟨b,0,none⟩ (.slice p q c)):=(Below.refl _ _).setCell (p:=⟨b,0,none⟩) hb (.slice p q c);have hn:=hB.trans hst;have nb:=zD (Blk.set (B:=w1.heap.size) hb kb (.slice p q c))
   replace hst:=zD hst
   replace hn:=zD hn
   clear kb;clear hD;subst ea
   try simp only [Act.put,sT,sZ,sS]
   go_simp;refine hK.out _ _ ?_;exact ⟨_,t3,t5,_,t7,t8,rfl,hn.out,hT.out,fun h=>(c1.out h).keep hst.out (Nat.le_of_lt yM),fun h=>(c3.out h),fun h=>(c5.out h),fun _=>by rw [if_pos (show also D 9 9=true from rfl)];exact nb.out,fun h=>(b7.out h).set_other (fun q=>n6_7.out d6.out h q.symm) _,fun h=>(b8.out h).set_other (fun q=>n6_8.out d6.out h q.symm) _,n6_7.out,n6_8.out,n7_8.out,fun _=>d6.out,u10.out,u11.out,fun _=>d1.out,x10.out,x11.out⟩
  refine Keeps.cons (o:=_) [7,3,9,0,1,2,3,6,7,8,9] rfl rfl (by kernel_rfl) ?step10 ?_
  case step10=>
   intro D a wd hI hD hw K hK;obtain ⟨t1,t3,t5,t6,t7,t8,ea,hB,hT,c1,c3,c5,b6,b7,b8,n6_7,n6_8,n7_8,u9,u10,u11,x9,x10,x11⟩:=hI;have d7:=zD (hw 7 (by simp));have d3:=zD (hw 3 (by simp));have d9:=zD (hw 9 (by simp));have d1:=zD (hw 1 (by simp));have d6:=zD (hw 6 (by simp));have d8:=zD (hw 8 (by simp));clear hw
   replace hT:=zD hT
   replace c1:=zD c1
   replace c3:=zD c3
   replace c5:=zD c5
   replace b6:=zD b6
   replace b7:=zD b7
   replace b8:=zD b8
   replace n6_7:=zD n6_7
   replace n6_8:=zD n6_8
   replace n7_8:=zD n7_8
   replace u9:=zD u9
   replace u10:=zD u10
   replace u11:=zD u11
   replace x9:=zD x9
   replace x10:=zD x10
   replace x11:=zD x11
   have hx:=b7.out d7.out;unfold Blk at hx;obtain ⟨b,e,hb,kb⟩:=hx;subst e;simp only [hD,Bool.false_eq_true,if_false] at kb;have st0:=coQ kb 0;have fr0:=foQ kb 0;simp at st0;have ck:=c3.out d3.out;subst ck;have hst:Below w1.heap.size wd (wd.setCell ⟨b,0,none⟩ (.int .i64 v1)):=(Below.refl _ _).setCell (p:=⟨b,0,none⟩) hb (.int .i64 v1);have hn:=hB.trans hst;have nb:=zD (Blk.set (B:=w1.heap.size) hb kb (.int .i64 v1))
   replace hst:=zD hst
   replace hn:=zD hn
   clear kb;clear hD;subst ea
   try simp only [Act.put,sT,sZ,sS]
   go_simp;refine hK.out _ _ ?_;exact ⟨t1,_,t5,t6,_,t8,rfl,hn.out,hT.out,fun h=>(c1.out h).keep hst.out (Nat.le_of_lt yM),fun h=>(c3.out h),fun h=>(c5.out h),fun h=>(b6.out h).set_other (fun q=>n6_7.out h d7.out q) _,fun _=>by rw [if_pos (show also D 10 10=true from rfl)];exact nb.out,fun h=>(b8.out h).set_other (fun q=>n7_8.out d7.out h q.symm) _,n6_7.out,n6_8.out,n7_8.out,u9.out,fun _=>d7.out,u11.out,x9.out,fun _=>d3.out,x11.out⟩
  refine Keeps.cons (o:=_) [8,5,10,0,1,2,3,4,5,6,7,8,9,10] rfl rfl (by kernel_rfl) ?step11 ?_
  case step11=>
   intro D a wd hI hD hw K hK;obtain ⟨t1,t3,t5,t6,t7,t8,ea,hB,hT,c1,c3,c5,b6,b7,b8,n6_7,n6_8,n7_8,u9,u10,u11,x9,x10,x11⟩:=hI;have d8:=zD (hw 8 (by simp));have d5:=zD (hw 5 (by simp));have d10:=zD (hw 10 (by simp));have d1:=zD (hw 1 (by simp));have d3:=zD (hw 3 (by simp));have d6:=zD (hw 6 (by simp));have d7:=zD (hw 7 (by simp));have d9:=zD (hw 9 (by simp));clear hw
   replace hT:=zD hT
   replace c1:=zD c1
   replace c3:=zD c3
   replace c5:=zD c5
   replace b6:=zD b6
   replace b7:=zD b7
   replace b8:=zD b8
   replace n6_7:=zD n6_7
   replace n6_8:=zD n6_8
   replace n7_8:=zD n7_8
   replace u9:=zD u9
   replace u10:=zD u10
   replace u11:=zD u11
   replace x9:=zD x9
   replace x10:=zD x10
   replace x11:=zD x11
   have hx:=b8.out d8.out;unfold Blk at hx;obtain ⟨b,e,hb,kb⟩:=hx;subst e;simp only [hD,Bool.false_eq_true,if_false] at kb;have st0:=coQ kb 0;have fr0:=foQ kb 0;simp at st0;have ck:=c5.out d5.out;subst ck;have hst:Below w1.heap.size wd (wd.setCell ⟨b,0,none⟩ (.int .i64 v2)):=(Below.refl _ _).setCell (p:=⟨b,0,none⟩) hb (.int .i64 v2);have hn:=hB.trans hst;have nb:=zD (Blk.set (B:=w1.heap.size) hb kb (.int .i64 v2))
   replace hst:=zD hst
   replace hn:=zD hn
   clear kb;clear hD;subst ea
   try simp only [Act.put,sT,sZ,sS]
   go_simp;refine hK.out _ _ ?_;exact ⟨t1,t3,_,t6,t7,_,rfl,hn.out,hT.out,fun h=>(c1.out h).keep hst.out (Nat.le_of_lt yM),fun h=>(c3.out h),fun h=>(c5.out h),fun h=>(b6.out h).set_other (fun q=>n6_8.out h d8.out q) _,fun h=>(b7.out h).set_other (fun q=>n7_8.out h d8.out q) _,fun _=>by rw [if_pos (show also D 11 11=true from rfl)];exact nb.out,n6_7.out,n6_8.out,n7_8.out,u9.out,u10.out,fun _=>d8.out,x9.out,x10.out,fun _=>d5.out⟩
  exact Keeps.nil
 case ends=>
  intro D a wF hI hD;obtain ⟨t1,t3,t5,t6,t7,t8,ea,hB,hT,c1,c3,c5,b6,b7,b8,n6_7,n6_8,n7_8,u9,u10,u11,x9,x10,x11⟩:=hI
  replace c1:=c1 (hD 1)
  replace c3:=c3 (hD 3)
  replace c5:=c5 (hD 5)
  replace b6:=b6 (hD 6)
  rw [if_pos (hD 9)] at b6
  replace b7:=b7 (hD 7)
  rw [if_pos (hD 10)] at b7
  replace b8:=b8 (hD 8)
  rw [if_pos (hD 11)] at b8;clear n6_7 n6_8 n7_8 u9 u10 u11 x9 x10 x11 hT hD;unfold Blk at b6;obtain ⟨x6,ex6,-,k6⟩:=b6;subst ex6;unfold Blk at b7;obtain ⟨x7,ex7,-,k7⟩:=b7;subst ex7;unfold Blk at b8;obtain ⟨x8,ex8,-,k8⟩:=b8;subst ex8;unfold SlI at c1;obtain ⟨⟨p,q,c,etc1⟩,g1⟩:=c1;subst etc1;subst c3 c5;have HEND:=zD (And.intro k7 (And.intro k8 (And.intro k6 (And.intro g1 (b1.trans (hB.mono b1.size))))));clear k6 k7 k8 g1 m0 m1 m2 m3 m4 m5 m6 kM;subst ea
  try simp only [Act.put,sT,sZ,sS]
  go_wp2;go_ret;obtain ⟨e1,e2,e3,e4,e5⟩:=HEND.out;exact ⟨_,_,_,_,rfl,e1,e2,⟨e3,e4⟩,e5⟩
end Go.Proofs.YtnhmcpnbaajjcaaGreatDoor
