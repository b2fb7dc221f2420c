import Derived.Test.YtkfgbhlpjkkgfaaGreatDoorN18
import Derived.Deep.RegionHeld3
set_option linter.unusedVariables false
set_option linter.unusedSimpArgs false
set_option maxHeartbeats 64000000
set_option maxRecDepth 100000
namespace Go.Proofs.YtkfgbhlpjkkgfaaGreatDoor
open Go.RowKit Go.IntWalk
theorem two_at {ok:Nat→Prop} {w W:World} {o p:Obj} (h:Keep (okL (okL ok w.heap.size) (w.heap.size+1)) ((w.alloc o).alloc p) W):W.heap[w.heap.size]?=some o∧W.heap[w.heap.size+1]?=some p∧Keep (okL ok w.heap.size) (w.alloc o) W∧Keep ok w W:=by
 have hs:(w.alloc o).heap.size=w.heap.size+1:=(by simp);have e2:=heap_new (w.alloc o) p;rw [hs] at e2;have h1:Keep (okL ok w.heap.size) (w.alloc o) W:=(Keep.alloc _ _ p).trans (h.less fun i hi _=>.inl hi);exact ⟨h1.at,(h.block _ (.inr rfl) (by simp)).trans e2,h1,h1.all⟩
theorem Wr.more2 {ok:Nat→Prop} {w:World} {b:Nat} {t:ByteArray} (h:Wr ok w b t) (o p:Obj):Wr (okL (okL ok w.heap.size) (w.heap.size+1)) ((w.alloc o).alloc p) b t:=by
 have hs:(w.alloc o).heap.size=w.heap.size+1:=(by simp);have:=(h.more o).more p
 rwa [hs] at this
theorem Gl.more2 {ok:Nat→Prop} {w:World} (h:Gl ok w) (o p:Obj):Gl (okL (okL ok w.heap.size) (w.heap.size+1)) ((w.alloc o).alloc p) :=
 ((h.keep ((Keep.alloc ok w o).trans (Keep.alloc ok _ p))).more _).more _
theorem HEx.step2 {ok:Nat→Prop} {w W:World} {cs:List Value} {e:Ex} {L M:Nat} (h:HEx ok w cs e) (k:Keep ok w W):HEx (okL (okL ok L) M) W cs e:=(h.keep k.size k.block).wide fun i hi _=>.inl (.inl hi)
theorem HExs.step2 {ok:Nat→Prop} {w W:World} {v:Value} {l:List Ex} {L M:Nat} (h:HExs ok w v l) (k:Keep ok w W):HExs (okL (okL ok L) M) W v l:=(h.keep k.size k.block).wide fun i hi _=>.inl (.inl hi)
theorem opT_ok:∀ q,q<15→okS (Tx.opT q).1∧okS (Tx.opT q).2.1∧0≤(Tx.opT q).2.2∧(Tx.opT q).2.2≤7:=by unfold okS;decide
theorem shp_ok:∀ q,q<16→okS (Rn.shp q).1:=by unfold okS;decide
theorem pairW_any {ok:Nat→Prop} {w:World} {b:Nat} {t:ByteArray} {op n:Int} {q:Nat} {name:ByteArray} {aS aL:Option Addr} {nS cS nL cL:Nat} {S:List (List Tm)} (hw:Wr ok w b t) (hg:Gl ok w)  {e0 e1:Ex} (hLx:HExs ok w (.slice aL nL cL) [e0,e1]) (hD0:PartDoes e0) (hD1:PartDoes e1) (hq:q<15) :
  Calls Tryz.prog 258 #[.pointer (some ⟨b,0,none⟩),.agg #[.int .i64 op,.int .i64 (q:Int),.int .i64 n,.string name,.slice aS nS cS,.slice aL nL cL]] w (WPost ok w b t (Tx.pairP q (Tx.bares [e0,e1]))):=by
 obtain ⟨P,hP⟩:=nmQ (Tx.pairP q (Tx.bares [e0,e1]));rw [←hP];unfold Tx.pairP at hP;rw [Int.toNat_natCast] at hP;obtain ⟨c0,c1,c2⟩:=hg.o.2 q hq;obtain ⟨hok0,hok1,hr0,hr7⟩:=opT_ok q hq;generalize Tx.opT q=oq at hP c0 c1 c2 hok0 hok1 hr0 hr7;obtain ⟨wd,sg,rk⟩:=oq
 dsimp only at hP c0 c1 c2 hok0 hok1 hr0 hr7
 have HP0:=hide hP;clear hP;have hLx0:=hLx;obtain ⟨hnL,hc1,hc2,bL,oL,hao,hget⟩:=hLx.get (by simp);subst hao;simp at hnL;subst hnL;unfold maxLen at hc2;have hw0:=hw.more2 (.cells #[.int .i64 op,.int .i64 (q:Int),.int .i64 n,.string name,.slice aS nS cS,.slice (some ⟨bL,oL,none⟩) 2 cL] 54 (0,0)) (.cells #[.string wd,.string sg,.int .i64 rk] 264 (0,0));have hg0:=hg.more2 (.cells #[.int .i64 op,.int .i64 (q:Int),.int .i64 n,.string name,.slice aS nS cS,.slice (some ⟨bL,oL,none⟩) 2 cL] 54 (0,0)) (.cells #[.string wd,.string sg,.int .i64 rk] 264 (0,0));have K0:=Keep.refl (okL (okL ok w.heap.size) (w.heap.size+1)) ((w.alloc (.cells #[.int .i64 op,.int .i64 (q:Int),.int .i64 n,.string name,.slice aS nS cS,.slice (some ⟨bL,oL,none⟩) 2 cL] 54 (0,0))).alloc (.cells #[.string wd,.string sg,.int .i64 rk] 264 (0,0)));have hrow:=fun (W:World) (T:ByteArray) (h1:Wr (okL (okL ok w.heap.size) (w.heap.size+1)) W b T) (k1:Keep (okL (okL ok w.heap.size) (w.heap.size+1)) ((w.alloc (.cells #[.int .i64 op,.int .i64 (q:Int),.int .i64 n,.string name,.slice aS nS cS,.slice (some ⟨bL,oL,none⟩) 2 cL] 54 (0,0))).alloc (.cells #[.string wd,.string sg,.int .i64 rk] 264 (0,0))) W)=>rowExprs_any h1 (hg0.keep k1) (hLx0.step2 (two_at k1).2.2.2) (l:=[e0,e1]) (by intro x hx;simp at hx;rcases hx with rfl | rfl;exact hD0;exact hD1);obtain ⟨y0,hx0,hy0⟩:=hget 0 (by simp);simp only [List.getElem_cons_zero,List.getElem_cons_succ] at hx0;have hp0:=fun (W:World) (T:ByteArray) (h1:Wr (okL (okL ok w.heap.size) (w.heap.size+1)) W b T) (k1:Keep (okL (okL ok w.heap.size) (w.heap.size+1)) ((w.alloc (.cells #[.int .i64 op,.int .i64 (q:Int),.int .i64 n,.string name,.slice aS nS cS,.slice (some ⟨bL,oL,none⟩) 2 cL] 54 (0,0))).alloc (.cells #[.string wd,.string sg,.int .i64 rk] 264 (0,0))) W) (least:Int) (hl0:0≤least) (hl8:least≤8)=>hD0 (okL (okL ok w.heap.size) (w.heap.size+1)) W b T y0 least (hx0.step2 (two_at k1).2.2.2) (hg0.keep k1) h1 hl0 hl8;obtain ⟨o0,k0_,n0_,s0_,aS0,nS0,cS0,aL0,nL0,cL0⟩:=y0
 dsimp only at hp0 hy0
 obtain ⟨y1,hx1,hy1⟩:=hget 1 (by simp);simp only [List.getElem_cons_zero,List.getElem_cons_succ] at hx1;have hp1:=fun (W:World) (T:ByteArray) (h1:Wr (okL (okL ok w.heap.size) (w.heap.size+1)) W b T) (k1:Keep (okL (okL ok w.heap.size) (w.heap.size+1)) ((w.alloc (.cells #[.int .i64 op,.int .i64 (q:Int),.int .i64 n,.string name,.slice aS nS cS,.slice (some ⟨bL,oL,none⟩) 2 cL] 54 (0,0))).alloc (.cells #[.string wd,.string sg,.int .i64 rk] 264 (0,0))) W) (least:Int) (hl0:0≤least) (hl8:least≤8)=>hD1 (okL (okL ok w.heap.size) (w.heap.size+1)) W b T y1 least (hx1.step2 (two_at k1).2.2.2) (hg0.keep k1) h1 hl0 hl8;obtain ⟨o1,k1_,n1_,s1_,aS1,nS1,cS1,aL1,nL1,cL1⟩:=y1
 dsimp only at hp1 hy1
 clear hget hLx hLx0;have d0:=(cell_keep (p:=⟨4,q*3,none⟩) (Below.heap_alloc w (.cells #[.int .i64 op,.int .i64 (q:Int),.int .i64 n,.string name,.slice aS nS cS,.slice (some ⟨bL,oL,none⟩) 2 cL] 54 (0,0)) 4 hg.o.1)).trans c0;have d1:=(cell_keep (p:=⟨4,q*3+1,none⟩) (Below.heap_alloc w (.cells #[.int .i64 op,.int .i64 (q:Int),.int .i64 n,.string name,.slice aS nS cS,.slice (some ⟨bL,oL,none⟩) 2 cL] 54 (0,0)) 4 hg.o.1)).trans c1;have d2:=(cell_keep (p:=⟨4,q*3+2,none⟩) (Below.heap_alloc w (.cells #[.int .i64 op,.int .i64 (q:Int),.int .i64 n,.string name,.slice aS nS cS,.slice (some ⟨bL,oL,none⟩) 2 cL] 54 (0,0)) 4 hg.o.1)).trans c2;clear c0 c1 c2;by_cases hz:sg.size=0
 ·have HP:Hid (P=[wd,⟨#[40]⟩]++(Tx.commas Tx.exprP [e0,e1]++[⟨#[41]⟩])):=hide (by rw [HP0.out,if_pos hz,Tx.commas_bares])
  clear HP0;have hse:sg=⟨#[]⟩:=ByteArray.ext (Array.eq_empty_of_size_eq_zero hz);subst hse;go_enter Tryz.func258,Tryz.ntmps258;go_wp2_with fail;refine (put2 hw0 (by simp) wd ⟨#[40]⟩ hok0 (by unfold okS;decide)).mono ?_;rintro e w1 ⟨rfl,h1,k1⟩;have K1:=k1;have kL1:=(two_at K1).1;have kM1:=(two_at K1).2.1;have q1_5:=co kL1 5;simp at q1_5;go_wp2_with fail;refine (hrow _ _ h1 K1).mono ?_;rintro e w2 ⟨rfl,h2,k2⟩;have K2:=K1.trans k2;have kL2:=(two_at K2).1;have kM2:=(two_at K2).2.1;go_wp2_with fail;refine (put1 h2 rfl ⟨#[41]⟩ (by unfold okS;decide)).mono ?_;rintro e w3 ⟨rfl,h3,k3⟩;have K3:=K2.trans k3;have kL3:=(two_at K3).1;have kM3:=(two_at K3).2.1;go_wp2;refine bodyPost_ret (results_none rfl _ _ _) rfl ?_;refine ⟨rfl,?_,(two_at K3).2.2.2⟩;rw [HP.out];simp only [Tx.puts_append,Tx.puts_nil];exact h3.fst.fst
 have hne:=str_ne hz;by_cases h3:rk=3
 ·have HP:Hid (P=Tx.partP e0 4++([sg]++Tx.partP e1 (rk+1))):=hide (by rw [HP0.out,if_neg hz,if_pos h3];rfl)
  clear HP0;subst h3;go_enter Tryz.func258,Tryz.ntmps258;obtain ⟨d0_0_0,d0_0_1,d0_0_2,d0_0_3,d0_0_4,d0_0_5⟩:=hy0 _ (two_at K0).2.2.2;simp at d0_0_0;simp at d0_0_1;simp at d0_0_2;simp at d0_0_3;simp at d0_0_4;simp at d0_0_5;go_wp2_with fail;refine (hp0 _ _ hw0 K0 4 (by omega) (by omega)).mono ?_;rintro e w1 ⟨rfl,h1,k1⟩;have K1:=k1;have kL1:=(two_at K1).1;have kM1:=(two_at K1).2.1;have m1_1:=co kM1 1;simp at m1_1;go_wp2_with fail;refine (put1 h1 rfl sg hok1).mono ?_;rintro e w2 ⟨rfl,h2,k2⟩;have K2:=K1.trans k2;have kL2:=(two_at K2).1;have kM2:=(two_at K2).2.1;have q2_5:=co kL2 5;simp at q2_5;have m2_2:=co kM2 2;simp at m2_2;obtain ⟨d2_1_0,d2_1_1,d2_1_2,d2_1_3,d2_1_4,d2_1_5⟩:=hy1 _ (two_at K2).2.2.2;simp at d2_1_0;simp at d2_1_1;simp at d2_1_2;simp at d2_1_3;simp at d2_1_4;simp at d2_1_5;go_upto_region 11 with fail;refine wp_region_late (fun w'=>w'.cell? ⟨w.heap.size,5,none⟩=some (.slice (some ⟨bL,oL,none⟩) 2 cL)∧w'.cell? ⟨w.heap.size+1,2,none⟩=some (.int .i64 3)∧w'.cell? ⟨bL,oL+6,none⟩=some (.int .i64 o1)∧w'.cell? ⟨bL,oL+6+1,none⟩=some (.int .i64 k1_)∧w'.cell? ⟨bL,oL+6+2,none⟩=some (.int .i64 n1_)∧w'.cell? ⟨bL,oL+6+3,none⟩=some (.string s1_)∧w'.cell? ⟨bL,oL+6+4,none⟩=some (.slice aS1 nS1 cS1)∧w'.cell? ⟨bL,oL+6+5,none⟩=some (.slice aL1 nL1 cL1)) (fun _=>false) (by kernel_rfl) ?_;have Kd:=K2.trans (Keep.ofBelow (Below.refl _ w2).drew);have hd:=h2.under (Below.refl _ w2).drew;have hH:(fun w'=>w'.cell? ⟨w.heap.size,5,none⟩=some (.slice (some ⟨bL,oL,none⟩) 2 cL)∧w'.cell? ⟨w.heap.size+1,2,none⟩=some (.int .i64 3)∧w'.cell? ⟨bL,oL+6,none⟩=some (.int .i64 o1)∧w'.cell? ⟨bL,oL+6+1,none⟩=some (.int .i64 k1_)∧w'.cell? ⟨bL,oL+6+2,none⟩=some (.int .i64 n1_)∧w'.cell? ⟨bL,oL+6+3,none⟩=some (.string s1_)∧w'.cell? ⟨bL,oL+6+4,none⟩=some (.slice aS1 nS1 cS1)∧w'.cell? ⟨bL,oL+6+5,none⟩=some (.slice aL1 nL1 cL1)) w2.drew:=⟨q2_5,m2_2,d2_1_0,d2_1_1,d2_1_2,d2_1_3,d2_1_4,d2_1_5⟩;simp only [] at hH;generalize w2.drew=wd at Kd hd hH ⊢;clear q2_5 m2_2 d2_1_0 d2_1_1 d2_1_2 d2_1_3 d2_1_4 d2_1_5 d0 d1 d2 hw0 hg0 K0 hw hg K1 K2 h1 h2 k2 k1 kL1 kM1 kL2 kM2 hrow hp0 hy0 d0_0_0 d0_0_1 d0_0_2 d0_0_3 d0_0_4 d0_0_5 m1_1;refine' wpAnyL_take (i:=0) (v:=_) rfl (by kernel_rfl) (by kernel_rfl) (by kernel_rfl) (by kernel_rfl) (fun _ _ _ h=>h) hH (by rfl) ?hyv ?o1
  case hyv=>
   intro wz hSw;obtain ⟨c0,c1,c2,c3,c4,c5,c6,c7⟩:=hSw;go_simp
   try rfl
  try simp only [Act.put,sT,sZ,sS]
  refine' wpAnyL_take (i:=1) (v:=_) rfl (by kernel_rfl) (by kernel_rfl) (by kernel_rfl) (by kernel_rfl) (fun _ _ _ h=>h) hH (by rfl) ?hyv ?o2
  case hyv=>
   intro wz hSw;obtain ⟨c0,c1,c2,c3,c4,c5,c6,c7⟩:=hSw;go_simp
   try rfl
  try simp only [Act.put,sT,sZ,sS]
  refine' wpAnyL_take (i:=2) (v:=_) rfl (by kernel_rfl) (by kernel_rfl) (by kernel_rfl) (by kernel_rfl) (fun _ _ _ h=>h) hH (by rfl) ?hyv ?o3
  case hyv=>
   intro wz hSw;obtain ⟨c0,c1,c2,c3,c4,c5,c6,c7⟩:=hSw;go_simp
   try rfl
  try simp only [Act.put,sT,sZ,sS]
  refine' wpAnyL_take (i:=3) (v:=_) rfl (by kernel_rfl) (by kernel_rfl) (by kernel_rfl) (by kernel_rfl) (fun _ _ _ h=>h) hH (by rfl) ?hyv ?o4
  case hyv=>
   intro wz hSw;obtain ⟨c0,c1,c2,c3,c4,c5,c6,c7⟩:=hSw;go_simp
   try rfl
  try simp only [Act.put,sT,sZ,sS]
  refine' wpAnyL_take (i:=4) (v:=_) rfl (by kernel_rfl) (by kernel_rfl) (by kernel_rfl) (by kernel_rfl) (fun _ _ _ h=>h) hH (by rfl) ?hyv ?o5
  case hyv=>
   intro wz hSw;obtain ⟨c0,c1,c2,c3,c4,c5,c6,c7⟩:=hSw;go_simp
   try rfl
  try simp only [Act.put,sT,sZ,sS]
  refine' wpAnyL_take (i:=5) (v:=_) rfl (by kernel_rfl) (by kernel_rfl) (by kernel_rfl) (by kernel_rfl) (fun _ _ _ h=>h) hH (by rfl) ?hyv ?o6
  case hyv=>
   intro wz hSw;obtain ⟨c0,c1,c2,c3,c4,c5,c6,c7⟩:=hSw;go_simp
   try rfl
  try simp only [Act.put,sT,sZ,sS]
  refine' wpAnyL_take (i:=6) (v:=_) rfl (by kernel_rfl) (by kernel_rfl) (by kernel_rfl) (by kernel_rfl) (fun _ _ _ h=>h) hH (by rfl) ?hyv ?o7
  case hyv=>
   intro wz hSw;obtain ⟨c0,c1,c2,c3,c4,c5,c6,c7⟩:=hSw;go_simp
   try rfl
  try simp only [Act.put,sT,sZ,sS]
  refine' wpAnyL_take (i:=7) (v:=_) rfl (by kernel_rfl) (by kernel_rfl) (by kernel_rfl) (by kernel_rfl) (fun _ _ _ h=>h) hH (by rfl) ?hyv ?o8
  case hyv=>
   intro wz hSw;obtain ⟨c0,c1,c2,c3,c4,c5,c6,c7⟩:=hSw;go_simp
   try rfl
  try simp only [Act.put,sT,sZ,sS]
  refine wpAnyL_one (i:=8) rfl (by kernel_rfl) (by rfl) (fun K hK=>?_);go_simp;rw [show IntKind.i64.wrap 4=4 from i64_in _ (by omega)];refine (hp1 _ _ hd Kd 4 (by omega) (by omega)).mono ?_;rintro e w3 ⟨rfl,h3,k3⟩;have K3:=Kd.trans k3;have q3_5:=co (two_at K3).1 5;have m3_2:=co (two_at K3).2.1 2;simp at q3_5 m3_2;obtain ⟨d3_1_0,d3_1_1,d3_1_2,d3_1_3,d3_1_4,d3_1_5⟩:=hy1 _ (two_at K3).2.2.2;simp at d3_1_0 d3_1_1 d3_1_2 d3_1_3 d3_1_4 d3_1_5;refine hK.out _ _ (fun _=>⟨q3_5,m3_2,d3_1_0,d3_1_1,d3_1_2,d3_1_3,d3_1_4,d3_1_5⟩) ?_;clear hK K
  try simp only [Act.put,sT,sZ,sS]
  refine wpAnyL_done (by kernel_rfl) ?_ _;go_end0;refine ⟨rfl,?_,(two_at K3).2.2.2⟩;rw [HP.out];simp only [Tx.puts_append,Tx.puts_nil];exact h3.fst.fst
 ·have HP:Hid (P=Tx.partP e0 rk++([sg]++Tx.partP e1 (rk+1))):=hide (by rw [HP0.out,if_neg hz,if_neg h3];rfl)
  clear HP0;have h3b:(rk==3)=false:=(by simp [h3]);go_enter Tryz.func258,Tryz.ntmps258;obtain ⟨d0_0_0,d0_0_1,d0_0_2,d0_0_3,d0_0_4,d0_0_5⟩:=hy0 _ (two_at K0).2.2.2;simp at d0_0_0;simp at d0_0_1;simp at d0_0_2;simp at d0_0_3;simp at d0_0_4;simp at d0_0_5;go_wp2_with fail;refine (hp0 _ _ hw0 K0 rk (by omega) (by omega)).mono ?_;rintro e w1 ⟨rfl,h1,k1⟩;have K1:=k1;have kL1:=(two_at K1).1;have kM1:=(two_at K1).2.1;have m1_1:=co kM1 1;simp at m1_1;go_wp2_with fail;refine (put1 h1 rfl sg hok1).mono ?_;rintro e w2 ⟨rfl,h2,k2⟩;have K2:=K1.trans k2;have kL2:=(two_at K2).1;have kM2:=(two_at K2).2.1;have q2_5:=co kL2 5;simp at q2_5;have m2_2:=co kM2 2;simp at m2_2;obtain ⟨d2_1_0,d2_1_1,d2_1_2,d2_1_3,d2_1_4,d2_1_5⟩:=hy1 _ (two_at K2).2.2.2;simp at d2_1_0;simp at d2_1_1;simp at d2_1_2;simp at d2_1_3;simp at d2_1_4;simp at d2_1_5;go_upto_region 11 with fail;refine wp_region_late (fun w'=>w'.cell? ⟨w.heap.size,5,none⟩=some (.slice (some ⟨bL,oL,none⟩) 2 cL)∧w'.cell? ⟨w.heap.size+1,2,none⟩=some (.int .i64 rk)∧w'.cell? ⟨bL,oL+6,none⟩=some (.int .i64 o1)∧w'.cell? ⟨bL,oL+6+1,none⟩=some (.int .i64 k1_)∧w'.cell? ⟨bL,oL+6+2,none⟩=some (.int .i64 n1_)∧w'.cell? ⟨bL,oL+6+3,none⟩=some (.string s1_)∧w'.cell? ⟨bL,oL+6+4,none⟩=some (.slice aS1 nS1 cS1)∧w'.cell? ⟨bL,oL+6+5,none⟩=some (.slice aL1 nL1 cL1)) (fun _=>false) (by kernel_rfl) ?_;have Kd:=K2.trans (Keep.ofBelow (Below.refl _ w2).drew);have hd:=h2.under (Below.refl _ w2).drew;have hH:(fun w'=>w'.cell? ⟨w.heap.size,5,none⟩=some (.slice (some ⟨bL,oL,none⟩) 2 cL)∧w'.cell? ⟨w.heap.size+1,2,none⟩=some (.int .i64 rk)∧w'.cell? ⟨bL,oL+6,none⟩=some (.int .i64 o1)∧w'.cell? ⟨bL,oL+6+1,none⟩=some (.int .i64 k1_)∧w'.cell? ⟨bL,oL+6+2,none⟩=some (.int .i64 n1_)∧w'.cell? ⟨bL,oL+6+3,none⟩=some (.string s1_)∧w'.cell? ⟨bL,oL+6+4,none⟩=some (.slice aS1 nS1 cS1)∧w'.cell? ⟨bL,oL+6+5,none⟩=some (.slice aL1 nL1 cL1)) w2.drew:=⟨q2_5,m2_2,d2_1_0,d2_1_1,d2_1_2,d2_1_3,d2_1_4,d2_1_5⟩;simp only [] at hH;generalize w2.drew=wd at Kd hd hH ⊢;clear q2_5 m2_2 d2_1_0 d2_1_1 d2_1_2 d2_1_3 d2_1_4 d2_1_5 d0 d1 d2 hw0 hg0 K0 hw hg K1 K2 h1 h2 k2 k1 kL1 kM1 kL2 kM2 hrow hp0 hy0 d0_0_0 d0_0_1 d0_0_2 d0_0_3 d0_0_4 d0_0_5 m1_1;refine' wpAnyL_take (i:=0) (v:=_) rfl (by kernel_rfl) (by kernel_rfl) (by kernel_rfl) (by kernel_rfl) (fun _ _ _ h=>h) hH (by rfl) ?hyv ?o9
  case hyv=>
   intro wz hSw;obtain ⟨c0,c1,c2,c3,c4,c5,c6,c7⟩:=hSw;go_simp
   try rfl
  try simp only [Act.put,sT,sZ,sS]
  refine' wpAnyL_take (i:=1) (v:=_) rfl (by kernel_rfl) (by kernel_rfl) (by kernel_rfl) (by kernel_rfl) (fun _ _ _ h=>h) hH (by rfl) ?hyv ?o10
  case hyv=>
   intro wz hSw;obtain ⟨c0,c1,c2,c3,c4,c5,c6,c7⟩:=hSw;go_simp
   try rfl
  try simp only [Act.put,sT,sZ,sS]
  refine' wpAnyL_take (i:=2) (v:=_) rfl (by kernel_rfl) (by kernel_rfl) (by kernel_rfl) (by kernel_rfl) (fun _ _ _ h=>h) hH (by rfl) ?hyv ?o11
  case hyv=>
   intro wz hSw;obtain ⟨c0,c1,c2,c3,c4,c5,c6,c7⟩:=hSw;go_simp
   try rfl
  try simp only [Act.put,sT,sZ,sS]
  refine' wpAnyL_take (i:=3) (v:=_) rfl (by kernel_rfl) (by kernel_rfl) (by kernel_rfl) (by kernel_rfl) (fun _ _ _ h=>h) hH (by rfl) ?hyv ?o12
  case hyv=>
   intro wz hSw;obtain ⟨c0,c1,c2,c3,c4,c5,c6,c7⟩:=hSw;go_simp
   try rfl
  try simp only [Act.put,sT,sZ,sS]
  refine' wpAnyL_take (i:=4) (v:=_) rfl (by kernel_rfl) (by kernel_rfl) (by kernel_rfl) (by kernel_rfl) (fun _ _ _ h=>h) hH (by rfl) ?hyv ?o13
  case hyv=>
   intro wz hSw;obtain ⟨c0,c1,c2,c3,c4,c5,c6,c7⟩:=hSw;go_simp
   try rfl
  try simp only [Act.put,sT,sZ,sS]
  refine' wpAnyL_take (i:=5) (v:=_) rfl (by kernel_rfl) (by kernel_rfl) (by kernel_rfl) (by kernel_rfl) (fun _ _ _ h=>h) hH (by rfl) ?hyv ?o14
  case hyv=>
   intro wz hSw;obtain ⟨c0,c1,c2,c3,c4,c5,c6,c7⟩:=hSw;go_simp
   try rfl
  try simp only [Act.put,sT,sZ,sS]
  refine' wpAnyL_take (i:=6) (v:=_) rfl (by kernel_rfl) (by kernel_rfl) (by kernel_rfl) (by kernel_rfl) (fun _ _ _ h=>h) hH (by rfl) ?hyv ?o15
  case hyv=>
   intro wz hSw;obtain ⟨c0,c1,c2,c3,c4,c5,c6,c7⟩:=hSw;go_simp
   try rfl
  try simp only [Act.put,sT,sZ,sS]
  refine' wpAnyL_take (i:=7) (v:=_) rfl (by kernel_rfl) (by kernel_rfl) (by kernel_rfl) (by kernel_rfl) (fun _ _ _ h=>h) hH (by rfl) ?hyv ?o16
  case hyv=>
   intro wz hSw;obtain ⟨c0,c1,c2,c3,c4,c5,c6,c7⟩:=hSw;go_simp
   try rfl
  try simp only [Act.put,sT,sZ,sS]
  refine wpAnyL_one (i:=8) rfl (by kernel_rfl) (by rfl) (fun K hK=>?_);go_simp;rw [show IntKind.i64.wrap (rk+1)=rk+1 from i64_in _ (by omega)];refine (hp1 _ _ hd Kd (rk+1) (by omega) (by omega)).mono ?_;rintro e w3 ⟨rfl,h3,k3⟩;have K3:=Kd.trans k3;have q3_5:=co (two_at K3).1 5;have m3_2:=co (two_at K3).2.1 2;simp at q3_5 m3_2;obtain ⟨d3_1_0,d3_1_1,d3_1_2,d3_1_3,d3_1_4,d3_1_5⟩:=hy1 _ (two_at K3).2.2.2;simp at d3_1_0 d3_1_1 d3_1_2 d3_1_3 d3_1_4 d3_1_5;refine hK.out _ _ (fun _=>⟨q3_5,m3_2,d3_1_0,d3_1_1,d3_1_2,d3_1_3,d3_1_4,d3_1_5⟩) ?_;clear hK K
  try simp only [Act.put,sT,sZ,sS]
  refine wpAnyL_done (by kernel_rfl) ?_ _;go_end0;refine ⟨rfl,?_,(two_at K3).2.2.2⟩;rw [HP.out];simp only [Tx.puts_append,Tx.puts_nil];exact h3.fst.fst
end Go.Proofs.YtkfgbhlpjkkgfaaGreatDoor
