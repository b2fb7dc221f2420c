import Derived.Test.YtkfgbhlpjkkgfaaGreatDoorT15
import Derived.Deep.RegionHeld3
import Derived.Deep.CutBlock
set_option linter.unusedVariables false
set_option linter.unusedSimpArgs false
set_option maxHeartbeats 64000000
set_option maxRecDepth 100000
namespace Go.Proofs.YtkfgbhlpjkkgfaaGreatDoor
open Go.RowKit Go.IntWalk
theorem zAO {ok:Nat->Prop} {w W:World} {o p:Obj} (h:Keep (okL (okL ok w.heap.size) (w.heap.size+1)) ((w.alloc o).alloc p) W):W.heap[w.heap.size]?=some o/\W.heap[w.heap.size+1]?=some p/\Keep (okL ok w.heap.size) (w.alloc o) W/\Keep ok w W:=by
 have hs:(w.alloc o).heap.size=w.heap.size+1:=(by simp);have e2:=zAC (w.alloc o) p;rw [hs] at e2;have h1:Keep (okL ok w.heap.size) (w.alloc o) W:=(Keep.alloc _ _ p).trans (h.less fun i hi _=>.inl hi);exact ⟨h1.at,(h.block _ (.inr rfl) (by simp)).trans e2,h1,h1.all⟩
theorem Wr.more2 {ok:Nat->Prop} {w:World} {b:Nat} {t:ByteArray} (h:Wr ok w b t) (o p:Obj):Wr (okL (okL ok w.heap.size) (w.heap.size+1)) ((w.alloc o).alloc p) b t:=by
 have hs:(w.alloc o).heap.size=w.heap.size+1:=(by simp);have:=(h.more o).more p
 rwa [hs] at this
theorem Gl.more2 {ok:Nat->Prop} {w:World} (h:Gl ok w) (o p:Obj):Gl (okL (okL ok w.heap.size) (w.heap.size+1)) ((w.alloc o).alloc p) :=
 ((h.keep ((Keep.alloc ok w o).trans (Keep.alloc ok _ p))).more _).more _
theorem HEx.step2 {ok:Nat->Prop} {w W:World} {cs:List Value} {e:Ex} {L M:Nat} (h:HEx ok w cs e) (k:Keep ok w W):HEx (okL (okL ok L) M) W cs e:=(h.keep k.size k.block).wide fun i hi _=>.inl (.inl hi)
theorem HExs.step2 {ok:Nat->Prop} {w W:World} {v:Value} {l:List Ex} {L M:Nat} (h:HExs ok w v l) (k:Keep ok w W):HExs (okL (okL ok L) M) W v l:=(h.keep k.size k.block).wide fun i hi _=>.inl (.inl hi)
theorem opT_ok:∀ q,q<15->okS (Tx.opT q).1/\okS (Tx.opT q).2.1/\0<=(Tx.opT q).2.2/\(Tx.opT q).2.2<=7:=by unfold okS;decide
theorem shp_ok:∀ q,q<16->okS (Rn.shp q).1:=by unfold okS;decide
theorem pairW_any {ok:Nat->Prop} {w:World} {b:Nat} {t:ByteArray} {op n:Int} {q:Nat} {name:ByteArray} {aS aL:Option Addr} {nS cS nL cL:Nat} {S:List (List Tm)} (hw:Wr ok w b t) (hg:Gl ok w)  {e0 e1:Ex} (gF:HExs ok w (.slice aL nL cL) [e0,e1]) (lI:PartDoes e0) (rP:PartDoes e1) (hq:q<15) :
  Calls Tryz.prog 258 #[.pointer (some ⟨b,0,none⟩),.agg #[.int .i64 op,.int .i64 (q:Int),.int .i64 n,.string name,.slice aS nS cS,.slice aL nL cL]] w (WPost ok w b t (Tx.pairP q (Tx.bares [e0,e1]))):=by
 obtain ⟨P,hP⟩:=nmQ (Tx.pairP q (Tx.bares [e0,e1]));rw [<-hP];unfold Tx.pairP at hP;rw [Int.toNat_natCast] at hP;obtain ⟨c0,c1,c2⟩:=hg.o.2 q hq;obtain ⟨nA,iT,sQ,JX⟩:=opT_ok q hq;generalize Tx.opT q=oq at hP c0 c1 c2 nA iT sQ JX;obtain ⟨wd,sg,rk⟩:=oq
 dsimp only at hP c0 c1 c2 nA iT sQ JX
 have dP:=zAA hP;clear hP;have xD:=gF;obtain ⟨lO,aC,av,bL,oL,oa,dW⟩:=gF.get (by simp);subst oa;simp at lO;subst lO;unfold maxLen at av;have bS:=hw.more2 (.cells #[.int .i64 op,.int .i64 (q:Int),.int .i64 n,.string name,.slice aS nS cS,.slice (some ⟨bL,oL,none⟩) 2 cL] 54 (0,0)) (.cells #[.string wd,.string sg,.int .i64 rk] 264 (0,0));have bV:=hg.more2 (.cells #[.int .i64 op,.int .i64 (q:Int),.int .i64 n,.string name,.slice aS nS cS,.slice (some ⟨bL,oL,none⟩) 2 cL] 54 (0,0)) (.cells #[.string wd,.string sg,.int .i64 rk] 264 (0,0));have K0:=Keep.refl (okL (okL ok w.heap.size) (w.heap.size+1)) ((w.alloc (.cells #[.int .i64 op,.int .i64 (q:Int),.int .i64 n,.string name,.slice aS nS cS,.slice (some ⟨bL,oL,none⟩) 2 cL] 54 (0,0))).alloc (.cells #[.string wd,.string sg,.int .i64 rk] 264 (0,0)));have aU:=fun (W:World) (T:ByteArray) (h1:Wr (okL (okL ok w.heap.size) (w.heap.size+1)) W b T) (k1:Keep (okL (okL ok w.heap.size) (w.heap.size+1)) ((w.alloc (.cells #[.int .i64 op,.int .i64 (q:Int),.int .i64 n,.string name,.slice aS nS cS,.slice (some ⟨bL,oL,none⟩) 2 cL] 54 (0,0))).alloc (.cells #[.string wd,.string sg,.int .i64 rk] 264 (0,0))) W)=>zCG h1 (bV.keep k1) (xD.step2 (zAO k1).2.2.2) (l:=[e0,e1]) (by intro x hx;simp at hx;rcases hx with rfl | rfl;exact lI;exact rP);obtain ⟨y0,iO,gy⟩:=dW 0 (by simp);simp only [List.getElem_cons_zero,List.getElem_cons_succ] at iO;have my:=fun (W:World) (T:ByteArray) (h1:Wr (okL (okL ok w.heap.size) (w.heap.size+1)) W b T) (k1:Keep (okL (okL ok w.heap.size) (w.heap.size+1)) ((w.alloc (.cells #[.int .i64 op,.int .i64 (q:Int),.int .i64 n,.string name,.slice aS nS cS,.slice (some ⟨bL,oL,none⟩) 2 cL] 54 (0,0))).alloc (.cells #[.string wd,.string sg,.int .i64 rk] 264 (0,0))) W) (least:Int) (eO:0<=least) (kd:least<=8)=>lI (okL (okL ok w.heap.size) (w.heap.size+1)) W b T y0 least (iO.step2 (zAO k1).2.2.2) (bV.keep k1) h1 eO kd;obtain ⟨o0,Dx,Cf,Cc,DJ,CM,DA,Dw,DI,py⟩:=y0
 dsimp only at my gy
 obtain ⟨y1,ie,e7⟩:=dW 1 (by simp);simp only [List.getElem_cons_zero,List.getElem_cons_succ] at ie;have qF:=fun (W:World) (T:ByteArray) (h1:Wr (okL (okL ok w.heap.size) (w.heap.size+1)) W b T) (k1:Keep (okL (okL ok w.heap.size) (w.heap.size+1)) ((w.alloc (.cells #[.int .i64 op,.int .i64 (q:Int),.int .i64 n,.string name,.slice aS nS cS,.slice (some ⟨bL,oL,none⟩) 2 cL] 54 (0,0))).alloc (.cells #[.string wd,.string sg,.int .i64 rk] 264 (0,0))) W) (least:Int) (eO:0<=least) (kd:least<=8)=>rP (okL (okL ok w.heap.size) (w.heap.size+1)) W b T y1 least (ie.step2 (zAO k1).2.2.2) (bV.keep k1) h1 eO kd;obtain ⟨o1,xv,wU,wZ,xw,xt,xr,xi,xf,wi⟩:=y1
 dsimp only at qF e7
 clear dW gF xD;have d0:=(zAS (p:=⟨4,q*3,none⟩) (Below.heap_alloc w (.cells #[.int .i64 op,.int .i64 (q:Int),.int .i64 n,.string name,.slice aS nS cS,.slice (some ⟨bL,oL,none⟩) 2 cL] 54 (0,0)) 4 hg.o.1)).trans c0;have d1:=(zAS (p:=⟨4,q*3+1,none⟩) (Below.heap_alloc w (.cells #[.int .i64 op,.int .i64 (q:Int),.int .i64 n,.string name,.slice aS nS cS,.slice (some ⟨bL,oL,none⟩) 2 cL] 54 (0,0)) 4 hg.o.1)).trans c1;have d2:=(zAS (p:=⟨4,q*3+2,none⟩) (Below.heap_alloc w (.cells #[.int .i64 op,.int .i64 (q:Int),.int .i64 n,.string name,.slice aS nS cS,.slice (some ⟨bL,oL,none⟩) 2 cL] 54 (0,0)) 4 hg.o.1)).trans c2;clear c0 c1 c2;by_cases hz:sg.size=0
 ·have HP:Hid (P=[wd,⟨#[40]⟩]++(Tx.commas Tx.exprP [e0,e1]++[⟨#[41]⟩])):=zAA (by rw [dP.out,if_pos hz,Tx.commas_bares])
  clear dP;have AP:sg=⟨#[]⟩:=ByteArray.ext (Array.eq_empty_of_size_eq_zero hz);subst AP;go_enter Tryz.func258,Tryz.ntmps258;go_wp2_with fail;refine (put2 bS (by simp) wd ⟨#[40]⟩ nA (by unfold okS;decide)).mono ?_;rintro e w1 ⟨rfl,h1,k1⟩;have K1:=k1;have gd:=(zAO K1).1;have xq:=(zAO K1).2.1;have lV:=co gd 5;simp at lV;go_wp2_with fail;refine (aU _ _ h1 K1).mono ?_;rintro e w2 ⟨rfl,h2,k2⟩;have K2:=K1.trans k2;have dq:=(zAO K2).1;have w0:=(zAO K2).2.1;go_wp2_with fail;refine (zAU h2 rfl ⟨#[41]⟩ (by unfold okS;decide)).mono ?_;rintro e w3 ⟨rfl,h3,k3⟩;have K3:=K2.trans k3;have iI:=(zAO K3).1;have QS:=(zAO K3).2.1;go_wp2;refine bodyPost_ret (results_none rfl _ _ _) rfl ?_;refine ⟨rfl,?_,(zAO K3).2.2.2⟩;rw [HP.out];simp only [Tx.puts_append,Tx.puts_nil];exact h3.fst.fst
 have cG:=zEC hz;by_cases h3:rk=3
 ·have HP:Hid (P=Tx.partP e0 4++([sg]++Tx.partP e1 (rk+1))):=zAA (by rw [dP.out,if_neg hz,if_pos h3];rfl)
  clear dP;subst h3;go_enter Tryz.func258,Tryz.ntmps258;obtain ⟨fy,fO,fK,fD,fU,fW⟩:=gy _ (zAO K0).2.2.2;simp at fy;simp at fO;simp at fK;simp at fD;simp at fU;simp at fW;go_wp2_with fail;refine (my _ _ bS K0 4 (by omega) (by omega)).mono ?_;rintro e w1 ⟨rfl,h1,k1⟩;have K1:=k1;have gd:=(zAO K1).1;have xq:=(zAO K1).2.1;have oC:=co xq 1;simp at oC;go_wp2_with fail;refine (zAU h1 rfl sg iT).mono ?_;rintro e w2 ⟨rfl,h2,k2⟩;have K2:=K1.trans k2;have dq:=(zAO K2).1;have w0:=(zAO K2).2.1;have iY:=co dq 5;simp at iY;have lM:=co w0 2;simp at lM;obtain ⟨dS,d8,d7,dQ,ed,dR⟩:=e7 _ (zAO K2).2.2.2;simp at dS;simp at d8;simp at d7;simp at dQ;simp at ed;simp at dR;go_upto_region 11 with fail;refine zAE (fun w'=>w'.cell? ⟨w.heap.size,5,none⟩=some (.slice (some ⟨bL,oL,none⟩) 2 cL)/\w'.cell? ⟨w.heap.size+1,2,none⟩=some (.int .i64 3)/\w'.cell? ⟨bL,oL+6,none⟩=some (.int .i64 o1)/\w'.cell? ⟨bL,oL+6+1,none⟩=some (.int .i64 xv)/\w'.cell? ⟨bL,oL+6+2,none⟩=some (.int .i64 wU)/\w'.cell? ⟨bL,oL+6+3,none⟩=some (.string wZ)/\w'.cell? ⟨bL,oL+6+4,none⟩=some (.slice xw xt xr)/\w'.cell? ⟨bL,oL+6+5,none⟩=some (.slice xi xf wi)) (fun _=>false) (by kernel_rfl) ?_;have Kd:=K2.trans (Keep.ofBelow (Below.refl _ w2).drew);have hd:=h2.under (Below.refl _ w2).drew;have hH:(fun w'=>w'.cell? ⟨w.heap.size,5,none⟩=some (.slice (some ⟨bL,oL,none⟩) 2 cL)/\w'.cell? ⟨w.heap.size+1,2,none⟩=some (.int .i64 3)/\w'.cell? ⟨bL,oL+6,none⟩=some (.int .i64 o1)/\w'.cell? ⟨bL,oL+6+1,none⟩=some (.int .i64 xv)/\w'.cell? ⟨bL,oL+6+2,none⟩=some (.int .i64 wU)/\w'.cell? ⟨bL,oL+6+3,none⟩=some (.string wZ)/\w'.cell? ⟨bL,oL+6+4,none⟩=some (.slice xw xt xr)/\w'.cell? ⟨bL,oL+6+5,none⟩=some (.slice xi xf wi)) w2.drew:=⟨iY,lM,dS,d8,d7,dQ,ed,dR⟩;simp only [] at hH;generalize w2.drew=wd at Kd hd hH ⊢;clear iY lM dS d8 d7 dQ ed dR d0 d1 d2 bS bV K0 hw hg K1 K2 h1 h2 k2 k1 gd xq dq w0 aU my gy fy fO fK fD fU fW oC;refine' tjQ 0 hH ?hyv ?o1
  case hyv=>
   intro wz ae;obtain ⟨c0,c1,c2,c3,c4,c5,c6,c7⟩:=ae;go_simp
   try rfl
  try simp only [Act.put,sT,sZ,sS]
  refine' tjQ 1 hH ?hyv ?o2
  case hyv=>
   intro wz ae;obtain ⟨c0,c1,c2,c3,c4,c5,c6,c7⟩:=ae;go_simp
   try rfl
  try simp only [Act.put,sT,sZ,sS]
  refine' tjQ 2 hH ?hyv ?o3
  case hyv=>
   intro wz ae;obtain ⟨c0,c1,c2,c3,c4,c5,c6,c7⟩:=ae;go_simp
   try rfl
  try simp only [Act.put,sT,sZ,sS]
  refine' tjQ 3 hH ?hyv ?o4
  case hyv=>
   intro wz ae;obtain ⟨c0,c1,c2,c3,c4,c5,c6,c7⟩:=ae;go_simp
   try rfl
  try simp only [Act.put,sT,sZ,sS]
  refine' tjQ 4 hH ?hyv ?o5
  case hyv=>
   intro wz ae;obtain ⟨c0,c1,c2,c3,c4,c5,c6,c7⟩:=ae;go_simp
   try rfl
  try simp only [Act.put,sT,sZ,sS]
  refine' tjQ 5 hH ?hyv ?o6
  case hyv=>
   intro wz ae;obtain ⟨c0,c1,c2,c3,c4,c5,c6,c7⟩:=ae;go_simp
   try rfl
  try simp only [Act.put,sT,sZ,sS]
  refine' tjQ 6 hH ?hyv ?o7
  case hyv=>
   intro wz ae;obtain ⟨c0,c1,c2,c3,c4,c5,c6,c7⟩:=ae;go_simp
   try rfl
  try simp only [Act.put,sT,sZ,sS]
  refine' tjQ 7 hH ?hyv ?o8
  case hyv=>
   intro wz ae;obtain ⟨c0,c1,c2,c3,c4,c5,c6,c7⟩:=ae;go_simp
   try rfl
  try simp only [Act.put,sT,sZ,sS]
  refine tnQ 8 (fun K hK=>?_);go_simp;rw [show IntKind.i64.wrap 4=4 from i64_in _ (by omega)];refine (qF _ _ hd Kd 4 (by omega) (by omega)).mono ?_;rintro e w3 ⟨rfl,h3,k3⟩;have K3:=Kd.trans k3;have lJ:=co (zAO K3).1 5;have px:=co (zAO K3).2.1 2;simp at lJ px;obtain ⟨fz,fC,fX,fV,fM,fE⟩:=e7 _ (zAO K3).2.2.2;simp at fz fC fX fV fM fE;refine hK.out _ _ (fun _=>⟨lJ,px,fz,fC,fX,fV,fM,fE⟩) ?_;clear hK K
  try simp only [Act.put,sT,sZ,sS]
  refine zAF (by kernel_rfl) ?_ _;go_end0;refine ⟨rfl,?_,(zAO K3).2.2.2⟩;rw [HP.out];simp only [Tx.puts_append,Tx.puts_nil];exact h3.fst.fst
 ·have HP:Hid (P=Tx.partP e0 rk++([sg]++Tx.partP e1 (rk+1))):=zAA (by rw [dP.out,if_neg hz,if_neg h3];rfl)
  clear dP;have JR:(rk==3)=false:=(by simp [h3]);go_enter Tryz.func258,Tryz.ntmps258;obtain ⟨fy,fO,fK,fD,fU,fW⟩:=gy _ (zAO K0).2.2.2;simp at fy;simp at fO;simp at fK;simp at fD;simp at fU;simp at fW;go_wp2_with fail;refine (my _ _ bS K0 rk (by omega) (by omega)).mono ?_;rintro e w1 ⟨rfl,h1,k1⟩;have K1:=k1;have gd:=(zAO K1).1;have xq:=(zAO K1).2.1;have oC:=co xq 1;simp at oC;go_wp2_with fail;refine (zAU h1 rfl sg iT).mono ?_;rintro e w2 ⟨rfl,h2,k2⟩;have K2:=K1.trans k2;have dq:=(zAO K2).1;have w0:=(zAO K2).2.1;have iY:=co dq 5;simp at iY;have lM:=co w0 2;simp at lM;obtain ⟨dS,d8,d7,dQ,ed,dR⟩:=e7 _ (zAO K2).2.2.2;simp at dS;simp at d8;simp at d7;simp at dQ;simp at ed;simp at dR;go_upto_region 11 with fail;refine zAE (fun w'=>w'.cell? ⟨w.heap.size,5,none⟩=some (.slice (some ⟨bL,oL,none⟩) 2 cL)/\w'.cell? ⟨w.heap.size+1,2,none⟩=some (.int .i64 rk)/\w'.cell? ⟨bL,oL+6,none⟩=some (.int .i64 o1)/\w'.cell? ⟨bL,oL+6+1,none⟩=some (.int .i64 xv)/\w'.cell? ⟨bL,oL+6+2,none⟩=some (.int .i64 wU)/\w'.cell? ⟨bL,oL+6+3,none⟩=some (.string wZ)/\w'.cell? ⟨bL,oL+6+4,none⟩=some (.slice xw xt xr)/\w'.cell? ⟨bL,oL+6+5,none⟩=some (.slice xi xf wi)) (fun _=>false) (by kernel_rfl) ?_;have Kd:=K2.trans (Keep.ofBelow (Below.refl _ w2).drew);have hd:=h2.under (Below.refl _ w2).drew;have hH:(fun w'=>w'.cell? ⟨w.heap.size,5,none⟩=some (.slice (some ⟨bL,oL,none⟩) 2 cL)/\w'.cell? ⟨w.heap.size+1,2,none⟩=some (.int .i64 rk)/\w'.cell? ⟨bL,oL+6,none⟩=some (.int .i64 o1)/\w'.cell? ⟨bL,oL+6+1,none⟩=some (.int .i64 xv)/\w'.cell? ⟨bL,oL+6+2,none⟩=some (.int .i64 wU)/\w'.cell? ⟨bL,oL+6+3,none⟩=some (.string wZ)/\w'.cell? ⟨bL,oL+6+4,none⟩=some (.slice xw xt xr)/\w'.cell? ⟨bL,oL+6+5,none⟩=some (.slice xi xf wi)) w2.drew:=⟨iY,lM,dS,d8,d7,dQ,ed,dR⟩;simp only [] at hH;generalize w2.drew=wd at Kd hd hH ⊢;clear iY lM dS d8 d7 dQ ed dR d0 d1 d2 bS bV K0 hw hg K1 K2 h1 h2 k2 k1 gd xq dq w0 aU my gy fy fO fK fD fU fW oC;refine' tjQ 0 hH ?hyv ?o9
  case hyv=>
   intro wz ae;obtain ⟨c0,c1,c2,c3,c4,c5,c6,c7⟩:=ae;go_simp
   try rfl
  try simp only [Act.put,sT,sZ,sS]
  refine' tjQ 1 hH ?hyv ?o10
  case hyv=>
   intro wz ae;obtain ⟨c0,c1,c2,c3,c4,c5,c6,c7⟩:=ae;go_simp
   try rfl
  try simp only [Act.put,sT,sZ,sS]
  refine' tjQ 2 hH ?hyv ?o11
  case hyv=>
   intro wz ae;obtain ⟨c0,c1,c2,c3,c4,c5,c6,c7⟩:=ae;go_simp
   try rfl
  try simp only [Act.put,sT,sZ,sS]
  refine' tjQ 3 hH ?hyv ?o12
  case hyv=>
   intro wz ae;obtain ⟨c0,c1,c2,c3,c4,c5,c6,c7⟩:=ae;go_simp
   try rfl
  try simp only [Act.put,sT,sZ,sS]
  refine' tjQ 4 hH ?hyv ?o13
  case hyv=>
   intro wz ae;obtain ⟨c0,c1,c2,c3,c4,c5,c6,c7⟩:=ae;go_simp
   try rfl
  try simp only [Act.put,sT,sZ,sS]
  refine' tjQ 5 hH ?hyv ?o14
  case hyv=>
   intro wz ae;obtain ⟨c0,c1,c2,c3,c4,c5,c6,c7⟩:=ae;go_simp
   try rfl
  try simp only [Act.put,sT,sZ,sS]
  refine' tjQ 6 hH ?hyv ?o15
  case hyv=>
   intro wz ae;obtain ⟨c0,c1,c2,c3,c4,c5,c6,c7⟩:=ae;go_simp
   try rfl
  try simp only [Act.put,sT,sZ,sS]
  refine' tjQ 7 hH ?hyv ?o16
  case hyv=>
   intro wz ae;obtain ⟨c0,c1,c2,c3,c4,c5,c6,c7⟩:=ae;go_simp
   try rfl
  try simp only [Act.put,sT,sZ,sS]
  refine tnQ 8 (fun K hK=>?_);go_simp;rw [show IntKind.i64.wrap (rk+1)=rk+1 from i64_in _ (by omega)];refine (qF _ _ hd Kd (rk+1) (by omega) (by omega)).mono ?_;rintro e w3 ⟨rfl,h3,k3⟩;have K3:=Kd.trans k3;have lJ:=co (zAO K3).1 5;have px:=co (zAO K3).2.1 2;simp at lJ px;obtain ⟨fz,fC,fX,fV,fM,fE⟩:=e7 _ (zAO K3).2.2.2;simp at fz fC fX fV fM fE;refine hK.out _ _ (fun _=>⟨lJ,px,fz,fC,fX,fV,fM,fE⟩) ?_;clear hK K
  try simp only [Act.put,sT,sZ,sS]
  refine zAF (by kernel_rfl) ?_ _;go_end0;refine ⟨rfl,?_,(zAO K3).2.2.2⟩;rw [HP.out];simp only [Tx.puts_append,Tx.puts_nil];exact h3.fst.fst
theorem formW_any {ok:Nat->Prop} {w:World} {b:Nat} {t:ByteArray} {n:Int} {p q:Nat} {name:ByteArray} {aS aL:Option Addr} {nS cS nL cL:Nat} {S:List (List Tm)} {L:List Ex} (hw:Wr ok w b t) (hg:Gl ok w)  (pO:HSizes ok w (.slice aS nS cS) S) (gF:HExs ok w (.slice aL nL cL) L) (hD:∀ x ∈ L,PartDoes x) (hZ:∀ s ∈ S,okZ s) (hp:p<16) (hq:q<15) :
  Calls Tryz.prog 261 #[.pointer (some ⟨b,0,none⟩),.agg #[.int .i64 (p:Int),.int .i64 (q:Int),.int .i64 n,.string name,.slice aS nS cS,.slice aL nL cL]] w (WPost ok w b t (Tx.formP p q S (Tx.bares L))):=by
 obtain ⟨P,hP⟩:=nmQ (Tx.formP p q S (Tx.bares L));rw [<-hP];unfold Tx.formP at hP;rw [Int.toNat_natCast,Int.toNat_natCast,Tx.commas_bares] at hP;obtain ⟨c0,_,_⟩:=hg.o.2 q hq;obtain ⟨g0,_,_,_,_,_⟩:=hg.s.2 p hp;have nA:=(opT_ok q hq).1;have iT:=shp_ok p hp;have LR:=hg.o.1;have wW:=hg.s.1;have jI:=hg.k2;generalize (Tx.opT q).1=wd at hP c0 nA;generalize (Rn.shp p).1=sw at hP g0 iT;have dP:=zAA hP;clear hP;have bS:=hw.more (.cells #[.int .i64 (p:Int),.int .i64 (q:Int),.int .i64 n,.string name,.slice aS nS cS,.slice aL nL cL] 54 (0,0));have bV:=(hg.keep (Keep.alloc ok w (.cells #[.int .i64 (p:Int),.int .i64 (q:Int),.int .i64 n,.string name,.slice aS nS cS,.slice aL nL cL] 54 (0,0)))).more w.heap.size;have K0:=Keep.refl (okL ok w.heap.size) (w.alloc (.cells #[.int .i64 (p:Int),.int .i64 (q:Int),.int .i64 n,.string name,.slice aS nS cS,.slice aL nL cL] 54 (0,0)));have g1:=(zAS (p:=⟨3,p*6,none⟩) (Below.heap_alloc w (.cells #[.int .i64 (p:Int),.int .i64 (q:Int),.int .i64 n,.string name,.slice aS nS cS,.slice aL nL cL] 54 (0,0)) 3 wW)).trans g0;have aU:=fun (W:World) (T:ByteArray) (h1:Wr (okL ok w.heap.size) W b T) (k1:Keep (okL ok w.heap.size) (w.alloc (.cells #[.int .i64 (p:Int),.int .i64 (q:Int),.int .i64 n,.string name,.slice aS nS cS,.slice aL nL cL] 54 (0,0))) W)=>zCG h1 (bV.keep k1) (gF.step k1.all) hD;have AT:=fun (W:World) (k1:Keep (okL ok w.heap.size) (w.alloc (.cells #[.int .i64 (p:Int),.int .i64 (q:Int),.int .i64 n,.string name,.slice aS nS cS,.slice aL nL cL] 54 (0,0))) W)=>(pO.step (L:=w.heap.size) k1.all).at;have bo:=fun (W:World) (T:ByteArray) (h1:Wr (okL ok w.heap.size) W b T) (k1:Keep (okL ok w.heap.size) (w.alloc (.cells #[.int .i64 (p:Int),.int .i64 (q:Int),.int .i64 n,.string name,.slice aS nS cS,.slice aL nL cL] 54 (0,0))) W) (v:Value) (s:List Tm) (hv:HTerms (okL ok w.heap.size) W v s) (hs:okZ s)=>zCk h1 (bV.keep k1) hv hs;obtain ⟨QG,Qt,NL,ET,kz,_⟩:=pO.at;injection NL with jw iF jX;subst jw jX;have HN:=zAA iF;rw [<-iF] at ET;clear iF;unfold maxLen at kz;have zY:=zAA AT;have HZ:=zAA hZ;clear AT hZ hD pO
 -- what comes behind the operator
 have zZ:Hid (∀ (W:World) (T:ByteArray) (h1:Wr (okL ok w.heap.size) W b T) (k1:Keep (okL ok w.heap.size) (w.alloc (.cells #[.int .i64 (p:Int),.int .i64 (q:Int),.int .i64 n,.string name,.slice aS nS cS,.slice aL nL cL] 54 (0,0))) W),True):=zAA (fun _ _ _ _=>True.intro);clear zZ;have HC:Hid (∀ W,Keep (okL ok w.heap.size) (w.alloc (.cells #[.int .i64 (p:Int),.int .i64 (q:Int),.int .i64 n,.string name,.slice aS nS cS,.slice aL nL cL] 54 (0,0))) W->W.cell? ⟨4,q*3,none⟩=some (.string wd)):=zAA (fun W k1=>(zAS (p:=⟨4,q*3,none⟩) (k1.all.block 4 jI LR)).trans c0);by_cases xy:q=0
 ·have HP:Hid (P=[sw,⟨#[40]⟩]++([]++(Tx.commas Tx.exprP L++(Tx.sizesP S++[⟨#[41]⟩])))):=zAA (by rw [dP.out,if_pos (by omega)])
  clear dP HC;have DP:((q:Int) != 0)=false:=(by simp [xy]);have HQ:=zAA xy;clear xy;go_enter Tryz.func261,Tryz.ntmps261;go_wp2_with fail;refine (put2 bS (by simp) sw ⟨#[40]⟩ iT (by unfold okS;decide)).mono ?_;rintro e w1 ⟨rfl,h1,k1⟩;have K1:=k1;have gd:=K1.at;have lC:=co gd 1;simp at lC;have lV:=co gd 5;simp at lV;go_wp2_with fail;refine (aU _ _ h1 K1).mono ?_;rintro e w5 ⟨rfl,h5,k5⟩;have K5:=K1.trans k5;obtain ⟨t5,po⟩:=nmQ (Tx.puts (Tx.puts t [sw,⟨#[40]⟩]) (Tx.commas Tx.exprP L));rw [<-po] at h5;have kx:=zAA po;clear po;have pG:=K5.at;have pK:=co pG 4;simp at pK;go_upto_block 0 with fail;go_wp2_with fail;go_loopg [34] nS (fun gk v wr=>∃ i,i<=nS/\gk=nS-i/\v=.int .i64 (i:Nat)/\Hid (Wr (okL ok w.heap.size) wr b (Tx.puts t5 (Tx.rowP (fun _ s=>[⟨#[44,32]⟩]++Tx.sizeP s) 0 (S.take i))))/\Keep (okL ok w.heap.size) (w.alloc (.cells #[.int .i64 (p:Int),.int .i64 (q:Int),.int .i64 n,.string name,.slice aS nS cS,.slice aL nL cL] 54 (0,0))) wr)
  case atStart=>exact ⟨0,Nat.zero_le _,rfl,rfl,zAA (by simpa [Tx.puts,Tx.rowP] using h5),K5⟩
  case round=>
   obtain ⟨i,hi,rfl,rfl,H,kr⟩:=hrel;by_cases ak:i<nS
   case neg=>
    have bH:i=nS:=(by omega);subst bH;have da:=H.out;rw [List.take_of_length_le (by have:=HN.out;omega)] at da;clear H;go_wp2_with fail;refine (zAU da rfl ⟨#[41]⟩ (by unfold okS;decide)).mono ?_;rintro e w7 ⟨rfl,h7,k7⟩;go_wp2;go_end0;refine ⟨rfl,?_,(kr.trans k7).all⟩;rw [HP.out];simp only [Tx.puts_append,Tx.puts_nil];rw [kx.out] at h7;exact h7.fst
   case pos=>
    have ap:i<S.length:=(by have:=HN.out;omega);have HX:=zAA (Tx.puts_take (fun _ s=>[⟨#[44,32]⟩]++Tx.sizeP s) t5 S i ap);have ep:=HZ.out S[i] (List.getElem_mem ap);obtain ⟨fj,bE,e1,_,_,ai⟩:=zY.out wr kr;injection e1 with e2 e3 e4;subst e2 e4;obtain ⟨bl,o,au,nu,cu,e5,iA,d0,Ae⟩:=ai i ap;subst e5;clear ai e3;have da:=H.out;generalize S[i]=x at HX ep Ae;generalize Tx.puts t5 (Tx.rowP (fun _ s=>[⟨#[44,32]⟩]++Tx.sizeP s) 0 (S.take i))=ti at HX da H;clear H;go_wp2_with fail;refine (zAU da rfl ⟨#[44,32]⟩ (by unfold okS;decide)).mono ?_;rintro e w7 ⟨rfl,h7,k7⟩;go_wp2_with fail;refine (bo _ _ h7 (kr.trans k7) _ x (Ae.keep k7.size k7.block) ep).mono ?_;rintro e w8 ⟨rfl,h8,k8⟩;go_wp2_with fail;go_roundg (nS-(i+1))
    case measure=>omega
    case rel=>exact ⟨i+1,by omega,rfl,by go_num,zAA (by rw [HX.out,Tx.puts_append];exact h8),kr.trans (k7.trans k8)⟩
 ·have HP:Hid (P=[sw,⟨#[40]⟩]++([wd,⟨#[44,32]⟩]++(Tx.commas Tx.exprP L++(Tx.sizesP S++[⟨#[41]⟩])))):=zAA (by rw [dP.out,if_neg (by omega)])
  clear dP;have DP:((q:Int) != 0)=true:=(by simp [xy]);go_enter Tryz.func261,Tryz.ntmps261;go_wp2_with fail;refine (put2 bS (by simp) sw ⟨#[40]⟩ iT (by unfold okS;decide)).mono ?_;rintro e w1 ⟨rfl,h1,k1⟩;have K1:=k1;have gd:=K1.at;have lC:=co gd 1;simp at lC;have FA:=HC.out _ K1;go_wp2_with fail;refine (put2 h1 rfl wd ⟨#[44,32]⟩ nA (by unfold okS;decide)).mono ?_;rintro e w2 ⟨rfl,h2,k2⟩;have K2:=K1.trans k2;have dq:=K2.at;have iY:=co dq 5;simp at iY;go_wp2_with fail;refine (aU _ _ h2 K2).mono ?_;rintro e w5 ⟨rfl,h5,k5⟩;have K5:=K2.trans k5;obtain ⟨t5,po⟩:=nmQ (Tx.puts (Tx.puts (Tx.puts t [sw,⟨#[40]⟩]) [wd,⟨#[44,32]⟩]) (Tx.commas Tx.exprP L));rw [<-po] at h5;have kx:=zAA po;clear po;have pG:=K5.at;have pK:=co pG 4;simp at pK;go_upto_block 0 with fail;go_wp2_with fail;go_loopg [34] nS (fun gk v wr=>∃ i,i<=nS/\gk=nS-i/\v=.int .i64 (i:Nat)/\Hid (Wr (okL ok w.heap.size) wr b (Tx.puts t5 (Tx.rowP (fun _ s=>[⟨#[44,32]⟩]++Tx.sizeP s) 0 (S.take i))))/\Keep (okL ok w.heap.size) (w.alloc (.cells #[.int .i64 (p:Int),.int .i64 (q:Int),.int .i64 n,.string name,.slice aS nS cS,.slice aL nL cL] 54 (0,0))) wr)
  case atStart=>exact ⟨0,Nat.zero_le _,rfl,rfl,zAA (by simpa [Tx.puts,Tx.rowP] using h5),K5⟩
  case round=>
   obtain ⟨i,hi,rfl,rfl,H,kr⟩:=hrel;by_cases ak:i<nS
   case neg=>
    have bH:i=nS:=(by omega);subst bH;have da:=H.out;rw [List.take_of_length_le (by have:=HN.out;omega)] at da;clear H;go_wp2_with fail;refine (zAU da rfl ⟨#[41]⟩ (by unfold okS;decide)).mono ?_;rintro e w7 ⟨rfl,h7,k7⟩;go_wp2;go_end0;refine ⟨rfl,?_,(kr.trans k7).all⟩;rw [HP.out];simp only [Tx.puts_append,Tx.puts_nil];rw [kx.out] at h7;exact h7.fst
   case pos=>
    have ap:i<S.length:=(by have:=HN.out;omega);have HX:=zAA (Tx.puts_take (fun _ s=>[⟨#[44,32]⟩]++Tx.sizeP s) t5 S i ap);have ep:=HZ.out S[i] (List.getElem_mem ap);obtain ⟨fj,bE,e1,_,_,ai⟩:=zY.out wr kr;injection e1 with e2 e3 e4;subst e2 e4;obtain ⟨bl,o,au,nu,cu,e5,iA,d0,Ae⟩:=ai i ap;subst e5;clear ai e3;have da:=H.out;generalize S[i]=x at HX ep Ae;generalize Tx.puts t5 (Tx.rowP (fun _ s=>[⟨#[44,32]⟩]++Tx.sizeP s) 0 (S.take i))=ti at HX da H;clear H;go_wp2_with fail;refine (zAU da rfl ⟨#[44,32]⟩ (by unfold okS;decide)).mono ?_;rintro e w7 ⟨rfl,h7,k7⟩;go_wp2_with fail;refine (bo _ _ h7 (kr.trans k7) _ x (Ae.keep k7.size k7.block) ep).mono ?_;rintro e w8 ⟨rfl,h8,k8⟩;go_wp2_with fail;go_roundg (nS-(i+1))
    case measure=>omega
    case rel=>exact ⟨i+1,by omega,rfl,by go_num,zAA (by rw [HX.out,Tx.puts_append];exact h8),kr.trans (k7.trans k8)⟩
end Go.Proofs.YtkfgbhlpjkkgfaaGreatDoor
namespace Go.Proofs.YtkfgbhlpjkkgfaaGreatDoor
open Go.RowKit Go.IntWalk
mutual
def okE:Ex->Prop
 | .mk op k n name S L=>Rn.formOk (.mk op k n name S L)=true/\(0<=n/\n<1000000000000000000)/\okS name/\(∀ s ∈ S,okZ s)/\okEs L
def okEs:List Ex->Prop
 | []=>True
 | x :: l=>okE x/\okEs l
end
theorem okEs_mem:∀ {l:List Ex},okEs l->∀ x ∈ l,okE x
 | [],_,x,hx=>by simp at hx
 | y :: l,h,x,hx=>by
  rw [okEs] at h;rcases List.mem_cons.1 hx with rfl | hm
  ·exact h.1
  ·exact okEs_mem h.2 x hm
theorem zDk {op k n:Int} {name:ByteArray} {S:List (List Tm)} {L:List Ex} (h:Rn.formOk (.mk op k n name S L)=true) :
  (1<=op/\op<=15)/\(Rn.shp op.toNat).2.1<=(L.length:Int)/\(L.length:Int)<=(Rn.shp op.toNat).2.2.1/\(S.length:Int)=(Rn.shp op.toNat).2.2.2.1/\(Rn.shp op.toNat).2.2.2.2.1<=k/\k<=(Rn.shp op.toNat).2.2.2.2.2/\Rn.numOk op n=true:=by
 simp only [Rn.formOk,Bool.and_eq_true,decide_eq_true_eq,Ex.op,Ex.k,Ex.n,Ex.S,Ex.L] at h;obtain ⟨h0,⟨⟨⟨⟨⟨⟨h1,h2⟩,h3⟩,h4⟩,h5⟩,h6⟩,h7⟩⟩:=h;exact ⟨of_decide_eq_true h0,of_decide_eq_true h1,of_decide_eq_true h2,of_decide_eq_true h3,of_decide_eq_true h4,of_decide_eq_true h5,h6⟩
theorem opOk_of {op k n:Int} {name:ByteArray} {S:List (List Tm)} {L:List Ex} (h:Rn.formOk (.mk op k n name S L)=true):opOk op k:=by
 obtain ⟨h0,_,_,_,h4,h5,_⟩:=zDk h;intro xp;rcases xp with rfl | rfl
 ·have a:(Rn.shp (4:Int).toNat).2.2.2.2.1=13:=by decide
  have c:(Rn.shp (4:Int).toNat).2.2.2.2.2=14:=(by decide);omega
 ·have a:(Rn.shp (5:Int).toNat).2.2.2.2.1=1:=by decide
  have c:(Rn.shp (5:Int).toNat).2.2.2.2.2=12:=(by decide);omega
theorem zFZ (v:Bool) (w:World):Calls Tryz.prog 257 #[.bool v] w fun e w'=>e=.returned (.string (if v=true then ⟨#[116,114,117,101]⟩ else ⟨#[102,97,108,115,101]⟩))/\w'=w:=by
 have Aq:Calls Tryz.prog 265 #[.bool v] w fun e w'=>e=.returned (.string (if v=true then ⟨#[116,114,117,101]⟩ else ⟨#[102,97,108,115,101]⟩))/\w'=w:=by
  cases v
  ·go_enter Tryz.func265,Tryz.ntmps265
   go_wp2;go_ret;exact ⟨rfl,rfl⟩
  ·go_enter Tryz.func265,Tryz.ntmps265
   go_wp2;go_ret;exact ⟨rfl,rfl⟩
 generalize (if v=true then (⟨#[116,114,117,101]⟩:ByteArray) else ⟨#[102,97,108,115,101]⟩)=sv at Aq ⊢;go_enter Tryz.func257,Tryz.ntmps257;go_wp2_with fail;refine Aq.mono ?_;rintro e w1 ⟨rfl,rfl⟩;go_wp2;go_ret;exact ⟨rfl,rfl⟩
theorem len1 {l:List Ex} (h:l.length=1):∃ a,l=[a]:=by
 match l,h with
 | [a],_=>exact ⟨a,rfl⟩
theorem len2 {l:List Ex} (h:l.length=2):∃ a c,l=[a,c]:=by
 match l,h with
 | [a,c],_=>exact ⟨a,c,rfl⟩
theorem len3 {l:List Ex} (h:l.length=3):∃ a c d,l=[a,c,d]:=by
 match l,h with
 | [a,c,d],_=>exact ⟨a,c,d,rfl⟩
theorem bare_step {op k n:Int} {name:ByteArray} {S:List (List Tm)} {L:List Ex} (hE:okE (.mk op k n name S L)) (hD:∀ x ∈ L,PartDoes x):BareDoes (.mk op k n name S L):=by
 intro ok w b t x hx hg hw;obtain ⟨nG,nq,qz,qj,pO,gF⟩:=hx.parts;obtain ⟨I9,k',n',su,aS,nS,cS,aL,nL,cL⟩:=x
 dsimp only [Ex.op,Ex.k,Ex.n,Ex.name,Ex.S,Ex.L] at nG nq qz qj pO gF ⊢
 obtain rfl:=nG.symm;obtain rfl:=nq.symm;obtain rfl:=qz.symm;obtain rfl:=qj.symm;rw [okE] at hE;obtain ⟨hF,⟨jo,mw⟩,bp,hZ,_⟩:=hE;obtain ⟨⟨ou,kg⟩,bh,ek,dB,lY,jI,jr⟩:=zDk hF;clear hF hx;obtain ⟨P,hP⟩:=nmQ (Tx.bare (.mk op k n name S L));rw [<-hP];rw [Tx.bare] at hP;unfold Tx.bareOf at hP;have dP:=zAA hP;clear hP;have bS:=hw.more (.cells #[.int .i64 op,.int .i64 k,.int .i64 n,.string name,.slice aS nS cS,.slice aL nL cL] 54 (0,0));have bV:=(hg.keep (Keep.alloc ok w (.cells #[.int .i64 op,.int .i64 k,.int .i64 n,.string name,.slice aS nS cS,.slice aL nL cL] 54 (0,0)))).more w.heap.size;have K0:=Keep.refl (okL ok w.heap.size) (w.alloc (.cells #[.int .i64 op,.int .i64 k,.int .i64 n,.string name,.slice aS nS cS,.slice aL nL cL] 54 (0,0)));by_cases c1:op=1
 ·have HP:Hid (P=[Tx.num n]):=zAA (by rw [dP.out,if_pos c1])
  clear dP bh ek dB lY jI jr ou kg;subst c1;go_enter Tryz.func250,Tryz.ntmps250;go_wp2_with fail;refine (zDL bS bV n (by omega) mw).mono ?_;rintro e w2 ⟨rfl,h2,k2⟩;go_wp2;go_end0;exact ⟨rfl,by rw [HP.out];exact h2.fst,k2.all⟩
 by_cases c2:op=2
 ·have HP:Hid (P=[if n=1 then ⟨#[116,114,117,101]⟩ else ⟨#[102,97,108,115,101]⟩]):=zAA (by rw [dP.out,if_neg c1,if_pos c2])
  clear dP bh ek dB lY jI jr ou kg c1;subst c2;obtain ⟨v,hv⟩:=nmQ ((n==1));have Ql:(n==1)=v:=hv.symm;have xd:=zFZ v;have wL:(if n=1 then (⟨#[116,114,117,101]⟩:ByteArray) else ⟨#[102,97,108,115,101]⟩)=(if v=true then ⟨#[116,114,117,101]⟩ else ⟨#[102,97,108,115,101]⟩):=(by rw [hv];simp);rw [wL] at HP;have bm:okS (if v=true then (⟨#[116,114,117,101]⟩:ByteArray) else ⟨#[102,97,108,115,101]⟩):=by unfold okS;cases v<;>decide
  clear wL hv;generalize (if v=true then (⟨#[116,114,117,101]⟩:ByteArray) else ⟨#[102,97,108,115,101]⟩)=sv at HP xd bm;go_enter Tryz.func250,Tryz.ntmps250;go_wp2_with fail;refine (xd _).mono ?_;rintro e w1 ⟨rfl,rfl⟩;go_wp2_with fail;refine (zAU bS (by simp) sv bm).mono ?_;rintro e w2 ⟨rfl,h2,k2⟩;go_wp2;go_end0;exact ⟨rfl,by rw [HP.out];exact h2.fst,k2.all⟩
 by_cases c3:op=3
 ·have HP:Hid (P=[name]):=zAA (by rw [dP.out,if_neg c1,if_neg c2,if_pos c3])
  clear dP bh ek dB lY jI jr ou kg c1 c2;subst c3;go_enter Tryz.func250,Tryz.ntmps250;go_wp2_with fail;refine (zAU bS (by simp) name bp).mono ?_;rintro e w2 ⟨rfl,h2,k2⟩;go_wp2;go_end0;exact ⟨rfl,by rw [HP.out];exact h2.fst,k2.all⟩
 by_cases c4:op=4
 ·have ch:(Rn.shp op.toNat).2.1=1/\(Rn.shp op.toNat).2.2.1=1/\(Rn.shp op.toNat).2.2.2.2.1=13/\(Rn.shp op.toNat).2.2.2.2.2=14:=by subst c4;decide
  obtain ⟨e0,rfl⟩:=len1 (l:=L) (by omega);obtain ⟨q,rfl⟩:∃ q:Nat,k=(q:Int):=⟨k.toNat,by omega⟩;have hq:q<15:=(by omega);have HP:Hid (P=[(Tx.opT q).2.1]++Tx.partP e0 6):=zAA (by rw [dP.out,if_neg c1,if_neg c2,if_neg c3,if_pos c4,Int.toNat_natCast];rfl);clear dP bh ek dB lY jI jr ou kg c1 c2 c3 ch;have lI:=hD e0 (by simp);clear hD;obtain ⟨_,g1,_⟩:=bV.o.2 q hq;have iT:=(opT_ok q hq).2.1;generalize (Tx.opT q).2.1=sg at HP g1 iT;subst c4;obtain ⟨lO,aC,av,bL,oL,oa,dW⟩:=gF.get (by simp);subst oa;simp at lO;subst lO;unfold maxLen at av;obtain ⟨y0,iO,gy⟩:=dW 0 (by simp);simp only [List.getElem_cons_zero,List.getElem_cons_succ] at iO;have my:=fun (W:World) (T:ByteArray) (h1:Wr (okL ok w.heap.size) W b T) (k1:Keep (okL ok w.heap.size) (w.alloc (.cells #[.int .i64 4,.int .i64 (q:Int),.int .i64 n,.string name,.slice aS nS cS,.slice (some ⟨bL,oL,none⟩) 1 cL] 54 (0,0))) W) (least:Int) (eO:0<=least) (kd:least<=8)=>lI (okL ok w.heap.size) W b T y0 least (iO.step k1.all) (bV.keep k1) h1 eO kd;have qw:=fun (W:World) (T:ByteArray) (h1:Wr (okL ok w.heap.size) W b T) (k1:Keep (okL ok w.heap.size) (w.alloc (.cells #[.int .i64 4,.int .i64 (q:Int),.int .i64 n,.string name,.slice aS nS cS,.slice (some ⟨bL,oL,none⟩) 1 cL] 54 (0,0))) W)=>zAr lI (okL ok w.heap.size) W b T y0 (iO.step k1.all) (bV.keep k1) h1;obtain ⟨o0,Dx,Cf,Cc,DJ,CM,DA,Dw,DI,py⟩:=y0
  dsimp only at my qw gy
  clear dW gF;go_enter Tryz.func250,Tryz.ntmps250;go_wp2_with fail;refine (zAU bS (by simp) sg iT).mono ?_;rintro e w1 ⟨rfl,h1,k1⟩;have K1:=k1;have gd:=K1.at;have lV:=co gd 5;simp at lV;obtain ⟨mj,lT,mn,lZ,mq,lH⟩:=gy _ K1.all;simp at mj;simp at lT;simp at mn;simp at lZ;simp at mq;simp at lH;go_wp2_with fail;refine (my _ _ h1 K1 6 (by omega) (by omega)).mono ?_;rintro e w2 ⟨rfl,h2,k2⟩;have K2:=K1.trans k2;have dq:=K2.at;go_wp2;go_end0;refine ⟨rfl,?_,K2.all⟩;rw [HP.out];simp only [Tx.puts_append,Tx.puts_nil];exact h2.fst
 by_cases c5:op=5
 ·have ch:(Rn.shp op.toNat).2.1=2/\(Rn.shp op.toNat).2.2.1=2/\(Rn.shp op.toNat).2.2.2.2.1=1/\(Rn.shp op.toNat).2.2.2.2.2=12:=by subst c5;decide
  obtain ⟨e0,e1,rfl⟩:=len2 (l:=L) (by omega);obtain ⟨q,rfl⟩:∃ q:Nat,k=(q:Int):=⟨k.toNat,by omega⟩;have hq:q<15:=(by omega);have HP:Hid (P=Tx.pairP q (Tx.bares [e0,e1])):=zAA (by rw [dP.out,if_neg c1,if_neg c2,if_neg c3,if_neg c4,if_pos c5]);clear dP bh ek dB lY jI jr ou kg c1 c2 c3 c4 ch;have hc:=pairW_any (op:=op) (n:=n) (name:=name) (aS:=aS) (nS:=nS) (cS:=cS) (S:=S) bS bV (gF.step (Keep.alloc ok w (.cells #[.int .i64 op,.int .i64 (q:Int),.int .i64 n,.string name,.slice aS nS cS,.slice aL nL cL] 54 (0,0)))) (hD e0 (by simp)) (hD e1 (by simp)) hq;subst c5;go_enter Tryz.func250,Tryz.ntmps250;go_wp2_with fail;refine hc.mono ?_;rintro e w2 ⟨rfl,h2,k2⟩;go_wp2;go_end0;exact ⟨rfl,by rw [HP.out];exact h2.fst,k2.all⟩
 by_cases c6:op=6
 ·have ch:(Rn.shp op.toNat).2.1=3/\(Rn.shp op.toNat).2.2.1=3:=by subst c6;decide
  obtain ⟨e0,e1,e2,rfl⟩:=len3 (l:=L) (by omega);have HP:Hid (P=Tx.choiceP (Tx.bares [e0,e1,e2])):=zAA (by rw [dP.out,if_neg c1,if_neg c2,if_neg c3,if_neg c4,if_neg c5,if_pos c6]);have hc:=choiceW_any (op:=op) (k:=k) (n:=n) (name:=name) (aS:=aS) (nS:=nS) (cS:=cS) (S:=S) bS bV (gF.step (Keep.alloc ok w (.cells #[.int .i64 op,.int .i64 k,.int .i64 n,.string name,.slice aS nS cS,.slice aL nL cL] 54 (0,0)))) (hD e0 (by simp)) (hD e1 (by simp)) (hD e2 (by simp));clear dP bh ek dB lY jI jr ou kg c1 c2 c3 c4 c5 ch;subst c6;go_enter Tryz.func250,Tryz.ntmps250;go_wp2_with fail;refine hc.mono ?_;rintro e w2 ⟨rfl,h2,k2⟩;go_wp2;go_end0;exact ⟨rfl,by rw [HP.out];exact h2.fst,k2.all⟩
 by_cases c11:op=11
 ·have ch:(Rn.shp op.toNat).2.1=3/\(Rn.shp op.toNat).2.2.1=3:=by subst c11;decide
  obtain ⟨e0,e1,e2,rfl⟩:=len3 (l:=L) (by omega);have HP:Hid (P=Tx.indexP (Tx.bares [e0,e1,e2])):=zAA (by rw [dP.out,if_neg c1,if_neg c2,if_neg c3,if_neg c4,if_neg c5,if_neg c6,if_pos c11]);have hc:=indexW_any (op:=op) (k:=k) (n:=n) (name:=name) (aS:=aS) (nS:=nS) (cS:=cS) (S:=S) bS bV (gF.step (Keep.alloc ok w (.cells #[.int .i64 op,.int .i64 k,.int .i64 n,.string name,.slice aS nS cS,.slice aL nL cL] 54 (0,0)))) (hD e0 (by simp)) (hD e1 (by simp)) (hD e2 (by simp));clear dP bh ek dB lY jI jr ou kg c1 c2 c3 c4 c5 ch c6;subst c11;go_enter Tryz.func250,Tryz.ntmps250;go_wp2_with fail;refine hc.mono ?_;rintro e w2 ⟨rfl,h2,k2⟩;go_wp2;go_end0;exact ⟨rfl,by rw [HP.out];exact h2.fst,k2.all⟩
 have HP:Hid (P=Tx.formP op k S (Tx.bares L)):=zAA (by rw [dP.out,if_neg c1,if_neg c2,if_neg c3,if_neg c4,if_neg c5,if_neg c6,if_neg c11]);obtain ⟨p,rfl⟩:∃ p:Nat,op=(p:Int):=⟨op.toNat,by omega⟩;have yI:p<16:=(by omega);rw [Int.toNat_natCast] at lY jI;have bX:∀ p,p<16->0<=(Rn.shp p).2.2.2.2.1/\(Rn.shp p).2.2.2.2.2<=14:=(by decide);have nK:=bX p yI;obtain ⟨q,rfl⟩:∃ q:Nat,k=(q:Int):=⟨k.toNat,by omega⟩;have hq:q<15:=(by omega);have f1:((p:Int)==1)=false:=(by simp;omega);have f2:((p:Int)==2)=false:=(by simp;omega);have f3:((p:Int)==3)=false:=(by simp;omega);have f4:((p:Int)==4)=false:=(by simp;omega);have f5:((p:Int)==5)=false:=(by simp;omega);have f6:((p:Int)==6)=false:=(by simp;omega);have Qw:((p:Int)==11)=false:=(by simp;omega);clear dP bh ek dB lY jI jr ou kg c1 c2 c3 c4 c5 c6 c11 bX nK;have hc:=formW_any (n:=n) (name:=name) bS bV (pO.step (Keep.alloc ok w (.cells #[.int .i64 (p:Int),.int .i64 (q:Int),.int .i64 n,.string name,.slice aS nS cS,.slice aL nL cL] 54 (0,0)))) (gF.step (Keep.alloc ok w (.cells #[.int .i64 (p:Int),.int .i64 (q:Int),.int .i64 n,.string name,.slice aS nS cS,.slice aL nL cL] 54 (0,0)))) hD hZ yI hq;clear pO gF hD hZ;go_enter Tryz.func250,Tryz.ntmps250;go_wp2_with fail;refine hc.mono ?_;rintro e w2 ⟨rfl,h2,k2⟩;go_wp2;go_end0;exact ⟨rfl,by rw [HP.out];exact h2.fst,k2.all⟩
theorem part_any:∀ (q:Nat) (e:Ex),parts e<=q->okE e->PartDoes e
 | 0,.mk _ _ _ _ _ _,h,_=>by simp [parts] at h
 | q+1,.mk op k n name S L,h,hE=>part_of (bare_step hE (fun x hx=>by
  rw [parts] at h;rw [okE] at hE;obtain ⟨i,hi,rfl⟩:=List.getElem_of_mem hx;have:=zBU L i hi;exact part_any q _ (by omega) (okEs_mem hE.2.2.2.2 _ hx))) (by
  rw [okE] at hE;exact opOk_of hE.1)
theorem partW_any {e:Ex} (h:okE e):PartDoes e:=part_any _ e nR h
end Go.Proofs.YtkfgbhlpjkkgfaaGreatDoor
