import Derived.Test.YtgjdkgkgbmbffaaDoorH25
import Derived.WalkKit
import Derived.WalkSpells
import Derived.IntWalk
import Derived.Deep.Cut
import Derived.Deep.LoopGhost
import Derived.Laws.Cover1
import Derived.Lib.Hide
set_option linter.unusedVariables false
set_option linter.unusedSimpArgs false
set_option maxHeartbeats 64000000
set_option maxRecDepth 100000
namespace Go.Proofs.YtgjdkgkgbmbffaaDoor
open Go.RowKit Go.IntWalk
theorem has36_b (c f n:Int) (w:World) (h:I64 (c-n)):Calls Tryd.prog 36 #[.int .i64 c,.int .i64 f,.int .i64 n] w fun e w'=>e=.returned (.bool (Lo.hasN c f n))/\Below w.heap.size w w':=(zAV c f n w h).mono fun _ _ ⟨h1,h2⟩=>⟨h1,h2 ▸ Below.refl _ _⟩
theorem bars24_any {ok:Nat->Prop} {w:World} (c op k n t:Int) {F E:List Pu} {aF aE:Option Addr} {nF cF nE cE:Nat} (hG:GlobK w) (hF:HPu ok w (.slice aF nF cF) F) (hE:HPu ok w (.slice aE nE cE) E) (hWF:Lo.PW F) (hWE:Lo.PW E) (hc:1<=c/\c<=6000):Calls Tryd.prog 24 #[.int .i64 c,.agg #[.int .i64 op,.int .i64 k,.int .i64 n,.int .i64 t,.slice aF nF cF,.slice aE nE cE]] w fun e w'=>e=.returned (.bool (Lo.bars c ⟨op,k,n,t,F,E⟩))/\Below w.heap.size w w':=by
 have b1:Below w.heap.size w (w.alloc (.cells #[.int .i64 op,.int .i64 k,.int .i64 n,.int .i64 t,.slice aF nF cF,.slice aE nE cE] 54 (0,0))):=(Below.refl _ _).alloc zL _;have kS:=zJ w (.cells #[.int .i64 op,.int .i64 k,.int .i64 n,.int .i64 t,.slice aF nF cF,.slice aE nE cE] 54 (0,0));have hTu:=fun W=>zAl op k n t F E aF aE nF cF nE cE W;have hMa:=fun W=>made38_any op k n t F E aF aE nF cF nE cE W;have hFo:=fun W=>zAm op k n t F E aF aE nF cF nE cE W;have hmt:Lo.made ⟨op,k,n,t,F,E⟩=1\/Lo.made ⟨op,k,n,t,F,E⟩=Lo.turns ⟨op,k,n,t,F,E⟩:=(by unfold Lo.made;split;exact .inl rfl;exact .inr rfl);unfold Lo.bars
 dsimp only
 generalize Lo.turns ⟨op,k,n,t,F,E⟩=tu at hTu hmt ⊢;generalize Lo.made ⟨op,k,n,t,F,E⟩=ma at hMa hmt ⊢;generalize Lo.folds ⟨op,k,n,t,F,E⟩=foQ at hFo ⊢;have HTu:=zG hTu;have HMa:=zG hMa;have HFo:=zG hFo;have HA:=zG (fun (h1:1<=tu) (h2:tu<=300) W=>has36_b c t ma W (by unfold I64;omega));have HTE:=zG (fun (h1:1<=tu) (h2:tu<=300) W (b:Below w.heap.size w W)=>zAd c tu (hG.under b) (hE.under b) hWE hc ⟨h1,h2⟩);have HTF:=zG (fun W (b:Below w.heap.size w W)=>zAd c 1 (hG.under b) (hF.under b) hWF hc ⟨by decide,by decide⟩);have HK:=zG (fun W (b:Below w.heap.size w W)=>zAt k W (hG.under b));clear hTu hMa hFo hmt hG hF hE hWF hWE hc;generalize Lo.hasN c t ma=ha at HA ⊢;generalize Lo.treeOK c tu E=te at HTE ⊢;generalize Lo.treeOK c 1 F=tf at HTF ⊢;generalize (Kd.opT k).2.2=kq at HK ⊢;by_cases h1:op<1
 case pos=>
  rw [if_pos (.inl h1)];go_enter Tryd.func24,Tryd.ntmps24;go_wp2;go_ret;exact ⟨rfl,b1⟩
 by_cases h4:4<op
 case pos=>
  rw [if_pos (.inr h4)];go_enter Tryd.func24,Tryd.ntmps24;go_wp2;go_ret;exact ⟨rfl,b1⟩
 rw [if_neg (by omega)];by_cases g1:tu<1
 case pos=>
  rw [if_pos (.inl g1)];go_enter Tryd.func24,Tryd.ntmps24
  go_wp2_with (go_at_call 37;refine (HTu.out _).mono ?_;rintro e w2 ⟨rfl,b2⟩)
  go_ret;exact ⟨rfl,b1.trans (b2.mono b1.size)⟩
 by_cases g4:300<tu
 case pos=>
  rw [if_pos (.inr g4)];go_enter Tryd.func24,Tryd.ntmps24
  go_wp2_with (go_at_call 37;refine (HTu.out _).mono ?_;rintro e w2 ⟨rfl,b2⟩)
  go_ret;exact ⟨rfl,b1.trans (b2.mono b1.size)⟩
 rw [if_neg (by omega)];have u1:1<=tu:=(by omega);have u2:tu<=300:=(by omega);obtain ⟨RR,hRR⟩:=nmQ ((if ha=false\/te=false then true else foQ && !(tf&&kq==2)));rw [<-hRR];have HRR:=zG hRR;clear hRR;go_enter Tryd.func24,Tryd.ntmps24;go_upto_region 6 with (go_at_call 37;refine (HTu.out _).mono ?_;rintro e w2 ⟨rfl,b2⟩);have B2:=b1.trans (b2.mono b1.size);have kS2:=(b2.block _ (zH kS)).trans kS;clear kS b2;have s0:=coQ kS2 0;have s1:=coQ kS2 1;have s2:=coQ kS2 2;have s3:=coQ kS2 3;have s4:=coQ kS2 4;have s5:=coQ kS2 5;simp at s0 s1 s2 s3 s4 s5;have yS:=zH kS2;obtain ⟨QQ,hQQ⟩:=nmQ ((!ha || !te));have HQQ:=zG hQQ;clear hQQ;go_cut [36] (fun v wd=>v=.bool QQ/\Below w2.heap.size w2 wd)
 case first=>
  refine zK (fun w'=>Below w2.heap.size w2 w') (fun _=>false) (by kernel_rfl) ?_;have hH0:Below w2.heap.size w2 w2.drew:=(Below.refl _ _).drew;generalize w2.drew=wd0 at hH0 ⊢;refine' tkR 0 22 hH0 ?o1
  refine' tkR 1 23 hH0 ?o2
  refine' tkQ 2 24 hH0 ?hyv ?o3
  case hyv=>
   intro wz hSw;have zc0:=(hSw.cell (p:=⟨w.heap.size,0,none⟩) yS).trans s0;have zc1:=(hSw.cell (p:=⟨w.heap.size,1,none⟩) yS).trans s1;have zc2:=(hSw.cell (p:=⟨w.heap.size,2,none⟩) yS).trans s2;have zc3:=(hSw.cell (p:=⟨w.heap.size,3,none⟩) yS).trans s3;have zc4:=(hSw.cell (p:=⟨w.heap.size,4,none⟩) yS).trans s4;have zc5:=(hSw.cell (p:=⟨w.heap.size,5,none⟩) yS).trans s5;go_simp
   try rfl
  try simp only [Act.put,sT,sZ,sS]
  refine' tkQ 3 25 hH0 ?hyv ?o4
  case hyv=>
   intro wz hSw;have zc0:=(hSw.cell (p:=⟨w.heap.size,0,none⟩) yS).trans s0;have zc1:=(hSw.cell (p:=⟨w.heap.size,1,none⟩) yS).trans s1;have zc2:=(hSw.cell (p:=⟨w.heap.size,2,none⟩) yS).trans s2;have zc3:=(hSw.cell (p:=⟨w.heap.size,3,none⟩) yS).trans s3;have zc4:=(hSw.cell (p:=⟨w.heap.size,4,none⟩) yS).trans s4;have zc5:=(hSw.cell (p:=⟨w.heap.size,5,none⟩) yS).trans s5;go_simp
   try rfl
  try simp only [Act.put,sT,sZ,sS]
  refine tnQ 4 (fun K hK=>?_);go_simp;refine (HMa.out _).mono ?_;rintro eq wd1 ⟨rfl,bq1⟩;have hH1:Below w2.heap.size w2 wd1:=hH0.trans (bq1.mono hH0.size);refine hK.out _ _ (fun _=>hH1) ?_;clear hK K
  try simp only [Act.put,sT,sZ,sS]
  refine tnQ 5 (fun K hK=>?_);go_simp;refine (HA.out u1 u2 _).mono ?_;rintro eq wd2 ⟨rfl,bq2⟩;have hH2:Below w2.heap.size w2 wd2:=hH1.trans (bq2.mono hH1.size);refine hK.out _ _ (fun _=>hH2) ?_;clear hK K
  try simp only [Act.put,sT,sZ,sS]
  refine' tkR 6 28 hH2 ?o5
  refine' tkR 7 29 hH2 ?o6
  cases ha
  case false=>
   refine zD (i:=8) (oi:=⟨some 30,_,_,_,_,_⟩) rfl (by kernel_rfl) (by kernel_rfl) (by kernel_rfl) (by kernel_rfl) (fun _ _ _ h=>h) hH2 (by rfl) ?_
   try simp only [Act.put,sT,sZ,sS]
   refine zD (i:=9) (oi:=⟨some 31,_,_,_,_,_⟩) rfl (by kernel_rfl) (by kernel_rfl) (by kernel_rfl) (by kernel_rfl) (fun _ _ _ h=>h) hH2 (by rfl) ?_
   try simp only [Act.put,sT,sZ,sS]
   refine zD (i:=10) (oi:=⟨some 32,_,_,_,_,_⟩) rfl (by kernel_rfl) (by kernel_rfl) (by kernel_rfl) (by kernel_rfl) (fun _ _ _ h=>h) hH2 (by rfl) ?_
   try simp only [Act.put,sT,sZ,sS]
   refine zD (i:=11) (oi:=⟨some 33,_,_,_,_,_⟩) rfl (by kernel_rfl) (by kernel_rfl) (by kernel_rfl) (by kernel_rfl) (fun _ _ _ h=>h) hH2 (by rfl) ?_
   try simp only [Act.put,sT,sZ,sS]
   refine zD (i:=12) (oi:=⟨some 34,_,_,_,_,_⟩) rfl (by kernel_rfl) (by kernel_rfl) (by kernel_rfl) (by kernel_rfl) (fun _ _ _ h=>h) hH2 (by rfl) ?_
   try simp only [Act.put,sT,sZ,sS]
   refine zD (i:=13) (oi:=⟨some 35,_,_,_,_,_⟩) rfl (by kernel_rfl) (by kernel_rfl) (by kernel_rfl) (by kernel_rfl) (fun _ _ _ h=>h) hH2 (by rfl) ?_
   try simp only [Act.put,sT,sZ,sS]
   refine' tkR 14 36 hH2 ?o7
   refine zI (by kernel_rfl) ?_ _;go_wp2_with fail;go_meet
   case rel=>exact ⟨by rw [HQQ.out];simp,hH2⟩
  case true=>
   refine' tkR 8 30 hH2 ?o8
   refine' tkR 9 31 hH2 ?o9
   refine' tkQ 10 32 hH2 ?hyv ?o10
   case hyv=>
    intro wz hSw;have zc0:=(hSw.cell (p:=⟨w.heap.size,0,none⟩) yS).trans s0;have zc1:=(hSw.cell (p:=⟨w.heap.size,1,none⟩) yS).trans s1;have zc2:=(hSw.cell (p:=⟨w.heap.size,2,none⟩) yS).trans s2;have zc3:=(hSw.cell (p:=⟨w.heap.size,3,none⟩) yS).trans s3;have zc4:=(hSw.cell (p:=⟨w.heap.size,4,none⟩) yS).trans s4;have zc5:=(hSw.cell (p:=⟨w.heap.size,5,none⟩) yS).trans s5;go_simp
    try rfl
   try simp only [Act.put,sT,sZ,sS]
   refine' tkR 11 33 hH2 ?o11
   refine tnQ 12 (fun K hK=>?_);go_simp;refine (HTE.out u1 u2 _ (B2.trans (hH2.mono B2.size))).mono ?_;rintro eq wd3 ⟨rfl,bq3⟩;have hH3:Below w2.heap.size w2 wd3:=hH2.trans (bq3.mono hH2.size);refine hK.out _ _ (fun _=>hH3) ?_;clear hK K
   try simp only [Act.put,sT,sZ,sS]
   refine' tkR 13 35 hH3 ?o12
   refine' tkR 14 36 hH3 ?o13
   refine zI (by kernel_rfl) ?_ _;go_wp2_with fail;go_meet
   case rel=>exact ⟨by rw [HQQ.out];simp,hH3⟩
 case rest=>
  obtain ⟨rfl,bc⟩:=hcut;have Bc:=B2.trans (bc.mono B2.size);have kSc:=(bc.block _ yS).trans kS2;clear s0 s1 s2 s3 s4 s5 HMa HA HTE HTu bc kS2;have s0:=coQ kSc 0;have s1:=coQ kSc 1;have s2:=coQ kSc 2;have s3:=coQ kSc 3;have s4:=coQ kSc 4;have s5:=coQ kSc 5;simp at s0 s1 s2 s3 s4 s5;have e1:RR=(QQ || (foQ && !(tf&&kq==2))):=by rw [HRR.out,HQQ.out];cases ha<;>cases te<;>simp
  clear HQQ
  cases QQ
  case true=>
   have HZ:=zG (show RR=true by rw [e1];rfl);clear HRR e1;go_wp2;go_ret;exact ⟨by rw [HZ.out];rfl,Bc⟩
  rw [Bool.false_or] at e1;have HZ:=zG e1;clear HRR e1;have HTF2:=zG (fun W (b:Below wc.heap.size wc W)=>HTF.out W (Bc.trans (b.mono Bc.size)));have HK2:=zG (fun W (b:Below wc.heap.size wc W)=>HK.out W (Bc.trans (b.mono Bc.size)));clear HTF HK
  cases foQ
  case false=>
   go_wp2_with (go_at_call 40;refine (HFo.out _).mono ?_;rintro e w3 ⟨rfl,b3⟩)
   go_ret;exact ⟨by rw [HZ.out];rfl,Bc.trans (b3.mono Bc.size)⟩
  cases tf
  case false=>
   go_wp2_with (first | (go_at_call 40;refine (HFo.out _).mono ?_;rintro e w3 ⟨rfl,b3⟩;have s1:=(b3.cell (p:=⟨w.heap.size,1,none⟩) (zH kSc)).trans s1;have s4:=(b3.cell (p:=⟨w.heap.size,4,none⟩) (zH kSc)).trans s4) | (go_at_call 39;refine (HTF2.out _ b3).mono ?_;rintro e w4 ⟨rfl,b4⟩))
   go_ret;exact ⟨by rw [HZ.out];rfl,Bc.trans ((b3.trans (b4.mono b3.size)).mono Bc.size)⟩
  go_wp2_with (first | (go_at_call 40;refine (HFo.out _).mono ?_;rintro e w3 ⟨rfl,b3⟩;have s1:=(b3.cell (p:=⟨w.heap.size,1,none⟩) (zH kSc)).trans s1;have s4:=(b3.cell (p:=⟨w.heap.size,4,none⟩) (zH kSc)).trans s4) | (go_at_call 39;refine (HTF2.out _ b3).mono ?_;rintro e w4 ⟨rfl,b4⟩;have b5:=b3.trans (b4.mono b3.size);have s1:=(b4.cell (p:=⟨w.heap.size,1,none⟩) (Nat.lt_of_lt_of_le (zH kSc) b3.size)).trans s1) | (go_at_call 41;refine (HK2.out _ b5).mono ?_;rintro e w6 ⟨rfl,b6⟩))
  go_ret;exact ⟨by rw [HZ.out];rfl,Bc.trans ((b5.trans (b6.mono b5.size)).mono Bc.size)⟩
end Go.Proofs.YtgjdkgkgbmbffaaDoor
