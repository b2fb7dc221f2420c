import Derived.Test.YtgjdkgkgbmbffaaDoorH30
import Derived.WalkKit
import Derived.WalkSpells
import Derived.IntWalk
import Derived.Deep.Cut
import Derived.Deep.LoopGhost
import Derived.Laws.Cover1
import Derived.Lib.Hide
set_option linter.unusedVariables false
set_option linter.unusedSimpArgs false
set_option maxHeartbeats 64000000
set_option maxRecDepth 100000
namespace Go.Proofs.YtgjdkgkgbmbffaaDoor
open Go.RowKit Go.IntWalk
theorem HPu.past {ok:Nat->Prop} {w w':World} {cb:Nat} {v:Value} {l:List Pu} (h:HPu ok w v l) (a:Aside [cb] w.heap.size w w') (hok:∀ i,ok i->i≠cb):HPu ok w' v l:=h.keep a.size fun i hi hl=>a.block i hl (by simpa using hok i hi)
structure DoPost (w:World) (cb:Nat) (M':List Int) (e:Ending) (w':World):Prop where
 e:e=.returned (.tuple #[])
 l:LB w' cb M'
 a:Aside [cb] w.heap.size w w'
theorem doOne_any {w:World} {mb cb:Nat} {c:Int} {vP vG vS:Value} {nc:Nat} {M:List Int} (hm:MaAt w mb cb c vP vG vS nc) (hl:LB w cb M) (hn:nc=M.length) (hc:(M.length:Int)=c) (hcM:c<=6000) {ok:Nat->Prop} (hok:∀ i,ok i->i≠cb) (k n:Int) (tn:Nat) (ht:(tn:Int)+1<=c) {F E:List Pu} {aF aE:Option Addr} {nF cF nE cE:Nat} (hE:HPu ok w (.slice aE nE cE) E) (hfE:Lo.Fit c 1 E):Calls Tryd.prog 29 #[.pointer (some ⟨mb,0,none⟩),.agg #[.int .i64 1,.int .i64 k,.int .i64 n,.int .i64 (tn:Int),.slice aF nF cF,.slice aE nE cE]] w (DoPost w cb (M.set tn (Lo.tree M 0 E))):=by
 have b1:Below w.heap.size w (w.alloc (.cells #[.int .i64 1,.int .i64 k,.int .i64 n,.int .i64 (tn:Int),.slice aF nF cF,.slice aE nE cE] 54 (0,0))):=(Below.refl _ _).alloc zL _;have kS:=zJ w (.cells #[.int .i64 1,.int .i64 k,.int .i64 n,.int .i64 (tn:Int),.slice aF nF cF,.slice aE nE cE] 54 (0,0));have hm1:=hm.past (aside b1);have hl1:=hl.under b1;have hcb:=hl.lt;have hne:=hm.ne;have htl:tn<M.length:=(by omega);have hT:∀ W,Aside [cb] w.heap.size w W->LB W cb M->Calls Tryd.prog 47 #[.pointer (some ⟨mb,0,none⟩),.slice aE nE cE,.int .i64 0] W fun e w'=>e=.returned (.int .i64 (Lo.tree M 0 E))/\Below W.heap.size W w':=fun W a h=>zAQ (hm.past a) h hn hc hcM (hE.past a hok) hfE (by decide) 0 (by decide);generalize Lo.tree M 0 E=y at hT ⊢;have HT:=zG hT;clear hT;go_enter Tryd.func29,Tryd.ntmps29;go_upto_region 1 with fail;generalize (w.alloc (.cells #[.int .i64 1,.int .i64 k,.int .i64 n,.int .i64 (tn:Int),.slice aF nF cF,.slice aE nE cE] 54 (0,0)))=w1 at b1 kS hm1 hl1 ⊢;have s0:=coQ kS 0;have s1:=coQ kS 1;have s2:=coQ kS 2;have s3:=coQ kS 3;have s4:=coQ kS 4;have s5:=coQ kS 5;simp at s0 s1 s2 s3 s4 s5;have m4:=coQ hm1.m 4;simp at m4;have yS:=zH kS;have yM:=zH hm1.m;have kC0:=hl1;have hnt:tn<nc:=(by omega);clear hm hl hE hm1 hl1 hok hn hc hcM hfE kS;go_upto_region 3 with fail;refine zK (fun w'=>Aside [cb] w1.heap.size w1 w') (fun _=>false) (by kernel_rfl) ?_;have hH0:Aside [cb] w1.heap.size w1 w1.drew:=(Aside.refl _).drew;have kC:LB w1.drew cb M:=kC0;generalize w1.drew=wd0 at hH0 kC ⊢;refine' tkR 0 13 hH0 ?o1
 refine' tkR 1 14 hH0 ?o2
 refine' tkR 2 15 hH0 ?o3
 refine' tkQ 3 16 hH0 ?hyv ?o4
 case hyv=>
  intro wz hSw;have zc0:=(zP hSw (p:=⟨w.heap.size,0,none⟩) yS (by simp;omega)).trans s0;have zc1:=(zP hSw (p:=⟨w.heap.size,1,none⟩) yS (by simp;omega)).trans s1;have zc2:=(zP hSw (p:=⟨w.heap.size,2,none⟩) yS (by simp;omega)).trans s2;have zc3:=(zP hSw (p:=⟨w.heap.size,3,none⟩) yS (by simp;omega)).trans s3;have zc4:=(zP hSw (p:=⟨w.heap.size,4,none⟩) yS (by simp;omega)).trans s4;have zc5:=(zP hSw (p:=⟨w.heap.size,5,none⟩) yS (by simp;omega)).trans s5;have zc6:=(zP hSw (p:=⟨mb,4,none⟩) yM (by simpa using hne)).trans m4;go_simp
  try rfl
 try simp only [Act.put,sT,sZ,sS]
 refine' tkR 4 17 hH0 ?o5
 refine' tkQ 5 18 hH0 ?hyv ?o6
 case hyv=>
  intro wz hSw;have zc0:=(zP hSw (p:=⟨w.heap.size,0,none⟩) yS (by simp;omega)).trans s0;have zc1:=(zP hSw (p:=⟨w.heap.size,1,none⟩) yS (by simp;omega)).trans s1;have zc2:=(zP hSw (p:=⟨w.heap.size,2,none⟩) yS (by simp;omega)).trans s2;have zc3:=(zP hSw (p:=⟨w.heap.size,3,none⟩) yS (by simp;omega)).trans s3;have zc4:=(zP hSw (p:=⟨w.heap.size,4,none⟩) yS (by simp;omega)).trans s4;have zc5:=(zP hSw (p:=⟨w.heap.size,5,none⟩) yS (by simp;omega)).trans s5;have zc6:=(zP hSw (p:=⟨mb,4,none⟩) yM (by simpa using hne)).trans m4;go_simp
  try rfl
 try simp only [Act.put,sT,sZ,sS]
 refine' tkR 6 19 hH0 ?o7
 refine' tkR 7 20 hH0 ?o8
 refine' tkQ 8 21 hH0 ?hyv ?o9
 case hyv=>
  intro wz hSw;have zc0:=(zP hSw (p:=⟨w.heap.size,0,none⟩) yS (by simp;omega)).trans s0;have zc1:=(zP hSw (p:=⟨w.heap.size,1,none⟩) yS (by simp;omega)).trans s1;have zc2:=(zP hSw (p:=⟨w.heap.size,2,none⟩) yS (by simp;omega)).trans s2;have zc3:=(zP hSw (p:=⟨w.heap.size,3,none⟩) yS (by simp;omega)).trans s3;have zc4:=(zP hSw (p:=⟨w.heap.size,4,none⟩) yS (by simp;omega)).trans s4;have zc5:=(zP hSw (p:=⟨w.heap.size,5,none⟩) yS (by simp;omega)).trans s5;have zc6:=(zP hSw (p:=⟨mb,4,none⟩) yM (by simpa using hne)).trans m4;go_simp
  try rfl
 try simp only [Act.put,sT,sZ,sS]
 refine tnQ 9 (fun K hK=>?_);go_simp;refine (HT.out wd0 ((aside b1).trans hH0 b1.size) kC).mono ?_;rintro eq wd1 ⟨rfl,bq1⟩;have hH1:Aside [cb] w1.heap.size w1 wd1:=hH0.trans (aside bq1) hH0.size;have kC2:=kC.under bq1;refine hK.out _ _ (fun _=>hH1) ?_;clear hK K
 try simp only [Act.put,sT,sZ,sS]
 refine' tkR 10 23 hH1 ?o10
 refine tnQ 11 (fun K hK=>?_);have fr:=kC2.free tn;have st0:=kC2.at (i:=tn) htl;go_simp;have hH2:Aside [cb] w1.heap.size w1 (wd1.setCell ⟨cb,tn,none⟩ (.int .i64 y)):=hH1.trans (Aside.setCell (B:=wd1.heap.size) (by simp) _) hH1.size;refine hK.out _ _ (fun _=>hH2) ?_;clear hK K fr st0
 try simp only [Act.put,sT,sZ,sS]
 have kE:=kC2.set tn y;generalize wd1.setCell ⟨cb,tn,none⟩ (.int .i64 y)=wd2 at hH2 kE ⊢;refine zI (by kernel_rfl) ?_ _;go_wp2_with fail;exact bodyPost_end (v:=.tuple #[]) (by simp [results,Tryd.results29]) rfl ⟨rfl,kE,(aside b1).trans hH2 b1.size⟩
theorem doEach_any {w:World} {mb cb:Nat} {c:Int} {vP vG vS:Value} {nc:Nat} {M:List Int} (hm:MaAt w mb cb c vP vG vS nc) (hl:LB w cb M) (hn:nc=M.length) (hc:(M.length:Int)=c) (hcM:c<=6000) {ok:Nat->Prop} (hok:∀ i,ok i->i≠cb) (k:Int) (nn tn:Nat) (ht:(tn:Int)+nn<=c) (hn3:(nn:Int)<=300) {F E:List Pu} {aF aE:Option Addr} {nF cF nE cE:Nat} (hE:HPu ok w (.slice aE nE cE) E) (hfE:Lo.Fit c nn E):Calls Tryd.prog 29 #[.pointer (some ⟨mb,0,none⟩),.agg #[.int .i64 2,.int .i64 k,.int .i64 (nn:Int),.int .i64 (tn:Int),.slice aF nF cF,.slice aE nE cE]] w (DoPost w cb (Lo.eachL tn E nn 0 M)):=by
 have b1:Below w.heap.size w (w.alloc (.cells #[.int .i64 2,.int .i64 k,.int .i64 (nn:Int),.int .i64 (tn:Int),.slice aF nF cF,.slice aE nE cE] 54 (0,0))):=(Below.refl _ _).alloc zL _;have kS:=zJ w (.cells #[.int .i64 2,.int .i64 k,.int .i64 (nn:Int),.int .i64 (tn:Int),.slice aF nF cF,.slice aE nE cE] 54 (0,0));have hm1:=hm.past (aside b1);have hl1:=hl.under b1;have hcb:=hl.lt;have hne:=hm.ne;have HT:=zG (fun W M' (a:Aside [cb] w.heap.size w W) (h:LB W cb M') (hM:M'.length=M.length) (i:Nat) (hi:i<nn)=>zAQ (hm.past a) h (hn.trans hM.symm) (by rw [hM];exact hc) hcM (hE.past a hok) hfE hn3 i (by omega));have htn:tn+nn<=M.length:=(by omega);have hML:M.length<=6000:=(by omega);obtain ⟨R,hR⟩:=nmQ (Lo.eachL tn E nn 0 M);rw [<-hR];have HR:=zG (show R=Lo.eachL tn E (nn-0) 0 M from hR);clear hR;go_enter Tryd.func29,Tryd.ntmps29;go_upto_region 1 with fail;generalize (w.alloc (.cells #[.int .i64 2,.int .i64 k,.int .i64 (nn:Int),.int .i64 (tn:Int),.slice aF nF cF,.slice aE nE cE] 54 (0,0)))=w1 at b1 kS hm1 hl1 ⊢;have s0:=coQ kS 0;have s1:=coQ kS 1;have s2:=coQ kS 2;have s3:=coQ kS 3;have s4:=coQ kS 4;have s5:=coQ kS 5;simp at s0 s1 s2 s3 s4 s5;have kC0:=hl1;have HNC:=zG hn;clear hm hl hE hl1 hok hn hc hcM hfE;go_wp2_with fail;go_loopg [4,28] nn (fun k u4 v wr=>∃ (i:Nat) (M':List Int),i<=nn/\k=nn-i/\v=.int .i64 (i:Nat)/\Hid (R=Lo.eachL tn E (nn-i) i M')/\Hid (LB wr cb M'/\M'.length=M.length)/\Aside [cb] w1.heap.size w1 wr)
 case atStart=>exact ⟨0,M,Nat.zero_le _,rfl,rfl,HR,zG ⟨kC0,rfl⟩,Aside.refl _⟩
 case round=>
  clear HR s0 s1 s2 s3 s4 s5 kC0;obtain ⟨i,M',hi,rfl,rfl,H,HL,hbr⟩:=hrel;have Br:=(aside b1).trans hbr b1.size;have kSr:=hbr.keep kS (zH kS) (by simp;omega);have hmr:=hm1.past hbr;have s0:=coQ kSr 0;have s1:=coQ kSr 1;have s2:=coQ kSr 2;have s3:=coQ kSr 3;have s4:=coQ kSr 4;have s5:=coQ kSr 5;have m4:=coQ hmr.m 4;simp at s0 s1 s2 s3 s4 s5 m4;have yS:=zH kSr;have yM:=zH hmr.m;by_cases hlt:i<nn
  case neg=>
   have hin:i=nn:=(by omega);subst hin;have HZ:=zG (show R=M' by rw [H.out,Nat.sub_self];rfl);clear H;go_wp2_with fail;exact bodyPost_end (v:=.tuple #[]) (by simp [results,Tryd.results29]) rfl ⟨rfl,by rw [HZ.out];exact HL.out.1,Br⟩
  case pos=>
   obtain ⟨kC0,hM'⟩:=HL.out;have hT:=fun W (a:Aside [cb] w.heap.size w W) (h:LB W cb M')=>HT.out W M' a h hM' i hlt;have hR1:=H.out;rw [show nn-i=(nn-(i+1))+1 by omega,Lo.eachL] at hR1;obtain ⟨z,hz⟩:=nmQ (tn+i);rw [show ((tn:Int)+(i:Int)).toNat=z by omega] at hR1;generalize Lo.tree M' (i:Int) E=y at hT hR1;have HTi:=zG hT;have HR1:=zG hR1;have HW:Hid (IntKind.i64.wrap ((tn:Int)+(i:Int))=(z:Int)):=zG (by
    have h2:IntKind.i64.wrap ((tn:Int)+(i:Int))=(tn:Int)+(i:Int):=i64_in _ (by omega);have h3:((tn:Int)+(i:Int))=(z:Int):=(by omega);exact h2.trans h3)
   have hzl:z<M'.length:=(by omega);have hznc:z<nc:=(by have:=HNC.out;omega);have HM':=zG hM';clear hz;clear hT hR1 H HL hM';go_upto_region 8 with fail;refine zK (fun w'=>Aside [cb] wr.heap.size wr w') (fun _=>false) (by kernel_rfl) ?_;have hH0:Aside [cb] wr.heap.size wr wr.drew:=(Aside.refl _).drew;have kC:LB wr.drew cb M':=kC0;generalize wr.drew=wd0 at hH0 kC ⊢;refine' tkR 0 31 hH0 ?o11
   refine' tkR 1 32 hH0 ?o12
   refine' tkR 2 33 hH0 ?o13
   refine' tkQ 3 34 hH0 ?hyv ?o14
   case hyv=>
    intro wz hSw;have zc0:=(zP hSw (p:=⟨w.heap.size,0,none⟩) yS (by simp;omega)).trans s0;have zc1:=(zP hSw (p:=⟨w.heap.size,1,none⟩) yS (by simp;omega)).trans s1;have zc2:=(zP hSw (p:=⟨w.heap.size,2,none⟩) yS (by simp;omega)).trans s2;have zc3:=(zP hSw (p:=⟨w.heap.size,3,none⟩) yS (by simp;omega)).trans s3;have zc4:=(zP hSw (p:=⟨w.heap.size,4,none⟩) yS (by simp;omega)).trans s4;have zc5:=(zP hSw (p:=⟨w.heap.size,5,none⟩) yS (by simp;omega)).trans s5;have zc6:=(zP hSw (p:=⟨mb,4,none⟩) yM (by simpa using hne)).trans m4;go_simp
    try rfl
   try simp only [Act.put,sT,sZ,sS]
   refine' tkR 4 35 hH0 ?o15
   refine' tkQ 5 36 hH0 ?hyv ?o16
   case hyv=>
    intro wz hSw;have zc0:=(zP hSw (p:=⟨w.heap.size,0,none⟩) yS (by simp;omega)).trans s0;have zc1:=(zP hSw (p:=⟨w.heap.size,1,none⟩) yS (by simp;omega)).trans s1;have zc2:=(zP hSw (p:=⟨w.heap.size,2,none⟩) yS (by simp;omega)).trans s2;have zc3:=(zP hSw (p:=⟨w.heap.size,3,none⟩) yS (by simp;omega)).trans s3;have zc4:=(zP hSw (p:=⟨w.heap.size,4,none⟩) yS (by simp;omega)).trans s4;have zc5:=(zP hSw (p:=⟨w.heap.size,5,none⟩) yS (by simp;omega)).trans s5;have zc6:=(zP hSw (p:=⟨mb,4,none⟩) yM (by simpa using hne)).trans m4;go_simp
    try rfl
   try simp only [Act.put,sT,sZ,sS]
   refine' tkR 6 37 hH0 ?o17
   refine' zM (i:=7) (oi:=⟨some 38,_,_,_,_,_⟩) (v:=.int .i64 (z:Int)) rfl (by kernel_rfl) (by kernel_rfl) (by kernel_rfl) (by kernel_rfl) (fun _ _ _ h=>h) hH0 (by rfl) ?hyv ?o18
   case hyv=>
    intro wz hSw;go_simp;rw [HW.out]
   try simp only [Act.put,sT,sZ,sS]
   refine' tkR 8 39 hH0 ?o19
   refine' tkR 9 40 hH0 ?o20
   refine' tkQ 10 41 hH0 ?hyv ?o21
   case hyv=>
    intro wz hSw;have zc0:=(zP hSw (p:=⟨w.heap.size,0,none⟩) yS (by simp;omega)).trans s0;have zc1:=(zP hSw (p:=⟨w.heap.size,1,none⟩) yS (by simp;omega)).trans s1;have zc2:=(zP hSw (p:=⟨w.heap.size,2,none⟩) yS (by simp;omega)).trans s2;have zc3:=(zP hSw (p:=⟨w.heap.size,3,none⟩) yS (by simp;omega)).trans s3;have zc4:=(zP hSw (p:=⟨w.heap.size,4,none⟩) yS (by simp;omega)).trans s4;have zc5:=(zP hSw (p:=⟨w.heap.size,5,none⟩) yS (by simp;omega)).trans s5;have zc6:=(zP hSw (p:=⟨mb,4,none⟩) yM (by simpa using hne)).trans m4;go_simp
    try rfl
   try simp only [Act.put,sT,sZ,sS]
   refine' tkR 11 42 hH0 ?o22
   refine tnQ 12 (fun K hK=>?_);go_simp;refine (HTi.out wd0 (Br.trans hH0 Br.size) kC).mono ?_;rintro eq wd1 ⟨rfl,bq1⟩;have hH1:Aside [cb] wr.heap.size wr wd1:=hH0.trans (aside bq1) hH0.size;have kC2:=kC.under bq1;refine hK.out _ _ (fun _=>hH1) ?_;clear hK K
   try simp only [Act.put,sT,sZ,sS]
   refine' tkR 13 44 hH1 ?o23
   refine tnQ 14 (fun K hK=>?_);have fr:=kC2.free z;have st0:=kC2.at (i:=z) hzl;go_simp;have hH2:Aside [cb] wr.heap.size wr (wd1.setCell ⟨cb,z,none⟩ (.int .i64 y)):=hH1.trans (Aside.setCell (B:=wd1.heap.size) (by simp) _) hH1.size;refine hK.out _ _ (fun _=>hH2) ?_;clear hK K fr st0
   try simp only [Act.put,sT,sZ,sS]
   have kE:=kC2.set z y;generalize wd1.setCell ⟨cb,z,none⟩ (.int .i64 y)=wd2 at hH2 kE ⊢;refine zI (by kernel_rfl) ?_ _;go_wp2_with fail;go_roundg (nn-(i+1))
   case measure=>omega
   case rel=>exact ⟨i+1,M'.set z y,by omega,rfl,by go_num,HR1,zG ⟨kE,by rw [List.length_set];exact HM'.out⟩,hbr.trans hH2 hbr.size⟩
theorem doFold_any {w:World} {mb cb:Nat} {c:Int} {vP vG vS:Value} {nc:Nat} {M:List Int} (hm:MaAt w mb cb c vP vG vS nc) (hl:LB w cb M) (hn:nc=M.length) (hc:(M.length:Int)=c) (hcM:c<=6000) {ok:Nat->Prop} (hok:∀ i,ok i->i≠cb) (k:Int) (nn tn:Nat) (ht:(tn:Int)+1<=c) (hn3:(nn:Int)<=300) {F E:List Pu} {aF aE:Option Addr} {nF cF nE cE:Nat} (hF:HPu ok w (.slice aF nF cF) F) (hfF:Lo.Fit c 1 F) (hE:HPu ok w (.slice aE nE cE) E) (hfE:Lo.Fit c nn E):Calls Tryd.prog 29 #[.pointer (some ⟨mb,0,none⟩),.agg #[.int .i64 3,.int .i64 k,.int .i64 (nn:Int),.int .i64 (tn:Int),.slice aF nF cF,.slice aE nE cE]] w (DoPost w cb (M.set tn (Lo.foldL k E M nn 0 (Lo.tree M 0 F)))):=by
 have b1:Below w.heap.size w (w.alloc (.cells #[.int .i64 3,.int .i64 k,.int .i64 (nn:Int),.int .i64 (tn:Int),.slice aF nF cF,.slice aE nE cE] 54 (0,0))):=(Below.refl _ _).alloc zL _;have kS:=zJ w (.cells #[.int .i64 3,.int .i64 k,.int .i64 (nn:Int),.int .i64 (tn:Int),.slice aF nF cF,.slice aE nE cE] 54 (0,0));have hm1:=hm.past (aside b1);have hl1:=hl.under b1;have hcb:=hl.lt;have hne:=hm.ne;have HT:=zG (fun W (a:Below w.heap.size w W) (i:Nat) (hi:i<nn)=>zAQ (hm.past (aside a)) (hl.under a) hn hc hcM (hE.under a) hfE hn3 i (by omega));have hTF:∀ W,Below w.heap.size w W->Calls Tryd.prog 47 #[.pointer (some ⟨mb,0,none⟩),.slice aF nF cF,.int .i64 0] W fun e w'=>e=.returned (.int .i64 (Lo.tree M 0 F))/\Below W.heap.size W w':=fun W a=>zAQ (hm.past (aside a)) (hl.under a) hn hc hcM (hF.under a) hfF (by decide) 0 (by decide);have htl:tn<M.length:=(by omega);have htc:tn<nc:=(by omega);obtain ⟨fv,hfv⟩:=nmQ (Lo.foldL k E M nn 0 (Lo.tree M 0 F));rw [<-hfv];generalize Lo.tree M 0 F=x0 at hTF hfv;have HTF:=zG hTF;have HR:=zG (show fv=Lo.foldL k E M (nn-0) 0 x0 from hfv);clear hfv hTF;go_enter Tryd.func29,Tryd.ntmps29;go_upto_region 1 with fail;generalize (w.alloc (.cells #[.int .i64 3,.int .i64 k,.int .i64 (nn:Int),.int .i64 (tn:Int),.slice aF nF cF,.slice aE nE cE] 54 (0,0)))=w1 at b1 kS hm1 hl1 ⊢;have s0:=coQ kS 0;have s1:=coQ kS 1;have s2:=coQ kS 2;have s3:=coQ kS 3;have s4:=coQ kS 4;have s5:=coQ kS 5;simp at s0 s1 s2 s3 s4 s5;have kC0:=hl1;have HNC:=zG hn;clear hm hl hE hF hl1 hok hn hc hcM hfE hfF;go_upto_region 12 with (go_at_call 47;refine (HTF.out _ b1).mono ?_;rintro e w2 ⟨rfl,b2⟩);have B2:=b1.trans (b2.mono b1.size);have kS2:=(b2.block _ (zH kS)).trans kS;have hm2:=hm1.past (aside b2);have hl2:=kC0.under b2;clear s0 s1 s2 s3 s4 s5 kC0 kS hm1 HTF;have s0:=coQ kS2 0;have s1:=coQ kS2 1;have s2:=coQ kS2 2;have s3:=coQ kS2 3;have s4:=coQ kS2 4;have s5:=coQ kS2 5;simp at s0 s1 s2 s3 s4 s5;go_wp2_with fail;go_loopg [5,6,54] nn (fun kq u5 u6 v wr=>∃ (i:Nat) (x:Int),i<=nn/\kq=nn-i/\v=.int .i64 (i:Nat)/\u5=.int .i64 x/\Hid (fv=Lo.foldL k E M (nn-i) i x)/\Below w2.heap.size w2 wr)
 case atStart=>exact ⟨0,x0,Nat.zero_le _,rfl,rfl,rfl,HR,Below.refl _ _⟩
 case round=>
  clear HR s0 s1 s2 s3 s4 s5;obtain ⟨i,x,hi,rfl,rfl,rfl,H,hbr⟩:=hrel;have Br:=B2.trans (hbr.mono B2.size);have hlr:=hl2.under hbr;have kSr:=(aside (S:=[cb]) hbr).keep kS2 (zH kS2) (by simp;omega);have hmr:=hm2.past (aside (S:=[cb]) hbr);have s0:=coQ kSr 0;have s1:=coQ kSr 1;have s2:=coQ kSr 2;have s3:=coQ kSr 3;have s4:=coQ kSr 4;have s5:=coQ kSr 5;have m4:=coQ hmr.m 4;simp at s0 s1 s2 s3 s4 s5 m4;have yS:=zH kSr;have yM:=zH hmr.m;by_cases hlt:i<nn
  case neg=>
   have hin:i=nn:=(by omega);subst hin;have HZ:=zG (show fv=x by rw [H.out,Nat.sub_self];rfl);clear H;have kC0:=hlr;go_upto_region 17 with fail;refine zK (fun w'=>Aside [cb] wr.heap.size wr w') (fun _=>false) (by kernel_rfl) ?_;have hH0:Aside [cb] wr.heap.size wr wr.drew:=(Aside.refl _).drew;have kC:LB wr.drew cb M:=kC0;generalize wr.drew=wd0 at hH0 kC ⊢;refine' tkR 0 67 hH0 ?o24
   refine' tkR 1 68 hH0 ?o25
   refine' tkR 2 69 hH0 ?o26
   refine' tkQ 3 70 hH0 ?hyv ?o27
   case hyv=>
    intro wz hSw;have zc0:=(zP hSw (p:=⟨w.heap.size,0,none⟩) yS (by simp;omega)).trans s0;have zc1:=(zP hSw (p:=⟨w.heap.size,1,none⟩) yS (by simp;omega)).trans s1;have zc2:=(zP hSw (p:=⟨w.heap.size,2,none⟩) yS (by simp;omega)).trans s2;have zc3:=(zP hSw (p:=⟨w.heap.size,3,none⟩) yS (by simp;omega)).trans s3;have zc4:=(zP hSw (p:=⟨w.heap.size,4,none⟩) yS (by simp;omega)).trans s4;have zc5:=(zP hSw (p:=⟨w.heap.size,5,none⟩) yS (by simp;omega)).trans s5;have zc6:=(zP hSw (p:=⟨mb,4,none⟩) yM (by simpa using hne)).trans m4;go_simp
    try rfl
   try simp only [Act.put,sT,sZ,sS]
   refine' tkR 4 71 hH0 ?o28
   refine' tkQ 5 72 hH0 ?hyv ?o29
   case hyv=>
    intro wz hSw;have zc0:=(zP hSw (p:=⟨w.heap.size,0,none⟩) yS (by simp;omega)).trans s0;have zc1:=(zP hSw (p:=⟨w.heap.size,1,none⟩) yS (by simp;omega)).trans s1;have zc2:=(zP hSw (p:=⟨w.heap.size,2,none⟩) yS (by simp;omega)).trans s2;have zc3:=(zP hSw (p:=⟨w.heap.size,3,none⟩) yS (by simp;omega)).trans s3;have zc4:=(zP hSw (p:=⟨w.heap.size,4,none⟩) yS (by simp;omega)).trans s4;have zc5:=(zP hSw (p:=⟨w.heap.size,5,none⟩) yS (by simp;omega)).trans s5;have zc6:=(zP hSw (p:=⟨mb,4,none⟩) yM (by simpa using hne)).trans m4;go_simp
    try rfl
   try simp only [Act.put,sT,sZ,sS]
   refine' tkR 6 73 hH0 ?o30
   refine' tkR 7 74 hH0 ?o31
   refine tnQ 8 (fun K hK=>?_);have fr:=kC.free tn;have st0:=kC.at (i:=tn) htl;go_simp;have hH1:Aside [cb] wr.heap.size wr (wd0.setCell ⟨cb,tn,none⟩ (.int .i64 x)):=hH0.trans (Aside.setCell (B:=wd0.heap.size) (by simp) _) hH0.size;refine hK.out _ _ (fun _=>hH1) ?_;clear hK K fr st0
   try simp only [Act.put,sT,sZ,sS]
   have kE:=kC.set tn x;generalize wd0.setCell ⟨cb,tn,none⟩ (.int .i64 x)=wd1 at hH1 kE ⊢;refine zI (by kernel_rfl) ?_ _;go_wp2_with fail;exact bodyPost_end (v:=.tuple #[]) (by simp [results,Tryd.results29]) rfl ⟨rfl,by rw [HZ.out];exact kE,(aside Br).trans hH1 Br.size⟩
  case pos=>
   have hT:=fun W (a:Below w.heap.size w W)=>HT.out W a i hlt;have hR1:=H.out;rw [show nn-i=(nn-(i+1))+1 by omega,Lo.foldL] at hR1;generalize Lo.tree M (i:Int) E=y at hT hR1;have HTi:=zG hT;have HR1:=zG hR1;clear hT hR1 H;go_upto_region 15 with fail;refine zK (fun w'=>Below wr.heap.size wr w') (fun _=>false) (by kernel_rfl) ?_;have hH0:Below wr.heap.size wr wr.drew:=(Below.refl _ _).drew;generalize wr.drew=wd0 at hH0 ⊢;refine' tkR 0 57 hH0 ?o32
   refine' tkQ 1 58 hH0 ?hyv ?o33
   case hyv=>
    intro wz hSw;have zc0:=(hSw.cell (p:=⟨w.heap.size,0,none⟩) yS).trans s0;have zc1:=(hSw.cell (p:=⟨w.heap.size,1,none⟩) yS).trans s1;have zc2:=(hSw.cell (p:=⟨w.heap.size,2,none⟩) yS).trans s2;have zc3:=(hSw.cell (p:=⟨w.heap.size,3,none⟩) yS).trans s3;have zc4:=(hSw.cell (p:=⟨w.heap.size,4,none⟩) yS).trans s4;have zc5:=(hSw.cell (p:=⟨w.heap.size,5,none⟩) yS).trans s5;have zc6:=(hSw.cell (p:=⟨mb,4,none⟩) yM).trans m4;go_simp
    try rfl
   try simp only [Act.put,sT,sZ,sS]
   refine' tkR 2 59 hH0 ?o34
   refine' tkR 3 60 hH0 ?o35
   refine' tkR 4 61 hH0 ?o36
   refine' tkQ 5 62 hH0 ?hyv ?o37
   case hyv=>
    intro wz hSw;have zc0:=(hSw.cell (p:=⟨w.heap.size,0,none⟩) yS).trans s0;have zc1:=(hSw.cell (p:=⟨w.heap.size,1,none⟩) yS).trans s1;have zc2:=(hSw.cell (p:=⟨w.heap.size,2,none⟩) yS).trans s2;have zc3:=(hSw.cell (p:=⟨w.heap.size,3,none⟩) yS).trans s3;have zc4:=(hSw.cell (p:=⟨w.heap.size,4,none⟩) yS).trans s4;have zc5:=(hSw.cell (p:=⟨w.heap.size,5,none⟩) yS).trans s5;have zc6:=(hSw.cell (p:=⟨mb,4,none⟩) yM).trans m4;go_simp
    try rfl
   try simp only [Act.put,sT,sZ,sS]
   refine' tkR 6 63 hH0 ?o38
   refine tnQ 7 (fun K hK=>?_);go_simp;refine (HTi.out wd0 (Br.trans (hH0.mono Br.size))).mono ?_;rintro eq wd1 ⟨rfl,bq1⟩;have hH1:Below wr.heap.size wr wd1:=hH0.trans (bq1.mono hH0.size);refine hK.out _ _ (fun _=>hH1) ?_;clear hK K
   try simp only [Act.put,sT,sZ,sS]
   refine tnQ 8 (fun K hK=>?_);go_simp;refine (zAY k x y wd1).mono ?_;rintro eq wd2 ⟨rfl,bq2⟩;have hH2:Below wr.heap.size wr wd2:=hH1.trans (bq2.mono hH1.size);refine hK.out _ _ (fun _=>hH2) ?_;clear hK K
   try simp only [Act.put,sT,sZ,sS]
   refine' tkR 9 5 hH2 ?o39
   refine zI (by kernel_rfl) ?_ _;go_wp2_with fail;go_roundg (nn-(i+1))
   case measure=>omega
   case rel=>exact ⟨i+1,_,by omega,rfl,by go_num,rfl,HR1,hbr.trans (hH2.mono hbr.size)⟩
theorem doScan_any {w:World} {mb cb:Nat} {c:Int} {vP vG vS:Value} {nc:Nat} {M:List Int} (hm:MaAt w mb cb c vP vG vS nc) (hl:LB w cb M) (hn:nc=M.length) (hc:(M.length:Int)=c) (hcM:c<=6000) {ok:Nat->Prop} (hok:∀ i,ok i->i≠cb) (k:Int) (nn tn:Nat) (ht:(tn:Int)+nn<=c) (hn3:(nn:Int)<=300) {F E:List Pu} {aF aE:Option Addr} {nF cF nE cE:Nat} (hF:HPu ok w (.slice aF nF cF) F) (hfF:Lo.Fit c 1 F) (hE:HPu ok w (.slice aE nE cE) E) (hfE:Lo.Fit c nn E):Calls Tryd.prog 29 #[.pointer (some ⟨mb,0,none⟩),.agg #[.int .i64 4,.int .i64 k,.int .i64 (nn:Int),.int .i64 (tn:Int),.slice aF nF cF,.slice aE nE cE]] w (DoPost w cb (Lo.scanL k tn E nn 0 (Lo.tree M 0 F) M)):=by
 have b1:Below w.heap.size w (w.alloc (.cells #[.int .i64 4,.int .i64 k,.int .i64 (nn:Int),.int .i64 (tn:Int),.slice aF nF cF,.slice aE nE cE] 54 (0,0))):=(Below.refl _ _).alloc zL _;have kS:=zJ w (.cells #[.int .i64 4,.int .i64 k,.int .i64 (nn:Int),.int .i64 (tn:Int),.slice aF nF cF,.slice aE nE cE] 54 (0,0));have hm1:=hm.past (aside b1);have hl1:=hl.under b1;have hcb:=hl.lt;have hne:=hm.ne;have HT:=zG (fun W M' (a:Aside [cb] w.heap.size w W) (h:LB W cb M') (hM:M'.length=M.length) (i:Nat) (hi:i<nn)=>zAQ (hm.past a) h (hn.trans hM.symm) (by rw [hM];exact hc) hcM (hE.past a hok) hfE hn3 i (by omega));have hTF:∀ W,Below w.heap.size w W->Calls Tryd.prog 47 #[.pointer (some ⟨mb,0,none⟩),.slice aF nF cF,.int .i64 0] W fun e w'=>e=.returned (.int .i64 (Lo.tree M 0 F))/\Below W.heap.size W w':=fun W a=>zAQ (hm.past (aside a)) (hl.under a) hn hc hcM (hF.under a) hfF (by decide) 0 (by decide);have htn:tn+nn<=M.length:=(by omega);have hML:M.length<=6000:=(by omega);obtain ⟨R,hR⟩:=nmQ (Lo.scanL k tn E nn 0 (Lo.tree M 0 F) M);rw [<-hR];generalize Lo.tree M 0 F=x0 at hTF hR;have HTF:=zG hTF;have HR:=zG (show R=Lo.scanL k tn E (nn-0) 0 x0 M from hR);clear hR hTF;go_enter Tryd.func29,Tryd.ntmps29;go_upto_region 1 with fail;generalize (w.alloc (.cells #[.int .i64 4,.int .i64 k,.int .i64 (nn:Int),.int .i64 (tn:Int),.slice aF nF cF,.slice aE nE cE] 54 (0,0)))=w1 at b1 kS hm1 hl1 ⊢;have s0:=coQ kS 0;have s1:=coQ kS 1;have s2:=coQ kS 2;have s3:=coQ kS 3;have s4:=coQ kS 4;have s5:=coQ kS 5;simp at s0 s1 s2 s3 s4 s5;have kC0:=hl1;have HNC:=zG hn;clear hm hl hE hF hl1 hok hn hc hcM hfE hfF;go_upto_region 20 with (go_at_call 47;refine (HTF.out _ b1).mono ?_;rintro e w2 ⟨rfl,b2⟩);have B2:=b1.trans (b2.mono b1.size);have kS2:=(b2.block _ (zH kS)).trans kS;have hm2:=hm1.past (aside b2);have hl2:=kC0.under b2;clear s0 s1 s2 s3 s4 s5 kC0 kS hm1 HTF;have s0:=coQ kS2 0;have s1:=coQ kS2 1;have s2:=coQ kS2 2;have s3:=coQ kS2 3;have s4:=coQ kS2 4;have s5:=coQ kS2 5;simp at s0 s1 s2 s3 s4 s5;go_wp2_with fail;go_loopg [7,8,83] nn (fun kq u7 u8 v wr=>∃ (i:Nat) (M':List Int) (x:Int),i<=nn/\kq=nn-i/\v=.int .i64 (i:Nat)/\u7=.int .i64 x/\Hid (R=Lo.scanL k tn E (nn-i) i x M')/\Hid (LB wr cb M'/\M'.length=M.length)/\Aside [cb] w2.heap.size w2 wr)
 case atStart=>exact ⟨0,M,x0,Nat.zero_le _,rfl,rfl,rfl,HR,zG ⟨hl2,rfl⟩,Aside.refl _⟩
 case round=>
  clear HR s0 s1 s2 s3 s4 s5 hl2;obtain ⟨i,M',x,hi,rfl,rfl,rfl,H,HL,hbr⟩:=hrel;have Br:=(aside B2).trans hbr B2.size;have kSr:=hbr.keep kS2 (zH kS2) (by simp;omega);have hmr:=hm2.past hbr;have s0:=coQ kSr 0;have s1:=coQ kSr 1;have s2:=coQ kSr 2;have s3:=coQ kSr 3;have s4:=coQ kSr 4;have s5:=coQ kSr 5;have m4:=coQ hmr.m 4;simp at s0 s1 s2 s3 s4 s5 m4;have yS:=zH kSr;have yM:=zH hmr.m;by_cases hlt:i<nn
  case neg=>
   have hin:i=nn:=(by omega);subst hin;have HZ:=zG (show R=M' by rw [H.out,Nat.sub_self];rfl);clear H;go_wp2_with fail;exact bodyPost_end (v:=.tuple #[]) (by simp [results,Tryd.results29]) rfl ⟨rfl,by rw [HZ.out];exact HL.out.1,Br⟩
  case pos=>
   obtain ⟨kC0,hM'⟩:=HL.out;have hT:=fun W (a:Aside [cb] w.heap.size w W) (h:LB W cb M')=>HT.out W M' a h hM' i hlt;have hR1:=H.out;rw [show nn-i=(nn-(i+1))+1 by omega,Lo.scanL] at hR1;obtain ⟨z,hz⟩:=nmQ (tn+i);rw [show ((tn:Int)+(i:Int)).toNat=z by omega] at hR1;generalize Lo.tree M' (i:Int) E=y at hT hR1;have HTi:=zG hT;have HR1:=zG hR1;have HW:Hid (IntKind.i64.wrap ((tn:Int)+(i:Int))=(z:Int)):=zG (by
    have h2:IntKind.i64.wrap ((tn:Int)+(i:Int))=(tn:Int)+(i:Int):=i64_in _ (by omega);have h3:((tn:Int)+(i:Int))=(z:Int):=(by omega);exact h2.trans h3)
   have hzl:z<M'.length:=(by omega);have hznc:z<nc:=(by have:=HNC.out;omega);have HM':=zG hM';clear hz hT hR1 H HL hM';obtain ⟨yy,hyy⟩:=nmQ (apT k x y);rw [<-hyy] at HR1;have HYY:=zG hyy;clear hyy;go_upto_region 23 with fail;go_cut [7] (fun v wd=>v=.int .i64 yy/\Aside [cb] wr.heap.size wr wd/\LB wd cb M')
   case first=>
    refine zK (fun w'=>Aside [cb] wr.heap.size wr w') (fun _=>false) (by kernel_rfl) ?_;have hH0:Aside [cb] wr.heap.size wr wr.drew:=(Aside.refl _).drew;have kC:LB wr.drew cb M':=kC0;generalize wr.drew=wd0 at hH0 kC ⊢;refine' tkR 0 86 hH0 ?o40
    refine' tkQ 1 87 hH0 ?hyv ?o41
    case hyv=>
     intro wz hSw;have zc0:=(zP hSw (p:=⟨w.heap.size,0,none⟩) yS (by simp;omega)).trans s0;have zc1:=(zP hSw (p:=⟨w.heap.size,1,none⟩) yS (by simp;omega)).trans s1;have zc2:=(zP hSw (p:=⟨w.heap.size,2,none⟩) yS (by simp;omega)).trans s2;have zc3:=(zP hSw (p:=⟨w.heap.size,3,none⟩) yS (by simp;omega)).trans s3;have zc4:=(zP hSw (p:=⟨w.heap.size,4,none⟩) yS (by simp;omega)).trans s4;have zc5:=(zP hSw (p:=⟨w.heap.size,5,none⟩) yS (by simp;omega)).trans s5;have zc6:=(zP hSw (p:=⟨mb,4,none⟩) yM (by simpa using hne)).trans m4;go_simp
     try rfl
    try simp only [Act.put,sT,sZ,sS]
    refine' tkR 2 88 hH0 ?o42
    refine' tkR 3 89 hH0 ?o43
    refine' tkR 4 90 hH0 ?o44
    refine' tkQ 5 91 hH0 ?hyv ?o45
    case hyv=>
     intro wz hSw;have zc0:=(zP hSw (p:=⟨w.heap.size,0,none⟩) yS (by simp;omega)).trans s0;have zc1:=(zP hSw (p:=⟨w.heap.size,1,none⟩) yS (by simp;omega)).trans s1;have zc2:=(zP hSw (p:=⟨w.heap.size,2,none⟩) yS (by simp;omega)).trans s2;have zc3:=(zP hSw (p:=⟨w.heap.size,3,none⟩) yS (by simp;omega)).trans s3;have zc4:=(zP hSw (p:=⟨w.heap.size,4,none⟩) yS (by simp;omega)).trans s4;have zc5:=(zP hSw (p:=⟨w.heap.size,5,none⟩) yS (by simp;omega)).trans s5;have zc6:=(zP hSw (p:=⟨mb,4,none⟩) yM (by simpa using hne)).trans m4;go_simp
     try rfl
    try simp only [Act.put,sT,sZ,sS]
    refine' tkR 6 92 hH0 ?o46
    refine tnQ 7 (fun K hK=>?_);go_simp;refine (HTi.out wd0 (Br.trans hH0 Br.size) kC).mono ?_;rintro eq wd1 ⟨rfl,bq1⟩;have hH1:Aside [cb] wr.heap.size wr wd1:=hH0.trans (aside bq1) hH0.size;have kC2:=kC.under bq1;refine hK.out _ _ (fun _=>hH1) ?_;clear hK K
    try simp only [Act.put,sT,sZ,sS]
    refine tnQ 8 (fun K hK=>?_);go_simp;refine (zAY k x y wd1).mono ?_;rintro eq wd2 ⟨rfl,bq2⟩;have hH2:Aside [cb] wr.heap.size wr wd2:=hH1.trans (aside bq2) hH1.size;have kC3:=kC2.under bq2;refine hK.out _ _ (fun _=>hH2) ?_;clear hK K
    try simp only [Act.put,sT,sZ,sS]
    refine' tkR 9 7 hH2 ?o47
    refine zI (by kernel_rfl) ?_ _;go_wp2_with fail;go_meet
    case rel=>exact ⟨by rw [HYY.out],hH2,kC3⟩
   case rest=>
    obtain ⟨rfl,bc,kCc⟩:=hcut;have Bc:=hbr.trans bc hbr.size;have kSc:=bc.keep kSr (zH kSr) (by simp;omega);have hmc:=hmr.past bc;clear s0 s1 s2 s3 s4 s5 m4 HTi HYY kC0 kSr hmr yS yM;have s0:=coQ kSc 0;have s1:=coQ kSc 1;have s2:=coQ kSc 2;have s3:=coQ kSc 3;have s4:=coQ kSc 4;have s5:=coQ kSc 5;have m4:=coQ hmc.m 4;simp at s0 s1 s2 s3 s4 s5 m4;have yS:=zH kSc;have yM:=zH hmc.m;go_upto_region 24 with fail;refine zK (fun w'=>Aside [cb] wc.heap.size wc w') (fun _=>false) (by kernel_rfl) ?_;have hH0:Aside [cb] wc.heap.size wc wc.drew:=(Aside.refl _).drew;have kC:LB wc.drew cb M':=kCc;generalize wc.drew=wd0 at hH0 kC ⊢;refine' tkR 0 95 hH0 ?o48
    refine' tkR 1 96 hH0 ?o49
    refine' tkR 2 97 hH0 ?o50
    refine' tkQ 3 98 hH0 ?hyv ?o51
    case hyv=>
     intro wz hSw;have zc0:=(zP hSw (p:=⟨w.heap.size,0,none⟩) yS (by simp;omega)).trans s0;have zc1:=(zP hSw (p:=⟨w.heap.size,1,none⟩) yS (by simp;omega)).trans s1;have zc2:=(zP hSw (p:=⟨w.heap.size,2,none⟩) yS (by simp;omega)).trans s2;have zc3:=(zP hSw (p:=⟨w.heap.size,3,none⟩) yS (by simp;omega)).trans s3;have zc4:=(zP hSw (p:=⟨w.heap.size,4,none⟩) yS (by simp;omega)).trans s4;have zc5:=(zP hSw (p:=⟨w.heap.size,5,none⟩) yS (by simp;omega)).trans s5;have zc6:=(zP hSw (p:=⟨mb,4,none⟩) yM (by simpa using hne)).trans m4;go_simp
     try rfl
    try simp only [Act.put,sT,sZ,sS]
    refine' tkR 4 99 hH0 ?o52
    refine' tkQ 5 100 hH0 ?hyv ?o53
    case hyv=>
     intro wz hSw;have zc0:=(zP hSw (p:=⟨w.heap.size,0,none⟩) yS (by simp;omega)).trans s0;have zc1:=(zP hSw (p:=⟨w.heap.size,1,none⟩) yS (by simp;omega)).trans s1;have zc2:=(zP hSw (p:=⟨w.heap.size,2,none⟩) yS (by simp;omega)).trans s2;have zc3:=(zP hSw (p:=⟨w.heap.size,3,none⟩) yS (by simp;omega)).trans s3;have zc4:=(zP hSw (p:=⟨w.heap.size,4,none⟩) yS (by simp;omega)).trans s4;have zc5:=(zP hSw (p:=⟨w.heap.size,5,none⟩) yS (by simp;omega)).trans s5;have zc6:=(zP hSw (p:=⟨mb,4,none⟩) yM (by simpa using hne)).trans m4;go_simp
     try rfl
    try simp only [Act.put,sT,sZ,sS]
    refine' tkR 6 101 hH0 ?o54
    refine' zM (i:=7) (oi:=⟨some 102,_,_,_,_,_⟩) (v:=.int .i64 (z:Int)) rfl (by kernel_rfl) (by kernel_rfl) (by kernel_rfl) (by kernel_rfl) (fun _ _ _ h=>h) hH0 (by rfl) ?hyv ?o55
    case hyv=>
     intro wz hSw;go_simp;rw [HW.out]
    try simp only [Act.put,sT,sZ,sS]
    refine' tkR 8 103 hH0 ?o56
    refine' tkR 9 104 hH0 ?o57
    refine tnQ 10 (fun K hK=>?_);have fr:=kC.free z;have st0:=kC.at (i:=z) hzl;go_simp;have hH1:Aside [cb] wc.heap.size wc (wd0.setCell ⟨cb,z,none⟩ (.int .i64 yy)):=hH0.trans (Aside.setCell (B:=wd0.heap.size) (by simp) _) hH0.size;refine hK.out _ _ (fun _=>hH1) ?_;clear hK K fr st0
    try simp only [Act.put,sT,sZ,sS]
    have kE:=kC.set z yy;generalize wd0.setCell ⟨cb,z,none⟩ (.int .i64 yy)=wd1 at hH1 kE ⊢;refine zI (by kernel_rfl) ?_ _;go_wp2_with fail;go_roundg (nn-(i+1))
    case measure=>omega
    case rel=>exact ⟨i+1,M'.set z yy,yy,by omega,rfl,by go_num,rfl,HR1,zG ⟨kE,by rw [List.length_set];exact HM'.out⟩,Bc.trans hH1 Bc.size⟩
end Go.Proofs.YtgjdkgkgbmbffaaDoor
