import Derived.Test.YtnhmcpnbaajjcaaGreatDoorC34
import Derived.Deep.Cut
import Derived.Deep.LoopGhost
import Derived.Ground.NamesProg
import Derived.IntWalk
import Derived.Laws.Cover1
import Derived.Laws.EntriesVeiled
import Derived.Laws.Externs
import Derived.Lib.Hide
import Derived.Lib.MakeNoZero
import Derived.Lib.SlBuf
import Derived.Shelf.Bytes.SlSmallAll
import Derived.Shelf.Lay
import Derived.WalkKit
import Derived.WalkSpells
set_option linter.unusedVariables false
set_option linter.unusedSimpArgs false
set_option maxHeartbeats 64000000
set_option maxRecDepth 100000
namespace Go.Proofs.YtnhmcpnbaajjcaaGreatDoor
open Go.RowKit Go.IntWalk
theorem cellA_any {w:World} {rb:Nat} {K out n:Int} {aA aE:Option Addr} {nA cA nE cE:Nat}   {N:Nat} :Calls Tryz.prog 70 #[.agg #[.pointer (some ⟨rb,0,none⟩),.int .i64 1,.int .i64 K,.int .i64 out,.int .i64 n,.slice aA nA cA,.slice aE nE cE]] w fun e w'=>CellPost w w' e (fun _=>n) N:=by
 have b1:Below w.heap.size w (w.alloc (.cells #[.pointer (some ⟨rb,0,none⟩),.int .i64 1,.int .i64 K,.int .i64 out,.int .i64 n,.slice aA nA cA,.slice aE nE cE] 110 (0,0))):=(Below.refl _ _).alloc zL _;have kM:=zH w (.cells #[.pointer (some ⟨rb,0,none⟩),.int .i64 1,.int .i64 K,.int .i64 out,.int .i64 n,.slice aA nA cA,.slice aE nE cE] 110 (0,0));go_enter Tryz.func70,Tryz.ntmps70;go_upto_region 1 with fail;obtain ⟨w1,hw1⟩:=nmQ (w.alloc (.cells #[.pointer (some ⟨rb,0,none⟩),.int .i64 1,.int .i64 K,.int .i64 out,.int .i64 n,.slice aA nA cA,.slice aE nE cE] 110 (0,0)));rw [<-hw1] at b1 kM ⊢;have yM:w.heap.size<w1.heap.size:=zG kM;clear hw1;have B1:Below w1.heap.size w1 w1:=Below.refl _ _;have m0:=coQ kM 0;have m1:=coQ kM 1;have m2:=coQ kM 2;have m3:=coQ kM 3;have m4:=coQ kM 4;have m5:=coQ kM 5;have m6:=coQ kM 6;simp at m0 m1 m2 m3 m4 m5 m6;go_wp2_with fail;refine (qI n _).mono ?_;rintro e w2 ⟨rfl,hw⟩;have bq:=newB hw;have B2:=B1.trans (bq.mono B1.size);have HEND:=zD (show Tells w w2 (.func (.func 126) #[] #[.pointer (some ⟨w1.heap.size,0,none⟩)]) (fun _=>n) N/\Below w.heap.size w w2 from ⟨xV (by rw [hw];exact zH _ _),(b1.trans (B2.mono b1.size))⟩);clear hw bq;go_wp2;go_ret;exact ⟨_,rfl,HEND.out.1,HEND.out.2⟩
theorem cellB_any {w:World} {rb:Nat} {K out n:Int} {aA aE:Option Addr} {nA cA nE cE:Nat}  {ok okA:Nat->Prop} {x:WkV} {vC vA:Value} {C:List (List Int)} {A:List Int} (hr:RowAt w rb x vC vA) (hC:HRow kLL ok w vC C) (hA:HInts okA w (.slice aA nA cA) A) (h0:0<A.length) (hz0:0<=A[0]/\A[0]<C.length) {N:Nat} (hN:N<=(Sk.cAt C A[0]).length):Calls Tryz.prog 70 #[.agg #[.pointer (some ⟨rb,0,none⟩),.int .i64 2,.int .i64 K,.int .i64 out,.int .i64 n,.slice aA nA cA,.slice aE nE cE]] w fun e w'=>CellPost w w' e (fun k=>(Sk.cAt C A[0]).getD k 0) N:=by
 have b1:Below w.heap.size w (w.alloc (.cells #[.pointer (some ⟨rb,0,none⟩),.int .i64 2,.int .i64 K,.int .i64 out,.int .i64 n,.slice aA nA cA,.slice aE nE cE] 110 (0,0))):=(Below.refl _ _).alloc zL _;have kM:=zH w (.cells #[.pointer (some ⟨rb,0,none⟩),.int .i64 2,.int .i64 K,.int .i64 out,.int .i64 n,.slice aA nA cA,.slice aE nE cE] 110 (0,0));have hC2:=hC.wide (ok':=fun i=>i<w.heap.size) fun i _ hl=>hl;have HRW:=zD (hr.under b1);have HCC:=zD (hC2.keep b1.size (fun i _ h=>b1.block i h));have HAA:=zD (hA.under b1);have HP0:=zD (fun (W:World) (hr:RowAt W rb x vC vA) (hC:HRow kLL (fun i=>i<w.heap.size) W vC C) (hA:HInts okA W (.slice aA nA cA) A)=>xB (op:=2) (k:=K) (out:=out) (n:=n) (aE:=aE) (nE:=nE) (cE:=cE) hr hC hA 0 h0 hz0);generalize Sk.cAt C A[0]=l0 at HP0 hN ⊢;have HhN:=zD hN;clear hN;clear hr hC hC2 hA hz0  h0;go_enter Tryz.func70,Tryz.ntmps70;go_upto_region 1 with fail;obtain ⟨w1,hw1⟩:=nmQ (w.alloc (.cells #[.pointer (some ⟨rb,0,none⟩),.int .i64 2,.int .i64 K,.int .i64 out,.int .i64 n,.slice aA nA cA,.slice aE nE cE] 110 (0,0)));rw [<-hw1] at b1 kM HRW HCC HAA ⊢;have yM:w.heap.size<w1.heap.size:=zG kM;clear hw1;have B1:Below w1.heap.size w1 w1:=Below.refl _ _;have m0:=coQ kM 0;have m1:=coQ kM 1;have m2:=coQ kM 2;have m3:=coQ kM 3;have m4:=coQ kM 4;have m5:=coQ kM 5;have m6:=coQ kM 6;simp at m0 m1 m2 m3 m4 m5 m6;go_wp2_with fail;refine (HP0.out _ (HRW.out.under B1) (HCC.out.keep B1.size (fun i hi _=>B1.block i (Nat.lt_trans hi yM))) (HAA.out.under B1)).mono ?_;rintro e w2 ⟨p0,q0,c0,rfl,hu0,bq⟩;have B2:=B1.trans (bq.mono B1.size)
 replace hu0:=zD (xN hu0 (bq.mono B1.size) (Nat.le_of_lt yM))
 replace kM:=(bq.block _ (zG kM)).trans kM
 clear bq m0 m1 m2 m3 m4 m5 m6;go_wp2_with fail;refine (xX p0 q0 c0 _).mono ?_;rintro e w3 ⟨rfl,hw⟩;have bq:=newB hw;have B3:=B2.trans (bq.mono B2.size);have HEND:=zD (show Tells w w3 (.func (.func 127) #[] #[.pointer (some ⟨w2.heap.size,0,none⟩)]) (fun k=>l0.getD k 0) N/\Below w.heap.size w w3 from ⟨qD (by rw [hw];exact zH _ _) (xN hu0.out (bq.mono B2.size) (Nat.le_of_lt yM)) (Nat.le_of_lt (Nat.lt_of_lt_of_le yM B3.size)) HhN.out,(b1.trans (B3.mono b1.size))⟩);clear hw bq;go_wp2;go_ret;exact ⟨_,rfl,HEND.out.1,HEND.out.2⟩
theorem cellC_any {w:World} {rb:Nat} {K out n:Int} {aA aE:Option Addr} {nA cA nE cE:Nat}  {ok okA:Nat->Prop} {x:WkV} {vC vA:Value} {C:List (List Int)} {A:List Int} (hr:RowAt w rb x vC vA) (hC:HRow kLL ok w vC C) (hA:HInts okA w (.slice aA nA cA) A) (h0:0<A.length) (hz0:0<=A[0]/\A[0]<C.length) {N:Nat} (hN:N<=(Sk.cAt C A[0]).length):Calls Tryz.prog 70 #[.agg #[.pointer (some ⟨rb,0,none⟩),.int .i64 3,.int .i64 K,.int .i64 out,.int .i64 n,.slice aA nA cA,.slice aE nE cE]] w fun e w'=>CellPost w w' e (fun k=>apT K ((Sk.cAt C A[0]).getD k 0) 0) N:=by
 have b1:Below w.heap.size w (w.alloc (.cells #[.pointer (some ⟨rb,0,none⟩),.int .i64 3,.int .i64 K,.int .i64 out,.int .i64 n,.slice aA nA cA,.slice aE nE cE] 110 (0,0))):=(Below.refl _ _).alloc zL _;have kM:=zH w (.cells #[.pointer (some ⟨rb,0,none⟩),.int .i64 3,.int .i64 K,.int .i64 out,.int .i64 n,.slice aA nA cA,.slice aE nE cE] 110 (0,0));have hC2:=hC.wide (ok':=fun i=>i<w.heap.size) fun i _ hl=>hl;have HRW:=zD (hr.under b1);have HCC:=zD (hC2.keep b1.size (fun i _ h=>b1.block i h));have HAA:=zD (hA.under b1);have HP0:=zD (fun (W:World) (hr:RowAt W rb x vC vA) (hC:HRow kLL (fun i=>i<w.heap.size) W vC C) (hA:HInts okA W (.slice aA nA cA) A)=>xB (op:=3) (k:=K) (out:=out) (n:=n) (aE:=aE) (nE:=nE) (cE:=cE) hr hC hA 0 h0 hz0);generalize Sk.cAt C A[0]=l0 at HP0 hN ⊢;have HhN:=zD hN;clear hN;clear hr hC hC2 hA hz0  h0;go_enter Tryz.func70,Tryz.ntmps70;go_upto_region 1 with fail;obtain ⟨w1,hw1⟩:=nmQ (w.alloc (.cells #[.pointer (some ⟨rb,0,none⟩),.int .i64 3,.int .i64 K,.int .i64 out,.int .i64 n,.slice aA nA cA,.slice aE nE cE] 110 (0,0)));rw [<-hw1] at b1 kM HRW HCC HAA ⊢;have yM:w.heap.size<w1.heap.size:=zG kM;clear hw1;have B1:Below w1.heap.size w1 w1:=Below.refl _ _;have m0:=coQ kM 0;have m1:=coQ kM 1;have m2:=coQ kM 2;have m3:=coQ kM 3;have m4:=coQ kM 4;have m5:=coQ kM 5;have m6:=coQ kM 6;simp at m0 m1 m2 m3 m4 m5 m6;go_wp2_with fail;refine (HP0.out _ (HRW.out.under B1) (HCC.out.keep B1.size (fun i hi _=>B1.block i (Nat.lt_trans hi yM))) (HAA.out.under B1)).mono ?_;rintro e w2 ⟨p0,q0,c0,rfl,hu0,bq⟩;have B2:=B1.trans (bq.mono B1.size)
 replace hu0:=zD (xN hu0 (bq.mono B1.size) (Nat.le_of_lt yM))
 replace kM:=(bq.block _ (zG kM)).trans kM
 clear bq m0 m1 m2 m3 m4 m5 m6;have HEND:=zD (show Tells w (w2.alloc (.cells #[.slice p0 q0 c0] 52 (0,0))) (.func (.func 101) #[] #[.pointer (some ⟨w.heap.size,0,none⟩),.pointer (some ⟨w2.heap.size,0,none⟩)]) (fun k=>apT K (l0.getD k 0) 0) N/\Below w.heap.size w (w2.alloc (.cells #[.slice p0 q0 c0] 52 (0,0))) from by
  have bq:Below w2.heap.size w2 (w2.alloc (.cells #[.slice p0 q0 c0] 52 (0,0))):=(Below.refl _ _).alloc zL _;have B3:=B2.trans (bq.mono B2.size);have kM3:=(bq.block _ (zG kM)).trans kM;have kN:=zH w2 (.cells #[.slice p0 q0 c0] 52 (0,0));have hu3:=xN hu0.out (bq.mono B2.size) (Nat.le_of_lt yM);exact ⟨Tells.of eg101 fun k W hk hb=>cell1_any ((hb.block _ (zG kM3)).trans kM3) ((hb.block _ (zG kN)).trans kN) (xN hu3 hb (Nat.le_of_lt (Nat.lt_of_lt_of_le yM B3.size))) (Nat.lt_of_lt_of_le hk HhN.out),(b1.trans (B3.mono b1.size))⟩)
 clear kM;go_wp2;go_ret;exact ⟨_,rfl,HEND.out.1,HEND.out.2⟩
theorem cellE_any {w:World} {rb:Nat} {K out n:Int} {aA aE:Option Addr} {nA cA nE cE:Nat}  {ok okA:Nat->Prop} {x:WkV} {vC vA:Value} {C:List (List Int)} {A:List Int} (hr:RowAt w rb x vC vA) (hC:HRow kLL ok w vC C) (hA:HInts okA w (.slice aA nA cA) A) (h0:0<A.length) (h1:1<A.length) (h2:2<A.length) (hz0:0<=A[0]/\A[0]<C.length) (hz1:0<=A[1]/\A[1]<C.length) (hz2:0<=A[2]/\A[2]<C.length) (hl0:0<(Sk.cAt C A[0]).length) {N:Nat} (hN:N<=(Sk.cAt C A[1]).length) (hM:N<=(Sk.cAt C A[2]).length):Calls Tryz.prog 70 #[.agg #[.pointer (some ⟨rb,0,none⟩),.int .i64 5,.int .i64 K,.int .i64 out,.int .i64 n,.slice aA nA cA,.slice aE nE cE]] w fun e w'=>CellPost w w' e (fun k=>if (Sk.cAt C A[0]).getD 0 0≠0 then (Sk.cAt C A[1]).getD k 0 else (Sk.cAt C A[2]).getD k 0) N:=by
 have b1:Below w.heap.size w (w.alloc (.cells #[.pointer (some ⟨rb,0,none⟩),.int .i64 5,.int .i64 K,.int .i64 out,.int .i64 n,.slice aA nA cA,.slice aE nE cE] 110 (0,0))):=(Below.refl _ _).alloc zL _;have kM:=zH w (.cells #[.pointer (some ⟨rb,0,none⟩),.int .i64 5,.int .i64 K,.int .i64 out,.int .i64 n,.slice aA nA cA,.slice aE nE cE] 110 (0,0));have hC2:=hC.wide (ok':=fun i=>i<w.heap.size) fun i _ hl=>hl;have HRW:=zD (hr.under b1);have HCC:=zD (hC2.keep b1.size (fun i _ h=>b1.block i h));have HAA:=zD (hA.under b1);have HP0:=zD (fun (W:World) (hr:RowAt W rb x vC vA) (hC:HRow kLL (fun i=>i<w.heap.size) W vC C) (hA:HInts okA W (.slice aA nA cA) A)=>xM (op:=5) (k:=K) (out:=out) (n:=n) (aE:=aE) (nE:=nE) (cE:=cE) hr hC hA 0 h0 hz0 hl0);have HP1:=zD (fun (W:World) (hr:RowAt W rb x vC vA) (hC:HRow kLL (fun i=>i<w.heap.size) W vC C) (hA:HInts okA W (.slice aA nA cA) A)=>xB (op:=5) (k:=K) (out:=out) (n:=n) (aE:=aE) (nE:=nE) (cE:=cE) hr hC hA 1 h1 hz1);have HP2:=zD (fun (W:World) (hr:RowAt W rb x vC vA) (hC:HRow kLL (fun i=>i<w.heap.size) W vC C) (hA:HInts okA W (.slice aA nA cA) A)=>xB (op:=5) (k:=K) (out:=out) (n:=n) (aE:=aE) (nE:=nE) (cE:=cE) hr hC hA 2 h2 hz2);generalize (Sk.cAt C A[0]).getD 0 0=v0 at HP0 ⊢;generalize Sk.cAt C A[1]=l1 at HP1 hN ⊢;generalize Sk.cAt C A[2]=l2 at HP2 hM ⊢;have HhN:=zD hN;clear hN;have HhM:=zD hM;clear hM;clear hr hC hC2 hA hz0 hz1 hz2 hl0 h0 h1 h2;obtain ⟨G,hG⟩:∃ G:Nat->Int,G=fun k=>if v0≠0 then l1.getD k 0 else l2.getD k 0:=⟨_,rfl⟩
 rw [<-hG];have HG:=zD hG;clear hG;go_enter Tryz.func70,Tryz.ntmps70;go_upto_region 1 with fail;obtain ⟨w1,hw1⟩:=nmQ (w.alloc (.cells #[.pointer (some ⟨rb,0,none⟩),.int .i64 5,.int .i64 K,.int .i64 out,.int .i64 n,.slice aA nA cA,.slice aE nE cE] 110 (0,0)));rw [<-hw1] at b1 kM HRW HCC HAA ⊢;have yM:w.heap.size<w1.heap.size:=zG kM;clear hw1;have B1:Below w1.heap.size w1 w1:=Below.refl _ _;have m0:=coQ kM 0;have m1:=coQ kM 1;have m2:=coQ kM 2;have m3:=coQ kM 3;have m4:=coQ kM 4;have m5:=coQ kM 5;have m6:=coQ kM 6;simp at m0 m1 m2 m3 m4 m5 m6
 cases hq:(v0 != 0)
 case false=>
  have HQ:=zD (show ∀ k,l2.getD k 0=G k from fun k=>by rw [HG.out];simp only [];rw [if_neg (by simpa using hq)]);go_wp2_with fail;refine (HP0.out _ (HRW.out.under B1) (HCC.out.keep B1.size (fun i hi _=>B1.block i (Nat.lt_trans hi yM))) (HAA.out.under B1)).mono ?_;rintro e w2 ⟨rfl,bq⟩;have B2:=B1.trans (bq.mono B1.size)
  replace kM:=(bq.block _ (zG kM)).trans kM
  clear bq m0 m1 m2 m3 m4 m5 m6;have m0:=coQ kM 0;have m1:=coQ kM 1;have m2:=coQ kM 2;have m3:=coQ kM 3;have m4:=coQ kM 4;have m5:=coQ kM 5;have m6:=coQ kM 6;simp at m0 m1 m2 m3 m4 m5 m6;go_wp2_with fail;refine (HP2.out _ (HRW.out.under B2) (HCC.out.keep B2.size (fun i hi _=>B2.block i (Nat.lt_trans hi yM))) (HAA.out.under B2)).mono ?_;rintro e w3 ⟨p2,q2,c2,rfl,hu2,bq⟩;have B3:=B2.trans (bq.mono B2.size)
  replace hu2:=zD (xN hu2 (bq.mono B2.size) (Nat.le_of_lt yM))
  replace kM:=(bq.block _ (zG kM)).trans kM
  clear bq m0 m1 m2 m3 m4 m5 m6;go_wp2_with fail;refine (xX p2 q2 c2 _).mono ?_;rintro e w4 ⟨rfl,hw⟩;have bq:=newB hw;have B4:=B3.trans (bq.mono B3.size);have HEND:=zD (show Tells w w4 (.func (.func 127) #[] #[.pointer (some ⟨w3.heap.size,0,none⟩)]) (fun k=>l2.getD k 0) N/\Below w.heap.size w w4 from ⟨qD (by rw [hw];exact zH _ _) (xN hu2.out (bq.mono B3.size) (Nat.le_of_lt yM)) (Nat.le_of_lt (Nat.lt_of_lt_of_le yM B4.size)) HhM.out,(b1.trans (B4.mono b1.size))⟩);clear hw bq;go_wp2;go_ret;exact ⟨_,rfl,HEND.out.1.same zL (fun k _=>HQ.out k),HEND.out.2⟩
 case true=>
  have HQ:=zD (show ∀ k,l1.getD k 0=G k from fun k=>by rw [HG.out];simp only [];rw [if_pos (by simpa using hq)]);go_wp2_with fail;refine (HP0.out _ (HRW.out.under B1) (HCC.out.keep B1.size (fun i hi _=>B1.block i (Nat.lt_trans hi yM))) (HAA.out.under B1)).mono ?_;rintro e w2 ⟨rfl,bq⟩;have B2:=B1.trans (bq.mono B1.size)
  replace kM:=(bq.block _ (zG kM)).trans kM
  clear bq m0 m1 m2 m3 m4 m5 m6;have m0:=coQ kM 0;have m1:=coQ kM 1;have m2:=coQ kM 2;have m3:=coQ kM 3;have m4:=coQ kM 4;have m5:=coQ kM 5;have m6:=coQ kM 6;simp at m0 m1 m2 m3 m4 m5 m6;go_wp2_with fail;refine (HP1.out _ (HRW.out.under B2) (HCC.out.keep B2.size (fun i hi _=>B2.block i (Nat.lt_trans hi yM))) (HAA.out.under B2)).mono ?_;rintro e w3 ⟨p1,q1,c1,rfl,hu1,bq⟩;have B3:=B2.trans (bq.mono B2.size)
  replace hu1:=zD (xN hu1 (bq.mono B2.size) (Nat.le_of_lt yM))
  replace kM:=(bq.block _ (zG kM)).trans kM
  clear bq m0 m1 m2 m3 m4 m5 m6;go_wp2_with fail;refine (xX p1 q1 c1 _).mono ?_;rintro e w4 ⟨rfl,hw⟩;have bq:=newB hw;have B4:=B3.trans (bq.mono B3.size);have HEND:=zD (show Tells w w4 (.func (.func 127) #[] #[.pointer (some ⟨w3.heap.size,0,none⟩)]) (fun k=>l1.getD k 0) N/\Below w.heap.size w w4 from ⟨qD (by rw [hw];exact zH _ _) (xN hu1.out (bq.mono B3.size) (Nat.le_of_lt yM)) (Nat.le_of_lt (Nat.lt_of_lt_of_le yM B4.size)) HhN.out,(b1.trans (B4.mono b1.size))⟩);clear hw bq;go_wp2;go_ret;exact ⟨_,rfl,HEND.out.1.same zL (fun k _=>HQ.out k),HEND.out.2⟩
theorem cellH_any {w:World} {rb:Nat} {K out n:Int} {aA aE:Option Addr} {nA cA nE cE:Nat}  {ok okA:Nat->Prop} {x:WkV} {vC vA:Value} {C:List (List Int)} {A:List Int} (hr:RowAt w rb x vC vA) (hC:HRow kLL ok w vC C) (hA:HInts okA w (.slice aA nA cA) A) (h0:0<A.length) (hz0:0<=A[0]/\A[0]<C.length) (hl0:0<(Sk.cAt C A[0]).length) {N:Nat} :Calls Tryz.prog 70 #[.agg #[.pointer (some ⟨rb,0,none⟩),.int .i64 8,.int .i64 K,.int .i64 out,.int .i64 n,.slice aA nA cA,.slice aE nE cE]] w fun e w'=>CellPost w w' e (fun _=>(Sk.cAt C A[0]).getD 0 0) N:=by
 have b1:Below w.heap.size w (w.alloc (.cells #[.pointer (some ⟨rb,0,none⟩),.int .i64 8,.int .i64 K,.int .i64 out,.int .i64 n,.slice aA nA cA,.slice aE nE cE] 110 (0,0))):=(Below.refl _ _).alloc zL _;have kM:=zH w (.cells #[.pointer (some ⟨rb,0,none⟩),.int .i64 8,.int .i64 K,.int .i64 out,.int .i64 n,.slice aA nA cA,.slice aE nE cE] 110 (0,0));have hC2:=hC.wide (ok':=fun i=>i<w.heap.size) fun i _ hl=>hl;have HRW:=zD (hr.under b1);have HCC:=zD (hC2.keep b1.size (fun i _ h=>b1.block i h));have HAA:=zD (hA.under b1);have HP0:=zD (fun (W:World) (hr:RowAt W rb x vC vA) (hC:HRow kLL (fun i=>i<w.heap.size) W vC C) (hA:HInts okA W (.slice aA nA cA) A)=>xM (op:=8) (k:=K) (out:=out) (n:=n) (aE:=aE) (nE:=nE) (cE:=cE) hr hC hA 0 h0 hz0 hl0);generalize (Sk.cAt C A[0]).getD 0 0=v0 at HP0 ⊢;clear hr hC hC2 hA hz0 hl0 h0;go_enter Tryz.func70,Tryz.ntmps70;go_upto_region 1 with fail;obtain ⟨w1,hw1⟩:=nmQ (w.alloc (.cells #[.pointer (some ⟨rb,0,none⟩),.int .i64 8,.int .i64 K,.int .i64 out,.int .i64 n,.slice aA nA cA,.slice aE nE cE] 110 (0,0)));rw [<-hw1] at b1 kM HRW HCC HAA ⊢;have yM:w.heap.size<w1.heap.size:=zG kM;clear hw1;have B1:Below w1.heap.size w1 w1:=Below.refl _ _;have m0:=coQ kM 0;have m1:=coQ kM 1;have m2:=coQ kM 2;have m3:=coQ kM 3;have m4:=coQ kM 4;have m5:=coQ kM 5;have m6:=coQ kM 6;simp at m0 m1 m2 m3 m4 m5 m6;go_wp2_with fail;refine (HP0.out _ (HRW.out.under B1) (HCC.out.keep B1.size (fun i hi _=>B1.block i (Nat.lt_trans hi yM))) (HAA.out.under B1)).mono ?_;rintro e w2 ⟨rfl,bq⟩;have B2:=B1.trans (bq.mono B1.size)
 replace kM:=(bq.block _ (zG kM)).trans kM
 clear bq m0 m1 m2 m3 m4 m5 m6;go_wp2_with fail;refine (qI v0 _).mono ?_;rintro e w3 ⟨rfl,hw⟩;have bq:=newB hw;have B3:=B2.trans (bq.mono B2.size);have HEND:=zD (show Tells w w3 (.func (.func 126) #[] #[.pointer (some ⟨w2.heap.size,0,none⟩)]) (fun _=>v0) N/\Below w.heap.size w w3 from ⟨xV (by rw [hw];exact zH _ _),(b1.trans (B3.mono b1.size))⟩);clear hw bq;go_wp2;go_ret;exact ⟨_,rfl,HEND.out.1,HEND.out.2⟩
end Go.Proofs.YtnhmcpnbaajjcaaGreatDoor
namespace Go.Proofs.YtnhmcpnbaajjcaaGreatDoor
open Go Go.RowKit Go.IntWalk
def left (listed:Array Bool):Nat:=listed.toList.count false
theorem left_set {listed:Array Bool} {i:Nat} (h:listed.getD i true=false):left (listed.setIfInBounds i true)+1=left listed:=by
 have hi:i<listed.size:=by
  rcases Nat.lt_or_ge i listed.size with h' | h'
  ·exact h'
  ·simp [Array.getElem?_eq_none h'] at h
 have hv:listed[i]=false:=(by simpa [hi] using h);unfold left;rw [Array.toList_setIfInBounds];have hl:i<listed.toList.length:=(by simpa using hi);have:=List.count_set (a:=true) (b:=false) (l:=listed.toList) hl;rw [this];have hm:0<listed.toList.count false:=List.count_pos_iff.2 (by rw [<-hv];simp);have e1:(if (listed.toList[i]==false)=true then 1 else 0)=1:=by
  have:listed.toList[i]=false:=(by simpa using hv);rw [this];rfl
 have e2:(if (true==false)=true then 1 else 0)=0:=rfl;rw [e1,e2];omega
def goesUp (md:Region.Mode) (ops:Array Oper):Bool:=(List.range ops.size).all fun i=>((ops[i]?).map (·.after.all fun e => !Region.binds md e || decide (e.on<i))).getD true
theorem jL {md:Region.Mode} {ops:Array Oper} {listed:Array Bool} (h:goesUp md ops=true) (hz:listed.size=ops.size) (hr:Region.ready md ops listed=[]):∀ i,listed.getD i true=true:=by
 intro i
 induction i using Nat.strongRecOn with
 | _ i ih=>
  rcases Nat.lt_or_ge i ops.size with hi | hi
  ·cases hd:listed.getD i true with
   | true=>rfl
   | false=>
    have hg:=List.all_eq_true.1 h i (List.mem_range.2 hi);have ho:ops[i]?=some ops[i]:=(by simp [hi]);rw [ho] at hg;simp only [Option.map_some,Option.getD_some,Array.all_eq_true_iff_forall_mem,Bool.or_eq_true,Bool.not_eq_true',decide_eq_true_eq] at hg;have:i ∈ Region.ready md ops listed:=mem_ready.2 ⟨hd,_,ho,fun e he hb=>by
     rcases hg e he with q | q
     ·rw [hb] at q;cases q
     ·have h1:=ih e.on q
      have h2:e.on<listed.size:=(by omega)
      simpa [h2] using h1⟩
    rw [hr] at this
    cases this
  ·simp [Array.getElem?_eq_none (by omega:listed.size<=i)]
def waits (md:Region.Mode) (o:Oper):List Nat:=(o.after.toList.filter (Region.binds md)).map (·.on)
def also (D:Nat->Bool) (i:Nat):Nat->Bool:=fun j=>j==i || D j
section
variable {P:Program} {ops:Array Oper} {Q:Exit->Act->World->Prop} {md:Region.Mode} {S:World->Prop} {late:Nat->Bool}
def Keeps (P:Program) (md:Region.Mode) (ops:Array Oper) (Q:Exit->Act->World->Prop) (I:(Nat->Bool)->Act->World->Prop) (rs:List Nat):Prop :=
 ∀ i ∈ rs,∀ o,ops[i]?=some o->∀ D a w,I D a w->D i=false->(∀ d ∈ waits md o,D d=true)->wpOp P ops Q i (fun a' w'=>I (also D i) a' w') a w
theorem Keeps.nil {I:(Nat->Bool)->Act->World->Prop}:Keeps P md ops Q I []:=fun _ h=>by cases h
theorem Keeps.skip {I:(Nat->Bool)->Act->World->Prop} {i:Nat} {rs:List Nat} (h:∀ D a w,I D a w->D i=true) (hs:Keeps P md ops Q I rs):Keeps P md ops Q I (i :: rs):=fun j hj=>by
 rcases List.mem_cons.1 hj with rfl | hj
 ·intro o ho D a w hI hD
  rw [h D a w hI] at hD
  cases hD
 ·exact hs j hj
theorem Keeps.cons {I:(Nat->Bool)->Act->World->Prop} {i:Nat} {o:Oper} {rs:List Nat} (ds:List Nat) (ho:ops[i]?=some o) (hg:o.guard=none) (hds:waits md o=ds)
  (h:∀ D a w,I D a w->D i=false->(∀ d ∈ ds,D d=true)->∀ K':Act->World->Prop,Shut (∀ a w,I (also D i) a w->K' a w)->Oper.wp P o a w K' Q)
  (hs:Keeps P md ops Q I rs):Keeps P md ops Q I (i :: rs):=fun j hj=>by
 rcases List.mem_cons.1 hj with rfl | hj
 ·intro o' ho' D a w hI hD hw
  rw [ho] at ho';injection ho' with ho';subst ho';rw [hds] at hw;refine wpOp_step ho (fun K' hK=>?_);rw [if_pos (by unfold Region.wanted;rw [hg])];exact h D a w hI hD hw K' hK
 ·exact hs j hj
theorem zAD {I:(Nat->Bool)->Act->World->Prop} (hS:∀ D a w,I D a w->S w) (hk:Keeps P md ops Q I (List.range ops.size)) (hu:goesUp md ops=true) (he:∀ D a w,I D a w->(∀ i,D i=true)->Q .normal a w) :
  ∀ (fuel:Nat) (listed:Array Bool) (a:Act) (w:World),left listed<=fuel->listed.size=ops.size->I (fun j=>listed.getD j true) a w->wpAnyL P md ops Q S late fuel listed a w
 | 0,listed,a,w,hl,hz,h=>by
  have hr:Region.ready md ops listed=[]:=by
   rcases hc:Region.ready md ops listed with _ | ⟨i,l⟩
   ·rfl
   ·have hm:i ∈ Region.ready md ops listed:=by rw [hc];simp
    have:=left_set (mem_ready.1 hm).1;omega
  exact ⟨hr,he _ _ _ h (jL hu hz hr)⟩
 | fuel+1,listed,a,w,hl,hz,h=>by
  refine ⟨fun hr=>he _ _ _ h (jL hu hz hr),fun i hi=>?_⟩;obtain ⟨hd,o,ho,hall⟩:=mem_ready.1 hi;have hlt:i<ops.size:=(Array.getElem?_eq_some_iff.1 ho).1;refine wpOp_mono (fun a' w' h'=>?_) (hk i (List.mem_range.2 hlt) o ho _ a w h hd fun d hdm=>?_)
  ·have e:also (fun j=>listed.getD j true) i=fun j=>(listed.setIfInBounds i true).getD j true:=by
    funext j
    unfold also;by_cases hij:j=i
    ·subst hij
     have:j<listed.size:=(by omega);simp [this]
    ·rw [getD_set_ne true (Ne.symm hij)]
     simp [hij]
   rw [e] at h';exact ⟨fun _=>hS _ _ _ h',zAD hS hk hu he fuel _ a' w' (by have:=left_set hd;omega) (by simpa using hz) h'⟩
  ·unfold waits at hdm
   obtain ⟨e,hem,rfl⟩:=List.mem_map.1 hdm;obtain ⟨h1,h2⟩:=List.mem_filter.1 hem;have:=hall e (by simpa using h1) h2;have hlt2:e.on<listed.size:=by
    rcases Nat.lt_or_ge e.on listed.size with h' | h'
    ·exact h'
    ·simp [Array.getElem?_eq_none h'] at this
   simpa [hlt2] using this
theorem qX {fuel:Nat} {listed:Array Bool} {a:Act} {w:World} (I:Act->(Nat->Bool)->Act->World->Prop) (rs:List Nat) (hrs:List.range ops.size=rs) (hl:Nat.ble (left listed) fuel=true) (hz:listed.size=ops.size) (hu:goesUp md ops=true)
  (h0:I a (fun j=>listed.getD j true) a w) (hS:∀ D a' w',I a D a' w'->S w') (hk:Keeps P md ops Q (I a) rs) (he:∀ D a' w',I a D a' w'->(∀ i,D i=true)->Q .normal a' w'):wpAnyL P md ops Q S late fuel listed a w:=
 zAD hS (hrs ▸ hk) hu he fuel listed a w (Nat.le_of_ble_eq_true hl) hz h0
end
def Blk (w:World) (B:Nat) (t:Value) (ty:TypeId) (v:Value):Prop:=∃ b,t=.pointer (some ⟨b,0,none⟩)/\B<=b/\w.heap[b]?=some (.cells #[v] ty (0,0))
theorem Blk.grow {w w':World} {B:Nat} {t:Value} {ty:TypeId} {v:Value} (h:Blk w B t ty v) (hb:Below w.heap.size w w'):Blk w' B t ty v:=by
 obtain ⟨b,e,h1,h2⟩:=h;exact ⟨b,e,h1,(hb.block _ (zG h2)).trans h2⟩
theorem Blk.new {w:World} {B:Nat} (hB:B<=w.heap.size) (z:Value) (ty:TypeId):Blk (w.alloc (.cells #[z] ty (0,0))) B (.pointer (some ⟨w.heap.size,0,none⟩)) ty z:=⟨_,rfl,hB,zH _ _⟩
theorem Blk.ne_new {w:World} {B:Nat} {t:Value} {ty:TypeId} {v:Value} (h:Blk w B t ty v):t≠.pointer (some ⟨w.heap.size,0,none⟩):=by
 obtain ⟨b,rfl,_,h2⟩:=h;intro e;injection e with e;injection e with e;injection e with e;rw [e] at h2;exact absurd (zG h2) (Nat.lt_irrefl _)
theorem Blk.set {w:World} {B b:Nat} {z:Value} {ty:TypeId} (hb:B<=b) (k:w.heap[b]?=some (.cells #[z] ty (0,0))) (u:Value):Blk (w.setCell ⟨b,0,none⟩ u) B (.pointer (some ⟨b,0,none⟩)) ty u:=⟨_,rfl,hb,by have:=zP k 0 u;simpa using this⟩
theorem Blk.set_other {w:World} {B b:Nat} {t:Value} {ty:TypeId} {v:Value} (h:Blk w B t ty v) (ne:t≠.pointer (some ⟨b,0,none⟩)) (u:Value):Blk (w.setCell ⟨b,0,none⟩ u) B t ty v:=by
 obtain ⟨c,rfl,h1,h2⟩:=h;exact ⟨c,rfl,h1,zQ (p:=⟨b,0,none⟩) h2 (fun q=>ne (by rw [show b=c from q])) u⟩
theorem Blk.off {w:World} {B:Nat} {t:Value} {ty:TypeId} {v v' z:Value} {d d':Bool} (h:Blk w B t ty (if d=true then v else z)) (e:d=false) (e':d'=false):Blk w B t ty (if d'=true then v' else z):=by
 subst e e'
 simpa using h
def SlI (B:Nat) (w:World) (t:Value) (l:List Int):Prop:=(∃ p q c,t=.slice p q c)/\HInts (fun i=>i<B) w t l
theorem SlI.keep {B B1:Nat} {w w':World} {t:Value} {l:List Int} (h:SlI B w t l) (hb:Below B1 w w') (hB:B<=B1):SlI B w' t l:=⟨h.1,h.2.keep hb.size (fun i hi _=>hb.block i (Nat.lt_of_lt_of_le hi hB))⟩
end Go.Proofs.YtnhmcpnbaajjcaaGreatDoor
