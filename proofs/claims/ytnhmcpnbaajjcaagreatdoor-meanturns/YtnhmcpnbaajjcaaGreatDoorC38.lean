import Derived.Test.YtnhmcpnbaajjcaaGreatDoorC35
import Derived.Deep.Cut
import Derived.Deep.LoopGhost
import Derived.Ground.NamesProg
import Derived.IntWalk
import Derived.Laws.Cover1
import Derived.Laws.EntriesVeiled
import Derived.Laws.Externs
import Derived.Lib.Hide
import Derived.Lib.MakeNoZero
import Derived.Lib.SlBuf
import Derived.Maps.OwnSet
import Derived.Shelf.Bytes.SlSmallAll
import Derived.Shelf.Lay
import Derived.WalkKit
import Derived.WalkSpells
set_option linter.unusedVariables false
set_option linter.unusedSimpArgs false
set_option maxHeartbeats 64000000
set_option maxRecDepth 100000
namespace Go.Proofs.YtnhmcpnbaajjcaaGreatDoor
open Go.RowKit Go.IntWalk Go.Maps Go.WideMaps
theorem law3k:Keyed Tryz.prog 3:=int_keyed Tryz.underlying3
theorem zero52k (w:World):(zeroValue 52).run Tryz.prog w=.ok (.slice none 0 0) w:=by kernel_rfl
def selfR (v:Value):Option (DataW Value × List MemPlace):=some (.held v,[])
structure MapI (w:World) (b n:Nat) (f:Int->Option Value):Prop where
 out:∃ D:DataW Value,w.ownsMap Tryz.prog 3 selfR b n D/\∀ x:Int,Maps.has D (.int .i64 x)=(f x).isSome/\∀ z:Value,D.atKey (.int .i64 x) (.held z)=.held ((f x).getD z)
def putI (f:Int->Option Value) (x:Int) (v:Value):Int->Option Value:=fun y=>if y=x then some v else f y
theorem MapI.made (w:World):MapI (w.alloc (.map #[] 0)) w.heap.size 0 (fun _=>none) :=
 ⟨⟨.map [],World.ownsMap_made w _ _ _,fun s=>⟨rfl,fun z=>rfl⟩⟩⟩
theorem MapI.lt {w:World} {b n:Nat} {f:Int->Option Value} (h:MapI w b n f):b<w.heap.size:=by
 obtain ⟨D,h1,_⟩:=h.out;exact h1.lt
theorem MapI.keep {w w':World} {b n:Nat} {f:Int->Option Value} (h:MapI w b n f) (hk:w'.heap[b]?=w.heap[b]?):MapI w' b n f:=by
 obtain ⟨D,⟨es,clock,hb,r⟩,h2⟩:=h.out;exact ⟨⟨D,⟨es,clock,hk.trans hb,r⟩,h2⟩⟩
theorem MapI.lookOk {w:World} {b n:Nat} {f:Int->Option Value} (h:MapI w b n f) {x:Int} (hx:(Lit.int .i64 x).wf=true) :
  (Instr.lookup 80 (.map (some b)) (.int .i64 x) true).run Tryz.prog w=.ok (.tuple #[(f x).getD (.slice none 0 0),.bool (f x).isSome]) w:=by
 obtain ⟨D,h1,h2⟩:=h.out;obtain ⟨v,ps,hrun,hv⟩:=h1.look_ok law3k Tryz.underlying80 (zero52k w) (zd:=.held (.slice none 0 0)) (zp:=[]) rfl (keyOf_int_mk Tryz.underlying3 hx);rw [(h2 _).1] at hrun;rw [(h2 _).2] at hv;unfold selfR at hv;injection hv with hv;injection hv with hv _;injection hv with hv;rw [<-hv];exact hrun
theorem MapI.put {w:World} {b n:Nat} {f:Int->Option Value} (h:MapI w b n f) (hn:n<maxLen) {x:Int} (hx:(Lit.int .i64 x).wf=true) (v:Value) :
  ∃ w',(Instr.mapUpdate 80 (.map (some b)) (.int .i64 x) v).run Tryz.prog w=.ok () w'/\MapI w' b (n+1) (putI f x v)/\w.grownBy w' (some b):=by
 obtain ⟨D,h1,h2⟩:=h.out;obtain ⟨w',hrun,h3,h4⟩:=h1.update law3k Tryz.underlying80 hn (keyOf_int_mk Tryz.underlying3 hx) (val:=v) (d:=.held v) (ps:=[]) rfl;refine ⟨w',hrun,⟨⟨_,h3,fun y=>?_⟩⟩,h4⟩;have hlit:WideAt.IsKeyLit (.int .i64 x):=by first | trivial | exact hx
 unfold putI;by_cases e:y=x
 ·subst e
  rw [if_pos rfl];exact ⟨has_put_same h1.isMap hlit _,fun z=>atKey_put_same h1.isMap hlit _ _⟩
 ·have hne2:(Lit.int .i64 y)≠.int .i64 x:=fun q=>by injection q with _ q;exact e q
  rw [if_neg e,has_put_other hne2];exact ⟨(h2 y).1,fun z=>by rw [atKey_put_other hne2];exact (h2 y).2 z⟩
def AhIs (w:World) (o:Option Nat) (f:Int->Option Value):Prop:=∀ x:Int,(Lit.int .i64 x).wf=true->∀ W,Below w.heap.size w W->(Instr.lookup 80 (.map o) (.int .i64 x) true).run Tryz.prog W=.ok (.tuple #[(f x).getD (.slice none 0 0),.bool (f x).isSome]) W
theorem AhIs.nil (w:World):AhIs w none (fun _=>none):=fun x hx W _=>by
 have:=Maps.look_nil (w:=W) true law3k Tryz.underlying80 (zero52k W) (keyOf_int_mk Tryz.underlying3 hx)
 simpa using this
theorem AhIs.of {w:World} {b n:Nat} {f:Int->Option Value} (h:MapI w b n f):AhIs w (some b) f:=fun x hx W hb=>(h.keep (hb.block _ h.lt)).lookOk hx
theorem AhIs.under {w w':World} {o:Option Nat} {f:Int->Option Value} (h:AhIs w o f) (hb:Below w.heap.size w w'):AhIs w' o f:=fun x hx W hW=>h x hx W (hb.trans (hW.mono hb.size))
def AhRel (ok:Nat->Prop) (w:World) (f:Int->Option Value) (ah:Int->Option (List Int)):Prop:=∀ x,(f x=none/\ah x=none)\/∃ a n c l,f x=some (.slice a n c)/\ah x=some l/\HInts ok w (.slice a n c) l
theorem AhRel.keep {ok:Nat->Prop} {w w':World} {f:Int->Option Value} {ah:Int->Option (List Int)} (h:AhRel ok w f ah) (h1:w.heap.size<=w'.heap.size) (h2:∀ i,ok i->i<w.heap.size->w'.heap[i]?=w.heap[i]?):AhRel ok w' f ah:=fun x=>by
 rcases h x with q | ⟨a,n,c,l,e1,e2,e3⟩
 ·exact .inl q
 ·exact .inr ⟨a,n,c,l,e1,e2,e3.keep h1 h2⟩
theorem AhRel.under {ok:Nat->Prop} {w w':World} {f:Int->Option Value} {ah:Int->Option (List Int)} (h:AhRel ok w f ah) (b:Below w.heap.size w w'):AhRel ok w' f ah:=h.keep b.size fun i _ hl=>b.block i hl
theorem AhRel.wide {ok ok':Nat->Prop} {w:World} {f:Int->Option Value} {ah:Int->Option (List Int)} (h:AhRel ok w f ah) (hk:∀ i,ok i->i<w.heap.size->ok' i):AhRel ok' w f ah:=fun x=>by
 rcases h x with q | ⟨a,n,c,l,e1,e2,e3⟩
 ·exact .inl q
 ·exact .inr ⟨a,n,c,l,e1,e2,e3.wide hk⟩
theorem before_any {w:World} {rb:Nat} {op K out n:Int} {aA aE:Option Addr} {nA cA nE cE:Nat} {ok okA:Nat->Prop} {x:WkV} {vC:Value} {oA:Option Nat} {C:List (List Int)} {A:List Int} (hr:RowAt w rb x vC (.map oA)) (hC:HRow kLL ok w vC C) (hA:HInts okA w (.slice aA nA cA) A) {f:Int->Option Value} {ah:Int->Option (List Int)} (hf:AhIs w oA f) (hah:AhRel (fun i=>i<w.heap.size) w f ah) (h0:0<A.length) (h1:1<A.length) (hz0:0<=A[0]/\A[0]<C.length) (hw1:(Lit.int .i64 A[1]).wf=true) :
  Calls Tryz.prog 109 #[.agg #[.pointer (some ⟨rb,0,none⟩),.int .i64 op,.int .i64 K,.int .i64 out,.int .i64 n,.slice aA nA cA,.slice aE nE cE]] w fun e w'=>∃ a m c,e=.returned (.slice a m c)/\HInts (fun i=>i<w.heap.size) w' (.slice a m c) ((ah A[1]).getD (Sk.cAt C A[0]))/\Below w.heap.size w w':=by
 have HLK:=zD (hf A[1] hw1);have hcase:=hah A[1];obtain ⟨aoA,capA,evA,hd1,hd2,hatA⟩:=hA.at;injection evA with q1 q2 q3;subst q1 q2 q3;obtain ⟨bA,oo,rfl,yA,a1⟩:=hatA 1 h1;have HN:=zD h1;clear hatA hah hf hw1;unfold maxLen at hd2;generalize hy:A[1]=y at a1 HLK hcase ⊢;clear hy;have b1:Below w.heap.size w (w.alloc (.cells #[.pointer (some ⟨rb,0,none⟩),.int .i64 op,.int .i64 K,.int .i64 out,.int .i64 n,.slice (some ⟨bA,oo,none⟩) A.length cA,.slice aE nE cE] 110 (0,0))):=(Below.refl _ _).alloc zL _;have kM:=zH w (.cells #[.pointer (some ⟨rb,0,none⟩),.int .i64 op,.int .i64 K,.int .i64 out,.int .i64 n,.slice (some ⟨bA,oo,none⟩) A.length cA,.slice aE nE cE] 110 (0,0));have hC2:=hC.wide (ok':=fun i=>i<w.heap.size) fun i _ hl=>hl;have HRW:=zD (hr.under b1);have HCC:=zD (hC2.keep b1.size (fun i _ h=>b1.block i h));have HAA:=zD (hA.under b1);have HP0:=zD (fun (W:World) (hr:RowAt W rb x vC (.map oA)) (hC:HRow kLL (fun i=>i<w.heap.size) W vC C) (hA:HInts okA W (.slice (some ⟨bA,oo,none⟩) A.length cA) A)=>xB (op:=op) (k:=K) (out:=out) (n:=n) (aE:=aE) (nE:=nE) (cE:=cE) hr hC hA 0 h0 hz0);generalize Sk.cAt C A[0]=l0 at HP0  ⊢;clear hr hC hC2 hA hz0  h0;have HN2:=zD (show (1:Int)<(A.length:Int) by have:=HN.out;omega);obtain ⟨LA,hLA⟩:=nmQ (A.length);rw [<-hLA] at kM b1 hd1 HN2 HRW HCC HAA HP0 ⊢;have h1':=HN2.out;clear HN hLA;obtain ⟨RL,hRL⟩:=nmQ ((ah y).getD l0);rw [<-hRL];have HRL:=zD hRL;clear hRL;go_enter Tryz.func109,Tryz.ntmps109;go_upto_region 1 with fail;obtain ⟨w1,hw1⟩:=nmQ (w.alloc (.cells #[.pointer (some ⟨rb,0,none⟩),.int .i64 op,.int .i64 K,.int .i64 out,.int .i64 n,.slice (some ⟨bA,oo,none⟩) LA cA,.slice aE nE cE] 110 (0,0)));rw [<-hw1] at b1 kM HRW HCC HAA ⊢;have yM:w.heap.size<w1.heap.size:=zG kM;clear hw1;have B1:Below w1.heap.size w1 w1:=Below.refl _ _;have hr1:=HRW.out;unfold RowAt at hr1;have yR:=zG hr1;have r5:=coQ hr1 5;simp at r5;have a2:=(b1.cell (p:=⟨bA,_,none⟩) yA).trans a1;have yA2:bA<w1.heap.size:=Nat.lt_trans yA yM;clear hr1 a1;have m0:=coQ kM 0;have m1:=coQ kM 1;have m2:=coQ kM 2;have m3:=coQ kM 3;have m4:=coQ kM 4;have m5:=coQ kM 5;have m6:=coQ kM 6;simp at m0 m1 m2 m3 m4 m5 m6;rcases hcase with ⟨e1,e2⟩ | ⟨ka,kn,kc,kl,e1,e2,e3⟩
 case inl=>
  have HL2:=zD (show ∀ W,Below w1.heap.size w1 W->(Instr.lookup 80 (.map oA) (.int .i64 y) true).run Tryz.prog W=.ok (.tuple #[.slice none 0 0,.bool false]) W from fun W hb=>by have:=HLK.out W (b1.trans (hb.mono b1.size));rw [e1] at this;exact this);have HZ:=zD (show l0=RL by rw [HRL.out,e2];rfl)
  skip
  clear HLK HRL e1 e2 ;refine zK (fun w'=>Below w1.heap.size w1 w') (fun _=>false) (by kernel_rfl) ?_;have hH0:Below w1.heap.size w1 w1.drew:=(Below.refl _ _).drew;generalize w1.drew=wd0 at hH0 ⊢;refine' tkR 0 6 hH0 ?o1
  refine' tkQ 1 7 hH0 ?hyv ?o2
  case hyv=>
   intro wz hSw;have zc0:=(hSw.cell (p:=⟨w.heap.size,0,none⟩) yM).trans m0;have zc1:=(hSw.cell (p:=⟨w.heap.size,1,none⟩) yM).trans m1;have zc2:=(hSw.cell (p:=⟨w.heap.size,2,none⟩) yM).trans m2;have zc3:=(hSw.cell (p:=⟨w.heap.size,3,none⟩) yM).trans m3;have zc4:=(hSw.cell (p:=⟨w.heap.size,4,none⟩) yM).trans m4;have zc5:=(hSw.cell (p:=⟨w.heap.size,5,none⟩) yM).trans m5;have zc6:=(hSw.cell (p:=⟨w.heap.size,6,none⟩) yM).trans m6;have zc7:=(hSw.cell (p:=⟨rb,5,none⟩) yR).trans r5;have zc8:=(hSw.cell (p:=⟨bA,oo+1,none⟩) yA2).trans a2;go_simp
   try rfl
  try simp only [Act.put,sT,sZ,sS]
  refine' tkR 2 8 hH0 ?o3
  refine' tkR 3 9 hH0 ?o4
  refine' tkQ 4 10 hH0 ?hyv ?o5
  case hyv=>
   intro wz hSw;have zc0:=(hSw.cell (p:=⟨w.heap.size,0,none⟩) yM).trans m0;have zc1:=(hSw.cell (p:=⟨w.heap.size,1,none⟩) yM).trans m1;have zc2:=(hSw.cell (p:=⟨w.heap.size,2,none⟩) yM).trans m2;have zc3:=(hSw.cell (p:=⟨w.heap.size,3,none⟩) yM).trans m3;have zc4:=(hSw.cell (p:=⟨w.heap.size,4,none⟩) yM).trans m4;have zc5:=(hSw.cell (p:=⟨w.heap.size,5,none⟩) yM).trans m5;have zc6:=(hSw.cell (p:=⟨w.heap.size,6,none⟩) yM).trans m6;have zc7:=(hSw.cell (p:=⟨rb,5,none⟩) yR).trans r5;have zc8:=(hSw.cell (p:=⟨bA,oo+1,none⟩) yA2).trans a2;go_simp
   try rfl
  try simp only [Act.put,sT,sZ,sS]
  refine' tkR 5 11 hH0 ?o6
  refine' tkR 6 12 hH0 ?o7
  refine' tkQ 7 13 hH0 ?hyv ?o8
  case hyv=>
   intro wz hSw;have zc0:=(hSw.cell (p:=⟨w.heap.size,0,none⟩) yM).trans m0;have zc1:=(hSw.cell (p:=⟨w.heap.size,1,none⟩) yM).trans m1;have zc2:=(hSw.cell (p:=⟨w.heap.size,2,none⟩) yM).trans m2;have zc3:=(hSw.cell (p:=⟨w.heap.size,3,none⟩) yM).trans m3;have zc4:=(hSw.cell (p:=⟨w.heap.size,4,none⟩) yM).trans m4;have zc5:=(hSw.cell (p:=⟨w.heap.size,5,none⟩) yM).trans m5;have zc6:=(hSw.cell (p:=⟨w.heap.size,6,none⟩) yM).trans m6;have zc7:=(hSw.cell (p:=⟨rb,5,none⟩) yR).trans r5;have zc8:=(hSw.cell (p:=⟨bA,oo+1,none⟩) yA2).trans a2;go_simp
   try rfl
  try simp only [Act.put,sT,sZ,sS]
  refine' tkR 8 14 hH0 ?o9
  refine' tkQ 9 15 hH0 ?hyv ?o10
  case hyv=>
   intro wz hSw;have zc0:=(hSw.cell (p:=⟨w.heap.size,0,none⟩) yM).trans m0;have zc1:=(hSw.cell (p:=⟨w.heap.size,1,none⟩) yM).trans m1;have zc2:=(hSw.cell (p:=⟨w.heap.size,2,none⟩) yM).trans m2;have zc3:=(hSw.cell (p:=⟨w.heap.size,3,none⟩) yM).trans m3;have zc4:=(hSw.cell (p:=⟨w.heap.size,4,none⟩) yM).trans m4;have zc5:=(hSw.cell (p:=⟨w.heap.size,5,none⟩) yM).trans m5;have zc6:=(hSw.cell (p:=⟨w.heap.size,6,none⟩) yM).trans m6;have zc7:=(hSw.cell (p:=⟨rb,5,none⟩) yR).trans r5;have zc8:=(hSw.cell (p:=⟨bA,oo+1,none⟩) yA2).trans a2;go_simp
   try rfl
  try simp only [Act.put,sT,sZ,sS]
  refine' zS (i:=10) (oi:=⟨some 16,_,_,_,_,_⟩) (v:=.tuple #[.slice none 0 0,.bool false]) rfl (by kernel_rfl) (by kernel_rfl) (by kernel_rfl) (by kernel_rfl) (fun _ _ _ h=>h) hH0 (by rfl) ?hyv ?o11
  case hyv=>
   intro wz hSw;have hlk:=HL2.out wz hSw;go_simp
   try rfl
  try simp only [Act.put,sT,sZ,sS]
  refine' tkR 11 5 hH0 ?o12
  refine' tkR 12 17 hH0 ?o13
  refine' tkR 13 18 hH0 ?o14
  refine' tkR 14 3 hH0 ?o15
  refine' tkR 15 4 hH0 ?o16
  refine zJ (by kernel_rfl) ?_ _;clear m0 m1 m2 m3 m4 m5 m6 r5 a2;have B2:=hH0
  replace kM:=(hH0.block _ (zG kM)).trans kM
  have m0:=coQ kM 0;have m1:=coQ kM 1;have m2:=coQ kM 2;have m3:=coQ kM 3;have m4:=coQ kM 4;have m5:=coQ kM 5;have m6:=coQ kM 6;simp at m0 m1 m2 m3 m4 m5 m6;go_wp2_with fail;refine (HP0.out _ (HRW.out.under B2) (HCC.out.keep B2.size (fun i hi _=>B2.block i (Nat.lt_trans hi yM))) (HAA.out.under B2)).mono ?_;rintro e w3 ⟨p0,q0,c0,rfl,hu0,bq⟩;have B3:=B2.trans (bq.mono B2.size)
  replace hu0:=zD (xN hu0 (bq.mono B2.size) (Nat.le_of_lt yM))
  replace kM:=(bq.block _ (zG kM)).trans kM
  clear bq m0 m1 m2 m3 m4 m5 m6;have HEND:=zD (show HInts (fun i=>i<w.heap.size) w3 (.slice p0 q0 c0) RL/\Below w.heap.size w w3 from ⟨by rw [<-HZ.out];exact hu0.out,b1.trans (B3.mono b1.size)⟩);clear kM;go_wp2;go_ret;exact ⟨_,_,_,rfl,HEND.out.1,HEND.out.2⟩
 case inr=>
  have HL2:=zD (show ∀ W,Below w1.heap.size w1 W->(Instr.lookup 80 (.map oA) (.int .i64 y) true).run Tryz.prog W=.ok (.tuple #[.slice ka kn kc,.bool true]) W from fun W hb=>by have:=HLK.out W (b1.trans (hb.mono b1.size));rw [e1] at this;exact this);have HZ:=zD (show kl=RL by rw [HRL.out,e2];rfl);have HKK:=zD e3;clear HLK HRL e1 e2 e3;refine zK (fun w'=>Below w1.heap.size w1 w') (fun _=>false) (by kernel_rfl) ?_;have hH0:Below w1.heap.size w1 w1.drew:=(Below.refl _ _).drew;generalize w1.drew=wd0 at hH0 ⊢;refine' tkR 0 6 hH0 ?o17
  refine' tkQ 1 7 hH0 ?hyv ?o18
  case hyv=>
   intro wz hSw;have zc0:=(hSw.cell (p:=⟨w.heap.size,0,none⟩) yM).trans m0;have zc1:=(hSw.cell (p:=⟨w.heap.size,1,none⟩) yM).trans m1;have zc2:=(hSw.cell (p:=⟨w.heap.size,2,none⟩) yM).trans m2;have zc3:=(hSw.cell (p:=⟨w.heap.size,3,none⟩) yM).trans m3;have zc4:=(hSw.cell (p:=⟨w.heap.size,4,none⟩) yM).trans m4;have zc5:=(hSw.cell (p:=⟨w.heap.size,5,none⟩) yM).trans m5;have zc6:=(hSw.cell (p:=⟨w.heap.size,6,none⟩) yM).trans m6;have zc7:=(hSw.cell (p:=⟨rb,5,none⟩) yR).trans r5;have zc8:=(hSw.cell (p:=⟨bA,oo+1,none⟩) yA2).trans a2;go_simp
   try rfl
  try simp only [Act.put,sT,sZ,sS]
  refine' tkR 2 8 hH0 ?o19
  refine' tkR 3 9 hH0 ?o20
  refine' tkQ 4 10 hH0 ?hyv ?o21
  case hyv=>
   intro wz hSw;have zc0:=(hSw.cell (p:=⟨w.heap.size,0,none⟩) yM).trans m0;have zc1:=(hSw.cell (p:=⟨w.heap.size,1,none⟩) yM).trans m1;have zc2:=(hSw.cell (p:=⟨w.heap.size,2,none⟩) yM).trans m2;have zc3:=(hSw.cell (p:=⟨w.heap.size,3,none⟩) yM).trans m3;have zc4:=(hSw.cell (p:=⟨w.heap.size,4,none⟩) yM).trans m4;have zc5:=(hSw.cell (p:=⟨w.heap.size,5,none⟩) yM).trans m5;have zc6:=(hSw.cell (p:=⟨w.heap.size,6,none⟩) yM).trans m6;have zc7:=(hSw.cell (p:=⟨rb,5,none⟩) yR).trans r5;have zc8:=(hSw.cell (p:=⟨bA,oo+1,none⟩) yA2).trans a2;go_simp
   try rfl
  try simp only [Act.put,sT,sZ,sS]
  refine' tkR 5 11 hH0 ?o22
  refine' tkR 6 12 hH0 ?o23
  refine' tkQ 7 13 hH0 ?hyv ?o24
  case hyv=>
   intro wz hSw;have zc0:=(hSw.cell (p:=⟨w.heap.size,0,none⟩) yM).trans m0;have zc1:=(hSw.cell (p:=⟨w.heap.size,1,none⟩) yM).trans m1;have zc2:=(hSw.cell (p:=⟨w.heap.size,2,none⟩) yM).trans m2;have zc3:=(hSw.cell (p:=⟨w.heap.size,3,none⟩) yM).trans m3;have zc4:=(hSw.cell (p:=⟨w.heap.size,4,none⟩) yM).trans m4;have zc5:=(hSw.cell (p:=⟨w.heap.size,5,none⟩) yM).trans m5;have zc6:=(hSw.cell (p:=⟨w.heap.size,6,none⟩) yM).trans m6;have zc7:=(hSw.cell (p:=⟨rb,5,none⟩) yR).trans r5;have zc8:=(hSw.cell (p:=⟨bA,oo+1,none⟩) yA2).trans a2;go_simp
   try rfl
  try simp only [Act.put,sT,sZ,sS]
  refine' tkR 8 14 hH0 ?o25
  refine' tkQ 9 15 hH0 ?hyv ?o26
  case hyv=>
   intro wz hSw;have zc0:=(hSw.cell (p:=⟨w.heap.size,0,none⟩) yM).trans m0;have zc1:=(hSw.cell (p:=⟨w.heap.size,1,none⟩) yM).trans m1;have zc2:=(hSw.cell (p:=⟨w.heap.size,2,none⟩) yM).trans m2;have zc3:=(hSw.cell (p:=⟨w.heap.size,3,none⟩) yM).trans m3;have zc4:=(hSw.cell (p:=⟨w.heap.size,4,none⟩) yM).trans m4;have zc5:=(hSw.cell (p:=⟨w.heap.size,5,none⟩) yM).trans m5;have zc6:=(hSw.cell (p:=⟨w.heap.size,6,none⟩) yM).trans m6;have zc7:=(hSw.cell (p:=⟨rb,5,none⟩) yR).trans r5;have zc8:=(hSw.cell (p:=⟨bA,oo+1,none⟩) yA2).trans a2;go_simp
   try rfl
  try simp only [Act.put,sT,sZ,sS]
  refine' zS (i:=10) (oi:=⟨some 16,_,_,_,_,_⟩) (v:=.tuple #[.slice ka kn kc,.bool true]) rfl (by kernel_rfl) (by kernel_rfl) (by kernel_rfl) (by kernel_rfl) (fun _ _ _ h=>h) hH0 (by rfl) ?hyv ?o27
  case hyv=>
   intro wz hSw;have hlk:=HL2.out wz hSw;go_simp
   try rfl
  try simp only [Act.put,sT,sZ,sS]
  refine' tkR 11 5 hH0 ?o28
  refine' tkR 12 17 hH0 ?o29
  refine' tkR 13 18 hH0 ?o30
  refine' tkR 14 3 hH0 ?o31
  refine' tkR 15 4 hH0 ?o32
  refine zJ (by kernel_rfl) ?_ _;have HEND:=zD (show HInts (fun i=>i<w.heap.size) wd0 (.slice ka kn kc) RL/\Below w.heap.size w wd0 from ⟨by rw [<-HZ.out];exact xN HKK.out (b1.trans (hH0.mono b1.size)) zL,b1.trans (hH0.mono b1.size)⟩);clear m0 m1 m2 m3 m4 m5 m6 kM r5 a2;go_wp2;go_ret;exact ⟨_,_,_,rfl,HEND.out.1,HEND.out.2⟩
theorem cellM_any {w:World} {rb:Nat} {K out n:Int} {aA aE:Option Addr} {nA cA nE cE:Nat} {ok okA:Nat->Prop} {x:WkV} {vC:Value} {oA:Option Nat} {C:List (List Int)} {A:List Int} (hr:RowAt w rb x vC (.map oA)) (hC:HRow kLL ok w vC C) (hA:HInts okA w (.slice aA nA cA) A) {f:Int->Option Value} {ah:Int->Option (List Int)} (hf:AhIs w oA f) (hah:AhRel (fun i=>i<w.heap.size) w f ah) (h0:0<A.length) (h1:1<A.length) (hz0:0<=A[0]/\A[0]<C.length) (hw1:(Lit.int .i64 A[1]).wf=true) {N:Nat} (hN:N<=((ah A[1]).getD (Sk.cAt C A[0])).length) :
  Calls Tryz.prog 70 #[.agg #[.pointer (some ⟨rb,0,none⟩),.int .i64 13,.int .i64 K,.int .i64 out,.int .i64 n,.slice aA nA cA,.slice aE nE cE]] w fun e w'=>CellPost w w' e (fun k=>((ah A[1]).getD (Sk.cAt C A[0])).getD k 0) N:=by
 have b1:Below w.heap.size w (w.alloc (.cells #[.pointer (some ⟨rb,0,none⟩),.int .i64 13,.int .i64 K,.int .i64 out,.int .i64 n,.slice aA nA cA,.slice aE nE cE] 110 (0,0))):=(Below.refl _ _).alloc zL _;have kM:=zH w (.cells #[.pointer (some ⟨rb,0,none⟩),.int .i64 13,.int .i64 K,.int .i64 out,.int .i64 n,.slice aA nA cA,.slice aE nE cE] 110 (0,0));have hct:=before_any (op:=13) (K:=K) (out:=out) (n:=n) (aE:=aE) (nE:=nE) (cE:=cE) (hr.under b1) ((hC.wide (ok':=fun i=>i<w.heap.size) fun i _ hl=>hl).keep b1.size (fun i _ h=>b1.block i h)) (hA.under b1) (hf.under b1) ((hah.under b1).wide fun i h _=>Nat.lt_of_lt_of_le h b1.size) h0 h1 hz0 hw1;generalize (ah A[1]).getD (Sk.cAt C A[0])=l0 at hct hN ⊢;have HCT:=zD hct;have HhN:=zD hN;clear hct hN hr hC hA hf hah h0 h1 hz0 hw1;go_enter Tryz.func70,Tryz.ntmps70;go_upto_region 1 with fail;generalize w.alloc (.cells #[.pointer (some ⟨rb,0,none⟩),.int .i64 13,.int .i64 K,.int .i64 out,.int .i64 n,.slice aA nA cA,.slice aE nE cE] 110 (0,0))=w1 at b1 kM HCT ⊢;have m0:=coQ kM 0;have m1:=coQ kM 1;have m2:=coQ kM 2;have m3:=coQ kM 3;have m4:=coQ kM 4;have m5:=coQ kM 5;have m6:=coQ kM 6;simp at m0 m1 m2 m3 m4 m5 m6;go_wp2_with fail;refine HCT.out.mono ?_;rintro e w2 ⟨pa,qa,ca,rfl,hu,b2⟩;have HU:=zD hu;clear hu m0 m1 m2 m3 m4 m5 m6 kM HCT;go_wp2_with fail;refine (xX pa qa ca _).mono ?_;rintro e w3 ⟨rfl,hw⟩;have bq:=newB hw;have HEND:=zD (show Tells w w3 (.func (.func 127) #[] #[.pointer (some ⟨w2.heap.size,0,none⟩)]) (fun k=>l0.getD k 0) N/\Below w.heap.size w w3 from ⟨qD (by rw [hw];exact zH _ _) (xN HU.out bq b2.size) (Nat.le_trans b2.size bq.size) HhN.out,(b1.trans (b2.mono b1.size)).trans (bq.mono (Nat.le_trans b1.size b2.size))⟩);clear hw bq;go_wp2;go_ret;exact ⟨_,rfl,HEND.out.1,HEND.out.2⟩
end Go.Proofs.YtnhmcpnbaajjcaaGreatDoor
