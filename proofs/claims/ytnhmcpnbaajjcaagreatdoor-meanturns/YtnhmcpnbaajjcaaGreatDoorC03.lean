import Derived.Test.YtnhmcpnbaajjcaaGreatDoorC02
import Derived.IntWalk
import Derived.Lib.Hide
import Derived.WalkKit
import Derived.WalkSpells
set_option linter.unusedVariables false
set_option linter.unusedSimpArgs false
set_option maxHeartbeats 64000000
set_option maxRecDepth 100000
namespace Go.Proofs.YtnhmcpnbaajjcaaGreatDoor
open Go.RowKit Go.IntWalk
namespace Sk
structure Vr where
 elem:Int
 n:Int
deriving DecidableEq
def arr (v:Vr):Bool:=decide (0<v.n)
def sc (e:Int):Vr:=⟨e,0⟩
def same (a b:Vr):Bool:=(a.elem==b.elem)&&(a.n==b.n)
def arrOf (v c:Vr):Bool:=arr v&&same (sc v.elem) c
def truth (n:Int):Bool:=(n==0) || (n==1)
def when (b:Bool) (e:Int):Int:=if b=true then e else 0
end Sk
abbrev vv (v:Sk.Vr):Value:=.agg #[.int .u8 v.elem,.int .i64 v.n]
theorem xS (v:Sk.Vr) (w:World):Calls Tryz.prog 155 #[vv v] w fun e w'=>e=.returned (.bool (Sk.arr v))/\Below w.heap.size w w':=by
 have bA:Below w.heap.size w (w.alloc (.cells #[.int .u8 v.elem,.int .i64 v.n] 61 (0,0))):=(Below.refl _ _).alloc zL _;unfold Sk.arr;go_enter Tryz.func155,Tryz.ntmps155;go_wp2;go_ret;exact ⟨rfl,bA⟩
theorem xQ (e:Int) (w:World):Calls Tryz.prog 149 #[.int .u8 e] w fun r w'=>r=.returned (vv (Sk.sc e))/\Below w.heap.size w w':=by
 go_enter Tryz.func149,Tryz.ntmps149;go_wp2;exact bodyPost_ret (v:=.agg #[.int .u8 e,.int .i64 0]) (by simp [results,Tryz.results149,go_sem]) rfl ⟨rfl,by
  repeat (first | exact Below.refl _ _ | refine Below.setCell ?_ (by simp) _ | refine Below.alloc ?_ (by simp) _)⟩
theorem zE {P:Program} {ops:Array Oper} {Q:Exit->Act->World->Prop} {md:Region.Mode} {S:World->Prop} {late:Nat->Bool} {i:Nat} {oi:Oper} {fuel:Nat} {listed:Array Bool} {a:Act} {w:World} (hi:ops[i]?=some oi)
  (hs:Region.noSelect ops=true) (hf:Region.free md ops listed i=true) (hr:(Region.ready md ops listed).contains i=true) (hl:waitFor md ops late listed i=true)
  (hQ:∀ c a w,Q (.panic c) (a.put oi.dst undef) w->Q (.panic c) a w) (hS:S w) (hw:Region.wanted oi (yielded ops a.tmps)=false)
  (h:wpAnyL P md ops Q S late fuel (listed.setIfInBounds i true) (a.put oi.dst undef) w):wpAnyL P md ops Q S late (fuel+1) listed a w:=
 jI hi (Region.noSelect_spec hs) hQ fuel listed a w (Region.free_spec hi hf) (jH hl) (by simpa using hr) (.inr ⟨hw,rfl⟩) hS h
theorem qY (v:Sk.Vr) (w:World):Calls Tryz.prog 156 #[vv v] w fun r w'=>r=.returned (vv (Sk.sc v.elem))/\Below w.heap.size w w':=by
 have bA:Below w.heap.size w ((w.alloc (.cells #[.int .u8 v.elem,.int .i64 v.n] 61 (0,0))).alloc (.cells #[.int .u8 0,.int .i64 0] 61 (0,0))):=((Below.refl _ _).alloc zL _).alloc (by simp) _;have kZ:((w.alloc (.cells #[.int .u8 v.elem,.int .i64 v.n] 61 (0,0))).alloc (.cells #[.int .u8 0,.int .i64 0] 61 (0,0))).heap[w.heap.size+1]?=some (.cells #[.int .u8 0,.int .i64 0] 61 (0,0)):=by
  have:=zH (w.alloc (.cells #[.int .u8 v.elem,.int .i64 v.n] 61 (0,0))) (.cells #[.int .u8 0,.int .i64 0] 61 (0,0))
  simpa using this
 go_enter Tryz.func156,Tryz.ntmps156;go_wp2_with fail;refine (xQ v.elem _).mono ?_;rintro r w1 ⟨rfl,b1⟩;generalize (w.alloc (.cells #[.int .u8 v.elem,.int .i64 v.n] 61 (0,0))).alloc (.cells #[.int .u8 0,.int .i64 0] 61 (0,0))=W at bA kZ b1;have B1:=bA.trans (b1.mono bA.size);have k1:=(b1.block _ (zG kZ)).trans kZ;have st0:=coQ k1 0;have st1:=coQ k1 1;have fr0:=foQ k1 0;have fr1:=foQ k1 1;simp at st0 st1;have KR:=zP (zP k1 0 (.int .u8 v.elem)) 1 (.int .i64 0);have r0:=coQ KR 0;have r1:=coQ KR 1;simp at r0 r1;have BR:=(B1.setCell (p:=⟨w.heap.size+1,0,none⟩) (by simp) (.int .u8 v.elem)).setCell (p:=⟨w.heap.size+1,1,none⟩) (by simp) (.int .i64 0);clear KR;unfold vv Sk.sc;go_wp2;exact bodyPost_ret (v:=.agg #[.int .u8 v.elem,.int .i64 0]) (by simp [results,Tryz.results156,go_sem,r0,r1]) rfl ⟨rfl,BR⟩
theorem isTruthS_any (n:Int) (w:World):Calls Tryz.prog 150 #[.int .i64 n] w fun e w'=>e=.returned (.bool (Sk.truth n))/\w'=w:=by
 unfold Sk.truth;by_cases h:n=0
 ·subst h
  go_enter Tryz.func150,Tryz.ntmps150;go_wp2;go_ret;exact ⟨rfl,rfl⟩
 ·have h2:(n==0)=false:=by simpa using h
  go_enter Tryz.func150,Tryz.ntmps150;go_wp2;go_ret;exact ⟨by rw [h2];rfl,rfl⟩
theorem whenS_any (b:Bool) (e:Int) (w:World):Calls Tryz.prog 167 #[.bool b,.int .u8 e] w fun r w'=>r=.returned (.int .u8 (Sk.when b e))/\w'=w:=by
 unfold Sk.when
 cases b
 ·go_enter Tryz.func167,Tryz.ntmps167
  go_wp2;go_ret;exact ⟨rfl,rfl⟩
 ·go_enter Tryz.func167,Tryz.ntmps167
  go_wp2;go_ret;exact ⟨rfl,rfl⟩
theorem xG (v c:Sk.Vr) (w:World):Calls Tryz.prog 153 #[vv v,vv c] w fun e w'=>e=.returned (.bool (Sk.arrOf v c))/\Below w.heap.size w w':=by
 have b1:Below w.heap.size w ((w.alloc (.cells #[.int .u8 v.elem,.int .i64 v.n] 61 (0,0))).alloc (.cells #[.int .u8 c.elem,.int .i64 c.n] 61 (0,0))):=((Below.refl _ _).alloc zL _).alloc (by simp) _;have kA:((w.alloc (.cells #[.int .u8 v.elem,.int .i64 v.n] 61 (0,0))).alloc (.cells #[.int .u8 c.elem,.int .i64 c.n] 61 (0,0))).heap[w.heap.size]?=some (.cells #[.int .u8 v.elem,.int .i64 v.n] 61 (0,0)):=(Below.heap_alloc _ _ _ (by simp)).trans (zH w _);have kB:((w.alloc (.cells #[.int .u8 v.elem,.int .i64 v.n] 61 (0,0))).alloc (.cells #[.int .u8 c.elem,.int .i64 c.n] 61 (0,0))).heap[w.heap.size+1]?=some (.cells #[.int .u8 c.elem,.int .i64 c.n] 61 (0,0)):=by
  have:=zH (w.alloc (.cells #[.int .u8 v.elem,.int .i64 v.n] 61 (0,0))) (.cells #[.int .u8 c.elem,.int .i64 c.n] 61 (0,0))
  simpa using this
 obtain ⟨R,hR⟩:=nmQ (Sk.arrOf v c);rw [<-hR];unfold Sk.arrOf at hR;have hc:=xS v;generalize Sk.arr v=q at hc hR;obtain ⟨q2,hq2⟩:=nmQ (Sk.same (Sk.sc v.elem) c);rw [<-hq2] at hR;have HQ2:=zD hq2;have HR:=zD hR;clear hR hq2;go_enter Tryz.func153,Tryz.ntmps153;go_upto_region 1 with fail;generalize (w.alloc (.cells #[.int .u8 v.elem,.int .i64 v.n] 61 (0,0))).alloc (.cells #[.int .u8 c.elem,.int .i64 c.n] 61 (0,0))=w1 at b1 kA kB ⊢;have a0:=coQ kA 0;have a1:=coQ kA 1;simp at a0 a1;have yA:=zG kA;have c0:=coQ kB 0;have c1:=coQ kB 1;simp at c0 c1;have yB:=zG kB;refine zK (fun w'=>Below w1.heap.size w1 w') (fun _=>false) (by kernel_rfl) ?_;have hH0:Below w1.heap.size w1 w1.drew:=(Below.refl _ _).drew;generalize w1.drew=wd0 at hH0 ⊢;refine' tkQ 0 5 hH0 ?hyv ?o1
 case hyv=>
  intro wz hSw;have zc0:=(hSw.cell (p:=⟨w.heap.size,0,none⟩) yA).trans a0;have zc1:=(hSw.cell (p:=⟨w.heap.size,1,none⟩) yA).trans a1;have zc2:=(hSw.cell (p:=⟨w.heap.size+1,0,none⟩) yB).trans c0;have zc3:=(hSw.cell (p:=⟨w.heap.size+1,1,none⟩) yB).trans c1;go_simp
  try rfl
 try simp only [Act.put,sT,sZ,sS]
 refine tnQ 1 (fun K hK=>?_);go_simp;refine (hc wd0).mono ?_;rintro eq wd1 ⟨rfl,bq1⟩;have hH1:Below w1.heap.size w1 wd1:=hH0.trans (bq1.mono hH0.size);refine hK.out _ _ (fun _=>hH1) ?_;clear hK K
 try simp only [Act.put,sT,sZ,sS]
 refine' tkR 2 7 hH1 ?o2
 cases q
 case false=>
  refine zE (i:=3) (oi:=⟨some 8,_,_,_,_,_⟩) rfl (by kernel_rfl) (by kernel_rfl) (by kernel_rfl) (by kernel_rfl) (fun _ _ _ h=>h) hH1 (by rfl) ?_
  try simp only [Act.put,sT,sZ,sS]
  refine zE (i:=4) (oi:=⟨some 9,_,_,_,_,_⟩) rfl (by kernel_rfl) (by kernel_rfl) (by kernel_rfl) (by kernel_rfl) (fun _ _ _ h=>h) hH1 (by rfl) ?_
  try simp only [Act.put,sT,sZ,sS]
  refine zE (i:=5) (oi:=⟨some 10,_,_,_,_,_⟩) rfl (by kernel_rfl) (by kernel_rfl) (by kernel_rfl) (by kernel_rfl) (fun _ _ _ h=>h) hH1 (by rfl) ?_
  try simp only [Act.put,sT,sZ,sS]
  refine zE (i:=6) (oi:=⟨some 11,_,_,_,_,_⟩) rfl (by kernel_rfl) (by kernel_rfl) (by kernel_rfl) (by kernel_rfl) (fun _ _ _ h=>h) hH1 (by rfl) ?_
  try simp only [Act.put,sT,sZ,sS]
  refine' tkR 7 12 hH1 ?o3
  refine' tkR 8 4 hH1 ?o4
  refine zJ (by kernel_rfl) ?_ _;go_wp2;go_ret;refine ⟨?_,b1.trans (hH1.mono b1.size)⟩;rw [HR.out];rfl
 case true=>
  refine' tkQ 3 8 hH1 ?hyv ?o5
  case hyv=>
   intro wz hSw;have zc0:=(hSw.cell (p:=⟨w.heap.size,0,none⟩) yA).trans a0;have zc1:=(hSw.cell (p:=⟨w.heap.size,1,none⟩) yA).trans a1;have zc2:=(hSw.cell (p:=⟨w.heap.size+1,0,none⟩) yB).trans c0;have zc3:=(hSw.cell (p:=⟨w.heap.size+1,1,none⟩) yB).trans c1;go_simp
   try rfl
  try simp only [Act.put,sT,sZ,sS]
  refine' tkQ 5 10 hH1 ?hyv ?o6
  case hyv=>
   intro wz hSw;have zc0:=(hSw.cell (p:=⟨w.heap.size,0,none⟩) yA).trans a0;have zc1:=(hSw.cell (p:=⟨w.heap.size,1,none⟩) yA).trans a1;have zc2:=(hSw.cell (p:=⟨w.heap.size+1,0,none⟩) yB).trans c0;have zc3:=(hSw.cell (p:=⟨w.heap.size+1,1,none⟩) yB).trans c1;go_simp
   try rfl
  try simp only [Act.put,sT,sZ,sS]
  refine tnQ 4 (fun K hK=>?_);go_simp;refine (qY v wd1).mono ?_;rintro eq wd2 ⟨rfl,bq2⟩;have hH2:Below w1.heap.size w1 wd2:=hH1.trans (bq2.mono hH1.size);refine hK.out _ _ (fun _=>hH2) ?_;clear hK K
  try simp only [Act.put,sT,sZ,sS]
  refine' zS (i:=6) (oi:=⟨some 11,_,_,_,_,_⟩) (v:=.bool q2) rfl (by kernel_rfl) (by kernel_rfl) (by kernel_rfl) (by kernel_rfl) (fun _ _ _ h=>h) hH2 (by rfl) ?hyv ?o7
  case hyv=>
   intro wz hSw;go_simp;rw [HQ2.out];unfold Sk.same;by_cases h1:(Sk.sc v.elem).elem=c.elem<;>by_cases h2:(Sk.sc v.elem).n=c.n<;>simp [h1,h2]
  try simp only [Act.put,sT,sZ,sS]
  refine' tkR 7 12 hH2 ?o8
  refine' tkR 8 4 hH2 ?o9
  refine zJ (by kernel_rfl) ?_ _;go_wp2;go_ret;refine ⟨?_,b1.trans (hH2.mono b1.size)⟩;rw [HR.out];rw [Bool.true_and];rfl
end Go.Proofs.YtnhmcpnbaajjcaaGreatDoor
namespace Go.Proofs.YtnhmcpnbaajjcaaGreatDoor
open Go.RowKit Go.IntWalk
theorem drewN_below {B:Nat} {w w':World} (h:Below B w w') (n:Nat):Below B w (w'.drewN n):=⟨h.os,h.tape,h.output,h.size,h.block⟩
namespace Kd
def opsT:List (Int × Int × Int):=[(0,0,0),(105,105,2),(105,105,2),(105,105,2),(105,105,2),(105,105,2),(105,105,2),(105,105,2),(105,98,2),(105,98,2),(98,98,2),(98,98,2),(98,98,2),(105,105,1),(98,98,1)]
def opN (k:Nat):Int × Int × Int:=opsT.getD k (0,0,0)
def opT (k:Int):Int × Int × Int:=if k<0\/15<=k then (0,0,0) else opN k.toNat
def folds (k:Int):Bool:=decide ((opT k).2.2=2)&&decide ((opT k).1=(opT k).2.1)
end Kd
def GlobK (w:World):Prop:=1<w.heap.size/\∀ k,k<15->w.cell? ⟨1,k*3,none⟩=some (.int .u8 (Kd.opN k).1)/\w.cell? ⟨1,k*3+1,none⟩=some (.int .u8 (Kd.opN k).2.1)/\w.cell? ⟨1,k*3+2,none⟩=some (.int .i64 (Kd.opN k).2.2)
theorem GlobK.under {w w':World} (h:GlobK w) (b:Below w.heap.size w w'):GlobK w':=by
 refine ⟨Nat.lt_of_lt_of_le h.1 b.size,fun k hk=>?_⟩;obtain ⟨h0,h1,h2⟩:=h.2 k hk;exact ⟨(b.cell (p:=⟨1,k*3,none⟩) h.1).trans h0,(b.cell (p:=⟨1,k*3+1,none⟩) h.1).trans h1,(b.cell (p:=⟨1,k*3+2,none⟩) h.1).trans h2⟩
theorem jO (k:Int) (w:World) (hG:GlobK w) :
  Calls Tryz.prog 161 #[.int .i64 k] w fun r w'=>r=.returned (.tuple #[.int .u8 (Kd.opT k).1,.int .u8 (Kd.opT k).2.1,.int .i64 (Kd.opT k).2.2])/\Below w.heap.size w w':=by
 unfold Kd.opT;by_cases h1:k<0
 ·rw [if_pos (.inl h1)]
  go_enter Tryz.func161,Tryz.ntmps161;go_wp2;exact bodyPost_ret (v:=.tuple #[.int .u8 0,.int .u8 0,.int .i64 0]) (by simp [results,Tryz.results161,go_sem]) rfl ⟨rfl,Below.refl _ _⟩
 ·by_cases h2:15<=k
  ·rw [if_pos (.inr h2)]
   have h3:(15:Int)<=k:=h2;go_enter Tryz.func161,Tryz.ntmps161;go_wp2;exact bodyPost_ret (v:=.tuple #[.int .u8 0,.int .u8 0,.int .i64 0]) (by simp [results,Tryz.results161,go_sem]) rfl ⟨rfl,Below.refl _ _⟩
  ·rw [if_neg (by omega)]
   obtain ⟨q,rfl⟩:∃ q:Nat,k=(q:Int):=⟨k.toNat,by omega⟩;have hq:q<15:=(by omega);obtain ⟨c0,c1,c2⟩:=hG.2 q hq;rw [Int.toNat_natCast];generalize Kd.opN q=oq at c0 c1 c2 ⊢;obtain ⟨tk,mk,n⟩:=oq
   dsimp only at c0 c1 c2 ⊢
   have bA:Below w.heap.size w (w.alloc (.cells #[.int .u8 tk,.int .u8 mk,.int .i64 n] 181 (0,0))):=(Below.refl _ _).alloc zL _;have kA:=zH w (.cells #[.int .u8 tk,.int .u8 mk,.int .i64 n] 181 (0,0));go_enter Tryz.func161,Tryz.ntmps161;go_upto_region 4 with fail;generalize w.alloc (.cells #[.int .u8 tk,.int .u8 mk,.int .i64 n] 181 (0,0))=w1 at bA kA ⊢;have d0:=coQ kA 0;have d1:=coQ kA 1;have d2:=coQ kA 2;simp at d0 d1 d2;clear c0 c1 c2 kA;go_quiet (fail);go_wp2;exact bodyPost_ret (v:=.tuple #[.int .u8 tk,.int .u8 mk,.int .i64 n]) (by simp [results,Tryz.results161,go_sem]) rfl ⟨rfl,drewN_below bA _⟩
theorem folds_any (k:Int) (w:World) (hG:GlobK w) :
  Calls Tryz.prog 164 #[.int .i64 k] w fun r w'=>r=.returned (.bool (Kd.folds k))/\Below w.heap.size w w':=by
 have hc:=jO k w hG;unfold Kd.folds;generalize Kd.opT k=oq at hc ⊢;obtain ⟨tk,mk,n⟩:=oq
 dsimp only at hc ⊢
 go_enter Tryz.func164,Tryz.ntmps164;go_wp2_with fail;refine hc.mono ?_;rintro r w1 ⟨rfl,b1⟩;by_cases h2:n=2
 ·subst h2
  by_cases he:tk=mk
  ·subst he
   go_wp2;go_ret;exact ⟨by simp,b1⟩
  ·have he2:(tk==mk)=false:=by simpa using he
   go_wp2;go_ret;exact ⟨by simp [he],b1⟩
 ·have h3:(n==2)=false:=by simpa using h2
  go_wp2;go_ret;exact ⟨by simp [h2],b1⟩
end Go.Proofs.YtnhmcpnbaajjcaaGreatDoor
namespace Go.Proofs.YtnhmcpnbaajjcaaGreatDoor
open Go.RowKit Go.IntWalk
theorem apply_any (k a b:Int) (w:World):Calls Tryz.prog 102 #[.int .i64 k,.int .i64 a,.int .i64 b] w fun e w'=>e=.returned (.int .i64 (apT k a b))/\w'=w:=by
 have h22:=fun b w=>truth_any b w;have h21:=fun k a b w h=>divided_any k a b w h;have h23:=fun k a b w=>ofTruths_any k a b w;by_cases h1:k=1
 ·subst h1
  go_enter Tryz.func102,Tryz.ntmps102
  go_wp2_with (first | (go_at_call 129;refine (h22 _ _).mono ?_;rintro e w' ⟨rfl,rfl⟩) | (go_at_call 128;refine (h21 _ _ _ _ (by simp)).mono ?_;rintro e w' ⟨rfl,rfl⟩) | (go_at_call 130;refine (h23 _ _ _ _).mono ?_;rintro e w' ⟨rfl,rfl⟩))
  all_goals go_ret
  all_goals refine ⟨xD ?_,rfl⟩
  all_goals (simp [apT,tr,bne]<;>(try omega)<;>(try (by_cases ha:a=0<;>by_cases hb:b=0<;>simp [ha,hb]<;>(try rw [show (a==0)=false from by simpa using ha,show (b==0)=false from by simpa using hb]))))
 by_cases h2:k=2
 ·subst h2
  go_enter Tryz.func102,Tryz.ntmps102
  go_wp2_with (first | (go_at_call 129;refine (h22 _ _).mono ?_;rintro e w' ⟨rfl,rfl⟩) | (go_at_call 128;refine (h21 _ _ _ _ (by simp)).mono ?_;rintro e w' ⟨rfl,rfl⟩) | (go_at_call 130;refine (h23 _ _ _ _).mono ?_;rintro e w' ⟨rfl,rfl⟩))
  all_goals go_ret
  all_goals refine ⟨xD ?_,rfl⟩
  all_goals (simp [apT,tr,bne]<;>(try omega)<;>(try (by_cases ha:a=0<;>by_cases hb:b=0<;>simp [ha,hb]<;>(try rw [show (a==0)=false from by simpa using ha,show (b==0)=false from by simpa using hb]))))
 by_cases h3:k=3
 ·subst h3
  go_enter Tryz.func102,Tryz.ntmps102
  go_wp2_with (first | (go_at_call 129;refine (h22 _ _).mono ?_;rintro e w' ⟨rfl,rfl⟩) | (go_at_call 128;refine (h21 _ _ _ _ (by simp)).mono ?_;rintro e w' ⟨rfl,rfl⟩) | (go_at_call 130;refine (h23 _ _ _ _).mono ?_;rintro e w' ⟨rfl,rfl⟩))
  all_goals go_ret
  all_goals refine ⟨xD ?_,rfl⟩
  all_goals (simp [apT,tr,bne]<;>(try omega)<;>(try (by_cases ha:a=0<;>by_cases hb:b=0<;>simp [ha,hb]<;>(try rw [show (a==0)=false from by simpa using ha,show (b==0)=false from by simpa using hb]))))
 by_cases h4:k=4
 ·subst h4
  go_enter Tryz.func102,Tryz.ntmps102
  go_wp2_with (first | (go_at_call 129;refine (h22 _ _).mono ?_;rintro e w' ⟨rfl,rfl⟩) | (go_at_call 128;refine (h21 _ _ _ _ (by simp)).mono ?_;rintro e w' ⟨rfl,rfl⟩) | (go_at_call 130;refine (h23 _ _ _ _).mono ?_;rintro e w' ⟨rfl,rfl⟩))
  all_goals go_ret
  all_goals refine ⟨xD ?_,rfl⟩
  all_goals (simp [apT,tr,bne]<;>(try omega)<;>(try (by_cases ha:a=0<;>by_cases hb:b=0<;>simp [ha,hb]<;>(try rw [show (a==0)=false from by simpa using ha,show (b==0)=false from by simpa using hb]))))
 by_cases h5:k=5
 ·subst h5
  go_enter Tryz.func102,Tryz.ntmps102
  go_wp2_with (first | (go_at_call 129;refine (h22 _ _).mono ?_;rintro e w' ⟨rfl,rfl⟩) | (go_at_call 128;refine (h21 _ _ _ _ (by simp)).mono ?_;rintro e w' ⟨rfl,rfl⟩) | (go_at_call 130;refine (h23 _ _ _ _).mono ?_;rintro e w' ⟨rfl,rfl⟩))
  all_goals go_ret
  all_goals refine ⟨xD ?_,rfl⟩
  all_goals (simp [apT,tr,bne]<;>(try omega)<;>(try (by_cases ha:a=0<;>by_cases hb:b=0<;>simp [ha,hb]<;>(try rw [show (a==0)=false from by simpa using ha,show (b==0)=false from by simpa using hb]))))
 by_cases h6:k=6
 ·subst h6
  go_enter Tryz.func102,Tryz.ntmps102
  go_wp2_with (first | (go_at_call 129;refine (h22 _ _).mono ?_;rintro e w' ⟨rfl,rfl⟩) | (go_at_call 128;refine (h21 _ _ _ _ (by simp)).mono ?_;rintro e w' ⟨rfl,rfl⟩) | (go_at_call 130;refine (h23 _ _ _ _).mono ?_;rintro e w' ⟨rfl,rfl⟩))
  all_goals go_ret
  all_goals refine ⟨xD ?_,rfl⟩
  all_goals (simp [apT,tr,bne]<;>(try omega)<;>(try (by_cases ha:a=0<;>by_cases hb:b=0<;>simp [ha,hb]<;>(try rw [show (a==0)=false from by simpa using ha,show (b==0)=false from by simpa using hb]))))
 by_cases h7:k=7
 ·subst h7
  go_enter Tryz.func102,Tryz.ntmps102
  go_wp2_with (first | (go_at_call 129;refine (h22 _ _).mono ?_;rintro e w' ⟨rfl,rfl⟩) | (go_at_call 128;refine (h21 _ _ _ _ (by simp)).mono ?_;rintro e w' ⟨rfl,rfl⟩) | (go_at_call 130;refine (h23 _ _ _ _).mono ?_;rintro e w' ⟨rfl,rfl⟩))
  all_goals go_ret
  all_goals refine ⟨xD ?_,rfl⟩
  all_goals (simp [apT,tr,bne]<;>(try omega)<;>(try (by_cases ha:a=0<;>by_cases hb:b=0<;>simp [ha,hb]<;>(try rw [show (a==0)=false from by simpa using ha,show (b==0)=false from by simpa using hb]))))
 by_cases h8:k=8
 ·subst h8
  go_enter Tryz.func102,Tryz.ntmps102
  go_wp2_with (first | (go_at_call 129;refine (h22 _ _).mono ?_;rintro e w' ⟨rfl,rfl⟩) | (go_at_call 128;refine (h21 _ _ _ _ (by simp)).mono ?_;rintro e w' ⟨rfl,rfl⟩) | (go_at_call 130;refine (h23 _ _ _ _).mono ?_;rintro e w' ⟨rfl,rfl⟩))
  all_goals go_ret
  all_goals refine ⟨xD ?_,rfl⟩
  all_goals (simp [apT,tr,bne]<;>(try omega)<;>(try (by_cases ha:a=0<;>by_cases hb:b=0<;>simp [ha,hb]<;>(try rw [show (a==0)=false from by simpa using ha,show (b==0)=false from by simpa using hb]))))
 by_cases h9:k=9
 ·subst h9
  go_enter Tryz.func102,Tryz.ntmps102
  go_wp2_with (first | (go_at_call 129;refine (h22 _ _).mono ?_;rintro e w' ⟨rfl,rfl⟩) | (go_at_call 128;refine (h21 _ _ _ _ (by simp)).mono ?_;rintro e w' ⟨rfl,rfl⟩) | (go_at_call 130;refine (h23 _ _ _ _).mono ?_;rintro e w' ⟨rfl,rfl⟩))
  all_goals go_ret
  all_goals refine ⟨xD ?_,rfl⟩
  all_goals (simp [apT,tr,bne]<;>(try omega)<;>(try (by_cases ha:a=0<;>by_cases hb:b=0<;>simp [ha,hb]<;>(try rw [show (a==0)=false from by simpa using ha,show (b==0)=false from by simpa using hb]))))
 by_cases h10:k=10
 ·subst h10
  go_enter Tryz.func102,Tryz.ntmps102
  go_wp2_with (first | (go_at_call 129;refine (h22 _ _).mono ?_;rintro e w' ⟨rfl,rfl⟩) | (go_at_call 128;refine (h21 _ _ _ _ (by simp)).mono ?_;rintro e w' ⟨rfl,rfl⟩) | (go_at_call 130;refine (h23 _ _ _ _).mono ?_;rintro e w' ⟨rfl,rfl⟩))
  all_goals go_ret
  all_goals refine ⟨xD ?_,rfl⟩
  all_goals (simp [apT,tr,bne]<;>(try omega)<;>(try (by_cases ha:a=0<;>by_cases hb:b=0<;>simp [ha,hb]<;>(try rw [show (a==0)=false from by simpa using ha,show (b==0)=false from by simpa using hb]))))
 by_cases h11:k=11
 ·subst h11
  go_enter Tryz.func102,Tryz.ntmps102
  go_wp2_with (first | (go_at_call 129;refine (h22 _ _).mono ?_;rintro e w' ⟨rfl,rfl⟩) | (go_at_call 128;refine (h21 _ _ _ _ (by simp)).mono ?_;rintro e w' ⟨rfl,rfl⟩) | (go_at_call 130;refine (h23 _ _ _ _).mono ?_;rintro e w' ⟨rfl,rfl⟩))
  all_goals go_ret
  all_goals refine ⟨xD ?_,rfl⟩
  all_goals (simp [apT,tr,bne]<;>(try omega)<;>(try (by_cases ha:a=0<;>by_cases hb:b=0<;>simp [ha,hb]<;>(try rw [show (a==0)=false from by simpa using ha,show (b==0)=false from by simpa using hb]))))
 by_cases h12:k=12
 ·subst h12
  go_enter Tryz.func102,Tryz.ntmps102
  go_wp2_with (first | (go_at_call 129;refine (h22 _ _).mono ?_;rintro e w' ⟨rfl,rfl⟩) | (go_at_call 128;refine (h21 _ _ _ _ (by simp)).mono ?_;rintro e w' ⟨rfl,rfl⟩) | (go_at_call 130;refine (h23 _ _ _ _).mono ?_;rintro e w' ⟨rfl,rfl⟩))
  all_goals go_ret
  all_goals refine ⟨xD ?_,rfl⟩
  all_goals (simp [apT,tr,bne]<;>(try omega)<;>(try (by_cases ha:a=0<;>by_cases hb:b=0<;>simp [ha,hb]<;>(try rw [show (a==0)=false from by simpa using ha,show (b==0)=false from by simpa using hb]))))
 by_cases h13:k=13
 ·subst h13
  go_enter Tryz.func102,Tryz.ntmps102
  go_wp2_with (first | (go_at_call 129;refine (h22 _ _).mono ?_;rintro e w' ⟨rfl,rfl⟩) | (go_at_call 128;refine (h21 _ _ _ _ (by simp)).mono ?_;rintro e w' ⟨rfl,rfl⟩) | (go_at_call 130;refine (h23 _ _ _ _).mono ?_;rintro e w' ⟨rfl,rfl⟩))
  all_goals go_ret
  all_goals refine ⟨xD ?_,rfl⟩
  all_goals (simp [apT,tr,bne]<;>(try omega)<;>(try (by_cases ha:a=0<;>by_cases hb:b=0<;>simp [ha,hb]<;>(try rw [show (a==0)=false from by simpa using ha,show (b==0)=false from by simpa using hb]))))
 by_cases h14:k=14
 ·subst h14
  go_enter Tryz.func102,Tryz.ntmps102
  go_wp2_with (first | (go_at_call 129;refine (h22 _ _).mono ?_;rintro e w' ⟨rfl,rfl⟩) | (go_at_call 128;refine (h21 _ _ _ _ (by simp)).mono ?_;rintro e w' ⟨rfl,rfl⟩) | (go_at_call 130;refine (h23 _ _ _ _).mono ?_;rintro e w' ⟨rfl,rfl⟩))
  all_goals go_ret
  all_goals refine ⟨xD ?_,rfl⟩
  all_goals (simp [apT,tr,bne]<;>(try omega)<;>(try (by_cases ha:a=0<;>by_cases hb:b=0<;>simp [ha,hb]<;>(try rw [show (a==0)=false from by simpa using ha,show (b==0)=false from by simpa using hb]))))
 have hz:apT k a b=0:=(by unfold apT;simp [h1,h2,h3,h4,h5,h6,h7,h8,h9,h10,h11,h12,h13,h14]);rw [hz];have q1:(k==1)=false:=(by simpa using h1);have q2:(k==2)=false:=(by simpa using h2);have q3:(k==3)=false:=(by simpa using h3);have q4:(k==4)=false:=(by simpa using h4);have q5:(k==5)=false:=(by simpa using h5);have q6:(k==6)=false:=(by simpa using h6);have q7:(k==7)=false:=(by simpa using h7);have q8:(k==8)=false:=(by simpa using h8);have q9:(k==9)=false:=(by simpa using h9);have q10:(k==10)=false:=(by simpa using h10);have q11:(k==11)=false:=(by simpa using h11);have q12:(k==12)=false:=(by simpa using h12);have q13:(k==13)=false:=(by simpa using h13);have q14:(k==14)=false:=(by simpa using h14);go_enter Tryz.func102,Tryz.ntmps102
 go_wp2_with (go_at_call 130;refine (h23 _ _ _ _).mono ?_;rintro e w' ⟨rfl,rfl⟩)
 go_ret;refine ⟨xD ?_,rfl⟩;simp [h10,h11,h12,h14]
end Go.Proofs.YtnhmcpnbaajjcaaGreatDoor
