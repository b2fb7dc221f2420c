import Derived.Test.YtfhghlpfeeiaeaaGreatDoorX02
import Derived.IntWalk
import Derived.Lib.Hide
import Derived.WalkKit
import Derived.WalkSpells
set_option linter.unusedVariables false
set_option linter.unusedSimpArgs false
set_option maxHeartbeats 64000000
set_option maxRecDepth 100000
namespace Go.Proofs.YtfhghlpfeeiaeaaGreatDoor
open Go.RowKit Go.IntWalk
namespace Sk
structure Vr where
 elem:Int
 n:Int
deriving DecidableEq
def arr (v:Vr):Bool:=decide (0<v.n)
def sc (e:Int):Vr:=⟨e,0⟩
def same (a b:Vr):Bool:=(a.elem==b.elem)&&(a.n==b.n)
def arrOf (v c:Vr):Bool:=arr v&&same (sc v.elem) c
def truth (n:Int):Bool:=(n==0) || (n==1)
def when (b:Bool) (e:Int):Int:=if b=true then e else 0
end Sk
abbrev vv (v:Sk.Vr):Value:=.agg #[.int .u8 v.elem,.int .i64 v.n]
theorem zBz (v:Sk.Vr) (w:World):Calls Tryz.prog 96 #[vv v] w fun e w'=>e=.returned (.bool (Sk.arr v))/\Below w.heap.size w w':=by
 have bA:Below w.heap.size w (w.alloc (.cells #[.int .u8 v.elem,.int .i64 v.n] 39 (0,0))):=(Below.refl _ _).alloc zBR _;unfold Sk.arr;go_enter Tryz.func96,Tryz.ntmps96;go_wp2;go_ret;exact ⟨rfl,bA⟩
theorem zBv (e:Int) (w:World):Calls Tryz.prog 90 #[.int .u8 e] w fun r w'=>r=.returned (vv (Sk.sc e))/\Below w.heap.size w w':=by
 go_enter Tryz.func90,Tryz.ntmps90;go_wp2;exact bodyPost_ret (v:=.agg #[.int .u8 e,.int .i64 0]) (by simp [results,Tryz.results90,go_sem]) rfl ⟨rfl,by
  repeat (first | exact Below.refl _ _ | refine Below.setCell ?_ (by simp) _ | refine Below.alloc ?_ (by simp) _)⟩
theorem zBJ {P:Program} {ops:Array Oper} {Q:Exit->Act->World->Prop} {md:Region.Mode} {S:World->Prop} {late:Nat->Bool} {i:Nat} {oi:Oper} {fuel:Nat} {listed:Array Bool} {a:Act} {w:World} (hi:ops[i]?=some oi)
  (hs:Region.noSelect ops=true) (hf:Region.free md ops listed i=true) (hr:(Region.ready md ops listed).contains i=true) (hl:waitFor md ops late listed i=true)
  (hQ:∀ c a w,Q (.panic c) (a.put oi.dst undef) w->Q (.panic c) a w) (hS:S w) (hw:Region.wanted oi (yielded ops a.tmps)=false)
  (h:wpAnyL P md ops Q S late fuel (listed.setIfInBounds i true) (a.put oi.dst undef) w):wpAnyL P md ops Q S late (fuel+1) listed a w:=
 zDA hi (Region.noSelect_spec hs) hQ fuel listed a w (Region.free_spec hi hf) (zCz hl) (by simpa using hr) (.inr ⟨hw,rfl⟩) hS h
theorem tsQ {P:Program} {md:Region.Mode} {ops:Array Oper} {Q:Exit->Act->World->Prop} {S:World->Prop} {late:Nat->Bool} {fuel:Nat} {listed:Array Bool} {a:Act} {w:World} {b:Act} {op ty pos after guard} (i d:Nat) (hS:S w) (h:wpAnyL P md ops Q S late fuel (listed.setIfInBounds i true) b w)
  (hi:ops[i]?=some ⟨some d,op,ty,pos,after,guard⟩:=by rfl) (hs:Region.noSelect ops=true:=by kernel_rfl) (hf:Region.free md ops listed i=true:=by kernel_rfl) (hr:(Region.ready md ops listed).contains i=true:=by kernel_rfl) (hl:waitFor md ops late listed i=true:=by kernel_rfl) (hQ:∀ c a w,Q (.panic c) (a.put (some d) undef) w->Q (.panic c) a w:=by exact fun _ _ _ h=>h) (hw:Region.wanted ⟨some d,op,ty,pos,after,guard⟩ (yielded ops a.tmps)=false:=by rfl) (hb:a.put (some d) undef=b:=by first | (simp only [Act.put,sT,sZ,sS];rfl) | rfl):wpAnyL P md ops Q S late (fuel+1) listed a w:=
 zBJ hi hs hf hr hl hQ hS hw (hb ▸ h)
theorem zCX (v:Sk.Vr) (w:World):Calls Tryz.prog 97 #[vv v] w fun r w'=>r=.returned (vv (Sk.sc v.elem))/\Below w.heap.size w w':=by
 have bA:Below w.heap.size w ((w.alloc (.cells #[.int .u8 v.elem,.int .i64 v.n] 39 (0,0))).alloc (.cells #[.int .u8 0,.int .i64 0] 39 (0,0))):=((Below.refl _ _).alloc zBR _).alloc (by simp) _;have kZ:((w.alloc (.cells #[.int .u8 v.elem,.int .i64 v.n] 39 (0,0))).alloc (.cells #[.int .u8 0,.int .i64 0] 39 (0,0))).heap[w.heap.size+1]?=some (.cells #[.int .u8 0,.int .i64 0] 39 (0,0)):=by
  have:=zBO (w.alloc (.cells #[.int .u8 v.elem,.int .i64 v.n] 39 (0,0))) (.cells #[.int .u8 0,.int .i64 0] 39 (0,0))
  simpa using this
 go_enter Tryz.func97,Tryz.ntmps97;go_wp2_with fail;refine (zBv v.elem _).mono ?_;rintro r w1 ⟨rfl,b1⟩;generalize (w.alloc (.cells #[.int .u8 v.elem,.int .i64 v.n] 39 (0,0))).alloc (.cells #[.int .u8 0,.int .i64 0] 39 (0,0))=W at bA kZ b1;have B1:=bA.trans (b1.mono bA.size);have k1:=(b1.block _ (zBM kZ)).trans kZ;have cJ:=coQ k1 0;have cW:=coQ k1 1;have eO:=foQ k1 0;have fl:=foQ k1 1;simp at cJ cW;have KR:=zBQ (zBQ k1 0 (.int .u8 v.elem)) 1 (.int .i64 0);have r0:=coQ KR 0;have r1:=coQ KR 1;simp at r0 r1;have BR:=(B1.setCell (p:=⟨w.heap.size+1,0,none⟩) (by simp) (.int .u8 v.elem)).setCell (p:=⟨w.heap.size+1,1,none⟩) (by simp) (.int .i64 0);clear KR;unfold vv Sk.sc;go_wp2;exact bodyPost_ret (v:=.agg #[.int .u8 v.elem,.int .i64 0]) (by simp [results,Tryz.results97,go_sem,r0,r1]) rfl ⟨rfl,BR⟩
theorem isTruthS_any (n:Int) (w:World):Calls Tryz.prog 91 #[.int .i64 n] w fun e w'=>e=.returned (.bool (Sk.truth n))/\w'=w:=by
 unfold Sk.truth;by_cases h:n=0
 ·subst h
  go_enter Tryz.func91,Tryz.ntmps91;go_wp2;go_ret;exact ⟨rfl,rfl⟩
 ·have h2:(n==0)=false:=by simpa using h
  go_enter Tryz.func91,Tryz.ntmps91;go_wp2;go_ret;exact ⟨by rw [h2];rfl,rfl⟩
theorem whenS_any (b:Bool) (e:Int) (w:World):Calls Tryz.prog 118 #[.bool b,.int .u8 e] w fun r w'=>r=.returned (.int .u8 (Sk.when b e))/\w'=w:=by
 unfold Sk.when
 cases b
 ·go_enter Tryz.func118,Tryz.ntmps118
  go_wp2;go_ret;exact ⟨rfl,rfl⟩
 ·go_enter Tryz.func118,Tryz.ntmps118
  go_wp2;go_ret;exact ⟨rfl,rfl⟩
theorem zBm (v c:Sk.Vr) (w:World):Calls Tryz.prog 94 #[vv v,vv c] w fun e w'=>e=.returned (.bool (Sk.arrOf v c))/\Below w.heap.size w w':=by
 have b1:Below w.heap.size w ((w.alloc (.cells #[.int .u8 v.elem,.int .i64 v.n] 39 (0,0))).alloc (.cells #[.int .u8 c.elem,.int .i64 c.n] 39 (0,0))):=((Below.refl _ _).alloc zBR _).alloc (by simp) _;have kA:((w.alloc (.cells #[.int .u8 v.elem,.int .i64 v.n] 39 (0,0))).alloc (.cells #[.int .u8 c.elem,.int .i64 c.n] 39 (0,0))).heap[w.heap.size]?=some (.cells #[.int .u8 v.elem,.int .i64 v.n] 39 (0,0)):=(Below.heap_alloc _ _ _ (by simp)).trans (zBO w _);have kB:((w.alloc (.cells #[.int .u8 v.elem,.int .i64 v.n] 39 (0,0))).alloc (.cells #[.int .u8 c.elem,.int .i64 c.n] 39 (0,0))).heap[w.heap.size+1]?=some (.cells #[.int .u8 c.elem,.int .i64 c.n] 39 (0,0)):=by
  have:=zBO (w.alloc (.cells #[.int .u8 v.elem,.int .i64 v.n] 39 (0,0))) (.cells #[.int .u8 c.elem,.int .i64 c.n] 39 (0,0))
  simpa using this
 obtain ⟨R,hR⟩:=nmQ (Sk.arrOf v c);rw [<-hR];unfold Sk.arrOf at hR;have hc:=zBz v;generalize Sk.arr v=q at hc hR;obtain ⟨q2,aY⟩:=nmQ (Sk.same (Sk.sc v.elem) c);rw [<-aY] at hR;have eK:=zBK aY;have HR:=zBK hR;clear hR aY;go_enter Tryz.func94,Tryz.ntmps94;go_upto_region 1 with fail;generalize (w.alloc (.cells #[.int .u8 v.elem,.int .i64 v.n] 39 (0,0))).alloc (.cells #[.int .u8 c.elem,.int .i64 c.n] 39 (0,0))=w1 at b1 kA kB ⊢;have a0:=coQ kA 0;have a1:=coQ kA 1;simp at a0 a1;have yA:=zBM kA;have c0:=coQ kB 0;have c1:=coQ kB 1;simp at c0 c1;have yB:=zBM kB;have aM:=zBK (fun (wz:World) (hSw:Below w1.heap.size w1 wz)=>And.intro ((hSw.cell (p:=⟨w.heap.size,0,none⟩) yA).trans a0) (And.intro ((hSw.cell (p:=⟨w.heap.size,1,none⟩) yA).trans a1) (And.intro ((hSw.cell (p:=⟨w.heap.size+1,0,none⟩) yB).trans c0) ((hSw.cell (p:=⟨w.heap.size+1,1,none⟩) yB).trans c1))));refine zBP (fun w'=>Below w1.heap.size w1 w') (fun _=>false) (by kernel_rfl) ?_;have ab:Below w1.heap.size w1 w1.drew:=(Below.refl _ _).drew;generalize w1.drew=ag at ab ⊢;refine' tkQ 0 5 ab ?hyv ?o1
 case hyv=>
  intro wz hSw;have bk:=aM.out wz hSw;go_simp
  try rfl
 try simp only [Act.put,sT,sZ,sS]
 refine tnQ 1 (fun K hK=>?_);go_simp;refine (hc ag).mono ?_;rintro eq aw ⟨rfl,cY⟩;have af:Below w1.heap.size w1 aw:=ab.trans (cY.mono ab.size);refine hK.out _ _ (fun _=>af) ?_;clear hK K
 try simp only [Act.put,sT,sZ,sS]
 refine' tkR 2 7 af ?o2
 cases q
 case false=>
  refine' tsQ 3 8 af ?_
  refine' tsQ 4 9 af ?_
  refine' tsQ 5 10 af ?_
  refine' tsQ 6 11 af ?_
  refine' tkR 7 12 af ?o3
  refine' tkR 8 4 af ?o4
  refine zBN (by kernel_rfl) ?_ _;go_wp2;go_ret;refine ⟨?_,b1.trans (af.mono b1.size)⟩;rw [HR.out];rfl
 case true=>
  refine' tkQ 3 8 af ?hyv ?o5
  case hyv=>
   intro wz hSw;have bk:=aM.out wz hSw;go_simp
   try rfl
  try simp only [Act.put,sT,sZ,sS]
  refine' tkQ 5 10 af ?hyv ?o6
  case hyv=>
   intro wz hSw;have bk:=aM.out wz hSw;go_simp
   try rfl
  try simp only [Act.put,sT,sZ,sS]
  refine tnQ 4 (fun K hK=>?_);go_simp;refine (zCX v aw).mono ?_;rintro eq aJ ⟨rfl,dz⟩;have ay:Below w1.heap.size w1 aJ:=af.trans (dz.mono af.size);refine hK.out _ _ (fun _=>ay) ?_;clear hK K
  try simp only [Act.put,sT,sZ,sS]
  refine' zBS (i:=6) (oi:=⟨some 11,_,_,_,_,_⟩) (v:=.bool q2) rfl (by kernel_rfl) (by kernel_rfl) (by kernel_rfl) (by kernel_rfl) (fun _ _ _ h=>h) ay (by rfl) ?hyv ?o7
  case hyv=>
   intro wz hSw;go_simp;rw [eK.out];unfold Sk.same;by_cases h1:(Sk.sc v.elem).elem=c.elem<;>by_cases h2:(Sk.sc v.elem).n=c.n<;>simp [h1,h2]
  try simp only [Act.put,sT,sZ,sS]
  refine' tkR 7 12 ay ?o8
  refine' tkR 8 4 ay ?o9
  refine zBN (by kernel_rfl) ?_ _;go_wp2;go_ret;refine ⟨?_,b1.trans (ay.mono b1.size)⟩;rw [HR.out];rw [Bool.true_and];rfl
end Go.Proofs.YtfhghlpfeeiaeaaGreatDoor
namespace Go.Proofs.YtfhghlpfeeiaeaaGreatDoor
open Go.RowKit Go.IntWalk
theorem zBX {B:Nat} {w w':World} (h:Below B w w') (n:Nat):Below B w (w'.drewN n):=⟨h.os,h.tape,h.output,h.size,h.block⟩
namespace Kd
def opsT:List (Int × Int × Int):=[(0,0,0),(105,105,2),(105,105,2),(105,105,2),(105,105,2),(105,105,2),(105,105,2),(105,105,2),(105,98,2),(105,98,2),(98,98,2),(98,98,2),(98,98,2),(105,105,1),(98,98,1)]
def opN (k:Nat):Int × Int × Int:=opsT.getD k (0,0,0)
def opT (k:Int):Int × Int × Int:=if k<0\/15<=k then (0,0,0) else opN k.toNat
def folds (k:Int):Bool:=decide ((opT k).2.2=2)&&decide ((opT k).1=(opT k).2.1)
end Kd
def GlobK (w:World):Prop:=1<w.heap.size/\∀ k,k<15->w.cell? ⟨1,k*3,none⟩=some (.int .u8 (Kd.opN k).1)/\w.cell? ⟨1,k*3+1,none⟩=some (.int .u8 (Kd.opN k).2.1)/\w.cell? ⟨1,k*3+2,none⟩=some (.int .i64 (Kd.opN k).2.2)
theorem GlobK.under {w w':World} (h:GlobK w) (b:Below w.heap.size w w'):GlobK w':=by
 refine ⟨Nat.lt_of_lt_of_le h.1 b.size,fun k hk=>?_⟩;obtain ⟨h0,h1,h2⟩:=h.2 k hk;exact ⟨(b.cell (p:=⟨1,k*3,none⟩) h.1).trans h0,(b.cell (p:=⟨1,k*3+1,none⟩) h.1).trans h1,(b.cell (p:=⟨1,k*3+2,none⟩) h.1).trans h2⟩
theorem zAG (k:Int) (w:World) (hG:GlobK w) :
  Calls Tryz.prog 112 #[.int .i64 k] w fun r w'=>r=.returned (.tuple #[.int .u8 (Kd.opT k).1,.int .u8 (Kd.opT k).2.1,.int .i64 (Kd.opT k).2.2])/\Below w.heap.size w w':=by
 unfold Kd.opT;by_cases h1:k<0
 ·rw [if_pos (.inl h1)]
  go_enter Tryz.func112,Tryz.ntmps112;go_wp2;exact bodyPost_ret (v:=.tuple #[.int .u8 0,.int .u8 0,.int .i64 0]) (by simp [results,Tryz.results112,go_sem]) rfl ⟨rfl,Below.refl _ _⟩
 ·by_cases h2:15<=k
  ·rw [if_pos (.inr h2)]
   have h3:(15:Int)<=k:=h2;go_enter Tryz.func112,Tryz.ntmps112;go_wp2;exact bodyPost_ret (v:=.tuple #[.int .u8 0,.int .u8 0,.int .i64 0]) (by simp [results,Tryz.results112,go_sem]) rfl ⟨rfl,Below.refl _ _⟩
  ·rw [if_neg (by omega)]
   obtain ⟨q,rfl⟩:∃ q:Nat,k=(q:Int):=⟨k.toNat,by omega⟩;have hq:q<15:=(by omega);obtain ⟨c0,c1,c2⟩:=hG.2 q hq;rw [Int.toNat_natCast];generalize Kd.opN q=oq at c0 c1 c2 ⊢;obtain ⟨tk,mk,n⟩:=oq
   dsimp only at c0 c1 c2 ⊢
   have bA:Below w.heap.size w (w.alloc (.cells #[.int .u8 tk,.int .u8 mk,.int .i64 n] 150 (0,0))):=(Below.refl _ _).alloc zBR _;have kA:=zBO w (.cells #[.int .u8 tk,.int .u8 mk,.int .i64 n] 150 (0,0));go_enter Tryz.func112,Tryz.ntmps112;go_upto_region 4 with fail;generalize w.alloc (.cells #[.int .u8 tk,.int .u8 mk,.int .i64 n] 150 (0,0))=w1 at bA kA ⊢;have d0:=coQ kA 0;have d1:=coQ kA 1;have d2:=coQ kA 2;simp at d0 d1 d2;clear c0 c1 c2 kA;go_quiet (fail);go_wp2;exact bodyPost_ret (v:=.tuple #[.int .u8 tk,.int .u8 mk,.int .i64 n]) (by simp [results,Tryz.results112,go_sem]) rfl ⟨rfl,zBX bA _⟩
theorem folds_any (k:Int) (w:World) (hG:GlobK w) :
  Calls Tryz.prog 115 #[.int .i64 k] w fun r w'=>r=.returned (.bool (Kd.folds k))/\Below w.heap.size w w':=by
 have hc:=zAG k w hG;unfold Kd.folds;generalize Kd.opT k=oq at hc ⊢;obtain ⟨tk,mk,n⟩:=oq
 dsimp only at hc ⊢
 go_enter Tryz.func115,Tryz.ntmps115;go_wp2_with fail;refine hc.mono ?_;rintro r w1 ⟨rfl,b1⟩;by_cases h2:n=2
 ·subst h2
  by_cases he:tk=mk
  ·subst he
   go_wp2;go_ret;exact ⟨by simp,b1⟩
  ·have OC:(tk==mk)=false:=by simpa using he
   go_wp2;go_ret;exact ⟨by simp [he],b1⟩
 ·have h3:(n==2)=false:=by simpa using h2
  go_wp2;go_ret;exact ⟨by simp [h2],b1⟩
end Go.Proofs.YtfhghlpfeeiaeaaGreatDoor
namespace Go.Proofs.YtfhghlpfeeiaeaaGreatDoor
open Go.RowKit Go.IntWalk
def I64 (a:Int):Prop := -9223372036854775808<=a/\a<=9223372036854775807
theorem w64_in {a:Int} (h:I64 a):wrap64 a=a:=by unfold wrap64;unfold I64 at h;omega
theorem w64_I64 (a:Int):I64 (wrap64 a):=by unfold wrap64 I64;omega
theorem tmod_eq {a b:Int} (ha:I64 a) (hb:I64 b) (h0:b≠0) (h1:b ≠ -1):wrap64 (a-wrap64 (wrap64 (a.tdiv b)*b))=a.tmod b:=by
 have e:=Int.mul_tdiv_add_tmod a b;have hq:I64 (a.tdiv b):=by
  by_cases h2:b=1
  ·rw [h2,Int.tdiv_one];exact ha
  ·have e2:(a.tdiv b).natAbs=a.natAbs / b.natAbs:=Int.natAbs_tdiv a b
   have:=Nat.div_le_div_left (a:=a.natAbs) (show 2<=b.natAbs by omega) (by omega);unfold I64 at *;omega
 rw [w64_in hq];have hm:(a.tmod b).natAbs<=a.natAbs:=by
  rw [Int.natAbs_tmod];exact Nat.mod_le _ _
 have aY:a.tdiv b*b=a-a.tmod b:=(by rw [Int.mul_comm];omega);have hs:0<=a->0<=a.tmod b:=fun h=>Int.tmod_nonneg b h;have kI:a<=0->a.tmod b<=0:=fun h=>by
  have:=Int.tmod_nonneg b (a := -a) (by omega);rw [Int.neg_tmod] at this;omega
 have hp:I64 (a.tdiv b*b):=by
  rw [aY];unfold I64 at *;by_cases h:0<=a
  ·have:=hs h;omega
  ·have:=kI (by omega);omega
 rw [w64_in hp,aY,show a-(a-a.tmod b)=a.tmod b by omega];refine w64_in ?_;unfold I64 at *;omega
theorem refApply_any (k a b:Int) (w:World) (ha:I64 a) (hb:I64 b):Calls Tryz.prog 78 #[.int .i64 k,.int .i64 a,.int .i64 b] w fun e w'=>e=.returned (.int .i64 (apT k a b))/\w'=w:=by
 by_cases h1:k=1
 ·subst h1
  go_enter Tryz.func78,Tryz.ntmps78;go_wp2
  all_goals go_ret
  all_goals refine ⟨zBY ?_,rfl⟩
  all_goals (simp [apT,tr]<;>(first | omega | simp_all))
 by_cases h2:k=2
 ·subst h2
  go_enter Tryz.func78,Tryz.ntmps78;go_wp2
  all_goals go_ret
  all_goals refine ⟨zBY ?_,rfl⟩
  all_goals (simp [apT,tr]<;>(first | omega | simp_all))
 by_cases h3:k=3
 ·subst h3
  go_enter Tryz.func78,Tryz.ntmps78;go_wp2
  all_goals go_ret
  all_goals refine ⟨zBY ?_,rfl⟩
  all_goals (simp [apT,tr]<;>(first | omega | simp_all))
 by_cases h4:k=4
 ·subst h4
  by_cases h0:b=0
  ·subst h0
   go_enter Tryz.func78,Tryz.ntmps78;go_wp2
   all_goals go_ret
   all_goals refine ⟨zBY ?_,rfl⟩
   all_goals (simp [apT])
  have g0:(b==0)=false:=(by simpa using h0);by_cases h1:b = -1
  ·subst h1
   have e1:a.tdiv (-1) = -a:=(by rw [Int.tdiv_neg,Int.tdiv_one]);have e2:a.tmod (-1)=0:=(by rw [Int.tmod_neg,Int.tmod_one]);go_enter Tryz.func78,Tryz.ntmps78;go_wp2
   all_goals go_ret
   all_goals refine ⟨zBY ?_,rfl⟩
   all_goals (simp [apT,e1,e2])
  have g1:(b == -1)=false:=(by simpa using h1);go_enter Tryz.func78,Tryz.ntmps78;go_wp2
  all_goals go_ret
  all_goals refine ⟨zBY ?_,rfl⟩
  all_goals (simp [apT,h0])
 by_cases h5:k=5
 ·subst h5
  by_cases h0:b=0
  ·subst h0
   go_enter Tryz.func78,Tryz.ntmps78;go_wp2
   all_goals go_ret
   all_goals refine ⟨zBY ?_,rfl⟩
   all_goals (simp [apT])
  have g0:(b==0)=false:=(by simpa using h0);by_cases h1:b = -1
  ·subst h1
   have e1:a.tdiv (-1) = -a:=(by rw [Int.tdiv_neg,Int.tdiv_one]);have e2:a.tmod (-1)=0:=(by rw [Int.tmod_neg,Int.tmod_one]);go_enter Tryz.func78,Tryz.ntmps78;go_wp2
   all_goals go_ret
   all_goals refine ⟨zBY ?_,rfl⟩
   all_goals (simp [apT,e1,e2])
  have g1:(b == -1)=false:=(by simpa using h1);have et:=tmod_eq ha hb h0 h1;go_enter Tryz.func78,Tryz.ntmps78;go_wp2
  all_goals go_ret
  all_goals refine ⟨zBY ?_,rfl⟩
  all_goals (simp [apT,h0,et])
 by_cases h6:k=6
 ·subst h6
  go_enter Tryz.func78,Tryz.ntmps78;go_wp2
  all_goals go_ret
  all_goals refine ⟨zBY ?_,rfl⟩
  all_goals (simp [apT,tr]<;>(first | omega | simp_all))
 by_cases h7:k=7
 ·subst h7
  go_enter Tryz.func78,Tryz.ntmps78;go_wp2
  all_goals go_ret
  all_goals refine ⟨zBY ?_,rfl⟩
  all_goals (simp [apT,tr]<;>(first | omega | simp_all))
 by_cases h8:k=8
 ·subst h8
  go_enter Tryz.func78,Tryz.ntmps78;go_wp2
  all_goals go_ret
  all_goals refine ⟨zBY ?_,rfl⟩
  all_goals (simp [apT,tr]<;>(first | omega | simp_all))
 by_cases h9:k=9
 ·subst h9
  go_enter Tryz.func78,Tryz.ntmps78;go_wp2
  all_goals go_ret
  all_goals refine ⟨zBY ?_,rfl⟩
  all_goals (simp [apT,tr]<;>(first | omega | simp_all))
 by_cases h10:k=10
 ·subst h10
  by_cases ew:a=0
  ·have g0:(a==0)=true:=by simpa using ew
   have g1:(a != 0)=false:=(by simpa using ew);by_cases cz:b=0
   ·have g2:(b==0)=true:=by simpa using cz
    have g3:(b != 0)=false:=(by simpa using cz);have e:apT 10 a b=0:=(by simp [apT,tr,ew,cz]);rw [e];clear ew cz e;go_enter Tryz.func78,Tryz.ntmps78;go_wp2
    all_goals go_ret
    all_goals refine ⟨zBY ?_,rfl⟩
    all_goals (rfl)
   ·have g2:(b==0)=false:=by simpa using cz
    have g3:(b != 0)=true:=(by simpa using cz);have e:apT 10 a b=0:=(by simp [apT,tr,ew,cz]);rw [e];clear ew cz e;go_enter Tryz.func78,Tryz.ntmps78;go_wp2
    all_goals go_ret
    all_goals refine ⟨zBY ?_,rfl⟩
    all_goals (rfl)
  ·have g0:(a==0)=false:=by simpa using ew
   have g1:(a != 0)=true:=(by simpa using ew);by_cases cz:b=0
   ·have g2:(b==0)=true:=by simpa using cz
    have g3:(b != 0)=false:=(by simpa using cz);have e:apT 10 a b=0:=(by simp [apT,tr,ew,cz]);rw [e];clear ew cz e;go_enter Tryz.func78,Tryz.ntmps78;go_wp2
    all_goals go_ret
    all_goals refine ⟨zBY ?_,rfl⟩
    all_goals (rfl)
   ·have g2:(b==0)=false:=by simpa using cz
    have g3:(b != 0)=true:=(by simpa using cz);have e:apT 10 a b=1:=(by simp [apT,tr,ew,cz]);rw [e];clear ew cz e;go_enter Tryz.func78,Tryz.ntmps78;go_wp2
    all_goals go_ret
    all_goals refine ⟨zBY ?_,rfl⟩
    all_goals (rfl)
 by_cases pL:k=11
 ·subst pL
  by_cases ew:a=0
  ·have g0:(a==0)=true:=by simpa using ew
   have g1:(a != 0)=false:=(by simpa using ew);by_cases cz:b=0
   ·have g2:(b==0)=true:=by simpa using cz
    have g3:(b != 0)=false:=(by simpa using cz);have e:apT 11 a b=0:=(by simp [apT,tr,ew,cz]);rw [e];clear ew cz e;go_enter Tryz.func78,Tryz.ntmps78;go_wp2
    all_goals go_ret
    all_goals refine ⟨zBY ?_,rfl⟩
    all_goals (rfl)
   ·have g2:(b==0)=false:=by simpa using cz
    have g3:(b != 0)=true:=(by simpa using cz);have e:apT 11 a b=1:=(by simp [apT,tr,ew,cz]);rw [e];clear ew cz e;go_enter Tryz.func78,Tryz.ntmps78;go_wp2
    all_goals go_ret
    all_goals refine ⟨zBY ?_,rfl⟩
    all_goals (rfl)
  ·have g0:(a==0)=false:=by simpa using ew
   have g1:(a != 0)=true:=(by simpa using ew);by_cases cz:b=0
   ·have g2:(b==0)=true:=by simpa using cz
    have g3:(b != 0)=false:=(by simpa using cz);have e:apT 11 a b=1:=(by simp [apT,tr,ew,cz]);rw [e];clear ew cz e;go_enter Tryz.func78,Tryz.ntmps78;go_wp2
    all_goals go_ret
    all_goals refine ⟨zBY ?_,rfl⟩
    all_goals (rfl)
   ·have g2:(b==0)=false:=by simpa using cz
    have g3:(b != 0)=true:=(by simpa using cz);have e:apT 11 a b=1:=(by simp [apT,tr,ew,cz]);rw [e];clear ew cz e;go_enter Tryz.func78,Tryz.ntmps78;go_wp2
    all_goals go_ret
    all_goals refine ⟨zBY ?_,rfl⟩
    all_goals (rfl)
 by_cases h12:k=12
 ·subst h12
  by_cases ew:a=0
  ·have g0:(a==0)=true:=by simpa using ew
   have g1:(a != 0)=false:=(by simpa using ew);by_cases cz:b=0
   ·have g2:(b==0)=true:=by simpa using cz
    have g3:(b != 0)=false:=(by simpa using cz);have e:apT 12 a b=0:=(by simp [apT,tr,ew,cz]);rw [e];clear ew cz e;go_enter Tryz.func78,Tryz.ntmps78;go_wp2
    all_goals go_ret
    all_goals refine ⟨zBY ?_,rfl⟩
    all_goals (rfl)
   ·have g2:(b==0)=false:=by simpa using cz
    have g3:(b != 0)=true:=(by simpa using cz);have e:apT 12 a b=1:=(by simp [apT,tr,ew,cz]);rw [e];clear ew cz e;go_enter Tryz.func78,Tryz.ntmps78;go_wp2
    all_goals go_ret
    all_goals refine ⟨zBY ?_,rfl⟩
    all_goals (rfl)
  ·have g0:(a==0)=false:=by simpa using ew
   have g1:(a != 0)=true:=(by simpa using ew);by_cases cz:b=0
   ·have g2:(b==0)=true:=by simpa using cz
    have g3:(b != 0)=false:=(by simpa using cz);have e:apT 12 a b=1:=(by simp [apT,tr,ew,cz]);rw [e];clear ew cz e;go_enter Tryz.func78,Tryz.ntmps78;go_wp2
    all_goals go_ret
    all_goals refine ⟨zBY ?_,rfl⟩
    all_goals (rfl)
   ·have g2:(b==0)=false:=by simpa using cz
    have g3:(b != 0)=true:=(by simpa using cz);have e:apT 12 a b=0:=(by simp [apT,tr,ew,cz]);rw [e];clear ew cz e;go_enter Tryz.func78,Tryz.ntmps78;go_wp2
    all_goals go_ret
    all_goals refine ⟨zBY ?_,rfl⟩
    all_goals (rfl)
 by_cases jJ:k=13
 ·subst jJ
  go_enter Tryz.func78,Tryz.ntmps78;go_wp2
  all_goals go_ret
  all_goals refine ⟨zBY ?_,rfl⟩
  all_goals (simp [apT,tr]<;>(first | omega | simp_all))
 by_cases mX:k=14
 ·subst mX
  by_cases ew:a=0
  ·have g0:(a==0)=true:=by simpa using ew
   have g1:(a != 0)=false:=(by simpa using ew);by_cases cz:b=0
   ·have g2:(b==0)=true:=by simpa using cz
    have g3:(b != 0)=false:=(by simpa using cz);have e:apT 14 a b=1:=(by simp [apT,tr,ew,cz]);rw [e];clear ew cz e;go_enter Tryz.func78,Tryz.ntmps78;go_wp2
    all_goals go_ret
    all_goals refine ⟨zBY ?_,rfl⟩
    all_goals (rfl)
   ·have g2:(b==0)=false:=by simpa using cz
    have g3:(b != 0)=true:=(by simpa using cz);have e:apT 14 a b=1:=(by simp [apT,tr,ew,cz]);rw [e];clear ew cz e;go_enter Tryz.func78,Tryz.ntmps78;go_wp2
    all_goals go_ret
    all_goals refine ⟨zBY ?_,rfl⟩
    all_goals (rfl)
  ·have g0:(a==0)=false:=by simpa using ew
   have g1:(a != 0)=true:=(by simpa using ew);by_cases cz:b=0
   ·have g2:(b==0)=true:=by simpa using cz
    have g3:(b != 0)=false:=(by simpa using cz);have e:apT 14 a b=0:=(by simp [apT,tr,ew,cz]);rw [e];clear ew cz e;go_enter Tryz.func78,Tryz.ntmps78;go_wp2
    all_goals go_ret
    all_goals refine ⟨zBY ?_,rfl⟩
    all_goals (rfl)
   ·have g2:(b==0)=false:=by simpa using cz
    have g3:(b != 0)=true:=(by simpa using cz);have e:apT 14 a b=0:=(by simp [apT,tr,ew,cz]);rw [e];clear ew cz e;go_enter Tryz.func78,Tryz.ntmps78;go_wp2
    all_goals go_ret
    all_goals refine ⟨zBY ?_,rfl⟩
    all_goals (rfl)
 have hz:apT k a b=0:=(by unfold apT;simp [h1,h2,h3,h4,h5,h6,h7,h8,h9,h10,pL,h12,jJ,mX]);rw [hz];have q1:(k==1)=false:=(by simpa using h1);have q2:(k==2)=false:=(by simpa using h2);have q3:(k==3)=false:=(by simpa using h3);have q4:(k==4)=false:=(by simpa using h4);have q5:(k==5)=false:=(by simpa using h5);have q6:(k==6)=false:=(by simpa using h6);have q7:(k==7)=false:=(by simpa using h7);have q8:(k==8)=false:=(by simpa using h8);have q9:(k==9)=false:=(by simpa using h9);have RF:(k==10)=false:=(by simpa using h10);have RG:(k==11)=false:=(by simpa using pL);have RH:(k==12)=false:=(by simpa using h12);have RI:(k==13)=false:=(by simpa using jJ);have RJ:(k==14)=false:=(by simpa using mX);go_enter Tryz.func78,Tryz.ntmps78;go_wp2;go_ret;exact ⟨rfl,rfl⟩
end Go.Proofs.YtfhghlpfeeiaeaaGreatDoor
