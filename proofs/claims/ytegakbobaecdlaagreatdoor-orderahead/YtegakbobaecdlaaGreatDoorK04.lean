import Derived.Test.YtegakbobaecdlaaGreatDoorK03
import Derived.WalkKit
import Derived.WalkSpells
import Derived.IntWalk
import Derived.Lib.Hide
import Derived.Shelf.Lay
import Derived.Shelf.Sort.Plain
import Derived.Shelf.Slices.CompactI
import Derived.Shelf.Slices.In.SortNone
import Derived.Ground.NamesProg
set_option linter.unusedVariables false
set_option linter.unusedSimpArgs false
set_option maxHeartbeats 64000000
set_option maxRecDepth 100000
namespace Go.Proofs.YtegakbobaecdlaaGreatDoor
open Go.RowKit Go.IntWalk
namespace Sk
structure Vr where
 elem:Int
 n:Int
deriving DecidableEq
def arr (v:Vr):Bool:=decide (0<v.n)
def sc (e:Int):Vr:=⟨e,0⟩
def same (a b:Vr):Bool:=(a.elem==b.elem)&&(a.n==b.n)
def arrOf (v c:Vr):Bool:=arr v&&same (sc v.elem) c
def truth (n:Int):Bool:=(n==0) || (n==1)
def when (b:Bool) (e:Int):Int:=if b=true then e else 0
end Sk
abbrev vv (v:Sk.Vr):Value:=.agg #[.int .u8 v.elem,.int .i64 v.n]
theorem xN (v:Sk.Vr) (w:World):Calls Tryz.prog 150 #[vv v] w fun e w'=>e=.returned (.bool (Sk.arr v))/\Below w.heap.size w w':=by
 have bA:Below w.heap.size w (w.alloc (.cells #[.int .u8 v.elem,.int .i64 v.n] 55 (0,0))):=(Below.refl _ _).alloc zM _;unfold Sk.arr;go_enter Tryz.func150,Tryz.ntmps150;go_wp2;go_ret;exact ⟨rfl,bA⟩
theorem xM (e:Int) (w:World):Calls Tryz.prog 144 #[.int .u8 e] w fun r w'=>r=.returned (vv (Sk.sc e))/\Below w.heap.size w w':=by
 go_enter Tryz.func144,Tryz.ntmps144;go_wp2;exact bodyPost_ret (v:=.agg #[.int .u8 e,.int .i64 0]) (by simp [results,Tryz.results144,go_sem]) rfl ⟨rfl,by
  repeat (first | exact Below.refl _ _ | refine Below.setCell ?_ (by simp) _ | refine Below.alloc ?_ (by simp) _)⟩
theorem zD {P:Program} {ops:Array Oper} {Q:Exit->Act->World->Prop} {md:Region.Mode} {S:World->Prop} {late:Nat->Bool} {i:Nat} {oi:Oper} {fuel:Nat} {listed:Array Bool} {a:Act} {w:World} (hi:ops[i]?=some oi)
  (hs:Region.noSelect ops=true) (hf:Region.free md ops listed i=true) (hr:(Region.ready md ops listed).contains i=true) (hl:waitFor md ops late listed i=true)
  (hQ:∀ c a w,Q (.panic c) (a.put oi.dst undef) w->Q (.panic c) a w) (hS:S w) (hw:Region.wanted oi (yielded ops a.tmps)=false)
  (h:wpAnyL P md ops Q S late fuel (listed.setIfInBounds i true) (a.put oi.dst undef) w):wpAnyL P md ops Q S late (fuel+1) listed a w:=
 jE hi (Region.noSelect_spec hs) hQ fuel listed a w (Region.free_spec hi hf) (jD hl) (by simpa using hr) (.inr ⟨hw,rfl⟩) hS h
theorem qW (v:Sk.Vr) (w:World):Calls Tryz.prog 151 #[vv v] w fun r w'=>r=.returned (vv (Sk.sc v.elem))/\Below w.heap.size w w':=by
 have bA:Below w.heap.size w ((w.alloc (.cells #[.int .u8 v.elem,.int .i64 v.n] 55 (0,0))).alloc (.cells #[.int .u8 0,.int .i64 0] 55 (0,0))):=((Below.refl _ _).alloc zM _).alloc (by simp) _;have kZ:((w.alloc (.cells #[.int .u8 v.elem,.int .i64 v.n] 55 (0,0))).alloc (.cells #[.int .u8 0,.int .i64 0] 55 (0,0))).heap[w.heap.size+1]?=some (.cells #[.int .u8 0,.int .i64 0] 55 (0,0)):=by
  have:=zI (w.alloc (.cells #[.int .u8 v.elem,.int .i64 v.n] 55 (0,0))) (.cells #[.int .u8 0,.int .i64 0] 55 (0,0))
  simpa using this
 go_enter Tryz.func151,Tryz.ntmps151;go_wp2_with fail;refine (xM v.elem _).mono ?_;rintro r w1 ⟨rfl,b1⟩;generalize (w.alloc (.cells #[.int .u8 v.elem,.int .i64 v.n] 55 (0,0))).alloc (.cells #[.int .u8 0,.int .i64 0] 55 (0,0))=W at bA kZ b1;have B1:=bA.trans (b1.mono bA.size);have k1:=(b1.block _ (zG kZ)).trans kZ;have st0:=coQ k1 0;have st1:=coQ k1 1;have fr0:=foQ k1 0;have fr1:=foQ k1 1;simp at st0 st1;have KR:=zJ (zJ k1 0 (.int .u8 v.elem)) 1 (.int .i64 0);have r0:=coQ KR 0;have r1:=coQ KR 1;simp at r0 r1;have BR:=(B1.setCell (p:=⟨w.heap.size+1,0,none⟩) (by simp) (.int .u8 v.elem)).setCell (p:=⟨w.heap.size+1,1,none⟩) (by simp) (.int .i64 0);clear KR;unfold vv Sk.sc;go_wp2;exact bodyPost_ret (v:=.agg #[.int .u8 v.elem,.int .i64 0]) (by simp [results,Tryz.results151,go_sem,r0,r1]) rfl ⟨rfl,BR⟩
theorem isTruthS_any (n:Int) (w:World):Calls Tryz.prog 145 #[.int .i64 n] w fun e w'=>e=.returned (.bool (Sk.truth n))/\w'=w:=by
 unfold Sk.truth;by_cases h:n=0
 ·subst h
  go_enter Tryz.func145,Tryz.ntmps145;go_wp2;go_ret;exact ⟨rfl,rfl⟩
 ·have h2:(n==0)=false:=by simpa using h
  go_enter Tryz.func145,Tryz.ntmps145;go_wp2;go_ret;exact ⟨by rw [h2];rfl,rfl⟩
theorem whenS_any (b:Bool) (e:Int) (w:World):Calls Tryz.prog 162 #[.bool b,.int .u8 e] w fun r w'=>r=.returned (.int .u8 (Sk.when b e))/\w'=w:=by
 unfold Sk.when
 cases b
 ·go_enter Tryz.func162,Tryz.ntmps162
  go_wp2;go_ret;exact ⟨rfl,rfl⟩
 ·go_enter Tryz.func162,Tryz.ntmps162
  go_wp2;go_ret;exact ⟨rfl,rfl⟩
theorem xG (v c:Sk.Vr) (w:World):Calls Tryz.prog 148 #[vv v,vv c] w fun e w'=>e=.returned (.bool (Sk.arrOf v c))/\Below w.heap.size w w':=by
 have b1:Below w.heap.size w ((w.alloc (.cells #[.int .u8 v.elem,.int .i64 v.n] 55 (0,0))).alloc (.cells #[.int .u8 c.elem,.int .i64 c.n] 55 (0,0))):=((Below.refl _ _).alloc zM _).alloc (by simp) _;have kA:((w.alloc (.cells #[.int .u8 v.elem,.int .i64 v.n] 55 (0,0))).alloc (.cells #[.int .u8 c.elem,.int .i64 c.n] 55 (0,0))).heap[w.heap.size]?=some (.cells #[.int .u8 v.elem,.int .i64 v.n] 55 (0,0)):=(Below.heap_alloc _ _ _ (by simp)).trans (zI w _);have kB:((w.alloc (.cells #[.int .u8 v.elem,.int .i64 v.n] 55 (0,0))).alloc (.cells #[.int .u8 c.elem,.int .i64 c.n] 55 (0,0))).heap[w.heap.size+1]?=some (.cells #[.int .u8 c.elem,.int .i64 c.n] 55 (0,0)):=by
  have:=zI (w.alloc (.cells #[.int .u8 v.elem,.int .i64 v.n] 55 (0,0))) (.cells #[.int .u8 c.elem,.int .i64 c.n] 55 (0,0))
  simpa using this
 obtain ⟨R,hR⟩:=nmQ (Sk.arrOf v c);rw [<-hR];unfold Sk.arrOf at hR;have hc:=xN v;generalize Sk.arr v=q at hc hR;obtain ⟨q2,hq2⟩:=nmQ (Sk.same (Sk.sc v.elem) c);rw [<-hq2] at hR;have HQ2:=zE hq2;have HR:=zE hR;clear hR hq2;go_enter Tryz.func148,Tryz.ntmps148;go_upto_region 1 with fail;generalize (w.alloc (.cells #[.int .u8 v.elem,.int .i64 v.n] 55 (0,0))).alloc (.cells #[.int .u8 c.elem,.int .i64 c.n] 55 (0,0))=w1 at b1 kA kB ⊢;have a0:=coQ kA 0;have a1:=coQ kA 1;simp at a0 a1;have yA:=zG kA;have c0:=coQ kB 0;have c1:=coQ kB 1;simp at c0 c1;have yB:=zG kB;refine zK (fun w'=>Below w1.heap.size w1 w') (fun _=>false) (by kernel_rfl) ?_;have hH0:Below w1.heap.size w1 w1.drew:=(Below.refl _ _).drew;generalize w1.drew=wd0 at hH0 ⊢;refine' tkQ 0 5 hH0 ?hyv ?o1
 case hyv=>
  intro wz hSw;have zc0:=(hSw.cell (p:=⟨w.heap.size,0,none⟩) yA).trans a0;have zc1:=(hSw.cell (p:=⟨w.heap.size,1,none⟩) yA).trans a1;have zc2:=(hSw.cell (p:=⟨w.heap.size+1,0,none⟩) yB).trans c0;have zc3:=(hSw.cell (p:=⟨w.heap.size+1,1,none⟩) yB).trans c1;go_simp
  try rfl
 try simp only [Act.put,sT,sZ,sS]
 refine tnQ 1 (fun K hK=>?_);go_simp;refine (hc wd0).mono ?_;rintro eq wd1 ⟨rfl,bq1⟩;have hH1:Below w1.heap.size w1 wd1:=hH0.trans (bq1.mono hH0.size);refine hK.out _ _ (fun _=>hH1) ?_;clear hK K
 try simp only [Act.put,sT,sZ,sS]
 refine' tkR 2 7 hH1 ?o2
 cases q
 case false=>
  refine zD (i:=3) (oi:=⟨some 8,_,_,_,_,_⟩) rfl (by kernel_rfl) (by kernel_rfl) (by kernel_rfl) (by kernel_rfl) (fun _ _ _ h=>h) hH1 (by rfl) ?_
  try simp only [Act.put,sT,sZ,sS]
  refine zD (i:=4) (oi:=⟨some 9,_,_,_,_,_⟩) rfl (by kernel_rfl) (by kernel_rfl) (by kernel_rfl) (by kernel_rfl) (fun _ _ _ h=>h) hH1 (by rfl) ?_
  try simp only [Act.put,sT,sZ,sS]
  refine zD (i:=5) (oi:=⟨some 10,_,_,_,_,_⟩) rfl (by kernel_rfl) (by kernel_rfl) (by kernel_rfl) (by kernel_rfl) (fun _ _ _ h=>h) hH1 (by rfl) ?_
  try simp only [Act.put,sT,sZ,sS]
  refine zD (i:=6) (oi:=⟨some 11,_,_,_,_,_⟩) rfl (by kernel_rfl) (by kernel_rfl) (by kernel_rfl) (by kernel_rfl) (fun _ _ _ h=>h) hH1 (by rfl) ?_
  try simp only [Act.put,sT,sZ,sS]
  refine' tkR 7 12 hH1 ?o3
  refine' tkR 8 4 hH1 ?o4
  refine zH (by kernel_rfl) ?_ _;go_wp2;go_ret;refine ⟨?_,b1.trans (hH1.mono b1.size)⟩;rw [HR.out];rfl
 case true=>
  refine' tkQ 3 8 hH1 ?hyv ?o5
  case hyv=>
   intro wz hSw;have zc0:=(hSw.cell (p:=⟨w.heap.size,0,none⟩) yA).trans a0;have zc1:=(hSw.cell (p:=⟨w.heap.size,1,none⟩) yA).trans a1;have zc2:=(hSw.cell (p:=⟨w.heap.size+1,0,none⟩) yB).trans c0;have zc3:=(hSw.cell (p:=⟨w.heap.size+1,1,none⟩) yB).trans c1;go_simp
   try rfl
  try simp only [Act.put,sT,sZ,sS]
  refine' tkQ 5 10 hH1 ?hyv ?o6
  case hyv=>
   intro wz hSw;have zc0:=(hSw.cell (p:=⟨w.heap.size,0,none⟩) yA).trans a0;have zc1:=(hSw.cell (p:=⟨w.heap.size,1,none⟩) yA).trans a1;have zc2:=(hSw.cell (p:=⟨w.heap.size+1,0,none⟩) yB).trans c0;have zc3:=(hSw.cell (p:=⟨w.heap.size+1,1,none⟩) yB).trans c1;go_simp
   try rfl
  try simp only [Act.put,sT,sZ,sS]
  refine tnQ 4 (fun K hK=>?_);go_simp;refine (qW v wd1).mono ?_;rintro eq wd2 ⟨rfl,bq2⟩;have hH2:Below w1.heap.size w1 wd2:=hH1.trans (bq2.mono hH1.size);refine hK.out _ _ (fun _=>hH2) ?_;clear hK K
  try simp only [Act.put,sT,sZ,sS]
  refine' zO (i:=6) (oi:=⟨some 11,_,_,_,_,_⟩) (v:=.bool q2) rfl (by kernel_rfl) (by kernel_rfl) (by kernel_rfl) (by kernel_rfl) (fun _ _ _ h=>h) hH2 (by rfl) ?hyv ?o7
  case hyv=>
   intro wz hSw;go_simp;rw [HQ2.out];unfold Sk.same;by_cases h1:(Sk.sc v.elem).elem=c.elem<;>by_cases h2:(Sk.sc v.elem).n=c.n<;>simp [h1,h2]
  try simp only [Act.put,sT,sZ,sS]
  refine' tkR 7 12 hH2 ?o8
  refine' tkR 8 4 hH2 ?o9
  refine zH (by kernel_rfl) ?_ _;go_wp2;go_ret;refine ⟨?_,b1.trans (hH2.mono b1.size)⟩;rw [HR.out];rw [Bool.true_and];rfl
end Go.Proofs.YtegakbobaecdlaaGreatDoor
namespace Go.Proofs.YtegakbobaecdlaaGreatDoor
open Go.RowKit Go.IntWalk
theorem zS {B:Nat} {w w':World} (h:Below B w w') (n:Nat):Below B w (w'.drewN n):=⟨h.os,h.tape,h.output,h.size,h.block⟩
namespace Kd
def opsT:List (Int × Int × Int):=[(0,0,0),(105,105,2),(105,105,2),(105,105,2),(105,105,2),(105,105,2),(105,105,2),(105,105,2),(105,98,2),(105,98,2),(98,98,2),(98,98,2),(98,98,2),(105,105,1),(98,98,1)]
def opN (k:Nat):Int × Int × Int:=opsT.getD k (0,0,0)
def opT (k:Int):Int × Int × Int:=if k<0\/15<=k then (0,0,0) else opN k.toNat
def folds (k:Int):Bool:=decide ((opT k).2.2=2)&&decide ((opT k).1=(opT k).2.1)
end Kd
def GlobK (w:World):Prop:=1<w.heap.size/\∀ k,k<15->w.cell? ⟨1,k*3,none⟩=some (.int .u8 (Kd.opN k).1)/\w.cell? ⟨1,k*3+1,none⟩=some (.int .u8 (Kd.opN k).2.1)/\w.cell? ⟨1,k*3+2,none⟩=some (.int .i64 (Kd.opN k).2.2)
theorem GlobK.under {w w':World} (h:GlobK w) (b:Below w.heap.size w w'):GlobK w':=by
 refine ⟨Nat.lt_of_lt_of_le h.1 b.size,fun k hk=>?_⟩;obtain ⟨h0,h1,h2⟩:=h.2 k hk;exact ⟨(b.cell (p:=⟨1,k*3,none⟩) h.1).trans h0,(b.cell (p:=⟨1,k*3+1,none⟩) h.1).trans h1,(b.cell (p:=⟨1,k*3+2,none⟩) h.1).trans h2⟩
theorem jK (k:Int) (w:World) (hG:GlobK w) :
  Calls Tryz.prog 156 #[.int .i64 k] w fun r w'=>r=.returned (.tuple #[.int .u8 (Kd.opT k).1,.int .u8 (Kd.opT k).2.1,.int .i64 (Kd.opT k).2.2])/\Below w.heap.size w w':=by
 unfold Kd.opT;by_cases h1:k<0
 ·rw [if_pos (.inl h1)]
  go_enter Tryz.func156,Tryz.ntmps156;go_wp2;exact bodyPost_ret (v:=.tuple #[.int .u8 0,.int .u8 0,.int .i64 0]) (by simp [results,Tryz.results156,go_sem]) rfl ⟨rfl,Below.refl _ _⟩
 ·by_cases h2:15<=k
  ·rw [if_pos (.inr h2)]
   have h3:(15:Int)<=k:=h2;go_enter Tryz.func156,Tryz.ntmps156;go_wp2;exact bodyPost_ret (v:=.tuple #[.int .u8 0,.int .u8 0,.int .i64 0]) (by simp [results,Tryz.results156,go_sem]) rfl ⟨rfl,Below.refl _ _⟩
  ·rw [if_neg (by omega)]
   obtain ⟨q,rfl⟩:∃ q:Nat,k=(q:Int):=⟨k.toNat,by omega⟩;have hq:q<15:=(by omega);obtain ⟨c0,c1,c2⟩:=hG.2 q hq;rw [Int.toNat_natCast];generalize Kd.opN q=oq at c0 c1 c2 ⊢;obtain ⟨tk,mk,n⟩:=oq
   dsimp only at c0 c1 c2 ⊢
   have bA:Below w.heap.size w (w.alloc (.cells #[.int .u8 tk,.int .u8 mk,.int .i64 n] 176 (0,0))):=(Below.refl _ _).alloc zM _;have kA:=zI w (.cells #[.int .u8 tk,.int .u8 mk,.int .i64 n] 176 (0,0));go_enter Tryz.func156,Tryz.ntmps156;go_upto_region 4 with fail;generalize w.alloc (.cells #[.int .u8 tk,.int .u8 mk,.int .i64 n] 176 (0,0))=w1 at bA kA ⊢;have d0:=coQ kA 0;have d1:=coQ kA 1;have d2:=coQ kA 2;simp at d0 d1 d2;clear c0 c1 c2 kA;go_quiet (fail);go_wp2;exact bodyPost_ret (v:=.tuple #[.int .u8 tk,.int .u8 mk,.int .i64 n]) (by simp [results,Tryz.results156,go_sem]) rfl ⟨rfl,zS bA _⟩
theorem folds_any (k:Int) (w:World) (hG:GlobK w) :
  Calls Tryz.prog 159 #[.int .i64 k] w fun r w'=>r=.returned (.bool (Kd.folds k))/\Below w.heap.size w w':=by
 have hc:=jK k w hG;unfold Kd.folds;generalize Kd.opT k=oq at hc ⊢;obtain ⟨tk,mk,n⟩:=oq
 dsimp only at hc ⊢
 go_enter Tryz.func159,Tryz.ntmps159;go_wp2_with fail;refine hc.mono ?_;rintro r w1 ⟨rfl,b1⟩;by_cases h2:n=2
 ·subst h2
  by_cases he:tk=mk
  ·subst he
   go_wp2;go_ret;exact ⟨by simp,b1⟩
  ·have he2:(tk==mk)=false:=by simpa using he
   go_wp2;go_ret;exact ⟨by simp [he],b1⟩
 ·have h3:(n==2)=false:=by simpa using h2
  go_wp2;go_ret;exact ⟨by simp [h2],b1⟩
end Go.Proofs.YtegakbobaecdlaaGreatDoor
namespace Go.Proofs.YtegakbobaecdlaaGreatDoor
open Go.Shelf Go.RowKit Go.Lib Go.IntWalk Go.Sort
def HInts (ok:Nat->Prop) (w:World) (v:Value) (L:List Int):Prop:=∃ C,Sl ok 1 w v L.length C/\∀ i (h:i<L.length),C i=[.int .i64 L[i]]
theorem HInts.at {ok:Nat->Prop} {w:World} {v:Value} {l:List Int} (h:HInts ok w v l) :
  ∃ ao cap,v=.slice ao l.length cap/\l.length<=cap/\cap<=maxLen/\∀ i (h:i<l.length),∃ b o,ao=some ⟨b,o,none⟩/\b<w.heap.size/\w.cell? ⟨b,o+i,none⟩=some (.int .i64 l[i]):=by
 obtain ⟨C,⟨ao,cap,hv,h1,h2,h3⟩,hC⟩:=h;refine ⟨ao,cap,hv,h1,h2,fun i hi=>?_⟩;obtain ⟨b,o,ha,hob,hb,hc⟩:=h3 (by omega);have:=(hc i hi).2 0 (by decide);rw [hC i hi] at this;exact ⟨b,o,ha,hb,by simpa using this⟩
theorem HInts.keep {ok:Nat->Prop} {w w':World} {v:Value} {l:List Int} (h:HInts ok w v l) (h1:w.heap.size<=w'.heap.size) (h2:∀ i,ok i->i<w.heap.size->w'.heap[i]?=w.heap[i]?):HInts ok w' v l:=by
 obtain ⟨C,h3,h4⟩:=h;exact ⟨C,h3.keep h1 h2,h4⟩
theorem HInts.under {ok:Nat->Prop} {w w':World} {v:Value} {l:List Int} (h:HInts ok w v l) (b:Below w.heap.size w w'):HInts ok w' v l:=h.keep b.size fun i _ hl=>b.block i hl
theorem HInts.wide {ok ok':Nat->Prop} {w:World} {v:Value} {l:List Int} (h:HInts ok w v l) (hk:∀ i,ok i->i<w.heap.size->ok' i):HInts ok' w v l:=by
 obtain ⟨C,h3,h4⟩:=h;exact ⟨C,h3.wide hk,h4⟩
theorem Tryz.infoI:(Tryz.prog.info? 3).map (fun i=>(i.zero,i.size,i.bytes))=some (some (.int .i64 0),1,8):=by kernel_rfl
def kInt:Kind Int where
 ty:=3
 k:=1
 bytes:=8
 zero:=.int .i64 0
 E:=fun _ _ cs x=>cs=[.int .i64 x]
 pos:=by decide
 zs:=rfl
 info:=Tryz.infoI
 len:=by rintro _ _ _ _ rfl;rfl
 one:=by rintro _ _ _ _ rfl;simp;rfl
 keep:=by rintro _ _ _ _ _ rfl _ _;rfl
 wide:=by rintro _ _ _ _ _ rfl _;rfl
theorem zR {ok:Nat->Prop} {w:World} {v:Value} {l:List Int} (h:HRow kInt ok w v l):HInts ok w v l:=h
def ics (l:List Int):List Value:=l.map (Value.int .i64)
theorem xD (l:List Int):(ics l).length=l.length:=by simp [ics]
theorem qM (a b:List Int):ics (a++b)=ics a++ics b:=by simp [ics]
theorem zAQ {l:List Int} {D:Nat->List Value} (hD:∀ j (h:j<l.length),D j=[.int .i64 l[j]]):∀ n,n<=l.length->flat D n=ics (l.take n)
 | 0,_=>by simp [flat,ics]
 | n+1,h=>by
  rw [flat,zAQ hD n (by omega),hD n (by omega),List.take_succ_eq_append_getElem (by omega),qM];rfl
def IBlk (w:World) (g:Nat) (l:List Int) (sp:List Value):Prop:=w.heap[g]?=some (.cells (ics l++sp).toArray 3 (0,0))
theorem IBlk.cell {w:World} {g:Nat} {l:List Int} {sp:List Value} (h:IBlk w g l sp) {i:Nat} (hi:i<l.length):w.cell? ⟨g,i,none⟩=some (.int .i64 l[i]):=by
 have:=coQ h i;rw [this,gT,List.getElem?_append_left (by rw [xD];exact hi)];simp [ics,hi]
theorem vM {B:Nat} {w:World} {v:Value} {l:List Int} (h:OwnL kInt B w v l):w.ownsRow B 3 1 v l.length (ics l):=by
 obtain ⟨D,h1,h2⟩:=h;have e1:=zAQ (l:=l) (D:=D) (fun j hj=>h2 j hj) l.length zM;rw [List.take_length] at e1;rw [<-e1];exact h1
theorem flat_ics (l:List Int):flat (fun j=>[.int .i64 (l[j]!)]) l.length=ics l:=by
 have e1:=zAQ (l:=l) (D:=fun j=>[.int .i64 (l[j]!)]) (fun j hj=>by simp [hj]) l.length zM;rw [List.take_length] at e1;exact e1
theorem rows_own {B:Nat} {w:World} {v:Value} {l:List Int} (h:w.ownsRow B 3 1 v l.length (ics l)):OwnL kInt B w v l:=by
 refine ⟨fun j=>[.int .i64 (l[j]!)],?_,fun j hj=>?_⟩
 ·rw [flat_ics];exact h
 ·show [Value.int .i64 (l[j]!)]=[.int .i64 (l[j])]
  simp [hj]
theorem vP {B:Nat} {w:World} {v:Value} {l:List Int} (h:OwnL kInt B w v l) :
  (v=.slice none 0 0/\l=[])\/∃ g c sp,v=.slice (some ⟨g,0,none⟩) l.length c/\B<=g/\IBlk w g l sp/\l.length<=c/\c<=maxLen/\l.length+sp.length=c:=by
 have h1:=vM h;rcases h1.2 with ⟨hv,h0⟩ | ⟨g,cap,cur,hv,hb,hg,hnc,hcm,hcs,htake⟩
 ·exact .inl ⟨hv,List.eq_nil_of_length_eq_zero h0⟩
 ·have e2:cur=(ics l++cur.toList.drop l.length).toArray:=by
   have:cur.toList=ics l++cur.toList.drop l.length:=by
    have ht:cur.toList.take l.length=ics l:=(by simpa using htake);rw [<-ht,List.take_append_drop]
   rw [<-this]
  refine .inr ⟨g,cap,cur.toList.drop l.length,hv,hb,?_,hnc,hcm,?_⟩
  ·unfold IBlk
   rw [<-e2];exact hg
  ·have hcs2:cur.size=cap:=by simpa using hcs
   simp;omega
theorem qX {B g c:Nat} {w:World} {l:List Int} {sp:List Value} (h:IBlk w g l sp) (hB:B<=g) (hc:l.length<=c) (hm:c<=maxLen) (hs:l.length+sp.length=c):OwnL kInt B w (.slice (some ⟨g,0,none⟩) l.length c) l:=by
 refine rows_own ⟨by rw [xD];omega,.inr ⟨g,c,_,rfl,hB,h,hc,hm,?_,?_⟩⟩
 ·show (ics l++sp).toArray.size=c*1
  simp [xD];omega
 ·show (ics l++sp).toArray.toList.take (l.length*1)=ics l
  rw [List.toList_toArray,Nat.mul_one,<-xD l,List.take_left]
theorem IBlk.holds {w:World} {g:Nat} {l:List Int} {sp:List Value} (h:IBlk w g l sp):Holds (Value.int .i64) w g 0 l.toArray:=by
 intro j hj;have hj2:j<l.length:=(by simpa using hj);rw [Nat.zero_add];refine ⟨?_,foQ h j⟩;rw [h.cell hj2];simp [hj2]
theorem HInts.news {ok:Nat->Prop} {w:World} {a:Addr} {cap:Nat} {l:List Int} (h:HInts ok w (.slice (some a) l.length cap) l):∀ j u,(ics l)[j]?=some u->w.cell? (a.add j)=some u:=by
 obtain ⟨ao,cap',ev,_,_,hat⟩:=h.at;injection ev with ev1 _ _;subst ev1;intro j u hj;have hjl:j<l.length:=by
  rcases Nat.lt_or_ge j l.length with h | h
  ·exact h
  ·rw [List.getElem?_eq_none (by rw [xD];exact h)] at hj;cases hj
 obtain ⟨b,o,e,hb,c0⟩:=hat j hjl;injection e with e;subst e;have adds:(⟨b,o,none⟩:Addr).add j=⟨b,o+j,none⟩:=by unfold Addr.add;split<;>simp_all
 rw [adds,c0,<-hj];simp [ics,hjl]
theorem ics_one (l:List Int):∀ u ∈ ics l,u.oneCell'=true:=by
 intro u hu;simp [ics] at hu;obtain ⟨x,_,rfl⟩:=hu;rfl
theorem run_cat {ok:Nat->Prop} {B:Nat} {w:World} {v u:Value} {l m:List Int} {ty:TypeId} (hown:OwnL kInt B w v l) (hm:HInts ok w u m) (hB:B<=w.heap.size) (hlen:l.length+m.length<=3000000) :
  ∃ v' w',(Builtin.append_ #[23,23] ty #[v,u]).run Tryz.prog w=.ok v' w'/\OwnL kInt B w' v' (l++m)/\Below B w w'/\w.grownBy w' v.ownBlock:=by
 obtain ⟨i0,hi,hz0,hz1,hz2⟩:=info_parts kInt.info;obtain ⟨ao,cap,rfl,hc1,hc2,hat⟩:=hm.at
 cases ao with
 | none=>
  cases m with
  | nil=>
   rw [List.length_nil,List.append_nil];have hr:(Builtin.append_ #[23,23] ty #[v,.slice none 0 cap]).run Tryz.prog w=.ok v w:=by
    have hi':Tryz.prog.info? 3=some i0:=hi;rcases (vM hown).2 with ⟨rfl,h0⟩ | ⟨g,c,cur,rfl,_,_,hnc,_⟩
    ·simp [Builtin.append_,run_underlying Tryz.underlying23,sizeOf,typeInfo,hi',Builtin.lenOf,Builtin.firstCells]
    ·simp [Builtin.append_,run_underlying Tryz.underlying23,sizeOf,typeInfo,hi',Builtin.lenOf,Builtin.firstCells,hnc,storeCells]
   exact ⟨v,w,hr,hown,Below.refl _ _,⟨rfl,rfl,rfl,Nat.le_refl _,fun _ _ _=>rfl⟩⟩
  | cons t m'=>
   obtain ⟨b,o,e,_⟩:=hat 0 (by simp)
   cases e
 | some a=>
  obtain ⟨v',w',hr,h2,h3,h4⟩:=vX (P:=Tryz.prog) w B 23 ty 3 i0 kInt.zero 1 8 Tryz.underlying23 hi hz0 hz1 hz2 rfl (by decide) v l.length _ (vM hown) a m.length cap (ics m) (by rw [xD];omega) hm.news (ics_one m) (by unfold maxLen;omega) (by omega) hB;refine ⟨v',w',hr,rows_own ?_,Below.push (Below.refl B w) hB (vM hown) h3,h3⟩;rw [List.length_append,qM];exact h2
shelf_lay Lays.n189 Nm 189 at Tryz as lay16
shelf_lay Lays2.n20 Nm2 20 at Tryz as lay17
end Go.Proofs.YtegakbobaecdlaaGreatDoor
