import Derived.Test.YtophfbefnaelfaaGreatDoorF11
import Derived.Test.YtophfbefnaelfaaGreatDoorF05
set_option linter.unusedVariables false
set_option linter.unusedSimpArgs false
set_option maxHeartbeats 64000000
set_option maxRecDepth 100000
namespace Go.Proofs.YtophfbefnaelfaaGreatDoor
open Go.RowKit Go.IntWalk
theorem product_any {b g cap:Nat} {I:Inp} {op:Nat} {R:Nat→Res Ex} (HR:Does 175 b g cap I op exV R):Does 174 b g cap I op exV (Ps.fromLeft I R 3 5):=by
 intro nx w h hG;have hb:=h.bb;have hg:=h.gb;have hmf:=makes;go_enter Tryz.func174,Tryz.ntmps174;go_wp2_with fail;refine (fromLeft_any (a:=3) (c:=5) HR enter119 (h.alloc _) (hG.alloc _)).mono ?_;rintro e w1 ⟨a1,hres⟩;have z1:w.heap.size+1≤w1.heap.size:=(by simpa using a1.size);have hA1:=a1.keep (heap_new w _) (by simp) (by simp;omega);have A1:=((Aside.refl (S:=[b]) (B:=w.heap.size) w).alloc nR _).trans a1 (by simp)
 cases ht:Ps.fromLeft I R 3 5 nx with
 | err c0 a0=>
  rw [ht] at hres;obtain rfl:e=_:=hres;exact ⟨rfl,Post.fail rfl A1⟩
 | ok e0 n1=>
  rw [ht] at hres;obtain ⟨le1,h1,_,rfl,y,rfl,he1⟩:=hres;have HT:=hide ht;clear ht;have fa:=fun o=>fo hA1 o;have ca0:=co hA1 0;have ca1:=co hA1 1;have ca2:=co hA1 2;have ca3:=co hA1 3;have ca4:=co hA1 4;have ca5:=co hA1 5;simp at ca0 ca1 ca2 ca3 ca4 ca5;have he2:=he1.wide (ok':=fun i=>w.heap.size<i) (fun i hi hl=>by simp at hi;omega);go_wp2;refine bodyPost_ret (v:=.agg #[.int .i64 y.op,.int .i64 y.k,.int .i64 y.n,.string y.name,.slice y.aS y.nS y.cS,.slice y.aL y.nL y.cL]) (by simp [results,Tryz.results174,go_sem,ca0,ca1,ca2,ca3,ca4,ca5]) rfl ?_;exact Post.good HT.out (A1.put6 (k:=w.heap.size) nR y) le1 (h1.put6 (k:=w.heap.size) (by omega) (by omega) y) ⟨y,rfl,(he2.put6 (k:=w.heap.size) (by simp) y).wide (fun i hi _=>Nat.le_of_lt hi)⟩
theorem sum_any {b g cap:Nat} {I:Inp} {op:Nat} {R:Nat→Res Ex} (HR:Does 174 b g cap I op exV R):Does 173 b g cap I op exV (Ps.fromLeft I R 1 2):=by
 intro nx w h hG;have hb:=h.bb;have hg:=h.gb;have hmf:=makes;go_enter Tryz.func173,Tryz.ntmps173;go_wp2_with fail;refine (fromLeft_any (a:=1) (c:=2) HR enter118 (h.alloc _) (hG.alloc _)).mono ?_;rintro e w1 ⟨a1,hres⟩;have z1:w.heap.size+1≤w1.heap.size:=(by simpa using a1.size);have hA1:=a1.keep (heap_new w _) (by simp) (by simp;omega);have A1:=((Aside.refl (S:=[b]) (B:=w.heap.size) w).alloc nR _).trans a1 (by simp)
 cases ht:Ps.fromLeft I R 1 2 nx with
 | err c0 a0=>
  rw [ht] at hres;obtain rfl:e=_:=hres;exact ⟨rfl,Post.fail rfl A1⟩
 | ok e0 n1=>
  rw [ht] at hres;obtain ⟨le1,h1,_,rfl,y,rfl,he1⟩:=hres;have HT:=hide ht;clear ht;have fa:=fun o=>fo hA1 o;have ca0:=co hA1 0;have ca1:=co hA1 1;have ca2:=co hA1 2;have ca3:=co hA1 3;have ca4:=co hA1 4;have ca5:=co hA1 5;simp at ca0 ca1 ca2 ca3 ca4 ca5;have he2:=he1.wide (ok':=fun i=>w.heap.size<i) (fun i hi hl=>by simp at hi;omega);go_wp2;refine bodyPost_ret (v:=.agg #[.int .i64 y.op,.int .i64 y.k,.int .i64 y.n,.string y.name,.slice y.aS y.nS y.cS,.slice y.aL y.nL y.cL]) (by simp [results,Tryz.results173,go_sem,ca0,ca1,ca2,ca3,ca4,ca5]) rfl ?_;exact Post.good HT.out (A1.put6 (k:=w.heap.size) nR y) le1 (h1.put6 (k:=w.heap.size) (by omega) (by omega) y) ⟨y,rfl,(he2.put6 (k:=w.heap.size) (by simp) y).wide (fun i hi _=>Nat.le_of_lt hi)⟩
theorem conj_any {b g cap:Nat} {I:Inp} {op:Nat} {R:Nat→Res Ex} (HR:Does 171 b g cap I op exV R):Does 168 b g cap I op exV (Ps.fromLeft I R 10 10):=by
 intro nx w h hG;have hb:=h.bb;have hg:=h.gb;have hmf:=makes;go_enter Tryz.func168,Tryz.ntmps168;go_wp2_with fail;refine (fromLeft_any (a:=10) (c:=10) HR enter115 (h.alloc _) (hG.alloc _)).mono ?_;rintro e w1 ⟨a1,hres⟩;have z1:w.heap.size+1≤w1.heap.size:=(by simpa using a1.size);have hA1:=a1.keep (heap_new w _) (by simp) (by simp;omega);have A1:=((Aside.refl (S:=[b]) (B:=w.heap.size) w).alloc nR _).trans a1 (by simp)
 cases ht:Ps.fromLeft I R 10 10 nx with
 | err c0 a0=>
  rw [ht] at hres;obtain rfl:e=_:=hres;exact ⟨rfl,Post.fail rfl A1⟩
 | ok e0 n1=>
  rw [ht] at hres;obtain ⟨le1,h1,_,rfl,y,rfl,he1⟩:=hres;have HT:=hide ht;clear ht;have fa:=fun o=>fo hA1 o;have ca0:=co hA1 0;have ca1:=co hA1 1;have ca2:=co hA1 2;have ca3:=co hA1 3;have ca4:=co hA1 4;have ca5:=co hA1 5;simp at ca0 ca1 ca2 ca3 ca4 ca5;have he2:=he1.wide (ok':=fun i=>w.heap.size<i) (fun i hi hl=>by simp at hi;omega);go_wp2;refine bodyPost_ret (v:=.agg #[.int .i64 y.op,.int .i64 y.k,.int .i64 y.n,.string y.name,.slice y.aS y.nS y.cS,.slice y.aL y.nL y.cL]) (by simp [results,Tryz.results168,go_sem,ca0,ca1,ca2,ca3,ca4,ca5]) rfl ?_;exact Post.good HT.out (A1.put6 (k:=w.heap.size) nR y) le1 (h1.put6 (k:=w.heap.size) (by omega) (by omega) y) ⟨y,rfl,(he2.put6 (k:=w.heap.size) (by simp) y).wide (fun i hi _=>Nat.le_of_lt hi)⟩
theorem expr_any {b g cap:Nat} {I:Inp} {op:Nat} {R:Nat→Res Ex} (HR:Does 168 b g cap I op exV R):Does 164 b g cap I op exV (Ps.fromLeft I R 11 12):=by
 intro nx w h hG;have hb:=h.bb;have hg:=h.gb;have hmf:=makes;go_enter Tryz.func164,Tryz.ntmps164;go_wp2_with fail;refine (fromLeft_any (a:=11) (c:=12) HR enter112 (h.alloc _) (hG.alloc _)).mono ?_;rintro e w1 ⟨a1,hres⟩;have z1:w.heap.size+1≤w1.heap.size:=(by simpa using a1.size);have hA1:=a1.keep (heap_new w _) (by simp) (by simp;omega);have A1:=((Aside.refl (S:=[b]) (B:=w.heap.size) w).alloc nR _).trans a1 (by simp)
 cases ht:Ps.fromLeft I R 11 12 nx with
 | err c0 a0=>
  rw [ht] at hres;obtain rfl:e=_:=hres;exact ⟨rfl,Post.fail rfl A1⟩
 | ok e0 n1=>
  rw [ht] at hres;obtain ⟨le1,h1,_,rfl,y,rfl,he1⟩:=hres;have HT:=hide ht;clear ht;have fa:=fun o=>fo hA1 o;have ca0:=co hA1 0;have ca1:=co hA1 1;have ca2:=co hA1 2;have ca3:=co hA1 3;have ca4:=co hA1 4;have ca5:=co hA1 5;simp at ca0 ca1 ca2 ca3 ca4 ca5;have he2:=he1.wide (ok':=fun i=>w.heap.size<i) (fun i hi hl=>by simp at hi;omega);go_wp2;refine bodyPost_ret (v:=.agg #[.int .i64 y.op,.int .i64 y.k,.int .i64 y.n,.string y.name,.slice y.aS y.nS y.cS,.slice y.aL y.nL y.cL]) (by simp [results,Tryz.results164,go_sem,ca0,ca1,ca2,ca3,ca4,ca5]) rfl ?_;exact Post.good HT.out (A1.put6 (k:=w.heap.size) nR y) le1 (h1.put6 (k:=w.heap.size) (by omega) (by omega) y) ⟨y,rfl,(he2.put6 (k:=w.heap.size) (by simp) y).wide (fun i hi _=>Nat.le_of_lt hi)⟩
theorem cmp_any {b g cap:Nat} {I:Inp} {op:Nat} {R:Nat→Res Ex} (HR:Does 173 b g cap I op exV R):Does 171 b g cap I op exV (Ps.cmp I R):=by
 intro nx w h hG;have hb:=h.bb;have hg:=h.gb;go_enter Tryz.func171,Tryz.ntmps171;go_wp2_with fail;refine (HR _ _ (h.alloc _) (hG.alloc _)).mono ?_;rintro e w1 ⟨a1,hres⟩;have z1:w.heap.size+1≤w1.heap.size:=(by simpa using a1.size);have hA1:=a1.keep (heap_new w _) (by simp) (by simp;omega);have A1:=((Aside.refl (S:=[b]) (B:=w.heap.size) w).alloc nR _).trans a1 (by simp);clear a1
 cases ht:R nx with
 | err c0 a0=>
  rw [ht] at hres;obtain rfl:e=_:=hres;exact ⟨rfl,Post.fail (by unfold Ps.cmp;rw [ht];rfl) A1⟩
 | ok e0 n1=>
  rw [ht] at hres;obtain ⟨le1,h1,_,rfl,y,rfl,he1⟩:=hres;have hmod:Hid (Ps.cmp I R nx=if btw 8 9 (I.pk n1).text=0 then .ok e0 n1 else (R (n1+1)).bind fun r n2=>.ok (.mk 5 (btw 8 9 (I.pk n1).text) 0 ⟨#[]⟩ [] [e0,r]) n2):=by
   show Ps.cmp I R nx=_
   unfold Ps.cmp;rw [ht];rfl
  clear ht;have he:=(he1.wide (ok':=fun i=>w.heap.size<i∧i≠w1.heap.size) (fun i hi hl=>⟨by simp at hi;omega,by omega⟩)).under ((Below.refl _ w1).alloc nR (.cells #[.int .i64 y.op,.int .i64 y.k,.int .i64 y.n,.string y.name,.slice y.aS y.nS y.cS,.slice y.aL y.nL y.cL] 88 (0,0)));have hrd:=h1.alloc (.cells #[.int .i64 y.op,.int .i64 y.k,.int .i64 y.n,.string y.name,.slice y.aS y.nS y.cS,.slice y.aL y.nL y.cL] 88 (0,0));have has:=A1.alloc (by omega) (.cells #[.int .i64 y.op,.int .i64 y.k,.int .i64 y.n,.string y.name,.slice y.aS y.nS y.cS,.slice y.aL y.nL y.cL] 88 (0,0));have hA:=kA hA1 (.cells #[.int .i64 y.op,.int .i64 y.k,.int .i64 y.n,.string y.name,.slice y.aS y.nS y.cS,.slice y.aL y.nL y.cL] 88 (0,0));have hB:=heap_new w1 (.cells #[.int .i64 y.op,.int .i64 y.k,.int .i64 y.n,.string y.name,.slice y.aS y.nS y.cS,.slice y.aL y.nL y.cL] 88 (0,0));have zz:(w1.alloc (.cells #[.int .i64 y.op,.int .i64 y.k,.int .i64 y.n,.string y.name,.slice y.aS y.nS y.cS,.slice y.aL y.nL y.cL] 88 (0,0))).heap.size=w1.heap.size+1:=(by simp);clear h1 A1 hA1 he1;go_wp2_with fail;generalize w1.alloc (.cells #[.int .i64 y.op,.int .i64 y.k,.int .i64 y.n,.string y.name,.slice y.aS y.nS y.cS,.slice y.aL y.nL y.cL] 88 (0,0))=wr at he hrd has hA hB zz ⊢;refine (betweenI hrd 8 9).mono ?_;rintro r w2 ⟨rfl,b2⟩;obtain ⟨kk,hkk⟩:=nmQ (btw 8 9 (I.pk n1).text);rw [←hkk];have HK:=hide hkk;have z2:=b2.size;have hA2:=(aside b2 (S:=[])).keep hA (lt_of hA) (by simp);have hB2:=(aside b2 (S:=[])).keep hB (lt_of hB) (by simp);have he2:=he.under b2;have h2:=hrd.below b2;have A2:=has.trans (aside b2) has.size;clear hkk hA hB he hrd has b2;by_cases hz:kk=0
  ·have HST:Hid (Ps.cmp I R nx=.ok e0 n1):=by
    show Ps.cmp I R nx=_
    rw [hmod.out,←HK.out,if_pos hz]
   subst hz;have cb0:=co hB2 0;have cb1:=co hB2 1;have cb2:=co hB2 2;have cb3:=co hB2 3;have cb4:=co hB2 4;have cb5:=co hB2 5;simp at cb0 cb1 cb2 cb3 cb4 cb5;have fa:=fun o=>fo hA2 o;have ca0:=co hA2 0;have ca1:=co hA2 1;have ca2:=co hA2 2;have ca3:=co hA2 3;have ca4:=co hA2 4;have ca5:=co hA2 5;simp at ca0 ca1 ca2 ca3 ca4 ca5;go_wp2;refine bodyPost_ret (v:=.agg #[.int .i64 y.op,.int .i64 y.k,.int .i64 y.n,.string y.name,.slice y.aS y.nS y.cS,.slice y.aL y.nL y.cL]) (by simp [results,Tryz.results171,go_sem,ca0,ca1,ca2,ca3,ca4,ca5]) rfl ?_;exact Post.good HST.out (A2.put6 (k:=w.heap.size) nR y) le1 (h2.put6 (k:=w.heap.size) (by omega) (by omega) y) ⟨y,rfl,(he2.put6 (k:=w.heap.size) (by simp) y).wide (fun i hi _=>Nat.le_of_lt hi.1)⟩
  ·have hkf:(kk==0)=false:=beq_eq_false_iff_ne.2 hz
   have hlt:n1<I.L.length:=btw_lt (a:=8) (c:=9) (by rw [←HK.out];exact hz);have hst:Hid (Ps.cmp I R nx=(R (n1+1)).bind fun r n2=>.ok (.mk 5 kk 0 ⟨#[]⟩ [] [e0,r]) n2):=by
    show Ps.cmp I R nx=_
    rw [hmod.out,←HK.out,if_neg hz]
   clear hmod;go_wp2_with fail;refine (step_any h2 hlt).mono ?_;rintro r w3 ⟨rfl,h3,a3⟩;have hA3:=a3.keep hA2 (lt_of hA2) (by simp;omega);have hB3:=a3.keep hB2 (lt_of hB2) (by simp;omega);have he3:=he2.past a3 (fun i hi=>by simp;omega);have A3:=A2.trans a3 (by omega);have z3:=a3.size;clear hA2 hB2 he2 h2 A2 a3;go_wp2_with fail;have hd3:Rd w3.drew b g cap I.L I.len (n1+1) op:=h3.drew;have hA4:w3.drew.heap[w.heap.size]?=some (.cells #[.int .i64 0,.int .i64 0,.int .i64 0,.string ⟨#[]⟩,.slice none 0 0,.slice none 0 0] 88 (0,0)):=hA3;have hB4:w3.drew.heap[w1.heap.size]?=some (.cells #[.int .i64 y.op,.int .i64 y.k,.int .i64 y.n,.string y.name,.slice y.aS y.nS y.cS,.slice y.aL y.nL y.cL] 88 (0,0)):=hB3;have he4:HEx (fun i=>w.heap.size<i∧i≠w1.heap.size) w3.drew y.cells e0:=he3.under (Below.refl _ w3).drew;have A4:=A3.drew;have z4:w3.drew.heap.size=w3.heap.size:=rfl;refine wp_region_late (fun w'=>w'.cell? ⟨w1.heap.size,0,none⟩=some (.int .i64 y.op)∧w'.cell? ⟨w1.heap.size,1,none⟩=some (.int .i64 y.k)∧w'.cell? ⟨w1.heap.size,2,none⟩=some (.int .i64 y.n)∧w'.cell? ⟨w1.heap.size,3,none⟩=some (.string y.name)∧w'.cell? ⟨w1.heap.size,4,none⟩=some (.slice y.aS y.nS y.cS)∧w'.cell? ⟨w1.heap.size,5,none⟩=some (.slice y.aL y.nL y.cL)) (fun j=>decide (j=5)) (by kernel_rfl) ?_;generalize w3.drew=wd at hd3 hA4 hB4 he4 A4 z4 ⊢;clear h3 hA3 hB3 he3 A3;have cb0:=co hB4 0;have cb1:=co hB4 1;have cb2:=co hB4 2;have cb3:=co hB4 3;have cb4:=co hB4 4;have cb5:=co hB4 5;simp at cb0 cb1 cb2 cb3 cb4 cb5;have hH:=And.intro cb0 (And.intro cb1 (And.intro cb2 (And.intro cb3 (And.intro cb4 cb5))));refine' wpAnyL_take (i:=0) (v:=_) rfl (by kernel_rfl) (by kernel_rfl) (by kernel_rfl) (by kernel_rfl) (fun _ _ _ h=>h) hH (by rfl) ?hyv ?o1
   case hyv=>
    intro wz hSw;obtain ⟨c0,c1,c2,c3,c4,c5⟩:=hSw;go_simp
    try rfl
   try simp only [Act.put,sT,sZ,sS]
   refine' wpAnyL_take (i:=1) (v:=_) rfl (by kernel_rfl) (by kernel_rfl) (by kernel_rfl) (by kernel_rfl) (fun _ _ _ h=>h) hH (by rfl) ?hyv ?o2
   case hyv=>
    intro wz hSw;obtain ⟨c0,c1,c2,c3,c4,c5⟩:=hSw;go_simp
    try rfl
   try simp only [Act.put,sT,sZ,sS]
   refine' wpAnyL_take (i:=2) (v:=_) rfl (by kernel_rfl) (by kernel_rfl) (by kernel_rfl) (by kernel_rfl) (fun _ _ _ h=>h) hH (by rfl) ?hyv ?o3
   case hyv=>
    intro wz hSw;obtain ⟨c0,c1,c2,c3,c4,c5⟩:=hSw;go_simp
    try rfl
   try simp only [Act.put,sT,sZ,sS]
   refine wpAnyL_one (i:=3) rfl (by kernel_rfl) (by rfl) (fun K hK=>?_);go_simp;refine (HR _ _ hd3 (hG.far A4)).mono ?_;rintro r w5 ⟨a5,hres⟩;have A5:=A4.trans a5 A4.size;have z5:=a5.size;have hA5:=a5.keep hA4 (by omega) (by simp;omega);have hB5:=a5.keep hB4 (by omega) (by simp;omega);have he5:=he4.past a5 (fun i hi=>by simp;omega);clear hA4 hB4 he4 A4 a5 hd3 hH cb0 cb1 cb2 cb3 cb4 cb5
   cases ht:R (n1+1) with
   | err c0 a0=>
    rw [ht] at hres;obtain rfl:r=_:=hres;exact ⟨rfl,Post.fail (by rw [hst.out,ht];rfl) A5⟩
   | ok e6 n6=>
    rw [ht] at hres;obtain ⟨le5,h5,_,rfl,x6,rfl,he6⟩:=hres;have hmod:Hid (Ps.cmp I R nx=.ok (.mk 5 kk 0 ⟨#[]⟩ [] [e0,e6]) n6):=by
     show Ps.cmp I R nx=_
     rw [hst.out,ht];rfl
    clear hst ht;have he7:=he6.wide (ok':=fun i=>w.heap.size<i∧i≠w1.heap.size) (fun i hi _=>by omega);have cb0:=co hB5 0;have cb1:=co hB5 1;have cb2:=co hB5 2;have cb3:=co hB5 3;have cb4:=co hB5 4;have cb5:=co hB5 5;simp at cb0 cb1 cb2 cb3 cb4 cb5;have hH:=And.intro cb0 (And.intro cb1 (And.intro cb2 (And.intro cb3 (And.intro cb4 cb5))));refine hK.out _ _ (fun _=>hH) ?_;clear hK K
    try simp only [Act.put,sT,sZ,sS]
    refine wpAnyL_one (i:=4) rfl (by kernel_rfl) (by rfl) (fun K hK=>?_);go_simp;refine (pair_any kk he5 he7 (fun i hi=>by omega)).mono ?_;rintro r w8 ⟨z,rfl,hez,b8⟩;have z8:=b8.size;have A8:=A5.trans (aside b8) A5.size;have hA8:=(aside b8 (S:=[])).keep hA5 (lt_of hA5) (by simp);have hB8:=(aside b8 (S:=[])).keep hB5 (lt_of hB5) (by simp);have h8:=h5.below b8;clear hA5 hB5 he5 he6 he7 A5 b8 h5 hH cb0 cb1 cb2 cb3 cb4 cb5;have cb0:=co hB8 0;have cb1:=co hB8 1;have cb2:=co hB8 2;have cb3:=co hB8 3;have cb4:=co hB8 4;have cb5:=co hB8 5;simp at cb0 cb1 cb2 cb3 cb4 cb5;have hH:=And.intro cb0 (And.intro cb1 (And.intro cb2 (And.intro cb3 (And.intro cb4 cb5))));have fA:=fun o=>fo hA8 o;have ca0:=co hA8 0;have ca1:=co hA8 1;have ca2:=co hA8 2;have ca3:=co hA8 3;have ca4:=co hA8 4;have ca5:=co hA8 5;simp at ca0 ca1 ca2 ca3 ca4 ca5;refine hK.out _ _ (fun _=>hH) ?_;clear hK K
    try simp only [Act.put,sT,sZ,sS]
    refine wpAnyL_one (i:=5) rfl (by kernel_rfl) (by rfl) (fun K hK=>?_);go_simp;refine hK.out _ _ (fun h=>by cases h) ?_;clear hK K
    try simp only [Act.put,sT,sZ,sS]
    refine wpAnyL_done (by kernel_rfl) ?_ _;go_wp2_with fail;refine bodyPost_ret (v:=.agg #[.int .i64 z.op,.int .i64 z.k,.int .i64 z.n,.string z.name,.slice z.aS z.nS z.cS,.slice z.aL z.nL z.cL]) (by simp [results,Tryz.results171,go_sem,ca0,ca1,ca2,ca3,ca4,ca5]) rfl ?_;exact Post.good hmod.out (A8.put6 (k:=w.heap.size) nR z) (by omega) (h8.put6 (k:=w.heap.size) (by omega) (by omega) z) ⟨z,rfl,((hez.wide (ok':=fun i=>w.heap.size<i) (fun i hi _=>hi.1)).put6 (k:=w.heap.size) (by simp) z).wide (fun i hi _=>Nat.le_of_lt hi)⟩
theorem exprOf_any {b g cap:Nat} {I:Inp} {op:Nat} {A:Nat→Res Ex} (HA:Does 175 b g cap I op exV A):Does 164 b g cap I op exV (Ps.exprOf I A) :=
 expr_any (conj_any (cmp_any (sum_any (product_any HA))))
end Go.Proofs.YtophfbefnaelfaaGreatDoor
