import Derived.Test.YtkfgbhlpjkkgfaaGreatDoorN34
import Derived.Test.YtkfgbhlpjkkgfaaGreatDoorN04
set_option linter.unusedVariables false
set_option linter.unusedSimpArgs false
set_option maxHeartbeats 64000000
set_option maxRecDepth 100000
namespace Go.Proofs.YtkfgbhlpjkkgfaaGreatDoor
open Go.RowKit Go.IntWalk
theorem product_any {b g cap:Nat} {I:Inp} {op:Nat} {R:Nat→Res Ex} (HR:Does 269 b g cap I op exV R):Does 268 b g cap I op exV (Ps.fromLeft I R 3 5):=by
 intro nx w h hG;have hb:=h.bb;have hg:=h.gb;have hmf:=makes;go_enter Tryz.func268,Tryz.ntmps268;go_wp2_with fail;refine (fromLeft_any (a:=3) (c:=5) HR enter119 (h.alloc _) (hG.alloc _)).mono ?_;rintro e w1 ⟨a1,hres⟩;have z1:w.heap.size+1≤w1.heap.size:=(by simpa using a1.size);have hA1:=a1.keep (heap_new w _) (by simp) (by simp;omega);have A1:=((Aside.refl (S:=[b]) (B:=w.heap.size) w).alloc nR _).trans a1 (by simp)
 cases ht:Ps.fromLeft I R 3 5 nx with
 | err c0 a0=>
  rw [ht] at hres;obtain rfl:e=_:=hres;exact ⟨rfl,Post.fail rfl A1⟩
 | ok e0 n1=>
  rw [ht] at hres;obtain ⟨le1,h1,_,rfl,y,rfl,he1⟩:=hres;have HT:=hide ht;clear ht;have fa:=fun o=>fo hA1 o;have ca0:=co hA1 0;have ca1:=co hA1 1;have ca2:=co hA1 2;have ca3:=co hA1 3;have ca4:=co hA1 4;have ca5:=co hA1 5;simp at ca0 ca1 ca2 ca3 ca4 ca5;have he2:=he1.wide (ok':=fun i=>w.heap.size<i) (fun i hi hl=>by simp at hi;omega);go_wp2;refine bodyPost_ret (v:=.agg #[.int .i64 y.op,.int .i64 y.k,.int .i64 y.n,.string y.name,.slice y.aS y.nS y.cS,.slice y.aL y.nL y.cL]) (by simp [results,Tryz.results268,go_sem,ca0,ca1,ca2,ca3,ca4,ca5]) rfl ?_;exact Post.good HT.out (A1.put6 (k:=w.heap.size) nR y) le1 (h1.put6 (k:=w.heap.size) (by omega) (by omega) y) ⟨y,rfl,(he2.put6 (k:=w.heap.size) (by simp) y).wide (fun i hi _=>Nat.le_of_lt hi)⟩
theorem sum_any {b g cap:Nat} {I:Inp} {op:Nat} {R:Nat→Res Ex} (HR:Does 268 b g cap I op exV R):Does 267 b g cap I op exV (Ps.fromLeft I R 1 2):=by
 intro nx w h hG;have hb:=h.bb;have hg:=h.gb;have hmf:=makes;go_enter Tryz.func267,Tryz.ntmps267;go_wp2_with fail;refine (fromLeft_any (a:=1) (c:=2) HR enter118 (h.alloc _) (hG.alloc _)).mono ?_;rintro e w1 ⟨a1,hres⟩;have z1:w.heap.size+1≤w1.heap.size:=(by simpa using a1.size);have hA1:=a1.keep (heap_new w _) (by simp) (by simp;omega);have A1:=((Aside.refl (S:=[b]) (B:=w.heap.size) w).alloc nR _).trans a1 (by simp)
 cases ht:Ps.fromLeft I R 1 2 nx with
 | err c0 a0=>
  rw [ht] at hres;obtain rfl:e=_:=hres;exact ⟨rfl,Post.fail rfl A1⟩
 | ok e0 n1=>
  rw [ht] at hres;obtain ⟨le1,h1,_,rfl,y,rfl,he1⟩:=hres;have HT:=hide ht;clear ht;have fa:=fun o=>fo hA1 o;have ca0:=co hA1 0;have ca1:=co hA1 1;have ca2:=co hA1 2;have ca3:=co hA1 3;have ca4:=co hA1 4;have ca5:=co hA1 5;simp at ca0 ca1 ca2 ca3 ca4 ca5;have he2:=he1.wide (ok':=fun i=>w.heap.size<i) (fun i hi hl=>by simp at hi;omega);go_wp2;refine bodyPost_ret (v:=.agg #[.int .i64 y.op,.int .i64 y.k,.int .i64 y.n,.string y.name,.slice y.aS y.nS y.cS,.slice y.aL y.nL y.cL]) (by simp [results,Tryz.results267,go_sem,ca0,ca1,ca2,ca3,ca4,ca5]) rfl ?_;exact Post.good HT.out (A1.put6 (k:=w.heap.size) nR y) le1 (h1.put6 (k:=w.heap.size) (by omega) (by omega) y) ⟨y,rfl,(he2.put6 (k:=w.heap.size) (by simp) y).wide (fun i hi _=>Nat.le_of_lt hi)⟩
theorem conj_any {b g cap:Nat} {I:Inp} {op:Nat} {R:Nat→Res Ex} (HR:Does 264 b g cap I op exV R):Does 256 b g cap I op exV (Ps.fromLeft I R 10 10):=by
 intro nx w h hG;have hb:=h.bb;have hg:=h.gb;have hmf:=makes;go_enter Tryz.func256,Tryz.ntmps256;go_wp2_with fail;refine (fromLeft_any (a:=10) (c:=10) HR enter115 (h.alloc _) (hG.alloc _)).mono ?_;rintro e w1 ⟨a1,hres⟩;have z1:w.heap.size+1≤w1.heap.size:=(by simpa using a1.size);have hA1:=a1.keep (heap_new w _) (by simp) (by simp;omega);have A1:=((Aside.refl (S:=[b]) (B:=w.heap.size) w).alloc nR _).trans a1 (by simp)
 cases ht:Ps.fromLeft I R 10 10 nx with
 | err c0 a0=>
  rw [ht] at hres;obtain rfl:e=_:=hres;exact ⟨rfl,Post.fail rfl A1⟩
 | ok e0 n1=>
  rw [ht] at hres;obtain ⟨le1,h1,_,rfl,y,rfl,he1⟩:=hres;have HT:=hide ht;clear ht;have fa:=fun o=>fo hA1 o;have ca0:=co hA1 0;have ca1:=co hA1 1;have ca2:=co hA1 2;have ca3:=co hA1 3;have ca4:=co hA1 4;have ca5:=co hA1 5;simp at ca0 ca1 ca2 ca3 ca4 ca5;have he2:=he1.wide (ok':=fun i=>w.heap.size<i) (fun i hi hl=>by simp at hi;omega);go_wp2;refine bodyPost_ret (v:=.agg #[.int .i64 y.op,.int .i64 y.k,.int .i64 y.n,.string y.name,.slice y.aS y.nS y.cS,.slice y.aL y.nL y.cL]) (by simp [results,Tryz.results256,go_sem,ca0,ca1,ca2,ca3,ca4,ca5]) rfl ?_;exact Post.good HT.out (A1.put6 (k:=w.heap.size) nR y) le1 (h1.put6 (k:=w.heap.size) (by omega) (by omega) y) ⟨y,rfl,(he2.put6 (k:=w.heap.size) (by simp) y).wide (fun i hi _=>Nat.le_of_lt hi)⟩
theorem expr_any {b g cap:Nat} {I:Inp} {op:Nat} {R:Nat→Res Ex} (HR:Does 256 b g cap I op exV R):Does 245 b g cap I op exV (Ps.fromLeft I R 11 12):=by
 intro nx w h hG;have hb:=h.bb;have hg:=h.gb;have hmf:=makes;go_enter Tryz.func245,Tryz.ntmps245;go_wp2_with fail;refine (fromLeft_any (a:=11) (c:=12) HR enter112 (h.alloc _) (hG.alloc _)).mono ?_;rintro e w1 ⟨a1,hres⟩;have z1:w.heap.size+1≤w1.heap.size:=(by simpa using a1.size);have hA1:=a1.keep (heap_new w _) (by simp) (by simp;omega);have A1:=((Aside.refl (S:=[b]) (B:=w.heap.size) w).alloc nR _).trans a1 (by simp)
 cases ht:Ps.fromLeft I R 11 12 nx with
 | err c0 a0=>
  rw [ht] at hres;obtain rfl:e=_:=hres;exact ⟨rfl,Post.fail rfl A1⟩
 | ok e0 n1=>
  rw [ht] at hres;obtain ⟨le1,h1,_,rfl,y,rfl,he1⟩:=hres;have HT:=hide ht;clear ht;have fa:=fun o=>fo hA1 o;have ca0:=co hA1 0;have ca1:=co hA1 1;have ca2:=co hA1 2;have ca3:=co hA1 3;have ca4:=co hA1 4;have ca5:=co hA1 5;simp at ca0 ca1 ca2 ca3 ca4 ca5;have he2:=he1.wide (ok':=fun i=>w.heap.size<i) (fun i hi hl=>by simp at hi;omega);go_wp2;refine bodyPost_ret (v:=.agg #[.int .i64 y.op,.int .i64 y.k,.int .i64 y.n,.string y.name,.slice y.aS y.nS y.cS,.slice y.aL y.nL y.cL]) (by simp [results,Tryz.results245,go_sem,ca0,ca1,ca2,ca3,ca4,ca5]) rfl ?_;exact Post.good HT.out (A1.put6 (k:=w.heap.size) nR y) le1 (h1.put6 (k:=w.heap.size) (by omega) (by omega) y) ⟨y,rfl,(he2.put6 (k:=w.heap.size) (by simp) y).wide (fun i hi _=>Nat.le_of_lt hi)⟩
theorem cmp_any {b g cap:Nat} {I:Inp} {op:Nat} {R:Nat→Res Ex} (HR:Does 267 b g cap I op exV R):Does 264 b g cap I op exV (Ps.cmp I R):=by
 intro nx w h hG;have hb:=h.bb;have hg:=h.gb;go_enter Tryz.func264,Tryz.ntmps264;go_wp2_with fail;refine (HR _ _ (h.alloc _) (hG.alloc _)).mono ?_;rintro e w1 ⟨a1,hres⟩;have z1:w.heap.size+1≤w1.heap.size:=(by simpa using a1.size);have hA1:=a1.keep (heap_new w _) (by simp) (by simp;omega);have A1:=((Aside.refl (S:=[b]) (B:=w.heap.size) w).alloc nR _).trans a1 (by simp);clear a1
 cases ht:R nx with
 | err c0 a0=>
  rw [ht] at hres;obtain rfl:e=_:=hres;exact ⟨rfl,Post.fail (by unfold Ps.cmp;rw [ht];rfl) A1⟩
 | ok e0 n1=>
  rw [ht] at hres;obtain ⟨le1,h1,_,rfl,y,rfl,he1⟩:=hres;have hmod:Hid (Ps.cmp I R nx=if btw 8 9 (I.pk n1).text=0 then .ok e0 n1 else (R (n1+1)).bind fun r n2=>.ok (.mk 5 (btw 8 9 (I.pk n1).text) 0 ⟨#[]⟩ [] [e0,r]) n2):=by
   show Ps.cmp I R nx=_
   unfold Ps.cmp;rw [ht];rfl
  clear ht;have he:=(he1.wide (ok':=fun i=>w.heap.size<i∧i≠w1.heap.size) (fun i hi hl=>⟨by simp at hi;omega,by omega⟩)).under ((Below.refl _ w1).alloc nR (.cells #[.int .i64 y.op,.int .i64 y.k,.int .i64 y.n,.string y.name,.slice y.aS y.nS y.cS,.slice y.aL y.nL y.cL] 54 (0,0)));have hrd:=h1.alloc (.cells #[.int .i64 y.op,.int .i64 y.k,.int .i64 y.n,.string y.name,.slice y.aS y.nS y.cS,.slice y.aL y.nL y.cL] 54 (0,0));have has:=A1.alloc (by omega) (.cells #[.int .i64 y.op,.int .i64 y.k,.int .i64 y.n,.string y.name,.slice y.aS y.nS y.cS,.slice y.aL y.nL y.cL] 54 (0,0));have hA:=kA hA1 (.cells #[.int .i64 y.op,.int .i64 y.k,.int .i64 y.n,.string y.name,.slice y.aS y.nS y.cS,.slice y.aL y.nL y.cL] 54 (0,0));have hB:=heap_new w1 (.cells #[.int .i64 y.op,.int .i64 y.k,.int .i64 y.n,.string y.name,.slice y.aS y.nS y.cS,.slice y.aL y.nL y.cL] 54 (0,0));have zz:(w1.alloc (.cells #[.int .i64 y.op,.int .i64 y.k,.int .i64 y.n,.string y.name,.slice y.aS y.nS y.cS,.slice y.aL y.nL y.cL] 54 (0,0))).heap.size=w1.heap.size+1:=(by simp);clear h1 A1 hA1 he1;go_wp2_with fail;generalize w1.alloc (.cells #[.int .i64 y.op,.int .i64 y.k,.int .i64 y.n,.string y.name,.slice y.aS y.nS y.cS,.slice y.aL y.nL y.cL] 54 (0,0))=wr at he hrd has hA hB zz ⊢;refine (betweenI hrd 8 9).mono ?_;rintro r w2 ⟨rfl,b2⟩;obtain ⟨kk,hkk⟩:=nmQ (btw 8 9 (I.pk n1).text);rw [←hkk];have HK:=hide hkk;have z2:=b2.size;have hA2:=(aside b2 (S:=[])).keep hA (lt_of hA) (by simp);have hB2:=(aside b2 (S:=[])).keep hB (lt_of hB) (by simp);have he2:=he.under b2;have h2:=hrd.below b2;have A2:=has.trans (aside b2) has.size;clear hkk hA hB he hrd has b2;by_cases hz:kk=0
  ·have HST:Hid (Ps.cmp I R nx=.ok e0 n1):=by
    show Ps.cmp I R nx=_
    rw [hmod.out,←HK.out,if_pos hz]
   subst hz;have cb0:=co hB2 0;have cb1:=co hB2 1;have cb2:=co hB2 2;have cb3:=co hB2 3;have cb4:=co hB2 4;have cb5:=co hB2 5;simp at cb0 cb1 cb2 cb3 cb4 cb5;have fa:=fun o=>fo hA2 o;have ca0:=co hA2 0;have ca1:=co hA2 1;have ca2:=co hA2 2;have ca3:=co hA2 3;have ca4:=co hA2 4;have ca5:=co hA2 5;simp at ca0 ca1 ca2 ca3 ca4 ca5;go_wp2;refine bodyPost_ret (v:=.agg #[.int .i64 y.op,.int .i64 y.k,.int .i64 y.n,.string y.name,.slice y.aS y.nS y.cS,.slice y.aL y.nL y.cL]) (by simp [results,Tryz.results264,go_sem,ca0,ca1,ca2,ca3,ca4,ca5]) rfl ?_;exact Post.good HST.out (A2.put6 (k:=w.heap.size) nR y) le1 (h2.put6 (k:=w.heap.size) (by omega) (by omega) y) ⟨y,rfl,(he2.put6 (k:=w.heap.size) (by simp) y).wide (fun i hi _=>Nat.le_of_lt hi.1)⟩
  ·have hkf:(kk==0)=false:=beq_eq_false_iff_ne.2 hz
   have hlt:n1<I.L.length:=btw_lt (a:=8) (c:=9) (by rw [←HK.out];exact hz);have hst:Hid (Ps.cmp I R nx=(R (n1+1)).bind fun r n2=>.ok (.mk 5 kk 0 ⟨#[]⟩ [] [e0,r]) n2):=by
    show Ps.cmp I R nx=_
    rw [hmod.out,←HK.out,if_neg hz]
   clear hmod;go_wp2_with fail;refine (step_any h2 hlt).mono ?_;rintro r w3 ⟨rfl,h3,a3⟩;have hA3:=a3.keep hA2 (lt_of hA2) (by simp;omega);have hB3:=a3.keep hB2 (lt_of hB2) (by simp;omega);have he3:=he2.past a3 (fun i hi=>by simp;omega);have A3:=A2.trans a3 (by omega);have z3:=a3.size;clear hA2 hB2 he2 h2 A2 a3;go_wp2_with fail;have hd3:Rd w3.drew b g cap I.L I.len (n1+1) op:=h3.drew;have hA4:w3.drew.heap[w.heap.size]?=some (.cells #[.int .i64 0,.int .i64 0,.int .i64 0,.string ⟨#[]⟩,.slice none 0 0,.slice none 0 0] 54 (0,0)):=hA3;have hB4:w3.drew.heap[w1.heap.size]?=some (.cells #[.int .i64 y.op,.int .i64 y.k,.int .i64 y.n,.string y.name,.slice y.aS y.nS y.cS,.slice y.aL y.nL y.cL] 54 (0,0)):=hB3;have he4:HEx (fun i=>w.heap.size<i∧i≠w1.heap.size) w3.drew y.cells e0:=he3.under (Below.refl _ w3).drew;have A4:=A3.drew;have z4:w3.drew.heap.size=w3.heap.size:=rfl;refine wp_region_late (fun w'=>w'.cell? ⟨w1.heap.size,0,none⟩=some (.int .i64 y.op)∧w'.cell? ⟨w1.heap.size,1,none⟩=some (.int .i64 y.k)∧w'.cell? ⟨w1.heap.size,2,none⟩=some (.int .i64 y.n)∧w'.cell? ⟨w1.heap.size,3,none⟩=some (.string y.name)∧w'.cell? ⟨w1.heap.size,4,none⟩=some (.slice y.aS y.nS y.cS)∧w'.cell? ⟨w1.heap.size,5,none⟩=some (.slice y.aL y.nL y.cL)) (fun j=>decide (j=5)) (by kernel_rfl) ?_;generalize w3.drew=wd at hd3 hA4 hB4 he4 A4 z4 ⊢;clear h3 hA3 hB3 he3 A3;have cb0:=co hB4 0;have cb1:=co hB4 1;have cb2:=co hB4 2;have cb3:=co hB4 3;have cb4:=co hB4 4;have cb5:=co hB4 5;simp at cb0 cb1 cb2 cb3 cb4 cb5;have hH:=And.intro cb0 (And.intro cb1 (And.intro cb2 (And.intro cb3 (And.intro cb4 cb5))));refine' wpAnyL_take (i:=0) (v:=_) rfl (by kernel_rfl) (by kernel_rfl) (by kernel_rfl) (by kernel_rfl) (fun _ _ _ h=>h) hH (by rfl) ?hyv ?o1
   case hyv=>
    intro wz hSw;obtain ⟨c0,c1,c2,c3,c4,c5⟩:=hSw;go_simp
    try rfl
   try simp only [Act.put,sT,sZ,sS]
   refine' wpAnyL_take (i:=1) (v:=_) rfl (by kernel_rfl) (by kernel_rfl) (by kernel_rfl) (by kernel_rfl) (fun _ _ _ h=>h) hH (by rfl) ?hyv ?o2
   case hyv=>
    intro wz hSw;obtain ⟨c0,c1,c2,c3,c4,c5⟩:=hSw;go_simp
    try rfl
   try simp only [Act.put,sT,sZ,sS]
   refine' wpAnyL_take (i:=2) (v:=_) rfl (by kernel_rfl) (by kernel_rfl) (by kernel_rfl) (by kernel_rfl) (fun _ _ _ h=>h) hH (by rfl) ?hyv ?o3
   case hyv=>
    intro wz hSw;obtain ⟨c0,c1,c2,c3,c4,c5⟩:=hSw;go_simp
    try rfl
   try simp only [Act.put,sT,sZ,sS]
   refine wpAnyL_one (i:=3) rfl (by kernel_rfl) (by rfl) (fun K hK=>?_);go_simp;refine (HR _ _ hd3 (hG.far A4)).mono ?_;rintro r w5 ⟨a5,hres⟩;have A5:=A4.trans a5 A4.size;have z5:=a5.size;have hA5:=a5.keep hA4 (by omega) (by simp;omega);have hB5:=a5.keep hB4 (by omega) (by simp;omega);have he5:=he4.past a5 (fun i hi=>by simp;omega);clear hA4 hB4 he4 A4 a5 hd3 hH cb0 cb1 cb2 cb3 cb4 cb5
   cases ht:R (n1+1) with
   | err c0 a0=>
    rw [ht] at hres;obtain rfl:r=_:=hres;exact ⟨rfl,Post.fail (by rw [hst.out,ht];rfl) A5⟩
   | ok e6 n6=>
    rw [ht] at hres;obtain ⟨le5,h5,_,rfl,x6,rfl,he6⟩:=hres;have hmod:Hid (Ps.cmp I R nx=.ok (.mk 5 kk 0 ⟨#[]⟩ [] [e0,e6]) n6):=by
     show Ps.cmp I R nx=_
     rw [hst.out,ht];rfl
    clear hst ht;have he7:=he6.wide (ok':=fun i=>w.heap.size<i∧i≠w1.heap.size) (fun i hi _=>by omega);have cb0:=co hB5 0;have cb1:=co hB5 1;have cb2:=co hB5 2;have cb3:=co hB5 3;have cb4:=co hB5 4;have cb5:=co hB5 5;simp at cb0 cb1 cb2 cb3 cb4 cb5;have hH:=And.intro cb0 (And.intro cb1 (And.intro cb2 (And.intro cb3 (And.intro cb4 cb5))));refine hK.out _ _ (fun _=>hH) ?_;clear hK K
    try simp only [Act.put,sT,sZ,sS]
    refine wpAnyL_one (i:=4) rfl (by kernel_rfl) (by rfl) (fun K hK=>?_);go_simp;refine (pair_any kk he5 he7 (fun i hi=>by omega)).mono ?_;rintro r w8 ⟨z,rfl,hez,b8⟩;have z8:=b8.size;have A8:=A5.trans (aside b8) A5.size;have hA8:=(aside b8 (S:=[])).keep hA5 (lt_of hA5) (by simp);have hB8:=(aside b8 (S:=[])).keep hB5 (lt_of hB5) (by simp);have h8:=h5.below b8;clear hA5 hB5 he5 he6 he7 A5 b8 h5 hH cb0 cb1 cb2 cb3 cb4 cb5;have cb0:=co hB8 0;have cb1:=co hB8 1;have cb2:=co hB8 2;have cb3:=co hB8 3;have cb4:=co hB8 4;have cb5:=co hB8 5;simp at cb0 cb1 cb2 cb3 cb4 cb5;have hH:=And.intro cb0 (And.intro cb1 (And.intro cb2 (And.intro cb3 (And.intro cb4 cb5))));have fA:=fun o=>fo hA8 o;have ca0:=co hA8 0;have ca1:=co hA8 1;have ca2:=co hA8 2;have ca3:=co hA8 3;have ca4:=co hA8 4;have ca5:=co hA8 5;simp at ca0 ca1 ca2 ca3 ca4 ca5;refine hK.out _ _ (fun _=>hH) ?_;clear hK K
    try simp only [Act.put,sT,sZ,sS]
    refine wpAnyL_one (i:=5) rfl (by kernel_rfl) (by rfl) (fun K hK=>?_);go_simp;refine hK.out _ _ (fun h=>by cases h) ?_;clear hK K
    try simp only [Act.put,sT,sZ,sS]
    refine wpAnyL_done (by kernel_rfl) ?_ _;go_wp2_with fail;refine bodyPost_ret (v:=.agg #[.int .i64 z.op,.int .i64 z.k,.int .i64 z.n,.string z.name,.slice z.aS z.nS z.cS,.slice z.aL z.nL z.cL]) (by simp [results,Tryz.results264,go_sem,ca0,ca1,ca2,ca3,ca4,ca5]) rfl ?_;exact Post.good hmod.out (A8.put6 (k:=w.heap.size) nR z) (by omega) (h8.put6 (k:=w.heap.size) (by omega) (by omega) z) ⟨z,rfl,((hez.wide (ok':=fun i=>w.heap.size<i) (fun i hi _=>hi.1)).put6 (k:=w.heap.size) (by simp) z).wide (fun i hi _=>Nat.le_of_lt hi)⟩
theorem exprOf_any {b g cap:Nat} {I:Inp} {op:Nat} {A:Nat→Res Ex} (HA:Does 269 b g cap I op exV A):Does 245 b g cap I op exV (Ps.exprOf I A) :=
 expr_any (conj_any (cmp_any (sum_any (product_any HA))))
theorem Rd.opens {w:World} {b g cap:Nat} {L:List Tk.Tok} {len nx op:Nat} (h:Rd w b g cap L len nx op) (o2:Nat) (v:Int) (hv:v=(o2:Nat)):Rd (w.setCell ⟨b,3,none⟩ (.int .i64 v)) b g cap L len nx o2:=by
 subst hv;refine ⟨?_,h.toks.keep (Below.heap_setCell _ _ _ _ (fun e=>h.apart e.symm)),h.apart,by simpa [World.setCell] using h.gb,h.le,h.lc,h.cm⟩;simp [World.setCell,Array.getElem?_modify,h.here]
theorem Rd.free {w:World} {b g cap:Nat} {L:List Tk.Tok} {len nx op:Nat} (h:Rd w b g cap L len nx op) (o:Nat):w.frozen? ⟨b,o,none⟩=false:=fo h.here o
theorem opened_deep {w:World} {b g cap:Nat} {I:Inp} {nx op:Nat} (h:Rd w b g cap I.L I.len nx op) (hop:60≤op) (fv:Value) :
  Calls Tryz.prog 273 #[.pointer (some ⟨b,0,none⟩),fv] w fun e w'=>e=upE 6 (I.pk nx).place∧Aside [b] w.heap.size w w':=by
 have hb:=h.bb;have hp:=@peek_any _ _ _ _ _ _ _ _ (h.alloc (.cells #[.int .i64 0,.int .i64 0,.int .i64 0,.string ⟨#[]⟩,.slice none 0 0,.slice none 0 0] 54 (0,0)));unfold Inp.pk;obtain ⟨t,ht⟩:=nmQ (peekT I.L I.len nx);rw [←ht] at hp ⊢;unfold tokV at hp;clear ht;have hf:=fun x w=>tokF1 t x w;obtain ⟨c0,c1,c2,c3,_⟩:=(h.alloc (.cells #[.int .i64 0,.int .i64 0,.int .i64 0,.string ⟨#[]⟩,.slice none 0 0,.slice none 0 0] 54 (0,0))).cells;have hd:decide ((60:Int)≤op)=true:=(by simp;omega);go_enter Tryz.func273,Tryz.ntmps273;go_wp2_with fail;refine hp.mono ?_;rintro e w1 ⟨rfl,b1⟩;go_wp2_with fail;refine (giveUp_any _ _ _).mono ?_;rintro e w2 ⟨rfl,rfl⟩;exact ⟨rfl,rfl,((Aside.refl w).alloc nR _).trans (aside b1) (by simp)⟩
def exO (ok0:Nat→Prop):Nat→World→Value→Ex→Prop:=fun B w x e=>∃ y:ExV,x=.agg #[.int .i64 y.op,.int .i64 y.k,.int .i64 y.n,.string y.name,.slice y.aS y.nS y.cS,.slice y.aL y.nL y.cL]∧HEx (fun i=>ok0 i∨B≤i) w y.cells e
theorem exO_of {B:Nat} {w:World} {x:Value} {e:Ex} (ok0:Nat→Prop) (h:exV B w x e):exO ok0 B w x e:=by
 obtain ⟨y,hx,he⟩:=h;exact ⟨y,hx,he.wide fun i hi _=>.inr hi⟩
theorem exV_of {B:Nat} {w:World} {x:Value} {e:Ex} (h:exO (fun _=>False) B w x e):exV B w x e:=by
 obtain ⟨y,hx,he⟩:=h;exact ⟨y,hx,he.wide fun i hi _=>hi.elim False.elim id⟩
theorem Post.mono {α:Type} {b g cap:Nat} {I:Inp} {op:Nat} {V V':Nat→World→Value→α→Prop} {nx:Nat} {w:World} {res:Res α} {r:Ending} {w':World} (hV:∀ B w x v,V B w x v→V' B w x v) (h:Post b g cap I op V nx w res r w'):Post b g cap I op V' nx w res r w':=by
 obtain ⟨h1,h2⟩:=h;refine ⟨h1,?_⟩
 cases res with
 | ok v n=>obtain ⟨a,b,x,c,d⟩:=h2;exact ⟨a,b,x,c,hV _ _ _ _ d⟩
 | err c a=>exact h2
theorem opened_any {ok0:Nat→Prop} {w:World} {b g cap:Nat} {I:Inp} {nx op F:Nat} {first caps:Array Value} {R0:Res Ex} (h:Rd w b g cap I.L I.len nx op) (hok:∀ i,ok0 i→i<w.heap.size∧i≠b) (hop:op<60) (hlt:nx<I.L.length) (hent:∀ args w,(callFunc F args).run Tryz.prog w=.ok (.enter F args) w)
  (HF:∀ w',Rd w' b g cap I.L I.len (nx+1) (op+1)→Aside [b] w.heap.size w w'→Calls Tryz.prog F (first++caps) w' (Post b g cap I (op+1) (exO ok0) (nx+1) w' R0)) :
  Calls Tryz.prog 273 #[.pointer (some ⟨b,0,none⟩),.func (.func F) first caps] w (Post b g cap I op (exO ok0) (nx+1) w R0):=by
 have hb:=h.bb;have hg:=h.gb;have h0:=h.alloc (.cells #[.int .i64 0,.int .i64 0,.int .i64 0,.string ⟨#[]⟩,.slice none 0 0,.slice none 0 0] 54 (0,0));have A0:=(Aside.refl (S:=[b]) (B:=w.heap.size) w).alloc nR (.cells #[.int .i64 0,.int .i64 0,.int .i64 0,.string ⟨#[]⟩,.slice none 0 0,.slice none 0 0] 54 (0,0));have hN0:=heap_new w (.cells #[.int .i64 0,.int .i64 0,.int .i64 0,.string ⟨#[]⟩,.slice none 0 0,.slice none 0 0] 54 (0,0));have zN:(w.alloc (.cells #[.int .i64 0,.int .i64 0,.int .i64 0,.string ⟨#[]⟩,.slice none 0 0,.slice none 0 0] 54 (0,0))).heap.size=w.heap.size+1:=(by simp);have hd:decide ((60:Int)≤op)=false:=(by simp;omega);go_enter Tryz.func273,Tryz.ntmps273;go_upto_region 1 with fail;generalize w.alloc (.cells #[.int .i64 0,.int .i64 0,.int .i64 0,.string ⟨#[]⟩,.slice none 0 0,.slice none 0 0] 54 (0,0))=W at h0 A0 hN0 zN ⊢;obtain ⟨c0,c1,c2,c3,_⟩:=h0.cells;have fb:=h0.free 3;have h1:=h0.opens (op+1) ((op:Int)+1) (by omega);have A1:Aside [b] w.heap.size w (W.setCell ⟨b,3,none⟩ (.int .i64 ((op:Int)+1))):=A0.trans (Aside.setCell (by simp) _) A0.size;have hN1:=keep_set hN0 (p:=⟨b,3,none⟩) (by simp;omega) (.int .i64 ((op:Int)+1));have z1:(W.setCell ⟨b,3,none⟩ (.int .i64 ((op:Int)+1))).heap.size=W.heap.size:=(by simp [World.setCell]);go_wp2_with fail;generalize W.setCell ⟨b,3,none⟩ (.int .i64 ((op:Int)+1))=W1 at h1 A1 hN1 z1 ⊢;clear c0 c1 c2 c3 fb h0 A0 hN0;refine (step_any h1 hlt).mono ?_;rintro e w2 ⟨rfl,h2,a2⟩;have z2:=a2.size;have A2:=A1.trans a2 A1.size;have hN2:=a2.keep hN1 (by omega) (by simp;omega);clear a2 A1 hN1 h1;go_wp2_with fail;refine (HF w2 h2 A2).mono ?_;rintro e w3 ⟨a3,hres⟩;have z3:=a3.size;have A3:=A2.trans a3 A2.size;have hN3:=a3.keep hN2 (by omega) (by simp;omega);clear a3 A2 hN2 h2 HF
 cases R0 with
 | err c0 a0=>
  obtain rfl:e=_:=hres;exact ⟨rfl,Post.fail rfl A3⟩
 | ok e0 n1=>
  obtain ⟨le3,h3,_,rfl,y,rfl,he3⟩:=hres;have he4:=(he3.wide (ok':=fun i=>(ok0 i∨w.heap.size<i)∧i≠w.heap.size∧i≠b∧i≠w3.heap.size) (fun i hi hl=>hi.elim (fun q=>have:=hok i q;⟨.inl q,by omega,by omega,by omega⟩) (fun q=>⟨.inr (by omega),by omega,by omega,by omega⟩))).under ((Below.refl _ w3).alloc nR (.cells #[.int .i64 y.op,.int .i64 y.k,.int .i64 y.n,.string y.name,.slice y.aS y.nS y.cS,.slice y.aL y.nL y.cL] 54 (0,0)));have h4:=h3.alloc (.cells #[.int .i64 y.op,.int .i64 y.k,.int .i64 y.n,.string y.name,.slice y.aS y.nS y.cS,.slice y.aL y.nL y.cL] 54 (0,0));have A4:=A3.alloc A3.size (.cells #[.int .i64 y.op,.int .i64 y.k,.int .i64 y.n,.string y.name,.slice y.aS y.nS y.cS,.slice y.aL y.nL y.cL] 54 (0,0));have hN4:=kA hN3 (.cells #[.int .i64 y.op,.int .i64 y.k,.int .i64 y.n,.string y.name,.slice y.aS y.nS y.cS,.slice y.aL y.nL y.cL] 54 (0,0));have hT4:=heap_new w3 (.cells #[.int .i64 y.op,.int .i64 y.k,.int .i64 y.n,.string y.name,.slice y.aS y.nS y.cS,.slice y.aL y.nL y.cL] 54 (0,0));have z4:(w3.alloc (.cells #[.int .i64 y.op,.int .i64 y.k,.int .i64 y.n,.string y.name,.slice y.aS y.nS y.cS,.slice y.aL y.nL y.cL] 54 (0,0))).heap.size=w3.heap.size+1:=(by simp);obtain ⟨c0,c1,c2,c3,_⟩:=h4.cells;have fb:=h4.free 3;have f4:=fun o=>fo hN4 o;have ca0:=co hN4 0;have ca1:=co hN4 1;have ca2:=co hN4 2;have ca3:=co hN4 3;have ca4:=co hN4 4;have ca5:=co hN4 5;simp at ca0 ca1 ca2 ca3 ca4 ca5;have cb0:=co hT4 0;have cb1:=co hT4 1;have cb2:=co hT4 2;have cb3:=co hT4 3;have cb4:=co hT4 4;have cb5:=co hT4 5;simp at cb0 cb1 cb2 cb3 cb4 cb5;go_wp2;have h5:=h4.opens op (op:Int) rfl;have A5:=A4.trans (Aside.setCell (S:=[b]) (B:=w.heap.size) (p:=⟨b,3,none⟩) (by simp) (.int .i64 (op:Int))) nR;have he5:=he4.set (p:=⟨b,3,none⟩) (by simp) (.int .i64 (op:Int));refine bodyPost_ret (v:=.agg #[.int .i64 y.op,.int .i64 y.k,.int .i64 y.n,.string y.name,.slice y.aS y.nS y.cS,.slice y.aL y.nL y.cL]) (by simp [results,Tryz.results273,go_sem,ca0,ca1,ca2,ca3,ca4,ca5]) rfl ?_;exact Post.good rfl (A5.put6 (k:=w.heap.size) nR y) (by omega) (h5.put6 (k:=w.heap.size) (by omega) (by omega) y) ⟨y,rfl,(he5.put6 (k:=w.heap.size) (by simp) y).wide (fun i hi _=>hi.1.imp id Nat.le_of_lt)⟩
theorem exprs_lit1 {ok:Nat→Prop} {w:World} {x:ExV} {a:Ex} (hx:HEx ok w x.cells a) (t:TypeId) (hok:ok w.heap.size) :
  HExs ok (w.alloc (.cells #[.int .i64 x.op,.int .i64 x.k,.int .i64 x.n,.string x.name,.slice x.aS x.nS x.cS,.slice x.aL x.nL x.cL] t (0,0))) (.slice (some ⟨w.heap.size,0,none⟩) 1 1) [a]:=by
 have hn:=heap_new w (.cells #[.int .i64 x.op,.int .i64 x.k,.int .i64 x.n,.string x.name,.slice x.aS x.nS x.cS,.slice x.aL x.nL x.cL] t (0,0));have hb:=((Below.refl w.heap.size w).alloc nR (.cells #[.int .i64 x.op,.int .i64 x.k,.int .i64 x.n,.string x.name,.slice x.aS x.nS x.cS,.slice x.aL x.nL x.cL] t (0,0)));refine ⟨fun i=>x.cells,⟨_,1,rfl,Nat.le_refl _,by decide,fun _=>⟨_,0,rfl,hok,lt_of hn,fun i hi=>?_⟩⟩,fun i hi=>?_⟩
 ·match i,hi with
  | 0,_=>exact ⟨rfl,fun j hj=>by rw [co hn];match j,hj with | 0,_=>rfl | 1,_=>rfl | 2,_=>rfl | 3,_=>rfl | 4,_=>rfl | 5,_=>rfl⟩
 ·match i,hi with
  | 0,_=>exact hx.under hb
theorem exprs_lit3 {ok:Nat→Prop} {w:World} {x y z:ExV} {a c d:Ex} (hx:HEx ok w x.cells a) (hy:HEx ok w y.cells c) (hz:HEx ok w z.cells d) (t:TypeId) (hok:ok w.heap.size) :
  HExs ok (w.alloc (.cells #[.int .i64 x.op,.int .i64 x.k,.int .i64 x.n,.string x.name,.slice x.aS x.nS x.cS,.slice x.aL x.nL x.cL,.int .i64 y.op,.int .i64 y.k,.int .i64 y.n,.string y.name,.slice y.aS y.nS y.cS,.slice y.aL y.nL y.cL,.int .i64 z.op,.int .i64 z.k,.int .i64 z.n,.string z.name,.slice z.aS z.nS z.cS,.slice z.aL z.nL z.cL] t (0,0))) (.slice (some ⟨w.heap.size,0,none⟩) 3 3) [a,c,d]:=by
 have hn:=heap_new w (.cells #[.int .i64 x.op,.int .i64 x.k,.int .i64 x.n,.string x.name,.slice x.aS x.nS x.cS,.slice x.aL x.nL x.cL,.int .i64 y.op,.int .i64 y.k,.int .i64 y.n,.string y.name,.slice y.aS y.nS y.cS,.slice y.aL y.nL y.cL,.int .i64 z.op,.int .i64 z.k,.int .i64 z.n,.string z.name,.slice z.aS z.nS z.cS,.slice z.aL z.nL z.cL] t (0,0));have hb:=((Below.refl w.heap.size w).alloc nR (.cells #[.int .i64 x.op,.int .i64 x.k,.int .i64 x.n,.string x.name,.slice x.aS x.nS x.cS,.slice x.aL x.nL x.cL,.int .i64 y.op,.int .i64 y.k,.int .i64 y.n,.string y.name,.slice y.aS y.nS y.cS,.slice y.aL y.nL y.cL,.int .i64 z.op,.int .i64 z.k,.int .i64 z.n,.string z.name,.slice z.aS z.nS z.cS,.slice z.aL z.nL z.cL] t (0,0)));refine ⟨fun i=>if i=0 then x.cells else if i=1 then y.cells else z.cells,⟨_,3,rfl,Nat.le_refl _,by decide,fun _=>⟨_,0,rfl,hok,lt_of hn,fun i hi=>?_⟩⟩,fun i hi=>?_⟩
 ·match i,hi with
  | 0,_=>exact ⟨rfl,fun j hj=>by rw [co hn];match j,hj with | 0,_=>rfl | 1,_=>rfl | 2,_=>rfl | 3,_=>rfl | 4,_=>rfl | 5,_=>rfl⟩
  | 1,_=>exact ⟨rfl,fun j hj=>by rw [co hn];match j,hj with | 0,_=>rfl | 1,_=>rfl | 2,_=>rfl | 3,_=>rfl | 4,_=>rfl | 5,_=>rfl⟩
  | 2,_=>exact ⟨rfl,fun j hj=>by rw [co hn];match j,hj with | 0,_=>rfl | 1,_=>rfl | 2,_=>rfl | 3,_=>rfl | 4,_=>rfl | 5,_=>rfl⟩
 ·match i,hi with
  | 0,_=>exact hx.under hb
  | 1,_=>exact hy.under hb
  | 2,_=>exact hz.under hb
theorem sizes_nil {ok:Nat→Prop} {w:World}:HSizes ok w (.slice none 0 0) []:=⟨fun _=>[],Sl.nil,fun i h=>absurd h (Nat.not_lt_zero _)⟩
theorem exprs_nil {ok:Nat→Prop} {w:World}:HExs ok w (.slice none 0 0) []:=⟨fun _=>[],Sl.nil,fun i h=>absurd h (Nat.not_lt_zero _)⟩
theorem bracketed_any {b g cap:Nat} {I:Inp} {op:Nat} {E:Nat→Res Ex} (HE:Does 245 b g cap I op exV E):Does 275 b g cap I op exV (Ps.bracketed I E):=by
 intro nx w h hG;have hb:=h.bb;have hg:=h.gb;go_enter Tryz.func275,Tryz.ntmps275;go_wp2_with fail;refine (HE _ _ (h.alloc _) (hG.alloc _)).mono ?_;rintro e w1 ⟨a1,hres⟩;have z1:w.heap.size+1≤w1.heap.size:=(by simpa using a1.size);have hA1:=a1.keep (heap_new w _) (by simp) (by simp;omega);have A1:=((Aside.refl (S:=[b]) (B:=w.heap.size) w).alloc nR _).trans a1 (by simp)
 cases ht:E nx with
 | err c0 a0=>
  rw [ht] at hres;obtain rfl:e=_:=hres;exact ⟨rfl,Post.fail (by unfold Ps.bracketed;rw [ht];rfl) A1⟩
 | ok e0 n1=>
  rw [ht] at hres;obtain ⟨le1,h1,_,rfl,y,rfl,he1⟩:=hres;have HT:=hide ht;clear ht a1;go_wp2_with fail;have he2:=(he1.wide (ok':=fun i=>w.heap.size<i∧i<w1.heap.size) (fun i hi hl=>by simp at hi;omega)).under ((Below.refl _ w1).alloc nR (.cells #[.int .i64 y.op,.int .i64 y.k,.int .i64 y.n,.string y.name,.slice y.aS y.nS y.cS,.slice y.aL y.nL y.cL] 54 (0,0)));refine (need_any (h1.alloc _) ⟨#[41]⟩ (by decide)).mono ?_;rintro e w2 ⟨a2,hres⟩;have es:(⟨#[41]⟩:ByteArray).data.toList=[41]:=rfl;rw [es] at hres;clear es;have z2:w1.heap.size+1≤w2.heap.size:=(by simpa using a2.size);have A2:=(A1.alloc (by omega) _).trans a2 (by simp;omega);have hA2:=a2.keep (kA hA1 _) (by simp;omega) (by simp;omega);have hT2:=a2.keep (heap_new w1 _) (by simp) (by simp;omega);have he3:=he2.past a2 (fun i hi=>by simp;omega);clear a2 A1 hA1 he1 he2 h1
  cases hn:Ps.need I [41] n1 with
  | err c0 a0=>
   rw [hn] at hres;obtain rfl:e=_:=hres;exact ⟨rfl,Post.fail (by unfold Ps.bracketed;rw [HT.out];simp only [Res.bind];rw [hn]) A2⟩
  | ok u n2=>
   rw [hn] at hres;obtain ⟨le2,h2,_,rfl,rfl⟩:=hres;have hm:Hid (Ps.bracketed I E nx=.ok e0 n2):=by
    show Ps.bracketed I E nx=_
    unfold Ps.bracketed;rw [HT.out];simp only [Res.bind];rw [hn]
   clear hn HT;have fa:=fun o=>fo hA2 o;have ca0:=co hA2 0;have ca1:=co hA2 1;have ca2:=co hA2 2;have ca3:=co hA2 3;have ca4:=co hA2 4;have ca5:=co hA2 5;simp at ca0 ca1 ca2 ca3 ca4 ca5;have cb0:=co hT2 0;have cb1:=co hT2 1;have cb2:=co hT2 2;have cb3:=co hT2 3;have cb4:=co hT2 4;have cb5:=co hT2 5;simp at cb0 cb1 cb2 cb3 cb4 cb5;go_wp2;refine bodyPost_ret (v:=.agg #[.int .i64 y.op,.int .i64 y.k,.int .i64 y.n,.string y.name,.slice y.aS y.nS y.cS,.slice y.aL y.nL y.cL]) (by simp [results,Tryz.results275,go_sem,ca0,ca1,ca2,ca3,ca4,ca5]) rfl ?_;exact Post.good hm.out (A2.put6 (k:=w.heap.size) nR y) (by omega) (h2.put6 (k:=w.heap.size) (by omega) (by omega) y) ⟨y,rfl,(he3.put6 (k:=w.heap.size) (by simp) y).wide (fun i hi _=>Nat.le_of_lt hi.1)⟩
theorem choice_any {b g cap:Nat} {I:Inp} {op:Nat} {E:Nat→Res Ex} (HE:Does 245 b g cap I op exV E):Does 276 b g cap I op exV (Ps.choice I E):=by
 intro nx w h hG;have hb:=h.bb;have hg:=h.gb;go_enter Tryz.func276,Tryz.ntmps276;go_wp2_with fail;refine (HE _ _ (h.alloc _) (hG.alloc _)).mono ?_;rintro e w1 ⟨a1,hres⟩;have z1:w.heap.size+1≤w1.heap.size:=(by simpa using a1.size);have hA1:=a1.keep (heap_new w _) (by simp) (by simp;omega);have A1:=((Aside.refl (S:=[b]) (B:=w.heap.size) w).alloc nR _).trans a1 (by simp)
 cases ht:E nx with
 | err c0 a0=>
  rw [ht] at hres;obtain rfl:e=_:=hres;exact ⟨rfl,Post.fail (by unfold Ps.choice;rw [ht];rfl) A1⟩
 | ok e1 n1=>
  rw [ht] at hres;obtain ⟨le1,h1,_,rfl,x1,rfl,he1⟩:=hres;have m1:Hid (Ps.choice I E nx=(Ps.need I [116,104,101,110] n1).bind fun _ n2=>(E n2).bind fun y n3=>(Ps.need I [101,108,115,101] n3).bind fun _ n4=>(E n4).bind fun z n5=>.ok (.mk 6 0 0 ⟨#[]⟩ [] [e1,y,z]) n5):=by
   show Ps.choice I E nx=_
   unfold Ps.choice;rw [ht];rfl
  clear ht a1;go_wp2_with fail;have he2:=(he1.wide (ok':=fun i=>w.heap.size<i∧i<w1.heap.size) (fun i hi hl=>by simp at hi;omega)).under ((Below.refl _ w1).alloc nR (.cells #[.int .i64 x1.op,.int .i64 x1.k,.int .i64 x1.n,.string x1.name,.slice x1.aS x1.nS x1.cS,.slice x1.aL x1.nL x1.cL] 54 (0,0)));refine (need_any (h1.alloc _) ⟨#[116,104,101,110]⟩ (by decide)).mono ?_;rintro e w2 ⟨a2,hres⟩;have es:(⟨#[116,104,101,110]⟩:ByteArray).data.toList=[116,104,101,110]:=rfl;rw [es] at hres;clear es;have z2:w1.heap.size+1≤w2.heap.size:=(by simpa using a2.size);have A2:=(A1.alloc (by omega) _).trans a2 (by simp;omega);have hA2:=a2.keep (kA hA1 _) (by simp;omega) (by simp;omega);have hT2:=a2.keep (heap_new w1 _) (by simp) (by simp;omega);have he3:=he2.past a2 (fun i hi=>by simp;omega);clear a2 A1 hA1 he1 he2 h1
  cases hn:Ps.need I [116,104,101,110] n1 with
  | err c0 a0=>
   rw [hn] at hres;obtain rfl:e=_:=hres;exact ⟨rfl,Post.fail (by rw [m1.out,hn];rfl) A2⟩
  | ok u n2=>
   rw [hn] at hres;obtain ⟨le2,h2,_,rfl,rfl⟩:=hres;have m2:Hid (Ps.choice I E nx=(E n2).bind fun y n3=>(Ps.need I [101,108,115,101] n3).bind fun _ n4=>(E n4).bind fun z n5=>.ok (.mk 6 0 0 ⟨#[]⟩ [] [e1,y,z]) n5):=by
    show Ps.choice I E nx=_
    rw [m1.out,hn];rfl
   clear hn m1;go_wp2_with fail;refine (HE _ _ h2 (hG.far A2)).mono ?_;rintro e w3 ⟨a3,hres⟩;have z3:=a3.size;have A3:=A2.trans a3 A2.size;have hA3:=a3.keep hA2 (by omega) (by simp;omega);have hT3:=a3.keep hT2 (by omega) (by simp;omega);have he4:=he3.past a3 (fun i hi=>by simp;omega);clear a3 A2 hA2 hT2 he3 h2
   cases ht:E n2 with
   | err c0 a0=>
    rw [ht] at hres;obtain rfl:e=_:=hres;exact ⟨rfl,Post.fail (by rw [m2.out,ht];rfl) A3⟩
   | ok e3 n3=>
    rw [ht] at hres;obtain ⟨le3,h3,_,rfl,x3,rfl,hf3⟩:=hres;have m3:Hid (Ps.choice I E nx=(Ps.need I [101,108,115,101] n3).bind fun _ n4=>(E n4).bind fun z n5=>.ok (.mk 6 0 0 ⟨#[]⟩ [] [e1,e3,z]) n5):=by
     show Ps.choice I E nx=_
     rw [m2.out,ht];rfl
    clear ht m2;go_wp2_with fail;have hf4:=(hf3.wide (ok':=fun i=>w1.heap.size<i∧i<w3.heap.size) (fun i hi hl=>by omega)).under ((Below.refl _ w3).alloc nR (.cells #[.int .i64 x3.op,.int .i64 x3.k,.int .i64 x3.n,.string x3.name,.slice x3.aS x3.nS x3.cS,.slice x3.aL x3.nL x3.cL] 54 (0,0)));have he5:=he4.under ((Below.refl _ w3).alloc nR (.cells #[.int .i64 x3.op,.int .i64 x3.k,.int .i64 x3.n,.string x3.name,.slice x3.aS x3.nS x3.cS,.slice x3.aL x3.nL x3.cL] 54 (0,0)));refine (need_any (h3.alloc _) ⟨#[101,108,115,101]⟩ (by decide)).mono ?_;rintro e w4 ⟨a4,hres⟩;have es:(⟨#[101,108,115,101]⟩:ByteArray).data.toList=[101,108,115,101]:=rfl;rw [es] at hres;clear es;have z4:w3.heap.size+1≤w4.heap.size:=(by simpa using a4.size);have A4:=(A3.alloc A3.size _).trans a4 (by simp;omega);have hA4:=a4.keep (kA hA3 _) (by simp;omega) (by simp;omega);have hT4:=a4.keep (kA hT3 _) (by simp;omega) (by simp;omega);have hU4:=a4.keep (heap_new w3 _) (by simp) (by simp;omega);have he6:=he5.past a4 (fun i hi=>by simp;omega);have hf6:=hf4.past a4 (fun i hi=>by simp;omega);clear a4 A3 hA3 hT3 he4 he5 hf3 hf4 h3
    cases hn:Ps.need I [101,108,115,101] n3 with
    | err c0 a0=>
     rw [hn] at hres;obtain rfl:e=_:=hres;exact ⟨rfl,Post.fail (by rw [m3.out,hn];rfl) A4⟩
    | ok u n4=>
     rw [hn] at hres;obtain ⟨le4,h4,_,rfl,rfl⟩:=hres;have m4:Hid (Ps.choice I E nx=(E n4).bind fun z n5=>.ok (.mk 6 0 0 ⟨#[]⟩ [] [e1,e3,z]) n5):=by
      show Ps.choice I E nx=_
      rw [m3.out,hn];rfl
     clear hn m3;go_wp2_with fail;refine (HE _ _ h4 (hG.far A4)).mono ?_;rintro e w5 ⟨a5,hres⟩;have z5:=a5.size;have A5:=A4.trans a5 A4.size;have hA5:=a5.keep hA4 (by omega) (by simp;omega);have hT5:=a5.keep hT4 (by omega) (by simp;omega);have hU5:=a5.keep hU4 (by omega) (by simp;omega);have he7:=he6.past a5 (fun i hi=>by simp;omega);have hf7:=hf6.past a5 (fun i hi=>by simp;omega);clear a5 A4 hA4 hT4 hU4 he6 hf6 h4
     cases ht:E n4 with
     | err c0 a0=>
      rw [ht] at hres;obtain rfl:e=_:=hres;exact ⟨rfl,Post.fail (by rw [m4.out,ht];rfl) A5⟩
     | ok e5 n5=>
      rw [ht] at hres;obtain ⟨le5,h5,_,rfl,x5,rfl,hg5⟩:=hres;have m5:Hid (Ps.choice I E nx=.ok (.mk 6 0 0 ⟨#[]⟩ [] [e1,e3,e5]) n5):=by
       show Ps.choice I E nx=_
       rw [m4.out,ht];rfl
      clear ht m4;obtain ⟨W,hW⟩:=nmQ (w5.alloc (.cells #[.int .i64 x5.op,.int .i64 x5.k,.int .i64 x5.n,.string x5.name,.slice x5.aS x5.nS x5.cS,.slice x5.aL x5.nL x5.cL] 54 (0,0)));have zW:=newZ hW;have bW:=newB hW;have hVW:W.heap[w5.heap.size]?=some (.cells #[.int .i64 x5.op,.int .i64 x5.k,.int .i64 x5.n,.string x5.name,.slice x5.aS x5.nS x5.cS,.slice x5.aL x5.nL x5.cL] 54 (0,0)):=(by rw [hW];exact heap_new w5 _);have hAW:=(aside bW (S:=[])).keep hA5 (lt_of hA5) (by simp);have hTW:=(aside bW (S:=[])).keep hT5 (lt_of hT5) (by simp);have hUW:=(aside bW (S:=[])).keep hU5 (lt_of hU5) (by simp);have q1:=(he7.wide (ok':=fun i=>w.heap.size<i) (fun i hi _=>by omega)).under bW;have q3:=(hf7.wide (ok':=fun i=>w.heap.size<i) (fun i hi _=>by omega)).under bW;have q5:=(hg5.wide (ok':=fun i=>w.heap.size<i) (fun i hi _=>by omega)).under bW;have hS:=A5.trans (aside bW) A5.size;have hR:=h5.below bW;have fa:=fun o=>fo hAW o;clear hA5 hT5 hU5 he7 hf7 hg5 h5 A5;have ca0:=co hAW 0;have ca1:=co hAW 1;have ca2:=co hAW 2;have ca3:=co hAW 3;have ca4:=co hAW 4;have ca5:=co hAW 5;simp at ca0 ca1 ca2 ca3 ca4 ca5;have cb0:=co hTW 0;have cb1:=co hTW 1;have cb2:=co hTW 2;have cb3:=co hTW 3;have cb4:=co hTW 4;have cb5:=co hTW 5;simp at cb0 cb1 cb2 cb3 cb4 cb5;have cc0:=co hUW 0;have cc1:=co hUW 1;have cc2:=co hUW 2;have cc3:=co hUW 3;have cc4:=co hUW 4;have cc5:=co hUW 5;simp at cc0 cc1 cc2 cc3 cc4 cc5;have cd0:=co hVW 0;have cd1:=co hVW 1;have cd2:=co hVW 2;have cd3:=co hVW 3;have cd4:=co hVW 4;have cd5:=co hVW 5;simp at cd0 cd1 cd2 cd3 cd4 cd5;go_upto_region 6 with fail;rw [←hW];clear hW;have hlt:w.heap.size<W.heap.size:=(by omega);have ZW:=hide zW;clear zW;go_wp2;refine bodyPost_ret (v:=.agg #[.int .i64 6,.int .i64 0,.int .i64 0,.string ⟨#[]⟩,.slice none 0 0,.slice (some ⟨W.heap.size,0,none⟩) 3 3]) (by simp [results,Tryz.results276,go_sem,ca0,ca1,ca2,ca3,ca4,ca5,hlt]) rfl ?_;have zP:(put6 W w.heap.size ⟨6,0,0,⟨#[]⟩,none,0,0,some ⟨W.heap.size,0,none⟩,3,3⟩).heap.size=W.heap.size:=put6_size _ _ _;have hLit:=exprs_lit3 (q1.put6 (k:=w.heap.size) (by simp) ⟨6,0,0,⟨#[]⟩,none,0,0,some ⟨W.heap.size,0,none⟩,3,3⟩) (q3.put6 (k:=w.heap.size) (by simp) ⟨6,0,0,⟨#[]⟩,none,0,0,some ⟨W.heap.size,0,none⟩,3,3⟩) (q5.put6 (k:=w.heap.size) (by simp) ⟨6,0,0,⟨#[]⟩,none,0,0,some ⟨W.heap.size,0,none⟩,3,3⟩) 54 (by rw [zP];omega);rw [zP] at hLit;exact Post.good m5.out ((hS.put6 (k:=w.heap.size) nR ⟨6,0,0,⟨#[]⟩,none,0,0,some ⟨W.heap.size,0,none⟩,3,3⟩).alloc (by rw [zP];omega) _) (by omega) ((hR.put6 (k:=w.heap.size) (by omega) (by omega) ⟨6,0,0,⟨#[]⟩,none,0,0,some ⟨W.heap.size,0,none⟩,3,3⟩).alloc _) ⟨⟨6,0,0,⟨#[]⟩,none,0,0,some ⟨W.heap.size,0,none⟩,3,3⟩,rfl,(HEx.make (x:=⟨6,0,0,⟨#[]⟩,none,0,0,some ⟨W.heap.size,0,none⟩,3,3⟩) (e:=.mk 6 0 0 ⟨#[]⟩ [] [e1,e3,e5]) rfl rfl rfl rfl sizes_nil hLit).wide (fun i hi _=>Nat.le_of_lt hi)⟩
end Go.Proofs.YtkfgbhlpjkkgfaaGreatDoor
