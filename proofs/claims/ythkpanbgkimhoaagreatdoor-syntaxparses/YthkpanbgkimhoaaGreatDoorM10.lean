import Derived.Test.YthkpanbgkimhoaaGreatDoorM08
import Derived.Test.YthkpanbgkimhoaaGreatDoorM04
import Derived.Test.YthkpanbgkimhoaaGreatDoorQ13
set_option linter.unusedVariables false
set_option linter.unusedSimpArgs false
set_option maxHeartbeats 64000000
set_option maxRecDepth 100000
namespace Go.Proofs.YthkpanbgkimhoaaGreatDoor
open Go.RowKit Go.IntWalk
theorem product_any {b g cap:Nat} {I:Inp} {op:Nat} {R:Nat→Res Ex} (HR:Does 119 b g cap I op exV R):Does 118 b g cap I op exV (Ps.fromLeft I R 3 5):=by
 intro nx w h hG;have hb:=h.bb;have hg:=h.gb;have hmf:=vM;go_enter Tryz.func118,Tryz.ntmps118;go_wp2_with fail;refine (jR (a:=3) (c:=5) HR enter119 (h.alloc _) (hG.alloc _)).mono ?_;rintro e w1 ⟨a1,hres⟩;have z1:w.heap.size+1≤w1.heap.size:=(by simpa using a1.size);have hA1:=a1.keep (zF w _) (by simp) (by simp;omega);have A1:=((Aside.refl (S:=[b]) (B:=w.heap.size) w).alloc nR _).trans a1 (by simp)
 cases ht:Ps.fromLeft I R 3 5 nx with
 | err c0 a0=>
  rw [ht] at hres;obtain rfl:e=_:=hres;exact ⟨rfl,Post.fail rfl A1⟩
 | ok e0 n1=>
  rw [ht] at hres;obtain ⟨le1,h1,_,rfl,y,rfl,he1⟩:=hres;have HT:=zD ht;clear ht;have fa:=fun o=>fo hA1 o;obtain ⟨ca0,ca1,ca2,ca3,ca4,ca5⟩:=zH hA1;have he2:=he1.wide (ok':=fun i=>w.heap.size<i) (fun i hi hl=>by simp at hi;omega);go_wp2;refine bodyPost_ret (v:=.agg #[.int .i64 y.op,.int .i64 y.k,.int .i64 y.n,.string y.name,.slice y.aS y.nS y.cS,.slice y.aL y.nL y.cL]) (by simp [results,Tryz.results118,go_sem,ca0,ca1,ca2,ca3,ca4,ca5]) rfl ?_;exact Post.good HT.out (A1.put6 (k:=w.heap.size) nR y) le1 (h1.put6 (k:=w.heap.size) (by omega) (by omega) y) ⟨y,rfl,(he2.put6 (k:=w.heap.size) (by simp) y).wide (fun i hi _=>Nat.le_of_lt hi)⟩
theorem sum_any {b g cap:Nat} {I:Inp} {op:Nat} {R:Nat→Res Ex} (HR:Does 118 b g cap I op exV R):Does 117 b g cap I op exV (Ps.fromLeft I R 1 2):=by
 intro nx w h hG;have hb:=h.bb;have hg:=h.gb;have hmf:=vM;go_enter Tryz.func117,Tryz.ntmps117;go_wp2_with fail;refine (jR (a:=1) (c:=2) HR enter118 (h.alloc _) (hG.alloc _)).mono ?_;rintro e w1 ⟨a1,hres⟩;have z1:w.heap.size+1≤w1.heap.size:=(by simpa using a1.size);have hA1:=a1.keep (zF w _) (by simp) (by simp;omega);have A1:=((Aside.refl (S:=[b]) (B:=w.heap.size) w).alloc nR _).trans a1 (by simp)
 cases ht:Ps.fromLeft I R 1 2 nx with
 | err c0 a0=>
  rw [ht] at hres;obtain rfl:e=_:=hres;exact ⟨rfl,Post.fail rfl A1⟩
 | ok e0 n1=>
  rw [ht] at hres;obtain ⟨le1,h1,_,rfl,y,rfl,he1⟩:=hres;have HT:=zD ht;clear ht;have fa:=fun o=>fo hA1 o;obtain ⟨ca0,ca1,ca2,ca3,ca4,ca5⟩:=zH hA1;have he2:=he1.wide (ok':=fun i=>w.heap.size<i) (fun i hi hl=>by simp at hi;omega);go_wp2;refine bodyPost_ret (v:=.agg #[.int .i64 y.op,.int .i64 y.k,.int .i64 y.n,.string y.name,.slice y.aS y.nS y.cS,.slice y.aL y.nL y.cL]) (by simp [results,Tryz.results117,go_sem,ca0,ca1,ca2,ca3,ca4,ca5]) rfl ?_;exact Post.good HT.out (A1.put6 (k:=w.heap.size) nR y) le1 (h1.put6 (k:=w.heap.size) (by omega) (by omega) y) ⟨y,rfl,(he2.put6 (k:=w.heap.size) (by simp) y).wide (fun i hi _=>Nat.le_of_lt hi)⟩
theorem conj_any {b g cap:Nat} {I:Inp} {op:Nat} {R:Nat→Res Ex} (HR:Does 115 b g cap I op exV R):Does 112 b g cap I op exV (Ps.fromLeft I R 10 10):=by
 intro nx w h hG;have hb:=h.bb;have hg:=h.gb;have hmf:=vM;go_enter Tryz.func112,Tryz.ntmps112;go_wp2_with fail;refine (jR (a:=10) (c:=10) HR enter115 (h.alloc _) (hG.alloc _)).mono ?_;rintro e w1 ⟨a1,hres⟩;have z1:w.heap.size+1≤w1.heap.size:=(by simpa using a1.size);have hA1:=a1.keep (zF w _) (by simp) (by simp;omega);have A1:=((Aside.refl (S:=[b]) (B:=w.heap.size) w).alloc nR _).trans a1 (by simp)
 cases ht:Ps.fromLeft I R 10 10 nx with
 | err c0 a0=>
  rw [ht] at hres;obtain rfl:e=_:=hres;exact ⟨rfl,Post.fail rfl A1⟩
 | ok e0 n1=>
  rw [ht] at hres;obtain ⟨le1,h1,_,rfl,y,rfl,he1⟩:=hres;have HT:=zD ht;clear ht;have fa:=fun o=>fo hA1 o;obtain ⟨ca0,ca1,ca2,ca3,ca4,ca5⟩:=zH hA1;have he2:=he1.wide (ok':=fun i=>w.heap.size<i) (fun i hi hl=>by simp at hi;omega);go_wp2;refine bodyPost_ret (v:=.agg #[.int .i64 y.op,.int .i64 y.k,.int .i64 y.n,.string y.name,.slice y.aS y.nS y.cS,.slice y.aL y.nL y.cL]) (by simp [results,Tryz.results112,go_sem,ca0,ca1,ca2,ca3,ca4,ca5]) rfl ?_;exact Post.good HT.out (A1.put6 (k:=w.heap.size) nR y) le1 (h1.put6 (k:=w.heap.size) (by omega) (by omega) y) ⟨y,rfl,(he2.put6 (k:=w.heap.size) (by simp) y).wide (fun i hi _=>Nat.le_of_lt hi)⟩
theorem expr_any {b g cap:Nat} {I:Inp} {op:Nat} {R:Nat→Res Ex} (HR:Does 112 b g cap I op exV R):Does 108 b g cap I op exV (Ps.fromLeft I R 11 12):=by
 intro nx w h hG;have hb:=h.bb;have hg:=h.gb;have hmf:=vM;go_enter Tryz.func108,Tryz.ntmps108;go_wp2_with fail;refine (jR (a:=11) (c:=12) HR enter112 (h.alloc _) (hG.alloc _)).mono ?_;rintro e w1 ⟨a1,hres⟩;have z1:w.heap.size+1≤w1.heap.size:=(by simpa using a1.size);have hA1:=a1.keep (zF w _) (by simp) (by simp;omega);have A1:=((Aside.refl (S:=[b]) (B:=w.heap.size) w).alloc nR _).trans a1 (by simp)
 cases ht:Ps.fromLeft I R 11 12 nx with
 | err c0 a0=>
  rw [ht] at hres;obtain rfl:e=_:=hres;exact ⟨rfl,Post.fail rfl A1⟩
 | ok e0 n1=>
  rw [ht] at hres;obtain ⟨le1,h1,_,rfl,y,rfl,he1⟩:=hres;have HT:=zD ht;clear ht;have fa:=fun o=>fo hA1 o;obtain ⟨ca0,ca1,ca2,ca3,ca4,ca5⟩:=zH hA1;have he2:=he1.wide (ok':=fun i=>w.heap.size<i) (fun i hi hl=>by simp at hi;omega);go_wp2;refine bodyPost_ret (v:=.agg #[.int .i64 y.op,.int .i64 y.k,.int .i64 y.n,.string y.name,.slice y.aS y.nS y.cS,.slice y.aL y.nL y.cL]) (by simp [results,Tryz.results108,go_sem,ca0,ca1,ca2,ca3,ca4,ca5]) rfl ?_;exact Post.good HT.out (A1.put6 (k:=w.heap.size) nR y) le1 (h1.put6 (k:=w.heap.size) (by omega) (by omega) y) ⟨y,rfl,(he2.put6 (k:=w.heap.size) (by simp) y).wide (fun i hi _=>Nat.le_of_lt hi)⟩
theorem cmp_any {b g cap:Nat} {I:Inp} {op:Nat} {R:Nat→Res Ex} (HR:Does 117 b g cap I op exV R):Does 115 b g cap I op exV (Ps.cmp I R):=by
 intro nx w h hG;have hb:=h.bb;have hg:=h.gb;go_enter Tryz.func115,Tryz.ntmps115;go_wp2_with fail;refine (HR _ _ (h.alloc _) (hG.alloc _)).mono ?_;rintro e w1 ⟨a1,hres⟩;have z1:w.heap.size+1≤w1.heap.size:=(by simpa using a1.size);have hA1:=a1.keep (zF w _) (by simp) (by simp;omega);have A1:=((Aside.refl (S:=[b]) (B:=w.heap.size) w).alloc nR _).trans a1 (by simp);clear a1
 cases ht:R nx with
 | err c0 a0=>
  rw [ht] at hres;obtain rfl:e=_:=hres;exact ⟨rfl,Post.fail (by unfold Ps.cmp;rw [ht];rfl) A1⟩
 | ok e0 n1=>
  rw [ht] at hres;obtain ⟨le1,h1,_,rfl,y,rfl,he1⟩:=hres;have hmod:Hid (Ps.cmp I R nx=if btw 8 9 (I.pk n1).text=0 then .ok e0 n1 else (R (n1+1)).bind fun r n2=>.ok (.mk 5 (btw 8 9 (I.pk n1).text) 0 ⟨#[]⟩ [] [e0,r]) n2):=by
   show Ps.cmp I R nx=_
   unfold Ps.cmp;rw [ht];rfl
  clear ht;have he:=(he1.wide (ok':=fun i=>w.heap.size<i∧i≠w1.heap.size) (fun i hi hl=>⟨by simp at hi;omega,by omega⟩)).under ((Below.refl _ w1).alloc nR (.cells (exC y) 45 (0,0)));have hrd:=h1.alloc (.cells (exC y) 45 (0,0));have has:=A1.alloc (by omega) (.cells (exC y) 45 (0,0));have hA:=kA hA1 (.cells (exC y) 45 (0,0));have hB:=zF w1 (.cells (exC y) 45 (0,0));have zz:(w1.alloc (.cells (exC y) 45 (0,0))).heap.size=w1.heap.size+1:=(by simp);clear h1 A1 hA1 he1;go_wp2_with fail;generalize w1.alloc (.cells (exC y) 45 (0,0))=wr at he hrd has hA hB zz ⊢;refine (betweenI hrd 8 9).mono ?_;rintro r w2 ⟨rfl,b2⟩;obtain ⟨kk,hkk⟩:=nm (btw 8 9 (I.pk n1).text);rw [←hkk];have HK:=zD hkk;have z2:=b2.size;have hA2:=(aside b2 (S:=[])).keep hA (zC hA) (by simp);have hB2:=(aside b2 (S:=[])).keep hB (zC hB) (by simp);have he2:=he.under b2;have h2:=hrd.below b2;have A2:=has.trans (aside b2) has.size;clear hkk hA hB he hrd has b2;by_cases hz:kk=0
  ·have HST:Hid (Ps.cmp I R nx=.ok e0 n1):=by
    show Ps.cmp I R nx=_
    rw [hmod.out,←HK.out,if_pos hz]
   subst hz;obtain ⟨cb0,cb1,cb2,cb3,cb4,cb5⟩:=zH hB2;have fa:=fun o=>fo hA2 o;obtain ⟨ca0,ca1,ca2,ca3,ca4,ca5⟩:=zH hA2;go_wp2;refine bodyPost_ret (v:=.agg #[.int .i64 y.op,.int .i64 y.k,.int .i64 y.n,.string y.name,.slice y.aS y.nS y.cS,.slice y.aL y.nL y.cL]) (by simp [results,Tryz.results115,go_sem,ca0,ca1,ca2,ca3,ca4,ca5]) rfl ?_;exact Post.good HST.out (A2.put6 (k:=w.heap.size) nR y) le1 (h2.put6 (k:=w.heap.size) (by omega) (by omega) y) ⟨y,rfl,(he2.put6 (k:=w.heap.size) (by simp) y).wide (fun i hi _=>Nat.le_of_lt hi.1)⟩
  ·have hkf:(kk==0)=false:=beq_eq_false_iff_ne.2 hz
   have hlt:n1<I.L.length:=zBj (a:=8) (c:=9) (by rw [←HK.out];exact hz);have hst:Hid (Ps.cmp I R nx=(R (n1+1)).bind fun r n2=>.ok (.mk 5 kk 0 ⟨#[]⟩ [] [e0,r]) n2):=by
    show Ps.cmp I R nx=_
    rw [hmod.out,←HK.out,if_neg hz]
   clear hmod;go_wp2_with fail;refine (qS h2 hlt).mono ?_;rintro r w3 ⟨rfl,h3,a3⟩;have hA3:=a3.keep hA2 (zC hA2) (by simp;omega);have hB3:=a3.keep hB2 (zC hB2) (by simp;omega);have he3:=he2.past a3 (fun i hi=>by simp;omega);have A3:=A2.trans a3 (by omega);have z3:=a3.size;clear hA2 hB2 he2 h2 A2 a3;go_wp2_with fail;have hd3:Rd w3.drew b g cap I.L I.len (n1+1) op:=h3.drew;have hA4:w3.drew.heap[w.heap.size]?=some Zb:=hA3;have hB4:w3.drew.heap[w1.heap.size]?=some (.cells (exC y) 45 (0,0)):=hB3;have he4:HEx (fun i=>w.heap.size<i∧i≠w1.heap.size) w3.drew y.cells e0:=he3.under (Below.refl _ w3).drew;have A4:=A3.drew;have z4:w3.drew.heap.size=w3.heap.size:=rfl;refine zL (fun w'=>w'.cell? ⟨w1.heap.size,0,none⟩=some (.int .i64 y.op)∧w'.cell? ⟨w1.heap.size,1,none⟩=some (.int .i64 y.k)∧w'.cell? ⟨w1.heap.size,2,none⟩=some (.int .i64 y.n)∧w'.cell? ⟨w1.heap.size,3,none⟩=some (.string y.name)∧w'.cell? ⟨w1.heap.size,4,none⟩=some (.slice y.aS y.nS y.cS)∧w'.cell? ⟨w1.heap.size,5,none⟩=some (.slice y.aL y.nL y.cL)) (fun j=>decide (j=5)) (by kernel_rfl) ?_;generalize w3.drew=wd at hd3 hA4 hB4 he4 A4 z4 ⊢;clear h3 hA3 hB3 he3 A3;obtain ⟨cb0,cb1,cb2,cb3,cb4,cb5⟩:=zH hB4;have hH:=And.intro cb0 (And.intro cb1 (And.intro cb2 (And.intro cb3 (And.intro cb4 cb5))));refine' zE (i:=0) (v:=_) rfl (by kernel_rfl) (by kernel_rfl) (by kernel_rfl) (by kernel_rfl) (fun _ _ _ h=>h) hH (by rfl) ?hyv ?o1
   case hyv=>
    intro wz hSw;obtain ⟨c0,c1,c2,c3,c4,c5⟩:=hSw;go_simp
    try rfl
   try simp only [Act.put,sT,sZ,sS]
   refine' zE (i:=1) (v:=_) rfl (by kernel_rfl) (by kernel_rfl) (by kernel_rfl) (by kernel_rfl) (fun _ _ _ h=>h) hH (by rfl) ?hyv ?o2
   case hyv=>
    intro wz hSw;obtain ⟨c0,c1,c2,c3,c4,c5⟩:=hSw;go_simp
    try rfl
   try simp only [Act.put,sT,sZ,sS]
   refine' zE (i:=2) (v:=_) rfl (by kernel_rfl) (by kernel_rfl) (by kernel_rfl) (by kernel_rfl) (fun _ _ _ h=>h) hH (by rfl) ?hyv ?o3
   case hyv=>
    intro wz hSw;obtain ⟨c0,c1,c2,c3,c4,c5⟩:=hSw;go_simp
    try rfl
   try simp only [Act.put,sT,sZ,sS]
   refine zG (i:=3) rfl (by kernel_rfl) (by rfl) (fun K hK=>?_);go_simp;refine (HR _ _ hd3 (hG.far A4)).mono ?_;rintro r w5 ⟨a5,hres⟩;have A5:=A4.trans a5 A4.size;have z5:=a5.size;have hA5:=a5.keep hA4 (by omega) (by simp;omega);have hB5:=a5.keep hB4 (by omega) (by simp;omega);have he5:=he4.past a5 (fun i hi=>by simp;omega);clear hA4 hB4 he4 A4 a5 hd3 hH cb0 cb1 cb2 cb3 cb4 cb5
   cases ht:R (n1+1) with
   | err c0 a0=>
    rw [ht] at hres;obtain rfl:r=_:=hres;exact ⟨rfl,Post.fail (by rw [hst.out,ht];rfl) A5⟩
   | ok e6 n6=>
    rw [ht] at hres;obtain ⟨le5,h5,_,rfl,x6,rfl,he6⟩:=hres;have hmod:Hid (Ps.cmp I R nx=.ok (.mk 5 kk 0 ⟨#[]⟩ [] [e0,e6]) n6):=by
     show Ps.cmp I R nx=_
     rw [hst.out,ht];rfl
    clear hst ht;have he7:=he6.wide (ok':=fun i=>w.heap.size<i∧i≠w1.heap.size) (fun i hi _=>by omega);obtain ⟨cb0,cb1,cb2,cb3,cb4,cb5⟩:=zH hB5;have hH:=And.intro cb0 (And.intro cb1 (And.intro cb2 (And.intro cb3 (And.intro cb4 cb5))));refine hK.out _ _ (fun _=>hH) ?_;clear hK K
    try simp only [Act.put,sT,sZ,sS]
    refine zG (i:=4) rfl (by kernel_rfl) (by rfl) (fun K hK=>?_);go_simp;refine (zDg kk he5 he7 (fun i hi=>by omega)).mono ?_;rintro r w8 ⟨z,rfl,hez,b8⟩;have z8:=b8.size;have A8:=A5.trans (aside b8) A5.size;have hA8:=(aside b8 (S:=[])).keep hA5 (zC hA5) (by simp);have hB8:=(aside b8 (S:=[])).keep hB5 (zC hB5) (by simp);have h8:=h5.below b8;clear hA5 hB5 he5 he6 he7 A5 b8 h5 hH cb0 cb1 cb2 cb3 cb4 cb5;obtain ⟨cb0,cb1,cb2,cb3,cb4,cb5⟩:=zH hB8;have hH:=And.intro cb0 (And.intro cb1 (And.intro cb2 (And.intro cb3 (And.intro cb4 cb5))));have fA:=fun o=>fo hA8 o;obtain ⟨ca0,ca1,ca2,ca3,ca4,ca5⟩:=zH hA8;refine hK.out _ _ (fun _=>hH) ?_;clear hK K
    try simp only [Act.put,sT,sZ,sS]
    refine zG (i:=5) rfl (by kernel_rfl) (by rfl) (fun K hK=>?_);go_simp;refine hK.out _ _ (fun h=>by cases h) ?_;clear hK K
    try simp only [Act.put,sT,sZ,sS]
    refine zR (by kernel_rfl) ?_ _;go_wp2_with fail;refine bodyPost_ret (v:=.agg #[.int .i64 z.op,.int .i64 z.k,.int .i64 z.n,.string z.name,.slice z.aS z.nS z.cS,.slice z.aL z.nL z.cL]) (by simp [results,Tryz.results115,go_sem,ca0,ca1,ca2,ca3,ca4,ca5]) rfl ?_;exact Post.good hmod.out (A8.put6 (k:=w.heap.size) nR z) (by omega) (h8.put6 (k:=w.heap.size) (by omega) (by omega) z) ⟨z,rfl,((hez.wide (ok':=fun i=>w.heap.size<i) (fun i hi _=>hi.1)).put6 (k:=w.heap.size) (by simp) z).wide (fun i hi _=>Nat.le_of_lt hi)⟩
theorem zAG {b g cap:Nat} {I:Inp} {op:Nat} {A:Nat→Res Ex} (HA:Does 119 b g cap I op exV A):Does 108 b g cap I op exV (Ps.exprOf I A) :=
 expr_any (conj_any (cmp_any (sum_any (product_any HA))))
theorem Rd.opens {w:World} {b g cap:Nat} {L:List Tk.Tok} {len nx op:Nat} (h:Rd w b g cap L len nx op) (o2:Nat) (v:Int) (hv:v=(o2:Nat)):Rd (w.setCell ⟨b,3,none⟩ (.int .i64 v)) b g cap L len nx o2:=by
 subst hv;refine ⟨?_,h.toks.keep (Below.heap_setCell _ _ _ _ (fun e=>h.apart e.symm)),h.apart,by simpa [World.setCell] using h.gb,h.le,h.lc,h.cm⟩;simp [World.setCell,Array.getElem?_modify,h.here]
theorem Rd.free {w:World} {b g cap:Nat} {L:List Tk.Tok} {len nx op:Nat} (h:Rd w b g cap L len nx op) (o:Nat):w.frozen? ⟨b,o,none⟩=false:=fo h.here o
theorem jK {w:World} {b g cap:Nat} {I:Inp} {nx op:Nat} (h:Rd w b g cap I.L I.len nx op) (hop:60≤op) (fv:Value) :
  Calls Tryz.prog 123 #[.pointer (some ⟨b,0,none⟩),fv] w fun e w'=>e=upE 6 (I.pk nx).place∧Aside [b] w.heap.size w w':=by
 have hb:=h.bb;have hp:=@xH _ _ _ _ _ _ _ _ (h.alloc Zb);unfold Inp.pk;obtain ⟨t,ht⟩:=nm (peekT I.L I.len nx);rw [←ht] at hp ⊢;unfold tokV at hp;clear ht;have hf:=fun x w=>tokF1 t x w;obtain ⟨c0,c1,c2,c3,_⟩:=(h.alloc Zb).cells;have hd:decide ((60:Int)≤op)=true:=(by simp;omega);go_enter Tryz.func123,Tryz.ntmps123;go_wp2_with fail;refine hp.mono ?_;rintro e w1 ⟨rfl,b1⟩;go_wp2_with fail;refine (jF _ _ _).mono ?_;rintro e w2 ⟨rfl,rfl⟩;exact ⟨rfl,rfl,((Aside.refl w).alloc nR _).trans (aside b1) (by simp)⟩
def exO (ok0:Nat→Prop):Nat→World→Value→Ex→Prop:=fun B w x e=>∃ y:ExV,x=.agg #[.int .i64 y.op,.int .i64 y.k,.int .i64 y.n,.string y.name,.slice y.aS y.nS y.cS,.slice y.aL y.nL y.cL]∧HEx (fun i=>ok0 i∨B≤i) w y.cells e
theorem exO_of {B:Nat} {w:World} {x:Value} {e:Ex} (ok0:Nat→Prop) (h:exV B w x e):exO ok0 B w x e:=by
 obtain ⟨y,hx,he⟩:=h;exact ⟨y,hx,he.wide fun i hi _=>.inr hi⟩
theorem exV_of {B:Nat} {w:World} {x:Value} {e:Ex} (h:exO (fun _=>False) B w x e):exV B w x e:=by
 obtain ⟨y,hx,he⟩:=h;exact ⟨y,hx,he.wide fun i hi _=>hi.elim False.elim id⟩
theorem Post.mono {α:Type} {b g cap:Nat} {I:Inp} {op:Nat} {V V':Nat→World→Value→α→Prop} {nx:Nat} {w:World} {res:Res α} {r:Ending} {w':World} (hV:∀ B w x v,V B w x v→V' B w x v) (h:Post b g cap I op V nx w res r w'):Post b g cap I op V' nx w res r w':=by
 obtain ⟨h1,h2⟩:=h;refine ⟨h1,?_⟩
 cases res with
 | ok v n=>obtain ⟨a,b,x,c,d⟩:=h2;exact ⟨a,b,x,c,hV _ _ _ _ d⟩
 | err c a=>exact h2
theorem zAl {ok0:Nat→Prop} {w:World} {b g cap:Nat} {I:Inp} {nx op F:Nat} {first caps:Array Value} {R0:Res Ex} (h:Rd w b g cap I.L I.len nx op) (hok:∀ i,ok0 i→i<w.heap.size∧i≠b) (hop:op<60) (hlt:nx<I.L.length) (hent:∀ args w,(callFunc F args).run Tryz.prog w=.ok (.enter F args) w)
  (HF:∀ w',Rd w' b g cap I.L I.len (nx+1) (op+1)→Aside [b] w.heap.size w w'→Calls Tryz.prog F (first++caps) w' (Post b g cap I (op+1) (exO ok0) (nx+1) w' R0)) :
  Calls Tryz.prog 123 #[.pointer (some ⟨b,0,none⟩),.func (.func F) first caps] w (Post b g cap I op (exO ok0) (nx+1) w R0):=by
 have hb:=h.bb;have hg:=h.gb;have h0:=h.alloc Zb;have A0:=(Aside.refl (S:=[b]) (B:=w.heap.size) w).alloc nR Zb;have hN0:=zF w Zb;have zN:(w.alloc Zb).heap.size=w.heap.size+1:=(by simp);have hd:decide ((60:Int)≤op)=false:=(by simp;omega);go_enter Tryz.func123,Tryz.ntmps123;go_upto_region 1 with fail;generalize w.alloc Zb=W at h0 A0 hN0 zN ⊢;obtain ⟨c0,c1,c2,c3,_⟩:=h0.cells;have fb:=h0.free 3;have h1:=h0.opens (op+1) ((op:Int)+1) (by omega);have A1:Aside [b] w.heap.size w (W.setCell ⟨b,3,none⟩ (.int .i64 ((op:Int)+1))):=A0.trans (Aside.setCell (by simp) _) A0.size;have hN1:=zK hN0 (p:=⟨b,3,none⟩) (by simp;omega) (.int .i64 ((op:Int)+1));have z1:(W.setCell ⟨b,3,none⟩ (.int .i64 ((op:Int)+1))).heap.size=W.heap.size:=(by simp [World.setCell]);go_wp2_with fail;generalize W.setCell ⟨b,3,none⟩ (.int .i64 ((op:Int)+1))=W1 at h1 A1 hN1 z1 ⊢;clear c0 c1 c2 c3 fb h0 A0 hN0;refine (qS h1 hlt).mono ?_;rintro e w2 ⟨rfl,h2,a2⟩;have z2:=a2.size;have A2:=A1.trans a2 A1.size;have hN2:=a2.keep hN1 (by omega) (by simp;omega);clear a2 A1 hN1 h1;go_wp2_with fail;refine (HF w2 h2 A2).mono ?_;rintro e w3 ⟨a3,hres⟩;have z3:=a3.size;have A3:=A2.trans a3 A2.size;have hN3:=a3.keep hN2 (by omega) (by simp;omega);clear a3 A2 hN2 h2 HF
 cases R0 with
 | err c0 a0=>
  obtain rfl:e=_:=hres;exact ⟨rfl,Post.fail rfl A3⟩
 | ok e0 n1=>
  obtain ⟨le3,h3,_,rfl,y,rfl,he3⟩:=hres;have he4:=(he3.wide (ok':=fun i=>(ok0 i∨w.heap.size<i)∧i≠w.heap.size∧i≠b∧i≠w3.heap.size) (fun i hi hl=>hi.elim (fun q=>have:=hok i q;⟨.inl q,by omega,by omega,by omega⟩) (fun q=>⟨.inr (by omega),by omega,by omega,by omega⟩))).under ((Below.refl _ w3).alloc nR (.cells (exC y) 45 (0,0)));have h4:=h3.alloc (.cells (exC y) 45 (0,0));have A4:=A3.alloc A3.size (.cells (exC y) 45 (0,0));have hN4:=kA hN3 (.cells (exC y) 45 (0,0));have hT4:=zF w3 (.cells (exC y) 45 (0,0));have z4:(w3.alloc (.cells (exC y) 45 (0,0))).heap.size=w3.heap.size+1:=(by simp);obtain ⟨c0,c1,c2,c3,_⟩:=h4.cells;have fb:=h4.free 3;have f4:=fun o=>fo hN4 o;obtain ⟨ca0,ca1,ca2,ca3,ca4,ca5⟩:=zH hN4;obtain ⟨cb0,cb1,cb2,cb3,cb4,cb5⟩:=zH hT4;go_wp2;have h5:=h4.opens op (op:Int) rfl;have A5:=A4.trans (Aside.setCell (S:=[b]) (B:=w.heap.size) (p:=⟨b,3,none⟩) (by simp) (.int .i64 (op:Int))) nR;have he5:=he4.set (p:=⟨b,3,none⟩) (by simp) (.int .i64 (op:Int));refine bodyPost_ret (v:=.agg #[.int .i64 y.op,.int .i64 y.k,.int .i64 y.n,.string y.name,.slice y.aS y.nS y.cS,.slice y.aL y.nL y.cL]) (by simp [results,Tryz.results123,go_sem,ca0,ca1,ca2,ca3,ca4,ca5]) rfl ?_;exact Post.good rfl (A5.put6 (k:=w.heap.size) nR y) (by omega) (h5.put6 (k:=w.heap.size) (by omega) (by omega) y) ⟨y,rfl,(he5.put6 (k:=w.heap.size) (by simp) y).wide (fun i hi _=>hi.1.imp id Nat.le_of_lt)⟩
theorem zBs {ok:Nat→Prop} {w:World} {x:ExV} {a:Ex} (hx:HEx ok w x.cells a) (t:TypeId) (hok:ok w.heap.size) :
  HExs ok (w.alloc (.cells #[.int .i64 x.op,.int .i64 x.k,.int .i64 x.n,.string x.name,.slice x.aS x.nS x.cS,.slice x.aL x.nL x.cL] t (0,0))) (.slice (some ⟨w.heap.size,0,none⟩) 1 1) [a]:=by
 have hn:=zF w (.cells #[.int .i64 x.op,.int .i64 x.k,.int .i64 x.n,.string x.name,.slice x.aS x.nS x.cS,.slice x.aL x.nL x.cL] t (0,0));have hb:=((Below.refl w.heap.size w).alloc nR (.cells #[.int .i64 x.op,.int .i64 x.k,.int .i64 x.n,.string x.name,.slice x.aS x.nS x.cS,.slice x.aL x.nL x.cL] t (0,0)));refine ⟨fun i=>x.cells,⟨_,1,rfl,Nat.le_refl _,by decide,fun _=>⟨_,0,rfl,hok,zC hn,fun i hi=>?_⟩⟩,fun i hi=>?_⟩
 ·match i,hi with
  | 0,_=>exact ⟨rfl,fun j hj=>by rw [co hn];match j,hj with | 0,_=>rfl | 1,_=>rfl | 2,_=>rfl | 3,_=>rfl | 4,_=>rfl | 5,_=>rfl⟩
 ·match i,hi with
  | 0,_=>exact hx.under hb
theorem zAt {ok:Nat→Prop} {w:World} {x y z:ExV} {a c d:Ex} (hx:HEx ok w x.cells a) (hy:HEx ok w y.cells c) (hz:HEx ok w z.cells d) (t:TypeId) (hok:ok w.heap.size) :
  HExs ok (w.alloc (.cells #[.int .i64 x.op,.int .i64 x.k,.int .i64 x.n,.string x.name,.slice x.aS x.nS x.cS,.slice x.aL x.nL x.cL,.int .i64 y.op,.int .i64 y.k,.int .i64 y.n,.string y.name,.slice y.aS y.nS y.cS,.slice y.aL y.nL y.cL,.int .i64 z.op,.int .i64 z.k,.int .i64 z.n,.string z.name,.slice z.aS z.nS z.cS,.slice z.aL z.nL z.cL] t (0,0))) (.slice (some ⟨w.heap.size,0,none⟩) 3 3) [a,c,d]:=by
 have hn:=zF w (.cells #[.int .i64 x.op,.int .i64 x.k,.int .i64 x.n,.string x.name,.slice x.aS x.nS x.cS,.slice x.aL x.nL x.cL,.int .i64 y.op,.int .i64 y.k,.int .i64 y.n,.string y.name,.slice y.aS y.nS y.cS,.slice y.aL y.nL y.cL,.int .i64 z.op,.int .i64 z.k,.int .i64 z.n,.string z.name,.slice z.aS z.nS z.cS,.slice z.aL z.nL z.cL] t (0,0));have hb:=((Below.refl w.heap.size w).alloc nR (.cells #[.int .i64 x.op,.int .i64 x.k,.int .i64 x.n,.string x.name,.slice x.aS x.nS x.cS,.slice x.aL x.nL x.cL,.int .i64 y.op,.int .i64 y.k,.int .i64 y.n,.string y.name,.slice y.aS y.nS y.cS,.slice y.aL y.nL y.cL,.int .i64 z.op,.int .i64 z.k,.int .i64 z.n,.string z.name,.slice z.aS z.nS z.cS,.slice z.aL z.nL z.cL] t (0,0)));refine ⟨fun i=>if i=0 then x.cells else if i=1 then y.cells else z.cells,⟨_,3,rfl,Nat.le_refl _,by decide,fun _=>⟨_,0,rfl,hok,zC hn,fun i hi=>?_⟩⟩,fun i hi=>?_⟩
 ·match i,hi with
  | 0,_=>exact ⟨rfl,fun j hj=>by rw [co hn];match j,hj with | 0,_=>rfl | 1,_=>rfl | 2,_=>rfl | 3,_=>rfl | 4,_=>rfl | 5,_=>rfl⟩
  | 1,_=>exact ⟨rfl,fun j hj=>by rw [co hn];match j,hj with | 0,_=>rfl | 1,_=>rfl | 2,_=>rfl | 3,_=>rfl | 4,_=>rfl | 5,_=>rfl⟩
  | 2,_=>exact ⟨rfl,fun j hj=>by rw [co hn];match j,hj with | 0,_=>rfl | 1,_=>rfl | 2,_=>rfl | 3,_=>rfl | 4,_=>rfl | 5,_=>rfl⟩
 ·match i,hi with
  | 0,_=>exact hx.under hb
  | 1,_=>exact hy.under hb
  | 2,_=>exact hz.under hb
theorem qO {ok:Nat→Prop} {w:World}:HSizes ok w (.slice none 0 0) []:=⟨fun _=>[],Sl.nil,fun i h=>absurd h (Nat.not_lt_zero _)⟩
theorem zBW {ok:Nat→Prop} {w:World}:HExs ok w (.slice none 0 0) []:=⟨fun _=>[],Sl.nil,fun i h=>absurd h (Nat.not_lt_zero _)⟩
theorem zDn {b g cap:Nat} {I:Inp} {op:Nat} {E:Nat→Res Ex} (HE:Does 108 b g cap I op exV E):Does 125 b g cap I op exV (Ps.bracketed I E):=by
 intro nx w h hG;have hb:=h.bb;have hg:=h.gb;go_enter Tryz.func125,Tryz.ntmps125;go_wp2_with fail;refine (HE _ _ (h.alloc _) (hG.alloc _)).mono ?_;rintro e w1 ⟨a1,hres⟩;have z1:w.heap.size+1≤w1.heap.size:=(by simpa using a1.size);have hA1:=a1.keep (zF w _) (by simp) (by simp;omega);have A1:=((Aside.refl (S:=[b]) (B:=w.heap.size) w).alloc nR _).trans a1 (by simp)
 cases ht:E nx with
 | err c0 a0=>
  rw [ht] at hres;obtain rfl:e=_:=hres;exact ⟨rfl,Post.fail (by unfold Ps.bracketed;rw [ht];rfl) A1⟩
 | ok e0 n1=>
  rw [ht] at hres;obtain ⟨le1,h1,_,rfl,y,rfl,he1⟩:=hres;have HT:=zD ht;clear ht a1;go_wp2_with fail;have he2:=(he1.wide (ok':=fun i=>w.heap.size<i∧i<w1.heap.size) (fun i hi hl=>by simp at hi;omega)).under ((Below.refl _ w1).alloc nR (.cells (exC y) 45 (0,0)));refine (zM (h1.alloc _) ⟨#[41]⟩ (by decide)).mono ?_;rintro e w2 ⟨a2,hres⟩;have es:(⟨#[41]⟩:ByteArray).data.toList=[41]:=rfl;rw [es] at hres;clear es;have z2:w1.heap.size+1≤w2.heap.size:=(by simpa using a2.size);have A2:=(A1.alloc (by omega) _).trans a2 (by simp;omega);have hA2:=a2.keep (kA hA1 _) (by simp;omega) (by simp;omega);have hT2:=a2.keep (zF w1 _) (by simp) (by simp;omega);have he3:=he2.past a2 (fun i hi=>by simp;omega);clear a2 A1 hA1 he1 he2 h1
  cases hn:Ps.need I [41] n1 with
  | err c0 a0=>
   rw [hn] at hres;obtain rfl:e=_:=hres;exact ⟨rfl,Post.fail (by unfold Ps.bracketed;rw [HT.out];simp only [Res.bind];rw [hn]) A2⟩
  | ok u n2=>
   rw [hn] at hres;obtain ⟨le2,h2,_,rfl,rfl⟩:=hres;have hm:Hid (Ps.bracketed I E nx=.ok e0 n2):=by
    show Ps.bracketed I E nx=_
    unfold Ps.bracketed;rw [HT.out];simp only [Res.bind];rw [hn]
   clear hn HT;have fa:=fun o=>fo hA2 o;obtain ⟨ca0,ca1,ca2,ca3,ca4,ca5⟩:=zH hA2;obtain ⟨cb0,cb1,cb2,cb3,cb4,cb5⟩:=zH hT2;go_wp2;refine bodyPost_ret (v:=.agg #[.int .i64 y.op,.int .i64 y.k,.int .i64 y.n,.string y.name,.slice y.aS y.nS y.cS,.slice y.aL y.nL y.cL]) (by simp [results,Tryz.results125,go_sem,ca0,ca1,ca2,ca3,ca4,ca5]) rfl ?_;exact Post.good hm.out (A2.put6 (k:=w.heap.size) nR y) (by omega) (h2.put6 (k:=w.heap.size) (by omega) (by omega) y) ⟨y,rfl,(he3.put6 (k:=w.heap.size) (by simp) y).wide (fun i hi _=>Nat.le_of_lt hi.1)⟩
theorem choice_any {b g cap:Nat} {I:Inp} {op:Nat} {E:Nat→Res Ex} (HE:Does 108 b g cap I op exV E):Does 126 b g cap I op exV (Ps.choice I E):=by
 intro nx w h hG;have hb:=h.bb;have hg:=h.gb;go_enter Tryz.func126,Tryz.ntmps126;go_wp2_with fail;refine (HE _ _ (h.alloc _) (hG.alloc _)).mono ?_;rintro e w1 ⟨a1,hres⟩;have z1:w.heap.size+1≤w1.heap.size:=(by simpa using a1.size);have hA1:=a1.keep (zF w _) (by simp) (by simp;omega);have A1:=((Aside.refl (S:=[b]) (B:=w.heap.size) w).alloc nR _).trans a1 (by simp)
 cases ht:E nx with
 | err c0 a0=>
  rw [ht] at hres;obtain rfl:e=_:=hres;exact ⟨rfl,Post.fail (by unfold Ps.choice;rw [ht];rfl) A1⟩
 | ok e1 n1=>
  rw [ht] at hres;obtain ⟨le1,h1,_,rfl,x1,rfl,he1⟩:=hres;have m1:Hid (Ps.choice I E nx=(Ps.need I [116,104,101,110] n1).bind fun _ n2=>(E n2).bind fun y n3=>(Ps.need I [101,108,115,101] n3).bind fun _ n4=>(E n4).bind fun z n5=>.ok (.mk 6 0 0 ⟨#[]⟩ [] [e1,y,z]) n5):=by
   show Ps.choice I E nx=_
   unfold Ps.choice;rw [ht];rfl
  clear ht a1;go_wp2_with fail;have he2:=(he1.wide (ok':=fun i=>w.heap.size<i∧i<w1.heap.size) (fun i hi hl=>by simp at hi;omega)).under ((Below.refl _ w1).alloc nR (.cells (exC x1) 45 (0,0)));refine (zM (h1.alloc _) ⟨#[116,104,101,110]⟩ (by decide)).mono ?_;rintro e w2 ⟨a2,hres⟩;have es:(⟨#[116,104,101,110]⟩:ByteArray).data.toList=[116,104,101,110]:=rfl;rw [es] at hres;clear es;have z2:w1.heap.size+1≤w2.heap.size:=(by simpa using a2.size);have A2:=(A1.alloc (by omega) _).trans a2 (by simp;omega);have hA2:=a2.keep (kA hA1 _) (by simp;omega) (by simp;omega);have hT2:=a2.keep (zF w1 _) (by simp) (by simp;omega);have he3:=he2.past a2 (fun i hi=>by simp;omega);clear a2 A1 hA1 he1 he2 h1
  cases hn:Ps.need I [116,104,101,110] n1 with
  | err c0 a0=>
   rw [hn] at hres;obtain rfl:e=_:=hres;exact ⟨rfl,Post.fail (by rw [m1.out,hn];rfl) A2⟩
  | ok u n2=>
   rw [hn] at hres;obtain ⟨le2,h2,_,rfl,rfl⟩:=hres;have m2:Hid (Ps.choice I E nx=(E n2).bind fun y n3=>(Ps.need I [101,108,115,101] n3).bind fun _ n4=>(E n4).bind fun z n5=>.ok (.mk 6 0 0 ⟨#[]⟩ [] [e1,y,z]) n5):=by
    show Ps.choice I E nx=_
    rw [m1.out,hn];rfl
   clear hn m1;go_wp2_with fail;refine (HE _ _ h2 (hG.far A2)).mono ?_;rintro e w3 ⟨a3,hres⟩;have z3:=a3.size;have A3:=A2.trans a3 A2.size;have hA3:=a3.keep hA2 (by omega) (by simp;omega);have hT3:=a3.keep hT2 (by omega) (by simp;omega);have he4:=he3.past a3 (fun i hi=>by simp;omega);clear a3 A2 hA2 hT2 he3 h2
   cases ht:E n2 with
   | err c0 a0=>
    rw [ht] at hres;obtain rfl:e=_:=hres;exact ⟨rfl,Post.fail (by rw [m2.out,ht];rfl) A3⟩
   | ok e3 n3=>
    rw [ht] at hres;obtain ⟨le3,h3,_,rfl,x3,rfl,hf3⟩:=hres;have m3:Hid (Ps.choice I E nx=(Ps.need I [101,108,115,101] n3).bind fun _ n4=>(E n4).bind fun z n5=>.ok (.mk 6 0 0 ⟨#[]⟩ [] [e1,e3,z]) n5):=by
     show Ps.choice I E nx=_
     rw [m2.out,ht];rfl
    clear ht m2;go_wp2_with fail;have hf4:=(hf3.wide (ok':=fun i=>w1.heap.size<i∧i<w3.heap.size) (fun i hi hl=>by omega)).under ((Below.refl _ w3).alloc nR (.cells (exC x3) 45 (0,0)));have he5:=he4.under ((Below.refl _ w3).alloc nR (.cells (exC x3) 45 (0,0)));refine (zM (h3.alloc _) ⟨#[101,108,115,101]⟩ (by decide)).mono ?_;rintro e w4 ⟨a4,hres⟩;have es:(⟨#[101,108,115,101]⟩:ByteArray).data.toList=[101,108,115,101]:=rfl;rw [es] at hres;clear es;have z4:w3.heap.size+1≤w4.heap.size:=(by simpa using a4.size);have A4:=(A3.alloc A3.size _).trans a4 (by simp;omega);have hA4:=a4.keep (kA hA3 _) (by simp;omega) (by simp;omega);have hT4:=a4.keep (kA hT3 _) (by simp;omega) (by simp;omega);have hU4:=a4.keep (zF w3 _) (by simp) (by simp;omega);have he6:=he5.past a4 (fun i hi=>by simp;omega);have hf6:=hf4.past a4 (fun i hi=>by simp;omega);clear a4 A3 hA3 hT3 he4 he5 hf3 hf4 h3
    cases hn:Ps.need I [101,108,115,101] n3 with
    | err c0 a0=>
     rw [hn] at hres;obtain rfl:e=_:=hres;exact ⟨rfl,Post.fail (by rw [m3.out,hn];rfl) A4⟩
    | ok u n4=>
     rw [hn] at hres;obtain ⟨le4,h4,_,rfl,rfl⟩:=hres;have m4:Hid (Ps.choice I E nx=(E n4).bind fun z n5=>.ok (.mk 6 0 0 ⟨#[]⟩ [] [e1,e3,z]) n5):=by
      show Ps.choice I E nx=_
      rw [m3.out,hn];rfl
     clear hn m3;go_wp2_with fail;refine (HE _ _ h4 (hG.far A4)).mono ?_;rintro e w5 ⟨a5,hres⟩;have z5:=a5.size;have A5:=A4.trans a5 A4.size;have hA5:=a5.keep hA4 (by omega) (by simp;omega);have hT5:=a5.keep hT4 (by omega) (by simp;omega);have hU5:=a5.keep hU4 (by omega) (by simp;omega);have he7:=he6.past a5 (fun i hi=>by simp;omega);have hf7:=hf6.past a5 (fun i hi=>by simp;omega);clear a5 A4 hA4 hT4 hU4 he6 hf6 h4
     cases ht:E n4 with
     | err c0 a0=>
      rw [ht] at hres;obtain rfl:e=_:=hres;exact ⟨rfl,Post.fail (by rw [m4.out,ht];rfl) A5⟩
     | ok e5 n5=>
      rw [ht] at hres;obtain ⟨le5,h5,_,rfl,x5,rfl,hg5⟩:=hres;have m5:Hid (Ps.choice I E nx=.ok (.mk 6 0 0 ⟨#[]⟩ [] [e1,e3,e5]) n5):=by
       show Ps.choice I E nx=_
       rw [m4.out,ht];rfl
      clear ht m4;obtain ⟨W,hW⟩:=nm (w5.alloc (.cells (exC x5) 45 (0,0)));have zW:=xU hW;have bW:=xA hW;have hVW:W.heap[w5.heap.size]?=some (.cells (exC x5) 45 (0,0)):=(by rw [hW];exact zF w5 _);have hAW:=(aside bW (S:=[])).keep hA5 (zC hA5) (by simp);have hTW:=(aside bW (S:=[])).keep hT5 (zC hT5) (by simp);have hUW:=(aside bW (S:=[])).keep hU5 (zC hU5) (by simp);have q1:=(he7.wide (ok':=fun i=>w.heap.size<i) (fun i hi _=>by omega)).under bW;have q3:=(hf7.wide (ok':=fun i=>w.heap.size<i) (fun i hi _=>by omega)).under bW;have q5:=(hg5.wide (ok':=fun i=>w.heap.size<i) (fun i hi _=>by omega)).under bW;have hS:=A5.trans (aside bW) A5.size;have hR:=h5.below bW;have fa:=fun o=>fo hAW o;clear hA5 hT5 hU5 he7 hf7 hg5 h5 A5;obtain ⟨ca0,ca1,ca2,ca3,ca4,ca5⟩:=zH hAW;obtain ⟨cb0,cb1,cb2,cb3,cb4,cb5⟩:=zH hTW;obtain ⟨cc0,cc1,cc2,cc3,cc4,cc5⟩:=zH hUW;obtain ⟨cd0,cd1,cd2,cd3,cd4,cd5⟩:=zH hVW;go_upto_region 6 with fail;rw [←hW];clear hW;have hlt:w.heap.size<W.heap.size:=(by omega);have ZW:=zD zW;clear zW;go_wp2;refine bodyPost_ret (v:=.agg #[.int .i64 6,.int .i64 0,.int .i64 0,.string ⟨#[]⟩,.slice none 0 0,.slice (some ⟨W.heap.size,0,none⟩) 3 3]) (by simp [results,Tryz.results126,go_sem,ca0,ca1,ca2,ca3,ca4,ca5,hlt]) rfl ?_;have zP:(put6 W w.heap.size ⟨6,0,0,⟨#[]⟩,none,0,0,some ⟨W.heap.size,0,none⟩,3,3⟩).heap.size=W.heap.size:=jU _ _ _;have hLit:=zAt (q1.put6 (k:=w.heap.size) (by simp) ⟨6,0,0,⟨#[]⟩,none,0,0,some ⟨W.heap.size,0,none⟩,3,3⟩) (q3.put6 (k:=w.heap.size) (by simp) ⟨6,0,0,⟨#[]⟩,none,0,0,some ⟨W.heap.size,0,none⟩,3,3⟩) (q5.put6 (k:=w.heap.size) (by simp) ⟨6,0,0,⟨#[]⟩,none,0,0,some ⟨W.heap.size,0,none⟩,3,3⟩) 45 (by rw [zP];omega);rw [zP] at hLit;exact Post.good m5.out ((hS.put6 (k:=w.heap.size) nR ⟨6,0,0,⟨#[]⟩,none,0,0,some ⟨W.heap.size,0,none⟩,3,3⟩).alloc (by rw [zP];omega) _) (by omega) ((hR.put6 (k:=w.heap.size) (by omega) (by omega) ⟨6,0,0,⟨#[]⟩,none,0,0,some ⟨W.heap.size,0,none⟩,3,3⟩).alloc _) ⟨⟨6,0,0,⟨#[]⟩,none,0,0,some ⟨W.heap.size,0,none⟩,3,3⟩,rfl,(HEx.make (x:=⟨6,0,0,⟨#[]⟩,none,0,0,some ⟨W.heap.size,0,none⟩,3,3⟩) (e:=.mk 6 0 0 ⟨#[]⟩ [] [e1,e3,e5]) rfl rfl rfl rfl qO hLit).wide (fun i hi _=>Nat.le_of_lt hi)⟩
end Go.Proofs.YthkpanbgkimhoaaGreatDoor
namespace Go.Proofs.YthkpanbgkimhoaaGreatDoor
open Go.RowKit Go.IntWalk
variable {b g cap:Nat} {ao:Option Addr} {I:Inp}
def Fin (M:Res Ex) (pt:Int) (x:Ex) (s:Res Int):Prop :=
 match s with
 | .ok p n=>M=.ok x n∧p=pt+(Ps.count x:Int)
 | .err c a=>M=.err c a
theorem qI {M:Res Ex} {w':World} {pt:Int} {x:Ex} {s:Res Int} (h:Fin M pt x s) (hA:At w' b g cap ao I s):XOut w' b g cap ao I pt M x:=by
 cases s with
 | ok p n=>
  obtain ⟨hM,rfl⟩:=h;rw [hM];exact ⟨rfl,hA⟩
 | err c a=>
  rw [show M=.err c a from h];exact hA
theorem sign_fin {M:Res Ex} {A:Nat→Res Ex} {pt k:Int} {n:Nat} {x:Ex} (hM:M=Ps.signed A k (n+1)) (hx:Got A (.ok pt (n+1)) x):Fin M pt (.mk 4 k 0 ⟨#[]⟩ [] [x]) (partS (exprS A (.ok pt (n+1)))):=by
 unfold Ps.signed at hM
 cases hr:A (n+1) with
 | ok v m=>
  obtain rfl:=hx pt (n+1) v m rfl hr;rw [hr] at hM;simp only [exprS,partS,Res.bind,hr];refine ⟨hM,?_⟩;simp only [Ps.count,Ps.countL];omega
 | err c a=>
  rw [hr] at hM;simp only [exprS,partS,Res.bind,hr];exact hM
theorem zAC {I:Inp} {x:List UInt8} {s:Res Int} (h:FewS I s):FewS I (mustS I x s):=by
 intro p n e;obtain ⟨q,m,rfl,e2⟩:=Res.bind_ok e;obtain ⟨v,m2,e3,e4⟩:=Res.bind_ok e2;obtain ⟨rfl,rfl⟩:=zZ e4;have:=xV e3;obtain ⟨f1,f2⟩:=h q m rfl;exact ⟨f1,by omega⟩
theorem vY {I:Inp} {p:Int} {n:Nat} (h:FewS I (.ok p n)):FewS I (.ok p (n+1)):=by
 intro p2 n2 e2
 cases e2
 obtain ⟨u1,u2⟩:=h p n rfl;exact ⟨u1,by omega⟩
theorem goes_index {M:Res Ex} {F:Nat→Ex→Nat→Res Ex} {I:Inp} {nx:Nat} {pt p:Int} {E:Nat→Res Ex} {e x1 x2:Ex} {f n:Nat} (hN:Nice E) (hM:M=(Ps.index I E e (n+1)).bind fun e1 n1=>F f e1 n1) (hp:p=pt+(Ps.count e:Int)) (hL:I.L.length≤n+(f+1)) (hc:Ps.count e+nx≤n)
  (g1:Got E (.ok p (n+1)) x1) (g2:Got E (mustS I [58] (exprS E (.ok p (n+1)))) x2):Goes M F I nx pt f (.mk 11 0 0 ⟨#[]⟩ [] [e,x1,x2]) (partS (mustS I [93] (exprS E (mustS I [58] (exprS E (.ok p (n+1))))))):=by
 unfold Ps.index at hM
 cases h1:E (n+1) with
 | err c a=>
  rw [h1] at hM;simp only [exprS,mustS,partS,Res.bind,h1];exact hM
 | ok v1 m1=>
  obtain rfl:=g1 p (n+1) v1 m1 rfl h1;have q1:=hN (n+1) x1 m1 h1;rw [←vA] at q1
  cases h2:Ps.need I [58] m1 with
  | err c a=>
   simp only [Res.bind,h1,h2] at hM;simp only [exprS,mustS,partS,Res.bind,h1,h2];exact hM
  | ok u2 m2=>
   have q2:=xV h2
   cases h3:E m2 with
   | err c a=>
    simp only [Res.bind,h1,h2,h3] at hM;simp only [exprS,mustS,partS,Res.bind,h1,h2,h3];exact hM
   | ok v3 m3=>
    obtain rfl:=g2 (p+(Ps.count x1:Int)) m2 v3 m3 (by simp only [exprS,mustS,Res.bind,h1,h2]) h3;have q3:=hN m2 x2 m3 h3;rw [←vA] at q3
    cases h4:Ps.need I [93] m3 with
    | err c a=>
     simp only [Res.bind,h1,h2,h3,h4] at hM;simp only [exprS,mustS,partS,Res.bind,h1,h2,h3,h4];exact hM
    | ok u4 m4=>
     have q4:=xV h4;simp only [Res.bind,h1,h2,h3,h4] at hM;simp only [exprS,mustS,partS,Res.bind,h1,h2,h3,h4];refine ⟨?_,by omega,?_,hM⟩
     ·simp only [Ps.count,Ps.countL];omega
     ·simp only [Ps.count,Ps.countL];omega
theorem zCx (I:Inp) (J:Option (Nat→Res Ex)) (n:Nat):(whichI I [[45],[110,111,116]] n = -1∧Ps.aheadS I J n=(Ps.unit I J n).bind fun e n1=>Ps.indices I J (I.L.length-n1) e n1)∨∃ j:Nat,j<2∧whichI I [[45],[110,111,116]] n=(j:Int)∧(Ps.sees I [45] n=true∨Ps.sees I [110,111,116] n=true)∧Ps.aheadS I J n=Ps.opn I J n fun A n1=>Ps.signed A (13+(j:Int)) n1:=by
 unfold whichI Ps.wordAt Ps.wordAt Ps.wordAt Ps.aheadS;by_cases h1:Ps.sees I [45] n=true
 ·exact .inr ⟨0,by decide,by simp [h1],.inl h1,by simp [h1]⟩
 by_cases h2:Ps.sees I [110,111,116] n=true
 ·exact .inr ⟨1,by decide,by simp [h1,h2],.inr h2,by simp [h1,h2]⟩
 exact .inl ⟨by simp [h1,h2],by simp [h1,h2]⟩
theorem zBa {I:Inp} {J:Option (Nat→Res Ex)} {n:Nat} {e:Ex} (h:Ps.sees I [91] n=false):∀ k,Ps.indices I J k e n=.ok e n
 | 0=>rfl
 | _+1=>by simp [Ps.indices,h]
theorem zBb {I:Inp} {J:Option (Nat→Res Ex)} {n:Nat} {e:Ex} (h:Ps.sees I [91] n=true) (k:Nat):Ps.indices I J (k+1) e n=(Ps.opn I J n fun A n1=>Ps.index I (Ps.exprOf I A) e n1).bind fun e1 n1=>Ps.indices I J k e1 n1:=by simp [Ps.indices,h]
theorem zCy {w:World} {nx:Nat} {pt:Int} (h:At w b g cap ao I (.ok pt nx)) (hn:nx<I.L.length) {op:Nat} (ho:60≤op) :
  Calls Tryz.prog 105 #[.pointer (some ⟨b,0,none⟩),.int .i64 (op:Int)] w fun e w'=>e=.returned (.bool false)∧At w' b g cap ao I (.err 6 (I.pk nx).place)∧Aside [b] w.heap.size w w':=by
 refine (opens_any h hn op).mono ?_;rintro e w' ⟨rfl,h1,h2⟩;have hd:decide (op<60)=false:=(by simp;omega);unfold opensR at h1;rw [if_pos ho] at h1;rw [hd];exact ⟨rfl,⟨by omega,h1⟩,h2⟩
theorem zCO {w:World} {nx:Nat} {pt:Int} (h:At w b g cap ao I (.ok pt nx)) (hn:nx<I.L.length) {op:Nat} (ho:op<60) :
  Calls Tryz.prog 105 #[.pointer (some ⟨b,0,none⟩),.int .i64 (op:Int)] w fun e w'=>e=.returned (.bool true)∧At w' b g cap ao I (.ok pt (nx+1))∧Aside [b] w.heap.size w w':=by
 refine (opens_any h hn op).mono ?_;rintro e w' ⟨rfl,h1,h2⟩;have hd:decide (op<60)=true:=(by simp;omega);unfold opensR at h1;rw [if_neg (by omega)] at h1;rw [hd];exact ⟨rfl,h1,h2⟩
theorem zCP (o:Int):XBad 96 [.int .i64 o] b g cap ao I:=by
 intro nx fc fa pt w h hf
 show Calls Tryz.prog 96 #[.pointer (some ⟨b,0,none⟩),.int .i64 o] w _
 obtain ⟨w1,hw1⟩:=nm (w.alloc Zb);have b1:=xA hw1;have K1:=xE hw1;have hfb:(fc != 0)=true:=bne_iff_ne.2 hf;go_enter Tryz.func96,Tryz.ntmps96;go_wp2_with fail;rw [←hw1];refine (zU (h.past b1)).mono ?_;rintro e w2 ⟨rfl,b2⟩;rw [hfb];have K2:=(b2.block _ (zC K1)).trans K1;have B2:=b1.trans (b2.mono b1.size);have fa:=fun o=>fo K2 o;obtain ⟨ca0,ca1,ca2,ca3,ca4,ca5⟩:=zH K2;clear hw1 b1 K1 b2 K2 hfb;go_wp2;exact bodyPost_ret (v:=exA (⟨0,0,0,⟨#[]⟩,none,0,0,none,0,0⟩:ExV)) (by simp [exA,results,Tryz.results96,go_sem,ca0,ca1,ca2,ca3,ca4,ca5]) rfl ⟨(⟨0,0,0,⟨#[]⟩,none,0,0,none,0,0⟩:ExV),_,rfl,zAm _ _,((((((B2.setCell (p:=⟨w.heap.size,0,none⟩) nR _).setCell (p:=⟨w.heap.size,1,none⟩) nR _).setCell (p:=⟨w.heap.size,2,none⟩) nR _).setCell (p:=⟨w.heap.size,3,none⟩) nR _).setCell (p:=⟨w.heap.size,4,none⟩) nR _).setCell (p:=⟨w.heap.size,5,none⟩) nR _)⟩
theorem aheadN_any {op:Nat} (hop:60≤op) (hop2:op≤1000) (hU:XDoes 106 [.int .i64 (op:Int)] b g cap ao I (Ps.unit I none)) (hS:Sure I):XDoes 96 [.int .i64 (op:Int)] b g cap ao I (Ps.aheadS I none):=by
 intro nx pt w h hgb hfew
 show Calls Tryz.prog 96 #[.pointer (some ⟨b,0,none⟩),.int .i64 (op:Int)] w _
 have hbb:=h.cells.2.2.2.2.2.2;have A_w:Aside [b] w.heap.size w w:=Aside.refl _;have at_w:At w b g cap ao I (.ok pt nx):=h;go_enter Tryz.func96,Tryz.ntmps96;obtain ⟨w1,hw1⟩:=nm (w.alloc Zb);have bw1:=xA hw1;have K_w1:=xE hw1;have z_w1:=xU hw1;have Z_w1:=zD z_w1;have at_w1:=at_w.past bw1;have A_w1:=A_w.trans (aside bw1) A_w.size;have y_w1:=bw1.size;go_wp2_with fail;rw [←hw1];clear at_w A_w bw1 hw1 z_w1;have hbad:=qP at_w1;refine hbad.mono ?_;rintro r w2 ⟨rfl,b2⟩;clear hbad;have K_w2:=(b2.block _ (zC K_w1)).trans K_w1;have at_w2:=at_w1.past b2;have A_w2:=A_w1.trans (aside b2) A_w1.size;have y_w2:=b2.size;clear K_w1 at_w1 A_w1 b2;obtain ⟨w3,hw3⟩:=nm (w2.alloc (.cells #[.string ⟨#[45]⟩,.string ⟨#[110,111,116]⟩] 9 (0,0)));have bw3:=xA hw3;have S_w3:=xE hw3;have z_w3:=xU hw3;have Z_w3:=zD z_w3;have K_w3:=(bw3.block _ (zC K_w2)).trans K_w2;have at_w3:=at_w2.past bw3;have A_w3:=A_w2.trans (aside bw3) A_w2.size;have y_w3:=bw3.size;go_wp2_with fail;rw [←hw3];clear K_w2 at_w2 A_w2 bw3 hw3 z_w3;have hwhich:=zX at_w3 [[45],[110,111,116]] (xN (l:=[[45],[110,111,116]]) S_w3 (by decide)) (by intro x hx;simp at hx;rcases hx with rfl | rfl<;>exact hS.known _ (by first | exact .inl (by decide) | exact .inr ⟨by decide,by decide⟩) (by decide));refine hwhich.mono ?_;rintro r w4 ⟨rfl,b4⟩;clear hwhich S_w3;have K_w4:=(b4.block _ (zC K_w3)).trans K_w3;have at_w4:=at_w3.past b4;have A_w4:=A_w3.trans (aside b4) A_w3.size;have y_w4:=b4.size;clear K_w3 at_w3 A_w3 b4;rcases zCx I none nx with ⟨q1,q2⟩ | ⟨j,hj,q1,q3,q2⟩
 ·rw [q1]
  have HM:=zD q2;clear q1 q2;go_wp2_with fail;refine (hU nx pt w4 at_w4 (by omega) hfew).mono ?_;rintro r w5 ⟨y,x,rfl,hx,a5,hout⟩;have hgo:∃ s k0,At w5 b g cap ao I s∧Goes (Ps.aheadS I none nx) (Ps.indices I none) I nx pt k0 x s:=by
   cases hr:Ps.unit I none nx with
   | ok v m=>
    rw [hr] at hout;obtain ⟨rfl,h2⟩:=hout;refine ⟨.ok (pt+(Ps.count v:Int)) m,I.L.length-m,h2,rfl,by omega,?_,?_⟩
    ·have:=zCS (I:=I) (J:=none) (fun A0 e=>by cases e) nx v m hr
     rw [vA];exact this
    ·rw [HM.out,hr];rfl
   | err c a=>
    rw [hr] at hout;exact ⟨.err c a,0,hout,by show _=_;rw [HM.out,hr];rfl⟩
  obtain ⟨s0,k0,at_w5,hg0⟩:=hgo;have HG0:=zD hg0;clear hg0 hout at_w4;have hx_w5:=hx.wide (ok':=fun i=>w.heap.size<i∧i≠w5.heap.size) (fun i hi hl=>by have:=Z_w1.out;have:=Z_w3.out;omega);clear hx;have K_w5:=a5.keep K_w4 (zC K_w4) (by simp;omega);have A_w5:=A_w4.trans a5 A_w4.size;have y_w5:=a5.size;clear K_w4 A_w4 a5;unfold exA;obtain ⟨w6,hw6⟩:=nm (w5.alloc (.cells (exC y) 45 (0,0)));have bw6:=xA hw6;have X_w6:=xE hw6;have z_w6:=xU hw6;have Z_w6:=zD z_w6;have K_w6:=(bw6.block _ (zC K_w5)).trans K_w5;have hx_w6:=hx_w5.under bw6;have at_w6:=at_w5.past bw6;have A_w6:=A_w5.trans (aside bw6) A_w5.size;have y_w6:=bw6.size;go_wp2_with fail;rw [←hw6];clear K_w5 hx_w5 at_w5 A_w5 bw6 hw6 z_w6;go_loopg [8,9] k0 (fun k v u wr=>∃ (s:Res Int) (y:ExV) (e:Ex),HEx (fun i=>w.heap.size<i∧i≠w5.heap.size) wr y.cells e∧At wr b g cap ao I s∧Aside [b] w.heap.size w wr∧wr.heap[w.heap.size]?=some Zb∧wr.heap[w5.heap.size]?=some (.cells (exC y) 45 (0,0))∧Hid (Goes (Ps.aheadS I none nx) (Ps.indices I none) I nx pt k e s))
  case atStart=>exact ⟨s0,y,x,hx_w6,at_w6,A_w6,K_w6,X_w6,HG0⟩
  case round=>
   clear hx_w6 at_w6 A_w6 K_w6 X_w6 HG0;obtain ⟨s,y,e,hx_wr,at_wr,A_wr,K_wr,X_wr,hgo⟩:=hrel;have zr:=zC X_wr;have zw:w.heap.size<w5.heap.size:=(by have:=Z_w1.out;have:=Z_w3.out;omega)
   cases s with
   | err c0 a0=>
    have hbad:=jP at_wr;go_wp2_with fail;refine hbad.mono ?_;rintro r w7 ⟨rfl,b7⟩;clear hbad;have K_w7:=(b7.block _ (zC K_wr)).trans K_wr;have X_w7:=(b7.block _ (zC X_wr)).trans X_wr;have hx_w7:=hx_wr.under b7;have at_w7:=at_wr.past b7;have A_w7:=A_wr.trans (aside b7) A_wr.size;have y_w7:=b7.size;clear K_wr X_wr hx_wr at_wr A_wr b7;have HA_w7:=zD at_w7;have fa:=fun o=>fo K_w7 o;obtain ⟨ca0,ca1,ca2,ca3,ca4,ca5⟩:=zH K_w7;obtain ⟨cb0,cb1,cb2,cb3,cb4,cb5⟩:=zH X_w7;clear at_w7 K_w7 X_w7;go_wp2;refine bodyPost_ret (v:=exA y) (by simp [exA,results,Tryz.results96,go_sem,ca0,ca1,ca2,ca3,ca4,ca5]) rfl ⟨y,e,rfl,(hx_w7.put6 (k:=w.heap.size) (by simp) y).wide (fun i hi _=>by omega),A_w7.put6 (k:=w.heap.size) nR y,?_⟩;exact qB hgo.out (HA_w7.out.put6 (k:=w.heap.size) (by omega) (by omega)  y) (fun p n e=>by cases e)
   | ok p n=>
    have hbad:=qP at_wr;go_wp2_with fail;refine hbad.mono ?_;rintro r w7 ⟨rfl,b7⟩;clear hbad;have K_w7:=(b7.block _ (zC K_wr)).trans K_wr;have X_w7:=(b7.block _ (zC X_wr)).trans X_wr;have hx_w7:=hx_wr.under b7;have at_w7:=at_wr.past b7;have A_w7:=A_wr.trans (aside b7) A_wr.size;have y_w7:=b7.size;clear K_wr X_wr hx_wr at_wr A_wr b7;have k91:=hS.known [91] (.inr ⟨by decide,by decide⟩) (by decide);have hsee:=xO at_w7 ⟨#[91]⟩;rw [show (⟨#[91]⟩:ByteArray).data.toList=[91] from rfl,k91] at hsee
    cases hq:Ps.sees I [91] n
    ·rw [hq] at hsee
     have HQ:=zD hq;clear hq k91;go_wp2_with fail;refine hsee.mono ?_;rintro r w8 ⟨rfl,b8⟩;clear hsee;have K_w8:=(b8.block _ (zC K_w7)).trans K_w7;have X_w8:=(b8.block _ (zC X_w7)).trans X_w7;have hx_w8:=hx_w7.under b8;have at_w8:=at_w7.past b8;have A_w8:=A_w7.trans (aside b8) A_w7.size;have y_w8:=b8.size;clear K_w7 X_w7 hx_w7 at_w7 A_w7 b8;have HA_w8:=zD at_w8;have fa:=fun o=>fo K_w8 o;obtain ⟨ca0,ca1,ca2,ca3,ca4,ca5⟩:=zH K_w8;obtain ⟨cb0,cb1,cb2,cb3,cb4,cb5⟩:=zH X_w8;clear at_w8 K_w8 X_w8;go_wp2;refine bodyPost_ret (v:=exA y) (by simp [exA,results,Tryz.results96,go_sem,ca0,ca1,ca2,ca3,ca4,ca5]) rfl ⟨y,e,rfl,(hx_w8.put6 (k:=w.heap.size) (by simp) y).wide (fun i hi _=>by omega),A_w8.put6 (k:=w.heap.size) nR y,?_⟩;exact qB hgo.out (HA_w8.out.put6 (k:=w.heap.size) (by omega) (by omega)  y) (fun p2 n2 e2=>by cases e2;exact zBa HQ.out _)
    ·rw [hq] at hsee
     have hlt:n<I.L.length:=xZ k91 hq;obtain ⟨hp,hL,hc,hM⟩:=hgo.out;have hfn:=zAF hgo.out hfew;obtain ⟨f,rfl⟩:∃ f,gk=f+1:=⟨gk-1,by omega⟩;have hst:=zD (hM.trans (zBb (J:=none) (e:=e) hq f));have HP:=zD hp;have HC:=zD hc;have HF:=zD hfn;have HL:=zD hL;clear hgo hM hq k91 hp hc hfn hL;go_wp2_with fail;refine hsee.mono ?_;rintro r w8 ⟨rfl,b8⟩;clear hsee;have K_w8:=(b8.block _ (zC K_w7)).trans K_w7;have X_w8:=(b8.block _ (zC X_w7)).trans X_w7;have hx_w8:=hx_w7.under b8;have at_w8:=at_w7.past b8;have A_w8:=A_w7.trans (aside b8) A_w7.size;have y_w8:=b8.size;clear K_w7 X_w7 hx_w7 at_w7 A_w7 b8;have hops:=zCy at_w8 hlt hop;go_wp2_with fail;refine hops.mono ?_;rintro r w9 ⟨rfl,at_w9,a9⟩;clear hops at_w8;have K_w9:=a9.keep K_w8 (zC K_w8) (by simp;omega);have X_w9:=a9.keep X_w8 (zC X_w8) (by simp;omega);have hx_w9:=hx_w8.past a9 (fun i hi=>by simp;omega);have A_w9:=A_w8.trans a9 A_w8.size;have y_w9:=a9.size;clear K_w8 X_w8 hx_w8 A_w8 a9;have HA_w9:=zD at_w9;have fa:=fun o=>fo K_w9 o;obtain ⟨ca0,ca1,ca2,ca3,ca4,ca5⟩:=zH K_w9;obtain ⟨cb0,cb1,cb2,cb3,cb4,cb5⟩:=zH X_w9;clear at_w9 K_w9 X_w9;go_wp2;refine bodyPost_ret (v:=exA y) (by simp [exA,results,Tryz.results96,go_sem,ca0,ca1,ca2,ca3,ca4,ca5]) rfl ⟨y,e,rfl,(hx_w9.put6 (k:=w.heap.size) (by simp) y).wide (fun i hi _=>by omega),A_w9.put6 (k:=w.heap.size) nR y,?_⟩;exact qI (s:=.err 6 (I.pk n).place) (by show _=_;rw [hst.out];rfl) (HA_w9.out.put6 (k:=w.heap.size) (by omega) (by omega)  y)
 ·rw [q1]
  have hlt:nx<I.L.length:=by
   rcases q3 with q | q
   ·exact xZ (hS.known _ (.inr ⟨by decide,by decide⟩) (by decide)) q
   ·exact xZ (hS.known _ (.inl (by decide)) (by decide)) q
  have HM:=zD q2;clear q1 q2 q3;have hops:=zCy at_w4 hlt hop;go_wp2_with fail;refine hops.mono ?_;rintro r w5 ⟨rfl,at_w5,a5⟩;clear hops at_w4;have K_w5:=a5.keep K_w4 (zC K_w4) (by simp;omega);have A_w5:=A_w4.trans a5 A_w4.size;have y_w5:=a5.size;clear K_w4 A_w4 a5;have HA_w5:=zD at_w5;have fa:=fun o=>fo K_w5 o;obtain ⟨ca0,ca1,ca2,ca3,ca4,ca5⟩:=zH K_w5;clear at_w5 K_w5;go_wp2;refine bodyPost_ret (v:=exA (⟨0,0,0,⟨#[]⟩,none,0,0,none,0,0⟩:ExV)) (by simp [exA,results,Tryz.results96,go_sem,ca0,ca1,ca2,ca3,ca4,ca5]) rfl ⟨(⟨0,0,0,⟨#[]⟩,none,0,0,none,0,0⟩:ExV),_,rfl,zAm _ _,A_w5.put6 (k:=w.heap.size) nR (⟨0,0,0,⟨#[]⟩,none,0,0,none,0,0⟩:ExV),?_⟩;exact qI (s:=.err 6 (I.pk nx).place) (by show _=_;rw [HM.out];rfl) (HA_w5.out.put6 (k:=w.heap.size) (by omega) (by omega)  (⟨0,0,0,⟨#[]⟩,none,0,0,none,0,0⟩:ExV))
theorem aheadQ_any {op:Nat} {A:Nat→Res Ex} (hop:op<60) (hN:Nice A) (hA:XDoes 96 [.int .i64 ((op:Int)+1)] b g cap ao I A) (hE:XDoes 87 [.int .i64 0,.int .i64 ((op:Int)+1)] b g cap ao I (Ps.exprOf I A)) (hEB:XBad 87 [.int .i64 0,.int .i64 ((op:Int)+1)] b g cap ao I) (hU:XDoes 106 [.int .i64 (op:Int)] b g cap ao I (Ps.unit I (some A))) (hS:Sure I):XDoes 96 [.int .i64 (op:Int)] b g cap ao I (Ps.aheadS I (some A)):=by
 intro nx pt w h hgb hfew
 show Calls Tryz.prog 96 #[.pointer (some ⟨b,0,none⟩),.int .i64 (op:Int)] w _
 have hbb:=h.cells.2.2.2.2.2.2;have A_w:Aside [b] w.heap.size w w:=Aside.refl _;have at_w:At w b g cap ao I (.ok pt nx):=h;go_enter Tryz.func96,Tryz.ntmps96;obtain ⟨w1,hw1⟩:=nm (w.alloc Zb);have bw1:=xA hw1;have K_w1:=xE hw1;have z_w1:=xU hw1;have Z_w1:=zD z_w1;have at_w1:=at_w.past bw1;have A_w1:=A_w.trans (aside bw1) A_w.size;have y_w1:=bw1.size;go_wp2_with fail;rw [←hw1];clear at_w A_w bw1 hw1 z_w1;have hbad:=qP at_w1;refine hbad.mono ?_;rintro r w2 ⟨rfl,b2⟩;clear hbad;have K_w2:=(b2.block _ (zC K_w1)).trans K_w1;have at_w2:=at_w1.past b2;have A_w2:=A_w1.trans (aside b2) A_w1.size;have y_w2:=b2.size;clear K_w1 at_w1 A_w1 b2;obtain ⟨w3,hw3⟩:=nm (w2.alloc (.cells #[.string ⟨#[45]⟩,.string ⟨#[110,111,116]⟩] 9 (0,0)));have bw3:=xA hw3;have S_w3:=xE hw3;have z_w3:=xU hw3;have Z_w3:=zD z_w3;have K_w3:=(bw3.block _ (zC K_w2)).trans K_w2;have at_w3:=at_w2.past bw3;have A_w3:=A_w2.trans (aside bw3) A_w2.size;have y_w3:=bw3.size;go_wp2_with fail;rw [←hw3];clear K_w2 at_w2 A_w2 bw3 hw3 z_w3;have hwhich:=zX at_w3 [[45],[110,111,116]] (xN (l:=[[45],[110,111,116]]) S_w3 (by decide)) (by intro x hx;simp at hx;rcases hx with rfl | rfl<;>exact hS.known _ (by first | exact .inl (by decide) | exact .inr ⟨by decide,by decide⟩) (by decide));refine hwhich.mono ?_;rintro r w4 ⟨rfl,b4⟩;clear hwhich S_w3;have K_w4:=(b4.block _ (zC K_w3)).trans K_w3;have at_w4:=at_w3.past b4;have A_w4:=A_w3.trans (aside b4) A_w3.size;have y_w4:=b4.size;clear K_w3 at_w3 A_w3 b4;rcases zCx I (some A) nx with ⟨q1,q2⟩ | ⟨j,hj,q1,q3,q2⟩
 ·rw [q1]
  have HM:=zD q2;clear q1 q2;go_wp2_with fail;refine (hU nx pt w4 at_w4 (by omega) hfew).mono ?_;rintro r w5 ⟨y,x,rfl,hx,a5,hout⟩;have hgo:∃ s k0,At w5 b g cap ao I s∧Goes (Ps.aheadS I (some A) nx) (Ps.indices I (some A)) I nx pt k0 x s:=by
   cases hr:Ps.unit I (some A) nx with
   | ok v m=>
    rw [hr] at hout;obtain ⟨rfl,h2⟩:=hout;refine ⟨.ok (pt+(Ps.count v:Int)) m,I.L.length-m,h2,rfl,by omega,?_,?_⟩
    ·have:=zCS (I:=I) (J:=(some A)) (fun A0 e=>by cases e;exact hN) nx v m hr
     rw [vA];exact this
    ·rw [HM.out,hr];rfl
   | err c a=>
    rw [hr] at hout;exact ⟨.err c a,0,hout,by show _=_;rw [HM.out,hr];rfl⟩
  obtain ⟨s0,k0,at_w5,hg0⟩:=hgo;have HG0:=zD hg0;clear hg0 hout at_w4;have hx_w5:=hx.wide (ok':=fun i=>w.heap.size<i∧i≠w5.heap.size) (fun i hi hl=>by have:=Z_w1.out;have:=Z_w3.out;omega);clear hx;have K_w5:=a5.keep K_w4 (zC K_w4) (by simp;omega);have A_w5:=A_w4.trans a5 A_w4.size;have y_w5:=a5.size;clear K_w4 A_w4 a5;unfold exA;obtain ⟨w6,hw6⟩:=nm (w5.alloc (.cells (exC y) 45 (0,0)));have bw6:=xA hw6;have X_w6:=xE hw6;have z_w6:=xU hw6;have Z_w6:=zD z_w6;have K_w6:=(bw6.block _ (zC K_w5)).trans K_w5;have hx_w6:=hx_w5.under bw6;have at_w6:=at_w5.past bw6;have A_w6:=A_w5.trans (aside bw6) A_w5.size;have y_w6:=bw6.size;go_wp2_with fail;rw [←hw6];clear K_w5 hx_w5 at_w5 A_w5 bw6 hw6 z_w6;go_loopg [8,9] k0 (fun k v u wr=>∃ (s:Res Int) (y:ExV) (e:Ex),HEx (fun i=>w.heap.size<i∧i≠w5.heap.size) wr y.cells e∧At wr b g cap ao I s∧Aside [b] w.heap.size w wr∧wr.heap[w.heap.size]?=some Zb∧wr.heap[w5.heap.size]?=some (.cells (exC y) 45 (0,0))∧Hid (Goes (Ps.aheadS I (some A) nx) (Ps.indices I (some A)) I nx pt k e s))
  case atStart=>exact ⟨s0,y,x,hx_w6,at_w6,A_w6,K_w6,X_w6,HG0⟩
  case round=>
   clear hx_w6 at_w6 A_w6 K_w6 X_w6 HG0;obtain ⟨s,y,e,hx_wr,at_wr,A_wr,K_wr,X_wr,hgo⟩:=hrel;have zr:=zC X_wr;have zw:w.heap.size<w5.heap.size:=(by have:=Z_w1.out;have:=Z_w3.out;omega)
   cases s with
   | err c0 a0=>
    have hbad:=jP at_wr;go_wp2_with fail;refine hbad.mono ?_;rintro r w7 ⟨rfl,b7⟩;clear hbad;have K_w7:=(b7.block _ (zC K_wr)).trans K_wr;have X_w7:=(b7.block _ (zC X_wr)).trans X_wr;have hx_w7:=hx_wr.under b7;have at_w7:=at_wr.past b7;have A_w7:=A_wr.trans (aside b7) A_wr.size;have y_w7:=b7.size;clear K_wr X_wr hx_wr at_wr A_wr b7;have HA_w7:=zD at_w7;have fa:=fun o=>fo K_w7 o;obtain ⟨ca0,ca1,ca2,ca3,ca4,ca5⟩:=zH K_w7;obtain ⟨cb0,cb1,cb2,cb3,cb4,cb5⟩:=zH X_w7;clear at_w7 K_w7 X_w7;go_wp2;refine bodyPost_ret (v:=exA y) (by simp [exA,results,Tryz.results96,go_sem,ca0,ca1,ca2,ca3,ca4,ca5]) rfl ⟨y,e,rfl,(hx_w7.put6 (k:=w.heap.size) (by simp) y).wide (fun i hi _=>by omega),A_w7.put6 (k:=w.heap.size) nR y,?_⟩;exact qB hgo.out (HA_w7.out.put6 (k:=w.heap.size) (by omega) (by omega)  y) (fun p n e=>by cases e)
   | ok p n=>
    have hbad:=qP at_wr;go_wp2_with fail;refine hbad.mono ?_;rintro r w7 ⟨rfl,b7⟩;clear hbad;have K_w7:=(b7.block _ (zC K_wr)).trans K_wr;have X_w7:=(b7.block _ (zC X_wr)).trans X_wr;have hx_w7:=hx_wr.under b7;have at_w7:=at_wr.past b7;have A_w7:=A_wr.trans (aside b7) A_wr.size;have y_w7:=b7.size;clear K_wr X_wr hx_wr at_wr A_wr b7;have k91:=hS.known [91] (.inr ⟨by decide,by decide⟩) (by decide);have hsee:=xO at_w7 ⟨#[91]⟩;rw [show (⟨#[91]⟩:ByteArray).data.toList=[91] from rfl,k91] at hsee
    cases hq:Ps.sees I [91] n
    ·rw [hq] at hsee
     have HQ:=zD hq;clear hq k91;go_wp2_with fail;refine hsee.mono ?_;rintro r w8 ⟨rfl,b8⟩;clear hsee;have K_w8:=(b8.block _ (zC K_w7)).trans K_w7;have X_w8:=(b8.block _ (zC X_w7)).trans X_w7;have hx_w8:=hx_w7.under b8;have at_w8:=at_w7.past b8;have A_w8:=A_w7.trans (aside b8) A_w7.size;have y_w8:=b8.size;clear K_w7 X_w7 hx_w7 at_w7 A_w7 b8;have HA_w8:=zD at_w8;have fa:=fun o=>fo K_w8 o;obtain ⟨ca0,ca1,ca2,ca3,ca4,ca5⟩:=zH K_w8;obtain ⟨cb0,cb1,cb2,cb3,cb4,cb5⟩:=zH X_w8;clear at_w8 K_w8 X_w8;go_wp2;refine bodyPost_ret (v:=exA y) (by simp [exA,results,Tryz.results96,go_sem,ca0,ca1,ca2,ca3,ca4,ca5]) rfl ⟨y,e,rfl,(hx_w8.put6 (k:=w.heap.size) (by simp) y).wide (fun i hi _=>by omega),A_w8.put6 (k:=w.heap.size) nR y,?_⟩;exact qB hgo.out (HA_w8.out.put6 (k:=w.heap.size) (by omega) (by omega)  y) (fun p2 n2 e2=>by cases e2;exact zBa HQ.out _)
    ·rw [hq] at hsee
     have hlt:n<I.L.length:=xZ k91 hq;obtain ⟨hp,hL,hc,hM⟩:=hgo.out;have hfn:=zAF hgo.out hfew;obtain ⟨f,rfl⟩:∃ f,gk=f+1:=⟨gk-1,by omega⟩;have hst:=zD (hM.trans (zBb (J:=(some A)) (e:=e) hq f));have HP:=zD hp;have HC:=zD hc;have HF:=zD hfn;have HL:=zD hL;clear hgo hM hq k91 hp hc hfn hL;go_wp2_with fail;refine hsee.mono ?_;rintro r w8 ⟨rfl,b8⟩;clear hsee;have K_w8:=(b8.block _ (zC K_w7)).trans K_w7;have X_w8:=(b8.block _ (zC X_w7)).trans X_w7;have hx_w8:=hx_w7.under b8;have at_w8:=at_w7.past b8;have A_w8:=A_w7.trans (aside b8) A_w7.size;have y_w8:=b8.size;clear K_w7 X_w7 hx_w7 at_w7 A_w7 b8;have hops:=zCO at_w8 hlt hop;go_wp2_with fail;refine hops.mono ?_;rintro r w9 ⟨rfl,at_w9,a9⟩;clear hops at_w8;have K_w9:=a9.keep K_w8 (zC K_w8) (by simp;omega);have X_w9:=a9.keep X_w8 (zC X_w8) (by simp;omega);have hx_w9:=hx_w8.past a9 (fun i hi=>by simp;omega);have A_w9:=A_w8.trans a9 A_w8.size;have y_w9:=a9.size;clear K_w8 X_w8 hx_w8 A_w8 a9;have f9:=vY HF.out;have F9:=zD f9;have hc1:=qN hE hEB at_w9 (by omega) f9;clear f9;go_wp2_with fail;refine hc1.mono ?_;rintro r wa ⟨y1,x1,rfl,hi,aa,at_wa,got1⟩;have G1:=zD got1;have hi_wa:=hi.wide (ok':=fun i=>w.heap.size<i∧i≠w5.heap.size) (fun i hi _=>by omega);clear hc1 got1 hi at_w9;have K_wa:=aa.keep K_w9 (zC K_w9) (by simp;omega);have X_wa:=aa.keep X_w9 (zC X_w9) (by simp;omega);have hx_wa:=hx_w9.past aa (fun i hi=>by simp;omega);have A_wa:=A_w9.trans aa A_w9.size;have y_wa:=aa.size;clear K_w9 X_w9 hx_w9 A_w9 aa;unfold exA;obtain ⟨wb,hwb⟩:=nm (wa.alloc (.cells (exC y1) 45 (0,0)));have bwb:=xA hwb;have I1_wb:=xE hwb;have z_wb:=xU hwb;have Z_wb:=zD z_wb;have K_wb:=(bwb.block _ (zC K_wa)).trans K_wa;have X_wb:=(bwb.block _ (zC X_wa)).trans X_wa;have hx_wb:=hx_wa.under bwb;have hi_wb:=hi_wa.under bwb;have at_wb:=at_wa.past bwb;have A_wb:=A_wa.trans (aside bwb) A_wa.size;have y_wb:=bwb.size;go_wp2_with fail;rw [←hwb];clear K_wa X_wa hx_wa hi_wa at_wa A_wa bwb hwb z_wb;have k58:=hS.known [58] (.inr ⟨by decide,by decide⟩) (by decide);have hm1:=qK at_wb hS ⟨#[58]⟩ k58;clear k58;refine hm1.mono ?_;rintro r wc ⟨rfl,at_wc,ac⟩;have at_wc:At wc b g cap ao I (mustS I [58] (exprS (Ps.exprOf I A) (.ok p (n+1)))):=at_wc;clear hm1 at_wb;have K_wc:=ac.keep K_wb (zC K_wb) (by simp;omega);have X_wc:=ac.keep X_wb (zC X_wb) (by simp;omega);have I1_wc:=ac.keep I1_wb (zC I1_wb) (by simp;omega);have hx_wc:=hx_wb.past ac (fun i hi=>by simp;omega);have hi_wc:=hi_wb.past ac (fun i hi=>by simp;omega);have A_wc:=A_wb.trans ac A_wb.size;have y_wc:=ac.size;clear K_wb X_wb I1_wb hx_wb hi_wb A_wb ac;have nE:Nice (Ps.exprOf I A):=xT hN;have f11:=zAC (x:=[58]) (vB nE F9.out);have F11:=zD f11;have hc2:=qN hE hEB at_wc (by omega) f11;clear f11;go_wp2_with fail;refine hc2.mono ?_;rintro r wd ⟨y2,x2,rfl,hd,ad,at_wd,got2⟩;have G2:=zD got2;have hd_wd:=hd.wide (ok':=fun i=>w.heap.size<i∧i≠w5.heap.size) (fun i hi _=>by omega);clear hc2 got2 hd at_wc;have K_wd:=ad.keep K_wc (zC K_wc) (by simp;omega);have X_wd:=ad.keep X_wc (zC X_wc) (by simp;omega);have I1_wd:=ad.keep I1_wc (zC I1_wc) (by simp;omega);have hx_wd:=hx_wc.past ad (fun i hi=>by simp;omega);have hi_wd:=hi_wc.past ad (fun i hi=>by simp;omega);have A_wd:=A_wc.trans ad A_wc.size;have y_wd:=ad.size;clear K_wc X_wc I1_wc hx_wc hi_wc A_wc ad;unfold exA;obtain ⟨we,hwe⟩:=nm (wd.alloc (.cells (exC y2) 45 (0,0)));have bwe:=xA hwe;have D1_we:=xE hwe;have z_we:=xU hwe;have Z_we:=zD z_we;have K_we:=(bwe.block _ (zC K_wd)).trans K_wd;have X_we:=(bwe.block _ (zC X_wd)).trans X_wd;have I1_we:=(bwe.block _ (zC I1_wd)).trans I1_wd;have hx_we:=hx_wd.under bwe;have hi_we:=hi_wd.under bwe;have hd_we:=hd_wd.under bwe;have at_we:=at_wd.past bwe;have A_we:=A_wd.trans (aside bwe) A_wd.size;have y_we:=bwe.size;go_wp2_with fail;rw [←hwe];clear K_wd X_wd I1_wd hx_wd hi_wd hd_wd at_wd A_wd bwe hwe z_we;have k93:=hS.known [93] (.inr ⟨by decide,by decide⟩) (by decide);have hm2:=qK at_we hS ⟨#[93]⟩ k93;clear k93;refine hm2.mono ?_;rintro r wf ⟨rfl,at_wf,af⟩;have at_wf:At wf b g cap ao I (mustS I [93] (exprS (Ps.exprOf I A) (mustS I [58] (exprS (Ps.exprOf I A) (.ok p (n+1)))))):=at_wf;have F13:=zD (zAC (x:=[93]) (vB nE F11.out));clear hm2 at_we;have K_wf:=af.keep K_we (zC K_we) (by simp;omega);have X_wf:=af.keep X_we (zC X_we) (by simp;omega);have I1_wf:=af.keep I1_we (zC I1_we) (by simp;omega);have D1_wf:=af.keep D1_we (zC D1_we) (by simp;omega);have hx_wf:=hx_we.past af (fun i hi=>by simp;omega);have hi_wf:=hi_we.past af (fun i hi=>by simp;omega);have hd_wf:=hd_we.past af (fun i hi=>by simp;omega);have A_wf:=A_we.trans af A_we.size;have y_wf:=af.size;clear K_we X_we I1_we D1_we hx_we hi_we hd_we A_we af;obtain ⟨cx0,cx1,cx2,cx3,cx4,cx5⟩:=zH X_wf;obtain ⟨ci0,ci1,ci2,ci3,ci4,ci5⟩:=zH I1_wf;obtain ⟨cd0,cd1,cd2,cd3,cd4,cd5⟩:=zH D1_wf;have hL3:=zAt hx_wf hi_wf hd_wf 45 (by omega);clear I1_wf D1_wf hx_wf hi_wf hd_wf;obtain ⟨wg,hwg⟩:=nm (wf.alloc (.cells #[.int .i64 y.op,.int .i64 y.k,.int .i64 y.n,.string y.name,.slice y.aS y.nS y.cS,.slice y.aL y.nL y.cL,.int .i64 y1.op,.int .i64 y1.k,.int .i64 y1.n,.string y1.name,.slice y1.aS y1.nS y1.cS,.slice y1.aL y1.nL y1.cL,.int .i64 y2.op,.int .i64 y2.k,.int .i64 y2.n,.string y2.name,.slice y2.aS y2.nS y2.cS,.slice y2.aL y2.nL y2.cL] 45 (0,0)));have bwg:=xA hwg;rw [←hwg] at hL3;have hez_wg:HEx (fun i=>w.heap.size<i∧i≠w5.heap.size) wg (ExV.cells (⟨11,0,0,⟨#[]⟩,none,0,0,some ⟨wf.heap.size,0,none⟩,3,3⟩:ExV)) (.mk 11 0 0 ⟨#[]⟩ [] [e,x1,x2]):=HEx.make rfl rfl rfl rfl qO hL3;have K_wg:=(bwg.block _ (zC K_wf)).trans K_wf;have X_wg:=(bwg.block _ (zC X_wf)).trans X_wf;have at_wg:=at_wf.past bwg;have A_wg:=A_wf.trans (aside bwg) A_wf.size;have y_wg:=bwg.size;clear K_wf X_wf at_wf A_wf bwg;go_wp2_with fail;rw [←hwg];clear hwg hL3 cx0 cx1 cx2 cx3 cx4 cx5 ci0 ci1 ci2 ci3 ci4 ci5 cd0 cd1 cd2 cd3 cd4 cd5;refine (vQ at_wg F13.out (⟨11,0,0,⟨#[]⟩,none,0,0,some ⟨wf.heap.size,0,none⟩,3,3⟩:ExV)).mono ?_;rintro r wh ⟨rfl,at_wh,ah⟩;clear at_wg;have K_wh:=ah.keep K_wg (zC K_wg) (by simp;omega);have X_wh:=ah.keep X_wg (zC X_wg) (by simp;omega);have hez_wh:=hez_wg.past ah (fun i hi=>by simp;omega);have A_wh:=A_wg.trans ah A_wg.size;have y_wh:=ah.size;clear K_wg X_wg hez_wg A_wg ah;have fX:=fun o=>fo X_wh o;obtain ⟨cx0,cx1,cx2,cx3,cx4,cx5⟩:=zH X_wh;generalize (⟨11,0,0,⟨#[]⟩,none,0,0,some ⟨wf.heap.size,0,none⟩,3,3⟩:ExV)=z at hez_wh ⊢;unfold exA;go_wp2_with fail;go_roundg f
     case measure=>omega
     case rel=>exact ⟨_,z,.mk 11 0 0 ⟨#[]⟩ [] [e,x1,x2],hez_wh.put6 (k:=w5.heap.size) (by simp) z,at_wh.put6 (k:=w5.heap.size) (by omega) (by omega) z,A_wh.put6 (k:=w5.heap.size) (by omega) z,keep6 K_wh (by omega) z,zAO X_wh z,goes_index nE hst.out HP.out HL.out HC.out G1.out G2.out⟩
 ·rw [q1]
  have hlt:nx<I.L.length:=by
   rcases q3 with q | q
   ·exact xZ (hS.known _ (.inr ⟨by decide,by decide⟩) (by decide)) q
   ·exact xZ (hS.known _ (.inl (by decide)) (by decide)) q
  have HM:=zD q2;clear q1 q2 q3;have hops:=zCO at_w4 hlt hop;go_wp2_with fail;refine hops.mono ?_;rintro r w5 ⟨rfl,at_w5,a5⟩;clear hops at_w4;have K_w5:=a5.keep K_w4 (zC K_w4) (by simp;omega);have A_w5:=A_w4.trans a5 A_w4.size;have y_w5:=a5.size;clear K_w4 A_w4 a5;have f5:FewS I (.ok pt (nx+1)):=vY (fun p2 n2 e2=>by cases e2;exact hfew);have F5:=zD f5;have hc1:=qN hA (zCP _) at_w5 (by omega) f5;clear f5;go_wp2_with fail;refine hc1.mono ?_;rintro r w6 ⟨y1,x1,rfl,hi,a6,at_w6,got1⟩;have G1:=zD got1;have hi_w6:=hi.wide (ok':=fun i=>w.heap.size<i) (fun i hi _=>by have:=Z_w1.out;omega);clear hc1 got1 hi at_w5;have K_w6:=a6.keep K_w5 (zC K_w5) (by simp;omega);have A_w6:=A_w5.trans a6 A_w5.size;have y_w6:=a6.size;clear K_w5 A_w5 a6;unfold exA;obtain ⟨w7,hw7⟩:=nm (w6.alloc (.cells (exC y1) 45 (0,0)));have bw7:=xA hw7;have I1_w7:=xE hw7;have z_w7:=xU hw7;have Z_w7:=zD z_w7;have K_w7:=(bw7.block _ (zC K_w6)).trans K_w6;have hi_w7:=hi_w6.under bw7;have at_w7:=at_w6.past bw7;have A_w7:=A_w6.trans (aside bw7) A_w6.size;have y_w7:=bw7.size;go_wp2_with fail;rw [←hw7];clear K_w6 hi_w6 at_w6 A_w6 bw7 hw7 z_w7;obtain ⟨ci0,ci1,ci2,ci3,ci4,ci5⟩:=zH I1_w7;have hL3:=zBs hi_w7 45 (by have:=Z_w1.out;omega);clear I1_w7 hi_w7;obtain ⟨w8,hw8⟩:=nm (w7.alloc (.cells (exC y1) 45 (0,0)));have bw8:=xA hw8;rw [←hw8,Z_w7.out] at hL3;have hez_w8:HEx (fun i=>w.heap.size<i) w8 (ExV.cells (⟨4,13+(j:Int),0,⟨#[]⟩,none,0,0,some ⟨w6.heap.size+1,0,none⟩,1,1⟩:ExV)) (.mk 4 (13+(j:Int)) 0 ⟨#[]⟩ [] [x1]):=HEx.make rfl rfl rfl rfl qO hL3;have K_w8:=(bw8.block _ (zC K_w7)).trans K_w7;have at_w8:=at_w7.past bw8;have A_w8:=A_w7.trans (aside bw8) A_w7.size;have y_w8:=bw8.size;clear K_w7 at_w7 A_w7 bw8;rw [←hw8];clear hw8 hL3 ci0 ci1 ci2 ci3 ci4 ci5;refine (vQ at_w8 (vB hN F5.out) (⟨4,13+(j:Int),0,⟨#[]⟩,none,0,0,some ⟨w6.heap.size+1,0,none⟩,1,1⟩:ExV)).mono ?_;rintro r w9 ⟨rfl,at_w9,a9⟩;clear at_w8;have K_w9:=a9.keep K_w8 (zC K_w8) (by simp;omega);have hez_w9:=hez_w8.past a9 (fun i hi=>by simp;omega);have A_w9:=A_w8.trans a9 A_w8.size;have y_w9:=a9.size;clear K_w8 hez_w8 A_w8 a9;have HA_w9:=zD at_w9;have fa:=fun o=>fo K_w9 o;obtain ⟨ca0,ca1,ca2,ca3,ca4,ca5⟩:=zH K_w9;clear at_w9 K_w9;generalize (⟨4,13+(j:Int),0,⟨#[]⟩,none,0,0,some ⟨w6.heap.size+1,0,none⟩,1,1⟩:ExV)=z at hez_w9 ⊢;unfold exA;go_wp2;refine bodyPost_ret (v:=exA z) (by simp [exA,results,Tryz.results96,go_sem,ca0,ca1,ca2,ca3,ca4,ca5]) rfl ⟨z,_,rfl,(hez_w9.put6 (k:=w.heap.size) (by simp) z).wide (fun i hi _=>by omega),A_w9.put6 (k:=w.heap.size) nR z,?_⟩;exact qI (sign_fin (by rw [HM.out];rfl) G1.out) (HA_w9.out.put6 (k:=w.heap.size) (by omega) (by omega)  z)
end Go.Proofs.YthkpanbgkimhoaaGreatDoor
