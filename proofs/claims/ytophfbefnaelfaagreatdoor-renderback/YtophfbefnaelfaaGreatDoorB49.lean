import Derived.Test.YtophfbefnaelfaaGreatDoorB48
import Derived.Test.YtophfbefnaelfaaGreatDoorB09
import Derived.Test.YtophfbefnaelfaaGreatDoorB42
set_option linter.unusedVariables false
set_option linter.unusedSimpArgs false
set_option maxHeartbeats 64000000
set_option maxRecDepth 100000
namespace Go.Proofs.YtophfbefnaelfaaGreatDoor
open Go.RowKit
namespace Bk
theorem qeq_st {a b:Eqn} (h:stE a=stE b):qeq a b=true:=by
 obtain ⟨p,ns,nd,S,E⟩:=a;obtain ⟨p',ns',nd',S',E'⟩:=b;simp only [stE,Eqn.mk.injEq,true_and] at h;obtain ⟨rfl,rfl,rfl,rfl⟩:=h;exact qeq_refl ⟨p,ns,nd,S,E⟩
theorem eqL_st {α:Type} {f:α→α→Bool} {s:α→α} (hf:∀ a b,s a=s b→f a b=true):∀ {l r:List α},l.map s=r.map s→eqL f l r=true
 | [],[],_=>rfl
 | [],_ :: _,h=>by simp at h
 | _ :: _,[],h=>by simp at h
 | a :: l,b :: r,h=>by
  simp only [List.map_cons,List.cons.injEq] at h;simp [eqL,hf a b h.1,eqL_st hf h.2]
theorem neq_st {a b:Nd} (h:stN a=stN b):neq a b=true:=by
 obtain ⟨nm,p,sz,i,o,lc,q⟩:=a;obtain ⟨nm',p',sz',i',o',lc',q'⟩:=b;simp only [stN,Nd.mk.injEq,true_and] at h;obtain ⟨rfl,rfl,rfl,rfl,rfl,hq⟩:=h;have hr:=neq_refl ⟨nm,p,sz,i,o,lc,q⟩;unfold neq at hr ⊢;simp only [Bool.and_eq_true] at hr ⊢;exact ⟨hr.1,hr.2.1,hr.2.2.1,hr.2.2.2.1,hr.2.2.2.2.1,eqL_st (fun a b=>qeq_st) hq⟩
theorem same_st {l r:List Nd} (h:l.map stN=r.map stN):eqL neq l r=true:=eqL_st (fun a b=>neq_st) h
/-! ### the other way -/
/-! ### what is printed does not hang on places -/
theorem print_len {l:List Nd}:(Tx.printT l).size≤12000:=by
 unfold Tx.printT;by_cases h:(Tx.printC l).1≠0
 ·rw [if_pos h];simp
 ·rw [if_neg h]
  have h2:(Tx.printC l).1=0:=(by simpa using h);unfold Tx.printC at h2
  split at h2
  ·rename_i h3;exact absurd h2 h3
  ·split at h2
   ·simp at h2
   ·omega
end Bk
end Go.Proofs.YtophfbefnaelfaaGreatDoor
namespace Go.Proofs.YtophfbefnaelfaaGreatDoor
open Go.RowKit Go.IntWalk
theorem back_walk {ok:Nat→Prop} {w:World} {ao:Option Addr} {n cap:Nat} {l:List Nd} (hl:HNds ok w (.slice ao n cap) l) (hM:FitP l) (hT:GlobT w) (hg:Gl (fun i=>i<w.heap.size) w) :
  Calls Tryz.prog 5 #[.agg #[.slice ao n cap]] w fun e w'=>e=.returned (.bool true)∧Below w.heap.size w w':=by
 have bA:Below w.heap.size w (w.alloc (.cells #[.slice ao n cap] 24 (0,0))):=(Below.refl _ _).alloc nR _;have kA:=heap_new w (.cells #[.slice ao n cap] 24 (0,0));go_enter Tryz.func5,Tryz.ntmps5;go_upto_region 1 with fail;generalize (w.alloc (.cells #[.slice ao n cap] 24 (0,0)))=W at bA kA ⊢;have hb:=begun_any W (hT.under bA) (hg.under bA);go_wp2_with fail;refine hb.mono ?_;rintro e w1 ⟨rfl,b1⟩;clear hb;have B1:=bA.trans (b1.mono bA.size);have k1:=(b1.block _ (lt_of kA)).trans kA;have p1:=co k1 0;simp at p1;have hgr:=great_small (hl.under B1) hM;go_wp2_with fail;refine hgr.mono ?_;rintro e w2 ⟨⟨y,rfl,hy⟩,b2⟩;clear hgr p1;have B2:=B1.trans (b2.mono B1.size);have k2:=(b2.block _ (lt_of k1)).trans k1
 cases y
 case true=>
  clear hy;go_wp2;go_ret;exact ⟨rfl,B2⟩
 case false=>
  have hs:=hy rfl;have hF:=nsF_of hs;clear hy hs;have p2:=co k2 0;simp at p2;have hpr:=print_any (hl.under B2) (hg.under B2) hF;have HCK:Hid (∀ V,Below w.heap.size w V→Calls Tryz.prog 10 #[.agg #[.slice ao n cap]] V fun e w'=>e=.returned (.agg #[.int .i64 (Tx.printC l).1,.int .i64 (Tx.printC l).2])∧Below V.heap.size V w'):=hide (fun V b=>check_any (hl.under b) (hg.under b) hF);have HPA:Hid ((Tx.printC l).1=0→∀ V,GlobT V→Calls Tryz.prog 16 #[.string (Tx.printT l)] V fun e w'=>∃ a n c l',e=.returned (.tuple #[.agg #[.slice a n c],.agg #[.int .i64 0,.int .i64 0]])∧HNds (fun i=>V.heap.size≤i) w' (.slice a n c) l'∧Hid (eqL neq l l'=true)∧Below V.heap.size V w'):=hide (fun hz V hG=>by
   obtain ⟨l',e1,e2⟩:=Bk.parse_print hz;have:=parse_all (Tx.printT l) V (Nat.le_trans Bk.print_len (by decide)) hG;unfold PPost at this;rw [e1] at this;refine this.mono ?_;rintro e w' ⟨b,a,n,c,rfl,hN⟩;exact ⟨a,n,c,l',rfl,hN,hide (Bk.same_st e2.symm),b⟩)
  have hsz:(Tx.printT l).size≤12000:=Bk.print_len;generalize Tx.printT l=T at hpr HPA hsz;generalize Tx.printC l=C at hpr HCK HPA;obtain ⟨cd,ca⟩:=C
  dsimp only at hpr HCK HPA
  go_wp2_with fail;refine hpr.mono ?_;rintro e w3 ⟨rfl,b3⟩;clear hpr p2;have B3:=B2.trans (b3.mono B2.size);have k3:=(b3.block _ (lt_of k2)).trans k2;go_upto_region 6 with fail;obtain ⟨w4,hw4⟩:=nmQ (w3.alloc (.cells #[.int .i64 cd,.int .i64 ca] 28 (0,0)));have b4:=newB hw4;have i4:=newK hw4;rw [←hw4];clear hw4;have B4:=B3.trans (b4.mono B3.size);have k4:=(b4.block _ (lt_of k3)).trans k3;have c0:=co i4 0;have c1:=co i4 1;have q0:=co k4 0;simp at c0 c1 q0;by_cases hz:cd=0
  ·have z1:(cd != 0)=false:=by simpa using hz
   have hpa:=HPA.out hz w4 (hT.under B4);clear hz;go_wp2_with fail;refine hpa.mono ?_;rintro e w5 ⟨a5,n5,c5,l',rfl,h5,HS,b5⟩;clear hpa c0 c1 q0;have B5:=B4.trans (b5.mono B4.size);have k5:=(b5.block _ (lt_of k4)).trans k4;go_upto_region 9 with fail;obtain ⟨w6,hw6⟩:=nmQ ((w5.alloc (.cells #[.slice a5 n5 c5] 24 (0,0))).alloc (.cells #[.int .i64 0,.int .i64 0] 28 (0,0)));have b6:Below w5.heap.size w5 w6:=(by rw [hw6];exact ((Below.refl _ _).alloc nR _).alloc (by simp) _);have j6:w6.heap[w5.heap.size]?=some (.cells #[.slice a5 n5 c5] 24 (0,0)):=(by rw [hw6];exact (Below.heap_alloc _ _ _ (by simp)).trans (heap_new w5 _));have i6:w6.heap[w5.heap.size+1]?=some (.cells #[.int .i64 0,.int .i64 0] 28 (0,0)):=by
    rw [hw6];have:=heap_new (w5.alloc (.cells #[.slice a5 n5 c5] 24 (0,0))) (.cells #[.int .i64 0,.int .i64 0] 28 (0,0))
    simpa using this
   rw [←hw6];clear hw6;have B6:=B5.trans (b6.mono B5.size);have k6:=(b6.block _ (lt_of k5)).trans k5;have d0:=co i6 0;have r0:=co j6 0;have q0:=co k6 0;simp at d0 r0 q0;have hsame:=same_any (hl.under B6) (h5.under b6);rw [HS.out] at hsame;go_wp2_with fail;refine hsame.mono ?_;rintro e w7 ⟨rfl,b7⟩;have B7:=B6.trans (b7.mono B6.size);have hle:(T.size:Int)≤12000:=(by omega);go_wp2
   all_goals go_ret
   all_goals refine ⟨ret_bool ?_,B7⟩
   all_goals simp
   all_goals omega
  ·have z1:(cd != 0)=true:=by simpa using hz
   clear hz;go_upto_region 7 with fail;refine wp_region_late (fun w'=>w'.cell? ⟨w.heap.size,0,none⟩=some (.slice ao n cap)∧w'.cell? ⟨w3.heap.size,0,none⟩=some (.int .i64 cd)∧w'.cell? ⟨w3.heap.size,1,none⟩=some (.int .i64 ca)) (fun _=>false) (by kernel_rfl) ?_;have hH:w4.drew.cell? ⟨w.heap.size,0,none⟩=some (.slice ao n cap)∧w4.drew.cell? ⟨w3.heap.size,0,none⟩=some (.int .i64 cd)∧w4.drew.cell? ⟨w3.heap.size,1,none⟩=some (.int .i64 ca):=⟨q0,c0,c1⟩;have BD:Below w.heap.size w w4.drew:=B4.drew;have kD:w4.drew.heap[w.heap.size]?=some (.cells #[.slice ao n cap] 24 (0,0)):=k4;have iD:w4.drew.heap[w3.heap.size]?=some (.cells #[.int .i64 cd,.int .i64 ca] 28 (0,0)):=i4;generalize w4.drew=wd at hH BD kD iD ⊢;refine' wpAnyL_take (i:=0) (oi:=_) (v:=_) rfl (by kernel_rfl) (by kernel_rfl) (by kernel_rfl) (by kernel_rfl) (fun _ _ _ h=>h) hH (by rfl) ?hyv ?o1
   case hyv=>
    intro wz hSw;obtain ⟨z1,z2,z3⟩:=hSw;go_simp
    try rfl
   try simp only [Act.put,sT,sZ,sS]
   refine' wpAnyL_take (i:=2) (oi:=_) (v:=_) rfl (by kernel_rfl) (by kernel_rfl) (by kernel_rfl) (by kernel_rfl) (fun _ _ _ h=>h) hH (by rfl) ?hyv ?o2
   case hyv=>
    intro wz hSw;obtain ⟨z1,z2,z3⟩:=hSw;go_simp
    try rfl
   try simp only [Act.put,sT,sZ,sS]
   refine wpAnyL_one (i:=1) (o:=_) rfl (by kernel_rfl) (by rfl) (fun K hK=>?_);go_simp;refine (HCK.out wd BD).mono ?_;rintro e v1 ⟨rfl,bv⟩;have kE:=(bv.block _ (lt_of kD)).trans kD;have iE:=(bv.block _ (lt_of iD)).trans iD;have hH1:v1.cell? ⟨w.heap.size,0,none⟩=some (.slice ao n cap)∧v1.cell? ⟨w3.heap.size,0,none⟩=some (.int .i64 cd)∧v1.cell? ⟨w3.heap.size,1,none⟩=some (.int .i64 ca):=by
    have e0:=co kE 0;have e1:=co iE 0;have e2:=co iE 1;simp at e0 e1 e2;exact ⟨e0,e1,e2⟩
   refine hK.out _ _ (fun _=>hH1) ?_;clear hK K
   try simp only [Act.put,sT,sZ,sS]
   refine' wpAnyL_take (i:=3) (oi:=⟨some 22,_,_,_,_,_⟩) (v:=_) rfl (by kernel_rfl) (by kernel_rfl) (by kernel_rfl) (by kernel_rfl) (fun _ _ _ h=>h) hH1 (by rfl) ?hyv ?o3
   case hyv=>
    intro wz hSw;obtain ⟨z1,z2,z3⟩:=hSw;go_simp
    try rfl
   try simp only [Act.put,sT,sZ,sS]
   refine' wpAnyL_take (i:=4) (oi:=⟨some 2,_,_,_,_,_⟩) (v:=_) rfl (by kernel_rfl) (by kernel_rfl) (by kernel_rfl) (by kernel_rfl) (fun _ _ _ h=>h) hH1 (by rfl) ?hyv ?o4
   case hyv=>
    intro wz hSw;obtain ⟨z1,z2,z3⟩:=hSw;go_simp
    try rfl
   try simp only [Act.put,sT,sZ,sS]
   refine wpAnyL_done (by kernel_rfl) ?_ _;go_wp2;go_ret;refine ⟨?_,BD.trans (bv.mono BD.size)⟩;simp
end Go.Proofs.YtophfbefnaelfaaGreatDoor
