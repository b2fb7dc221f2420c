import Derived.Test.YtophfbefnaelfaaGreatDoorA48
import Derived.Test.YtophfbefnaelfaaGreatDoorA09
import Derived.Test.YtophfbefnaelfaaGreatDoorA42
set_option linter.unusedVariables false
set_option linter.unusedSimpArgs false
set_option maxHeartbeats 64000000
set_option maxRecDepth 100000
namespace Go.Proofs.YtophfbefnaelfaaGreatDoor
open Go.RowKit
namespace Bk
theorem qeq_st {a b:Eqn} (h:stE a=stE b):qeq a b=true:=by
 obtain ⟨p,ns,nd,S,E⟩:=a;obtain ⟨p',ns',nd',S',E'⟩:=b;simp only [stE,Eqn.mk.injEq,true_and] at h;obtain ⟨rfl,rfl,rfl,rfl⟩:=h;exact qeq_refl ⟨p,ns,nd,S,E⟩
theorem eqL_st {α:Type} {f:α→α→Bool} {s:α→α} (hf:∀ a b,s a=s b→f a b=true):∀ {l r:List α},l.map s=r.map s→eqL f l r=true
 | [],[],_=>rfl
 | [],_ :: _,h=>by simp at h
 | _ :: _,[],h=>by simp at h
 | a :: l,b :: r,h=>by
  simp only [List.map_cons,List.cons.injEq] at h;simp [eqL,hf a b h.1,eqL_st hf h.2]
theorem neq_st {a b:Nd} (h:stN a=stN b):neq a b=true:=by
 obtain ⟨nm,p,sz,i,o,lc,q⟩:=a;obtain ⟨nm',p',sz',i',o',lc',q'⟩:=b;simp only [stN,Nd.mk.injEq,true_and] at h;obtain ⟨rfl,rfl,rfl,rfl,rfl,hq⟩:=h;have hr:=neq_refl ⟨nm,p,sz,i,o,lc,q⟩;unfold neq at hr ⊢;simp only [Bool.and_eq_true] at hr ⊢;exact ⟨hr.1,hr.2.1,hr.2.2.1,hr.2.2.2.1,hr.2.2.2.2.1,eqL_st (fun a b=>qeq_st) hq⟩
theorem same_st {l r:List Nd} (h:l.map stN=r.map stN):eqL neq l r=true:=eqL_st (fun a b=>neq_st) h
/-! ### the other way -/
theorem eqL_eq {α:Type} {f:α→α→Bool} (hf:∀ a b,f a b=true→a=b):∀ {l r:List α},eqL f l r=true→l=r
 | [],[],_=>rfl
 | [],_ :: _,h=>by simp [eqL] at h
 | _ :: _,[],h=>by simp [eqL] at h
 | a :: l,b :: r,h=>by
  simp only [eqL,Bool.and_eq_true] at h;rw [hf a b h.1,eqL_eq hf h.2]
theorem seq_eq {a b:ByteArray} (h:seq a b=true):a=b:=by
 unfold seq at h;have:=eq_of_beq h;rw [Lib.toList_data,Lib.toList_data] at this;obtain ⟨a⟩:=a;obtain ⟨b⟩:=b;simp only at this;rw [Array.toList_inj.1 this]
theorem teq_eq {a b:Tm} (h:teq a b=true):a=b:=by
 obtain ⟨x,s⟩:=a;obtain ⟨y,t⟩:=b;simp only [teq,Bool.and_eq_true,beq_iff_eq] at h;rw [h.1,seq_eq h.2]
theorem deq_eq {a b:De} (h:deq a b=true):a=b:=by
 obtain ⟨s,e,n⟩:=a;obtain ⟨s',e',n'⟩:=b;simp only [deq,Bool.and_eq_true,beq_iff_eq] at h;have h1:=seq_eq h.1.1;have h2:=h.1.2;have h3:=eqL_eq (fun a b=>teq_eq) h.2;rw [h1,h2,h3]
theorem xeq_eq:∀ (q:Nat) (a b:Ex),parts a≤q→xeq a b=true→a=b
 | 0,.mk _ _ _ _ _ _,_,h,_=>by simp [parts] at h
 | q+1,.mk o k n s S L,.mk o' k' n' s' S' L',h,he=>by
  simp only [xeq,Bool.and_eq_true,beq_iff_eq] at he;obtain ⟨⟨⟨⟨⟨h1,h2⟩,h3⟩,h4⟩,h5⟩,h6⟩:=he;have hL:∀ l r:List Ex,partsL l≤q→xeqs l r=true→l=r:=by
   intro l
   induction l with
   | nil=>intro r _ hr;cases r with
    | nil=>rfl
    | cons b r=>simp [xeqs] at hr
   | cons a l ih=>intro r hp hr;cases r with
    | nil=>simp [xeqs] at hr
    | cons b r=>
     simp only [xeqs,Bool.and_eq_true] at hr;simp only [partsL] at hp;rw [xeq_eq q a b (by omega) hr.1,ih r (by omega) hr.2]
  rw [h1,h2,h3,seq_eq h4,eqL_eq (fun a b=>eqL_eq (fun a b=>teq_eq)) h5,hL L L' (by simp only [parts] at h;omega) h6]
theorem qeq_eq {a b:Eqn} (h:qeq a b=true):stE a=stE b:=by
 obtain ⟨p,ns,nd,S,E⟩:=a;obtain ⟨p',ns',nd',S',E'⟩:=b;simp only [qeq,Bool.and_eq_true] at h;obtain ⟨⟨⟨h1,h2⟩,h3⟩,h4⟩:=h;simp only [stE];rw [eqL_eq (fun a b=>seq_eq) h1,seq_eq h2,eqL_eq (fun a b=>eqL_eq (fun a b=>teq_eq)) h3,eqL_eq (fun a b=>xeq_eq _ a b nR) h4]
theorem eqL_map {α:Type} {f:α→α→Bool} {s:α→α} (hf:∀ a b,f a b=true→s a=s b):∀ {l r:List α},eqL f l r=true→l.map s=r.map s
 | [],[],_=>rfl
 | [],_ :: _,h=>by simp [eqL] at h
 | _ :: _,[],h=>by simp [eqL] at h
 | a :: l,b :: r,h=>by
  simp only [eqL,Bool.and_eq_true] at h;rw [List.map_cons,List.map_cons,hf a b h.1,eqL_map hf h.2]
theorem neq_eq {a b:Nd} (h:neq a b=true):stN a=stN b:=by
 obtain ⟨nm,p,sz,i,o,lc,q⟩:=a;obtain ⟨nm',p',sz',i',o',lc',q'⟩:=b;simp only [neq,Bool.and_eq_true] at h;obtain ⟨h1,h2,h3,h4,h5,h6⟩:=h;simp only [stN];rw [seq_eq h1,eqL_eq (fun a b=>seq_eq) h2,eqL_eq (fun a b=>deq_eq) h3,eqL_eq (fun a b=>deq_eq) h4,eqL_eq (fun a b=>deq_eq) h5,eqL_map (s:=stE) (fun a b=>qeq_eq) h6]
theorem st_same {l r:List Nd} (h:eqL neq l r=true):l.map stN=r.map stN:=eqL_map (s:=stN) (fun a b=>neq_eq) h
/-! ### what is printed does not hang on places -/
theorem eqs_st:∀ (l:List Eqn) (i:Nat),Tx.rowP (fun _ q=>Tx.eqP q) i (l.map stE)=Tx.rowP (fun _ q=>Tx.eqP q) i l
 | [],i=>rfl
 | q :: l,i=>by
  rw [List.map_cons,Tx.rowP,Tx.rowP,eqs_st l (i+1)];rfl
theorem node_st (n:Nd):Tx.nodeP (stN n)=Tx.nodeP n:=by
 unfold Tx.nodeP stN;simp only [eqs_st]
theorem prog_st:∀ (l:List Nd) (i:Nat),Tx.rowP (fun _ n=>Tx.nodeP n) i (l.map stN)=Tx.rowP (fun _ n=>Tx.nodeP n) i l
 | [],i=>rfl
 | n :: l,i=>by rw [List.map_cons,Tx.rowP,Tx.rowP,prog_st l (i+1),node_st]
theorem eqC_st (q:Eqn):Rn.eqC (stE q)=Rn.eqC q:=rfl
theorem goE_st:∀ (l:List Eqn) (k:Nat),Rn.goE (l.map stE) k=Rn.goE l k
 | [],k=>rfl
 | q :: l,k=>by rw [List.map_cons,Rn.goE,Rn.goE,goE_st l (k+1),eqC_st]
theorem headC_st (n:Nd):Rn.headC (stN n)=Rn.headC n:=by
 unfold Rn.headC stN;simp only [List.length_map]
theorem goN_st:∀ (l:List Nd) (i k:Nat),Rn.goN (l.map stN) i k=Rn.goN l i k
 | [],i,k=>rfl
 | n :: l,i,k=>by
  rw [List.map_cons,Rn.goN,Rn.goN,headC_st];have e1:(stN n).eqs=n.eqs.map stE:=rfl;rw [e1,goE_st,List.length_map,goN_st l]
theorem nodesC_st (l:List Nd):Rn.nodesC (l.map stN)=Rn.nodesC l:=by
 unfold Rn.nodesC;rw [List.length_map,goN_st]
theorem printC_st {l r:List Nd} (h:l.map stN=r.map stN):Tx.printC l=Tx.printC r∧Tx.printT l=Tx.printT r:=by
 have h1:Tx.progP l=Tx.progP r:=by
  unfold Tx.progP;rw [←prog_st l,←prog_st r,h]
 have h2:Rn.nodesC l=Rn.nodesC r:=(by rw [←nodesC_st l,←nodesC_st r,h]);have h3:Tx.printC l=Tx.printC r:=(by unfold Tx.printC;rw [h1,h2]);exact ⟨h3,by unfold Tx.printT;rw [h3,h1]⟩
theorem apart {a b:List Nd} (ha:(Tx.printC a).1=0) (hb:(Tx.printC b).1=0):(Tx.printT a=Tx.printT b)↔eqL neq a b=true:=by
 constructor
 ·intro h
  obtain ⟨l,e1,s1⟩:=parse_print ha;obtain ⟨r,e2,s2⟩:=parse_print hb;rw [h,e2] at e1;have:r=l:=(Prod.mk.inj e1).1;rw [this] at s2;exact same_st (s1.symm.trans s2)
 ·intro h
  exact (printC_st (st_same h)).2
end Bk
end Go.Proofs.YtophfbefnaelfaaGreatDoor
namespace Go.Proofs.YtophfbefnaelfaaGreatDoor
open Go.RowKit Go.IntWalk
theorem apart_walk {ok ok':Nat→Prop} {w:World} {ao ao':Option Addr} {n n' cap cap':Nat} {l r:List Nd} (hl:HNds ok w (.slice ao n cap) l) (hM:FitP l) (hr:HNds ok' w (.slice ao' n' cap') r) (hM':FitP r) (hT:GlobT w) (hg:Gl (fun i=>i<w.heap.size) w) :
  Calls Tryz.prog 6 #[.agg #[.slice ao n cap],.agg #[.slice ao' n' cap']] w fun e w'=>e=.returned (.bool true)∧Below w.heap.size w w':=by
 obtain ⟨W,hW⟩:=nmQ ((w.alloc (.cells #[.slice ao n cap] 24 (0,0))).alloc (.cells #[.slice ao' n' cap'] 24 (0,0)));have bA:Below w.heap.size w W:=(by rw [hW];exact ((Below.refl _ _).alloc nR _).alloc (by simp) _);have kA:W.heap[w.heap.size]?=some (.cells #[.slice ao n cap] 24 (0,0)):=(by rw [hW];exact (Below.heap_alloc _ _ _ (by simp)).trans (heap_new w _));have jA:W.heap[w.heap.size+1]?=some (.cells #[.slice ao' n' cap'] 24 (0,0)):=by
  rw [hW];have:=heap_new (w.alloc (.cells #[.slice ao n cap] 24 (0,0))) (.cells #[.slice ao' n' cap'] 24 (0,0))
  simpa using this
 go_enter Tryz.func6,Tryz.ntmps6;go_upto_region 1 with fail;rw [←hW];clear hW;have hb:=begun_any W (hT.under bA) (hg.under bA);go_wp2_with fail;refine hb.mono ?_;rintro e w1 ⟨rfl,b1⟩;clear hb;have B1:=bA.trans (b1.mono bA.size);have k1:=(b1.block _ (lt_of kA)).trans kA;have j1:=(b1.block _ (lt_of jA)).trans jA;have p1:=co k1 0;simp at p1;have hgr:=great_small (hl.under B1) hM;go_wp2_with fail;refine hgr.mono ?_;rintro e w2 ⟨⟨y,rfl,hy⟩,b2⟩;clear hgr p1;have B2:=B1.trans (b2.mono B1.size);have k2:=(b2.block _ (lt_of k1)).trans k1;have j2:=(b2.block _ (lt_of j1)).trans j1
 cases y
 case true=>
  clear hy;go_wp2;go_ret;exact ⟨rfl,B2⟩
 case false=>
  have hF:=nsF_of (hy rfl);clear hy;have p2:=co j2 0;simp at p2;have hgr:=great_small (hr.under B2) hM';go_wp2_with fail;refine hgr.mono ?_;rintro e w3 ⟨⟨y,rfl,hy⟩,b3⟩;clear hgr p2;have B3:=B2.trans (b3.mono B2.size);have k3:=(b3.block _ (lt_of k2)).trans k2;have j3:=(b3.block _ (lt_of j2)).trans j2
  cases y
  case true=>
   clear hy;go_wp2;go_ret;exact ⟨rfl,B3⟩
  case false=>
   have hF':=nsF_of (hy rfl);clear hy;have p3:=co k3 0;simp at p3;have HP2:Hid (∀ V,Below w.heap.size w V→Calls Tryz.prog 13 #[.agg #[.slice ao' n' cap']] V fun e w'=>e=.returned (.tuple #[.string (Tx.printT r),.agg #[.int .i64 (Tx.printC r).1,.int .i64 (Tx.printC r).2]])∧Below V.heap.size V w'):=hide (fun V b=>print_any (hr.under b) (hg.under b) hF');have HAP:Hid ((Tx.printC l).1=0→(Tx.printC r).1=0→((Tx.printT l=Tx.printT r)↔eqL neq l r=true)):=hide (fun h1 h2=>Bk.apart h1 h2);have HSM:Hid (∀ V,Below w.heap.size w V→Calls Tryz.prog 17 #[.agg #[.slice ao n cap],.agg #[.slice ao' n' cap']] V fun e w'=>e=.returned (.bool (eqL neq l r))∧Below V.heap.size V w'):=hide (fun V b=>same_any (hl.under b) (hr.under b));have hpr:=print_any (hl.under B3) (hg.under B3) hF;generalize Tx.printT l=S at hpr HAP;generalize Tx.printC l=C at hpr HAP;generalize Tx.printT r=T at HP2 HAP;generalize Tx.printC r=D at HP2 HAP;generalize eqL neq l r=E at HAP HSM;obtain ⟨cd,ca⟩:=C;obtain ⟨ed,ea⟩:=D
   dsimp only at hpr HAP HP2
   go_wp2_with fail;refine hpr.mono ?_;rintro e w4 ⟨rfl,b4⟩;clear hpr p3;have B4:=B3.trans (b4.mono B3.size);have k4:=(b4.block _ (lt_of k3)).trans k3;have j4:=(b4.block _ (lt_of j3)).trans j3;go_upto_region 6 with fail;obtain ⟨w5,hw5⟩:=nmQ (w4.alloc (.cells #[.int .i64 cd,.int .i64 ca] 28 (0,0)));have b5:=newB hw5;have i5:=newK hw5;rw [←hw5];clear hw5;have B5:=B4.trans (b5.mono B4.size);have k5:=(b5.block _ (lt_of k4)).trans k4;have j5:=(b5.block _ (lt_of j4)).trans j4;have p5:=co j5 0;simp at p5;go_wp2_with fail;refine (HP2.out w5 B5).mono ?_;rintro e w6 ⟨rfl,b6⟩;clear p5 HP2;have B6:=B5.trans (b6.mono B5.size);have k6:=(b6.block _ (lt_of k5)).trans k5;have j6:=(b6.block _ (lt_of j5)).trans j5;have i6:=(b6.block _ (lt_of i5)).trans i5;go_upto_region 7 with fail;obtain ⟨w7,hw7⟩:=nmQ (w6.alloc (.cells #[.int .i64 ed,.int .i64 ea] 28 (0,0)));have b7:=newB hw7;have h7:=newK hw7;rw [←hw7];clear hw7;have B7:=B6.trans (b7.mono B6.size);have k7:=(b7.block _ (lt_of k6)).trans k6;have j7:=(b7.block _ (lt_of j6)).trans j6;have i7:=(b7.block _ (lt_of i6)).trans i6;have d0:=co i7 0;have e0:=co h7 0;have q0:=co k7 0;have r0:=co j7 0;simp at d0 e0 q0 r0;by_cases hz:cd=0
   case neg=>
    have z1:(cd != 0)=true:=(by simpa using hz);clear hz;go_wp2;go_ret;exact ⟨rfl,B7⟩
   case pos=>
    have z1:(cd != 0)=false:=(by simpa using hz);by_cases hy:ed=0
    case neg=>
     have z2:(ed != 0)=true:=(by simpa using hy);clear hy hz;go_wp2;go_ret;exact ⟨rfl,B7⟩
    case pos=>
     have z2:(ed != 0)=false:=(by simpa using hy);have HI:=hide (HAP.out hz hy);clear hy hz HAP;have hsm:=HSM.out w7 B7;go_wp2_with fail;refine hsm.mono ?_;rintro e w8 ⟨rfl,b8⟩;have B8:=B7.trans (b8.mono B7.size);go_wp2
     all_goals go_ret
     all_goals refine ⟨ret_bool ?_,B8⟩
     cases hE:E with
     | true=>
      have e1:S=T:=HI.out.2 hE;subst e1;simp
     | false=>
      have hne:¬S=T:=fun e1=>by
       have:=HI.out.1 e1;rw [hE] at this
       cases this
      have e2:(S.toList==T.toList)=false:=by
       cases h:(S.toList==T.toList) with
       | false=>rfl
       | true=>exact absurd (Bk.seq_eq h) hne
      rw [e2];rfl
end Go.Proofs.YtophfbefnaelfaaGreatDoor
