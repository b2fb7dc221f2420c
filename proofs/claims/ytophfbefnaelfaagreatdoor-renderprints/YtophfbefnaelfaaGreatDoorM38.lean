import Derived.Test.YtophfbefnaelfaaGreatDoorM37
import Derived.Test.YtophfbefnaelfaaGreatDoorM35
import Derived.Deep.CutBlock
import Derived.Deep.QuietTactic
import Derived.BigQuiet
set_option linter.unusedVariables false
set_option linter.unusedSimpArgs false
set_option maxHeartbeats 64000000
set_option maxRecDepth 100000
namespace Go.Proofs.YtophfbefnaelfaaGreatDoor
open Go.RowKit Go.IntWalk
namespace Rn
def form3 (op k:Int) (nL:Nat):Int × Int × Bool :=
 if op=1∨op=2∨op=3 then (0,0,k==0) else if op=4 then (1,0,k==13 || k==14) else if op=5 then (2,0,decide (1≤k)&&decide (k≤12))
 else if op=6∨op=11∨op=12 then (3,0,k==0) else if op=7 then (if nL=1 then 1 else 2,0,decide (1≤k)&&decide (k≤14)) else if op=8∨op=9 then (2,0,decide (1≤k)&&decide (k≤14))
 else if op=10 then (1,1,k==0) else if op=13 then (1,2,k==0) else (2,0,k==0)
theorem formOk_eq (op k n:Int) (name:ByteArray) (S:List (List Tm)) (L:List Ex) :
  formOk (.mk op k n name S L)=(decide (1≤op∧op≤15)&&(decide ((L.length:Int)=(form3 op k L.length).1)&&decide ((S.length:Int)=(form3 op k L.length).2.1)&&(form3 op k L.length).2.2&&(decide (op=3) || decide (name.size=0))&&numOk op n)):=by
 show (decide (1≤op∧op≤15)&&(decide ((shp op.toNat).2.1≤(L.length:Int))&&decide ((L.length:Int)≤(shp op.toNat).2.2.1)&&decide ((S.length:Int)=(shp op.toNat).2.2.2.1)&&decide ((shp op.toNat).2.2.2.2.1≤k)&&decide (k≤(shp op.toNat).2.2.2.2.2)&&numOk op n&&(decide (op=3) || decide (name.size=0))))=_
 by_cases hr:1≤op∧op≤15
 ·rw [show decide (1≤op∧op≤15)=true by simp [hr],Bool.true_and,Bool.true_and]
  generalize numOk op n=nb;generalize (decide (op=3) || decide (name.size=0))=nm;generalize L.length=a;generalize S.length=c;have hc:op=1∨op=2∨op=3∨op=4∨op=5∨op=6∨op=7∨op=8∨op=9∨op=10∨op=11∨op=12∨op=13∨op=14∨op=15:=(by omega);rcases hc with rfl | rfl | rfl | rfl | rfl | rfl | rfl | rfl | rfl | rfl | rfl | rfl | rfl | rfl | rfl
  all_goals
   rw [Bool.eq_iff_iff];simp [form3,shp,shpT,Int.toNat]
   first
    | omega
    | (constructor<;>intro h<;>(split at * <;> first | omega | (simp_all;omega) | simp_all))
    | (constructor<;>intro h<;>simp_all<;>omega)
 ·rw [show decide (1≤op∧op≤15)=false by simp [hr],Bool.false_and,Bool.false_and]
end Rn
theorem str_ne2 {s:ByteArray} (h:s.size≠0):(s.toList != [])=true:=by simp only [bne,str_ne h];rfl
theorem exprForm_any (op k n:Int) (name:ByteArray) (aS aL:Option Addr) (cS cL:Nat) (S:List (List Tm)) (L:List Ex) (w:World) (hcL:L.length≤cL) (hcL2:cL≤maxLen) (hcS:S.length≤cS) (hcS2:cS≤maxLen) :
  Calls Tryz.prog 67 #[.agg #[.int .i64 op,.int .i64 k,.int .i64 n,.string name,.slice aS S.length cS,.slice aL L.length cL]] w fun e w'=>e=.returned (.bool (Rn.formOk (.mk op k n name S L)))∧Below w.heap.size w w':=by
 unfold maxLen at hcL2 hcS2;rw [Rn.formOk_eq];generalize hnL:L.length=nL at *;generalize hnS:S.length=nS at *;clear hnL hnS;obtain ⟨R,hR⟩:=nmQ ((decide (1≤op∧op≤15)&&(decide ((nL:Int)=(Rn.form3 op k nL).1)&&decide ((nS:Int)=(Rn.form3 op k nL).2.1)&&(Rn.form3 op k nL).2.2&&(decide (op=3) || decide (name.size=0))&&Rn.numOk op n)));rw [←hR];have HR:=hide hR;clear hR;have bA:Below w.heap.size w (w.alloc (.cells #[.int .i64 op,.int .i64 k,.int .i64 n,.string name,.slice aS nS cS,.slice aL nL cL] 88 (0,0))):=(Below.refl _ _).alloc nR _;have kA:=heap_new w (.cells #[.int .i64 op,.int .i64 k,.int .i64 n,.string name,.slice aS nS cS,.slice aL nL cL] 88 (0,0));obtain ⟨k0,hk0⟩:=nmQ ((k==0));have hk0I:(k==0)=k0:=hk0.symm;have HK0:=hide hk0;clear hk0;go_enter Tryz.func67,Tryz.ntmps67;go_upto_region 1 with fail;go_quiet (fail);have kW:((w.alloc (.cells #[.int .i64 op,.int .i64 k,.int .i64 n,.string name,.slice aS nS cS,.slice aL nL cL] 88 (0,0))).drewN nq).heap[w.heap.size]?=some (.cells #[.int .i64 op,.int .i64 k,.int .i64 n,.string name,.slice aS nS cS,.slice aL nL cL] 88 (0,0)):=kA;have BW:Below w.heap.size w ((w.alloc (.cells #[.int .i64 op,.int .i64 k,.int .i64 n,.string name,.slice aS nS cS,.slice aL nL cL] 88 (0,0))).drewN nq):=bA.trans ⟨rfl,rfl,rfl,Nat.le_refl _,fun _ _=>rfl⟩;generalize ((w.alloc (.cells #[.int .i64 op,.int .i64 k,.int .i64 n,.string name,.slice aS nS cS,.slice aL nL cL] 88 (0,0))).drewN nq)=W at kW BW ⊢;have q0:=co kW 0;have q1:=co kW 1;have q5:=co kW 5;simp at q0 q1 q5;clear kA bA;go_upto_block 0 with fail;go_cut [3,4,5] (fun v3 v4 v5 wc=>∃ pa sz kb,v3=.int .i64 pa∧v4=.int .i64 sz∧v5=.bool kb∧Hid ((1≤op∧op≤15)∧Rn.form3 op k nL=(pa,sz,kb))∧wc.heap[w.heap.size]?=some (.cells #[.int .i64 op,.int .i64 k,.int .i64 n,.string name,.slice aS nS cS,.slice aL nL cL] 88 (0,0))∧Below w.heap.size w wc)
 case rest=>
  obtain ⟨pa,sz,kb,rfl,rfl,rfl,HF,kC,BC⟩:=hcut;have hR:=HR.out;rw [HF.out.2,show decide (1≤op∧op≤15)=true by have:=HF.out.1;simp [this],Bool.true_and] at hR
  dsimp only at hR
  have HR2:=hide hR;clear HR hR q0 q1 q5;have p0:=co kC 0;have p2:=co kC 2;have p3:=co kC 3;have p4:=co kC 4;have p5:=co kC 5;simp at p0 p2 p3 p4 p5;by_cases h1:(nL:Int)=pa
  case neg=>
   have h1b:((nL:Int) != pa)=true:=(by simp [h1]);go_wp2;go_ret;exact ⟨by rw [HR2.out];simp [h1],BC⟩
  have h1b:((nL:Int) != pa)=false:=(by simp [h1]);by_cases h2:(nS:Int)=sz
  case neg=>
   have h2b:((nS:Int) != sz)=true:=(by simp [h2]);have H1:=hide h1;clear h1;go_wp2;go_ret;exact ⟨by rw [HR2.out];simp [h2],BC⟩
  have h2b:((nS:Int) != sz)=false:=(by simp [h2]);have H1:=hide h1;have H2:=hide h2;clear h1 h2
  cases kb
  case false=>
   go_wp2;go_ret;exact ⟨by rw [HR2.out];simp,BC⟩
  by_cases h3:name.size=0
  case pos=>
   have hse:name=⟨#[]⟩:=ByteArray.ext (Array.eq_empty_of_size_eq_zero h3);have HR3:Hid (R=Rn.numOk op n):=hide (by rw [HR2.out];simp [H1.out,H2.out,h3]);clear HR2 h3;subst hse;by_cases c1:op=1
   ·have HR4:Hid (R=true):=hide (by rw [HR3.out,Rn.numOk,if_pos c1])
    subst c1;go_wp2;go_ret;exact ⟨by rw [HR4.out];rfl,BC⟩
   have c1b:(op==1)=false:=(by simp [c1]);by_cases hn:n=0
   ·have HR4:Hid (R=true):=hide (by rw [HR3.out,Rn.numOk,if_neg c1];simp [hn])
    subst hn;go_wp2;go_ret;exact ⟨by rw [HR4.out];rfl,BC⟩
   have hnb:(n==0)=false:=(by simp [hn]);by_cases c2:op=2
   ·by_cases h11:n=1
    ·have HR4:Hid (R=true):=hide (by rw [HR3.out,Rn.numOk,if_neg c1,if_pos c2];simp [h11])
     subst c2 h11;go_wp2;go_ret;exact ⟨by rw [HR4.out];rfl,BC⟩
    ·have HR4:Hid (R=false):=hide (by rw [HR3.out,Rn.numOk,if_neg c1,if_pos c2];simp [h11,hn])
     have h11b:(n==1)=false:=(by simp [h11]);subst c2;go_wp2;go_ret;exact ⟨by rw [HR4.out];rfl,BC⟩
   have c2b:(op==2)=false:=(by simp [c2]);have HR4:Hid (R=false):=hide (by rw [HR3.out,Rn.numOk,if_neg c1,if_neg c2];simp [hn]);go_wp2;go_ret;exact ⟨by rw [HR4.out];rfl,BC⟩
  have h3b:=str_ne2 h3;have h3c:¬name.toList=[]:=(by have:=str_ne h3;simpa using this);have h3d:name.toList.isEmpty=false:=by cases hh:name.toList with
   | nil=>exact absurd hh h3c
   | cons a l=>rfl
  have h3e:(!name.toList.isEmpty)=true:=(by rw [h3d];rfl);by_cases h4:op=3
  case neg=>
   have h4b:(op != 3)=true:=(by simp [h4]);go_wp2;go_ret;exact ⟨by rw [HR2.out];simp [h3,h4],BC⟩
  case pos=>
   have HR3:Hid (R=Rn.numOk op n):=hide (by rw [HR2.out];simp [H1.out,H2.out,h4]);clear HR2;subst h4;by_cases hn:n=0
   ·subst hn
    go_wp2;go_ret;exact ⟨by rw [HR3.out];rfl,BC⟩
   ·have hnb:(n==0)=false:=by simp [hn]
    go_wp2;go_ret;exact ⟨by rw [HR3.out];simp [Rn.numOk,hn],BC⟩
 case first=>
  by_cases c1:op=1
  ·subst c1
   clear HR;go_wp2_with fail;go_meet
   case rel=>exact ⟨0,0,k0,rfl,rfl,rfl,hide ⟨by omega,by first | (simp [Rn.form3,HK0.out];done) | (simp [Rn.form3,HK0.out];omega)⟩,kW,BW⟩
  by_cases c2:op=2
  ·subst c2
   clear HR;go_wp2_with fail;go_meet
   case rel=>exact ⟨0,0,k0,rfl,rfl,rfl,hide ⟨by omega,by first | (simp [Rn.form3,HK0.out];done) | (simp [Rn.form3,HK0.out];omega)⟩,kW,BW⟩
  by_cases c3:op=3
  ·subst c3
   clear HR;go_wp2_with fail;go_meet
   case rel=>exact ⟨0,0,k0,rfl,rfl,rfl,hide ⟨by omega,by first | (simp [Rn.form3,HK0.out];done) | (simp [Rn.form3,HK0.out];omega)⟩,kW,BW⟩
  by_cases c4:op=4
  ·subst c4
   clear HR;by_cases h13:k=13
   ·subst h13
    go_upto_region 9 with fail;go_quiet (fail);go_wp2_with fail;go_meet
    case rel=>exact ⟨1,0,true,rfl,rfl,rfl,hide ⟨by omega,by first | (simp [Rn.form3];done) | (simp [Rn.form3];omega)⟩,kW,BW.trans ⟨rfl,rfl,rfl,Nat.le_refl _,fun _ _=>rfl⟩⟩
   have h13b:(k==13)=false:=(by simp [h13]);obtain ⟨k14,hk14⟩:=nmQ ((k==14));have hk14I:(k==14)=k14:=hk14.symm;have HK14:=hide hk14;clear hk14;go_upto_region 9 with fail;go_quiet (fail);go_wp2_with fail;go_meet
   case rel=>exact ⟨1,0,k14,rfl,rfl,rfl,hide ⟨by omega,by first | (simp [Rn.form3,HK14.out,h13];done) | (simp [Rn.form3,HK14.out,h13];omega)⟩,kW,BW.trans ⟨rfl,rfl,rfl,Nat.le_refl _,fun _ _=>rfl⟩⟩
  by_cases c5:op=5
  ·subst c5
   clear HR;by_cases h1:1≤k
   case neg=>
    go_wp2_with fail;go_meet
    case rel=>exact ⟨2,0,false,rfl,rfl,rfl,hide ⟨by omega,by first | (simp [Rn.form3,h1];done) | (simp [Rn.form3,h1];omega)⟩,kW,BW⟩
   by_cases h2:k≤12
   case neg=>
    go_wp2_with fail;go_meet
    case rel=>exact ⟨2,0,false,rfl,rfl,rfl,hide ⟨by omega,by first | (simp [Rn.form3,h1,h2];done) | (simp [Rn.form3,h1,h2];omega)⟩,kW,BW⟩
   go_wp2_with fail;go_meet
   case rel=>exact ⟨2,0,true,rfl,rfl,rfl,hide ⟨by omega,by first | (simp [Rn.form3,h1,h2];done) | (simp [Rn.form3,h1,h2];omega)⟩,kW,BW⟩
  by_cases c6:op=6
  ·subst c6
   clear HR;go_wp2_with fail;go_meet
   case rel=>exact ⟨3,0,k0,rfl,rfl,rfl,hide ⟨by omega,by first | (simp [Rn.form3,HK0.out];done) | (simp [Rn.form3,HK0.out];omega)⟩,kW,BW⟩
  by_cases c7:op=7
  ·subst c7
   clear HR;by_cases hL1:nL=1
   ·have hL1b:((nL:Int)==1)=true:=by simp [hL1]
    have HL1:=hide hL1;clear hL1;by_cases h1:1≤k
    case neg=>
     go_wp2_with fail;go_meet
     case rel=>exact ⟨1,0,false,rfl,rfl,rfl,hide ⟨by omega,by first | (simp [Rn.form3,h1,HL1.out];done) | (simp [Rn.form3,h1,HL1.out];omega)⟩,kW,BW⟩
    by_cases h2:k≤14
    case neg=>
     go_wp2_with fail;go_meet
     case rel=>exact ⟨1,0,false,rfl,rfl,rfl,hide ⟨by omega,by first | (simp [Rn.form3,h1,h2,HL1.out];done) | (simp [Rn.form3,h1,h2,HL1.out];omega)⟩,kW,BW⟩
    go_wp2_with fail;go_meet
    case rel=>exact ⟨1,0,true,rfl,rfl,rfl,hide ⟨by omega,by first | (simp [Rn.form3,h1,h2,HL1.out];done) | (simp [Rn.form3,h1,h2,HL1.out];omega)⟩,kW,BW⟩
   have hL1b:((nL:Int)==1)=false:=(by simp;omega);have HL1:=hide hL1;by_cases h1:1≤k
   case neg=>
    go_wp2_with fail;go_meet
    case rel=>exact ⟨2,0,false,rfl,rfl,rfl,hide ⟨by omega,by first | (simp [Rn.form3,h1,HL1.out];done) | (simp [Rn.form3,h1,HL1.out];omega)⟩,kW,BW⟩
   by_cases h2:k≤14
   case neg=>
    go_wp2_with fail;go_meet
    case rel=>exact ⟨2,0,false,rfl,rfl,rfl,hide ⟨by omega,by first | (simp [Rn.form3,h1,h2,HL1.out];done) | (simp [Rn.form3,h1,h2,HL1.out];omega)⟩,kW,BW⟩
   go_wp2_with fail;go_meet
   case rel=>exact ⟨2,0,true,rfl,rfl,rfl,hide ⟨by omega,by first | (simp [Rn.form3,h1,h2,HL1.out];done) | (simp [Rn.form3,h1,h2,HL1.out];omega)⟩,kW,BW⟩
  by_cases c8:op=8
  ·subst c8
   clear HR;by_cases h1:1≤k
   case neg=>
    go_wp2_with fail;go_meet
    case rel=>exact ⟨2,0,false,rfl,rfl,rfl,hide ⟨by omega,by first | (simp [Rn.form3,h1];done) | (simp [Rn.form3,h1];omega)⟩,kW,BW⟩
   by_cases h2:k≤14
   case neg=>
    go_wp2_with fail;go_meet
    case rel=>exact ⟨2,0,false,rfl,rfl,rfl,hide ⟨by omega,by first | (simp [Rn.form3,h1,h2];done) | (simp [Rn.form3,h1,h2];omega)⟩,kW,BW⟩
   go_wp2_with fail;go_meet
   case rel=>exact ⟨2,0,true,rfl,rfl,rfl,hide ⟨by omega,by first | (simp [Rn.form3,h1,h2];done) | (simp [Rn.form3,h1,h2];omega)⟩,kW,BW⟩
  by_cases c9:op=9
  ·subst c9
   clear HR;by_cases h1:1≤k
   case neg=>
    go_wp2_with fail;go_meet
    case rel=>exact ⟨2,0,false,rfl,rfl,rfl,hide ⟨by omega,by first | (simp [Rn.form3,h1];done) | (simp [Rn.form3,h1];omega)⟩,kW,BW⟩
   by_cases h2:k≤14
   case neg=>
    go_wp2_with fail;go_meet
    case rel=>exact ⟨2,0,false,rfl,rfl,rfl,hide ⟨by omega,by first | (simp [Rn.form3,h1,h2];done) | (simp [Rn.form3,h1,h2];omega)⟩,kW,BW⟩
   go_wp2_with fail;go_meet
   case rel=>exact ⟨2,0,true,rfl,rfl,rfl,hide ⟨by omega,by first | (simp [Rn.form3,h1,h2];done) | (simp [Rn.form3,h1,h2];omega)⟩,kW,BW⟩
  by_cases c10:op=10
  ·subst c10
   clear HR;go_wp2_with fail;go_meet
   case rel=>exact ⟨1,1,k0,rfl,rfl,rfl,hide ⟨by omega,by first | (simp [Rn.form3,HK0.out];done) | (simp [Rn.form3,HK0.out];omega)⟩,kW,BW⟩
  by_cases c11:op=11
  ·subst c11
   clear HR;go_wp2_with fail;go_meet
   case rel=>exact ⟨3,0,k0,rfl,rfl,rfl,hide ⟨by omega,by first | (simp [Rn.form3,HK0.out];done) | (simp [Rn.form3,HK0.out];omega)⟩,kW,BW⟩
  by_cases c12:op=12
  ·subst c12
   clear HR;go_wp2_with fail;go_meet
   case rel=>exact ⟨3,0,k0,rfl,rfl,rfl,hide ⟨by omega,by first | (simp [Rn.form3,HK0.out];done) | (simp [Rn.form3,HK0.out];omega)⟩,kW,BW⟩
  by_cases c13:op=13
  ·subst c13
   clear HR;go_wp2_with fail;go_meet
   case rel=>exact ⟨1,2,k0,rfl,rfl,rfl,hide ⟨by omega,by first | (simp [Rn.form3,HK0.out];done) | (simp [Rn.form3,HK0.out];omega)⟩,kW,BW⟩
  by_cases c14:op=14
  ·subst c14
   clear HR;go_wp2_with fail;go_meet
   case rel=>exact ⟨2,0,k0,rfl,rfl,rfl,hide ⟨by omega,by first | (simp [Rn.form3,HK0.out];done) | (simp [Rn.form3,HK0.out];omega)⟩,kW,BW⟩
  by_cases c15:op=15
  ·subst c15
   clear HR;go_wp2_with fail;go_meet
   case rel=>exact ⟨2,0,k0,rfl,rfl,rfl,hide ⟨by omega,by first | (simp [Rn.form3,HK0.out];done) | (simp [Rn.form3,HK0.out];omega)⟩,kW,BW⟩
  have c1b:(op==1)=false:=(by simp [c1]);have c2b:(op==2)=false:=(by simp [c2]);have c3b:(op==3)=false:=(by simp [c3]);have c4b:(op==4)=false:=(by simp [c4]);have c5b:(op==5)=false:=(by simp [c5]);have c6b:(op==6)=false:=(by simp [c6]);have c7b:(op==7)=false:=(by simp [c7]);have c8b:(op==8)=false:=(by simp [c8]);have c9b:(op==9)=false:=(by simp [c9]);have c10b:(op==10)=false:=(by simp [c10]);have c11b:(op==11)=false:=(by simp [c11]);have c12b:(op==12)=false:=(by simp [c12]);have c13b:(op==13)=false:=(by simp [c13]);have c14b:(op==14)=false:=(by simp [c14]);have c15b:(op==15)=false:=(by simp [c15]);have HR4:Hid (R=false):=hide (by rw [HR.out,show decide (1≤op∧op≤15)=false by simp;omega,Bool.false_and]);clear HR;go_wp2;go_ret;exact ⟨by rw [HR4.out];rfl,BW⟩
end Go.Proofs.YtophfbefnaelfaaGreatDoor
namespace Go.Proofs.YtophfbefnaelfaaGreatDoor
open Go.RowKit Go.IntWalk
def XfDoes (e:Ex):Prop:=∀ (ok:Nat→Prop) (w:World) (x:ExV),HEx ok w x.cells e →
 Calls Tryz.prog 48 #[.agg #[.int .i64 x.op,.int .i64 x.k,.int .i64 x.n,.string x.name,.slice x.aS x.nS x.cS,.slice x.aL x.nL x.cL]] w fun r w'=>r=.returned (.int .i64 (Rn.partC e))∧Below w.heap.size w w'
theorem exprFault_step {op k n:Int} {name:ByteArray} {S:List (List Tm)} {L:List Ex} (hF:Rn.exF (.mk op k n name S L)) (hD:∀ x ∈ L,XfDoes x):XfDoes (.mk op k n name S L):=by
 intro ok w x hx;obtain ⟨ex1,ex2,ex3,ex4,hSx,hLx⟩:=hx.parts;obtain ⟨op',k',n',name',aS,nS,cS,aL,nL,cL⟩:=x
 dsimp only [Ex.op,Ex.k,Ex.n,Ex.name,Ex.S,Ex.L] at ex1 ex2 ex3 ex4 hSx hLx ⊢
 obtain rfl:=ex1.symm;obtain rfl:=ex2.symm;obtain rfl:=ex3.symm;obtain rfl:=ex4.symm;clear ex1 ex2 ex3 ex4 hx;rw [Rn.exF] at hF;obtain ⟨hFn,hFS,_⟩:=hF;obtain ⟨aq,cq,ev,hcS,hcS2,_⟩:=hSx.at;injection ev with ev1 ev2 ev3;subst ev1 ev3 ev2;obtain ⟨aq,cq,ev,hcL,hcL2,_⟩:=hLx.at;injection ev with ev1 ev2 ev3;subst ev1 ev3 ev2;have hform:=fun V=>exprForm_any op k n name aS aL cS cL S L V hcL hcL2 hcS hcS2;have hname:=fun V=>isName_any name V hFn;obtain ⟨R,hR⟩:=nmQ (Rn.partC (.mk op k n name S L));rw [←hR];rw [Rn.partC,Rn.partsC_eq] at hR;generalize Rn.formOk (.mk op k n name S L)=fo at hform hR;generalize isName name.data.toList=ib at hname hR;have HR:=hide hR;have HS:=hide hSx;have HL:=hide hLx;have HD:=hide hD;have HFS:=hide hFS;clear hR hSx hLx hD hFS hFn;unfold maxLen at hcS2 hcL2;obtain ⟨nS,hnS⟩:=nmQ (S.length);obtain ⟨nL,hnL⟩:=nmQ (L.length);rw [←hnS] at hcS hform HS ⊢;rw [←hnL] at hcL hform HL ⊢;have HNS:=hide hnS;have HNL:=hide hnL;clear hnS hnL;have bA:Below w.heap.size w (w.alloc (.cells #[.int .i64 op,.int .i64 k,.int .i64 n,.string name,.slice aS nS cS,.slice aL nL cL] 88 (0,0))):=(Below.refl _ _).alloc nR _;have kA:=heap_new w (.cells #[.int .i64 op,.int .i64 k,.int .i64 n,.string name,.slice aS nS cS,.slice aL nL cL] 88 (0,0));have zA:(w.alloc (.cells #[.int .i64 op,.int .i64 k,.int .i64 n,.string name,.slice aS nS cS,.slice aL nL cL] 88 (0,0))).heap.size=w.heap.size+1:=(by simp);go_enter Tryz.func48,Tryz.ntmps48;go_wp2_with fail;refine (hform _).mono ?_;rintro e w1 ⟨rfl,b1⟩;have B1:=bA.trans (b1.mono bA.size);have k1:=(b1.block _ (lt_of kA)).trans kA;clear hform kA;have z1:w.heap.size<w1.heap.size:=lt_of k1;have p0:=co k1 0;have p2:=co k1 2;have p3:=co k1 3;simp at p0 p2 p3
 cases fo
 case false=>
  have hR:=HR.out;rw [if_pos rfl] at hR;clear HR;subst hR;go_wp2;go_ret;exact ⟨rfl,B1⟩
 have HR1:=hide (HR.out.trans (if_neg (by decide)));clear HR;by_cases c3:op=3
 case pos=>
  subst c3;go_wp2_with fail;refine (hname _).mono ?_;rintro e w2 ⟨rfl,b2⟩;have B2:=B1.trans (b2.mono B1.size);have k2:=(b2.block _ (lt_of k1)).trans k1;clear p0 p2 p3;have p2:=co k2 2;simp at p2
  cases ib
  case false=>
   have hR:=HR1.out;rw [if_pos (by simp)] at hR;clear HR1;subst hR;go_wp2;go_ret;exact ⟨rfl,B2⟩
  have HR2:=hide (HR1.out.trans (if_neg (by simp)));clear HR1;by_cases hn0:n<0
  ·have hR:=HR2.out
   rw [if_pos (.inl hn0)] at hR;clear HR2;subst hR;go_wp2;go_ret;exact ⟨rfl,B2⟩
  by_cases hn1:1000000000000000000≤n
  ·have hR:=HR2.out
   rw [if_pos (.inr hn1)] at hR;clear HR2;subst hR;go_wp2;go_ret;exact ⟨rfl,B2⟩
  have HR3:=hide (HR2.out.trans (if_neg (by omega)));clear HR2;have bz:=Below.refl w2.heap.size w2;go_wp2_with fail;go_loopg [3] nS (fun gk v wr=>∃ i,i≤nS∧gk=nS-i∧v=.int .i64 (i:Nat)∧Hid (∀ j (h:j<S.length),j<i→Rn.sizeC S[j]=0)∧Below w2.heap.size w2 wr)
  case atStart=>exact ⟨0,Nat.zero_le _,rfl,rfl,hide (fun j _ h=>absurd h (Nat.not_lt_zero _)),bz⟩
  case round=>
   obtain ⟨i,hi,rfl,rfl,H,br⟩:=hrel;have BR:=B2.trans (br.mono B2.size);have kr:=(br.block _ (lt_of k2)).trans k2;have r4:=co kr 4;have r5:=co kr 5;simp at r4 r5;by_cases hlt:i<nS
   case neg=>
    have hin:i=nS:=(by omega);subst hin;have hS0:=Rn.firstC_none Rn.sizeC S (fun j hj=>H.out j hj (by have:=HNS.out;omega));have HR4:=hide (HR3.out.trans (if_neg (by simp [hS0])));clear HR3 H hS0;go_wp2_with fail;go_loopg [5] nL (fun gk v wq=>∃ i,i≤nL∧gk=nL-i∧v=.int .i64 (i:Nat)∧Hid (∀ j (h:j<L.length),j<i→Rn.partC L[j]=0)∧Below w2.heap.size w2 wq)
    case atStart=>exact ⟨0,Nat.zero_le _,rfl,rfl,hide (fun j _ h=>absurd h (Nat.not_lt_zero _)),br⟩
    case round=>
     obtain ⟨i,hi2,rfl,rfl,H,bq⟩:=hrel;have BQ:=B2.trans (bq.mono B2.size);have kq:=(bq.block _ (lt_of k2)).trans k2;have t5:=co kq 5;simp at t5;by_cases hlt2:i<nL
     case neg=>
      have hR:=HR4.out;rw [Rn.firstC_none Rn.partC L (fun j hj=>H.out j hj (by have:=HNL.out;omega))] at hR;clear HR4;subst hR;go_wp2;go_ret;exact ⟨rfl,BQ⟩
     case pos=>
      have hil:i<L.length:=(by have:=HNL.out;omega);obtain ⟨ao',cap',e1,_,_,hat⟩:=(HL.out.under BQ).at;injection e1 with e2 e3 e4;subst e2 e4;obtain ⟨bl,o,y,e5,hok,hbl,hy,hex⟩:=hat i hil;subst e5;clear hat e3;obtain ⟨d0,d1,d2,d3,d4,d5⟩:=hy;have hDi:=HD.out L[i] (List.getElem_mem hil) ok _ y hex;have HST:Hid (Rn.partC L[i]≠0→R=Rn.partC L[i]):=hide (fun hne=>by rw [HR4.out];exact Rn.firstC_step Rn.partC L i hil (fun j hj hji=>H.out j hj hji) hne);have HNX:Hid (Rn.partC L[i]=0→∀ j (h:j<L.length),j<i+1→Rn.partC L[j]=0):=hide (fun hz j hj hji=>by
       by_cases e:j=i
       ·subst e;exact hz
       ·exact H.out j hj (by omega))
      generalize Rn.partC L[i]=pc at hDi HST HNX;obtain ⟨yo,yk,yn,ys,yaS,ynS,ycS,yaL,ynL,ycL⟩:=y
      dsimp only at d0 d1 d2 d3 d4 d5 hDi
      clear hex;go_wp2_with fail;refine hDi.mono ?_;rintro e w5 ⟨rfl,b5⟩;have B5:=bq.trans (b5.mono bq.size);by_cases hz:pc=0
      ·subst hz
       have HNX2:=hide (HNX.out rfl);clear HST HNX;go_wp2_with fail;go_roundg (nL-(i+1))
       case measure=>omega
       case rel=>exact ⟨i+1,by omega,rfl,by go_num,HNX2,B5⟩
      ·have hR:=HST.out hz
       have hzb:(pc != 0)=true:=(by simp [hz]);clear HST HNX HR4;subst hR;go_wp2;go_ret;exact ⟨rfl,B2.trans (B5.mono B2.size)⟩
   case pos=>
    have hil:i<S.length:=(by have:=HNS.out;omega);obtain ⟨ao',cap',e1,_,_,hat⟩:=(HS.out.under BR).at;injection e1 with e2 e3 e4;subst e2 e4;obtain ⟨bl,o,au,nu,cu,e5,hbl,d0,hte⟩:=hat i hil;subst e5;clear hat e3;have hc:=sizeFault_any hte (HFS.out S[i] (List.getElem_mem hil));have HST:Hid (Rn.sizeC S[i]≠0→R=Rn.sizeC S[i]):=hide (fun hne=>by
     have hfc:=Rn.firstC_step Rn.sizeC S i hil (fun j hj hji=>H.out j hj hji) hne;rw [HR3.out,if_pos (by rw [hfc];exact hne),hfc])
    have HNX:Hid (Rn.sizeC S[i]=0→∀ j (h:j<S.length),j<i+1→Rn.sizeC S[j]=0):=hide (fun hz j hj hji=>by
     by_cases e:j=i
     ·subst e;exact hz
     ·exact H.out j hj (by omega))
    generalize Rn.sizeC S[i]=pc at hc HST HNX;clear hte;go_wp2_with fail;refine hc.mono ?_;rintro e w5 ⟨rfl,b5⟩;have B5:=br.trans (b5.mono br.size);by_cases hz:pc=0
    ·subst hz
     have HNX2:=hide (HNX.out rfl);clear HST HNX;go_wp2_with fail;go_roundg (nS-(i+1))
     case measure=>omega
     case rel=>exact ⟨i+1,by omega,rfl,by go_num,HNX2,B5⟩
    ·have hR:=HST.out hz
     have hzb:(pc != 0)=true:=(by simp [hz]);clear HST HNX HR3;subst hR;go_wp2;go_ret;exact ⟨rfl,B2.trans (B5.mono B2.size)⟩
 case neg=>
  have c3b:(op==3)=false:=(by simp [c3]);have HR2:=hide (HR1.out.trans (if_neg (by simp [c3])));clear HR1 c3;by_cases hn0:n<0
  ·have hR:=HR2.out
   rw [if_pos (.inl hn0)] at hR;clear HR2;subst hR;go_wp2;go_ret;exact ⟨rfl,B1⟩
  by_cases hn1:1000000000000000000≤n
  ·have hR:=HR2.out
   rw [if_pos (.inr hn1)] at hR;clear HR2;subst hR;go_wp2;go_ret;exact ⟨rfl,B1⟩
  have HR3:=hide (HR2.out.trans (if_neg (by omega)));clear HR2;have bz:=Below.refl w1.heap.size w1;go_wp2_with fail;go_loopg [3] nS (fun gk v wr=>∃ i,i≤nS∧gk=nS-i∧v=.int .i64 (i:Nat)∧Hid (∀ j (h:j<S.length),j<i→Rn.sizeC S[j]=0)∧Below w1.heap.size w1 wr)
  case atStart=>exact ⟨0,Nat.zero_le _,rfl,rfl,hide (fun j _ h=>absurd h (Nat.not_lt_zero _)),bz⟩
  case round=>
   obtain ⟨i,hi,rfl,rfl,H,br⟩:=hrel;have BR:=B1.trans (br.mono B1.size);have kr:=(br.block _ (lt_of k1)).trans k1;have r4:=co kr 4;have r5:=co kr 5;simp at r4 r5;by_cases hlt:i<nS
   case neg=>
    have hin:i=nS:=(by omega);subst hin;have hS0:=Rn.firstC_none Rn.sizeC S (fun j hj=>H.out j hj (by have:=HNS.out;omega));have HR4:=hide (HR3.out.trans (if_neg (by simp [hS0])));clear HR3 H hS0;go_wp2_with fail;go_loopg [5] nL (fun gk v wq=>∃ i,i≤nL∧gk=nL-i∧v=.int .i64 (i:Nat)∧Hid (∀ j (h:j<L.length),j<i→Rn.partC L[j]=0)∧Below w1.heap.size w1 wq)
    case atStart=>exact ⟨0,Nat.zero_le _,rfl,rfl,hide (fun j _ h=>absurd h (Nat.not_lt_zero _)),br⟩
    case round=>
     obtain ⟨i,hi2,rfl,rfl,H,bq⟩:=hrel;have BQ:=B1.trans (bq.mono B1.size);have kq:=(bq.block _ (lt_of k1)).trans k1;have t5:=co kq 5;simp at t5;by_cases hlt2:i<nL
     case neg=>
      have hR:=HR4.out;rw [Rn.firstC_none Rn.partC L (fun j hj=>H.out j hj (by have:=HNL.out;omega))] at hR;clear HR4;subst hR;go_wp2;go_ret;exact ⟨rfl,BQ⟩
     case pos=>
      have hil:i<L.length:=(by have:=HNL.out;omega);obtain ⟨ao',cap',e1,_,_,hat⟩:=(HL.out.under BQ).at;injection e1 with e2 e3 e4;subst e2 e4;obtain ⟨bl,o,y,e5,hok,hbl,hy,hex⟩:=hat i hil;subst e5;clear hat e3;obtain ⟨d0,d1,d2,d3,d4,d5⟩:=hy;have hDi:=HD.out L[i] (List.getElem_mem hil) ok _ y hex;have HST:Hid (Rn.partC L[i]≠0→R=Rn.partC L[i]):=hide (fun hne=>by rw [HR4.out];exact Rn.firstC_step Rn.partC L i hil (fun j hj hji=>H.out j hj hji) hne);have HNX:Hid (Rn.partC L[i]=0→∀ j (h:j<L.length),j<i+1→Rn.partC L[j]=0):=hide (fun hz j hj hji=>by
       by_cases e:j=i
       ·subst e;exact hz
       ·exact H.out j hj (by omega))
      generalize Rn.partC L[i]=pc at hDi HST HNX;obtain ⟨yo,yk,yn,ys,yaS,ynS,ycS,yaL,ynL,ycL⟩:=y
      dsimp only at d0 d1 d2 d3 d4 d5 hDi
      clear hex;go_wp2_with fail;refine hDi.mono ?_;rintro e w5 ⟨rfl,b5⟩;have B5:=bq.trans (b5.mono bq.size);by_cases hz:pc=0
      ·subst hz
       have HNX2:=hide (HNX.out rfl);clear HST HNX;go_wp2_with fail;go_roundg (nL-(i+1))
       case measure=>omega
       case rel=>exact ⟨i+1,by omega,rfl,by go_num,HNX2,B5⟩
      ·have hR:=HST.out hz
       have hzb:(pc != 0)=true:=(by simp [hz]);clear HST HNX HR4;subst hR;go_wp2;go_ret;exact ⟨rfl,B1.trans (B5.mono B1.size)⟩
   case pos=>
    have hil:i<S.length:=(by have:=HNS.out;omega);obtain ⟨ao',cap',e1,_,_,hat⟩:=(HS.out.under BR).at;injection e1 with e2 e3 e4;subst e2 e4;obtain ⟨bl,o,au,nu,cu,e5,hbl,d0,hte⟩:=hat i hil;subst e5;clear hat e3;have hc:=sizeFault_any hte (HFS.out S[i] (List.getElem_mem hil));have HST:Hid (Rn.sizeC S[i]≠0→R=Rn.sizeC S[i]):=hide (fun hne=>by
     have hfc:=Rn.firstC_step Rn.sizeC S i hil (fun j hj hji=>H.out j hj hji) hne;rw [HR3.out,if_pos (by rw [hfc];exact hne),hfc])
    have HNX:Hid (Rn.sizeC S[i]=0→∀ j (h:j<S.length),j<i+1→Rn.sizeC S[j]=0):=hide (fun hz j hj hji=>by
     by_cases e:j=i
     ·subst e;exact hz
     ·exact H.out j hj (by omega))
    generalize Rn.sizeC S[i]=pc at hc HST HNX;clear hte;go_wp2_with fail;refine hc.mono ?_;rintro e w5 ⟨rfl,b5⟩;have B5:=br.trans (b5.mono br.size);by_cases hz:pc=0
    ·subst hz
     have HNX2:=hide (HNX.out rfl);clear HST HNX;go_wp2_with fail;go_roundg (nS-(i+1))
     case measure=>omega
     case rel=>exact ⟨i+1,by omega,rfl,by go_num,HNX2,B5⟩
    ·have hR:=HST.out hz
     have hzb:(pc != 0)=true:=(by simp [hz]);clear HST HNX HR3;subst hR;go_wp2;go_ret;exact ⟨rfl,B1.trans (B5.mono B1.size)⟩
theorem exprFaultR_any:∀ (q:Nat) (e:Ex),parts e≤q→Rn.exF e→XfDoes e
 | 0,.mk _ _ _ _ _ _,h,_=>by simp [parts] at h
 | q+1,.mk op k n name S L,h,hF=>exprFault_step hF (fun x hx=>by
  rw [parts] at h;rw [Rn.exF] at hF;obtain ⟨i,hi,rfl⟩:=List.getElem_of_mem hx;have:=parts_mem L i hi;exact exprFaultR_any q _ (by omega) (Rn.exsF_mem hF.2.2 _ hx))
theorem exprFault_any {e:Ex} (hF:Rn.exF e):XfDoes e:=exprFaultR_any _ e nR hF
end Go.Proofs.YtophfbefnaelfaaGreatDoor
