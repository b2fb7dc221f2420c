import Derived.Test.YtophfbefnaelfaaGreatDoorM38
set_option linter.unusedVariables false
set_option linter.unusedSimpArgs false
set_option maxHeartbeats 64000000
set_option maxRecDepth 100000
namespace Go.Proofs.YtophfbefnaelfaaGreatDoor
open Go.RowKit Go.IntWalk
theorem eqFault_any {ok:Nat→Prop} {w:World} {x:EqV} {q:Eqn} (hx:HEq ok w x q) (hF:Rn.eqF q) (hP:∀ e ∈ q.E,parts e≤1000000) :
  Calls Tryz.prog 28 #[.agg #[.int .i64 x.place,.slice x.aN x.nN x.cN,.string x.node,.slice x.aS x.nS x.cS,.slice x.aE x.nE x.cE]] w fun e w'=>e=.returned (.int .i64 (Rn.eqC q))∧Below w.heap.size w w':=by
 obtain ⟨place,aN,nN,cN,node,aS,nS,cS,aE,nE,cE⟩:=x;obtain ⟨hF1,hF2,hF3,hF4⟩:=hF;have hnode:=hx.node
 dsimp only at hnode ⊢
 obtain ⟨aq,cq,ev,hcN,hcN2,_⟩:=hx.names.at
 dsimp only at ev
 injection ev with ev1 ev2 ev3;subst ev1 ev3;have HNN:Hid (nN=q.names.length):=hide ev2;rw [←ev2] at hcN;clear ev2;obtain ⟨aq,cq,ev,hcS,hcS2,_⟩:=hx.S.at
 dsimp only at ev
 injection ev with ev1 ev2 ev3;subst ev1 ev3;have HNS:Hid (nS=q.S.length):=hide ev2;rw [←ev2] at hcS;clear ev2;obtain ⟨aq,cq,ev,hcE,hcE2,_⟩:=hx.E.at
 dsimp only at ev
 injection ev with ev1 ev2 ev3;subst ev1 ev3;have HNE:Hid (nE=q.E.length):=hide ev2;rw [←ev2] at hcE;clear ev2;unfold maxLen at hcN2 hcS2 hcE2;have hnm:=fun V=>isName_any node V (by rw [hnode];exact hF2);obtain ⟨R,hR⟩:=nmQ (Rn.eqC q);rw [←hR];unfold Rn.eqC at hR;rw [←hnode,←HNN.out,←HNS.out,←HNE.out] at hR;have HR:=hide hR;have HXN:=hide hx.names;have HXS:=hide hx.S;have HXE:=hide hx.E
 dsimp only at HXN HXS HXE
 have HF1:=hide hF1;have HF3:=hide hF3;have HF4:=hide hF4;have HPP:=hide hP;clear hR hx hF1 hF2 hF3 hF4 hnode hP;generalize isName node.data.toList=ib at hnm HR;have bA:Below w.heap.size w (w.alloc (.cells #[.int .i64 place,.slice aN nN cN,.string node,.slice aS nS cS,.slice aE nE cE] 49 (0,0))):=(Below.refl _ _).alloc nR _;have kA:=heap_new w (.cells #[.int .i64 place,.slice aN nN cN,.string node,.slice aS nS cS,.slice aE nE cE] 49 (0,0));go_enter Tryz.func28,Tryz.ntmps28;go_upto_region 1 with fail;generalize (w.alloc (.cells #[.int .i64 place,.slice aN nN cN,.string node,.slice aS nS cS,.slice aE nE cE] 49 (0,0)))=W at bA kA ⊢;have p1:=co kA 1;have p2:=co kA 2;have p3:=co kA 3;have p4:=co kA 4;simp at p1 p2 p3 p4;have c4i:∃ c4:Bool,(c4=true↔(nN=0∨(node.size=0∧¬(nN=1∧nE=1∧nS=0)))):=⟨decide (nN=0∨(node.size=0∧¬(nN=1∧nE=1∧nS=0))),by rw [decide_eq_true_eq]⟩;obtain ⟨c4,hc4⟩:=c4i;have HC4:=hide hc4;clear hc4;go_cut [34] (fun v wc=>v=.bool c4∧wc=W)
 case first=>
  by_cases hN0:nN=0
  ·have hcc:c4=true:=HC4.out.2 (.inl hN0)
   subst hN0 hcc;go_wp2_with fail;go_meet
   case rel=>exact ⟨by first | rfl | (simp;omega),rfl⟩
  have hN0b:((nN:Int)==0)=false:=(by simp;omega);have HN0:=hide hN0;clear hN0;by_cases hz:node.size=0
  case neg=>
   have hne:=str_ne hz;have hcc:c4=false:=by cases c4 with
    | false=>rfl
    | true=>exact absurd (HC4.out.1 rfl) (by have:=HN0.out;intro h;rcases h with h | h;exact this h;exact hz h.1)
   subst hcc;go_wp2_with fail;go_meet
   case rel=>exact ⟨by first | rfl | (simp;omega),rfl⟩
  have hse:node=⟨#[]⟩:=ByteArray.ext (Array.eq_empty_of_size_eq_zero hz);by_cases h1:1<nN
  ·have h1I:(1:Int)<(nN:Int):=by omega
   have hcc:c4=true:=HC4.out.2 (.inr ⟨hz,by omega⟩);subst hse hcc;go_wp2_with fail;go_meet
   case rel=>exact ⟨by first | rfl | (simp;omega),rfl⟩
  have h1I:¬(1:Int)<(nN:Int):=(by omega);have H1:=hide h1;clear h1;by_cases h2:nE=1
  case neg=>
   have h2b:((nE:Int) != 1)=true:=(by simp;omega);have hcc:c4=true:=HC4.out.2 (.inr ⟨hz,by omega⟩);subst hse hcc;go_wp2_with fail;go_meet
   case rel=>exact ⟨by first | rfl | (simp;omega),rfl⟩
  have h2b:((nE:Int) != 1)=false:=(by simp;omega);by_cases h3:nS=0
  case neg=>
   have h3I:(0:Int)<(nS:Int):=(by omega);have hcc:c4=true:=HC4.out.2 (.inr ⟨hz,by omega⟩);have H2:=hide h2;clear h2;subst hse hcc;go_wp2_with fail;go_meet
   case rel=>exact ⟨by first | rfl | (simp;omega),rfl⟩
  have h3I:¬(0:Int)<(nS:Int):=(by omega);have hcc:c4=false:=by cases c4 with
   | false=>rfl
   | true=>exact absurd (HC4.out.1 rfl) (by have:=HN0.out;have:=H1.out;omega)
  have H2:=hide h2;have H3:=hide h3;clear h2 h3;subst hse hcc;go_wp2_with fail;go_meet
  case rel=>exact ⟨by first | rfl | (simp;omega),rfl⟩
 case rest=>
  obtain ⟨rfl,rfl⟩:=hcut
  cases c4
  case true=>
   have hR:=HR.out;rw [if_pos (HC4.out.1 rfl)] at hR;clear HR;subst hR;go_wp2;go_ret;exact ⟨rfl,bA⟩
  have HR1:=hide (HR.out.trans (if_neg (fun h=>by have:=HC4.out.2 h;cases this)));clear HR HC4;by_cases g1:30<nN
  ·have g1I:(30:Int)<(nN:Int):=by omega
   have hR:=HR1.out;rw [if_pos (.inl g1)] at hR;clear HR1;subst hR;go_wp2;go_ret;exact ⟨rfl,bA⟩
  have g1I:¬(30:Int)<(nN:Int):=(by omega);by_cases g2:30<nE
  ·have g2I:(30:Int)<(nE:Int):=by omega
   have hR:=HR1.out;rw [if_pos (.inr (.inl g2))] at hR;clear HR1;subst hR;go_wp2;go_ret;exact ⟨rfl,bA⟩
  have g2I:¬(30:Int)<(nE:Int):=(by omega);by_cases g3:3<nS
  ·have g3I:(3:Int)<(nS:Int):=by omega
   have hR:=HR1.out;rw [if_pos (.inr (.inr g3))] at hR;clear HR1;subst hR;go_wp2;go_ret;exact ⟨rfl,bA⟩
  have g3I:¬(3:Int)<(nS:Int):=(by omega);have HR2:=hide (HR1.out.trans (if_neg (by omega)));clear HR1;go_upto_block 0 with fail;go_cut [] (fun wc=>Hid (Rn.firstC Rn.nameC q.names=0)∧wc.heap[w.heap.size]?=some (.cells #[.int .i64 place,.slice aN nN cN,.string node,.slice aS nS cS,.slice aE nE cE] 49 (0,0))∧Below w.heap.size w wc)
  case first=>
   go_wp2_with fail;go_loopg [3] nN (fun gk v wr=>∃ i,i≤nN∧gk=nN-i∧v=.int .i64 (i:Nat)∧Hid (∀ j (h:j<q.names.length),j<i→Rn.nameC q.names[j]=0)∧wr.heap[w.heap.size]?=some (.cells #[.int .i64 place,.slice aN nN cN,.string node,.slice aS nS cS,.slice aE nE cE] 49 (0,0))∧Below w.heap.size w wr)
   case atStart=>exact ⟨0,Nat.zero_le _,rfl,rfl,hide (fun j _ h=>absurd h (Nat.not_lt_zero _)),kA,bA⟩
   case round=>
    obtain ⟨i,hi,rfl,rfl,H,kr,BR⟩:=hrel;have rf:=co kr 1;simp at rf;by_cases hlt:i<nN
    case neg=>
     have hin:i=nN:=(by omega);have HZ0:=hide (Rn.firstC_none Rn.nameC q.names (fun j hj=>H.out j hj (by have:=HNN.out;omega)));clear H;go_wp2_with fail;go_meet
     case rel=>exact ⟨HZ0,kr,BR⟩
    case pos=>
     have hil:i<q.names.length:=(by have:=HNN.out;omega);have HST:Hid (Rn.nameC q.names[i]≠0→Rn.firstC Rn.nameC q.names=Rn.nameC q.names[i]):=hide (fun hne=>Rn.firstC_step Rn.nameC q.names i hil (fun j hj hji=>H.out j hj hji) hne);have HNX:Hid (Rn.nameC q.names[i]=0→∀ j (h:j<q.names.length),j<i+1→Rn.nameC q.names[j]=0):=hide (fun hz j hj hji=>by
      by_cases e:j=i
      ·subst e;exact hz
      ·exact H.out j hj (by omega))
     obtain ⟨ao',cap',e1,_,_,hat⟩:=(HXN.out.under BR).at;injection e1 with e2 e3 e4;subst e2 e4;obtain ⟨bl,o,e5,hbl,d0⟩:=hat i hil;subst e5;clear hat e3;have hc:=fun V=>isName_any q.names[i] V (HF1.out _ (List.getElem_mem hil));have hnC:Rn.nameC q.names[i]=if isName q.names[i].data.toList=true then 0 else 3:=rfl
     rw [hnC] at HST HNX;clear hnC;generalize q.names[i]=s at d0 hc HST HNX;generalize isName s.data.toList=nb at hc HST HNX;go_wp2_with fail;refine (hc _).mono ?_;rintro e w5 ⟨rfl,b5⟩;have k5:=(b5.block _ (lt_of kr)).trans kr;have B5:=BR.trans (b5.mono BR.size)
     cases nb
     ·have hfc:=HST.out (by simp)
      have hR:=HR2.out;rw [if_pos (.inl (by rw [hfc];simp))] at hR;clear HR2;subst hR;go_wp2;go_ret;exact ⟨rfl,B5⟩
     ·have HNX2:=hide (HNX.out (by simp))
      clear HST HNX;go_wp2_with fail;go_roundg (nN-(i+1))
      case measure=>omega
      case rel=>exact ⟨i+1,by omega,rfl,by go_num,HNX2,k5,B5⟩
  case rest=>
   obtain ⟨HN,kC,BC⟩:=hcut;clear p1 p2 p3 p4;have r2:=co kC 2;simp at r2;go_upto_region 10 with fail;go_cut [73] (fun v wd=>(∃ bb:Bool,v=.bool bb∧Hid (bb=true↔(node.size≠0∧ib=false)))∧wd.heap[w.heap.size]?=some (.cells #[.int .i64 place,.slice aN nN cN,.string node,.slice aS nS cS,.slice aE nE cE] 49 (0,0))∧Below w.heap.size w wd)
   case first=>
    by_cases hz:node.size=0
    ·have hse:node=⟨#[]⟩:=ByteArray.ext (Array.eq_empty_of_size_eq_zero hz)
     have HZ:=hide hz;subst hse;go_wp2_with fail;go_meet
     case rel=>exact ⟨⟨false,rfl,hide (by have:=HZ.out;simp [this])⟩,kC,BC⟩
    ·have hne:=str_ne2 hz
     have hne2:¬node.toList=[]:=(by have:=str_ne hz;simpa using this);have hne3:node.toList.isEmpty=false:=by cases hh:node.toList with
      | nil=>exact absurd hh hne2
      | cons a l=>rfl
     have hne4:(!node.toList.isEmpty)=true:=(by rw [hne3];rfl);go_wp2_with fail;refine (hnm _).mono ?_;rintro e w2 ⟨rfl,b2⟩;go_wp2_with fail;go_meet
     case rel=>exact ⟨⟨!ib,rfl,hide (by cases ib<;>simp [hz])⟩,(b2.block _ (lt_of kC)).trans kC,BC.trans (b2.mono BC.size)⟩
   case rest=>
    obtain ⟨⟨bb,rfl,HB⟩,kD,BD⟩:=hcut
    cases bb
    case true=>
     have hR:=HR2.out;rw [if_pos (.inr (HB.out.1 rfl))] at hR;clear HR2;subst hR;go_wp2;go_ret;exact ⟨rfl,BD⟩
    have HR3:=hide (HR2.out.trans (if_neg (by have:=HN.out;intro h;rcases h with h | h;exact h this;have:=HB.out.2 h;cases this)));clear HR2 HB r2;go_upto_block 2 with fail;go_cut [] (fun wc=>Hid (Rn.firstC Rn.sizeC q.S=0)∧wc.heap[w.heap.size]?=some (.cells #[.int .i64 place,.slice aN nN cN,.string node,.slice aS nS cS,.slice aE nE cE] 49 (0,0))∧Below w.heap.size w wc)
    case first=>
     go_wp2_with fail;go_loopg [4] nS (fun gk v wr=>∃ i,i≤nS∧gk=nS-i∧v=.int .i64 (i:Nat)∧Hid (∀ j (h:j<q.S.length),j<i→Rn.sizeC q.S[j]=0)∧wr.heap[w.heap.size]?=some (.cells #[.int .i64 place,.slice aN nN cN,.string node,.slice aS nS cS,.slice aE nE cE] 49 (0,0))∧Below w.heap.size w wr)
     case atStart=>exact ⟨0,Nat.zero_le _,rfl,rfl,hide (fun j _ h=>absurd h (Nat.not_lt_zero _)),kD,BD⟩
     case round=>
      obtain ⟨i,hi,rfl,rfl,H,kr,BR⟩:=hrel;have rf:=co kr 3;simp at rf;by_cases hlt:i<nS
      case neg=>
       have hin:i=nS:=(by omega);have HZ0:=hide (Rn.firstC_none Rn.sizeC q.S (fun j hj=>H.out j hj (by have:=HNS.out;omega)));clear H;go_wp2_with fail;go_meet
       case rel=>exact ⟨HZ0,kr,BR⟩
      case pos=>
       have hil:i<q.S.length:=(by have:=HNS.out;omega);have HST:Hid (Rn.sizeC q.S[i]≠0→Rn.firstC Rn.sizeC q.S=Rn.sizeC q.S[i]):=hide (fun hne=>Rn.firstC_step Rn.sizeC q.S i hil (fun j hj hji=>H.out j hj hji) hne);have HNX:Hid (Rn.sizeC q.S[i]=0→∀ j (h:j<q.S.length),j<i+1→Rn.sizeC q.S[j]=0):=hide (fun hz j hj hji=>by
        by_cases e:j=i
        ·subst e;exact hz
        ·exact H.out j hj (by omega))
       obtain ⟨ao',cap',e1,_,_,hat⟩:=(HXS.out.under BR).at;injection e1 with e2 e3 e4;subst e2 e4;obtain ⟨bl,o,au,nu,cu,e5,hbl,d0,hte⟩:=hat i hil;subst e5;clear hat e3;have hc:=sizeFault_any hte (HF3.out q.S[i] (List.getElem_mem hil));generalize Rn.sizeC q.S[i]=pc at hc HST HNX;clear hte;go_wp2_with fail;refine hc.mono ?_;rintro e w5 ⟨rfl,b5⟩;have k5:=(b5.block _ (lt_of kr)).trans kr;have B5:=BR.trans (b5.mono BR.size);by_cases hz:pc=0
       ·subst hz
        have HNX2:=hide (HNX.out rfl);clear HST HNX;go_wp2_with fail;go_roundg (nS-(i+1))
        case measure=>omega
        case rel=>exact ⟨i+1,by omega,rfl,by go_num,HNX2,k5,B5⟩
       ·have hfc:=HST.out hz
        have hR:=HR3.out;rw [if_pos (by rw [hfc];exact hz),hfc] at hR;have hzb:(pc != 0)=true:=(by simp [hz]);clear HST HNX HR3;subst hR;go_wp2;go_ret;exact ⟨rfl,B5⟩
    case rest=>
     obtain ⟨HS0,kE,BE⟩:=hcut;have HR4:=hide (HR3.out.trans (if_neg (by have:=HS0.out;simp [this])));clear HR3;go_wp2_with fail;go_loopg [6] nE (fun gk v wr=>∃ i,i≤nE∧gk=nE-i∧v=.int .i64 (i:Nat)∧Hid (∀ j (h:j<q.E.length),j<i→Rn.exprC q.E[j]=0)∧wr.heap[w.heap.size]?=some (.cells #[.int .i64 place,.slice aN nN cN,.string node,.slice aS nS cS,.slice aE nE cE] 49 (0,0))∧Below w.heap.size w wr)
     case atStart=>exact ⟨0,Nat.zero_le _,rfl,rfl,hide (fun j _ h=>absurd h (Nat.not_lt_zero _)),kE,BE⟩
     case round=>
      obtain ⟨i,hi,rfl,rfl,H,kr,BR⟩:=hrel;have rf:=co kr 4;simp at rf;by_cases hlt:i<nE
      case neg=>
       have hin:i=nE:=(by omega);have HZ0:=hide (Rn.firstC_none Rn.exprC q.E (fun j hj=>H.out j hj (by have:=HNE.out;omega)));clear H;have hR:=HR4.out;rw [HZ0.out] at hR;clear HR4;subst hR;go_wp2;go_ret;exact ⟨rfl,BR⟩
      case pos=>
       have hil:i<q.E.length:=(by have:=HNE.out;omega);have HST:Hid (Rn.exprC q.E[i]≠0→Rn.firstC Rn.exprC q.E=Rn.exprC q.E[i]):=hide (fun hne=>Rn.firstC_step Rn.exprC q.E i hil (fun j hj hji=>H.out j hj hji) hne);have HNX:Hid (Rn.exprC q.E[i]=0→∀ j (h:j<q.E.length),j<i+1→Rn.exprC q.E[j]=0):=hide (fun hz j hj hji=>by
        by_cases e:j=i
        ·subst e;exact hz
        ·exact H.out j hj (by omega))
       obtain ⟨ao',cap',e1,_,_,hat⟩:=(HXE.out.under BR).at;injection e1 with e2 e3 e4;subst e2 e4;obtain ⟨bl,o,y,e5,hok,hbl,hy,hex⟩:=hat i hil;subst e5;clear hat e3;have hy0:=hy;obtain ⟨d0,d1,d2,d3,d4,d5⟩:=hy;have hle:=HPP.out q.E[i] (List.getElem_mem hil);have hc1:=partsR_any _ q.E[i] nR ok _ y hex hle;have hc2:=fun V (b:Below _ _ V)=>exprFault_any (HF4.out q.E[i] (List.getElem_mem hil)) ok V y (hex.under b);have heC:Rn.exprC q.E[i]=if 30<parts q.E[i] then 7 else Rn.partC q.E[i]:=rfl
       rw [heC] at HST HNX;clear heC;generalize Rn.partC q.E[i]=pc at hc2 HST HNX;generalize parts q.E[i]=pn at hc1 HST HNX hle;obtain ⟨yo,yk,yn,ys,yaS,ynS,ycS,yaL,ynL,ycL⟩:=y
       dsimp only at d0 d1 d2 d3 d4 d5 hc1 hc2
       clear hex;go_wp2_with fail;refine hc1.mono ?_;rintro e w5 ⟨rfl,b5⟩;have k5:=(b5.block _ (lt_of kr)).trans kr;have B5:=BR.trans (b5.mono BR.size);by_cases h30:30<pn
       ·have h30I:(30:Int)<(pn:Int):=by omega
        have hfc:=HST.out (by rw [if_pos h30];decide);rw [if_pos h30] at hfc;have hR:=HR4.out;rw [hfc] at hR;clear HST HNX HR4;subst hR;go_wp2;go_ret;exact ⟨rfl,B5⟩
       have h30I:¬(30:Int)<(pn:Int):=(by omega);rw [if_neg h30] at HST HNX;have rf5:=co k5 4;simp at rf5;obtain ⟨g0,g1,g2,g3,g4,g5⟩:=hy0.keep (b5.block _ hbl)
       dsimp only at g0 g1 g2 g3 g4 g5
       go_wp2_with fail;refine (hc2 _ b5).mono ?_;rintro e w6 ⟨rfl,b6⟩;have k6:=(b6.block _ (lt_of k5)).trans k5;have B6:=B5.trans (b6.mono B5.size);by_cases hz:pc=0
       ·subst hz
        have HNX2:=hide (HNX.out rfl);clear HST HNX;go_wp2_with fail;go_roundg (nE-(i+1))
        case measure=>omega
        case rel=>exact ⟨i+1,by omega,rfl,by go_num,HNX2,k6,B6⟩
       ·have hfc:=HST.out hz
        have hR:=HR4.out;rw [hfc] at hR;have hzb:(pc != 0)=true:=(by simp [hz]);clear HST HNX HR4;subst hR;go_wp2;go_ret;exact ⟨rfl,B6⟩
theorem headFault_any {ok:Nat→Prop} {w:World} {x:NdV} {q:Nd} (hx:HNd ok w x q) (hF:Rn.ndF q) :
  Calls Tryz.prog 27 #[.agg #[.string x.name,.int .i64 x.place,.slice x.a2 x.n2 x.c2,.slice x.a3 x.n3 x.c3,.slice x.a4 x.n4 x.c4,.slice x.a5 x.n5 x.c5,.slice x.a6 x.n6 x.c6]] w fun e w'=>e=.returned (.int .i64 (Rn.headC q))∧Below w.heap.size w w':=by
 obtain ⟨name,place,a2,n2,c2,a3,n3,c3,a4,n4,c4,a5,n5,c5,a6,n6,c6⟩:=x;obtain ⟨hF1,hF2,hF3,hF4,hF5⟩:=hF;have hnode:=hx.name
 dsimp only at hnode ⊢
 obtain ⟨aq,cq,ev,hsizes1,hsizes2,_⟩:=hx.sizes.at
 dsimp only at ev
 injection ev with ev1 ev2 ev3;subst ev1 ev3;have HN2:Hid (n2=q.sizes.length):=hide ev2;rw [←ev2] at hsizes1;clear ev2;obtain ⟨aq,cq,ev,hout1,hout2,_⟩:=hx.out.at
 dsimp only at ev
 injection ev with ev1 ev2 ev3;subst ev1 ev3;have HN4:Hid (n4=q.out.length):=hide ev2;rw [←ev2] at hout1;clear ev2;obtain ⟨aq,cq,ev,heqs1,heqs2,_⟩:=hx.eqs.at
 dsimp only at ev
 injection ev with ev1 ev2 ev3;subst ev1 ev3;have HN6:Hid (n6=q.eqs.length):=hide ev2;rw [←ev2] at heqs1;clear ev2;unfold maxLen at hsizes2 hout2 heqs2;have hnm:=fun V=>isName_any name V (by rw [hnode];exact hF1);obtain ⟨R,hR⟩:=nmQ (Rn.headC q);rw [←hR];unfold Rn.headC at hR;rw [←hnode,←HN2.out,←HN4.out,←HN6.out] at hR;have HR:=hide hR;have HX2:=hide hx.sizes
 dsimp only at HX2
 have HF2:=hide hF2;have hd3:=fun V (b:Below w.heap.size w V)=>declsFault_any (hx.inn.under b) hF3;have hd4:=fun V (b:Below w.heap.size w V)=>declsFault_any (hx.out.under b) hF4;have hd5:=fun V (b:Below w.heap.size w V)=>declsFault_any (hx.loc.under b) hF5
 dsimp only at hd3 hd4 hd5
 clear hR hx hF1 hF2 hF3 hF4 hF5 hnode;generalize isName name.data.toList=ib at hnm HR;generalize Rn.declsC q.inn=k3 at hd3 HR;generalize Rn.declsC q.out=k4 at hd4 HR;generalize Rn.declsC q.loc=k5 at hd5 HR;have bA:Below w.heap.size w (w.alloc (.cells #[.string name,.int .i64 place,.slice a2 n2 c2,.slice a3 n3 c3,.slice a4 n4 c4,.slice a5 n5 c5,.slice a6 n6 c6] 43 (0,0))):=(Below.refl _ _).alloc nR _;have kA:=heap_new w (.cells #[.string name,.int .i64 place,.slice a2 n2 c2,.slice a3 n3 c3,.slice a4 n4 c4,.slice a5 n5 c5,.slice a6 n6 c6] 43 (0,0));go_enter Tryz.func27,Tryz.ntmps27;go_wp2_with fail;refine (hnm _).mono ?_;rintro e w1 ⟨rfl,b1⟩;have B1:=bA.trans (b1.mono bA.size);have k1:=(b1.block _ (lt_of kA)).trans kA;clear kA bA hnm;have p2:=co k1 2;have p6:=co k1 6;simp at p2 p6
 cases ib
 case false=>
  have hR:=HR.out;rw [if_pos rfl] at hR;clear HR;subst hR;go_wp2;go_ret;exact ⟨rfl,B1⟩
 have HR1:=hide (HR.out.trans (if_neg (by decide)));clear HR;by_cases g1:3<n2
 ·have g1I:(3:Int)<(n2:Int):=by omega
  have hR:=HR1.out;rw [if_pos (.inl g1)] at hR;clear HR1;subst hR;go_wp2;go_ret;exact ⟨rfl,B1⟩
 have g1I:¬(3:Int)<(n2:Int):=(by omega);by_cases g2:60<n6
 ·have g2I:(60:Int)<(n6:Int):=by omega
  have hR:=HR1.out;rw [if_pos (.inr g2)] at hR;clear HR1;subst hR;go_wp2;go_ret;exact ⟨rfl,B1⟩
 have g2I:¬(60:Int)<(n6:Int):=(by omega);have HR2:=hide (HR1.out.trans (if_neg (by omega)));clear HR1;go_upto_block 0 with fail;go_cut [] (fun wc=>Hid (Rn.firstC Rn.nameC q.sizes=0)∧wc.heap[w.heap.size]?=some (.cells #[.string name,.int .i64 place,.slice a2 n2 c2,.slice a3 n3 c3,.slice a4 n4 c4,.slice a5 n5 c5,.slice a6 n6 c6] 43 (0,0))∧Below w.heap.size w wc)
 case first=>
  go_wp2_with fail;go_loopg [3] n2 (fun gk v wr=>∃ i,i≤n2∧gk=n2-i∧v=.int .i64 (i:Nat)∧Hid (∀ j (h:j<q.sizes.length),j<i→Rn.nameC q.sizes[j]=0)∧wr.heap[w.heap.size]?=some (.cells #[.string name,.int .i64 place,.slice a2 n2 c2,.slice a3 n3 c3,.slice a4 n4 c4,.slice a5 n5 c5,.slice a6 n6 c6] 43 (0,0))∧Below w.heap.size w wr)
  case atStart=>exact ⟨0,Nat.zero_le _,rfl,rfl,hide (fun j _ h=>absurd h (Nat.not_lt_zero _)),k1,B1⟩
  case round=>
   obtain ⟨i,hi,rfl,rfl,H,kr,BR⟩:=hrel;have rf:=co kr 2;simp at rf;by_cases hlt:i<n2
   case neg=>
    have hin:i=n2:=(by omega);have HZ0:=hide (Rn.firstC_none Rn.nameC q.sizes (fun j hj=>H.out j hj (by have:=HN2.out;omega)));clear H;go_wp2_with fail;go_meet
    case rel=>exact ⟨HZ0,kr,BR⟩
   case pos=>
    have hil:i<q.sizes.length:=(by have:=HN2.out;omega);have HST:Hid (Rn.nameC q.sizes[i]≠0→Rn.firstC Rn.nameC q.sizes=Rn.nameC q.sizes[i]):=hide (fun hne=>Rn.firstC_step Rn.nameC q.sizes i hil (fun j hj hji=>H.out j hj hji) hne);have HNX:Hid (Rn.nameC q.sizes[i]=0→∀ j (h:j<q.sizes.length),j<i+1→Rn.nameC q.sizes[j]=0):=hide (fun hz j hj hji=>by
     by_cases e:j=i
     ·subst e;exact hz
     ·exact H.out j hj (by omega))
    obtain ⟨ao',cap',e1,_,_,hat⟩:=(HX2.out.under BR).at;injection e1 with e2 e3 e4;subst e2 e4;obtain ⟨bl,o,e5,hbl,d0⟩:=hat i hil;subst e5;clear hat e3;have hc:=fun V=>isName_any q.sizes[i] V (HF2.out _ (List.getElem_mem hil));have hnC:Rn.nameC q.sizes[i]=if isName q.sizes[i].data.toList=true then 0 else 3:=rfl
    rw [hnC] at HST HNX;clear hnC;generalize q.sizes[i]=s at d0 hc HST HNX;generalize isName s.data.toList=nb at hc HST HNX;go_wp2_with fail;refine (hc _).mono ?_;rintro e w5 ⟨rfl,b5⟩;have k5':=(b5.block _ (lt_of kr)).trans kr;have B5:=BR.trans (b5.mono BR.size)
    cases nb
    ·have hfc:=HST.out (by simp)
     have hR:=HR2.out;rw [if_pos (by rw [hfc];simp),hfc] at hR;simp at hR;clear HR2;subst hR;go_wp2;go_ret;exact ⟨rfl,B5⟩
    ·have HNX2:=hide (HNX.out (by simp))
     clear HST HNX;go_wp2_with fail;go_roundg (n2-(i+1))
     case measure=>omega
     case rel=>exact ⟨i+1,by omega,rfl,by go_num,HNX2,k5',B5⟩
 case rest=>
  obtain ⟨HN,kC,BC⟩:=hcut;have HR3:=hide (HR2.out.trans (if_neg (by have:=HN.out;simp [this])));clear HR2 p2 p6;have r3:=co kC 3;have r4:=co kC 4;have r5:=co kC 5;simp at r3 r4 r5;by_cases h40:n4=0
  ·have hb:((n4:Int)==0)=true:=by simp [h40]
   have hR:=HR3.out;rw [if_pos h40] at hR;have H40:=hide h40;clear HR3 h40;subst hR;go_wp2;go_ret;exact ⟨rfl,BC⟩
  have hb:((n4:Int)==0)=false:=(by simp;omega);have HR4:=hide (HR3.out.trans (if_neg h40));clear HR3;have H40:=hide h40;clear h40;have bL:Below wc.heap.size wc (wc.alloc (.cells #[.slice a3 n3 c3,.slice a4 n4 c4,.slice a5 n5 c5] 40 (0,0))):=(Below.refl _ _).alloc nR _;have kL:=heap_new wc (.cells #[.slice a3 n3 c3,.slice a4 n4 c4,.slice a5 n5 c5] 40 (0,0));go_upto_block 2 with fail;generalize (wc.alloc (.cells #[.slice a3 n3 c3,.slice a4 n4 c4,.slice a5 n5 c5] 40 (0,0)))=WL at bL kL ⊢;have BL:=BC.trans (bL.mono BC.size);go_wp2_with fail;go_loopg [5] 3 (fun gk v wr=>∃ i:Nat,i≤3∧gk=3-i∧v=.int .i64 (i:Nat)∧Hid ((0<i→k3=0)∧(1<i→k4=0)∧(2<i→k5=0))∧Below WL.heap.size WL wr)
  case atStart=>exact ⟨0,by omega,rfl,rfl,hide ⟨fun h=>absurd h (by omega),fun h=>absurd h (by omega),fun h=>absurd h (by omega)⟩,Below.refl _ _⟩
  case round=>
   obtain ⟨i,hi,rfl,rfl,H,br⟩:=hrel;have BR:=BL.trans (br.mono BL.size);have kr:=(br.block _ (lt_of kL)).trans kL;have t0:=co kr 0;have t1:=co kr 1;have t2:=co kr 2;simp at t0 t1 t2;have hcs:i=0∨i=1∨i=2∨i=3:=(by omega);rcases hcs with rfl | rfl | rfl | rfl
   ·go_wp2_with fail
    refine (hd3 _ BR).mono ?_;rintro e w5 ⟨rfl,b5⟩;by_cases hz:k3=0
    ·have hzb:(k3 != 0)=false:=by simp [hz]
     have HZ:=hide hz;clear hz;go_wp2_with fail;go_roundg (3-(0+1))
     case measure=>omega
     case rel=>exact ⟨0+1,by omega,rfl,by go_num,hide ⟨fun _=>HZ.out,fun h=>absurd h (by omega),fun h=>absurd h (by omega)⟩,br.trans (b5.mono br.size)⟩
    ·have hzb:(k3 != 0)=true:=by simp [hz]
     have hR:=HR4.out;rw [if_pos hz] at hR;clear HR4;subst hR;go_wp2;go_ret;exact ⟨rfl,BR.trans (b5.mono BR.size)⟩
   ·go_wp2_with fail
    refine (hd4 _ BR).mono ?_;rintro e w5 ⟨rfl,b5⟩;by_cases hz:k4=0
    ·have hzb:(k4 != 0)=false:=by simp [hz]
     have HZ:=hide hz;clear hz;go_wp2_with fail;go_roundg (3-(1+1))
     case measure=>omega
     case rel=>exact ⟨1+1,by omega,rfl,by go_num,hide ⟨fun _=>H.out.1 (by omega),fun _=>HZ.out,fun h=>absurd h (by omega)⟩,br.trans (b5.mono br.size)⟩
    ·have hzb:(k4 != 0)=true:=by simp [hz]
     have hR:=HR4.out;rw [if_neg (by have:=H.out.1 (by omega);simp [this]),if_pos hz] at hR;clear HR4;subst hR;go_wp2;go_ret;exact ⟨rfl,BR.trans (b5.mono BR.size)⟩
   ·go_wp2_with fail
    refine (hd5 _ BR).mono ?_;rintro e w5 ⟨rfl,b5⟩;by_cases hz:k5=0
    ·have hzb:(k5 != 0)=false:=by simp [hz]
     have HZ:=hide hz;clear hz;go_wp2_with fail;go_roundg (3-(2+1))
     case measure=>omega
     case rel=>exact ⟨2+1,by omega,rfl,by go_num,hide ⟨fun _=>H.out.1 (by omega),fun _=>H.out.2.1 (by omega),fun _=>HZ.out⟩,br.trans (b5.mono br.size)⟩
    ·have hzb:(k5 != 0)=true:=by simp [hz]
     have hR:=HR4.out;rw [if_neg (by have:=H.out.1 (by omega);simp [this]),if_neg (by have:=H.out.2.1 (by omega);simp [this])] at hR;clear HR4;subst hR;go_wp2;go_ret;exact ⟨rfl,BR.trans (b5.mono BR.size)⟩
   ·have hR:=HR4.out
    rw [if_neg (by have:=H.out.1 (by omega);simp [this]),if_neg (by have:=H.out.2.1 (by omega);simp [this]),H.out.2.2 (by omega)] at hR;clear HR4;subst hR;go_wp2;go_ret;exact ⟨rfl,BR⟩
end Go.Proofs.YtophfbefnaelfaaGreatDoor
