import Derived.Test.YtophfbefnaelfaaGreatDoorM39
import Derived.Test.YtophfbefnaelfaaGreatDoorM46
set_option linter.unusedVariables false
set_option linter.unusedSimpArgs false
set_option maxHeartbeats 64000000
set_option maxRecDepth 100000
namespace Go.Proofs.YtophfbefnaelfaaGreatDoor
open Go.RowKit Go.IntWalk
theorem okD2_of {d:De} (h:Rn.declC d=0):okD2 d:=by
 refine ⟨okD_of h,?_⟩;unfold Rn.declC at h;by_cases h1:isName d.name.data.toList=false
 ·rw [if_pos h1] at h;exact absurd h (by decide)
 rw [if_neg h1] at h;by_cases h2:d.elem≠105∧d.elem≠98
 ·rw [if_pos h2] at h;exact absurd h (by decide)
 ·omega
theorem okD2s_of {l:List De} (h:Rn.declsC l=0):∀ d ∈ l,okD2 d:=by
 unfold Rn.declsC at h;by_cases h1:30<l.length
 ·rw [if_pos h1] at h;exact absurd h (by decide)
 rw [if_neg h1] at h;exact fun x hx=>okD2_of (firstC_all h x hx)
theorem eq_few {q:Eqn} (h:Rn.eqC q=0):q.S.length≤1000000∧q.E.length≤1000000:=by
 unfold Rn.eqC at h;by_cases h1:q.names.length=0∨(q.node.size=0∧¬(q.names.length=1∧q.E.length=1∧q.S.length=0))
 ·rw [if_pos h1] at h;exact absurd h (by decide)
 rw [if_neg h1] at h;by_cases h2:30<q.names.length∨30<q.E.length∨3<q.S.length
 ·rw [if_pos h2] at h;exact absurd h (by decide)
 ·omega
theorem okN2_of {n:Nd} (h:Rn.headC n=0) (h2:∀ q ∈ n.eqs,Rn.eqC q=0):okN2 n:=by
 have hb:=okN_of h h2;unfold Rn.headC at h;by_cases h1:isName n.name.data.toList=false
 ·rw [if_pos h1] at h;exact absurd h (by decide)
 rw [if_neg h1] at h;by_cases h3:3<n.sizes.length∨60<n.eqs.length
 ·rw [if_pos h3] at h;exact absurd h (by decide)
 rw [if_neg h3] at h;by_cases h4:Rn.firstC Rn.nameC n.sizes≠0
 ·rw [if_pos h4] at h;exact absurd h h4
 rw [if_neg h4] at h;by_cases h5:n.out.length=0
 ·rw [if_pos h5] at h;exact absurd h (by decide)
 rw [if_neg h5] at h;by_cases h6:Rn.declsC n.inn≠0
 ·rw [if_pos h6] at h;exact absurd h h6
 rw [if_neg h6] at h;by_cases h7:Rn.declsC n.out≠0
 ·rw [if_pos h7] at h;exact absurd h h7
 rw [if_neg h7] at h;exact ⟨hb,okD2s_of (by simpa using h6),okD2s_of (by simpa using h7),okD2s_of h,fun q hq=>eq_few (h2 q hq)⟩
theorem goN_none2:∀ {l:List Nd} {i k:Nat},(Rn.goN l i k).1=0→∀ n ∈ l,okN2 n
 | [],i,k,_,n,hn=>by simp at hn
 | m :: l,i,k,h,n,hn=>by
  rw [Rn.goN] at h;by_cases h0:Rn.headC m=0
  ·rw [if_pos h0] at h
   have h1:=goE_none h;rw [h1.2] at h;rcases List.mem_cons.1 hn with rfl | hm
   ·exact okN2_of h0 h1.1
   ·exact goN_none2 h n hm
  ·rw [if_neg h0] at h
   exact absurd h h0
theorem renderFault_any {ok:Nat→Prop} {w:World} {v:Value} {l:List Nd} (hl:HNds ok w v l) (htab:TabN w) (hF:Rn.nsF l) (hP:∀ n ∈ l,∀ q ∈ n.eqs,∀ e ∈ q.E,parts e≤1000000) (hfit:(Rn.nodesC l).1=0→Tx.fitX (Tx.progP l)) :
  Calls Tryz.prog 12 #[.agg #[v]] w fun e w'=>e=.returned (.agg #[.int .i64 (Tx.printC l).1,.int .i64 (Tx.printC l).2])∧Below w.heap.size w w':=by
 obtain ⟨ao,cap,rfl,hc1,hc2,_⟩:=hl.at;unfold maxLen at hc2;obtain ⟨C,hC⟩:=nmQ (Tx.printC l);rw [←hC];unfold Tx.printC at hC;have HC:=hide hC;have HFIT:=hide hfit;obtain ⟨R,hR⟩:=nmQ (Rn.nodesC l);have HRN:=hide hR;unfold Rn.nodesC at hR;obtain ⟨n,hn⟩:=nmQ (l.length);rw [←hn] at hc1 hl hR ⊢;have HR:=hide hR;have HF:=hide hF;have HPP:=hide hP;have HL:=hide hl;have HN:=hide hn;clear hn hl hF hP hR hC hfit;have bW:Below w.heap.size w ((w.alloc (.cells #[.slice ao n cap] 24 (0,0))).alloc (.cells #[.int .i64 0,.int .i64 0] 28 (0,0))):=((Below.refl _ _).alloc nR _).alloc (by simp) _;have hs1:((w.alloc (.cells #[.slice ao n cap] 24 (0,0))).alloc (.cells #[.int .i64 0,.int .i64 0] 28 (0,0))).heap.size=w.heap.size+2:=(by simp);have kP:((w.alloc (.cells #[.slice ao n cap] 24 (0,0))).alloc (.cells #[.int .i64 0,.int .i64 0] 28 (0,0))).heap[w.heap.size]?=some (.cells #[.slice ao n cap] 24 (0,0)):=(Below.heap_alloc _ _ _ (by simp)).trans (heap_new w _);have kZ:((w.alloc (.cells #[.slice ao n cap] 24 (0,0))).alloc (.cells #[.int .i64 0,.int .i64 0] 28 (0,0))).heap[w.heap.size+1]?=some (.cells #[.int .i64 0,.int .i64 0] 28 (0,0)):=by
  have:=heap_new (w.alloc (.cells #[.slice ao n cap] 24 (0,0))) (.cells #[.int .i64 0,.int .i64 0] 28 (0,0))
  simpa using this
 go_enter Tryz.func12,Tryz.ntmps12;go_upto_region 1 with fail;generalize ((w.alloc (.cells #[.slice ao n cap] 24 (0,0))).alloc (.cells #[.int .i64 0,.int .i64 0] 28 (0,0)))=W at bW hs1 kP kZ ⊢;clear hs1;have p0:=co kP 0;simp at p0;by_cases h0:n=0
 ·have HCC:Hid (C=(9,-1)):=hide (by rw [HC.out,←HRN.out,HR.out,if_pos h0,if_pos (by decide)])
  have h0b:((n:Int)==0)=true:=(by simp [h0]);have H0:=hide h0;clear h0 HC HR;go_wp2_with fail;refine (fault_any 9 (-1) _).mono ?_;rintro e wf ⟨rfl,bf⟩;have Kf:=(bf.block _ (lt_of kZ)).trans kZ;have Bf:=bW.trans (bf.mono bW.size);have f0:=fo Kf 0;have f1:=fo Kf 1;have u0:=co Kf 0;have u1:=co Kf 1;simp at u0 u1;have KR:=set_in (set_in Kf 0 (.int .i64 9)) 1 (.int .i64 (-1));have BRR:=(Bf.setCell (p:=⟨w.heap.size+1,0,none⟩) (by simp) (.int .i64 9)).setCell (p:=⟨w.heap.size+1,1,none⟩) (by simp) (.int .i64 (-1));have x0:=co KR 0;have x1:=co KR 1;simp at x0 x1;go_wp2;exact bodyPost_ret (v:=.agg #[.int .i64 9,.int .i64 (-1)]) (by simp [results,Tryz.results12,go_sem,x0,x1]) rfl ⟨by rw [HCC.out],BRR⟩
 have h0b:((n:Int)==0)=false:=(by simp;omega);by_cases h10:10<n
 ·have h10I:(10:Int)<(n:Int):=by omega
  have HCC:Hid (C=(7,-1)):=hide (by rw [HC.out,←HRN.out,HR.out,if_neg h0,if_pos h10,if_pos (by decide)]);clear HC HR;go_wp2_with fail;refine (fault_any 7 (-1) _).mono ?_;rintro e wf ⟨rfl,bf⟩;have Kf:=(bf.block _ (lt_of kZ)).trans kZ;have Bf:=bW.trans (bf.mono bW.size);have f0:=fo Kf 0;have f1:=fo Kf 1;have u0:=co Kf 0;have u1:=co Kf 1;simp at u0 u1;have KR:=set_in (set_in Kf 0 (.int .i64 7)) 1 (.int .i64 (-1));have BRR:=(Bf.setCell (p:=⟨w.heap.size+1,0,none⟩) (by simp) (.int .i64 7)).setCell (p:=⟨w.heap.size+1,1,none⟩) (by simp) (.int .i64 (-1));have x0:=co KR 0;have x1:=co KR 1;simp at x0 x1;go_wp2;exact bodyPost_ret (v:=.agg #[.int .i64 7,.int .i64 (-1)]) (by simp [results,Tryz.results12,go_sem,x0,x1]) rfl ⟨by rw [HCC.out],BRR⟩
 have h10I:¬(10:Int)<(n:Int):=(by omega);have HR2:=hide (HR.out.trans ((if_neg h0).trans (if_neg h10)));clear HR;have H0:=hide h0;clear h0;go_upto_block 0 with fail;go_cut [3] (fun v3 wc=>Hid (Rn.nodesC l=(0,0))∧Below W.heap.size W wc)
 case first=>
  go_wp2_with fail;go_loopg [3,4] n (fun gk v3 v4 wr=>∃ i k:Nat,i≤n∧gk=n-i∧v4=.int .i64 (i:Nat)∧v3=.int .i64 (k:Nat)∧k≤i*1000000∧Hid (R=Rn.goN (l.drop i) i k)∧Below W.heap.size W wr)
  case atStart=>exact ⟨0,0,Nat.zero_le _,rfl,rfl,rfl,by omega,hide (by rw [HR2.out,List.drop_zero]),Below.refl _ _⟩
  case round=>
   obtain ⟨i,k,hi,rfl,rfl,rfl,hk,H,br⟩:=hrel;have BR:=bW.trans (br.mono bW.size);have kr:=(br.block _ (lt_of kP)).trans kP;have kzr:=(br.block _ (lt_of kZ)).trans kZ;have r0:=co kr 0;simp at r0;by_cases hlt:i<n
   case neg=>
    have HZ0:Hid (Rn.nodesC l=(0,0)):=hide (by rw [←HRN.out,H.out,List.drop_of_length_le (by have:=HN.out;omega),Rn.goN]);clear H;have hin:i=n:=(by omega);subst hin;go_wp2_with fail;go_meet
    case rel=>exact ⟨HZ0,br⟩
   case pos=>
    have hil:i<l.length:=(by have:=HN.out;omega);have HGN:=hide (H.out.trans (Rn.goN_at hil));have hFi:=HF.out l[i] (List.getElem_mem hil);have hPi:=HPP.out l[i] (List.getElem_mem hil);obtain ⟨ao',cap',e1,_,_,hat⟩:=(HL.out.under BR).at;injection e1 with e2 e3 e4;subst e2 e4;obtain ⟨bl,o,y,e5,hbl,hy,hye⟩:=hat i hil;subst e5;clear hat e3 H;obtain ⟨d0,d1,d2,d3,d4,d5,d6⟩:=hy;generalize l[i]=x at HGN hFi hPi hye;obtain ⟨yn,yp,a2,n2,c2,a3,n3,c3,a4,n4,c4,a5,n5,c5,a6,n6,c6⟩:=y
    dsimp only at d0 d1 d2 d3 d4 d5 d6
    have bB:Below wr.heap.size wr (wr.alloc (.cells #[.string yn,.int .i64 yp,.slice a2 n2 c2,.slice a3 n3 c3,.slice a4 n4 c4,.slice a5 n5 c5,.slice a6 n6 c6] 43 (0,0))):=(Below.refl _ _).alloc nR _;have BB:=BR.trans (bB.mono BR.size);have kB:=heap_new wr (.cells #[.string yn,.int .i64 yp,.slice a2 n2 c2,.slice a3 n3 c3,.slice a4 n4 c4,.slice a5 n5 c5,.slice a6 n6 c6] 43 (0,0));have hyB:=hye.under bB;have hhead:=headFault_any hyB hFi.1
    dsimp only at hhead
    obtain ⟨aq,cq,ev,hce1,hce2,_⟩:=hye.eqs.at
    dsimp only at ev
    injection ev with ev1 ev2 ev3;subst ev1 ev3;have HN6:Hid (n6=x.eqs.length):=hide ev2;have hn6:n6≤1000000:=(by rw [ev2];exact hFi.2.1);rw [←ev2] at hce1;clear ev2;unfold maxLen at hce2;have kzB:=(bB.block _ (lt_of kzr)).trans kzr;have HHY:=hide hyB;have HFQ:=hide hFi.2.2;have HPQ:=hide hPi;clear hye hyB hFi hPi;generalize Rn.headC x=hcd at hhead HGN;go_wp2_with fail;refine hhead.mono ?_;rintro e w2 ⟨rfl,b2⟩;have B2:=BB.trans (b2.mono BB.size);have kz2:=(b2.block _ (lt_of kzB)).trans kzB;have k2:=(b2.block _ (lt_of kB)).trans kB;have bw2:=(bB.trans (b2.mono bB.size));by_cases hz:hcd=0
    case neg=>
     have hzb:(hcd != 0)=true:=(by simp [hz]);have hR:=HGN.out.trans (if_neg hz);have HCC:Hid (C=(hcd,-2-(i:Int))):=hide (by rw [HC.out,←HRN.out,hR,if_pos hz]);clear HC hR HGN HR2;go_wp2_with fail;refine (fault_any hcd (-2-(i:Int)) _).mono ?_;rintro e wf ⟨rfl,bf⟩;have Kf:=(bf.block _ (lt_of kz2)).trans kz2;have Bf:=B2.trans (bf.mono B2.size);have f0:=fo Kf 0;have f1:=fo Kf 1;have u0:=co Kf 0;have u1:=co Kf 1;simp at u0 u1;have KR:=set_in (set_in Kf 0 (.int .i64 hcd)) 1 (.int .i64 (-2-(i:Int)));have BRR:=(Bf.setCell (p:=⟨w.heap.size+1,0,none⟩) (by simp) (.int .i64 hcd)).setCell (p:=⟨w.heap.size+1,1,none⟩) (by simp) (.int .i64 (-2-(i:Int)));have x0:=co KR 0;have x1:=co KR 1;simp at x0 x1;go_wp2;exact bodyPost_ret (v:=.agg #[.int .i64 hcd,.int .i64 (-2-(i:Int))]) (by simp [results,Tryz.results12,go_sem,x0,x1]) rfl ⟨by rw [HCC.out],BRR⟩
    have hzb:(hcd != 0)=false:=(by simp [hz]);have HGE:=hide (HGN.out.trans (if_pos hz));clear HGN;have HZZ:=hide hz;clear hz hhead;go_upto_block 2 with fail;go_wp2_with fail;go_loopg [3,7] n6 (fun gk v3 v7 wq=>∃ j:Nat,j≤n6∧gk=n6-j∧v7=.int .i64 (j:Nat)∧v3=.int .i64 ((k+j:Nat):Int)∧Hid (R=(Rn.goE (x.eqs.drop j) (k+j)).getD (Rn.goN (l.drop (i+1)) (i+1) (k+x.eqs.length)))∧Below w2.heap.size w2 wq)
    case atStart=>exact ⟨0,Nat.zero_le _,rfl,rfl,rfl,hide (by rw [HGE.out,List.drop_zero];rfl),Below.refl _ _⟩
    case round=>
     obtain ⟨j,hj,rfl,rfl,rfl,HJ,bq⟩:=hrel;have BQ:=B2.trans (bq.mono B2.size);have kq:=(bq.block _ (lt_of k2)).trans k2;have kzq:=(bq.block _ (lt_of kz2)).trans kz2;have t6:=co kq 6;simp at t6;by_cases hlt2:j<n6
     case neg=>
      have hjn:j=n6:=(by omega);subst hjn;have HNX:Hid (R=Rn.goN (l.drop (i+1)) (i+1) (k+j)):=hide (by rw [HJ.out,List.drop_of_length_le (by have:=HN6.out;omega),Rn.goE,←HN6.out];rfl);clear HJ;go_wp2_with fail;go_roundg (n-(i+1))
      case measure=>omega
      case rel=>exact ⟨i+1,k+j,by omega,rfl,by go_num,rfl,by omega,HNX,br.trans ((bw2.trans (bq.mono bw2.size)).mono br.size)⟩
     case pos=>
      have hjl:j<x.eqs.length:=(by have:=HN6.out;omega);have HGJ:=hide (HJ.out.trans (by rw [Rn.goE_at hjl]));obtain ⟨ao',cap',e1,_,_,hat⟩:=(HHY.out.eqs.under (b2.trans (bq.mono b2.size))).at;injection e1 with e2 e3 e4;subst e2 e4;obtain ⟨bl2,o2,yq,e5,hbl2,hy2,hyq⟩:=hat j hjl;subst e5;clear hat e3;obtain ⟨g0,g1,g2,g3,g4⟩:=hy2;have hc:=eqFault_any hyq (HFQ.out x.eqs[j] (List.getElem_mem hjl)) (HPQ.out x.eqs[j] (List.getElem_mem hjl));generalize Rn.eqC x.eqs[j]=qc at hc HGJ;obtain ⟨qp,qaN,qnN,qcN,qn,qaS,qnS,qcS,qaE,qnE,qcE⟩:=yq
      dsimp only at g0 g1 g2 g3 g4 hc
      clear hyq HJ;go_wp2_with fail;refine hc.mono ?_;rintro e w5 ⟨rfl,b5⟩;have B5:=BQ.trans (b5.mono BQ.size);have kz5:=(b5.block _ (lt_of kzq)).trans kzq;by_cases hqz:qc=0
      ·have hqb:(qc != 0)=false:=by simp [hqz]
       have HNX:Hid (R=(Rn.goE (x.eqs.drop (j+1)) (k+(j+1))).getD (Rn.goN (l.drop (i+1)) (i+1) (k+x.eqs.length))):=hide (by rw [HGJ.out,if_pos hqz];rfl);have HQZ:=hide hqz;clear hqz HGJ;go_wp2_with fail;go_roundg (n6-(j+1))
       case measure=>omega
       case rel=>exact ⟨j+1,by omega,rfl,by go_num,by go_num,HNX,bq.trans (b5.mono bq.size)⟩
      ·have hqb:(qc != 0)=true:=by simp [hqz]
       have hR:R=(qc,((k+j:Nat):Int)):=(by rw [HGJ.out,if_neg hqz];rfl);have HCC:Hid (C=(qc,((k+j:Nat):Int))):=hide (by rw [HC.out,←HRN.out,hR,if_pos hqz]);clear HC hR HGJ;go_wp2_with fail;refine (fault_any qc ((k+j:Nat):Int) _).mono ?_;rintro e wf ⟨rfl,bf⟩;have Kf:=(bf.block _ (lt_of kz5)).trans kz5;have Bf:=B5.trans (bf.mono B5.size);have f0:=fo Kf 0;have f1:=fo Kf 1;have u0:=co Kf 0;have u1:=co Kf 1;simp at u0 u1;have KR:=set_in (set_in Kf 0 (.int .i64 qc)) 1 (.int .i64 ((k+j:Nat):Int));have BRR:=(Bf.setCell (p:=⟨w.heap.size+1,0,none⟩) (by simp) (.int .i64 qc)).setCell (p:=⟨w.heap.size+1,1,none⟩) (by simp) (.int .i64 ((k+j:Nat):Int));have x0:=co KR 0;have x1:=co KR 1;simp at x0 x1;go_wp2;exact bodyPost_ret (v:=.agg #[.int .i64 qc,.int .i64 ((k+j:Nat):Int)]) (by simp [results,Tryz.results12,go_sem,x0,x1]) rfl ⟨by rw [HCC.out],BRR⟩
 case rest=>
  obtain ⟨HZ0,bC⟩:=hcut;have BC:=bW.trans (bC.mono bW.size);have kPC:=(bC.block _ (lt_of kP)).trans kP;have kZC:=(bC.block _ (lt_of kZ)).trans kZ;have s0:=co kPC 0;simp at s0;have hX:=HFIT.out (by rw [HZ0.out]);have hok2:∀ m ∈ l,okN2 m:=by
   have h1:=HR2.out;rw [HRN.out,HZ0.out] at h1;exact goN_none2 (i:=0) (k:=0) (by rw [←h1])
  have ht:=text_any (HL.out.under BC) (htab.under BC) hok2 hX;unfold Tx.fitX at hX;have HC1:=hide (HC.out.trans (if_neg (by rw [HZ0.out];simp)));clear HC HR2 hok2;generalize Tx.cat (Tx.progP l)=TT at ht HC1 hX;go_wp2_with fail;refine ht.mono ?_;rintro e w3 ⟨rfl,b3⟩;have B3:=BC.trans (b3.mono BC.size);have kz3:=(b3.block _ (lt_of kZC)).trans kZC;by_cases h12:12000<TT.size
  ·have h12I:(12000:Int)<(TT.size:Int):=by omega
   have HCC:Hid (C=(7,-1)):=hide (by rw [HC1.out,if_pos h12]);clear HC1;go_wp2_with fail;refine (fault_any 7 (-1) _).mono ?_;rintro e wf ⟨rfl,bf⟩;have Kf:=(bf.block _ (lt_of kz3)).trans kz3;have Bf:=B3.trans (bf.mono B3.size);have f0:=fo Kf 0;have f1:=fo Kf 1;have u0:=co Kf 0;have u1:=co Kf 1;simp at u0 u1;have KR:=set_in (set_in Kf 0 (.int .i64 7)) 1 (.int .i64 (-1));have BRR:=(Bf.setCell (p:=⟨w.heap.size+1,0,none⟩) (by simp) (.int .i64 7)).setCell (p:=⟨w.heap.size+1,1,none⟩) (by simp) (.int .i64 (-1));have x0:=co KR 0;have x1:=co KR 1;simp at x0 x1;go_wp2;exact bodyPost_ret (v:=.agg #[.int .i64 7,.int .i64 (-1)]) (by simp [results,Tryz.results12,go_sem,x0,x1]) rfl ⟨by rw [HCC.out],BRR⟩
  ·have h12I:¬(12000:Int)<(TT.size:Int):=by omega
   have HCC:Hid (C=(0,0)):=hide (by rw [HC1.out,if_neg h12]);clear HC1;have Kf:=kz3;have Bf:=B3;have f0:=fo Kf 0;have f1:=fo Kf 1;have u0:=co Kf 0;have u1:=co Kf 1;simp at u0 u1;have KR:=set_in (set_in Kf 0 (.int .i64 0)) 1 (.int .i64 0);have BRR:=(Bf.setCell (p:=⟨w.heap.size+1,0,none⟩) (by simp) (.int .i64 0)).setCell (p:=⟨w.heap.size+1,1,none⟩) (by simp) (.int .i64 0);have x0:=co KR 0;have x1:=co KR 1;simp at x0 x1;go_wp2;exact bodyPost_ret (v:=.agg #[.int .i64 0,.int .i64 0]) (by simp [results,Tryz.results12,go_sem,x0,x1]) rfl ⟨by rw [HCC.out],BRR⟩
end Go.Proofs.YtophfbefnaelfaaGreatDoor
namespace Go.Proofs.YtophfbefnaelfaaGreatDoor
open Go.RowKit Go.IntWalk
namespace Tx
def Pc (l:List ByteArray) (N:Nat):Prop:=(∀ s ∈ l,okS s)∧l.length≤N
theorem Pc.nil:Pc [] 0:=⟨fun s hs=>by simp at hs,Nat.le_refl _⟩
theorem Pc.one {s:ByteArray} (h:okS s):Pc [s] 1:=⟨fun x hx=>by simp at hx;subst hx;exact h,Nat.le_refl _⟩
theorem Pc.app {a b:List ByteArray} {N M:Nat} (h:Pc a N) (k:Pc b M):Pc (a++b) (N+M) :=
 ⟨fun s hs=>(List.mem_append.1 hs).elim (h.1 s) (k.1 s),by rw [List.length_append];have:=h.2;have:=k.2;omega⟩
theorem Pc.two {s t:ByteArray} (h:okS s) (k:okS t):Pc [s,t] 2:=Pc.app (Pc.one h) (Pc.one k)
theorem Pc.le {l:List ByteArray} {N M:Nat} (h:Pc l N) (hN:N≤M):Pc l M:=⟨h.1,Nat.le_trans h.2 hN⟩
theorem Pc.size:∀ {l:List ByteArray} {N:Nat},Pc l N→(cat l).size≤1000000*N
 | [],N,_=>by simp [cat]
 | s :: l,N,h=>by
  have h1:okS s:=h.1 s (by simp);have h2:=h.2;simp only [List.length_cons] at h2;have h3:Pc l (N-1):=⟨fun x hx=>h.1 x (by simp [hx]),by omega⟩;have h4:=h3.size;rw [cat,ByteArray.size_append];unfold okS at h1;have h5:1000000*N=1000000*(N-1)+1000000:=(by omega);omega
theorem Pc.row {α:Type} {g:Nat→α→List ByteArray} {K:Nat}:∀ {l:List α} {j:Nat},(∀ i x,x ∈ l→Pc (g i x) K)→Pc (rowP g j l) (K*l.length)
 | [],j,_=>Pc.nil.le (by simp)
 | x :: l,j,h=>by
  rw [rowP];refine ((h j x (by simp)).app (Pc.row (l:=l) (j:=j+1) (fun i y hy=>h i y (by simp [hy])))).le ?_;rw [List.length_cons,Nat.mul_succ];omega
theorem lit_ok {s:ByteArray} (h:s.size≤100):okS s:=by unfold okS;omega
theorem abs_lt {n:Int} (h0 : -1000000000000000000<n) (h1:n<1000000000000000000) : -1000000000000000000<abs n∧abs n<1000000000000000000:=by unfold abs;split<;>omega
theorem term_pc {t:Tm} (h:okT t):Pc (termP t) 3:=by
 obtain ⟨h0,h1,h2⟩:=h;have ha:=abs_lt h0 h1;have hn:okS (num (abs t.1)):=lit_ok (by have:=num_size (abs t.1) ha.1 ha.2;omega);unfold termP
 split
 ·exact (Pc.one hn).le (by omega)
 ·split
  ·exact (Pc.one h2).le (by omega)
  ·exact (Pc.one hn).app (Pc.two (lit_ok (by decide)) h2)
theorem size_pc {s:List Tm} (h:okZ s) (hl:s.length≤30):Pc (sizeP s) 120:=by
 refine (Pc.row (K:=4) (g:=sizeAt) (l:=s) (j:=0) (fun i x hx=>?_)).le (by omega);exact ((Pc.one (okSign _ _)).app (term_pc (h x hx))).le (by omega)
theorem size_len {s:List Tm} (h:Rn.sizeC s=0):s.length≤30:=by
 unfold Rn.sizeC at h;by_cases h1:s.length=0
 ·omega
 rw [if_neg h1] at h;by_cases h2:30<s.length
 ·rw [if_pos h2] at h;exact absurd h (by decide)
 ·omega
theorem decl_pc {d:De} (h:Rn.declC d=0):Pc (declP d) 124:=by
 have hd:=okD_of h;unfold Rn.declC at h;by_cases h1:isName d.name.data.toList=false
 ·rw [if_pos h1] at h;exact absurd h (by decide)
 rw [if_neg h1] at h;by_cases h2:d.elem≠105∧d.elem≠98
 ·rw [if_pos h2] at h;exact absurd h (by decide)
 rw [if_neg h2] at h;unfold declP;have e1:Pc [if d.elem=105 then (⟨#[105,110,116]⟩:ByteArray) else ⟨#[98,111,111,108]⟩] 1:=Pc.one (by split<;>exact lit_ok (by decide));have e2:Pc (if d.n.length=0 then [] else [(⟨#[94]⟩:ByteArray)]++sizeP d.n) 121:=by
  by_cases h3:d.n.length=0
  ·rw [if_pos h3];exact Pc.nil.le (by omega)
  ·rw [if_neg h3] at h ⊢
   exact (Pc.one (lit_ok (by decide))).app (size_pc (okZ_of h) (size_len h))
 exact ((Pc.two hd.1 (lit_ok (by decide))).app (e1.app e2)).le (by omega)
theorem commas_pc {α:Type} {f:α→List ByteArray} {K:Nat} {l:List α} (h:∀ x ∈ l,Pc (f x) K):Pc (commas f l) ((K+1)*l.length):=by
 refine Pc.row (g:=comma f) (fun i x hx=>?_);unfold comma
 split
 ·exact (h x hx).le (by omega)
 ·exact ((Pc.one (lit_ok (by decide))).app (h x hx)).le (by omega)
theorem ang_pc {α:Type} {f:α→List ByteArray} {K:Nat} {l:List α} (h:∀ x ∈ l,Pc (f x) K):Pc (angP f l) ((K+1)*l.length+2):=by
 unfold angP
 split
 ·exact Pc.nil.le (by omega)
 ·exact ((Pc.one (lit_ok (by decide))).app ((commas_pc h).app (Pc.one (lit_ok (by decide))))).le (by omega)
theorem partQ_pc {r least:Int} {p:List ByteArray} {N:Nat} (h:Pc p N):Pc (partQ r p least) (N+2):=by
 unfold partQ
 split
 ·exact h.le (by omega)
 ·exact ((Pc.one (lit_ok (by decide))).app (h.app (Pc.one (lit_ok (by decide))))).le (by omega)
theorem exprs_pc:∀ {L:List Ex} {j:Nat},(∀ x ∈ L,Pc (bare x) (400*parts x))→Pc (rowP (comma exprP) j L) (3*L.length+400*partsL L)
 | [],j,_=>Pc.nil.le (by omega)
 | x :: l,j,h=>by
  rw [rowP,partsL,List.length_cons];have h1:Pc (comma exprP j x) (400*parts x+3):=by
   have hp:Pc (exprP x) (400*parts x+2):=partQ_pc (h x (by simp));unfold comma
   split
   ·exact hp.le (by omega)
   ·exact ((Pc.one (lit_ok (by decide))).app hp).le (by omega)
  exact (h1.app (exprs_pc (L:=l) (j:=j+1) (fun y hy=>h y (by simp [hy])))).le (by omega)
theorem shp_few:∀ p,p<16→(Rn.shp p).2.2.1≤3∧(Rn.shp p).2.2.2.1≤2:=by decide
theorem bare_pc:∀ (q:Nat) (e:Ex),parts e≤q→Rn.partC e=0→Pc (bare e) (400*parts e)
 | 0,.mk _ _ _ _ _ _,h,_=>by simp [parts] at h
 | q+1,.mk op k n name S L,h,hC=>by
  have hE:=okE_of _ hC;rw [Rn.partC] at hC;rw [okE] at hE;obtain ⟨hF,⟨hn0,hn1⟩,hname,hZ,_⟩:=hE;rw [if_neg (by rw [hF];decide)] at hC;by_cases c2:op=3∧isName name.data.toList=false
  ·rw [if_pos c2] at hC;exact absurd hC (by decide)
  rw [if_neg c2,if_neg (by omega)] at hC;by_cases c4:Rn.firstC Rn.sizeC S≠0
  ·rw [if_pos c4] at hC;exact absurd hC c4
  rw [if_neg c4,Rn.partsC_eq] at hC;have hS0:Rn.firstC Rn.sizeC S=0:=(by simpa using c4);rw [parts] at h ⊢;have hch:∀ x ∈ L,Pc (bare x) (400*parts x):=fun x hx=>by
   obtain ⟨i,hi,rfl⟩:=List.getElem_of_mem hx;have:=parts_mem L i hi;exact bare_pc q _ (by omega) (firstC_all hC _ hx)
  obtain ⟨⟨ho1,ho15⟩,hl1,hl2,hs1,hk1,hk2,hnum⟩:=formOk_parts hF;have hfew:=shp_few op.toNat (by omega);have hL3:L.length≤3:=(by omega);have hS2:S.length≤2:=(by omega);have hsz:Pc (sizesP S) 242:=by
   have h2:Pc (rowP (fun _ s=>[(⟨#[44,32]⟩:ByteArray)]++sizeP s) 0 S) (121*S.length):=Pc.row (fun i s hs=>((Pc.one (lit_ok (by decide))).app (size_pc (hZ s hs) (size_len (firstC_all hS0 s hs)))).le (by omega));exact h2.le (by omega)
  have hco:Pc (commas at0 (bares L)) (9+400*partsL L):=(by rw [commas_bares];exact (exprs_pc hch).le (by omega));have hkq:0≤k∧k<15:=by
   have hall:∀ p,p<16→0≤(Rn.shp p).2.2.2.2.1∧(Rn.shp p).2.2.2.2.2≤14:=(by decide);have:=hall op.toNat (by omega);omega
  have hot:=opT_ok k.toNat (by omega);rw [bare];unfold bareOf;by_cases d1:op=1
  ·rw [if_pos d1];exact (Pc.one (lit_ok (by have:=num_size n (by omega) hn1;omega))).le (by omega)
  rw [if_neg d1];by_cases d2:op=2
  ·rw [if_pos d2];exact (Pc.one (by split<;>exact lit_ok (by decide))).le (by omega)
  rw [if_neg d2];by_cases d3:op=3
  ·rw [if_pos d3];exact (Pc.one hname).le (by omega)
  rw [if_neg d3];by_cases d4:op=4
  ·rw [if_pos d4]
   have hsh:(Rn.shp op.toNat).2.1=1∧(Rn.shp op.toNat).2.2.1=1:=(by subst d4;decide);obtain ⟨e0,rfl⟩:=len1 (l:=L) (by omega);have h0:Pc (partQ (rank e0) (bare e0) 6) (400*parts e0+2):=partQ_pc (hch e0 (by simp));refine ((Pc.one hot.2.1).app h0).le ?_;simp only [partsL];omega
  rw [if_neg d4];by_cases d5:op=5
  ·rw [if_pos d5]
   have hsh:(Rn.shp op.toNat).2.1=2∧(Rn.shp op.toNat).2.2.1=2:=(by subst d5;decide);unfold pairP
   split
   ·exact ((Pc.two hot.1 (lit_ok (by decide))).app (hco.app (Pc.one (lit_ok (by decide))))).le (by omega)
   ·obtain ⟨e0,e1,rfl⟩:=len2 (l:=L) (by omega)
    have h0:∀ m,Pc (partQ (rank e0) (bare e0) m) (400*parts e0+2):=fun m=>partQ_pc (hch e0 (by simp));have h1:∀ m,Pc (partQ (rank e1) (bare e1) m) (400*parts e1+2):=fun m=>partQ_pc (hch e1 (by simp));refine ((h0 _).app ((Pc.one hot.2.1).app (h1 _))).le ?_;simp only [partsL];omega
  rw [if_neg d5];by_cases d6:op=6
  ·rw [if_pos d6]
   have hsh:(Rn.shp op.toNat).2.1=3∧(Rn.shp op.toNat).2.2.1=3:=(by subst d6;decide);obtain ⟨e0,e1,e2,rfl⟩:=len3 (l:=L) (by omega);have h0:Pc (partQ (rank e0) (bare e0) 0) (400*parts e0+2):=partQ_pc (hch e0 (by simp));have h1:Pc (partQ (rank e1) (bare e1) 0) (400*parts e1+2):=partQ_pc (hch e1 (by simp));have h2:Pc (partQ (rank e2) (bare e2) 0) (400*parts e2+2):=partQ_pc (hch e2 (by simp));unfold choiceP at0;refine ((Pc.one (lit_ok (by decide))).app (h0.app ((Pc.one (lit_ok (by decide))).app (h1.app ((Pc.one (lit_ok (by decide))).app h2))))).le ?_;simp only [partsL];omega
  rw [if_neg d6];by_cases d11:op=11
  ·rw [if_pos d11]
   have hsh:(Rn.shp op.toNat).2.1=3∧(Rn.shp op.toNat).2.2.1=3:=(by subst d11;decide);obtain ⟨e0,e1,e2,rfl⟩:=len3 (l:=L) (by omega);have h0:Pc (partQ (rank e0) (bare e0) 7) (400*parts e0+2):=partQ_pc (hch e0 (by simp));have h1:Pc (partQ (rank e1) (bare e1) 0) (400*parts e1+2):=partQ_pc (hch e1 (by simp));have h2:Pc (partQ (rank e2) (bare e2) 0) (400*parts e2+2):=partQ_pc (hch e2 (by simp));unfold indexP at0;refine (h0.app ((Pc.one (lit_ok (by decide))).app (h1.app ((Pc.one (lit_ok (by decide))).app (h2.app (Pc.one (lit_ok (by decide)))))))).le ?_;simp only [partsL];omega
  rw [if_neg d11];unfold formP;have hsw:=shp_ok op.toNat (by omega);have hif:Pc (if k=0 then [] else [(opT k.toNat).1,(⟨#[44,32]⟩:ByteArray)]) 2:=by
   split
   ·exact Pc.nil.le (by omega)
   ·exact Pc.two hot.1 (lit_ok (by decide))
  exact ((Pc.two hsw (lit_ok (by decide))).app (hif.app (hco.app (hsz.app (Pc.one (lit_ok (by decide))))))).le (by omega)
theorem expr_pc {e:Ex} (h:Rn.exprC e=0):Pc (exprP e) 12002:=by
 unfold Rn.exprC at h;by_cases h1:30<parts e
 ·rw [if_pos h1] at h;exact absurd h (by decide)
 ·rw [if_neg h1] at h
  exact (partQ_pc (bare_pc _ e nR h)).le (by omega)
theorem word_pc {s:ByteArray} (h:okS s):Pc (wordP s) 1:=Pc.one h
theorem eq_pc {q:Eqn} (h:Rn.eqC q=0):Pc (eqP q) 400000:=by
 have hq:=okQ_of h;unfold Rn.eqC at h;by_cases h1:q.names.length=0∨(q.node.size=0∧¬(q.names.length=1∧q.E.length=1∧q.S.length=0))
 ·rw [if_pos h1] at h;exact absurd h (by decide)
 rw [if_neg h1] at h;by_cases h2:30<q.names.length∨30<q.E.length∨3<q.S.length
 ·rw [if_pos h2] at h;exact absurd h (by decide)
 rw [if_neg h2] at h;by_cases h3:Rn.firstC Rn.nameC q.names≠0∨(q.node.size≠0∧isName q.node.data.toList=false)
 ·rw [if_pos h3] at h;exact absurd h (by decide)
 rw [if_neg h3] at h;by_cases h4:Rn.firstC Rn.sizeC q.S≠0
 ·rw [if_pos h4] at h;exact absurd h h4
 rw [if_neg h4] at h;have hS0:Rn.firstC Rn.sizeC q.S=0:=(by simpa using h4);have e1:Pc (commas wordP q.names) 60:=(commas_pc (fun x hx=>word_pc (hq.names x hx))).le (by omega);have e2:Pc (angP sizeP q.S) 365:=(ang_pc (fun x hx=>size_pc (hq.S x hx) (size_len (firstC_all hS0 x hx)))).le (by omega);have e3:Pc (commas exprP q.E) 360090:=(commas_pc (fun x hx=>expr_pc (firstC_all h x hx))).le (by omega);have e4:Pc (callP q) 370000:=((Pc.two (lit_ok (by decide)) hq.node).app (e2.app ((Pc.one (lit_ok (by decide))).app (e3.app (Pc.one (lit_ok (by decide))))))).le (by omega);have e5:Pc (match q.E with | []=>[] | x :: _=>exprP x) 12002:=by
  cases hE:q.E with
  | nil=>exact Pc.nil.le (by omega)
  | cons x l=>exact expr_pc (firstC_all h x (by rw [hE];simp))
 unfold eqP;have e6:Pc (if q.node.size=0 then (match q.E with | []=>[] | x :: _=>exprP x) else callP q) 370000:=by
  split
  ·exact e5.le (by omega)
  ·exact e4
 exact ((Pc.one (lit_ok (by decide))).app (e1.app ((Pc.one (lit_ok (by decide))).app (e6.app (Pc.one (lit_ok (by decide))))))).le (by omega)
theorem decls_pc {l:List De} (h:Rn.declsC l=0):(∀ d ∈ l,Pc (declP d) 124)∧l.length≤30:=by
 unfold Rn.declsC at h;by_cases h1:30<l.length
 ·rw [if_pos h1] at h;exact absurd h (by decide)
 rw [if_neg h1] at h;exact ⟨fun x hx=>decl_pc (firstC_all h x hx),by omega⟩
theorem node_pc {n:Nd} (h:Rn.headC n=0) (h2:∀ q ∈ n.eqs,Rn.eqC q=0):Pc (nodeP n) 25000000:=by
 have hb:=okN_of h h2;unfold Rn.headC at h;by_cases h1:isName n.name.data.toList=false
 ·rw [if_pos h1] at h;exact absurd h (by decide)
 rw [if_neg h1] at h;by_cases h3:3<n.sizes.length∨60<n.eqs.length
 ·rw [if_pos h3] at h;exact absurd h (by decide)
 rw [if_neg h3] at h;by_cases h4:Rn.firstC Rn.nameC n.sizes≠0
 ·rw [if_pos h4] at h;exact absurd h h4
 rw [if_neg h4] at h;by_cases h5:n.out.length=0
 ·rw [if_pos h5] at h;exact absurd h (by decide)
 rw [if_neg h5] at h;by_cases h6:Rn.declsC n.inn≠0
 ·rw [if_pos h6] at h;exact absurd h h6
 rw [if_neg h6] at h;by_cases h7:Rn.declsC n.out≠0
 ·rw [if_pos h7] at h;exact absurd h h7
 rw [if_neg h7] at h;obtain ⟨i1,i2⟩:=decls_pc (l:=n.inn) (by simpa using h6);obtain ⟨o1,o2⟩:=decls_pc (l:=n.out) (by simpa using h7);obtain ⟨l1,l2⟩:=decls_pc h;have e1:Pc (angP wordP n.sizes) 8:=(ang_pc (fun x hx=>word_pc (hb.sizes x hx))).le (by omega);have e2:Pc (commas declP n.inn) 3750:=(commas_pc i1).le (by omega);have e3:Pc (commas declP n.out) 3750:=(commas_pc o1).le (by omega);have e4:Pc (rowP (fun _ d=>localP d) 0 n.loc) 3780:=(Pc.row (K:=126) (fun i d hd=>((Pc.one (lit_ok (by decide))).app ((l1 d hd).app (Pc.one (lit_ok (by decide))))).le (by omega))).le (by omega);have e5:Pc (rowP (fun _ q=>eqP q) 0 n.eqs) 24000000:=(Pc.row (K:=400000) (fun i q hq=>eq_pc (h2 q hq))).le (by omega);unfold nodeP;exact ((Pc.two (lit_ok (by decide)) hb.name).app (e1.app ((Pc.one (lit_ok (by decide))).app (e2.app ((Pc.one (lit_ok (by decide))).app (e3.app ((Pc.one (lit_ok (by decide))).app (e4.app (e5.app (Pc.one (lit_ok (by decide)))))))))))).le (by omega)
theorem goN_pc:∀ {l:List Nd} {i k j:Nat},(Rn.goN l i k).1=0→Pc (rowP (fun _ n=>nodeP n) j l) (25000000*l.length)
 | [],i,k,j,_=>Pc.nil.le (by omega)
 | m :: l,i,k,j,h=>by
  rw [Rn.goN] at h;by_cases h0:Rn.headC m=0
  ·rw [if_pos h0] at h
   have h1:=goE_none h;rw [h1.2] at h;rw [rowP,List.length_cons];exact ((node_pc h0 h1.1).app (goN_pc (j:=j+1) h)).le (by omega)
  ·rw [if_neg h0] at h
   exact absurd h h0
theorem fit_prog {l:List Nd} (h:(Rn.nodesC l).1=0):fitX (progP l):=by
 unfold Rn.nodesC at h;by_cases h1:l.length=0
 ·rw [if_pos h1] at h;exact absurd h (by decide)
 rw [if_neg h1] at h;by_cases h2:10<l.length
 ·rw [if_pos h2] at h;exact absurd h (by decide)
 rw [if_neg h2] at h;have:=((goN_pc (j:=0) h).le (show 25000000*l.length≤250000000 by omega)).size;unfold fitX progP;omega
end Tx
end Go.Proofs.YtophfbefnaelfaaGreatDoor
