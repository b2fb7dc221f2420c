import Derived.Test.YtnhmcpnbaajjcaaGreatDoorC41
set_option linter.unusedVariables false
set_option linter.unusedSimpArgs false
set_option maxHeartbeats 64000000
set_option maxRecDepth 100000
namespace Go.Proofs.YtnhmcpnbaajjcaaGreatDoor
open Go.RowKit Go.IntWalk
theorem run_any {w:World} {rb cb:Nat} {oA:Option Nat} {okS ok:Nat→Prop} {aV aI aO aR:Option Addr} {cV cI cO cR:Nat} {S:Sk.Sys} {C0:List (List Int)} {f:Int→Option Value} {ah:Int→Option (List Int)} (hr:RowAt w rb ⟨aV,S.V.length,cV,aI,S.I.length,cI,aO,S.O.length,cO,aR,S.R.length,cR,0⟩ (.slice (some ⟨cb,0,none⟩) S.V.length S.V.length) (.map oA)) (hS:HSys okS w aV aI aO aR cV cI cO cR S) (hC:CellsAt ok w cb C0) (hAh:∀ W,Aside [cb] w.heap.size w W→AhIs W oA f∧AhRel (fun i=>i<W.heap.size) W f ah) (hokS:¬okS cb) (hok:¬ok cb) (hnew:∀ i,w.heap.size≤i→ok i) (hrc:rb≠cb) (okay:Sk.Okay S) (hah:Sk.Ahead S) (hfine:Sk.Fine S.V S.I C0) (hAF:Sk.AhFine S.V ah) (hlen:∀ l ∈ C0,l.length≤300) :
  Calls Tryz.prog 43 #[.pointer (some ⟨rb,0,none⟩)] w fun e w'=>e=.returned (.tuple #[])∧CellsAt ok w' cb (Sk.runR S.V ah C0 S.R)∧Aside [cb] w.heap.size w w':=by
 obtain ⟨aoR,capR,evR,hR1,hR2,-⟩:=hS.R.at;injection evR with q1 q2 q3;subst q1 q3;clear q2;unfold maxLen at hR2;have hr0:=hr;unfold RowAt at hr0;have k3:=co hr0 3;simp at k3;have yR:=lt_of hr0;have yC:=hC.lt;have zR:=okay.nR;have zV:=okay.nV;obtain ⟨RR,hRR⟩:=nmQ (Sk.runR S.V ah C0 S.R);rw [←hRR];have HRR:=hide (show RR=Sk.runR S.V ah C0 (S.R.drop 0) by rw [List.drop_zero];exact hRR);have HROW:=hide hr0;have HS:=hide hS;have HC:=hide hC;have HAH:=hide hAh;have HOS:=hide hokS;have HOK:=hide hok;have HNW:=hide hnew;have HRC:=hide hrc;have HO:=hide okay;have HAD:=hide hah;have HAF:=hide hAF;have HFI:=hide (show Sk.Fine S.V (S.I++(S.R.take 0).map (·.out)) C0 by simpa using hfine);have HLE:=hide hlen;clear hRR hr hr0 hS hC hAh hokS hok hnew hrc okay hah hAF hfine hlen;go_enter Tryz.func43,Tryz.ntmps43;go_wp2_with fail;go_loopg [10] S.R.length (fun k v wr=>∃ (i:Nat) (C:List (List Int)),i≤S.R.length∧k=S.R.length-i∧v=.int .i64 (i:Nat)∧Hid (RR=Sk.runR S.V ah C (S.R.drop i))∧Hid (Sk.Fine S.V (S.I++(S.R.take i).map (·.out)) C)∧Hid (∀ l ∈ C,l.length≤300)∧Hid (CellsAt ok wr cb C)∧Aside [cb] w.heap.size w wr)
 case atStart=>exact ⟨0,C0,Nat.zero_le _,rfl,rfl,HRR,HFI,HLE,HC,Aside.refl _⟩
 case round=>
  clear HRR HFI HLE HC k3;obtain ⟨i,C,hi,rfl,rfl,H,HFI,HLE,HC,fr⟩:=hrel;have zr:=fr.size;by_cases hlt:i<S.R.length
  case neg=>
   have hin:i=S.R.length:=(by omega);subst hin;have e1:S.R.drop S.R.length=[]:=List.drop_of_length_le (Nat.le_refl _);have HZ:=hide (show C=RR by rw [H.out,e1];rfl);clear e1 H;go_wp2;refine bodyPost_end (v:=.tuple #[]) (by simp [results,Tryz.results43,go_sem]) rfl ?_;exact ⟨rfl,by rw [←HZ.out];exact HC.out,fr⟩
  case pos=>
   have hfit:=Sk.fine_rfit HO.out HAD.out HAF.out hlt HFI.out;have hfine2:=Sk.fine_step (ah:=ah) HO.out hlt HFI.out;have hdr:S.R.drop i=S.R[i] :: S.R.drop (i+1):=List.drop_eq_getElem_cons hlt;have hR:=H.out;rw [hdr] at hR;unfold Sk.runR at hR;have hSr:HSys okS wr aV aI aO aR cV cI cO cR S:=HS.out.keep zr (fun j hj hl=>fr.block j hl (by simp;exact fun e=>HOS.out (e ▸ hj)));have hrow:RowAt wr rb ⟨aV,S.V.length,cV,aI,S.I.length,cI,aO,S.O.length,cO,aR,S.R.length,cR,0⟩ (.slice (some ⟨cb,0,none⟩) S.V.length S.V.length) (.map oA):=fr.keep HROW.out yR (by simp;exact HRC.out);obtain ⟨ao',cap',eqs,-,-,hat2⟩:=hSr.R.at;injection eqs with q1 q2 q3;obtain ⟨bR,oR,y,hbR,yb,hat,hru⟩:=hat2 i hlt;rw [hbR] at q1;subst q1;obtain ⟨r,hr⟩:=nmQ (S.R[i]);rw [←hr] at hat hru hfit hfine2 hR;obtain ⟨d0,d1,d2,d3,d4,d5⟩:=hat;have ho:=hfit.out;obtain ⟨q,hq⟩:∃ q:Nat,r.out=(q:Int):=⟨r.out.toNat,by omega⟩;have hqV:q<S.V.length:=(by omega);obtain ⟨ao3,cap3,eq3,hv1,hv2,hat3⟩:=hSr.V.at;injection eq3 with z1 z2 z3;subst z1 z3;obtain ⟨bV,oV,rfl,yV0,x0,y0⟩:=hat3 q hqV;unfold maxLen at hv2;have hev:Sk.vAt S.V r.out=S.V[q]:=(by rw [hq];exact vAt_get hqV);have hCl:C.length=S.V.length:=HFI.out.len;have hlz:∀ z,(Sk.cAt C z).length≤300:=fun z=>by
    unfold Sk.cAt;rw [List.getD_eq_getElem?_getD]
    cases hg:C[z.toNat]? with
    | none=>simp
    | some l=>exact HLE.out l (List.mem_of_getElem? hg)
   have bA:Below wr.heap.size wr (wr.alloc (.cells #[.int .i64 r.op,.int .i64 r.k,.int .i64 r.out,.int .i64 r.n,.slice y.aA y.nA y.cA,.slice y.aE y.nE y.cE] 40 (0,0))):=(Below.refl _ _).alloc (Nat.le_refl _) _;have kV:=heap_new wr (.cells #[.int .i64 r.op,.int .i64 r.k,.int .i64 r.out,.int .i64 r.n,.slice y.aA y.nA y.cA,.slice y.aE y.nE y.cE] 40 (0,0));have HCELL:=hide (fun (W:World) (hb:Below wr.heap.size wr W)=>cell_any (V:=S.V) (C:=C) (ah:=ah) (r:=r) (y:=y) (hrow.under hb) (by have:=(HC.out.under hb).row (by omega);rw [hCl] at this;exact this) (hru.under hb) (HAH.out W (fr.trans (aside hb) zr)).1 (HAH.out W (fr.trans (aside hb) zr)).2 hfit hlz (by omega) hCl);have hcc:=hfit.sz;rw [hev] at HCELL hcc;have HCT:=hide (fun W=>cellCount_any S.V[q] W);have HEV:=hide (show Sk.evalR S.V C ah r=(List.range (Sk.cnt S.V[q])).map (Sk.evalG C ah r) by unfold Sk.evalR;rw [hev]);have hle2:∀ l ∈ C.set r.out.toNat (Sk.evalR S.V C ah r),l.length≤300:=fun l hl=>by
    rcases List.mem_or_eq_of_mem_set hl with h | h
    ·exact HLE.out l h
    ·rw [h,Sk.evalR_len];exact hfit.sz
   generalize Sk.evalR S.V C ah r=ER at HEV hR hfine2 hle2;generalize Sk.evalG C ah r=G at HCELL HEV;rw [hq,Int.toNat_natCast] at hR hfine2 hle2;have HR2:=hide hR;have HF2:=hide hfine2;have HL2:=hide hle2;have HCL:=hide hCl;generalize S.V[q]=va at x0 y0 HCELL HCT HEV hcc;have hrA:=hrow.under bA;unfold RowAt at hrA;have yVA:=Nat.lt_of_lt_of_le yV0 bA.size;have x1:=(bA.cell (p:=⟨bV,_,none⟩) yV0).trans x0;have y1:=(bA.cell (p:=⟨bV,_,none⟩) yV0).trans y0;have hc3:Sk.cnt va≤1000000:=Nat.le_trans hcc (by decide);generalize Sk.cnt va=cc at HCELL HCT HEV hcc hc3;have HCC3:=hide hc3;obtain ⟨rop,rk,rout,rn,rA,rE⟩:=r;simp only at hq d0 d1 d2 d3 d4 d5 HCELL ho bA kV hrA x1 y1 yVA;subst hq;clear hat2 q2 q3 z2 hat3 hr hdr hR hfine2 hle2 hru hrow hfit hlz hCl hev ho H HLE HFI hSr x0 y0 hcc hc3 hbR;unfold vv at HCT;go_upto_region 3 with fail;generalize wr.alloc (.cells #[.int .i64 rop,.int .i64 rk,.int .i64 (q:Int),.int .i64 rn,.slice y.aA y.nA y.cA,.slice y.aE y.nE y.cE] 40 (0,0))=wA at bA kV hrA x1 y1 yVA ⊢;have k0:=co hrA 0;have k4:=co hrA 4;have v0:=co kV 0;have v1:=co kV 1;have v2:=co kV 2;have v3:=co kV 3;have v4:=co kV 4;have v5:=co kV 5;simp at k0 k4 v0 v1 v2 v3 v4 v5;have yV:=lt_of kV;have yB:=lt_of hrA;clear d0 d1 d2 d3 d4 d5 hrA;refine wp_region_late (fun w'=>Below wA.heap.size wA w') (fun i=>i==22) (by kernel_rfl) ?_;have hH0:Below wA.heap.size wA wA.drew:=(Below.refl _ _).drew;generalize wA.drew=wd0 at hH0 ⊢;refine' tkR 0 14 hH0 ?o1
   refine' tkR 1 15 hH0 ?o2
   refine' tkR 2 16 hH0 ?o3
   refine' tkQ 3 17 hH0 ?hyv ?o4
   case hyv=>
    intro wz hSw;have zc0:=(hSw.cell (p:=⟨rb,0,none⟩) yB).trans k0;have zc1:=(hSw.cell (p:=⟨rb,4,none⟩) yB).trans k4;have zc2:=(hSw.cell (p:=⟨wr.heap.size,0,none⟩) yV).trans v0;have zc3:=(hSw.cell (p:=⟨wr.heap.size,1,none⟩) yV).trans v1;have zc4:=(hSw.cell (p:=⟨wr.heap.size,2,none⟩) yV).trans v2;have zc5:=(hSw.cell (p:=⟨wr.heap.size,3,none⟩) yV).trans v3;have zc6:=(hSw.cell (p:=⟨wr.heap.size,4,none⟩) yV).trans v4;have zc7:=(hSw.cell (p:=⟨wr.heap.size,5,none⟩) yV).trans v5;have zc8:=(hSw.cell (p:=⟨bV,oV+q*2,none⟩) yVA).trans x1;have zc9:=(hSw.cell (p:=⟨bV,oV+q*2+1,none⟩) yVA).trans y1;go_simp
    try rfl
   try simp only [Act.put,sT,sZ,sS]
   refine' tkR 4 18 hH0 ?o5
   refine' tkQ 5 19 hH0 ?hyv ?o6
   case hyv=>
    intro wz hSw;have zc0:=(hSw.cell (p:=⟨rb,0,none⟩) yB).trans k0;have zc1:=(hSw.cell (p:=⟨rb,4,none⟩) yB).trans k4;have zc2:=(hSw.cell (p:=⟨wr.heap.size,0,none⟩) yV).trans v0;have zc3:=(hSw.cell (p:=⟨wr.heap.size,1,none⟩) yV).trans v1;have zc4:=(hSw.cell (p:=⟨wr.heap.size,2,none⟩) yV).trans v2;have zc5:=(hSw.cell (p:=⟨wr.heap.size,3,none⟩) yV).trans v3;have zc6:=(hSw.cell (p:=⟨wr.heap.size,4,none⟩) yV).trans v4;have zc7:=(hSw.cell (p:=⟨wr.heap.size,5,none⟩) yV).trans v5;have zc8:=(hSw.cell (p:=⟨bV,oV+q*2,none⟩) yVA).trans x1;have zc9:=(hSw.cell (p:=⟨bV,oV+q*2+1,none⟩) yVA).trans y1;go_simp
    try rfl
   try simp only [Act.put,sT,sZ,sS]
   refine' tkR 6 20 hH0 ?o7
   refine' tkR 7 21 hH0 ?o8
   refine' tkR 8 22 hH0 ?o9
   refine' tkR 9 23 hH0 ?o10
   refine' tkQ 10 24 hH0 ?hyv ?o11
   case hyv=>
    intro wz hSw;have zc0:=(hSw.cell (p:=⟨rb,0,none⟩) yB).trans k0;have zc1:=(hSw.cell (p:=⟨rb,4,none⟩) yB).trans k4;have zc2:=(hSw.cell (p:=⟨wr.heap.size,0,none⟩) yV).trans v0;have zc3:=(hSw.cell (p:=⟨wr.heap.size,1,none⟩) yV).trans v1;have zc4:=(hSw.cell (p:=⟨wr.heap.size,2,none⟩) yV).trans v2;have zc5:=(hSw.cell (p:=⟨wr.heap.size,3,none⟩) yV).trans v3;have zc6:=(hSw.cell (p:=⟨wr.heap.size,4,none⟩) yV).trans v4;have zc7:=(hSw.cell (p:=⟨wr.heap.size,5,none⟩) yV).trans v5;have zc8:=(hSw.cell (p:=⟨bV,oV+q*2,none⟩) yVA).trans x1;have zc9:=(hSw.cell (p:=⟨bV,oV+q*2+1,none⟩) yVA).trans y1;go_simp
    try rfl
   try simp only [Act.put,sT,sZ,sS]
   refine' tkR 11 25 hH0 ?o12
   refine' tkQ 12 26 hH0 ?hyv ?o13
   case hyv=>
    intro wz hSw;have zc0:=(hSw.cell (p:=⟨rb,0,none⟩) yB).trans k0;have zc1:=(hSw.cell (p:=⟨rb,4,none⟩) yB).trans k4;have zc2:=(hSw.cell (p:=⟨wr.heap.size,0,none⟩) yV).trans v0;have zc3:=(hSw.cell (p:=⟨wr.heap.size,1,none⟩) yV).trans v1;have zc4:=(hSw.cell (p:=⟨wr.heap.size,2,none⟩) yV).trans v2;have zc5:=(hSw.cell (p:=⟨wr.heap.size,3,none⟩) yV).trans v3;have zc6:=(hSw.cell (p:=⟨wr.heap.size,4,none⟩) yV).trans v4;have zc7:=(hSw.cell (p:=⟨wr.heap.size,5,none⟩) yV).trans v5;have zc8:=(hSw.cell (p:=⟨bV,oV+q*2,none⟩) yVA).trans x1;have zc9:=(hSw.cell (p:=⟨bV,oV+q*2+1,none⟩) yVA).trans y1;go_simp
    try rfl
   try simp only [Act.put,sT,sZ,sS]
   refine' tkR 13 27 hH0 ?o14
   refine' tkQ 14 28 hH0 ?hyv ?o15
   case hyv=>
    intro wz hSw;have zc0:=(hSw.cell (p:=⟨rb,0,none⟩) yB).trans k0;have zc1:=(hSw.cell (p:=⟨rb,4,none⟩) yB).trans k4;have zc2:=(hSw.cell (p:=⟨wr.heap.size,0,none⟩) yV).trans v0;have zc3:=(hSw.cell (p:=⟨wr.heap.size,1,none⟩) yV).trans v1;have zc4:=(hSw.cell (p:=⟨wr.heap.size,2,none⟩) yV).trans v2;have zc5:=(hSw.cell (p:=⟨wr.heap.size,3,none⟩) yV).trans v3;have zc6:=(hSw.cell (p:=⟨wr.heap.size,4,none⟩) yV).trans v4;have zc7:=(hSw.cell (p:=⟨wr.heap.size,5,none⟩) yV).trans v5;have zc8:=(hSw.cell (p:=⟨bV,oV+q*2,none⟩) yVA).trans x1;have zc9:=(hSw.cell (p:=⟨bV,oV+q*2+1,none⟩) yVA).trans y1;go_simp
    try rfl
   try simp only [Act.put,sT,sZ,sS]
   refine' tkR 16 30 hH0 ?o16
   refine' tkQ 17 31 hH0 ?hyv ?o17
   case hyv=>
    intro wz hSw;have zc0:=(hSw.cell (p:=⟨rb,0,none⟩) yB).trans k0;have zc1:=(hSw.cell (p:=⟨rb,4,none⟩) yB).trans k4;have zc2:=(hSw.cell (p:=⟨wr.heap.size,0,none⟩) yV).trans v0;have zc3:=(hSw.cell (p:=⟨wr.heap.size,1,none⟩) yV).trans v1;have zc4:=(hSw.cell (p:=⟨wr.heap.size,2,none⟩) yV).trans v2;have zc5:=(hSw.cell (p:=⟨wr.heap.size,3,none⟩) yV).trans v3;have zc6:=(hSw.cell (p:=⟨wr.heap.size,4,none⟩) yV).trans v4;have zc7:=(hSw.cell (p:=⟨wr.heap.size,5,none⟩) yV).trans v5;have zc8:=(hSw.cell (p:=⟨bV,oV+q*2,none⟩) yVA).trans x1;have zc9:=(hSw.cell (p:=⟨bV,oV+q*2+1,none⟩) yVA).trans y1;go_simp
    try rfl
   try simp only [Act.put,sT,sZ,sS]
   refine' tkR 18 32 hH0 ?o18
   refine tnQ 15 (fun K hK=>?_);go_simp;refine (HCT.out wd0).mono ?_;rintro eq wd1 ⟨rfl,bq1⟩;have hH1:Below wA.heap.size wA wd1:=hH0.trans (bq1.mono hH0.size);refine hK.out _ _ (fun _=>hH1) ?_;clear hK K
   try simp only [Act.put,sT,sZ,sS]
   refine tnQ 19 (fun K hK=>?_);go_simp;refine (HCELL.out wd1 (bA.trans (hH1.mono bA.size))).mono ?_;rintro eq wd2 ⟨_,rfl,⟨N,bs,cs,J,SS,rfl,hT⟩,bq2⟩;have hH2:Below wA.heap.size wA wd2:=hH1.trans (bq2.mono hH1.size)
   replace hT:=hide hT
   refine hK.out _ _ (fun _=>hH2) ?_;clear hK K
   try simp only [Act.put,sT,sZ,sS]
   refine tnQ 20 (fun K hK=>?_);go_simp;refine (each_any hT.out.1 cc HCC3.out hT.out.2.1 (fun b hb=>(hT.out.2.2.1 b hb).2) hT.out.2.2.2.1 hT.out.2.2.2.2).mono ?_;rintro eq wd3 ⟨v3,rfl,own,-,ha⟩;have hH3:Below wA.heap.size wA wd3:=hH2.trans ((ha.mono hH2.size).below (fun k hk=>Nat.le_trans hH1.size (hT.out.2.2.1 k hk).1));rw [←HEV.out] at own;obtain ⟨a3,c3,e3,-,-⟩:=own.form;have hel:ER.length=cc:=(by rw [HEV.out];simp);rw [hel] at e3;subst e3;have HOWN:=hide (show HInts ok wd3 (.slice a3 cc c3) ER from (longs_row own.row).wide fun k hk _=>HNW.out k (Nat.le_trans zr (Nat.le_trans bA.size (Nat.le_trans hH2.size hk))));clear own hel ha;refine hK.out _ _ (fun _=>hH3) ?_;clear hK K
   try simp only [Act.put,sT,sZ,sS]
   refine' tkR 21 35 hH3 ?o19
   refine tnQ 22 (fun K hK=>?_);have hcs:=HC.out.under (bA.trans (hH3.mono bA.size));have hqC:q<C.length:=(by have:=HCL.out;omega);obtain ⟨sa,sn,sc,st0,-⟩:=hcs.at q hqC;have fr0:=hcs.free q;have NEW:=hcs.set HOK.out hqC (l:=ER) HOWN.out;have AS:Aside [cb] w.heap.size w (wd3.setCell ⟨cb,q,none⟩ (.slice a3 cc c3)):=(fr.trans (aside (bA.trans (hH3.mono bA.size))) zr).trans (Aside.setCell (B:=w.heap.size) (p:=⟨cb,q,none⟩) (by simp) (.slice a3 cc c3)) (Nat.le_refl _);have HNEW:=hide (And.intro NEW AS);clear NEW AS hcs hqC;go_simp;refine hK.out _ _ (fun h=>absurd h (by decide)) ?_;clear hK K st0 fr0
   try simp only [Act.put,sT,sZ,sS]
   generalize wd3.setCell ⟨cb,q,none⟩ (.slice a3 cc c3)=wd4 at HNEW ⊢;refine wpAnyL_done (by kernel_rfl) ?_ _;clear k0 k4 v0 v1 v2 v3 v4 v5 x1 y1 kV;go_wp2_with fail;go_roundg (S.R.length-(i+1))
   case measure=>omega
   case rel=>exact ⟨i+1,C.set q ER,by omega,rfl,by go_num,HR2,HF2,HL2,hide HNEW.out.1,HNEW.out.2⟩
end Go.Proofs.YtnhmcpnbaajjcaaGreatDoor
