import Derived.Test.YtegakbobaecdlaaGreatDoorL45
import Derived.Test.YtegakbobaecdlaaGreatDoorL42
set_option linter.unusedVariables false
set_option linter.unusedSimpArgs false
set_option maxHeartbeats 64000000
set_option maxRecDepth 100000
namespace Go.Proofs.YtegakbobaecdlaaGreatDoor
open Go.RowKit Go.IntWalk
namespace Sk
def v3c (l:List Vr):Array Value:=#[.int .u8 (nt l 0).elem,.int .i64 (nt l 0).n,.int .u8 (nt l 1).elem,.int .i64 (nt l 1).n,.int .u8 (nt l 2).elem,.int .i64 (nt l 2).n]
theorem nt_bound {l:List Vr} (h:∀ v ∈ l,VrOk v) (j:Nat):0<=(nt l j).n/\(nt l j).n<=300:=by
 unfold nt;rw [List.getD_eq_getElem?_getD];by_cases hj:j<l.length
 ·rw [List.getElem?_eq_getElem hj]
  exact (h _ (List.getElem_mem hj)).2
 ·rw [List.getElem?_eq_none (by omega)]
  exact ⟨Int.le_refl _,by decide⟩
theorem nt_snoc {l:List Vr} {v:Vr} (j:Nat):nt (l++[v]) j=if j=l.length then v else nt l j:=by
 unfold nt;simp only [List.getD_eq_getElem?_getD];by_cases h:j=l.length
 ·rw [if_pos h,h];simp
 ·rw [if_neg h]
  by_cases h2:j<l.length
  ·rw [List.getElem?_append_left h2]
  ·rw [List.getElem?_eq_none (by simp;omega),List.getElem?_eq_none (by omega)]
theorem list1 {l:List Vr} (h:l.length=1):l=[nt l 0]:=by
 match l,h with
 | [a],_=>rfl
theorem list2 {l:List Vr} (h:l.length=2):l=[nt l 0,nt l 1]:=by
 match l,h with
 | [a,b],_=>rfl
theorem fitsR_of {V:List Vr} {op k out x:Int} {A:List Int} {E:List Pu} (hlt:op<14) (hf:fits op k x (vAt V out) (A.map (vAt V))=true):fitsR V ⟨op,k,out,x,A,E⟩=true:=by
 unfold fitsR
 dsimp only
 rw [if_pos hlt,hf]
theorem fitsR_14 {V:List Vr} {k out x:Int} {A:List Int} {E:List Pu} (hf:treeL V (max 1 (vAt V out).n) [] E=(vAt V out).elem):fitsR V ⟨14,k,out,x,A,E⟩=true:=by
 unfold fitsR
 dsimp only
 rw [if_neg (by decide)];unfold fitsT;rw [if_pos rfl,hf];simp
theorem fitsR_15 {V:List Vr} {k out x:Int} {A:List Int} {E:List Pu} (hk:Kd.folds k=true) (ho:vAt V out=sc (Kd.opT k).1) (h0:nt (A.map (vAt V)) 0=vAt V out) (h1:1<=x) (h3:x<=300) (hf:treeL V x [] E=(Kd.opT k).1):fitsR V ⟨15,k,out,x,A,E⟩=true:=by
 unfold fitsR
 dsimp only
 rw [if_neg (by decide)];unfold fitsT;rw [if_neg (by intro h;cases h),if_pos rfl,h0,same_self,ho,goesFrom_of hk rfl,hf];simp [h1,h3,sc]
theorem fitsR_16 {V:List Vr} {k out x:Int} {A:List Int} {E:List Pu} (hk:Kd.folds k=true) (hn:0<(vAt V out).n) (ho:(vAt V out).elem=(Kd.opT k).1) (h0:nt (A.map (vAt V)) 0=sc (Kd.opT k).1) (hf:treeL V (vAt V out).n [] E=(Kd.opT k).1):fitsR V ⟨16,k,out,x,A,E⟩=true:=by
 unfold fitsR
 dsimp only
 rw [if_neg (by decide)];unfold fitsT;rw [if_neg (by intro h;cases h),if_neg (by intro h;cases h),goesFrom_of hk h0,arrOf_of hn (by rw [ho,h0]),hf,ho];simp
end Sk
def TFPost (w:World) (S:Sk.Sys) (r:Sk.Ru) (e:Ending) (w':World):Prop:=∃ b,e=.returned (.bool b)/\(b=true->Sk.fitsR S.V r=true)/\Below w.heap.size w w'
theorem mem_uses_A {A:List Int} {E:List Pu} {z:Int} (h:z ∈ A):z ∈ usesT A E:=xC.2 (.inl h)
theorem mem_uses_E {A:List Int} {E:List Pu} {p:Pu} (h:p ∈ E) (hn:nmd p=true):p.v ∈ usesT A E:=xC.2 (.inr ⟨p,h,hn,rfl⟩)
theorem zAN {ok:Nat->Prop} {w:World} {aV aI aO aR:Option Addr} {cV cI cO cR:Nat} {S:Sk.Sys} (hS:HSys ok w aV aI aO aR cV cI cO cR S) (hVr:∀ v ∈ S.V,Sk.VrOk v) {okr:Nat->Prop} {op k out x:Int} {A:List Int} {E:List Pu} {aA aE:Option Addr} {nA cA nE cE:Nat} (hA:HInts okr w (.slice aA nA cA) A) (hE:HPu okr w (.slice aE nE cE) E) (hout:0<=out/\out<S.V.length) (hform:Sk.hasForm op A.length=true) (hEl:E.length<=24) (huses:∀ z ∈ usesT A (Sk.ownE op E),0<=z/\z<S.V.length) :
  Calls Tryz.prog 31 #[.agg #[.slice aV S.V.length cV,.slice aI S.I.length cI,.slice aO S.O.length cO,.slice aR S.R.length cR],.agg #[.int .i64 op,.int .i64 k,.int .i64 out,.int .i64 x,.slice aA nA cA,.slice aE nE cE]] w (TFPost w S ⟨op,k,out,x,A,E⟩):=by
 obtain ⟨aoA,capA,evA,hA1,hA2,-⟩:=hA.at;injection evA with q1 q2 q3;subst q1 q2 q3;unfold maxLen at hA2;obtain ⟨jo,rfl⟩:∃ j:Nat,out=(j:Int):=⟨out.toNat,by omega⟩;have hjo:jo<S.V.length:=(by omega);have HAR:=zE (fun z (h:z ∈ A)=>huses z (mem_uses_A h));have HER:=zE (fun (ho:14<=op) p (hp:p ∈ E) (hn:nmd p=true)=>huses p.v (mem_uses_E (A:=A) (by unfold Sk.ownE;rw [if_neg (by omega)];exact hp) hn));have hop:1<=op/\op<=16/\(A.length:Int)=Sk.partsT.getD op.toNat 0:=by
  unfold Sk.hasForm at hform;simp at hform
  simpa [and_assoc,List.getD_eq_getElem?_getD] using hform
 have hA3:A.length<=3:=by
  have h8:∀ j:Fin 17,Sk.partsT.getD j.1 0<=3:=(by decide);have h9:Sk.partsT.getD op.toNat 0<=3:=h8 ⟨op.toNat,by omega⟩;omega
 have HOP:=zE hop;have HVR:=zE hVr;have hkv:=xQ hjo;have HLV:=zE (show ∀ v ∈ A.map (Sk.vAt S.V),Sk.VrOk v from fun v hv=>by
  obtain ⟨z,hz,rfl⟩:=List.mem_map.1 hv;have hz2:=HAR.out z hz;obtain ⟨j,rfl⟩:∃ j:Nat,z=(j:Int):=⟨z.toNat,by omega⟩;have hj:j<S.V.length:=(by omega);rw [xQ hj];exact hVr _ (List.getElem_mem _))
 have bS:Below w.heap.size w (w.alloc (.cells #[.slice aV S.V.length cV,.slice aI S.I.length cI,.slice aO S.O.length cO,.slice aR S.R.length cR] 26 (0,0))):=(Below.refl _ _).alloc zM _;have b1:=bS.alloc bS.size (.cells #[.int .i64 op,.int .i64 k,.int .i64 (jo:Int),.int .i64 x,.slice aA A.length cA,.slice aE nE cE] 40 (0,0));have kS:((w.alloc (.cells #[.slice aV S.V.length cV,.slice aI S.I.length cI,.slice aO S.O.length cO,.slice aR S.R.length cR] 26 (0,0))).alloc (.cells #[.int .i64 op,.int .i64 k,.int .i64 (jo:Int),.int .i64 x,.slice aA A.length cA,.slice aE nE cE] 40 (0,0))).heap[w.heap.size]?=some (.cells #[.slice aV S.V.length cV,.slice aI S.I.length cI,.slice aO S.O.length cO,.slice aR S.R.length cR] 26 (0,0)):=(Below.heap_alloc _ _ _ (by simp)).trans (zI w _);have kR:((w.alloc (.cells #[.slice aV S.V.length cV,.slice aI S.I.length cI,.slice aO S.O.length cO,.slice aR S.R.length cR] 26 (0,0))).alloc (.cells #[.int .i64 op,.int .i64 k,.int .i64 (jo:Int),.int .i64 x,.slice aA A.length cA,.slice aE nE cE] 40 (0,0))).heap[w.heap.size+1]?=some (.cells #[.int .i64 op,.int .i64 k,.int .i64 (jo:Int),.int .i64 x,.slice aA A.length cA,.slice aE nE cE] 40 (0,0)):=by
  have:=zI (w.alloc (.cells #[.slice aV S.V.length cV,.slice aI S.I.length cI,.slice aO S.O.length cO,.slice aR S.R.length cR] 26 (0,0))) (.cells #[.int .i64 op,.int .i64 k,.int .i64 (jo:Int),.int .i64 x,.slice aA A.length cA,.slice aE nE cE] 40 (0,0))
  simpa using this
 have HT:=zE (fun (W:World) (hb:Below w.heap.size w W) (n:Int) (hn:1<=n/\n<=300) (ho:14<=op)=>tree48_any (aI:=aI) (aO:=aO) (aR:=aR) (cI:=cI) (cO:=cO) (cR:=cR) (hS.V.under hb) HVR.out (hE.under hb) hEl (HER.out ho) n hn);have HS:=zE (fun (W:World) (hb:Below w.heap.size w W)=>hS.V.under hb);have HA:=zE (fun (W:World) (hb:Below w.heap.size w W)=>hA.under hb);obtain ⟨oo,hoo⟩:=nmQ (S.V[jo]);have hok:=HVR.out S.V[jo] (List.getElem_mem hjo);rw [<-hoo] at hkv hok;have HOV:=zE hkv;have HOK:=zE hok;have hbo:=hok.2;obtain ⟨oe,on⟩:=oo
 dsimp only at hbo
 have HOO:=zE hoo;clear hS hVr hA hE huses hform hop bS hkv hok hoo hout;go_enter Tryz.func31,Tryz.ntmps31;go_upto_region 1 with fail;generalize (w.alloc (.cells #[.slice aV S.V.length cV,.slice aI S.I.length cI,.slice aO S.O.length cO,.slice aR S.R.length cR] 26 (0,0))).alloc (.cells #[.int .i64 op,.int .i64 k,.int .i64 (jo:Int),.int .i64 x,.slice aA A.length cA,.slice aE nE cE] 40 (0,0))=w1 at b1 kS kR ⊢;have s0:=coQ kS 0;have r2:=coQ kR 2;simp at s0 r2;obtain ⟨ao3,cp3,e3,hcv1,hcv2,hat3⟩:=(HS.out _ b1).at;injection e3 with q1 q2 q3;obtain ⟨bV,oV,hbV,yV,c0,c1⟩:=hat3 jo hjo;rw [hbV] at q1;subst q1;rw [<-HOO.out] at c0 c1
 dsimp only at c0 c1
 clear hat3 q2 q3 hbV;have bO:Below w1.heap.size w1 ((w1.alloc (.cells #[.int .u8 oe,.int .i64 on] 55 (0,0))).alloc (.cells #[.int .u8 0,.int .i64 0,.int .u8 0,.int .i64 0,.int .u8 0,.int .i64 0] 87 (0,0))):=((Below.refl _ _).alloc zM _).alloc (by simp) _;have kO:((w1.alloc (.cells #[.int .u8 oe,.int .i64 on] 55 (0,0))).alloc (.cells #[.int .u8 0,.int .i64 0,.int .u8 0,.int .i64 0,.int .u8 0,.int .i64 0] 87 (0,0))).heap[w1.heap.size]?=some (.cells #[.int .u8 oe,.int .i64 on] 55 (0,0)):=(Below.heap_alloc _ _ _ (by simp)).trans (zI w1 _);have kV:((w1.alloc (.cells #[.int .u8 oe,.int .i64 on] 55 (0,0))).alloc (.cells #[.int .u8 0,.int .i64 0,.int .u8 0,.int .i64 0,.int .u8 0,.int .i64 0] 87 (0,0))).heap[w1.heap.size+1]?=some (.cells (Sk.v3c []) 87 (0,0)):=by
  have h7:=zI (w1.alloc (.cells #[.int .u8 oe,.int .i64 on] 55 (0,0))) (.cells #[.int .u8 0,.int .i64 0,.int .u8 0,.int .i64 0,.int .u8 0,.int .i64 0] 87 (0,0));have h8:((w1.alloc (.cells #[.int .u8 oe,.int .i64 on] 55 (0,0))).alloc (.cells #[.int .u8 0,.int .i64 0,.int .u8 0,.int .i64 0,.int .u8 0,.int .i64 0] 87 (0,0))).heap[w1.heap.size+1]?=some (.cells #[.int .u8 0,.int .i64 0,.int .u8 0,.int .i64 0,.int .u8 0,.int .i64 0] 87 (0,0)):=(by simpa using h7);exact h8
 go_upto_region 3 with fail;clear c0 c1 s0 r2 hcv1 hcv2 yV;generalize (w1.alloc (.cells #[.int .u8 oe,.int .i64 on] 55 (0,0))).alloc (.cells #[.int .u8 0,.int .i64 0,.int .u8 0,.int .i64 0,.int .u8 0,.int .i64 0] 87 (0,0))=w3 at bO kO kV ⊢;have yS1:=zG kS;have yR1:=zG kR;have yO3:=zG kO;have yV3:=zG kV;have HKO:=zE kO;have HKV:=zE kV;clear kO kV;go_wp2_with fail;go_loopg [7] A.length (fun kk v7 wr=>∃ (i:Nat),i<=A.length/\kk=A.length-i/\v7=.int .i64 (i:Nat)/\Hid (wr.heap[w1.heap.size]?=some (.cells #[.int .u8 oe,.int .i64 on] 55 (0,0)))/\Hid (wr.heap[w1.heap.size+1]?=some (.cells (Sk.v3c ((A.take i).map (Sk.vAt S.V))) 87 (0,0)))/\Below w1.heap.size w1 wr)
 case atStart=>exact ⟨0,Nat.zero_le _,rfl,rfl,HKO,HKV,bO⟩
 case round=>
  clear HKO HKV bO;obtain ⟨i,hi,rfl,rfl,HKO,HKV,hbr⟩:=hrel;have Br:=b1.trans (hbr.mono b1.size);have kSr:=(hbr.block _ yS1).trans kS;have kRr:=(hbr.block _ yR1).trans kR;have s0:=coQ kSr 0;have r4:=coQ kRr 4;simp at s0 r4;by_cases hlt:i<A.length
  case pos=>
   have HXI:=zE (show (A.take i).map (Sk.vAt S.V)++[Sk.vAt S.V A[i]]=(A.take (i+1)).map (Sk.vAt S.V) by rw [List.take_succ_eq_append_getElem hlt,List.map_append];rfl);have HLN:=zE (show ((A.take i).map (Sk.vAt S.V)).length=i by simp;omega);obtain ⟨ao,cp,e1,-,-,hat⟩:=(HA.out _ (Below.refl _ _)).at;injection e1 with q1 q2 q3;obtain ⟨bA,oA,hbA,yA0,xA0⟩:=hat i hlt;have xA:=(Br.cell (p:=⟨bA,oA+i,none⟩) yA0).trans xA0;have yA:=Nat.lt_of_lt_of_le yA0 b1.size;clear xA0 yA0;rw [hbA] at q1;subst q1;have hzr:=HAR.out A[i] (List.getElem_mem hlt);generalize A[i]=z at xA hzr HXI;obtain ⟨j,rfl⟩:∃ j:Nat,z=(j:Int):=⟨z.toNat,by omega⟩;have hj:j<S.V.length:=(by omega);obtain ⟨ao4,cp4,e4,hcw1,hcw2,hat4⟩:=(HS.out _ (Below.refl _ _)).at;injection e4 with q4 q5 q6;obtain ⟨bW,oW,hbW,yW0,c00,c01⟩:=hat4 j hj;have c0:=(Br.cell (p:=⟨bW,oW+j*2,none⟩) yW0).trans c00;have c1:=(Br.cell (p:=⟨bW,oW+j*2+1,none⟩) yW0).trans c01;have yW:=Nat.lt_of_lt_of_le yW0 b1.size;clear yW0 c00 c01;rw [hbW] at q4;injection q4 with q4;injection q4 with z1 z2;subst z1 z2;have hvv:Sk.vAt S.V (j:Int)=S.V[j]:=xQ hj;rw [hvv] at HXI;generalize S.V[j]=vv at c0 c1 HXI;obtain ⟨ve,vn⟩:=vv
   dsimp only at c0 c1
   generalize hll:(A.take i).map (Sk.vAt S.V)=ll at HKV HXI HLN;have kVr:=HKV.out;have kOr:=HKO.out;have yVr:=zG kVr;have yS:=yS1;have yR:=yR1;clear hat hat4 q2 q3 q5 q6 hbA hbW hvv hzr hll;have hi3:i=0\/i=1\/i=2:=(by omega);rcases hi3 with rfl | rfl | rfl
   case inl=>
    go_upto_region 6 with fail;refine zK (fun w'=>Below w1.heap.size wr w') (fun _=>false) (by kernel_rfl) ?_;have hH0:Below w1.heap.size wr wr.drew:=(Below.refl _ _).drew;have kT0:wr.drew.heap[w1.heap.size+1]?=some (.cells (Sk.v3c ll) 87 (0,0)):=kVr;have kU0:wr.drew.heap[w1.heap.size]?=some (.cells #[.int .u8 oe,.int .i64 on] 55 (0,0)):=kOr;generalize wr.drew=wd0 at hH0 kT0 kU0 ⊢;refine' tkR 0 25 hH0 ?o1
    refine' tkR 1 26 hH0 ?o2
    refine' tkQ 2 27 hH0 ?hyv ?o3
    case hyv=>
     intro wz hSw;have zc0:=(hSw.cell (p:=⟨w.heap.size,0,none⟩) yS).trans s0;have zc1:=(hSw.cell (p:=⟨w.heap.size+1,4,none⟩) yR).trans r4;have zc2:=(hSw.cell (p:=⟨bA,oA,none⟩) yA).trans xA;have zc3:=(hSw.cell (p:=⟨bV,oV+j*2,none⟩) yW).trans c0;have zc4:=(hSw.cell (p:=⟨bV,oV+j*2+1,none⟩) yW).trans c1;go_simp
     try rfl
    try simp only [Act.put,sT,sZ,sS]
    refine' tkR 3 28 hH0 ?o4
    refine' tkQ 4 29 hH0 ?hyv ?o5
    case hyv=>
     intro wz hSw;have zc0:=(hSw.cell (p:=⟨w.heap.size,0,none⟩) yS).trans s0;have zc1:=(hSw.cell (p:=⟨w.heap.size+1,4,none⟩) yR).trans r4;have zc2:=(hSw.cell (p:=⟨bA,oA,none⟩) yA).trans xA;have zc3:=(hSw.cell (p:=⟨bV,oV+j*2,none⟩) yW).trans c0;have zc4:=(hSw.cell (p:=⟨bV,oV+j*2+1,none⟩) yW).trans c1;go_simp
     try rfl
    try simp only [Act.put,sT,sZ,sS]
    refine' tkR 5 30 hH0 ?o6
    refine' tkR 6 31 hH0 ?o7
    refine' tkQ 7 32 hH0 ?hyv ?o8
    case hyv=>
     intro wz hSw;have zc0:=(hSw.cell (p:=⟨w.heap.size,0,none⟩) yS).trans s0;have zc1:=(hSw.cell (p:=⟨w.heap.size+1,4,none⟩) yR).trans r4;have zc2:=(hSw.cell (p:=⟨bA,oA,none⟩) yA).trans xA;have zc3:=(hSw.cell (p:=⟨bV,oV+j*2,none⟩) yW).trans c0;have zc4:=(hSw.cell (p:=⟨bV,oV+j*2+1,none⟩) yW).trans c1;go_simp
     try rfl
    try simp only [Act.put,sT,sZ,sS]
    refine' tkR 8 33 hH0 ?o9
    refine' tkQ 9 34 hH0 ?hyv ?o10
    case hyv=>
     intro wz hSw;have zc0:=(hSw.cell (p:=⟨w.heap.size,0,none⟩) yS).trans s0;have zc1:=(hSw.cell (p:=⟨w.heap.size+1,4,none⟩) yR).trans r4;have zc2:=(hSw.cell (p:=⟨bA,oA,none⟩) yA).trans xA;have zc3:=(hSw.cell (p:=⟨bV,oV+j*2,none⟩) yW).trans c0;have zc4:=(hSw.cell (p:=⟨bV,oV+j*2+1,none⟩) yW).trans c1;go_simp
     try rfl
    try simp only [Act.put,sT,sZ,sS]
    refine' tkR 10 35 hH0 ?o11
    refine tnQ 11 (fun K hK=>?_);have kq0:=kT0;unfold Sk.v3c at kq0;have t0:=coQ kq0 0;have t1:=coQ kq0 1;have f0:=foQ kq0 0;have f1:=foQ kq0 1;simp at t0 t1;have kP:=zJ (zJ kT0 0 (.int .u8 ve)) 1 (.int .i64 vn);have hH1:Below w1.heap.size wr ((wd0.setCell ⟨w1.heap.size+1,0,none⟩ (.int .u8 ve)).setCell ⟨w1.heap.size+1,1,none⟩ (.int .i64 vn)):=(hH0.setCell (p:=⟨w1.heap.size+1,0,none⟩) (by show w1.heap.size<=w1.heap.size+1;omega) _).setCell (p:=⟨w1.heap.size+1,1,none⟩) (by show w1.heap.size<=w1.heap.size+1;omega) _;have kQ:=(zN (wd0.setCell ⟨w1.heap.size+1,0,none⟩ (.int .u8 ve)) ⟨w1.heap.size+1,1,none⟩ (.int .i64 vn) (i:=w1.heap.size) (by show w1.heap.size+1≠w1.heap.size;omega)).trans ((zN wd0 ⟨w1.heap.size+1,0,none⟩ (.int .u8 ve) (i:=w1.heap.size) (by show w1.heap.size+1≠w1.heap.size;omega)).trans kU0);clear kq0;go_simp;refine hK.out _ _ (fun _=>hH1) ?_;clear hK K t0 t1 f0 f1
    try simp only [Act.put,sT,sZ,sS]
    generalize (wd0.setCell ⟨w1.heap.size+1,0,none⟩ (.int .u8 ve)).setCell ⟨w1.heap.size+1,1,none⟩ (.int .i64 vn)=wd1 at hH1 kP kQ ⊢;refine zH (by kernel_rfl) ?_ _;have BX:=hbr.trans hH1;have HKO2:=zE kQ;have HKV2:=zE (show wd1.heap[w1.heap.size+1]?=some (.cells (Sk.v3c ((A.take (0+1)).map (Sk.vAt S.V))) 87 (0,0)) by
     rw [kP,<-HXI.out];unfold Sk.v3c;simp only [Sk.nt_snoc,HLN.out];rfl)
    go_wp2_with fail;go_roundg (A.length-(0+1))
    case measure=>omega
    case rel=>exact ⟨0+1,by omega,rfl,by go_num,HKO2,HKV2,BX⟩
   case inr.inl=>
    go_upto_region 6 with fail;refine zK (fun w'=>Below w1.heap.size wr w') (fun _=>false) (by kernel_rfl) ?_;have hH0:Below w1.heap.size wr wr.drew:=(Below.refl _ _).drew;have kT0:wr.drew.heap[w1.heap.size+1]?=some (.cells (Sk.v3c ll) 87 (0,0)):=kVr;have kU0:wr.drew.heap[w1.heap.size]?=some (.cells #[.int .u8 oe,.int .i64 on] 55 (0,0)):=kOr;generalize wr.drew=wd0 at hH0 kT0 kU0 ⊢;refine' tkR 0 25 hH0 ?o12
    refine' tkR 1 26 hH0 ?o13
    refine' tkQ 2 27 hH0 ?hyv ?o14
    case hyv=>
     intro wz hSw;have zc0:=(hSw.cell (p:=⟨w.heap.size,0,none⟩) yS).trans s0;have zc1:=(hSw.cell (p:=⟨w.heap.size+1,4,none⟩) yR).trans r4;have zc2:=(hSw.cell (p:=⟨bA,oA+1,none⟩) yA).trans xA;have zc3:=(hSw.cell (p:=⟨bV,oV+j*2,none⟩) yW).trans c0;have zc4:=(hSw.cell (p:=⟨bV,oV+j*2+1,none⟩) yW).trans c1;go_simp
     try rfl
    try simp only [Act.put,sT,sZ,sS]
    refine' tkR 3 28 hH0 ?o15
    refine' tkQ 4 29 hH0 ?hyv ?o16
    case hyv=>
     intro wz hSw;have zc0:=(hSw.cell (p:=⟨w.heap.size,0,none⟩) yS).trans s0;have zc1:=(hSw.cell (p:=⟨w.heap.size+1,4,none⟩) yR).trans r4;have zc2:=(hSw.cell (p:=⟨bA,oA+1,none⟩) yA).trans xA;have zc3:=(hSw.cell (p:=⟨bV,oV+j*2,none⟩) yW).trans c0;have zc4:=(hSw.cell (p:=⟨bV,oV+j*2+1,none⟩) yW).trans c1;go_simp
     try rfl
    try simp only [Act.put,sT,sZ,sS]
    refine' tkR 5 30 hH0 ?o17
    refine' tkR 6 31 hH0 ?o18
    refine' tkQ 7 32 hH0 ?hyv ?o19
    case hyv=>
     intro wz hSw;have zc0:=(hSw.cell (p:=⟨w.heap.size,0,none⟩) yS).trans s0;have zc1:=(hSw.cell (p:=⟨w.heap.size+1,4,none⟩) yR).trans r4;have zc2:=(hSw.cell (p:=⟨bA,oA+1,none⟩) yA).trans xA;have zc3:=(hSw.cell (p:=⟨bV,oV+j*2,none⟩) yW).trans c0;have zc4:=(hSw.cell (p:=⟨bV,oV+j*2+1,none⟩) yW).trans c1;go_simp
     try rfl
    try simp only [Act.put,sT,sZ,sS]
    refine' tkR 8 33 hH0 ?o20
    refine' tkQ 9 34 hH0 ?hyv ?o21
    case hyv=>
     intro wz hSw;have zc0:=(hSw.cell (p:=⟨w.heap.size,0,none⟩) yS).trans s0;have zc1:=(hSw.cell (p:=⟨w.heap.size+1,4,none⟩) yR).trans r4;have zc2:=(hSw.cell (p:=⟨bA,oA+1,none⟩) yA).trans xA;have zc3:=(hSw.cell (p:=⟨bV,oV+j*2,none⟩) yW).trans c0;have zc4:=(hSw.cell (p:=⟨bV,oV+j*2+1,none⟩) yW).trans c1;go_simp
     try rfl
    try simp only [Act.put,sT,sZ,sS]
    refine' tkR 10 35 hH0 ?o22
    refine tnQ 11 (fun K hK=>?_);have kq0:=kT0;unfold Sk.v3c at kq0;have t0:=coQ kq0 2;have t1:=coQ kq0 3;have f0:=foQ kq0 2;have f1:=foQ kq0 3;simp at t0 t1;have kP:=zJ (zJ kT0 2 (.int .u8 ve)) 3 (.int .i64 vn);have hH1:Below w1.heap.size wr ((wd0.setCell ⟨w1.heap.size+1,2,none⟩ (.int .u8 ve)).setCell ⟨w1.heap.size+1,3,none⟩ (.int .i64 vn)):=(hH0.setCell (p:=⟨w1.heap.size+1,2,none⟩) (by show w1.heap.size<=w1.heap.size+1;omega) _).setCell (p:=⟨w1.heap.size+1,3,none⟩) (by show w1.heap.size<=w1.heap.size+1;omega) _;have kQ:=(zN (wd0.setCell ⟨w1.heap.size+1,2,none⟩ (.int .u8 ve)) ⟨w1.heap.size+1,3,none⟩ (.int .i64 vn) (i:=w1.heap.size) (by show w1.heap.size+1≠w1.heap.size;omega)).trans ((zN wd0 ⟨w1.heap.size+1,2,none⟩ (.int .u8 ve) (i:=w1.heap.size) (by show w1.heap.size+1≠w1.heap.size;omega)).trans kU0);clear kq0;go_simp;refine hK.out _ _ (fun _=>hH1) ?_;clear hK K t0 t1 f0 f1
    try simp only [Act.put,sT,sZ,sS]
    generalize (wd0.setCell ⟨w1.heap.size+1,2,none⟩ (.int .u8 ve)).setCell ⟨w1.heap.size+1,3,none⟩ (.int .i64 vn)=wd1 at hH1 kP kQ ⊢;refine zH (by kernel_rfl) ?_ _;have BX:=hbr.trans hH1;have HKO2:=zE kQ;have HKV2:=zE (show wd1.heap[w1.heap.size+1]?=some (.cells (Sk.v3c ((A.take (1+1)).map (Sk.vAt S.V))) 87 (0,0)) by
     rw [kP,<-HXI.out];unfold Sk.v3c;simp only [Sk.nt_snoc,HLN.out];rfl)
    go_wp2_with fail;go_roundg (A.length-(1+1))
    case measure=>omega
    case rel=>exact ⟨1+1,by omega,rfl,by go_num,HKO2,HKV2,BX⟩
   case inr.inr=>
    go_upto_region 6 with fail;refine zK (fun w'=>Below w1.heap.size wr w') (fun _=>false) (by kernel_rfl) ?_;have hH0:Below w1.heap.size wr wr.drew:=(Below.refl _ _).drew;have kT0:wr.drew.heap[w1.heap.size+1]?=some (.cells (Sk.v3c ll) 87 (0,0)):=kVr;have kU0:wr.drew.heap[w1.heap.size]?=some (.cells #[.int .u8 oe,.int .i64 on] 55 (0,0)):=kOr;generalize wr.drew=wd0 at hH0 kT0 kU0 ⊢;refine' tkR 0 25 hH0 ?o23
    refine' tkR 1 26 hH0 ?o24
    refine' tkQ 2 27 hH0 ?hyv ?o25
    case hyv=>
     intro wz hSw;have zc0:=(hSw.cell (p:=⟨w.heap.size,0,none⟩) yS).trans s0;have zc1:=(hSw.cell (p:=⟨w.heap.size+1,4,none⟩) yR).trans r4;have zc2:=(hSw.cell (p:=⟨bA,oA+2,none⟩) yA).trans xA;have zc3:=(hSw.cell (p:=⟨bV,oV+j*2,none⟩) yW).trans c0;have zc4:=(hSw.cell (p:=⟨bV,oV+j*2+1,none⟩) yW).trans c1;go_simp
     try rfl
    try simp only [Act.put,sT,sZ,sS]
    refine' tkR 3 28 hH0 ?o26
    refine' tkQ 4 29 hH0 ?hyv ?o27
    case hyv=>
     intro wz hSw;have zc0:=(hSw.cell (p:=⟨w.heap.size,0,none⟩) yS).trans s0;have zc1:=(hSw.cell (p:=⟨w.heap.size+1,4,none⟩) yR).trans r4;have zc2:=(hSw.cell (p:=⟨bA,oA+2,none⟩) yA).trans xA;have zc3:=(hSw.cell (p:=⟨bV,oV+j*2,none⟩) yW).trans c0;have zc4:=(hSw.cell (p:=⟨bV,oV+j*2+1,none⟩) yW).trans c1;go_simp
     try rfl
    try simp only [Act.put,sT,sZ,sS]
    refine' tkR 5 30 hH0 ?o28
    refine' tkR 6 31 hH0 ?o29
    refine' tkQ 7 32 hH0 ?hyv ?o30
    case hyv=>
     intro wz hSw;have zc0:=(hSw.cell (p:=⟨w.heap.size,0,none⟩) yS).trans s0;have zc1:=(hSw.cell (p:=⟨w.heap.size+1,4,none⟩) yR).trans r4;have zc2:=(hSw.cell (p:=⟨bA,oA+2,none⟩) yA).trans xA;have zc3:=(hSw.cell (p:=⟨bV,oV+j*2,none⟩) yW).trans c0;have zc4:=(hSw.cell (p:=⟨bV,oV+j*2+1,none⟩) yW).trans c1;go_simp
     try rfl
    try simp only [Act.put,sT,sZ,sS]
    refine' tkR 8 33 hH0 ?o31
    refine' tkQ 9 34 hH0 ?hyv ?o32
    case hyv=>
     intro wz hSw;have zc0:=(hSw.cell (p:=⟨w.heap.size,0,none⟩) yS).trans s0;have zc1:=(hSw.cell (p:=⟨w.heap.size+1,4,none⟩) yR).trans r4;have zc2:=(hSw.cell (p:=⟨bA,oA+2,none⟩) yA).trans xA;have zc3:=(hSw.cell (p:=⟨bV,oV+j*2,none⟩) yW).trans c0;have zc4:=(hSw.cell (p:=⟨bV,oV+j*2+1,none⟩) yW).trans c1;go_simp
     try rfl
    try simp only [Act.put,sT,sZ,sS]
    refine' tkR 10 35 hH0 ?o33
    refine tnQ 11 (fun K hK=>?_);have kq0:=kT0;unfold Sk.v3c at kq0;have t0:=coQ kq0 4;have t1:=coQ kq0 5;have f0:=foQ kq0 4;have f1:=foQ kq0 5;simp at t0 t1;have kP:=zJ (zJ kT0 4 (.int .u8 ve)) 5 (.int .i64 vn);have hH1:Below w1.heap.size wr ((wd0.setCell ⟨w1.heap.size+1,4,none⟩ (.int .u8 ve)).setCell ⟨w1.heap.size+1,5,none⟩ (.int .i64 vn)):=(hH0.setCell (p:=⟨w1.heap.size+1,4,none⟩) (by show w1.heap.size<=w1.heap.size+1;omega) _).setCell (p:=⟨w1.heap.size+1,5,none⟩) (by show w1.heap.size<=w1.heap.size+1;omega) _;have kQ:=(zN (wd0.setCell ⟨w1.heap.size+1,4,none⟩ (.int .u8 ve)) ⟨w1.heap.size+1,5,none⟩ (.int .i64 vn) (i:=w1.heap.size) (by show w1.heap.size+1≠w1.heap.size;omega)).trans ((zN wd0 ⟨w1.heap.size+1,4,none⟩ (.int .u8 ve) (i:=w1.heap.size) (by show w1.heap.size+1≠w1.heap.size;omega)).trans kU0);clear kq0;go_simp;refine hK.out _ _ (fun _=>hH1) ?_;clear hK K t0 t1 f0 f1
    try simp only [Act.put,sT,sZ,sS]
    generalize (wd0.setCell ⟨w1.heap.size+1,4,none⟩ (.int .u8 ve)).setCell ⟨w1.heap.size+1,5,none⟩ (.int .i64 vn)=wd1 at hH1 kP kQ ⊢;refine zH (by kernel_rfl) ?_ _;have BX:=hbr.trans hH1;have HKO2:=zE kQ;have HKV2:=zE (show wd1.heap[w1.heap.size+1]?=some (.cells (Sk.v3c ((A.take (2+1)).map (Sk.vAt S.V))) 87 (0,0)) by
     rw [kP,<-HXI.out];unfold Sk.v3c;simp only [Sk.nt_snoc,HLN.out];rfl)
    go_wp2_with fail;go_roundg (A.length-(2+1))
    case measure=>omega
    case rel=>exact ⟨2+1,by omega,rfl,by go_num,HKO2,HKV2,BX⟩
  case neg=>
   have hin:i=A.length:=(by omega);subst hin;rw [List.take_length] at HKV;obtain ⟨L,hL⟩:=nmQ (A.map (Sk.vAt S.V));rw [<-hL] at HKV;have HLS:=zE (show L.length=A.length by rw [hL,List.length_map]);have HLB:=zE (fun j=>Sk.nt_bound (l:=L) (by rw [hL];exact HLV.out) j);have HL:=zE hL.symm;obtain ⟨x0,hx0⟩:=nmQ (Sk.nt L 0);obtain ⟨x1,hx1⟩:=nmQ (Sk.nt L 1);obtain ⟨x2,hx2⟩:=nmQ (Sk.nt L 2);have kVr:=HKV.out;unfold Sk.v3c at kVr;have hb0:=HLB.out 0;have hb1:=HLB.out 1;rw [<-hx0] at hb0;rw [<-hx1] at hb1;rw [<-hx0,<-hx1,<-hx2] at kVr;have HA0:=zE hx0.symm;have HA1:=zE hx1.symm;have HA2:=zE hx2.symm;obtain ⟨e0,m0⟩:=x0;obtain ⟨e1,m1⟩:=x1;obtain ⟨e2,m2⟩:=x2
   dsimp only at kVr hb0 hb1
   have HKV3:=zE kVr;clear hL hx0 hx1 hx2 kVr HKV HLB;have r1:=coQ kRr 1;simp at r1;have hct:=vB k;have hel:=Sk.opT_el k;obtain ⟨oq,hoq⟩:=nmQ (Kd.opT k);rw [<-hoq] at hct hel;have HOPK:=zE hoq.symm;obtain ⟨ta,tb,tc⟩:=oq
   dsimp only at hct hel
   have HOE:=zE hel;clear hoq hel;go_wp2_with fail;refine (hct _).mono ?_;rintro e w4 ⟨rfl,b4⟩;clear hct s0 r4 r1;have B4:=hbr.trans (b4.mono hbr.size);have kO4:=(b4.block _ (zG HKO.out)).trans HKO.out;have kV4:=(b4.block _ (zG HKV3.out)).trans HKV3.out;have bN:Below w4.heap.size w4 (w4.alloc (.cells #[.int .u8 105,.int .i64 0] 55 (0,0))):=(Below.refl _ _).alloc zM _;have kN:=zI w4 (.cells #[.int .u8 105,.int .i64 0] 55 (0,0));have kO5:=(bN.block _ (zG kO4)).trans kO4;have kV5:=(bN.block _ (zG kV4)).trans kV4;have B5:=B4.trans (bN.mono B4.size);clear kO4 kV4 HKO HKV3 b4;go_upto_region 9 with fail;generalize w4.alloc (.cells #[.int .u8 105,.int .i64 0] 55 (0,0))=w5 at bN kN kO5 kV5 B5 ⊢;clear bN;have kS5:=(B5.block _ yS1).trans kS;have kR5:=(B5.block _ yR1).trans kR;have s0:=coQ kS5 0;have s1:=coQ kS5 1;have s2:=coQ kS5 2;have s3:=coQ kS5 3;have r0:=coQ kR5 0;have r1:=coQ kR5 1;have r3:=coQ kR5 3;have r5:=coQ kR5 5;have o0:=coQ kO5 0;have o1:=coQ kO5 1;have a0:=coQ kV5 0;have a1:=coQ kV5 1;have a2:=coQ kV5 2;have a3:=coQ kV5 3;have a4:=coQ kV5 4;have a5:=coQ kV5 5;have p0:=coQ kN 0;have p1:=coQ kN 1;simp at s0 s1 s2 s3 r0 r1 r3 r5 o0 o1 a0 a1 a2 a3 a4 a5 p0 p1;by_cases h1:op=1
   case pos=>
    as_aux_lemma=>
    subst h1;by_cases hq:oe=105
    case pos=>
     subst hq;by_cases hq2:on=0
     case pos=>
      subst hq2;have HPF:=zE (show Sk.fitsR S.V ⟨1,k,(jo:Int),x,A,E⟩=true from Sk.fitsR_of (by decide) (Sk.fits_1 (.inl (by rw [HOV.out];rfl))));go_wp2;go_ret;exact ⟨true,rfl,fun _=>HPF.out,b1.trans (B5.mono b1.size)⟩
     case neg=>
      go_wp2;go_ret;exact ⟨false,rfl,fun h=>absurd h (by decide),b1.trans (B5.mono b1.size)⟩
    case neg=>
     by_cases hq2:oe=98
     case neg=>
      go_wp2;go_ret;exact ⟨false,rfl,fun h=>absurd h (by decide),b1.trans (B5.mono b1.size)⟩
     case pos=>
      subst hq2;by_cases hq3:on=0
      case neg=>
       go_wp2;go_ret;exact ⟨false,rfl,fun h=>absurd h (by decide),b1.trans (B5.mono b1.size)⟩
      case pos=>
       subst hq3;by_cases hx0:x=0
       case pos=>
        subst hx0;have HPF:=zE (show Sk.fitsR S.V ⟨1,k,(jo:Int),_,A,E⟩=true from Sk.fitsR_of (by decide) (Sk.fits_1 (.inr ⟨by rw [HOV.out];rfl,.inl rfl⟩)));go_wp2;go_ret;exact ⟨true,rfl,fun _=>HPF.out,b1.trans (B5.mono b1.size)⟩
       case neg=>
        have hx0b:(x==0)=false:=(by simp [hx0]);by_cases hx1:x=1
        case pos=>
         subst hx1;have HPF:=zE (show Sk.fitsR S.V ⟨1,k,(jo:Int),_,A,E⟩=true from Sk.fitsR_of (by decide) (Sk.fits_1 (.inr ⟨by rw [HOV.out];rfl,.inr rfl⟩)));go_wp2;go_ret;exact ⟨true,rfl,fun _=>HPF.out,b1.trans (B5.mono b1.size)⟩
        case neg=>
         have hx1b:(x==1)=false:=(by simp [hx1]);go_wp2;go_ret;exact ⟨false,rfl,fun h=>absurd h (by decide),b1.trans (B5.mono b1.size)⟩
   case neg=>
    by_cases h2:op=2
    case pos=>
     as_aux_lemma=>
     subst h2;by_cases hq2:e0=oe
     case neg=>
      have hbq:(e0==oe)=false:=(by simp [hq2]);have hbr2:(oe==e0)=false:=(by simp [Ne.symm hq2]);go_wp2;go_ret;exact ⟨false,rfl,fun h=>absurd h (by decide),b1.trans (B5.mono b1.size)⟩
     case pos=>
      subst hq2;by_cases hq1:m0=on
      case neg=>
       have hbq:(m0==on)=false:=(by simp [hq1]);have hbr2:(on==m0)=false:=(by simp [Ne.symm hq1]);go_wp2;go_ret;exact ⟨false,rfl,fun h=>absurd h (by decide),b1.trans (B5.mono b1.size)⟩
      case pos=>
       subst hq1;have HPF:=zE (show Sk.fitsR S.V ⟨2,k,(jo:Int),x,A,E⟩=true from Sk.fitsR_of (by decide) (Sk.fits_2 (by rw [HL.out,HA0.out,HOV.out])));go_wp2;go_ret;exact ⟨true,rfl,fun _=>HPF.out,b1.trans (B5.mono b1.size)⟩
    case neg=>
     by_cases h3:op=3
     case pos=>
      as_aux_lemma=>
      subst h3;by_cases hq4:tc=1
      case neg=>
       have hbq:(tc==1)=false:=(by simp [hq4]);have hbr2:(1==tc)=false:=(by simp [Ne.symm hq4]);go_wp2;go_ret;exact ⟨false,rfl,fun h=>absurd h (by decide),b1.trans (B5.mono b1.size)⟩
      case pos=>
       subst hq4;by_cases hq3:e0=ta
       case neg=>
        have hbq:(e0==ta)=false:=(by simp [hq3]);have hbr2:(ta==e0)=false:=(by simp [Ne.symm hq3]);go_wp2;go_ret;exact ⟨false,rfl,fun h=>absurd h (by decide),b1.trans (B5.mono b1.size)⟩
       case pos=>
        subst hq3;by_cases hq2:oe=tb
        case neg=>
         have hbq:(oe==tb)=false:=(by simp [hq2]);have hbr2:(tb==oe)=false:=(by simp [Ne.symm hq2]);go_wp2;go_ret;exact ⟨false,rfl,fun h=>absurd h (by decide),b1.trans (B5.mono b1.size)⟩
        case pos=>
         subst hq2;by_cases hq1:on=m0
         case neg=>
          have hbq:(on==m0)=false:=(by simp [hq1]);have hbr2:(m0==on)=false:=(by simp [Ne.symm hq1]);go_wp2;go_ret;exact ⟨false,rfl,fun h=>absurd h (by decide),b1.trans (B5.mono b1.size)⟩
         case pos=>
          subst hq1;have HPF:=zE (show Sk.fitsR S.V ⟨3,k,(jo:Int),x,A,E⟩=true from Sk.fitsR_of (by decide) (Sk.fits_3 (by rw [HL.out,Sk.list1 (l:=L) (by have:=HOP.out.2.2;have:=HLS.out;simp [Sk.partsT] at *;omega),HA0.out,HOV.out];exact Sk.operates_1 HOPK.out rfl rfl)));go_wp2;go_ret;exact ⟨true,rfl,fun _=>HPF.out,b1.trans (B5.mono b1.size)⟩
     case neg=>
      by_cases h4:op=4
      case pos=>
       as_aux_lemma=>
       subst h4;by_cases hq6:tc=2
       case neg=>
        have hbq:(tc==2)=false:=(by simp [hq6]);have hbr2:(2==tc)=false:=(by simp [Ne.symm hq6]);go_wp2;go_ret;exact ⟨false,rfl,fun h=>absurd h (by decide),b1.trans (B5.mono b1.size)⟩
       case pos=>
        subst hq6;by_cases hq5:e0=ta
        case neg=>
         have hbq:(e0==ta)=false:=(by simp [hq5]);have hbr2:(ta==e0)=false:=(by simp [Ne.symm hq5]);go_wp2;go_ret;exact ⟨false,rfl,fun h=>absurd h (by decide),b1.trans (B5.mono b1.size)⟩
        case pos=>
         subst hq5;by_cases hq4:e1=e0
         case neg=>
          have hbq:(e1==e0)=false:=(by simp [hq4]);have hbr2:(e0==e1)=false:=(by simp [Ne.symm hq4]);go_wp2;go_ret;exact ⟨false,rfl,fun h=>absurd h (by decide),b1.trans (B5.mono b1.size)⟩
         case pos=>
          subst hq4;by_cases hq3:m1=m0
          case neg=>
           have hbq:(m1==m0)=false:=(by simp [hq3]);have hbr2:(m0==m1)=false:=(by simp [Ne.symm hq3]);go_wp2;go_ret;exact ⟨false,rfl,fun h=>absurd h (by decide),b1.trans (B5.mono b1.size)⟩
          case pos=>
           subst hq3;by_cases hq2:oe=tb
           case neg=>
            have hbq:(oe==tb)=false:=(by simp [hq2]);have hbr2:(tb==oe)=false:=(by simp [Ne.symm hq2]);go_wp2;go_ret;exact ⟨false,rfl,fun h=>absurd h (by decide),b1.trans (B5.mono b1.size)⟩
           case pos=>
            subst hq2;by_cases hq1:on=m1
            case neg=>
             have hbq:(on==m1)=false:=(by simp [hq1]);have hbr2:(m1==on)=false:=(by simp [Ne.symm hq1]);go_wp2;go_ret;exact ⟨false,rfl,fun h=>absurd h (by decide),b1.trans (B5.mono b1.size)⟩
            case pos=>
             subst hq1;have HPF:=zE (show Sk.fitsR S.V ⟨4,k,(jo:Int),x,A,E⟩=true from Sk.fitsR_of (by decide) (Sk.fits_4 (by rw [HL.out,Sk.list2 (l:=L) (by have:=HOP.out.2.2;have:=HLS.out;simp [Sk.partsT] at *;omega),HA0.out,HA1.out,HOV.out];exact Sk.operates_2 HOPK.out rfl rfl rfl)));go_wp2;go_ret;exact ⟨true,rfl,fun _=>HPF.out,b1.trans (B5.mono b1.size)⟩
      case neg=>
       by_cases h5:op=5
       case pos=>
        as_aux_lemma=>
        subst h5;by_cases hq6:e0=98
        case neg=>
         have hbq:(e0==98)=false:=(by simp [hq6]);have hbr2:(98==e0)=false:=(by simp [Ne.symm hq6]);go_wp2;go_ret;exact ⟨false,rfl,fun h=>absurd h (by decide),b1.trans (B5.mono b1.size)⟩
        case pos=>
         subst hq6;by_cases hq5:m0=0
         case neg=>
          have hbq:(m0==0)=false:=(by simp [hq5]);have hbr2:(0==m0)=false:=(by simp [Ne.symm hq5]);go_wp2;go_ret;exact ⟨false,rfl,fun h=>absurd h (by decide),b1.trans (B5.mono b1.size)⟩
         case pos=>
          subst hq5;by_cases hq4:e1=oe
          case neg=>
           have hbq:(e1==oe)=false:=(by simp [hq4]);have hbr2:(oe==e1)=false:=(by simp [Ne.symm hq4]);go_wp2;go_ret;exact ⟨false,rfl,fun h=>absurd h (by decide),b1.trans (B5.mono b1.size)⟩
          case pos=>
           subst hq4;by_cases hq3:m1=on
           case neg=>
            have hbq:(m1==on)=false:=(by simp [hq3]);have hbr2:(on==m1)=false:=(by simp [Ne.symm hq3]);go_wp2;go_ret;exact ⟨false,rfl,fun h=>absurd h (by decide),b1.trans (B5.mono b1.size)⟩
           case pos=>
            subst hq3;by_cases hq2:e2=e1
            case neg=>
             have hbq:(e2==e1)=false:=(by simp [hq2]);have hbr2:(e1==e2)=false:=(by simp [Ne.symm hq2]);go_wp2;go_ret;exact ⟨false,rfl,fun h=>absurd h (by decide),b1.trans (B5.mono b1.size)⟩
            case pos=>
             subst hq2;by_cases hq1:m2=m1
             case neg=>
              have hbq:(m2==m1)=false:=(by simp [hq1]);have hbr2:(m1==m2)=false:=(by simp [Ne.symm hq1]);go_wp2;go_ret;exact ⟨false,rfl,fun h=>absurd h (by decide),b1.trans (B5.mono b1.size)⟩
             case pos=>
              subst hq1;have HPF:=zE (show Sk.fitsR S.V ⟨5,k,(jo:Int),x,A,E⟩=true from Sk.fitsR_of (by decide) (Sk.fits_5 (by rw [HL.out,HA0.out];rfl) (by rw [HL.out,HA1.out,HOV.out]) (by rw [HL.out,HA2.out,HOV.out])));go_wp2;go_ret;exact ⟨true,rfl,fun _=>HPF.out,b1.trans (B5.mono b1.size)⟩
       case neg=>
        by_cases h6:op=6
        case pos=>
         as_aux_lemma=>
         subst h6;have hft:=xX k;obtain ⟨qf,hqf⟩:=nmQ (Kd.folds k);rw [<-hqf] at hft;have HQF:=zE hqf.symm;clear hqf;go_wp2_with fail;refine (hft _).mono ?_;rintro e w9 ⟨rfl,b9⟩;clear hft;clear s0 s1 s2 s3 r0 r1 r3 r5 o0 o1 a0 a1 a2 a3 a4 a5 p0 p1;have B9:=B5.trans (b9.mono B5.size);have kO9:=(b9.block _ (zG kO5)).trans kO5;have kV9:=(b9.block _ (zG kV5)).trans kV5;have kN9:=(b9.block _ (zG kN)).trans kN;have kS9:=(B9.block _ yS1).trans kS;have kR9:=(B9.block _ yR1).trans kR;have s0:=coQ kS9 0;have s1:=coQ kS9 1;have s2:=coQ kS9 2;have s3:=coQ kS9 3;have r0:=coQ kR9 0;have r1:=coQ kR9 1;have r3:=coQ kR9 3;have r5:=coQ kR9 5;have o0:=coQ kO9 0;have o1:=coQ kO9 1;have a0:=coQ kV9 0;have a1:=coQ kV9 1;have a2:=coQ kV9 2;have a3:=coQ kV9 3;have a4:=coQ kV9 4;have a5:=coQ kV9 5;have p0:=coQ kN9 0;have p1:=coQ kN9 1;simp at s0 s1 s2 s3 r0 r1 r3 r5 o0 o1 a0 a1 a2 a3 a4 a5 p0 p1
         cases qf
         case false=>
          go_wp2;go_ret;exact ⟨false,rfl,fun h=>absurd h (by decide),b1.trans (B9.mono b1.size)⟩
         case true=>
          by_cases hq6:e0=ta
          case neg=>
           have hbq:(e0==ta)=false:=(by simp [hq6]);have hbr2:(ta==e0)=false:=(by simp [Ne.symm hq6]);go_wp2;go_ret;exact ⟨false,rfl,fun h=>absurd h (by decide),b1.trans (B9.mono b1.size)⟩
          case pos=>
           subst hq6;by_cases hq5:m0=0
           case neg=>
            have hbq:(m0==0)=false:=(by simp [hq5]);have hbr2:(0==m0)=false:=(by simp [Ne.symm hq5]);go_wp2;go_ret;exact ⟨false,rfl,fun h=>absurd h (by decide),b1.trans (B9.mono b1.size)⟩
           case pos=>
            subst hq5;by_cases hm1:m1>0
            case neg=>
             have hbq:decide (m1>0)=false:=(by simp;omega);go_wp2;go_ret;exact ⟨false,rfl,fun h=>absurd h (by decide),b1.trans (B9.mono b1.size)⟩
            case pos=>
             by_cases hq3:e1=e0
             case neg=>
              have hbq:(e1==e0)=false:=(by simp [hq3]);have hbr2:(e0==e1)=false:=(by simp [Ne.symm hq3]);go_wp2;go_ret;exact ⟨false,rfl,fun h=>absurd h (by decide),b1.trans (B9.mono b1.size)⟩
             case pos=>
              subst hq3;by_cases hq2:oe=e1
              case neg=>
               have hbq:(oe==e1)=false:=(by simp [hq2]);have hbr2:(e1==oe)=false:=(by simp [Ne.symm hq2]);go_wp2;go_ret;exact ⟨false,rfl,fun h=>absurd h (by decide),b1.trans (B9.mono b1.size)⟩
              case pos=>
               subst hq2;by_cases hq1:on=0
               case neg=>
                have hbq:(on==0)=false:=(by simp [hq1]);have hbr2:(0==on)=false:=(by simp [Ne.symm hq1]);go_wp2;go_ret;exact ⟨false,rfl,fun h=>absurd h (by decide),b1.trans (B9.mono b1.size)⟩
               case pos=>
                subst hq1;have HPF:=zE (show Sk.fitsR S.V ⟨6,k,(jo:Int),x,A,E⟩=true from Sk.fitsR_of (by decide) (Sk.fits_6 HQF.out (by rw [HL.out,HA0.out,HOPK.out];rfl) (by rw [HL.out,HA1.out];exact hm1) (by rw [HL.out,HA1.out,HOPK.out]) (by rw [HL.out,HA0.out,HOV.out])));go_wp2;go_ret;exact ⟨true,rfl,fun _=>HPF.out,b1.trans (B9.mono b1.size)⟩
        case neg=>
         by_cases h7:op=7
         case pos=>
          as_aux_lemma=>
          subst h7;have hft:=xX k;obtain ⟨qf,hqf⟩:=nmQ (Kd.folds k);rw [<-hqf] at hft;have HQF:=zE hqf.symm;clear hqf;go_wp2_with fail;refine (hft _).mono ?_;rintro e w9 ⟨rfl,b9⟩;clear hft;clear s0 s1 s2 s3 r0 r1 r3 r5 o0 o1 a0 a1 a2 a3 a4 a5 p0 p1;have B9:=B5.trans (b9.mono B5.size);have kO9:=(b9.block _ (zG kO5)).trans kO5;have kV9:=(b9.block _ (zG kV5)).trans kV5;have kN9:=(b9.block _ (zG kN)).trans kN;have kS9:=(B9.block _ yS1).trans kS;have kR9:=(B9.block _ yR1).trans kR;have s0:=coQ kS9 0;have s1:=coQ kS9 1;have s2:=coQ kS9 2;have s3:=coQ kS9 3;have r0:=coQ kR9 0;have r1:=coQ kR9 1;have r3:=coQ kR9 3;have r5:=coQ kR9 5;have o0:=coQ kO9 0;have o1:=coQ kO9 1;have a0:=coQ kV9 0;have a1:=coQ kV9 1;have a2:=coQ kV9 2;have a3:=coQ kV9 3;have a4:=coQ kV9 4;have a5:=coQ kV9 5;have p0:=coQ kN9 0;have p1:=coQ kN9 1;simp at s0 s1 s2 s3 r0 r1 r3 r5 o0 o1 a0 a1 a2 a3 a4 a5 p0 p1
          cases qf
          case false=>
           go_wp2;go_ret;exact ⟨false,rfl,fun h=>absurd h (by decide),b1.trans (B9.mono b1.size)⟩
          case true=>
           by_cases hq6:e0=ta
           case neg=>
            have hbq:(e0==ta)=false:=(by simp [hq6]);have hbr2:(ta==e0)=false:=(by simp [Ne.symm hq6]);go_wp2;go_ret;exact ⟨false,rfl,fun h=>absurd h (by decide),b1.trans (B9.mono b1.size)⟩
           case pos=>
            subst hq6;by_cases hq5:m0=0
            case neg=>
             have hbq:(m0==0)=false:=(by simp [hq5]);have hbr2:(0==m0)=false:=(by simp [Ne.symm hq5]);go_wp2;go_ret;exact ⟨false,rfl,fun h=>absurd h (by decide),b1.trans (B9.mono b1.size)⟩
            case pos=>
             subst hq5;by_cases hm1:m1>0
             case neg=>
              have hbq:decide (m1>0)=false:=(by simp;omega);go_wp2;go_ret;exact ⟨false,rfl,fun h=>absurd h (by decide),b1.trans (B9.mono b1.size)⟩
             case pos=>
              by_cases hq3:e1=e0
              case neg=>
               have hbq:(e1==e0)=false:=(by simp [hq3]);have hbr2:(e0==e1)=false:=(by simp [Ne.symm hq3]);go_wp2;go_ret;exact ⟨false,rfl,fun h=>absurd h (by decide),b1.trans (B9.mono b1.size)⟩
              case pos=>
               subst hq3;by_cases hq2:oe=e1
               case neg=>
                have hbq:(oe==e1)=false:=(by simp [hq2]);have hbr2:(e1==oe)=false:=(by simp [Ne.symm hq2]);go_wp2;go_ret;exact ⟨false,rfl,fun h=>absurd h (by decide),b1.trans (B9.mono b1.size)⟩
               case pos=>
                subst hq2;by_cases hq1:on=m1
                case neg=>
                 have hbq:(on==m1)=false:=(by simp [hq1]);have hbr2:(m1==on)=false:=(by simp [Ne.symm hq1]);go_wp2;go_ret;exact ⟨false,rfl,fun h=>absurd h (by decide),b1.trans (B9.mono b1.size)⟩
                case pos=>
                 subst hq1;have HPF:=zE (show Sk.fitsR S.V ⟨7,k,(jo:Int),x,A,E⟩=true from Sk.fitsR_of (by decide) (Sk.fits_7 HQF.out (by rw [HL.out,HA0.out,HOPK.out];rfl) (by rw [HL.out,HA1.out];exact hm1) (by rw [HL.out,HA1.out,HOPK.out]) (by rw [HL.out,HA1.out,HOV.out])));go_wp2;go_ret;exact ⟨true,rfl,fun _=>HPF.out,b1.trans (B9.mono b1.size)⟩
         case neg=>
          by_cases h8:op=8
          case pos=>
           as_aux_lemma=>
           subst h8;by_cases hq3:m0=0
           case neg=>
            have hbq:(m0==0)=false:=(by simp [hq3]);have hbr2:(0==m0)=false:=(by simp [Ne.symm hq3]);go_wp2;go_ret;exact ⟨false,rfl,fun h=>absurd h (by decide),b1.trans (B5.mono b1.size)⟩
           case pos=>
            subst hq3;by_cases hon:on>0
            case neg=>
             have hbq:decide (on>0)=false:=(by simp;omega);go_wp2;go_ret;exact ⟨false,rfl,fun h=>absurd h (by decide),b1.trans (B5.mono b1.size)⟩
            case pos=>
             by_cases hq1:oe=e0
             case neg=>
              have hbq:(oe==e0)=false:=(by simp [hq1]);have hbr2:(e0==oe)=false:=(by simp [Ne.symm hq1]);go_wp2;go_ret;exact ⟨false,rfl,fun h=>absurd h (by decide),b1.trans (B5.mono b1.size)⟩
             case pos=>
              subst hq1;have HPF:=zE (show Sk.fitsR S.V ⟨8,k,(jo:Int),x,A,E⟩=true from Sk.fitsR_of (by decide) (Sk.fits_8 (by rw [HL.out,HA0.out]) (by rw [HOV.out];exact hon) (by rw [HL.out,HA0.out,HOV.out])));go_wp2;go_ret;exact ⟨true,rfl,fun _=>HPF.out,b1.trans (B5.mono b1.size)⟩
          case neg=>
           by_cases h9:op=9
           case pos=>
            as_aux_lemma=>
            subst h9;by_cases hm0:m0>0
            case neg=>
             have hbq:decide (m0>0)=false:=(by simp;omega);go_wp2;go_ret;exact ⟨false,rfl,fun h=>absurd h (by decide),b1.trans (B5.mono b1.size)⟩
            case pos=>
             by_cases hq6:e1=105
             case neg=>
              have hbq:(e1==105)=false:=(by simp [hq6]);have hbr2:(105==e1)=false:=(by simp [Ne.symm hq6]);go_wp2;go_ret;exact ⟨false,rfl,fun h=>absurd h (by decide),b1.trans (B5.mono b1.size)⟩
             case pos=>
              subst hq6;by_cases hq5:m1=0
              case neg=>
               have hbq:(m1==0)=false:=(by simp [hq5]);have hbr2:(0==m1)=false:=(by simp [Ne.symm hq5]);go_wp2;go_ret;exact ⟨false,rfl,fun h=>absurd h (by decide),b1.trans (B5.mono b1.size)⟩
              case pos=>
               subst hq5;by_cases hq4:e2=e0
               case neg=>
                have hbq:(e2==e0)=false:=(by simp [hq4]);have hbr2:(e0==e2)=false:=(by simp [Ne.symm hq4]);go_wp2;go_ret;exact ⟨false,rfl,fun h=>absurd h (by decide),b1.trans (B5.mono b1.size)⟩
               case pos=>
                subst hq4;by_cases hq3:m2=0
                case neg=>
                 have hbq:(m2==0)=false:=(by simp [hq3]);have hbr2:(0==m2)=false:=(by simp [Ne.symm hq3]);go_wp2;go_ret;exact ⟨false,rfl,fun h=>absurd h (by decide),b1.trans (B5.mono b1.size)⟩
                case pos=>
                 subst hq3;by_cases hq2:oe=e2
                 case neg=>
                  have hbq:(oe==e2)=false:=(by simp [hq2]);have hbr2:(e2==oe)=false:=(by simp [Ne.symm hq2]);go_wp2;go_ret;exact ⟨false,rfl,fun h=>absurd h (by decide),b1.trans (B5.mono b1.size)⟩
                 case pos=>
                  subst hq2;by_cases hq1:on=0
                  case neg=>
                   have hbq:(on==0)=false:=(by simp [hq1]);have hbr2:(0==on)=false:=(by simp [Ne.symm hq1]);go_wp2;go_ret;exact ⟨false,rfl,fun h=>absurd h (by decide),b1.trans (B5.mono b1.size)⟩
                  case pos=>
                   subst hq1;have HPF:=zE (show Sk.fitsR S.V ⟨9,k,(jo:Int),x,A,E⟩=true from Sk.fitsR_of (by decide) (Sk.fits_9 (by rw [HL.out,HA0.out];exact hm0) (by rw [HL.out,HA1.out];rfl) (by rw [HL.out,HA0.out,HA2.out];rfl) (by rw [HL.out,HA2.out,HOV.out])));go_wp2;go_ret;exact ⟨true,rfl,fun _=>HPF.out,b1.trans (B5.mono b1.size)⟩
           case neg=>
            by_cases h10:op=10
            case pos=>
             as_aux_lemma=>
             subst h10;by_cases hm0:m0>0
             case neg=>
              have hbq:decide (m0>0)=false:=(by simp;omega);go_wp2;go_ret;exact ⟨false,rfl,fun h=>absurd h (by decide),b1.trans (B5.mono b1.size)⟩
             case pos=>
              by_cases hq6:e1=105
              case neg=>
               have hbq:(e1==105)=false:=(by simp [hq6]);have hbr2:(105==e1)=false:=(by simp [Ne.symm hq6]);go_wp2;go_ret;exact ⟨false,rfl,fun h=>absurd h (by decide),b1.trans (B5.mono b1.size)⟩
              case pos=>
               subst hq6;by_cases hq5:m1=0
               case neg=>
                have hbq:(m1==0)=false:=(by simp [hq5]);have hbr2:(0==m1)=false:=(by simp [Ne.symm hq5]);go_wp2;go_ret;exact ⟨false,rfl,fun h=>absurd h (by decide),b1.trans (B5.mono b1.size)⟩
               case pos=>
                subst hq5;by_cases hq4:e2=e0
                case neg=>
                 have hbq:(e2==e0)=false:=(by simp [hq4]);have hbr2:(e0==e2)=false:=(by simp [Ne.symm hq4]);go_wp2;go_ret;exact ⟨false,rfl,fun h=>absurd h (by decide),b1.trans (B5.mono b1.size)⟩
                case pos=>
                 subst hq4;by_cases hq3:m2=0
                 case neg=>
                  have hbq:(m2==0)=false:=(by simp [hq3]);have hbr2:(0==m2)=false:=(by simp [Ne.symm hq3]);go_wp2;go_ret;exact ⟨false,rfl,fun h=>absurd h (by decide),b1.trans (B5.mono b1.size)⟩
                 case pos=>
                  subst hq3;by_cases hq2:oe=e2
                  case neg=>
                   have hbq:(oe==e2)=false:=(by simp [hq2]);have hbr2:(e2==oe)=false:=(by simp [Ne.symm hq2]);go_wp2;go_ret;exact ⟨false,rfl,fun h=>absurd h (by decide),b1.trans (B5.mono b1.size)⟩
                  case pos=>
                   subst hq2;by_cases hq1:on=m0
                   case neg=>
                    have hbq:(on==m0)=false:=(by simp [hq1]);have hbr2:(m0==on)=false:=(by simp [Ne.symm hq1]);go_wp2;go_ret;exact ⟨false,rfl,fun h=>absurd h (by decide),b1.trans (B5.mono b1.size)⟩
                   case pos=>
                    subst hq1;have HPF:=zE (show Sk.fitsR S.V ⟨10,k,(jo:Int),x,A,E⟩=true from Sk.fitsR_of (by decide) (Sk.fits_10 (by rw [HL.out,HA0.out];exact hm0) (by rw [HL.out,HA1.out];rfl) (by rw [HL.out,HA0.out,HA2.out];rfl) (by rw [HL.out,HA0.out,HOV.out])));go_wp2;go_ret;exact ⟨true,rfl,fun _=>HPF.out,b1.trans (B5.mono b1.size)⟩
            case neg=>
             by_cases h11:op=11
             case pos=>
              as_aux_lemma=>
              subst h11;by_cases hon:on>0
              case neg=>
               have hbq:decide (on>0)=false:=(by simp;omega);go_wp2;go_ret;exact ⟨false,rfl,fun h=>absurd h (by decide),b1.trans (B5.mono b1.size)⟩
              case pos=>
               by_cases hm0:m0>0
               case neg=>
                have hbq:decide (m0>0)=false:=(by simp;omega);go_wp2;go_ret;exact ⟨false,rfl,fun h=>absurd h (by decide),b1.trans (B5.mono b1.size)⟩
               case pos=>
                by_cases hq4:oe=e0
                case neg=>
                 have hbq:(oe==e0)=false:=(by simp [hq4]);have hbr2:(e0==oe)=false:=(by simp [Ne.symm hq4]);go_wp2;go_ret;exact ⟨false,rfl,fun h=>absurd h (by decide),b1.trans (B5.mono b1.size)⟩
                case pos=>
                 subst hq4;by_cases hx:x≥0
                 case neg=>
                  have hbq:decide (x≥0)=false:=(by simp;omega);go_wp2;go_ret;exact ⟨false,rfl,fun h=>absurd h (by decide),b1.trans (B5.mono b1.size)⟩
                 case pos=>
                  by_cases hom:on<=m0
                  case neg=>
                   have hbq:decide (on<=m0)=false:=(by simp;omega);go_wp2;go_ret;exact ⟨false,rfl,fun h=>absurd h (by decide),b1.trans (B5.mono b1.size)⟩
                  case pos=>
                   by_cases hxm:x<=m0-on
                   case neg=>
                    have hbq:decide (x<=m0-on)=false:=(by simp;omega);go_wp2;go_ret;exact ⟨false,rfl,fun h=>absurd h (by decide),b1.trans (B5.mono b1.size)⟩
                   case pos=>
                    have HPF:=zE (show Sk.fitsR S.V ⟨11,k,(jo:Int),x,A,E⟩=true from Sk.fitsR_of (by decide) (Sk.fits_11 (by rw [HOV.out];exact hon) (by rw [HL.out,HA0.out];exact hm0) (by rw [HL.out,HA0.out,HOV.out]) hx (by rw [HL.out,HA0.out,HOV.out];exact hxm)));go_wp2;go_ret;exact ⟨true,rfl,fun _=>HPF.out,b1.trans (B5.mono b1.size)⟩
             case neg=>
              by_cases h12:op=12
              case pos=>
               as_aux_lemma=>
               subst h12;by_cases hm0:m0>0
               case neg=>
                have hbq:decide (m0>0)=false:=(by simp;omega);go_wp2;go_ret;exact ⟨false,rfl,fun h=>absurd h (by decide),b1.trans (B5.mono b1.size)⟩
               case pos=>
                by_cases hm1:m1>0
                case neg=>
                 have hbq:decide (m1>0)=false:=(by simp;omega);go_wp2;go_ret;exact ⟨false,rfl,fun h=>absurd h (by decide),b1.trans (B5.mono b1.size)⟩
                case pos=>
                 by_cases hq3:e0=e1
                 case neg=>
                  have hbq:(e0==e1)=false:=(by simp [hq3]);have hbr2:(e1==e0)=false:=(by simp [Ne.symm hq3]);go_wp2;go_ret;exact ⟨false,rfl,fun h=>absurd h (by decide),b1.trans (B5.mono b1.size)⟩
                 case pos=>
                  subst hq3;by_cases hq2:oe=e0
                  case neg=>
                   have hbq:(oe==e0)=false:=(by simp [hq2]);have hbr2:(e0==oe)=false:=(by simp [Ne.symm hq2]);go_wp2;go_ret;exact ⟨false,rfl,fun h=>absurd h (by decide),b1.trans (B5.mono b1.size)⟩
                  case pos=>
                   subst hq2;by_cases hadd:on=m0+m1
                   case neg=>
                    go_wp2;go_ret;exact ⟨false,rfl,fun h=>absurd h (by decide),b1.trans (B5.mono b1.size)⟩
                   case pos=>
                    subst hadd;have HPF:=zE (show Sk.fitsR S.V ⟨12,k,(jo:Int),x,A,E⟩=true from Sk.fitsR_of (by decide) (Sk.fits_12 (by rw [HL.out,HA0.out];exact hm0) (by rw [HL.out,HA1.out];exact hm1) (by rw [HL.out,HA0.out,HA1.out]) (by rw [HL.out,HA0.out,HA1.out,HOV.out])));go_wp2;go_ret;exact ⟨true,rfl,fun _=>HPF.out,b1.trans (B5.mono b1.size)⟩
              case neg=>
               by_cases h13:op=13
               case pos=>
                as_aux_lemma=>
                subst h13;by_cases hq4:e0=oe
                case neg=>
                 have hbq:(e0==oe)=false:=(by simp [hq4]);have hbr2:(oe==e0)=false:=(by simp [Ne.symm hq4]);go_wp2;go_ret;exact ⟨false,rfl,fun h=>absurd h (by decide),b1.trans (B5.mono b1.size)⟩
                case pos=>
                 subst hq4;by_cases hq3:m0=on
                 case neg=>
                  have hbq:(m0==on)=false:=(by simp [hq3]);have hbr2:(on==m0)=false:=(by simp [Ne.symm hq3]);go_wp2;go_ret;exact ⟨false,rfl,fun h=>absurd h (by decide),b1.trans (B5.mono b1.size)⟩
                 case pos=>
                  subst hq3;by_cases hq2:e1=e0
                  case neg=>
                   have hbq:(e1==e0)=false:=(by simp [hq2]);have hbr2:(e0==e1)=false:=(by simp [Ne.symm hq2]);go_wp2;go_ret;exact ⟨false,rfl,fun h=>absurd h (by decide),b1.trans (B5.mono b1.size)⟩
                  case pos=>
                   subst hq2;by_cases hq1:m1=m0
                   case neg=>
                    have hbq:(m1==m0)=false:=(by simp [hq1]);have hbr2:(m0==m1)=false:=(by simp [Ne.symm hq1]);go_wp2;go_ret;exact ⟨false,rfl,fun h=>absurd h (by decide),b1.trans (B5.mono b1.size)⟩
                   case pos=>
                    subst hq1;have HPF:=zE (show Sk.fitsR S.V ⟨13,k,(jo:Int),x,A,E⟩=true from Sk.fitsR_of (by decide) (Sk.fits_13 (by rw [HL.out,HA0.out,HOV.out]) (by rw [HL.out,HA1.out,HOV.out])));go_wp2;go_ret;exact ⟨true,rfl,fun _=>HPF.out,b1.trans (B5.mono b1.size)⟩
               case neg=>
                by_cases h14:op=14
                case pos=>
                 as_aux_lemma=>
                 subst h14;have hcl:=cells9_any ⟨oe,on⟩;have hcn:1<=((Sk.cnt ⟨oe,on⟩:Nat):Int)/\((Sk.cnt ⟨oe,on⟩:Nat):Int)<=300:=(by unfold Sk.cnt;dsimp only;omega);have HCN:=zE (show ((Sk.cnt ⟨oe,on⟩:Nat):Int)=max 1 on by unfold Sk.cnt;dsimp only;omega);generalize (((Sk.cnt ⟨oe,on⟩:Nat):Int))=cn at hcl hcn HCN;have HCL:=zE hcl;have HTT:=zE (fun (W:World) (hb:Below w5.heap.size w5 W)=>HT.out W (b1.trans ((B5.trans (hb.mono B5.size)).mono b1.size)) cn hcn (by decide));have yS:=zG kS5;have yR:=zG kR5;have yO:=zG kO5;clear hcl hcn;go_upto_region 37 with fail;refine zK (fun w'=>Below w5.heap.size w5 w') (fun _=>false) (by kernel_rfl) ?_;have hH0:Below w5.heap.size w5 w5.drew:=(Below.refl _ _).drew;generalize w5.drew=wd0 at hH0 ⊢;refine' tkQ 0 365 hH0 ?hyv ?o34
                 case hyv=>
                  intro wz hSw;have zc0:=(hSw.cell (p:=⟨w.heap.size,0,none⟩) yS).trans s0;have zc1:=(hSw.cell (p:=⟨w.heap.size,1,none⟩) yS).trans s1;have zc2:=(hSw.cell (p:=⟨w.heap.size,2,none⟩) yS).trans s2;have zc3:=(hSw.cell (p:=⟨w.heap.size,3,none⟩) yS).trans s3;have zc4:=(hSw.cell (p:=⟨w.heap.size+1,5,none⟩) yR).trans r5;have zc5:=(hSw.cell (p:=⟨w1.heap.size,0,none⟩) yO).trans o0;have zc6:=(hSw.cell (p:=⟨w1.heap.size,1,none⟩) yO).trans o1;go_simp
                  try rfl
                 try simp only [Act.put,sT,sZ,sS]
                 refine' tkR 1 366 hH0 ?o35
                 refine' tkQ 2 367 hH0 ?hyv ?o36
                 case hyv=>
                  intro wz hSw;have zc0:=(hSw.cell (p:=⟨w.heap.size,0,none⟩) yS).trans s0;have zc1:=(hSw.cell (p:=⟨w.heap.size,1,none⟩) yS).trans s1;have zc2:=(hSw.cell (p:=⟨w.heap.size,2,none⟩) yS).trans s2;have zc3:=(hSw.cell (p:=⟨w.heap.size,3,none⟩) yS).trans s3;have zc4:=(hSw.cell (p:=⟨w.heap.size+1,5,none⟩) yR).trans r5;have zc5:=(hSw.cell (p:=⟨w1.heap.size,0,none⟩) yO).trans o0;have zc6:=(hSw.cell (p:=⟨w1.heap.size,1,none⟩) yO).trans o1;go_simp
                  try rfl
                 try simp only [Act.put,sT,sZ,sS]
                 refine' tkR 3 368 hH0 ?o37
                 refine' tkQ 4 369 hH0 ?hyv ?o38
                 case hyv=>
                  intro wz hSw;have zc0:=(hSw.cell (p:=⟨w.heap.size,0,none⟩) yS).trans s0;have zc1:=(hSw.cell (p:=⟨w.heap.size,1,none⟩) yS).trans s1;have zc2:=(hSw.cell (p:=⟨w.heap.size,2,none⟩) yS).trans s2;have zc3:=(hSw.cell (p:=⟨w.heap.size,3,none⟩) yS).trans s3;have zc4:=(hSw.cell (p:=⟨w.heap.size+1,5,none⟩) yR).trans r5;have zc5:=(hSw.cell (p:=⟨w1.heap.size,0,none⟩) yO).trans o0;have zc6:=(hSw.cell (p:=⟨w1.heap.size,1,none⟩) yO).trans o1;go_simp
                  try rfl
                 try simp only [Act.put,sT,sZ,sS]
                 refine' tkR 7 372 hH0 ?o39
                 refine' tkQ 8 373 hH0 ?hyv ?o40
                 case hyv=>
                  intro wz hSw;have zc0:=(hSw.cell (p:=⟨w.heap.size,0,none⟩) yS).trans s0;have zc1:=(hSw.cell (p:=⟨w.heap.size,1,none⟩) yS).trans s1;have zc2:=(hSw.cell (p:=⟨w.heap.size,2,none⟩) yS).trans s2;have zc3:=(hSw.cell (p:=⟨w.heap.size,3,none⟩) yS).trans s3;have zc4:=(hSw.cell (p:=⟨w.heap.size+1,5,none⟩) yR).trans r5;have zc5:=(hSw.cell (p:=⟨w1.heap.size,0,none⟩) yO).trans o0;have zc6:=(hSw.cell (p:=⟨w1.heap.size,1,none⟩) yO).trans o1;go_simp
                  try rfl
                 try simp only [Act.put,sT,sZ,sS]
                 refine tnQ 5 (fun K hK=>?_);go_simp;refine (HCL.out wd0).mono ?_;rintro eq wd1 ⟨rfl,ew1⟩;have hH1:Below w5.heap.size w5 wd1:=ew1 ▸ hH0;refine hK.out _ _ (fun _=>hH1) ?_;clear hK K
                 try simp only [Act.put,sT,sZ,sS]
                 refine tnQ 6 (fun K hK=>?_);go_simp;refine (HTT.out wd1 hH1).mono ?_;rintro eq wd2 ⟨RR,rfl,HRR,bq2⟩;have hH2:Below w5.heap.size w5 wd2:=hH1.trans (bq2.mono hH1.size);refine hK.out _ _ (fun _=>hH2) ?_;clear hK K
                 try simp only [Act.put,sT,sZ,sS]
                 refine' zO (i:=9) (oi:=⟨some 374,_,_,_,_,_⟩) (v:=.bool (RR==oe)) rfl (by kernel_rfl) (by kernel_rfl) (by kernel_rfl) (by kernel_rfl) (fun _ _ _ h=>h) hH2 (by rfl) ?hyv ?o41
                 case hyv=>
                  intro wz hSw;go_simp
                  try rfl
                 try simp only [Act.put,sT,sZ,sS]
                 refine' tkR 10 4 hH2 ?o42
                 refine zH (by kernel_rfl) ?_ _;have B8:=B5.trans (hH2.mono B5.size);have HE8:=zE HRR;clear HRR
                 cases hqq:(RR==oe)
                 case false=>
                  go_wp2;go_ret;exact ⟨false,rfl,fun h=>absurd h (by decide),b1.trans (B8.mono b1.size)⟩
                 case true=>
                  have HPF:=zE (show Sk.fitsR S.V ⟨14,k,(jo:Int),x,A,E⟩=true from Sk.fitsR_14 (by
                   have e:RR=oe:=(by simpa using hqq);rw [HOV.out,<-HCN.out,<-e];exact HE8.out (by rw [e];exact HOK.out.ne)))
                  go_wp2;go_ret;exact ⟨true,rfl,fun _=>HPF.out,b1.trans (B8.mono b1.size)⟩
                case neg=>
                 by_cases h15:op=15
                 case pos=>
                  as_aux_lemma=>
                  subst h15;have hft:=xX k;obtain ⟨qf,hqf⟩:=nmQ (Kd.folds k);rw [<-hqf] at hft;have HQF:=zE hqf.symm;clear hqf;go_wp2_with fail;refine (hft _).mono ?_;rintro e w9 ⟨rfl,b9⟩;clear hft;clear s0 s1 s2 s3 r0 r1 r3 r5 o0 o1 a0 a1 a2 a3 a4 a5 p0 p1;have B9:=B5.trans (b9.mono B5.size);have kO9:=(b9.block _ (zG kO5)).trans kO5;have kV9:=(b9.block _ (zG kV5)).trans kV5;have kN9:=(b9.block _ (zG kN)).trans kN;have kS9:=(B9.block _ yS1).trans kS;have kR9:=(B9.block _ yR1).trans kR;have s0:=coQ kS9 0;have s1:=coQ kS9 1;have s2:=coQ kS9 2;have s3:=coQ kS9 3;have r0:=coQ kR9 0;have r1:=coQ kR9 1;have r3:=coQ kR9 3;have r5:=coQ kR9 5;have o0:=coQ kO9 0;have o1:=coQ kO9 1;have a0:=coQ kV9 0;have a1:=coQ kV9 1;have a2:=coQ kV9 2;have a3:=coQ kV9 3;have a4:=coQ kV9 4;have a5:=coQ kV9 5;have p0:=coQ kN9 0;have p1:=coQ kN9 1;simp at s0 s1 s2 s3 r0 r1 r3 r5 o0 o1 a0 a1 a2 a3 a4 a5 p0 p1
                  cases qf
                  case false=>
                   go_wp2;go_ret;exact ⟨false,rfl,fun h=>absurd h (by decide),b1.trans (B9.mono b1.size)⟩
                  case true=>
                   by_cases hqoe:oe=ta
                   case neg=>
                    have hbq:(oe==ta)=false:=(by simp [hqoe]);have hbr2:(ta==oe)=false:=(by simp [Ne.symm hqoe]);go_wp2;go_ret;exact ⟨false,rfl,fun h=>absurd h (by decide),b1.trans (B9.mono b1.size)⟩
                   case pos=>
                    subst hqoe;by_cases hqon:on=0
                    case neg=>
                     have hbq:(on==0)=false:=(by simp [hqon]);have hbr2:(0==on)=false:=(by simp [Ne.symm hqon]);go_wp2;go_ret;exact ⟨false,rfl,fun h=>absurd h (by decide),b1.trans (B9.mono b1.size)⟩
                    case pos=>
                     subst hqon;by_cases hqe0:e0=oe
                     case neg=>
                      have hbq:(e0==oe)=false:=(by simp [hqe0]);have hbr2:(oe==e0)=false:=(by simp [Ne.symm hqe0]);go_wp2;go_ret;exact ⟨false,rfl,fun h=>absurd h (by decide),b1.trans (B9.mono b1.size)⟩
                     case pos=>
                      subst hqe0;by_cases hqm0:m0=0
                      case neg=>
                       have hbq:(m0==0)=false:=(by simp [hqm0]);have hbr2:(0==m0)=false:=(by simp [Ne.symm hqm0]);go_wp2;go_ret;exact ⟨false,rfl,fun h=>absurd h (by decide),b1.trans (B9.mono b1.size)⟩
                      case pos=>
                       subst hqm0;by_cases hx1:x≥1
                       case neg=>
                        have hbq:decide (x≥1)=false:=(by simp;omega);go_wp2;go_ret;exact ⟨false,rfl,fun h=>absurd h (by decide),b1.trans (B9.mono b1.size)⟩
                       case pos=>
                        by_cases hx3:x<=300
                        case neg=>
                         have hbq:decide (x<=300)=false:=(by simp;omega);go_wp2;go_ret;exact ⟨false,rfl,fun h=>absurd h (by decide),b1.trans (B9.mono b1.size)⟩
                        case pos=>
                         have hn15:1<=x/\x<=300:=⟨by omega,by omega⟩;have hoe:e0≠0:=by
                          rcases HOE.out with h | h
                          ·have h9:=HQF.out
                           unfold Kd.folds at h9;rw [HOPK.out,h] at h9;simp at h9
                          ·rcases h.1 with h | h<;>rw [h]<;>decide
                         have HNE:=zE hoe;clear hoe;go_wp2_with fail;refine (HT.out _ (b1.trans (B9.mono b1.size)) x hn15 (by decide)).mono ?_;rintro e w10 ⟨RR,rfl,HRR,b10⟩;have B10:=B9.trans (b10.mono B9.size);have HE8:=zE HRR;clear HRR s0 s1 s2 s3 r0 r1 r3 r5 o0 o1 a0 a1 a2 a3 a4 a5 p0 p1
                         cases hqq:(RR==e0)
                         case false=>
                          go_wp2;go_ret;exact ⟨false,rfl,fun h=>absurd h (by decide),b1.trans (B10.mono b1.size)⟩
                         case true=>
                          have e:RR=e0:=(by simpa using hqq);have HPF:=zE (show Sk.fitsR S.V ⟨15,k,(jo:Int),x,A,E⟩=true from Sk.fitsR_15 HQF.out (by rw [HOV.out,HOPK.out];rfl) (by rw [HL.out,HA0.out,HOV.out]) hx1 hx3 (by rw [HOPK.out];rw [<-e];exact HE8.out (by rw [e];exact HNE.out)));go_wp2;go_ret;exact ⟨true,rfl,fun _=>HPF.out,b1.trans (B10.mono b1.size)⟩
                 case neg=>
                  obtain rfl:op=16:=by have:=HOP.out;omega
                  have hft:=xX k;obtain ⟨qf,hqf⟩:=nmQ (Kd.folds k);rw [<-hqf] at hft;have HQF:=zE hqf.symm;clear hqf;go_wp2_with fail;refine (hft _).mono ?_;rintro e w9 ⟨rfl,b9⟩;clear hft;clear s0 s1 s2 s3 r0 r1 r3 r5 o0 o1 a0 a1 a2 a3 a4 a5 p0 p1;have B9:=B5.trans (b9.mono B5.size);have kO9:=(b9.block _ (zG kO5)).trans kO5;have kV9:=(b9.block _ (zG kV5)).trans kV5;have kN9:=(b9.block _ (zG kN)).trans kN;have kS9:=(B9.block _ yS1).trans kS;have kR9:=(B9.block _ yR1).trans kR;have s0:=coQ kS9 0;have s1:=coQ kS9 1;have s2:=coQ kS9 2;have s3:=coQ kS9 3;have r0:=coQ kR9 0;have r1:=coQ kR9 1;have r3:=coQ kR9 3;have r5:=coQ kR9 5;have o0:=coQ kO9 0;have o1:=coQ kO9 1;have a0:=coQ kV9 0;have a1:=coQ kV9 1;have a2:=coQ kV9 2;have a3:=coQ kV9 3;have a4:=coQ kV9 4;have a5:=coQ kV9 5;have p0:=coQ kN9 0;have p1:=coQ kN9 1;simp at s0 s1 s2 s3 r0 r1 r3 r5 o0 o1 a0 a1 a2 a3 a4 a5 p0 p1
                  cases qf
                  case false=>
                   go_wp2;go_ret;exact ⟨false,rfl,fun h=>absurd h (by decide),b1.trans (B9.mono b1.size)⟩
                  case true=>
                   by_cases hon:on>0
                   case neg=>
                    have hbq:decide (on>0)=false:=(by simp;omega);go_wp2;go_ret;exact ⟨false,rfl,fun h=>absurd h (by decide),b1.trans (B9.mono b1.size)⟩
                   case pos=>
                    by_cases hqoe:oe=ta
                    case neg=>
                     have hbq:(oe==ta)=false:=(by simp [hqoe]);have hbr2:(ta==oe)=false:=(by simp [Ne.symm hqoe]);go_wp2;go_ret;exact ⟨false,rfl,fun h=>absurd h (by decide),b1.trans (B9.mono b1.size)⟩
                    case pos=>
                     subst hqoe;by_cases hqe0:e0=oe
                     case neg=>
                      have hbq:(e0==oe)=false:=(by simp [hqe0]);have hbr2:(oe==e0)=false:=(by simp [Ne.symm hqe0]);go_wp2;go_ret;exact ⟨false,rfl,fun h=>absurd h (by decide),b1.trans (B9.mono b1.size)⟩
                     case pos=>
                      subst hqe0;by_cases hqm0:m0=0
                      case neg=>
                       have hbq:(m0==0)=false:=(by simp [hqm0]);have hbr2:(0==m0)=false:=(by simp [Ne.symm hqm0]);go_wp2;go_ret;exact ⟨false,rfl,fun h=>absurd h (by decide),b1.trans (B9.mono b1.size)⟩
                      case pos=>
                       subst hqm0;have hn15:1<=on/\on<=300:=⟨by omega,by omega⟩;have hoe:e0≠0:=by
                        rcases HOE.out with h | h
                        ·have h9:=HQF.out
                         unfold Kd.folds at h9;rw [HOPK.out,h] at h9;simp at h9
                        ·rcases h.1 with h | h<;>rw [h]<;>decide
                       have HNE:=zE hoe;clear hoe;go_wp2_with fail;refine (HT.out _ (b1.trans (B9.mono b1.size)) on hn15 (by decide)).mono ?_;rintro e w10 ⟨RR,rfl,HRR,b10⟩;have B10:=B9.trans (b10.mono B9.size);have HE8:=zE HRR;clear HRR s0 s1 s2 s3 r0 r1 r3 r5 o0 o1 a0 a1 a2 a3 a4 a5 p0 p1
                       cases hqq:(RR==e0)
                       case false=>
                        go_wp2;go_ret;exact ⟨false,rfl,fun h=>absurd h (by decide),b1.trans (B10.mono b1.size)⟩
                       case true=>
                        have e:RR=e0:=(by simpa using hqq);have HPF:=zE (show Sk.fitsR S.V ⟨16,k,(jo:Int),x,A,E⟩=true from Sk.fitsR_16 HQF.out (by rw [HOV.out];exact hon) (by rw [HOV.out,HOPK.out]) (by rw [HL.out,HA0.out,HOPK.out];rfl) (by rw [HOPK.out,HOV.out];rw [<-e];exact HE8.out (by rw [e];exact HNE.out)));go_wp2;go_ret;exact ⟨true,rfl,fun _=>HPF.out,b1.trans (B10.mono b1.size)⟩
end Go.Proofs.YtegakbobaecdlaaGreatDoor
