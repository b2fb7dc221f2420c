import Derived.Test.YtfhghlpfeeiaeaaGreatDoorX37
import Derived.Test.YtfhghlpfeeiaeaaGreatDoorX29
set_option linter.unusedVariables false
set_option linter.unusedSimpArgs false
set_option maxHeartbeats 64000000
set_option maxRecDepth 100000
namespace Go.Proofs.YtfhghlpfeeiaeaaGreatDoor
open Go.RowKit Go.IntWalk
namespace Sk
def v3c (l:List Vr):Array Value:=#[.int .u8 (nt l 0).elem,.int .i64 (nt l 0).n,.int .u8 (nt l 1).elem,.int .i64 (nt l 1).n,.int .u8 (nt l 2).elem,.int .i64 (nt l 2).n]
theorem nt_bound {l:List Vr} (h:∀ v ∈ l,VrOk v) (j:Nat):0<=(nt l j).n/\(nt l j).n<=300:=by
 unfold nt;rw [List.getD_eq_getElem?_getD];by_cases hj:j<l.length
 ·rw [List.getElem?_eq_getElem hj]
  exact (h _ (List.getElem_mem hj)).2
 ·rw [List.getElem?_eq_none (by omega)]
  exact ⟨Int.le_refl _,by decide⟩
theorem nt_snoc {l:List Vr} {v:Vr} (j:Nat):nt (l++[v]) j=if j=l.length then v else nt l j:=by
 unfold nt;simp only [List.getD_eq_getElem?_getD];by_cases h:j=l.length
 ·rw [if_pos h,h];simp
 ·rw [if_neg h]
  by_cases h2:j<l.length
  ·rw [List.getElem?_append_left h2]
  ·rw [List.getElem?_eq_none (by simp;omega),List.getElem?_eq_none (by omega)]
theorem list1 {l:List Vr} (h:l.length=1):l=[nt l 0]:=by
 match l,h with
 | [a],_=>rfl
theorem list2 {l:List Vr} (h:l.length=2):l=[nt l 0,nt l 1]:=by
 match l,h with
 | [a,b],_=>rfl
theorem fitsR_of {V:List Vr} {op k out x:Int} {A:List Int} {E:List Pu} (bd:op<14) (hf:fits op k x (vAt V out) (A.map (vAt V))=true):fitsR V ⟨op,k,out,x,A,E⟩=true:=by
 unfold fitsR
 dsimp only
 rw [if_pos bd,hf]
theorem fitsR_14 {V:List Vr} {k out x:Int} {A:List Int} {E:List Pu} (hf:treeL V (max 1 (vAt V out).n) [] E=(vAt V out).elem):fitsR V ⟨14,k,out,x,A,E⟩=true:=by
 unfold fitsR
 dsimp only
 rw [if_neg (by decide)];unfold fitsT;rw [if_pos rfl,hf];simp
theorem fitsR_15 {V:List Vr} {k out x:Int} {A:List Int} {E:List Pu} (hk:Kd.folds k=true) (ho:vAt V out=sc (Kd.opT k).1) (h0:nt (A.map (vAt V)) 0=vAt V out) (h1:1<=x) (h3:x<=300) (hf:treeL V x [] E=(Kd.opT k).1):fitsR V ⟨15,k,out,x,A,E⟩=true:=by
 unfold fitsR
 dsimp only
 rw [if_neg (by decide)];unfold fitsT;rw [if_neg (by intro h;cases h),if_pos rfl,h0,same_self,ho,goesFrom_of hk rfl,hf];simp [h1,h3,sc]
theorem fitsR_16 {V:List Vr} {k out x:Int} {A:List Int} {E:List Pu} (hk:Kd.folds k=true) (hn:0<(vAt V out).n) (ho:(vAt V out).elem=(Kd.opT k).1) (h0:nt (A.map (vAt V)) 0=sc (Kd.opT k).1) (hf:treeL V (vAt V out).n [] E=(Kd.opT k).1):fitsR V ⟨16,k,out,x,A,E⟩=true:=by
 unfold fitsR
 dsimp only
 rw [if_neg (by decide)];unfold fitsT;rw [if_neg (by intro h;cases h),if_neg (by intro h;cases h),goesFrom_of hk h0,arrOf_of hn (by rw [ho,h0]),hf,ho];simp
end Sk
def TFPost (w:World) (S:Sk.Sys) (r:Sk.Ru) (e:Ending) (w':World):Prop:=∃ b,e=.returned (.bool b)/\Sk.fitsR S.V r=b/\Below w.heap.size w w'
theorem mem_uses_A {A:List Int} {E:List Pu} {z:Int} (h:z ∈ A):z ∈ usesT A E:=zBi.2 (.inl h)
theorem mem_uses_E {A:List Int} {E:List Pu} {p:Pu} (h:p ∈ E) (hn:nmd p=true):p.v ∈ usesT A E:=zBi.2 (.inr ⟨p,h,hn,rfl⟩)
theorem zAw {ok:Nat->Prop} {w:World} {aV aI aO aR:Option Addr} {cV cI cO cR:Nat} {S:Sk.Sys} (hS:HSys ok w aV aI aO aR cV cI cO cR S) (gj:∀ v ∈ S.V,Sk.VrOk v) {qF:Nat->Prop} {op k out x:Int} {A:List Int} {E:List Pu} {aA aE:Option Addr} {nA cA nE cE:Nat} (hA:HInts qF w (.slice aA nA cA) A) (hE:HPu qF w (.slice aE nE cE) E) (fX:0<=out/\out<S.V.length) (cw:Sk.hasForm op A.length=true) (fo:E.length<=24) (qq:∀ z ∈ usesT A (Sk.ownE op E),0<=z/\z<S.V.length) :
  Calls Tryz.prog 35 #[.agg #[.slice aV S.V.length cV,.slice aI S.I.length cI,.slice aO S.O.length cO,.slice aR S.R.length cR],.agg #[.int .i64 op,.int .i64 k,.int .i64 out,.int .i64 x,.slice aA nA cA,.slice aE nE cE]] w (TFPost w S ⟨op,k,out,x,A,E⟩):=by
 obtain ⟨AO,pJ,pK,pM,la,-⟩:=hA.at;injection pK with q1 q2 q3;subst q1 q2 q3;unfold maxLen at la;obtain ⟨jo,rfl⟩:∃ j:Nat,out=(j:Int):=⟨out.toNat,by omega⟩;have rm:jo<S.V.length:=(by omega);have IP:=zBK (fun z (h:z ∈ A)=>qq z (mem_uses_A h));have MC:=zBK (fun (ho:14<=op) p (hp:p ∈ E) (hn:nmd p=true)=>qq p.v (mem_uses_E (A:=A) (by unfold Sk.ownE;rw [if_neg (by omega)];exact hp) hn));have eb:1<=op/\op<=16/\(A.length:Int)=Sk.partsT.getD op.toNat 0:=by
  unfold Sk.hasForm at cw;simp at cw
  simpa [and_assoc,List.getD_eq_getElem?_getD] using cw
 have Gd:A.length<=3:=by
  have h8:∀ j:Fin 17,Sk.partsT.getD j.1 0<=3:=(by decide);have h9:Sk.partsT.getD op.toNat 0<=3:=h8 ⟨op.toNat,by omega⟩;omega
 have lU:=zBK eb;have kv:=zBK gj;have jL:=zBo rm;have MQ:=zBK (show ∀ v ∈ A.map (Sk.vAt S.V),Sk.VrOk v from fun v hv=>by
  obtain ⟨z,hz,rfl⟩:=List.mem_map.1 hv;have dZ:=IP.out z hz;obtain ⟨j,rfl⟩:∃ j:Nat,z=(j:Int):=⟨z.toNat,by omega⟩;have hj:j<S.V.length:=(by omega);rw [zBo hj];exact gj _ (List.getElem_mem _))
 have bS:Below w.heap.size w (w.alloc (.cells #[.slice aV S.V.length cV,.slice aI S.I.length cI,.slice aO S.O.length cO,.slice aR S.R.length cR] 26 (0,0))):=(Below.refl _ _).alloc zBR _;have b1:=bS.alloc bS.size (.cells #[.int .i64 op,.int .i64 k,.int .i64 (jo:Int),.int .i64 x,.slice aA A.length cA,.slice aE nE cE] 42 (0,0));have kS:((w.alloc (.cells #[.slice aV S.V.length cV,.slice aI S.I.length cI,.slice aO S.O.length cO,.slice aR S.R.length cR] 26 (0,0))).alloc (.cells #[.int .i64 op,.int .i64 k,.int .i64 (jo:Int),.int .i64 x,.slice aA A.length cA,.slice aE nE cE] 42 (0,0))).heap[w.heap.size]?=some (.cells #[.slice aV S.V.length cV,.slice aI S.I.length cI,.slice aO S.O.length cO,.slice aR S.R.length cR] 26 (0,0)):=(Below.heap_alloc _ _ _ (by simp)).trans (zBO w _);have kR:((w.alloc (.cells #[.slice aV S.V.length cV,.slice aI S.I.length cI,.slice aO S.O.length cO,.slice aR S.R.length cR] 26 (0,0))).alloc (.cells #[.int .i64 op,.int .i64 k,.int .i64 (jo:Int),.int .i64 x,.slice aA A.length cA,.slice aE nE cE] 42 (0,0))).heap[w.heap.size+1]?=some (.cells #[.int .i64 op,.int .i64 k,.int .i64 (jo:Int),.int .i64 x,.slice aA A.length cA,.slice aE nE cE] 42 (0,0)):=by
  have:=zBO (w.alloc (.cells #[.slice aV S.V.length cV,.slice aI S.I.length cI,.slice aO S.O.length cO,.slice aR S.R.length cR] 26 (0,0))) (.cells #[.int .i64 op,.int .i64 k,.int .i64 (jo:Int),.int .i64 x,.slice aA A.length cA,.slice aE nE cE] 42 (0,0))
  simpa using this
 have HT:=zBK (fun (W:World) (hb:Below w.heap.size w W) (n:Int) (hn:1<=n/\n<=300) (ho:14<=op)=>tree48_any (aI:=aI) (aO:=aO) (aR:=aR) (cI:=cI) (cO:=cO) (cR:=cR) (hS.V.under hb) kv.out (hE.under hb) fo (MC.out ho) n hn);have HS:=zBK (fun (W:World) (hb:Below w.heap.size w W)=>hS.V.under hb);have HA:=zBK (fun (W:World) (hb:Below w.heap.size w W)=>hA.under hb);obtain ⟨oo,G7⟩:=nmQ (S.V[jo]);have fN:=kv.out S.V[jo] (List.getElem_mem rm);rw [<-G7] at jL fN;have eW:=zBK jL;have eV:=zBK fN;have Ou:=fN.2;obtain ⟨oe,on⟩:=oo
 dsimp only at Ou
 have M0:=zBK G7;clear hS gj hA hE qq cw eb bS jL fN G7 fX;go_enter Tryz.func35,Tryz.ntmps35;go_upto_region 1 with fail;generalize (w.alloc (.cells #[.slice aV S.V.length cV,.slice aI S.I.length cI,.slice aO S.O.length cO,.slice aR S.R.length cR] 26 (0,0))).alloc (.cells #[.int .i64 op,.int .i64 k,.int .i64 (jo:Int),.int .i64 x,.slice aA A.length cA,.slice aE nE cE] 42 (0,0))=w1 at b1 kS kR ⊢;have s0:=coQ kS 0;have r2:=coQ kR 2;simp at s0 r2;obtain ⟨vY,wg,e3,sy,sA,gB⟩:=(HS.out _ b1).at;injection e3 with q1 q2 q3;obtain ⟨bV,oV,gV,yV,c0,c1⟩:=gB jo rm;rw [gV] at q1;subst q1;rw [<-M0.out] at c0 c1
 dsimp only at c0 c1
 clear gB q2 q3 gV;have bO:Below w1.heap.size w1 ((w1.alloc (.cells #[.int .u8 oe,.int .i64 on] 39 (0,0))).alloc (.cells #[.int .u8 0,.int .i64 0,.int .u8 0,.int .i64 0,.int .u8 0,.int .i64 0] 90 (0,0))):=((Below.refl _ _).alloc zBR _).alloc (by simp) _;have kO:((w1.alloc (.cells #[.int .u8 oe,.int .i64 on] 39 (0,0))).alloc (.cells #[.int .u8 0,.int .i64 0,.int .u8 0,.int .i64 0,.int .u8 0,.int .i64 0] 90 (0,0))).heap[w1.heap.size]?=some (.cells #[.int .u8 oe,.int .i64 on] 39 (0,0)):=(Below.heap_alloc _ _ _ (by simp)).trans (zBO w1 _);have kV:((w1.alloc (.cells #[.int .u8 oe,.int .i64 on] 39 (0,0))).alloc (.cells #[.int .u8 0,.int .i64 0,.int .u8 0,.int .i64 0,.int .u8 0,.int .i64 0] 90 (0,0))).heap[w1.heap.size+1]?=some (.cells (Sk.v3c []) 90 (0,0)):=by
  have h7:=zBO (w1.alloc (.cells #[.int .u8 oe,.int .i64 on] 39 (0,0))) (.cells #[.int .u8 0,.int .i64 0,.int .u8 0,.int .i64 0,.int .u8 0,.int .i64 0] 90 (0,0));have h8:((w1.alloc (.cells #[.int .u8 oe,.int .i64 on] 39 (0,0))).alloc (.cells #[.int .u8 0,.int .i64 0,.int .u8 0,.int .i64 0,.int .u8 0,.int .i64 0] 90 (0,0))).heap[w1.heap.size+1]?=some (.cells #[.int .u8 0,.int .i64 0,.int .u8 0,.int .i64 0,.int .u8 0,.int .i64 0] 90 (0,0)):=(by simpa using h7);exact h8
 go_upto_region 3 with fail;clear c0 c1 s0 r2 sy sA yV;generalize (w1.alloc (.cells #[.int .u8 oe,.int .i64 on] 39 (0,0))).alloc (.cells #[.int .u8 0,.int .i64 0,.int .u8 0,.int .i64 0,.int .u8 0,.int .i64 0] 90 (0,0))=w3 at bO kO kV ⊢;have jD:=zBM kS;have yd:=zBM kR;have RV:=zBM kO;have RY:=zBM kV;have vq:=zBK kO;have lq:=zBK kV;clear kO kV;go_wp2_with fail;go_loopg [7] A.length (fun kk v7 wr=>∃ (i:Nat),i<=A.length/\kk=A.length-i/\v7=.int .i64 (i:Nat)/\Hid (wr.heap[w1.heap.size]?=some (.cells #[.int .u8 oe,.int .i64 on] 39 (0,0)))/\Hid (wr.heap[w1.heap.size+1]?=some (.cells (Sk.v3c ((A.take i).map (Sk.vAt S.V))) 90 (0,0)))/\Below w1.heap.size w1 wr)
 case atStart=>exact ⟨0,Nat.zero_le _,rfl,rfl,vq,lq,bO⟩
 case round=>
  clear vq lq bO;obtain ⟨i,hi,rfl,rfl,vq,lq,aH⟩:=hrel;have Br:=b1.trans (aH.mono b1.size);have ep:=(aH.block _ jD).trans kS;have jh:=(aH.block _ yd).trans kR;have s0:=coQ ep 0;have r4:=coQ jh 4;simp at s0 r4;by_cases bd:i<A.length
  case pos=>
   have r7:=zBK (show (A.take i).map (Sk.vAt S.V)++[Sk.vAt S.V A[i]]=(A.take (i+1)).map (Sk.vAt S.V) by rw [List.take_succ_eq_append_getElem bd,List.map_append];rfl);have vt:=zBK (show ((A.take i).map (Sk.vAt S.V)).length=i by simp;omega);obtain ⟨ao,cp,e1,-,-,bo⟩:=(HA.out _ (Below.refl _ _)).at;injection e1 with q1 q2 q3;obtain ⟨bA,oA,jT,Iy,Mm⟩:=bo i bd;have xA:=(Br.cell (p:=⟨bA,oA+i,none⟩) Iy).trans Mm;have yA:=Nat.lt_of_lt_of_le Iy b1.size;clear Mm Iy;rw [jT] at q1;subst q1;have LX:=IP.out A[i] (List.getElem_mem bd);generalize A[i]=z at xA LX r7;obtain ⟨j,rfl⟩:∃ j:Nat,z=(j:Int):=⟨z.toNat,by omega⟩;have hj:j<S.V.length:=(by omega);obtain ⟨FO,JS,e4,OA,OB,ly⟩:=(HS.out _ (Below.refl _ _)).at;injection e4 with q4 q5 q6;obtain ⟨bW,oW,K8,El,JQ,JR⟩:=ly j hj;have c0:=(Br.cell (p:=⟨bW,oW+j*2,none⟩) El).trans JQ;have c1:=(Br.cell (p:=⟨bW,oW+j*2+1,none⟩) El).trans JR;have yW:=Nat.lt_of_lt_of_le El b1.size;clear El JQ JR;rw [K8] at q4;injection q4 with q4;injection q4 with z1 z2;subst z1 z2;have iz:Sk.vAt S.V (j:Int)=S.V[j]:=zBo hj;rw [iz] at r7;generalize S.V[j]=vv at c0 c1 r7;obtain ⟨ve,vn⟩:=vv
   dsimp only at c0 c1
   generalize za:(A.take i).map (Sk.vAt S.V)=ll at lq r7 vt;have rD:=lq.out;have n8:=vq.out;have RZ:=zBM rD;have yS:=jD;have yR:=yd;clear bo ly q2 q3 q5 q6 jT K8 iz LX za;have OP:i=0\/i=1\/i=2:=(by omega);rcases OP with rfl | rfl | rfl
   case inl=>
    go_upto_region 6 with fail;have aM:=zBK (fun (wz:World) (hSw:Below w1.heap.size wr wz)=>And.intro ((hSw.cell (p:=⟨w.heap.size,0,none⟩) yS).trans s0) (And.intro ((hSw.cell (p:=⟨w.heap.size+1,4,none⟩) yR).trans r4) (And.intro ((hSw.cell (p:=⟨bA,oA,none⟩) yA).trans xA) (And.intro ((hSw.cell (p:=⟨bV,oV+j*2,none⟩) yW).trans c0) ((hSw.cell (p:=⟨bV,oV+j*2+1,none⟩) yW).trans c1)))));refine zBP (fun w'=>Below w1.heap.size wr w') (fun _=>false) (by kernel_rfl) ?_;have ab:Below w1.heap.size wr wr.drew:=(Below.refl _ _).drew;have qD:wr.drew.heap[w1.heap.size+1]?=some (.cells (Sk.v3c ll) 90 (0,0)):=rD;have uH:wr.drew.heap[w1.heap.size]?=some (.cells #[.int .u8 oe,.int .i64 on] 39 (0,0)):=n8;generalize wr.drew=ag at ab qD uH ⊢;refine' tkR 0 25 ab ?o1
    refine' tkR 1 26 ab ?o2
    refine' tkQ 2 27 ab ?hyv ?o3
    case hyv=>
     intro wz hSw;have bk:=aM.out wz hSw;go_simp
     try rfl
    try simp only [Act.put,sT,sZ,sS]
    refine' tkR 3 28 ab ?o4
    refine' tkQ 4 29 ab ?hyv ?o5
    case hyv=>
     intro wz hSw;have bk:=aM.out wz hSw;go_simp
     try rfl
    try simp only [Act.put,sT,sZ,sS]
    refine' tkR 5 30 ab ?o6
    refine' tkR 6 31 ab ?o7
    refine' tkQ 7 32 ab ?hyv ?o8
    case hyv=>
     intro wz hSw;have bk:=aM.out wz hSw;go_simp
     try rfl
    try simp only [Act.put,sT,sZ,sS]
    refine' tkR 8 33 ab ?o9
    refine' tkQ 9 34 ab ?hyv ?o10
    case hyv=>
     intro wz hSw;have bk:=aM.out wz hSw;go_simp
     try rfl
    try simp only [Act.put,sT,sZ,sS]
    refine' tkR 10 35 ab ?o11
    refine tnQ 11 (fun K hK=>?_);have kd:=qD;unfold Sk.v3c at kd;have t0:=coQ kd 0;have t1:=coQ kd 1;have f0:=foQ kd 0;have f1:=foQ kd 1;simp at t0 t1;have kP:=zBQ (zBQ qD 0 (.int .u8 ve)) 1 (.int .i64 vn);have af:Below w1.heap.size wr ((ag.setCell ⟨w1.heap.size+1,0,none⟩ (.int .u8 ve)).setCell ⟨w1.heap.size+1,1,none⟩ (.int .i64 vn)):=(ab.setCell (p:=⟨w1.heap.size+1,0,none⟩) (by show w1.heap.size<=w1.heap.size+1;omega) _).setCell (p:=⟨w1.heap.size+1,1,none⟩) (by show w1.heap.size<=w1.heap.size+1;omega) _;have kQ:=(zBU (ag.setCell ⟨w1.heap.size+1,0,none⟩ (.int .u8 ve)) ⟨w1.heap.size+1,1,none⟩ (.int .i64 vn) (i:=w1.heap.size) (by show w1.heap.size+1≠w1.heap.size;omega)).trans ((zBU ag ⟨w1.heap.size+1,0,none⟩ (.int .u8 ve) (i:=w1.heap.size) (by show w1.heap.size+1≠w1.heap.size;omega)).trans uH);clear kd;go_simp;refine hK.out _ _ (fun _=>af) ?_;clear hK K t0 t1 f0 f1
    try simp only [Act.put,sT,sZ,sS]
    generalize (ag.setCell ⟨w1.heap.size+1,0,none⟩ (.int .u8 ve)).setCell ⟨w1.heap.size+1,1,none⟩ (.int .i64 vn)=aw at af kP kQ ⊢;refine zBN (by kernel_rfl) ?_ _;have BX:=aH.trans af;have po:=zBK kQ;have pw:=zBK (show aw.heap[w1.heap.size+1]?=some (.cells (Sk.v3c ((A.take (0+1)).map (Sk.vAt S.V))) 90 (0,0)) by
     rw [kP,<-r7.out];unfold Sk.v3c;simp only [Sk.nt_snoc,vt.out];rfl)
    go_wp2_with fail;go_roundg (A.length-(0+1))
    case measure=>omega
    case rel=>exact ⟨0+1,by omega,rfl,by go_num,po,pw,BX⟩
   case inr.inl=>
    go_upto_region 6 with fail;have aM:=zBK (fun (wz:World) (hSw:Below w1.heap.size wr wz)=>And.intro ((hSw.cell (p:=⟨w.heap.size,0,none⟩) yS).trans s0) (And.intro ((hSw.cell (p:=⟨w.heap.size+1,4,none⟩) yR).trans r4) (And.intro ((hSw.cell (p:=⟨bA,oA+1,none⟩) yA).trans xA) (And.intro ((hSw.cell (p:=⟨bV,oV+j*2,none⟩) yW).trans c0) ((hSw.cell (p:=⟨bV,oV+j*2+1,none⟩) yW).trans c1)))));refine zBP (fun w'=>Below w1.heap.size wr w') (fun _=>false) (by kernel_rfl) ?_;have ab:Below w1.heap.size wr wr.drew:=(Below.refl _ _).drew;have qD:wr.drew.heap[w1.heap.size+1]?=some (.cells (Sk.v3c ll) 90 (0,0)):=rD;have uH:wr.drew.heap[w1.heap.size]?=some (.cells #[.int .u8 oe,.int .i64 on] 39 (0,0)):=n8;generalize wr.drew=ag at ab qD uH ⊢;refine' tkR 0 25 ab ?o12
    refine' tkR 1 26 ab ?o13
    refine' tkQ 2 27 ab ?hyv ?o14
    case hyv=>
     intro wz hSw;have bk:=aM.out wz hSw;go_simp
     try rfl
    try simp only [Act.put,sT,sZ,sS]
    refine' tkR 3 28 ab ?o15
    refine' tkQ 4 29 ab ?hyv ?o16
    case hyv=>
     intro wz hSw;have bk:=aM.out wz hSw;go_simp
     try rfl
    try simp only [Act.put,sT,sZ,sS]
    refine' tkR 5 30 ab ?o17
    refine' tkR 6 31 ab ?o18
    refine' tkQ 7 32 ab ?hyv ?o19
    case hyv=>
     intro wz hSw;have bk:=aM.out wz hSw;go_simp
     try rfl
    try simp only [Act.put,sT,sZ,sS]
    refine' tkR 8 33 ab ?o20
    refine' tkQ 9 34 ab ?hyv ?o21
    case hyv=>
     intro wz hSw;have bk:=aM.out wz hSw;go_simp
     try rfl
    try simp only [Act.put,sT,sZ,sS]
    refine' tkR 10 35 ab ?o22
    refine tnQ 11 (fun K hK=>?_);have kd:=qD;unfold Sk.v3c at kd;have t0:=coQ kd 2;have t1:=coQ kd 3;have f0:=foQ kd 2;have f1:=foQ kd 3;simp at t0 t1;have kP:=zBQ (zBQ qD 2 (.int .u8 ve)) 3 (.int .i64 vn);have af:Below w1.heap.size wr ((ag.setCell ⟨w1.heap.size+1,2,none⟩ (.int .u8 ve)).setCell ⟨w1.heap.size+1,3,none⟩ (.int .i64 vn)):=(ab.setCell (p:=⟨w1.heap.size+1,2,none⟩) (by show w1.heap.size<=w1.heap.size+1;omega) _).setCell (p:=⟨w1.heap.size+1,3,none⟩) (by show w1.heap.size<=w1.heap.size+1;omega) _;have kQ:=(zBU (ag.setCell ⟨w1.heap.size+1,2,none⟩ (.int .u8 ve)) ⟨w1.heap.size+1,3,none⟩ (.int .i64 vn) (i:=w1.heap.size) (by show w1.heap.size+1≠w1.heap.size;omega)).trans ((zBU ag ⟨w1.heap.size+1,2,none⟩ (.int .u8 ve) (i:=w1.heap.size) (by show w1.heap.size+1≠w1.heap.size;omega)).trans uH);clear kd;go_simp;refine hK.out _ _ (fun _=>af) ?_;clear hK K t0 t1 f0 f1
    try simp only [Act.put,sT,sZ,sS]
    generalize (ag.setCell ⟨w1.heap.size+1,2,none⟩ (.int .u8 ve)).setCell ⟨w1.heap.size+1,3,none⟩ (.int .i64 vn)=aw at af kP kQ ⊢;refine zBN (by kernel_rfl) ?_ _;have BX:=aH.trans af;have po:=zBK kQ;have pw:=zBK (show aw.heap[w1.heap.size+1]?=some (.cells (Sk.v3c ((A.take (1+1)).map (Sk.vAt S.V))) 90 (0,0)) by
     rw [kP,<-r7.out];unfold Sk.v3c;simp only [Sk.nt_snoc,vt.out];rfl)
    go_wp2_with fail;go_roundg (A.length-(1+1))
    case measure=>omega
    case rel=>exact ⟨1+1,by omega,rfl,by go_num,po,pw,BX⟩
   case inr.inr=>
    go_upto_region 6 with fail;have aM:=zBK (fun (wz:World) (hSw:Below w1.heap.size wr wz)=>And.intro ((hSw.cell (p:=⟨w.heap.size,0,none⟩) yS).trans s0) (And.intro ((hSw.cell (p:=⟨w.heap.size+1,4,none⟩) yR).trans r4) (And.intro ((hSw.cell (p:=⟨bA,oA+2,none⟩) yA).trans xA) (And.intro ((hSw.cell (p:=⟨bV,oV+j*2,none⟩) yW).trans c0) ((hSw.cell (p:=⟨bV,oV+j*2+1,none⟩) yW).trans c1)))));refine zBP (fun w'=>Below w1.heap.size wr w') (fun _=>false) (by kernel_rfl) ?_;have ab:Below w1.heap.size wr wr.drew:=(Below.refl _ _).drew;have qD:wr.drew.heap[w1.heap.size+1]?=some (.cells (Sk.v3c ll) 90 (0,0)):=rD;have uH:wr.drew.heap[w1.heap.size]?=some (.cells #[.int .u8 oe,.int .i64 on] 39 (0,0)):=n8;generalize wr.drew=ag at ab qD uH ⊢;refine' tkR 0 25 ab ?o23
    refine' tkR 1 26 ab ?o24
    refine' tkQ 2 27 ab ?hyv ?o25
    case hyv=>
     intro wz hSw;have bk:=aM.out wz hSw;go_simp
     try rfl
    try simp only [Act.put,sT,sZ,sS]
    refine' tkR 3 28 ab ?o26
    refine' tkQ 4 29 ab ?hyv ?o27
    case hyv=>
     intro wz hSw;have bk:=aM.out wz hSw;go_simp
     try rfl
    try simp only [Act.put,sT,sZ,sS]
    refine' tkR 5 30 ab ?o28
    refine' tkR 6 31 ab ?o29
    refine' tkQ 7 32 ab ?hyv ?o30
    case hyv=>
     intro wz hSw;have bk:=aM.out wz hSw;go_simp
     try rfl
    try simp only [Act.put,sT,sZ,sS]
    refine' tkR 8 33 ab ?o31
    refine' tkQ 9 34 ab ?hyv ?o32
    case hyv=>
     intro wz hSw;have bk:=aM.out wz hSw;go_simp
     try rfl
    try simp only [Act.put,sT,sZ,sS]
    refine' tkR 10 35 ab ?o33
    refine tnQ 11 (fun K hK=>?_);have kd:=qD;unfold Sk.v3c at kd;have t0:=coQ kd 4;have t1:=coQ kd 5;have f0:=foQ kd 4;have f1:=foQ kd 5;simp at t0 t1;have kP:=zBQ (zBQ qD 4 (.int .u8 ve)) 5 (.int .i64 vn);have af:Below w1.heap.size wr ((ag.setCell ⟨w1.heap.size+1,4,none⟩ (.int .u8 ve)).setCell ⟨w1.heap.size+1,5,none⟩ (.int .i64 vn)):=(ab.setCell (p:=⟨w1.heap.size+1,4,none⟩) (by show w1.heap.size<=w1.heap.size+1;omega) _).setCell (p:=⟨w1.heap.size+1,5,none⟩) (by show w1.heap.size<=w1.heap.size+1;omega) _;have kQ:=(zBU (ag.setCell ⟨w1.heap.size+1,4,none⟩ (.int .u8 ve)) ⟨w1.heap.size+1,5,none⟩ (.int .i64 vn) (i:=w1.heap.size) (by show w1.heap.size+1≠w1.heap.size;omega)).trans ((zBU ag ⟨w1.heap.size+1,4,none⟩ (.int .u8 ve) (i:=w1.heap.size) (by show w1.heap.size+1≠w1.heap.size;omega)).trans uH);clear kd;go_simp;refine hK.out _ _ (fun _=>af) ?_;clear hK K t0 t1 f0 f1
    try simp only [Act.put,sT,sZ,sS]
    generalize (ag.setCell ⟨w1.heap.size+1,4,none⟩ (.int .u8 ve)).setCell ⟨w1.heap.size+1,5,none⟩ (.int .i64 vn)=aw at af kP kQ ⊢;refine zBN (by kernel_rfl) ?_ _;have BX:=aH.trans af;have po:=zBK kQ;have pw:=zBK (show aw.heap[w1.heap.size+1]?=some (.cells (Sk.v3c ((A.take (2+1)).map (Sk.vAt S.V))) 90 (0,0)) by
     rw [kP,<-r7.out];unfold Sk.v3c;simp only [Sk.nt_snoc,vt.out];rfl)
    go_wp2_with fail;go_roundg (A.length-(2+1))
    case measure=>omega
    case rel=>exact ⟨2+1,by omega,rfl,by go_num,po,pw,BX⟩
  case neg=>
   have bp:i=A.length:=(by omega);subst bp;rw [List.take_length] at lq;obtain ⟨L,hL⟩:=nmQ (A.map (Sk.vAt S.V));rw [<-hL] at lq;have tC:=zBK (show L.length=A.length by rw [hL,List.length_map]);have E9:=zBK (fun j=>Sk.nt_bound (l:=L) (by rw [hL];exact MQ.out) j);have HL:=zBK hL.symm;obtain ⟨x0,nj⟩:=nmQ (Sk.nt L 0);obtain ⟨x1,nY⟩:=nmQ (Sk.nt L 1);obtain ⟨x2,lM⟩:=nmQ (Sk.nt L 2);have rD:=lq.out;unfold Sk.v3c at rD;have cz:=E9.out 0;have lz:=E9.out 1;rw [<-nj] at cz;rw [<-nY] at lz;rw [<-nj,<-nY,<-lM] at rD;have fH:=zBK nj.symm;have fy:=zBK nY.symm;have hJ:=zBK lM.symm;obtain ⟨e0,m0⟩:=x0;obtain ⟨e1,m1⟩:=x1;obtain ⟨e2,m2⟩:=x2
   dsimp only at rD cz lz
   have vs:=zBK rD;clear hL nj nY lM rD lq E9;have r1:=coQ jh 1;simp at r1;have cZ:=zCb k;have eo:=Sk.opT_el k;obtain ⟨oq,qn⟩:=nmQ (Kd.opT k);rw [<-qn] at cZ eo;have dU:=zBK qn.symm;obtain ⟨ta,tb,tc⟩:=oq
   dsimp only at cZ eo
   have ys:=zBK eo;clear qn eo;go_wp2_with fail;refine (cZ _).mono ?_;rintro e w4 ⟨rfl,b4⟩;clear cZ s0 r4 r1;have B4:=aH.trans (b4.mono aH.size);have Ia:=(b4.block _ (zBM vq.out)).trans vq.out;have CN:=(b4.block _ (zBM vs.out)).trans vs.out;have bN:Below w4.heap.size w4 (w4.alloc (.cells #[.int .u8 105,.int .i64 0] 39 (0,0))):=(Below.refl _ _).alloc zBR _;have kN:=zBO w4 (.cells #[.int .u8 105,.int .i64 0] 39 (0,0));have oQ:=(bN.block _ (zBM Ia)).trans Ia;have mF:=(bN.block _ (zBM CN)).trans CN;have B5:=B4.trans (bN.mono B4.size);clear Ia CN vq vs b4;go_upto_region 9 with fail;generalize w4.alloc (.cells #[.int .u8 105,.int .i64 0] 39 (0,0))=w5 at bN kN oQ mF B5 ⊢;clear bN;have iN:=(B5.block _ jD).trans kS;have dT:=(B5.block _ yd).trans kR;have s0:=coQ iN 0;have s1:=coQ iN 1;have s2:=coQ iN 2;have s3:=coQ iN 3;have r0:=coQ dT 0;have r1:=coQ dT 1;have r3:=coQ dT 3;have r5:=coQ dT 5;have o0:=coQ oQ 0;have o1:=coQ oQ 1;have a0:=coQ mF 0;have a1:=coQ mF 1;have a2:=coQ mF 2;have a3:=coQ mF 3;have a4:=coQ mF 4;have a5:=coQ mF 5;have p0:=coQ kN 0;have p1:=coQ kN 1;simp at s0 s1 s2 s3 r0 r1 r3 r5 o0 o1 a0 a1 a2 a3 a4 a5 p0 p1;by_cases h1:op=1
   case pos=>
    as_aux_lemma=>
    subst h1;have cy:=zBK (show Sk.fitsR S.V ⟨1,k,(jo:Int),x,A,E⟩=true->(oe=105/\on=0)\/(oe=98/\on=0/\(x=0\/x=1)) from fun h=>by have h2:=Sk.need_1 (Sk.needR (by decide) h);simp only [HL.out,fH.out,fy.out,hJ.out,eW.out,dU.out] at h2;exact h2);by_cases hq:oe=105
    case pos=>
     subst hq;by_cases aY:on=0
     case pos=>
      subst aY;have gd:=zBK (show Sk.fitsR S.V ⟨1,k,(jo:Int),x,A,E⟩=true from Sk.fitsR_of (by decide) (Sk.fits_1 (.inl (by rw [eW.out];rfl))));go_wp2;go_ret;exact ⟨true,rfl,gd.out,b1.trans (B5.mono b1.size)⟩
     case neg=>
      have bh:=zBK (show Sk.fitsR S.V ⟨1,k,(jo:Int),x,A,E⟩=false from Bool.eq_false_iff.2 (fun bj=>absurd (cy.out bj) (by omega)));go_wp2;go_ret;exact ⟨false,rfl,bh.out,b1.trans (B5.mono b1.size)⟩
    case neg=>
     by_cases aY:oe=98
     case neg=>
      have bh:=zBK (show Sk.fitsR S.V ⟨1,k,(jo:Int),x,A,E⟩=false from Bool.eq_false_iff.2 (fun bj=>absurd (cy.out bj) (by omega)));go_wp2;go_ret;exact ⟨false,rfl,bh.out,b1.trans (B5.mono b1.size)⟩
     case pos=>
      subst aY;by_cases da:on=0
      case neg=>
       have bh:=zBK (show Sk.fitsR S.V ⟨1,k,(jo:Int),x,A,E⟩=false from Bool.eq_false_iff.2 (fun bj=>absurd (cy.out bj) (by omega)));go_wp2;go_ret;exact ⟨false,rfl,bh.out,b1.trans (B5.mono b1.size)⟩
      case pos=>
       subst da;by_cases nj:x=0
       case pos=>
        subst nj;have gd:=zBK (show Sk.fitsR S.V ⟨1,k,(jo:Int),_,A,E⟩=true from Sk.fitsR_of (by decide) (Sk.fits_1 (.inr ⟨by rw [eW.out];rfl,.inl rfl⟩)));go_wp2;go_ret;exact ⟨true,rfl,gd.out,b1.trans (B5.mono b1.size)⟩
       case neg=>
        have Hy:(x==0)=false:=(by simp [nj]);by_cases nY:x=1
        case pos=>
         subst nY;have gd:=zBK (show Sk.fitsR S.V ⟨1,k,(jo:Int),_,A,E⟩=true from Sk.fitsR_of (by decide) (Sk.fits_1 (.inr ⟨by rw [eW.out];rfl,.inr rfl⟩)));go_wp2;go_ret;exact ⟨true,rfl,gd.out,b1.trans (B5.mono b1.size)⟩
        case neg=>
         have Hz:(x==1)=false:=(by simp [nY]);have bh:=zBK (show Sk.fitsR S.V ⟨1,k,(jo:Int),x,A,E⟩=false from Bool.eq_false_iff.2 (fun bj=>absurd (cy.out bj) (by omega)));go_wp2;go_ret;exact ⟨false,rfl,bh.out,b1.trans (B5.mono b1.size)⟩
   case neg=>
    by_cases h2:op=2
    case pos=>
     as_aux_lemma=>
     subst h2;have cy:=zBK (show Sk.fitsR S.V ⟨2,k,(jo:Int),x,A,E⟩=true->oe=e0/\on=m0 from fun h=>by have h2:=Sk.need_2 (Sk.needR (by decide) h);simp only [HL.out,fH.out,fy.out,hJ.out,eW.out,dU.out] at h2;exact h2);by_cases aY:e0=oe
     case neg=>
      have du:(e0==oe)=false:=(by simp [aY]);have bM:(oe==e0)=false:=(by simp [Ne.symm aY]);have bh:=zBK (show Sk.fitsR S.V ⟨2,k,(jo:Int),x,A,E⟩=false from Bool.eq_false_iff.2 (fun bj=>absurd (cy.out bj) (by omega)));go_wp2;go_ret;exact ⟨false,rfl,bh.out,b1.trans (B5.mono b1.size)⟩
     case pos=>
      subst aY;by_cases bm:m0=on
      case neg=>
       have du:(m0==on)=false:=(by simp [bm]);have bM:(on==m0)=false:=(by simp [Ne.symm bm]);have bh:=zBK (show Sk.fitsR S.V ⟨2,k,(jo:Int),x,A,E⟩=false from Bool.eq_false_iff.2 (fun bj=>absurd (cy.out bj) (by omega)));go_wp2;go_ret;exact ⟨false,rfl,bh.out,b1.trans (B5.mono b1.size)⟩
      case pos=>
       subst bm;have gd:=zBK (show Sk.fitsR S.V ⟨2,k,(jo:Int),x,A,E⟩=true from Sk.fitsR_of (by decide) (Sk.fits_2 (by rw [HL.out,fH.out,eW.out])));go_wp2;go_ret;exact ⟨true,rfl,gd.out,b1.trans (B5.mono b1.size)⟩
    case neg=>
     by_cases h3:op=3
     case pos=>
      as_aux_lemma=>
      subst h3;have cy:=zBK (show Sk.fitsR S.V ⟨3,k,(jo:Int),x,A,E⟩=true->tc=1/\e0=ta/\oe=tb/\on=m0 from fun h=>by have h1:=Sk.needR (by decide) h;rw [HL.out,Sk.list1 (l:=L) (by have:=lU.out.2.2;have:=tC.out;simp [Sk.partsT] at *;omega)] at h1;have h2:=Sk.need_3 h1;simp only [HL.out,fH.out,fy.out,hJ.out,eW.out,dU.out] at h2;exact h2);by_cases fx:tc=1
      case neg=>
       have du:(tc==1)=false:=(by simp [fx]);have bM:(1==tc)=false:=(by simp [Ne.symm fx]);have bh:=zBK (show Sk.fitsR S.V ⟨3,k,(jo:Int),x,A,E⟩=false from Bool.eq_false_iff.2 (fun bj=>absurd (cy.out bj) (by omega)));go_wp2;go_ret;exact ⟨false,rfl,bh.out,b1.trans (B5.mono b1.size)⟩
      case pos=>
       subst fx;by_cases da:e0=ta
       case neg=>
        have du:(e0==ta)=false:=(by simp [da]);have bM:(ta==e0)=false:=(by simp [Ne.symm da]);have bh:=zBK (show Sk.fitsR S.V ⟨3,k,(jo:Int),x,A,E⟩=false from Bool.eq_false_iff.2 (fun bj=>absurd (cy.out bj) (by omega)));go_wp2;go_ret;exact ⟨false,rfl,bh.out,b1.trans (B5.mono b1.size)⟩
       case pos=>
        subst da;by_cases aY:oe=tb
        case neg=>
         have du:(oe==tb)=false:=(by simp [aY]);have bM:(tb==oe)=false:=(by simp [Ne.symm aY]);have bh:=zBK (show Sk.fitsR S.V ⟨3,k,(jo:Int),x,A,E⟩=false from Bool.eq_false_iff.2 (fun bj=>absurd (cy.out bj) (by omega)));go_wp2;go_ret;exact ⟨false,rfl,bh.out,b1.trans (B5.mono b1.size)⟩
        case pos=>
         subst aY;by_cases bm:on=m0
         case neg=>
          have du:(on==m0)=false:=(by simp [bm]);have bM:(m0==on)=false:=(by simp [Ne.symm bm]);have bh:=zBK (show Sk.fitsR S.V ⟨3,k,(jo:Int),x,A,E⟩=false from Bool.eq_false_iff.2 (fun bj=>absurd (cy.out bj) (by omega)));go_wp2;go_ret;exact ⟨false,rfl,bh.out,b1.trans (B5.mono b1.size)⟩
         case pos=>
          subst bm;have gd:=zBK (show Sk.fitsR S.V ⟨3,k,(jo:Int),x,A,E⟩=true from Sk.fitsR_of (by decide) (Sk.fits_3 (by rw [HL.out,Sk.list1 (l:=L) (by have:=lU.out.2.2;have:=tC.out;simp [Sk.partsT] at *;omega),fH.out,eW.out];exact Sk.operates_1 dU.out rfl rfl)));go_wp2;go_ret;exact ⟨true,rfl,gd.out,b1.trans (B5.mono b1.size)⟩
     case neg=>
      by_cases h4:op=4
      case pos=>
       as_aux_lemma=>
       subst h4;have cy:=zBK (show Sk.fitsR S.V ⟨4,k,(jo:Int),x,A,E⟩=true->tc=2/\e0=ta/\e1=ta/\m1=m0/\oe=tb/\on=m0 from fun h=>by have h1:=Sk.needR (by decide) h;rw [HL.out,Sk.list2 (l:=L) (by have:=lU.out.2.2;have:=tC.out;simp [Sk.partsT] at *;omega)] at h1;have h2:=Sk.need_4 h1;simp only [HL.out,fH.out,fy.out,hJ.out,eW.out,dU.out] at h2;exact h2);by_cases iK:tc=2
       case neg=>
        have du:(tc==2)=false:=(by simp [iK]);have bM:(2==tc)=false:=(by simp [Ne.symm iK]);have bh:=zBK (show Sk.fitsR S.V ⟨4,k,(jo:Int),x,A,E⟩=false from Bool.eq_false_iff.2 (fun bj=>absurd (cy.out bj) (by omega)));go_wp2;go_ret;exact ⟨false,rfl,bh.out,b1.trans (B5.mono b1.size)⟩
       case pos=>
        subst iK;by_cases gz:e0=ta
        case neg=>
         have du:(e0==ta)=false:=(by simp [gz]);have bM:(ta==e0)=false:=(by simp [Ne.symm gz]);have bh:=zBK (show Sk.fitsR S.V ⟨4,k,(jo:Int),x,A,E⟩=false from Bool.eq_false_iff.2 (fun bj=>absurd (cy.out bj) (by omega)));go_wp2;go_ret;exact ⟨false,rfl,bh.out,b1.trans (B5.mono b1.size)⟩
        case pos=>
         subst gz;by_cases fx:e1=e0
         case neg=>
          have du:(e1==e0)=false:=(by simp [fx]);have bM:(e0==e1)=false:=(by simp [Ne.symm fx]);have bh:=zBK (show Sk.fitsR S.V ⟨4,k,(jo:Int),x,A,E⟩=false from Bool.eq_false_iff.2 (fun bj=>absurd (cy.out bj) (by omega)));go_wp2;go_ret;exact ⟨false,rfl,bh.out,b1.trans (B5.mono b1.size)⟩
         case pos=>
          subst fx;by_cases da:m1=m0
          case neg=>
           have du:(m1==m0)=false:=(by simp [da]);have bM:(m0==m1)=false:=(by simp [Ne.symm da]);have bh:=zBK (show Sk.fitsR S.V ⟨4,k,(jo:Int),x,A,E⟩=false from Bool.eq_false_iff.2 (fun bj=>absurd (cy.out bj) (by omega)));go_wp2;go_ret;exact ⟨false,rfl,bh.out,b1.trans (B5.mono b1.size)⟩
          case pos=>
           subst da;by_cases aY:oe=tb
           case neg=>
            have du:(oe==tb)=false:=(by simp [aY]);have bM:(tb==oe)=false:=(by simp [Ne.symm aY]);have bh:=zBK (show Sk.fitsR S.V ⟨4,k,(jo:Int),x,A,E⟩=false from Bool.eq_false_iff.2 (fun bj=>absurd (cy.out bj) (by omega)));go_wp2;go_ret;exact ⟨false,rfl,bh.out,b1.trans (B5.mono b1.size)⟩
           case pos=>
            subst aY;by_cases bm:on=m1
            case neg=>
             have du:(on==m1)=false:=(by simp [bm]);have bM:(m1==on)=false:=(by simp [Ne.symm bm]);have bh:=zBK (show Sk.fitsR S.V ⟨4,k,(jo:Int),x,A,E⟩=false from Bool.eq_false_iff.2 (fun bj=>absurd (cy.out bj) (by omega)));go_wp2;go_ret;exact ⟨false,rfl,bh.out,b1.trans (B5.mono b1.size)⟩
            case pos=>
             subst bm;have gd:=zBK (show Sk.fitsR S.V ⟨4,k,(jo:Int),x,A,E⟩=true from Sk.fitsR_of (by decide) (Sk.fits_4 (by rw [HL.out,Sk.list2 (l:=L) (by have:=lU.out.2.2;have:=tC.out;simp [Sk.partsT] at *;omega),fH.out,fy.out,eW.out];exact Sk.operates_2 dU.out rfl rfl rfl)));go_wp2;go_ret;exact ⟨true,rfl,gd.out,b1.trans (B5.mono b1.size)⟩
      case neg=>
       by_cases h5:op=5
       case pos=>
        as_aux_lemma=>
        subst h5;have cy:=zBK (show Sk.fitsR S.V ⟨5,k,(jo:Int),x,A,E⟩=true->e0=98/\m0=0/\e1=e2/\m1=m2/\oe=e1/\on=m1 from fun h=>by have h2:=Sk.need_5 (Sk.needR (by decide) h);simp only [HL.out,fH.out,fy.out,hJ.out,eW.out,dU.out] at h2;exact h2);by_cases iK:e0=98
        case neg=>
         have du:(e0==98)=false:=(by simp [iK]);have bM:(98==e0)=false:=(by simp [Ne.symm iK]);have bh:=zBK (show Sk.fitsR S.V ⟨5,k,(jo:Int),x,A,E⟩=false from Bool.eq_false_iff.2 (fun bj=>absurd (cy.out bj) (by omega)));go_wp2;go_ret;exact ⟨false,rfl,bh.out,b1.trans (B5.mono b1.size)⟩
        case pos=>
         subst iK;by_cases gz:m0=0
         case neg=>
          have du:(m0==0)=false:=(by simp [gz]);have bM:(0==m0)=false:=(by simp [Ne.symm gz]);have bh:=zBK (show Sk.fitsR S.V ⟨5,k,(jo:Int),x,A,E⟩=false from Bool.eq_false_iff.2 (fun bj=>absurd (cy.out bj) (by omega)));go_wp2;go_ret;exact ⟨false,rfl,bh.out,b1.trans (B5.mono b1.size)⟩
         case pos=>
          subst gz;by_cases fx:e1=oe
          case neg=>
           have du:(e1==oe)=false:=(by simp [fx]);have bM:(oe==e1)=false:=(by simp [Ne.symm fx]);have bh:=zBK (show Sk.fitsR S.V ⟨5,k,(jo:Int),x,A,E⟩=false from Bool.eq_false_iff.2 (fun bj=>absurd (cy.out bj) (by omega)));go_wp2;go_ret;exact ⟨false,rfl,bh.out,b1.trans (B5.mono b1.size)⟩
          case pos=>
           subst fx;by_cases da:m1=on
           case neg=>
            have du:(m1==on)=false:=(by simp [da]);have bM:(on==m1)=false:=(by simp [Ne.symm da]);have bh:=zBK (show Sk.fitsR S.V ⟨5,k,(jo:Int),x,A,E⟩=false from Bool.eq_false_iff.2 (fun bj=>absurd (cy.out bj) (by omega)));go_wp2;go_ret;exact ⟨false,rfl,bh.out,b1.trans (B5.mono b1.size)⟩
           case pos=>
            subst da;by_cases aY:e2=e1
            case neg=>
             have du:(e2==e1)=false:=(by simp [aY]);have bM:(e1==e2)=false:=(by simp [Ne.symm aY]);have bh:=zBK (show Sk.fitsR S.V ⟨5,k,(jo:Int),x,A,E⟩=false from Bool.eq_false_iff.2 (fun bj=>absurd (cy.out bj) (by omega)));go_wp2;go_ret;exact ⟨false,rfl,bh.out,b1.trans (B5.mono b1.size)⟩
            case pos=>
             subst aY;by_cases bm:m2=m1
             case neg=>
              have du:(m2==m1)=false:=(by simp [bm]);have bM:(m1==m2)=false:=(by simp [Ne.symm bm]);have bh:=zBK (show Sk.fitsR S.V ⟨5,k,(jo:Int),x,A,E⟩=false from Bool.eq_false_iff.2 (fun bj=>absurd (cy.out bj) (by omega)));go_wp2;go_ret;exact ⟨false,rfl,bh.out,b1.trans (B5.mono b1.size)⟩
             case pos=>
              subst bm;have gd:=zBK (show Sk.fitsR S.V ⟨5,k,(jo:Int),x,A,E⟩=true from Sk.fitsR_of (by decide) (Sk.fits_5 (by rw [HL.out,fH.out];rfl) (by rw [HL.out,fy.out,eW.out]) (by rw [HL.out,hJ.out,eW.out])));go_wp2;go_ret;exact ⟨true,rfl,gd.out,b1.trans (B5.mono b1.size)⟩
       case neg=>
        by_cases h6:op=6
        case pos=>
         as_aux_lemma=>
         subst h6;have cy:=zBK (show Sk.fitsR S.V ⟨6,k,(jo:Int),x,A,E⟩=true->e0=ta/\m0=0/\0<m1/\e1=e0/\oe=e0/\on=m0 from fun h=>by have h2:=Sk.need_6 (Sk.needR (by decide) h);simp only [HL.out,fH.out,fy.out,hJ.out,eW.out,dU.out] at h2;exact h2.2);have vg:=zBK (show Sk.fitsR S.V ⟨6,k,(jo:Int),x,A,E⟩=true->Kd.folds k=true from fun h=>(Sk.need_6 (Sk.needR (by decide) h)).1);have il:=zCE k;obtain ⟨qf,j6⟩:=nmQ (Kd.folds k);rw [<-j6] at il;have mj:=zBK j6.symm;clear j6;go_wp2_with fail;refine (il _).mono ?_;rintro e w9 ⟨rfl,b9⟩;clear il;clear s0 s1 s2 s3 r0 r1 r3 r5 o0 o1 a0 a1 a2 a3 a4 a5 p0 p1;have B9:=B5.trans (b9.mono B5.size);have qz:=(b9.block _ (zBM oQ)).trans oQ;have iB:=(b9.block _ (zBM mF)).trans mF;have qy:=(b9.block _ (zBM kN)).trans kN;have ji:=(B9.block _ jD).trans kS;have kL:=(B9.block _ yd).trans kR;have s0:=coQ ji 0;have s1:=coQ ji 1;have s2:=coQ ji 2;have s3:=coQ ji 3;have r0:=coQ kL 0;have r1:=coQ kL 1;have r3:=coQ kL 3;have r5:=coQ kL 5;have o0:=coQ qz 0;have o1:=coQ qz 1;have a0:=coQ iB 0;have a1:=coQ iB 1;have a2:=coQ iB 2;have a3:=coQ iB 3;have a4:=coQ iB 4;have a5:=coQ iB 5;have p0:=coQ qy 0;have p1:=coQ qy 1;simp at s0 s1 s2 s3 r0 r1 r3 r5 o0 o1 a0 a1 a2 a3 a4 a5 p0 p1
         cases qf
         case false=>
          have bh:=zBK (show Sk.fitsR S.V ⟨6,k,(jo:Int),x,A,E⟩=false from Bool.eq_false_iff.2 (fun bj=>by have h:=vg.out bj;rw [mj.out] at h;cases h));go_wp2;go_ret;exact ⟨false,rfl,bh.out,b1.trans (B9.mono b1.size)⟩
         case true=>
          by_cases iK:e0=ta
          case neg=>
           have du:(e0==ta)=false:=(by simp [iK]);have bM:(ta==e0)=false:=(by simp [Ne.symm iK]);have bh:=zBK (show Sk.fitsR S.V ⟨6,k,(jo:Int),x,A,E⟩=false from Bool.eq_false_iff.2 (fun bj=>absurd (cy.out bj) (by omega)));go_wp2;go_ret;exact ⟨false,rfl,bh.out,b1.trans (B9.mono b1.size)⟩
          case pos=>
           subst iK;by_cases gz:m0=0
           case neg=>
            have du:(m0==0)=false:=(by simp [gz]);have bM:(0==m0)=false:=(by simp [Ne.symm gz]);have bh:=zBK (show Sk.fitsR S.V ⟨6,k,(jo:Int),x,A,E⟩=false from Bool.eq_false_iff.2 (fun bj=>absurd (cy.out bj) (by omega)));go_wp2;go_ret;exact ⟨false,rfl,bh.out,b1.trans (B9.mono b1.size)⟩
           case pos=>
            subst gz;by_cases fM:m1>0
            case neg=>
             have du:decide (m1>0)=false:=(by simp;omega);have bh:=zBK (show Sk.fitsR S.V ⟨6,k,(jo:Int),x,A,E⟩=false from Bool.eq_false_iff.2 (fun bj=>absurd (cy.out bj) (by omega)));go_wp2;go_ret;exact ⟨false,rfl,bh.out,b1.trans (B9.mono b1.size)⟩
            case pos=>
             by_cases da:e1=e0
             case neg=>
              have du:(e1==e0)=false:=(by simp [da]);have bM:(e0==e1)=false:=(by simp [Ne.symm da]);have bh:=zBK (show Sk.fitsR S.V ⟨6,k,(jo:Int),x,A,E⟩=false from Bool.eq_false_iff.2 (fun bj=>absurd (cy.out bj) (by omega)));go_wp2;go_ret;exact ⟨false,rfl,bh.out,b1.trans (B9.mono b1.size)⟩
             case pos=>
              subst da;by_cases aY:oe=e1
              case neg=>
               have du:(oe==e1)=false:=(by simp [aY]);have bM:(e1==oe)=false:=(by simp [Ne.symm aY]);have bh:=zBK (show Sk.fitsR S.V ⟨6,k,(jo:Int),x,A,E⟩=false from Bool.eq_false_iff.2 (fun bj=>absurd (cy.out bj) (by omega)));go_wp2;go_ret;exact ⟨false,rfl,bh.out,b1.trans (B9.mono b1.size)⟩
              case pos=>
               subst aY;by_cases bm:on=0
               case neg=>
                have du:(on==0)=false:=(by simp [bm]);have bM:(0==on)=false:=(by simp [Ne.symm bm]);have bh:=zBK (show Sk.fitsR S.V ⟨6,k,(jo:Int),x,A,E⟩=false from Bool.eq_false_iff.2 (fun bj=>absurd (cy.out bj) (by omega)));go_wp2;go_ret;exact ⟨false,rfl,bh.out,b1.trans (B9.mono b1.size)⟩
               case pos=>
                subst bm;have gd:=zBK (show Sk.fitsR S.V ⟨6,k,(jo:Int),x,A,E⟩=true from Sk.fitsR_of (by decide) (Sk.fits_6 mj.out (by rw [HL.out,fH.out,dU.out];rfl) (by rw [HL.out,fy.out];exact fM) (by rw [HL.out,fy.out,dU.out]) (by rw [HL.out,fH.out,eW.out])));go_wp2;go_ret;exact ⟨true,rfl,gd.out,b1.trans (B9.mono b1.size)⟩
        case neg=>
         by_cases h7:op=7
         case pos=>
          as_aux_lemma=>
          subst h7;have cy:=zBK (show Sk.fitsR S.V ⟨7,k,(jo:Int),x,A,E⟩=true->e0=ta/\m0=0/\0<m1/\e1=e0/\oe=e1/\on=m1 from fun h=>by have h2:=Sk.need_7 (Sk.needR (by decide) h);simp only [HL.out,fH.out,fy.out,hJ.out,eW.out,dU.out] at h2;exact h2.2);have vg:=zBK (show Sk.fitsR S.V ⟨7,k,(jo:Int),x,A,E⟩=true->Kd.folds k=true from fun h=>(Sk.need_7 (Sk.needR (by decide) h)).1);have il:=zCE k;obtain ⟨qf,j6⟩:=nmQ (Kd.folds k);rw [<-j6] at il;have mj:=zBK j6.symm;clear j6;go_wp2_with fail;refine (il _).mono ?_;rintro e w9 ⟨rfl,b9⟩;clear il;clear s0 s1 s2 s3 r0 r1 r3 r5 o0 o1 a0 a1 a2 a3 a4 a5 p0 p1;have B9:=B5.trans (b9.mono B5.size);have qz:=(b9.block _ (zBM oQ)).trans oQ;have iB:=(b9.block _ (zBM mF)).trans mF;have qy:=(b9.block _ (zBM kN)).trans kN;have ji:=(B9.block _ jD).trans kS;have kL:=(B9.block _ yd).trans kR;have s0:=coQ ji 0;have s1:=coQ ji 1;have s2:=coQ ji 2;have s3:=coQ ji 3;have r0:=coQ kL 0;have r1:=coQ kL 1;have r3:=coQ kL 3;have r5:=coQ kL 5;have o0:=coQ qz 0;have o1:=coQ qz 1;have a0:=coQ iB 0;have a1:=coQ iB 1;have a2:=coQ iB 2;have a3:=coQ iB 3;have a4:=coQ iB 4;have a5:=coQ iB 5;have p0:=coQ qy 0;have p1:=coQ qy 1;simp at s0 s1 s2 s3 r0 r1 r3 r5 o0 o1 a0 a1 a2 a3 a4 a5 p0 p1
          cases qf
          case false=>
           have bh:=zBK (show Sk.fitsR S.V ⟨7,k,(jo:Int),x,A,E⟩=false from Bool.eq_false_iff.2 (fun bj=>by have h:=vg.out bj;rw [mj.out] at h;cases h));go_wp2;go_ret;exact ⟨false,rfl,bh.out,b1.trans (B9.mono b1.size)⟩
          case true=>
           by_cases iK:e0=ta
           case neg=>
            have du:(e0==ta)=false:=(by simp [iK]);have bM:(ta==e0)=false:=(by simp [Ne.symm iK]);have bh:=zBK (show Sk.fitsR S.V ⟨7,k,(jo:Int),x,A,E⟩=false from Bool.eq_false_iff.2 (fun bj=>absurd (cy.out bj) (by omega)));go_wp2;go_ret;exact ⟨false,rfl,bh.out,b1.trans (B9.mono b1.size)⟩
           case pos=>
            subst iK;by_cases gz:m0=0
            case neg=>
             have du:(m0==0)=false:=(by simp [gz]);have bM:(0==m0)=false:=(by simp [Ne.symm gz]);have bh:=zBK (show Sk.fitsR S.V ⟨7,k,(jo:Int),x,A,E⟩=false from Bool.eq_false_iff.2 (fun bj=>absurd (cy.out bj) (by omega)));go_wp2;go_ret;exact ⟨false,rfl,bh.out,b1.trans (B9.mono b1.size)⟩
            case pos=>
             subst gz;by_cases fM:m1>0
             case neg=>
              have du:decide (m1>0)=false:=(by simp;omega);have bh:=zBK (show Sk.fitsR S.V ⟨7,k,(jo:Int),x,A,E⟩=false from Bool.eq_false_iff.2 (fun bj=>absurd (cy.out bj) (by omega)));go_wp2;go_ret;exact ⟨false,rfl,bh.out,b1.trans (B9.mono b1.size)⟩
             case pos=>
              by_cases da:e1=e0
              case neg=>
               have du:(e1==e0)=false:=(by simp [da]);have bM:(e0==e1)=false:=(by simp [Ne.symm da]);have bh:=zBK (show Sk.fitsR S.V ⟨7,k,(jo:Int),x,A,E⟩=false from Bool.eq_false_iff.2 (fun bj=>absurd (cy.out bj) (by omega)));go_wp2;go_ret;exact ⟨false,rfl,bh.out,b1.trans (B9.mono b1.size)⟩
              case pos=>
               subst da;by_cases aY:oe=e1
               case neg=>
                have du:(oe==e1)=false:=(by simp [aY]);have bM:(e1==oe)=false:=(by simp [Ne.symm aY]);have bh:=zBK (show Sk.fitsR S.V ⟨7,k,(jo:Int),x,A,E⟩=false from Bool.eq_false_iff.2 (fun bj=>absurd (cy.out bj) (by omega)));go_wp2;go_ret;exact ⟨false,rfl,bh.out,b1.trans (B9.mono b1.size)⟩
               case pos=>
                subst aY;by_cases bm:on=m1
                case neg=>
                 have du:(on==m1)=false:=(by simp [bm]);have bM:(m1==on)=false:=(by simp [Ne.symm bm]);have bh:=zBK (show Sk.fitsR S.V ⟨7,k,(jo:Int),x,A,E⟩=false from Bool.eq_false_iff.2 (fun bj=>absurd (cy.out bj) (by omega)));go_wp2;go_ret;exact ⟨false,rfl,bh.out,b1.trans (B9.mono b1.size)⟩
                case pos=>
                 subst bm;have gd:=zBK (show Sk.fitsR S.V ⟨7,k,(jo:Int),x,A,E⟩=true from Sk.fitsR_of (by decide) (Sk.fits_7 mj.out (by rw [HL.out,fH.out,dU.out];rfl) (by rw [HL.out,fy.out];exact fM) (by rw [HL.out,fy.out,dU.out]) (by rw [HL.out,fy.out,eW.out])));go_wp2;go_ret;exact ⟨true,rfl,gd.out,b1.trans (B9.mono b1.size)⟩
         case neg=>
          by_cases h8:op=8
          case pos=>
           as_aux_lemma=>
           subst h8;have cy:=zBK (show Sk.fitsR S.V ⟨8,k,(jo:Int),x,A,E⟩=true->0<on/\oe=e0/\m0=0 from fun h=>by have h2:=Sk.need_8 (Sk.needR (by decide) h);simp only [HL.out,fH.out,fy.out,hJ.out,eW.out,dU.out] at h2;exact h2);by_cases da:m0=0
           case neg=>
            have du:(m0==0)=false:=(by simp [da]);have bM:(0==m0)=false:=(by simp [Ne.symm da]);have bh:=zBK (show Sk.fitsR S.V ⟨8,k,(jo:Int),x,A,E⟩=false from Bool.eq_false_iff.2 (fun bj=>absurd (cy.out bj) (by omega)));go_wp2;go_ret;exact ⟨false,rfl,bh.out,b1.trans (B5.mono b1.size)⟩
           case pos=>
            subst da;by_cases hon:on>0
            case neg=>
             have du:decide (on>0)=false:=(by simp;omega);have bh:=zBK (show Sk.fitsR S.V ⟨8,k,(jo:Int),x,A,E⟩=false from Bool.eq_false_iff.2 (fun bj=>absurd (cy.out bj) (by omega)));go_wp2;go_ret;exact ⟨false,rfl,bh.out,b1.trans (B5.mono b1.size)⟩
            case pos=>
             by_cases bm:oe=e0
             case neg=>
              have du:(oe==e0)=false:=(by simp [bm]);have bM:(e0==oe)=false:=(by simp [Ne.symm bm]);have bh:=zBK (show Sk.fitsR S.V ⟨8,k,(jo:Int),x,A,E⟩=false from Bool.eq_false_iff.2 (fun bj=>absurd (cy.out bj) (by omega)));go_wp2;go_ret;exact ⟨false,rfl,bh.out,b1.trans (B5.mono b1.size)⟩
             case pos=>
              subst bm;have gd:=zBK (show Sk.fitsR S.V ⟨8,k,(jo:Int),x,A,E⟩=true from Sk.fitsR_of (by decide) (Sk.fits_8 (by rw [HL.out,fH.out]) (by rw [eW.out];exact hon) (by rw [HL.out,fH.out,eW.out])));go_wp2;go_ret;exact ⟨true,rfl,gd.out,b1.trans (B5.mono b1.size)⟩
          case neg=>
           by_cases h9:op=9
           case pos=>
            as_aux_lemma=>
            subst h9;have cy:=zBK (show Sk.fitsR S.V ⟨9,k,(jo:Int),x,A,E⟩=true->0<m0/\e0=e2/\m2=0/\e1=105/\m1=0/\oe=e2/\on=m2 from fun h=>by have h2:=Sk.need_9 (Sk.needR (by decide) h);simp only [HL.out,fH.out,fy.out,hJ.out,eW.out,dU.out] at h2;exact h2);by_cases qi:m0>0
            case neg=>
             have du:decide (m0>0)=false:=(by simp;omega);have bh:=zBK (show Sk.fitsR S.V ⟨9,k,(jo:Int),x,A,E⟩=false from Bool.eq_false_iff.2 (fun bj=>absurd (cy.out bj) (by omega)));go_wp2;go_ret;exact ⟨false,rfl,bh.out,b1.trans (B5.mono b1.size)⟩
            case pos=>
             by_cases iK:e1=105
             case neg=>
              have du:(e1==105)=false:=(by simp [iK]);have bM:(105==e1)=false:=(by simp [Ne.symm iK]);have bh:=zBK (show Sk.fitsR S.V ⟨9,k,(jo:Int),x,A,E⟩=false from Bool.eq_false_iff.2 (fun bj=>absurd (cy.out bj) (by omega)));go_wp2;go_ret;exact ⟨false,rfl,bh.out,b1.trans (B5.mono b1.size)⟩
             case pos=>
              subst iK;by_cases gz:m1=0
              case neg=>
               have du:(m1==0)=false:=(by simp [gz]);have bM:(0==m1)=false:=(by simp [Ne.symm gz]);have bh:=zBK (show Sk.fitsR S.V ⟨9,k,(jo:Int),x,A,E⟩=false from Bool.eq_false_iff.2 (fun bj=>absurd (cy.out bj) (by omega)));go_wp2;go_ret;exact ⟨false,rfl,bh.out,b1.trans (B5.mono b1.size)⟩
              case pos=>
               subst gz;by_cases fx:e2=e0
               case neg=>
                have du:(e2==e0)=false:=(by simp [fx]);have bM:(e0==e2)=false:=(by simp [Ne.symm fx]);have bh:=zBK (show Sk.fitsR S.V ⟨9,k,(jo:Int),x,A,E⟩=false from Bool.eq_false_iff.2 (fun bj=>absurd (cy.out bj) (by omega)));go_wp2;go_ret;exact ⟨false,rfl,bh.out,b1.trans (B5.mono b1.size)⟩
               case pos=>
                subst fx;by_cases da:m2=0
                case neg=>
                 have du:(m2==0)=false:=(by simp [da]);have bM:(0==m2)=false:=(by simp [Ne.symm da]);have bh:=zBK (show Sk.fitsR S.V ⟨9,k,(jo:Int),x,A,E⟩=false from Bool.eq_false_iff.2 (fun bj=>absurd (cy.out bj) (by omega)));go_wp2;go_ret;exact ⟨false,rfl,bh.out,b1.trans (B5.mono b1.size)⟩
                case pos=>
                 subst da;by_cases aY:oe=e2
                 case neg=>
                  have du:(oe==e2)=false:=(by simp [aY]);have bM:(e2==oe)=false:=(by simp [Ne.symm aY]);have bh:=zBK (show Sk.fitsR S.V ⟨9,k,(jo:Int),x,A,E⟩=false from Bool.eq_false_iff.2 (fun bj=>absurd (cy.out bj) (by omega)));go_wp2;go_ret;exact ⟨false,rfl,bh.out,b1.trans (B5.mono b1.size)⟩
                 case pos=>
                  subst aY;by_cases bm:on=0
                  case neg=>
                   have du:(on==0)=false:=(by simp [bm]);have bM:(0==on)=false:=(by simp [Ne.symm bm]);have bh:=zBK (show Sk.fitsR S.V ⟨9,k,(jo:Int),x,A,E⟩=false from Bool.eq_false_iff.2 (fun bj=>absurd (cy.out bj) (by omega)));go_wp2;go_ret;exact ⟨false,rfl,bh.out,b1.trans (B5.mono b1.size)⟩
                  case pos=>
                   subst bm;have gd:=zBK (show Sk.fitsR S.V ⟨9,k,(jo:Int),x,A,E⟩=true from Sk.fitsR_of (by decide) (Sk.fits_9 (by rw [HL.out,fH.out];exact qi) (by rw [HL.out,fy.out];rfl) (by rw [HL.out,fH.out,hJ.out];rfl) (by rw [HL.out,hJ.out,eW.out])));go_wp2;go_ret;exact ⟨true,rfl,gd.out,b1.trans (B5.mono b1.size)⟩
           case neg=>
            by_cases h10:op=10
            case pos=>
             as_aux_lemma=>
             subst h10;have cy:=zBK (show Sk.fitsR S.V ⟨10,k,(jo:Int),x,A,E⟩=true->0<m0/\e0=e2/\m2=0/\e1=105/\m1=0/\oe=e0/\on=m0 from fun h=>by have h2:=Sk.need_10 (Sk.needR (by decide) h);simp only [HL.out,fH.out,fy.out,hJ.out,eW.out,dU.out] at h2;exact h2);by_cases qi:m0>0
             case neg=>
              have du:decide (m0>0)=false:=(by simp;omega);have bh:=zBK (show Sk.fitsR S.V ⟨10,k,(jo:Int),x,A,E⟩=false from Bool.eq_false_iff.2 (fun bj=>absurd (cy.out bj) (by omega)));go_wp2;go_ret;exact ⟨false,rfl,bh.out,b1.trans (B5.mono b1.size)⟩
             case pos=>
              by_cases iK:e1=105
              case neg=>
               have du:(e1==105)=false:=(by simp [iK]);have bM:(105==e1)=false:=(by simp [Ne.symm iK]);have bh:=zBK (show Sk.fitsR S.V ⟨10,k,(jo:Int),x,A,E⟩=false from Bool.eq_false_iff.2 (fun bj=>absurd (cy.out bj) (by omega)));go_wp2;go_ret;exact ⟨false,rfl,bh.out,b1.trans (B5.mono b1.size)⟩
              case pos=>
               subst iK;by_cases gz:m1=0
               case neg=>
                have du:(m1==0)=false:=(by simp [gz]);have bM:(0==m1)=false:=(by simp [Ne.symm gz]);have bh:=zBK (show Sk.fitsR S.V ⟨10,k,(jo:Int),x,A,E⟩=false from Bool.eq_false_iff.2 (fun bj=>absurd (cy.out bj) (by omega)));go_wp2;go_ret;exact ⟨false,rfl,bh.out,b1.trans (B5.mono b1.size)⟩
               case pos=>
                subst gz;by_cases fx:e2=e0
                case neg=>
                 have du:(e2==e0)=false:=(by simp [fx]);have bM:(e0==e2)=false:=(by simp [Ne.symm fx]);have bh:=zBK (show Sk.fitsR S.V ⟨10,k,(jo:Int),x,A,E⟩=false from Bool.eq_false_iff.2 (fun bj=>absurd (cy.out bj) (by omega)));go_wp2;go_ret;exact ⟨false,rfl,bh.out,b1.trans (B5.mono b1.size)⟩
                case pos=>
                 subst fx;by_cases da:m2=0
                 case neg=>
                  have du:(m2==0)=false:=(by simp [da]);have bM:(0==m2)=false:=(by simp [Ne.symm da]);have bh:=zBK (show Sk.fitsR S.V ⟨10,k,(jo:Int),x,A,E⟩=false from Bool.eq_false_iff.2 (fun bj=>absurd (cy.out bj) (by omega)));go_wp2;go_ret;exact ⟨false,rfl,bh.out,b1.trans (B5.mono b1.size)⟩
                 case pos=>
                  subst da;by_cases aY:oe=e2
                  case neg=>
                   have du:(oe==e2)=false:=(by simp [aY]);have bM:(e2==oe)=false:=(by simp [Ne.symm aY]);have bh:=zBK (show Sk.fitsR S.V ⟨10,k,(jo:Int),x,A,E⟩=false from Bool.eq_false_iff.2 (fun bj=>absurd (cy.out bj) (by omega)));go_wp2;go_ret;exact ⟨false,rfl,bh.out,b1.trans (B5.mono b1.size)⟩
                  case pos=>
                   subst aY;by_cases bm:on=m0
                   case neg=>
                    have du:(on==m0)=false:=(by simp [bm]);have bM:(m0==on)=false:=(by simp [Ne.symm bm]);have bh:=zBK (show Sk.fitsR S.V ⟨10,k,(jo:Int),x,A,E⟩=false from Bool.eq_false_iff.2 (fun bj=>absurd (cy.out bj) (by omega)));go_wp2;go_ret;exact ⟨false,rfl,bh.out,b1.trans (B5.mono b1.size)⟩
                   case pos=>
                    subst bm;have gd:=zBK (show Sk.fitsR S.V ⟨10,k,(jo:Int),x,A,E⟩=true from Sk.fitsR_of (by decide) (Sk.fits_10 (by rw [HL.out,fH.out];exact qi) (by rw [HL.out,fy.out];rfl) (by rw [HL.out,fH.out,hJ.out];rfl) (by rw [HL.out,fH.out,eW.out])));go_wp2;go_ret;exact ⟨true,rfl,gd.out,b1.trans (B5.mono b1.size)⟩
            case neg=>
             by_cases pL:op=11
             case pos=>
              as_aux_lemma=>
              subst pL;have cy:=zBK (show Sk.fitsR S.V ⟨11,k,(jo:Int),x,A,E⟩=true->0<m0/\0<on/\oe=e0/\0<=x/\x<=m0-on from fun h=>by have h2:=Sk.need_11 (Sk.needR (by decide) h);simp only [HL.out,fH.out,fy.out,hJ.out,eW.out,dU.out] at h2;exact h2);by_cases hon:on>0
              case neg=>
               have du:decide (on>0)=false:=(by simp;omega);have bh:=zBK (show Sk.fitsR S.V ⟨11,k,(jo:Int),x,A,E⟩=false from Bool.eq_false_iff.2 (fun bj=>absurd (cy.out bj) (by omega)));go_wp2;go_ret;exact ⟨false,rfl,bh.out,b1.trans (B5.mono b1.size)⟩
              case pos=>
               by_cases qi:m0>0
               case neg=>
                have du:decide (m0>0)=false:=(by simp;omega);have bh:=zBK (show Sk.fitsR S.V ⟨11,k,(jo:Int),x,A,E⟩=false from Bool.eq_false_iff.2 (fun bj=>absurd (cy.out bj) (by omega)));go_wp2;go_ret;exact ⟨false,rfl,bh.out,b1.trans (B5.mono b1.size)⟩
               case pos=>
                by_cases fx:oe=e0
                case neg=>
                 have du:(oe==e0)=false:=(by simp [fx]);have bM:(e0==oe)=false:=(by simp [Ne.symm fx]);have bh:=zBK (show Sk.fitsR S.V ⟨11,k,(jo:Int),x,A,E⟩=false from Bool.eq_false_iff.2 (fun bj=>absurd (cy.out bj) (by omega)));go_wp2;go_ret;exact ⟨false,rfl,bh.out,b1.trans (B5.mono b1.size)⟩
                case pos=>
                 subst fx;by_cases hx:x≥0
                 case neg=>
                  have du:decide (x≥0)=false:=(by simp;omega);have bh:=zBK (show Sk.fitsR S.V ⟨11,k,(jo:Int),x,A,E⟩=false from Bool.eq_false_iff.2 (fun bj=>absurd (cy.out bj) (by omega)));go_wp2;go_ret;exact ⟨false,rfl,bh.out,b1.trans (B5.mono b1.size)⟩
                 case pos=>
                  by_cases hom:on<=m0
                  case neg=>
                   have du:decide (on<=m0)=false:=(by simp;omega);have bh:=zBK (show Sk.fitsR S.V ⟨11,k,(jo:Int),x,A,E⟩=false from Bool.eq_false_iff.2 (fun bj=>absurd (cy.out bj) (by omega)));go_wp2;go_ret;exact ⟨false,rfl,bh.out,b1.trans (B5.mono b1.size)⟩
                  case pos=>
                   by_cases ry:x<=m0-on
                   case neg=>
                    have du:decide (x<=m0-on)=false:=(by simp;omega);have bh:=zBK (show Sk.fitsR S.V ⟨11,k,(jo:Int),x,A,E⟩=false from Bool.eq_false_iff.2 (fun bj=>absurd (cy.out bj) (by omega)));go_wp2;go_ret;exact ⟨false,rfl,bh.out,b1.trans (B5.mono b1.size)⟩
                   case pos=>
                    have gd:=zBK (show Sk.fitsR S.V ⟨11,k,(jo:Int),x,A,E⟩=true from Sk.fitsR_of (by decide) (Sk.fits_11 (by rw [eW.out];exact hon) (by rw [HL.out,fH.out];exact qi) (by rw [HL.out,fH.out,eW.out]) hx (by rw [HL.out,fH.out,eW.out];exact ry)));go_wp2;go_ret;exact ⟨true,rfl,gd.out,b1.trans (B5.mono b1.size)⟩
             case neg=>
              by_cases h12:op=12
              case pos=>
               as_aux_lemma=>
               subst h12;have cy:=zBK (show Sk.fitsR S.V ⟨12,k,(jo:Int),x,A,E⟩=true->0<m0/\0<m1/\e1=e0/\oe=e0/\on=m0+m1 from fun h=>by have h2:=Sk.need_12 (Sk.needR (by decide) h);simp only [HL.out,fH.out,fy.out,hJ.out,eW.out,dU.out] at h2;exact h2);by_cases qi:m0>0
               case neg=>
                have du:decide (m0>0)=false:=(by simp;omega);have bh:=zBK (show Sk.fitsR S.V ⟨12,k,(jo:Int),x,A,E⟩=false from Bool.eq_false_iff.2 (fun bj=>absurd (cy.out bj) (by omega)));go_wp2;go_ret;exact ⟨false,rfl,bh.out,b1.trans (B5.mono b1.size)⟩
               case pos=>
                by_cases fM:m1>0
                case neg=>
                 have du:decide (m1>0)=false:=(by simp;omega);have bh:=zBK (show Sk.fitsR S.V ⟨12,k,(jo:Int),x,A,E⟩=false from Bool.eq_false_iff.2 (fun bj=>absurd (cy.out bj) (by omega)));go_wp2;go_ret;exact ⟨false,rfl,bh.out,b1.trans (B5.mono b1.size)⟩
                case pos=>
                 by_cases da:e0=e1
                 case neg=>
                  have du:(e0==e1)=false:=(by simp [da]);have bM:(e1==e0)=false:=(by simp [Ne.symm da]);have bh:=zBK (show Sk.fitsR S.V ⟨12,k,(jo:Int),x,A,E⟩=false from Bool.eq_false_iff.2 (fun bj=>absurd (cy.out bj) (by omega)));go_wp2;go_ret;exact ⟨false,rfl,bh.out,b1.trans (B5.mono b1.size)⟩
                 case pos=>
                  subst da;by_cases aY:oe=e0
                  case neg=>
                   have du:(oe==e0)=false:=(by simp [aY]);have bM:(e0==oe)=false:=(by simp [Ne.symm aY]);have bh:=zBK (show Sk.fitsR S.V ⟨12,k,(jo:Int),x,A,E⟩=false from Bool.eq_false_iff.2 (fun bj=>absurd (cy.out bj) (by omega)));go_wp2;go_ret;exact ⟨false,rfl,bh.out,b1.trans (B5.mono b1.size)⟩
                  case pos=>
                   subst aY;by_cases hadd:on=m0+m1
                   case neg=>
                    have bh:=zBK (show Sk.fitsR S.V ⟨12,k,(jo:Int),x,A,E⟩=false from Bool.eq_false_iff.2 (fun bj=>absurd (cy.out bj) (by omega)));go_wp2;go_ret;exact ⟨false,rfl,bh.out,b1.trans (B5.mono b1.size)⟩
                   case pos=>
                    subst hadd;have gd:=zBK (show Sk.fitsR S.V ⟨12,k,(jo:Int),x,A,E⟩=true from Sk.fitsR_of (by decide) (Sk.fits_12 (by rw [HL.out,fH.out];exact qi) (by rw [HL.out,fy.out];exact fM) (by rw [HL.out,fH.out,fy.out]) (by rw [HL.out,fH.out,fy.out,eW.out])));go_wp2;go_ret;exact ⟨true,rfl,gd.out,b1.trans (B5.mono b1.size)⟩
              case neg=>
               by_cases jJ:op=13
               case pos=>
                as_aux_lemma=>
                subst jJ;have cy:=zBK (show Sk.fitsR S.V ⟨13,k,(jo:Int),x,A,E⟩=true->e0=e1/\m0=m1/\oe=e0/\on=m0 from fun h=>by have h2:=Sk.need_13 (Sk.needR (by decide) h);simp only [HL.out,fH.out,fy.out,hJ.out,eW.out,dU.out] at h2;exact h2);by_cases fx:e0=oe
                case neg=>
                 have du:(e0==oe)=false:=(by simp [fx]);have bM:(oe==e0)=false:=(by simp [Ne.symm fx]);have bh:=zBK (show Sk.fitsR S.V ⟨13,k,(jo:Int),x,A,E⟩=false from Bool.eq_false_iff.2 (fun bj=>absurd (cy.out bj) (by omega)));go_wp2;go_ret;exact ⟨false,rfl,bh.out,b1.trans (B5.mono b1.size)⟩
                case pos=>
                 subst fx;by_cases da:m0=on
                 case neg=>
                  have du:(m0==on)=false:=(by simp [da]);have bM:(on==m0)=false:=(by simp [Ne.symm da]);have bh:=zBK (show Sk.fitsR S.V ⟨13,k,(jo:Int),x,A,E⟩=false from Bool.eq_false_iff.2 (fun bj=>absurd (cy.out bj) (by omega)));go_wp2;go_ret;exact ⟨false,rfl,bh.out,b1.trans (B5.mono b1.size)⟩
                 case pos=>
                  subst da;by_cases aY:e1=e0
                  case neg=>
                   have du:(e1==e0)=false:=(by simp [aY]);have bM:(e0==e1)=false:=(by simp [Ne.symm aY]);have bh:=zBK (show Sk.fitsR S.V ⟨13,k,(jo:Int),x,A,E⟩=false from Bool.eq_false_iff.2 (fun bj=>absurd (cy.out bj) (by omega)));go_wp2;go_ret;exact ⟨false,rfl,bh.out,b1.trans (B5.mono b1.size)⟩
                  case pos=>
                   subst aY;by_cases bm:m1=m0
                   case neg=>
                    have du:(m1==m0)=false:=(by simp [bm]);have bM:(m0==m1)=false:=(by simp [Ne.symm bm]);have bh:=zBK (show Sk.fitsR S.V ⟨13,k,(jo:Int),x,A,E⟩=false from Bool.eq_false_iff.2 (fun bj=>absurd (cy.out bj) (by omega)));go_wp2;go_ret;exact ⟨false,rfl,bh.out,b1.trans (B5.mono b1.size)⟩
                   case pos=>
                    subst bm;have gd:=zBK (show Sk.fitsR S.V ⟨13,k,(jo:Int),x,A,E⟩=true from Sk.fitsR_of (by decide) (Sk.fits_13 (by rw [HL.out,fH.out,eW.out]) (by rw [HL.out,fy.out,eW.out])));go_wp2;go_ret;exact ⟨true,rfl,gd.out,b1.trans (B5.mono b1.size)⟩
               case neg=>
                by_cases mX:op=14
                case pos=>
                 as_aux_lemma=>
                 subst mX;have cy:=zBK (show Sk.fitsR S.V ⟨14,k,(jo:Int),x,A,E⟩=true->Sk.treeL S.V (max 1 on) [] E=oe from fun h=>by have h2:=Sk.needR_14 h;simp only [HL.out,fH.out,fy.out,hJ.out,eW.out,dU.out] at h2;exact h2);have gE:=zCH ⟨oe,on⟩;have lC:1<=((Sk.cnt ⟨oe,on⟩:Nat):Int)/\((Sk.cnt ⟨oe,on⟩:Nat):Int)<=300:=(by unfold Sk.cnt;dsimp only;omega);have gU:=zBK (show ((Sk.cnt ⟨oe,on⟩:Nat):Int)=max 1 on by unfold Sk.cnt;dsimp only;omega);generalize (((Sk.cnt ⟨oe,on⟩:Nat):Int))=cn at gE lC gU;have mR:=zBK gE;have Nb:=zBK (fun (W:World) (hb:Below w5.heap.size w5 W)=>HT.out W (b1.trans ((B5.trans (hb.mono B5.size)).mono b1.size)) cn lC (by decide));have yS:=zBM iN;have yR:=zBM dT;have yO:=zBM oQ;clear gE lC;go_upto_region 37 with fail;have aM:=zBK (fun (wz:World) (hSw:Below w5.heap.size w5 wz)=>And.intro ((hSw.cell (p:=⟨w.heap.size,0,none⟩) yS).trans s0) (And.intro ((hSw.cell (p:=⟨w.heap.size,1,none⟩) yS).trans s1) (And.intro ((hSw.cell (p:=⟨w.heap.size,2,none⟩) yS).trans s2) (And.intro ((hSw.cell (p:=⟨w.heap.size,3,none⟩) yS).trans s3) (And.intro ((hSw.cell (p:=⟨w.heap.size+1,5,none⟩) yR).trans r5) (And.intro ((hSw.cell (p:=⟨w1.heap.size,0,none⟩) yO).trans o0) ((hSw.cell (p:=⟨w1.heap.size,1,none⟩) yO).trans o1)))))));refine zBP (fun w'=>Below w5.heap.size w5 w') (fun _=>false) (by kernel_rfl) ?_;have ab:Below w5.heap.size w5 w5.drew:=(Below.refl _ _).drew;generalize w5.drew=ag at ab ⊢;refine' tkQ 0 365 ab ?hyv ?o34
                 case hyv=>
                  intro wz hSw;have bk:=aM.out wz hSw;go_simp
                  try rfl
                 try simp only [Act.put,sT,sZ,sS]
                 refine' tkR 1 366 ab ?o35
                 refine' tkQ 2 367 ab ?hyv ?o36
                 case hyv=>
                  intro wz hSw;have bk:=aM.out wz hSw;go_simp
                  try rfl
                 try simp only [Act.put,sT,sZ,sS]
                 refine' tkR 3 368 ab ?o37
                 refine' tkQ 4 369 ab ?hyv ?o38
                 case hyv=>
                  intro wz hSw;have bk:=aM.out wz hSw;go_simp
                  try rfl
                 try simp only [Act.put,sT,sZ,sS]
                 refine' tkR 7 372 ab ?o39
                 refine' tkQ 8 373 ab ?hyv ?o40
                 case hyv=>
                  intro wz hSw;have bk:=aM.out wz hSw;go_simp
                  try rfl
                 try simp only [Act.put,sT,sZ,sS]
                 refine tnQ 5 (fun K hK=>?_);go_simp;refine (mR.out ag).mono ?_;rintro eq aw ⟨rfl,tM⟩;have af:Below w5.heap.size w5 aw:=tM ▸ ab;refine hK.out _ _ (fun _=>af) ?_;clear hK K
                 try simp only [Act.put,sT,sZ,sS]
                 refine tnQ 6 (fun K hK=>?_);go_simp;refine (Nb.out aw af).mono ?_;rintro eq aJ ⟨RR,rfl,fE,dz⟩;have ay:Below w5.heap.size w5 aJ:=af.trans (dz.mono af.size);refine hK.out _ _ (fun _=>ay) ?_;clear hK K
                 try simp only [Act.put,sT,sZ,sS]
                 refine' zBS (i:=9) (oi:=⟨some 374,_,_,_,_,_⟩) (v:=.bool (RR==oe)) rfl (by kernel_rfl) (by kernel_rfl) (by kernel_rfl) (by kernel_rfl) (fun _ _ _ h=>h) ay (by rfl) ?hyv ?o41
                 case hyv=>
                  intro wz hSw;go_simp
                  try rfl
                 try simp only [Act.put,sT,sZ,sS]
                 refine' tkR 10 4 ay ?o42
                 refine zBN (by kernel_rfl) ?_ _;have B8:=B5.trans (ay.mono B5.size);have pe:=zBK fE;clear fE
                 cases je:(RR==oe)
                 case false=>
                  have bh:=zBK (show Sk.fitsR S.V ⟨14,k,(jo:Int),x,A,E⟩=false from Bool.eq_false_iff.2 (fun bj=>by
                   have h:=cy.out bj;rw [<-gU.out,pe.out] at h;rw [h] at je;simp at je))
                  go_wp2;go_ret;exact ⟨false,rfl,bh.out,b1.trans (B8.mono b1.size)⟩
                 case true=>
                  have gd:=zBK (show Sk.fitsR S.V ⟨14,k,(jo:Int),x,A,E⟩=true from Sk.fitsR_14 (by
                   have e:RR=oe:=(by simpa using je);rw [eW.out,<-gU.out,<-e];exact pe.out))
                  go_wp2;go_ret;exact ⟨true,rfl,gd.out,b1.trans (B8.mono b1.size)⟩
                case neg=>
                 by_cases yN:op=15
                 case pos=>
                  as_aux_lemma=>
                  subst yN;have cy:=zBK (show Sk.fitsR S.V ⟨15,k,(jo:Int),x,A,E⟩=true->e0=ta/\m0=0/\oe=e0/\on=m0/\1<=x/\x<=300/\Sk.treeL S.V x [] E=oe from fun h=>by have h2:=Sk.needR_15 h;simp only [HL.out,fH.out,fy.out,hJ.out,eW.out,dU.out] at h2;exact h2.2);have vg:=zBK (show Sk.fitsR S.V ⟨15,k,(jo:Int),x,A,E⟩=true->Kd.folds k=true from fun h=>(Sk.needR_15 h).1);have il:=zCE k;obtain ⟨qf,j6⟩:=nmQ (Kd.folds k);rw [<-j6] at il;have mj:=zBK j6.symm;clear j6;go_wp2_with fail;refine (il _).mono ?_;rintro e w9 ⟨rfl,b9⟩;clear il;clear s0 s1 s2 s3 r0 r1 r3 r5 o0 o1 a0 a1 a2 a3 a4 a5 p0 p1;have B9:=B5.trans (b9.mono B5.size);have qz:=(b9.block _ (zBM oQ)).trans oQ;have iB:=(b9.block _ (zBM mF)).trans mF;have qy:=(b9.block _ (zBM kN)).trans kN;have ji:=(B9.block _ jD).trans kS;have kL:=(B9.block _ yd).trans kR;have s0:=coQ ji 0;have s1:=coQ ji 1;have s2:=coQ ji 2;have s3:=coQ ji 3;have r0:=coQ kL 0;have r1:=coQ kL 1;have r3:=coQ kL 3;have r5:=coQ kL 5;have o0:=coQ qz 0;have o1:=coQ qz 1;have a0:=coQ iB 0;have a1:=coQ iB 1;have a2:=coQ iB 2;have a3:=coQ iB 3;have a4:=coQ iB 4;have a5:=coQ iB 5;have p0:=coQ qy 0;have p1:=coQ qy 1;simp at s0 s1 s2 s3 r0 r1 r3 r5 o0 o1 a0 a1 a2 a3 a4 a5 p0 p1
                  cases qf
                  case false=>
                   have bh:=zBK (show Sk.fitsR S.V ⟨15,k,(jo:Int),x,A,E⟩=false from Bool.eq_false_iff.2 (fun bj=>by have h:=vg.out bj;rw [mj.out] at h;cases h));go_wp2;go_ret;exact ⟨false,rfl,bh.out,b1.trans (B9.mono b1.size)⟩
                  case true=>
                   by_cases hqoe:oe=ta
                   case neg=>
                    have du:(oe==ta)=false:=(by simp [hqoe]);have bM:(ta==oe)=false:=(by simp [Ne.symm hqoe]);have bh:=zBK (show Sk.fitsR S.V ⟨15,k,(jo:Int),x,A,E⟩=false from Bool.eq_false_iff.2 (fun bj=>absurd (cy.out bj) (by omega)));go_wp2;go_ret;exact ⟨false,rfl,bh.out,b1.trans (B9.mono b1.size)⟩
                   case pos=>
                    subst hqoe;by_cases hqon:on=0
                    case neg=>
                     have du:(on==0)=false:=(by simp [hqon]);have bM:(0==on)=false:=(by simp [Ne.symm hqon]);have bh:=zBK (show Sk.fitsR S.V ⟨15,k,(jo:Int),x,A,E⟩=false from Bool.eq_false_iff.2 (fun bj=>absurd (cy.out bj) (by omega)));go_wp2;go_ret;exact ⟨false,rfl,bh.out,b1.trans (B9.mono b1.size)⟩
                    case pos=>
                     subst hqon;by_cases hqe0:e0=oe
                     case neg=>
                      have du:(e0==oe)=false:=(by simp [hqe0]);have bM:(oe==e0)=false:=(by simp [Ne.symm hqe0]);have bh:=zBK (show Sk.fitsR S.V ⟨15,k,(jo:Int),x,A,E⟩=false from Bool.eq_false_iff.2 (fun bj=>absurd (cy.out bj) (by omega)));go_wp2;go_ret;exact ⟨false,rfl,bh.out,b1.trans (B9.mono b1.size)⟩
                     case pos=>
                      subst hqe0;by_cases hqm0:m0=0
                      case neg=>
                       have du:(m0==0)=false:=(by simp [hqm0]);have bM:(0==m0)=false:=(by simp [Ne.symm hqm0]);have bh:=zBK (show Sk.fitsR S.V ⟨15,k,(jo:Int),x,A,E⟩=false from Bool.eq_false_iff.2 (fun bj=>absurd (cy.out bj) (by omega)));go_wp2;go_ret;exact ⟨false,rfl,bh.out,b1.trans (B9.mono b1.size)⟩
                      case pos=>
                       subst hqm0;by_cases nY:x≥1
                       case neg=>
                        have du:decide (x≥1)=false:=(by simp;omega);have bh:=zBK (show Sk.fitsR S.V ⟨15,k,(jo:Int),x,A,E⟩=false from Bool.eq_false_iff.2 (fun bj=>absurd (cy.out bj) (by omega)));go_wp2;go_ret;exact ⟨false,rfl,bh.out,b1.trans (B9.mono b1.size)⟩
                       case pos=>
                        by_cases zl:x<=300
                        case neg=>
                         have du:decide (x<=300)=false:=(by simp;omega);have bh:=zBK (show Sk.fitsR S.V ⟨15,k,(jo:Int),x,A,E⟩=false from Bool.eq_false_iff.2 (fun bj=>absurd (cy.out bj) (by omega)));go_wp2;go_ret;exact ⟨false,rfl,bh.out,b1.trans (B9.mono b1.size)⟩
                        case pos=>
                         have xp:1<=x/\x<=300:=⟨by omega,by omega⟩;have Ck:e0≠0:=by
                          rcases ys.out with h | h
                          ·have h9:=mj.out
                           unfold Kd.folds at h9;rw [dU.out,h] at h9;simp at h9
                          ·rcases h.1 with h | h<;>rw [h]<;>decide
                         have Ao:=zBK Ck;clear Ck;go_wp2_with fail;refine (HT.out _ (b1.trans (B9.mono b1.size)) x xp (by decide)).mono ?_;rintro e mf ⟨RR,rfl,fE,pF⟩;have zH:=B9.trans (pF.mono B9.size);have pe:=zBK fE;clear fE s0 s1 s2 s3 r0 r1 r3 r5 o0 o1 a0 a1 a2 a3 a4 a5 p0 p1
                         cases je:(RR==e0)
                         case false=>
                          have bh:=zBK (show Sk.fitsR S.V ⟨15,k,(jo:Int),x,A,E⟩=false from Bool.eq_false_iff.2 (fun bj=>by have h:=cy.out bj;have h2:=h.2.2.2.2.2.2;rw [pe.out] at h2;rw [h2] at je;simp at je));go_wp2;go_ret;exact ⟨false,rfl,bh.out,b1.trans (zH.mono b1.size)⟩
                         case true=>
                          have e:RR=e0:=(by simpa using je);have gd:=zBK (show Sk.fitsR S.V ⟨15,k,(jo:Int),x,A,E⟩=true from Sk.fitsR_15 mj.out (by rw [eW.out,dU.out];rfl) (by rw [HL.out,fH.out,eW.out]) nY zl (by rw [dU.out];rw [<-e];exact pe.out));go_wp2;go_ret;exact ⟨true,rfl,gd.out,b1.trans (zH.mono b1.size)⟩
                 case neg=>
                  obtain rfl:op=16:=by have:=lU.out;omega
                  have cy:=zBK (show Sk.fitsR S.V ⟨16,k,(jo:Int),x,A,E⟩=true->e0=ta/\m0=0/\0<on/\oe=e0/\Sk.treeL S.V on [] E=oe from fun h=>by have h2:=Sk.needR_16 h;simp only [HL.out,fH.out,fy.out,hJ.out,eW.out,dU.out] at h2;exact h2.2);have vg:=zBK (show Sk.fitsR S.V ⟨16,k,(jo:Int),x,A,E⟩=true->Kd.folds k=true from fun h=>(Sk.needR_16 h).1);have il:=zCE k;obtain ⟨qf,j6⟩:=nmQ (Kd.folds k);rw [<-j6] at il;have mj:=zBK j6.symm;clear j6;go_wp2_with fail;refine (il _).mono ?_;rintro e w9 ⟨rfl,b9⟩;clear il;clear s0 s1 s2 s3 r0 r1 r3 r5 o0 o1 a0 a1 a2 a3 a4 a5 p0 p1;have B9:=B5.trans (b9.mono B5.size);have qz:=(b9.block _ (zBM oQ)).trans oQ;have iB:=(b9.block _ (zBM mF)).trans mF;have qy:=(b9.block _ (zBM kN)).trans kN;have ji:=(B9.block _ jD).trans kS;have kL:=(B9.block _ yd).trans kR;have s0:=coQ ji 0;have s1:=coQ ji 1;have s2:=coQ ji 2;have s3:=coQ ji 3;have r0:=coQ kL 0;have r1:=coQ kL 1;have r3:=coQ kL 3;have r5:=coQ kL 5;have o0:=coQ qz 0;have o1:=coQ qz 1;have a0:=coQ iB 0;have a1:=coQ iB 1;have a2:=coQ iB 2;have a3:=coQ iB 3;have a4:=coQ iB 4;have a5:=coQ iB 5;have p0:=coQ qy 0;have p1:=coQ qy 1;simp at s0 s1 s2 s3 r0 r1 r3 r5 o0 o1 a0 a1 a2 a3 a4 a5 p0 p1
                  cases qf
                  case false=>
                   have bh:=zBK (show Sk.fitsR S.V ⟨16,k,(jo:Int),x,A,E⟩=false from Bool.eq_false_iff.2 (fun bj=>by have h:=vg.out bj;rw [mj.out] at h;cases h));go_wp2;go_ret;exact ⟨false,rfl,bh.out,b1.trans (B9.mono b1.size)⟩
                  case true=>
                   by_cases hon:on>0
                   case neg=>
                    have du:decide (on>0)=false:=(by simp;omega);have bh:=zBK (show Sk.fitsR S.V ⟨16,k,(jo:Int),x,A,E⟩=false from Bool.eq_false_iff.2 (fun bj=>absurd (cy.out bj) (by omega)));go_wp2;go_ret;exact ⟨false,rfl,bh.out,b1.trans (B9.mono b1.size)⟩
                   case pos=>
                    by_cases hqoe:oe=ta
                    case neg=>
                     have du:(oe==ta)=false:=(by simp [hqoe]);have bM:(ta==oe)=false:=(by simp [Ne.symm hqoe]);have bh:=zBK (show Sk.fitsR S.V ⟨16,k,(jo:Int),x,A,E⟩=false from Bool.eq_false_iff.2 (fun bj=>absurd (cy.out bj) (by omega)));go_wp2;go_ret;exact ⟨false,rfl,bh.out,b1.trans (B9.mono b1.size)⟩
                    case pos=>
                     subst hqoe;by_cases hqe0:e0=oe
                     case neg=>
                      have du:(e0==oe)=false:=(by simp [hqe0]);have bM:(oe==e0)=false:=(by simp [Ne.symm hqe0]);have bh:=zBK (show Sk.fitsR S.V ⟨16,k,(jo:Int),x,A,E⟩=false from Bool.eq_false_iff.2 (fun bj=>absurd (cy.out bj) (by omega)));go_wp2;go_ret;exact ⟨false,rfl,bh.out,b1.trans (B9.mono b1.size)⟩
                     case pos=>
                      subst hqe0;by_cases hqm0:m0=0
                      case neg=>
                       have du:(m0==0)=false:=(by simp [hqm0]);have bM:(0==m0)=false:=(by simp [Ne.symm hqm0]);have bh:=zBK (show Sk.fitsR S.V ⟨16,k,(jo:Int),x,A,E⟩=false from Bool.eq_false_iff.2 (fun bj=>absurd (cy.out bj) (by omega)));go_wp2;go_ret;exact ⟨false,rfl,bh.out,b1.trans (B9.mono b1.size)⟩
                      case pos=>
                       subst hqm0;have xp:1<=on/\on<=300:=⟨by omega,by omega⟩;have Ck:e0≠0:=by
                        rcases ys.out with h | h
                        ·have h9:=mj.out
                         unfold Kd.folds at h9;rw [dU.out,h] at h9;simp at h9
                        ·rcases h.1 with h | h<;>rw [h]<;>decide
                       have Ao:=zBK Ck;clear Ck;go_wp2_with fail;refine (HT.out _ (b1.trans (B9.mono b1.size)) on xp (by decide)).mono ?_;rintro e mf ⟨RR,rfl,fE,pF⟩;have zH:=B9.trans (pF.mono B9.size);have pe:=zBK fE;clear fE s0 s1 s2 s3 r0 r1 r3 r5 o0 o1 a0 a1 a2 a3 a4 a5 p0 p1
                       cases je:(RR==e0)
                       case false=>
                        have bh:=zBK (show Sk.fitsR S.V ⟨16,k,(jo:Int),x,A,E⟩=false from Bool.eq_false_iff.2 (fun bj=>by have h:=cy.out bj;have h2:=h.2.2.2.2;rw [pe.out] at h2;rw [h2] at je;simp at je));go_wp2;go_ret;exact ⟨false,rfl,bh.out,b1.trans (zH.mono b1.size)⟩
                       case true=>
                        have e:RR=e0:=(by simpa using je);have gd:=zBK (show Sk.fitsR S.V ⟨16,k,(jo:Int),x,A,E⟩=true from Sk.fitsR_16 mj.out (by rw [eW.out];exact hon) (by rw [eW.out,dU.out]) (by rw [HL.out,fH.out,dU.out];rfl) (by rw [dU.out,eW.out];rw [<-e];exact pe.out));go_wp2;go_ret;exact ⟨true,rfl,gd.out,b1.trans (zH.mono b1.size)⟩
end Go.Proofs.YtfhghlpfeeiaeaaGreatDoor
