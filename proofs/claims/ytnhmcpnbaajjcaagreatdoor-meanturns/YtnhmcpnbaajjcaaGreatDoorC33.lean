import Derived.Test.YtnhmcpnbaajjcaaGreatDoorC32
import Derived.Test.YtnhmcpnbaajjcaaGreatDoorC28
import Derived.Deep.Cut
import Derived.Deep.LoopGhost
import Derived.Ground.NamesProg
import Derived.IntWalk
import Derived.Laws.Cover1
import Derived.Laws.EntriesVeiled
import Derived.Laws.Externs
import Derived.Lib.Hide
import Derived.Lib.MakeNoZero
import Derived.Lib.SlBuf
import Derived.Shelf.Bytes.SlSmallAll
import Derived.Shelf.Lay
import Derived.WalkKit
import Derived.WalkSpells
set_option linter.unusedVariables false
set_option linter.unusedSimpArgs false
set_option maxHeartbeats 64000000
set_option maxRecDepth 100000
namespace Go.Proofs.YtnhmcpnbaajjcaaGreatDoor
open Go.RowKit Go.IntWalk
theorem OwnL.made {w:World} {B:Nat} (hb:B<=w.heap.size) (cur:Array Value) (cap:Nat) (hm:cap<=maxLen) (hs:cur.size=cap*1):OwnL kLong B (w.alloc (.cells cur 2 (0,0))) (.slice (some ⟨w.heap.size,0,none⟩) 0 cap) [] :=
 ⟨fun _=>[],World.ownsRow_made w cur cap hb hm hs,fun j h=>absurd h (Nat.not_lt_zero _)⟩
theorem vQ (l c:Nat) (hc:l<=c) (hn:c<=1000000) (V:World):(Instr.makeSlice 52 (.int .i64 (l:Int)) (.int .i64 (c:Int))).run Tryz.prog V=.ok (.slice (some ⟨V.heap.size,0,none⟩) l c) (V.alloc (.cells ((List.replicate c (0:Int)).map (Value.int .i64)).toArray 2 (0,0))):=by
 obtain ⟨i0,hi,hz0,hz1,hz2⟩:=info_parts Tryz.infoLg;have h:=run_make (P:=Tryz.prog) V 52 2 i0 (.int .i64 0) Tryz.underlying52 hi hz0 .i64 .i64 (l:Int) (c:Int) (by omega) (by omega) (by rw [hz2];simp;omega) (by omega);have e:madeCells (Value.int .i64 0).cells (((c:Int)).toNat*i0.size)=((List.replicate c (0:Int)).map (Value.int .i64)).toArray:=by
  rw [hz1]
  apply Array.ext_getElem?
  intro j;by_cases hj:j<c
  ·simp [madeCells,Value.cells,hj,Nat.mod_one]
  ·simp [madeCells,Value.cells,hj]
 rw [e] at h
 simpa using h
theorem zAQ {w:World} {rb:Nat} {op K out n:Int} {aA aE:Option Addr} {nA cA nE cE:Nat} {okC:Nat->Prop} {x:WkV} {vC vA:Value} {C:List (List Int)} (hr:RowAt w rb x vC vA) (hC:HRow kLL okC w vC C) {okE:Nat->Prop} {E:List Pu} (hE:HPu okE w (.slice aE nE cE) E) {N:Nat} (hf:Sk.fitT C N 0 E) (hl:∀ z,(Sk.cAt C z).length<=300) (hN:N<=300) (kk:Nat) (hkk:kk<N) (hEl:E.length<=1000) :
  Calls Tryz.prog 135 #[.agg #[.pointer (some ⟨rb,0,none⟩),.int .i64 op,.int .i64 K,.int .i64 out,.int .i64 n,.slice aA nA cA,.slice aE nE cE],.int .i64 (kk:Int)] w fun e w'=>e=.returned (.int .i64 (Sk.treeV C kk [] E))/\Below w.heap.size w w':=by
 obtain ⟨ao,cap,ev,hc1,hc2,-⟩:=hE.at;injection ev with q1 q2 q3;subst q1 q2 q3;unfold maxLen at hc2;obtain ⟨R,hR⟩:=nmQ (Sk.treeV C kk [] E);rw [<-hR];have HR:=zD (show R=Sk.treeV C kk [] (E.drop 0) by rw [List.drop_zero];exact hR);have HF:=zD (show Sk.fitT C N ([]:List Int).length (E.drop 0) from hf);obtain ⟨ne,hn⟩:=nmQ (E.length);rw [<-hn] at hc1 hEl hE ⊢;have b1:Below w.heap.size w (w.alloc (.cells #[.pointer (some ⟨rb,0,none⟩),.int .i64 op,.int .i64 K,.int .i64 out,.int .i64 n,.slice aA nA cA,.slice aE ne cE] 110 (0,0))):=(Below.refl _ _).alloc zL _;have kM:=zH w (.cells #[.pointer (some ⟨rb,0,none⟩),.int .i64 op,.int .i64 K,.int .i64 out,.int .i64 n,.slice aA nA cA,.slice aE ne cE] 110 (0,0));have HE:=zD (hE.under b1);have HRW:=zD (hr.under b1);have HC:=zD (hC.keep b1.size (fun i _ h=>b1.block i h));have HL:=zD hl;have HN:=zD hn;have HNN:=zD (And.intro hN hkk);clear hR hf hE hr hC hl hn hN hkk;go_enter Tryz.func135,Tryz.ntmps135;go_upto_region 1 with fail;obtain ⟨wM,hwM⟩:=nmQ (w.alloc (.cells #[.pointer (some ⟨rb,0,none⟩),.int .i64 op,.int .i64 K,.int .i64 out,.int .i64 n,.slice aA nA cA,.slice aE ne cE] 110 (0,0)));rw [<-hwM] at b1 kM HE HRW HC ⊢;have zM:w.heap.size<wM.heap.size:=zG kM;clear hwM;obtain ⟨LZ,hLZ⟩:=nmQ (((List.replicate 24 (0:Int)).map (Value.int .i64)).toArray);have hmk:(Instr.makeSlice 52 (.int .i64 0) (.int .i64 24)).run Tryz.prog wM=.ok (.slice (some ⟨wM.heap.size,0,none⟩) 0 24) (wM.alloc (.cells LZ 2 (0,0))):=(by rw [hLZ];exact vQ 0 24 (by omega) (by omega) wM);have own0:OwnL kLong wM.heap.size (wM.alloc (.cells LZ 2 (0,0))) (.slice (some ⟨wM.heap.size,0,none⟩) 0 24) []:=OwnL.made zL _ 24 (by decide) (by rw [hLZ];simp);have bS:Below wM.heap.size wM (wM.alloc (.cells LZ 2 (0,0))):=(Below.refl _ _).alloc zL _;clear hLZ;have HO0:=zD own0;clear own0;go_upto_region 2 with fail;clear hmk;generalize wM.alloc (.cells LZ 2 (0,0))=w1 at bS HO0 ⊢;have kM1:=(bS.block _ zM).trans kM;have m6:=coQ kM1 6;simp at m6;go_wp2_with fail;clear m6 kM1;go_loopg [5,14] ne (fun k sv v wr=>∃ (i:Nat) (st:List Int),i<=ne/\k=ne-i/\v=.int .i64 (i:Nat)/\Hid (R=Sk.treeV C kk st (E.drop i))/\Hid (Sk.fitT C N st.length (E.drop i))/\Hid (st.length<=i)/\Hid (OwnL kLong wM.heap.size wr sv st)/\Below wM.heap.size wM wr)
 case atStart=>exact ⟨0,[],Nat.zero_le _,rfl,rfl,HR,HF,zD (Nat.zero_le _),HO0,bS⟩
 case round=>
  clear HR HF HO0;obtain ⟨i,st,hi,rfl,rfl,H,HFT,HSL,HOW,hbr⟩:=hrel;obtain ⟨sa,sc,rfl,hs1,hs2⟩:=HOW.out.form;unfold maxLen at hs2;by_cases hlt:i<ne
  case neg=>
   have hin:i=ne:=(by omega);subst hin;have e1:E.drop i=[]:=List.drop_of_length_le (by have:=HN.out;omega);have hZ:=H.out;have hF:=HFT.out;rw [e1] at hZ hF;unfold Sk.treeV at hZ;unfold Sk.fitT at hF;obtain ⟨ao2,cap2,ev2,_,_,hat⟩:=(xP HOW.out.row).at;obtain ⟨bs,os,ea,hbs,hcell⟩:=hat 0 hF;injection ev2 with q1 q2 q3;subst q1 q3;subst ea;simp at hcell;have HZ2:=zD (show R=st[0] by rw [hZ,List.getD_eq_getElem?_getD,List.getElem?_eq_getElem hF];rfl);generalize st[0]=y at hcell HZ2;clear hat HOW q2 hZ e1 H HFT;generalize st.length=sl at *;go_wp2;go_ret;exact ⟨by rw [HZ2.out];rfl,b1.trans (hbr.mono b1.size)⟩
  case pos=>
   have hil:i<E.length:=(by have:=HN.out;omega);have hdr:E.drop i=E[i] :: E.drop (i+1):=List.drop_eq_getElem_cons hil;have hR1:=H.out;have hF1:=HFT.out;rw [hdr] at hR1 hF1;obtain ⟨ao',cap',eqs,-,-,hat2⟩:=(HE.out.under hbr).at;injection eqs with q1 q2 q3;subst q1;obtain ⟨bb,o,rfl,hb,e0,e1,e2,e3⟩:=hat2 i hil;obtain ⟨y,hy⟩:=nmQ (E[i]);rw [<-hy] at e0 e1 e2 e3 hR1 hF1;unfold Sk.treeV at hR1;unfold Sk.fitT at hF1;obtain ⟨f1,f2,f3⟩:=hF1;have bA:Below wr.heap.size wr (wr.alloc (.cells #[.int .i64 y.op,.int .i64 y.k,.int .i64 y.v,.int .i64 y.n] 98 (0,0))):=(Below.refl _ _).alloc zL _;have BA:=hbr.trans (bA.mono hbr.size);have kV:=zH wr (.cells #[.int .i64 y.op,.int .i64 y.k,.int .i64 y.v,.int .i64 y.n] 98 (0,0));have HO1:=zD (HOW.out.below bA);have HR1:=zD hR1;have HF2:=zD f2;have HF3:=zD f3;clear hat2 q2 q3 hy hdr hR1 H HFT HOW f2 f3;go_upto_region 5 with fail;generalize wr.alloc (.cells #[.int .i64 y.op,.int .i64 y.k,.int .i64 y.v,.int .i64 y.n] 98 (0,0))=wa at bA BA kV HO1 ⊢;have v0:=coQ kV 0;simp at v0;go_wp2_with fail;refine (takenBy_any _ _).mono ?_;rintro e w4 ⟨rfl,b4⟩;have B4:=BA.trans (b4.mono BA.size);have kV4:=(b4.block _ (zG kV)).trans kV;have HO4:=zD (HO1.out.below b4);clear v0 kV HO1;obtain ⟨m,hm⟩:∃ m,st.length-Sk.takesN y.op=m:=⟨_,rfl⟩;rw [hm] at HR1;have HDL:=zD (show (st.drop m).length=Sk.takesN y.op by rw [List.length_drop];omega);have HTL:=zD (show (st.take m).length=m by rw [List.length_take];omega);have HF4:=zD (show Sk.fitT C N (st.take m++[Sk.stepV C y (st.drop m) kk]).length (E.drop (i+1)) by
    rw [List.length_append,HTL.out,List.length_singleton,<-hm];exact HF3.out)
   have HSL2:=zD (show (st.take m++[Sk.stepV C y (st.drop m) kk]).length<=i+1 by
    have:=HSL.out;rw [List.length_append,HTL.out,List.length_singleton];omega)
   have HML:=zD (show m<=i by have:=HSL.out;omega);have hsl:(st.length:Int)-(Sk.takesN y.op:Int)=(m:Int):=(by omega);have hms:m<=st.length:=(by omega);have HTK:=HO4.out.cut (m:=m) hms;have HDR:=zAR (c:=m) HO4.out.row hms;have HTK2:=zD HTK;have HDR2:=zD HDR;clear HF3 hm HTK HDR HO4 f1;have q5:((st.take m).length+1)*8<=140737488355328:=(by rw [HTL.out];have:=HML.out;omega);have q6:(st.take m).length+1<=maxLen:=(by rw [HTL.out];have:=HML.out;unfold maxLen;omega);have hct:=fun (W:World) (hr:RowAt W rb x vC vA) (hC:HRow kLL okC W vC C) (ht:HInts (fun i=>wM.heap.size<=i) W (sliced sa m st.length sc 1) (st.drop m))=>madeBy_any (op:=op) (K:=K) (out:=out) (n:=n) (aA:=aA) (nA:=nA) (cA:=cA) (aE:=some ⟨bb,o,none⟩) (nE:=ne) (cE:=cE) hr hC ht y HDL.out HF2.out HL.out HNN.out.1 kk HNN.out.2;generalize Sk.stepV C y (st.drop m) kk=yv at hct HR1 HF4 HSL2;have kM4:=(B4.block _ zM).trans kM;have m0:=coQ kM4 0;have m1:=coQ kM4 1;have m2:=coQ kM4 2;have m3:=coQ kM4 3;have m4:=coQ kM4 4;have m5:=coQ kM4 5;have m6:=coQ kM4 6;simp at m0 m1 m2 m3 m4 m5 m6;clear kM4;generalize st.length=sl at hsl hms hs1 HDR2 hct ⊢;generalize Sk.takesN y.op=tn at hsl HDL ⊢;have hmc:m<=sc:=(by omega);obtain ⟨sda,sdn,sdc,hsd⟩:∃ sda sdn sdc,sliced sa m sl sc 1=.slice sda sdn sdc:=⟨_,_,_,rfl⟩;have hD3:=HDR2.out;have e11:kLong.k=1:=rfl;rw [e11,hsd] at hD3;rw [hsd] at hct;unfold sliced at hsd;rw [Nat.mul_one] at hsd;have HDR3:=zD hD3;have HSD:=zD hsd;have HCT:=zD hct;clear hct hD3 e11 hsd HDR2;have zB:=B4.size;go_upto_region 6 with fail;refine zK (fun w'=>Below wM.heap.size w4 w') (fun _=>false) (by kernel_rfl) ?_;have hH0:Below wM.heap.size w4 w4.drew:=(Below.refl _ _).drew;have kP0:w4.drew.heap[wr.heap.size]?=some (.cells #[.int .i64 y.op,.int .i64 y.k,.int .i64 y.v,.int .i64 y.n] 98 (0,0)):=kV4;have ownT:OwnL kLong wM.heap.size w4.drew (.slice sa m sc) (st.take m):=HTK2.out;have rowD:HRow kLong (fun i=>wM.heap.size<=i) w4.drew (.slice sda sdn sdc) (st.drop m):=HDR3.out;generalize w4.drew=wd0 at hH0 kP0 ownT rowD ⊢;refine' tkR 0 24 hH0 ?o1
   refine' tkR 1 25 hH0 ?o2
   refine' tkR 2 26 hH0 ?o3
   refine' tkQ 3 27 hH0 ?hyv ?o4
   case hyv=>
    intro wz hSw;have zc0:=(hSw.cell (p:=⟨w.heap.size,0,none⟩) zM).trans m0;have zc1:=(hSw.cell (p:=⟨w.heap.size,1,none⟩) zM).trans m1;have zc2:=(hSw.cell (p:=⟨w.heap.size,2,none⟩) zM).trans m2;have zc3:=(hSw.cell (p:=⟨w.heap.size,3,none⟩) zM).trans m3;have zc4:=(hSw.cell (p:=⟨w.heap.size,4,none⟩) zM).trans m4;have zc5:=(hSw.cell (p:=⟨w.heap.size,5,none⟩) zM).trans m5;have zc6:=(hSw.cell (p:=⟨w.heap.size,6,none⟩) zM).trans m6;go_simp
    try rfl
   try simp only [Act.put,sT,sZ,sS]
   refine' tkR 5 29 hH0 ?o5
   refine' tkR 6 30 hH0 ?o6
   refine' zS (i:=7) (oi:=⟨some 31,_,_,_,_,_⟩) (v:=.slice sda sdn sdc) rfl (by kernel_rfl) (by kernel_rfl) (by kernel_rfl) (by kernel_rfl) (fun _ _ _ h=>h) hH0 (by rfl) ?hyv ?o7
   case hyv=>
    intro wz hSw;go_simp;have hsd:=HSD.out;injection hsd with z1 z2 z3;exact ⟨z1,z2,z3⟩
   try simp only [Act.put,sT,sZ,sS]
   refine' tkR 8 32 hH0 ?o8
   refine tnQ 4 (fun K hK=>?_);have p0:=coQ kP0 0;have p1:=coQ kP0 1;have p2:=coQ kP0 2;have p3:=coQ kP0 3;simp at p0 p1 p2 p3;go_simp;refine hK.out _ _ (fun _=>hH0) ?_;clear hK K p0 p1 p2 p3
   try simp only [Act.put,sT,sZ,sS]
   generalize wd0=wd1 at hH0 ownT rowD ⊢;have hH1:=hH0;refine tnQ 9 (fun K hK=>?_);go_simp;refine (HCT.out wd1 (HRW.out.under (B4.trans hH1)) (HC.out.keep (B4.trans hH1).size (fun i _ h=>(B4.trans hH1).block i h)) (xP rowD)).mono ?_;rintro eq wd2 ⟨rfl,bq2⟩;have hH2:Below wM.heap.size w4 wd2:=hH1.trans (bq2.mono (Nat.le_trans zB hH1.size));have ownT2:=ownT.below bq2;refine hK.out _ _ (fun _=>hH2) ?_;clear hK K
   try simp only [Act.put,sT,sZ,sS]
   refine tnQ 10 (fun K hK=>?_);go_simp;have hH3:Below wM.heap.size w4 (wd2.alloc (.cells #[.int .i64 yv] 2 (0,0))):=hH2.alloc (Nat.le_trans zB hH2.size) _;refine hK.out _ _ (fun _=>hH3) ?_;clear hK K
   try simp only [Act.put,sT,sZ,sS]
   refine tnQ 11 (fun K hK=>?_);refine oper_own kLong _ _ 52 2 rfl Tryz.underlying52 wM.heap.size _ _ (by rfl) ownT2 [.int .i64 yv] yv rfl (by rfl) (Nat.le_trans zB hH2.size) q5 q6 ?_;intro v8 wd4 own8 b8;have HO8:=zD own8;clear own8;have hH4:Below wM.heap.size w4 wd4:=hH2.trans b8;refine hK.out _ _ (fun _=>hH4) ?_;clear hK K
   try simp only [Act.put,sT,sZ,sS]
   refine' tkR 12 5 hH4 ?o9
   refine zJ (by kernel_rfl) ?_ _;have B8:=B4.trans hH4;go_wp2_with fail;go_roundg (ne-(i+1))
   case measure=>omega
   case rel=>exact ⟨i+1,_,by omega,rfl,by go_num,HR1,HF4,HSL2,HO8,B8⟩
def fillC (g:Nat->Int) (i n:Nat):Array Value:=((List.range n).map fun j=>Value.int .i64 (if j<i then g j else 0)).toArray
theorem fillC_zero (g:Nat->Int) (n:Nat):((List.replicate n (0:Int)).map (Value.int .i64)).toArray=fillC g 0 n:=by
 unfold fillC
 apply Array.ext_getElem?
 intro j;by_cases hj:j<n
 ·simp [hj]
 ·simp [hj]
theorem fillC_at (g:Nat->Int) {i n:Nat} (h:i<n):(fillC g i n)[i]?=some (.int .i64 0):=by
 unfold fillC;simp [h]
theorem fillC_set (g:Nat->Int) {i n:Nat} (h:i<n):(fillC g i n).setIfInBounds i (.int .i64 (g i))=fillC g (i+1) n:=by
 unfold fillC
 apply Array.ext_getElem?
 intro j;by_cases hj:j=i
 ·subst hj
  simp [h]
 ·by_cases hn:j<n
  ·have e:(j<i+1)=(j<i):=by apply propext;omega
   simp [Array.getElem?_setIfInBounds,hn,e,Ne.symm hj]
  ·simp [Array.getElem?_setIfInBounds,hn,Ne.symm hj]
theorem fillC_own {w:World} {B b n:Nat} (g:Nat->Int) (hB:B<=b) (hn:n<=1000000) (h:w.heap[b]?=some (.cells (fillC g n n) 2 (0,0))):OwnL kLong B w (.slice (some ⟨b,0,none⟩) n n) ((List.range n).map g):=by
 have hl:((List.range n).map g).length=n:=(by simp);refine ⟨fun j=>[.int .i64 (g j)],⟨?_,.inr ⟨b,n,_,by rw [hl],hB,h,by rw [hl];exact Nat.le_refl _,by unfold maxLen;omega,by unfold fillC;simp [kLong],?_⟩⟩,fun j hj=>?_⟩
 ·rw [hl]
  exact qA n fun i hi=>rfl
 ·rw [hl]
  have e:∀ m,flat (fun j=>[Value.int .i64 (g j)]) m=(List.range m).map fun j=>Value.int .i64 (g j):=by
   intro m
   induction m with
   | zero=>rfl
   | succ m ih=>rw [flat,ih,List.range_succ,List.map_append];rfl
  rw [e n];have e2:(fillC g n n).toList=(List.range n).map fun j=>Value.int .i64 (g j):=by
   unfold fillC;simp only [List.toList_toArray]
   apply List.map_congr_left
   intro j hj;rw [if_pos (List.mem_range.1 hj)]
  rw [e2]
  apply List.take_of_length_le
  simp [kLong]
 ·show [Value.int .i64 (g j)]=[Value.int .i64 ((List.range n).map g)[j]]
  simp
theorem each_any {w:World} {N:Nat} {bs cs:Array Value} {g:Nat->Int} {J:Nat->World->Prop} {S:List Nat} (eg:∀ args w,(callFunc N args).run Tryz.prog w=.ok (.enter N args) w) (n:Nat) (hn:n<=1000000) (h0:J 0 w) (hS:∀ b ∈ S,b<w.heap.size) (hJ:∀ k W W',J k W->w.heap.size<=W.heap.size->Below w.heap.size W W'->J k W') (hs:∀ k W,k<n->w.heap.size<=W.heap.size->J k W->Calls Tryz.prog N (bs++#[.int .i64 (k:Int)]++cs) W fun e W'=>e=.returned (.int .i64 (g k))/\J (k+1) W'/\Aside S W.heap.size W W') :
  Calls Tryz.prog 69 #[.int .i64 (n:Int),.func (.func N) bs cs] w fun e w'=>∃ v,e=.returned v/\OwnL kLong w.heap.size w' v ((List.range n).map g)/\J n w'/\Aside S w.heap.size w w':=by
 have hmk:=vQ n n zL hn w;rw [fillC_zero g n] at hmk;have kF:=zH w (.cells (fillC g 0 n) 2 (0,0));have b0:Below w.heap.size w (w.alloc (.cells (fillC g 0 n) 2 (0,0))):=(Below.refl _ _).alloc zL _;have H0:=zD (hJ 0 _ _ h0 zL b0);have HS:=zD hs;have HSS:=zD hS;have HJJ:=zD hJ;have a0:Aside S w.heap.size w (w.alloc (.cells (fillC g 0 n) 2 (0,0))):=aside b0;have HF:=zD kF;generalize w.alloc (.cells (fillC g 0 n) 2 (0,0))=w1 at hmk a0 H0 HF;clear kF b0 hs hS hJ h0;go_enter Tryz.func69,Tryz.ntmps69;go_wp2_with fail;clear hmk;go_loopg [11] n (fun k v wr=>∃ (i:Nat),i<=n/\k=n-i/\v=.int .i64 (i:Nat)/\Hid (wr.heap[w.heap.size]?=some (.cells (fillC g i n) 2 (0,0)))/\Hid (J i wr)/\Aside S w.heap.size w wr)
 case atStart=>exact ⟨0,Nat.zero_le _,rfl,rfl,HF,H0,a0⟩
 case round=>
  clear H0 HF;obtain ⟨i,hi,rfl,rfl,HF,HJ,hbr⟩:=hrel;by_cases hlt:i<n
  case neg=>
   have hin:i=n:=(by omega);subst hin;go_wp2;go_ret;exact ⟨_,rfl,fillC_own g zL hn HF.out,HJ.out,hbr⟩
  case pos=>
   have hc:=HS.out i wr hlt hbr.size HJ.out;have HG:=zD (fillC_set g hlt);have hz:w.heap.size<wr.heap.size:=zG HF.out;go_wp2_with fail;refine hc.mono ?_;rintro e w4 ⟨rfl,J4,b4⟩;have B4:=hbr.trans b4 hbr.size;have k4:=b4.keep HF.out hz fun hm=>by have:=HSS.out _ hm;omega
   have c4:=coQ k4 i;rw [fillC_at g hlt] at c4;have f4:=foQ k4 i;have KF:=zP k4 i (.int .i64 (g i));rw [HG.out] at KF;have HKF:=zD KF;have HJ4:=zD (HJJ.out (i+1) _ _ J4 B4.size ((Below.refl w.heap.size w4).setCell (p:=⟨w.heap.size,i,none⟩) zL (.int .i64 (g i))));have B5:Aside S w.heap.size w (w4.setCell ⟨w.heap.size,i,none⟩ (.int .i64 (g i))):=B4.set (p:=⟨w.heap.size,i,none⟩) zL _;clear hc J4 k4 KF HG HF HJ;go_wp2_with fail;go_roundg (n-(i+1))
   case measure=>omega
   case rel=>exact ⟨i+1,by omega,rfl,by go_num,HKF,HJ4,B5⟩
def Sk.lastG (g:Nat->Int):Nat->Int
 | 0=>0
 | n+1=>g n
theorem last_any {w:World} {N:Nat} {bs cs:Array Value} {g:Nat->Int} {J:Nat->World->Prop} {S:List Nat} (eg:∀ args w,(callFunc N args).run Tryz.prog w=.ok (.enter N args) w) (n:Nat) (hn:n<=1000000) (h0:J 0 w) (hs:∀ k W,k<n->J k W->Calls Tryz.prog N (bs++#[.int .i64 (k:Int)]++cs) W fun e W'=>e=.returned (.int .i64 (g k))/\J (k+1) W'/\Aside S W.heap.size W W') :
  Calls Tryz.prog 133 #[.int .i64 (n:Int),.func (.func N) bs cs] w fun e w'=>e=.returned (.int .i64 (Sk.lastG g n))/\J n w'/\Aside S w.heap.size w w':=by
 have HS:=zD hs;have H0:=zD h0;clear hs h0;go_enter Tryz.func133,Tryz.ntmps133;go_wp2_with fail;go_loopg [5,8] n (fun k u v wr=>∃ (i:Nat) (x:Int),i<=n/\k=n-i/\u=.int .i64 x/\v=.int .i64 (i:Nat)/\Hid (x=Sk.lastG g i)/\Hid (J i wr)/\Aside S w.heap.size w wr)
 case atStart=>exact ⟨0,0,Nat.zero_le _,rfl,rfl,rfl,zD rfl,H0,Aside.refl _⟩
 case round=>
  clear H0;obtain ⟨i,x,hi,rfl,rfl,rfl,HX,HJ,hbr⟩:=hrel;by_cases hlt:i<n
  case neg=>
   have hin:i=n:=(by omega);subst hin;go_wp2;go_ret;exact ⟨by rw [HX.out];rfl,HJ.out,hbr⟩
  case pos=>
   have hc:=HS.out i wr hlt HJ.out;have HG:=zD (show g i=Sk.lastG g (i+1) from rfl);generalize g i=y at hc HG;go_wp2_with fail;refine hc.mono ?_;rintro e w4 ⟨rfl,J4,b4⟩;have B4:=hbr.trans b4 hbr.size;have HJ4:=zD J4;clear hc HX J4;go_wp2_with fail;go_roundg (n-(i+1))
   case measure=>omega
   case rel=>exact ⟨i+1,y,by omega,rfl,rfl,by go_num,HG,HJ4,B4⟩
theorem eg146:∀ args w,(callFunc 146 args).run Tryz.prog w=.ok (.enter 146 args) w:=enters_of Tryz.func146 (by kernel_rfl) rfl
theorem soFar1_any {w:World} {rb:Nat} {op K out n:Int} {aA aE:Option Addr} {nA cA nE cE:Nat} {mb vb fb N:Nat} {bs cs:Array Value} {v y:Int} {k:Nat} (eg:∀ args w,(callFunc N args).run Tryz.prog w=.ok (.enter N args) w) (kM:w.heap[mb]?=some (.cells #[.pointer (some ⟨rb,0,none⟩),.int .i64 op,.int .i64 K,.int .i64 out,.int .i64 n,.slice aA nA cA,.slice aE nE cE] 110 (0,0))) (kV:w.heap[vb]?=some (.cells #[.int .i64 v] 2 (0,0))) (kF:w.heap[fb]?=some (.cells #[.func (.func N) bs cs] 108 (0,0))) (hc:∀ W,Below w.heap.size w W->Calls Tryz.prog N (bs++#[.int .i64 (k:Int)]++cs) W fun e W'=>e=.returned (.int .i64 y)/\Below W.heap.size W W') :
  Calls Tryz.prog 146 #[.int .i64 (k:Int),.pointer (some ⟨mb,0,none⟩),.pointer (some ⟨vb,0,none⟩),.pointer (some ⟨fb,0,none⟩)] w fun e w'=>e=.returned (.int .i64 (apT K v y))/\w'.heap[vb]?=some (.cells #[.int .i64 (apT K v y)] 2 (0,0))/\Aside [vb] w.heap.size w w':=by
 have m2:=coQ kM 2;have v0:=coQ kV 0;have f0:=coQ kF 0;simp at m2 v0 f0;have yM:=zG kM;have yV:=zG kV;have yF:=zG kF;have hap:=fun W=>qE K v y W;generalize apT K v y=R at hap ⊢;have HC:=zD hc;have HA:=zD hap;clear hc hap kM kF;go_enter Tryz.func146,Tryz.ntmps146;go_upto_region 1 with fail;refine zK (fun w'=>Below w.heap.size w w') (fun i=>i==8) (by kernel_rfl) ?_;have hH0:Below w.heap.size w w.drew:=(Below.refl _ _).drew;generalize w.drew=wd0 at hH0 ⊢;refine' tkR 0 6 hH0 ?o1
 refine' tkR 1 7 hH0 ?o2
 refine' tkQ 2 8 hH0 ?hyv ?o3
 case hyv=>
  intro wz hSw;have zc0:=(hSw.cell (p:=⟨mb,2,none⟩) yM).trans m2;have zc1:=(hSw.cell (p:=⟨vb,0,none⟩) yV).trans v0;have zc2:=(hSw.cell (p:=⟨fb,0,none⟩) yF).trans f0;go_simp
  try rfl
 try simp only [Act.put,sT,sZ,sS]
 refine' tkQ 3 9 hH0 ?hyv ?o4
 case hyv=>
  intro wz hSw;have zc0:=(hSw.cell (p:=⟨mb,2,none⟩) yM).trans m2;have zc1:=(hSw.cell (p:=⟨vb,0,none⟩) yV).trans v0;have zc2:=(hSw.cell (p:=⟨fb,0,none⟩) yF).trans f0;go_simp
  try rfl
 try simp only [Act.put,sT,sZ,sS]
 refine' tkQ 4 10 hH0 ?hyv ?o5
 case hyv=>
  intro wz hSw;have zc0:=(hSw.cell (p:=⟨mb,2,none⟩) yM).trans m2;have zc1:=(hSw.cell (p:=⟨vb,0,none⟩) yV).trans v0;have zc2:=(hSw.cell (p:=⟨fb,0,none⟩) yF).trans f0;go_simp
  try rfl
 try simp only [Act.put,sT,sZ,sS]
 refine' tkR 5 11 hH0 ?o6
 refine tnQ 6 (fun K hK=>?_);go_simp;refine (HC.out wd0 hH0).mono ?_;rintro eq wd1 ⟨rfl,bq1⟩;have hH1:Below w.heap.size w wd1:=hH0.trans (bq1.mono hH0.size);refine hK.out _ _ (fun _=>hH1) ?_;clear hK K
 try simp only [Act.put,sT,sZ,sS]
 refine tnQ 7 (fun K hK=>?_);go_simp;refine (HA.out wd1).mono ?_;rintro eq wd2 ⟨rfl,bq2⟩;have hH2:Below w.heap.size w wd2:=hH1.trans (bq2.mono hH1.size);refine hK.out _ _ (fun _=>hH2) ?_;clear hK K
 try simp only [Act.put,sT,sZ,sS]
 refine tnQ 8 (fun K hK=>?_);have kt2:=(hH2.block vb yV).trans kV;have st0:=coQ kt2 0;have fr0:=foQ kt2 0;simp at st0;have KT:=zP kt2 0 (.int .i64 R);have AS:Aside [vb] w.heap.size w (wd2.setCell ⟨vb,0,none⟩ (.int .i64 R)):=(aside hH2).trans (Aside.setCell (p:=⟨vb,0,none⟩) (by simp) (.int .i64 R)) zL;have HNEW:=zD (And.intro KT AS);clear KT AS;go_simp;refine hK.out _ _ (fun h=>absurd h (by decide)) ?_;clear hK K kt2 st0 fr0
 try simp only [Act.put,sT,sZ,sS]
 generalize wd2.setCell ⟨vb,0,none⟩ (.int .i64 R)=wd3 at HNEW ⊢;refine zJ (by kernel_rfl) ?_ _;obtain ⟨KT,AS⟩:=HNEW.out;simp at KT;have u0:=coQ KT 0;simp at u0;have HKT:=zD KT;clear KT HNEW;go_wp2;go_ret;exact ⟨rfl,HKT.out,AS⟩
def SoFarAt (w w':World) (rb:Nat) (op K out n:Int) (aA aE:Option Addr) (nA cA nE cE N:Nat) (bs cs:Array Value) (v:Int) (vb:Nat):Prop:=w'.heap[w.heap.size]?=some (.cells #[.pointer (some ⟨rb,0,none⟩),.int .i64 op,.int .i64 K,.int .i64 out,.int .i64 n,.slice aA nA cA,.slice aE nE cE] 110 (0,0))/\w'.heap[w.heap.size+1]?=some (.cells #[.func (.func N) bs cs] 108 (0,0))/\w'.heap[vb]?=some (.cells #[.int .i64 v] 2 (0,0))/\w.heap.size+2<=vb/\Below w.heap.size w w'
theorem vF {w:World} {rb:Nat} {op K out n:Int} {aA aE:Option Addr} {nA cA nE cE:Nat} {ok okA:Nat->Prop} {x:WkV} {vC vA:Value} {C:List (List Int)} {A:List Int} {N:Nat} {bs cs:Array Value} (hr:RowAt w rb x vC vA) (hC:HRow kLL ok w vC C) (hA:HInts okA w (.slice aA nA cA) A) (hi:0<A.length) (hz:0<=A[0]/\A[0]<C.length) (hl:0<(Sk.cAt C A[0]).length) :
  Calls Tryz.prog 134 #[.agg #[.pointer (some ⟨rb,0,none⟩),.int .i64 op,.int .i64 K,.int .i64 out,.int .i64 n,.slice aA nA cA,.slice aE nE cE],.func (.func N) bs cs] w fun e w'=>∃ vb,e=.returned (.func (.func 146) #[] #[.pointer (some ⟨w.heap.size,0,none⟩),.pointer (some ⟨vb,0,none⟩),.pointer (some ⟨w.heap.size+1,0,none⟩)])/\SoFarAt w w' rb op K out n aA aE nA cA nE cE N bs cs ((Sk.cAt C A[0]).getD 0 0) vb:=by
 have b1:Below w.heap.size w ((w.alloc (.cells #[.pointer (some ⟨rb,0,none⟩),.int .i64 op,.int .i64 K,.int .i64 out,.int .i64 n,.slice aA nA cA,.slice aE nE cE] 110 (0,0))).alloc (.cells #[.func (.func N) bs cs] 108 (0,0))):=((Below.refl _ _).alloc zL _).alloc (by simp) _;have kP:((w.alloc (.cells #[.pointer (some ⟨rb,0,none⟩),.int .i64 op,.int .i64 K,.int .i64 out,.int .i64 n,.slice aA nA cA,.slice aE nE cE] 110 (0,0))).alloc (.cells #[.func (.func N) bs cs] 108 (0,0))).heap[w.heap.size+1]?=some (.cells #[.func (.func N) bs cs] 108 (0,0)):=(by have:=zH (w.alloc (.cells #[.pointer (some ⟨rb,0,none⟩),.int .i64 op,.int .i64 K,.int .i64 out,.int .i64 n,.slice aA nA cA,.slice aE nE cE] 110 (0,0))) (.cells #[.func (.func N) bs cs] 108 (0,0));simpa using this);have kM:=(Below.heap_alloc (w.alloc (.cells #[.pointer (some ⟨rb,0,none⟩),.int .i64 op,.int .i64 K,.int .i64 out,.int .i64 n,.slice aA nA cA,.slice aE nE cE] 110 (0,0))) (.cells #[.func (.func N) bs cs] 108 (0,0)) w.heap.size (by simp)).trans (zH w (.cells #[.pointer (some ⟨rb,0,none⟩),.int .i64 op,.int .i64 K,.int .i64 out,.int .i64 n,.slice aA nA cA,.slice aE nE cE] 110 (0,0)));have z1:w.heap.size+2<=((w.alloc (.cells #[.pointer (some ⟨rb,0,none⟩),.int .i64 op,.int .i64 K,.int .i64 out,.int .i64 n,.slice aA nA cA,.slice aE nE cE] 110 (0,0))).alloc (.cells #[.func (.func N) bs cs] 108 (0,0))).heap.size:=(by simp);have hct:=xM (op:=op) (k:=K) (out:=out) (n:=n) (aE:=aE) (nE:=nE) (cE:=cE) (hr.under b1) (hC.keep b1.size (fun i _ h=>b1.block i h)) (hA.under b1) 0 hi hz hl;generalize (Sk.cAt C A[0]).getD 0 0=v at hct ⊢;have HZ:=zD z1;have HB:=zD b1;have HP:=zD kP;have HCT:=zD hct;clear hr hC hA hz hl hi hct z1 b1 kP;go_enter Tryz.func134,Tryz.ntmps134;go_upto_region 1 with fail;generalize (w.alloc (.cells #[.pointer (some ⟨rb,0,none⟩),.int .i64 op,.int .i64 K,.int .i64 out,.int .i64 n,.slice aA nA cA,.slice aE nE cE] 110 (0,0))).alloc (.cells #[.func (.func N) bs cs] 108 (0,0))=w1 at HB kM HP HZ HCT ⊢;have m0:=coQ kM 0;have m1:=coQ kM 1;have m2:=coQ kM 2;have m3:=coQ kM 3;have m4:=coQ kM 4;have m5:=coQ kM 5;have m6:=coQ kM 6;simp at m0 m1 m2 m3 m4 m5 m6;go_wp2_with fail;refine HCT.out.mono ?_;rintro e w2 ⟨rfl,b2⟩;have kM2:=(b2.block _ (zG kM)).trans kM;have kP2:=(b2.block _ (zG HP.out)).trans HP.out;have zz:w.heap.size+2<=w2.heap.size:=Nat.le_trans HZ.out b2.size;have B2:=HB.out.trans (b2.mono HB.out.size);have HEND:=zD (show SoFarAt w (w2.alloc (.cells #[.int .i64 v] 2 (0,0))) rb op K out n aA aE nA cA nE cE N bs cs v w2.heap.size from ⟨kAQ kM2 _,kAQ kP2 _,zH _ _,zz,B2.alloc B2.size _⟩);clear m0 m1 m2 m3 m4 m5 m6 kM kM2 kP2 HP HZ HCT zz HB;go_wp2;go_ret;exact ⟨_,rfl,HEND.out⟩
end Go.Proofs.YtnhmcpnbaajjcaaGreatDoor
