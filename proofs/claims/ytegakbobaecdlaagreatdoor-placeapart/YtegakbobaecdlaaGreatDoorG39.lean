import Derived.Test.YtegakbobaecdlaaGreatDoorG38
set_option linter.unusedVariables false
set_option linter.unusedSimpArgs false
set_option maxHeartbeats 64000000
set_option maxRecDepth 100000
namespace Go.Proofs.YtegakbobaecdlaaGreatDoor
open Go.RowKit Go.IntWalk
theorem bar130_any {B:Nat} {w:World} {gb:Nat} {x:GdV} {S:Sk.Sys} {K:List Int} {b:Nat} {st:Sk.St} {vL:Value} {pg pe pa pf pm N:Nat} {bs cs:Array Value} {eV aT fV:Int} {q5:Bool} (h:Gnd B w gb x S K b st vL) (ok:Sk.Okay S) (kg:w.heap[pg]?=some (.cells #[.pointer (some ⟨gb,0,none⟩)] 82 (0,0))) (ke:w.heap[pe]?=some (.cells #[.int .i64 eV] 3 (0,0))) (ka:w.heap[pa]?=some (.cells #[.int .i64 aT] 3 (0,0))) (kf:w.heap[pf]?=some (.cells #[.int .i64 fV] 3 (0,0))) (km:w.heap[pm]?=some (.cells #[.func (.func N) bs cs] 74 (0,0)))
  (eg:∀ args w,(callFunc N args).run Tryz.prog w=.ok (.enter N args) w) (o:Nat) (ho:o<S.V.length) (hA:0<=Sk.aAt st.A (o:Int)/\Sk.aAt st.A (o:Int)<=1000000) (hm:∀ W,Below w.heap.size w W->Calls Tryz.prog N (bs++#[.int .i64 (o:Int)]++cs) W fun e W'=>e=.returned (.bool q5)/\Below W.heap.size W W') :
  Calls Tryz.prog 130 #[.int .i64 (o:Int),.pointer (some ⟨pg,0,none⟩),.pointer (some ⟨pe,0,none⟩),.pointer (some ⟨pa,0,none⟩),.pointer (some ⟨pf,0,none⟩),.pointer (some ⟨pm,0,none⟩)] w fun e w'=>e=.returned (.bool (((decide (Sk.aAt st.A (o:Int)<eV)&&decide (aT<Sk.aAt st.A (o:Int)+Sk.ct S (o:Int)))&&decide (fV<=(Sk.spAt (Sk.spans S) (o:Int)).2)) && !((Sk.aAt st.A (o:Int)==aT)&&q5)))/\Below w.heap.size w w':=by
 obtain ⟨aV,cV,aI,cI,aO,cO,aR,cR,sg,ga,gk⟩:=x;obtain ⟨-,-,-,-,c4,c5,-,-,-,-⟩:=h.gd.cells
 dsimp only at c4 c5
 have yG:=zH h.gd;have hoa:o<st.A.length:=(by rw [h.la];exact ho);have hos:o<(Sk.spans S).length:=(by rw [h.spl];exact ho);have cA:=h.at_.at hoa;have yA:=h.at_.lt;have cS:=(h.sp.at hos).2;have yS:=h.sp.lt
 dsimp only at cA yA cS yS
 have eA:Sk.aAt st.A (o:Int)=st.A[o]:=by
  unfold Sk.aAt;rw [Int.toNat_natCast,List.getD_eq_getElem?_getD,List.getElem?_eq_getElem hoa];rfl
 have eS:(Sk.spAt (Sk.spans S) (o:Int)).2=((Sk.spans S)[o]).2:=by
  unfold Sk.spAt;rw [Int.toNat_natCast,List.getD_eq_getElem?_getD,List.getElem?_eq_getElem hos];rfl
 rw [<-eA] at cA;rw [<-eS] at cS;have hcl:=Sk.ct_le ok (o:Int) (by omega) (by omega);have HW:=zG (fun (W:World) (hW:Below w.heap.size w W)=>xM (h.under hW) ok o ho);obtain ⟨cn,hcn⟩:=nmQ (Sk.ct S (o:Int));rw [<-hcn] at hcl HW ⊢;generalize Sk.aAt st.A (o:Int)=sA at cA hA ⊢;generalize (Sk.spAt (Sk.spans S) (o:Int)).2=tO at cS ⊢;have hA1:=hA.1;have hA2:=hA.2;obtain ⟨q1,hq1⟩:=nmQ (decide (sA<eV));obtain ⟨q2,hq2⟩:=nmQ (decide (aT<sA+(cn:Int)));obtain ⟨q3,hq3⟩:=nmQ (decide (fV<=tO));obtain ⟨q4,hq4⟩:=nmQ ((sA==aT));rw [<-hq1,<-hq2,<-hq3,<-hq4];have HQ1:=zG hq1;have HQ2:=zG hq2;have HQ3:=zG hq3;have HQ4:=zG hq4;have HM:=zG hm;have hvl:S.V.length<=400:=ok.nV;clear hcn hq1 hq2 hq3 hq4 eA eS h ok hm hA;have g0:=coQ kg 0;have e0:=coQ ke 0;have a0:=coQ ka 0;have f0:=coQ kf 0;have m0:=coQ km 0;simp at g0 e0 a0 f0 m0;have yg:=zH kg;have ye:=zH ke;have ya:=zH ka;have yf:=zH kf;have ym:=zH km;clear kg ke ka kf km;go_enter Tryz.func130,Tryz.ntmps130;go_upto_region 2 with fail;refine zK (fun w'=>Below w.heap.size w w') (fun _=>false) (by kernel_rfl) ?_;have hH0:Below w.heap.size w w.drew:=(Below.refl _ _).drew;generalize w.drew=wd0 at hH0 ⊢;refine' tkR 0 18 hH0 ?o1
 refine' tkQ 1 19 hH0 ?hyv ?o2
 case hyv=>
  intro wz hSw;have zc0:=(hSw.cell (p:=⟨pg,0,none⟩) yg).trans g0;have zc1:=(hSw.cell (p:=⟨pe,0,none⟩) ye).trans e0;have zc2:=(hSw.cell (p:=⟨pa,0,none⟩) ya).trans a0;have zc3:=(hSw.cell (p:=⟨pf,0,none⟩) yf).trans f0;have zc4:=(hSw.cell (p:=⟨pm,0,none⟩) ym).trans m0;have zc5:=(hSw.cell (p:=⟨gb,4,none⟩) yG).trans c4;have zc6:=(hSw.cell (p:=⟨gb,5,none⟩) yG).trans c5;have zc7:=(hSw.cell (p:=⟨ga,o,none⟩) yA).trans cA;have zc8:=(hSw.cell (p:=⟨sg,o*2+1,none⟩) yS).trans cS;go_simp
  try rfl
 try simp only [Act.put,sT,sZ,sS]
 refine' zM (i:=2) (oi:=⟨some 20,_,_,_,_,_⟩) (v:=.bool q1) rfl (by kernel_rfl) (by kernel_rfl) (by kernel_rfl) (by kernel_rfl) (fun _ _ _ h=>h) hH0 (by rfl) ?hyv ?o3
 case hyv=>
  intro wz hSw;go_simp;rw [HQ1.out]
  try rfl
 try simp only [Act.put,sT,sZ,sS]
 refine' tkR 3 21 hH0 ?o4
 cases q1
 case false=>
  refine zD (i:=4) (oi:=⟨some 22,_,_,_,_,_⟩) rfl (by kernel_rfl) (by kernel_rfl) (by kernel_rfl) (by kernel_rfl) (fun _ _ _ h=>h) hH0 (by rfl) ?_
  try simp only [Act.put,sT,sZ,sS]
  refine zD (i:=5) (oi:=⟨some 23,_,_,_,_,_⟩) rfl (by kernel_rfl) (by kernel_rfl) (by kernel_rfl) (by kernel_rfl) (fun _ _ _ h=>h) hH0 (by rfl) ?_
  try simp only [Act.put,sT,sZ,sS]
  refine zD (i:=6) (oi:=⟨some 24,_,_,_,_,_⟩) rfl (by kernel_rfl) (by kernel_rfl) (by kernel_rfl) (by kernel_rfl) (fun _ _ _ h=>h) hH0 (by rfl) ?_
  try simp only [Act.put,sT,sZ,sS]
  refine zD (i:=7) (oi:=⟨some 25,_,_,_,_,_⟩) rfl (by kernel_rfl) (by kernel_rfl) (by kernel_rfl) (by kernel_rfl) (fun _ _ _ h=>h) hH0 (by rfl) ?_
  try simp only [Act.put,sT,sZ,sS]
  refine zD (i:=8) (oi:=⟨some 26,_,_,_,_,_⟩) rfl (by kernel_rfl) (by kernel_rfl) (by kernel_rfl) (by kernel_rfl) (fun _ _ _ h=>h) hH0 (by rfl) ?_
  try simp only [Act.put,sT,sZ,sS]
  refine zD (i:=9) (oi:=⟨some 27,_,_,_,_,_⟩) rfl (by kernel_rfl) (by kernel_rfl) (by kernel_rfl) (by kernel_rfl) (fun _ _ _ h=>h) hH0 (by rfl) ?_
  try simp only [Act.put,sT,sZ,sS]
  refine zD (i:=10) (oi:=⟨some 28,_,_,_,_,_⟩) rfl (by kernel_rfl) (by kernel_rfl) (by kernel_rfl) (by kernel_rfl) (fun _ _ _ h=>h) hH0 (by rfl) ?_
  try simp only [Act.put,sT,sZ,sS]
  refine' tkR 11 29 hH0 ?o5
  refine' tkR 12 9 hH0 ?o6
  refine zI (by kernel_rfl) ?_ _;obtain ⟨wx,hwx⟩:=nmQ (wd0);subst hwx;have hX:=hH0;have g0x:=(hX.cell (p:=⟨pg,0,none⟩) yg).trans g0;have ygx0:=Nat.lt_of_lt_of_le yg hX.size;have e0x:=(hX.cell (p:=⟨pe,0,none⟩) ye).trans e0;have yex1:=Nat.lt_of_lt_of_le ye hX.size;have a0x:=(hX.cell (p:=⟨pa,0,none⟩) ya).trans a0;have yax2:=Nat.lt_of_lt_of_le ya hX.size;have f0x:=(hX.cell (p:=⟨pf,0,none⟩) yf).trans f0;have yfx3:=Nat.lt_of_lt_of_le yf hX.size;have m0x:=(hX.cell (p:=⟨pm,0,none⟩) ym).trans m0;have ymx4:=Nat.lt_of_lt_of_le ym hX.size;have c4x:=(hX.cell (p:=⟨gb,4,none⟩) yG).trans c4;have yGx5:=Nat.lt_of_lt_of_le yG hX.size;have c5x:=(hX.cell (p:=⟨gb,5,none⟩) yG).trans c5;have yGx6:=Nat.lt_of_lt_of_le yG hX.size;have cAx:=(hX.cell (p:=⟨ga,o,none⟩) yA).trans cA;have yAx7:=Nat.lt_of_lt_of_le yA hX.size;have cSx:=(hX.cell (p:=⟨sg,o*2+1,none⟩) yS).trans cS;have ySx8:=Nat.lt_of_lt_of_le yS hX.size;clear g0 e0 a0 f0 m0 c4 c5 cA cS;go_upto_region 3 with fail;refine zK (fun w'=>Below wx.heap.size wx w') (fun _=>false) (by kernel_rfl) ?_;have hH0:Below wx.heap.size wx wx.drew:=(Below.refl _ _).drew;generalize wx.drew=wd0 at hH0 ⊢;refine' tkR 0 30 hH0 ?o7
  refine' tkR 1 31 hH0 ?o8
  refine zD (i:=2) (oi:=⟨some 32,_,_,_,_,_⟩) rfl (by kernel_rfl) (by kernel_rfl) (by kernel_rfl) (by kernel_rfl) (fun _ _ _ h=>h) hH0 (by rfl) ?_
  try simp only [Act.put,sT,sZ,sS]
  refine zD (i:=3) (oi:=⟨some 33,_,_,_,_,_⟩) rfl (by kernel_rfl) (by kernel_rfl) (by kernel_rfl) (by kernel_rfl) (fun _ _ _ h=>h) hH0 (by rfl) ?_
  try simp only [Act.put,sT,sZ,sS]
  refine zD (i:=4) (oi:=⟨some 34,_,_,_,_,_⟩) rfl (by kernel_rfl) (by kernel_rfl) (by kernel_rfl) (by kernel_rfl) (fun _ _ _ h=>h) hH0 (by rfl) ?_
  try simp only [Act.put,sT,sZ,sS]
  refine zD (i:=5) (oi:=⟨some 35,_,_,_,_,_⟩) rfl (by kernel_rfl) (by kernel_rfl) (by kernel_rfl) (by kernel_rfl) (fun _ _ _ h=>h) hH0 (by rfl) ?_
  try simp only [Act.put,sT,sZ,sS]
  refine zD (i:=6) (oi:=⟨some 36,_,_,_,_,_⟩) rfl (by kernel_rfl) (by kernel_rfl) (by kernel_rfl) (by kernel_rfl) (fun _ _ _ h=>h) hH0 (by rfl) ?_
  try simp only [Act.put,sT,sZ,sS]
  refine zD (i:=7) (oi:=⟨some 37,_,_,_,_,_⟩) rfl (by kernel_rfl) (by kernel_rfl) (by kernel_rfl) (by kernel_rfl) (fun _ _ _ h=>h) hH0 (by rfl) ?_
  try simp only [Act.put,sT,sZ,sS]
  refine zD (i:=8) (oi:=⟨some 38,_,_,_,_,_⟩) rfl (by kernel_rfl) (by kernel_rfl) (by kernel_rfl) (by kernel_rfl) (fun _ _ _ h=>h) hH0 (by rfl) ?_
  try simp only [Act.put,sT,sZ,sS]
  refine zD (i:=9) (oi:=⟨some 39,_,_,_,_,_⟩) rfl (by kernel_rfl) (by kernel_rfl) (by kernel_rfl) (by kernel_rfl) (fun _ _ _ h=>h) hH0 (by rfl) ?_
  try simp only [Act.put,sT,sZ,sS]
  refine zD (i:=10) (oi:=⟨some 40,_,_,_,_,_⟩) rfl (by kernel_rfl) (by kernel_rfl) (by kernel_rfl) (by kernel_rfl) (fun _ _ _ h=>h) hH0 (by rfl) ?_
  try simp only [Act.put,sT,sZ,sS]
  refine zD (i:=11) (oi:=⟨some 41,_,_,_,_,_⟩) rfl (by kernel_rfl) (by kernel_rfl) (by kernel_rfl) (by kernel_rfl) (fun _ _ _ h=>h) hH0 (by rfl) ?_
  try simp only [Act.put,sT,sZ,sS]
  refine' tkR 12 42 hH0 ?o9
  refine' tkR 13 43 hH0 ?o10
  refine zD (i:=14) (oi:=⟨some 44,_,_,_,_,_⟩) rfl (by kernel_rfl) (by kernel_rfl) (by kernel_rfl) (by kernel_rfl) (fun _ _ _ h=>h) hH0 (by rfl) ?_
  try simp only [Act.put,sT,sZ,sS]
  refine zD (i:=15) (oi:=⟨some 45,_,_,_,_,_⟩) rfl (by kernel_rfl) (by kernel_rfl) (by kernel_rfl) (by kernel_rfl) (fun _ _ _ h=>h) hH0 (by rfl) ?_
  try simp only [Act.put,sT,sZ,sS]
  refine zD (i:=16) (oi:=⟨some 46,_,_,_,_,_⟩) rfl (by kernel_rfl) (by kernel_rfl) (by kernel_rfl) (by kernel_rfl) (fun _ _ _ h=>h) hH0 (by rfl) ?_
  try simp only [Act.put,sT,sZ,sS]
  refine zD (i:=17) (oi:=⟨some 47,_,_,_,_,_⟩) rfl (by kernel_rfl) (by kernel_rfl) (by kernel_rfl) (by kernel_rfl) (fun _ _ _ h=>h) hH0 (by rfl) ?_
  try simp only [Act.put,sT,sZ,sS]
  refine zD (i:=18) (oi:=⟨some 48,_,_,_,_,_⟩) rfl (by kernel_rfl) (by kernel_rfl) (by kernel_rfl) (by kernel_rfl) (fun _ _ _ h=>h) hH0 (by rfl) ?_
  try simp only [Act.put,sT,sZ,sS]
  refine zD (i:=19) (oi:=⟨some 49,_,_,_,_,_⟩) rfl (by kernel_rfl) (by kernel_rfl) (by kernel_rfl) (by kernel_rfl) (fun _ _ _ h=>h) hH0 (by rfl) ?_
  try simp only [Act.put,sT,sZ,sS]
  refine zD (i:=20) (oi:=⟨some 50,_,_,_,_,_⟩) rfl (by kernel_rfl) (by kernel_rfl) (by kernel_rfl) (by kernel_rfl) (fun _ _ _ h=>h) hH0 (by rfl) ?_
  try simp only [Act.put,sT,sZ,sS]
  refine zD (i:=21) (oi:=⟨some 51,_,_,_,_,_⟩) rfl (by kernel_rfl) (by kernel_rfl) (by kernel_rfl) (by kernel_rfl) (fun _ _ _ h=>h) hH0 (by rfl) ?_
  try simp only [Act.put,sT,sZ,sS]
  refine zD (i:=22) (oi:=⟨some 52,_,_,_,_,_⟩) rfl (by kernel_rfl) (by kernel_rfl) (by kernel_rfl) (by kernel_rfl) (fun _ _ _ h=>h) hH0 (by rfl) ?_
  try simp only [Act.put,sT,sZ,sS]
  refine' tkR 23 53 hH0 ?o11
  refine' tkR 24 7 hH0 ?o12
  refine zI (by kernel_rfl) ?_ _;go_wp2;go_ret;exact ⟨by simp,hX.trans (hH0.mono hX.size)⟩
 case true=>
  refine' tkQ 4 22 hH0 ?hyv ?o13
  case hyv=>
   intro wz hSw;have zc0:=(hSw.cell (p:=⟨pg,0,none⟩) yg).trans g0;have zc1:=(hSw.cell (p:=⟨pe,0,none⟩) ye).trans e0;have zc2:=(hSw.cell (p:=⟨pa,0,none⟩) ya).trans a0;have zc3:=(hSw.cell (p:=⟨pf,0,none⟩) yf).trans f0;have zc4:=(hSw.cell (p:=⟨pm,0,none⟩) ym).trans m0;have zc5:=(hSw.cell (p:=⟨gb,4,none⟩) yG).trans c4;have zc6:=(hSw.cell (p:=⟨gb,5,none⟩) yG).trans c5;have zc7:=(hSw.cell (p:=⟨ga,o,none⟩) yA).trans cA;have zc8:=(hSw.cell (p:=⟨sg,o*2+1,none⟩) yS).trans cS;go_simp
   try rfl
  try simp only [Act.put,sT,sZ,sS]
  refine' tkR 5 23 hH0 ?o14
  refine' tkQ 6 24 hH0 ?hyv ?o15
  case hyv=>
   intro wz hSw;have zc0:=(hSw.cell (p:=⟨pg,0,none⟩) yg).trans g0;have zc1:=(hSw.cell (p:=⟨pe,0,none⟩) ye).trans e0;have zc2:=(hSw.cell (p:=⟨pa,0,none⟩) ya).trans a0;have zc3:=(hSw.cell (p:=⟨pf,0,none⟩) yf).trans f0;have zc4:=(hSw.cell (p:=⟨pm,0,none⟩) ym).trans m0;have zc5:=(hSw.cell (p:=⟨gb,4,none⟩) yG).trans c4;have zc6:=(hSw.cell (p:=⟨gb,5,none⟩) yG).trans c5;have zc7:=(hSw.cell (p:=⟨ga,o,none⟩) yA).trans cA;have zc8:=(hSw.cell (p:=⟨sg,o*2+1,none⟩) yS).trans cS;go_simp
   try rfl
  try simp only [Act.put,sT,sZ,sS]
  refine' tkR 7 25 hH0 ?o16
  refine tnQ 8 (fun K hK=>?_);go_simp;refine (HW.out wd0 hH0).mono ?_;rintro eq wd1 ⟨rfl,bq1⟩;have hH1:Below w.heap.size w wd1:=hH0.trans (bq1.mono hH0.size);refine hK.out _ _ (fun _=>hH1) ?_;clear hK K
  try simp only [Act.put,sT,sZ,sS]
  refine' tkR 9 27 hH1 ?o17
  refine' zM (i:=10) (oi:=⟨some 28,_,_,_,_,_⟩) (v:=.bool q2) rfl (by kernel_rfl) (by kernel_rfl) (by kernel_rfl) (by kernel_rfl) (fun _ _ _ h=>h) hH1 (by rfl) ?hyv ?o18
  case hyv=>
   intro wz hSw;go_simp;rw [HQ2.out,i64_in _ ⟨by omega,by omega⟩]
  try simp only [Act.put,sT,sZ,sS]
  refine' tkR 11 29 hH1 ?o19
  refine' tkR 12 9 hH1 ?o20
  refine zI (by kernel_rfl) ?_ _;obtain ⟨wx,hwx⟩:=nmQ (wd1);subst hwx;have hX:=hH1;have g0x:=(hX.cell (p:=⟨pg,0,none⟩) yg).trans g0;have ygx0:=Nat.lt_of_lt_of_le yg hX.size;have e0x:=(hX.cell (p:=⟨pe,0,none⟩) ye).trans e0;have yex1:=Nat.lt_of_lt_of_le ye hX.size;have a0x:=(hX.cell (p:=⟨pa,0,none⟩) ya).trans a0;have yax2:=Nat.lt_of_lt_of_le ya hX.size;have f0x:=(hX.cell (p:=⟨pf,0,none⟩) yf).trans f0;have yfx3:=Nat.lt_of_lt_of_le yf hX.size;have m0x:=(hX.cell (p:=⟨pm,0,none⟩) ym).trans m0;have ymx4:=Nat.lt_of_lt_of_le ym hX.size;have c4x:=(hX.cell (p:=⟨gb,4,none⟩) yG).trans c4;have yGx5:=Nat.lt_of_lt_of_le yG hX.size;have c5x:=(hX.cell (p:=⟨gb,5,none⟩) yG).trans c5;have yGx6:=Nat.lt_of_lt_of_le yG hX.size;have cAx:=(hX.cell (p:=⟨ga,o,none⟩) yA).trans cA;have yAx7:=Nat.lt_of_lt_of_le yA hX.size;have cSx:=(hX.cell (p:=⟨sg,o*2+1,none⟩) yS).trans cS;have ySx8:=Nat.lt_of_lt_of_le yS hX.size;clear g0 e0 a0 f0 m0 c4 c5 cA cS;go_upto_region 3 with fail;refine zK (fun w'=>Below wx.heap.size wx w') (fun _=>false) (by kernel_rfl) ?_;have hH0:Below wx.heap.size wx wx.drew:=(Below.refl _ _).drew;generalize wx.drew=wd0 at hH0 ⊢;refine' tkR 0 30 hH0 ?o21
  refine' tkR 1 31 hH0 ?o22
  cases q2
  case false=>
   refine zD (i:=2) (oi:=⟨some 32,_,_,_,_,_⟩) rfl (by kernel_rfl) (by kernel_rfl) (by kernel_rfl) (by kernel_rfl) (fun _ _ _ h=>h) hH0 (by rfl) ?_
   try simp only [Act.put,sT,sZ,sS]
   refine zD (i:=3) (oi:=⟨some 33,_,_,_,_,_⟩) rfl (by kernel_rfl) (by kernel_rfl) (by kernel_rfl) (by kernel_rfl) (fun _ _ _ h=>h) hH0 (by rfl) ?_
   try simp only [Act.put,sT,sZ,sS]
   refine zD (i:=4) (oi:=⟨some 34,_,_,_,_,_⟩) rfl (by kernel_rfl) (by kernel_rfl) (by kernel_rfl) (by kernel_rfl) (fun _ _ _ h=>h) hH0 (by rfl) ?_
   try simp only [Act.put,sT,sZ,sS]
   refine zD (i:=5) (oi:=⟨some 35,_,_,_,_,_⟩) rfl (by kernel_rfl) (by kernel_rfl) (by kernel_rfl) (by kernel_rfl) (fun _ _ _ h=>h) hH0 (by rfl) ?_
   try simp only [Act.put,sT,sZ,sS]
   refine zD (i:=6) (oi:=⟨some 36,_,_,_,_,_⟩) rfl (by kernel_rfl) (by kernel_rfl) (by kernel_rfl) (by kernel_rfl) (fun _ _ _ h=>h) hH0 (by rfl) ?_
   try simp only [Act.put,sT,sZ,sS]
   refine zD (i:=7) (oi:=⟨some 37,_,_,_,_,_⟩) rfl (by kernel_rfl) (by kernel_rfl) (by kernel_rfl) (by kernel_rfl) (fun _ _ _ h=>h) hH0 (by rfl) ?_
   try simp only [Act.put,sT,sZ,sS]
   refine zD (i:=8) (oi:=⟨some 38,_,_,_,_,_⟩) rfl (by kernel_rfl) (by kernel_rfl) (by kernel_rfl) (by kernel_rfl) (fun _ _ _ h=>h) hH0 (by rfl) ?_
   try simp only [Act.put,sT,sZ,sS]
   refine zD (i:=9) (oi:=⟨some 39,_,_,_,_,_⟩) rfl (by kernel_rfl) (by kernel_rfl) (by kernel_rfl) (by kernel_rfl) (fun _ _ _ h=>h) hH0 (by rfl) ?_
   try simp only [Act.put,sT,sZ,sS]
   refine zD (i:=10) (oi:=⟨some 40,_,_,_,_,_⟩) rfl (by kernel_rfl) (by kernel_rfl) (by kernel_rfl) (by kernel_rfl) (fun _ _ _ h=>h) hH0 (by rfl) ?_
   try simp only [Act.put,sT,sZ,sS]
   refine zD (i:=11) (oi:=⟨some 41,_,_,_,_,_⟩) rfl (by kernel_rfl) (by kernel_rfl) (by kernel_rfl) (by kernel_rfl) (fun _ _ _ h=>h) hH0 (by rfl) ?_
   try simp only [Act.put,sT,sZ,sS]
   refine' tkR 12 42 hH0 ?o23
   refine' tkR 13 43 hH0 ?o24
   refine zD (i:=14) (oi:=⟨some 44,_,_,_,_,_⟩) rfl (by kernel_rfl) (by kernel_rfl) (by kernel_rfl) (by kernel_rfl) (fun _ _ _ h=>h) hH0 (by rfl) ?_
   try simp only [Act.put,sT,sZ,sS]
   refine zD (i:=15) (oi:=⟨some 45,_,_,_,_,_⟩) rfl (by kernel_rfl) (by kernel_rfl) (by kernel_rfl) (by kernel_rfl) (fun _ _ _ h=>h) hH0 (by rfl) ?_
   try simp only [Act.put,sT,sZ,sS]
   refine zD (i:=16) (oi:=⟨some 46,_,_,_,_,_⟩) rfl (by kernel_rfl) (by kernel_rfl) (by kernel_rfl) (by kernel_rfl) (fun _ _ _ h=>h) hH0 (by rfl) ?_
   try simp only [Act.put,sT,sZ,sS]
   refine zD (i:=17) (oi:=⟨some 47,_,_,_,_,_⟩) rfl (by kernel_rfl) (by kernel_rfl) (by kernel_rfl) (by kernel_rfl) (fun _ _ _ h=>h) hH0 (by rfl) ?_
   try simp only [Act.put,sT,sZ,sS]
   refine zD (i:=18) (oi:=⟨some 48,_,_,_,_,_⟩) rfl (by kernel_rfl) (by kernel_rfl) (by kernel_rfl) (by kernel_rfl) (fun _ _ _ h=>h) hH0 (by rfl) ?_
   try simp only [Act.put,sT,sZ,sS]
   refine zD (i:=19) (oi:=⟨some 49,_,_,_,_,_⟩) rfl (by kernel_rfl) (by kernel_rfl) (by kernel_rfl) (by kernel_rfl) (fun _ _ _ h=>h) hH0 (by rfl) ?_
   try simp only [Act.put,sT,sZ,sS]
   refine zD (i:=20) (oi:=⟨some 50,_,_,_,_,_⟩) rfl (by kernel_rfl) (by kernel_rfl) (by kernel_rfl) (by kernel_rfl) (fun _ _ _ h=>h) hH0 (by rfl) ?_
   try simp only [Act.put,sT,sZ,sS]
   refine zD (i:=21) (oi:=⟨some 51,_,_,_,_,_⟩) rfl (by kernel_rfl) (by kernel_rfl) (by kernel_rfl) (by kernel_rfl) (fun _ _ _ h=>h) hH0 (by rfl) ?_
   try simp only [Act.put,sT,sZ,sS]
   refine zD (i:=22) (oi:=⟨some 52,_,_,_,_,_⟩) rfl (by kernel_rfl) (by kernel_rfl) (by kernel_rfl) (by kernel_rfl) (fun _ _ _ h=>h) hH0 (by rfl) ?_
   try simp only [Act.put,sT,sZ,sS]
   refine' tkR 23 53 hH0 ?o25
   refine' tkR 24 7 hH0 ?o26
   refine zI (by kernel_rfl) ?_ _;go_wp2;go_ret;exact ⟨by simp,hX.trans (hH0.mono hX.size)⟩
  case true=>
   refine' tkQ 2 32 hH0 ?hyv ?o27
   case hyv=>
    intro wz hSw;have zc0:=(hSw.cell (p:=⟨pg,0,none⟩) ygx0).trans g0x;have zc1:=(hSw.cell (p:=⟨pe,0,none⟩) yex1).trans e0x;have zc2:=(hSw.cell (p:=⟨pa,0,none⟩) yax2).trans a0x;have zc3:=(hSw.cell (p:=⟨pf,0,none⟩) yfx3).trans f0x;have zc4:=(hSw.cell (p:=⟨pm,0,none⟩) ymx4).trans m0x;have zc5:=(hSw.cell (p:=⟨gb,4,none⟩) yGx5).trans c4x;have zc6:=(hSw.cell (p:=⟨gb,5,none⟩) yGx6).trans c5x;have zc7:=(hSw.cell (p:=⟨ga,o,none⟩) yAx7).trans cAx;have zc8:=(hSw.cell (p:=⟨sg,o*2+1,none⟩) ySx8).trans cSx;go_simp
    try rfl
   try simp only [Act.put,sT,sZ,sS]
   refine' tkR 3 33 hH0 ?o28
   refine' tkR 4 34 hH0 ?o29
   refine' tkQ 5 35 hH0 ?hyv ?o30
   case hyv=>
    intro wz hSw;have zc0:=(hSw.cell (p:=⟨pg,0,none⟩) ygx0).trans g0x;have zc1:=(hSw.cell (p:=⟨pe,0,none⟩) yex1).trans e0x;have zc2:=(hSw.cell (p:=⟨pa,0,none⟩) yax2).trans a0x;have zc3:=(hSw.cell (p:=⟨pf,0,none⟩) yfx3).trans f0x;have zc4:=(hSw.cell (p:=⟨pm,0,none⟩) ymx4).trans m0x;have zc5:=(hSw.cell (p:=⟨gb,4,none⟩) yGx5).trans c4x;have zc6:=(hSw.cell (p:=⟨gb,5,none⟩) yGx6).trans c5x;have zc7:=(hSw.cell (p:=⟨ga,o,none⟩) yAx7).trans cAx;have zc8:=(hSw.cell (p:=⟨sg,o*2+1,none⟩) ySx8).trans cSx;go_simp
    try rfl
   try simp only [Act.put,sT,sZ,sS]
   refine' tkR 6 36 hH0 ?o31
   refine' tkR 7 37 hH0 ?o32
   refine' tkR 8 38 hH0 ?o33
   refine' tkQ 9 39 hH0 ?hyv ?o34
   case hyv=>
    intro wz hSw;have zc0:=(hSw.cell (p:=⟨pg,0,none⟩) ygx0).trans g0x;have zc1:=(hSw.cell (p:=⟨pe,0,none⟩) yex1).trans e0x;have zc2:=(hSw.cell (p:=⟨pa,0,none⟩) yax2).trans a0x;have zc3:=(hSw.cell (p:=⟨pf,0,none⟩) yfx3).trans f0x;have zc4:=(hSw.cell (p:=⟨pm,0,none⟩) ymx4).trans m0x;have zc5:=(hSw.cell (p:=⟨gb,4,none⟩) yGx5).trans c4x;have zc6:=(hSw.cell (p:=⟨gb,5,none⟩) yGx6).trans c5x;have zc7:=(hSw.cell (p:=⟨ga,o,none⟩) yAx7).trans cAx;have zc8:=(hSw.cell (p:=⟨sg,o*2+1,none⟩) ySx8).trans cSx;go_simp
    try rfl
   try simp only [Act.put,sT,sZ,sS]
   refine' tkQ 10 40 hH0 ?hyv ?o35
   case hyv=>
    intro wz hSw;have zc0:=(hSw.cell (p:=⟨pg,0,none⟩) ygx0).trans g0x;have zc1:=(hSw.cell (p:=⟨pe,0,none⟩) yex1).trans e0x;have zc2:=(hSw.cell (p:=⟨pa,0,none⟩) yax2).trans a0x;have zc3:=(hSw.cell (p:=⟨pf,0,none⟩) yfx3).trans f0x;have zc4:=(hSw.cell (p:=⟨pm,0,none⟩) ymx4).trans m0x;have zc5:=(hSw.cell (p:=⟨gb,4,none⟩) yGx5).trans c4x;have zc6:=(hSw.cell (p:=⟨gb,5,none⟩) yGx6).trans c5x;have zc7:=(hSw.cell (p:=⟨ga,o,none⟩) yAx7).trans cAx;have zc8:=(hSw.cell (p:=⟨sg,o*2+1,none⟩) ySx8).trans cSx;go_simp
    try rfl
   try simp only [Act.put,sT,sZ,sS]
   refine' zM (i:=11) (oi:=⟨some 41,_,_,_,_,_⟩) (v:=.bool q3) rfl (by kernel_rfl) (by kernel_rfl) (by kernel_rfl) (by kernel_rfl) (fun _ _ _ h=>h) hH0 (by rfl) ?hyv ?o36
   case hyv=>
    intro wz hSw;go_simp;rw [HQ3.out]
    try rfl
   try simp only [Act.put,sT,sZ,sS]
   refine' tkR 12 42 hH0 ?o37
   refine' tkR 13 43 hH0 ?o38
   cases q3
   case false=>
    refine zD (i:=14) (oi:=⟨some 44,_,_,_,_,_⟩) rfl (by kernel_rfl) (by kernel_rfl) (by kernel_rfl) (by kernel_rfl) (fun _ _ _ h=>h) hH0 (by rfl) ?_
    try simp only [Act.put,sT,sZ,sS]
    refine zD (i:=15) (oi:=⟨some 45,_,_,_,_,_⟩) rfl (by kernel_rfl) (by kernel_rfl) (by kernel_rfl) (by kernel_rfl) (fun _ _ _ h=>h) hH0 (by rfl) ?_
    try simp only [Act.put,sT,sZ,sS]
    refine zD (i:=16) (oi:=⟨some 46,_,_,_,_,_⟩) rfl (by kernel_rfl) (by kernel_rfl) (by kernel_rfl) (by kernel_rfl) (fun _ _ _ h=>h) hH0 (by rfl) ?_
    try simp only [Act.put,sT,sZ,sS]
    refine zD (i:=17) (oi:=⟨some 47,_,_,_,_,_⟩) rfl (by kernel_rfl) (by kernel_rfl) (by kernel_rfl) (by kernel_rfl) (fun _ _ _ h=>h) hH0 (by rfl) ?_
    try simp only [Act.put,sT,sZ,sS]
    refine zD (i:=18) (oi:=⟨some 48,_,_,_,_,_⟩) rfl (by kernel_rfl) (by kernel_rfl) (by kernel_rfl) (by kernel_rfl) (fun _ _ _ h=>h) hH0 (by rfl) ?_
    try simp only [Act.put,sT,sZ,sS]
    refine zD (i:=19) (oi:=⟨some 49,_,_,_,_,_⟩) rfl (by kernel_rfl) (by kernel_rfl) (by kernel_rfl) (by kernel_rfl) (fun _ _ _ h=>h) hH0 (by rfl) ?_
    try simp only [Act.put,sT,sZ,sS]
    refine zD (i:=20) (oi:=⟨some 50,_,_,_,_,_⟩) rfl (by kernel_rfl) (by kernel_rfl) (by kernel_rfl) (by kernel_rfl) (fun _ _ _ h=>h) hH0 (by rfl) ?_
    try simp only [Act.put,sT,sZ,sS]
    refine zD (i:=21) (oi:=⟨some 51,_,_,_,_,_⟩) rfl (by kernel_rfl) (by kernel_rfl) (by kernel_rfl) (by kernel_rfl) (fun _ _ _ h=>h) hH0 (by rfl) ?_
    try simp only [Act.put,sT,sZ,sS]
    refine zD (i:=22) (oi:=⟨some 52,_,_,_,_,_⟩) rfl (by kernel_rfl) (by kernel_rfl) (by kernel_rfl) (by kernel_rfl) (fun _ _ _ h=>h) hH0 (by rfl) ?_
    try simp only [Act.put,sT,sZ,sS]
    refine' tkR 23 53 hH0 ?o39
    refine' tkR 24 7 hH0 ?o40
    refine zI (by kernel_rfl) ?_ _;go_wp2;go_ret;exact ⟨by simp,hX.trans (hH0.mono hX.size)⟩
   case true=>
    refine' tkR 14 44 hH0 ?o41
    refine' tkQ 15 45 hH0 ?hyv ?o42
    case hyv=>
     intro wz hSw;have zc0:=(hSw.cell (p:=⟨pg,0,none⟩) ygx0).trans g0x;have zc1:=(hSw.cell (p:=⟨pe,0,none⟩) yex1).trans e0x;have zc2:=(hSw.cell (p:=⟨pa,0,none⟩) yax2).trans a0x;have zc3:=(hSw.cell (p:=⟨pf,0,none⟩) yfx3).trans f0x;have zc4:=(hSw.cell (p:=⟨pm,0,none⟩) ymx4).trans m0x;have zc5:=(hSw.cell (p:=⟨gb,4,none⟩) yGx5).trans c4x;have zc6:=(hSw.cell (p:=⟨gb,5,none⟩) yGx6).trans c5x;have zc7:=(hSw.cell (p:=⟨ga,o,none⟩) yAx7).trans cAx;have zc8:=(hSw.cell (p:=⟨sg,o*2+1,none⟩) ySx8).trans cSx;go_simp
     try rfl
    try simp only [Act.put,sT,sZ,sS]
    refine' zM (i:=16) (oi:=⟨some 46,_,_,_,_,_⟩) (v:=.bool q4) rfl (by kernel_rfl) (by kernel_rfl) (by kernel_rfl) (by kernel_rfl) (fun _ _ _ h=>h) hH0 (by rfl) ?hyv ?o43
    case hyv=>
     intro wz hSw;go_simp;rw [HQ4.out]
     try rfl
    try simp only [Act.put,sT,sZ,sS]
    refine' tkR 17 47 hH0 ?o44
    cases q4
    case false=>
     refine zD (i:=18) (oi:=⟨some 48,_,_,_,_,_⟩) rfl (by kernel_rfl) (by kernel_rfl) (by kernel_rfl) (by kernel_rfl) (fun _ _ _ h=>h) hH0 (by rfl) ?_
     try simp only [Act.put,sT,sZ,sS]
     refine zD (i:=19) (oi:=⟨some 49,_,_,_,_,_⟩) rfl (by kernel_rfl) (by kernel_rfl) (by kernel_rfl) (by kernel_rfl) (fun _ _ _ h=>h) hH0 (by rfl) ?_
     try simp only [Act.put,sT,sZ,sS]
     refine zD (i:=20) (oi:=⟨some 50,_,_,_,_,_⟩) rfl (by kernel_rfl) (by kernel_rfl) (by kernel_rfl) (by kernel_rfl) (fun _ _ _ h=>h) hH0 (by rfl) ?_
     try simp only [Act.put,sT,sZ,sS]
     refine' tkR 21 51 hH0 ?o45
     refine' tkR 22 52 hH0 ?o46
     refine' tkR 23 53 hH0 ?o47
     refine' tkR 24 7 hH0 ?o48
     refine zI (by kernel_rfl) ?_ _;go_wp2;go_ret;exact ⟨by simp,hX.trans (hH0.mono hX.size)⟩
    case true=>
     refine' tkQ 18 48 hH0 ?hyv ?o49
     case hyv=>
      intro wz hSw;have zc0:=(hSw.cell (p:=⟨pg,0,none⟩) ygx0).trans g0x;have zc1:=(hSw.cell (p:=⟨pe,0,none⟩) yex1).trans e0x;have zc2:=(hSw.cell (p:=⟨pa,0,none⟩) yax2).trans a0x;have zc3:=(hSw.cell (p:=⟨pf,0,none⟩) yfx3).trans f0x;have zc4:=(hSw.cell (p:=⟨pm,0,none⟩) ymx4).trans m0x;have zc5:=(hSw.cell (p:=⟨gb,4,none⟩) yGx5).trans c4x;have zc6:=(hSw.cell (p:=⟨gb,5,none⟩) yGx6).trans c5x;have zc7:=(hSw.cell (p:=⟨ga,o,none⟩) yAx7).trans cAx;have zc8:=(hSw.cell (p:=⟨sg,o*2+1,none⟩) ySx8).trans cSx;go_simp
      try rfl
     try simp only [Act.put,sT,sZ,sS]
     refine' tkR 19 49 hH0 ?o50
     refine tnQ 20 (fun K hK=>?_);go_simp;refine (HM.out wd0 (hX.trans (hH0.mono hX.size))).mono ?_;rintro eq wd1 ⟨rfl,bq1⟩;have hH1:Below wx.heap.size wx wd1:=hH0.trans (bq1.mono hH0.size);refine hK.out _ _ (fun _=>hH1) ?_;clear hK K
     try simp only [Act.put,sT,sZ,sS]
     refine' tkR 21 51 hH1 ?o51
     refine' tkR 22 52 hH1 ?o52
     refine' tkR 23 53 hH1 ?o53
     refine' tkR 24 7 hH1 ?o54
     refine zI (by kernel_rfl) ?_ _;go_wp2;go_ret;exact ⟨by simp,hX.trans (hH1.mono hX.size)⟩
end Go.Proofs.YtegakbobaecdlaaGreatDoor
