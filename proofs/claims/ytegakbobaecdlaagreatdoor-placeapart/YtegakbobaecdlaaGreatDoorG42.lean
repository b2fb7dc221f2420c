import Derived.Test.YtegakbobaecdlaaGreatDoorG41
import Derived.Test.YtegakbobaecdlaaGreatDoorG32
set_option linter.unusedVariables false
set_option linter.unusedSimpArgs false
set_option maxHeartbeats 64000000
set_option maxRecDepth 100000
namespace Go.Proofs.YtegakbobaecdlaaGreatDoor
open Go.RowKit Go.IntWalk
theorem eg73:∀ args w,(callFunc 73 args).run Tryz.prog w=.ok (.enter 73 args) w:=enters_of Tryz.func73 (by kernel_rfl) rfl
theorem eg75:∀ args w,(callFunc 75 args).run Tryz.prog w=.ok (.enter 75 args) w:=enters_of Tryz.func75 (by kernel_rfl) rfl
theorem may73_any (o:Int) (w:World):Calls Tryz.prog 73 #[.int .i64 o] w fun e w'=>e=.returned (.bool false)/\Below w.heap.size w w':=by
 go_enter Tryz.func73,Tryz.ntmps73;go_wp2;go_ret;exact ⟨rfl,Below.refl _ _⟩
theorem may75_any {B:Nat} {w:World} {gb:Nat} {x:GdV} {S:Sk.Sys} {KL:List Int} {b:Nat} {st:Sk.St} {vL:Value} {pg pn pr:Nat} {num:Int} {r:Sk.Ru} {y:RuV} (h:Gnd B w gb x S KL b st vL) (kg:w.heap[pg]?=some (.cells #[.pointer (some ⟨gb,0,none⟩)] 82 (0,0))) (kn:w.heap[pn]?=some (.cells #[.int .i64 num] 3 (0,0))) (kr:w.heap[pr]?=some (.cells #[.int .i64 r.op,.int .i64 r.k,.int .i64 r.out,.int .i64 r.n,.slice y.aA y.nA y.cA,.slice y.aE y.nE y.cE] 40 (0,0))) (hR:HRu (fun k=>k<B) w y r) (hr:0<=r.out/\r.out<S.V.length) (o:Nat) (ho:o<S.V.length) (hvl:S.V.length<=400) :
  Calls Tryz.prog 75 #[.int .i64 (o:Int),.pointer (some ⟨pg,0,none⟩),.pointer (some ⟨pn,0,none⟩),.pointer (some ⟨pr,0,none⟩)] w fun e w'=>e=.returned (.bool (((Sk.spAt (Sk.spans S) (o:Int)).2==num)&&Sk.over S r (o:Int)))/\Below w.heap.size w w':=by
 obtain ⟨aV,cV,aI,cI,aO,cO,aR,cR,sg,ga,gk⟩:=x;obtain ⟨c0,c1,c2,c3,c4,-,-,-,-,-⟩:=h.gd.cells
 dsimp only at c0 c1 c2 c3 c4
 have yG:=zH h.gd;have hos:o<(Sk.spans S).length:=(by rw [h.spl];exact ho);have cS:=(h.sp.at hos).2;have yS:=h.sp.lt
 dsimp only at cS yS
 have eS:(Sk.spAt (Sk.spans S) (o:Int)).2=((Sk.spans S)[o]).2:=by
  unfold Sk.spAt;rw [Int.toNat_natCast,List.getD_eq_getElem?_getD,List.getElem?_eq_getElem hos];rfl
 rw [<-eS] at cS;have HOV:=zG (fun (W:World) (hW:Below w.heap.size w W)=>over_any (h.under hW).sys (hR.under hW) hr o ho);generalize (Sk.spAt (Sk.spans S) (o:Int)).2=tO at cS ⊢;generalize Sk.over S r (o:Int)=q2 at HOV ⊢;obtain ⟨q1,hq1⟩:=nmQ ((tO==num));rw [<-hq1];have HQ1:=zG hq1;clear hq1 eS h hR hr;obtain ⟨op,rk,out,rn,A',E⟩:=r;obtain ⟨aA,nA,cA,aE,nE,cE⟩:=y
 dsimp only at kr HOV
 have g0:=coQ kg 0;have n0:=coQ kn 0;have r0:=coQ kr 0;have r1:=coQ kr 1;have r2:=coQ kr 2;have r3:=coQ kr 3;have r4:=coQ kr 4;have r5:=coQ kr 5;simp at g0 n0 r0 r1 r2 r3 r4 r5;have yg:=zH kg;have yn:=zH kn;have yr:=zH kr;clear kg kn kr;go_enter Tryz.func75,Tryz.ntmps75;go_upto_region 1 with fail;refine zK (fun w'=>Below w.heap.size w w') (fun _=>false) (by kernel_rfl) ?_;have hH0:Below w.heap.size w w.drew:=(Below.refl _ _).drew;generalize w.drew=wd0 at hH0 ⊢;refine' tkQ 0 6 hH0 ?hyv ?o1
 case hyv=>
  intro wz hSw;have zc0:=(hSw.cell (p:=⟨pg,0,none⟩) yg).trans g0;have zc1:=(hSw.cell (p:=⟨pn,0,none⟩) yn).trans n0;have zc2:=(hSw.cell (p:=⟨gb,0,none⟩) yG).trans c0;have zc3:=(hSw.cell (p:=⟨gb,1,none⟩) yG).trans c1;have zc4:=(hSw.cell (p:=⟨gb,2,none⟩) yG).trans c2;have zc5:=(hSw.cell (p:=⟨gb,3,none⟩) yG).trans c3;have zc6:=(hSw.cell (p:=⟨gb,4,none⟩) yG).trans c4;have zc7:=(hSw.cell (p:=⟨sg,o*2+1,none⟩) yS).trans cS;have zc8:=(hSw.cell (p:=⟨pr,0,none⟩) yr).trans r0;have zc9:=(hSw.cell (p:=⟨pr,1,none⟩) yr).trans r1;have zc10:=(hSw.cell (p:=⟨pr,2,none⟩) yr).trans r2;have zc11:=(hSw.cell (p:=⟨pr,3,none⟩) yr).trans r3;have zc12:=(hSw.cell (p:=⟨pr,4,none⟩) yr).trans r4;have zc13:=(hSw.cell (p:=⟨pr,5,none⟩) yr).trans r5;go_simp
  try rfl
 try simp only [Act.put,sT,sZ,sS]
 refine' tkR 1 7 hH0 ?o2
 refine' tkR 2 8 hH0 ?o3
 refine' tkQ 3 9 hH0 ?hyv ?o4
 case hyv=>
  intro wz hSw;have zc0:=(hSw.cell (p:=⟨pg,0,none⟩) yg).trans g0;have zc1:=(hSw.cell (p:=⟨pn,0,none⟩) yn).trans n0;have zc2:=(hSw.cell (p:=⟨gb,0,none⟩) yG).trans c0;have zc3:=(hSw.cell (p:=⟨gb,1,none⟩) yG).trans c1;have zc4:=(hSw.cell (p:=⟨gb,2,none⟩) yG).trans c2;have zc5:=(hSw.cell (p:=⟨gb,3,none⟩) yG).trans c3;have zc6:=(hSw.cell (p:=⟨gb,4,none⟩) yG).trans c4;have zc7:=(hSw.cell (p:=⟨sg,o*2+1,none⟩) yS).trans cS;have zc8:=(hSw.cell (p:=⟨pr,0,none⟩) yr).trans r0;have zc9:=(hSw.cell (p:=⟨pr,1,none⟩) yr).trans r1;have zc10:=(hSw.cell (p:=⟨pr,2,none⟩) yr).trans r2;have zc11:=(hSw.cell (p:=⟨pr,3,none⟩) yr).trans r3;have zc12:=(hSw.cell (p:=⟨pr,4,none⟩) yr).trans r4;have zc13:=(hSw.cell (p:=⟨pr,5,none⟩) yr).trans r5;go_simp
  try rfl
 try simp only [Act.put,sT,sZ,sS]
 refine' tkR 4 10 hH0 ?o5
 refine' tkR 5 11 hH0 ?o6
 refine' tkR 6 12 hH0 ?o7
 refine' tkQ 7 13 hH0 ?hyv ?o8
 case hyv=>
  intro wz hSw;have zc0:=(hSw.cell (p:=⟨pg,0,none⟩) yg).trans g0;have zc1:=(hSw.cell (p:=⟨pn,0,none⟩) yn).trans n0;have zc2:=(hSw.cell (p:=⟨gb,0,none⟩) yG).trans c0;have zc3:=(hSw.cell (p:=⟨gb,1,none⟩) yG).trans c1;have zc4:=(hSw.cell (p:=⟨gb,2,none⟩) yG).trans c2;have zc5:=(hSw.cell (p:=⟨gb,3,none⟩) yG).trans c3;have zc6:=(hSw.cell (p:=⟨gb,4,none⟩) yG).trans c4;have zc7:=(hSw.cell (p:=⟨sg,o*2+1,none⟩) yS).trans cS;have zc8:=(hSw.cell (p:=⟨pr,0,none⟩) yr).trans r0;have zc9:=(hSw.cell (p:=⟨pr,1,none⟩) yr).trans r1;have zc10:=(hSw.cell (p:=⟨pr,2,none⟩) yr).trans r2;have zc11:=(hSw.cell (p:=⟨pr,3,none⟩) yr).trans r3;have zc12:=(hSw.cell (p:=⟨pr,4,none⟩) yr).trans r4;have zc13:=(hSw.cell (p:=⟨pr,5,none⟩) yr).trans r5;go_simp
  try rfl
 try simp only [Act.put,sT,sZ,sS]
 refine' tkQ 8 14 hH0 ?hyv ?o9
 case hyv=>
  intro wz hSw;have zc0:=(hSw.cell (p:=⟨pg,0,none⟩) yg).trans g0;have zc1:=(hSw.cell (p:=⟨pn,0,none⟩) yn).trans n0;have zc2:=(hSw.cell (p:=⟨gb,0,none⟩) yG).trans c0;have zc3:=(hSw.cell (p:=⟨gb,1,none⟩) yG).trans c1;have zc4:=(hSw.cell (p:=⟨gb,2,none⟩) yG).trans c2;have zc5:=(hSw.cell (p:=⟨gb,3,none⟩) yG).trans c3;have zc6:=(hSw.cell (p:=⟨gb,4,none⟩) yG).trans c4;have zc7:=(hSw.cell (p:=⟨sg,o*2+1,none⟩) yS).trans cS;have zc8:=(hSw.cell (p:=⟨pr,0,none⟩) yr).trans r0;have zc9:=(hSw.cell (p:=⟨pr,1,none⟩) yr).trans r1;have zc10:=(hSw.cell (p:=⟨pr,2,none⟩) yr).trans r2;have zc11:=(hSw.cell (p:=⟨pr,3,none⟩) yr).trans r3;have zc12:=(hSw.cell (p:=⟨pr,4,none⟩) yr).trans r4;have zc13:=(hSw.cell (p:=⟨pr,5,none⟩) yr).trans r5;go_simp
  try rfl
 try simp only [Act.put,sT,sZ,sS]
 refine' zM (i:=9) (oi:=⟨some 15,_,_,_,_,_⟩) (v:=.bool q1) rfl (by kernel_rfl) (by kernel_rfl) (by kernel_rfl) (by kernel_rfl) (fun _ _ _ h=>h) hH0 (by rfl) ?hyv ?o10
 case hyv=>
  intro wz hSw;go_simp;rw [HQ1.out]
  try rfl
 try simp only [Act.put,sT,sZ,sS]
 refine' tkR 10 16 hH0 ?o11
 cases q1
 case false=>
  refine zD (i:=11) (oi:=⟨some 17,_,_,_,_,_⟩) rfl (by kernel_rfl) (by kernel_rfl) (by kernel_rfl) (by kernel_rfl) (fun _ _ _ h=>h) hH0 (by rfl) ?_
  try simp only [Act.put,sT,sZ,sS]
  refine zD (i:=12) (oi:=⟨some 18,_,_,_,_,_⟩) rfl (by kernel_rfl) (by kernel_rfl) (by kernel_rfl) (by kernel_rfl) (fun _ _ _ h=>h) hH0 (by rfl) ?_
  try simp only [Act.put,sT,sZ,sS]
  refine zD (i:=13) (oi:=⟨some 19,_,_,_,_,_⟩) rfl (by kernel_rfl) (by kernel_rfl) (by kernel_rfl) (by kernel_rfl) (fun _ _ _ h=>h) hH0 (by rfl) ?_
  try simp only [Act.put,sT,sZ,sS]
  refine zD (i:=14) (oi:=⟨some 20,_,_,_,_,_⟩) rfl (by kernel_rfl) (by kernel_rfl) (by kernel_rfl) (by kernel_rfl) (fun _ _ _ h=>h) hH0 (by rfl) ?_
  try simp only [Act.put,sT,sZ,sS]
  refine zD (i:=15) (oi:=⟨some 21,_,_,_,_,_⟩) rfl (by kernel_rfl) (by kernel_rfl) (by kernel_rfl) (by kernel_rfl) (fun _ _ _ h=>h) hH0 (by rfl) ?_
  try simp only [Act.put,sT,sZ,sS]
  refine zD (i:=16) (oi:=⟨some 22,_,_,_,_,_⟩) rfl (by kernel_rfl) (by kernel_rfl) (by kernel_rfl) (by kernel_rfl) (fun _ _ _ h=>h) hH0 (by rfl) ?_
  try simp only [Act.put,sT,sZ,sS]
  refine zD (i:=17) (oi:=⟨some 23,_,_,_,_,_⟩) rfl (by kernel_rfl) (by kernel_rfl) (by kernel_rfl) (by kernel_rfl) (fun _ _ _ h=>h) hH0 (by rfl) ?_
  try simp only [Act.put,sT,sZ,sS]
  refine' tkR 18 24 hH0 ?o12
  refine' tkR 19 5 hH0 ?o13
  refine zI (by kernel_rfl) ?_ _;go_wp2;go_ret;exact ⟨by simp,hH0⟩
 case true=>
  refine' tkQ 11 17 hH0 ?hyv ?o14
  case hyv=>
   intro wz hSw;have zc0:=(hSw.cell (p:=⟨pg,0,none⟩) yg).trans g0;have zc1:=(hSw.cell (p:=⟨pn,0,none⟩) yn).trans n0;have zc2:=(hSw.cell (p:=⟨gb,0,none⟩) yG).trans c0;have zc3:=(hSw.cell (p:=⟨gb,1,none⟩) yG).trans c1;have zc4:=(hSw.cell (p:=⟨gb,2,none⟩) yG).trans c2;have zc5:=(hSw.cell (p:=⟨gb,3,none⟩) yG).trans c3;have zc6:=(hSw.cell (p:=⟨gb,4,none⟩) yG).trans c4;have zc7:=(hSw.cell (p:=⟨sg,o*2+1,none⟩) yS).trans cS;have zc8:=(hSw.cell (p:=⟨pr,0,none⟩) yr).trans r0;have zc9:=(hSw.cell (p:=⟨pr,1,none⟩) yr).trans r1;have zc10:=(hSw.cell (p:=⟨pr,2,none⟩) yr).trans r2;have zc11:=(hSw.cell (p:=⟨pr,3,none⟩) yr).trans r3;have zc12:=(hSw.cell (p:=⟨pr,4,none⟩) yr).trans r4;have zc13:=(hSw.cell (p:=⟨pr,5,none⟩) yr).trans r5;go_simp
   try rfl
  try simp only [Act.put,sT,sZ,sS]
  refine' tkR 12 18 hH0 ?o15
  refine' tkR 13 19 hH0 ?o16
  refine' tkQ 14 20 hH0 ?hyv ?o17
  case hyv=>
   intro wz hSw;have zc0:=(hSw.cell (p:=⟨pg,0,none⟩) yg).trans g0;have zc1:=(hSw.cell (p:=⟨pn,0,none⟩) yn).trans n0;have zc2:=(hSw.cell (p:=⟨gb,0,none⟩) yG).trans c0;have zc3:=(hSw.cell (p:=⟨gb,1,none⟩) yG).trans c1;have zc4:=(hSw.cell (p:=⟨gb,2,none⟩) yG).trans c2;have zc5:=(hSw.cell (p:=⟨gb,3,none⟩) yG).trans c3;have zc6:=(hSw.cell (p:=⟨gb,4,none⟩) yG).trans c4;have zc7:=(hSw.cell (p:=⟨sg,o*2+1,none⟩) yS).trans cS;have zc8:=(hSw.cell (p:=⟨pr,0,none⟩) yr).trans r0;have zc9:=(hSw.cell (p:=⟨pr,1,none⟩) yr).trans r1;have zc10:=(hSw.cell (p:=⟨pr,2,none⟩) yr).trans r2;have zc11:=(hSw.cell (p:=⟨pr,3,none⟩) yr).trans r3;have zc12:=(hSw.cell (p:=⟨pr,4,none⟩) yr).trans r4;have zc13:=(hSw.cell (p:=⟨pr,5,none⟩) yr).trans r5;go_simp
   try rfl
  try simp only [Act.put,sT,sZ,sS]
  refine' tkQ 15 21 hH0 ?hyv ?o18
  case hyv=>
   intro wz hSw;have zc0:=(hSw.cell (p:=⟨pg,0,none⟩) yg).trans g0;have zc1:=(hSw.cell (p:=⟨pn,0,none⟩) yn).trans n0;have zc2:=(hSw.cell (p:=⟨gb,0,none⟩) yG).trans c0;have zc3:=(hSw.cell (p:=⟨gb,1,none⟩) yG).trans c1;have zc4:=(hSw.cell (p:=⟨gb,2,none⟩) yG).trans c2;have zc5:=(hSw.cell (p:=⟨gb,3,none⟩) yG).trans c3;have zc6:=(hSw.cell (p:=⟨gb,4,none⟩) yG).trans c4;have zc7:=(hSw.cell (p:=⟨sg,o*2+1,none⟩) yS).trans cS;have zc8:=(hSw.cell (p:=⟨pr,0,none⟩) yr).trans r0;have zc9:=(hSw.cell (p:=⟨pr,1,none⟩) yr).trans r1;have zc10:=(hSw.cell (p:=⟨pr,2,none⟩) yr).trans r2;have zc11:=(hSw.cell (p:=⟨pr,3,none⟩) yr).trans r3;have zc12:=(hSw.cell (p:=⟨pr,4,none⟩) yr).trans r4;have zc13:=(hSw.cell (p:=⟨pr,5,none⟩) yr).trans r5;go_simp
   try rfl
  try simp only [Act.put,sT,sZ,sS]
  refine' tkR 16 22 hH0 ?o19
  refine tnQ 17 (fun K hK=>?_);go_simp;refine (HOV.out wd0 hH0).mono ?_;rintro eq wd1 ⟨rfl,bq1⟩;have hH1:Below w.heap.size w wd1:=hH0.trans (bq1.mono hH0.size);refine hK.out _ _ (fun _=>hH1) ?_;clear hK K
  try simp only [Act.put,sT,sZ,sS]
  refine' tkR 18 24 hH1 ?o20
  refine' tkR 19 5 hH1 ?o21
  refine zI (by kernel_rfl) ?_ _;go_wp2;go_ret;exact ⟨by simp,hH1⟩
theorem Sk.sum_le {S:Sk.Sys} (ok:Sk.Okay S):∀ (L:List Int),(∀ o ∈ L,0<=o/\o<S.V.length)->(L.map (Sk.ct S)).sum<=300*L.length
 | [],_=>by simp
 | z :: r,h=>by
  have h1:=h z (by simp);have h2:=Sk.ct_le ok z h1.1 h1.2;have h3:=Sk.sum_le ok r fun o ho=>h o (by simp [ho]);rw [List.map_cons,List.sum_cons,List.length_cons];omega
theorem Sk.Laid.facts {S:Sk.Sys} {l:List Sk.Sp} {i:Nat} {st:Sk.St} (ok:Sk.Okay S) (h:Sk.Laid S l i st):Sk.kept S S.R.length<=st.c/\st.c<=500000/\(∀ o ∈ st.L,0<=Sk.aAt st.A o/\Sk.aAt st.A o+Sk.ct S o<=st.c)/\st.L.length=i:=by
 obtain ⟨hi,I⟩:=h.inv ok;have hlen:st.L.length=i:=(by rw [I.L];simp);have hin:∀ o ∈ st.L,0<=o/\o<S.V.length:=fun o ho=>by
  rw [I.L] at ho;obtain ⟨j,hj,e⟩:=List.mem_map.1 ho;rw [<-e];exact Sk.varAt_in ok (by have:=List.mem_range.1 hj;omega)
 have h1:=Sk.sum_le ok st.L hin;have h2:=Sk.kept_le ok S.R.length zL;have h3:=I.cells;have h4:=ok.nI;have h5:=ok.nR;refine ⟨I.cge,by omega,fun o ho=>?_,hlen⟩;have:=I.inn o ho;omega
structure LyAt (B:Nat) (w wr:World) (gb:Nat) (x:GdV) (S:Sk.Sys) (K:List Int) (i:Nat) (st:Sk.St) (vL:Value):Prop where
 laid:Sk.Laid S (Sk.spans S) i st
 gnd:Gnd B wr gb x S K (Sk.kept S S.R.length) st vL
 own:∀ k,vL.ownBlock=some k->k<w.heap.size\/w.heap.size+2<=k
 kg:wr.heap[w.heap.size]?=some (.cells #[.pointer (some ⟨gb,0,none⟩)] 82 (0,0))
 kf:wr.heap[w.heap.size+1]?=some (.cells #[.int .i64 0,.int .i64 0] 30 (0,0))
 bel:Below B w wr
theorem LyAt.under {B:Nat} {w wr w':World} {gb:Nat} {x:GdV} {S:Sk.Sys} {K:List Int} {i:Nat} {st:Sk.St} {vL:Value} (h:LyAt B w wr gb x S K i st vL) (b:Below wr.heap.size wr w') (hB:B<=wr.heap.size):LyAt B w w' gb x S K i st vL :=
 ⟨h.laid,h.gnd.under b,h.own,(b.block _ (zH h.kg)).trans h.kg,(b.block _ (zH h.kf)).trans h.kf,h.bel.trans (b.mono hB)⟩
theorem LyAt.next {B:Nat} {w wr w':World} {gb:Nat} {x:GdV} {S:Sk.Sys} {K:List Int} {i:Nat} {st:Sk.St} {vL vN:Value} {a:Nat} {v:Int} (h:LyAt B w wr gb x S K i st vL) (hgw:gb<w.heap.size/\x.ga<w.heap.size) (hi:i<S.I.length+S.R.length) (hv:v=Sk.varAt S i) (hf:Sk.Fit S (Sk.spans S) (Sk.mayAt S (Sk.spans S) i) (Sk.kept S S.R.length) st v a) (hg:Gnd B w' gb x S K (Sk.kept S S.R.length) (st.lay S v a) vN) (hm:vN.ownBlock=vL.ownBlock\/∃ k,vN.ownBlock=some k/\wr.heap.size<=k) (hT:∀ T,gb ∈ T->x.ga ∈ T->(∀ k,vL.ownBlock=some k->k ∈ T)->Aside T wr.heap.size wr w') (hB:B<=wr.heap.size):LyAt B w w' gb x S K (i+1) (st.lay S v a) vN:=by
 have hs:w.heap.size+2<=wr.heap.size:=zH h.kf;have hA:=hT (gb :: x.ga :: vL.ownBlock.toList) (by simp) (by simp) (fun k e=>by simp [e]);have nT:∀ k,w.heap.size<=k->k<w.heap.size+2->k ∉ (gb :: x.ga :: vL.ownBlock.toList):=fun k h1 h2 hm=>by
  simp only [List.mem_cons,Option.mem_toList] at hm;rcases hm with q | q | q
  ·omega
  ·omega
  ·have:=h.own k q
   omega
 refine ⟨by rw [hv] at hf ⊢;exact .step h.laid hi hf,hg,fun k e=>?_,hA.keep h.kg (zH h.kg) (nT _ zL (by omega)),hA.keep h.kf (zH h.kf) (nT _ (by omega) (by omega)),h.bel.trans ((hA.mono hB).below fun k hk=>?_)⟩
 ·rcases hm with q | ⟨m,q,hq⟩
  ·exact h.own k (q ▸ e)
  ·rw [q] at e
   injection e with e
   right;omega
 ·simp only [List.mem_cons,Option.mem_toList] at hk
  rcases hk with q | q | q
  ·rw [q];exact h.gnd.lo.1
  ·rw [q];exact h.gnd.lo.2.1
  ·exact (h.gnd.laid.lt k q).1
def LayPost (B:Nat) (w:World) (gb:Nat) (x:GdV) (S:Sk.Sys) (e:Ending) (w':World):Prop :=
 ∃ c a:Int,e=.returned (.agg #[.int .i64 c,.int .i64 a])/\Below B w w'/\(c≠0->∃ i st,Sk.Laid S (Sk.spans S) i st/\6000<st.c)/\(c=0->∃ K st vL,Sk.KeptTo S S.R.length K/\Sk.Laid S (Sk.spans S) (S.I.length+S.R.length) st/\st.c<=6000/\Gnd B w' gb x S K (Sk.kept S S.R.length) st vL/\a=0)
theorem layAll_any {B:Nat} {w:World} {gb:Nat} {x:GdV} {S:Sk.Sys} (h:Gnd B w gb x S (List.replicate S.R.length (-1)) 0 ⟨List.replicate S.V.length (-1),1,[]⟩ (.slice none 0 0)) (ok:Sk.Okay S) (hfit:True) :
  Calls Tryz.prog 43 #[.pointer (some ⟨gb,0,none⟩)] w (LayPost B w gb x S):=by
 obtain ⟨aV,cV,aI,cI,aO,cO,aR,cR,sg,ga,gk⟩:=x;have HOK:=zG ok;have hlo:=h.lo
 dsimp only at hlo
 have hgw:gb<w.heap.size:=zH h.gd;have haw:ga<w.heap.size:=h.at_.lt;have hkw:gk<w.heap.size:=h.keep_.lt;have b0:Below w.heap.size w (w.alloc (.cells #[.pointer (some ⟨gb,0,none⟩)] 82 (0,0))):=(Below.refl _ _).alloc zL _;have b1:=b0.alloc b0.size (.cells #[.int .i64 0,.int .i64 0] 30 (0,0));have kg:((w.alloc (.cells #[.pointer (some ⟨gb,0,none⟩)] 82 (0,0))).alloc (.cells #[.int .i64 0,.int .i64 0] 30 (0,0))).heap[w.heap.size]?=some (.cells #[.pointer (some ⟨gb,0,none⟩)] 82 (0,0)):=(Below.heap_alloc _ _ _ (by simp)).trans (zJ w _);have kf:((w.alloc (.cells #[.pointer (some ⟨gb,0,none⟩)] 82 (0,0))).alloc (.cells #[.int .i64 0,.int .i64 0] 30 (0,0))).heap[w.heap.size+1]?=some (.cells #[.int .i64 0,.int .i64 0] 30 (0,0)):=by
  have:=zJ (w.alloc (.cells #[.pointer (some ⟨gb,0,none⟩)] 82 (0,0))) (.cells #[.int .i64 0,.int .i64 0] 30 (0,0))
  simpa using this
 have HG:=zG (h.under b1);obtain ⟨aoI,capI,evI,hI1,hI2,-⟩:=h.sys.I.at;obtain ⟨aoR,capR,evR,hR1,hR2,-⟩:=h.sys.R.at
 dsimp only at evI evR
 injection evI with g1 g2 g3;injection evR with g4 g5 g6;rw [<-g3] at hI1 hI2;rw [<-g6] at hR1 hR2;unfold maxLen at hI2 hR2;have nI:=ok.nI;have nR:=ok.nR;have nV:=ok.nV;have hBw:B<=w.heap.size:=(by omega);clear h ok b0 g1 g2 g3 g4 g5 g6;go_enter Tryz.func43,Tryz.ntmps43;go_upto_region 1 with fail;generalize (w.alloc (.cells #[.pointer (some ⟨gb,0,none⟩)] 82 (0,0))).alloc (.cells #[.int .i64 0,.int .i64 0] 30 (0,0))=w1 at b1 kg kf HG ⊢;have x0:=coQ kg 0;simp at x0;have hkp:=keep71_any HG.out HOK.out;go_wp2_with fail;refine hkp.mono ?_;rintro e w2 ⟨rfl,KL,hKT,hG2,a2⟩;have y1:=zH kg;have y2:=zH kf;have kg2:=a2.keep kg y1 (by simp;omega);have kf2:=a2.keep kf y2 (by simp;omega);have HKT:=zG hKT;have HLY:=zG (show LyAt B w w2 gb ⟨aV,cV,aI,cI,aO,cO,aR,cR,sg,ga,gk⟩ S KL 0 ⟨List.replicate S.V.length (-1),Sk.kept S S.R.length,[]⟩ (.slice none 0 0) from ⟨.start,hG2,fun k e=>by simp [Value.ownBlock] at e,kg2,kf2,(b1.mono hBw).trans ((a2.mono (Nat.le_trans hBw b1.size)).below fun k hk=>by simp at hk;omega)⟩);obtain ⟨-,c1,-⟩:=hG2.gd.cells
 dsimp only at c1
 have x0':=coQ kg2 0;simp at x0';clear hkp hKT hG2 a2 kg kf kg2 kf2 HG b1 y1 y2 x0;go_wp2_with fail;clear c1 x0';go_loopg [15] S.I.length (fun k v15 wr=>∃ (i:Nat) (st:Sk.St) (vL:Value),i<=S.I.length/\k=S.I.length-i/\v15=.int .i64 (i:Nat)/\Hid (LyAt B w wr gb ⟨aV,cV,aI,cI,aO,cO,aR,cR,sg,ga,gk⟩ S KL i st vL))
 case atStart=>exact ⟨0,_,_,Nat.zero_le _,rfl,rfl,HLY⟩
 case round=>
  clear HLY;obtain ⟨i,st,vL,hi,rfl,rfl,HL⟩:=hrel;have x0:=coQ HL.out.kg 0;simp at x0;by_cases hlt:i<S.I.length
  case pos=>
   obtain ⟨ao,cp,e1,-,-,hat⟩:=HL.out.gnd.sys.I.at
   dsimp only at e1
   injection e1 with q1 q2 q3;obtain ⟨bI,oI,hbI,yI,xI⟩:=hat i hlt;rw [hbI] at q1;subst q1;have hin:=HOK.out.ins _ (List.getElem_mem hlt);obtain ⟨v,hx⟩:∃ v:Nat,(v:Int)=S.I[i]:=⟨(S.I[i]).toNat,by omega⟩;rw [<-hx] at xI hin;have hvl:v<S.V.length:=(by omega);obtain ⟨f1,f2,f3,f4⟩:=HL.out.laid.facts HOK.out;have hly:=lay_any (N:=73) (bs:=#[]) (cs:=#[]) (may:=Sk.mayAt S (Sk.spans S) i) HL.out.gnd HOK.out v hvl f1 f2 f3 (by omega) eg73 (fun o ho W hW=>by
    have h5:=may73_any o W;rw [Sk.mayAt_I hlt]
    simpa using h5)
   have HVA:=zG (show (v:Int)=Sk.varAt S i by rw [Sk.varAt_I hlt];exact hx);have zB:B<=wr.heap.size:=(by have:=HL.out.gnd.lo.1;have:=zH HL.out.gnd.gd;omega);clear hat q2 q3 hbI hin hx f1 f2 f3 f4;go_wp2_with fail;refine hly.mono ?_;rintro e w3 ⟨rfl,a,vN,hfit2,hg3,hm3,hT3⟩;have HN:=zG (HL.out.next ⟨hgw,haw⟩ (by omega) HVA.out hfit2 hg3 hm3 hT3 zB);clear hly hfit2 hg3 hm3 hT3 x0;go_wp2_with fail;go_roundg (S.I.length-(i+1))
   case measure=>omega
   case rel=>exact ⟨i+1,_,_,by omega,rfl,by go_num,HN⟩
  case neg=>
   have hin:i=S.I.length:=(by omega);subst hin;obtain ⟨w4,hw4⟩:=nmQ (wr);subst hw4;have hfu:=jK HL.out.gnd;obtain ⟨q,hq⟩:=nmQ (decide (6000<(st.c:Int)));rw [<-hq] at hfu;have HQ:=zG hq;clear hq;go_wp2_with fail;refine hfu.mono ?_;rintro e w5 ⟨rfl,hw5⟩;subst hw5;clear hfu
   cases q
   case true=>
    have s0:=coQ HL.out.kf 0;have s1:=coQ HL.out.kf 1;have fr0:=foQ HL.out.kf 0;have fr1:=foQ HL.out.kf 1;simp at s0 s1;have KE:=zO (zO HL.out.kf 0 (.int .i64 7)) 1 (.int .i64 (-1));have BE:=(HL.out.bel.setCell (p:=⟨w.heap.size+1,0,none⟩) (by show B<=w.heap.size+1;omega) (.int .i64 7)).setCell (p:=⟨w.heap.size+1,1,none⟩) (by show B<=w.heap.size+1;omega) (.int .i64 (-1));have t0:=coQ KE 0;have t1:=coQ KE 1;simp at t0 t1;have HFIN:=zG (show LayPost B w gb ⟨aV,cV,aI,cI,aO,cO,aR,cR,sg,ga,gk⟩ S (.returned (.agg #[.int .i64 7,.int .i64 (-1)])) _ from ⟨7,-1,rfl,BE,fun _=>⟨_,st,HL.out.laid,by have h6:=HQ.out;simp at h6;omega⟩,fun h=>absurd h (by decide)⟩);clear KE BE;go_wp2;exact bodyPost_ret (v:=.agg #[.int .i64 7,.int .i64 (-1)]) (by simp [results,Tryz.results43,go_sem,t0,t1]) rfl HFIN.out
   case false=>
    have hc6:st.c<=6000:=(by have:=HQ.out;simp at this;omega);obtain ⟨-,-,-,c3,-⟩:=HL.out.gnd.gd.cells
    dsimp only at c3
    have HL0:=HL;clear HL HQ;go_wp2_with fail;clear c3 x0;go_loopg [32] S.R.length (fun k v32 wr=>∃ (j:Nat) (st:Sk.St) (vL:Value),j<=S.R.length/\k=S.R.length-j/\v32=.int .i64 (j:Nat)/\Hid (LyAt B w wr gb ⟨aV,cV,aI,cI,aO,cO,aR,cR,sg,ga,gk⟩ S KL (S.I.length+j) st vL)/\st.c<=6000)
    case atStart=>exact ⟨0,_,_,Nat.zero_le _,rfl,rfl,HL0,hc6⟩
    case round=>
     clear HL0 hc6;obtain ⟨j,st,vL,hj,rfl,rfl,HL,hc6⟩:=hrel;have x0:=coQ HL.out.kg 0;simp at x0;by_cases hlt:j<S.R.length
     case neg=>
      have hin:j=S.R.length:=(by omega);subst hin;have s0:=coQ HL.out.kf 0;have s1:=coQ HL.out.kf 1;have fr0:=foQ HL.out.kf 0;have fr1:=foQ HL.out.kf 1;simp at s0 s1;have KE:=zO (zO HL.out.kf 0 (.int .i64 0)) 1 (.int .i64 0);have BE:=(HL.out.bel.setCell (p:=⟨w.heap.size+1,0,none⟩) (by show B<=w.heap.size+1;omega) (.int .i64 0)).setCell (p:=⟨w.heap.size+1,1,none⟩) (by show B<=w.heap.size+1;omega) (.int .i64 0);have t0:=coQ KE 0;have t1:=coQ KE 1;simp at t0 t1;have G5:=(HL.out.gnd.same (w':=(wr.setCell ⟨w.heap.size+1,0,none⟩ (.int .i64 0)).setCell ⟨w.heap.size+1,1,none⟩ (.int .i64 0)) (by rw [xF,xF];exact Nat.le_refl _) (fun k hk hq=>by
       have hne:w.heap.size+1≠k:=by
        rcases hq with q | q | q | q | q
        ·omega
        ·rw [q];omega
        ·rw [q];show w.heap.size+1≠ga;omega
        ·rw [q];show w.heap.size+1≠gk;omega
        ·have:=HL.out.own k q;omega
       rw [zQ _ _ _ hne,zQ _ _ _ hne]))
      have HFIN:=zG (show LayPost B w gb ⟨aV,cV,aI,cI,aO,cO,aR,cR,sg,ga,gk⟩ S (.returned (.agg #[.int .i64 0,.int .i64 0])) _ from ⟨0,0,rfl,BE,fun h=>absurd rfl h,fun _=>⟨KL,st,vL,HKT.out,HL.out.laid,hc6,G5,rfl⟩⟩);clear KE G5 HL hc6 BE;go_wp2;exact bodyPost_ret (v:=.agg #[.int .i64 0,.int .i64 0]) (by simp [results,Tryz.results43,go_sem,t0,t1]) rfl HFIN.out
     case pos=>
      obtain ⟨ao,cp,e1,-,-,hat⟩:=HL.out.gnd.sys.R.at
      dsimp only at e1
      injection e1 with q1 q2 q3;obtain ⟨bR,oR,y,hbR,yR,hrat,hru⟩:=hat j hlt;rw [hbR] at q1;subst q1;obtain ⟨r,hr⟩:=nmQ (S.R[j]);have hrm:r ∈ S.R:=(by rw [hr];exact List.getElem_mem hlt);have hout:=(HOK.out.rules r hrm).1.1;rw [<-hr] at hrat hru;obtain ⟨d0,d1,d2,d3,d4,d5⟩:=hrat;have HRR:=zG hr;have HRU:=zG hru;have HOUT:=zG hout;obtain ⟨op,rk,out,rn,A',E⟩:=r;obtain ⟨aA,nA,cA,aE,nE,cE⟩:=y
      dsimp only at hout d0 d1 d2 d3 d4 d5
      obtain ⟨o,rfl⟩:∃ o:Nat,out=(o:Int):=⟨out.toNat,by omega⟩;have hol:o<S.V.length:=(by omega);have zB:B<=wr.heap.size:=(by have:=HL.out.gnd.lo.1;have:=zH HL.out.gnd.gd;omega);have bA:Below wr.heap.size wr (wr.alloc (.cells #[.int .i64 (j:Int)] 3 (0,0))):=(Below.refl _ _).alloc zL _;have bC:=bA.alloc bA.size (.cells #[.int .i64 op,.int .i64 rk,.int .i64 (o:Int),.int .i64 rn,.slice aA nA cA,.slice aE nE cE] 40 (0,0));have kN:((wr.alloc (.cells #[.int .i64 (j:Int)] 3 (0,0))).alloc (.cells #[.int .i64 op,.int .i64 rk,.int .i64 (o:Int),.int .i64 rn,.slice aA nA cA,.slice aE nE cE] 40 (0,0))).heap[wr.heap.size]?=some (.cells #[.int .i64 (j:Int)] 3 (0,0)):=(Below.heap_alloc _ _ _ (by simp)).trans (zJ wr _);have kR:((wr.alloc (.cells #[.int .i64 (j:Int)] 3 (0,0))).alloc (.cells #[.int .i64 op,.int .i64 rk,.int .i64 (o:Int),.int .i64 rn,.slice aA nA cA,.slice aE nE cE] 40 (0,0))).heap[wr.heap.size+1]?=some (.cells #[.int .i64 op,.int .i64 rk,.int .i64 (o:Int),.int .i64 rn,.slice aA nA cA,.slice aE nE cE] 40 (0,0)):=by
       have:=zJ (wr.alloc (.cells #[.int .i64 (j:Int)] 3 (0,0))) (.cells #[.int .i64 op,.int .i64 rk,.int .i64 (o:Int),.int .i64 rn,.slice aA nA cA,.slice aE nE cE] 40 (0,0))
       simpa using this
      have HLC:=zG (HL.out.under bC zB);have HRU2:=zG (HRU.out.under bC);have ygw:=zH HL.out.kg;have yfw:=zH HL.out.kf;have hown:=HL.out.own;have HOWN:=zG (fun k (e:vL.ownBlock=some k)=>(HL.out.gnd.laid.lt k e).2);clear hat q2 q3 hbR hr hrm hout hru bA HL HRU hown;go_upto_region 12 with fail;clear d0 d1 d2 d3 d4 d5 yR x0;generalize (wr.alloc (.cells #[.int .i64 (j:Int)] 3 (0,0))).alloc (.cells #[.int .i64 op,.int .i64 rk,.int .i64 (o:Int),.int .i64 rn,.slice aA nA cA,.slice aE nE cE] 40 (0,0))=w6 at bC kN kR HLC HRU2 ⊢;have z6:B<=w6.heap.size:=Nat.le_trans zB bC.size;have x6:=coQ HLC.out.kg 0;have r2:=coQ kR 2;simp at x6 r2;obtain ⟨f1,f2,f3,f4⟩:=HLC.out.laid.facts HOK.out;have hly:=lay_any (N:=75) (bs:=#[]) (cs:=#[.pointer (some ⟨w.heap.size,0,none⟩),.pointer (some ⟨wr.heap.size,0,none⟩),.pointer (some ⟨wr.heap.size+1,0,none⟩)]) (may:=Sk.mayAt S (Sk.spans S) (S.I.length+j)) HLC.out.gnd HOK.out o hol f1 f2 f3 (by omega) eg75 (fun u hu W hW=>by
       have hin:=HLC.out.gnd.lin u hu;obtain ⟨z,rfl⟩:∃ z:Nat,u=(z:Int):=⟨u.toNat,by omega⟩;have h5:=may75_any (r:=⟨op,rk,(o:Int),rn,A',E⟩) (y:=⟨aA,nA,cA,aE,nE,cE⟩) (HLC.out.gnd.under hW) ((hW.block _ (zH HLC.out.kg)).trans HLC.out.kg) ((hW.block _ (zH kN)).trans kN) ((hW.block _ (zH kR)).trans kR) (HRU2.out.under hW) HOUT.out z (by omega) nV;rw [Sk.mayAt_R hlt,<-HRR.out]
       simpa using h5)
      have HVA:=zG (show (o:Int)=Sk.varAt S (S.I.length+j) by rw [Sk.varAt_R hlt,<-HRR.out]);clear f1 f2 f3 f4 HRR HRU2 HOUT;go_wp2_with fail;refine hly.mono ?_;rintro e w7 ⟨rfl,a,vN,hfit2,hg7,hm7,hT7⟩;have hA7:=hT7 (gb :: ga :: vL.ownBlock.toList) (by simp) (by simp) (fun k e=>by simp [e]);have kN7:=hA7.keep kN (zH kN) (fun hm=>by
       simp only [List.mem_cons,Option.mem_toList] at hm;rcases hm with q | q | q
       ·omega
       ·omega
       ·have:=HOWN.out _ q;omega)
      have HN:=zG (HLC.out.next ⟨hgw,haw⟩ (by omega) HVA.out hfit2 hg7 hm7 hT7 z6);have n7:=coQ kN7 0;have x7:=coQ HN.out.kg 0;simp at n7 x7;have hfu:=jK HN.out.gnd;obtain ⟨cc,hcc⟩:=nmQ ((st.lay S (o:Int) a).c);obtain ⟨q,hq⟩:=nmQ (decide (6000<(cc:Int)));rw [<-hcc,<-hq] at hfu;have HQ:=zG hq;have HCC:=zG hcc;clear hly hfit2 hg7 hm7 hT7 hA7 kN7 kN kR x6 r2 HLC bC hq hcc HOWN;go_wp2_with fail;refine hfu.mono ?_;rintro e w8 ⟨rfl,hw8⟩;subst hw8;clear hfu
      cases q
      case true=>
       have s0:=coQ HN.out.kf 0;have s1:=coQ HN.out.kf 1;have fr0:=foQ HN.out.kf 0;have fr1:=foQ HN.out.kf 1;simp at s0 s1;have KE:=zO (zO HN.out.kf 0 (.int .i64 7)) 1 (.int .i64 (j:Int));have BE:=(HN.out.bel.setCell (p:=⟨w.heap.size+1,0,none⟩) (by show B<=w.heap.size+1;omega) (.int .i64 7)).setCell (p:=⟨w.heap.size+1,1,none⟩) (by show B<=w.heap.size+1;omega) (.int .i64 (j:Int));have t0:=coQ KE 0;have t1:=coQ KE 1;simp at t0 t1;have HFIN:=zG (show LayPost B w gb ⟨aV,cV,aI,cI,aO,cO,some ⟨bR,oR,none⟩,cR,sg,ga,gk⟩ S (.returned (.agg #[.int .i64 7,.int .i64 (j:Int)])) _ from ⟨7,(j:Int),rfl,BE,fun _=>⟨_,_,HN.out.laid,by have h6:=HQ.out;simp at h6;rw [<-HCC.out];omega⟩,fun h=>absurd h (by decide)⟩);clear KE BE HN HQ HCC;go_wp2;exact bodyPost_ret (v:=.agg #[.int .i64 7,.int .i64 (j:Int)]) (by simp [results,Tryz.results43,go_sem,t0,t1]) rfl HFIN.out
      case false=>
       have hc7:(st.lay S (o:Int) a).c<=6000:=(by have h6:=HQ.out;simp at h6;rw [<-HCC.out];omega);have HC7:=zG hc7;clear hc7 HQ HCC n7 x7;go_wp2_with fail;go_roundg (S.R.length-(j+1))
       case measure=>omega
       case rel=>exact ⟨j+1,_,_,by omega,rfl,by go_num,HN,HC7.out⟩
end Go.Proofs.YtegakbobaecdlaaGreatDoor
