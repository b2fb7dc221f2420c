import Derived.Test.YtnhmcpnbaajjcaaGreatDoorC42
import Derived.Deep.Cut
import Derived.Deep.LoopGhost
import Derived.Ground.NamesProg
import Derived.IntWalk
import Derived.Laws.Cover1
import Derived.Laws.EntriesVeiled
import Derived.Laws.Externs
import Derived.Lib.Hide
import Derived.Lib.MakeNoZero
import Derived.Lib.SlBuf
import Derived.Maps.OwnSet
import Derived.Shelf.Bytes.SlSmallAll
import Derived.Shelf.Lay
import Derived.WalkKit
import Derived.WalkSpells
set_option linter.unusedVariables false
set_option linter.unusedSimpArgs false
set_option maxHeartbeats 64000000
set_option maxRecDepth 100000
namespace Go.Proofs.YtnhmcpnbaajjcaaGreatDoor
open Go.RowKit Go.IntWalk
def AhM (ok:Nat->Prop) (w:World) (o:Option Nat) (f:Int->Option Value):Prop:=(o=none/\f=fun _=>none)\/∃ b n,o=some b/\ok b/\MapI w b n f
theorem AhM.is {ok:Nat->Prop} {w:World} {o:Option Nat} {f:Int->Option Value} (h:AhM ok w o f):AhIs w o f:=by
 rcases h with ⟨rfl,rfl⟩ | ⟨b,n,rfl,_,hm⟩
 ·exact AhIs.nil w
 ·exact AhIs.of hm
theorem AhM.keep {ok:Nat->Prop} {w w':World} {o:Option Nat} {f:Int->Option Value} (h:AhM ok w o f) (h2:∀ i,ok i->i<w.heap.size->w'.heap[i]?=w.heap[i]?):AhM ok w' o f:=by
 rcases h with q | ⟨b,n,rfl,hb,hm⟩
 ·exact .inl q
 ·exact .inr ⟨b,n,rfl,hb,hm.keep (h2 b hb hm.lt)⟩
theorem AhM.wide {ok ok':Nat->Prop} {w:World} {o:Option Nat} {f:Int->Option Value} (h:AhM ok w o f) (hk:∀ i,ok i->i<w.heap.size->ok' i):AhM ok' w o f:=by
 rcases h with q | ⟨b,n,rfl,hb,hm⟩
 ·exact .inl q
 ·exact .inr ⟨b,n,rfl,hk b hb hm.lt,hm⟩
def MeanAt (L:List Nat) (w:World) (mb:Nat) (S:Sk.Sys) (ah:Int->Option (List Int)):Prop:=∃ (aV aI aO aR:Option Addr) (cV cI cO cR:Nat) (oA:Option Nat) (f:Int->Option Value),w.heap[mb]?=some (.cells #[.slice aV S.V.length cV,.slice aI S.I.length cI,.slice aO S.O.length cO,.slice aR S.R.length cR,.map oA] 82 (0,0))/\HSys (· ∉ L) w aV aI aO aR cV cI cO cR S/\AhM (· ∉ L) w oA f/\AhRel (· ∉ L) w f ah/\mb ∈ L/\∀ q ∈ L,q<w.heap.size
theorem MeanAt.keep {L:List Nat} {w w':World} {mb:Nat} {S:Sk.Sys} {ah:Int->Option (List Int)} (h:MeanAt L w mb S ah) (h0:w'.heap[mb]?=w.heap[mb]?) (h1:w.heap.size<=w'.heap.size) (h2:∀ i,i ∉ L->i<w.heap.size->w'.heap[i]?=w.heap[i]?):MeanAt L w' mb S ah:=by
 obtain ⟨aV,aI,aO,aR,cV,cI,cO,cR,oA,f,k,hS,hM,hR,hL,hl⟩:=h;exact ⟨aV,aI,aO,aR,cV,cI,cO,cR,oA,f,h0.trans k,hS.keep h1 h2,hM.keep h2,hR.keep h1 h2,hL,fun q hq=>Nat.lt_of_lt_of_le (hl q hq) h1⟩
theorem MeanAt.mem {L:List Nat} {w:World} {mb:Nat} {S:Sk.Sys} {ah:Int->Option (List Int)} (h:MeanAt L w mb S ah):mb ∈ L/\∀ q ∈ L,q<w.heap.size:=by
 obtain ⟨aV,aI,aO,aR,cV,cI,cO,cR,oA,f,k,hS,hM,hR,hL,hl⟩:=h;exact ⟨hL,hl⟩
theorem MeanAt.under {L:List Nat} {w w':World} {mb:Nat} {S:Sk.Sys} {ah:Int->Option (List Int)} (h:MeanAt L w mb S ah) (b:Below w.heap.size w w'):MeanAt L w' mb S ah:=h.keep (b.block _ (h.mem.2 _ h.mem.1)) b.size (fun i _ hl=>b.block i hl)
theorem MeanAt.past {L:List Nat} {w w':World} {mb q:Nat} {S:Sk.Sys} {ah:Int->Option (List Int)} (h:MeanAt L w mb S ah) (a:Aside [q] w.heap.size w w') (hq:q ∈ L) (hne:mb≠q):MeanAt L w' mb S ah:=h.keep (a.block _ (h.mem.2 _ h.mem.1) (by simpa using hne)) a.size (fun i hi hl=>a.block i hl (by simp;exact fun e=>hi (e ▸ hq)))
theorem MeanAt.more {L:List Nat} {w w':World} {mb q:Nat} {S:Sk.Sys} {ah:Int->Option (List Int)} (h:MeanAt L w mb S ah) (b:Below w.heap.size w w') (hq:w.heap.size<=q) (hq2:q<w'.heap.size):MeanAt (q :: L) w' mb S ah:=by
 obtain ⟨aV,aI,aO,aR,cV,cI,cO,cR,oA,f,k,hS,hM,hR,hL,hl⟩:=h;have hw:∀ i,i ∉ L->i<w.heap.size->i ∉ q :: L:=fun i h1 h2=>by simp;exact ⟨by omega,h1⟩
 exact ⟨aV,aI,aO,aR,cV,cI,cO,cR,oA,f,(b.block _ (zG k)).trans k,(hS.wide hw).under b,(hM.wide hw).keep (fun i _ h=>b.block i h),(hR.wide hw).under b,by simp [hL],fun z hz=>by
  rcases List.mem_cons.1 hz with e | e
  ·rw [e];exact hq2
  ·exact Nat.lt_of_lt_of_le (hl z e) b.size⟩
theorem Sk.rowT_take (S:Sk.Sys) (ah:Int->Option (List Int)) (inp:List Int):Sk.rowT S ah inp=if (Sk.takeT S inp (List.replicate S.V.length [])).1.1≠0 then (([],(Sk.takeT S inp (List.replicate S.V.length [])).1),ah) else ((Sk.toldL (Sk.runR S.V ah (Sk.takeT S inp (List.replicate S.V.length [])).2 S.R) S.O,(0,0)),Sk.keepF (Sk.runR S.V ah (Sk.takeT S inp (List.replicate S.V.length [])).2 S.R) (fun _=>none) S.R):=by
 unfold Sk.rowT Sk.takeT
 split
 ·rw [if_pos (by simp)]
 ·rfl
theorem Sk.takeT_fine {S:Sk.Sys} (ok:Sk.Okay S) {inp:List Int} (hz:(Sk.takeT S inp (List.replicate S.V.length [])).1.1=0):Sk.Fine S.V S.I (Sk.takeT S inp (List.replicate S.V.length [])).2:=by
 unfold Sk.takeT at hz ⊢
 split
 ·rename_i h;rw [if_pos h] at hz;simp at hz
 ·rename_i h
  rw [if_neg h] at hz;have:=Sk.takeV_fine ok (by simpa using h) S.I.length 0 (by omega) (Sk.fine_start S.V) (by simpa [Sk.wid] using hz)
  simpa [Sk.wid] using this
theorem Sk.takeV_small {V:List Sk.Vr} {inp:List Int} (hV:∀ v ∈ V,Sk.VrOk v):∀ (I:List Int) (at_:Nat) (C:List (List Int)),(∀ x ∈ I,0<=x/\x<V.length)->(∀ l ∈ C,l.length<=300)->∀ l ∈ (Sk.takeV V inp at_ I C).2,l.length<=300
 | [],at_,C,_,h=>by simpa [Sk.takeV] using h
 | x :: r,at_,C,hI,h=>by
  unfold Sk.takeV
  split
  ·exact h
  ·refine Sk.takeV_small hV r _ _ (fun y hy=>hI y (by simp [hy])) fun l hl=>?_
   rcases List.mem_or_eq_of_mem_set hl with q | q
   ·exact h l q
   ·rw [q,List.length_take]
    have:=Sk.cnt_le (Sk.vAt_ok hV (hI x (by simp)));omega
theorem Sk.takeT_small {S:Sk.Sys} (ok:Sk.Okay S) {inp:List Int}:∀ l ∈ (Sk.takeT S inp (List.replicate S.V.length [])).2,l.length<=300:=by
 have h0:∀ l ∈ List.replicate S.V.length ([]:List Int),l.length<=300:=fun l hl=>by rw [List.eq_of_mem_replicate hl];simp
 unfold Sk.takeT
 split
 ·exact h0
 ·exact Sk.takeV_small ok.vars S.I 0 _ ok.ins h0
theorem Sk.runR_small {V:List Sk.Vr} {ah:Int->Option (List Int)}:∀ (R:List Sk.Ru) (C:List (List Int)),(∀ r ∈ R,Sk.cnt (Sk.vAt V r.out)<=300)->(∀ l ∈ C,l.length<=300)->∀ l ∈ Sk.runR V ah C R,l.length<=300
 | [],C,_,h=>h
 | r :: R,C,hR,h=>by
  unfold Sk.runR;refine Sk.runR_small R _ (fun q hq=>hR q (by simp [hq])) fun l hl=>?_;rcases List.mem_or_eq_of_mem_set hl with q | q
  ·exact h l q
  ·rw [q,Sk.evalR_len];exact hR r (by simp)
theorem Sk.runR_len {V:List Sk.Vr} {ah:Int->Option (List Int)}:∀ (R:List Sk.Ru) (C:List (List Int)),(Sk.runR V ah C R).length=C.length
 | [],C=>rfl
 | r :: R,C=>by unfold Sk.runR;rw [Sk.runR_len R];simp
theorem make_rows (c:Nat) (hn:c<=1000000) (V:World):(Instr.makeSlice 47 (.int .i64 (c:Int)) (.int .i64 (c:Int))).run Tryz.prog V=.ok (.slice (some ⟨V.heap.size,0,none⟩) c c) (V.alloc (.cells (Array.replicate c (.slice none 0 0)) 52 (0,0))):=by
 obtain ⟨i0,hi,hz0,hz1,hz2⟩:=info_parts Tryz.infoLL;have h:=run_make (P:=Tryz.prog) V 47 52 i0 (.slice none 0 0) Tryz.underlying47 hi hz0 .i64 .i64 (c:Int) (c:Int) (by omega) (by omega) (by rw [hz2];simp;omega) (by omega);have e:madeCells (Value.slice none 0 0).cells (((c:Int)).toNat*i0.size)=Array.replicate c (.slice none 0 0):=by
  rw [hz1]
  apply Array.ext_getElem?
  intro j;by_cases hj:j<c
  ·simp [madeCells,Value.cells,hj,Nat.mod_one]
  ·simp [madeCells,Value.cells,hj]
 rw [e] at h
 simpa using h
def RowPost (L:List Nat) (w:World) (mb:Nat) (S:Sk.Sys) (T:(List Int × (Int × Int)) × (Int->Option (List Int))) (e:Ending) (w':World):Prop:=∃ v,e=.returned (.tuple #[v,.agg #[.int .i64 T.1.2.1,.int .i64 T.1.2.2]])/\HInts (fun i=>w.heap.size<=i) w' v T.1.1/\MeanAt L w' mb S T.2/\Aside [mb] w.heap.size w w'
theorem row_any {L:List Nat} {w:World} {mb:Nat} {S:Sk.Sys} {ah:Int->Option (List Int)} {okI:Nat->Prop} {u:Value} {inp:List Int} (hM:MeanAt L w mb S ah) (okay:Sk.Okay S) (had:Sk.Ahead S) (hAF:Sk.AhFine S.V ah) (hin:HInts okI w u inp) :
  Calls Tryz.prog 21 #[.pointer (some ⟨mb,0,none⟩),u] w (RowPost L w mb S (Sk.rowT S ah inp)):=by
 obtain ⟨aV,aI,aO,aR,cV,cI,cO,cR,oA,f,k,hS,hMM,hR,hL,hl⟩:=hM;obtain ⟨aL,cL,rfl,hL1,hL2,-⟩:=hin.at;obtain ⟨TT,hTT⟩:=nmQ (Sk.rowT S ah inp);rw [<-hTT];rw [Sk.rowT_take] at hTT;have HTF:=zD (fun hz=>Sk.takeT_fine (inp:=inp) okay hz);have HTS:=zD (Sk.takeT_small (inp:=inp) okay);have ym:=zG k;have zV:=okay.nV;have HMK:=zD (fun W=>make_rows S.V.length (by omega) W);have hSl:=hS.wide (ok':=fun i=>i<w.heap.size/\i ∉ L) fun i h1 h2=>⟨h2,h1⟩;have hin2:=hin.wide (ok':=fun i=>i<w.heap.size) fun i _ h2=>h2;have HSL:=zD hSl;have HS:=zD hS;have HIN:=zD hin2;have HMM:=zD hMM;have HR:=zD hR;have HLL:=zD (And.intro hL hl);have HO:=zD okay;have HAD:=zD had;have HAF:=zD hAF;have HTT:=zD hTT;have HK:=zD k;obtain ⟨Ln,hLn⟩:=nmQ (inp.length);rw [<-hLn] at HIN ⊢;have b0:Below w.heap.size w (w.alloc (.cells #[.int .i64 0,.int .i64 0] 30 (0,0))):=(Below.refl _ _).alloc zL _;have kF:=zH w (.cells #[.int .i64 0,.int .i64 0] 30 (0,0));have kA:=(b0.block _ ym).trans k;clear hS hSl hin hin2 hMM hR hL hl okay had hAF hTT k hL1 hL2 hLn;go_enter Tryz.func21,Tryz.ntmps21;go_upto_region 1 with fail;generalize w.alloc (.cells #[.int .i64 0,.int .i64 0] 30 (0,0))=w1 at b0 kF kA ⊢;have k0:=coQ kA 0;have k1:=coQ kA 1;have k2:=coQ kA 2;have k3:=coQ kA 3;have k4:=coQ kA 4;simp at k0 k1 k2 k3 k4;have y1:=zG kF;have yA:=zG kA;refine zK (fun w'=>Below w1.heap.size w1 w') (fun _=>false) (by kernel_rfl) ?_;have hH0:Below w1.heap.size w1 w1.drew:=(Below.refl _ _).drew;generalize w1.drew=wd0 at hH0 ⊢;refine' tkR 0 8 hH0 ?o1
 refine' tkR 1 9 hH0 ?o2
 refine' tkR 2 10 hH0 ?o3
 refine' tkQ 3 11 hH0 ?hyv ?o4
 case hyv=>
  intro wz hSw;have zc0:=(hSw.cell (p:=⟨mb,0,none⟩) yA).trans k0;have zc1:=(hSw.cell (p:=⟨mb,1,none⟩) yA).trans k1;have zc2:=(hSw.cell (p:=⟨mb,2,none⟩) yA).trans k2;have zc3:=(hSw.cell (p:=⟨mb,3,none⟩) yA).trans k3;have zc4:=(hSw.cell (p:=⟨mb,4,none⟩) yA).trans k4;go_simp
  try rfl
 try simp only [Act.put,sT,sZ,sS]
 refine' tkR 4 12 hH0 ?o5
 refine' tkR 5 13 hH0 ?o6
 refine' tkR 6 14 hH0 ?o7
 refine' tkR 7 15 hH0 ?o8
 refine' tkQ 8 16 hH0 ?hyv ?o9
 case hyv=>
  intro wz hSw;have zc0:=(hSw.cell (p:=⟨mb,0,none⟩) yA).trans k0;have zc1:=(hSw.cell (p:=⟨mb,1,none⟩) yA).trans k1;have zc2:=(hSw.cell (p:=⟨mb,2,none⟩) yA).trans k2;have zc3:=(hSw.cell (p:=⟨mb,3,none⟩) yA).trans k3;have zc4:=(hSw.cell (p:=⟨mb,4,none⟩) yA).trans k4;go_simp
  try rfl
 try simp only [Act.put,sT,sZ,sS]
 refine' tkR 9 17 hH0 ?o10
 refine' tkR 11 19 hH0 ?o11
 refine' tkR 12 20 hH0 ?o12
 refine' tkR 13 21 hH0 ?o13
 refine' tkQ 14 22 hH0 ?hyv ?o14
 case hyv=>
  intro wz hSw;have zc0:=(hSw.cell (p:=⟨mb,0,none⟩) yA).trans k0;have zc1:=(hSw.cell (p:=⟨mb,1,none⟩) yA).trans k1;have zc2:=(hSw.cell (p:=⟨mb,2,none⟩) yA).trans k2;have zc3:=(hSw.cell (p:=⟨mb,3,none⟩) yA).trans k3;have zc4:=(hSw.cell (p:=⟨mb,4,none⟩) yA).trans k4;go_simp
  try rfl
 try simp only [Act.put,sT,sZ,sS]
 refine tnQ 10 (fun K hK=>?_);have hrun:=HMK.out wd0;have hH1:Below w1.heap.size w1 (wd0.alloc (.cells (Array.replicate S.V.length (.slice none 0 0)) 52 (0,0))):=hH0.alloc hH0.size _;have HCM:=zD (CellsAt.made (ok:=fun i=>w.heap.size<i/\i≠wd0.heap.size) wd0 S.V.length);go_simp;refine hK.out _ _ (fun _=>hH1) ?_;clear hK K hrun
 try simp only [Act.put,sT,sZ,sS]
 generalize wd0.alloc (.cells (Array.replicate S.V.length (.slice none 0 0)) 52 (0,0))=wd1 at hH1 HCM ⊢;refine' tkR 15 23 hH1 ?o15
 refine tnQ 16 (fun K hK=>?_);have hH2:Below w1.heap.size w1 (wd1.alloc (.cells #[.slice aV S.V.length cV,.slice aI S.I.length cI,.slice aO S.O.length cO,.slice aR S.R.length cR,.slice (some ⟨wd0.heap.size,0,none⟩) S.V.length S.V.length,.map oA] 85 (0,0))):=hH1.alloc hH1.size _;have hrow:=zD (zH wd1 (.cells #[.slice aV S.V.length cV,.slice aI S.I.length cI,.slice aO S.O.length cO,.slice aR S.R.length cR,.slice (some ⟨wd0.heap.size,0,none⟩) S.V.length S.V.length,.map oA] 85 (0,0)));have HCM2:=zD (HCM.out.under ((Below.refl _ wd1).alloc zL (.cells #[.slice aV S.V.length cV,.slice aI S.I.length cI,.slice aO S.O.length cO,.slice aR S.R.length cR,.slice (some ⟨wd0.heap.size,0,none⟩) S.V.length S.V.length,.map oA] 85 (0,0))));have yCB:wd0.heap.size<wd1.heap.size:=HCM.out.lt;go_simp;refine hK.out _ _ (fun _=>hH2) ?_;clear hK K HCM
 try simp only [Act.put,sT,sZ,sS]
 generalize wd1.alloc (.cells #[.slice aV S.V.length cV,.slice aI S.I.length cI,.slice aO S.O.length cO,.slice aR S.R.length cR,.slice (some ⟨wd0.heap.size,0,none⟩) S.V.length S.V.length,.map oA] 85 (0,0))=wd2 at hH2 HCM2 hrow ⊢;refine' tkR 17 6 hH2 ?o16
 refine zJ (by kernel_rfl) ?_ _;obtain ⟨w2,hw2⟩:=nmQ (wd2);rw [<-hw2] at hH2 HCM2 hrow ⊢;have z0:=hH0.size;generalize wd0.heap.size=cb at HCM2 hrow yCB z0 ⊢;generalize hrb:wd1.heap.size=rb at hrow yCB ⊢;clear hrb;have BS:Below w.heap.size w w2:=b0.trans (hH2.mono b0.size);have kF2:=zD ((hH2.block _ y1).trans kF);have yrb:=zG hrow.out;have HROW:=zD (show RowAt w2 rb ⟨aV,S.V.length,cV,aI,S.I.length,cI,aO,S.O.length,cO,aR,S.R.length,cR,0⟩ (.slice (some ⟨cb,0,none⟩) S.V.length S.V.length) (.map oA) from hrow.out);have HS2:=zD (HSL.out.under BS);have HIN2:=zD (HIN.out.under BS);have hne:rb≠cb:=(by omega);have y12:=zG kF2.out;have hcbw:w.heap.size<=cb:=Nat.le_trans b0.size z0;have hct:=take42_any (w:=w2) (ok:=fun i=>w.heap.size<i/\i≠cb) HROW.out HS2.out HCM2.out HIN2.out (by intro h;have:=h.1;omega) (by intro h;omega) (by intro h;exact h.2 rfl) (fun i hi=>⟨by omega,by omega⟩) hne HO.out (by simp);generalize hTK:Sk.takeT S inp (List.replicate S.V.length [])=TK at hct HTT HTF HTS;have HCT:=zD hct;clear k0 k1 k2 k3 k4 kF kA hw2 hH2 hrow HCM2 hct hTK;obtain ⟨⟨tc,ta⟩,TC⟩:=TK;simp only at HCT HTT HTF HTS;go_wp2_with fail;refine HCT.out.mono ?_;rintro e w3 ⟨rfl,hC3,a3⟩;have HC3:=zD hC3;have BS3:Below w.heap.size w w3:=BS.trans ((a3.mono BS.size).below (by intro q hq;simp at hq;omega));have kF3:=a3.keep kF2.out (zG kF2.out) (by simp;have:=zG kF2.out;omega);have HROW3:=zD (show RowAt w3 rb ⟨aV,S.V.length,cV,aI,S.I.length,cI,aO,S.O.length,cO,aR,S.R.length,cR,0⟩ (.slice (some ⟨cb,0,none⟩) S.V.length S.V.length) (.map oA) from a3.keep HROW.out yrb (by simpa using hne));have yrb3:=zG HROW3.out;clear hC3 HCT
 cases hq:(tc != 0)
 case true=>
  have HZ:=zD (show TT=(([],(tc,ta)),ah) by rw [HTT.out,if_pos (by simpa using hq)]);have b4:Below w3.heap.size w3 (w3.alloc (.cells #[.int .i64 tc,.int .i64 ta] 30 (0,0))):=(Below.refl _ _).alloc zL _;have kG:=zH w3 (.cells #[.int .i64 tc,.int .i64 ta] 30 (0,0));have kF4:=(b4.block _ (zG kF3)).trans kF3;have BS4:=BS3.trans (b4.mono BS3.size);go_upto_region 4 with fail;generalize w3.alloc (.cells #[.int .i64 tc,.int .i64 ta] 30 (0,0))=w4 at b4 kG kF4 BS4 ⊢;have g0:=coQ kG 0;have g1:=coQ kG 1;simp at g0 g1;have yG:=zG kG;have yF:=zG kF4;refine zK (fun w'=>Below w4.heap.size w4 w') (fun i=>i==2) (by kernel_rfl) ?_;have hH0:Below w4.heap.size w4 w4.drew:=(Below.refl _ _).drew;generalize w4.drew=wd0 at hH0 ⊢;refine' tkQ 0 31 hH0 ?hyv ?o17
  case hyv=>
   intro wz hSw;have zc0:=(hSw.cell (p:=⟨w3.heap.size,0,none⟩) yG).trans g0;have zc1:=(hSw.cell (p:=⟨w3.heap.size,1,none⟩) yG).trans g1;go_simp
   try rfl
  try simp only [Act.put,sT,sZ,sS]
  refine' tkR 1 4 hH0 ?o18
  refine tnQ 2 (fun K hK=>?_);have kf5:=(hH0.block _ yF).trans kF4;have st0:=coQ kf5 0;have st1:=coQ kf5 1;have fr0:=foQ kf5 0;have fr1:=foQ kf5 1;simp at st0 st1;have KR:=zP (zP kf5 0 (.int .i64 tc)) 1 (.int .i64 ta);simp at KR;have HKR:=zD KR;have BE:Below w.heap.size w ((wd0.setCell ⟨w.heap.size,0,none⟩ (.int .i64 tc)).setCell ⟨w.heap.size,1,none⟩ (.int .i64 ta)):=((BS4.trans (hH0.mono BS4.size)).setCell (p:=⟨w.heap.size,0,none⟩) zL _).setCell (p:=⟨w.heap.size,1,none⟩) zL _;have HBE:=zD BE;clear KR BE kf5;go_simp;refine hK.out _ _ (fun h=>absurd h (by decide)) ?_;clear hK K st0 st1 fr0 fr1
  try simp only [Act.put,sT,sZ,sS]
  generalize ((wd0.setCell ⟨w.heap.size,0,none⟩ (.int .i64 tc)).setCell ⟨w.heap.size,1,none⟩ (.int .i64 ta))=wd1 at HKR HBE ⊢;refine zJ (by kernel_rfl) ?_ _;have r0:=coQ HKR.out 0;have r1:=coQ HKR.out 1;simp at r0 r1;clear g0 g1 kG;have HMEAN:=zD (MeanAt.under (L:=L) (mb:=mb) (S:=S) (ah:=ah) ⟨aV,aI,aO,aR,cV,cI,cO,cR,oA,f,HK.out,HS.out,HMM.out,HR.out,HLL.out⟩ HBE.out);go_wp2;exact bodyPost_ret (v:=.tuple #[.slice none 0 0,.agg #[.int .i64 tc,.int .i64 ta]]) (by simp [results,Tryz.results21,go_sem,r0,r1]) rfl ⟨_,by rw [HZ.out],by rw [HZ.out];exact ⟨fun _=>[],Sl.nil,fun j h=>absurd h (Nat.not_lt_zero _)⟩,by rw [HZ.out];exact HMEAN.out,aside HBE.out⟩
 case false=>
  have htc:tc=0:=(by simpa using hq);subst htc;have b4:Below w3.heap.size w3 (w3.alloc (.cells #[.int .i64 0,.int .i64 ta] 30 (0,0))):=(Below.refl _ _).alloc zL _;have kG:=zH w3 (.cells #[.int .i64 0,.int .i64 ta] 30 (0,0));have HT0:=zD (show TT=_ from HTT.out.trans (if_neg (by simp)));have HTF0:=zD (HTF.out rfl);have kF4:=zD ((b4.block _ (zG kF3)).trans kF3);have BS4:=BS3.trans (b4.mono BS3.size);have HC4:=zD (HC3.out.under b4);have HROW4:=zD (HROW3.out.under b4);have yC4:=HC4.out.lt;clear hq HTT HTF kF3 HC3 HROW3;go_upto_region 3 with fail;generalize w3.alloc (.cells #[.int .i64 0,.int .i64 ta] 30 (0,0))=w4 at b4 kG kF4 BS4 HC4 HROW4 yC4 ⊢;have g0:=coQ kG 0;simp at g0;have HRUN:=zD (run_any (w:=w4) (ok:=fun i=>w.heap.size<i/\i≠cb) (f:=f) (ah:=ah) HROW4.out (HSL.out.under BS4) HC4.out (fun W hW=>by
   have hB:Below w.heap.size w W:=BS4.trans ((hW.mono BS4.size).below (by intro q hq;simp at hq;omega));exact ⟨(HMM.out.is).under hB,((HR.out.wide (ok':=fun i=>i<w.heap.size) fun _ _ h=>h).under hB).wide fun i h _=>Nat.lt_of_lt_of_le h hB.size⟩) (by intro h;have:=h.1;omega) (by intro h;exact h.2 rfl) (fun i hi=>by have:=zG kF4.out;exact ⟨by omega,by omega⟩) hne HO.out HAD.out HTF0.out HAF.out HTS.out)
  have HSM:=zD (Sk.runR_small (ah:=ah) S.R TC (fun r hr=>Sk.cnt_le (Sk.vAt_ok HO.out.vars (HO.out.rules r hr).1.1)) HTS.out);have HLN:=zD (show (Sk.runR S.V ah TC S.R).length=S.V.length by rw [Sk.runR_len];exact HTF0.out.len);generalize Sk.runR S.V ah TC S.R=C5 at HRUN HT0 HSM HLN;clear kG;go_wp2_with fail;refine HRUN.out.mono ?_;rintro e w5 ⟨rfl,hC5,a5⟩;have HC5:=zD hC5;have BS5:Below w.heap.size w w5:=BS4.trans ((a5.mono BS4.size).below (by intro q hq;simp at hq;omega));have HROW5:=zD (show RowAt w5 rb ⟨aV,S.V.length,cV,aI,S.I.length,cI,aO,S.O.length,cO,aR,S.R.length,cR,0⟩ (.slice (some ⟨cb,0,none⟩) S.V.length S.V.length) (.map oA) from a5.keep HROW4.out (zG HROW4.out) (by simpa using hne));have kF5:=zD (a5.keep kF4.out (zG kF4.out) (by simp;omega));have HKP:=zD (keep_any (w:=w5) HROW5.out (HSL.out.under BS5) HC5.out HO.out HLN.out);generalize hKF:Sk.keepF C5 (fun _=>none) S.R=KF at HKP HT0;clear hC5 a5 g0 HRUN kF4 HROW4 HC4 hKF;go_wp2_with fail;refine HKP.out.mono ?_;rintro e w6 ⟨n6,f6,rfl,hm6,hr6,b6⟩;have BS6:Below w.heap.size w w6:=BS5.trans (b6.mono BS5.size);have kM6:=(BS6.block _ ym).trans HK.out;have st4:=coQ kM6 4;have fr4:=foQ kM6 4;simp at st4;have KM7:=zP kM6 4 (.map (some w5.heap.size));have A7:Aside [mb] w6.heap.size w6 (w6.setCell ⟨mb,4,none⟩ (.map (some w5.heap.size))):=Aside.setCell (p:=⟨mb,4,none⟩) (by simp) _;have y5:=BS5.size;have y5b:=zG kF5.out;have HM7:=zD (hm6.keep (A7.block _ hm6.lt (by simp;omega)));have HR7:=zD (hr6.keep A7.size (fun i hi hl=>A7.block i hl (by simp;have:=hi.1.1;omega)));have HC7:=zD (show CellsAt (fun i=>w.heap.size<i/\i≠cb) (w6.setCell ⟨mb,4,none⟩ (.map (some w5.heap.size))) cb C5 from (HC5.out.under b6).past A7 (fun i hi=>by simp;have:=hi.1;omega) (by simp;omega));have HROW7:=zD (show RowAt (w6.setCell ⟨mb,4,none⟩ (.map (some w5.heap.size))) rb ⟨aV,S.V.length,cV,aI,S.I.length,cI,aO,S.O.length,cO,aR,S.R.length,cR,0⟩ (.slice (some ⟨cb,0,none⟩) S.V.length S.V.length) (.map oA) from A7.keep (HROW5.out.under b6) (zG (HROW5.out.under b6)) (by simp;omega));have HS7:=zD ((HSL.out.under BS6).keep A7.size (fun i hi hl=>A7.block i hl (by simp;exact fun e=>hi.2 (e ▸ HLL.out.1))));have kF7:=zD (A7.keep ((b6.block _ (zG kF5.out)).trans kF5.out) (zG ((b6.block _ (zG kF5.out)).trans kF5.out)) (by simp;omega));have A70:Aside [mb] w.heap.size w (w6.setCell ⟨mb,4,none⟩ (.map (some w5.heap.size))):=(aside BS6).trans (A7.mono BS6.size) zL;simp at KM7;have HKM7:=zD KM7;clear hm6 hr6 b6 KM7 kM6 kF5 HROW5 HC5 A7 HKP;go_upto_region 7 with fail;generalize w6.setCell ⟨mb,4,none⟩ (.map (some w5.heap.size))=w7 at HM7 HR7 HC7 HROW7 HS7 kF7 A70 HKM7 ⊢;clear st4 fr4;have HTD:=zD (told_any (w:=w7) HROW7.out HS7.out HC7.out HO.out HLN.out HSM.out);generalize Sk.toldL C5 S.O=TD at HTD HT0;go_wp2_with fail;refine HTD.out.mono ?_;rintro e w8 ⟨v8,rfl,own8,b8⟩;obtain ⟨a8,c8,e8,-,-⟩:=own8.form;subst e8;have kF8:=(b8.block _ (zG kF7.out)).trans kF7.out;have st0:=coQ kF8 0;have st1:=coQ kF8 1;have fr0:=foQ kF8 0;have fr1:=foQ kF8 1;simp at st0 st1;have KR:=zP (zP kF8 0 (.int .i64 0)) 1 (.int .i64 0);have r0:=coQ KR 0;have r1:=coQ KR 1;simp at r0 r1;have A8:Aside [mb] w.heap.size w w8:=A70.trans (aside b8) A70.size;have A9:=(A8.set (p:=⟨w.heap.size,0,none⟩) zL (.int .i64 0)).set (p:=⟨w.heap.size,1,none⟩) zL (.int .i64 0);have y7:=A70.size;have T2:Aside [w.heap.size] w8.heap.size w8 ((w8.setCell ⟨w.heap.size,0,none⟩ (.int .i64 0)).setCell ⟨w.heap.size,1,none⟩ (.int .i64 0)):=jF;have y56:w5.heap.size<w7.heap.size:=HM7.out.lt;have HM9:MapI ((w8.setCell ⟨w.heap.size,0,none⟩ (.int .i64 0)).setCell ⟨w.heap.size,1,none⟩ (.int .i64 0)) w5.heap.size n6 f6:=HM7.out.keep ((T2.block _ (Nat.lt_of_lt_of_le y56 b8.size) (by simp;omega)).trans (b8.block _ y56));have HMEAN:=zD (show MeanAt L ((w8.setCell ⟨w.heap.size,0,none⟩ (.int .i64 0)).setCell ⟨w.heap.size,1,none⟩ (.int .i64 0)) mb S KF from ⟨aV,aI,aO,aR,cV,cI,cO,cR,some w5.heap.size,f6,
   T2.keep ((b8.block _ (zG HKM7.out)).trans HKM7.out) (Nat.lt_of_lt_of_le (zG HKM7.out) b8.size) (by simp;omega),
   HS.out.keep A9.size (fun i hi hl=>A9.block i hl (by simp;exact fun e=>hi (e ▸ HLL.out.1))),
   .inr ⟨_,n6,rfl,(fun h=>by have:=HLL.out.2 _ h;omega),HM9⟩,
   ((HR7.out.wide (ok':=fun i=>i ∉ L/\i≠w.heap.size/\i<w7.heap.size) fun i hi hl=>⟨fun h=>by have:=HLL.out.2 _ h;have:=hi.1.1;omega,(by have:=hi.1.1;omega),hl⟩).keep (Nat.le_trans b8.size T2.size) (fun i hi hl=>(T2.block i (Nat.lt_of_lt_of_le hl b8.size) (by simp;exact hi.2.1)).trans (b8.block i hl))).wide (fun i hi _=>hi.1),
   HLL.out.1,fun q hq=>Nat.lt_of_lt_of_le (HLL.out.2 q hq) A9.size⟩)
  have HOUT:=zD (show HInts (fun i=>w.heap.size<=i) ((w8.setCell ⟨w.heap.size,0,none⟩ (.int .i64 0)).setCell ⟨w.heap.size,1,none⟩ (.int .i64 0)) (.slice a8 TD.length c8) TD from ((xP own8.row).keep T2.size (fun i hi hl=>T2.block i hl (by simp;omega))).wide (fun i hi _=>Nat.le_trans A70.size hi));have HA9:=zD A9;clear KR own8 b8 kF8 A8 A9 T2 HM9;go_wp2;exact bodyPost_ret (v:=.tuple #[.slice a8 TD.length c8,.agg #[.int .i64 0,.int .i64 0]]) (by simp [results,Tryz.results21,go_sem,r0,r1]) rfl ⟨_,by rw [HT0.out],by rw [HT0.out];exact HOUT.out,by rw [HT0.out];exact HMEAN.out,HA9.out⟩
end Go.Proofs.YtnhmcpnbaajjcaaGreatDoor
