import Derived.Test.YtegakbobaecdlaaGreatDoorL29
import Derived.WalkKit
import Derived.WalkSpells
import Derived.IntWalk
import Derived.Deep.Cut
import Derived.Deep.LoopGhost
import Derived.Ground.NamesProg
import Derived.Laws.Cover1
import Derived.Laws.EntriesVeiled
import Derived.Laws.Externs
import Derived.Lib.Hide
import Derived.Lib.MakeNoZero
import Derived.Lib.SlBuf
import Derived.Shelf.Bytes.SlSmallAll
import Derived.Shelf.Lay
set_option linter.unusedVariables false
set_option linter.unusedSimpArgs false
set_option maxHeartbeats 64000000
set_option maxRecDepth 100000
namespace Go.Proofs.YtegakbobaecdlaaGreatDoor
open Go.RowKit Go.IntWalk
namespace Sk
def pass (S:Sys):Nat->Int × Int
 | 0=>firstV 0 S.V
 | 1=>atS (givenL (List.replicate S.V.length false) S.I).1
 | 2=>atS (firstI (codeNum S.V.length) S.O)
 | 3=>(rulesL S.V (m0 S) 0 S.R).1
 | 4=>firstR (usesC (m1 S)) 0 S.R
 | _=>atS (firstI (fun z=>unmade (m1 S) z.toNat) S.O)
def mAt (S:Sys) (i:Nat):List Bool:=if i<2 then List.replicate S.V.length false else if i<4 then m0 S else m1 S
def chk (S:Sys):Nat->Nat->Int × Int
 | 0,_=>(0,0)
 | f+1,i=>if (pass S i).1≠0 then pass S i else chk S f (i+1)
theorem atS_fst (c:Int):(atS c).1=c:=by
 unfold atS
 split
 ·rename_i h;exact h.symm
 ·rfl
theorem atS_ne {c:Int} (h:c≠0):atS c=(c,-1):=by
 unfold atS;rw [if_neg h]
theorem check_chk (S:Sys):check S=if tooMany S.V.length S.I.length S.O.length S.R.length=true then (7,-1) else chk S 6 0:=by
 unfold check
 split
 ·rfl
 ·simp only [chk,pass,atS_fst]
  split
  ·rfl
  ·split
   ·rename_i h;rw [atS_ne h]
   ·split
    ·rename_i h;rw [atS_ne h]
    ·split
     ·rfl
     ·split
      ·rfl
      ·split
       ·rename_i h;rw [atS_ne h]
       ·rfl
theorem givenL_len:∀ (I:List Int) (m:List Bool),(givenL m I).2.length=m.length
 | [],m=>rfl
 | x :: r,m=>by
  unfold givenL
  split
  ·exact given_len m x
  ·rw [givenL_len r,given_len]
theorem rulesL_len (V:List Vr):∀ (R:List Ru) (m:List Bool) (i:Nat),(rulesL V m i R).2.length=m.length
 | [],m,i=>rfl
 | r :: l,m,i=>by
  unfold rulesL
  split
  ·rfl
  ·rw [rulesL_len V l,codeRule_len]
theorem m0_len (S:Sys):(m0 S).length=S.V.length:=by unfold m0;rw [givenL_len];simp
theorem m1_len (S:Sys):(m1 S).length=S.V.length:=by unfold m1;rw [rulesL_len,m0_len]
theorem pass_rules {S:Sys} (h1:(pass S 1).1=0) (h3:(pass S 3).1=0):∀ r ∈ S.R,RuOk S.V r:=by
 obtain ⟨g1,g2⟩:=givenL_spec (n:=S.V.length) S.I (MadeBy.start S.V.length);have hm0:MadeBy (m0 S) S.V.length S.I:=by
  have:=g2 (by simpa [pass,atS_fst] using h1)
  simpa [m0] using this
 intro r hr;exact (((rulesL_spec (V:=S.V) S.R 0 hm0).1.1 h3).1 r hr).2
theorem pass_outs {S:Sys} (h2:(pass S 2).1=0):∀ x ∈ S.O,0<=x/\x<S.V.length:=by
 intro x hx;have:=(firstI_zero S.O).1 (by simpa [pass,atS_fst] using h2) x hx;unfold codeNum at this;refine isNone_false.1 ?_
 cases h:isNone S.V.length x
 ·rfl
 ·rw [h] at this;simp at this
end Sk
structure HSys (ok:Nat->Prop) (w:World) (aV aI aO aR:Option Addr) (cV cI cO cR:Nat) (S:Sk.Sys):Prop where
 V:HVars ok w (.slice aV S.V.length cV) S.V
 I:HInts ok w (.slice aI S.I.length cI) S.I
 O:HInts ok w (.slice aO S.O.length cO) S.O
 R:HRus ok w (.slice aR S.R.length cR) S.R
theorem HSys.keep {ok:Nat->Prop} {w w':World} {aV aI aO aR:Option Addr} {cV cI cO cR:Nat} {S:Sk.Sys} (h:HSys ok w aV aI aO aR cV cI cO cR S) (h1:w.heap.size<=w'.heap.size) (h2:∀ i,ok i->i<w.heap.size->w'.heap[i]?=w.heap[i]?):HSys ok w' aV aI aO aR cV cI cO cR S:=⟨h.V.keep h1 h2,h.I.keep h1 h2,h.O.keep h1 h2,h.R.keep h1 h2⟩
theorem HSys.under {ok:Nat->Prop} {w w':World} {aV aI aO aR:Option Addr} {cV cI cO cR:Nat} {S:Sk.Sys} (h:HSys ok w aV aI aO aR cV cI cO cR S) (b:Below w.heap.size w w'):HSys ok w' aV aI aO aR cV cI cO cR S:=h.keep b.size fun i _ hl=>b.block i hl
theorem HSys.wide {ok ok':Nat->Prop} {w:World} {aV aI aO aR:Option Addr} {cV cI cO cR:Nat} {S:Sk.Sys} (h:HSys ok w aV aI aO aR cV cI cO cR S) (hk:∀ i,ok i->i<w.heap.size->ok' i):HSys ok' w aV aI aO aR cV cI cO cR S:=⟨h.V.wide hk,h.I.wide hk,h.O.wide hk,h.R.wide hk⟩
theorem vG {ok:Nat->Prop} {w:World} {a:Option Addr} {n c k:Nat} {C:Nat->List Value} {m:Nat} (h:Sl ok k w (.slice a n c) m C):n<=c/\c<=maxLen:=by
 obtain ⟨ao,cap,hv,h1,h2,_⟩:=h;injection hv with e1 e2 e3;subst e2 e3;exact ⟨h1,h2⟩
theorem Tryz.infoT:(Tryz.prog.info? 4).map (fun i=>(i.zero,i.size,i.bytes))=some (some (.bool false),1,1):=by kernel_rfl
theorem jS (n:Nat) (hn:n<=1000000) (V:World):(Instr.makeSlice 70 (.int .i64 (n:Int)) (.int .i64 (n:Int))).run Tryz.prog V=.ok (.slice (some ⟨V.heap.size,0,none⟩) n n) (V.alloc (.cells ((List.replicate n false).map Value.bool).toArray 4 (0,0))):=by
 obtain ⟨i0,hi,hz0,hz1,hz2⟩:=info_parts Tryz.infoT;have h:=run_make (P:=Tryz.prog) V 70 4 i0 (.bool false) Tryz.underlying70 hi hz0 .i64 .i64 (n:Int) (n:Int) (by omega) (by omega) (by rw [hz2];simp;omega) (by omega);have e:madeCells (Value.bool false).cells (((n:Int)).toNat*i0.size)=((List.replicate n false).map Value.bool).toArray:=by
  rw [hz1]
  apply Array.ext_getElem?
  intro j;by_cases hj:j<n
  ·simp [madeCells,Value.cells,hj,Nat.mod_one]
  ·simp [madeCells,Value.cells,hj]
 rw [e] at h
 simpa using h
theorem check_any {ok:Nat->Prop} {w:World} {aV aI aO aR:Option Addr} {cV cI cO cR:Nat} {S:Sk.Sys} (hG:GlobK w) (hP:GlobP w) (hS:HSys ok w aV aI aO aR cV cI cO cR S) (hfit:∀ r ∈ S.R,r.A.length<=1000000/\r.E.length<=1000000) :
  Calls Tryz.prog 49 #[.agg #[.slice aV S.V.length cV,.slice aI S.I.length cI,.slice aO S.O.length cO,.slice aR S.R.length cR]] w fun e w'=>e=.returned (.agg #[.int .i64 (Sk.check S).1,.int .i64 (Sk.check S).2])/\Below w.heap.size w w':=by
 obtain ⟨R,hR⟩:=nmQ (Sk.check S);rw [<-hR];rw [Sk.check_chk] at hR;have hS2:HSys (fun i=>i<w.heap.size) w aV aI aO aR cV cI cO cR S:=hS.wide fun i _ hl=>hl;obtain ⟨_,hvs,_⟩:=hS.V;have cv:=vG hvs;obtain ⟨_,his,_⟩:=hS.I;have ci:=vG his;obtain ⟨_,hos,_⟩:=hS.O;have co:=vG hos;obtain ⟨_,hrs,_⟩:=hS.R;have cr:=vG hrs;have htm:=zAO aV aI aO aR S.V.length cV S.I.length cI S.O.length cO S.R.length cR cv ci co cr;unfold maxLen at cv ci co cr;have b1:Below w.heap.size w ((w.alloc (.cells #[.slice aV S.V.length cV,.slice aI S.I.length cI,.slice aO S.O.length cO,.slice aR S.R.length cR] 26 (0,0))).alloc (.cells #[.int .i64 0,.int .i64 0] 30 (0,0))):=((Below.refl _ _).alloc zM _).alloc (by simp) _;have kS:((w.alloc (.cells #[.slice aV S.V.length cV,.slice aI S.I.length cI,.slice aO S.O.length cO,.slice aR S.R.length cR] 26 (0,0))).alloc (.cells #[.int .i64 0,.int .i64 0] 30 (0,0))).heap[w.heap.size]?=some (.cells #[.slice aV S.V.length cV,.slice aI S.I.length cI,.slice aO S.O.length cO,.slice aR S.R.length cR] 26 (0,0)):=(Below.heap_alloc _ _ _ (by simp)).trans (zI w _);have kF:((w.alloc (.cells #[.slice aV S.V.length cV,.slice aI S.I.length cI,.slice aO S.O.length cO,.slice aR S.R.length cR] 26 (0,0))).alloc (.cells #[.int .i64 0,.int .i64 0] 30 (0,0))).heap[w.heap.size+1]?=some (.cells #[.int .i64 0,.int .i64 0] 30 (0,0)):=by
  have:=zI (w.alloc (.cells #[.slice aV S.V.length cV,.slice aI S.I.length cI,.slice aO S.O.length cO,.slice aR S.R.length cR] 26 (0,0))) (.cells #[.int .i64 0,.int .i64 0] 30 (0,0))
  simpa using this
 obtain ⟨q,hq⟩:=nmQ (Sk.tooMany S.V.length S.I.length S.O.length S.R.length);rw [<-hq] at htm hR;have HQ:=zE hq;have HR:=zE hR;have HS:=zE hS2;have HG:=zE hG;have HP:=zE hP;have HF:=zE hfit;clear hq hR hS hS2 hG hP hfit hvs his hos hrs;go_enter Tryz.func49,Tryz.ntmps49;go_upto_region 1 with fail;generalize (w.alloc (.cells #[.slice aV S.V.length cV,.slice aI S.I.length cI,.slice aO S.O.length cO,.slice aR S.R.length cR] 26 (0,0))).alloc (.cells #[.int .i64 0,.int .i64 0] 30 (0,0))=w1 at b1 kS kF ⊢;have s0:=coQ kS 0;have s1:=coQ kS 1;have s2:=coQ kS 2;have s3:=coQ kS 3;simp at s0 s1 s2 s3;go_wp2_with fail;refine (htm w1).mono ?_;rintro e w2 ⟨rfl,b2⟩;have B2:=b1.trans (b2.mono b1.size);have kS2:=(b2.block _ (zG kS)).trans kS;have kF2:=(b2.block _ (zG kF)).trans kF;clear htm s0 s1 s2 s3
 cases q
 case true=>
  have HZ:=zE (show R=(7,-1) by rw [HR.out];rfl);have st0:=coQ kF2 0;have st1:=coQ kF2 1;have fr0:=foQ kF2 0;have fr1:=foQ kF2 1;simp at st0 st1;have KR:=zJ (zJ kF2 0 (.int .i64 7)) 1 (.int .i64 (-1));have r0:=coQ KR 0;have r1:=coQ KR 1;simp at r0 r1;have BR:=(B2.setCell (p:=⟨w.heap.size+1,0,none⟩) (by simp) (.int .i64 7)).setCell (p:=⟨w.heap.size+1,1,none⟩) (by simp) (.int .i64 (-1));clear KR HR;go_wp2;exact bodyPost_ret (v:=.agg #[.int .i64 7,.int .i64 (-1)]) (by simp [results,Tryz.results49,go_sem,r0,r1]) rfl ⟨by rw [HZ.out],BR⟩
 case false=>
 have HR0:=zE (show R=Sk.chk S 6 0 by rw [HR.out];rfl);have hlim:S.V.length<=400/\S.I.length<=400/\S.O.length<=400/\S.R.length<=400:=by
  have:=HQ.out;unfold Sk.tooMany at this;simp at this;omega
 have hmk:=jS S.V.length (by omega);obtain ⟨M,hM⟩:=nmQ (((List.replicate S.V.length false).map Value.bool).toArray);rw [<-hM] at hmk;have HMM:=zE hM;clear HR hM;go_upto_region 3 with fail;have s0:=coQ kS2 0;have s1:=coQ kS2 1;have s2:=coQ kS2 2;have s3:=coQ kS2 3;simp at s0 s1 s2 s3;have yS:=zG kS2;go_cut [3] (fun v wd=>∃ (pl b g:Nat),v=.pointer (some ⟨pl,0,none⟩)/\Hid (wd.heap[pl]?=some (.cells #[.pointer (some ⟨b,0,none⟩)] 106 (0,0))/\LkAt wd b ⟨aV,S.V.length,cV,aI,S.I.length,cI,aO,S.O.length,cO,aR,S.R.length,cR,g⟩/\Md wd g (List.replicate S.V.length false)/\w2.heap.size<=pl/\w2.heap.size<=b/\w2.heap.size<=g/\pl≠g/\b≠g)/\Below w2.heap.size w2 wd)
 case first=>
  refine zK (fun w'=>Below w2.heap.size w2 w') (fun _=>false) (by kernel_rfl) ?_;have hH0:Below w2.heap.size w2 w2.drew:=(Below.refl _ _).drew;generalize w2.drew=wd0 at hH0 ⊢;refine' tkQ 0 11 hH0 ?hyv ?o1
  case hyv=>
   intro wz hSw;have zc0:=(hSw.cell (p:=⟨w.heap.size,0,none⟩) yS).trans s0;have zc1:=(hSw.cell (p:=⟨w.heap.size,1,none⟩) yS).trans s1;have zc2:=(hSw.cell (p:=⟨w.heap.size,2,none⟩) yS).trans s2;have zc3:=(hSw.cell (p:=⟨w.heap.size,3,none⟩) yS).trans s3;go_simp
   try rfl
  try simp only [Act.put,sT,sZ,sS]
  refine' tkR 1 12 hH0 ?o2
  refine' tkQ 2 13 hH0 ?hyv ?o3
  case hyv=>
   intro wz hSw;have zc0:=(hSw.cell (p:=⟨w.heap.size,0,none⟩) yS).trans s0;have zc1:=(hSw.cell (p:=⟨w.heap.size,1,none⟩) yS).trans s1;have zc2:=(hSw.cell (p:=⟨w.heap.size,2,none⟩) yS).trans s2;have zc3:=(hSw.cell (p:=⟨w.heap.size,3,none⟩) yS).trans s3;go_simp
   try rfl
  try simp only [Act.put,sT,sZ,sS]
  refine' tkR 3 14 hH0 ?o4
  refine xF (i:=4) (j:=7) rfl rfl (by kernel_rfl) (by rfl) (by rfl) (fun K hK=>?_) (fun K hK=>?_)
  case _=>
   go_simp;have hH1:Below w2.heap.size w2 (wd0.alloc (.cells M 4 (0,0))):=hH0.alloc hH0.size _;have kn1:=zI wd0 (.cells M 4 (0,0));have zn1:=hH0.size;refine hK.out _ _ (fun _=>hH1) ?_;clear hK K
   try simp only [Act.put,sT,sZ,sS]
   generalize wd0.alloc (.cells M 4 (0,0))=wd1 at hH1 kn1 ⊢;refine' tkR 5 16 hH1 ?o5
   refine xF (i:=6) (j:=7) rfl rfl (by kernel_rfl) (by rfl) (by rfl) (fun K hK=>?_) (fun K hK=>?_)
   case _=>
    go_simp;have hH2:Below w2.heap.size w2 (wd1.alloc (.cells #[.slice aV S.V.length cV,.slice aI S.I.length cI,.slice aO S.O.length cO,.slice aR S.R.length cR,.slice (some ⟨wd0.heap.size,0,none⟩) S.V.length S.V.length] 108 (0,0))):=hH1.alloc hH1.size _;have kn2:=zI wd1 (.cells #[.slice aV S.V.length cV,.slice aI S.I.length cI,.slice aO S.O.length cO,.slice aR S.R.length cR,.slice (some ⟨wd0.heap.size,0,none⟩) S.V.length S.V.length] 108 (0,0));have zn2:=hH1.size;refine hK.out _ _ (fun _=>hH2) ?_;clear hK K
    try simp only [Act.put,sT,sZ,sS]
    have kn1_2:=(Below.heap_alloc wd1 (.cells #[.slice aV S.V.length cV,.slice aI S.I.length cI,.slice aO S.O.length cO,.slice aR S.R.length cR,.slice (some ⟨wd0.heap.size,0,none⟩) S.V.length S.V.length] 108 (0,0)) _ (zG kn1)).trans kn1;generalize wd1.alloc (.cells #[.slice aV S.V.length cV,.slice aI S.I.length cI,.slice aO S.O.length cO,.slice aR S.R.length cR,.slice (some ⟨wd0.heap.size,0,none⟩) S.V.length S.V.length] 108 (0,0))=wd2 at hH2 kn2 kn1_2 ⊢;refine tnQ 7 (fun K hK=>?_);go_simp;have hH3:Below w2.heap.size w2 (wd2.alloc (.cells #[.pointer none] 106 (0,0))):=hH2.alloc hH2.size _;have kn3:=zI wd2 (.cells #[.pointer none] 106 (0,0));have zn3:=hH2.size;refine hK.out _ _ (fun _=>hH3) ?_;clear hK K
    try simp only [Act.put,sT,sZ,sS]
    have kn1_3:=(Below.heap_alloc wd2 (.cells #[.pointer none] 106 (0,0)) _ (zG kn1_2)).trans kn1_2;have kn2_3:=(Below.heap_alloc wd2 (.cells #[.pointer none] 106 (0,0)) _ (zG kn2)).trans kn2;generalize wd2.alloc (.cells #[.pointer none] 106 (0,0))=wd3 at hH3 kn3 kn1_3 kn2_3 ⊢;refine tnQ 8 (fun K hK=>?_);have st0:=coQ kn3 0;have fr0:=foQ kn3 0;simp at st0;have KP:=zJ kn3 0 (.pointer (some ⟨wd1.heap.size,0,none⟩));simp at KP;have ne1:wd2.heap.size≠wd1.heap.size:=(by intro e;rw [e] at kn3;rw [kn3] at kn2_3;injection kn2_3 with e2;injection e2 with e3 e4;cases e4);have ne2:wd2.heap.size≠wd0.heap.size:=(by intro e;rw [e] at kn3;rw [kn3] at kn1_3;injection kn1_3 with e2;injection e2 with e3 e4;cases e4);have ne3:wd1.heap.size≠wd0.heap.size:=(by intro e;rw [e] at kn2_3;rw [kn2_3] at kn1_3;injection kn1_3 with e2;injection e2 with e3 e4;cases e4);have hP0:w2.heap.size<=wd2.heap.size:=hH2.size;have hB0:w2.heap.size<=wd1.heap.size:=hH1.size;have hG0:w2.heap.size<=wd0.heap.size:=hH0.size;have KL:=zP (p:=⟨wd2.heap.size,0,none⟩) kn2_3 ne1 (.pointer (some ⟨wd1.heap.size,0,none⟩));have KM:=zP (p:=⟨wd2.heap.size,0,none⟩) kn1_3 ne2 (.pointer (some ⟨wd1.heap.size,0,none⟩));have hH4:=hH3.setCell (p:=⟨wd2.heap.size,0,none⟩) hP0 (.pointer (some ⟨wd1.heap.size,0,none⟩));rw [HMM.out] at KM;have HFIN:=zE (And.intro KP (And.intro KL (And.intro KM (And.intro hP0 (And.intro hB0 (And.intro hG0 (And.intro ne2 ne3)))))));clear KP KL KM;go_simp;refine hK.out _ _ (fun _=>hH4) ?_;clear hK K
    try simp only [Act.put,sT,sZ,sS]
    generalize wd3.setCell ⟨wd2.heap.size,0,none⟩ (.pointer (some ⟨wd1.heap.size,0,none⟩))=wd4 at hH4 HFIN ⊢;refine zH (by kernel_rfl) ?_ _;go_wp2_with fail;go_meet
    case rel=>exact ⟨wd2.heap.size,wd1.heap.size,wd0.heap.size,rfl,zE HFIN.out,hH4⟩
   case _=>
    go_simp;have hH2:Below w2.heap.size w2 (wd1.alloc (.cells #[.pointer none] 106 (0,0))):=hH1.alloc hH1.size _;have kn2:=zI wd1 (.cells #[.pointer none] 106 (0,0));have zn2:=hH1.size;refine hK.out _ _ (fun _=>hH2) ?_;clear hK K
    try simp only [Act.put,sT,sZ,sS]
    have kn1_2:=(Below.heap_alloc wd1 (.cells #[.pointer none] 106 (0,0)) _ (zG kn1)).trans kn1;generalize wd1.alloc (.cells #[.pointer none] 106 (0,0))=wd2 at hH2 kn2 kn1_2 ⊢;refine tnQ 6 (fun K hK=>?_);go_simp;have hH3:Below w2.heap.size w2 (wd2.alloc (.cells #[.slice aV S.V.length cV,.slice aI S.I.length cI,.slice aO S.O.length cO,.slice aR S.R.length cR,.slice (some ⟨wd0.heap.size,0,none⟩) S.V.length S.V.length] 108 (0,0))):=hH2.alloc hH2.size _;have kn3:=zI wd2 (.cells #[.slice aV S.V.length cV,.slice aI S.I.length cI,.slice aO S.O.length cO,.slice aR S.R.length cR,.slice (some ⟨wd0.heap.size,0,none⟩) S.V.length S.V.length] 108 (0,0));have zn3:=hH2.size;refine hK.out _ _ (fun _=>hH3) ?_;clear hK K
    try simp only [Act.put,sT,sZ,sS]
    have kn1_3:=(Below.heap_alloc wd2 (.cells #[.slice aV S.V.length cV,.slice aI S.I.length cI,.slice aO S.O.length cO,.slice aR S.R.length cR,.slice (some ⟨wd0.heap.size,0,none⟩) S.V.length S.V.length] 108 (0,0)) _ (zG kn1_2)).trans kn1_2;have kn2_3:=(Below.heap_alloc wd2 (.cells #[.slice aV S.V.length cV,.slice aI S.I.length cI,.slice aO S.O.length cO,.slice aR S.R.length cR,.slice (some ⟨wd0.heap.size,0,none⟩) S.V.length S.V.length] 108 (0,0)) _ (zG kn2)).trans kn2;generalize wd2.alloc (.cells #[.slice aV S.V.length cV,.slice aI S.I.length cI,.slice aO S.O.length cO,.slice aR S.R.length cR,.slice (some ⟨wd0.heap.size,0,none⟩) S.V.length S.V.length] 108 (0,0))=wd3 at hH3 kn3 kn1_3 kn2_3 ⊢;refine tnQ 8 (fun K hK=>?_);have st0:=coQ kn2_3 0;have fr0:=foQ kn2_3 0;simp at st0;have KP:=zJ kn2_3 0 (.pointer (some ⟨wd2.heap.size,0,none⟩));simp at KP;have ne1:wd1.heap.size≠wd2.heap.size:=(by intro e;rw [e] at kn2_3;rw [kn2_3] at kn3;injection kn3 with e2;injection e2 with e3 e4;cases e4);have ne2:wd1.heap.size≠wd0.heap.size:=(by intro e;rw [e] at kn2_3;rw [kn2_3] at kn1_3;injection kn1_3 with e2;injection e2 with e3 e4;cases e4);have ne3:wd2.heap.size≠wd0.heap.size:=(by intro e;rw [e] at kn3;rw [kn3] at kn1_3;injection kn1_3 with e2;injection e2 with e3 e4;cases e4);have hP0:w2.heap.size<=wd1.heap.size:=hH1.size;have hB0:w2.heap.size<=wd2.heap.size:=hH2.size;have hG0:w2.heap.size<=wd0.heap.size:=hH0.size;have KL:=zP (p:=⟨wd1.heap.size,0,none⟩) kn3 ne1 (.pointer (some ⟨wd2.heap.size,0,none⟩));have KM:=zP (p:=⟨wd1.heap.size,0,none⟩) kn1_3 ne2 (.pointer (some ⟨wd2.heap.size,0,none⟩));have hH4:=hH3.setCell (p:=⟨wd1.heap.size,0,none⟩) hP0 (.pointer (some ⟨wd2.heap.size,0,none⟩));rw [HMM.out] at KM;have HFIN:=zE (And.intro KP (And.intro KL (And.intro KM (And.intro hP0 (And.intro hB0 (And.intro hG0 (And.intro ne2 ne3)))))));clear KP KL KM;go_simp;refine hK.out _ _ (fun _=>hH4) ?_;clear hK K
    try simp only [Act.put,sT,sZ,sS]
    generalize wd3.setCell ⟨wd1.heap.size,0,none⟩ (.pointer (some ⟨wd2.heap.size,0,none⟩))=wd4 at hH4 HFIN ⊢;refine zH (by kernel_rfl) ?_ _;go_wp2_with fail;go_meet
    case rel=>exact ⟨wd1.heap.size,wd2.heap.size,wd0.heap.size,rfl,zE HFIN.out,hH4⟩
  case _=>
   go_simp;have hH1:Below w2.heap.size w2 (wd0.alloc (.cells #[.pointer none] 106 (0,0))):=hH0.alloc hH0.size _;have kn1:=zI wd0 (.cells #[.pointer none] 106 (0,0));have zn1:=hH0.size;refine hK.out _ _ (fun _=>hH1) ?_;clear hK K
   try simp only [Act.put,sT,sZ,sS]
   generalize wd0.alloc (.cells #[.pointer none] 106 (0,0))=wd1 at hH1 kn1 ⊢;refine tnQ 4 (fun K hK=>?_);go_simp;have hH2:Below w2.heap.size w2 (wd1.alloc (.cells M 4 (0,0))):=hH1.alloc hH1.size _;have kn2:=zI wd1 (.cells M 4 (0,0));have zn2:=hH1.size;refine hK.out _ _ (fun _=>hH2) ?_;clear hK K
   try simp only [Act.put,sT,sZ,sS]
   have kn1_2:=(Below.heap_alloc wd1 (.cells M 4 (0,0)) _ (zG kn1)).trans kn1;generalize wd1.alloc (.cells M 4 (0,0))=wd2 at hH2 kn2 kn1_2 ⊢;refine' tkR 5 16 hH2 ?o6
   refine tnQ 6 (fun K hK=>?_);go_simp;have hH3:Below w2.heap.size w2 (wd2.alloc (.cells #[.slice aV S.V.length cV,.slice aI S.I.length cI,.slice aO S.O.length cO,.slice aR S.R.length cR,.slice (some ⟨wd1.heap.size,0,none⟩) S.V.length S.V.length] 108 (0,0))):=hH2.alloc hH2.size _;have kn3:=zI wd2 (.cells #[.slice aV S.V.length cV,.slice aI S.I.length cI,.slice aO S.O.length cO,.slice aR S.R.length cR,.slice (some ⟨wd1.heap.size,0,none⟩) S.V.length S.V.length] 108 (0,0));have zn3:=hH2.size;refine hK.out _ _ (fun _=>hH3) ?_;clear hK K
   try simp only [Act.put,sT,sZ,sS]
   have kn1_3:=(Below.heap_alloc wd2 (.cells #[.slice aV S.V.length cV,.slice aI S.I.length cI,.slice aO S.O.length cO,.slice aR S.R.length cR,.slice (some ⟨wd1.heap.size,0,none⟩) S.V.length S.V.length] 108 (0,0)) _ (zG kn1_2)).trans kn1_2;have kn2_3:=(Below.heap_alloc wd2 (.cells #[.slice aV S.V.length cV,.slice aI S.I.length cI,.slice aO S.O.length cO,.slice aR S.R.length cR,.slice (some ⟨wd1.heap.size,0,none⟩) S.V.length S.V.length] 108 (0,0)) _ (zG kn2)).trans kn2;generalize wd2.alloc (.cells #[.slice aV S.V.length cV,.slice aI S.I.length cI,.slice aO S.O.length cO,.slice aR S.R.length cR,.slice (some ⟨wd1.heap.size,0,none⟩) S.V.length S.V.length] 108 (0,0))=wd3 at hH3 kn3 kn1_3 kn2_3 ⊢;refine tnQ 8 (fun K hK=>?_);have st0:=coQ kn1_3 0;have fr0:=foQ kn1_3 0;simp at st0;have KP:=zJ kn1_3 0 (.pointer (some ⟨wd2.heap.size,0,none⟩));simp at KP;have ne1:wd0.heap.size≠wd2.heap.size:=(by intro e;rw [e] at kn1_3;rw [kn1_3] at kn3;injection kn3 with e2;injection e2 with e3 e4;cases e4);have ne2:wd0.heap.size≠wd1.heap.size:=(by intro e;rw [e] at kn1_3;rw [kn1_3] at kn2_3;injection kn2_3 with e2;injection e2 with e3 e4;cases e4);have ne3:wd2.heap.size≠wd1.heap.size:=(by intro e;rw [e] at kn3;rw [kn3] at kn2_3;injection kn2_3 with e2;injection e2 with e3 e4;cases e4);have hP0:w2.heap.size<=wd0.heap.size:=hH0.size;have hB0:w2.heap.size<=wd2.heap.size:=hH2.size;have hG0:w2.heap.size<=wd1.heap.size:=hH1.size;have KL:=zP (p:=⟨wd0.heap.size,0,none⟩) kn3 ne1 (.pointer (some ⟨wd2.heap.size,0,none⟩));have KM:=zP (p:=⟨wd0.heap.size,0,none⟩) kn2_3 ne2 (.pointer (some ⟨wd2.heap.size,0,none⟩));have hH4:=hH3.setCell (p:=⟨wd0.heap.size,0,none⟩) hP0 (.pointer (some ⟨wd2.heap.size,0,none⟩));rw [HMM.out] at KM;have HFIN:=zE (And.intro KP (And.intro KL (And.intro KM (And.intro hP0 (And.intro hB0 (And.intro hG0 (And.intro ne2 ne3)))))));clear KP KL KM;go_simp;refine hK.out _ _ (fun _=>hH4) ?_;clear hK K
   try simp only [Act.put,sT,sZ,sS]
   generalize wd3.setCell ⟨wd0.heap.size,0,none⟩ (.pointer (some ⟨wd2.heap.size,0,none⟩))=wd4 at hH4 HFIN ⊢;refine zH (by kernel_rfl) ?_ _;go_wp2_with fail;go_meet
   case rel=>exact ⟨wd0.heap.size,wd2.heap.size,wd1.heap.size,rfl,zE HFIN.out,hH4⟩
 case rest=>
  obtain ⟨pl,b,g,rfl,HX,bc⟩:=hcut;clear s0 s1 s2 s3 yS hmk;have B3:=B2.trans (bc.mono B2.size);have kF3:=(bc.block _ (zG kF2)).trans kF2;obtain ⟨hpl,hlk,hmd,gp,gb,gg,npg,nbg⟩:=HX.out;have bA:Below wc.heap.size wc (wc.alloc (.cells #[.func (.func 81) #[] #[.pointer (some ⟨pl,0,none⟩)],.func (.func 85) #[] #[.pointer (some ⟨pl,0,none⟩)],.func (.func 89) #[] #[.pointer (some ⟨pl,0,none⟩)],.func (.func 91) #[] #[.pointer (some ⟨pl,0,none⟩)],.func (.func 95) #[] #[.pointer (some ⟨pl,0,none⟩)],.func (.func 97) #[] #[.pointer (some ⟨pl,0,none⟩)]] 84 (0,0))):=(Below.refl _ _).alloc zM _;have kf:=zI wc (.cells #[.func (.func 81) #[] #[.pointer (some ⟨pl,0,none⟩)],.func (.func 85) #[] #[.pointer (some ⟨pl,0,none⟩)],.func (.func 89) #[] #[.pointer (some ⟨pl,0,none⟩)],.func (.func 91) #[] #[.pointer (some ⟨pl,0,none⟩)],.func (.func 95) #[] #[.pointer (some ⟨pl,0,none⟩)],.func (.func 97) #[] #[.pointer (some ⟨pl,0,none⟩)]] 84 (0,0));have B5:=B3.trans (bA.mono B3.size);have kF5:=(bA.block _ (zG kF3)).trans kF3;have kp5:=(bA.block _ (zG hpl)).trans hpl;have H5:=zE (And.intro (hlk.under bA) (hmd.under bA));have hgw:g<wc.heap.size:=zG hmd;have hbw:b<wc.heap.size:=zG hlk;have hpw:pl<wc.heap.size:=zG hpl;have z2:w.heap.size+1<w2.heap.size:=zG kF2;have zA:wc.heap.size+1<=(wc.alloc (.cells #[.func (.func 81) #[] #[.pointer (some ⟨pl,0,none⟩)],.func (.func 85) #[] #[.pointer (some ⟨pl,0,none⟩)],.func (.func 89) #[] #[.pointer (some ⟨pl,0,none⟩)],.func (.func 91) #[] #[.pointer (some ⟨pl,0,none⟩)],.func (.func 95) #[] #[.pointer (some ⟨pl,0,none⟩)],.func (.func 97) #[] #[.pointer (some ⟨pl,0,none⟩)]] 84 (0,0))).heap.size:=(by simp);clear HX hpl hlk hmd kF3 kF2 kS2 bA;go_upto_region 5 with fail;generalize wc.alloc (.cells #[.func (.func 81) #[] #[.pointer (some ⟨pl,0,none⟩)],.func (.func 85) #[] #[.pointer (some ⟨pl,0,none⟩)],.func (.func 89) #[] #[.pointer (some ⟨pl,0,none⟩)],.func (.func 91) #[] #[.pointer (some ⟨pl,0,none⟩)],.func (.func 95) #[] #[.pointer (some ⟨pl,0,none⟩)],.func (.func 97) #[] #[.pointer (some ⟨pl,0,none⟩)]] 84 (0,0))=w5 at kf B5 kF5 kp5 H5 zA ⊢;go_wp2_with fail;go_loopg [27] 6 (fun k v wr=>∃ i,i<=6/\k=6-i/\v=.int .i64 (i:Nat)/\Hid (R=Sk.chk S (6-i) i)/\Hid (∀ j,j<i->(Sk.pass S j).1=0)/\Hid (LkAt wr b ⟨aV,S.V.length,cV,aI,S.I.length,cI,aO,S.O.length,cO,aR,S.R.length,cR,g⟩/\Md wr g (Sk.mAt S i))/\Aside [g] w5.heap.size w5 wr)
  case atStart=>exact ⟨0,by omega,rfl,rfl,HR0,zE (fun j hj=>absurd hj (Nat.not_lt_zero _)),zE H5.out,Aside.refl _⟩
  case round=>
   clear HR0 H5;obtain ⟨i,hi,rfl,rfl,H,HPS,HI,hbr⟩:=hrel;have zr:=hbr.size;have kFr:=hbr.keep kF5 (zG kF5) (by simp;omega);have kfr:=hbr.keep kf (zG kf) (by simp;omega);have kpr:=hbr.keep kp5 (zG kp5) (by simp;omega);have BW:Below w.heap.size w wr:=B5.trans ((hbr.mono (by omega)).below (by intro k hk;simp at hk;omega));have HSW:=zE (show ∀ W,Below wr.heap.size wr W->HSys (fun i=>i<w.heap.size) W aV aI aO aR cV cI cO cR S from fun W hW=>HS.out.under (BW.trans (hW.mono BW.size)));have hg1:1<g:=(by have:=HG.out.1;omega);by_cases hlt:i<6
   case neg=>
    have hin:i=6:=(by omega);subst hin;have HZ:=zE (show R=(0,0) by rw [H.out];rfl);have st0:=coQ kFr 0;have st1:=coQ kFr 1;have fr0:=foQ kFr 0;have fr1:=foQ kFr 1;simp at st0 st1;have KR:=zJ (zJ kFr 0 (.int .i64 0)) 1 (.int .i64 0);have r0:=coQ KR 0;have r1:=coQ KR 1;simp at r0 r1;have BR:=(BW.setCell (p:=⟨w.heap.size+1,0,none⟩) (by simp) (.int .i64 0)).setCell (p:=⟨w.heap.size+1,1,none⟩) (by simp) (.int .i64 0);clear KR;go_wp2;exact bodyPost_ret (v:=.agg #[.int .i64 0,.int .i64 0]) (by simp [results,Tryz.results49,go_sem,r0,r1]) rfl ⟨by rw [HZ.out],BR⟩
   case pos=>
    have hcase:i=0\/i=1\/i=2\/i=3\/i=4\/i=5:=(by omega);rcases hcase with rfl | rfl | rfl | rfl | rfl | rfl
    ·have hct:=pass75_any (m':=Sk.mAt S 1) (F1:=(Sk.pass S 0).1) (F2:=(Sk.pass S 0).2) kpr HI.out.1 (by show g<wr.heap.size;omega) npg nbg (fun W hW=>(zAH (HSW.out W hW).V (by omega)).mono fun _ _ ⟨h1,h2⟩=>⟨h1,(HI.out.1.under hW).under h2,(HI.out.2.under hW).under h2,aside h2⟩)
     have hRx:=H.out;rw [show 6-0=5+1 from rfl] at hRx;unfold Sk.chk at hRx;have HPX:=zE (show (Sk.pass S 0).1=0->∀ j,j<0+1->(Sk.pass S j).1=0 from fun h0 j hj=>by
      by_cases e:j=0
      ·rw [e];exact h0
      ·exact HPS.out j (by omega))
     generalize Sk.pass S 0=F at hct hRx HPX;obtain ⟨f1,f2⟩:=F
     dsimp only at hct hRx HPX
     have HRX:=zE hRx;have c0:=coQ kfr 0;simp at c0;clear hRx H HPS HI HSW;go_wp2_with fail;refine hct.mono ?_;rintro e w6 ⟨rfl,l6,m6,a6⟩;have z6:=a6.size;have kF6:=a6.keep kFr (zG kFr) (by simp;omega);have A6:=hbr.trans a6 zr;have B6:Below w.heap.size w w6:=BW.trans ((a6.mono (by omega)).below (by intro k hk;simp at hk;omega));have bV:Below w6.heap.size w6 (w6.alloc (.cells #[.int .i64 f1,.int .i64 f2] 30 (0,0))):=(Below.refl _ _).alloc zM _;have kV:=zI w6 (.cells #[.int .i64 f1,.int .i64 f2] 30 (0,0));have kF7:=(bV.block _ (zG kF6)).trans kF6;have H7:=zE (And.intro (l6.under bV) (m6.under bV));have A7:=A6.trans (aside (S:=[g]) bV) (Nat.le_trans zr z6);have B7:=B6.trans (bV.mono B6.size);clear hct l6 m6 a6 kFr c0 kF6 bV;go_upto_region 9 with fail;generalize w6.alloc (.cells #[.int .i64 f1,.int .i64 f2] 30 (0,0))=w7 at kV kF7 H7 A7 B7 ⊢;have v0:=coQ kV 0;have v1:=coQ kV 1;simp at v0 v1;by_cases hz:f1=0
     case pos=>
      have hz2:(f1 != 0)=false:=(by simp [hz]);have HZ:=zE (show R=Sk.chk S 5 (0+1) by rw [HRX.out,if_neg (by simp [hz])]);have HPN:=zE (HPX.out hz);clear hz HRX HPX;go_wp2_with fail;go_roundg (5)
      case measure=>omega
      case rel=>exact ⟨0+1,by omega,rfl,by go_num,HZ,HPN,H7,A7⟩
     case neg=>
      have hz2:(f1 != 0)=true:=(by simp [hz]);have HZ:=zE (show R=(f1,f2) by rw [HRX.out,if_pos hz]);clear hz HRX HPX;have st0:=coQ kF7 0;have st1:=coQ kF7 1;have fr0:=foQ kF7 0;have fr1:=foQ kF7 1;simp at st0 st1;have KR:=zJ (zJ kF7 0 (.int .i64 f1)) 1 (.int .i64 f2);have r0:=coQ KR 0;have r1:=coQ KR 1;simp at r0 r1;have BR:=(B7.setCell (p:=⟨w.heap.size+1,0,none⟩) (by simp) (.int .i64 f1)).setCell (p:=⟨w.heap.size+1,1,none⟩) (by simp) (.int .i64 f2);clear KR;go_wp2;exact bodyPost_ret (v:=.agg #[.int .i64 f1,.int .i64 f2]) (by simp [results,Tryz.results49,go_sem,r0,r1]) rfl ⟨by rw [HZ.out],BR⟩
    ·have hct:=pass79_any (m':=Sk.mAt S 2) (F1:=(Sk.pass S 1).1) (F2:=(Sk.pass S 1).2) kpr HI.out.1 (by show g<wr.heap.size;omega) npg nbg (fun W hW=>zAF (HI.out.1.under hW) (HI.out.2.under hW) (by simp [Sk.mAt]) nbg (HSW.out W hW).I (by show ¬g<w.heap.size;omega))
     have hRx:=H.out;rw [show 6-1=4+1 from rfl] at hRx;unfold Sk.chk at hRx;have HPX:=zE (show (Sk.pass S 1).1=0->∀ j,j<1+1->(Sk.pass S j).1=0 from fun h0 j hj=>by
      by_cases e:j=1
      ·rw [e];exact h0
      ·exact HPS.out j (by omega))
     generalize Sk.pass S 1=F at hct hRx HPX;obtain ⟨f1,f2⟩:=F
     dsimp only at hct hRx HPX
     have HRX:=zE hRx;have c0:=coQ kfr 1;simp at c0;clear hRx H HPS HI HSW;go_wp2_with fail;refine hct.mono ?_;rintro e w6 ⟨rfl,l6,m6,a6⟩;have z6:=a6.size;have kF6:=a6.keep kFr (zG kFr) (by simp;omega);have A6:=hbr.trans a6 zr;have B6:Below w.heap.size w w6:=BW.trans ((a6.mono (by omega)).below (by intro k hk;simp at hk;omega));have bV:Below w6.heap.size w6 (w6.alloc (.cells #[.int .i64 f1,.int .i64 f2] 30 (0,0))):=(Below.refl _ _).alloc zM _;have kV:=zI w6 (.cells #[.int .i64 f1,.int .i64 f2] 30 (0,0));have kF7:=(bV.block _ (zG kF6)).trans kF6;have H7:=zE (And.intro (l6.under bV) (m6.under bV));have A7:=A6.trans (aside (S:=[g]) bV) (Nat.le_trans zr z6);have B7:=B6.trans (bV.mono B6.size);clear hct l6 m6 a6 kFr c0 kF6 bV;go_upto_region 9 with fail;generalize w6.alloc (.cells #[.int .i64 f1,.int .i64 f2] 30 (0,0))=w7 at kV kF7 H7 A7 B7 ⊢;have v0:=coQ kV 0;have v1:=coQ kV 1;simp at v0 v1;by_cases hz:f1=0
     case pos=>
      have hz2:(f1 != 0)=false:=(by simp [hz]);have HZ:=zE (show R=Sk.chk S 4 (1+1) by rw [HRX.out,if_neg (by simp [hz])]);have HPN:=zE (HPX.out hz);clear hz HRX HPX;go_wp2_with fail;go_roundg (4)
      case measure=>omega
      case rel=>exact ⟨1+1,by omega,rfl,by go_num,HZ,HPN,H7,A7⟩
     case neg=>
      have hz2:(f1 != 0)=true:=(by simp [hz]);have HZ:=zE (show R=(f1,f2) by rw [HRX.out,if_pos hz]);clear hz HRX HPX;have st0:=coQ kF7 0;have st1:=coQ kF7 1;have fr0:=foQ kF7 0;have fr1:=foQ kF7 1;simp at st0 st1;have KR:=zJ (zJ kF7 0 (.int .i64 f1)) 1 (.int .i64 f2);have r0:=coQ KR 0;have r1:=coQ KR 1;simp at r0 r1;have BR:=(B7.setCell (p:=⟨w.heap.size+1,0,none⟩) (by simp) (.int .i64 f1)).setCell (p:=⟨w.heap.size+1,1,none⟩) (by simp) (.int .i64 f2);clear KR;go_wp2;exact bodyPost_ret (v:=.agg #[.int .i64 f1,.int .i64 f2]) (by simp [results,Tryz.results49,go_sem,r0,r1]) rfl ⟨by rw [HZ.out],BR⟩
    ·have hct:=pass83_any (m':=Sk.mAt S 3) (F1:=(Sk.pass S 2).1) (F2:=(Sk.pass S 2).2) kpr HI.out.1 (by show g<wr.heap.size;omega) npg nbg (fun W hW=>(zAD (HI.out.1.under hW) (HSW.out W hW).O).mono fun _ _ ⟨h1,h2⟩=>⟨h1,(HI.out.1.under hW).under h2,(HI.out.2.under hW).under h2,aside h2⟩)
     have hRx:=H.out;rw [show 6-2=3+1 from rfl] at hRx;unfold Sk.chk at hRx;have HPX:=zE (show (Sk.pass S 2).1=0->∀ j,j<2+1->(Sk.pass S j).1=0 from fun h0 j hj=>by
      by_cases e:j=2
      ·rw [e];exact h0
      ·exact HPS.out j (by omega))
     generalize Sk.pass S 2=F at hct hRx HPX;obtain ⟨f1,f2⟩:=F
     dsimp only at hct hRx HPX
     have HRX:=zE hRx;have c0:=coQ kfr 2;simp at c0;clear hRx H HPS HI HSW;go_wp2_with fail;refine hct.mono ?_;rintro e w6 ⟨rfl,l6,m6,a6⟩;have z6:=a6.size;have kF6:=a6.keep kFr (zG kFr) (by simp;omega);have A6:=hbr.trans a6 zr;have B6:Below w.heap.size w w6:=BW.trans ((a6.mono (by omega)).below (by intro k hk;simp at hk;omega));have bV:Below w6.heap.size w6 (w6.alloc (.cells #[.int .i64 f1,.int .i64 f2] 30 (0,0))):=(Below.refl _ _).alloc zM _;have kV:=zI w6 (.cells #[.int .i64 f1,.int .i64 f2] 30 (0,0));have kF7:=(bV.block _ (zG kF6)).trans kF6;have H7:=zE (And.intro (l6.under bV) (m6.under bV));have A7:=A6.trans (aside (S:=[g]) bV) (Nat.le_trans zr z6);have B7:=B6.trans (bV.mono B6.size);clear hct l6 m6 a6 kFr c0 kF6 bV;go_upto_region 9 with fail;generalize w6.alloc (.cells #[.int .i64 f1,.int .i64 f2] 30 (0,0))=w7 at kV kF7 H7 A7 B7 ⊢;have v0:=coQ kV 0;have v1:=coQ kV 1;simp at v0 v1;by_cases hz:f1=0
     case pos=>
      have hz2:(f1 != 0)=false:=(by simp [hz]);have HZ:=zE (show R=Sk.chk S 3 (2+1) by rw [HRX.out,if_neg (by simp [hz])]);have HPN:=zE (HPX.out hz);clear hz HRX HPX;go_wp2_with fail;go_roundg (3)
      case measure=>omega
      case rel=>exact ⟨2+1,by omega,rfl,by go_num,HZ,HPN,H7,A7⟩
     case neg=>
      have hz2:(f1 != 0)=true:=(by simp [hz]);have HZ:=zE (show R=(f1,f2) by rw [HRX.out,if_pos hz]);clear hz HRX HPX;have st0:=coQ kF7 0;have st1:=coQ kF7 1;have fr0:=foQ kF7 0;have fr1:=foQ kF7 1;simp at st0 st1;have KR:=zJ (zJ kF7 0 (.int .i64 f1)) 1 (.int .i64 f2);have r0:=coQ KR 0;have r1:=coQ KR 1;simp at r0 r1;have BR:=(B7.setCell (p:=⟨w.heap.size+1,0,none⟩) (by simp) (.int .i64 f1)).setCell (p:=⟨w.heap.size+1,1,none⟩) (by simp) (.int .i64 f2);clear KR;go_wp2;exact bodyPost_ret (v:=.agg #[.int .i64 f1,.int .i64 f2]) (by simp [results,Tryz.results49,go_sem,r0,r1]) rfl ⟨by rw [HZ.out],BR⟩
    ·have hct:=pass85_any (m':=Sk.mAt S 4) (F1:=(Sk.pass S 3).1) (F2:=(Sk.pass S 3).2) kpr HI.out.1 (by show g<wr.heap.size;omega) npg nbg (fun W hW=>jL (HI.out.1.under hW) (HI.out.2.under hW) (Sk.m0_len S).symm nbg (HSW.out W hW).V ((Sk.firstV_zero S.V 0).1 (HPS.out 0 (by omega))) (HG.out.under (BW.trans (hW.mono BW.size))) (HP.out.under (BW.trans (hW.mono BW.size))) hg1 (HSW.out W hW).R (by show ¬g<w.heap.size;omega) (by show ¬g<w.heap.size;omega) HF.out)
     have hRx:=H.out;rw [show 6-3=2+1 from rfl] at hRx;unfold Sk.chk at hRx;have HPX:=zE (show (Sk.pass S 3).1=0->∀ j,j<3+1->(Sk.pass S j).1=0 from fun h0 j hj=>by
      by_cases e:j=3
      ·rw [e];exact h0
      ·exact HPS.out j (by omega))
     generalize Sk.pass S 3=F at hct hRx HPX;obtain ⟨f1,f2⟩:=F
     dsimp only at hct hRx HPX
     have HRX:=zE hRx;have c0:=coQ kfr 3;simp at c0;clear hRx H HPS HI HSW;go_wp2_with fail;refine hct.mono ?_;rintro e w6 ⟨rfl,l6,m6,a6⟩;have z6:=a6.size;have kF6:=a6.keep kFr (zG kFr) (by simp;omega);have A6:=hbr.trans a6 zr;have B6:Below w.heap.size w w6:=BW.trans ((a6.mono (by omega)).below (by intro k hk;simp at hk;omega));have bV:Below w6.heap.size w6 (w6.alloc (.cells #[.int .i64 f1,.int .i64 f2] 30 (0,0))):=(Below.refl _ _).alloc zM _;have kV:=zI w6 (.cells #[.int .i64 f1,.int .i64 f2] 30 (0,0));have kF7:=(bV.block _ (zG kF6)).trans kF6;have H7:=zE (And.intro (l6.under bV) (m6.under bV));have A7:=A6.trans (aside (S:=[g]) bV) (Nat.le_trans zr z6);have B7:=B6.trans (bV.mono B6.size);clear hct l6 m6 a6 kFr c0 kF6 bV;go_upto_region 9 with fail;generalize w6.alloc (.cells #[.int .i64 f1,.int .i64 f2] 30 (0,0))=w7 at kV kF7 H7 A7 B7 ⊢;have v0:=coQ kV 0;have v1:=coQ kV 1;simp at v0 v1;by_cases hz:f1=0
     case pos=>
      have hz2:(f1 != 0)=false:=(by simp [hz]);have HZ:=zE (show R=Sk.chk S 2 (3+1) by rw [HRX.out,if_neg (by simp [hz])]);have HPN:=zE (HPX.out hz);clear hz HRX HPX;go_wp2_with fail;go_roundg (2)
      case measure=>omega
      case rel=>exact ⟨3+1,by omega,rfl,by go_num,HZ,HPN,H7,A7⟩
     case neg=>
      have hz2:(f1 != 0)=true:=(by simp [hz]);have HZ:=zE (show R=(f1,f2) by rw [HRX.out,if_pos hz]);clear hz HRX HPX;have st0:=coQ kF7 0;have st1:=coQ kF7 1;have fr0:=foQ kF7 0;have fr1:=foQ kF7 1;simp at st0 st1;have KR:=zJ (zJ kF7 0 (.int .i64 f1)) 1 (.int .i64 f2);have r0:=coQ KR 0;have r1:=coQ KR 1;simp at r0 r1;have BR:=(B7.setCell (p:=⟨w.heap.size+1,0,none⟩) (by simp) (.int .i64 f1)).setCell (p:=⟨w.heap.size+1,1,none⟩) (by simp) (.int .i64 f2);clear KR;go_wp2;exact bodyPost_ret (v:=.agg #[.int .i64 f1,.int .i64 f2]) (by simp [results,Tryz.results49,go_sem,r0,r1]) rfl ⟨by rw [HZ.out],BR⟩
    ·have hct:=pass89_any (m':=Sk.mAt S 5) (F1:=(Sk.pass S 4).1) (F2:=(Sk.pass S 4).2) kpr HI.out.1 (by show g<wr.heap.size;omega) npg nbg (fun W hW=>(jN (HI.out.1.under hW) (HI.out.2.under hW) (Sk.m1_len S).symm (by show (Sk.m1 S).length<=1000000;rw [Sk.m1_len];omega) (HSW.out W hW).R (fun r hr=>⟨(HF.out r hr).1,(HF.out r hr).2,fun z hz=>by show 0<=z/\z<((Sk.m1 S).length:Nat);rw [Sk.m1_len];exact (Sk.pass_rules (HPS.out 1 (by omega)) (HPS.out 3 (by omega)) r hr).uses z hz⟩)).mono fun _ _ ⟨h1,h2⟩=>⟨h1,(HI.out.1.under hW).under h2,(HI.out.2.under hW).under h2,aside h2⟩)
     have hRx:=H.out;rw [show 6-4=1+1 from rfl] at hRx;unfold Sk.chk at hRx;have HPX:=zE (show (Sk.pass S 4).1=0->∀ j,j<4+1->(Sk.pass S j).1=0 from fun h0 j hj=>by
      by_cases e:j=4
      ·rw [e];exact h0
      ·exact HPS.out j (by omega))
     generalize Sk.pass S 4=F at hct hRx HPX;obtain ⟨f1,f2⟩:=F
     dsimp only at hct hRx HPX
     have HRX:=zE hRx;have c0:=coQ kfr 4;simp at c0;clear hRx H HPS HI HSW;go_wp2_with fail;refine hct.mono ?_;rintro e w6 ⟨rfl,l6,m6,a6⟩;have z6:=a6.size;have kF6:=a6.keep kFr (zG kFr) (by simp;omega);have A6:=hbr.trans a6 zr;have B6:Below w.heap.size w w6:=BW.trans ((a6.mono (by omega)).below (by intro k hk;simp at hk;omega));have bV:Below w6.heap.size w6 (w6.alloc (.cells #[.int .i64 f1,.int .i64 f2] 30 (0,0))):=(Below.refl _ _).alloc zM _;have kV:=zI w6 (.cells #[.int .i64 f1,.int .i64 f2] 30 (0,0));have kF7:=(bV.block _ (zG kF6)).trans kF6;have H7:=zE (And.intro (l6.under bV) (m6.under bV));have A7:=A6.trans (aside (S:=[g]) bV) (Nat.le_trans zr z6);have B7:=B6.trans (bV.mono B6.size);clear hct l6 m6 a6 kFr c0 kF6 bV;go_upto_region 9 with fail;generalize w6.alloc (.cells #[.int .i64 f1,.int .i64 f2] 30 (0,0))=w7 at kV kF7 H7 A7 B7 ⊢;have v0:=coQ kV 0;have v1:=coQ kV 1;simp at v0 v1;by_cases hz:f1=0
     case pos=>
      have hz2:(f1 != 0)=false:=(by simp [hz]);have HZ:=zE (show R=Sk.chk S 1 (4+1) by rw [HRX.out,if_neg (by simp [hz])]);have HPN:=zE (HPX.out hz);clear hz HRX HPX;go_wp2_with fail;go_roundg (1)
      case measure=>omega
      case rel=>exact ⟨4+1,by omega,rfl,by go_num,HZ,HPN,H7,A7⟩
     case neg=>
      have hz2:(f1 != 0)=true:=(by simp [hz]);have HZ:=zE (show R=(f1,f2) by rw [HRX.out,if_pos hz]);clear hz HRX HPX;have st0:=coQ kF7 0;have st1:=coQ kF7 1;have fr0:=foQ kF7 0;have fr1:=foQ kF7 1;simp at st0 st1;have KR:=zJ (zJ kF7 0 (.int .i64 f1)) 1 (.int .i64 f2);have r0:=coQ KR 0;have r1:=coQ KR 1;simp at r0 r1;have BR:=(B7.setCell (p:=⟨w.heap.size+1,0,none⟩) (by simp) (.int .i64 f1)).setCell (p:=⟨w.heap.size+1,1,none⟩) (by simp) (.int .i64 f2);clear KR;go_wp2;exact bodyPost_ret (v:=.agg #[.int .i64 f1,.int .i64 f2]) (by simp [results,Tryz.results49,go_sem,r0,r1]) rfl ⟨by rw [HZ.out],BR⟩
    ·have hct:=pass91_any (m':=Sk.mAt S 6) (F1:=(Sk.pass S 5).1) (F2:=(Sk.pass S 5).2) kpr HI.out.1 (by show g<wr.heap.size;omega) npg nbg (fun W hW=>(zAE (HI.out.1.under hW) (HI.out.2.under hW) (Sk.m1_len S).symm (by show (Sk.m1 S).length<=1000000;rw [Sk.m1_len];omega) (fun z hz=>by show 0<=z/\z<((Sk.m1 S).length:Nat);rw [Sk.m1_len];exact Sk.pass_outs (HPS.out 2 (by omega)) z hz) (HSW.out W hW).O).mono fun _ _ ⟨h1,h2⟩=>⟨h1,(HI.out.1.under hW).under h2,(HI.out.2.under hW).under h2,aside h2⟩)
     have hRx:=H.out;rw [show 6-5=0+1 from rfl] at hRx;unfold Sk.chk at hRx;have HPX:=zE (show (Sk.pass S 5).1=0->∀ j,j<5+1->(Sk.pass S j).1=0 from fun h0 j hj=>by
      by_cases e:j=5
      ·rw [e];exact h0
      ·exact HPS.out j (by omega))
     generalize Sk.pass S 5=F at hct hRx HPX;obtain ⟨f1,f2⟩:=F
     dsimp only at hct hRx HPX
     have HRX:=zE hRx;have c0:=coQ kfr 5;simp at c0;clear hRx H HPS HI HSW;go_wp2_with fail;refine hct.mono ?_;rintro e w6 ⟨rfl,l6,m6,a6⟩;have z6:=a6.size;have kF6:=a6.keep kFr (zG kFr) (by simp;omega);have A6:=hbr.trans a6 zr;have B6:Below w.heap.size w w6:=BW.trans ((a6.mono (by omega)).below (by intro k hk;simp at hk;omega));have bV:Below w6.heap.size w6 (w6.alloc (.cells #[.int .i64 f1,.int .i64 f2] 30 (0,0))):=(Below.refl _ _).alloc zM _;have kV:=zI w6 (.cells #[.int .i64 f1,.int .i64 f2] 30 (0,0));have kF7:=(bV.block _ (zG kF6)).trans kF6;have H7:=zE (And.intro (l6.under bV) (m6.under bV));have A7:=A6.trans (aside (S:=[g]) bV) (Nat.le_trans zr z6);have B7:=B6.trans (bV.mono B6.size);clear hct l6 m6 a6 kFr c0 kF6 bV;go_upto_region 9 with fail;generalize w6.alloc (.cells #[.int .i64 f1,.int .i64 f2] 30 (0,0))=w7 at kV kF7 H7 A7 B7 ⊢;have v0:=coQ kV 0;have v1:=coQ kV 1;simp at v0 v1;by_cases hz:f1=0
     case pos=>
      have hz2:(f1 != 0)=false:=(by simp [hz]);have HZ:=zE (show R=Sk.chk S 0 (5+1) by rw [HRX.out,if_neg (by simp [hz])]);have HPN:=zE (HPX.out hz);clear hz HRX HPX;go_wp2_with fail;go_roundg (0)
      case measure=>omega
      case rel=>exact ⟨5+1,by omega,rfl,by go_num,HZ,HPN,H7,A7⟩
     case neg=>
      have hz2:(f1 != 0)=true:=(by simp [hz]);have HZ:=zE (show R=(f1,f2) by rw [HRX.out,if_pos hz]);clear hz HRX HPX;have st0:=coQ kF7 0;have st1:=coQ kF7 1;have fr0:=foQ kF7 0;have fr1:=foQ kF7 1;simp at st0 st1;have KR:=zJ (zJ kF7 0 (.int .i64 f1)) 1 (.int .i64 f2);have r0:=coQ KR 0;have r1:=coQ KR 1;simp at r0 r1;have BR:=(B7.setCell (p:=⟨w.heap.size+1,0,none⟩) (by simp) (.int .i64 f1)).setCell (p:=⟨w.heap.size+1,1,none⟩) (by simp) (.int .i64 f2);clear KR;go_wp2;exact bodyPost_ret (v:=.agg #[.int .i64 f1,.int .i64 f2]) (by simp [results,Tryz.results49,go_sem,r0,r1]) rfl ⟨by rw [HZ.out],BR⟩
end Go.Proofs.YtegakbobaecdlaaGreatDoor
