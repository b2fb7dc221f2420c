import Derived.Test.YtfhghlpfeeiaeaaGreatDoorX21
import Derived.Deep.Cut
import Derived.Deep.LoopGhost
import Derived.Ground.NamesProg
import Derived.IntWalk
import Derived.Laws.Cover1
import Derived.Laws.EntriesVeiled
import Derived.Laws.Externs
import Derived.Lib.Hide
import Derived.Lib.MakeNoZero
import Derived.Lib.SlBuf
import Derived.Shelf.Bytes.SlSmallAll
import Derived.Shelf.Lay
import Derived.WalkKit
import Derived.WalkSpells
set_option linter.unusedVariables false
set_option linter.unusedSimpArgs false
set_option maxHeartbeats 64000000
set_option maxRecDepth 100000
namespace Go.Proofs.YtfhghlpfeeiaeaaGreatDoor
open Go.RowKit Go.IntWalk
namespace Sk
def pass (S:Sys):Nat->Int × Int
 | 0=>firstV 0 S.V
 | 1=>atS (givenL (List.replicate S.V.length false) S.I).1
 | 2=>atS (firstI (codeNum S.V.length) S.O)
 | 3=>(rulesL S.V (m0 S) 0 S.R).1
 | 4=>firstR (usesC (m1 S)) 0 S.R
 | _=>atS (firstI (fun z=>unmade (m1 S) z.toNat) S.O)
def mAt (S:Sys) (i:Nat):List Bool:=if i<2 then List.replicate S.V.length false else if i<4 then m0 S else m1 S
def chk (S:Sys):Nat->Nat->Int × Int
 | 0,_=>(0,0)
 | f+1,i=>if (pass S i).1≠0 then pass S i else chk S f (i+1)
theorem atS_fst (c:Int):(atS c).1=c:=by
 unfold atS
 split
 ·rename_i h;exact h.symm
 ·rfl
theorem atS_ne {c:Int} (h:c≠0):atS c=(c,-1):=by
 unfold atS;rw [if_neg h]
theorem check_chk (S:Sys):check S=if tooMany S.V.length S.I.length S.O.length S.R.length=true then (7,-1) else chk S 6 0:=by
 unfold check
 split
 ·rfl
 ·simp only [chk,pass,atS_fst]
  split
  ·rfl
  ·split
   ·rename_i h;rw [atS_ne h]
   ·split
    ·rename_i h;rw [atS_ne h]
    ·split
     ·rfl
     ·split
      ·rfl
      ·split
       ·rename_i h;rw [atS_ne h]
       ·rfl
theorem givenL_len:∀ (I:List Int) (m:List Bool),(givenL m I).2.length=m.length
 | [],m=>rfl
 | x :: r,m=>by
  unfold givenL
  split
  ·exact given_len m x
  ·rw [givenL_len r,given_len]
theorem rulesL_len (V:List Vr):∀ (R:List Ru) (m:List Bool) (i:Nat),(rulesL V m i R).2.length=m.length
 | [],m,i=>rfl
 | r :: l,m,i=>by
  unfold rulesL
  split
  ·rfl
  ·rw [rulesL_len V l,codeRule_len]
theorem m0_len (S:Sys):(m0 S).length=S.V.length:=by unfold m0;rw [givenL_len];simp
theorem m1_len (S:Sys):(m1 S).length=S.V.length:=by unfold m1;rw [rulesL_len,m0_len]
theorem pass_rules {S:Sys} (h1:(pass S 1).1=0) (h3:(pass S 3).1=0):∀ r ∈ S.R,RuOk S.V r:=by
 obtain ⟨g1,g2⟩:=givenL_spec (n:=S.V.length) S.I (MadeBy.start S.V.length);have qi:MadeBy (m0 S) S.V.length S.I:=by
  have:=g2 (by simpa [pass,atS_fst] using h1)
  simpa [m0] using this
 intro r hr;exact (((rulesL_spec (V:=S.V) S.R 0 qi).1.1 h3).1 r hr).2
theorem pass_outs {S:Sys} (h2:(pass S 2).1=0):∀ x ∈ S.O,0<=x/\x<S.V.length:=by
 intro x hx;have:=(firstI_zero S.O).1 (by simpa [pass,atS_fst] using h2) x hx;unfold codeNum at this;refine isNone_false.1 ?_
 cases h:isNone S.V.length x
 ·rfl
 ·rw [h] at this;simp at this
end Sk
structure HSys (ok:Nat->Prop) (w:World) (aV aI aO aR:Option Addr) (cV cI cO cR:Nat) (S:Sk.Sys):Prop where
 V:HVars ok w (.slice aV S.V.length cV) S.V
 I:HInts ok w (.slice aI S.I.length cI) S.I
 O:HInts ok w (.slice aO S.O.length cO) S.O
 R:HRus ok w (.slice aR S.R.length cR) S.R
theorem HSys.keep {ok:Nat->Prop} {w w':World} {aV aI aO aR:Option Addr} {cV cI cO cR:Nat} {S:Sk.Sys} (h:HSys ok w aV aI aO aR cV cI cO cR S) (h1:w.heap.size<=w'.heap.size) (h2:∀ i,ok i->i<w.heap.size->w'.heap[i]?=w.heap[i]?):HSys ok w' aV aI aO aR cV cI cO cR S:=⟨h.V.keep h1 h2,h.I.keep h1 h2,h.O.keep h1 h2,h.R.keep h1 h2⟩
theorem HSys.under {ok:Nat->Prop} {w w':World} {aV aI aO aR:Option Addr} {cV cI cO cR:Nat} {S:Sk.Sys} (h:HSys ok w aV aI aO aR cV cI cO cR S) (b:Below w.heap.size w w'):HSys ok w' aV aI aO aR cV cI cO cR S:=h.keep b.size fun i _ hl=>b.block i hl
theorem HSys.wide {ok ok':Nat->Prop} {w:World} {aV aI aO aR:Option Addr} {cV cI cO cR:Nat} {S:Sk.Sys} (h:HSys ok w aV aI aO aR cV cI cO cR S) (hk:∀ i,ok i->i<w.heap.size->ok' i):HSys ok' w aV aI aO aR cV cI cO cR S:=⟨h.V.wide hk,h.I.wide hk,h.O.wide hk,h.R.wide hk⟩
theorem cap_of {ok:Nat->Prop} {w:World} {a:Option Addr} {n c k:Nat} {C:Nat->List Value} {m:Nat} (h:Sl ok k w (.slice a n c) m C):n<=c/\c<=maxLen:=by
 obtain ⟨ao,cap,hv,h1,h2,_⟩:=h;injection hv with e1 e2 e3;subst e2 e3;exact ⟨h1,h2⟩
theorem Tryz.infoT:(Tryz.prog.info? 4).map (fun i=>(i.zero,i.size,i.bytes))=some (some (.bool false),1,1):=by kernel_rfl
theorem zAH (n:Nat) (hn:n<=1000000) (V:World):(Instr.makeSlice 45 (.int .i64 (n:Int)) (.int .i64 (n:Int))).run Tryz.prog V=.ok (.slice (some ⟨V.heap.size,0,none⟩) n n) (V.alloc (.cells ((List.replicate n false).map Value.bool).toArray 4 (0,0))):=by
 obtain ⟨i0,hi,iM,jw,dZ⟩:=info_parts Tryz.infoT;have h:=run_make (P:=Tryz.prog) V 45 4 i0 (.bool false) Tryz.underlying45 hi iM .i64 .i64 (n:Int) (n:Int) (by omega) (by omega) (by rw [dZ];simp;omega) (by omega);have e:madeCells (Value.bool false).cells (((n:Int)).toNat*i0.size)=((List.replicate n false).map Value.bool).toArray:=by
  rw [jw]
  apply Array.ext_getElem?
  intro j;by_cases hj:j<n
  ·simp [madeCells,Value.cells,hj,Nat.mod_one]
  ·simp [madeCells,Value.cells,hj]
 rw [e] at h
 simpa using h
theorem check_any {ok:Nat->Prop} {w:World} {aV aI aO aR:Option Addr} {cV cI cO cR:Nat} {S:Sk.Sys} (hG:GlobK w) (hP:GlobP w) (hS:HSys ok w aV aI aO aR cV cI cO cR S) (aB:∀ r ∈ S.R,r.A.length<=1000000/\r.E.length<=1000000) :
  Calls Tryz.prog 27 #[.agg #[.slice aV S.V.length cV,.slice aI S.I.length cI,.slice aO S.O.length cO,.slice aR S.R.length cR]] w fun e w'=>e=.returned (.agg #[.int .i64 (Sk.check S).1,.int .i64 (Sk.check S).2])/\Below w.heap.size w w':=by
 obtain ⟨R,hR⟩:=nmQ (Sk.check S);rw [<-hR];rw [Sk.check_chk] at hR;have KI:HSys (fun i=>i<w.heap.size) w aV aI aO aR cV cI cO cR S:=hS.wide fun i _ hl=>hl;obtain ⟨_,LU,_⟩:=hS.V;have cv:=cap_of LU;obtain ⟨_,qb,_⟩:=hS.I;have ci:=cap_of qb;obtain ⟨_,LB,_⟩:=hS.O;have co:=cap_of LB;obtain ⟨_,LL,_⟩:=hS.R;have cr:=cap_of LL;have Ho:=zAd aV aI aO aR S.V.length cV S.I.length cI S.O.length cO S.R.length cR cv ci co cr;unfold maxLen at cv ci co cr;have b1:Below w.heap.size w ((w.alloc (.cells #[.slice aV S.V.length cV,.slice aI S.I.length cI,.slice aO S.O.length cO,.slice aR S.R.length cR] 26 (0,0))).alloc (.cells #[.int .i64 0,.int .i64 0] 32 (0,0))):=((Below.refl _ _).alloc zBR _).alloc (by simp) _;have kS:((w.alloc (.cells #[.slice aV S.V.length cV,.slice aI S.I.length cI,.slice aO S.O.length cO,.slice aR S.R.length cR] 26 (0,0))).alloc (.cells #[.int .i64 0,.int .i64 0] 32 (0,0))).heap[w.heap.size]?=some (.cells #[.slice aV S.V.length cV,.slice aI S.I.length cI,.slice aO S.O.length cO,.slice aR S.R.length cR] 26 (0,0)):=(Below.heap_alloc _ _ _ (by simp)).trans (zBO w _);have kF:((w.alloc (.cells #[.slice aV S.V.length cV,.slice aI S.I.length cI,.slice aO S.O.length cO,.slice aR S.R.length cR] 26 (0,0))).alloc (.cells #[.int .i64 0,.int .i64 0] 32 (0,0))).heap[w.heap.size+1]?=some (.cells #[.int .i64 0,.int .i64 0] 32 (0,0)):=by
  have:=zBO (w.alloc (.cells #[.slice aV S.V.length cV,.slice aI S.I.length cI,.slice aO S.O.length cO,.slice aR S.R.length cR] 26 (0,0))) (.cells #[.int .i64 0,.int .i64 0] 32 (0,0))
  simpa using this
 obtain ⟨q,hq⟩:=nmQ (Sk.tooMany S.V.length S.I.length S.O.length S.R.length);rw [<-hq] at Ho hR;have HQ:=zBK hq;have HR:=zBK hR;have HS:=zBK KI;have HG:=zBK hG;have HP:=zBK hP;have HF:=zBK aB;clear hq hR hS KI hG hP aB LU qb LB LL;go_enter Tryz.func27,Tryz.ntmps27;go_upto_region 1 with fail;generalize (w.alloc (.cells #[.slice aV S.V.length cV,.slice aI S.I.length cI,.slice aO S.O.length cO,.slice aR S.R.length cR] 26 (0,0))).alloc (.cells #[.int .i64 0,.int .i64 0] 32 (0,0))=w1 at b1 kS kF ⊢;have s0:=coQ kS 0;have s1:=coQ kS 1;have s2:=coQ kS 2;have s3:=coQ kS 3;simp at s0 s1 s2 s3;go_wp2_with fail;refine (Ho w1).mono ?_;rintro e w2 ⟨rfl,b2⟩;have B2:=b1.trans (b2.mono b1.size);have gu:=(b2.block _ (zBM kS)).trans kS;have fP:=(b2.block _ (zBM kF)).trans kF;clear Ho s0 s1 s2 s3
 cases q
 case true=>
  have HZ:=zBK (show R=(7,-1) by rw [HR.out];rfl);have cJ:=coQ fP 0;have cW:=coQ fP 1;have eO:=foQ fP 0;have fl:=foQ fP 1;simp at cJ cW;have KR:=zBQ (zBQ fP 0 (.int .i64 7)) 1 (.int .i64 (-1));have r0:=coQ KR 0;have r1:=coQ KR 1;simp at r0 r1;have BR:=(B2.setCell (p:=⟨w.heap.size+1,0,none⟩) (by simp) (.int .i64 7)).setCell (p:=⟨w.heap.size+1,1,none⟩) (by simp) (.int .i64 (-1));clear KR HR;go_wp2;exact bodyPost_ret (v:=.agg #[.int .i64 7,.int .i64 (-1)]) (by simp [results,Tryz.results27,go_sem,r0,r1]) rfl ⟨by rw [HZ.out],BR⟩
 case false=>
 have Jp:=zBK (show R=Sk.chk S 6 0 by rw [HR.out];rfl);have sH:S.V.length<=400/\S.I.length<=400/\S.O.length<=400/\S.R.length<=400:=by
  have:=HQ.out;unfold Sk.tooMany at this;simp at this;omega
 have oG:=zAH S.V.length (by omega);obtain ⟨M,hM⟩:=nmQ (((List.replicate S.V.length false).map Value.bool).toArray);rw [<-hM] at oG;have Aj:=zBK hM;clear HR hM;go_upto_region 3 with fail;have s0:=coQ gu 0;have s1:=coQ gu 1;have s2:=coQ gu 2;have s3:=coQ gu 3;simp at s0 s1 s2 s3;have yS:=zBM gu;go_cut [3] (fun v wd=>∃ (pl b g:Nat),v=.pointer (some ⟨pl,0,none⟩)/\Hid (wd.heap[pl]?=some (.cells #[.pointer (some ⟨b,0,none⟩)] 77 (0,0))/\LkAt wd b ⟨aV,S.V.length,cV,aI,S.I.length,cI,aO,S.O.length,cO,aR,S.R.length,cR,g⟩/\Md wd g (List.replicate S.V.length false)/\w2.heap.size<=pl/\w2.heap.size<=b/\w2.heap.size<=g/\pl≠g/\b≠g)/\Below w2.heap.size w2 wd)
 case first=>
  have aM:=zBK (fun (wz:World) (hSw:Below w2.heap.size w2 wz)=>And.intro ((hSw.cell (p:=⟨w.heap.size,0,none⟩) yS).trans s0) (And.intro ((hSw.cell (p:=⟨w.heap.size,1,none⟩) yS).trans s1) (And.intro ((hSw.cell (p:=⟨w.heap.size,2,none⟩) yS).trans s2) ((hSw.cell (p:=⟨w.heap.size,3,none⟩) yS).trans s3))));refine zBP (fun w'=>Below w2.heap.size w2 w') (fun _=>false) (by kernel_rfl) ?_;have ab:Below w2.heap.size w2 w2.drew:=(Below.refl _ _).drew;generalize w2.drew=ag at ab ⊢;refine' tkQ 0 11 ab ?hyv ?o1
  case hyv=>
   intro wz hSw;have bk:=aM.out wz hSw;go_simp
   try rfl
  try simp only [Act.put,sT,sZ,sS]
  refine' tkR 1 12 ab ?o2
  refine' tkQ 2 13 ab ?hyv ?o3
  case hyv=>
   intro wz hSw;have bk:=aM.out wz hSw;go_simp
   try rfl
  try simp only [Act.put,sT,sZ,sS]
  refine' tkR 3 14 ab ?o4
  refine zBl (i:=4) (j:=7) rfl rfl (by kernel_rfl) (by rfl) (by rfl) (fun K hK=>?_) (fun K hK=>?_)
  case _=>
   go_simp;have af:Below w2.heap.size w2 (ag.alloc (.cells M 4 (0,0))):=ab.alloc ab.size _;have dP:=zBO ag (.cells M 4 (0,0));have tn:=ab.size;refine hK.out _ _ (fun _=>af) ?_;clear hK K
   try simp only [Act.put,sT,sZ,sS]
   generalize ag.alloc (.cells M 4 (0,0))=aw at af dP ⊢;refine' tkR 5 16 af ?o5
   refine zBl (i:=6) (j:=7) rfl rfl (by kernel_rfl) (by rfl) (by rfl) (fun K hK=>?_) (fun K hK=>?_)
   case _=>
    go_simp;have ay:Below w2.heap.size w2 (aw.alloc (.cells #[.slice aV S.V.length cV,.slice aI S.I.length cI,.slice aO S.O.length cO,.slice aR S.R.length cR,.slice (some ⟨ag.heap.size,0,none⟩) S.V.length S.V.length] 79 (0,0))):=af.alloc af.size _;have iO:=zBO aw (.cells #[.slice aV S.V.length cV,.slice aI S.I.length cI,.slice aO S.O.length cO,.slice aR S.R.length cR,.slice (some ⟨ag.heap.size,0,none⟩) S.V.length S.V.length] 79 (0,0));have yf:=af.size;refine hK.out _ _ (fun _=>ay) ?_;clear hK K
    try simp only [Act.put,sT,sZ,sS]
    have dB:=(Below.heap_alloc aw (.cells #[.slice aV S.V.length cV,.slice aI S.I.length cI,.slice aO S.O.length cO,.slice aR S.R.length cR,.slice (some ⟨ag.heap.size,0,none⟩) S.V.length S.V.length] 79 (0,0)) _ (zBM dP)).trans dP;generalize aw.alloc (.cells #[.slice aV S.V.length cV,.slice aI S.I.length cI,.slice aO S.O.length cO,.slice aR S.R.length cR,.slice (some ⟨ag.heap.size,0,none⟩) S.V.length S.V.length] 79 (0,0))=aJ at ay iO dB ⊢;refine tnQ 7 (fun K hK=>?_);go_simp;have aD:Below w2.heap.size w2 (aJ.alloc (.cells #[.pointer none] 77 (0,0))):=ay.alloc ay.size _;have gD:=zBO aJ (.cells #[.pointer none] 77 (0,0));have zG:=ay.size;refine hK.out _ _ (fun _=>aD) ?_;clear hK K
    try simp only [Act.put,sT,sZ,sS]
    have cD:=(Below.heap_alloc aJ (.cells #[.pointer none] 77 (0,0)) _ (zBM dB)).trans dB;have cF:=(Below.heap_alloc aJ (.cells #[.pointer none] 77 (0,0)) _ (zBM iO)).trans iO;generalize aJ.alloc (.cells #[.pointer none] 77 (0,0))=bF at aD gD cD cF ⊢;refine tnQ 8 (fun K hK=>?_);have cJ:=coQ gD 0;have eO:=foQ gD 0;simp at cJ;have KP:=zBQ gD 0 (.pointer (some ⟨aw.heap.size,0,none⟩));simp at KP;have CT:aJ.heap.size≠aw.heap.size:=(by intro e;rw [e] at gD;rw [gD] at cF;injection cF with e2;injection e2 with e3 e4;cases e4);have uK:aJ.heap.size≠ag.heap.size:=(by intro e;rw [e] at gD;rw [gD] at cD;injection cD with e2;injection e2 with e3 e4;cases e4);have CU:aw.heap.size≠ag.heap.size:=(by intro e;rw [e] at cF;rw [cF] at cD;injection cD with e2;injection e2 with e3 e4;cases e4);have cB:w2.heap.size<=aJ.heap.size:=ay.size;have A1:w2.heap.size<=aw.heap.size:=af.size;have A9:w2.heap.size<=ag.heap.size:=ab.size;have KL:=zBT (p:=⟨aJ.heap.size,0,none⟩) cF CT (.pointer (some ⟨aw.heap.size,0,none⟩));have KM:=zBT (p:=⟨aJ.heap.size,0,none⟩) cD uK (.pointer (some ⟨aw.heap.size,0,none⟩));have fp:=aD.setCell (p:=⟨aJ.heap.size,0,none⟩) cB (.pointer (some ⟨aw.heap.size,0,none⟩));rw [Aj.out] at KM;have aQ:=zBK (And.intro KP (And.intro KL (And.intro KM (And.intro cB (And.intro A1 (And.intro A9 (And.intro uK CU)))))));clear KP KL KM;go_simp;refine hK.out _ _ (fun _=>fp) ?_;clear hK K
    try simp only [Act.put,sT,sZ,sS]
    generalize bF.setCell ⟨aJ.heap.size,0,none⟩ (.pointer (some ⟨aw.heap.size,0,none⟩))=dD at fp aQ ⊢;refine zBN (by kernel_rfl) ?_ _;go_wp2_with fail;go_meet
    case rel=>exact ⟨aJ.heap.size,aw.heap.size,ag.heap.size,rfl,zBK aQ.out,fp⟩
   case _=>
    go_simp;have ay:Below w2.heap.size w2 (aw.alloc (.cells #[.pointer none] 77 (0,0))):=af.alloc af.size _;have iO:=zBO aw (.cells #[.pointer none] 77 (0,0));have yf:=af.size;refine hK.out _ _ (fun _=>ay) ?_;clear hK K
    try simp only [Act.put,sT,sZ,sS]
    have dB:=(Below.heap_alloc aw (.cells #[.pointer none] 77 (0,0)) _ (zBM dP)).trans dP;generalize aw.alloc (.cells #[.pointer none] 77 (0,0))=aJ at ay iO dB ⊢;refine tnQ 6 (fun K hK=>?_);go_simp;have aD:Below w2.heap.size w2 (aJ.alloc (.cells #[.slice aV S.V.length cV,.slice aI S.I.length cI,.slice aO S.O.length cO,.slice aR S.R.length cR,.slice (some ⟨ag.heap.size,0,none⟩) S.V.length S.V.length] 79 (0,0))):=ay.alloc ay.size _;have gD:=zBO aJ (.cells #[.slice aV S.V.length cV,.slice aI S.I.length cI,.slice aO S.O.length cO,.slice aR S.R.length cR,.slice (some ⟨ag.heap.size,0,none⟩) S.V.length S.V.length] 79 (0,0));have zG:=ay.size;refine hK.out _ _ (fun _=>aD) ?_;clear hK K
    try simp only [Act.put,sT,sZ,sS]
    have cD:=(Below.heap_alloc aJ (.cells #[.slice aV S.V.length cV,.slice aI S.I.length cI,.slice aO S.O.length cO,.slice aR S.R.length cR,.slice (some ⟨ag.heap.size,0,none⟩) S.V.length S.V.length] 79 (0,0)) _ (zBM dB)).trans dB;have cF:=(Below.heap_alloc aJ (.cells #[.slice aV S.V.length cV,.slice aI S.I.length cI,.slice aO S.O.length cO,.slice aR S.R.length cR,.slice (some ⟨ag.heap.size,0,none⟩) S.V.length S.V.length] 79 (0,0)) _ (zBM iO)).trans iO;generalize aJ.alloc (.cells #[.slice aV S.V.length cV,.slice aI S.I.length cI,.slice aO S.O.length cO,.slice aR S.R.length cR,.slice (some ⟨ag.heap.size,0,none⟩) S.V.length S.V.length] 79 (0,0))=bF at aD gD cD cF ⊢;refine tnQ 8 (fun K hK=>?_);have cJ:=coQ cF 0;have eO:=foQ cF 0;simp at cJ;have KP:=zBQ cF 0 (.pointer (some ⟨aJ.heap.size,0,none⟩));simp at KP;have CT:aw.heap.size≠aJ.heap.size:=(by intro e;rw [e] at cF;rw [cF] at gD;injection gD with e2;injection e2 with e3 e4;cases e4);have uK:aw.heap.size≠ag.heap.size:=(by intro e;rw [e] at cF;rw [cF] at cD;injection cD with e2;injection e2 with e3 e4;cases e4);have CU:aJ.heap.size≠ag.heap.size:=(by intro e;rw [e] at gD;rw [gD] at cD;injection cD with e2;injection e2 with e3 e4;cases e4);have cB:w2.heap.size<=aw.heap.size:=af.size;have A1:w2.heap.size<=aJ.heap.size:=ay.size;have A9:w2.heap.size<=ag.heap.size:=ab.size;have KL:=zBT (p:=⟨aw.heap.size,0,none⟩) gD CT (.pointer (some ⟨aJ.heap.size,0,none⟩));have KM:=zBT (p:=⟨aw.heap.size,0,none⟩) cD uK (.pointer (some ⟨aJ.heap.size,0,none⟩));have fp:=aD.setCell (p:=⟨aw.heap.size,0,none⟩) cB (.pointer (some ⟨aJ.heap.size,0,none⟩));rw [Aj.out] at KM;have aQ:=zBK (And.intro KP (And.intro KL (And.intro KM (And.intro cB (And.intro A1 (And.intro A9 (And.intro uK CU)))))));clear KP KL KM;go_simp;refine hK.out _ _ (fun _=>fp) ?_;clear hK K
    try simp only [Act.put,sT,sZ,sS]
    generalize bF.setCell ⟨aw.heap.size,0,none⟩ (.pointer (some ⟨aJ.heap.size,0,none⟩))=dD at fp aQ ⊢;refine zBN (by kernel_rfl) ?_ _;go_wp2_with fail;go_meet
    case rel=>exact ⟨aw.heap.size,aJ.heap.size,ag.heap.size,rfl,zBK aQ.out,fp⟩
  case _=>
   go_simp;have af:Below w2.heap.size w2 (ag.alloc (.cells #[.pointer none] 77 (0,0))):=ab.alloc ab.size _;have dP:=zBO ag (.cells #[.pointer none] 77 (0,0));have tn:=ab.size;refine hK.out _ _ (fun _=>af) ?_;clear hK K
   try simp only [Act.put,sT,sZ,sS]
   generalize ag.alloc (.cells #[.pointer none] 77 (0,0))=aw at af dP ⊢;refine tnQ 4 (fun K hK=>?_);go_simp;have ay:Below w2.heap.size w2 (aw.alloc (.cells M 4 (0,0))):=af.alloc af.size _;have iO:=zBO aw (.cells M 4 (0,0));have yf:=af.size;refine hK.out _ _ (fun _=>ay) ?_;clear hK K
   try simp only [Act.put,sT,sZ,sS]
   have dB:=(Below.heap_alloc aw (.cells M 4 (0,0)) _ (zBM dP)).trans dP;generalize aw.alloc (.cells M 4 (0,0))=aJ at ay iO dB ⊢;refine' tkR 5 16 ay ?o6
   refine tnQ 6 (fun K hK=>?_);go_simp;have aD:Below w2.heap.size w2 (aJ.alloc (.cells #[.slice aV S.V.length cV,.slice aI S.I.length cI,.slice aO S.O.length cO,.slice aR S.R.length cR,.slice (some ⟨aw.heap.size,0,none⟩) S.V.length S.V.length] 79 (0,0))):=ay.alloc ay.size _;have gD:=zBO aJ (.cells #[.slice aV S.V.length cV,.slice aI S.I.length cI,.slice aO S.O.length cO,.slice aR S.R.length cR,.slice (some ⟨aw.heap.size,0,none⟩) S.V.length S.V.length] 79 (0,0));have zG:=ay.size;refine hK.out _ _ (fun _=>aD) ?_;clear hK K
   try simp only [Act.put,sT,sZ,sS]
   have cD:=(Below.heap_alloc aJ (.cells #[.slice aV S.V.length cV,.slice aI S.I.length cI,.slice aO S.O.length cO,.slice aR S.R.length cR,.slice (some ⟨aw.heap.size,0,none⟩) S.V.length S.V.length] 79 (0,0)) _ (zBM dB)).trans dB;have cF:=(Below.heap_alloc aJ (.cells #[.slice aV S.V.length cV,.slice aI S.I.length cI,.slice aO S.O.length cO,.slice aR S.R.length cR,.slice (some ⟨aw.heap.size,0,none⟩) S.V.length S.V.length] 79 (0,0)) _ (zBM iO)).trans iO;generalize aJ.alloc (.cells #[.slice aV S.V.length cV,.slice aI S.I.length cI,.slice aO S.O.length cO,.slice aR S.R.length cR,.slice (some ⟨aw.heap.size,0,none⟩) S.V.length S.V.length] 79 (0,0))=bF at aD gD cD cF ⊢;refine tnQ 8 (fun K hK=>?_);have cJ:=coQ cD 0;have eO:=foQ cD 0;simp at cJ;have KP:=zBQ cD 0 (.pointer (some ⟨aJ.heap.size,0,none⟩));simp at KP;have CT:ag.heap.size≠aJ.heap.size:=(by intro e;rw [e] at cD;rw [cD] at gD;injection gD with e2;injection e2 with e3 e4;cases e4);have uK:ag.heap.size≠aw.heap.size:=(by intro e;rw [e] at cD;rw [cD] at cF;injection cF with e2;injection e2 with e3 e4;cases e4);have CU:aJ.heap.size≠aw.heap.size:=(by intro e;rw [e] at gD;rw [gD] at cF;injection cF with e2;injection e2 with e3 e4;cases e4);have cB:w2.heap.size<=ag.heap.size:=ab.size;have A1:w2.heap.size<=aJ.heap.size:=ay.size;have A9:w2.heap.size<=aw.heap.size:=af.size;have KL:=zBT (p:=⟨ag.heap.size,0,none⟩) gD CT (.pointer (some ⟨aJ.heap.size,0,none⟩));have KM:=zBT (p:=⟨ag.heap.size,0,none⟩) cF uK (.pointer (some ⟨aJ.heap.size,0,none⟩));have fp:=aD.setCell (p:=⟨ag.heap.size,0,none⟩) cB (.pointer (some ⟨aJ.heap.size,0,none⟩));rw [Aj.out] at KM;have aQ:=zBK (And.intro KP (And.intro KL (And.intro KM (And.intro cB (And.intro A1 (And.intro A9 (And.intro uK CU)))))));clear KP KL KM;go_simp;refine hK.out _ _ (fun _=>fp) ?_;clear hK K
   try simp only [Act.put,sT,sZ,sS]
   generalize bF.setCell ⟨ag.heap.size,0,none⟩ (.pointer (some ⟨aJ.heap.size,0,none⟩))=dD at fp aQ ⊢;refine zBN (by kernel_rfl) ?_ _;go_wp2_with fail;go_meet
   case rel=>exact ⟨ag.heap.size,aJ.heap.size,aw.heap.size,rfl,zBK aQ.out,fp⟩
 case rest=>
  obtain ⟨pl,b,g,rfl,HX,bc⟩:=hcut;clear s0 s1 s2 s3 yS oG;have B3:=B2.trans (bc.mono B2.size);have fC:=(bc.block _ (zBM fP)).trans fP;obtain ⟨ru,xe,sK,gp,gb,gg,zw,uJ⟩:=HX.out;have bA:Below wc.heap.size wc (wc.alloc (.cells #[.func (.func 40) #[] #[.pointer (some ⟨pl,0,none⟩)],.func (.func 44) #[] #[.pointer (some ⟨pl,0,none⟩)],.func (.func 48) #[] #[.pointer (some ⟨pl,0,none⟩)],.func (.func 50) #[] #[.pointer (some ⟨pl,0,none⟩)],.func (.func 54) #[] #[.pointer (some ⟨pl,0,none⟩)],.func (.func 56) #[] #[.pointer (some ⟨pl,0,none⟩)]] 82 (0,0))):=(Below.refl _ _).alloc zBR _;have kf:=zBO wc (.cells #[.func (.func 40) #[] #[.pointer (some ⟨pl,0,none⟩)],.func (.func 44) #[] #[.pointer (some ⟨pl,0,none⟩)],.func (.func 48) #[] #[.pointer (some ⟨pl,0,none⟩)],.func (.func 50) #[] #[.pointer (some ⟨pl,0,none⟩)],.func (.func 54) #[] #[.pointer (some ⟨pl,0,none⟩)],.func (.func 56) #[] #[.pointer (some ⟨pl,0,none⟩)]] 82 (0,0));have B5:=B3.trans (bA.mono B3.size);have jB:=(bA.block _ (zBM fC)).trans fC;have Ih:=(bA.block _ (zBM ru)).trans ru;have H5:=zBK (And.intro (xe.under bA) (sK.under bA));have jy:g<wc.heap.size:=zBM sK;have su:b<wc.heap.size:=zBM xe;have D3:pl<wc.heap.size:=zBM ru;have z2:w.heap.size+1<w2.heap.size:=zBM fP;have zA:wc.heap.size+1<=(wc.alloc (.cells #[.func (.func 40) #[] #[.pointer (some ⟨pl,0,none⟩)],.func (.func 44) #[] #[.pointer (some ⟨pl,0,none⟩)],.func (.func 48) #[] #[.pointer (some ⟨pl,0,none⟩)],.func (.func 50) #[] #[.pointer (some ⟨pl,0,none⟩)],.func (.func 54) #[] #[.pointer (some ⟨pl,0,none⟩)],.func (.func 56) #[] #[.pointer (some ⟨pl,0,none⟩)]] 82 (0,0))).heap.size:=(by simp);clear HX ru xe sK fC fP gu bA;go_upto_region 5 with fail;generalize wc.alloc (.cells #[.func (.func 40) #[] #[.pointer (some ⟨pl,0,none⟩)],.func (.func 44) #[] #[.pointer (some ⟨pl,0,none⟩)],.func (.func 48) #[] #[.pointer (some ⟨pl,0,none⟩)],.func (.func 50) #[] #[.pointer (some ⟨pl,0,none⟩)],.func (.func 54) #[] #[.pointer (some ⟨pl,0,none⟩)],.func (.func 56) #[] #[.pointer (some ⟨pl,0,none⟩)]] 82 (0,0))=w5 at kf B5 jB Ih H5 zA ⊢;go_wp2_with fail;go_loopg [27] 6 (fun k v wr=>∃ i,i<=6/\k=6-i/\v=.int .i64 (i:Nat)/\Hid (R=Sk.chk S (6-i) i)/\Hid (∀ j,j<i->(Sk.pass S j).1=0)/\Hid (LkAt wr b ⟨aV,S.V.length,cV,aI,S.I.length,cI,aO,S.O.length,cO,aR,S.R.length,cR,g⟩/\Md wr g (Sk.mAt S i))/\Aside [g] w5.heap.size w5 wr)
  case atStart=>exact ⟨0,by omega,rfl,rfl,Jp,zBK (fun j hj=>absurd hj (Nat.not_lt_zero _)),zBK H5.out,Aside.refl _⟩
  case round=>
   clear Jp H5;obtain ⟨i,hi,rfl,rfl,H,lX,HI,aH⟩:=hrel;have zr:=aH.size;have dE:=aH.keep jB (zBM jB) (by simp;omega);have th:=aH.keep kf (zBM kf) (by simp;omega);have zv:=aH.keep Ih (zBM Ih) (by simp;omega);have BW:Below w.heap.size w wr:=B5.trans ((aH.mono (by omega)).below (by intro k hk;simp at hk;omega));have ko:=zBK (show ∀ W,Below wr.heap.size wr W->HSys (fun i=>i<w.heap.size) W aV aI aO aR cV cI cO cR S from fun W hW=>HS.out.under (BW.trans (hW.mono BW.size)));have Lh:1<g:=(by have:=HG.out.1;omega);by_cases bd:i<6
   case neg=>
    have bp:i=6:=(by omega);subst bp;have HZ:=zBK (show R=(0,0) by rw [H.out];rfl);have cJ:=coQ dE 0;have cW:=coQ dE 1;have eO:=foQ dE 0;have fl:=foQ dE 1;simp at cJ cW;have KR:=zBQ (zBQ dE 0 (.int .i64 0)) 1 (.int .i64 0);have r0:=coQ KR 0;have r1:=coQ KR 1;simp at r0 r1;have BR:=(BW.setCell (p:=⟨w.heap.size+1,0,none⟩) (by simp) (.int .i64 0)).setCell (p:=⟨w.heap.size+1,1,none⟩) (by simp) (.int .i64 0);clear KR;go_wp2;exact bodyPost_ret (v:=.agg #[.int .i64 0,.int .i64 0]) (by simp [results,Tryz.results27,go_sem,r0,r1]) rfl ⟨by rw [HZ.out],BR⟩
   case pos=>
    have Bo:i=0\/i=1\/i=2\/i=3\/i=4\/i=5:=(by omega);rcases Bo with rfl | rfl | rfl | rfl | rfl | rfl
    ·have cZ:=pass75_any (m':=Sk.mAt S 1) (F1:=(Sk.pass S 0).1) (F2:=(Sk.pass S 0).2) zv HI.out.1 (by show g<wr.heap.size;omega) zw uJ (fun W hW=>(zAT (ko.out W hW).V (by omega)).mono fun _ _ ⟨h1,h2⟩=>⟨h1,(HI.out.1.under hW).under h2,(HI.out.2.under hW).under h2,aside h2⟩)
     have fz:=H.out;rw [show 6-0=5+1 from rfl] at fz;unfold Sk.chk at fz;have gf:=zBK (show (Sk.pass S 0).1=0->∀ j,j<0+1->(Sk.pass S j).1=0 from fun h0 j hj=>by
      by_cases e:j=0
      ·rw [e];exact h0
      ·exact lX.out j (by omega))
     generalize Sk.pass S 0=F at cZ fz gf;obtain ⟨f1,f2⟩:=F
     dsimp only at cZ fz gf
     have ic:=zBK fz;have c0:=coQ th 0;simp at c0;clear fz H lX HI ko;go_wp2_with fail;refine cZ.mono ?_;rintro e w6 ⟨rfl,l6,m6,a6⟩;have z6:=a6.size;have gq:=a6.keep dE (zBM dE) (by simp;omega);have A6:=aH.trans a6 zr;have B6:Below w.heap.size w w6:=BW.trans ((a6.mono (by omega)).below (by intro k hk;simp at hk;omega));have bV:Below w6.heap.size w6 (w6.alloc (.cells #[.int .i64 f1,.int .i64 f2] 32 (0,0))):=(Below.refl _ _).alloc zBR _;have kV:=zBO w6 (.cells #[.int .i64 f1,.int .i64 f2] 32 (0,0));have fD:=(bV.block _ (zBM gq)).trans gq;have H7:=zBK (And.intro (l6.under bV) (m6.under bV));have A7:=A6.trans (aside (S:=[g]) bV) (Nat.le_trans zr z6);have B7:=B6.trans (bV.mono B6.size);clear cZ l6 m6 a6 dE c0 gq bV;go_upto_region 9 with fail;generalize w6.alloc (.cells #[.int .i64 f1,.int .i64 f2] 32 (0,0))=w7 at kV fD H7 A7 B7 ⊢;have v0:=coQ kV 0;have v1:=coQ kV 1;simp at v0 v1;by_cases hz:f1=0
     case pos=>
      have dZ:(f1 != 0)=false:=(by simp [hz]);have HZ:=zBK (show R=Sk.chk S 5 (0+1) by rw [ic.out,if_neg (by simp [hz])]);have pz:=zBK (gf.out hz);clear hz ic gf;go_wp2_with fail;go_roundg (5)
      case measure=>omega
      case rel=>exact ⟨0+1,by omega,rfl,by go_num,HZ,pz,H7,A7⟩
     case neg=>
      have dZ:(f1 != 0)=true:=(by simp [hz]);have HZ:=zBK (show R=(f1,f2) by rw [ic.out,if_pos hz]);clear hz ic gf;have cJ:=coQ fD 0;have cW:=coQ fD 1;have eO:=foQ fD 0;have fl:=foQ fD 1;simp at cJ cW;have KR:=zBQ (zBQ fD 0 (.int .i64 f1)) 1 (.int .i64 f2);have r0:=coQ KR 0;have r1:=coQ KR 1;simp at r0 r1;have BR:=(B7.setCell (p:=⟨w.heap.size+1,0,none⟩) (by simp) (.int .i64 f1)).setCell (p:=⟨w.heap.size+1,1,none⟩) (by simp) (.int .i64 f2);clear KR;go_wp2;exact bodyPost_ret (v:=.agg #[.int .i64 f1,.int .i64 f2]) (by simp [results,Tryz.results27,go_sem,r0,r1]) rfl ⟨by rw [HZ.out],BR⟩
    ·have cZ:=pass79_any (m':=Sk.mAt S 2) (F1:=(Sk.pass S 1).1) (F2:=(Sk.pass S 1).2) zv HI.out.1 (by show g<wr.heap.size;omega) zw uJ (fun W hW=>zAR (HI.out.1.under hW) (HI.out.2.under hW) (by simp [Sk.mAt]) uJ (ko.out W hW).I (by show ¬g<w.heap.size;omega))
     have fz:=H.out;rw [show 6-1=4+1 from rfl] at fz;unfold Sk.chk at fz;have gf:=zBK (show (Sk.pass S 1).1=0->∀ j,j<1+1->(Sk.pass S j).1=0 from fun h0 j hj=>by
      by_cases e:j=1
      ·rw [e];exact h0
      ·exact lX.out j (by omega))
     generalize Sk.pass S 1=F at cZ fz gf;obtain ⟨f1,f2⟩:=F
     dsimp only at cZ fz gf
     have ic:=zBK fz;have c0:=coQ th 1;simp at c0;clear fz H lX HI ko;go_wp2_with fail;refine cZ.mono ?_;rintro e w6 ⟨rfl,l6,m6,a6⟩;have z6:=a6.size;have gq:=a6.keep dE (zBM dE) (by simp;omega);have A6:=aH.trans a6 zr;have B6:Below w.heap.size w w6:=BW.trans ((a6.mono (by omega)).below (by intro k hk;simp at hk;omega));have bV:Below w6.heap.size w6 (w6.alloc (.cells #[.int .i64 f1,.int .i64 f2] 32 (0,0))):=(Below.refl _ _).alloc zBR _;have kV:=zBO w6 (.cells #[.int .i64 f1,.int .i64 f2] 32 (0,0));have fD:=(bV.block _ (zBM gq)).trans gq;have H7:=zBK (And.intro (l6.under bV) (m6.under bV));have A7:=A6.trans (aside (S:=[g]) bV) (Nat.le_trans zr z6);have B7:=B6.trans (bV.mono B6.size);clear cZ l6 m6 a6 dE c0 gq bV;go_upto_region 9 with fail;generalize w6.alloc (.cells #[.int .i64 f1,.int .i64 f2] 32 (0,0))=w7 at kV fD H7 A7 B7 ⊢;have v0:=coQ kV 0;have v1:=coQ kV 1;simp at v0 v1;by_cases hz:f1=0
     case pos=>
      have dZ:(f1 != 0)=false:=(by simp [hz]);have HZ:=zBK (show R=Sk.chk S 4 (1+1) by rw [ic.out,if_neg (by simp [hz])]);have pz:=zBK (gf.out hz);clear hz ic gf;go_wp2_with fail;go_roundg (4)
      case measure=>omega
      case rel=>exact ⟨1+1,by omega,rfl,by go_num,HZ,pz,H7,A7⟩
     case neg=>
      have dZ:(f1 != 0)=true:=(by simp [hz]);have HZ:=zBK (show R=(f1,f2) by rw [ic.out,if_pos hz]);clear hz ic gf;have cJ:=coQ fD 0;have cW:=coQ fD 1;have eO:=foQ fD 0;have fl:=foQ fD 1;simp at cJ cW;have KR:=zBQ (zBQ fD 0 (.int .i64 f1)) 1 (.int .i64 f2);have r0:=coQ KR 0;have r1:=coQ KR 1;simp at r0 r1;have BR:=(B7.setCell (p:=⟨w.heap.size+1,0,none⟩) (by simp) (.int .i64 f1)).setCell (p:=⟨w.heap.size+1,1,none⟩) (by simp) (.int .i64 f2);clear KR;go_wp2;exact bodyPost_ret (v:=.agg #[.int .i64 f1,.int .i64 f2]) (by simp [results,Tryz.results27,go_sem,r0,r1]) rfl ⟨by rw [HZ.out],BR⟩
    ·have cZ:=pass83_any (m':=Sk.mAt S 3) (F1:=(Sk.pass S 2).1) (F2:=(Sk.pass S 2).2) zv HI.out.1 (by show g<wr.heap.size;omega) zw uJ (fun W hW=>(zAP (HI.out.1.under hW) (ko.out W hW).O).mono fun _ _ ⟨h1,h2⟩=>⟨h1,(HI.out.1.under hW).under h2,(HI.out.2.under hW).under h2,aside h2⟩)
     have fz:=H.out;rw [show 6-2=3+1 from rfl] at fz;unfold Sk.chk at fz;have gf:=zBK (show (Sk.pass S 2).1=0->∀ j,j<2+1->(Sk.pass S j).1=0 from fun h0 j hj=>by
      by_cases e:j=2
      ·rw [e];exact h0
      ·exact lX.out j (by omega))
     generalize Sk.pass S 2=F at cZ fz gf;obtain ⟨f1,f2⟩:=F
     dsimp only at cZ fz gf
     have ic:=zBK fz;have c0:=coQ th 2;simp at c0;clear fz H lX HI ko;go_wp2_with fail;refine cZ.mono ?_;rintro e w6 ⟨rfl,l6,m6,a6⟩;have z6:=a6.size;have gq:=a6.keep dE (zBM dE) (by simp;omega);have A6:=aH.trans a6 zr;have B6:Below w.heap.size w w6:=BW.trans ((a6.mono (by omega)).below (by intro k hk;simp at hk;omega));have bV:Below w6.heap.size w6 (w6.alloc (.cells #[.int .i64 f1,.int .i64 f2] 32 (0,0))):=(Below.refl _ _).alloc zBR _;have kV:=zBO w6 (.cells #[.int .i64 f1,.int .i64 f2] 32 (0,0));have fD:=(bV.block _ (zBM gq)).trans gq;have H7:=zBK (And.intro (l6.under bV) (m6.under bV));have A7:=A6.trans (aside (S:=[g]) bV) (Nat.le_trans zr z6);have B7:=B6.trans (bV.mono B6.size);clear cZ l6 m6 a6 dE c0 gq bV;go_upto_region 9 with fail;generalize w6.alloc (.cells #[.int .i64 f1,.int .i64 f2] 32 (0,0))=w7 at kV fD H7 A7 B7 ⊢;have v0:=coQ kV 0;have v1:=coQ kV 1;simp at v0 v1;by_cases hz:f1=0
     case pos=>
      have dZ:(f1 != 0)=false:=(by simp [hz]);have HZ:=zBK (show R=Sk.chk S 3 (2+1) by rw [ic.out,if_neg (by simp [hz])]);have pz:=zBK (gf.out hz);clear hz ic gf;go_wp2_with fail;go_roundg (3)
      case measure=>omega
      case rel=>exact ⟨2+1,by omega,rfl,by go_num,HZ,pz,H7,A7⟩
     case neg=>
      have dZ:(f1 != 0)=true:=(by simp [hz]);have HZ:=zBK (show R=(f1,f2) by rw [ic.out,if_pos hz]);clear hz ic gf;have cJ:=coQ fD 0;have cW:=coQ fD 1;have eO:=foQ fD 0;have fl:=foQ fD 1;simp at cJ cW;have KR:=zBQ (zBQ fD 0 (.int .i64 f1)) 1 (.int .i64 f2);have r0:=coQ KR 0;have r1:=coQ KR 1;simp at r0 r1;have BR:=(B7.setCell (p:=⟨w.heap.size+1,0,none⟩) (by simp) (.int .i64 f1)).setCell (p:=⟨w.heap.size+1,1,none⟩) (by simp) (.int .i64 f2);clear KR;go_wp2;exact bodyPost_ret (v:=.agg #[.int .i64 f1,.int .i64 f2]) (by simp [results,Tryz.results27,go_sem,r0,r1]) rfl ⟨by rw [HZ.out],BR⟩
    ·have cZ:=pass85_any (m':=Sk.mAt S 4) (F1:=(Sk.pass S 3).1) (F2:=(Sk.pass S 3).2) zv HI.out.1 (by show g<wr.heap.size;omega) zw uJ (fun W hW=>zAD (HI.out.1.under hW) (HI.out.2.under hW) (Sk.m0_len S).symm uJ (ko.out W hW).V ((Sk.firstV_zero S.V 0).1 (lX.out 0 (by omega))) (HG.out.under (BW.trans (hW.mono BW.size))) (HP.out.under (BW.trans (hW.mono BW.size))) Lh (ko.out W hW).R (by show ¬g<w.heap.size;omega) (by show ¬g<w.heap.size;omega) HF.out)
     have fz:=H.out;rw [show 6-3=2+1 from rfl] at fz;unfold Sk.chk at fz;have gf:=zBK (show (Sk.pass S 3).1=0->∀ j,j<3+1->(Sk.pass S j).1=0 from fun h0 j hj=>by
      by_cases e:j=3
      ·rw [e];exact h0
      ·exact lX.out j (by omega))
     generalize Sk.pass S 3=F at cZ fz gf;obtain ⟨f1,f2⟩:=F
     dsimp only at cZ fz gf
     have ic:=zBK fz;have c0:=coQ th 3;simp at c0;clear fz H lX HI ko;go_wp2_with fail;refine cZ.mono ?_;rintro e w6 ⟨rfl,l6,m6,a6⟩;have z6:=a6.size;have gq:=a6.keep dE (zBM dE) (by simp;omega);have A6:=aH.trans a6 zr;have B6:Below w.heap.size w w6:=BW.trans ((a6.mono (by omega)).below (by intro k hk;simp at hk;omega));have bV:Below w6.heap.size w6 (w6.alloc (.cells #[.int .i64 f1,.int .i64 f2] 32 (0,0))):=(Below.refl _ _).alloc zBR _;have kV:=zBO w6 (.cells #[.int .i64 f1,.int .i64 f2] 32 (0,0));have fD:=(bV.block _ (zBM gq)).trans gq;have H7:=zBK (And.intro (l6.under bV) (m6.under bV));have A7:=A6.trans (aside (S:=[g]) bV) (Nat.le_trans zr z6);have B7:=B6.trans (bV.mono B6.size);clear cZ l6 m6 a6 dE c0 gq bV;go_upto_region 9 with fail;generalize w6.alloc (.cells #[.int .i64 f1,.int .i64 f2] 32 (0,0))=w7 at kV fD H7 A7 B7 ⊢;have v0:=coQ kV 0;have v1:=coQ kV 1;simp at v0 v1;by_cases hz:f1=0
     case pos=>
      have dZ:(f1 != 0)=false:=(by simp [hz]);have HZ:=zBK (show R=Sk.chk S 2 (3+1) by rw [ic.out,if_neg (by simp [hz])]);have pz:=zBK (gf.out hz);clear hz ic gf;go_wp2_with fail;go_roundg (2)
      case measure=>omega
      case rel=>exact ⟨3+1,by omega,rfl,by go_num,HZ,pz,H7,A7⟩
     case neg=>
      have dZ:(f1 != 0)=true:=(by simp [hz]);have HZ:=zBK (show R=(f1,f2) by rw [ic.out,if_pos hz]);clear hz ic gf;have cJ:=coQ fD 0;have cW:=coQ fD 1;have eO:=foQ fD 0;have fl:=foQ fD 1;simp at cJ cW;have KR:=zBQ (zBQ fD 0 (.int .i64 f1)) 1 (.int .i64 f2);have r0:=coQ KR 0;have r1:=coQ KR 1;simp at r0 r1;have BR:=(B7.setCell (p:=⟨w.heap.size+1,0,none⟩) (by simp) (.int .i64 f1)).setCell (p:=⟨w.heap.size+1,1,none⟩) (by simp) (.int .i64 f2);clear KR;go_wp2;exact bodyPost_ret (v:=.agg #[.int .i64 f1,.int .i64 f2]) (by simp [results,Tryz.results27,go_sem,r0,r1]) rfl ⟨by rw [HZ.out],BR⟩
    ·have cZ:=pass89_any (m':=Sk.mAt S 5) (F1:=(Sk.pass S 4).1) (F2:=(Sk.pass S 4).2) zv HI.out.1 (by show g<wr.heap.size;omega) zw uJ (fun W hW=>(zDE (HI.out.1.under hW) (HI.out.2.under hW) (Sk.m1_len S).symm (by show (Sk.m1 S).length<=1000000;rw [Sk.m1_len];omega) (ko.out W hW).R (fun r hr=>⟨(HF.out r hr).1,(HF.out r hr).2,fun z hz=>by show 0<=z/\z<((Sk.m1 S).length:Nat);rw [Sk.m1_len];exact (Sk.pass_rules (lX.out 1 (by omega)) (lX.out 3 (by omega)) r hr).uses z hz⟩)).mono fun _ _ ⟨h1,h2⟩=>⟨h1,(HI.out.1.under hW).under h2,(HI.out.2.under hW).under h2,aside h2⟩)
     have fz:=H.out;rw [show 6-4=1+1 from rfl] at fz;unfold Sk.chk at fz;have gf:=zBK (show (Sk.pass S 4).1=0->∀ j,j<4+1->(Sk.pass S j).1=0 from fun h0 j hj=>by
      by_cases e:j=4
      ·rw [e];exact h0
      ·exact lX.out j (by omega))
     generalize Sk.pass S 4=F at cZ fz gf;obtain ⟨f1,f2⟩:=F
     dsimp only at cZ fz gf
     have ic:=zBK fz;have c0:=coQ th 4;simp at c0;clear fz H lX HI ko;go_wp2_with fail;refine cZ.mono ?_;rintro e w6 ⟨rfl,l6,m6,a6⟩;have z6:=a6.size;have gq:=a6.keep dE (zBM dE) (by simp;omega);have A6:=aH.trans a6 zr;have B6:Below w.heap.size w w6:=BW.trans ((a6.mono (by omega)).below (by intro k hk;simp at hk;omega));have bV:Below w6.heap.size w6 (w6.alloc (.cells #[.int .i64 f1,.int .i64 f2] 32 (0,0))):=(Below.refl _ _).alloc zBR _;have kV:=zBO w6 (.cells #[.int .i64 f1,.int .i64 f2] 32 (0,0));have fD:=(bV.block _ (zBM gq)).trans gq;have H7:=zBK (And.intro (l6.under bV) (m6.under bV));have A7:=A6.trans (aside (S:=[g]) bV) (Nat.le_trans zr z6);have B7:=B6.trans (bV.mono B6.size);clear cZ l6 m6 a6 dE c0 gq bV;go_upto_region 9 with fail;generalize w6.alloc (.cells #[.int .i64 f1,.int .i64 f2] 32 (0,0))=w7 at kV fD H7 A7 B7 ⊢;have v0:=coQ kV 0;have v1:=coQ kV 1;simp at v0 v1;by_cases hz:f1=0
     case pos=>
      have dZ:(f1 != 0)=false:=(by simp [hz]);have HZ:=zBK (show R=Sk.chk S 1 (4+1) by rw [ic.out,if_neg (by simp [hz])]);have pz:=zBK (gf.out hz);clear hz ic gf;go_wp2_with fail;go_roundg (1)
      case measure=>omega
      case rel=>exact ⟨4+1,by omega,rfl,by go_num,HZ,pz,H7,A7⟩
     case neg=>
      have dZ:(f1 != 0)=true:=(by simp [hz]);have HZ:=zBK (show R=(f1,f2) by rw [ic.out,if_pos hz]);clear hz ic gf;have cJ:=coQ fD 0;have cW:=coQ fD 1;have eO:=foQ fD 0;have fl:=foQ fD 1;simp at cJ cW;have KR:=zBQ (zBQ fD 0 (.int .i64 f1)) 1 (.int .i64 f2);have r0:=coQ KR 0;have r1:=coQ KR 1;simp at r0 r1;have BR:=(B7.setCell (p:=⟨w.heap.size+1,0,none⟩) (by simp) (.int .i64 f1)).setCell (p:=⟨w.heap.size+1,1,none⟩) (by simp) (.int .i64 f2);clear KR;go_wp2;exact bodyPost_ret (v:=.agg #[.int .i64 f1,.int .i64 f2]) (by simp [results,Tryz.results27,go_sem,r0,r1]) rfl ⟨by rw [HZ.out],BR⟩
    ·have cZ:=pass91_any (m':=Sk.mAt S 6) (F1:=(Sk.pass S 5).1) (F2:=(Sk.pass S 5).2) zv HI.out.1 (by show g<wr.heap.size;omega) zw uJ (fun W hW=>(zAQ (HI.out.1.under hW) (HI.out.2.under hW) (Sk.m1_len S).symm (by show (Sk.m1 S).length<=1000000;rw [Sk.m1_len];omega) (fun z hz=>by show 0<=z/\z<((Sk.m1 S).length:Nat);rw [Sk.m1_len];exact Sk.pass_outs (lX.out 2 (by omega)) z hz) (ko.out W hW).O).mono fun _ _ ⟨h1,h2⟩=>⟨h1,(HI.out.1.under hW).under h2,(HI.out.2.under hW).under h2,aside h2⟩)
     have fz:=H.out;rw [show 6-5=0+1 from rfl] at fz;unfold Sk.chk at fz;have gf:=zBK (show (Sk.pass S 5).1=0->∀ j,j<5+1->(Sk.pass S j).1=0 from fun h0 j hj=>by
      by_cases e:j=5
      ·rw [e];exact h0
      ·exact lX.out j (by omega))
     generalize Sk.pass S 5=F at cZ fz gf;obtain ⟨f1,f2⟩:=F
     dsimp only at cZ fz gf
     have ic:=zBK fz;have c0:=coQ th 5;simp at c0;clear fz H lX HI ko;go_wp2_with fail;refine cZ.mono ?_;rintro e w6 ⟨rfl,l6,m6,a6⟩;have z6:=a6.size;have gq:=a6.keep dE (zBM dE) (by simp;omega);have A6:=aH.trans a6 zr;have B6:Below w.heap.size w w6:=BW.trans ((a6.mono (by omega)).below (by intro k hk;simp at hk;omega));have bV:Below w6.heap.size w6 (w6.alloc (.cells #[.int .i64 f1,.int .i64 f2] 32 (0,0))):=(Below.refl _ _).alloc zBR _;have kV:=zBO w6 (.cells #[.int .i64 f1,.int .i64 f2] 32 (0,0));have fD:=(bV.block _ (zBM gq)).trans gq;have H7:=zBK (And.intro (l6.under bV) (m6.under bV));have A7:=A6.trans (aside (S:=[g]) bV) (Nat.le_trans zr z6);have B7:=B6.trans (bV.mono B6.size);clear cZ l6 m6 a6 dE c0 gq bV;go_upto_region 9 with fail;generalize w6.alloc (.cells #[.int .i64 f1,.int .i64 f2] 32 (0,0))=w7 at kV fD H7 A7 B7 ⊢;have v0:=coQ kV 0;have v1:=coQ kV 1;simp at v0 v1;by_cases hz:f1=0
     case pos=>
      have dZ:(f1 != 0)=false:=(by simp [hz]);have HZ:=zBK (show R=Sk.chk S 0 (5+1) by rw [ic.out,if_neg (by simp [hz])]);have pz:=zBK (gf.out hz);clear hz ic gf;go_wp2_with fail;go_roundg (0)
      case measure=>omega
      case rel=>exact ⟨5+1,by omega,rfl,by go_num,HZ,pz,H7,A7⟩
     case neg=>
      have dZ:(f1 != 0)=true:=(by simp [hz]);have HZ:=zBK (show R=(f1,f2) by rw [ic.out,if_pos hz]);clear hz ic gf;have cJ:=coQ fD 0;have cW:=coQ fD 1;have eO:=foQ fD 0;have fl:=foQ fD 1;simp at cJ cW;have KR:=zBQ (zBQ fD 0 (.int .i64 f1)) 1 (.int .i64 f2);have r0:=coQ KR 0;have r1:=coQ KR 1;simp at r0 r1;have BR:=(B7.setCell (p:=⟨w.heap.size+1,0,none⟩) (by simp) (.int .i64 f1)).setCell (p:=⟨w.heap.size+1,1,none⟩) (by simp) (.int .i64 f2);clear KR;go_wp2;exact bodyPost_ret (v:=.agg #[.int .i64 f1,.int .i64 f2]) (by simp [results,Tryz.results27,go_sem,r0,r1]) rfl ⟨by rw [HZ.out],BR⟩
end Go.Proofs.YtfhghlpfeeiaeaaGreatDoor
