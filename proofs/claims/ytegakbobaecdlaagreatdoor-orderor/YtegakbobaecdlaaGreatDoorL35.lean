import Derived.Test.YtegakbobaecdlaaGreatDoorL34
import Derived.Test.YtegakbobaecdlaaGreatDoorL33
import Derived.WalkKit
import Derived.WalkSpells
import Derived.IntWalk
import Derived.Deep.Cut
import Derived.Deep.LoopGhost
import Derived.Ground.NamesProg
import Derived.Laws.Cover1
import Derived.Laws.EntriesVeiled
import Derived.Laws.Externs
import Derived.Lib.Hide
import Derived.Lib.MakeNoZero
import Derived.Lib.SlBuf
import Derived.Shelf.Bytes.SlSmallAll
import Derived.Shelf.Lay
set_option linter.unusedVariables false
set_option linter.unusedSimpArgs false
set_option maxHeartbeats 64000000
set_option maxRecDepth 100000
namespace Go.Proofs.YtegakbobaecdlaaGreatDoor
open Go.RowKit Go.IntWalk
theorem zT {α:Type} {T:Kind α} {B:Nat} {w:World} {v:Value} {l:List α} {sb:Nat} {cs:Array Value} {t:TypeId} (h:OwnL T B w v l) (hE:∀ ok ok' w cs a,T.E ok w cs a->T.E ok' w cs a) (hs:w.heap[sb]?=some (.cells cs t (0,0))) (ht:T.ty≠t):HRow T (fun i=>B<=i/\i<w.heap.size/\i≠sb) w v l:=by
 have hx:OwnX T (fun i=>v.ownBlock=some i) w v l:=by
  obtain ⟨D,⟨h1,h2⟩,h3⟩:=h;refine ⟨D,⟨h1,?_⟩,fun k hk=>hk,fun j hj=>hE _ _ _ _ _ (h3 j hj)⟩;rcases h2 with h | ⟨g,cap,cur,e1,e2,e3⟩
  ·exact .inl h
  ·exact .inr ⟨g,cap,cur,e1,Nat.zero_le _,e3⟩
 have hl:=h.lt;refine hx.row.wide fun i hi _=>⟨(hl i hi).1,(hl i hi).2,?_⟩;rintro rfl;obtain ⟨D,⟨h1,h2⟩,h3⟩:=h;rcases h2 with ⟨e,_⟩ | ⟨g,cap,cur,e1,e2,e3,_⟩
 ·rw [e] at hi;cases hi
 ·rw [e1] at hi
  injection hi with hi;have hi2:g=i:=hi;rw [hi2,hs] at e3;injection e3 with e3;injection e3 with _ e4;exact ht e4.symm
theorem zX {α:Type} {T:Kind α} {B B':Nat} {w:World} {v:Value} {l:List α} (h:OwnL T B w v l) (hb:B'<=B):OwnL T B' w v l:=zAK (zAJ h) (fun i hi=>Nat.le_trans hb hi.1)
structure IoAt (w6 wr:World) (sb B:Nat) (vV vI vO:Value) (S:Sk.Sys) (tk:List Nat) (i:Nat):Prop where
 row:∃ a c,wr.heap[sb]?=some (.cells #[vV,vI,vO,.slice a i c] 26 (0,0))/\OwnL kRu w6.heap.size wr (.slice a i c) ((tk.take i).map fun j=>S.R.getD j Sk.noRu)
 frame:Aside [sb] w6.heap.size w6 wr
theorem inOrder_any {ok okT:Nat->Prop} {w:World} {b g:Nat} {aV aI aO aR:Option Addr} {cV cI cO cR:Nat} {S:Sk.Sys} {vN vL vT:Value} {tk:List Nat} (hk:WkAt w b ⟨aV,S.V.length,cV,aI,S.I.length,cI,aO,S.O.length,cO,aR,S.R.length,cR,g⟩ vN vL) (hS:HSys ok w aV aI aO aR cV cI cO cR S) (hT:HInts okT w vT (nI tk)) (htk:∀ j ∈ tk,j<S.R.length) (htl:tk.length<=400) (hl:S.V.length<=400/\S.I.length<=400/\S.O.length<=400) (hfit:∀ r ∈ S.R,r.A.length<=1000000/\r.E.length<=1000000) :
  Calls Tryz.prog 34 #[.pointer (some ⟨b,0,none⟩),vT] w fun e w'=>∃ aV' aI' aO' aR' cV' cI' cO' cR',e=.returned (.agg #[.slice aV' S.V.length cV',.slice aI' S.I.length cI',.slice aO' S.O.length cO',.slice aR' tk.length cR'])/\HSys (fun i=>w.heap.size<=i) w' aV' aI' aO' aR' cV' cI' cO' cR' { S with R:=tk.map fun j=>S.R.getD j Sk.noRu }/\Below w.heap.size w w':=by
 have b1:Below w.heap.size w (w.alloc (.cells #[.slice none 0 0,.slice none 0 0,.slice none 0 0,.slice none 0 0] 26 (0,0))):=(Below.refl _ _).alloc zM _;have kZ:=zI w (.cells #[.slice none 0 0,.slice none 0 0,.slice none 0 0,.slice none 0 0] 26 (0,0));have hk1:=hk.under b1;unfold WkAt at hk1;have HS:=zE (show HSys (fun i=>i<w.heap.size) _ aV aI aO aR cV cI cO cR S from (hS.wide fun i _ h=>h).under b1);have HT:=zE (show HInts (fun i=>i<w.heap.size) _ vT (nI tk) from (hT.wide fun i _ h=>h).under b1);have HTK:=zE htk;have HF:=zE hfit;obtain ⟨aT,cT,rfl,hcT1,hcT2,-⟩:=hT.at;rw [xK] at hcT1;unfold maxLen at hcT2;have hbw:b<w.heap.size:=zG hk;clear hk hS hT htk hfit;rw [xK] at HT ⊢;go_enter Tryz.func34,Tryz.ntmps34;go_upto_region 1 with fail;generalize w.alloc (.cells #[.slice none 0 0,.slice none 0 0,.slice none 0 0,.slice none 0 0] 26 (0,0))=w1 at b1 kZ hk1 HS HT ⊢;have k0:=coQ hk1 0;have k1:=coQ hk1 1;have k2:=coQ hk1 2;have k3:=coQ hk1 3;simp at k0 k1 k2 k3;have yb:=zG hk1;go_cut [5] (fun v wd=>∃ (sb:Nat) (aV' aI' aO':Option Addr) (cV' cI' cO':Nat),v=.pointer (some ⟨sb,0,none⟩)/\Hid (wd.heap[sb]?=some (.cells #[.slice aV' S.V.length cV',.slice aI' S.I.length cI',.slice aO' S.O.length cO',.slice none 0 0] 26 (0,0))/\HVars (fun i=>w1.heap.size<=i/\i<wd.heap.size/\i≠sb) wd (.slice aV' S.V.length cV') S.V/\HInts (fun i=>w1.heap.size<=i/\i<wd.heap.size/\i≠sb) wd (.slice aI' S.I.length cI') S.I/\HInts (fun i=>w1.heap.size<=i/\i<wd.heap.size/\i≠sb) wd (.slice aO' S.O.length cO') S.O/\w1.heap.size<=sb)/\Below w1.heap.size w1 wd)
 case first=>
  refine zK (fun w'=>Below w1.heap.size w1 w') (fun _=>false) (by kernel_rfl) ?_;have hH0:Below w1.heap.size w1 w1.drew:=(Below.refl _ _).drew;generalize w1.drew=wd0 at hH0 ⊢;refine' tkR 0 8 hH0 ?o1
  refine' tkR 1 9 hH0 ?o2
  refine' tkR 2 10 hH0 ?o3
  refine' tkR 3 11 hH0 ?o4
  refine' tkQ 4 12 hH0 ?hyv ?o5
  case hyv=>
   intro wz hSw;have zc0:=(hSw.cell (p:=⟨b,0,none⟩) yb).trans k0;have zc1:=(hSw.cell (p:=⟨b,1,none⟩) yb).trans k1;have zc2:=(hSw.cell (p:=⟨b,2,none⟩) yb).trans k2;go_simp
   try rfl
  try simp only [Act.put,sT,sZ,sS]
  refine' tkR 6 14 hH0 ?o6
  refine' tkR 7 15 hH0 ?o7
  refine' tkR 8 16 hH0 ?o8
  refine' tkR 9 17 hH0 ?o9
  refine' tkQ 10 18 hH0 ?hyv ?o10
  case hyv=>
   intro wz hSw;have zc0:=(hSw.cell (p:=⟨b,0,none⟩) yb).trans k0;have zc1:=(hSw.cell (p:=⟨b,1,none⟩) yb).trans k1;have zc2:=(hSw.cell (p:=⟨b,2,none⟩) yb).trans k2;go_simp
   try rfl
  try simp only [Act.put,sT,sZ,sS]
  refine' tkR 12 20 hH0 ?o11
  refine' tkR 13 21 hH0 ?o12
  refine' tkR 14 22 hH0 ?o13
  refine' tkR 15 23 hH0 ?o14
  refine' tkQ 16 24 hH0 ?hyv ?o15
  case hyv=>
   intro wz hSw;have zc0:=(hSw.cell (p:=⟨b,0,none⟩) yb).trans k0;have zc1:=(hSw.cell (p:=⟨b,1,none⟩) yb).trans k1;have zc2:=(hSw.cell (p:=⟨b,2,none⟩) yb).trans k2;go_simp
   try rfl
  try simp only [Act.put,sT,sZ,sS]
  refine xF (i:=5) (j:=19) rfl rfl (by kernel_rfl) (by rfl) (by rfl) (fun K hK=>?_) (fun K hK=>?_)
  case _=>
   go_simp;refine (jU (ok:=fun i=>i<w.heap.size) ((HS.out.under hH0).V) (by omega)).mono ?_;rintro eq wd1 ⟨vV1,rfl,oV1,bq1⟩;have hH1:Below w1.heap.size w1 wd1:=hH0.trans (bq1.mono hH0.size);obtain ⟨aV1,cV1,rfl,-,-⟩:=oV1.form;have qV1:=hH0.size;have pV1:=zX oV1 qV1;clear oV1 qV1;refine hK.out _ _ (fun _=>hH1) ?_;clear hK K
   try simp only [Act.put,sT,sZ,sS]
   refine xF (i:=11) (j:=19) rfl rfl (by kernel_rfl) (by rfl) (by rfl) (fun K hK=>?_) (fun K hK=>?_)
   case _=>
    go_simp;refine (xH (ok:=fun i=>i<w.heap.size) ((HS.out.under hH1).I) (by omega)).mono ?_;rintro eq wd2 ⟨vI1,rfl,oI1,bq2⟩;have hH2:Below w1.heap.size w1 wd2:=hH1.trans (bq2.mono hH1.size);obtain ⟨aI1,cI1,rfl,-,-⟩:=oI1.form;have qI1:=hH1.size;have pI1:=zX oI1 qI1;clear oI1 qI1;have pV1_2:=pV1.below bq2;refine hK.out _ _ (fun _=>hH2) ?_;clear hK K
    try simp only [Act.put,sT,sZ,sS]
    refine xF (i:=17) (j:=19) rfl rfl (by kernel_rfl) (by rfl) (by rfl) (fun K hK=>?_) (fun K hK=>?_)
    case _=>
     go_simp;refine (xH (ok:=fun i=>i<w.heap.size) ((HS.out.under hH2).O) (by omega)).mono ?_;rintro eq wd3 ⟨vO1,rfl,oO1,bq3⟩;have hH3:Below w1.heap.size w1 wd3:=hH2.trans (bq3.mono hH2.size);obtain ⟨aO1,cO1,rfl,-,-⟩:=oO1.form;have qO1:=hH2.size;have pO1:=zX oO1 qO1;clear oO1 qO1;have pV1_3:=pV1_2.below bq3;have pI1_3:=pI1.below bq3;refine hK.out _ _ (fun _=>hH3) ?_;clear hK K
     try simp only [Act.put,sT,sZ,sS]
     refine' tkR 18 26 hH3 ?o16
     refine tnQ 19 (fun K hK=>?_);go_simp;have hH4:Below w1.heap.size w1 (wd3.alloc (.cells #[.slice none 0 0,.slice none 0 0,.slice none 0 0,.slice none 0 0] 26 (0,0))):=hH3.alloc hH3.size _;have kn4:=zI wd3 (.cells #[.slice none 0 0,.slice none 0 0,.slice none 0 0,.slice none 0 0] 26 (0,0));have zn4:=hH3.size;refine hK.out _ _ (fun _=>hH4) ?_;clear hK K
     try simp only [Act.put,sT,sZ,sS]
     have pV1_4:=pV1_3.below ((Below.refl _ wd3).alloc zM (.cells #[.slice none 0 0,.slice none 0 0,.slice none 0 0,.slice none 0 0] 26 (0,0)));have pI1_4:=pI1_3.below ((Below.refl _ wd3).alloc zM (.cells #[.slice none 0 0,.slice none 0 0,.slice none 0 0,.slice none 0 0] 26 (0,0)));have pO1_4:=pO1.below ((Below.refl _ wd3).alloc zM (.cells #[.slice none 0 0,.slice none 0 0,.slice none 0 0,.slice none 0 0] 26 (0,0)));generalize wd3.alloc (.cells #[.slice none 0 0,.slice none 0 0,.slice none 0 0,.slice none 0 0] 26 (0,0))=wd4 at pV1_4 pI1_4 pO1_4 hH4 kn4 ⊢;refine tnQ 20 (fun K hK=>?_);have st0:=coQ kn4 0;have fr0:=foQ kn4 0;have st1:=coQ kn4 1;have fr1:=foQ kn4 1;have st2:=coQ kn4 2;have fr2:=foQ kn4 2;have st3:=coQ kn4 3;have fr3:=foQ kn4 3;simp at st0 st1 st2 st3;have rV:=zT pV1_4 (fun _ _ _ _ _ h=>h) kn4 (by decide);have rI:=zT pI1_4 (fun _ _ _ _ _ h=>h) kn4 (by decide);have rO:=zT pO1_4 (fun _ _ _ _ _ h=>h) kn4 (by decide);have KR:=zJ (zJ (zJ (zJ (kn4) 0 (.slice aV1 S.V.length cV1)) 1 (.slice aI1 S.I.length cI1)) 2 (.slice aO1 S.O.length cO1)) 3 (.slice none 0 0);simp at KR;have hH5:=((((hH4).setCell (p:=⟨wd3.heap.size,0,none⟩) hH3.size (.slice aV1 S.V.length cV1)).setCell (p:=⟨wd3.heap.size,1,none⟩) hH3.size (.slice aI1 S.I.length cI1)).setCell (p:=⟨wd3.heap.size,2,none⟩) hH3.size (.slice aO1 S.O.length cO1)).setCell (p:=⟨wd3.heap.size,3,none⟩) hH3.size (.slice none 0 0);have hsz:(((((wd4).setCell ⟨wd3.heap.size,0,none⟩ (.slice aV1 S.V.length cV1)).setCell ⟨wd3.heap.size,1,none⟩ (.slice aI1 S.I.length cI1)).setCell ⟨wd3.heap.size,2,none⟩ (.slice aO1 S.O.length cO1)).setCell ⟨wd3.heap.size,3,none⟩ (.slice none 0 0)).heap.size=wd4.heap.size:=(by simp [World.setCell]);have hone:∀ (X:World) (u:Value) (j i:Nat),i≠wd3.heap.size->(X.setCell ⟨wd3.heap.size,j,none⟩ u).heap[i]?=X.heap[i]?:=fun X u j i hi=>zN _ _ _ (by show wd3.heap.size≠i;omega);have HFIN:=zE (And.intro KR (And.intro (rV.keep (w':=((((wd4).setCell ⟨wd3.heap.size,0,none⟩ (.slice aV1 S.V.length cV1)).setCell ⟨wd3.heap.size,1,none⟩ (.slice aI1 S.I.length cI1)).setCell ⟨wd3.heap.size,2,none⟩ (.slice aO1 S.O.length cO1)).setCell ⟨wd3.heap.size,3,none⟩ (.slice none 0 0)) (by omega) (fun i hi _=>by rw [hone _ _ _ i hi.2.2,hone _ _ _ i hi.2.2,hone _ _ _ i hi.2.2,hone _ _ _ i hi.2.2])) (And.intro (rI.keep (w':=((((wd4).setCell ⟨wd3.heap.size,0,none⟩ (.slice aV1 S.V.length cV1)).setCell ⟨wd3.heap.size,1,none⟩ (.slice aI1 S.I.length cI1)).setCell ⟨wd3.heap.size,2,none⟩ (.slice aO1 S.O.length cO1)).setCell ⟨wd3.heap.size,3,none⟩ (.slice none 0 0)) (by omega) (fun i hi _=>by rw [hone _ _ _ i hi.2.2,hone _ _ _ i hi.2.2,hone _ _ _ i hi.2.2,hone _ _ _ i hi.2.2])) (And.intro (rO.keep (w':=((((wd4).setCell ⟨wd3.heap.size,0,none⟩ (.slice aV1 S.V.length cV1)).setCell ⟨wd3.heap.size,1,none⟩ (.slice aI1 S.I.length cI1)).setCell ⟨wd3.heap.size,2,none⟩ (.slice aO1 S.O.length cO1)).setCell ⟨wd3.heap.size,3,none⟩ (.slice none 0 0)) (by omega) (fun i hi _=>by rw [hone _ _ _ i hi.2.2,hone _ _ _ i hi.2.2,hone _ _ _ i hi.2.2,hone _ _ _ i hi.2.2])) (And.intro hsz hH3.size)))));clear KR rV rI rO hone hsz;go_simp;refine hK.out _ _ (fun _=>hH5) ?_;clear hK K
     try simp only [Act.put,sT,sZ,sS]
     generalize ((((wd4).setCell ⟨wd3.heap.size,0,none⟩ (.slice aV1 S.V.length cV1)).setCell ⟨wd3.heap.size,1,none⟩ (.slice aI1 S.I.length cI1)).setCell ⟨wd3.heap.size,2,none⟩ (.slice aO1 S.O.length cO1)).setCell ⟨wd3.heap.size,3,none⟩ (.slice none 0 0)=wd5 at hH5 HFIN ⊢;refine zH (by kernel_rfl) ?_ _;go_wp2_with fail;go_meet
     case rel=>
      obtain ⟨f1,f2,f3,f4,f5,f6⟩:=HFIN.out;refine ⟨wd3.heap.size,_,_,_,_,_,_,rfl,zE ⟨f1,?_,?_,?_,f6⟩,hH5⟩
      ·rw [f5];exact f2
      ·rw [f5];exact f3
      ·rw [f5];exact f4
    case _=>
     go_simp;have hH3:Below w1.heap.size w1 (wd2.alloc (.cells #[.slice none 0 0,.slice none 0 0,.slice none 0 0,.slice none 0 0] 26 (0,0))):=hH2.alloc hH2.size _;have kn3:=zI wd2 (.cells #[.slice none 0 0,.slice none 0 0,.slice none 0 0,.slice none 0 0] 26 (0,0));have zn3:=hH2.size;refine hK.out _ _ (fun _=>hH3) ?_;clear hK K
     try simp only [Act.put,sT,sZ,sS]
     have pV1_3:=pV1_2.below ((Below.refl _ wd2).alloc zM (.cells #[.slice none 0 0,.slice none 0 0,.slice none 0 0,.slice none 0 0] 26 (0,0)));have pI1_3:=pI1.below ((Below.refl _ wd2).alloc zM (.cells #[.slice none 0 0,.slice none 0 0,.slice none 0 0,.slice none 0 0] 26 (0,0)));generalize wd2.alloc (.cells #[.slice none 0 0,.slice none 0 0,.slice none 0 0,.slice none 0 0] 26 (0,0))=wd3 at pV1_3 pI1_3 hH3 kn3 ⊢;refine tnQ 17 (fun K hK=>?_);go_simp;refine (xH (ok:=fun i=>i<w.heap.size) ((HS.out.under hH3).O) (by omega)).mono ?_;rintro eq wd4 ⟨vO1,rfl,oO1,bq4⟩;have kn3_4:=(bq4.block _ (zG kn3)).trans kn3;have hH4:Below w1.heap.size w1 wd4:=hH3.trans (bq4.mono hH3.size);obtain ⟨aO1,cO1,rfl,-,-⟩:=oO1.form;have qO1:=hH3.size;have pO1:=zX oO1 qO1;clear oO1 qO1;have pV1_4:=pV1_3.below bq4;have pI1_4:=pI1_3.below bq4;refine hK.out _ _ (fun _=>hH4) ?_;clear hK K
     try simp only [Act.put,sT,sZ,sS]
     refine' tkR 18 26 hH4 ?o17
     refine tnQ 20 (fun K hK=>?_);have st0:=coQ kn3_4 0;have fr0:=foQ kn3_4 0;have st1:=coQ kn3_4 1;have fr1:=foQ kn3_4 1;have st2:=coQ kn3_4 2;have fr2:=foQ kn3_4 2;have st3:=coQ kn3_4 3;have fr3:=foQ kn3_4 3;simp at st0 st1 st2 st3;have rV:=zT pV1_4 (fun _ _ _ _ _ h=>h) kn3_4 (by decide);have rI:=zT pI1_4 (fun _ _ _ _ _ h=>h) kn3_4 (by decide);have rO:=zT pO1 (fun _ _ _ _ _ h=>h) kn3_4 (by decide);have KR:=zJ (zJ (zJ (zJ (kn3_4) 0 (.slice aV1 S.V.length cV1)) 1 (.slice aI1 S.I.length cI1)) 2 (.slice aO1 S.O.length cO1)) 3 (.slice none 0 0);simp at KR;have hH5:=((((hH4).setCell (p:=⟨wd2.heap.size,0,none⟩) hH2.size (.slice aV1 S.V.length cV1)).setCell (p:=⟨wd2.heap.size,1,none⟩) hH2.size (.slice aI1 S.I.length cI1)).setCell (p:=⟨wd2.heap.size,2,none⟩) hH2.size (.slice aO1 S.O.length cO1)).setCell (p:=⟨wd2.heap.size,3,none⟩) hH2.size (.slice none 0 0);have hsz:(((((wd4).setCell ⟨wd2.heap.size,0,none⟩ (.slice aV1 S.V.length cV1)).setCell ⟨wd2.heap.size,1,none⟩ (.slice aI1 S.I.length cI1)).setCell ⟨wd2.heap.size,2,none⟩ (.slice aO1 S.O.length cO1)).setCell ⟨wd2.heap.size,3,none⟩ (.slice none 0 0)).heap.size=wd4.heap.size:=(by simp [World.setCell]);have hone:∀ (X:World) (u:Value) (j i:Nat),i≠wd2.heap.size->(X.setCell ⟨wd2.heap.size,j,none⟩ u).heap[i]?=X.heap[i]?:=fun X u j i hi=>zN _ _ _ (by show wd2.heap.size≠i;omega);have HFIN:=zE (And.intro KR (And.intro (rV.keep (w':=((((wd4).setCell ⟨wd2.heap.size,0,none⟩ (.slice aV1 S.V.length cV1)).setCell ⟨wd2.heap.size,1,none⟩ (.slice aI1 S.I.length cI1)).setCell ⟨wd2.heap.size,2,none⟩ (.slice aO1 S.O.length cO1)).setCell ⟨wd2.heap.size,3,none⟩ (.slice none 0 0)) (by omega) (fun i hi _=>by rw [hone _ _ _ i hi.2.2,hone _ _ _ i hi.2.2,hone _ _ _ i hi.2.2,hone _ _ _ i hi.2.2])) (And.intro (rI.keep (w':=((((wd4).setCell ⟨wd2.heap.size,0,none⟩ (.slice aV1 S.V.length cV1)).setCell ⟨wd2.heap.size,1,none⟩ (.slice aI1 S.I.length cI1)).setCell ⟨wd2.heap.size,2,none⟩ (.slice aO1 S.O.length cO1)).setCell ⟨wd2.heap.size,3,none⟩ (.slice none 0 0)) (by omega) (fun i hi _=>by rw [hone _ _ _ i hi.2.2,hone _ _ _ i hi.2.2,hone _ _ _ i hi.2.2,hone _ _ _ i hi.2.2])) (And.intro (rO.keep (w':=((((wd4).setCell ⟨wd2.heap.size,0,none⟩ (.slice aV1 S.V.length cV1)).setCell ⟨wd2.heap.size,1,none⟩ (.slice aI1 S.I.length cI1)).setCell ⟨wd2.heap.size,2,none⟩ (.slice aO1 S.O.length cO1)).setCell ⟨wd2.heap.size,3,none⟩ (.slice none 0 0)) (by omega) (fun i hi _=>by rw [hone _ _ _ i hi.2.2,hone _ _ _ i hi.2.2,hone _ _ _ i hi.2.2,hone _ _ _ i hi.2.2])) (And.intro hsz hH2.size)))));clear KR rV rI rO hone hsz;go_simp;refine hK.out _ _ (fun _=>hH5) ?_;clear hK K
     try simp only [Act.put,sT,sZ,sS]
     generalize ((((wd4).setCell ⟨wd2.heap.size,0,none⟩ (.slice aV1 S.V.length cV1)).setCell ⟨wd2.heap.size,1,none⟩ (.slice aI1 S.I.length cI1)).setCell ⟨wd2.heap.size,2,none⟩ (.slice aO1 S.O.length cO1)).setCell ⟨wd2.heap.size,3,none⟩ (.slice none 0 0)=wd5 at hH5 HFIN ⊢;refine zH (by kernel_rfl) ?_ _;go_wp2_with fail;go_meet
     case rel=>
      obtain ⟨f1,f2,f3,f4,f5,f6⟩:=HFIN.out;refine ⟨wd2.heap.size,_,_,_,_,_,_,rfl,zE ⟨f1,?_,?_,?_,f6⟩,hH5⟩
      ·rw [f5];exact f2
      ·rw [f5];exact f3
      ·rw [f5];exact f4
   case _=>
    go_simp;have hH2:Below w1.heap.size w1 (wd1.alloc (.cells #[.slice none 0 0,.slice none 0 0,.slice none 0 0,.slice none 0 0] 26 (0,0))):=hH1.alloc hH1.size _;have kn2:=zI wd1 (.cells #[.slice none 0 0,.slice none 0 0,.slice none 0 0,.slice none 0 0] 26 (0,0));have zn2:=hH1.size;refine hK.out _ _ (fun _=>hH2) ?_;clear hK K
    try simp only [Act.put,sT,sZ,sS]
    have pV1_2:=pV1.below ((Below.refl _ wd1).alloc zM (.cells #[.slice none 0 0,.slice none 0 0,.slice none 0 0,.slice none 0 0] 26 (0,0)));generalize wd1.alloc (.cells #[.slice none 0 0,.slice none 0 0,.slice none 0 0,.slice none 0 0] 26 (0,0))=wd2 at pV1_2 hH2 kn2 ⊢;refine tnQ 11 (fun K hK=>?_);go_simp;refine (xH (ok:=fun i=>i<w.heap.size) ((HS.out.under hH2).I) (by omega)).mono ?_;rintro eq wd3 ⟨vI1,rfl,oI1,bq3⟩;have kn2_3:=(bq3.block _ (zG kn2)).trans kn2;have hH3:Below w1.heap.size w1 wd3:=hH2.trans (bq3.mono hH2.size);obtain ⟨aI1,cI1,rfl,-,-⟩:=oI1.form;have qI1:=hH2.size;have pI1:=zX oI1 qI1;clear oI1 qI1;have pV1_3:=pV1_2.below bq3;refine hK.out _ _ (fun _=>hH3) ?_;clear hK K
    try simp only [Act.put,sT,sZ,sS]
    refine tnQ 17 (fun K hK=>?_);go_simp;refine (xH (ok:=fun i=>i<w.heap.size) ((HS.out.under hH3).O) (by omega)).mono ?_;rintro eq wd4 ⟨vO1,rfl,oO1,bq4⟩;have kn2_4:=(bq4.block _ (zG kn2_3)).trans kn2_3;have hH4:Below w1.heap.size w1 wd4:=hH3.trans (bq4.mono hH3.size);obtain ⟨aO1,cO1,rfl,-,-⟩:=oO1.form;have qO1:=hH3.size;have pO1:=zX oO1 qO1;clear oO1 qO1;have pV1_4:=pV1_3.below bq4;have pI1_4:=pI1.below bq4;refine hK.out _ _ (fun _=>hH4) ?_;clear hK K
    try simp only [Act.put,sT,sZ,sS]
    refine' tkR 18 26 hH4 ?o18
    refine tnQ 20 (fun K hK=>?_);have st0:=coQ kn2_4 0;have fr0:=foQ kn2_4 0;have st1:=coQ kn2_4 1;have fr1:=foQ kn2_4 1;have st2:=coQ kn2_4 2;have fr2:=foQ kn2_4 2;have st3:=coQ kn2_4 3;have fr3:=foQ kn2_4 3;simp at st0 st1 st2 st3;have rV:=zT pV1_4 (fun _ _ _ _ _ h=>h) kn2_4 (by decide);have rI:=zT pI1_4 (fun _ _ _ _ _ h=>h) kn2_4 (by decide);have rO:=zT pO1 (fun _ _ _ _ _ h=>h) kn2_4 (by decide);have KR:=zJ (zJ (zJ (zJ (kn2_4) 0 (.slice aV1 S.V.length cV1)) 1 (.slice aI1 S.I.length cI1)) 2 (.slice aO1 S.O.length cO1)) 3 (.slice none 0 0);simp at KR;have hH5:=((((hH4).setCell (p:=⟨wd1.heap.size,0,none⟩) hH1.size (.slice aV1 S.V.length cV1)).setCell (p:=⟨wd1.heap.size,1,none⟩) hH1.size (.slice aI1 S.I.length cI1)).setCell (p:=⟨wd1.heap.size,2,none⟩) hH1.size (.slice aO1 S.O.length cO1)).setCell (p:=⟨wd1.heap.size,3,none⟩) hH1.size (.slice none 0 0);have hsz:(((((wd4).setCell ⟨wd1.heap.size,0,none⟩ (.slice aV1 S.V.length cV1)).setCell ⟨wd1.heap.size,1,none⟩ (.slice aI1 S.I.length cI1)).setCell ⟨wd1.heap.size,2,none⟩ (.slice aO1 S.O.length cO1)).setCell ⟨wd1.heap.size,3,none⟩ (.slice none 0 0)).heap.size=wd4.heap.size:=(by simp [World.setCell]);have hone:∀ (X:World) (u:Value) (j i:Nat),i≠wd1.heap.size->(X.setCell ⟨wd1.heap.size,j,none⟩ u).heap[i]?=X.heap[i]?:=fun X u j i hi=>zN _ _ _ (by show wd1.heap.size≠i;omega);have HFIN:=zE (And.intro KR (And.intro (rV.keep (w':=((((wd4).setCell ⟨wd1.heap.size,0,none⟩ (.slice aV1 S.V.length cV1)).setCell ⟨wd1.heap.size,1,none⟩ (.slice aI1 S.I.length cI1)).setCell ⟨wd1.heap.size,2,none⟩ (.slice aO1 S.O.length cO1)).setCell ⟨wd1.heap.size,3,none⟩ (.slice none 0 0)) (by omega) (fun i hi _=>by rw [hone _ _ _ i hi.2.2,hone _ _ _ i hi.2.2,hone _ _ _ i hi.2.2,hone _ _ _ i hi.2.2])) (And.intro (rI.keep (w':=((((wd4).setCell ⟨wd1.heap.size,0,none⟩ (.slice aV1 S.V.length cV1)).setCell ⟨wd1.heap.size,1,none⟩ (.slice aI1 S.I.length cI1)).setCell ⟨wd1.heap.size,2,none⟩ (.slice aO1 S.O.length cO1)).setCell ⟨wd1.heap.size,3,none⟩ (.slice none 0 0)) (by omega) (fun i hi _=>by rw [hone _ _ _ i hi.2.2,hone _ _ _ i hi.2.2,hone _ _ _ i hi.2.2,hone _ _ _ i hi.2.2])) (And.intro (rO.keep (w':=((((wd4).setCell ⟨wd1.heap.size,0,none⟩ (.slice aV1 S.V.length cV1)).setCell ⟨wd1.heap.size,1,none⟩ (.slice aI1 S.I.length cI1)).setCell ⟨wd1.heap.size,2,none⟩ (.slice aO1 S.O.length cO1)).setCell ⟨wd1.heap.size,3,none⟩ (.slice none 0 0)) (by omega) (fun i hi _=>by rw [hone _ _ _ i hi.2.2,hone _ _ _ i hi.2.2,hone _ _ _ i hi.2.2,hone _ _ _ i hi.2.2])) (And.intro hsz hH1.size)))));clear KR rV rI rO hone hsz;go_simp;refine hK.out _ _ (fun _=>hH5) ?_;clear hK K
    try simp only [Act.put,sT,sZ,sS]
    generalize ((((wd4).setCell ⟨wd1.heap.size,0,none⟩ (.slice aV1 S.V.length cV1)).setCell ⟨wd1.heap.size,1,none⟩ (.slice aI1 S.I.length cI1)).setCell ⟨wd1.heap.size,2,none⟩ (.slice aO1 S.O.length cO1)).setCell ⟨wd1.heap.size,3,none⟩ (.slice none 0 0)=wd5 at hH5 HFIN ⊢;refine zH (by kernel_rfl) ?_ _;go_wp2_with fail;go_meet
    case rel=>
     obtain ⟨f1,f2,f3,f4,f5,f6⟩:=HFIN.out;refine ⟨wd1.heap.size,_,_,_,_,_,_,rfl,zE ⟨f1,?_,?_,?_,f6⟩,hH5⟩
     ·rw [f5];exact f2
     ·rw [f5];exact f3
     ·rw [f5];exact f4
  case _=>
   go_simp;have hH1:Below w1.heap.size w1 (wd0.alloc (.cells #[.slice none 0 0,.slice none 0 0,.slice none 0 0,.slice none 0 0] 26 (0,0))):=hH0.alloc hH0.size _;have kn1:=zI wd0 (.cells #[.slice none 0 0,.slice none 0 0,.slice none 0 0,.slice none 0 0] 26 (0,0));have zn1:=hH0.size;refine hK.out _ _ (fun _=>hH1) ?_;clear hK K
   try simp only [Act.put,sT,sZ,sS]
   generalize wd0.alloc (.cells #[.slice none 0 0,.slice none 0 0,.slice none 0 0,.slice none 0 0] 26 (0,0))=wd1 at hH1 kn1 ⊢;refine tnQ 5 (fun K hK=>?_);go_simp;refine (jU (ok:=fun i=>i<w.heap.size) ((HS.out.under hH1).V) (by omega)).mono ?_;rintro eq wd2 ⟨vV1,rfl,oV1,bq2⟩;have kn1_2:=(bq2.block _ (zG kn1)).trans kn1;have hH2:Below w1.heap.size w1 wd2:=hH1.trans (bq2.mono hH1.size);obtain ⟨aV1,cV1,rfl,-,-⟩:=oV1.form;have qV1:=hH1.size;have pV1:=zX oV1 qV1;clear oV1 qV1;refine hK.out _ _ (fun _=>hH2) ?_;clear hK K
   try simp only [Act.put,sT,sZ,sS]
   refine tnQ 11 (fun K hK=>?_);go_simp;refine (xH (ok:=fun i=>i<w.heap.size) ((HS.out.under hH2).I) (by omega)).mono ?_;rintro eq wd3 ⟨vI1,rfl,oI1,bq3⟩;have kn1_3:=(bq3.block _ (zG kn1_2)).trans kn1_2;have hH3:Below w1.heap.size w1 wd3:=hH2.trans (bq3.mono hH2.size);obtain ⟨aI1,cI1,rfl,-,-⟩:=oI1.form;have qI1:=hH2.size;have pI1:=zX oI1 qI1;clear oI1 qI1;have pV1_3:=pV1.below bq3;refine hK.out _ _ (fun _=>hH3) ?_;clear hK K
   try simp only [Act.put,sT,sZ,sS]
   refine tnQ 17 (fun K hK=>?_);go_simp;refine (xH (ok:=fun i=>i<w.heap.size) ((HS.out.under hH3).O) (by omega)).mono ?_;rintro eq wd4 ⟨vO1,rfl,oO1,bq4⟩;have kn1_4:=(bq4.block _ (zG kn1_3)).trans kn1_3;have hH4:Below w1.heap.size w1 wd4:=hH3.trans (bq4.mono hH3.size);obtain ⟨aO1,cO1,rfl,-,-⟩:=oO1.form;have qO1:=hH3.size;have pO1:=zX oO1 qO1;clear oO1 qO1;have pV1_4:=pV1_3.below bq4;have pI1_4:=pI1.below bq4;refine hK.out _ _ (fun _=>hH4) ?_;clear hK K
   try simp only [Act.put,sT,sZ,sS]
   refine' tkR 18 26 hH4 ?o19
   refine tnQ 20 (fun K hK=>?_);have st0:=coQ kn1_4 0;have fr0:=foQ kn1_4 0;have st1:=coQ kn1_4 1;have fr1:=foQ kn1_4 1;have st2:=coQ kn1_4 2;have fr2:=foQ kn1_4 2;have st3:=coQ kn1_4 3;have fr3:=foQ kn1_4 3;simp at st0 st1 st2 st3;have rV:=zT pV1_4 (fun _ _ _ _ _ h=>h) kn1_4 (by decide);have rI:=zT pI1_4 (fun _ _ _ _ _ h=>h) kn1_4 (by decide);have rO:=zT pO1 (fun _ _ _ _ _ h=>h) kn1_4 (by decide);have KR:=zJ (zJ (zJ (zJ (kn1_4) 0 (.slice aV1 S.V.length cV1)) 1 (.slice aI1 S.I.length cI1)) 2 (.slice aO1 S.O.length cO1)) 3 (.slice none 0 0);simp at KR;have hH5:=((((hH4).setCell (p:=⟨wd0.heap.size,0,none⟩) hH0.size (.slice aV1 S.V.length cV1)).setCell (p:=⟨wd0.heap.size,1,none⟩) hH0.size (.slice aI1 S.I.length cI1)).setCell (p:=⟨wd0.heap.size,2,none⟩) hH0.size (.slice aO1 S.O.length cO1)).setCell (p:=⟨wd0.heap.size,3,none⟩) hH0.size (.slice none 0 0);have hsz:(((((wd4).setCell ⟨wd0.heap.size,0,none⟩ (.slice aV1 S.V.length cV1)).setCell ⟨wd0.heap.size,1,none⟩ (.slice aI1 S.I.length cI1)).setCell ⟨wd0.heap.size,2,none⟩ (.slice aO1 S.O.length cO1)).setCell ⟨wd0.heap.size,3,none⟩ (.slice none 0 0)).heap.size=wd4.heap.size:=(by simp [World.setCell]);have hone:∀ (X:World) (u:Value) (j i:Nat),i≠wd0.heap.size->(X.setCell ⟨wd0.heap.size,j,none⟩ u).heap[i]?=X.heap[i]?:=fun X u j i hi=>zN _ _ _ (by show wd0.heap.size≠i;omega);have HFIN:=zE (And.intro KR (And.intro (rV.keep (w':=((((wd4).setCell ⟨wd0.heap.size,0,none⟩ (.slice aV1 S.V.length cV1)).setCell ⟨wd0.heap.size,1,none⟩ (.slice aI1 S.I.length cI1)).setCell ⟨wd0.heap.size,2,none⟩ (.slice aO1 S.O.length cO1)).setCell ⟨wd0.heap.size,3,none⟩ (.slice none 0 0)) (by omega) (fun i hi _=>by rw [hone _ _ _ i hi.2.2,hone _ _ _ i hi.2.2,hone _ _ _ i hi.2.2,hone _ _ _ i hi.2.2])) (And.intro (rI.keep (w':=((((wd4).setCell ⟨wd0.heap.size,0,none⟩ (.slice aV1 S.V.length cV1)).setCell ⟨wd0.heap.size,1,none⟩ (.slice aI1 S.I.length cI1)).setCell ⟨wd0.heap.size,2,none⟩ (.slice aO1 S.O.length cO1)).setCell ⟨wd0.heap.size,3,none⟩ (.slice none 0 0)) (by omega) (fun i hi _=>by rw [hone _ _ _ i hi.2.2,hone _ _ _ i hi.2.2,hone _ _ _ i hi.2.2,hone _ _ _ i hi.2.2])) (And.intro (rO.keep (w':=((((wd4).setCell ⟨wd0.heap.size,0,none⟩ (.slice aV1 S.V.length cV1)).setCell ⟨wd0.heap.size,1,none⟩ (.slice aI1 S.I.length cI1)).setCell ⟨wd0.heap.size,2,none⟩ (.slice aO1 S.O.length cO1)).setCell ⟨wd0.heap.size,3,none⟩ (.slice none 0 0)) (by omega) (fun i hi _=>by rw [hone _ _ _ i hi.2.2,hone _ _ _ i hi.2.2,hone _ _ _ i hi.2.2,hone _ _ _ i hi.2.2])) (And.intro hsz hH0.size)))));clear KR rV rI rO hone hsz;go_simp;refine hK.out _ _ (fun _=>hH5) ?_;clear hK K
   try simp only [Act.put,sT,sZ,sS]
   generalize ((((wd4).setCell ⟨wd0.heap.size,0,none⟩ (.slice aV1 S.V.length cV1)).setCell ⟨wd0.heap.size,1,none⟩ (.slice aI1 S.I.length cI1)).setCell ⟨wd0.heap.size,2,none⟩ (.slice aO1 S.O.length cO1)).setCell ⟨wd0.heap.size,3,none⟩ (.slice none 0 0)=wd5 at hH5 HFIN ⊢;refine zH (by kernel_rfl) ?_ _;go_wp2_with fail;go_meet
   case rel=>
    obtain ⟨f1,f2,f3,f4,f5,f6⟩:=HFIN.out;refine ⟨wd0.heap.size,_,_,_,_,_,_,rfl,zE ⟨f1,?_,?_,?_,f6⟩,hH5⟩
    ·rw [f5];exact f2
    ·rw [f5];exact f3
    ·rw [f5];exact f4
 case rest=>
  obtain ⟨sb,aV',aI',aO',cV',cI',cO',rfl,HX,bc⟩:=hcut;have BC:=b1.trans (bc.mono b1.size);obtain ⟨hsb,hv',hi',ho',gsb⟩:=HX.out;have HROWS:=zE (And.intro hv' (And.intro hi' ho'));have kb:=(bc.block _ yb).trans hk1;have kZ2:=(bc.block _ (zG kZ)).trans kZ;have sbw:sb<wc.heap.size:=zG hsb;have z1:w.heap.size<w1.heap.size:=zG kZ;have zc:=bc.size;have HSB:=zE hsb;have HS6:=zE (HS.out.under bc);have HT6:=zE (HT.out.under bc);have hbc:b<wc.heap.size:=Nat.lt_of_lt_of_le yb zc;obtain ⟨w6,hw6⟩:=nmQ (wc);subst hw6;clear HX hsb hv' hi' ho' k0 k1 k2 k3 hk1 kZ HS HT yb;go_wp2_with fail;go_loopg [29] tk.length (fun kk v wr=>∃ i,i<=tk.length/\kk=tk.length-i/\v=.int .i64 (i:Nat)/\Hid (IoAt w6 wr sb 0 (.slice aV' S.V.length cV') (.slice aI' S.I.length cI') (.slice aO' S.O.length cO') S tk i))
  case atStart=>exact ⟨0,Nat.zero_le _,rfl,rfl,zE ⟨⟨none,0,HSB.out,OwnL.nil⟩,Aside.refl _⟩⟩
  case round=>
   clear HSB;obtain ⟨i,hi,rfl,rfl,HI⟩:=hrel;have fr:=HI.out.frame;obtain ⟨aX,cX,hsb,own⟩:=HI.out.row;have zr:=fr.size;have BW:Below w1.heap.size w1 wr:=bc.trans ((fr.mono (by omega)).below (by intro k hk;simp at hk;omega));by_cases hlt:i<tk.length
   case neg=>
    have hin:i=tk.length:=(by omega);subst hin;rw [List.take_length] at own;have kZ3:=fr.keep kZ2 (zG kZ2) (by simp;omega);have s0:=coQ kZ3 0;have f0:=foQ kZ3 0;have d0:=coQ hsb 0;have s1:=coQ kZ3 1;have f1:=foQ kZ3 1;have d1:=coQ hsb 1;have s2:=coQ kZ3 2;have f2:=foQ kZ3 2;have d2:=coQ hsb 2;have s3:=coQ kZ3 3;have f3:=foQ kZ3 3;have d3:=coQ hsb 3;simp at s0 s1 s2 s3 d0 d1 d2 d3;have BWW:Below w.heap.size w wr:=b1.trans (BW.mono (by omega));have BE:=((((BWW).setCell (p:=⟨w.heap.size,0,none⟩) zM (.slice aV' S.V.length cV')).setCell (p:=⟨w.heap.size,1,none⟩) zM (.slice aI' S.I.length cI')).setCell (p:=⟨w.heap.size,2,none⟩) zM (.slice aO' S.O.length cO')).setCell (p:=⟨w.heap.size,3,none⟩) zM (.slice aX tk.length cX);have KE:=zJ (zJ (zJ (zJ (kZ3) 0 (.slice aV' S.V.length cV')) 1 (.slice aI' S.I.length cI')) 2 (.slice aO' S.O.length cO')) 3 (.slice aX tk.length cX);have r0:=coQ KE 0;have r1:=coQ KE 1;have r2:=coQ KE 2;have r3:=coQ KE 3;simp at r0 r1 r2 r3;have hone:∀ (X:World) (u:Value) (j i:Nat),w1.heap.size<=i->(X.setCell ⟨w.heap.size,j,none⟩ u).heap[i]?=X.heap[i]?:=fun X u j i hi=>zN _ _ _ (by show w.heap.size≠i;omega);have hsz:(((((wr).setCell ⟨w.heap.size,0,none⟩ (.slice aV' S.V.length cV')).setCell ⟨w.heap.size,1,none⟩ (.slice aI' S.I.length cI')).setCell ⟨w.heap.size,2,none⟩ (.slice aO' S.O.length cO')).setCell ⟨w.heap.size,3,none⟩ (.slice aX tk.length cX)).heap.size=wr.heap.size:=(by simp [World.setCell]);have hall:∀ i,w1.heap.size<=i->(((((wr).setCell ⟨w.heap.size,0,none⟩ (.slice aV' S.V.length cV')).setCell ⟨w.heap.size,1,none⟩ (.slice aI' S.I.length cI')).setCell ⟨w.heap.size,2,none⟩ (.slice aO' S.O.length cO')).setCell ⟨w.heap.size,3,none⟩ (.slice aX tk.length cX)).heap[i]?=wr.heap[i]?:=fun i hi=>by rw [hone _ _ _ i hi,hone _ _ _ i hi,hone _ _ _ i hi,hone _ _ _ i hi]
    have hv6:=HROWS.out.1.keep zr (fun i hi hl=>fr.block i hl (by simp;exact hi.2.2));have hi6:=HROWS.out.2.1.keep zr (fun i hi hl=>fr.block i hl (by simp;exact hi.2.2));have ho6:=HROWS.out.2.2.keep zr (fun i hi hl=>fr.block i hl (by simp;exact hi.2.2));have HEND:=zE (show HSys (fun i=>w.heap.size<=i) (((((wr).setCell ⟨w.heap.size,0,none⟩ (.slice aV' S.V.length cV')).setCell ⟨w.heap.size,1,none⟩ (.slice aI' S.I.length cI')).setCell ⟨w.heap.size,2,none⟩ (.slice aO' S.O.length cO')).setCell ⟨w.heap.size,3,none⟩ (.slice aX tk.length cX)) aV' aI' aO' aX cV' cI' cO' cX { S with R:=tk.map fun j=>S.R.getD j Sk.noRu } from ⟨(hv6.keep (by omega) (fun i hi _=>hall i hi.1)).wide (fun i hi _=>by omega),(hi6.keep (by omega) (fun i hi _=>hall i hi.1)).wide (fun i hi _=>by omega),(ho6.keep (by omega) (fun i hi _=>hall i hi.1)).wide (fun i hi _=>by omega),by
     have hR:=zAL own.row;have:=(hR.keep (w':=((((wr).setCell ⟨w.heap.size,0,none⟩ (.slice aV' S.V.length cV')).setCell ⟨w.heap.size,1,none⟩ (.slice aI' S.I.length cI')).setCell ⟨w.heap.size,2,none⟩ (.slice aO' S.O.length cO')).setCell ⟨w.heap.size,3,none⟩ (.slice aX tk.length cX)) (by omega) (fun i hi _=>hall i (by have h1:w6.heap.size<=i:=hi;omega))).wide (ok':=fun i=>w.heap.size<=i) (fun i hi _=>by have h1:w6.heap.size<=i:=hi;omega)
     show HRus _ _ (.slice aX ((tk.map fun j=>S.R.getD j Sk.noRu)).length cX) _
     rw [List.length_map];exact this⟩)
    clear KE hone hall hv6 hi6 ho6 own hsz;go_wp2;exact bodyPost_ret (v:=.agg #[.slice aV' S.V.length cV',.slice aI' S.I.length cI',.slice aO' S.O.length cO',.slice aX tk.length cX]) (by simp [results,Tryz.results34,go_sem,r0,r1,r2,r3]) rfl ⟨_,_,_,_,_,_,_,_,rfl,HEND.out,BE⟩
   case pos=>
    have hil:i<(nI tk).length:=(by rw [xK];exact hlt);obtain ⟨aoT,capT,evT,-,-,hatT⟩:=((HT6.out.keep zr (fun k hk hl=>fr.block k hl (by simp;intro e;have h1:k<w.heap.size:=hk;omega)))).at;injection evT with e1 e2 e3;obtain ⟨bT,oT,hbT,yT,cTi⟩:=hatT i hil;rw [hbT] at e1;subst e1;obtain ⟨j,hj⟩:=nmQ (tk[i]);rw [jM,<-hj] at cTi;have hjR:=HTK.out j (by rw [hj];exact List.getElem_mem hlt);have hRk:=HS6.out.R.keep zr (fun k hk hl=>fr.block k hl (by simp;intro e;have h1:k<w.heap.size:=hk;omega));obtain ⟨bR2,oR2,h2a,-,h2b,-⟩:=hRk.out hjR;obtain ⟨aoR,capR,evR,hcR1,hcR2,hatR⟩:=hRk.at;injection evR with f1 f2 f3;obtain ⟨bR,oR,y,hbR,yR,hat,hru⟩:=hatR j hjR;rw [hbR] at f1;rw [f1] at h2a;injection h2a with h2a;injection h2a with h2c h2d;have yRw:bR<w6.heap.size:=(by have h1:bR2<w.heap.size:=h2b;omega);subst f1;clear h2b h2c h2d hRk;rw [<-f3] at hcR1 hcR2;unfold maxLen at hcR2;obtain ⟨r,hr⟩:=nmQ (S.R[j]);have hfr:=HF.out r (by rw [hr];exact List.getElem_mem hjR);have HTN:=zE (show (tk.take (i+1)).map (fun j=>S.R.getD j Sk.noRu)=(tk.take i).map (fun j=>S.R.getD j Sk.noRu)++[r] by
     rw [List.take_succ_eq_append_getElem hlt,List.map_append,List.map_cons,List.map_nil,<-hj,hr];simp [List.getD_eq_getElem?_getD,hjR])
    rw [<-hr] at hat hru;obtain ⟨d0,d1,d2,d3,d4,d5⟩:=hat;have hlM:((tk.take i).map fun j=>S.R.getD j Sk.noRu).length=i:=(by rw [List.length_map,List.length_take];omega);have kbr:=fr.keep kb hbc (by simp;omega);have k3:=coQ kbr 3;have x3:=coQ hsb 3;simp at k3 x3;have yB:=zG kbr;have ySB:=zG hsb;have hown:∀ k,(Value.slice aX i cX).ownBlock=some k->w6.heap.size<=k/\k<wr.heap.size:=own.lt;have nsB:b ∉ (Value.slice aX i cX).ownBlock.toList:=(by intro hm;have:=(hown b (by simpa using hm)).1;omega);have nsS:sb ∉ (Value.slice aX i cX).ownBlock.toList:=(by intro hm;have:=(hown sb (by simpa using hm)).1;omega);have nsR:bR ∉ (Value.slice aX i cX).ownBlock.toList:=(by intro hm;have:=(hown bR (by simpa using hm)).1;omega);have HOW:=zE own;have HRU:=zE hru;have HFR:=zE hfr;have HLM:=zE hlM;have HON:=zE hown;have q5:(((tk.take i).map fun j=>S.R.getD j Sk.noRu).length+1)*80<=140737488355328:=(by rw [hlM];omega);have q6:((tk.take i).map fun j=>S.R.getD j Sk.noRu).length+1<=maxLen:=(by rw [hlM];unfold maxLen;omega);clear hatT hatR e2 e3 f2 f3 hbT hbR hr hj own hru hfr hlM hown HI;go_upto_region 5 with fail;refine zK (fun w'=>Aside (Value.slice aX i cX).ownBlock.toList wr.heap.size wr w') (fun i=>i==14) (by kernel_rfl) ?_;have hH0:Aside (Value.slice aX i cX).ownBlock.toList wr.heap.size wr wr.drew:=(Aside.refl _).drew;have bz:Below wr.heap.size wr wr.drew:=(Below.refl _ _).drew;generalize wr.drew=wd0 at hH0 bz ⊢;refine' tkR 0 33 hH0 ?o20
    refine' tkQ 1 34 hH0 ?hyv ?o21
    case hyv=>
     intro wz hSw;have zc0:=(zL hSw (p:=⟨sb,3,none⟩) ySB nsS).trans x3;have zc1:=(zL hSw (p:=⟨b,3,none⟩) yB nsB).trans k3;have zc2:=(zL hSw (p:=⟨bR,oR+j*6,none⟩) yR nsR).trans d0;have zc3:=(zL hSw (p:=⟨bR,oR+j*6+1,none⟩) yR nsR).trans d1;have zc4:=(zL hSw (p:=⟨bR,oR+j*6+2,none⟩) yR nsR).trans d2;have zc5:=(zL hSw (p:=⟨bR,oR+j*6+3,none⟩) yR nsR).trans d3;have zc6:=(zL hSw (p:=⟨bR,oR+j*6+4,none⟩) yR nsR).trans d4;have zc7:=(zL hSw (p:=⟨bR,oR+j*6+5,none⟩) yR nsR).trans d5;go_simp
     try rfl
    try simp only [Act.put,sT,sZ,sS]
    refine' tkR 2 35 hH0 ?o22
    refine' tkR 3 36 hH0 ?o23
    refine' tkR 4 37 hH0 ?o24
    refine' tkR 5 38 hH0 ?o25
    refine' tkQ 6 39 hH0 ?hyv ?o26
    case hyv=>
     intro wz hSw;have zc0:=(zL hSw (p:=⟨sb,3,none⟩) ySB nsS).trans x3;have zc1:=(zL hSw (p:=⟨b,3,none⟩) yB nsB).trans k3;have zc2:=(zL hSw (p:=⟨bR,oR+j*6,none⟩) yR nsR).trans d0;have zc3:=(zL hSw (p:=⟨bR,oR+j*6+1,none⟩) yR nsR).trans d1;have zc4:=(zL hSw (p:=⟨bR,oR+j*6+2,none⟩) yR nsR).trans d2;have zc5:=(zL hSw (p:=⟨bR,oR+j*6+3,none⟩) yR nsR).trans d3;have zc6:=(zL hSw (p:=⟨bR,oR+j*6+4,none⟩) yR nsR).trans d4;have zc7:=(zL hSw (p:=⟨bR,oR+j*6+5,none⟩) yR nsR).trans d5;go_simp
     try rfl
    try simp only [Act.put,sT,sZ,sS]
    refine' tkR 7 40 hH0 ?o27
    refine' tkR 8 41 hH0 ?o28
    refine' tkQ 9 42 hH0 ?hyv ?o29
    case hyv=>
     intro wz hSw;have zc0:=(zL hSw (p:=⟨sb,3,none⟩) ySB nsS).trans x3;have zc1:=(zL hSw (p:=⟨b,3,none⟩) yB nsB).trans k3;have zc2:=(zL hSw (p:=⟨bR,oR+j*6,none⟩) yR nsR).trans d0;have zc3:=(zL hSw (p:=⟨bR,oR+j*6+1,none⟩) yR nsR).trans d1;have zc4:=(zL hSw (p:=⟨bR,oR+j*6+2,none⟩) yR nsR).trans d2;have zc5:=(zL hSw (p:=⟨bR,oR+j*6+3,none⟩) yR nsR).trans d3;have zc6:=(zL hSw (p:=⟨bR,oR+j*6+4,none⟩) yR nsR).trans d4;have zc7:=(zL hSw (p:=⟨bR,oR+j*6+5,none⟩) yR nsR).trans d5;go_simp
     try rfl
    try simp only [Act.put,sT,sZ,sS]
    refine tnQ 10 (fun K hK=>?_);go_simp;refine (own54_any (HRU.out.under bz) HFR.out.1 HFR.out.2).mono ?_;rintro eq wd1 ⟨z,rfl,hz,bq⟩;have hH1:Aside (Value.slice aX i cX).ownBlock.toList wr.heap.size wr wd1:=hH0.trans (aside bq) hH0.size;have HZ:=zE hz;have bq2:=bz.trans (bq.mono bz.size);clear hz;refine hK.out _ _ (fun _=>hH1) ?_;clear hK K
    try simp only [Act.put,sT,sZ,sS]
    refine tnQ 11 (fun K hK=>?_);go_simp;have hH2:Aside (Value.slice aX i cX).ownBlock.toList wr.heap.size wr (wd1.alloc (.cells #[.int .i64 r.op,.int .i64 r.k,.int .i64 r.out,.int .i64 r.n,.slice z.aA z.nA z.cA,.slice z.aE z.nE z.cE] 40 (0,0))):=hH1.alloc hH1.size _;refine hK.out _ _ (fun _=>hH2) ?_;clear hK K
    try simp only [Act.put,sT,sZ,sS]
    refine tnQ 12 (fun K hK=>?_);refine vH kRu _ _ 24 40 rfl Tryz.underlying24 wd0.heap.size _ (.slice aX i cX) ((tk.take i).map fun j=>S.R.getD j Sk.noRu) (by rfl) ((zAJ HOW.out).under bq2) [.int .i64 r.op,.int .i64 r.k,.int .i64 r.out,.int .i64 r.n,.slice z.aA z.nA z.cA,.slice z.aE z.nE z.cE] r ⟨z,rfl,HZ.out⟩ (by rfl) (fun j hj=>by have h1:=hj.2;have h2:=bz.size;omega) bq.size q5 q6 ?_;intro v8 wd3 own8 hg8;have ha8:=xW hg8;have hH3:Aside (Value.slice aX i cX).ownBlock.toList wr.heap.size wr wd3:=hH1.trans ha8 hH1.size;obtain ⟨a8,c8,e8,-,-⟩:=own8.form;rw [List.length_append,HLM.out,List.length_singleton] at e8;subst e8;rw [<-HTN.out] at own8;have own9:OwnL kRu w6.heap.size wd3 (.slice a8 (i+1) c8) ((tk.take (i+1)).map fun j=>S.R.getD j Sk.noRu):=zAK own8 (fun k hk=>by
     rcases hk with hk | hk
     ·exact hk.1
     ·have:=bz.size;omega)
    have HO9:=zE own9;clear own8 own9;refine hK.out _ _ (fun _=>hH3) ?_;clear hK K
    try simp only [Act.put,sT,sZ,sS]
    refine' tkR 13 46 hH3 ?o30
    refine tnQ 14 (fun K hK=>?_);have ks8:=hH3.keep hsb ySB nsS;have st3:=coQ ks8 3;have ff3:=foQ ks8 3;simp at st3;have KS:=zJ ks8 3 (.slice a8 (i+1) c8);simp at KS;have f8:Aside [sb] w6.heap.size w6 (wd3.setCell ⟨sb,3,none⟩ (.slice a8 (i+1) c8)):=(fr.trans (((hH3.mono zr).wide (S':=[sb]) (fun k hk hn hm=>by have:=(HON.out k (by simpa using hm)).1;omega))) zM).trans (Aside.setCell (B:=w6.heap.size) (p:=⟨sb,3,none⟩) (by simp) _) zM;have HNEW:=zE (show IoAt w6 (wd3.setCell ⟨sb,3,none⟩ (.slice a8 (i+1) c8)) sb 0 (.slice aV' S.V.length cV') (.slice aI' S.I.length cI') (.slice aO' S.O.length cO') S tk (i+1) from ⟨⟨a8,c8,KS,HO9.out.set (p:=⟨sb,3,none⟩) sbw _⟩,f8⟩);clear ks8 KS f8;go_simp;refine hK.out _ _ (fun h=>absurd h (by decide)) ?_;clear hK K
    try simp only [Act.put,sT,sZ,sS]
    generalize wd3.setCell ⟨sb,3,none⟩ (.slice a8 (i+1) c8)=wd4 at HNEW ⊢;refine zH (by kernel_rfl) ?_ _;go_wp2_with fail;go_roundg (tk.length-(i+1))
    case measure=>omega
    case rel=>exact ⟨i+1,by omega,rfl,by go_num,HNEW⟩
end Go.Proofs.YtegakbobaecdlaaGreatDoor
