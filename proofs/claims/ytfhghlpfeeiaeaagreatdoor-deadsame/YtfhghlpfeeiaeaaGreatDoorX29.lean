import Derived.Test.YtfhghlpfeeiaeaaGreatDoorX28
set_option linter.unusedVariables false
set_option linter.unusedSimpArgs false
set_option maxHeartbeats 64000000
set_option maxRecDepth 100000
namespace Go.Proofs.YtfhghlpfeeiaeaaGreatDoor
open Go.RowKit Go.IntWalk
theorem zAi (A:List Int) (E:List Pu):foldI (usesL A E)=usesT A E:=foldI_eq _
theorem zCg {ok:Nat->Prop} {w:World} {op k out n:Int} {aA aE:Option Addr} {nA cA nE cE:Nat} {A:List Int} {E:List Pu} (hA:HInts ok w (.slice aA nA cA) A) (hE:HPu ok w (.slice aE nE cE) E) (dm:A.length<=1000000) (fo:E.length<=1000000) :
  Calls Tryz.prog 34 #[.agg #[.int .i64 op,.int .i64 k,.int .i64 out,.int .i64 n,.slice aA nA cA,.slice aE nE cE]] w fun e w'=>∃ v,e=.returned v/\HInts (fun i=>w.heap.size<=i) w' v (usesT A (Sk.ownE op E))/\Below w.heap.size w w':=by
 have b1:Below w.heap.size w (w.alloc (.cells #[.int .i64 op,.int .i64 k,.int .i64 out,.int .i64 n,.slice aA nA cA,.slice aE nE cE] 42 (0,0))):=(Below.refl _ _).alloc zBR _;have kA:=zBO w (.cells #[.int .i64 op,.int .i64 k,.int .i64 out,.int .i64 n,.slice aA nA cA,.slice aE nE cE] 42 (0,0));have HA:=zBK ((hA.wide (ok':=fun i=>i<w.heap.size) fun i _ h=>h).under b1);have HE:=zBK ((hE.wide (ok':=fun i=>i<w.heap.size) fun i _ h=>h).under b1);by_cases mX:op<14
 case pos=>
  have e2:Sk.ownE op E=[]:=(by unfold Sk.ownE;rw [if_pos mX]);rw [e2];have HH:=zBK dm;clear hA hE e2 dm fo HE;go_enter Tryz.func34,Tryz.ntmps34;go_upto_region 1 with fail;generalize w.alloc (.cells #[.int .i64 op,.int .i64 k,.int .i64 out,.int .i64 n,.slice aA nA cA,.slice aE nE cE] 42 (0,0))=w1 at b1 kA HA ⊢;have d0:=coQ kA 0;have d1:=coQ kA 1;have d2:=coQ kA 2;have d3:=coQ kA 3;have d4:=coQ kA 4;have d5:=coQ kA 5;simp at d0 d1 d2 d3 d4 d5;have f5:=foQ kA 5;have KR:=zBQ kA 5 (.slice none 0 0);simp at KR;have B2:=b1.setCell (p:=⟨w.heap.size,5,none⟩) zBR (.slice none 0 0);have kI:(w1.setCell ⟨w.heap.size,5,none⟩ (.slice none 0 0)).heap.size=w1.heap.size:=(by simp [World.setCell]);have hJ:=zBK (HA.out.keep (w':=w1.setCell ⟨w.heap.size,5,none⟩ (.slice none 0 0)) (by omega) (fun i hi _=>zBU _ _ _ (by show w.heap.size≠i;have h1:i<w.heap.size:=hi;omega)));go_upto_region 3 with fail;generalize w1.setCell ⟨w.heap.size,5,none⟩ (.slice none 0 0)=w2 at KR B2 hJ kI ⊢;clear d0 d1 d2 d3 d4 d5 f5;have g0:=coQ KR 0;have g1:=coQ KR 1;have g2:=coQ KR 2;have g3:=coQ KR 3;have g4:=coQ KR 4;have g5:=coQ KR 5;simp at g0 g1 g2 g3 g4 g5;go_wp2_with fail;refine (zAK (ok:=fun i=>i<w.heap.size) op k out n hJ.out HPu.hnil HH.out (Nat.zero_le _)).mono ?_;rintro e w3 ⟨v,rfl,k6,b3⟩;rw [zAi] at k6;have HO:=zBK ((zBj k6.row).wide (ok':=fun i=>w.heap.size<=i) fun i hi _=>Nat.le_trans B2.size hi);obtain ⟨a3,c3,rfl,-,-⟩:=k6.form;clear k6;go_wp2;go_ret;exact ⟨_,rfl,HO.out,B2.trans (b3.mono B2.size)⟩
 case neg=>
  have e2:Sk.ownE op E=E:=(by unfold Sk.ownE;rw [if_neg mX]);rw [e2];have HH:=zBK (And.intro dm fo);clear hA hE e2 dm fo;go_enter Tryz.func34,Tryz.ntmps34;go_upto_region 1 with fail;generalize w.alloc (.cells #[.int .i64 op,.int .i64 k,.int .i64 out,.int .i64 n,.slice aA nA cA,.slice aE nE cE] 42 (0,0))=w1 at b1 kA HA HE ⊢;have d0:=coQ kA 0;have d1:=coQ kA 1;have d2:=coQ kA 2;have d3:=coQ kA 3;have d4:=coQ kA 4;have d5:=coQ kA 5;simp at d0 d1 d2 d3 d4 d5;go_wp2_with fail;refine (zAK (ok:=fun i=>i<w.heap.size) op k out n HA.out HE.out HH.out.1 HH.out.2).mono ?_;rintro e w3 ⟨v,rfl,k6,b3⟩;rw [zAi] at k6;have HO:=zBK ((zBj k6.row).wide (ok':=fun i=>w.heap.size<=i) fun i hi _=>Nat.le_trans b1.size hi);obtain ⟨a3,c3,rfl,-,-⟩:=k6.form;clear k6;go_wp2;go_ret;exact ⟨_,rfl,HO.out,b1.trans (b3.mono b1.size)⟩
theorem refNeeds_any {ok:Nat->Prop} {w:World} {r:Sk.Ru} {y:RuV} (hR:HRu ok w y r) (dm:r.A.length<=1000000) (fo:r.E.length<=1000000) :
  Calls Tryz.prog 64 #[.agg #[.int .i64 r.op,.int .i64 r.k,.int .i64 r.out,.int .i64 r.n,.slice y.aA y.nA y.cA,.slice y.aE y.nE y.cE]] w fun e w'=>∃ v,e=.returned v/\HInts (fun i=>w.heap.size<=i) w' v (Sk.needs r)/\Below w.heap.size w w':=by
 obtain ⟨op,k,out,n,A,E⟩:=r;obtain ⟨aA,nA,cA,aE,nE,cE⟩:=y;have hA:=hR.A;have hE:=hR.E
 dsimp only at hA hE dm fo ⊢
 obtain ⟨ao,cap,ev,bH,cG,bo⟩:=hA.at;injection ev with e1 e2 e3;subst e1 e2 e3;unfold maxLen at cG;have b1:Below w.heap.size w (w.alloc (.cells #[.int .i64 op,.int .i64 k,.int .i64 out,.int .i64 n,.slice aA A.length cA,.slice aE nE cE] 42 (0,0))):=(Below.refl _ _).alloc zBR _;have kA:=zBO w (.cells #[.int .i64 op,.int .i64 k,.int .i64 out,.int .i64 n,.slice aA A.length cA,.slice aE nE cE] 42 (0,0));unfold Sk.needs
 dsimp only
 by_cases hp:op=13/\A.length=2
 case pos=>
  rw [if_pos hp];obtain ⟨rfl,jz⟩:=hp;obtain ⟨bA,oA,rfl,hb,c0⟩:=bo 0 (by omega);have C0:=(b1.cell (p:=⟨bA,oA+0,none⟩) hb).trans c0;have e0:A[0]'(by omega)=A.getD 0 0:=(by simp [List.getD_eq_getElem?_getD,show 0<A.length by omega]);rw [e0,Nat.add_zero] at C0;generalize A.getD 0 0=a0 at C0 ⊢;rw [jz] at bH b1 kA C0 ⊢;clear hR hA hE bo jz e0 c0 dm;go_enter Tryz.func64,Tryz.ntmps64;go_upto_region 1 with fail;generalize w.alloc (.cells #[.int .i64 13,.int .i64 k,.int .i64 out,.int .i64 n,.slice (some ⟨bA,oA,none⟩) 2 cA,.slice aE nE cE] 42 (0,0))=w1 at b1 kA C0 ⊢;have d0:=coQ kA 0;have d4:=coQ kA 4;simp at d0 d4;have HI:=zBK (show HInts (fun i=>w.heap.size<=i) (w1.alloc (.cells #[.int .i64 a0] 3 (0,0))) (.slice (some ⟨w1.heap.size,0,none⟩) 1 1) [a0] from zBj ((OwnL.lit (T:=kInt) (B:=w.heap.size) (w:=w1) (cs:=[.int .i64 a0]) (x:=a0) b1.size rfl).row));have HB:=zBK (b1.alloc b1.size (.cells #[.int .i64 a0] 3 (0,0)));clear kA;go_wp2;go_ret;exact ⟨_,rfl,HI.out,HB.out⟩
 case neg=>
  rw [if_neg hp];unfold Sk.uses
  dsimp only
  have p7:((op==13)&&((A.length:Int)==2))=false:=by
   cases h1:(op==13)
   ·rfl
   ·cases h2:((A.length:Int)==2)
    ·rfl
    ·exact absurd ⟨by simpa using h1,by have:=(beq_iff_eq.1 h2);omega⟩ hp
  have HU:=zBK (zCg (op:=op) (k:=k) (out:=out) (n:=n) (hA.under b1) (hE.under b1) dm fo);generalize usesT A (Sk.ownE op E)=l at HU ⊢;clear hR hA hE bo hp;by_cases jJ:op=13
  case pos=>
   subst jJ;have la:((A.length:Int)==2)=false:=(by simpa using p7);clear p7;go_enter Tryz.func64,Tryz.ntmps64;go_upto_region 1 with fail;generalize w.alloc (.cells #[.int .i64 13,.int .i64 k,.int .i64 out,.int .i64 n,.slice aA A.length cA,.slice aE nE cE] 42 (0,0))=w1 at b1 kA HU ⊢;have d0:=coQ kA 0;have d1:=coQ kA 1;have d2:=coQ kA 2;have d3:=coQ kA 3;have d4:=coQ kA 4;have d5:=coQ kA 5;simp at d0 d1 d2 d3 d4 d5;go_wp2_with fail;refine HU.out.mono ?_;rintro e w3 ⟨v,rfl,hv,b3⟩;have HO:=zBK (hv.wide (ok':=fun i=>w.heap.size<=i) fun i hi _=>Nat.le_trans b1.size hi);obtain ⟨a3,c3,rfl,-,-,-⟩:=hv.at;clear hv;go_wp2;go_ret;exact ⟨_,rfl,HO.out,b1.trans (b3.mono b1.size)⟩
  case neg=>
   have On:(op==13)=false:=(by simpa using jJ);clear jJ p7;go_enter Tryz.func64,Tryz.ntmps64;go_upto_region 1 with fail;generalize w.alloc (.cells #[.int .i64 op,.int .i64 k,.int .i64 out,.int .i64 n,.slice aA A.length cA,.slice aE nE cE] 42 (0,0))=w1 at b1 kA HU ⊢;have d0:=coQ kA 0;have d1:=coQ kA 1;have d2:=coQ kA 2;have d3:=coQ kA 3;have d4:=coQ kA 4;have d5:=coQ kA 5;simp at d0 d1 d2 d3 d4 d5;go_wp2_with fail;refine HU.out.mono ?_;rintro e w3 ⟨v,rfl,hv,b3⟩;have HO:=zBK (hv.wide (ok':=fun i=>w.heap.size<=i) fun i hi _=>Nat.le_trans b1.size hi);obtain ⟨a3,c3,rfl,-,-,-⟩:=hv.at;clear hv;go_wp2;go_ret;exact ⟨_,rfl,HO.out,b1.trans (b3.mono b1.size)⟩
theorem zCH (v:Sk.Vr) (w:World):Calls Tryz.prog 11 #[.int .i64 v.n] w fun e w'=>e=.returned (.int .i64 (Sk.cnt v:Nat))/\w=w':=by
 have e:(Sk.cnt v:Int)=if v.n<1 then 1 else v.n:=by
  unfold Sk.cnt
  split<;>omega
 rw [e];by_cases h:v.n<1
 ·rw [if_pos h]
  generalize v.n=n at h;go_enter Tryz.func11,Tryz.ntmps11;go_wp2;go_ret;exact ⟨rfl,rfl⟩
 ·rw [if_neg h]
  generalize v.n=n at h;go_enter Tryz.func11,Tryz.ntmps11;go_wp2;go_ret;exact ⟨rfl,rfl⟩
end Go.Proofs.YtfhghlpfeeiaeaaGreatDoor
namespace Go.Proofs.YtfhghlpfeeiaeaaGreatDoor
open Go.RowKit Go.IntWalk
namespace Sk
def there (S:Sys) (tk:List Nat) (z:Int):Bool:=S.I.any (fun x=>x==z) || tk.any (fun j=>(S.R.getD j noRu).out==z)
def canT (S:Sys) (tk:List Nat) (r:Ru):Bool:=(needs r).all (there S tk)
end Sk
theorem can36_any {ok mH lN:Nat->Prop} {w:World} {aV aI aO aR:Option Addr} {cV cI cO cR:Nat} {S:Sk.Sys} {r:Sk.Ru} {y:RuV} {vT:Value} {tk:List Nat} (hS:HSys ok w aV aI aO aR cV cI cO cR S) (hR:HRu mH w y r) (hT:HInts lN w vT (nI tk)) (LR:∀ j ∈ tk,j<S.R.length) (dm:r.A.length<=1000000) (fo:r.E.length<=1000000) :
  Calls Tryz.prog 36 #[.agg #[.slice aV S.V.length cV,.slice aI S.I.length cI,.slice aO S.O.length cO,.slice aR S.R.length cR],.agg #[.int .i64 r.op,.int .i64 r.k,.int .i64 r.out,.int .i64 r.n,.slice y.aA y.nA y.cA,.slice y.aE y.nE y.cE],vT] w fun e w'=>e=.returned (.bool (Sk.canT S tk r))/\Below w.heap.size w w':=by
 have b1:Below w.heap.size w ((w.alloc (.cells #[.slice aV S.V.length cV,.slice aI S.I.length cI,.slice aO S.O.length cO,.slice aR S.R.length cR] 26 (0,0))).alloc (.cells #[.int .i64 r.op,.int .i64 r.k,.int .i64 r.out,.int .i64 r.n,.slice y.aA y.nA y.cA,.slice y.aE y.nE y.cE] 42 (0,0))):=((Below.refl _ _).alloc zBR _).alloc (by simp) _;have kS:((w.alloc (.cells #[.slice aV S.V.length cV,.slice aI S.I.length cI,.slice aO S.O.length cO,.slice aR S.R.length cR] 26 (0,0))).alloc (.cells #[.int .i64 r.op,.int .i64 r.k,.int .i64 r.out,.int .i64 r.n,.slice y.aA y.nA y.cA,.slice y.aE y.nE y.cE] 42 (0,0))).heap[w.heap.size]?=some (.cells #[.slice aV S.V.length cV,.slice aI S.I.length cI,.slice aO S.O.length cO,.slice aR S.R.length cR] 26 (0,0)):=(Below.heap_alloc _ _ _ (by simp)).trans (zBO w _);have kR:((w.alloc (.cells #[.slice aV S.V.length cV,.slice aI S.I.length cI,.slice aO S.O.length cO,.slice aR S.R.length cR] 26 (0,0))).alloc (.cells #[.int .i64 r.op,.int .i64 r.k,.int .i64 r.out,.int .i64 r.n,.slice y.aA y.nA y.cA,.slice y.aE y.nE y.cE] 42 (0,0))).heap[w.heap.size+1]?=some (.cells #[.int .i64 r.op,.int .i64 r.k,.int .i64 r.out,.int .i64 r.n,.slice y.aA y.nA y.cA,.slice y.aE y.nE y.cE] 42 (0,0)):=by
  have:=zBO (w.alloc (.cells #[.slice aV S.V.length cV,.slice aI S.I.length cI,.slice aO S.O.length cO,.slice aR S.R.length cR] 26 (0,0))) (.cells #[.int .i64 r.op,.int .i64 r.k,.int .i64 r.out,.int .i64 r.n,.slice y.aA y.nA y.cA,.slice y.aE y.nE y.cE] 42 (0,0))
  simpa using this
 have jZ:=refNeeds_any (hR.under b1) dm fo;have HS:=zBK hS;have HT:=zBK hT;have pC:=zBK LR;obtain ⟨aT,cT,rfl,wQ,wR,-⟩:=hT.at;rw [zBn] at wQ;unfold maxLen at wR;obtain ⟨Q,hQ⟩:=nmQ (Sk.canT S tk r);rw [<-hQ];unfold Sk.canT at hQ;generalize Sk.needs r=l at jZ hQ;have HQ:=zBK (show Q=(l.drop 0).all (Sk.there S tk) by rw [List.drop_zero];exact hQ);clear hS hR hT LR hQ;rw [zBn] at HT ⊢;go_enter Tryz.func36,Tryz.ntmps36;go_upto_region 1 with fail;generalize (w.alloc (.cells #[.slice aV S.V.length cV,.slice aI S.I.length cI,.slice aO S.O.length cO,.slice aR S.R.length cR] 26 (0,0))).alloc (.cells #[.int .i64 r.op,.int .i64 r.k,.int .i64 r.out,.int .i64 r.n,.slice y.aA y.nA y.cA,.slice y.aE y.nE y.cE] 42 (0,0))=w1 at b1 kS kR jZ ⊢;have v0:=coQ kR 0;have v1:=coQ kR 1;have v2:=coQ kR 2;have v3:=coQ kR 3;have v4:=coQ kR 4;have v5:=coQ kR 5;simp at v0 v1 v2 v3 v4 v5;go_wp2_with fail;refine jZ.mono ?_;rintro e w2 ⟨vl,rfl,hl,b2⟩;have B2:=b1.trans (b2.mono b1.size);have gu:=(b2.block _ (zBM kS)).trans kS;clear v0 v1 v2 v3 v4 v5 jZ kR kS b1 b2;obtain ⟨aL,cL,rfl,Gz,GA,-⟩:=hl.at;unfold maxLen at GA;have HL:=zBK hl;obtain ⟨n,hn⟩:=nmQ (l.length);rw [<-hn] at Gz ⊢;have HN:=zBK hn;clear hl hn;go_wp2_with fail;go_loopg [8] n (fun gh v wr=>∃ i,i<=n/\gh=n-i/\v=.int .i64 (i:Nat)/\Hid (Q=(l.drop i).all (Sk.there S tk))/\Below w2.heap.size w2 wr)
 case atStart=>exact ⟨0,Nat.zero_le _,rfl,rfl,HQ,Below.refl _ _⟩
 case round=>
  clear HQ;obtain ⟨i,hi,rfl,rfl,H,aH⟩:=hrel;obtain ⟨wq,nX⟩:=nmQ (wr);subst nX;have BR:=B2.trans (aH.mono B2.size);by_cases bd:i<n
  case neg=>
   have bp:i=n:=(by omega);subst bp;have HZ:=zBK (show Q=true by rw [H.out,List.drop_of_length_le (by have:=HN.out;omega)];rfl);go_wp2;exact bodyPost_ret (v:=.bool true) (by simp [results,Tryz.results36,go_sem]) rfl ⟨by rw [HZ.out],BR⟩
  case pos=>
   have dj:i<l.length:=(by have:=HN.out;omega);have hdr:l.drop i=l[i] :: l.drop (i+1):=List.drop_eq_getElem_cons dj;have bY:=H.out;rw [hdr,List.all_cons] at bY;obtain ⟨a',c',eqs,_,_,bo⟩:=(HL.out.under aH).at;injection eqs with q1 q2 q3;obtain ⟨bL,oL,sq,yL,hx⟩:=bo i dj;rw [sq] at q1;subst q1;obtain ⟨x,rz⟩:=nmQ (l[i]);rw [<-rz] at hx bY;have ep:=(aH.block _ (zBM gu)).trans gu;have s1:=coQ ep 1;simp at s1;have yS:=zBM ep;obtain ⟨b0,cz⟩:=nmQ (S.I.any (fun z=>z==x));have jF:=zBK (show ∀ V,Below w.heap.size w V->Calls Tryz.prog 20 #[.slice aI S.I.length cI,.int .i64 x] V (fun e w'=>e=.returned (.bool b0)/\Below V.heap.size V w') from fun V hV=>by rw [cz];exact zBr x ((HS.out.under hV).I));obtain ⟨D,hD⟩:=nmQ (Sk.there S tk x);rw [<-hD] at bY;have cq:=zBK bY;have HD:=zBK (show D=(b0 || (tk.drop 0).any (fun j=>(S.R.getD j Sk.noRu).out==x)) by rw [List.drop_zero,cz];exact hD);clear bo q2 q3 sq rz hdr bY H cz hD;go_upto_region 5 with fail;have aM:=zBK (fun (wz:World) (hSw:Below wq.heap.size wq wz)=>And.intro ((hSw.cell (p:=⟨w.heap.size,1,none⟩) yS).trans s1) ((hSw.cell (p:=⟨bL,oL+i,none⟩) yL).trans hx));refine zBP (fun w'=>Below wq.heap.size wq w') (fun _=>false) (by kernel_rfl) ?_;have ab:Below wq.heap.size wq wq.drew:=(Below.refl _ _).drew;generalize wq.drew=ag at ab ⊢;refine' tkR 0 19 ab ?o1
   refine' tkQ 1 20 ab ?hyv ?o2
   case hyv=>
    intro wz hSw;have bk:=aM.out wz hSw;go_simp
    try rfl
   try simp only [Act.put,sT,sZ,sS]
   refine' tkR 2 21 ab ?o3
   refine' tkR 3 22 ab ?o4
   refine' tkR 4 23 ab ?o5
   refine' tkQ 5 24 ab ?hyv ?o6
   case hyv=>
    intro wz hSw;have bk:=aM.out wz hSw;go_simp
    try rfl
   try simp only [Act.put,sT,sZ,sS]
   refine tnQ 6 (fun K hK=>?_);go_simp;refine (jF.out _ (BR.trans (ab.mono BR.size))).mono ?_;rintro eq aw ⟨rfl,cY⟩;have af:Below wq.heap.size wq aw:=ab.trans (cY.mono ab.size);refine hK.out _ _ (fun _=>af) ?_;clear hK K
   try simp only [Act.put,sT,sZ,sS]
   refine' tkR 7 9 af ?o7
   refine zBN (by kernel_rfl) ?_ _;go_wp2_with fail;go_loopg [9,10] tk.length (fun gh v9 v10 wr=>∃ (k:Nat) (bb:Bool),k<=tk.length/\gh=tk.length-k/\v9=.bool bb/\v10=.int .i64 (k:Int)/\Hid (D=(bb || (tk.drop k).any (fun j=>(S.R.getD j Sk.noRu).out==x)))/\Below wq.heap.size wq wr)
   case atStart=>exact ⟨0,b0,Nat.zero_le _,rfl,rfl,rfl,HD,af⟩
   case round=>
    clear HD;obtain ⟨k,bb,hk,rfl,rfl,rfl,HD,p4⟩:=hrel;have BS:=BR.trans (p4.mono BR.size);by_cases xe:k<tk.length
    case neg=>
     have nK:k=tk.length:=(by omega);subst nK;have HZ:=zBK (show D=bb by rw [HD.out,List.drop_length];simp)
     cases bb
     case false=>
      go_wp2;exact bodyPost_ret (v:=.bool false) (by simp [results,Tryz.results36,go_sem]) rfl ⟨by rw [cq.out,HZ.out];rfl,BS⟩
     case true=>
      have eK:=zBK (show Q=(l.drop (i+1)).all (Sk.there S tk) by rw [cq.out,HZ.out];rfl);go_wp2_with fail;go_roundg (n-(i+1))
      case measure=>omega
      case rel=>exact ⟨i+1,by omega,rfl,by go_num,eK,aH.trans (p4.mono aH.size)⟩
    case pos=>
     have m7:k<(nI tk).length:=(by rw [zBn];exact xe);obtain ⟨a2,c2,eqs,_,_,Bh⟩:=(HT.out.under BS).at;injection eqs with q1 q2 q3;obtain ⟨bT,oT,Oq,yT,CH⟩:=Bh k m7;rw [Oq] at q1;subst q1;rw [nI_get] at CH;have Ln:tk[k]<S.R.length:=pC.out _ (List.getElem_mem xe);obtain ⟨a3,c3,lu,bY,ik,dr⟩:=(HS.out.under BS).R.at;injection lu with p1 p2 p3;subst p3;unfold maxLen at ik;obtain ⟨bR,oR,z,fU,yR,bo,-⟩:=dr _ Ln;rw [fU] at p1;subst p1;obtain ⟨-,-,d2,-⟩:=bo;have IZ:=zBK (show D=((bb || (S.R[tk[k]].out==x)) || (tk.drop (k+1)).any (fun j=>(S.R.getD j Sk.noRu).out==x)) by
      rw [HD.out,List.drop_eq_getElem_cons xe,List.any_cons,show S.R.getD tk[k] Sk.noRu=S.R[tk[k]] by simp [List.getD_eq_getElem?_getD,Ln],Bool.or_assoc])
     have fG:=(p4.block _ (zBM ep)).trans ep;have s3:=coQ fG 3;have zl:=(p4.cell (p:=⟨bL,oL+i,none⟩) yL).trans hx;simp at s3;have uT:=zBM fG;have Ej:bL<wr.heap.size:=Nat.lt_of_lt_of_le yL p4.size;clear Bh dr q2 q3 p2 HD s1 yS;generalize OQ:tk[k]=j at *;clear OQ;generalize (S.R[j]).out=oj at *;go_upto_region 9 with fail;have aM:=zBK (fun (wz:World) (hSw:Below wr.heap.size wr wz)=>And.intro ((hSw.cell (p:=⟨w.heap.size,3,none⟩) uT).trans s3) (And.intro ((hSw.cell (p:=⟨bT,oT+k,none⟩) yT).trans CH) (And.intro ((hSw.cell (p:=⟨bL,oL+i,none⟩) Ej).trans zl) ((hSw.cell (p:=⟨bR,oR+j*6+2,none⟩) yR).trans d2))));refine zBP (fun w'=>Below wr.heap.size wr w') (fun _=>false) (by kernel_rfl) ?_;have ab:Below wr.heap.size wr wr.drew:=(Below.refl _ _).drew;generalize wr.drew=ag at ab ⊢;refine' tkR 0 32 ab ?o8
     refine' tkR 1 33 ab ?o9
     cases bb
     case false=>
      refine' tkR 2 34 ab ?o10
      refine' tkQ 3 35 ab ?hyv ?o11
      case hyv=>
       intro wz hSw;have bk:=aM.out wz hSw;go_simp
       try rfl
      try simp only [Act.put,sT,sZ,sS]
      refine' tkR 4 36 ab ?o12
      refine' tkR 5 37 ab ?o13
      refine' tkR 6 38 ab ?o14
      refine' tkQ 7 39 ab ?hyv ?o15
      case hyv=>
       intro wz hSw;have bk:=aM.out wz hSw;go_simp
       try rfl
      try simp only [Act.put,sT,sZ,sS]
      refine' tkR 8 40 ab ?o16
      refine' tkR 9 41 ab ?o17
      refine' tkQ 10 42 ab ?hyv ?o18
      case hyv=>
       intro wz hSw;have bk:=aM.out wz hSw;go_simp
       try rfl
      try simp only [Act.put,sT,sZ,sS]
      refine' tkR 11 43 ab ?o19
      refine' tkR 12 44 ab ?o20
      refine' tkR 13 45 ab ?o21
      refine' tkQ 14 46 ab ?hyv ?o22
      case hyv=>
       intro wz hSw;have bk:=aM.out wz hSw;go_simp
       try rfl
      try simp only [Act.put,sT,sZ,sS]
      refine' tkR 15 47 ab ?o23
      refine' tkR 16 48 ab ?o24
      refine' tkR 17 9 ab ?o25
      refine zBN (by kernel_rfl) ?_ _;go_wp2_with fail;go_roundg (tk.length-(k+1))
      case measure=>omega
      case rel=>exact ⟨k+1,_,by omega,rfl,rfl,by go_num,zBK (by rw [IZ.out];simp [Bool.or_assoc]),p4.trans (ab.mono p4.size)⟩
     case true=>
      refine' tsQ 2 34 ab ?_
      refine' tsQ 3 35 ab ?_
      refine' tsQ 4 36 ab ?_
      refine' tsQ 5 37 ab ?_
      refine' tsQ 6 38 ab ?_
      refine' tsQ 7 39 ab ?_
      refine' tsQ 8 40 ab ?_
      refine' tsQ 9 41 ab ?_
      refine' tsQ 10 42 ab ?_
      refine' tsQ 11 43 ab ?_
      refine' tsQ 12 44 ab ?_
      refine' tsQ 13 45 ab ?_
      refine' tsQ 14 46 ab ?_
      refine' tsQ 15 47 ab ?_
      refine' tkR 16 48 ab ?o26
      refine' tkR 17 9 ab ?o27
      refine zBN (by kernel_rfl) ?_ _;go_wp2_with fail;go_roundg (tk.length-(k+1))
      case measure=>omega
      case rel=>exact ⟨k+1,_,by omega,rfl,rfl,by go_num,zBK (by rw [IZ.out];simp [Bool.or_assoc]),p4.trans (ab.mono p4.size)⟩
end Go.Proofs.YtfhghlpfeeiaeaaGreatDoor
