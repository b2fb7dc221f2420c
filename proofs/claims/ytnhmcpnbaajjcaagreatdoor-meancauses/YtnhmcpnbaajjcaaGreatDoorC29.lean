import Derived.Test.YtnhmcpnbaajjcaaGreatDoorC27
set_option linter.unusedVariables false
set_option linter.unusedSimpArgs false
set_option maxHeartbeats 64000000
set_option maxRecDepth 100000
namespace Go.Proofs.YtnhmcpnbaajjcaaGreatDoor
open Go.RowKit Go.IntWalk
theorem Tryz.infoRu:(Tryz.prog.info? 40).map (fun i=>(i.zero,i.size,i.bytes))=some (some (.agg #[.int .i64 0,.int .i64 0,.int .i64 0,.int .i64 0,.slice none 0 0,.slice none 0 0]),6,80):=by kernel_rfl
def kRu:Kind Sk.Ru where
 ty:=40
 k:=6
 bytes:=80
 zero:=.agg #[.int .i64 0,.int .i64 0,.int .i64 0,.int .i64 0,.slice none 0 0,.slice none 0 0]
 E:=fun ok w cs r=>∃ y,cs=rcs r y∧HRu ok w y r
 pos:=by decide
 zs:=rfl
 info:=Tryz.infoRu
 len:=by rintro _ _ _ _ ⟨y,rfl,_⟩;rfl
 one:=by
  rintro _ _ _ _ ⟨y,rfl,_⟩ u hu;simp [rcs] at hu;rcases hu with rfl | rfl | rfl | rfl | rfl | rfl<;>rfl
 keep:=by rintro _ _ _ _ _ ⟨y,rfl,h⟩ hs hk;exact ⟨y,rfl,h.keep hs hk⟩
 wide:=by rintro _ _ _ _ _ ⟨y,rfl,h⟩ hk;exact ⟨y,rfl,h.wide hk⟩
theorem rus_row {ok:Nat→Prop} {w:World} {v:Value} {l:List Sk.Ru} (h:HRow kRu ok w v l):HRus ok w v l:=h
theorem heap_set_other (w:World) (p:Addr) (u:Value) {i:Nat} (h:p.block≠i):(w.setCell p u).heap[i]?=w.heap[i]?:=by
 cases e:w.heap[i]? with
 | none=>
  have hs:(w.setCell p u).heap.size=w.heap.size:=(by simp [World.setCell]);rw [Array.getElem?_eq_none_iff] at e ⊢;omega
 | some o=>exact keep_set e h u
theorem own54_core {ok:Nat→Prop} {w:World} {op k out n:Int} {aA aE:Option Addr} {nA cA nE cE:Nat} {A:List Int} {E:List Pu} (hA:HInts ok w (.slice aA nA cA) A) (hE:HPu ok w (.slice aE nE cE) E) (hAl:A.length≤1000000) (hEl:E.length≤1000000) :
  Calls Tryz.prog 54 #[.agg #[.int .i64 op,.int .i64 k,.int .i64 out,.int .i64 n,.slice aA nA cA,.slice aE nE cE]] w fun e w'=>∃ a1 n1 c1 a2 n2 c2,e=.returned (.agg #[.int .i64 op,.int .i64 k,.int .i64 out,.int .i64 n,.slice a1 n1 c1,.slice a2 n2 c2])∧HInts (fun i=>w.heap.size≤i) w' (.slice a1 n1 c1) A∧HPu (fun i=>w.heap.size≤i) w' (.slice a2 n2 c2) E∧Below w.heap.size w w':=by
 obtain ⟨b1,kR,kZ⟩:=nw2 w (.cells #[.int .i64 op,.int .i64 k,.int .i64 out,.int .i64 n,.slice aA nA cA,.slice aE nE cE] 40 (0,0)) (.cells #[.int .i64 0,.int .i64 0,.int .i64 0,.int .i64 0,.slice none 0 0,.slice none 0 0] 40 (0,0))
 have HA:=hide (hA.under b1);have HE:=hide (hE.under b1);clear hA hE;go_enter Tryz.func54,Tryz.ntmps54;go_upto_region 1 with fail;generalize (w.alloc (.cells #[.int .i64 op,.int .i64 k,.int .i64 out,.int .i64 n,.slice aA nA cA,.slice aE nE cE] 40 (0,0))).alloc (.cells #[.int .i64 0,.int .i64 0,.int .i64 0,.int .i64 0,.slice none 0 0,.slice none 0 0] 40 (0,0))=w1 at b1 kR kZ HA HE ⊢;have c0:=co kR 0;have c1:=co kR 1;have c2:=co kR 2;have c3:=co kR 3;have c4:=co kR 4;have c5:=co kR 5;simp at c0 c1 c2 c3 c4 c5;have yR:=lt_of kR;have yZ:=lt_of kZ;refine wp_region_late (fun w'=>Below w1.heap.size w1 w') (fun i=>i==7 || i==8 || i==9) (by kernel_rfl) ?_;have hH0:Below w1.heap.size w1 w1.drew:=(Below.refl _ _).drew;generalize w1.drew=wd0 at hH0 ⊢;refine' tkR 0 3 hH0 ?o1
 refine' tkQ 1 4 hH0 ?hyv ?o2
 case hyv=>
  intro wz hSw;have zc0:=(hSw.cell (p:=⟨w.heap.size,0,none⟩) yR).trans c0;have zc1:=(hSw.cell (p:=⟨w.heap.size,1,none⟩) yR).trans c1;have zc2:=(hSw.cell (p:=⟨w.heap.size,2,none⟩) yR).trans c2;have zc3:=(hSw.cell (p:=⟨w.heap.size,3,none⟩) yR).trans c3;have zc4:=(hSw.cell (p:=⟨w.heap.size,4,none⟩) yR).trans c4;have zc5:=(hSw.cell (p:=⟨w.heap.size,5,none⟩) yR).trans c5;go_simp
  try rfl
 try simp only [Act.put,sT,sZ,sS]
 refine' tkR 3 6 hH0 ?o3
 refine' tkQ 4 7 hH0 ?hyv ?o4
 case hyv=>
  intro wz hSw;have zc0:=(hSw.cell (p:=⟨w.heap.size,0,none⟩) yR).trans c0;have zc1:=(hSw.cell (p:=⟨w.heap.size,1,none⟩) yR).trans c1;have zc2:=(hSw.cell (p:=⟨w.heap.size,2,none⟩) yR).trans c2;have zc3:=(hSw.cell (p:=⟨w.heap.size,3,none⟩) yR).trans c3;have zc4:=(hSw.cell (p:=⟨w.heap.size,4,none⟩) yR).trans c4;have zc5:=(hSw.cell (p:=⟨w.heap.size,5,none⟩) yR).trans c5;go_simp
  try rfl
 try simp only [Act.put,sT,sZ,sS]
 refine tnQ 2 (fun K hK=>?_);go_simp;refine (clone53_any (ok:=ok) (HA.out.under hH0) hAl).mono ?_;rintro eq wd1 ⟨v1,rfl,own1,bq1⟩;obtain ⟨a1,cc1,rfl,-,-⟩:=own1.form;have hH1:Below w1.heap.size w1 wd1:=hH0.trans (bq1.mono hH0.size);have H1:=hide ((ints_row own1.row).wide (ok':=fun i=>w1.heap.size≤i) fun i hi _=>Nat.le_trans hH0.size hi);clear own1;refine hK.out _ _ (fun _=>hH1) ?_;clear hK K
 try simp only [Act.put,sT,sZ,sS]
 refine' tkR 6 9 hH1 ?o5
 refine tnQ 5 (fun K hK=>?_);go_simp;refine (clone93_any (ok:=ok) (HE.out.under hH1) hEl).mono ?_;rintro eq wd2 ⟨v2,rfl,own2,bq2⟩;obtain ⟨a2,cc2,rfl,-,-⟩:=own2.form;have hH2:Below w1.heap.size w1 wd2:=hH1.trans (bq2.mono hH1.size);have H2:=hide ((pus_row own2.row).wide (ok':=fun i=>w1.heap.size≤i) fun i hi _=>Nat.le_trans hH1.size hi);have H1b:=hide (H1.out.under bq2);clear own2 H1;refine hK.out _ _ (fun _=>hH2) ?_;clear hK K
 try simp only [Act.put,sT,sZ,sS]
 refine tnQ 7 (fun K hK=>?_);have kR5:=(hH2.block _ yR).trans kR;have kZ5:=(hH2.block _ yZ).trans kZ;have B5:=b1.trans (hH2.mono b1.size);have st4:=co kR5 4;have ff4:=fo kR5 4;simp at st4;have KR:=set_in kR5 4 (.slice a1 A.length cc1);simp at KR;have KZ:=keep_set (p:=⟨w.heap.size,4,none⟩) kZ5 (by show w.heap.size≠w.heap.size+1;omega) (.slice a1 A.length cc1);have B6:=B5.setCell (p:=⟨w.heap.size,4,none⟩) nR (.slice a1 A.length cc1);have HR6:=hide (show Below (w.heap.size+2) wd2 (wd2.setCell ⟨w.heap.size,4,none⟩ (.slice a1 A.length cc1))→True from fun _=>trivial);have H1c:=hide (show HInts (fun i=>w1.heap.size≤i) (wd2.setCell ⟨w.heap.size,4,none⟩ (.slice a1 A.length cc1)) (.slice a1 A.length cc1) A from H1b.out.keep (by simp [World.setCell]) (fun i hi _=>heap_set_other _ _ _ (by show w.heap.size≠i;have h1:w1.heap.size≤i:=hi;omega)));have H2c:=hide (show HPu (fun i=>w1.heap.size≤i) (wd2.setCell ⟨w.heap.size,4,none⟩ (.slice a1 A.length cc1)) (.slice a2 E.length cc2) E from H2.out.keep (by simp [World.setCell]) (fun i hi _=>heap_set_other _ _ _ (by show w.heap.size≠i;have h1:w1.heap.size≤i:=hi;omega)));clear kR5 kZ5 H1b H2 HR6;go_simp;refine hK.out _ _ (fun h=>absurd h (by decide)) ?_;clear hK K
 try simp only [Act.put,sT,sZ,sS]
 clear st4 ff4;generalize wd2.setCell ⟨w.heap.size,4,none⟩ (.slice a1 A.length cc1)=wd3 at KR KZ B6 H1c H2c ⊢;refine tnQ 8 (fun K hK=>?_);go_simp;refine hK.out _ _ (fun h=>absurd h (by decide)) ?_;clear hK K
 try simp only [Act.put,sT,sZ,sS]
 refine tnQ 9 (fun K hK=>?_);have st5:=co KR 5;have ff5:=fo KR 5;simp at st5;have KR2:=set_in KR 5 (.slice a2 E.length cc2);simp at KR2;have KZ2:=keep_set (p:=⟨w.heap.size,5,none⟩) KZ (by show w.heap.size≠w.heap.size+1;omega) (.slice a2 E.length cc2);have B7:=B6.setCell (p:=⟨w.heap.size,5,none⟩) nR (.slice a2 E.length cc2);have H1d:=hide (show HInts (fun i=>w1.heap.size≤i) (wd3.setCell ⟨w.heap.size,5,none⟩ (.slice a2 E.length cc2)) (.slice a1 A.length cc1) A from H1c.out.keep (by simp [World.setCell]) (fun i hi _=>heap_set_other _ _ _ (by show w.heap.size≠i;have h1:w1.heap.size≤i:=hi;omega)));have H2d:=hide (show HPu (fun i=>w1.heap.size≤i) (wd3.setCell ⟨w.heap.size,5,none⟩ (.slice a2 E.length cc2)) (.slice a2 E.length cc2) E from H2c.out.keep (by simp [World.setCell]) (fun i hi _=>heap_set_other _ _ _ (by show w.heap.size≠i;have h1:w1.heap.size≤i:=hi;omega)));clear KR KZ H1c H2c;go_simp;refine hK.out _ _ (fun h=>absurd h (by decide)) ?_;clear hK K
 try simp only [Act.put,sT,sZ,sS]
 clear st5 ff5;generalize wd3.setCell ⟨w.heap.size,5,none⟩ (.slice a2 E.length cc2)=wd5 at KR2 KZ2 B7 H1d H2d ⊢;refine wpAnyL_done (by kernel_rfl) ?_ _;have d0:=co KR2 0;have s0:=co KZ2 0;have f0:=fo KZ2 0;have d1:=co KR2 1;have s1:=co KZ2 1;have f1:=fo KZ2 1;have d2:=co KR2 2;have s2:=co KZ2 2;have f2:=fo KZ2 2;have d3:=co KR2 3;have s3:=co KZ2 3;have f3:=fo KZ2 3;have d4:=co KR2 4;have s4:=co KZ2 4;have f4:=fo KZ2 4;have d5:=co KR2 5;have s5:=co KZ2 5;have f5:=fo KZ2 5;simp at d0 s0 d1 s1 d2 s2 d3 s3 d4 s4 d5 s5;have KE:=set_in (set_in (set_in (set_in (set_in (set_in (KZ2) 0 (.int .i64 op)) 1 (.int .i64 k)) 2 (.int .i64 out)) 3 (.int .i64 n)) 4 (.slice a1 A.length cc1)) 5 (.slice a2 E.length cc2);have BE:=((((((B7).setCell (p:=⟨w.heap.size+1,0,none⟩) (by simp) (.int .i64 op)).setCell (p:=⟨w.heap.size+1,1,none⟩) (by simp) (.int .i64 k)).setCell (p:=⟨w.heap.size+1,2,none⟩) (by simp) (.int .i64 out)).setCell (p:=⟨w.heap.size+1,3,none⟩) (by simp) (.int .i64 n)).setCell (p:=⟨w.heap.size+1,4,none⟩) (by simp) (.slice a1 A.length cc1)).setCell (p:=⟨w.heap.size+1,5,none⟩) (by simp) (.slice a2 E.length cc2);have hone:∀ (X:World) (u:Value) (j:Nat) (i:Nat),w1.heap.size≤i→(X.setCell ⟨w.heap.size+1,j,none⟩ u).heap[i]?=X.heap[i]?:=fun X u j i hi=>heap_set_other _ _ _ (by show w.heap.size+1≠i;omega);have HEND:=hide (show HInts (fun i=>w1.heap.size≤i) (((((((wd5).setCell ⟨w.heap.size+1,0,none⟩ (.int .i64 op)).setCell ⟨w.heap.size+1,1,none⟩ (.int .i64 k)).setCell ⟨w.heap.size+1,2,none⟩ (.int .i64 out)).setCell ⟨w.heap.size+1,3,none⟩ (.int .i64 n)).setCell ⟨w.heap.size+1,4,none⟩ (.slice a1 A.length cc1)).setCell ⟨w.heap.size+1,5,none⟩ (.slice a2 E.length cc2)) (.slice a1 A.length cc1) A∧HPu (fun i=>w1.heap.size≤i) (((((((wd5).setCell ⟨w.heap.size+1,0,none⟩ (.int .i64 op)).setCell ⟨w.heap.size+1,1,none⟩ (.int .i64 k)).setCell ⟨w.heap.size+1,2,none⟩ (.int .i64 out)).setCell ⟨w.heap.size+1,3,none⟩ (.int .i64 n)).setCell ⟨w.heap.size+1,4,none⟩ (.slice a1 A.length cc1)).setCell ⟨w.heap.size+1,5,none⟩ (.slice a2 E.length cc2)) (.slice a2 E.length cc2) E from ⟨H1d.out.keep (by simp [World.setCell]) (fun i hi _=>by rw [hone _ _ _ i hi,hone _ _ _ i hi,hone _ _ _ i hi,hone _ _ _ i hi,hone _ _ _ i hi,hone _ _ _ i hi]),H2d.out.keep (by simp [World.setCell]) (fun i hi _=>by rw [hone _ _ _ i hi,hone _ _ _ i hi,hone _ _ _ i hi,hone _ _ _ i hi,hone _ _ _ i hi,hone _ _ _ i hi])⟩);have r0:=co KE 0;have r1:=co KE 1;have r2:=co KE 2;have r3:=co KE 3;have r4:=co KE 4;have r5:=co KE 5;simp at r0 r1 r2 r3 r4 r5;clear KE KR2 KZ2 H1d H2d hone B6 kR kZ c0 c1 c2 c3 c4 c5;go_wp2;exact bodyPost_ret (v:=.agg #[.int .i64 op,.int .i64 k,.int .i64 out,.int .i64 n,.slice a1 A.length cc1,.slice a2 E.length cc2]) (by simp [results,Tryz.results54,go_sem,r0,r1,r2,r3,r4,r5]) rfl ⟨_,_,_,_,_,_,rfl,HEND.out.1.wide (fun i hi _=>Nat.le_trans b1.size hi),HEND.out.2.wide (fun i hi _=>Nat.le_trans b1.size hi),BE⟩
theorem own54_any {ok:Nat→Prop} {w:World} {r:Sk.Ru} {y:RuV} (hR:HRu ok w y r) (hAl:r.A.length≤1000000) (hEl:r.E.length≤1000000) :
  Calls Tryz.prog 54 #[.agg #[.int .i64 r.op,.int .i64 r.k,.int .i64 r.out,.int .i64 r.n,.slice y.aA y.nA y.cA,.slice y.aE y.nE y.cE]] w fun e w'=>∃ z:RuV,e=.returned (.agg #[.int .i64 r.op,.int .i64 r.k,.int .i64 r.out,.int .i64 r.n,.slice z.aA z.nA z.cA,.slice z.aE z.nE z.cE])∧HRu (fun i=>w.heap.size≤i) w' z r∧Below w.heap.size w w':=
 (own54_core hR.A hR.E hAl hEl).mono fun _ _ ⟨a1,n1,c1,a2,n2,c2,h1,h2,h3,h4⟩=>⟨⟨a1,n1,c1,a2,n2,c2⟩,h1,⟨h2,h3⟩,h4⟩
end Go.Proofs.YtnhmcpnbaajjcaaGreatDoor
