import Derived.Test.YtkfgbhlpjkkgfaaGreatDoorN30
set_option linter.unusedVariables false
set_option linter.unusedSimpArgs false
set_option maxHeartbeats 64000000
set_option maxRecDepth 100000
namespace Go.Proofs.YtkfgbhlpjkkgfaaGreatDoor
open Go.RowKit Go.IntWalk
theorem two_of {α:Type}:∀ {l:List α},l.length=2→∃ a b,l=[a,b]
 | [a,b],_=>⟨a,b,rfl⟩
theorem one_of {α:Type}:∀ {l:List α},l.length=1→∃ a,l=[a]
 | [a],_=>⟨a,rfl⟩
theorem whole14 (k:Int):WholeDoes 14 k:=by
 intro ok okl w y S vl l hyo hyk hG hS hl hsh hsm;have HYO:=hide hyo;clear hyo hyk;have hl2:l.length=2:=by
  have h1:=hsh.lo;have h2:=hsh.hi;have e1:(Rn.shp (14:Int).toNat).2.1=2:=(by decide);have e2:(Rn.shp (14:Int).toNat).2.2.1=2:=(by decide);rw [e1] at h1;rw [e2] at h2;omega
 obtain ⟨a,b,rfl⟩:=two_of hl2;clear hl2;obtain ⟨R,hR⟩:=nmQ (Kd.whole 14 k S [a,b]);rw [←hR];have HR:=hide (show R=Kd.cat a b by rw [hR];unfold Kd.whole;simp);clear hR;have hsa:=hsm a (by simp);have hsb:=hsm b (by simp);have b1:Below w.heap.size w ((w.alloc (.cells #[.int .i64 y.op,.int .i64 y.k,.int .i64 y.n,.string y.name,.slice y.aS y.nS y.cS,.slice y.aL y.nL y.cL] 54 (0,0))).alloc (.cells #[.int .u8 0,.slice none 0 0] 35 (0,0))):=((Below.refl _ _).alloc nR _).alloc (by simp) _;have kD:((w.alloc (.cells #[.int .i64 y.op,.int .i64 y.k,.int .i64 y.n,.string y.name,.slice y.aS y.nS y.cS,.slice y.aL y.nL y.cL] 54 (0,0))).alloc (.cells #[.int .u8 0,.slice none 0 0] 35 (0,0))).heap[w.heap.size]?=some (.cells #[.int .i64 y.op,.int .i64 y.k,.int .i64 y.n,.string y.name,.slice y.aS y.nS y.cS,.slice y.aL y.nL y.cL] 54 (0,0)):=(Below.heap_alloc _ _ _ (by simp)).trans (heap_new w _);have kZ:((w.alloc (.cells #[.int .i64 y.op,.int .i64 y.k,.int .i64 y.n,.string y.name,.slice y.aS y.nS y.cS,.slice y.aL y.nL y.cL] 54 (0,0))).alloc (.cells #[.int .u8 0,.slice none 0 0] 35 (0,0))).heap[w.heap.size+1]?=some (.cells #[.int .u8 0,.slice none 0 0] 35 (0,0)):=by
  have:=heap_new (w.alloc (.cells #[.int .i64 y.op,.int .i64 y.k,.int .i64 y.n,.string y.name,.slice y.aS y.nS y.cS,.slice y.aL y.nL y.cL] 54 (0,0))) (.cells #[.int .u8 0,.slice none 0 0] 35 (0,0))
  simpa using this
 obtain ⟨la,lc,rfl,_,_,hat⟩:=(hl.under b1).at;obtain ⟨bl,ol,aa,na,ca,rfl,yl,x0,x1,hta⟩:=hat 0 (by simp);obtain ⟨bl2,ol2,ab,nb,cb,e2,yl2,z0,z1,htb⟩:=hat 1 (by simp);injection e2 with e2;injection e2 with e3 e4 _;subst e3 e4;simp at x0 x1 z0 z1 hta htb;have HTA:=hide hta;have HTB:=hide htb;clear hat hl hG hS hsm hta htb hsh;go_enter Tryz.func123,Tryz.ntmps123;go_upto_region 1 with fail;generalize (w.alloc (.cells #[.int .i64 y.op,.int .i64 y.k,.int .i64 y.n,.string y.name,.slice y.aS y.nS y.cS,.slice y.aL y.nL y.cL] 54 (0,0))).alloc (.cells #[.int .u8 0,.slice none 0 0] 35 (0,0))=w1 at b1 kD kZ yl yl2 x0 x1 z0 z1 HTA HTB ⊢;have g0:=co kD 0;simp at g0;rw [HYO.out] at g0;go_upto_region 19 with fail;refine wp_region_late (fun w'=>Below w1.heap.size w1 w') (fun j=>j==9 || j==10) (by kernel_rfl) ?_;have hH0:Below w1.heap.size w1 w1.drew:=(Below.refl _ _).drew;generalize w1.drew=wd0 at hH0 ⊢;refine' wpAnyL_take (i:=0) (oi:=⟨some 122,_,_,_,_,_⟩) (v:=_) rfl (by kernel_rfl) (by kernel_rfl) (by kernel_rfl) (by kernel_rfl) (fun _ _ _ h=>h) hH0 (by rfl) ?hyv ?o1
 case hyv=>
  intro wz hSw;go_simp
  try rfl
 try simp only [Act.put,sT,sZ,sS]
 refine' wpAnyL_take (i:=1) (oi:=⟨some 123,_,_,_,_,_⟩) (v:=_) rfl (by kernel_rfl) (by kernel_rfl) (by kernel_rfl) (by kernel_rfl) (fun _ _ _ h=>h) hH0 (by rfl) ?hyv ?o2
 case hyv=>
  intro wz hSw;go_simp
  try rfl
 try simp only [Act.put,sT,sZ,sS]
 refine' wpAnyL_take (i:=2) (oi:=⟨some 124,_,_,_,_,_⟩) (v:=_) rfl (by kernel_rfl) (by kernel_rfl) (by kernel_rfl) (by kernel_rfl) (fun _ _ _ h=>h) hH0 (by rfl) ?hyv ?o3
 case hyv=>
  intro wz hSw;have zc0:=(hSw.cell (p:=⟨bl,ol,none⟩) yl).trans x0;have zc1:=(hSw.cell (p:=⟨bl,ol+1,none⟩) yl).trans x1;go_simp
  try rfl
 try simp only [Act.put,sT,sZ,sS]
 refine' wpAnyL_take (i:=3) (oi:=⟨some 125,_,_,_,_,_⟩) (v:=_) rfl (by kernel_rfl) (by kernel_rfl) (by kernel_rfl) (by kernel_rfl) (fun _ _ _ h=>h) hH0 (by rfl) ?hyv ?o4
 case hyv=>
  intro wz hSw;go_simp
  try rfl
 try simp only [Act.put,sT,sZ,sS]
 refine' wpAnyL_take (i:=4) (oi:=⟨some 126,_,_,_,_,_⟩) (v:=_) rfl (by kernel_rfl) (by kernel_rfl) (by kernel_rfl) (by kernel_rfl) (fun _ _ _ h=>h) hH0 (by rfl) ?hyv ?o5
 case hyv=>
  intro wz hSw;go_simp
  try rfl
 try simp only [Act.put,sT,sZ,sS]
 refine' wpAnyL_take (i:=5) (oi:=⟨some 127,_,_,_,_,_⟩) (v:=_) rfl (by kernel_rfl) (by kernel_rfl) (by kernel_rfl) (by kernel_rfl) (fun _ _ _ h=>h) hH0 (by rfl) ?hyv ?o6
 case hyv=>
  intro wz hSw;have zc0:=(hSw.cell (p:=⟨bl,ol+2,none⟩) yl).trans z0;have zc1:=(hSw.cell (p:=⟨bl,ol+2+1,none⟩) yl).trans z1;go_simp
  try rfl
 try simp only [Act.put,sT,sZ,sS]
 refine wpAnyL_one (i:=6) (o:=_) rfl (by kernel_rfl) (by rfl) (fun K hK=>?_);go_simp;refine (typeOfCat_any (HTA.out.under hH0) (HTB.out.under hH0) hsa hsb).mono ?_;rintro eq wd1 ⟨u,c,rfl,hT0,bq1⟩;have hH1:Below w1.heap.size w1 wd1:=hH0.trans (bq1.mono hH0.size);rw [←HR.out] at hT0;refine hK.out _ _ (fun _=>hH1) ?_;clear hK K
 try simp only [Act.put,sT,sZ,sS]
 have hnz:¬(ok (w.heap.size+1)∨okl (w.heap.size+1)∨w.heap.size≤w.heap.size+1)∨True:=.inr trivial;have hT:=hT0.wide (ok':=fun i=>wd0.heap.size≤i) (fun i hi=>hi);clear hnz hT0;have hnz:¬(wd0.heap.size≤w.heap.size+1):=(by have:=lt_of kZ;have:=hH0.size;omega);refine' wpAnyL_take (i:=7) (oi:=⟨some 129,_,_,_,_,_⟩) (v:=_) rfl (by kernel_rfl) (by kernel_rfl) (by kernel_rfl) (by kernel_rfl) (fun _ _ _ h=>h) hH1 (by rfl) ?hyv ?o7
 case hyv=>
  intro wz hSw;go_simp
  try rfl
 try simp only [Act.put,sT,sZ,sS]
 refine' wpAnyL_take (i:=8) (oi:=⟨some 130,_,_,_,_,_⟩) (v:=_) rfl (by kernel_rfl) (by kernel_rfl) (by kernel_rfl) (by kernel_rfl) (fun _ _ _ h=>h) hH1 (by rfl) ?hyv ?o8
 case hyv=>
  intro wz hSw;go_simp
  try rfl
 try simp only [Act.put,sT,sZ,sS]
 obtain ⟨te,ta,tn,tc,rfl⟩:=hT.form;have kZn:=(hH1.block _ (lt_of kZ)).trans kZ;have st0:=co kZn 0;have st1:=co kZn 1;have fr0:=fo kZn 0;have fr1:=fo kZn 1;simp at st0 st1;have KR:=set_in (set_in kZn 0 (.int .u8 te)) 1 (.slice ta tn tc);have r0:=co KR 0;have r1:=co KR 1;simp at r0 r1;have Bn:=b1.trans (hH1.mono b1.size);have BR:=(Bn.setCell (p:=⟨w.heap.size+1,0,none⟩) (by simp) (.int .u8 te)).setCell (p:=⟨w.heap.size+1,1,none⟩) (by simp) (.slice ta tn tc);have HT:=hide ((hT.set (p:=⟨w.heap.size+1,0,none⟩) hnz (.int .u8 te)).set (p:=⟨w.heap.size+1,1,none⟩) hnz (.slice ta tn tc));clear KR kZn hT;refine wpAnyL_one (i:=9) (o:=_) rfl (by kernel_rfl) (by rfl) (fun K hK=>?_);go_simp;refine hK.out _ _ (fun h=>absurd h (by decide)) ?_;clear hK K
 try simp only [Act.put,sT,sZ,sS]
 refine wpAnyL_one (i:=10) (o:=_) rfl (by kernel_rfl) (by rfl) (fun K hK=>?_);go_simp;refine hK.out _ _ (fun h=>absurd h (by decide)) ?_;clear hK K
 try simp only [Act.put,sT,sZ,sS]
 refine wpAnyL_done (by kernel_rfl) ?_ _;go_wp2;exact bodyPost_ret (v:=.tuple #[.agg #[.int .u8 te,.slice ta tn tc],.int .i64 c]) (by simp [results,Tryz.results123,go_sem,r0,r1]) rfl ⟨_,_,rfl,HT.out.wide (fun i hi=>.inr (.inr (by have:=hH0.size;have:=b1.size;omega))),BR⟩
theorem whole10 (k:Int):WholeDoes 10 k:=by
 intro ok okl w y S vl l hyo hyk hG hS hl hsh hsm;have HYO:=hide hyo;clear hyo hyk;have e1:(Rn.shp (10:Int).toNat).2.1=1:=(by decide);have e2:(Rn.shp (10:Int).toNat).2.2.1=1:=(by decide);have e3:(Rn.shp (10:Int).toNat).2.2.2.1=1:=(by decide);have hl1:l.length=1:=by
  have h1:=hsh.lo;have h2:=hsh.hi;rw [e1] at h1;rw [e2] at h2;omega
 have hS1:S.length=1:=by
  have h1:=hsh.sz;rw [e3] at h1;omega
 obtain ⟨a,rfl⟩:=one_of hl1;obtain ⟨s,rfl⟩:=one_of hS1;clear hl1 hS1 e1 e2 e3;obtain ⟨R,hR⟩:=nmQ (Kd.whole 10 k [s] [a]);rw [←hR];have HR:=hide (show R=Kd.typed (!Kd.arr a) (Kd.mkA a.elem s) by rw [hR];unfold Kd.whole;simp);clear hR;have b1:Below w.heap.size w ((w.alloc (.cells #[.int .i64 y.op,.int .i64 y.k,.int .i64 y.n,.string y.name,.slice y.aS y.nS y.cS,.slice y.aL y.nL y.cL] 54 (0,0))).alloc (.cells #[.int .u8 0,.slice none 0 0] 35 (0,0))):=((Below.refl _ _).alloc nR _).alloc (by simp) _;have kD:((w.alloc (.cells #[.int .i64 y.op,.int .i64 y.k,.int .i64 y.n,.string y.name,.slice y.aS y.nS y.cS,.slice y.aL y.nL y.cL] 54 (0,0))).alloc (.cells #[.int .u8 0,.slice none 0 0] 35 (0,0))).heap[w.heap.size]?=some (.cells #[.int .i64 y.op,.int .i64 y.k,.int .i64 y.n,.string y.name,.slice y.aS y.nS y.cS,.slice y.aL y.nL y.cL] 54 (0,0)):=(Below.heap_alloc _ _ _ (by simp)).trans (heap_new w _);have kZ:((w.alloc (.cells #[.int .i64 y.op,.int .i64 y.k,.int .i64 y.n,.string y.name,.slice y.aS y.nS y.cS,.slice y.aL y.nL y.cL] 54 (0,0))).alloc (.cells #[.int .u8 0,.slice none 0 0] 35 (0,0))).heap[w.heap.size+1]?=some (.cells #[.int .u8 0,.slice none 0 0] 35 (0,0)):=by
  have:=heap_new (w.alloc (.cells #[.int .i64 y.op,.int .i64 y.k,.int .i64 y.n,.string y.name,.slice y.aS y.nS y.cS,.slice y.aL y.nL y.cL] 54 (0,0))) (.cells #[.int .u8 0,.slice none 0 0] 35 (0,0))
  simpa using this
 obtain ⟨la,lc,rfl,_,_,hat⟩:=(hl.under b1).at;obtain ⟨bl,ol,aa,na,ca,rfl,yl,x0,x1,hta⟩:=hat 0 (by simp);obtain ⟨sa,sc,eS,_,_,hsat⟩:=((hS.wide (ok':=fun i=>ok i∧i<w.heap.size) (fun i hi hlt=>⟨hi,hlt⟩)).under b1).at;injection eS with p1 p2 p3;obtain ⟨bs,os,ua,un,uc,rfl,ys,u0,hts⟩:=hsat 0 (by simp);simp at x0 x1 hta u0 hts;have HTA:=hide hta;have HTS:=hide hts;have HP1:=hide p1;have HP2:=hide p2;clear hat hl hG hS hsm hta hts hsh hsat p1 p2 p3;go_enter Tryz.func123,Tryz.ntmps123;go_upto_region 1 with fail;generalize (w.alloc (.cells #[.int .i64 y.op,.int .i64 y.k,.int .i64 y.n,.string y.name,.slice y.aS y.nS y.cS,.slice y.aL y.nL y.cL] 54 (0,0))).alloc (.cells #[.int .u8 0,.slice none 0 0] 35 (0,0))=w1 at b1 kD kZ yl x0 x1 HTA ys u0 HTS ⊢;have g0:=co kD 0;have g4:=co kD 4;simp at g0 g4;rw [HYO.out] at g0;rw [HP1.out,HP2.out] at g4;simp at g4;have yD:=lt_of kD;go_upto_region 11 with fail;refine wp_region_late (fun w'=>Below w1.heap.size w1 w') (fun j=>j==17 || j==18) (by kernel_rfl) ?_;have hH0:Below w1.heap.size w1 w1.drew:=(Below.refl _ _).drew;generalize w1.drew=wd0 at hH0 ⊢;refine' wpAnyL_take (i:=0) (oi:=⟨some 63,_,_,_,_,_⟩) (v:=_) rfl (by kernel_rfl) (by kernel_rfl) (by kernel_rfl) (by kernel_rfl) (fun _ _ _ h=>h) hH0 (by rfl) ?hyv ?o1
 case hyv=>
  intro wz hSw;go_simp
  try rfl
 try simp only [Act.put,sT,sZ,sS]
 refine' wpAnyL_take (i:=1) (oi:=⟨some 64,_,_,_,_,_⟩) (v:=_) rfl (by kernel_rfl) (by kernel_rfl) (by kernel_rfl) (by kernel_rfl) (fun _ _ _ h=>h) hH0 (by rfl) ?hyv ?o2
 case hyv=>
  intro wz hSw;go_simp
  try rfl
 try simp only [Act.put,sT,sZ,sS]
 refine' wpAnyL_take (i:=2) (oi:=⟨some 65,_,_,_,_,_⟩) (v:=_) rfl (by kernel_rfl) (by kernel_rfl) (by kernel_rfl) (by kernel_rfl) (fun _ _ _ h=>h) hH0 (by rfl) ?hyv ?o3
 case hyv=>
  intro wz hSw;have zc0:=(hSw.cell (p:=⟨bl,ol,none⟩) yl).trans x0;have zc1:=(hSw.cell (p:=⟨bl,ol+1,none⟩) yl).trans x1;go_simp
  try rfl
 try simp only [Act.put,sT,sZ,sS]
 refine' wpAnyL_take (i:=5) (oi:=⟨some 68,_,_,_,_,_⟩) (v:=_) rfl (by kernel_rfl) (by kernel_rfl) (by kernel_rfl) (by kernel_rfl) (fun _ _ _ h=>h) hH0 (by rfl) ?hyv ?o4
 case hyv=>
  intro wz hSw;go_simp
  try rfl
 try simp only [Act.put,sT,sZ,sS]
 refine' wpAnyL_take (i:=6) (oi:=⟨some 69,_,_,_,_,_⟩) (v:=_) rfl (by kernel_rfl) (by kernel_rfl) (by kernel_rfl) (by kernel_rfl) (fun _ _ _ h=>h) hH0 (by rfl) ?hyv ?o5
 case hyv=>
  intro wz hSw;go_simp
  try rfl
 try simp only [Act.put,sT,sZ,sS]
 refine' wpAnyL_take (i:=7) (oi:=⟨some 70,_,_,_,_,_⟩) (v:=_) rfl (by kernel_rfl) (by kernel_rfl) (by kernel_rfl) (by kernel_rfl) (fun _ _ _ h=>h) hH0 (by rfl) ?hyv ?o6
 case hyv=>
  intro wz hSw;go_simp
  try rfl
 try simp only [Act.put,sT,sZ,sS]
 refine' wpAnyL_take (i:=8) (oi:=⟨some 71,_,_,_,_,_⟩) (v:=_) rfl (by kernel_rfl) (by kernel_rfl) (by kernel_rfl) (by kernel_rfl) (fun _ _ _ h=>h) hH0 (by rfl) ?hyv ?o7
 case hyv=>
  intro wz hSw;have zc0:=(hSw.cell (p:=⟨bl,ol,none⟩) yl).trans x0;have zc1:=(hSw.cell (p:=⟨bl,ol+1,none⟩) yl).trans x1;go_simp
  try rfl
 try simp only [Act.put,sT,sZ,sS]
 refine' wpAnyL_take (i:=9) (oi:=⟨some 72,_,_,_,_,_⟩) (v:=_) rfl (by kernel_rfl) (by kernel_rfl) (by kernel_rfl) (by kernel_rfl) (fun _ _ _ h=>h) hH0 (by rfl) ?hyv ?o8
 case hyv=>
  intro wz hSw;go_simp
  try rfl
 try simp only [Act.put,sT,sZ,sS]
 refine' wpAnyL_take (i:=10) (oi:=⟨some 73,_,_,_,_,_⟩) (v:=_) rfl (by kernel_rfl) (by kernel_rfl) (by kernel_rfl) (by kernel_rfl) (fun _ _ _ h=>h) hH0 (by rfl) ?hyv ?o9
 case hyv=>
  intro wz hSw;have zc0:=(hSw.cell (p:=⟨w.heap.size,4,none⟩) yD).trans g4;go_simp
  try rfl
 try simp only [Act.put,sT,sZ,sS]
 refine' wpAnyL_take (i:=11) (oi:=⟨some 74,_,_,_,_,_⟩) (v:=_) rfl (by kernel_rfl) (by kernel_rfl) (by kernel_rfl) (by kernel_rfl) (fun _ _ _ h=>h) hH0 (by rfl) ?hyv ?o10
 case hyv=>
  intro wz hSw;go_simp
  try rfl
 try simp only [Act.put,sT,sZ,sS]
 refine' wpAnyL_take (i:=12) (oi:=⟨some 75,_,_,_,_,_⟩) (v:=_) rfl (by kernel_rfl) (by kernel_rfl) (by kernel_rfl) (by kernel_rfl) (fun _ _ _ h=>h) hH0 (by rfl) ?hyv ?o11
 case hyv=>
  intro wz hSw;have zc0:=(hSw.cell (p:=⟨bs,os,none⟩) ys).trans u0;go_simp
  try rfl
 try simp only [Act.put,sT,sZ,sS]
 refine wpAnyL_one (i:=3) (o:=_) rfl (by kernel_rfl) (by rfl) (fun K hK=>?_);go_simp;refine (isArray_any (HTA.out.under hH0)).mono ?_;rintro eq wd1 ⟨rfl,bq1⟩;have hH1:Below w1.heap.size w1 wd1:=hH0.trans (bq1.mono hH0.size);refine hK.out _ _ (fun _=>hH1) ?_;clear hK K
 try simp only [Act.put,sT,sZ,sS]
 refine' wpAnyL_take (i:=4) (oi:=⟨some 67,_,_,_,_,_⟩) (v:=_) rfl (by kernel_rfl) (by kernel_rfl) (by kernel_rfl) (by kernel_rfl) (fun _ _ _ h=>h) hH1 (by rfl) ?hyv ?o12
 case hyv=>
  intro wz hSw;go_simp
  try rfl
 try simp only [Act.put,sT,sZ,sS]
 refine wpAnyL_one (i:=13) (o:=_) rfl (by kernel_rfl) (by rfl) (fun K hK=>?_);go_simp;refine (arrayOf_any (HTS.out.under hH1) a.elem).mono ?_;rintro eq wd2 ⟨uz,rfl,hz,bq2⟩;have hH2:Below w1.heap.size w1 wd2:=hH1.trans (bq2.mono hH1.size);refine hK.out _ _ (fun _=>hH2) ?_;clear hK K
 try simp only [Act.put,sT,sZ,sS]
 refine wpAnyL_one (i:=14) (o:=_) rfl (by kernel_rfl) (by rfl) (fun K hK=>?_);go_simp;refine (typed_any hz (!Kd.arr a)).mono ?_;rintro eq wd3 ⟨u,c,rfl,hT0,bq3⟩;have hH3:Below w1.heap.size w1 wd3:=hH2.trans (bq3.mono hH2.size);rw [←HR.out] at hT0;refine hK.out _ _ (fun _=>hH3) ?_;clear hK K
 try simp only [Act.put,sT,sZ,sS]
 have hT:=hT0.wide (ok':=fun i=>(ok i∨w1.heap.size≤i)∧i≠w.heap.size+1) (fun i hi=>?okw)
 case okw=>
  have h1:=hH1.size;have h2:=lt_of kZ;rcases hi with h | h
  ·exact ⟨.inl h.1,by have:=h.2;omega⟩
  ·exact ⟨.inr (by omega),by omega⟩
 clear hT0 hz;have hnz:¬((ok (w.heap.size+1)∨w1.heap.size≤w.heap.size+1)∧w.heap.size+1≠w.heap.size+1):=fun h=>h.2 rfl;refine' wpAnyL_take (i:=15) (oi:=⟨some 78,_,_,_,_,_⟩) (v:=_) rfl (by kernel_rfl) (by kernel_rfl) (by kernel_rfl) (by kernel_rfl) (fun _ _ _ h=>h) hH3 (by rfl) ?hyv ?o13
 case hyv=>
  intro wz hSw;go_simp
  try rfl
 try simp only [Act.put,sT,sZ,sS]
 refine' wpAnyL_take (i:=16) (oi:=⟨some 79,_,_,_,_,_⟩) (v:=_) rfl (by kernel_rfl) (by kernel_rfl) (by kernel_rfl) (by kernel_rfl) (fun _ _ _ h=>h) hH3 (by rfl) ?hyv ?o14
 case hyv=>
  intro wz hSw;go_simp
  try rfl
 try simp only [Act.put,sT,sZ,sS]
 obtain ⟨te,ta,tn,tc,rfl⟩:=hT.form;have kZn:=(hH3.block _ (lt_of kZ)).trans kZ;have st0:=co kZn 0;have st1:=co kZn 1;have fr0:=fo kZn 0;have fr1:=fo kZn 1;simp at st0 st1;have KR:=set_in (set_in kZn 0 (.int .u8 te)) 1 (.slice ta tn tc);have r0:=co KR 0;have r1:=co KR 1;simp at r0 r1;have Bn:=b1.trans (hH3.mono b1.size);have BR:=(Bn.setCell (p:=⟨w.heap.size+1,0,none⟩) (by simp) (.int .u8 te)).setCell (p:=⟨w.heap.size+1,1,none⟩) (by simp) (.slice ta tn tc);have HT:=hide ((hT.set (p:=⟨w.heap.size+1,0,none⟩) hnz (.int .u8 te)).set (p:=⟨w.heap.size+1,1,none⟩) hnz (.slice ta tn tc));clear KR kZn hT;refine wpAnyL_one (i:=17) (o:=_) rfl (by kernel_rfl) (by rfl) (fun K hK=>?_);go_simp;refine hK.out _ _ (fun h=>absurd h (by decide)) ?_;clear hK K
 try simp only [Act.put,sT,sZ,sS]
 refine wpAnyL_one (i:=18) (o:=_) rfl (by kernel_rfl) (by rfl) (fun K hK=>?_);go_simp;refine hK.out _ _ (fun h=>absurd h (by decide)) ?_;clear hK K
 try simp only [Act.put,sT,sZ,sS]
 refine wpAnyL_done (by kernel_rfl) ?_ _;go_wp2;exact bodyPost_ret (v:=.tuple #[.agg #[.int .u8 te,.slice ta tn tc],.int .i64 c]) (by simp [results,Tryz.results123,go_sem,r0,r1]) rfl ⟨_,_,rfl,HT.out.wide (fun i hi=>hi.1.elim .inl (fun h=>.inr (.inr (Nat.le_trans b1.size h)))),BR⟩
end Go.Proofs.YtkfgbhlpjkkgfaaGreatDoor
