import Derived.Test.YtkfgbhlpjkkgfaaGreatDoorT28
set_option linter.unusedVariables false
set_option linter.unusedSimpArgs false
set_option maxHeartbeats 64000000
set_option maxRecDepth 100000
namespace Go.Proofs.YtkfgbhlpjkkgfaaGreatDoor
open Go.RowKit Go.IntWalk
theorem whole8 (k:Int):WholeDoes 8 k:=by
 intro ok cC w y S vl l dU eU hG hS hl ch fw;have ji:=zAA dU;have jZ:=zAA eU;clear dU eU;have e1:(Rn.shp (8:Int).toNat).2.1=2:=(by decide);have e2:(Rn.shp (8:Int).toNat).2.2.1=2:=(by decide);have e3:(Rn.shp (8:Int).toNat).2.2.2.1=0:=(by decide);have bh:l.length=2:=by
  have h1:=ch.lo;have h2:=ch.hi;rw [e1] at h1;rw [e2] at h2;omega
 have fp:S.length=0:=by
  have h1:=ch.sz;rw [e3] at h1;omega
 obtain ⟨a,b,rfl⟩:=two_of bh;clear bh fp e1 e2 e3;obtain ⟨R,hR⟩:=nmQ (Kd.whole 8 k S [a,b]);rw [<-hR];have HR:=zAA (show R=Kd.typed (Kd.isFold k a b) a by rw [hR];unfold Kd.whole;simp);clear hR;obtain ⟨b1,kD,kZ⟩:=nw2 w (.cells #[.int .i64 y.op,.int .i64 y.k,.int .i64 y.n,.string y.name,.slice y.aS y.nS y.cS,.slice y.aL y.nL y.cL] 54 (0,0)) (.cells #[.int .u8 0,.slice none 0 0] 35 (0,0))
 have bh:=(hl.wide (ok':=fun i=>cC i/\i<w.heap.size) (fun i hi ak=>⟨hi,ak⟩)).under b1;have HL:=zAA bh;have HG:=zAA (hG.under b1);obtain ⟨la,lc,rfl,_,_,ai⟩:=bh.at;obtain ⟨bl,ol,aa,na,ca,rfl,yl,x0,x1,dl⟩:=ai 0 (by simp);obtain ⟨AF,yc,ab,nb,cb,ee,oO,z0,z1,eI⟩:=ai 1 (by simp);injection ee with ee;injection ee with e3 e4 _;subst e3 e4;clear oO;simp at x0 x1 dl z0 z1 eI;have eM:=zAA dl;have ij:=zAA eI;clear ai hl bh hG hS fw dl eI ch;go_enter Tryz.func123,Tryz.ntmps123;go_upto_region 1 with fail;generalize (w.alloc (.cells #[.int .i64 y.op,.int .i64 y.k,.int .i64 y.n,.string y.name,.slice y.aS y.nS y.cS,.slice y.aL y.nL y.cL] 54 (0,0))).alloc (.cells #[.int .u8 0,.slice none 0 0] 35 (0,0))=w1 at b1 kD kZ yl x0 x1 eM z0 z1 ij HL HG ⊢;have g0:=co kD 0;have g1:=co kD 1;have g4:=co kD 4;simp at g0 g1 g4;rw [ji.out] at g0;rw [jZ.out] at g1;have yD:=zAB kD;go_upto_region 5 with fail;refine zAE (fun w'=>Below w1.heap.size w1 w') (fun j=>j==10 || j==11) (by kernel_rfl) ?_;have af:Below w1.heap.size w1 w1.drew:=(Below.refl _ _).drew;generalize w1.drew=aW at af ⊢;refine' tkR 0 18 af ?o1
 refine' tkQ 1 19 af ?hyv ?o2
 case hyv=>
  intro wz ae;have bI:=(ae.cell (p:=⟨w.heap.size,1,none⟩) yD).trans g1;go_simp
  try rfl
 try simp only [Act.put,sT,sZ,sS]
 refine' tkR 2 20 af ?o3
 refine' tkR 4 22 af ?o4
 refine' tkR 5 23 af ?o5
 refine' tkQ 6 24 af ?hyv ?o6
 case hyv=>
  intro wz ae;have bI:=(ae.cell (p:=⟨bl,ol,none⟩) yl).trans x0;have d9:=(ae.cell (p:=⟨bl,ol+1,none⟩) yl).trans x1;go_simp
  try rfl
 try simp only [Act.put,sT,sZ,sS]
 refine tnQ 3 (fun K hK=>?_);go_simp;refine (zFP k (HL.out.under af) (HG.out.under af)).mono ?_;rintro eq cW ⟨rfl,dL⟩;have al:Below w1.heap.size w1 cW:=af.trans (dL.mono af.size);refine hK.out _ _ (fun _=>al) ?_;clear hK K
 try simp only [Act.put,sT,sZ,sS]
 refine tnQ 7 (fun K hK=>?_);go_simp;refine (zAi (eM.out.under al) (Kd.isFold k a b)).mono ?_;rintro eq fY ⟨u,c,rfl,dw,ib⟩;have aK:Below w1.heap.size w1 fY:=al.trans (ib.mono al.size);rw [<-HR.out] at dw;refine hK.out _ _ (fun _=>aK) ?_;clear hK K
 try simp only [Act.put,sT,sZ,sS]
 have hT:=dw.wide (ok':=fun i=>(ok i\/cC i\/w1.heap.size<=i)/\i≠w.heap.size+1) (fun i hi=>?okw)
 case okw=>
  exact ⟨.inr (.inl hi.1),by have:=hi.2;omega⟩
 clear dw;have cF:¬((ok (w.heap.size+1)\/cC (w.heap.size+1)\/w1.heap.size<=w.heap.size+1)/\w.heap.size+1≠w.heap.size+1):=fun h=>h.2 rfl;refine' tkR 8 26 aK ?o7
 refine' tkR 9 27 aK ?o8
 obtain ⟨te,ta,tn,tc,rfl⟩:=hT.form;have aT:=(aK.block _ (zAB kZ)).trans kZ;have aX:=co aT 0;have st1:=co aT 1;have dr:=fo aT 0;have dp:=fo aT 1;simp at aX st1;have KR:=zAD (zAD aT 0 (.int .u8 te)) 1 (.slice ta tn tc);have r0:=co KR 0;have r1:=co KR 1;simp at r0 r1;have Bn:=b1.trans (aK.mono b1.size);have BR:=(Bn.setCell (p:=⟨w.heap.size+1,0,none⟩) (by simp) (.int .u8 te)).setCell (p:=⟨w.heap.size+1,1,none⟩) (by simp) (.slice ta tn tc);have HT:=zAA ((hT.set (p:=⟨w.heap.size+1,0,none⟩) cF (.int .u8 te)).set (p:=⟨w.heap.size+1,1,none⟩) cF (.slice ta tn tc));clear KR aT hT;refine tnQ 10 (fun K hK=>?_);go_simp;refine hK.out _ _ (fun h=>absurd h (by decide)) ?_;clear hK K
 try simp only [Act.put,sT,sZ,sS]
 refine tnQ 11 (fun K hK=>?_);go_simp;refine hK.out _ _ (fun h=>absurd h (by decide)) ?_;clear hK K
 try simp only [Act.put,sT,sZ,sS]
 refine zAF (by kernel_rfl) ?_ _;go_wp2;exact bodyPost_ret (v:=.tuple #[.agg #[.int .u8 te,.slice ta tn tc],.int .i64 c]) (by simp [results,Tryz.results123,go_sem,r0,r1]) rfl ⟨_,_,rfl,HT.out.wide (fun i hi=>hi.1.elim .inl (fun h=>.inr (h.elim .inl (fun h=>.inr (Nat.le_trans b1.size h))))),BR⟩
theorem whole9 (k:Int):WholeDoes 9 k:=by
 intro ok cC w y S vl l dU eU hG hS hl ch fw;have ji:=zAA dU;have jZ:=zAA eU;clear dU eU;have e1:(Rn.shp (9:Int).toNat).2.1=2:=(by decide);have e2:(Rn.shp (9:Int).toNat).2.2.1=2:=(by decide);have e3:(Rn.shp (9:Int).toNat).2.2.2.1=0:=(by decide);have bh:l.length=2:=by
  have h1:=ch.lo;have h2:=ch.hi;rw [e1] at h1;rw [e2] at h2;omega
 have fp:S.length=0:=by
  have h1:=ch.sz;rw [e3] at h1;omega
 obtain ⟨a,b,rfl⟩:=two_of bh;clear bh fp e1 e2 e3;obtain ⟨R,hR⟩:=nmQ (Kd.whole 9 k S [a,b]);rw [<-hR];have HR:=zAA (show R=Kd.typed (Kd.isFold k a b) b by rw [hR];unfold Kd.whole;simp);clear hR;obtain ⟨b1,kD,kZ⟩:=nw2 w (.cells #[.int .i64 y.op,.int .i64 y.k,.int .i64 y.n,.string y.name,.slice y.aS y.nS y.cS,.slice y.aL y.nL y.cL] 54 (0,0)) (.cells #[.int .u8 0,.slice none 0 0] 35 (0,0))
 have bh:=(hl.wide (ok':=fun i=>cC i/\i<w.heap.size) (fun i hi ak=>⟨hi,ak⟩)).under b1;have HL:=zAA bh;have HG:=zAA (hG.under b1);obtain ⟨la,lc,rfl,_,_,ai⟩:=bh.at;obtain ⟨bl,ol,aa,na,ca,rfl,yl,x0,x1,dl⟩:=ai 0 (by simp);obtain ⟨AF,yc,ab,nb,cb,ee,oO,z0,z1,eI⟩:=ai 1 (by simp);injection ee with ee;injection ee with e3 e4 _;subst e3 e4;clear oO;simp at x0 x1 dl z0 z1 eI;have eM:=zAA dl;have ij:=zAA eI;clear ai hl bh hG hS fw dl eI ch;go_enter Tryz.func123,Tryz.ntmps123;go_upto_region 1 with fail;generalize (w.alloc (.cells #[.int .i64 y.op,.int .i64 y.k,.int .i64 y.n,.string y.name,.slice y.aS y.nS y.cS,.slice y.aL y.nL y.cL] 54 (0,0))).alloc (.cells #[.int .u8 0,.slice none 0 0] 35 (0,0))=w1 at b1 kD kZ yl x0 x1 eM z0 z1 ij HL HG ⊢;have g0:=co kD 0;have g1:=co kD 1;have g4:=co kD 4;simp at g0 g1 g4;rw [ji.out] at g0;rw [jZ.out] at g1;have yD:=zAB kD;go_upto_region 7 with fail;refine zAE (fun w'=>Below w1.heap.size w1 w') (fun j=>j==10 || j==11) (by kernel_rfl) ?_;have af:Below w1.heap.size w1 w1.drew:=(Below.refl _ _).drew;generalize w1.drew=aW at af ⊢;refine' tkR 0 30 af ?o9
 refine' tkQ 1 31 af ?hyv ?o10
 case hyv=>
  intro wz ae;have bI:=(ae.cell (p:=⟨w.heap.size,1,none⟩) yD).trans g1;go_simp
  try rfl
 try simp only [Act.put,sT,sZ,sS]
 refine' tkR 2 32 af ?o11
 refine' tkR 4 34 af ?o12
 refine' tkR 5 35 af ?o13
 refine' tkQ 6 36 af ?hyv ?o14
 case hyv=>
  intro wz ae;have bI:=(ae.cell (p:=⟨bl,ol+2,none⟩) yl).trans z0;have d9:=(ae.cell (p:=⟨bl,ol+2+1,none⟩) yl).trans z1;go_simp
  try rfl
 try simp only [Act.put,sT,sZ,sS]
 refine tnQ 3 (fun K hK=>?_);go_simp;refine (zFP k (HL.out.under af) (HG.out.under af)).mono ?_;rintro eq cW ⟨rfl,dL⟩;have al:Below w1.heap.size w1 cW:=af.trans (dL.mono af.size);refine hK.out _ _ (fun _=>al) ?_;clear hK K
 try simp only [Act.put,sT,sZ,sS]
 refine tnQ 7 (fun K hK=>?_);go_simp;refine (zAi (ij.out.under al) (Kd.isFold k a b)).mono ?_;rintro eq fY ⟨u,c,rfl,dw,ib⟩;have aK:Below w1.heap.size w1 fY:=al.trans (ib.mono al.size);rw [<-HR.out] at dw;refine hK.out _ _ (fun _=>aK) ?_;clear hK K
 try simp only [Act.put,sT,sZ,sS]
 have hT:=dw.wide (ok':=fun i=>(ok i\/cC i\/w1.heap.size<=i)/\i≠w.heap.size+1) (fun i hi=>?okw)
 case okw=>
  exact ⟨.inr (.inl hi.1),by have:=hi.2;omega⟩
 clear dw;have cF:¬((ok (w.heap.size+1)\/cC (w.heap.size+1)\/w1.heap.size<=w.heap.size+1)/\w.heap.size+1≠w.heap.size+1):=fun h=>h.2 rfl;refine' tkR 8 38 aK ?o15
 refine' tkR 9 39 aK ?o16
 obtain ⟨te,ta,tn,tc,rfl⟩:=hT.form;have aT:=(aK.block _ (zAB kZ)).trans kZ;have aX:=co aT 0;have st1:=co aT 1;have dr:=fo aT 0;have dp:=fo aT 1;simp at aX st1;have KR:=zAD (zAD aT 0 (.int .u8 te)) 1 (.slice ta tn tc);have r0:=co KR 0;have r1:=co KR 1;simp at r0 r1;have Bn:=b1.trans (aK.mono b1.size);have BR:=(Bn.setCell (p:=⟨w.heap.size+1,0,none⟩) (by simp) (.int .u8 te)).setCell (p:=⟨w.heap.size+1,1,none⟩) (by simp) (.slice ta tn tc);have HT:=zAA ((hT.set (p:=⟨w.heap.size+1,0,none⟩) cF (.int .u8 te)).set (p:=⟨w.heap.size+1,1,none⟩) cF (.slice ta tn tc));clear KR aT hT;refine tnQ 10 (fun K hK=>?_);go_simp;refine hK.out _ _ (fun h=>absurd h (by decide)) ?_;clear hK K
 try simp only [Act.put,sT,sZ,sS]
 refine tnQ 11 (fun K hK=>?_);go_simp;refine hK.out _ _ (fun h=>absurd h (by decide)) ?_;clear hK K
 try simp only [Act.put,sT,sZ,sS]
 refine zAF (by kernel_rfl) ?_ _;go_wp2;exact bodyPost_ret (v:=.tuple #[.agg #[.int .u8 te,.slice ta tn tc],.int .i64 c]) (by simp [results,Tryz.results123,go_sem,r0,r1]) rfl ⟨_,_,rfl,HT.out.wide (fun i hi=>hi.1.elim .inl (fun h=>.inr (h.elim .inl (fun h=>.inr (Nat.le_trans b1.size h))))),BR⟩
theorem whole11 (k:Int):WholeDoes 11 k:=by
 intro ok cC w y S vl l dU eU hG hS hl ch fw;have ji:=zAA dU;have jZ:=zAA eU;clear dU eU;have e1:(Rn.shp (11:Int).toNat).2.1=3:=(by decide);have e2:(Rn.shp (11:Int).toNat).2.2.1=3:=(by decide);have e3:(Rn.shp (11:Int).toNat).2.2.2.1=0:=(by decide);have bh:l.length=3:=by
  have h1:=ch.lo;have h2:=ch.hi;rw [e1] at h1;rw [e2] at h2;omega
 have fp:S.length=0:=by
  have h1:=ch.sz;rw [e3] at h1;omega
 obtain ⟨a,b,c3,rfl⟩:=zEv bh;clear bh fp e1 e2 e3;obtain ⟨R,hR⟩:=nmQ (Kd.whole 11 k S [a,b,c3]);rw [<-hR];have HR:=zAA (show R=Kd.typed (Kd.isPlace a b c3) (Kd.sc a.elem) by rw [hR];unfold Kd.whole;simp);clear hR;obtain ⟨b1,kD,kZ⟩:=nw2 w (.cells #[.int .i64 y.op,.int .i64 y.k,.int .i64 y.n,.string y.name,.slice y.aS y.nS y.cS,.slice y.aL y.nL y.cL] 54 (0,0)) (.cells #[.int .u8 0,.slice none 0 0] 35 (0,0))
 have bh:=(hl.wide (ok':=fun i=>cC i/\i<w.heap.size) (fun i hi ak=>⟨hi,ak⟩)).under b1;have HL:=zAA bh;have HG:=zAA (hG.under b1);obtain ⟨la,lc,rfl,_,_,ai⟩:=bh.at;obtain ⟨bl,ol,aa,na,ca,rfl,yl,x0,x1,dl⟩:=ai 0 (by simp);obtain ⟨AF,yc,ab,nb,cb,ee,oO,z0,z1,eI⟩:=ai 1 (by simp);injection ee with ee;injection ee with e3 e4 _;subst e3 e4;clear oO;obtain ⟨Ak,AZ,ac,nc,cc,ee,qQ,v0,v1,lA⟩:=ai 2 (by simp);injection ee with ee;injection ee with e3 e4 _;subst e3 e4;clear qQ;simp at x0 x1 dl z0 z1 eI v0 v1 lA;have eM:=zAA dl;have ij:=zAA eI;have sq:=zAA lA;clear ai hl bh hG hS fw dl eI lA ch;go_enter Tryz.func123,Tryz.ntmps123;go_upto_region 1 with fail;generalize (w.alloc (.cells #[.int .i64 y.op,.int .i64 y.k,.int .i64 y.n,.string y.name,.slice y.aS y.nS y.cS,.slice y.aL y.nL y.cL] 54 (0,0))).alloc (.cells #[.int .u8 0,.slice none 0 0] 35 (0,0))=w1 at b1 kD kZ yl x0 x1 eM z0 z1 ij v0 v1 sq HL HG ⊢;have g0:=co kD 0;have g1:=co kD 1;have g4:=co kD 4;simp at g0 g1 g4;rw [ji.out] at g0;rw [jZ.out] at g1;have yD:=zAB kD;go_upto_region 13 with fail;refine zAE (fun w'=>Below w1.heap.size w1 w') (fun j=>j==10 || j==11) (by kernel_rfl) ?_;have af:Below w1.heap.size w1 w1.drew:=(Below.refl _ _).drew;generalize w1.drew=aW at af ⊢;refine' tkR 0 82 af ?o1
 refine' tkR 2 84 af ?o2
 refine' tkR 3 85 af ?o3
 refine' tkR 4 86 af ?o4
 refine' tkQ 5 87 af ?hyv ?o5
 case hyv=>
  intro wz ae;have bI:=(ae.cell (p:=⟨bl,ol,none⟩) yl).trans x0;go_simp
  try rfl
 try simp only [Act.put,sT,sZ,sS]
 refine tnQ 1 (fun K hK=>?_);go_simp;refine (zEP (HL.out.under af)).mono ?_;rintro eq cW ⟨rfl,dL⟩;have al:Below w1.heap.size w1 cW:=af.trans (dL.mono af.size);refine hK.out _ _ (fun _=>al) ?_;clear hK K
 try simp only [Act.put,sT,sZ,sS]
 refine tnQ 6 (fun K hK=>?_);go_simp;refine (zCD a.elem cW).mono ?_;rintro eq fY ⟨rfl,ib⟩;have aK:Below w1.heap.size w1 fY:=al.trans (ib.mono al.size);refine hK.out _ _ (fun _=>aK) ?_;clear hK K
 try simp only [Act.put,sT,sZ,sS]
 refine tnQ 7 (fun K hK=>?_);go_simp;refine (zAi (HTy.zero (ok:=fun _=>False) a.elem) (Kd.isPlace a b c3)).mono ?_;rintro eq qH ⟨u,c,rfl,dw,rv⟩;have g9:Below w1.heap.size w1 qH:=aK.trans (rv.mono aK.size);rw [<-HR.out] at dw;refine hK.out _ _ (fun _=>g9) ?_;clear hK K
 try simp only [Act.put,sT,sZ,sS]
 have hT:=dw.wide (ok':=fun i=>(ok i\/cC i\/w1.heap.size<=i)/\i≠w.heap.size+1) (fun i hi=>?okw)
 case okw=>
  exact absurd hi (fun h=>h)
 clear dw;have cF:¬((ok (w.heap.size+1)\/cC (w.heap.size+1)\/w1.heap.size<=w.heap.size+1)/\w.heap.size+1≠w.heap.size+1):=fun h=>h.2 rfl;refine' tkR 8 90 g9 ?o6
 refine' tkR 9 91 g9 ?o7
 obtain ⟨te,ta,tn,tc,rfl⟩:=hT.form;have aT:=(g9.block _ (zAB kZ)).trans kZ;have aX:=co aT 0;have st1:=co aT 1;have dr:=fo aT 0;have dp:=fo aT 1;simp at aX st1;have KR:=zAD (zAD aT 0 (.int .u8 te)) 1 (.slice ta tn tc);have r0:=co KR 0;have r1:=co KR 1;simp at r0 r1;have Bn:=b1.trans (g9.mono b1.size);have BR:=(Bn.setCell (p:=⟨w.heap.size+1,0,none⟩) (by simp) (.int .u8 te)).setCell (p:=⟨w.heap.size+1,1,none⟩) (by simp) (.slice ta tn tc);have HT:=zAA ((hT.set (p:=⟨w.heap.size+1,0,none⟩) cF (.int .u8 te)).set (p:=⟨w.heap.size+1,1,none⟩) cF (.slice ta tn tc));clear KR aT hT;refine tnQ 10 (fun K hK=>?_);go_simp;refine hK.out _ _ (fun h=>absurd h (by decide)) ?_;clear hK K
 try simp only [Act.put,sT,sZ,sS]
 refine tnQ 11 (fun K hK=>?_);go_simp;refine hK.out _ _ (fun h=>absurd h (by decide)) ?_;clear hK K
 try simp only [Act.put,sT,sZ,sS]
 refine zAF (by kernel_rfl) ?_ _;go_wp2;exact bodyPost_ret (v:=.tuple #[.agg #[.int .u8 te,.slice ta tn tc],.int .i64 c]) (by simp [results,Tryz.results123,go_sem,r0,r1]) rfl ⟨_,_,rfl,HT.out.wide (fun i hi=>hi.1.elim .inl (fun h=>.inr (h.elim .inl (fun h=>.inr (Nat.le_trans b1.size h))))),BR⟩
theorem whole12 (k:Int):WholeDoes 12 k:=by
 intro ok cC w y S vl l dU eU hG hS hl ch fw;have ji:=zAA dU;have jZ:=zAA eU;clear dU eU;have e1:(Rn.shp (12:Int).toNat).2.1=3:=(by decide);have e2:(Rn.shp (12:Int).toNat).2.2.1=3:=(by decide);have e3:(Rn.shp (12:Int).toNat).2.2.2.1=0:=(by decide);have bh:l.length=3:=by
  have h1:=ch.lo;have h2:=ch.hi;rw [e1] at h1;rw [e2] at h2;omega
 have fp:S.length=0:=by
  have h1:=ch.sz;rw [e3] at h1;omega
 obtain ⟨a,b,c3,rfl⟩:=zEv bh;clear bh fp e1 e2 e3;obtain ⟨R,hR⟩:=nmQ (Kd.whole 12 k S [a,b,c3]);rw [<-hR];have HR:=zAA (show R=Kd.typed (Kd.isPlace a b c3) a by rw [hR];unfold Kd.whole;simp);clear hR;obtain ⟨b1,kD,kZ⟩:=nw2 w (.cells #[.int .i64 y.op,.int .i64 y.k,.int .i64 y.n,.string y.name,.slice y.aS y.nS y.cS,.slice y.aL y.nL y.cL] 54 (0,0)) (.cells #[.int .u8 0,.slice none 0 0] 35 (0,0))
 have bh:=(hl.wide (ok':=fun i=>cC i/\i<w.heap.size) (fun i hi ak=>⟨hi,ak⟩)).under b1;have HL:=zAA bh;have HG:=zAA (hG.under b1);obtain ⟨la,lc,rfl,_,_,ai⟩:=bh.at;obtain ⟨bl,ol,aa,na,ca,rfl,yl,x0,x1,dl⟩:=ai 0 (by simp);obtain ⟨AF,yc,ab,nb,cb,ee,oO,z0,z1,eI⟩:=ai 1 (by simp);injection ee with ee;injection ee with e3 e4 _;subst e3 e4;clear oO;obtain ⟨Ak,AZ,ac,nc,cc,ee,qQ,v0,v1,lA⟩:=ai 2 (by simp);injection ee with ee;injection ee with e3 e4 _;subst e3 e4;clear qQ;simp at x0 x1 dl z0 z1 eI v0 v1 lA;have eM:=zAA dl;have ij:=zAA eI;have sq:=zAA lA;clear ai hl bh hG hS fw dl eI lA ch;go_enter Tryz.func123,Tryz.ntmps123;go_upto_region 1 with fail;generalize (w.alloc (.cells #[.int .i64 y.op,.int .i64 y.k,.int .i64 y.n,.string y.name,.slice y.aS y.nS y.cS,.slice y.aL y.nL y.cL] 54 (0,0))).alloc (.cells #[.int .u8 0,.slice none 0 0] 35 (0,0))=w1 at b1 kD kZ yl x0 x1 eM z0 z1 ij v0 v1 sq HL HG ⊢;have g0:=co kD 0;have g1:=co kD 1;have g4:=co kD 4;simp at g0 g1 g4;rw [ji.out] at g0;rw [jZ.out] at g1;have yD:=zAB kD;go_upto_region 15 with fail;refine zAE (fun w'=>Below w1.heap.size w1 w') (fun j=>j==8 || j==9) (by kernel_rfl) ?_;have af:Below w1.heap.size w1 w1.drew:=(Below.refl _ _).drew;generalize w1.drew=aW at af ⊢;refine' tkR 0 94 af ?o8
 refine' tkR 2 96 af ?o9
 refine' tkR 3 97 af ?o10
 refine' tkQ 4 98 af ?hyv ?o11
 case hyv=>
  intro wz ae;have bI:=(ae.cell (p:=⟨bl,ol,none⟩) yl).trans x0;have d9:=(ae.cell (p:=⟨bl,ol+1,none⟩) yl).trans x1;go_simp
  try rfl
 try simp only [Act.put,sT,sZ,sS]
 refine tnQ 1 (fun K hK=>?_);go_simp;refine (zEP (HL.out.under af)).mono ?_;rintro eq cW ⟨rfl,dL⟩;have al:Below w1.heap.size w1 cW:=af.trans (dL.mono af.size);refine hK.out _ _ (fun _=>al) ?_;clear hK K
 try simp only [Act.put,sT,sZ,sS]
 refine tnQ 5 (fun K hK=>?_);go_simp;refine (zAi (eM.out.under al) (Kd.isPlace a b c3)).mono ?_;rintro eq fY ⟨u,c,rfl,dw,ib⟩;have aK:Below w1.heap.size w1 fY:=al.trans (ib.mono al.size);rw [<-HR.out] at dw;refine hK.out _ _ (fun _=>aK) ?_;clear hK K
 try simp only [Act.put,sT,sZ,sS]
 have hT:=dw.wide (ok':=fun i=>(ok i\/cC i\/w1.heap.size<=i)/\i≠w.heap.size+1) (fun i hi=>?okw)
 case okw=>
  exact ⟨.inr (.inl hi.1),by have:=hi.2;omega⟩
 clear dw;have cF:¬((ok (w.heap.size+1)\/cC (w.heap.size+1)\/w1.heap.size<=w.heap.size+1)/\w.heap.size+1≠w.heap.size+1):=fun h=>h.2 rfl;refine' tkR 6 100 aK ?o12
 refine' tkR 7 101 aK ?o13
 obtain ⟨te,ta,tn,tc,rfl⟩:=hT.form;have aT:=(aK.block _ (zAB kZ)).trans kZ;have aX:=co aT 0;have st1:=co aT 1;have dr:=fo aT 0;have dp:=fo aT 1;simp at aX st1;have KR:=zAD (zAD aT 0 (.int .u8 te)) 1 (.slice ta tn tc);have r0:=co KR 0;have r1:=co KR 1;simp at r0 r1;have Bn:=b1.trans (aK.mono b1.size);have BR:=(Bn.setCell (p:=⟨w.heap.size+1,0,none⟩) (by simp) (.int .u8 te)).setCell (p:=⟨w.heap.size+1,1,none⟩) (by simp) (.slice ta tn tc);have HT:=zAA ((hT.set (p:=⟨w.heap.size+1,0,none⟩) cF (.int .u8 te)).set (p:=⟨w.heap.size+1,1,none⟩) cF (.slice ta tn tc));clear KR aT hT;refine tnQ 8 (fun K hK=>?_);go_simp;refine hK.out _ _ (fun h=>absurd h (by decide)) ?_;clear hK K
 try simp only [Act.put,sT,sZ,sS]
 refine tnQ 9 (fun K hK=>?_);go_simp;refine hK.out _ _ (fun h=>absurd h (by decide)) ?_;clear hK K
 try simp only [Act.put,sT,sZ,sS]
 refine zAF (by kernel_rfl) ?_ _;go_wp2;exact bodyPost_ret (v:=.tuple #[.agg #[.int .u8 te,.slice ta tn tc],.int .i64 c]) (by simp [results,Tryz.results123,go_sem,r0,r1]) rfl ⟨_,_,rfl,HT.out.wide (fun i hi=>hi.1.elim .inl (fun h=>.inr (h.elim .inl (fun h=>.inr (Nat.le_trans b1.size h))))),BR⟩
end Go.Proofs.YtkfgbhlpjkkgfaaGreatDoor
