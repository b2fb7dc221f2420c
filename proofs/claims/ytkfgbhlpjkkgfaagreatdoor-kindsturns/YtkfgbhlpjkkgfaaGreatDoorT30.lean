import Derived.Test.YtkfgbhlpjkkgfaaGreatDoorT28
set_option linter.unusedVariables false
set_option linter.unusedSimpArgs false
set_option maxHeartbeats 64000000
set_option maxRecDepth 100000
namespace Go.Proofs.YtkfgbhlpjkkgfaaGreatDoor
open Go.RowKit Go.IntWalk
theorem whole13 (k:Int):WholeDoes 13 k:=by
 intro ok cC w y S vl l dU eU hG hS hl ch fw;have ji:=zAA dU;have jZ:=zAA eU;clear dU eU;have e1:(Rn.shp (13:Int).toNat).2.1=1:=(by decide);have e2:(Rn.shp (13:Int).toNat).2.2.1=1:=(by decide);have e3:(Rn.shp (13:Int).toNat).2.2.2.1=2:=(by decide);have bh:l.length=1:=by
  have h1:=ch.lo;have h2:=ch.hi;rw [e1] at h1;rw [e2] at h2;omega
 have fp:S.length=2:=by
  have h1:=ch.sz;rw [e3] at h1;omega
 obtain ⟨a,rfl⟩:=one_of bh;obtain ⟨s,s2,rfl⟩:=two_of fp;clear bh fp e1 e2 e3;obtain ⟨R,hR⟩:=nmQ (Kd.whole 13 k [s,s2] [a]);rw [<-hR];have HR:=zAA (show R=Kd.typed (Kd.arr a) (Kd.mkA a.elem s2) by rw [hR];unfold Kd.whole;simp);clear hR;obtain ⟨b1,kD,kZ⟩:=nw2 w (.cells #[.int .i64 y.op,.int .i64 y.k,.int .i64 y.n,.string y.name,.slice y.aS y.nS y.cS,.slice y.aL y.nL y.cL] 54 (0,0)) (.cells #[.int .u8 0,.slice none 0 0] 35 (0,0))
 have bh:=(hl.wide (ok':=fun i=>cC i/\i<w.heap.size) (fun i hi ak=>⟨hi,ak⟩)).under b1;have HL:=zAA bh;have HG:=zAA (hG.under b1);obtain ⟨la,lc,rfl,_,_,ai⟩:=bh.at;obtain ⟨bl,ol,aa,na,ca,rfl,yl,x0,x1,dl⟩:=ai 0 (by simp);simp at x0 x1 dl;have eM:=zAA dl;obtain ⟨sa,sc,eS,_,_,oN⟩:=((hS.wide (ok':=fun i=>ok i/\i<w.heap.size) (fun i hi ak=>⟨hi,ak⟩)).under b1).at;injection eS with p1 p2 p3;obtain ⟨bs,os,ua,un,uc,rfl,ys,u0,vw⟩:=oN 1 (by simp);simp at u0 vw;have yC:=zAA vw;have F7:=zAA p1;have iZ:=zAA p2;clear vw oN p1 p2 p3;clear ai hl bh hG hS fw dl ch;go_enter Tryz.func123,Tryz.ntmps123;go_upto_region 1 with fail;generalize (w.alloc (.cells #[.int .i64 y.op,.int .i64 y.k,.int .i64 y.n,.string y.name,.slice y.aS y.nS y.cS,.slice y.aL y.nL y.cL] 54 (0,0))).alloc (.cells #[.int .u8 0,.slice none 0 0] 35 (0,0))=w1 at b1 kD kZ yl x0 x1 eM HL HG ys u0 yC ⊢;have g0:=co kD 0;have g1:=co kD 1;have g4:=co kD 4;simp at g0 g1 g4;rw [ji.out] at g0;rw [jZ.out] at g1;rw [F7.out,iZ.out] at g4;simp at g4;have yD:=zAB kD;go_upto_region 17 with fail;refine zAE (fun w'=>Below w1.heap.size w1 w') (fun j=>j==16 || j==17) (by kernel_rfl) ?_;have af:Below w1.heap.size w1 w1.drew:=(Below.refl _ _).drew;generalize w1.drew=aW at af ⊢;refine' tkR 0 104 af ?o1
 refine' tkR 1 105 af ?o2
 refine' tkQ 2 106 af ?hyv ?o3
 case hyv=>
  intro wz ae;have bI:=(ae.cell (p:=⟨bl,ol,none⟩) yl).trans x0;have d9:=(ae.cell (p:=⟨bl,ol+1,none⟩) yl).trans x1;go_simp
  try rfl
 try simp only [Act.put,sT,sZ,sS]
 refine' tkR 4 108 af ?o4
 refine' tkR 5 109 af ?o5
 refine' tkR 6 110 af ?o6
 refine' tkQ 7 111 af ?hyv ?o7
 case hyv=>
  intro wz ae;have bI:=(ae.cell (p:=⟨bl,ol,none⟩) yl).trans x0;have d9:=(ae.cell (p:=⟨bl,ol+1,none⟩) yl).trans x1;go_simp
  try rfl
 try simp only [Act.put,sT,sZ,sS]
 refine' tkR 8 112 af ?o8
 refine' tkQ 9 113 af ?hyv ?o9
 case hyv=>
  intro wz ae;have bI:=(ae.cell (p:=⟨w.heap.size,4,none⟩) yD).trans g4;go_simp
  try rfl
 try simp only [Act.put,sT,sZ,sS]
 refine' tkR 10 114 af ?o10
 refine' tkQ 11 115 af ?hyv ?o11
 case hyv=>
  intro wz ae;have bI:=(ae.cell (p:=⟨bs,os+1,none⟩) ys).trans u0;go_simp
  try rfl
 try simp only [Act.put,sT,sZ,sS]
 refine tnQ 3 (fun K hK=>?_);go_simp;refine (zAP (eM.out.under af)).mono ?_;rintro eq cW ⟨rfl,dL⟩;have al:Below w1.heap.size w1 cW:=af.trans (dL.mono af.size);refine hK.out _ _ (fun _=>al) ?_;clear hK K
 try simp only [Act.put,sT,sZ,sS]
 refine tnQ 12 (fun K hK=>?_);go_simp;refine (zBL (yC.out.under al) a.elem).mono ?_;rintro eq fY ⟨uz,rfl,hz,ib⟩;have aK:Below w1.heap.size w1 fY:=al.trans (ib.mono al.size);refine hK.out _ _ (fun _=>aK) ?_;clear hK K
 try simp only [Act.put,sT,sZ,sS]
 refine tnQ 13 (fun K hK=>?_);go_simp;refine (zAi hz (Kd.arr a)).mono ?_;rintro eq qH ⟨u,c,rfl,dw,rv⟩;have g9:Below w1.heap.size w1 qH:=aK.trans (rv.mono aK.size);rw [<-HR.out] at dw;refine hK.out _ _ (fun _=>g9) ?_;clear hK K
 try simp only [Act.put,sT,sZ,sS]
 have hT:=dw.wide (ok':=fun i=>(ok i\/cC i\/w1.heap.size<=i)/\i≠w.heap.size+1) (fun i hi=>?okw)
 case okw=>
  have h1:=al.size;have h2:=zAB kZ;rcases hi with h | h
  ·exact ⟨.inl h.1,by have:=h.2;omega⟩
  ·exact ⟨.inr (.inr (by omega)),by omega⟩
 clear dw;have cF:¬((ok (w.heap.size+1)\/cC (w.heap.size+1)\/w1.heap.size<=w.heap.size+1)/\w.heap.size+1≠w.heap.size+1):=fun h=>h.2 rfl;refine' tkR 14 118 g9 ?o12
 refine' tkR 15 119 g9 ?o13
 obtain ⟨te,ta,tn,tc,rfl⟩:=hT.form;have aT:=(g9.block _ (zAB kZ)).trans kZ;have aX:=co aT 0;have st1:=co aT 1;have dr:=fo aT 0;have dp:=fo aT 1;simp at aX st1;have KR:=zAD (zAD aT 0 (.int .u8 te)) 1 (.slice ta tn tc);have r0:=co KR 0;have r1:=co KR 1;simp at r0 r1;have Bn:=b1.trans (g9.mono b1.size);have BR:=(Bn.setCell (p:=⟨w.heap.size+1,0,none⟩) (by simp) (.int .u8 te)).setCell (p:=⟨w.heap.size+1,1,none⟩) (by simp) (.slice ta tn tc);have HT:=zAA ((hT.set (p:=⟨w.heap.size+1,0,none⟩) cF (.int .u8 te)).set (p:=⟨w.heap.size+1,1,none⟩) cF (.slice ta tn tc));clear KR aT hT;refine tnQ 16 (fun K hK=>?_);go_simp;refine hK.out _ _ (fun h=>absurd h (by decide)) ?_;clear hK K
 try simp only [Act.put,sT,sZ,sS]
 refine tnQ 17 (fun K hK=>?_);go_simp;refine hK.out _ _ (fun h=>absurd h (by decide)) ?_;clear hK K
 try simp only [Act.put,sT,sZ,sS]
 refine zAF (by kernel_rfl) ?_ _;go_wp2;exact bodyPost_ret (v:=.tuple #[.agg #[.int .u8 te,.slice ta tn tc],.int .i64 c]) (by simp [results,Tryz.results123,go_sem,r0,r1]) rfl ⟨_,_,rfl,HT.out.wide (fun i hi=>hi.1.elim .inl (fun h=>.inr (h.elim .inl (fun h=>.inr (Nat.le_trans b1.size h))))),BR⟩
theorem whole15 (k:Int):WholeDoes 15 k:=by
 intro ok cC w y S vl l dU eU hG hS hl ch fw;have ji:=zAA dU;have jZ:=zAA eU;clear dU eU;have e1:(Rn.shp (15:Int).toNat).2.1=2:=(by decide);have e2:(Rn.shp (15:Int).toNat).2.2.1=2:=(by decide);have e3:(Rn.shp (15:Int).toNat).2.2.2.1=0:=(by decide);have bh:l.length=2:=by
  have h1:=ch.lo;have h2:=ch.hi;rw [e1] at h1;rw [e2] at h2;omega
 have fp:S.length=0:=by
  have h1:=ch.sz;rw [e3] at h1;omega
 obtain ⟨a,b,rfl⟩:=two_of bh;clear bh fp e1 e2 e3;obtain ⟨R,hR⟩:=nmQ (Kd.whole 15 k S [a,b]);rw [<-hR];have HR:=zAA (show R=Kd.typed (Kd.same a b) a by rw [hR];unfold Kd.whole;simp);clear hR;obtain ⟨b1,kD,kZ⟩:=nw2 w (.cells #[.int .i64 y.op,.int .i64 y.k,.int .i64 y.n,.string y.name,.slice y.aS y.nS y.cS,.slice y.aL y.nL y.cL] 54 (0,0)) (.cells #[.int .u8 0,.slice none 0 0] 35 (0,0))
 have bh:=(hl.wide (ok':=fun i=>cC i/\i<w.heap.size) (fun i hi ak=>⟨hi,ak⟩)).under b1;have HL:=zAA bh;have HG:=zAA (hG.under b1);obtain ⟨la,lc,rfl,_,_,ai⟩:=bh.at;obtain ⟨bl,ol,aa,na,ca,rfl,yl,x0,x1,dl⟩:=ai 0 (by simp);obtain ⟨AF,yc,ab,nb,cb,ee,oO,z0,z1,eI⟩:=ai 1 (by simp);injection ee with ee;injection ee with e3 e4 _;subst e3 e4;clear oO;simp at x0 x1 dl z0 z1 eI;have eM:=zAA dl;have ij:=zAA eI;clear ai hl bh hG hS fw dl eI ch;go_enter Tryz.func123,Tryz.ntmps123;go_upto_region 1 with fail;generalize (w.alloc (.cells #[.int .i64 y.op,.int .i64 y.k,.int .i64 y.n,.string y.name,.slice y.aS y.nS y.cS,.slice y.aL y.nL y.cL] 54 (0,0))).alloc (.cells #[.int .u8 0,.slice none 0 0] 35 (0,0))=w1 at b1 kD kZ yl x0 x1 eM z0 z1 ij HL HG ⊢;have g0:=co kD 0;have g1:=co kD 1;have g4:=co kD 4;simp at g0 g1 g4;rw [ji.out] at g0;rw [jZ.out] at g1;have yD:=zAB kD;go_upto_region 21 with fail;refine zAE (fun w'=>Below w1.heap.size w1 w') (fun j=>j==13 || j==14) (by kernel_rfl) ?_;have af:Below w1.heap.size w1 w1.drew:=(Below.refl _ _).drew;generalize w1.drew=aW at af ⊢;refine' tkR 0 133 af ?o14
 refine' tkR 1 134 af ?o15
 refine' tkQ 2 135 af ?hyv ?o16
 case hyv=>
  intro wz ae;have bI:=(ae.cell (p:=⟨bl,ol,none⟩) yl).trans x0;have d9:=(ae.cell (p:=⟨bl,ol+1,none⟩) yl).trans x1;go_simp
  try rfl
 try simp only [Act.put,sT,sZ,sS]
 refine' tkR 3 136 af ?o17
 refine' tkR 4 137 af ?o18
 refine' tkQ 5 138 af ?hyv ?o19
 case hyv=>
  intro wz ae;have bI:=(ae.cell (p:=⟨bl,ol+2,none⟩) yl).trans z0;have d9:=(ae.cell (p:=⟨bl,ol+2+1,none⟩) yl).trans z1;go_simp
  try rfl
 try simp only [Act.put,sT,sZ,sS]
 refine' tkR 7 140 af ?o20
 refine' tkR 8 141 af ?o21
 refine' tkQ 9 142 af ?hyv ?o22
 case hyv=>
  intro wz ae;have bI:=(ae.cell (p:=⟨bl,ol,none⟩) yl).trans x0;have d9:=(ae.cell (p:=⟨bl,ol+1,none⟩) yl).trans x1;go_simp
  try rfl
 try simp only [Act.put,sT,sZ,sS]
 refine tnQ 6 (fun K hK=>?_);go_simp;refine (zBT (eM.out.under af) (ij.out.under af)).mono ?_;rintro eq cW ⟨rfl,dL⟩;have al:Below w1.heap.size w1 cW:=af.trans (dL.mono af.size);refine hK.out _ _ (fun _=>al) ?_;clear hK K
 try simp only [Act.put,sT,sZ,sS]
 refine tnQ 10 (fun K hK=>?_);go_simp;refine (zAi (eM.out.under al) (Kd.same a b)).mono ?_;rintro eq fY ⟨u,c,rfl,dw,ib⟩;have aK:Below w1.heap.size w1 fY:=al.trans (ib.mono al.size);rw [<-HR.out] at dw;refine hK.out _ _ (fun _=>aK) ?_;clear hK K
 try simp only [Act.put,sT,sZ,sS]
 have hT:=dw.wide (ok':=fun i=>(ok i\/cC i\/w1.heap.size<=i)/\i≠w.heap.size+1) (fun i hi=>?okw)
 case okw=>
  exact ⟨.inr (.inl hi.1),by have:=hi.2;omega⟩
 clear dw;have cF:¬((ok (w.heap.size+1)\/cC (w.heap.size+1)\/w1.heap.size<=w.heap.size+1)/\w.heap.size+1≠w.heap.size+1):=fun h=>h.2 rfl;refine' tkR 11 144 aK ?o23
 refine' tkR 12 145 aK ?o24
 obtain ⟨te,ta,tn,tc,rfl⟩:=hT.form;have aT:=(aK.block _ (zAB kZ)).trans kZ;have aX:=co aT 0;have st1:=co aT 1;have dr:=fo aT 0;have dp:=fo aT 1;simp at aX st1;have KR:=zAD (zAD aT 0 (.int .u8 te)) 1 (.slice ta tn tc);have r0:=co KR 0;have r1:=co KR 1;simp at r0 r1;have Bn:=b1.trans (aK.mono b1.size);have BR:=(Bn.setCell (p:=⟨w.heap.size+1,0,none⟩) (by simp) (.int .u8 te)).setCell (p:=⟨w.heap.size+1,1,none⟩) (by simp) (.slice ta tn tc);have HT:=zAA ((hT.set (p:=⟨w.heap.size+1,0,none⟩) cF (.int .u8 te)).set (p:=⟨w.heap.size+1,1,none⟩) cF (.slice ta tn tc));clear KR aT hT;refine tnQ 13 (fun K hK=>?_);go_simp;refine hK.out _ _ (fun h=>absurd h (by decide)) ?_;clear hK K
 try simp only [Act.put,sT,sZ,sS]
 refine tnQ 14 (fun K hK=>?_);go_simp;refine hK.out _ _ (fun h=>absurd h (by decide)) ?_;clear hK K
 try simp only [Act.put,sT,sZ,sS]
 refine zAF (by kernel_rfl) ?_ _;go_wp2;exact bodyPost_ret (v:=.tuple #[.agg #[.int .u8 te,.slice ta tn tc],.int .i64 c]) (by simp [results,Tryz.results123,go_sem,r0,r1]) rfl ⟨_,_,rfl,HT.out.wide (fun i hi=>hi.1.elim .inl (fun h=>.inr (h.elim .inl (fun h=>.inr (Nat.le_trans b1.size h))))),BR⟩
theorem whole6 (k:Int):WholeDoes 6 k:=by
 intro ok cC w y S vl l dU eU hG hS hl ch fw;have ji:=zAA dU;have jZ:=zAA eU;clear dU eU;have e1:(Rn.shp (6:Int).toNat).2.1=3:=(by decide);have e2:(Rn.shp (6:Int).toNat).2.2.1=3:=(by decide);have e3:(Rn.shp (6:Int).toNat).2.2.2.1=0:=(by decide);have bh:l.length=3:=by
  have h1:=ch.lo;have h2:=ch.hi;rw [e1] at h1;rw [e2] at h2;omega
 have fp:S.length=0:=by
  have h1:=ch.sz;rw [e3] at h1;omega
 obtain ⟨a,b,c3,rfl⟩:=zEv bh;clear bh fp e1 e2 e3;obtain ⟨R,hR⟩:=nmQ (Kd.whole 6 k S [a,b,c3]);rw [<-hR];have HR:=zAA (show R=Kd.typed (Kd.isSc a 98&&Kd.same b c3) b by rw [hR];unfold Kd.whole;simp);clear hR;obtain ⟨b1,kD,kZ⟩:=nw2 w (.cells #[.int .i64 y.op,.int .i64 y.k,.int .i64 y.n,.string y.name,.slice y.aS y.nS y.cS,.slice y.aL y.nL y.cL] 54 (0,0)) (.cells #[.int .u8 0,.slice none 0 0] 35 (0,0))
 have bh:=(hl.wide (ok':=fun i=>cC i/\i<w.heap.size) (fun i hi ak=>⟨hi,ak⟩)).under b1;have HL:=zAA bh;have HG:=zAA (hG.under b1);obtain ⟨la,lc,rfl,_,_,ai⟩:=bh.at;obtain ⟨bl,ol,aa,na,ca,rfl,yl,x0,x1,dl⟩:=ai 0 (by simp);obtain ⟨AF,yc,ab,nb,cb,ee,oO,z0,z1,eI⟩:=ai 1 (by simp);injection ee with ee;injection ee with e3 e4 _;subst e3 e4;clear oO;obtain ⟨Ak,AZ,ac,nc,cc,ee,qQ,v0,v1,lA⟩:=ai 2 (by simp);injection ee with ee;injection ee with e3 e4 _;subst e3 e4;clear qQ;simp at x0 x1 dl z0 z1 eI v0 v1 lA;have eM:=zAA dl;have ij:=zAA eI;have sq:=zAA lA;clear ai hl bh hG hS fw dl eI lA ch;go_enter Tryz.func123,Tryz.ntmps123;go_upto_region 1 with fail;generalize (w.alloc (.cells #[.int .i64 y.op,.int .i64 y.k,.int .i64 y.n,.string y.name,.slice y.aS y.nS y.cS,.slice y.aL y.nL y.cL] 54 (0,0))).alloc (.cells #[.int .u8 0,.slice none 0 0] 35 (0,0))=w1 at b1 kD kZ yl x0 x1 eM z0 z1 ij v0 v1 sq HL HG ⊢;have g0:=co kD 0;have g1:=co kD 1;have g4:=co kD 4;simp at g0 g1 g4;rw [ji.out] at g0;rw [jZ.out] at g1;have yD:=zAB kD;go_upto_region 9 with fail;obtain ⟨q,hq⟩:∃ q,Kd.isSc a 98=q:=⟨_,rfl⟩;have HQ:=zAA hq;clear hq
 cases q
 case false=>
  have j0:=zAA (show R=Kd.typed false b by rw [HR.out,HQ.out];rfl);refine zAE (fun w'=>Below w1.heap.size w1 w') (fun j=>j==19 || j==20) (by kernel_rfl) ?_;have af:Below w1.heap.size w1 w1.drew:=(Below.refl _ _).drew;generalize w1.drew=aW at af ⊢;refine' tkR 0 42 af ?o1
  refine' tkR 1 43 af ?o2
  refine' tkQ 2 44 af ?hyv ?o3
  case hyv=>
   intro wz ae;have bI:=(ae.cell (p:=⟨bl,ol,none⟩) yl).trans x0;have d9:=(ae.cell (p:=⟨bl,ol+1,none⟩) yl).trans x1;go_simp
   try rfl
  try simp only [Act.put,sT,sZ,sS]
  refine' tkR 13 55 af ?o4
  refine' tkR 14 56 af ?o5
  refine' tkQ 15 57 af ?hyv ?o6
  case hyv=>
   intro wz ae;have bI:=(ae.cell (p:=⟨bl,ol+2,none⟩) yl).trans z0;have d9:=(ae.cell (p:=⟨bl,ol+2+1,none⟩) yl).trans z1;go_simp
   try rfl
  try simp only [Act.put,sT,sZ,sS]
  refine tnQ 3 (fun K hK=>?_);go_simp;refine (zAZ (eM.out.under af) 98).mono ?_;rintro eq cW ⟨rfl,dL⟩;have al:Below w1.heap.size w1 cW:=af.trans (dL.mono af.size);rw [HQ.out];refine hK.out _ _ (fun _=>al) ?_;clear hK K
  try simp only [Act.put,sT,sZ,sS]
  refine' tkR 4 46 al ?o7
  refine zAG (i:=5) (oi:=⟨some 47,_,_,_,_,_⟩) rfl (by kernel_rfl) (by kernel_rfl) (by kernel_rfl) (by kernel_rfl) (fun _ _ _ h=>h) al (by rfl) ?_
  try simp only [Act.put,sT,sZ,sS]
  refine zAG (i:=6) (oi:=⟨some 48,_,_,_,_,_⟩) rfl (by kernel_rfl) (by kernel_rfl) (by kernel_rfl) (by kernel_rfl) (fun _ _ _ h=>h) al (by rfl) ?_
  try simp only [Act.put,sT,sZ,sS]
  refine zAG (i:=7) (oi:=⟨some 49,_,_,_,_,_⟩) rfl (by kernel_rfl) (by kernel_rfl) (by kernel_rfl) (by kernel_rfl) (fun _ _ _ h=>h) al (by rfl) ?_
  try simp only [Act.put,sT,sZ,sS]
  refine zAG (i:=8) (oi:=⟨some 50,_,_,_,_,_⟩) rfl (by kernel_rfl) (by kernel_rfl) (by kernel_rfl) (by kernel_rfl) (fun _ _ _ h=>h) al (by rfl) ?_
  try simp only [Act.put,sT,sZ,sS]
  refine zAG (i:=9) (oi:=⟨some 51,_,_,_,_,_⟩) rfl (by kernel_rfl) (by kernel_rfl) (by kernel_rfl) (by kernel_rfl) (fun _ _ _ h=>h) al (by rfl) ?_
  try simp only [Act.put,sT,sZ,sS]
  refine zAG (i:=10) (oi:=⟨some 52,_,_,_,_,_⟩) rfl (by kernel_rfl) (by kernel_rfl) (by kernel_rfl) (by kernel_rfl) (fun _ _ _ h=>h) al (by rfl) ?_
  try simp only [Act.put,sT,sZ,sS]
  refine zAG (i:=11) (oi:=⟨some 53,_,_,_,_,_⟩) rfl (by kernel_rfl) (by kernel_rfl) (by kernel_rfl) (by kernel_rfl) (fun _ _ _ h=>h) al (by rfl) ?_
  try simp only [Act.put,sT,sZ,sS]
  refine' tkR 12 54 al ?o8
  refine tnQ 16 (fun K hK=>?_);go_simp;refine (zAi (ij.out.under al) false).mono ?_;rintro eq fY ⟨u,c,rfl,dw,ib⟩;have aK:Below w1.heap.size w1 fY:=al.trans (ib.mono al.size);rw [<-j0.out] at dw;refine hK.out _ _ (fun _=>aK) ?_;clear hK K
  try simp only [Act.put,sT,sZ,sS]
  have hT:=dw.wide (ok':=fun i=>(ok i\/cC i\/w1.heap.size<=i)/\i≠w.heap.size+1) (fun i hi=>?okw)
  case okw=>
   exact ⟨.inr (.inl hi.1),by have:=hi.2;omega⟩
  clear dw;have cF:¬((ok (w.heap.size+1)\/cC (w.heap.size+1)\/w1.heap.size<=w.heap.size+1)/\w.heap.size+1≠w.heap.size+1):=fun h=>h.2 rfl;refine' tkR 17 59 aK ?o9
  refine' tkR 18 60 aK ?o10
  obtain ⟨te,ta,tn,tc,rfl⟩:=hT.form;have aT:=(aK.block _ (zAB kZ)).trans kZ;have aX:=co aT 0;have st1:=co aT 1;have dr:=fo aT 0;have dp:=fo aT 1;simp at aX st1;have KR:=zAD (zAD aT 0 (.int .u8 te)) 1 (.slice ta tn tc);have r0:=co KR 0;have r1:=co KR 1;simp at r0 r1;have Bn:=b1.trans (aK.mono b1.size);have BR:=(Bn.setCell (p:=⟨w.heap.size+1,0,none⟩) (by simp) (.int .u8 te)).setCell (p:=⟨w.heap.size+1,1,none⟩) (by simp) (.slice ta tn tc);have HT:=zAA ((hT.set (p:=⟨w.heap.size+1,0,none⟩) cF (.int .u8 te)).set (p:=⟨w.heap.size+1,1,none⟩) cF (.slice ta tn tc));clear KR aT hT;refine tnQ 19 (fun K hK=>?_);go_simp;refine hK.out _ _ (fun h=>absurd h (by decide)) ?_;clear hK K
  try simp only [Act.put,sT,sZ,sS]
  refine tnQ 20 (fun K hK=>?_);go_simp;refine hK.out _ _ (fun h=>absurd h (by decide)) ?_;clear hK K
  try simp only [Act.put,sT,sZ,sS]
  refine zAF (by kernel_rfl) ?_ _;go_wp2;exact bodyPost_ret (v:=.tuple #[.agg #[.int .u8 te,.slice ta tn tc],.int .i64 c]) (by simp [results,Tryz.results123,go_sem,r0,r1]) rfl ⟨_,_,rfl,HT.out.wide (fun i hi=>hi.1.elim .inl (fun h=>.inr (h.elim .inl (fun h=>.inr (Nat.le_trans b1.size h))))),BR⟩
 case true=>
  have j0:=zAA (show R=Kd.typed (Kd.same b c3) b by rw [HR.out,HQ.out];rfl);refine zAE (fun w'=>Below w1.heap.size w1 w') (fun j=>j==19 || j==20) (by kernel_rfl) ?_;have af:Below w1.heap.size w1 w1.drew:=(Below.refl _ _).drew;generalize w1.drew=aW at af ⊢;refine' tkR 0 42 af ?o11
  refine' tkR 1 43 af ?o12
  refine' tkQ 2 44 af ?hyv ?o13
  case hyv=>
   intro wz ae;have bI:=(ae.cell (p:=⟨bl,ol,none⟩) yl).trans x0;have d9:=(ae.cell (p:=⟨bl,ol+1,none⟩) yl).trans x1;go_simp
   try rfl
  try simp only [Act.put,sT,sZ,sS]
  refine' tkR 13 55 af ?o14
  refine' tkR 14 56 af ?o15
  refine' tkQ 15 57 af ?hyv ?o16
  case hyv=>
   intro wz ae;have bI:=(ae.cell (p:=⟨bl,ol+2,none⟩) yl).trans z0;have d9:=(ae.cell (p:=⟨bl,ol+2+1,none⟩) yl).trans z1;go_simp
   try rfl
  try simp only [Act.put,sT,sZ,sS]
  refine tnQ 3 (fun K hK=>?_);go_simp;refine (zAZ (eM.out.under af) 98).mono ?_;rintro eq cW ⟨rfl,dL⟩;have al:Below w1.heap.size w1 cW:=af.trans (dL.mono af.size);rw [HQ.out];refine hK.out _ _ (fun _=>al) ?_;clear hK K
  try simp only [Act.put,sT,sZ,sS]
  refine' tkR 4 46 al ?o17
  refine' tkR 5 47 al ?o18
  refine' tkR 6 48 al ?o19
  refine' tkQ 7 49 al ?hyv ?o20
  case hyv=>
   intro wz ae;have bI:=(ae.cell (p:=⟨bl,ol+2,none⟩) yl).trans z0;have d9:=(ae.cell (p:=⟨bl,ol+2+1,none⟩) yl).trans z1;go_simp
   try rfl
  try simp only [Act.put,sT,sZ,sS]
  refine' tkR 8 50 al ?o21
  refine' tkR 9 51 al ?o22
  refine' tkQ 10 52 al ?hyv ?o23
  case hyv=>
   intro wz ae;have bI:=(ae.cell (p:=⟨bl,ol+4,none⟩) yl).trans v0;have d9:=(ae.cell (p:=⟨bl,ol+4+1,none⟩) yl).trans v1;go_simp
   try rfl
  try simp only [Act.put,sT,sZ,sS]
  refine tnQ 11 (fun K hK=>?_);go_simp;refine (zBT (ij.out.under al) (sq.out.under al)).mono ?_;rintro eq fY ⟨rfl,ib⟩;have aK:Below w1.heap.size w1 fY:=al.trans (ib.mono al.size);refine hK.out _ _ (fun _=>aK) ?_;clear hK K
  try simp only [Act.put,sT,sZ,sS]
  refine' tkR 12 54 aK ?o24
  refine tnQ 16 (fun K hK=>?_);go_simp;refine (zAi (ij.out.under aK) (Kd.same b c3)).mono ?_;rintro eq qH ⟨u,c,rfl,dw,rv⟩;have g9:Below w1.heap.size w1 qH:=aK.trans (rv.mono aK.size);rw [<-j0.out] at dw;refine hK.out _ _ (fun _=>g9) ?_;clear hK K
  try simp only [Act.put,sT,sZ,sS]
  have hT:=dw.wide (ok':=fun i=>(ok i\/cC i\/w1.heap.size<=i)/\i≠w.heap.size+1) (fun i hi=>?okw)
  case okw=>
   exact ⟨.inr (.inl hi.1),by have:=hi.2;omega⟩
  clear dw;have cF:¬((ok (w.heap.size+1)\/cC (w.heap.size+1)\/w1.heap.size<=w.heap.size+1)/\w.heap.size+1≠w.heap.size+1):=fun h=>h.2 rfl;refine' tkR 17 59 g9 ?o25
  refine' tkR 18 60 g9 ?o26
  obtain ⟨te,ta,tn,tc,rfl⟩:=hT.form;have aT:=(g9.block _ (zAB kZ)).trans kZ;have aX:=co aT 0;have st1:=co aT 1;have dr:=fo aT 0;have dp:=fo aT 1;simp at aX st1;have KR:=zAD (zAD aT 0 (.int .u8 te)) 1 (.slice ta tn tc);have r0:=co KR 0;have r1:=co KR 1;simp at r0 r1;have Bn:=b1.trans (g9.mono b1.size);have BR:=(Bn.setCell (p:=⟨w.heap.size+1,0,none⟩) (by simp) (.int .u8 te)).setCell (p:=⟨w.heap.size+1,1,none⟩) (by simp) (.slice ta tn tc);have HT:=zAA ((hT.set (p:=⟨w.heap.size+1,0,none⟩) cF (.int .u8 te)).set (p:=⟨w.heap.size+1,1,none⟩) cF (.slice ta tn tc));clear KR aT hT;refine tnQ 19 (fun K hK=>?_);go_simp;refine hK.out _ _ (fun h=>absurd h (by decide)) ?_;clear hK K
  try simp only [Act.put,sT,sZ,sS]
  refine tnQ 20 (fun K hK=>?_);go_simp;refine hK.out _ _ (fun h=>absurd h (by decide)) ?_;clear hK K
  try simp only [Act.put,sT,sZ,sS]
  refine zAF (by kernel_rfl) ?_ _;go_wp2;exact bodyPost_ret (v:=.tuple #[.agg #[.int .u8 te,.slice ta tn tc],.int .i64 c]) (by simp [results,Tryz.results123,go_sem,r0,r1]) rfl ⟨_,_,rfl,HT.out.wide (fun i hi=>hi.1.elim .inl (fun h=>.inr (h.elim .inl (fun h=>.inr (Nat.le_trans b1.size h))))),BR⟩
theorem whole4 (k:Int):WholeDoes 4 k:=by
 intro ok cC w y S vl l dU eU hG hS hl ch fw;have ji:=zAA dU;have jZ:=zAA eU;clear dU eU;obtain ⟨R,hR⟩:=nmQ (Kd.whole 4 k S l);rw [<-hR];have HR:=zAA (show R=Kd.typed (l.all fun t=>Kd.isSc t (Kd.opT k).1) (Kd.sc (Kd.opT k).2.1) by rw [hR];unfold Kd.whole;simp);clear hR;obtain ⟨b1,kD,kZ⟩:=nw2 w (.cells #[.int .i64 y.op,.int .i64 y.k,.int .i64 y.n,.string y.name,.slice y.aS y.nS y.cS,.slice y.aL y.nL y.cL] 54 (0,0)) (.cells #[.int .u8 0,.slice none 0 0] 35 (0,0))
 have hc:=zBR k (hl.under b1) (hG.under b1);obtain ⟨la,lc,rfl,_,_,_⟩:=hl.at;rw [<-HR.out] at hc;obtain ⟨n,hn⟩:=nmQ (l.length);rw [<-hn] at hc ⊢;clear hl hG hS fw ch hn HR;go_enter Tryz.func123,Tryz.ntmps123;go_upto_region 1 with fail;generalize (w.alloc (.cells #[.int .i64 y.op,.int .i64 y.k,.int .i64 y.n,.string y.name,.slice y.aS y.nS y.cS,.slice y.aL y.nL y.cL] 54 (0,0))).alloc (.cells #[.int .u8 0,.slice none 0 0] 35 (0,0))=w1 at b1 kD kZ hc ⊢;have g0:=co kD 0;have g1:=co kD 1;simp at g0 g1;rw [ji.out] at g0;rw [jZ.out] at g1;go_upto_region 22 with fail;go_wp2_with fail;refine hc.mono ?_;rintro e w2 ⟨u,c,rfl,hT,b2⟩;clear hc;have Bn:=b1.trans (b2.mono b1.size);have aT:=(b2.block _ (zAB kZ)).trans kZ;have z2:=zAB kZ;obtain ⟨te,ta,tn,tc,rfl⟩:=hT.form;have cF:¬(w1.heap.size<=w.heap.size+1):=(by omega);have aX:=co aT 0;have st1:=co aT 1;have dr:=fo aT 0;have dp:=fo aT 1;simp at aX st1;have KR:=zAD (zAD aT 0 (.int .u8 te)) 1 (.slice ta tn tc);have r0:=co KR 0;have r1:=co KR 1;simp at r0 r1;have BR:=(Bn.setCell (p:=⟨w.heap.size+1,0,none⟩) (by simp) (.int .u8 te)).setCell (p:=⟨w.heap.size+1,1,none⟩) (by simp) (.slice ta tn tc);have HT:=zAA ((hT.set (p:=⟨w.heap.size+1,0,none⟩) cF (.int .u8 te)).set (p:=⟨w.heap.size+1,1,none⟩) cF (.slice ta tn tc));clear KR aT hT;go_wp2;exact bodyPost_ret (v:=.tuple #[.agg #[.int .u8 te,.slice ta tn tc],.int .i64 c]) (by simp [results,Tryz.results123,go_sem,r0,r1]) rfl ⟨_,_,rfl,HT.out.wide (fun i hi=>.inr (.inr (Nat.le_trans b1.size hi))),BR⟩
theorem whole5 (k:Int):WholeDoes 5 k:=by
 intro ok cC w y S vl l dU eU hG hS hl ch fw;have ji:=zAA dU;have jZ:=zAA eU;clear dU eU;obtain ⟨R,hR⟩:=nmQ (Kd.whole 5 k S l);rw [<-hR];have HR:=zAA (show R=Kd.typed (l.all fun t=>Kd.isSc t (Kd.opT k).1) (Kd.sc (Kd.opT k).2.1) by rw [hR];unfold Kd.whole;simp);clear hR;obtain ⟨b1,kD,kZ⟩:=nw2 w (.cells #[.int .i64 y.op,.int .i64 y.k,.int .i64 y.n,.string y.name,.slice y.aS y.nS y.cS,.slice y.aL y.nL y.cL] 54 (0,0)) (.cells #[.int .u8 0,.slice none 0 0] 35 (0,0))
 have hc:=zBR k (hl.under b1) (hG.under b1);obtain ⟨la,lc,rfl,_,_,_⟩:=hl.at;rw [<-HR.out] at hc;obtain ⟨n,hn⟩:=nmQ (l.length);rw [<-hn] at hc ⊢;clear hl hG hS fw ch hn HR;go_enter Tryz.func123,Tryz.ntmps123;go_upto_region 1 with fail;generalize (w.alloc (.cells #[.int .i64 y.op,.int .i64 y.k,.int .i64 y.n,.string y.name,.slice y.aS y.nS y.cS,.slice y.aL y.nL y.cL] 54 (0,0))).alloc (.cells #[.int .u8 0,.slice none 0 0] 35 (0,0))=w1 at b1 kD kZ hc ⊢;have g0:=co kD 0;have g1:=co kD 1;simp at g0 g1;rw [ji.out] at g0;rw [jZ.out] at g1;go_upto_region 22 with fail;go_wp2_with fail;refine hc.mono ?_;rintro e w2 ⟨u,c,rfl,hT,b2⟩;clear hc;have Bn:=b1.trans (b2.mono b1.size);have aT:=(b2.block _ (zAB kZ)).trans kZ;have z2:=zAB kZ;obtain ⟨te,ta,tn,tc,rfl⟩:=hT.form;have cF:¬(w1.heap.size<=w.heap.size+1):=(by omega);have aX:=co aT 0;have st1:=co aT 1;have dr:=fo aT 0;have dp:=fo aT 1;simp at aX st1;have KR:=zAD (zAD aT 0 (.int .u8 te)) 1 (.slice ta tn tc);have r0:=co KR 0;have r1:=co KR 1;simp at r0 r1;have BR:=(Bn.setCell (p:=⟨w.heap.size+1,0,none⟩) (by simp) (.int .u8 te)).setCell (p:=⟨w.heap.size+1,1,none⟩) (by simp) (.slice ta tn tc);have HT:=zAA ((hT.set (p:=⟨w.heap.size+1,0,none⟩) cF (.int .u8 te)).set (p:=⟨w.heap.size+1,1,none⟩) cF (.slice ta tn tc));clear KR aT hT;go_wp2;exact bodyPost_ret (v:=.tuple #[.agg #[.int .u8 te,.slice ta tn tc],.int .i64 c]) (by simp [results,Tryz.results123,go_sem,r0,r1]) rfl ⟨_,_,rfl,HT.out.wide (fun i hi=>.inr (.inr (Nat.le_trans b1.size hi))),BR⟩
end Go.Proofs.YtkfgbhlpjkkgfaaGreatDoor
