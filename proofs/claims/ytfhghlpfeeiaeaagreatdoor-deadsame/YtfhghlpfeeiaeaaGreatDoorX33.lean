import Derived.Test.YtfhghlpfeeiaeaaGreatDoorX32
set_option linter.unusedVariables false
set_option linter.unusedSimpArgs false
set_option maxHeartbeats 64000000
set_option maxRecDepth 100000
namespace Go.Proofs.YtfhghlpfeeiaeaaGreatDoor
open Go.RowKit Go.IntWalk
theorem ruleD_any {L:List Nat} {mb vb:Nat} {g:MgV} {S:Sk.Sys} {ah:Int->Option (List Int)} {C:List (List Int)} {w:World} {i:Nat} (hs:MgSt L mb vb g S ah C w) (hi:i<S.R.length) (gj:∀ v ∈ S.V,Sk.VrOk v) (hF:Sk.RFit S.V C ah S.R[i]) (hX:Sk.RFx S.V C ah S.R[i]) (hC:Sk.WdC C) (hB:∀ z,(Sk.cAt C z).length<=300) (hN:I64 (S.R[i]).n) (Og:S.R.length<=400)
  (hO:∀ z ∈ Sk.needs S.R[i],∀ L',(∀ q ∈ L,q ∈ L')->OfAt L' mb vb g S ah C z):Calls Tryz.prog 66 #[.pointer (some ⟨mb,0,none⟩),.int .i64 (i:Int)] w (RuleD L mb vb g S ah C S.R[i] w):=by
 have rv:vb<w.heap.size:=hs.lt _ hs.vL;have uj:mb<w.heap.size:=hs.lt _ hs.mL;have gF:mb≠vb:=hs.ne;have fF:=zBK hs.vL;have fQ:=zBK hs.mL;have hm:=hs.m;have c0:=coQ hm 0;have c3:=coQ hm 3;have c4:=coQ hm 4;have c6:=coQ hm 6;simp at c0 c3 c4 c6;obtain ⟨a3,k3,lu,jf,fb,dr⟩:=hs.sys.R.at;injection lu with p1 p2 p3;obtain ⟨bR,oR,y,fU,yR,bo,dA⟩:=dr i hi;rw [p1,fU] at c3;rw [<-p3] at jf fb;generalize g.cR=cR at c3 jf fb;unfold maxLen at fb;obtain ⟨a0,k0,NS,iy,jg,gN⟩:=hs.sys.V.at;injection NS with z1 z2 z3;rw [<-z3] at iy jg;unfold maxLen at jg;have ho:=hF.out;have eb:=hF.op;have oH:=hF.nA;have kv:=zBK gj;have Jc:=zBK hs.keep;obtain ⟨r,hr⟩:=nmQ (S.R[i]);have yu:=zBK hr;rw [<-hr] at bo dA ho eb oH hF hX hN hO ⊢;clear hr;obtain ⟨op,rk,out,rn,A,E⟩:=r;obtain ⟨d0,d1,d2,d3,d4,d5⟩:=bo
 dsimp only at d0 d1 d2 d3 d4 d5 ho eb oH hN
 have lH:=dA.A;have nU:=dA.E
 dsimp only at lH nU
 obtain ⟨AO,pJ,pK,pM,la,gM⟩:=lH.at;injection pK with x1 x2 x3;have Gd:A.length<=3:=by
  have h8:∀ j:Fin 17,Sk.partsT.getD j.1 0<=3:=(by decide);have h9:Sk.partsT.getD op.toNat 0<=3:=h8 ⟨op.toNat,by omega⟩;omega
 have lW:=zBK oH;have Fs:=zBK eb;clear oH eb;obtain ⟨jo,rfl⟩:∃ j:Nat,out=(j:Int):=⟨out.toNat,by omega⟩;have rm:jo<S.V.length:=(by omega);obtain ⟨bV,oV,gV,yV,-,v1⟩:=gN jo rm;rw [z1,gV] at c0;generalize g.cV=cV at c0 iy jg;obtain ⟨vv,iz⟩:=nmQ (S.V[jo]);have jL:Sk.vAt S.V (jo:Int)=vv:=(by rw [zBo rm,iz]);rw [<-iz] at v1;have lq:=zBK jL;have gE:=zCH vv;have lC:=hF.sz
 dsimp only at lC
 rw [jL] at lC;have nG:=Sk.cnt_pos vv;obtain ⟨cn,wT⟩:=nmQ (Sk.cnt vv);rw [<-wT] at gE lC nG;have gU:=zBK (show Sk.cnt (Sk.vAt S.V (jo:Int))=cn by rw [jL,wT]);have b1:Below w.heap.size w (w.alloc (.cells #[.int .i64 op,.int .i64 rk,.int .i64 (jo:Int),.int .i64 rn,.slice y.aA y.nA y.cA,.slice y.aE y.nE y.cE] 42 (0,0))):=(Below.refl _ _).alloc zBR _;have kR:=zBO w (.cells #[.int .i64 op,.int .i64 rk,.int .i64 (jo:Int),.int .i64 rn,.slice y.aA y.nA y.cA,.slice y.aE y.nE y.cE] 42 (0,0));have ij:=zBK (hs.under b1);have HF:=zBK hF;have HX:=zBK hX;have HC:=zBK hC;have HB:=zBK hB;have HO:=zBK hO;have HN:=zBK hN;have vA:=zBK (fun (W:World) (a:Aside [vb] w.heap.size w W)=>ints_keep lH a fF.out);have Fx:=zBK (fun (W:World) (a:Aside [vb] w.heap.size w W)=>zCD nU a fF.out);have vB:=zBK (fun (W:World) (a:Aside [vb] w.heap.size w W) (L2:List Nat) (hn:∀ q ∈ L2,q ∈ L\/w.heap.size<=q)=>show HPu (· ∉ L2) W (.slice y.aE y.nE y.cE) E from ((nU.wide (ok':=fun i=>i ∉ L/\i<w.heap.size) (fun i hi hl=>⟨hi,hl⟩)).keep a.size (fun i hi hl=>a.block i hl (by simp;intro e;exact hi.1 (e ▸ fF.out)))).wide (fun i hi _ hm=>by rcases hn i hm with q | q;exact hi.1 q;omega));clear hs hm dr gN dA hF hX hC hB hO hN gj p2 z2 fU gV iz jL wT lH nU gM x1 x2 x3 pM la;go_enter Tryz.func66,Tryz.ntmps66;go_upto_region 2 with fail;clear d0 d1 d2 d3 d4 d5;generalize (w.alloc (.cells #[.int .i64 op,.int .i64 rk,.int .i64 (jo:Int),.int .i64 rn,.slice y.aA y.nA y.cA,.slice y.aE y.nE y.cE] 42 (0,0)))=w1 at b1 kR ij ⊢;have r2:=coQ kR 2;simp at r2;have yr:=zBM kR;have q0:=(b1.cell (p:=⟨mb,0,none⟩) uj).trans c0;have qv:=(b1.cell (p:=⟨bV,oV+jo*2+1,none⟩) yV).trans v1;have ym:=Nat.lt_of_lt_of_le uj b1.size;have yv:=Nat.lt_of_lt_of_le yV b1.size;go_upto_region 2 with fail;have aM:=zBK (fun (wz:World) (hSw:Below w1.heap.size w1 wz)=>And.intro ((hSw.cell (p:=⟨mb,0,none⟩) ym).trans q0) (And.intro ((hSw.cell (p:=⟨w.heap.size,2,none⟩) yr).trans r2) ((hSw.cell (p:=⟨bV,oV+jo*2+1,none⟩) yv).trans qv)));refine zBP (fun w'=>Below w1.heap.size w1 w') (fun _=>false) (by kernel_rfl) ?_;have ab:Below w1.heap.size w1 w1.drew:=(Below.refl _ _).drew;generalize w1.drew=ag at ab ⊢;refine' tkR 0 24 ab ?o1
 refine' tkR 1 25 ab ?o2
 refine' tkR 2 26 ab ?o3
 refine' tkR 3 27 ab ?o4
 refine' tkQ 4 28 ab ?hyv ?o5
 case hyv=>
  intro wz hSw;have bk:=aM.out wz hSw;go_simp
  try rfl
 try simp only [Act.put,sT,sZ,sS]
 refine' tkR 5 29 ab ?o6
 refine' tkQ 6 30 ab ?hyv ?o7
 case hyv=>
  intro wz hSw;have bk:=aM.out wz hSw;go_simp
  try rfl
 try simp only [Act.put,sT,sZ,sS]
 refine' tkR 7 31 ab ?o8
 refine' tkR 8 32 ab ?o9
 refine' tkQ 9 33 ab ?hyv ?o10
 case hyv=>
  intro wz hSw;have bk:=aM.out wz hSw;go_simp
  try rfl
 try simp only [Act.put,sT,sZ,sS]
 refine tnQ 10 (fun K hK=>?_);go_simp;refine (gE ag).mono ?_;rintro eq aw ⟨rfl,tM⟩;have af:Below w1.heap.size w1 aw:=tM ▸ ab;refine hK.out _ _ (fun _=>af) ?_;clear hK K
 try simp only [Act.put,sT,sZ,sS]
 refine' tkR 11 6 af ?o11
 refine zBN (by kernel_rfl) ?_ _;have ny:=af;obtain ⟨w2,l7⟩:∃ x,x=aw:=⟨_,rfl⟩;subst l7;have B2:=b1.trans (ny.mono b1.size);have td:=(ny.block _ yr).trans kR;have tJ:=zBK (ij.out.under ny);have xo:mb<w2.heap.size:=Nat.lt_of_lt_of_le uj B2.size;have Ht:vb<w2.heap.size:=Nat.lt_of_lt_of_le rv B2.size;have DF:=(B2.cell (p:=⟨mb,4,none⟩) uj).trans c4;have Nw:=(B2.cell (p:=⟨mb,6,none⟩) uj).trans c6;have Ds:=zBK (PtsAt.start tJ.out ⟨xo,Ht⟩);clear q0 qv c0 c3 c4 c6 r2 v1 ij ny kR ym yv yV yR iy jg jf fb;obtain ⟨nA,G2⟩:=nmQ (A.length);have Dn:=zBK G2;go_wp2_with fail;by_cases jJ:op=13
 case pos=>
  subst jJ;have la:A.length=2:=(by have h1:Sk.partsT.getD (13:Int).toNat 0=2:=rfl;have h2:=lW.out;omega);have vx:=zBK (show ∀ L',(∀ q ∈ L,q ∈ L')->OfAt L' mb vb g S ah C A[0] from HO.out _ (by rw [Sk.needs_pre la];exact List.mem_cons.2 (.inl rfl)));go_loopg [7,8] 1 (fun gh v7 v8 wr=>∃ (k:Nat) (us:List Value) (L':List Nat),k<=1/\gh=1-k/\v8=.int .i64 (k:Nat)/\Hid (PtsAt L L' mb vb g S ah C w2.heap.size wr v7 us (A.take k))/\Aside [vb] w2.heap.size w2 wr)
  case atStart=>exact ⟨0,[],L,Nat.zero_le _,rfl,rfl,Ds,Aside.refl _⟩
  case round=>
   clear Ds;obtain ⟨k,us,L',hk,rfl,rfl,HP,aR⟩:=hrel;obtain ⟨sa,sc,rfl,nc,kI⟩:=HP.out.own.form;unfold maxLen at kI;have IA:=zBM td;have dh:w.heap.size ∉ [vb]:=(by simp;omega);have jY:mb ∉ [vb]:=(by simp;exact gF);have jh:=aR.keep td IA dh;have r0:=coQ jh 0;have r4:=coQ jh 4;simp at r0 r4;have fK:=(aside (S:=[vb]) B2).trans aR B2.size;have oK:=vA.out _ fK;obtain ⟨AO,pJ,pK,pM,my,gM⟩:=oK.at;injection pK with x1 x2 x3;rw [x2] at oK;rw [x2] at r4;rw [<-x3] at pM my;unfold maxLen at my;clear x2 x3;obtain ⟨va,xH⟩:=nmQ (us.length);by_cases bd:k<1
   case pos=>
    obtain rfl:k=0:=by omega
    have nM:0<A.length:=(by omega);have pC:=zBK (show A.take (0+1)=A.take 0++[A[0]] from List.take_succ_eq_append_getElem nM);obtain ⟨bA,oA,jT,yA,xA⟩:=gM 0 nM;rw [x1,jT] at r4;have vy:=zBK (vx.out L' HP.out.sub);generalize A[0]=z at xA pC vy;clear gM jT x1 oK vx;simp at xA;generalize A.length=Mc at *;go_wp2_with fail;refine (vy.out _ HP.out.st).mono ?_;rintro e wo ⟨u,rfl,hu,cQ,ao⟩;have rY:=zBK (HP.out.past ao cQ);have HU:=zBK hu;obtain ⟨au,cu,eu,-⟩:=hu;subst eu;generalize (Sk.cAt C z).length=nz at HU ⊢;have aO:=aR.trans ao aR.size;have dt:w2.heap.size<=wo.heap.size:=aO.size;have cK:=zBK rY.out.own;have dn:=zBK (fun q (hq:(Value.slice sa us.length sc).ownBlock=some q)=>(rY.out.own.lt q hq).2);have xG:us.length<=3:=(by have h:=rY.out.len;rw [List.length_take] at h;omega);have q5:(us.length+1)*24<=140737488355328:=(by omega);have q6:us.length+1<=maxLen:=(by unfold maxLen;omega);clear cQ r0 r4 xA HP vy
    go_wp2_with (at_builtin;refine zBW kHd rfl _ _ 27 44 rfl Tryz.underlying27 w2.heap.size wo.heap.size _ us (by rfl) cK.out [.slice (some au) nz cu] (.slice (some au) nz cu) ⟨rfl,HU.out.one⟩ (by rfl) dn.out dt dt q5 q6 ?_;intro v8 w8 aG b8 g8 m8;have di:=zBK aG;have eQ:=zBK g8;have eN:=zBK m8;clear aG g8 m8)
    obtain ⟨L2,iR⟩:=rY.out.more (z:=z) HU.out dt di.out eQ.out eN.out;have rZ:=zBK iR;clear iR;go_roundg (1-(0+1))
    case measure=>omega
    case rel=>exact ⟨0+1,_,L2,by omega,rfl,by go_num,zBK (by rw [pC.out];exact rZ.out),aO.trans (aside b8) zBR⟩
   case neg=>
    have bp:k=1:=(by omega);subst bp;clear bd gM x1 oK pM my xH va;have xN:A.take 1=[A[0]]:=by
     have h:=List.take_succ_eq_append_getElem (l:=A) (i:=0) (by omega)
     simpa using h
    rw [xN] at HP;obtain ⟨w5,uD⟩:∃ x,x=wr:=⟨_,rfl⟩;subst uD;have Nx:=(zBL aR (p:=⟨mb,6,none⟩) xo jY).trans Nw;have Nv:=(zBL aR (p:=⟨mb,4,none⟩) xo jY).trans DF;obtain ⟨ga,rfl,eM,eP,jc⟩:=HP.out.head (by simp);obtain ⟨a0,k0,x0,cM⟩:=HP.out.part (j:=0) (by simp);simp only [List.getElem_cons_zero] at x0 cM;rw [Sk.pt_get (C:=C) (op:=13) (k:=rk) (out:=(jo:Int)) (n:=rn) (A:=A) (E:=E) (j:=0) (by omega)] at x0 cM;obtain ⟨P0,cB⟩:∃ P,P=Sk.pt C ⟨13,rk,(jo:Int),rn,A,E⟩ 0:=⟨_,rfl⟩;rw [<-cB] at x0 cM;have cz:P0.length<=300:=(by rw [cB];exact HB.out _);have eZ:0<P0.length:=(by rw [cB];exact (by rw [(HX.out.f13 rfl).1];exact Sk.cnt_pos _));have lS:=zBK cM;obtain ⟨b0,o0,rfl,-,nW,iq,fq,gQ,eL⟩:=cM.opened eZ;unfold maxLen at iq;have iF:=zBK eL;have db:=zBK cB;clear cM eL cB;have nP:(⟨13,rk,(jo:Int),rn,A,E⟩:Sk.Ru) ∈ S.R:=(by rw [yu.out];exact List.getElem_mem hi);rcases HP.out.st.keep with ⟨hz,sN⟩ | ⟨xy,kb,ks,ek,Ro,xd,dC⟩
    case inl=>
     have jK:=sN _ nP rfl;have fw:=zBK (show Sk.evalR S.V C ah ⟨13,rk,(jo:Int),rn,A,E⟩=P0 by
      rw [Sk.evalR_pre rfl (by rw [jK];exact (HX.out.f13 rfl).1),jK];exact db.out.symm)
     rw [hz] at Nx;clear sN jK hz;obtain ⟨yD,zm,Ml,uN,oZ,pG⟩:=zBf kLong (w:=w5) 44 44 Tryz.underlying44 (ok:=(· ∉ L')) lS.out (fun _ _ _ _ _ h=>h) (by show P0.length*8<=_;omega) (by unfold maxLen;omega);have dW:=zBK (zBd oZ (fun q hq=>HP.out.st.lt q (HP.out.sub q hq)) eZ);have dy:=zBK ((HP.out.st.less HP.out.sub fQ.out fF.out).under pG);have eI:=zBK (fK.trans (aside pG) fK.size);have qY:=zBK uN;clear oZ pG uN
     go_wp2_with (at_builtin;refine zBc rfl _ _ 44 rfl _ _ _ (by rfl) (by rfl) qY.out ?_)
     exact bodyPost_ret (v:=.slice yD P0.length zm) (by simp [results,Tryz.results66,go_sem]) rfl ⟨_,rfl,(by rw [fw.out];exact dW.out),dy.out,eI.out⟩
    case inr=>
     obtain ⟨l,u,e1,e2,dA⟩:=dC i hi (by rw [<-yu.out]);rw [<-yu.out] at e1;have xf:=(HX.out.f13 rfl).2 l e1;have fw:=zBK (show Sk.evalR S.V C ah ⟨13,rk,(jo:Int),rn,A,E⟩=l by
      rw [Sk.evalR_pre rfl (by rw [e1];exact xf),e1];rfl)
     rw [ek] at Nv;have ck:=coQ xd i;rw [e2] at ck;have Rw:decide (g.rows>0)=true:=(by simp;omega);have dW:=zBK (dA.less HP.out.sub);obtain ⟨au,cu,eu,-⟩:=dA;subst eu;generalize l.length=nl at *;have eI:=zBK fK;have dy:=zBK (HP.out.st.less HP.out.sub fQ.out fF.out);clear dC xd e1 e2 xf ek HF HX xy;generalize g.rows=gr at *;go_wp2;exact bodyPost_ret (v:=.slice (some au) nl cu) (by simp [results,Tryz.results66,go_sem]) rfl ⟨_,rfl,(by rw [fw.out];exact dW.out),dy.out,eI.out⟩
 case neg=>
  have F6:(op != 13)=true:=(by simp [jJ]);have vx:=zBK (show ∀ z ∈ A,∀ L',(∀ q ∈ L,q ∈ L')->OfAt L' mb vb g S ah C z from fun z hz=>HO.out _ (Sk.needs_A jJ hz));go_loopg [7,8] A.length (fun gh v7 v8 wr=>∃ (k:Nat) (us:List Value) (L':List Nat),k<=A.length/\gh=A.length-k/\v8=.int .i64 (k:Nat)/\Hid (PtsAt L L' mb vb g S ah C w2.heap.size wr v7 us (A.take k))/\Aside [vb] w2.heap.size w2 wr)
  case atStart=>exact ⟨0,[],L,Nat.zero_le _,rfl,rfl,Ds,Aside.refl _⟩
  case round=>
   clear Ds;obtain ⟨k,us,L',hk,rfl,rfl,HP,aR⟩:=hrel;obtain ⟨sa,sc,rfl,nc,kI⟩:=HP.out.own.form;unfold maxLen at kI;have IA:=zBM td;have dh:w.heap.size ∉ [vb]:=(by simp;omega);have jY:mb ∉ [vb]:=(by simp;exact gF);have jh:=aR.keep td IA dh;have r0:=coQ jh 0;have r4:=coQ jh 4;simp at r0 r4;have fK:=(aside (S:=[vb]) B2).trans aR B2.size;have oK:=vA.out _ fK;obtain ⟨AO,pJ,pK,pM,my,gM⟩:=oK.at;injection pK with x1 x2 x3;rw [x2] at oK;rw [x2] at r4;rw [<-x3] at pM my;unfold maxLen at my;clear x2 x3;obtain ⟨va,xH⟩:=nmQ (us.length);by_cases bd:k<A.length
   case pos=>
    have nM:k<A.length:=(by omega);have pC:=zBK (show A.take (k+1)=A.take k++[A[k]] from List.take_succ_eq_append_getElem nM);obtain ⟨bA,oA,jT,yA,xA⟩:=gM k nM;rw [x1,jT] at r4;have vy:=zBK (vx.out _ (List.getElem_mem nM) L' HP.out.sub);generalize A[k]=z at xA pC vy;clear gM jT x1 oK;generalize A.length=Mc at *;go_wp2_with fail;refine (vy.out _ HP.out.st).mono ?_;rintro e wo ⟨u,rfl,hu,cQ,ao⟩;have rY:=zBK (HP.out.past ao cQ);have HU:=zBK hu;obtain ⟨au,cu,eu,-⟩:=hu;subst eu;generalize (Sk.cAt C z).length=nz at HU ⊢;have aO:=aR.trans ao aR.size;have dt:w2.heap.size<=wo.heap.size:=aO.size;have cK:=zBK rY.out.own;have dn:=zBK (fun q (hq:(Value.slice sa us.length sc).ownBlock=some q)=>(rY.out.own.lt q hq).2);have xG:us.length<=3:=(by have h:=rY.out.len;rw [List.length_take] at h;omega);have q5:(us.length+1)*24<=140737488355328:=(by omega);have q6:us.length+1<=maxLen:=(by unfold maxLen;omega);clear cQ r0 r4 xA HP vy
    go_wp2_with (at_builtin;refine zBW kHd rfl _ _ 27 44 rfl Tryz.underlying27 w2.heap.size wo.heap.size _ us (by rfl) cK.out [.slice (some au) nz cu] (.slice (some au) nz cu) ⟨rfl,HU.out.one⟩ (by rfl) dn.out dt dt q5 q6 ?_;intro v8 w8 aG b8 g8 m8;have di:=zBK aG;have eQ:=zBK g8;have eN:=zBK m8;clear aG g8 m8)
    obtain ⟨L2,iR⟩:=rY.out.more (z:=z) HU.out dt di.out eQ.out eN.out;have rZ:=zBK iR;clear iR;go_roundg (Mc-(k+1))
    case measure=>omega
    case rel=>exact ⟨k+1,_,L2,by omega,rfl,by go_num,zBK (by rw [pC.out];exact rZ.out),aO.trans (aside b8) zBR⟩
   case neg=>
    have bp:k=A.length:=(by omega);subst bp;rw [List.take_length] at HP;obtain ⟨w5,uD⟩:∃ x,x=wr:=⟨_,rfl⟩;subst uD;have r1:=coQ jh 1;have r3:=coQ jh 3;have r5:=coQ jh 5;simp at r1 r3 r5;have iP:=zBM jh;clear bd gM x1 oK pM my xH va;by_cases h5:op=5
    case pos=>
     as_aux_lemma=>
     subst h5;have dm:A.length=3:=(by have h1:Sk.partsT.getD (5:Int).toNat 0=3:=rfl;have h2:=lW.out;omega);obtain ⟨ga,rfl,eM,eP,jc⟩:=HP.out.head (by omega);obtain ⟨a0,k0,x0,cM⟩:=HP.out.part (j:=0) (by omega);rw [Sk.pt_get (C:=C) (op:=5) (k:=rk) (out:=(jo:Int)) (n:=rn) (A:=A) (E:=E) (j:=0) (by omega)] at x0 cM;obtain ⟨P0,cB⟩:∃ P,P=Sk.pt C ⟨5,rk,(jo:Int),rn,A,E⟩ 0:=⟨_,rfl⟩;rw [<-cB] at x0 cM;have cz:P0.length<=300:=(by rw [cB];exact HB.out _);have eZ:0<P0.length:=(by rw [cB];exact HF.out.one (by show (5:Int)≠13;decide) _ (Sk.aN_mem (r:=⟨5,rk,(jo:Int),rn,A,E⟩) (by dsimp only;omega)));have lS:=zBK cM;obtain ⟨b0,o0,rfl,-,nW,iq,fq,gQ,eL⟩:=cM.opened eZ;unfold maxLen at iq;have iF:=zBK eL;have db:=zBK cB;clear cM eL cB;obtain ⟨a1,k1,x1,dS⟩:=HP.out.part (j:=1) (by omega);rw [Sk.pt_get (C:=C) (op:=5) (k:=rk) (out:=(jo:Int)) (n:=rn) (A:=A) (E:=E) (j:=1) (by omega)] at x1 dS;obtain ⟨P1,eY⟩:∃ P,P=Sk.pt C ⟨5,rk,(jo:Int),rn,A,E⟩ 1:=⟨_,rfl⟩;rw [<-eY] at x1 dS;have lz:P1.length<=300:=(by rw [eY];exact HB.out _);have bm:0<P1.length:=(by rw [eY];exact HF.out.one (by show (5:Int)≠13;decide) _ (Sk.aN_mem (r:=⟨5,rk,(jo:Int),rn,A,E⟩) (by dsimp only;omega)));have iG:=zBK dS;obtain ⟨b1,o1,rfl,-,lL,iy,jM,fW,bH⟩:=dS.opened bm;unfold maxLen at iy;have nk:=zBK bH;have fS:=zBK eY;clear dS bH eY;obtain ⟨a2,k2,x2,fT⟩:=HP.out.part (j:=2) (by omega);rw [Sk.pt_get (C:=C) (op:=5) (k:=rk) (out:=(jo:Int)) (n:=rn) (A:=A) (E:=E) (j:=2) (by omega)] at x2 fT;obtain ⟨P2,iR⟩:∃ P,P=Sk.pt C ⟨5,rk,(jo:Int),rn,A,E⟩ 2:=⟨_,rfl⟩;rw [<-iR] at x2 fT;have lb:P2.length<=300:=(by rw [iR];exact HB.out _);have aY:0<P2.length:=(by rw [iR];exact HF.out.one (by show (5:Int)≠13;decide) _ (Sk.aN_mem (r:=⟨5,rk,(jo:Int),rn,A,E⟩) (by dsimp only;omega)));have km:=zBK fT;obtain ⟨b2,o2,rfl,-,j8,jg,qk,jz,cG⟩:=fT.opened aY;unfold maxLen at jg;have Dc:=zBK cG;have py:=zBK iR;clear fT cG iR;have fO:0<us.length:=(by omega);have ka:1<us.length:=(by omega);have j9:(1:Int)<(us.length:Int):=(by omega);have uB:2<us.length:=(by omega);have uA:(2:Int)<(us.length:Int):=(by omega);have mV:=zBK eM;clear eM;have mQ:=zBK dm;clear dm;have lh:=iF.out 0 eZ;obtain ⟨s0,im⟩:∃ s,s=P0[0]:=⟨_,rfl⟩;rw [<-im] at lh;simp at lh;have gI:=zBK (show P0.getD 0 0=s0 by rw [im];simp [List.getD_eq_getElem?_getD,eZ]);clear im;have fw:=zBK (show Sk.evalR S.V C ah ⟨5,rk,(jo:Int),rn,A,E⟩=if s0≠0 then P1 else P2 by
      have e:=Sk.evalR_if (V:=S.V) (C:=C) (ah:=ah) (r:=⟨5,rk,(jo:Int),rn,A,E⟩) rfl (HX.out.f5 rfl).1 (HX.out.f5 rfl).2;rw [e,<-fS.out,<-py.out];unfold Sk.sca;rw [<-db.out,gI.out])
     by_cases im:s0=0
     case pos=>
      subst im;have yp:=zBK (fw.out.trans (if_neg (by simp)));obtain ⟨yD,zm,Ml,uN,oZ,pG⟩:=zBf kLong (w:=w5) 44 44 Tryz.underlying44 (ok:=(· ∉ L')) km.out (fun _ _ _ _ _ h=>h) (by show P2.length*8<=_;omega) (by unfold maxLen;omega);have dW:=zBK (zBd oZ (fun q hq=>HP.out.st.lt q (HP.out.sub q hq)) aY);have dy:=zBK ((HP.out.st.less HP.out.sub fQ.out fF.out).under pG);have eI:=zBK (fK.trans (aside pG) fK.size);have qY:=zBK uN;clear oZ pG uN
      go_wp2_with (at_builtin;refine zBc rfl _ _ 44 rfl _ _ _ (by rfl) (by rfl) qY.out ?_)
      exact bodyPost_ret (v:=.slice yD P2.length zm) (by simp [results,Tryz.results66,go_sem]) rfl ⟨_,rfl,(by rw [yp.out];exact dW.out),dy.out,eI.out⟩
     case neg=>
      have iL:(s0==0)=false:=(by simp [im]);have yp:=zBK (fw.out.trans (if_pos im));clear im;obtain ⟨yD,zm,Ml,uN,oZ,pG⟩:=zBf kLong (w:=w5) 44 44 Tryz.underlying44 (ok:=(· ∉ L')) iG.out (fun _ _ _ _ _ h=>h) (by show P1.length*8<=_;omega) (by unfold maxLen;omega);have dW:=zBK (zBd oZ (fun q hq=>HP.out.st.lt q (HP.out.sub q hq)) bm);have dy:=zBK ((HP.out.st.less HP.out.sub fQ.out fF.out).under pG);have eI:=zBK (fK.trans (aside pG) fK.size);have qY:=zBK uN;clear oZ pG uN
      go_wp2_with (at_builtin;refine zBc rfl _ _ 44 rfl _ _ _ (by rfl) (by rfl) qY.out ?_)
      exact bodyPost_ret (v:=.slice yD P1.length zm) (by simp [results,Tryz.results66,go_sem]) rfl ⟨_,rfl,(by rw [yp.out];exact dW.out),dy.out,eI.out⟩
    case neg=>
     by_cases h12:op=12
     case pos=>
      as_aux_lemma=>
      subst h12;have dm:A.length=2:=(by have h1:Sk.partsT.getD (12:Int).toNat 0=2:=rfl;have h2:=lW.out;omega);obtain ⟨ga,rfl,eM,eP,jc⟩:=HP.out.head (by omega);obtain ⟨a0,k0,x0,cM⟩:=HP.out.part (j:=0) (by omega);rw [Sk.pt_get (C:=C) (op:=12) (k:=rk) (out:=(jo:Int)) (n:=rn) (A:=A) (E:=E) (j:=0) (by omega)] at x0 cM;obtain ⟨P0,cB⟩:∃ P,P=Sk.pt C ⟨12,rk,(jo:Int),rn,A,E⟩ 0:=⟨_,rfl⟩;rw [<-cB] at x0 cM;have cz:P0.length<=300:=(by rw [cB];exact HB.out _);have eZ:0<P0.length:=(by rw [cB];exact HF.out.one (by show (12:Int)≠13;decide) _ (Sk.aN_mem (r:=⟨12,rk,(jo:Int),rn,A,E⟩) (by dsimp only;omega)));have lS:=zBK cM;obtain ⟨b0,o0,rfl,-,nW,iq,fq,gQ,eL⟩:=cM.opened eZ;unfold maxLen at iq;have iF:=zBK eL;have db:=zBK cB;clear cM eL cB;obtain ⟨a1,k1,x1,dS⟩:=HP.out.part (j:=1) (by omega);rw [Sk.pt_get (C:=C) (op:=12) (k:=rk) (out:=(jo:Int)) (n:=rn) (A:=A) (E:=E) (j:=1) (by omega)] at x1 dS;obtain ⟨P1,eY⟩:∃ P,P=Sk.pt C ⟨12,rk,(jo:Int),rn,A,E⟩ 1:=⟨_,rfl⟩;rw [<-eY] at x1 dS;have lz:P1.length<=300:=(by rw [eY];exact HB.out _);have bm:0<P1.length:=(by rw [eY];exact HF.out.one (by show (12:Int)≠13;decide) _ (Sk.aN_mem (r:=⟨12,rk,(jo:Int),rn,A,E⟩) (by dsimp only;omega)));have iG:=zBK dS;obtain ⟨b1,o1,rfl,-,lL,iy,jM,fW,bH⟩:=dS.opened bm;unfold maxLen at iy;have nk:=zBK bH;have fS:=zBK eY;clear dS bH eY;have fO:0<us.length:=(by omega);have ka:1<us.length:=(by omega);have j9:(1:Int)<(us.length:Int):=(by omega);have mV:=zBK eM;clear eM;have mQ:=zBK dm;clear dm;have fw:=zBK (show Sk.evalR S.V C ah ⟨12,rk,(jo:Int),rn,A,E⟩=P0++P1 by
       have e:=Sk.evalR_1 (V:=S.V) (C:=C) (ah:=ah) (r:=⟨12,rk,(jo:Int),rn,A,E⟩) rfl (HX.out.f12 rfl);rw [e,<-db.out,<-fS.out])
      go_upto_region 19 with fail;have aM:=zBK (fun (wz:World) (hSw:Below w5.heap.size w5 wz)=>And.intro ((hSw.cell (p:=⟨ga,0,none⟩) eP).trans x0) ((hSw.cell (p:=⟨ga,1,none⟩) eP).trans x1));refine zBP (fun w'=>Below w5.heap.size w5 w') (fun _=>false) (by kernel_rfl) ?_;have ab:Below w5.heap.size w5 w5.drew:=(Below.refl _ _).drew;generalize w5.drew=ag at ab ⊢;refine' tkR 0 102 ab ?o12
      refine' tkR 1 103 ab ?o13
      refine' tkR 2 104 ab ?o14
      refine' tkQ 3 105 ab ?hyv ?o15
      case hyv=>
       intro wz hSw;have bk:=aM.out wz hSw;go_simp
       try rfl
      try simp only [Act.put,sT,sZ,sS]
      refine' tkR 5 107 ab ?o16
      refine' tkR 6 108 ab ?o17
      refine' tkQ 7 109 ab ?hyv ?o18
      case hyv=>
       intro wz hSw;have bk:=aM.out wz hSw;go_simp
       try rfl
      try simp only [Act.put,sT,sZ,sS]
      refine tnQ 4 (fun K hK=>?_);obtain ⟨yD,zm,aw,CZ,oZ,cY⟩:=zBf kLong (w:=ag) 44 44 Tryz.underlying44 (ok:=fun i=>i ∉ L'/\i<w5.heap.size) ((lS.out.wide (ok':=fun i=>i ∉ L'/\i<w5.heap.size) (fun i hi hl=>And.intro hi hl)).under ab) (fun _ _ _ _ _ h=>h) (by show P0.length*8<=_;omega) (by unfold maxLen;omega);refine zBg _ _ 44 rfl _ _ _ (by rfl) (by rfl) CZ ?_;have CK:=ab.size;have af:Below w5.heap.size w5 aw:=ab.trans (cY.mono ab.size);refine hK.out _ _ (fun _=>af) ?_;clear hK K
      try simp only [Act.put,sT,sZ,sS]
      refine tnQ 8 (fun K hK=>?_);obtain ⟨Nn,PQ,aJ,uO,Me,dz⟩:=join_longs oZ ((iG.out.wide (ok':=fun i=>i ∉ L'/\i<w5.heap.size) (fun i hi hl=>And.intro hi hl)).under af) (fun k hk h=>by have:=(oZ.lt k hk).1;omega) (by have:=cY.size;omega) (by omega);refine zBg _ _ 44 rfl _ _ _ (by rfl) (by rfl) uO ?_;have ay:Below w5.heap.size w5 aJ:=af.trans (dz.mono CK);refine hK.out _ _ (fun _=>ay) ?_;clear hK K
      try simp only [Act.put,sT,sZ,sS]
      refine' tkR 9 4 ay ?o19
      refine zBN (by kernel_rfl) ?_ _;have dW:=zBK (zBd (L:=L) Me (fun q hq=>Nat.lt_of_lt_of_le (HP.out.st.lt q (HP.out.sub q hq)) CK) (by rw [List.length_append];omega));have dy:=zBK ((HP.out.st.less HP.out.sub fQ.out fF.out).under ay);have eI:=zBK (fK.trans (aside ay) fK.size);clear CZ uO oZ Me;go_wp2;exact bodyPost_ret (v:=.slice Nn (P0++P1).length PQ) (by simp [results,Tryz.results66,go_sem]) rfl ⟨_,rfl,(by rw [fw.out];exact dW.out),dy.out,eI.out⟩
     case neg=>
      by_cases h9:op=9
      case pos=>
       as_aux_lemma=>
       subst h9;have dm:A.length=3:=(by have h1:Sk.partsT.getD (9:Int).toNat 0=3:=rfl;have h2:=lW.out;omega);obtain ⟨ga,rfl,eM,eP,jc⟩:=HP.out.head (by omega);obtain ⟨a0,k0,x0,cM⟩:=HP.out.part (j:=0) (by omega);rw [Sk.pt_get (C:=C) (op:=9) (k:=rk) (out:=(jo:Int)) (n:=rn) (A:=A) (E:=E) (j:=0) (by omega)] at x0 cM;obtain ⟨P0,cB⟩:∃ P,P=Sk.pt C ⟨9,rk,(jo:Int),rn,A,E⟩ 0:=⟨_,rfl⟩;rw [<-cB] at x0 cM;have cz:P0.length<=300:=(by rw [cB];exact HB.out _);have eZ:0<P0.length:=(by rw [cB];exact HF.out.one (by show (9:Int)≠13;decide) _ (Sk.aN_mem (r:=⟨9,rk,(jo:Int),rn,A,E⟩) (by dsimp only;omega)));have lS:=zBK cM;obtain ⟨b0,o0,rfl,-,nW,iq,fq,gQ,eL⟩:=cM.opened eZ;unfold maxLen at iq;have iF:=zBK eL;have db:=zBK cB;clear cM eL cB;obtain ⟨a1,k1,x1,dS⟩:=HP.out.part (j:=1) (by omega);rw [Sk.pt_get (C:=C) (op:=9) (k:=rk) (out:=(jo:Int)) (n:=rn) (A:=A) (E:=E) (j:=1) (by omega)] at x1 dS;obtain ⟨P1,eY⟩:∃ P,P=Sk.pt C ⟨9,rk,(jo:Int),rn,A,E⟩ 1:=⟨_,rfl⟩;rw [<-eY] at x1 dS;have lz:P1.length<=300:=(by rw [eY];exact HB.out _);have bm:0<P1.length:=(by rw [eY];exact HF.out.one (by show (9:Int)≠13;decide) _ (Sk.aN_mem (r:=⟨9,rk,(jo:Int),rn,A,E⟩) (by dsimp only;omega)));have iG:=zBK dS;obtain ⟨b1,o1,rfl,-,lL,iy,jM,fW,bH⟩:=dS.opened bm;unfold maxLen at iy;have nk:=zBK bH;have fS:=zBK eY;clear dS bH eY;obtain ⟨a2,k2,x2,fT⟩:=HP.out.part (j:=2) (by omega);rw [Sk.pt_get (C:=C) (op:=9) (k:=rk) (out:=(jo:Int)) (n:=rn) (A:=A) (E:=E) (j:=2) (by omega)] at x2 fT;obtain ⟨P2,iR⟩:∃ P,P=Sk.pt C ⟨9,rk,(jo:Int),rn,A,E⟩ 2:=⟨_,rfl⟩;rw [<-iR] at x2 fT;have lb:P2.length<=300:=(by rw [iR];exact HB.out _);have aY:0<P2.length:=(by rw [iR];exact HF.out.one (by show (9:Int)≠13;decide) _ (Sk.aN_mem (r:=⟨9,rk,(jo:Int),rn,A,E⟩) (by dsimp only;omega)));have km:=zBK fT;obtain ⟨b2,o2,rfl,-,j8,jg,qk,jz,cG⟩:=fT.opened aY;unfold maxLen at jg;have Dc:=zBK cG;have py:=zBK iR;clear fT cG iR;have fO:0<us.length:=(by omega);have ka:1<us.length:=(by omega);have j9:(1:Int)<(us.length:Int):=(by omega);have uB:2<us.length:=(by omega);have uA:(2:Int)<(us.length:Int):=(by omega);have mV:=zBK eM;clear eM;have mQ:=zBK dm;clear dm;have qH:=nk.out 0 bm;obtain ⟨s1,nc⟩:∃ s,s=P1[0]:=⟨_,rfl⟩;rw [<-nc] at qH;simp at qH;have vF:=zBK (show P1.getD 0 0=s1 by rw [nc];simp [List.getD_eq_getElem?_getD,bm]);clear nc;have qJ:=Dc.out 0 aY;obtain ⟨s2,kI⟩:∃ s,s=P2[0]:=⟨_,rfl⟩;rw [<-kI] at qJ;simp at qJ;have vG:=zBK (show P2.getD 0 0=s2 by rw [kI];simp [List.getD_eq_getElem?_getD,aY]);clear kI;obtain ⟨z,hz⟩:=nmQ (Sk.cellAt P0 s1 s2);have fw:=zBK (show Sk.evalR S.V C ah ⟨9,rk,(jo:Int),rn,A,E⟩=[z] by
        unfold Sk.evalR;rw [HX.out.f9 rfl];have e:Sk.evalG C ah ⟨9,rk,(jo:Int),rn,A,E⟩ 0=z:=by
         rw [hz];unfold Sk.evalG Sk.sca
         dsimp only
         rw [<-db.out,<-fS.out,<-py.out,vF.out,vG.out];rfl
        rw [<-e];rfl)
       have tx:=zBK (fun (W:World) (b:Below w5.heap.size w5 W)=>zCw (lS.out.under b) s1 s2);rw [<-hz] at tx;clear hz;go_upto_region 21 with fail;have aM:=zBK (fun (wz:World) (hSw:Below w5.heap.size w5 wz)=>And.intro ((hSw.cell (p:=⟨ga,0,none⟩) eP).trans x0) (And.intro ((hSw.cell (p:=⟨ga,1,none⟩) eP).trans x1) (And.intro ((hSw.cell (p:=⟨ga,2,none⟩) eP).trans x2) (And.intro ((hSw.cell (p:=⟨b1,o1,none⟩) fW).trans qH) ((hSw.cell (p:=⟨b2,o2,none⟩) jz).trans qJ)))));refine zBP (fun w'=>Below w5.heap.size w5 w') (fun _=>false) (by kernel_rfl) ?_;have ab:Below w5.heap.size w5 w5.drew:=(Below.refl _ _).drew;generalize w5.drew=ag at ab ⊢;refine' tkR 0 113 ab ?o20
       refine' tkR 1 114 ab ?o21
       refine' tkR 2 115 ab ?o22
       refine' tkQ 3 116 ab ?hyv ?o23
       case hyv=>
        intro wz hSw;have bk:=aM.out wz hSw;go_simp
        try rfl
       try simp only [Act.put,sT,sZ,sS]
       refine' tkR 4 117 ab ?o24
       refine' tkR 5 118 ab ?o25
       refine' tkQ 6 119 ab ?hyv ?o26
       case hyv=>
        intro wz hSw;have bk:=aM.out wz hSw;go_simp
        try rfl
       try simp only [Act.put,sT,sZ,sS]
       refine' tkR 7 120 ab ?o27
       refine' tkQ 8 121 ab ?hyv ?o28
       case hyv=>
        intro wz hSw;have bk:=aM.out wz hSw;go_simp
        try rfl
       try simp only [Act.put,sT,sZ,sS]
       refine' tkR 9 122 ab ?o29
       refine' tkR 10 123 ab ?o30
       refine' tkQ 11 124 ab ?hyv ?o31
       case hyv=>
        intro wz hSw;have bk:=aM.out wz hSw;go_simp
        try rfl
       try simp only [Act.put,sT,sZ,sS]
       refine' tkR 12 125 ab ?o32
       refine' tkQ 13 126 ab ?hyv ?o33
       case hyv=>
        intro wz hSw;have bk:=aM.out wz hSw;go_simp
        try rfl
       try simp only [Act.put,sT,sZ,sS]
       refine tnQ 14 (fun K hK=>?_);go_simp;refine (tx.out ag ab).mono ?_;rintro eq aw ⟨rfl,cY⟩;have af:Below w5.heap.size w5 aw:=ab.trans (cY.mono ab.size);refine hK.out _ _ (fun _=>af) ?_;clear hK K
       try simp only [Act.put,sT,sZ,sS]
       refine tnQ 15 (fun K hK=>?_);go_simp;have ay:Below w5.heap.size w5 (aw.alloc (.cells #[.int .i64 z] 2 (0,0))):=af.alloc af.size _;refine hK.out _ _ (fun _=>ay) ?_;clear hK K
       try simp only [Act.put,sT,sZ,sS]
       refine tnQ 16 (fun K hK=>?_);refine zCi kLong _ _ 44 2 rfl Tryz.underlying44 w5.heap.size _ [] (by rfl) (OwnL.nil (T:=kLong) (B:=w5.heap.size) (w:=aw)) [.int .i64 z] z rfl (by rfl) af.size (by decide) (by decide) ?_;intro v8 bF aG b8;have di:=zBK aG;clear aG;have aD:Below w5.heap.size w5 bF:=af.trans b8;refine hK.out _ _ (fun _=>aD) ?_;clear hK K
       try simp only [Act.put,sT,sZ,sS]
       refine' tkR 17 4 aD ?o34
       refine zBN (by kernel_rfl) ?_ _;obtain ⟨ax,cx,Om,-,-⟩:=di.out.form;have dW:=zBK (zBd di.out (fun q hq=>HP.out.st.lt q (HP.out.sub q hq)) (by simp));subst Om;have dy:=zBK ((HP.out.st.less HP.out.sub fQ.out fF.out).under aD);have eI:=zBK (fK.trans (aside aD) fK.size);clear di;go_wp2;exact bodyPost_ret (v:=.slice ax 1 cx) (by simp [results,Tryz.results66,go_sem]) rfl ⟨_,rfl,(by rw [fw.out];exact dW.out),dy.out,eI.out⟩
      case neg=>
       by_cases h6:op=6
       case pos=>
        as_aux_lemma=>
        subst h6;have dm:A.length=2:=(by have h1:Sk.partsT.getD (6:Int).toNat 0=2:=rfl;have h2:=lW.out;omega);obtain ⟨ga,rfl,eM,eP,jc⟩:=HP.out.head (by omega);obtain ⟨a0,k0,x0,cM⟩:=HP.out.part (j:=0) (by omega);rw [Sk.pt_get (C:=C) (op:=6) (k:=rk) (out:=(jo:Int)) (n:=rn) (A:=A) (E:=E) (j:=0) (by omega)] at x0 cM;obtain ⟨P0,cB⟩:∃ P,P=Sk.pt C ⟨6,rk,(jo:Int),rn,A,E⟩ 0:=⟨_,rfl⟩;rw [<-cB] at x0 cM;have cz:P0.length<=300:=(by rw [cB];exact HB.out _);have eZ:0<P0.length:=(by rw [cB];exact HF.out.one (by show (6:Int)≠13;decide) _ (Sk.aN_mem (r:=⟨6,rk,(jo:Int),rn,A,E⟩) (by dsimp only;omega)));have lS:=zBK cM;obtain ⟨b0,o0,rfl,-,nW,iq,fq,gQ,eL⟩:=cM.opened eZ;unfold maxLen at iq;have iF:=zBK eL;have db:=zBK cB;clear cM eL cB;obtain ⟨a1,k1,x1,dS⟩:=HP.out.part (j:=1) (by omega);rw [Sk.pt_get (C:=C) (op:=6) (k:=rk) (out:=(jo:Int)) (n:=rn) (A:=A) (E:=E) (j:=1) (by omega)] at x1 dS;obtain ⟨P1,eY⟩:∃ P,P=Sk.pt C ⟨6,rk,(jo:Int),rn,A,E⟩ 1:=⟨_,rfl⟩;rw [<-eY] at x1 dS;have lz:P1.length<=300:=(by rw [eY];exact HB.out _);have bm:0<P1.length:=(by rw [eY];exact HF.out.one (by show (6:Int)≠13;decide) _ (Sk.aN_mem (r:=⟨6,rk,(jo:Int),rn,A,E⟩) (by dsimp only;omega)));have iG:=zBK dS;obtain ⟨b1,o1,rfl,-,lL,iy,jM,fW,bH⟩:=dS.opened bm;unfold maxLen at iy;have nk:=zBK bH;have fS:=zBK eY;clear dS bH eY;have fO:0<us.length:=(by omega);have ka:1<us.length:=(by omega);have j9:(1:Int)<(us.length:Int):=(by omega);have mV:=zBK eM;clear eM;have mQ:=zBK dm;clear dm;have lh:=iF.out 0 eZ;obtain ⟨s0,im⟩:∃ s,s=P0[0]:=⟨_,rfl⟩;rw [<-im] at lh;simp at lh;have gI:=zBK (show P0.getD 0 0=s0 by rw [im];simp [List.getD_eq_getElem?_getD,eZ]);clear im;obtain ⟨GG,ky⟩:∃ GG:Nat->Int,GG=fun i=>P1.getD i 0:=⟨_,rfl⟩;have vj:=zBK (show ∀ i (h:i<P1.length),GG i=P1[i] from fun i h=>by rw [ky];simp [List.getD_eq_getElem?_getD,h]);obtain ⟨nC,m9⟩:=nmQ (P1.length);have fw:=zBK (show Sk.evalR S.V C ah ⟨6,rk,(jo:Int),rn,A,E⟩=(Sk.folds rk GG s0 nC).drop (nC-1) by
         have e:=Sk.evalR_fold (V:=S.V) (C:=C) (ah:=ah) (r:=⟨6,rk,(jo:Int),rn,A,E⟩) rfl (HX.out.f6 rfl).1 (HX.out.f6 rfl).2;unfold Sk.sca at e;rw [<-fS.out,<-db.out,gI.out] at e;rw [e,ky,m9])
        have kD:0<nC:=(by omega);have xq:nC<=300:=(by omega);have Fj:=zBK m9;clear m9;rw [<-Fj.out] at x1 lL bm lz;have pE:=zBK (show ∀ i,I64 (GG i) from fun i=>by rw [ky];dsimp only;rw [fS.out];exact (HC.out _).get i);have ra:=zBK (show I64 s0 by rw [<-gI.out,db.out];exact (HC.out _).get 0);have vW:=zBK (show ∀ m,m<=nC->I64 (Sk.foldV rk GG s0 m) from fun m hm=>Sk.foldV_wide ra.out m (fun i hi=>pE.out i));clear ky;have dT:=jh;have iP:=zBM dT;have dp:=zBK (OutAt.start HP.out aR.size);go_wp2_with fail;clear r0 r1 r3 r4 r5;go_loopg [9,11,12] nC (fun gh v9 v11 v12 wr=>∃ (k:Nat) (L2:List Nat),k<=nC/\gh=nC-k/\v12=.int .i64 (k:Nat)/\v11=.int .i64 (Sk.foldV rk GG s0 k)/\Hid (OutAt L L2 mb vb g S ah C w2.heap.size w5.heap.size wr (.slice (some ⟨ga,0,none⟩) us.length sc) us A v9 (Sk.folds rk GG s0 k))/\Aside [vb] w5.heap.size w5 wr)
        case atStart=>exact ⟨0,L',Nat.zero_le _,rfl,rfl,rfl,dp,Aside.refl _⟩
        case round=>
         clear dp;obtain ⟨k,L2,hk,rfl,rfl,rfl,bJ,aW⟩:=hrel;obtain ⟨fa,fc,rfl,jb,iS⟩:=bJ.out.own.form;unfold maxLen at iS;rw [Sk.folds_len] at jb ⊢;have dL:=aW.keep dT iP dh;have q0:=coQ dL 0;have q1:=coQ dL 1;have q3:=coQ dL 3;have q5:=coQ dL 5;simp at q0 q1 q3 q5;have hH:=fK.trans aW fK.size;by_cases bd:k<nC
         case neg=>
          have bp:k=nC:=(by omega);subst bp;have iU:=zBd (L:=L) bJ.out.own (fun q hq=>HP.out.st.lt q (HP.out.sub q hq)) (by rw [Sk.folds_len];exact kD);obtain ⟨Np,NB,FZ,ot⟩:=iU;injection FZ with e1 e2 e3;subst e1 e3;obtain ⟨bf,of,rfl,-,-,-,-,Ot,-⟩:=ot.opened (by rw [Sk.folds_len];exact kD);have kJ:sliced (some ⟨bf,of,none⟩) (k-1) k fc 1=.slice (some ⟨bf,of+(k-1),none⟩) 1 (fc-(k-1)):=by
           unfold sliced;rw [if_neg (by omega),Option.map_some,Nat.mul_one,show k-(k-1)=1 by omega];simp [Addr.add]
          have oP:=row_tail (T:=kLong) (c:=k-1) (show HRow kLong (· ∉ L) wr (.slice (some ⟨bf,of,none⟩) k fc) (Sk.folds rk GG s0 k) by have h:=ot;rw [Sk.folds_len] at h;exact h) (by omega);rw [show kLong.k=1 from rfl,kJ] at oP;have dW:=zBK (show RowS L wr (.slice (some ⟨bf,of+(k-1),none⟩) 1 (fc-(k-1))) ((Sk.folds rk GG s0 k).drop (k-1)) from ⟨_,_,by rw [List.length_drop,Sk.folds_len];congr 1;omega,oP⟩);have dy:=zBK (bJ.out.pts.st.less bJ.out.pts.sub fQ.out fF.out);have eI:=zBK hH;have iA:IntKind.i64.wrap ((k:Int)-1)=((k-1:Nat):Int):=(by rw [i64_in _ ⟨by omega,by omega⟩];omega);have jw:¬fc=k-1:=(by omega);have dZ:k-(k-1)=1:=(by omega);clear ot oP kJ bJ;obtain ⟨c1,bH⟩:=nmQ (k-1);rw [<-bH] at iA jw dZ dW;have nk:=zBK bH;have Gx:c1<=k:=(by omega);have Gw:c1<=fc:=(by omega);have Ox:(0:Int)<=(c1:Int):=(by omega);have vf:=zBK (show Sk.evalR S.V C ah ⟨6,rk,(jo:Int),rn,A,E⟩=(Sk.folds rk GG s0 k).drop c1 by rw [bH];exact fw.out);clear bH q1 q3 q5;go_wp2;exact bodyPost_ret (v:=.slice (some ⟨bf,of+c1,none⟩) 1 (fc-c1)) (by simp [results,Tryz.results66,go_sem]) rfl ⟨_,rfl,(by rw [vf.out];exact dW.out),dy.out,eI.out⟩
         case pos=>
          have BJ:k<P1.length:=(by rw [<-Fj.out];exact bd);have xk:=(zBL aW (p:=⟨b1,o1+k,none⟩) fW (by simp;intro e;exact jM (e ▸ HP.out.st.vL))).trans (nk.out k BJ);have xg:=(zBL aW (p:=⟨ga,1,none⟩) eP (by simpa using jc)).trans x1;have HY:=zBK (vj.out k BJ);obtain ⟨yy,CJ⟩:=nmQ (P1[k]);rw [<-CJ] at xk HY;have jj:=zBK (fun (W:World)=>zBp rk (Sk.foldV rk GG s0 k) yy W (vW.out k (by omega)) (by rw [<-HY.out];exact pE.out k));have eF:=zBK (show apT rk (Sk.foldV rk GG s0 k) yy=Sk.foldV rk GG s0 (k+1) by rw [<-HY.out];rfl);clear CJ;obtain ⟨fv,nJ⟩:=nmQ (Sk.foldV rk GG s0 k);rw [<-nJ] at jj eF ⊢;have MI:=zBK nJ;clear nJ;go_wp2_with fail;refine (jj.out _).mono ?_;rintro e w6 ⟨rfl,b6⟩;rw [eF.out];have nv:Aside [vb] w5.heap.size w5 w6:=aW.trans (aside b6) aW.size;have dx:=zBK (bJ.out.under b6);clear bJ xk xg;obtain ⟨z,hz⟩:=nmQ (Sk.foldV rk GG s0 (k+1));rw [<-hz];have HZ:=zBK hz;clear hz jj eF;have cK:=zBK dx.out.own;rw [Sk.folds_len] at cK;have dc:w5.heap.size<=w6.heap.size:=dx.out.sz;have dn:Hid (∀ q,(Value.slice fa k fc).ownBlock=some q->q<w6.heap.size):=zBK (fun q hq=>(cK.out.lt q hq).2);have q7:((Sk.folds rk GG s0 k).length+1)*8<=140737488355328:=(by rw [Sk.folds_len];omega);have q8:(Sk.folds rk GG s0 k).length+1<=maxLen:=(by rw [Sk.folds_len];unfold maxLen;omega);have dF:=zBK dx.out;rw [Sk.folds_len] at dF;clear q0 q1 q3 q5 dx
          go_wp2_with (at_builtin;refine zBW kLong rfl _ _ 44 2 rfl Tryz.underlying44 w5.heap.size w6.heap.size _ (Sk.folds rk GG s0 k) (by rfl) cK.out [.int .i64 z] z rfl (by rfl) dn.out dc dc q7 q8 ?_;intro v8 w8 aG b8 g8 m8;have di:=zBK aG;have eQ:=zBK g8;have eN:=zBK m8;clear aG g8 m8)
          obtain ⟨L3,eE⟩:=dF.out.more di.out eQ.out eN.out;rw [show Sk.folds rk GG s0 k++[z]=Sk.folds rk GG s0 (k+1) from by rw [HZ.out];exact (Sk.folds_succ k).symm] at eE;have ia:=zBK eE;have a8:Aside [vb] w5.heap.size w5 w8:=nv.trans (aside b8) zBR;clear eE dF cK dn di eQ eN;go_roundg (nC-(k+1))
          case measure=>omega
          case rel=>exact ⟨k+1,L3,by omega,rfl,by go_num,by rw [HZ.out],ia,a8⟩
       case neg=>
        by_cases h7:op=7
        case pos=>
         as_aux_lemma=>
         subst h7;have dm:A.length=2:=(by have h1:Sk.partsT.getD (7:Int).toNat 0=2:=rfl;have h2:=lW.out;omega);obtain ⟨ga,rfl,eM,eP,jc⟩:=HP.out.head (by omega);obtain ⟨a0,k0,x0,cM⟩:=HP.out.part (j:=0) (by omega);rw [Sk.pt_get (C:=C) (op:=7) (k:=rk) (out:=(jo:Int)) (n:=rn) (A:=A) (E:=E) (j:=0) (by omega)] at x0 cM;obtain ⟨P0,cB⟩:∃ P,P=Sk.pt C ⟨7,rk,(jo:Int),rn,A,E⟩ 0:=⟨_,rfl⟩;rw [<-cB] at x0 cM;have cz:P0.length<=300:=(by rw [cB];exact HB.out _);have eZ:0<P0.length:=(by rw [cB];exact HF.out.one (by show (7:Int)≠13;decide) _ (Sk.aN_mem (r:=⟨7,rk,(jo:Int),rn,A,E⟩) (by dsimp only;omega)));have lS:=zBK cM;obtain ⟨b0,o0,rfl,-,nW,iq,fq,gQ,eL⟩:=cM.opened eZ;unfold maxLen at iq;have iF:=zBK eL;have db:=zBK cB;clear cM eL cB;obtain ⟨a1,k1,x1,dS⟩:=HP.out.part (j:=1) (by omega);rw [Sk.pt_get (C:=C) (op:=7) (k:=rk) (out:=(jo:Int)) (n:=rn) (A:=A) (E:=E) (j:=1) (by omega)] at x1 dS;obtain ⟨P1,eY⟩:∃ P,P=Sk.pt C ⟨7,rk,(jo:Int),rn,A,E⟩ 1:=⟨_,rfl⟩;rw [<-eY] at x1 dS;have lz:P1.length<=300:=(by rw [eY];exact HB.out _);have bm:0<P1.length:=(by rw [eY];exact HF.out.one (by show (7:Int)≠13;decide) _ (Sk.aN_mem (r:=⟨7,rk,(jo:Int),rn,A,E⟩) (by dsimp only;omega)));have iG:=zBK dS;obtain ⟨b1,o1,rfl,-,lL,iy,jM,fW,bH⟩:=dS.opened bm;unfold maxLen at iy;have nk:=zBK bH;have fS:=zBK eY;clear dS bH eY;have fO:0<us.length:=(by omega);have ka:1<us.length:=(by omega);have j9:(1:Int)<(us.length:Int):=(by omega);have mV:=zBK eM;clear eM;have mQ:=zBK dm;clear dm;have lh:=iF.out 0 eZ;obtain ⟨s0,im⟩:∃ s,s=P0[0]:=⟨_,rfl⟩;rw [<-im] at lh;simp at lh;have gI:=zBK (show P0.getD 0 0=s0 by rw [im];simp [List.getD_eq_getElem?_getD,eZ]);clear im;obtain ⟨GG,ky⟩:∃ GG:Nat->Int,GG=fun i=>P1.getD i 0:=⟨_,rfl⟩;have vj:=zBK (show ∀ i (h:i<P1.length),GG i=P1[i] from fun i h=>by rw [ky];simp [List.getD_eq_getElem?_getD,h]);have h4:=HF.out.f4 (.inr (.inr rfl))
         dsimp only at h4
         rw [gU.out,<-fS.out] at h4;obtain ⟨nC,m9⟩:=nmQ (cn);have fw:=zBK (show Sk.evalR S.V C ah ⟨7,rk,(jo:Int),rn,A,E⟩=Sk.folds rk GG s0 nC by
          have e:=Sk.evalR_scan (V:=S.V) (C:=C) (ah:=ah) (r:=⟨7,rk,(jo:Int),rn,A,E⟩) rfl;unfold Sk.sca at e;rw [<-fS.out,<-db.out,gI.out,gU.out] at e;rw [e,ky,m9])
         have kD:0<nC:=(by omega);have xq:nC<=300:=(by omega);have Fj:=zBK (show nC<=P1.length by omega);subst m9;have pE:=zBK (show ∀ i,I64 (GG i) from fun i=>by rw [ky];dsimp only;rw [fS.out];exact (HC.out _).get i);have ra:=zBK (show I64 s0 by rw [<-gI.out,db.out];exact (HC.out _).get 0);have vW:=zBK (show ∀ m,m<=nC->I64 (Sk.foldV rk GG s0 m) from fun m hm=>Sk.foldV_wide ra.out m (fun i hi=>pE.out i));clear ky;have dT:=jh;have iP:=zBM dT;have dp:=zBK (OutAt.start HP.out aR.size);go_wp2_with fail;clear r0 r1 r3 r4 r5;go_loopg [9,11,12] nC (fun gh v9 v11 v12 wr=>∃ (k:Nat) (L2:List Nat),k<=nC/\gh=nC-k/\v12=.int .i64 (k:Nat)/\v11=.int .i64 (Sk.foldV rk GG s0 k)/\Hid (OutAt L L2 mb vb g S ah C w2.heap.size w5.heap.size wr (.slice (some ⟨ga,0,none⟩) us.length sc) us A v9 (Sk.folds rk GG s0 k))/\Aside [vb] w5.heap.size w5 wr)
         case atStart=>exact ⟨0,L',Nat.zero_le _,rfl,rfl,rfl,dp,Aside.refl _⟩
         case round=>
          clear dp;obtain ⟨k,L2,hk,rfl,rfl,rfl,bJ,aW⟩:=hrel;obtain ⟨fa,fc,rfl,jb,iS⟩:=bJ.out.own.form;unfold maxLen at iS;rw [Sk.folds_len] at jb ⊢;have dL:=aW.keep dT iP dh;have q0:=coQ dL 0;have q1:=coQ dL 1;have q3:=coQ dL 3;have q5:=coQ dL 5;simp at q0 q1 q3 q5;have hH:=fK.trans aW fK.size;by_cases bd:k<nC
          case neg=>
           have bp:k=nC:=(by omega);subst bp;have dW:=zBK (zBd (L:=L) bJ.out.own (fun q hq=>HP.out.st.lt q (HP.out.sub q hq)) (by rw [Sk.folds_len];exact kD));rw [Sk.folds_len] at dW;have dy:=zBK (bJ.out.pts.st.less bJ.out.pts.sub fQ.out fF.out);have eI:=zBK hH;clear bJ q1 q3 q5;go_wp2;exact bodyPost_ret (v:=.slice fa k fc) (by simp [results,Tryz.results66,go_sem]) rfl ⟨_,rfl,(by rw [fw.out];exact dW.out),dy.out,eI.out⟩
          case pos=>
           have BJ:k<P1.length:=(by omega);have xk:=(zBL aW (p:=⟨b1,o1+k,none⟩) fW (by simp;intro e;exact jM (e ▸ HP.out.st.vL))).trans (nk.out k BJ);have xg:=(zBL aW (p:=⟨ga,1,none⟩) eP (by simpa using jc)).trans x1;have HY:=zBK (vj.out k BJ);obtain ⟨yy,CJ⟩:=nmQ (P1[k]);rw [<-CJ] at xk HY;have jj:=zBK (fun (W:World)=>zBp rk (Sk.foldV rk GG s0 k) yy W (vW.out k (by omega)) (by rw [<-HY.out];exact pE.out k));have eF:=zBK (show apT rk (Sk.foldV rk GG s0 k) yy=Sk.foldV rk GG s0 (k+1) by rw [<-HY.out];rfl);clear CJ;generalize Lw:P1.length=n1 at xg;have nK:k<n1:=(by omega);have QC:=zBK Lw;clear Lw;obtain ⟨fv,nJ⟩:=nmQ (Sk.foldV rk GG s0 k);rw [<-nJ] at jj eF ⊢;have MI:=zBK nJ;clear nJ;go_wp2_with fail;refine (jj.out _).mono ?_;rintro e w6 ⟨rfl,b6⟩;rw [eF.out];have nv:Aside [vb] w5.heap.size w5 w6:=aW.trans (aside b6) aW.size;have dx:=zBK (bJ.out.under b6);clear bJ xk xg;obtain ⟨z,hz⟩:=nmQ (Sk.foldV rk GG s0 (k+1));rw [<-hz];have HZ:=zBK hz;clear hz jj eF;have cK:=zBK dx.out.own;rw [Sk.folds_len] at cK;have dc:w5.heap.size<=w6.heap.size:=dx.out.sz;have dn:Hid (∀ q,(Value.slice fa k fc).ownBlock=some q->q<w6.heap.size):=zBK (fun q hq=>(cK.out.lt q hq).2);have q7:((Sk.folds rk GG s0 k).length+1)*8<=140737488355328:=(by rw [Sk.folds_len];omega);have q8:(Sk.folds rk GG s0 k).length+1<=maxLen:=(by rw [Sk.folds_len];unfold maxLen;omega);have dF:=zBK dx.out;rw [Sk.folds_len] at dF;clear q0 q1 q3 q5 dx
           go_wp2_with (at_builtin;refine zBW kLong rfl _ _ 44 2 rfl Tryz.underlying44 w5.heap.size w6.heap.size _ (Sk.folds rk GG s0 k) (by rfl) cK.out [.int .i64 z] z rfl (by rfl) dn.out dc dc q7 q8 ?_;intro v8 w8 aG b8 g8 m8;have di:=zBK aG;have eQ:=zBK g8;have eN:=zBK m8;clear aG g8 m8)
           obtain ⟨L3,eE⟩:=dF.out.more di.out eQ.out eN.out;rw [show Sk.folds rk GG s0 k++[z]=Sk.folds rk GG s0 (k+1) from by rw [HZ.out];exact (Sk.folds_succ k).symm] at eE;have ia:=zBK eE;have a8:Aside [vb] w5.heap.size w5 w8:=nv.trans (aside b8) zBR;clear eE dF cK dn di eQ eN;go_roundg (nC-(k+1))
           case measure=>omega
           case rel=>exact ⟨k+1,L3,by omega,rfl,by go_num,by rw [HZ.out],ia,a8⟩
        case neg=>
         by_cases yN:op=15
         case pos=>
          as_aux_lemma=>
          subst yN;have dm:A.length=1:=(by have h1:Sk.partsT.getD (15:Int).toNat 0=1:=rfl;have h2:=lW.out;omega);obtain ⟨ga,rfl,eM,eP,jc⟩:=HP.out.head (by omega);obtain ⟨a0,k0,x0,cM⟩:=HP.out.part (j:=0) (by omega);rw [Sk.pt_get (C:=C) (op:=15) (k:=rk) (out:=(jo:Int)) (n:=rn) (A:=A) (E:=E) (j:=0) (by omega)] at x0 cM;obtain ⟨P0,cB⟩:∃ P,P=Sk.pt C ⟨15,rk,(jo:Int),rn,A,E⟩ 0:=⟨_,rfl⟩;rw [<-cB] at x0 cM;have cz:P0.length<=300:=(by rw [cB];exact HB.out _);have eZ:0<P0.length:=(by rw [cB];exact HF.out.one (by show (15:Int)≠13;decide) _ (Sk.aN_mem (r:=⟨15,rk,(jo:Int),rn,A,E⟩) (by dsimp only;omega)));have lS:=zBK cM;obtain ⟨b0,o0,rfl,-,nW,iq,fq,gQ,eL⟩:=cM.opened eZ;unfold maxLen at iq;have iF:=zBK eL;have db:=zBK cB;clear cM eL cB;have fO:0<us.length:=(by omega);have mV:=zBK eM;clear eM;have mQ:=zBK dm;clear dm;have lh:=iF.out 0 eZ;obtain ⟨s0,im⟩:∃ s,s=P0[0]:=⟨_,rfl⟩;rw [<-im] at lh;simp at lh;have gI:=zBK (show P0.getD 0 0=s0 by rw [im];simp [List.getD_eq_getElem?_getD,eZ]);clear im;obtain ⟨GG,ky⟩:∃ GG:Nat->Int,GG=fun i=>Sk.treeV C i [] E:=⟨_,rfl⟩;have vj:=zBK (show ∀ i,GG i=Sk.treeV C i [] E from fun i=>by rw [ky]);obtain ⟨f1,f2,f3,f4⟩:=HX.out.f15 rfl
          dsimp only at f2 f3 f4
          obtain ⟨nC,m9⟩:=nmQ (rn.toNat);have fw:=zBK (show Sk.evalR S.V C ah ⟨15,rk,(jo:Int),rn,A,E⟩=(Sk.folds rk GG s0 nC).drop (nC-1) by
           have e:=Sk.evalR_foldE (V:=S.V) (C:=C) (ah:=ah) (r:=⟨15,rk,(jo:Int),rn,A,E⟩) rfl f1 f2;unfold Sk.sca at e;rw [<-db.out,gI.out] at e;rw [e,ky,m9])
          rw [<-m9] at f2 f3 f4;have kD:0<nC:=f2;have xq:nC<=300:=f4.sz;have rb:=zBK f4;rw [f3] at r3;clear f1 f2 f4;have QB:=zBK f3;clear f3 m9;have pE:=zBK (show ∀ i,i<nC->I64 (GG i) from fun i hi=>by rw [ky];exact Sk.treeV_wide HC.out rb.out.wide (by omega));have ra:=zBK (show I64 s0 by rw [<-gI.out,db.out];exact (HC.out _).get 0);have vW:=zBK (show ∀ m,m<=nC->I64 (Sk.foldV rk GG s0 m) from fun m hm=>Sk.foldV_wide ra.out m (fun i hi=>pE.out i (by omega)));clear ky;have dT:=jh;have iP:=zBM dT;have dp:=zBK (OutAt.start HP.out aR.size);go_wp2_with fail;clear r0 r1 r3 r4 r5;go_loopg [9,11,12] nC (fun gh v9 v11 v12 wr=>∃ (k:Nat) (L2:List Nat),k<=nC/\gh=nC-k/\v12=.int .i64 (k:Nat)/\v11=.int .i64 (Sk.foldV rk GG s0 k)/\Hid (OutAt L L2 mb vb g S ah C w2.heap.size w5.heap.size wr (.slice (some ⟨ga,0,none⟩) us.length sc) us A v9 (Sk.folds rk GG s0 k))/\Aside [vb] w5.heap.size w5 wr)
          case atStart=>exact ⟨0,L',Nat.zero_le _,rfl,rfl,rfl,dp,Aside.refl _⟩
          case round=>
           clear dp;obtain ⟨k,L2,hk,rfl,rfl,rfl,bJ,aW⟩:=hrel;obtain ⟨fa,fc,rfl,jb,iS⟩:=bJ.out.own.form;unfold maxLen at iS;rw [Sk.folds_len] at jb ⊢;have dL:=aW.keep dT iP dh;have q0:=coQ dL 0;have q1:=coQ dL 1;have q3:=coQ dL 3;have q5:=coQ dL 5;simp at q0 q1 q3 q5;have hH:=fK.trans aW fK.size;by_cases bd:k<nC
           case neg=>
            have bp:k=nC:=(by omega);subst bp;have iU:=zBd (L:=L) bJ.out.own (fun q hq=>HP.out.st.lt q (HP.out.sub q hq)) (by rw [Sk.folds_len];exact kD);obtain ⟨Np,NB,FZ,ot⟩:=iU;injection FZ with e1 e2 e3;subst e1 e3;obtain ⟨bf,of,rfl,-,-,-,-,Ot,-⟩:=ot.opened (by rw [Sk.folds_len];exact kD);have kJ:sliced (some ⟨bf,of,none⟩) (k-1) k fc 1=.slice (some ⟨bf,of+(k-1),none⟩) 1 (fc-(k-1)):=by
             unfold sliced;rw [if_neg (by omega),Option.map_some,Nat.mul_one,show k-(k-1)=1 by omega];simp [Addr.add]
            have oP:=row_tail (T:=kLong) (c:=k-1) (show HRow kLong (· ∉ L) wr (.slice (some ⟨bf,of,none⟩) k fc) (Sk.folds rk GG s0 k) by have h:=ot;rw [Sk.folds_len] at h;exact h) (by omega);rw [show kLong.k=1 from rfl,kJ] at oP;have dW:=zBK (show RowS L wr (.slice (some ⟨bf,of+(k-1),none⟩) 1 (fc-(k-1))) ((Sk.folds rk GG s0 k).drop (k-1)) from ⟨_,_,by rw [List.length_drop,Sk.folds_len];congr 1;omega,oP⟩);have dy:=zBK (bJ.out.pts.st.less bJ.out.pts.sub fQ.out fF.out);have eI:=zBK hH;have iA:IntKind.i64.wrap ((k:Int)-1)=((k-1:Nat):Int):=(by rw [i64_in _ ⟨by omega,by omega⟩];omega);have jw:¬fc=k-1:=(by omega);have dZ:k-(k-1)=1:=(by omega);clear ot oP kJ bJ;obtain ⟨c1,bH⟩:=nmQ (k-1);rw [<-bH] at iA jw dZ dW;have nk:=zBK bH;have Gx:c1<=k:=(by omega);have Gw:c1<=fc:=(by omega);have Ox:(0:Int)<=(c1:Int):=(by omega);have vf:=zBK (show Sk.evalR S.V C ah ⟨15,rk,(jo:Int),rn,A,E⟩=(Sk.folds rk GG s0 k).drop c1 by rw [bH];exact fw.out);clear bH q1 q3 q5;go_wp2;exact bodyPost_ret (v:=.slice (some ⟨bf,of+c1,none⟩) 1 (fc-c1)) (by simp [results,Tryz.results66,go_sem]) rfl ⟨_,rfl,(by rw [vf.out];exact dW.out),dy.out,eI.out⟩
           case pos=>
            have lr:=zBK (Fx.out wr hH);obtain ⟨FP,we,wk,tN,tP,-⟩:=lr.out.at;injection wk with e1 e2 e3;have jR:=zBK (zDG (aE:=y.aE) (cE:=y.cE) (k:=k) bJ.out.pts.st (by rw [<-e2];exact vB.out _ hH _ (fun q hq=>(bJ.out.pts.new q hq).imp_right (fun h=>Nat.le_trans B2.size h))) rb.out bd HC.out HB.out (fun p hp oJ=>HO.out _ (Sk.needs_E (by decide) hp oJ) L2 bJ.out.pts.sub));rw [<-e2] at jR;clear e1 e2 e3 lr;have HY:=zBK (vj.out k);go_wp2_with fail;refine jR.out.mono ?_;rintro e wt ⟨rfl,cQ,at'⟩;rw [<-HY.out];have jj:=zBK (fun (W:World)=>zBp rk (Sk.foldV rk GG s0 k) (GG k) W (vW.out k (by omega)) (pE.out k bd));have eF:=zBK (show apT rk (Sk.foldV rk GG s0 k) (GG k)=Sk.foldV rk GG s0 (k+1) from rfl);have sd:Aside [vb] w5.heap.size w5 wt:=aW.trans at' aW.size;have jG:=zBK (bJ.out.past at' cQ);have l8:=sd.keep dT iP dh;have t1:=coQ l8 1;simp at t1;clear jR bJ cQ q0 q1 q3 q5;generalize GG k=yy at jj eF ⊢;obtain ⟨fv,nJ⟩:=nmQ (Sk.foldV rk GG s0 k);rw [<-nJ] at jj eF ⊢;clear nJ;go_wp2_with fail;refine (jj.out _).mono ?_;rintro e w6 ⟨rfl,b6⟩;rw [eF.out];have nv:Aside [vb] w5.heap.size w5 w6:=sd.trans (aside b6) sd.size;have dx:=zBK (jG.out.under b6);clear jG t1;obtain ⟨z,hz⟩:=nmQ (Sk.foldV rk GG s0 (k+1));rw [<-hz];have HZ:=zBK hz;clear hz jj eF;have cK:=zBK dx.out.own;rw [Sk.folds_len] at cK;have dc:w5.heap.size<=w6.heap.size:=dx.out.sz;have dn:Hid (∀ q,(Value.slice fa k fc).ownBlock=some q->q<w6.heap.size):=zBK (fun q hq=>(cK.out.lt q hq).2);have q7:((Sk.folds rk GG s0 k).length+1)*8<=140737488355328:=(by rw [Sk.folds_len];omega);have q8:(Sk.folds rk GG s0 k).length+1<=maxLen:=(by rw [Sk.folds_len];unfold maxLen;omega);have dF:=zBK dx.out;rw [Sk.folds_len] at dF;clear dx
            go_wp2_with (at_builtin;refine zBW kLong rfl _ _ 44 2 rfl Tryz.underlying44 w5.heap.size w6.heap.size _ (Sk.folds rk GG s0 k) (by rfl) cK.out [.int .i64 z] z rfl (by rfl) dn.out dc dc q7 q8 ?_;intro v8 w8 aG b8 g8 m8;have di:=zBK aG;have eQ:=zBK g8;have eN:=zBK m8;clear aG g8 m8)
            obtain ⟨L3,eE⟩:=dF.out.more di.out eQ.out eN.out;rw [show Sk.folds rk GG s0 k++[z]=Sk.folds rk GG s0 (k+1) from by rw [HZ.out];exact (Sk.folds_succ k).symm] at eE;have ia:=zBK eE;have a8:Aside [vb] w5.heap.size w5 w8:=nv.trans (aside b8) zBR;clear eE dF cK dn di eQ eN;go_roundg (nC-(k+1))
            case measure=>omega
            case rel=>exact ⟨k+1,L3,by omega,rfl,by go_num,by rw [HZ.out],ia,a8⟩
         case neg=>
          by_cases F7:op=16
          case pos=>
           as_aux_lemma=>
           subst F7;have dm:A.length=1:=(by have h1:Sk.partsT.getD (16:Int).toNat 0=1:=rfl;have h2:=lW.out;omega);obtain ⟨ga,rfl,eM,eP,jc⟩:=HP.out.head (by omega);obtain ⟨a0,k0,x0,cM⟩:=HP.out.part (j:=0) (by omega);rw [Sk.pt_get (C:=C) (op:=16) (k:=rk) (out:=(jo:Int)) (n:=rn) (A:=A) (E:=E) (j:=0) (by omega)] at x0 cM;obtain ⟨P0,cB⟩:∃ P,P=Sk.pt C ⟨16,rk,(jo:Int),rn,A,E⟩ 0:=⟨_,rfl⟩;rw [<-cB] at x0 cM;have cz:P0.length<=300:=(by rw [cB];exact HB.out _);have eZ:0<P0.length:=(by rw [cB];exact HF.out.one (by show (16:Int)≠13;decide) _ (Sk.aN_mem (r:=⟨16,rk,(jo:Int),rn,A,E⟩) (by dsimp only;omega)));have lS:=zBK cM;obtain ⟨b0,o0,rfl,-,nW,iq,fq,gQ,eL⟩:=cM.opened eZ;unfold maxLen at iq;have iF:=zBK eL;have db:=zBK cB;clear cM eL cB;have fO:0<us.length:=(by omega);have mV:=zBK eM;clear eM;have mQ:=zBK dm;clear dm;have lh:=iF.out 0 eZ;obtain ⟨s0,im⟩:∃ s,s=P0[0]:=⟨_,rfl⟩;rw [<-im] at lh;simp at lh;have gI:=zBK (show P0.getD 0 0=s0 by rw [im];simp [List.getD_eq_getElem?_getD,eZ]);clear im;obtain ⟨GG,ky⟩:∃ GG:Nat->Int,GG=fun i=>Sk.treeV C i [] E:=⟨_,rfl⟩;have vj:=zBK (show ∀ i,GG i=Sk.treeV C i [] E from fun i=>by rw [ky]);have f4:=HX.out.f14 (.inr rfl)
           dsimp only at f4
           rw [gU.out] at f4;obtain ⟨nC,m9⟩:=nmQ (cn);have fw:=zBK (show Sk.evalR S.V C ah ⟨16,rk,(jo:Int),rn,A,E⟩=Sk.folds rk GG s0 nC by
            have e:=Sk.evalR_scanE (V:=S.V) (C:=C) (ah:=ah) (r:=⟨16,rk,(jo:Int),rn,A,E⟩) rfl;unfold Sk.sca at e;rw [<-db.out,gI.out,gU.out] at e;rw [e,ky,m9])
           rw [<-m9] at f4;have kD:0<nC:=(by omega);have xq:nC<=300:=f4.sz;have rb:=zBK f4;clear f4;subst m9;have pE:=zBK (show ∀ i,i<nC->I64 (GG i) from fun i hi=>by rw [ky];exact Sk.treeV_wide HC.out rb.out.wide (by omega));have ra:=zBK (show I64 s0 by rw [<-gI.out,db.out];exact (HC.out _).get 0);have vW:=zBK (show ∀ m,m<=nC->I64 (Sk.foldV rk GG s0 m) from fun m hm=>Sk.foldV_wide ra.out m (fun i hi=>pE.out i (by omega)));clear ky;have dT:=jh;have iP:=zBM dT;have dp:=zBK (OutAt.start HP.out aR.size);go_wp2_with fail;clear r0 r1 r3 r4 r5;go_loopg [9,11,12] nC (fun gh v9 v11 v12 wr=>∃ (k:Nat) (L2:List Nat),k<=nC/\gh=nC-k/\v12=.int .i64 (k:Nat)/\v11=.int .i64 (Sk.foldV rk GG s0 k)/\Hid (OutAt L L2 mb vb g S ah C w2.heap.size w5.heap.size wr (.slice (some ⟨ga,0,none⟩) us.length sc) us A v9 (Sk.folds rk GG s0 k))/\Aside [vb] w5.heap.size w5 wr)
           case atStart=>exact ⟨0,L',Nat.zero_le _,rfl,rfl,rfl,dp,Aside.refl _⟩
           case round=>
            clear dp;obtain ⟨k,L2,hk,rfl,rfl,rfl,bJ,aW⟩:=hrel;obtain ⟨fa,fc,rfl,jb,iS⟩:=bJ.out.own.form;unfold maxLen at iS;rw [Sk.folds_len] at jb ⊢;have dL:=aW.keep dT iP dh;have q0:=coQ dL 0;have q1:=coQ dL 1;have q3:=coQ dL 3;have q5:=coQ dL 5;simp at q0 q1 q3 q5;have hH:=fK.trans aW fK.size;by_cases bd:k<nC
            case neg=>
             have bp:k=nC:=(by omega);subst bp;have dW:=zBK (zBd (L:=L) bJ.out.own (fun q hq=>HP.out.st.lt q (HP.out.sub q hq)) (by rw [Sk.folds_len];exact kD));rw [Sk.folds_len] at dW;have dy:=zBK (bJ.out.pts.st.less bJ.out.pts.sub fQ.out fF.out);have eI:=zBK hH;clear bJ q1 q3 q5;go_wp2;exact bodyPost_ret (v:=.slice fa k fc) (by simp [results,Tryz.results66,go_sem]) rfl ⟨_,rfl,(by rw [fw.out];exact dW.out),dy.out,eI.out⟩
            case pos=>
             have lr:=zBK (Fx.out wr hH);obtain ⟨FP,we,wk,tN,tP,-⟩:=lr.out.at;injection wk with e1 e2 e3;have jR:=zBK (zDG (aE:=y.aE) (cE:=y.cE) (k:=k) bJ.out.pts.st (by rw [<-e2];exact vB.out _ hH _ (fun q hq=>(bJ.out.pts.new q hq).imp_right (fun h=>Nat.le_trans B2.size h))) rb.out bd HC.out HB.out (fun p hp oJ=>HO.out _ (Sk.needs_E (by decide) hp oJ) L2 bJ.out.pts.sub));rw [<-e2] at jR;clear e1 e2 e3 lr;have HY:=zBK (vj.out k);go_wp2_with fail;refine jR.out.mono ?_;rintro e wt ⟨rfl,cQ,at'⟩;rw [<-HY.out];have jj:=zBK (fun (W:World)=>zBp rk (Sk.foldV rk GG s0 k) (GG k) W (vW.out k (by omega)) (pE.out k bd));have eF:=zBK (show apT rk (Sk.foldV rk GG s0 k) (GG k)=Sk.foldV rk GG s0 (k+1) from rfl);have sd:Aside [vb] w5.heap.size w5 wt:=aW.trans at' aW.size;have jG:=zBK (bJ.out.past at' cQ);have l8:=sd.keep dT iP dh;have t1:=coQ l8 1;simp at t1;clear jR bJ cQ q0 q1 q3 q5;generalize GG k=yy at jj eF ⊢;obtain ⟨fv,nJ⟩:=nmQ (Sk.foldV rk GG s0 k);rw [<-nJ] at jj eF ⊢;clear nJ;go_wp2_with fail;refine (jj.out _).mono ?_;rintro e w6 ⟨rfl,b6⟩;rw [eF.out];have nv:Aside [vb] w5.heap.size w5 w6:=sd.trans (aside b6) sd.size;have dx:=zBK (jG.out.under b6);clear jG t1;obtain ⟨z,hz⟩:=nmQ (Sk.foldV rk GG s0 (k+1));rw [<-hz];have HZ:=zBK hz;clear hz jj eF;have cK:=zBK dx.out.own;rw [Sk.folds_len] at cK;have dc:w5.heap.size<=w6.heap.size:=dx.out.sz;have dn:Hid (∀ q,(Value.slice fa k fc).ownBlock=some q->q<w6.heap.size):=zBK (fun q hq=>(cK.out.lt q hq).2);have q7:((Sk.folds rk GG s0 k).length+1)*8<=140737488355328:=(by rw [Sk.folds_len];omega);have q8:(Sk.folds rk GG s0 k).length+1<=maxLen:=(by rw [Sk.folds_len];unfold maxLen;omega);have dF:=zBK dx.out;rw [Sk.folds_len] at dF;clear dx
             go_wp2_with (at_builtin;refine zBW kLong rfl _ _ 44 2 rfl Tryz.underlying44 w5.heap.size w6.heap.size _ (Sk.folds rk GG s0 k) (by rfl) cK.out [.int .i64 z] z rfl (by rfl) dn.out dc dc q7 q8 ?_;intro v8 w8 aG b8 g8 m8;have di:=zBK aG;have eQ:=zBK g8;have eN:=zBK m8;clear aG g8 m8)
             obtain ⟨L3,eE⟩:=dF.out.more di.out eQ.out eN.out;rw [show Sk.folds rk GG s0 k++[z]=Sk.folds rk GG s0 (k+1) from by rw [HZ.out];exact (Sk.folds_succ k).symm] at eE;have ia:=zBK eE;have a8:Aside [vb] w5.heap.size w5 w8:=nv.trans (aside b8) zBR;clear eE dF cK dn di eQ eN;go_roundg (nC-(k+1))
             case measure=>omega
             case rel=>exact ⟨k+1,L3,by omega,rfl,by go_num,by rw [HZ.out],ia,a8⟩
          case neg=>
           by_cases h1:op=1
           case pos=>
            as_aux_lemma=>
            subst h1;have dm:A.length=0:=(by have h1:Sk.partsT.getD (1:Int).toNat 0=0:=rfl;have h2:=lW.out;omega);have mQ:=zBK dm;clear dm;have fw:=zBK (show Sk.evalR S.V C ah ⟨1,rk,(jo:Int),rn,A,E⟩=Sk.outL S.V C ah ⟨1,rk,(jo:Int),rn,A,E⟩ cn by rw [<-gU.out];exact Sk.outL_all.symm);obtain ⟨RR,gi⟩:∃ RR:Sk.Ru,RR=⟨1,rk,(jo:Int),rn,A,E⟩:=⟨_,rfl⟩;rw [<-gi] at fw;have fE:=zBK gi;clear gi;have dT:=jh;have iP:=zBM dT;have l3:=HP.out.st.vL;have dp:=zBK (OutAt.start HP.out aR.size);have lQ:=zBK (show ∀ k,Sk.evalG C ah RR k=rn from fun k=>by
             rw [fE.out];unfold Sk.evalG
             dsimp only
             rfl)
            go_wp2_with fail;clear r0 r1 r3 r4 r5;go_loopg [9,14] cn (fun gh v9 mO wr=>∃ (k:Nat) (L2:List Nat),k<=cn/\gh=cn-k/\mO=.int .i64 (k:Nat)/\Hid (OutAt L L2 mb vb g S ah C w2.heap.size w5.heap.size wr (.slice sa us.length sc) us A v9 (Sk.outL S.V C ah RR k))/\Aside [vb] w5.heap.size w5 wr)
            case atStart=>exact ⟨0,L',Nat.zero_le _,rfl,rfl,dp,Aside.refl _⟩
            case round=>
             clear dp;obtain ⟨k,L2,hk,rfl,rfl,bJ,aW⟩:=hrel;obtain ⟨fa,fc,rfl,jb,iS⟩:=bJ.out.own.form;unfold maxLen at iS;rw [zBV] at jb ⊢;have dL:=aW.keep dT iP dh;have q0:=coQ dL 0;have q1:=coQ dL 1;have q3:=coQ dL 3;have q5:=coQ dL 5;simp at q0 q1 q3 q5;have hH:=fK.trans aW fK.size;by_cases bd:k<cn
             case neg=>
              have bp:k=cn:=(by omega);subst bp;have dW:=zBK (zBd (L:=L) bJ.out.own (fun q hq=>HP.out.st.lt q (HP.out.sub q hq)) (by rw [zBV];exact nG));rw [zBV] at dW;have dy:=zBK (bJ.out.pts.st.less bJ.out.pts.sub fQ.out fF.out);have eI:=zBK hH;clear bJ q1 q3 q5;go_wp2;exact bodyPost_ret (v:=.slice fa k fc) (by simp [results,Tryz.results66,go_sem]) rfl ⟨_,rfl,(by rw [<-fE.out,fw.out];exact dW.out),dy.out,eI.out⟩
             case pos=>
              have ls:=zBK (lQ.out k);have cK:=zBK bJ.out.own;rw [zBV] at cK;have dc:w5.heap.size<=wr.heap.size:=bJ.out.sz;have dn:Hid (∀ q,(Value.slice fa k fc).ownBlock=some q->q<wr.heap.size):=zBK (fun q hq=>(cK.out.lt q hq).2);have q7:((Sk.outL S.V C ah RR k).length+1)*8<=140737488355328:=(by rw [zBV];omega);have q8:(Sk.outL S.V C ah RR k).length+1<=maxLen:=(by rw [zBV];unfold maxLen;omega);have dF:=zBK bJ.out;rw [zBV] at dF;clear bJ
              go_wp2_with (at_builtin;refine zBW kLong rfl _ _ 44 2 rfl Tryz.underlying44 w5.heap.size wr.heap.size _ (Sk.outL S.V C ah RR k) (by rfl) cK.out [.int .i64 rn] rn rfl (by rfl) dn.out dc dc q7 q8 ?_;intro v8 w8 aG b8 g8 m8;have di:=zBK aG;have eQ:=zBK g8;have eN:=zBK m8;clear aG g8 m8)
              obtain ⟨L3,eE⟩:=dF.out.more di.out eQ.out eN.out;rw [show Sk.outL S.V C ah RR k++[rn]=Sk.outL S.V C ah RR (k+1) from by rw [Sk.outL_succ,ls.out]] at eE;have ia:=zBK eE;have a8:Aside [vb] w5.heap.size w5 w8:=aW.trans (aside b8) zBR;clear eE dF cK dn di eQ eN;go_roundg (cn-(k+1))
              case measure=>omega
              case rel=>exact ⟨k+1,L3,by omega,rfl,by go_num,ia,a8⟩
           case neg=>
            by_cases h2:op=2
            case pos=>
             as_aux_lemma=>
             subst h2;have dm:A.length=1:=(by have h1:Sk.partsT.getD (2:Int).toNat 0=1:=rfl;have h2:=lW.out;omega);obtain ⟨ga,rfl,eM,eP,jc⟩:=HP.out.head (by omega);obtain ⟨a0,k0,x0,cM⟩:=HP.out.part (j:=0) (by omega);rw [Sk.pt_get (C:=C) (op:=2) (k:=rk) (out:=(jo:Int)) (n:=rn) (A:=A) (E:=E) (j:=0) (by omega)] at x0 cM;obtain ⟨P0,cB⟩:∃ P,P=Sk.pt C ⟨2,rk,(jo:Int),rn,A,E⟩ 0:=⟨_,rfl⟩;rw [<-cB] at x0 cM;have cz:P0.length<=300:=(by rw [cB];exact HB.out _);have eZ:0<P0.length:=(by rw [cB];exact HF.out.one (by show (2:Int)≠13;decide) _ (Sk.aN_mem (r:=⟨2,rk,(jo:Int),rn,A,E⟩) (by dsimp only;omega)));have lS:=zBK cM;obtain ⟨b0,o0,rfl,-,nW,iq,fq,gQ,eL⟩:=cM.opened eZ;unfold maxLen at iq;have iF:=zBK eL;have db:=zBK cB;clear cM eL cB;have fO:0<us.length:=(by omega);have mV:=zBK eM;clear eM;have mQ:=zBK dm;clear dm;have h2:=HF.out.f2 (by simp)
             dsimp only at h2
             rw [gU.out,<-db.out] at h2;have fw:=zBK (show Sk.evalR S.V C ah ⟨2,rk,(jo:Int),rn,A,E⟩=Sk.outL S.V C ah ⟨2,rk,(jo:Int),rn,A,E⟩ cn by rw [<-gU.out];exact Sk.outL_all.symm);obtain ⟨RR,gi⟩:∃ RR:Sk.Ru,RR=⟨2,rk,(jo:Int),rn,A,E⟩:=⟨_,rfl⟩;rw [<-gi] at fw;have fE:=zBK gi;clear gi;have dT:=jh;have iP:=zBM dT;have l3:=HP.out.st.vL;have dp:=zBK (OutAt.start HP.out aR.size);have lQ:=zBK (show ∀ k,Sk.evalG C ah RR k=P0.getD k 0 from fun k=>by
              rw [fE.out];unfold Sk.evalG
              dsimp only
              rw [<-db.out];rfl)
             go_wp2_with fail;clear r0 r1 r3 r4 r5;go_loopg [9,14] cn (fun gh v9 mO wr=>∃ (k:Nat) (L2:List Nat),k<=cn/\gh=cn-k/\mO=.int .i64 (k:Nat)/\Hid (OutAt L L2 mb vb g S ah C w2.heap.size w5.heap.size wr (.slice (some ⟨ga,0,none⟩) us.length sc) us A v9 (Sk.outL S.V C ah RR k))/\Aside [vb] w5.heap.size w5 wr)
             case atStart=>exact ⟨0,L',Nat.zero_le _,rfl,rfl,dp,Aside.refl _⟩
             case round=>
              clear dp;obtain ⟨k,L2,hk,rfl,rfl,bJ,aW⟩:=hrel;obtain ⟨fa,fc,rfl,jb,iS⟩:=bJ.out.own.form;unfold maxLen at iS;rw [zBV] at jb ⊢;have dL:=aW.keep dT iP dh;have q0:=coQ dL 0;have q1:=coQ dL 1;have q3:=coQ dL 3;have q5:=coQ dL 5;simp at q0 q1 q3 q5;have hH:=fK.trans aW fK.size;by_cases bd:k<cn
              case neg=>
               have bp:k=cn:=(by omega);subst bp;have dW:=zBK (zBd (L:=L) bJ.out.own (fun q hq=>HP.out.st.lt q (HP.out.sub q hq)) (by rw [zBV];exact nG));rw [zBV] at dW;have dy:=zBK (bJ.out.pts.st.less bJ.out.pts.sub fQ.out fF.out);have eI:=zBK hH;clear bJ q1 q3 q5;go_wp2;exact bodyPost_ret (v:=.slice fa k fc) (by simp [results,Tryz.results66,go_sem]) rfl ⟨_,rfl,(by rw [<-fE.out,fw.out];exact dW.out),dy.out,eI.out⟩
              case pos=>
               have xk:=(zBL aW (p:=⟨b0,o0+k,none⟩) gQ (by simp;intro e;exact fq (e ▸ l3))).trans (iF.out (k) (by omega));have xg:=(zBL aW (p:=⟨ga,0,none⟩) eP (by simpa using jc)).trans x0;have HZ:=zBK (show P0.getD (k) 0=P0[k] from by rw [List.getD_eq_getElem?_getD,List.getElem?_eq_getElem (by omega)];rfl);generalize P0[k]=z at xk HZ;obtain ⟨n0,fu⟩:∃ n,n=P0.length:=⟨_,rfl⟩;rw [<-fu] at xg;have sI:k<n0:=(by omega);have vw:=zBK fu;clear fu;have ls:=zBK ((lQ.out k).trans HZ.out);have cK:=zBK bJ.out.own;rw [zBV] at cK;have dc:w5.heap.size<=wr.heap.size:=bJ.out.sz;have dn:Hid (∀ q,(Value.slice fa k fc).ownBlock=some q->q<wr.heap.size):=zBK (fun q hq=>(cK.out.lt q hq).2);have q7:((Sk.outL S.V C ah RR k).length+1)*8<=140737488355328:=(by rw [zBV];omega);have q8:(Sk.outL S.V C ah RR k).length+1<=maxLen:=(by rw [zBV];unfold maxLen;omega);have dF:=zBK bJ.out;rw [zBV] at dF;clear bJ
               go_wp2_with (at_builtin;refine zBW kLong rfl _ _ 44 2 rfl Tryz.underlying44 w5.heap.size wr.heap.size _ (Sk.outL S.V C ah RR k) (by rfl) cK.out [.int .i64 z] z rfl (by rfl) dn.out dc dc q7 q8 ?_;intro v8 w8 aG b8 g8 m8;have di:=zBK aG;have eQ:=zBK g8;have eN:=zBK m8;clear aG g8 m8)
               obtain ⟨L3,eE⟩:=dF.out.more di.out eQ.out eN.out;rw [show Sk.outL S.V C ah RR k++[z]=Sk.outL S.V C ah RR (k+1) from by rw [Sk.outL_succ,ls.out]] at eE;have ia:=zBK eE;have a8:Aside [vb] w5.heap.size w5 w8:=aW.trans (aside b8) zBR;clear eE dF cK dn di eQ eN;go_roundg (cn-(k+1))
               case measure=>omega
               case rel=>exact ⟨k+1,L3,by omega,rfl,by go_num,ia,a8⟩
            case neg=>
             by_cases h3:op=3
             case pos=>
              as_aux_lemma=>
              subst h3;have dm:A.length=1:=(by have h1:Sk.partsT.getD (3:Int).toNat 0=1:=rfl;have h2:=lW.out;omega);obtain ⟨ga,rfl,eM,eP,jc⟩:=HP.out.head (by omega);obtain ⟨a0,k0,x0,cM⟩:=HP.out.part (j:=0) (by omega);rw [Sk.pt_get (C:=C) (op:=3) (k:=rk) (out:=(jo:Int)) (n:=rn) (A:=A) (E:=E) (j:=0) (by omega)] at x0 cM;obtain ⟨P0,cB⟩:∃ P,P=Sk.pt C ⟨3,rk,(jo:Int),rn,A,E⟩ 0:=⟨_,rfl⟩;rw [<-cB] at x0 cM;have cz:P0.length<=300:=(by rw [cB];exact HB.out _);have eZ:0<P0.length:=(by rw [cB];exact HF.out.one (by show (3:Int)≠13;decide) _ (Sk.aN_mem (r:=⟨3,rk,(jo:Int),rn,A,E⟩) (by dsimp only;omega)));have lS:=zBK cM;obtain ⟨b0,o0,rfl,-,nW,iq,fq,gQ,eL⟩:=cM.opened eZ;unfold maxLen at iq;have iF:=zBK eL;have db:=zBK cB;clear cM eL cB;have fO:0<us.length:=(by omega);have mV:=zBK eM;clear eM;have mQ:=zBK dm;clear dm;have h2:=HF.out.f2 (by simp)
              dsimp only at h2
              rw [gU.out,<-db.out] at h2;have fw:=zBK (show Sk.evalR S.V C ah ⟨3,rk,(jo:Int),rn,A,E⟩=Sk.outL S.V C ah ⟨3,rk,(jo:Int),rn,A,E⟩ cn by rw [<-gU.out];exact Sk.outL_all.symm);obtain ⟨RR,gi⟩:∃ RR:Sk.Ru,RR=⟨3,rk,(jo:Int),rn,A,E⟩:=⟨_,rfl⟩;rw [<-gi] at fw;have fE:=zBK gi;clear gi;have dT:=jh;have iP:=zBM dT;have l3:=HP.out.st.vL;have dp:=zBK (OutAt.start HP.out aR.size);have lQ:=zBK (show ∀ k,Sk.evalG C ah RR k=apT rk (P0.getD k 0) 0 from fun k=>by
               rw [fE.out];unfold Sk.evalG
               dsimp only
               rw [<-db.out];rfl)
              go_wp2_with fail;clear r0 r1 r3 r4 r5;go_loopg [9,14] cn (fun gh v9 mO wr=>∃ (k:Nat) (L2:List Nat),k<=cn/\gh=cn-k/\mO=.int .i64 (k:Nat)/\Hid (OutAt L L2 mb vb g S ah C w2.heap.size w5.heap.size wr (.slice (some ⟨ga,0,none⟩) us.length sc) us A v9 (Sk.outL S.V C ah RR k))/\Aside [vb] w5.heap.size w5 wr)
              case atStart=>exact ⟨0,L',Nat.zero_le _,rfl,rfl,dp,Aside.refl _⟩
              case round=>
               clear dp;obtain ⟨k,L2,hk,rfl,rfl,bJ,aW⟩:=hrel;obtain ⟨fa,fc,rfl,jb,iS⟩:=bJ.out.own.form;unfold maxLen at iS;rw [zBV] at jb ⊢;have dL:=aW.keep dT iP dh;have q0:=coQ dL 0;have q1:=coQ dL 1;have q3:=coQ dL 3;have q5:=coQ dL 5;simp at q0 q1 q3 q5;have hH:=fK.trans aW fK.size;by_cases bd:k<cn
               case neg=>
                have bp:k=cn:=(by omega);subst bp;have dW:=zBK (zBd (L:=L) bJ.out.own (fun q hq=>HP.out.st.lt q (HP.out.sub q hq)) (by rw [zBV];exact nG));rw [zBV] at dW;have dy:=zBK (bJ.out.pts.st.less bJ.out.pts.sub fQ.out fF.out);have eI:=zBK hH;clear bJ q1 q3 q5;go_wp2;exact bodyPost_ret (v:=.slice fa k fc) (by simp [results,Tryz.results66,go_sem]) rfl ⟨_,rfl,(by rw [<-fE.out,fw.out];exact dW.out),dy.out,eI.out⟩
               case pos=>
                have xk:=(zBL aW (p:=⟨b0,o0+k,none⟩) gQ (by simp;intro e;exact fq (e ▸ l3))).trans (iF.out (k) (by omega));have xg:=(zBL aW (p:=⟨ga,0,none⟩) eP (by simpa using jc)).trans x0;have HZ:=zBK (show P0.getD (k) 0=P0[k] from by rw [List.getD_eq_getElem?_getD,List.getElem?_eq_getElem (by omega)];rfl);generalize P0[k]=z at xk HZ;obtain ⟨n0,fu⟩:∃ n,n=P0.length:=⟨_,rfl⟩;rw [<-fu] at xg;have sI:k<n0:=(by omega);have vw:=zBK fu;clear fu;have jj:=zBK (fun (W:World)=>zBp rk z 0 W (by rw [<-HZ.out,db.out];exact (HC.out _).get k) (by unfold I64;omega));obtain ⟨xx,rz⟩:=nmQ (apT rk z 0);rw [<-rz] at jj;have ls:=zBK (show Sk.evalG C ah RR k=xx by rw [lQ.out k,HZ.out,rz]);clear rz;have jy:=Nat.lt_of_lt_of_le eP aW.size;have iw:=Nat.lt_of_lt_of_le gQ aW.size;have iU:=zBM dL;go_upto_region 54 with fail;have aM:=zBK (fun (wz:World) (hSw:Below wr.heap.size wr wz)=>And.intro ((hSw.cell (p:=⟨w.heap.size,0,none⟩) iU).trans q0) (And.intro ((hSw.cell (p:=⟨w.heap.size,1,none⟩) iU).trans q1) (And.intro ((hSw.cell (p:=⟨ga,0,none⟩) jy).trans xg) ((hSw.cell (p:=⟨b0,o0+k,none⟩) iw).trans xk))));refine zBP (fun w'=>Below wr.heap.size wr w') (fun _=>false) (by kernel_rfl) ?_;have ab:Below wr.heap.size wr wr.drew:=(Below.refl _ _).drew;generalize wr.drew=ag at ab ⊢;refine' tkR 0 220 ab ?o35
                refine' tkQ 1 221 ab ?hyv ?o36
                case hyv=>
                 intro wz hSw;have bk:=aM.out wz hSw;go_simp
                 try rfl
                try simp only [Act.put,sT,sZ,sS]
                refine' tkR 2 222 ab ?o37
                refine' tkR 3 223 ab ?o38
                refine' tkQ 4 224 ab ?hyv ?o39
                case hyv=>
                 intro wz hSw;have bk:=aM.out wz hSw;go_simp
                 try rfl
                try simp only [Act.put,sT,sZ,sS]
                refine' tkR 5 225 ab ?o40
                refine' tkR 6 226 ab ?o41
                refine' tkQ 7 227 ab ?hyv ?o42
                case hyv=>
                 intro wz hSw;have bk:=aM.out wz hSw;go_simp
                 try rfl
                try simp only [Act.put,sT,sZ,sS]
                refine tnQ 8 (fun K hK=>?_);go_simp;refine (jj.out ag).mono ?_;rintro eq aw ⟨rfl,cY⟩;have af:Below wr.heap.size wr aw:=ab.trans (cY.mono ab.size);refine hK.out _ _ (fun _=>af) ?_;clear hK K
                try simp only [Act.put,sT,sZ,sS]
                refine' tkR 9 15 af ?o43
                refine zBN (by kernel_rfl) ?_ _;obtain ⟨w6,qw⟩:∃ x,x=aw:=⟨_,rfl⟩;subst qw;have nv:Aside [vb] w5.heap.size w5 w6:=aW.trans (aside af) aW.size;have dx:=zBK (bJ.out.under af);clear bJ xg xk;have cK:=zBK dx.out.own;rw [zBV] at cK;have dc:w5.heap.size<=w6.heap.size:=dx.out.sz;have dn:Hid (∀ q,(Value.slice fa k fc).ownBlock=some q->q<w6.heap.size):=zBK (fun q hq=>(cK.out.lt q hq).2);have q7:((Sk.outL S.V C ah RR k).length+1)*8<=140737488355328:=(by rw [zBV];omega);have q8:(Sk.outL S.V C ah RR k).length+1<=maxLen:=(by rw [zBV];unfold maxLen;omega);have dF:=zBK dx.out;rw [zBV] at dF;clear q0 q1 q3 q5 dx
                go_wp2_with (at_builtin;refine zBW kLong rfl _ _ 44 2 rfl Tryz.underlying44 w5.heap.size w6.heap.size _ (Sk.outL S.V C ah RR k) (by rfl) cK.out [.int .i64 xx] xx rfl (by rfl) dn.out dc dc q7 q8 ?_;intro v8 w8 aG b8 g8 m8;have di:=zBK aG;have eQ:=zBK g8;have eN:=zBK m8;clear aG g8 m8)
                obtain ⟨L3,eE⟩:=dF.out.more di.out eQ.out eN.out;rw [show Sk.outL S.V C ah RR k++[xx]=Sk.outL S.V C ah RR (k+1) from by rw [Sk.outL_succ,ls.out]] at eE;have ia:=zBK eE;have a8:Aside [vb] w5.heap.size w5 w8:=nv.trans (aside b8) zBR;clear eE dF cK dn di eQ eN;go_roundg (cn-(k+1))
                case measure=>omega
                case rel=>exact ⟨k+1,L3,by omega,rfl,by go_num,ia,a8⟩
             case neg=>
              by_cases h4:op=4
              case pos=>
               as_aux_lemma=>
               subst h4;have dm:A.length=2:=(by have h1:Sk.partsT.getD (4:Int).toNat 0=2:=rfl;have h2:=lW.out;omega);obtain ⟨ga,rfl,eM,eP,jc⟩:=HP.out.head (by omega);obtain ⟨a0,k0,x0,cM⟩:=HP.out.part (j:=0) (by omega);rw [Sk.pt_get (C:=C) (op:=4) (k:=rk) (out:=(jo:Int)) (n:=rn) (A:=A) (E:=E) (j:=0) (by omega)] at x0 cM;obtain ⟨P0,cB⟩:∃ P,P=Sk.pt C ⟨4,rk,(jo:Int),rn,A,E⟩ 0:=⟨_,rfl⟩;rw [<-cB] at x0 cM;have cz:P0.length<=300:=(by rw [cB];exact HB.out _);have eZ:0<P0.length:=(by rw [cB];exact HF.out.one (by show (4:Int)≠13;decide) _ (Sk.aN_mem (r:=⟨4,rk,(jo:Int),rn,A,E⟩) (by dsimp only;omega)));have lS:=zBK cM;obtain ⟨b0,o0,rfl,-,nW,iq,fq,gQ,eL⟩:=cM.opened eZ;unfold maxLen at iq;have iF:=zBK eL;have db:=zBK cB;clear cM eL cB;obtain ⟨a1,k1,x1,dS⟩:=HP.out.part (j:=1) (by omega);rw [Sk.pt_get (C:=C) (op:=4) (k:=rk) (out:=(jo:Int)) (n:=rn) (A:=A) (E:=E) (j:=1) (by omega)] at x1 dS;obtain ⟨P1,eY⟩:∃ P,P=Sk.pt C ⟨4,rk,(jo:Int),rn,A,E⟩ 1:=⟨_,rfl⟩;rw [<-eY] at x1 dS;have lz:P1.length<=300:=(by rw [eY];exact HB.out _);have bm:0<P1.length:=(by rw [eY];exact HF.out.one (by show (4:Int)≠13;decide) _ (Sk.aN_mem (r:=⟨4,rk,(jo:Int),rn,A,E⟩) (by dsimp only;omega)));have iG:=zBK dS;obtain ⟨b1,o1,rfl,-,lL,iy,jM,fW,bH⟩:=dS.opened bm;unfold maxLen at iy;have nk:=zBK bH;have fS:=zBK eY;clear dS bH eY;have fO:0<us.length:=(by omega);have ka:1<us.length:=(by omega);have j9:(1:Int)<(us.length:Int):=(by omega);have mV:=zBK eM;clear eM;have mQ:=zBK dm;clear dm;have h2:=HF.out.f2 (by simp)
               dsimp only at h2
               rw [gU.out,<-db.out] at h2;have h4:=HF.out.f4 (by simp)
               dsimp only at h4
               rw [gU.out,<-fS.out] at h4;have fw:=zBK (show Sk.evalR S.V C ah ⟨4,rk,(jo:Int),rn,A,E⟩=Sk.outL S.V C ah ⟨4,rk,(jo:Int),rn,A,E⟩ cn by rw [<-gU.out];exact Sk.outL_all.symm);obtain ⟨RR,gi⟩:∃ RR:Sk.Ru,RR=⟨4,rk,(jo:Int),rn,A,E⟩:=⟨_,rfl⟩;rw [<-gi] at fw;have fE:=zBK gi;clear gi;have dT:=jh;have iP:=zBM dT;have l3:=HP.out.st.vL;have dp:=zBK (OutAt.start HP.out aR.size);have lQ:=zBK (show ∀ k,Sk.evalG C ah RR k=apT rk (P0.getD k 0) (P1.getD k 0) from fun k=>by
                rw [fE.out];unfold Sk.evalG
                dsimp only
                rw [<-db.out,<-fS.out];rfl)
               go_wp2_with fail;clear r0 r1 r3 r4 r5;go_loopg [9,14] cn (fun gh v9 mO wr=>∃ (k:Nat) (L2:List Nat),k<=cn/\gh=cn-k/\mO=.int .i64 (k:Nat)/\Hid (OutAt L L2 mb vb g S ah C w2.heap.size w5.heap.size wr (.slice (some ⟨ga,0,none⟩) us.length sc) us A v9 (Sk.outL S.V C ah RR k))/\Aside [vb] w5.heap.size w5 wr)
               case atStart=>exact ⟨0,L',Nat.zero_le _,rfl,rfl,dp,Aside.refl _⟩
               case round=>
                clear dp;obtain ⟨k,L2,hk,rfl,rfl,bJ,aW⟩:=hrel;obtain ⟨fa,fc,rfl,jb,iS⟩:=bJ.out.own.form;unfold maxLen at iS;rw [zBV] at jb ⊢;have dL:=aW.keep dT iP dh;have q0:=coQ dL 0;have q1:=coQ dL 1;have q3:=coQ dL 3;have q5:=coQ dL 5;simp at q0 q1 q3 q5;have hH:=fK.trans aW fK.size;by_cases bd:k<cn
                case neg=>
                 have bp:k=cn:=(by omega);subst bp;have dW:=zBK (zBd (L:=L) bJ.out.own (fun q hq=>HP.out.st.lt q (HP.out.sub q hq)) (by rw [zBV];exact nG));rw [zBV] at dW;have dy:=zBK (bJ.out.pts.st.less bJ.out.pts.sub fQ.out fF.out);have eI:=zBK hH;clear bJ q1 q3 q5;go_wp2;exact bodyPost_ret (v:=.slice fa k fc) (by simp [results,Tryz.results66,go_sem]) rfl ⟨_,rfl,(by rw [<-fE.out,fw.out];exact dW.out),dy.out,eI.out⟩
                case pos=>
                 have xk:=(zBL aW (p:=⟨b0,o0+k,none⟩) gQ (by simp;intro e;exact fq (e ▸ l3))).trans (iF.out (k) (by omega));have xg:=(zBL aW (p:=⟨ga,0,none⟩) eP (by simpa using jc)).trans x0;have HZ:=zBK (show P0.getD (k) 0=P0[k] from by rw [List.getD_eq_getElem?_getD,List.getElem?_eq_getElem (by omega)];rfl);generalize P0[k]=z at xk HZ;obtain ⟨n0,fu⟩:∃ n,n=P0.length:=⟨_,rfl⟩;rw [<-fu] at xg;have sI:k<n0:=(by omega);have vw:=zBK fu;clear fu;have yc:=(zBL aW (p:=⟨b1,o1+k,none⟩) fW (by simp;intro e;exact jM (e ▸ l3))).trans (nk.out (k) (by omega));have tm:=(zBL aW (p:=⟨ga,1,none⟩) eP (by simpa using jc)).trans x1;have yx:=zBK (show P1.getD (k) 0=P1[k] from by rw [List.getD_eq_getElem?_getD,List.getElem?_eq_getElem (by omega)];rfl);generalize P1[k]=z1 at yc yx;obtain ⟨n1,nT⟩:∃ n,n=P1.length:=⟨_,rfl⟩;rw [<-nT] at tm;have GV:k<n1:=(by omega);have MV:=zBK nT;clear nT;have jj:=zBK (fun (W:World)=>zBp rk z z1 W (by rw [<-HZ.out,db.out];exact (HC.out _).get k) (by rw [<-yx.out,fS.out];exact (HC.out _).get k));obtain ⟨xx,rz⟩:=nmQ (apT rk z z1);rw [<-rz] at jj;have ls:=zBK (show Sk.evalG C ah RR k=xx by rw [lQ.out k,HZ.out,yx.out,rz]);clear rz;have jy:=Nat.lt_of_lt_of_le eP aW.size;have iw:=Nat.lt_of_lt_of_le gQ aW.size;have p5:=Nat.lt_of_lt_of_le fW aW.size;have iU:=zBM dL;go_upto_region 56 with fail;have aM:=zBK (fun (wz:World) (hSw:Below wr.heap.size wr wz)=>And.intro ((hSw.cell (p:=⟨w.heap.size,0,none⟩) iU).trans q0) (And.intro ((hSw.cell (p:=⟨w.heap.size,1,none⟩) iU).trans q1) (And.intro ((hSw.cell (p:=⟨ga,0,none⟩) jy).trans xg) (And.intro ((hSw.cell (p:=⟨b0,o0+k,none⟩) iw).trans xk) (And.intro ((hSw.cell (p:=⟨ga,1,none⟩) jy).trans tm) ((hSw.cell (p:=⟨b1,o1+k,none⟩) p5).trans yc))))));refine zBP (fun w'=>Below wr.heap.size wr w') (fun _=>false) (by kernel_rfl) ?_;have ab:Below wr.heap.size wr wr.drew:=(Below.refl _ _).drew;generalize wr.drew=ag at ab ⊢;refine' tkR 0 231 ab ?o44
                 refine' tkQ 1 232 ab ?hyv ?o45
                 case hyv=>
                  intro wz hSw;have bk:=aM.out wz hSw;go_simp
                  try rfl
                 try simp only [Act.put,sT,sZ,sS]
                 refine' tkR 2 233 ab ?o46
                 refine' tkR 3 234 ab ?o47
                 refine' tkQ 4 235 ab ?hyv ?o48
                 case hyv=>
                  intro wz hSw;have bk:=aM.out wz hSw;go_simp
                  try rfl
                 try simp only [Act.put,sT,sZ,sS]
                 refine' tkR 5 236 ab ?o49
                 refine' tkR 6 237 ab ?o50
                 refine' tkQ 7 238 ab ?hyv ?o51
                 case hyv=>
                  intro wz hSw;have bk:=aM.out wz hSw;go_simp
                  try rfl
                 try simp only [Act.put,sT,sZ,sS]
                 refine' tkR 8 239 ab ?o52
                 refine' tkR 9 240 ab ?o53
                 refine' tkQ 10 241 ab ?hyv ?o54
                 case hyv=>
                  intro wz hSw;have bk:=aM.out wz hSw;go_simp
                  try rfl
                 try simp only [Act.put,sT,sZ,sS]
                 refine' tkR 11 242 ab ?o55
                 refine' tkR 12 243 ab ?o56
                 refine' tkQ 13 244 ab ?hyv ?o57
                 case hyv=>
                  intro wz hSw;have bk:=aM.out wz hSw;go_simp
                  try rfl
                 try simp only [Act.put,sT,sZ,sS]
                 refine tnQ 14 (fun K hK=>?_);go_simp;refine (jj.out ag).mono ?_;rintro eq aw ⟨rfl,cY⟩;have af:Below wr.heap.size wr aw:=ab.trans (cY.mono ab.size);refine hK.out _ _ (fun _=>af) ?_;clear hK K
                 try simp only [Act.put,sT,sZ,sS]
                 refine' tkR 15 15 af ?o58
                 refine zBN (by kernel_rfl) ?_ _;obtain ⟨w6,qw⟩:∃ x,x=aw:=⟨_,rfl⟩;subst qw;have nv:Aside [vb] w5.heap.size w5 w6:=aW.trans (aside af) aW.size;have dx:=zBK (bJ.out.under af);clear bJ xg xk tm yc;have cK:=zBK dx.out.own;rw [zBV] at cK;have dc:w5.heap.size<=w6.heap.size:=dx.out.sz;have dn:Hid (∀ q,(Value.slice fa k fc).ownBlock=some q->q<w6.heap.size):=zBK (fun q hq=>(cK.out.lt q hq).2);have q7:((Sk.outL S.V C ah RR k).length+1)*8<=140737488355328:=(by rw [zBV];omega);have q8:(Sk.outL S.V C ah RR k).length+1<=maxLen:=(by rw [zBV];unfold maxLen;omega);have dF:=zBK dx.out;rw [zBV] at dF;clear q0 q1 q3 q5 dx
                 go_wp2_with (at_builtin;refine zBW kLong rfl _ _ 44 2 rfl Tryz.underlying44 w5.heap.size w6.heap.size _ (Sk.outL S.V C ah RR k) (by rfl) cK.out [.int .i64 xx] xx rfl (by rfl) dn.out dc dc q7 q8 ?_;intro v8 w8 aG b8 g8 m8;have di:=zBK aG;have eQ:=zBK g8;have eN:=zBK m8;clear aG g8 m8)
                 obtain ⟨L3,eE⟩:=dF.out.more di.out eQ.out eN.out;rw [show Sk.outL S.V C ah RR k++[xx]=Sk.outL S.V C ah RR (k+1) from by rw [Sk.outL_succ,ls.out]] at eE;have ia:=zBK eE;have a8:Aside [vb] w5.heap.size w5 w8:=nv.trans (aside b8) zBR;clear eE dF cK dn di eQ eN;go_roundg (cn-(k+1))
                 case measure=>omega
                 case rel=>exact ⟨k+1,L3,by omega,rfl,by go_num,ia,a8⟩
              case neg=>
               by_cases h8:op=8
               case pos=>
                as_aux_lemma=>
                subst h8;have dm:A.length=1:=(by have h1:Sk.partsT.getD (8:Int).toNat 0=1:=rfl;have h2:=lW.out;omega);obtain ⟨ga,rfl,eM,eP,jc⟩:=HP.out.head (by omega);obtain ⟨a0,k0,x0,cM⟩:=HP.out.part (j:=0) (by omega);rw [Sk.pt_get (C:=C) (op:=8) (k:=rk) (out:=(jo:Int)) (n:=rn) (A:=A) (E:=E) (j:=0) (by omega)] at x0 cM;obtain ⟨P0,cB⟩:∃ P,P=Sk.pt C ⟨8,rk,(jo:Int),rn,A,E⟩ 0:=⟨_,rfl⟩;rw [<-cB] at x0 cM;have cz:P0.length<=300:=(by rw [cB];exact HB.out _);have eZ:0<P0.length:=(by rw [cB];exact HF.out.one (by show (8:Int)≠13;decide) _ (Sk.aN_mem (r:=⟨8,rk,(jo:Int),rn,A,E⟩) (by dsimp only;omega)));have lS:=zBK cM;obtain ⟨b0,o0,rfl,-,nW,iq,fq,gQ,eL⟩:=cM.opened eZ;unfold maxLen at iq;have iF:=zBK eL;have db:=zBK cB;clear cM eL cB;have fO:0<us.length:=(by omega);have mV:=zBK eM;clear eM;have mQ:=zBK dm;clear dm;have lh:=iF.out 0 eZ;obtain ⟨s0,im⟩:∃ s,s=P0[0]:=⟨_,rfl⟩;rw [<-im] at lh;simp at lh;have gI:=zBK (show P0.getD 0 0=s0 by rw [im];simp [List.getD_eq_getElem?_getD,eZ]);clear im;have fw:=zBK (show Sk.evalR S.V C ah ⟨8,rk,(jo:Int),rn,A,E⟩=Sk.outL S.V C ah ⟨8,rk,(jo:Int),rn,A,E⟩ cn by rw [<-gU.out];exact Sk.outL_all.symm);obtain ⟨RR,gi⟩:∃ RR:Sk.Ru,RR=⟨8,rk,(jo:Int),rn,A,E⟩:=⟨_,rfl⟩;rw [<-gi] at fw;have fE:=zBK gi;clear gi;have dT:=jh;have iP:=zBM dT;have l3:=HP.out.st.vL;have dp:=zBK (OutAt.start HP.out aR.size);have lQ:=zBK (show ∀ k,Sk.evalG C ah RR k=s0 from fun k=>by
                 rw [fE.out];unfold Sk.evalG Sk.sca
                 dsimp only
                 rw [<-db.out];rw [gI.out];rfl)
                go_wp2_with fail;clear r0 r1 r3 r4 r5;go_loopg [9,14] cn (fun gh v9 mO wr=>∃ (k:Nat) (L2:List Nat),k<=cn/\gh=cn-k/\mO=.int .i64 (k:Nat)/\Hid (OutAt L L2 mb vb g S ah C w2.heap.size w5.heap.size wr (.slice (some ⟨ga,0,none⟩) us.length sc) us A v9 (Sk.outL S.V C ah RR k))/\Aside [vb] w5.heap.size w5 wr)
                case atStart=>exact ⟨0,L',Nat.zero_le _,rfl,rfl,dp,Aside.refl _⟩
                case round=>
                 clear dp;obtain ⟨k,L2,hk,rfl,rfl,bJ,aW⟩:=hrel;obtain ⟨fa,fc,rfl,jb,iS⟩:=bJ.out.own.form;unfold maxLen at iS;rw [zBV] at jb ⊢;have dL:=aW.keep dT iP dh;have q0:=coQ dL 0;have q1:=coQ dL 1;have q3:=coQ dL 3;have q5:=coQ dL 5;simp at q0 q1 q3 q5;have hH:=fK.trans aW fK.size;by_cases bd:k<cn
                 case neg=>
                  have bp:k=cn:=(by omega);subst bp;have dW:=zBK (zBd (L:=L) bJ.out.own (fun q hq=>HP.out.st.lt q (HP.out.sub q hq)) (by rw [zBV];exact nG));rw [zBV] at dW;have dy:=zBK (bJ.out.pts.st.less bJ.out.pts.sub fQ.out fF.out);have eI:=zBK hH;clear bJ q1 q3 q5;go_wp2;exact bodyPost_ret (v:=.slice fa k fc) (by simp [results,Tryz.results66,go_sem]) rfl ⟨_,rfl,(by rw [<-fE.out,fw.out];exact dW.out),dy.out,eI.out⟩
                 case pos=>
                  have xs:=(zBL aW (p:=⟨b0,o0,none⟩) gQ (by simp;intro e;exact fq (e ▸ l3))).trans lh;have xg:=(zBL aW (p:=⟨ga,0,none⟩) eP (by simpa using jc)).trans x0;obtain ⟨n0,fu⟩:∃ n,n=P0.length:=⟨_,rfl⟩;rw [<-fu] at xg;have sI:0<n0:=(by omega);clear fu;have ls:=zBK (lQ.out k);have cK:=zBK bJ.out.own;rw [zBV] at cK;have dc:w5.heap.size<=wr.heap.size:=bJ.out.sz;have dn:Hid (∀ q,(Value.slice fa k fc).ownBlock=some q->q<wr.heap.size):=zBK (fun q hq=>(cK.out.lt q hq).2);have q7:((Sk.outL S.V C ah RR k).length+1)*8<=140737488355328:=(by rw [zBV];omega);have q8:(Sk.outL S.V C ah RR k).length+1<=maxLen:=(by rw [zBV];unfold maxLen;omega);have dF:=zBK bJ.out;rw [zBV] at dF;clear bJ
                  go_wp2_with (at_builtin;refine zBW kLong rfl _ _ 44 2 rfl Tryz.underlying44 w5.heap.size wr.heap.size _ (Sk.outL S.V C ah RR k) (by rfl) cK.out [.int .i64 s0] s0 rfl (by rfl) dn.out dc dc q7 q8 ?_;intro v8 w8 aG b8 g8 m8;have di:=zBK aG;have eQ:=zBK g8;have eN:=zBK m8;clear aG g8 m8)
                  obtain ⟨L3,eE⟩:=dF.out.more di.out eQ.out eN.out;rw [show Sk.outL S.V C ah RR k++[s0]=Sk.outL S.V C ah RR (k+1) from by rw [Sk.outL_succ,ls.out]] at eE;have ia:=zBK eE;have a8:Aside [vb] w5.heap.size w5 w8:=aW.trans (aside b8) zBR;clear eE dF cK dn di eQ eN;go_roundg (cn-(k+1))
                  case measure=>omega
                  case rel=>exact ⟨k+1,L3,by omega,rfl,by go_num,ia,a8⟩
               case neg=>
                by_cases h10:op=10
                case pos=>
                 as_aux_lemma=>
                 subst h10;have dm:A.length=3:=(by have h1:Sk.partsT.getD (10:Int).toNat 0=3:=rfl;have h2:=lW.out;omega);obtain ⟨ga,rfl,eM,eP,jc⟩:=HP.out.head (by omega);obtain ⟨a0,k0,x0,cM⟩:=HP.out.part (j:=0) (by omega);rw [Sk.pt_get (C:=C) (op:=10) (k:=rk) (out:=(jo:Int)) (n:=rn) (A:=A) (E:=E) (j:=0) (by omega)] at x0 cM;obtain ⟨P0,cB⟩:∃ P,P=Sk.pt C ⟨10,rk,(jo:Int),rn,A,E⟩ 0:=⟨_,rfl⟩;rw [<-cB] at x0 cM;have cz:P0.length<=300:=(by rw [cB];exact HB.out _);have eZ:0<P0.length:=(by rw [cB];exact HF.out.one (by show (10:Int)≠13;decide) _ (Sk.aN_mem (r:=⟨10,rk,(jo:Int),rn,A,E⟩) (by dsimp only;omega)));have lS:=zBK cM;obtain ⟨b0,o0,rfl,-,nW,iq,fq,gQ,eL⟩:=cM.opened eZ;unfold maxLen at iq;have iF:=zBK eL;have db:=zBK cB;clear cM eL cB;obtain ⟨a1,k1,x1,dS⟩:=HP.out.part (j:=1) (by omega);rw [Sk.pt_get (C:=C) (op:=10) (k:=rk) (out:=(jo:Int)) (n:=rn) (A:=A) (E:=E) (j:=1) (by omega)] at x1 dS;obtain ⟨P1,eY⟩:∃ P,P=Sk.pt C ⟨10,rk,(jo:Int),rn,A,E⟩ 1:=⟨_,rfl⟩;rw [<-eY] at x1 dS;have lz:P1.length<=300:=(by rw [eY];exact HB.out _);have bm:0<P1.length:=(by rw [eY];exact HF.out.one (by show (10:Int)≠13;decide) _ (Sk.aN_mem (r:=⟨10,rk,(jo:Int),rn,A,E⟩) (by dsimp only;omega)));have iG:=zBK dS;obtain ⟨b1,o1,rfl,-,lL,iy,jM,fW,bH⟩:=dS.opened bm;unfold maxLen at iy;have nk:=zBK bH;have fS:=zBK eY;clear dS bH eY;obtain ⟨a2,k2,x2,fT⟩:=HP.out.part (j:=2) (by omega);rw [Sk.pt_get (C:=C) (op:=10) (k:=rk) (out:=(jo:Int)) (n:=rn) (A:=A) (E:=E) (j:=2) (by omega)] at x2 fT;obtain ⟨P2,iR⟩:∃ P,P=Sk.pt C ⟨10,rk,(jo:Int),rn,A,E⟩ 2:=⟨_,rfl⟩;rw [<-iR] at x2 fT;have lb:P2.length<=300:=(by rw [iR];exact HB.out _);have aY:0<P2.length:=(by rw [iR];exact HF.out.one (by show (10:Int)≠13;decide) _ (Sk.aN_mem (r:=⟨10,rk,(jo:Int),rn,A,E⟩) (by dsimp only;omega)));have km:=zBK fT;obtain ⟨b2,o2,rfl,-,j8,jg,qk,jz,cG⟩:=fT.opened aY;unfold maxLen at jg;have Dc:=zBK cG;have py:=zBK iR;clear fT cG iR;have fO:0<us.length:=(by omega);have ka:1<us.length:=(by omega);have j9:(1:Int)<(us.length:Int):=(by omega);have uB:2<us.length:=(by omega);have uA:(2:Int)<(us.length:Int):=(by omega);have mV:=zBK eM;clear eM;have mQ:=zBK dm;clear dm;have qH:=nk.out 0 bm;obtain ⟨s1,nc⟩:∃ s,s=P1[0]:=⟨_,rfl⟩;rw [<-nc] at qH;simp at qH;have vF:=zBK (show P1.getD 0 0=s1 by rw [nc];simp [List.getD_eq_getElem?_getD,bm]);clear nc;have qJ:=Dc.out 0 aY;obtain ⟨s2,kI⟩:∃ s,s=P2[0]:=⟨_,rfl⟩;rw [<-kI] at qJ;simp at qJ;have vG:=zBK (show P2.getD 0 0=s2 by rw [kI];simp [List.getD_eq_getElem?_getD,aY]);clear kI;have h2:=HF.out.f2 (by simp)
                 dsimp only at h2
                 rw [gU.out,<-db.out] at h2;have fw:=zBK (show Sk.evalR S.V C ah ⟨10,rk,(jo:Int),rn,A,E⟩=Sk.outL S.V C ah ⟨10,rk,(jo:Int),rn,A,E⟩ cn by rw [<-gU.out];exact Sk.outL_all.symm);obtain ⟨RR,gi⟩:∃ RR:Sk.Ru,RR=⟨10,rk,(jo:Int),rn,A,E⟩:=⟨_,rfl⟩;rw [<-gi] at fw;have fE:=zBK gi;clear gi;have dT:=jh;have iP:=zBM dT;have l3:=HP.out.st.vL;have dp:=zBK (OutAt.start HP.out aR.size);have lQ:=zBK (show ∀ k,Sk.evalG C ah RR k=if (k:Int)=s1 then s2 else P0.getD k 0 from fun k=>by
                  rw [fE.out];unfold Sk.evalG Sk.sca
                  dsimp only
                  rw [<-db.out,<-fS.out,<-py.out];rw [vF.out,vG.out];rfl)
                 go_wp2_with fail;clear r0 r1 r3 r4 r5;go_loopg [9,14] cn (fun gh v9 mO wr=>∃ (k:Nat) (L2:List Nat),k<=cn/\gh=cn-k/\mO=.int .i64 (k:Nat)/\Hid (OutAt L L2 mb vb g S ah C w2.heap.size w5.heap.size wr (.slice (some ⟨ga,0,none⟩) us.length sc) us A v9 (Sk.outL S.V C ah RR k))/\Aside [vb] w5.heap.size w5 wr)
                 case atStart=>exact ⟨0,L',Nat.zero_le _,rfl,rfl,dp,Aside.refl _⟩
                 case round=>
                  clear dp;obtain ⟨k,L2,hk,rfl,rfl,bJ,aW⟩:=hrel;obtain ⟨fa,fc,rfl,jb,iS⟩:=bJ.out.own.form;unfold maxLen at iS;rw [zBV] at jb ⊢;have dL:=aW.keep dT iP dh;have q0:=coQ dL 0;have q1:=coQ dL 1;have q3:=coQ dL 3;have q5:=coQ dL 5;simp at q0 q1 q3 q5;have hH:=fK.trans aW fK.size;by_cases bd:k<cn
                  case neg=>
                   have bp:k=cn:=(by omega);subst bp;have dW:=zBK (zBd (L:=L) bJ.out.own (fun q hq=>HP.out.st.lt q (HP.out.sub q hq)) (by rw [zBV];exact nG));rw [zBV] at dW;have dy:=zBK (bJ.out.pts.st.less bJ.out.pts.sub fQ.out fF.out);have eI:=zBK hH;clear bJ q1 q3 q5;go_wp2;exact bodyPost_ret (v:=.slice fa k fc) (by simp [results,Tryz.results66,go_sem]) rfl ⟨_,rfl,(by rw [<-fE.out,fw.out];exact dW.out),dy.out,eI.out⟩
                  case pos=>
                   have xk:=(zBL aW (p:=⟨b0,o0+k,none⟩) gQ (by simp;intro e;exact fq (e ▸ l3))).trans (iF.out (k) (by omega));have xg:=(zBL aW (p:=⟨ga,0,none⟩) eP (by simpa using jc)).trans x0;have tm:=(zBL aW (p:=⟨ga,1,none⟩) eP (by simpa using jc)).trans x1;have Qh:=(zBL aW (p:=⟨ga,2,none⟩) eP (by simpa using jc)).trans x2;have RP:=(zBL aW (p:=⟨b1,o1,none⟩) fW (by simp;intro e;exact jM (e ▸ l3))).trans qH;have RQ:=(zBL aW (p:=⟨b2,o2,none⟩) jz (by simp;intro e;exact qk (e ▸ l3))).trans qJ;have HZ:=zBK (show P0.getD (k) 0=P0[k] from by rw [List.getD_eq_getElem?_getD,List.getElem?_eq_getElem (by omega)];rfl);generalize P0[k]=z at xk HZ;obtain ⟨n0,fu⟩:∃ n,n=P0.length:=⟨_,rfl⟩;rw [<-fu] at xg;have sI:k<n0:=(by omega);have vw:=zBK fu;clear fu;obtain ⟨n1,nT⟩:∃ n,n=P1.length:=⟨_,rfl⟩;rw [<-nT] at tm;have GV:0<n1:=(by omega);clear nT;obtain ⟨n2,Cc⟩:∃ n,n=P2.length:=⟨_,rfl⟩;rw [<-Cc] at Qh;have OX:0<n2:=(by omega);clear Cc;by_cases uh:(k:Int)=s1
                   case pos=>
                    have ls:=zBK ((lQ.out k).trans (if_pos uh));subst uh;have cK:=zBK bJ.out.own;rw [zBV] at cK;have dc:w5.heap.size<=wr.heap.size:=bJ.out.sz;have dn:Hid (∀ q,(Value.slice fa k fc).ownBlock=some q->q<wr.heap.size):=zBK (fun q hq=>(cK.out.lt q hq).2);have q7:((Sk.outL S.V C ah RR k).length+1)*8<=140737488355328:=(by rw [zBV];omega);have q8:(Sk.outL S.V C ah RR k).length+1<=maxLen:=(by rw [zBV];unfold maxLen;omega);have dF:=zBK bJ.out;rw [zBV] at dF;clear bJ
                    go_wp2_with (at_builtin;refine zBW kLong rfl _ _ 44 2 rfl Tryz.underlying44 w5.heap.size wr.heap.size _ (Sk.outL S.V C ah RR k) (by rfl) cK.out [.int .i64 s2] s2 rfl (by rfl) dn.out dc dc q7 q8 ?_;intro v8 w8 aG b8 g8 m8;have di:=zBK aG;have eQ:=zBK g8;have eN:=zBK m8;clear aG g8 m8)
                    obtain ⟨L3,eE⟩:=dF.out.more di.out eQ.out eN.out;rw [show Sk.outL S.V C ah RR k++[s2]=Sk.outL S.V C ah RR (k+1) from by rw [Sk.outL_succ,ls.out]] at eE;have ia:=zBK eE;have a8:Aside [vb] w5.heap.size w5 w8:=aW.trans (aside b8) zBR;clear eE dF cK dn di eQ eN;go_roundg (cn-(k+1))
                    case measure=>omega
                    case rel=>exact ⟨k+1,L3,by omega,rfl,by go_num,ia,a8⟩
                   case neg=>
                    have ls:=zBK ((lQ.out k).trans ((if_neg uh).trans HZ.out));have rp:(s1==(k:Int))=false:=(by simp;exact fun e=>uh e.symm);clear uh;have cK:=zBK bJ.out.own;rw [zBV] at cK;have dc:w5.heap.size<=wr.heap.size:=bJ.out.sz;have dn:Hid (∀ q,(Value.slice fa k fc).ownBlock=some q->q<wr.heap.size):=zBK (fun q hq=>(cK.out.lt q hq).2);have q7:((Sk.outL S.V C ah RR k).length+1)*8<=140737488355328:=(by rw [zBV];omega);have q8:(Sk.outL S.V C ah RR k).length+1<=maxLen:=(by rw [zBV];unfold maxLen;omega);have dF:=zBK bJ.out;rw [zBV] at dF;clear bJ
                    go_wp2_with (at_builtin;refine zBW kLong rfl _ _ 44 2 rfl Tryz.underlying44 w5.heap.size wr.heap.size _ (Sk.outL S.V C ah RR k) (by rfl) cK.out [.int .i64 z] z rfl (by rfl) dn.out dc dc q7 q8 ?_;intro v8 w8 aG b8 g8 m8;have di:=zBK aG;have eQ:=zBK g8;have eN:=zBK m8;clear aG g8 m8)
                    obtain ⟨L3,eE⟩:=dF.out.more di.out eQ.out eN.out;rw [show Sk.outL S.V C ah RR k++[z]=Sk.outL S.V C ah RR (k+1) from by rw [Sk.outL_succ,ls.out]] at eE;have ia:=zBK eE;have a8:Aside [vb] w5.heap.size w5 w8:=aW.trans (aside b8) zBR;clear eE dF cK dn di eQ eN;go_roundg (cn-(k+1))
                    case measure=>omega
                    case rel=>exact ⟨k+1,L3,by omega,rfl,by go_num,ia,a8⟩
                case neg=>
                 by_cases pL:op=11
                 case pos=>
                  as_aux_lemma=>
                  subst pL;have dm:A.length=1:=(by have h1:Sk.partsT.getD (11:Int).toNat 0=1:=rfl;have h2:=lW.out;omega);obtain ⟨ga,rfl,eM,eP,jc⟩:=HP.out.head (by omega);obtain ⟨a0,k0,x0,cM⟩:=HP.out.part (j:=0) (by omega);rw [Sk.pt_get (C:=C) (op:=11) (k:=rk) (out:=(jo:Int)) (n:=rn) (A:=A) (E:=E) (j:=0) (by omega)] at x0 cM;obtain ⟨P0,cB⟩:∃ P,P=Sk.pt C ⟨11,rk,(jo:Int),rn,A,E⟩ 0:=⟨_,rfl⟩;rw [<-cB] at x0 cM;have cz:P0.length<=300:=(by rw [cB];exact HB.out _);have eZ:0<P0.length:=(by rw [cB];exact HF.out.one (by show (11:Int)≠13;decide) _ (Sk.aN_mem (r:=⟨11,rk,(jo:Int),rn,A,E⟩) (by dsimp only;omega)));have lS:=zBK cM;obtain ⟨b0,o0,rfl,-,nW,iq,fq,gQ,eL⟩:=cM.opened eZ;unfold maxLen at iq;have iF:=zBK eL;have db:=zBK cB;clear cM eL cB;have fO:0<us.length:=(by omega);have mV:=zBK eM;clear eM;have mQ:=zBK dm;clear dm;have pL:=HF.out.f11 rfl
                  dsimp only at pL
                  rw [gU.out,<-db.out] at pL;obtain ⟨m,rfl⟩:∃ m:Nat,rn=(m:Int):=⟨rn.toNat,by omega⟩;have jX:m+cn<=P0.length:=(by omega);have qj:m<=300:=(by omega);clear pL;have fw:=zBK (show Sk.evalR S.V C ah ⟨11,rk,(jo:Int),(m:Int),A,E⟩=Sk.outL S.V C ah ⟨11,rk,(jo:Int),(m:Int),A,E⟩ cn by rw [<-gU.out];exact Sk.outL_all.symm);obtain ⟨RR,gi⟩:∃ RR:Sk.Ru,RR=⟨11,rk,(jo:Int),(m:Int),A,E⟩:=⟨_,rfl⟩;rw [<-gi] at fw;have fE:=zBK gi;clear gi;have dT:=jh;have iP:=zBM dT;have l3:=HP.out.st.vL;have dp:=zBK (OutAt.start HP.out aR.size);have lQ:=zBK (show ∀ k,Sk.evalG C ah RR k=P0.getD (m+k) 0 from fun k=>by
                   rw [fE.out];unfold Sk.evalG
                   dsimp only
                   rw [<-db.out];rfl)
                  go_wp2_with fail;clear r0 r1 r3 r4 r5;go_loopg [9,14] cn (fun gh v9 mO wr=>∃ (k:Nat) (L2:List Nat),k<=cn/\gh=cn-k/\mO=.int .i64 (k:Nat)/\Hid (OutAt L L2 mb vb g S ah C w2.heap.size w5.heap.size wr (.slice (some ⟨ga,0,none⟩) us.length sc) us A v9 (Sk.outL S.V C ah RR k))/\Aside [vb] w5.heap.size w5 wr)
                  case atStart=>exact ⟨0,L',Nat.zero_le _,rfl,rfl,dp,Aside.refl _⟩
                  case round=>
                   clear dp;obtain ⟨k,L2,hk,rfl,rfl,bJ,aW⟩:=hrel;obtain ⟨fa,fc,rfl,jb,iS⟩:=bJ.out.own.form;unfold maxLen at iS;rw [zBV] at jb ⊢;have dL:=aW.keep dT iP dh;have q0:=coQ dL 0;have q1:=coQ dL 1;have q3:=coQ dL 3;have q5:=coQ dL 5;simp at q0 q1 q3 q5;have hH:=fK.trans aW fK.size;by_cases bd:k<cn
                   case neg=>
                    have bp:k=cn:=(by omega);subst bp;have dW:=zBK (zBd (L:=L) bJ.out.own (fun q hq=>HP.out.st.lt q (HP.out.sub q hq)) (by rw [zBV];exact nG));rw [zBV] at dW;have dy:=zBK (bJ.out.pts.st.less bJ.out.pts.sub fQ.out fF.out);have eI:=zBK hH;clear bJ q1 q3 q5;go_wp2;exact bodyPost_ret (v:=.slice fa k fc) (by simp [results,Tryz.results66,go_sem]) rfl ⟨_,rfl,(by rw [<-fE.out,fw.out];exact dW.out),dy.out,eI.out⟩
                   case pos=>
                    obtain ⟨zz,CK⟩:=nmQ (m+k);have H3:zz<P0.length:=(by omega);have xk:=(zBL aW (p:=⟨b0,o0+zz,none⟩) gQ (by simp;intro e;exact fq (e ▸ l3))).trans (iF.out (zz) H3);have xg:=(zBL aW (p:=⟨ga,0,none⟩) eP (by simpa using jc)).trans x0;have HZ:=zBK (show P0.getD zz 0=P0[zz] from by rw [List.getD_eq_getElem?_getD,List.getElem?_eq_getElem H3];rfl);generalize P0[zz]=z at xk HZ;obtain ⟨n0,fu⟩:∃ n,n=P0.length:=⟨_,rfl⟩;rw [<-fu] at xg H3;clear fu;have HW:Hid (IntKind.i64.wrap ((k:Int)+(m:Int))=(zz:Int)):=zBK (by
                     have h2:IntKind.i64.wrap ((k:Int)+(m:Int))=(k:Int)+(m:Int):=i64_in _ ⟨by omega,by omega⟩;rw [h2];omega)
                    have ls:=zBK (show Sk.evalG C ah RR k=z by rw [lQ.out k,<-CK,HZ.out]);clear CK;have jy:=Nat.lt_of_lt_of_le eP aW.size;have iw:=Nat.lt_of_lt_of_le gQ aW.size;have iU:=zBM dL;go_upto_region 64 with fail;have aM:=zBK (fun (wz:World) (hSw:Below wr.heap.size wr wz)=>And.intro ((hSw.cell (p:=⟨w.heap.size,3,none⟩) iU).trans q3) (And.intro ((hSw.cell (p:=⟨ga,0,none⟩) jy).trans xg) ((hSw.cell (p:=⟨b0,o0+zz,none⟩) iw).trans xk)));refine zBP (fun w'=>Below wr.heap.size wr w') (fun _=>false) (by kernel_rfl) ?_;have ab:Below wr.heap.size wr wr.drew:=(Below.refl _ _).drew;generalize wr.drew=ag at ab ⊢;refine' tkR 0 275 ab ?o59
                    refine' tkR 1 276 ab ?o60
                    refine' tkQ 2 277 ab ?hyv ?o61
                    case hyv=>
                     intro wz hSw;have bk:=aM.out wz hSw;go_simp
                     try rfl
                    try simp only [Act.put,sT,sZ,sS]
                    refine' tkR 3 278 ab ?o62
                    refine' tkR 4 279 ab ?o63
                    refine' tkQ 5 280 ab ?hyv ?o64
                    case hyv=>
                     intro wz hSw;have bk:=aM.out wz hSw;go_simp
                     try rfl
                    try simp only [Act.put,sT,sZ,sS]
                    refine' zBS (i:=6) (oi:=⟨some 281,_,_,_,_,_⟩) (v:=.int .i64 (zz:Int)) rfl (by kernel_rfl) (by kernel_rfl) (by kernel_rfl) (by kernel_rfl) (fun _ _ _ h=>h) ab (by rfl) ?hyv ?o65
                    case hyv=>
                     intro wz hSw;go_simp;rw [HW.out]
                    try simp only [Act.put,sT,sZ,sS]
                    refine' tkR 7 282 ab ?o66
                    refine' tkQ 8 283 ab ?hyv ?o67
                    case hyv=>
                     intro wz hSw;have bk:=aM.out wz hSw;go_simp
                     try rfl
                    try simp only [Act.put,sT,sZ,sS]
                    refine' tkR 9 15 ab ?o68
                    refine zBN (by kernel_rfl) ?_ _;obtain ⟨w6,qw⟩:∃ x,x=ag:=⟨_,rfl⟩;subst qw;have nv:Aside [vb] w5.heap.size w5 w6:=aW.trans (aside ab) aW.size;have dx:=zBK (bJ.out.under ab);clear bJ xg xk;have cK:=zBK dx.out.own;rw [zBV] at cK;have dc:w5.heap.size<=w6.heap.size:=dx.out.sz;have dn:Hid (∀ q,(Value.slice fa k fc).ownBlock=some q->q<w6.heap.size):=zBK (fun q hq=>(cK.out.lt q hq).2);have q7:((Sk.outL S.V C ah RR k).length+1)*8<=140737488355328:=(by rw [zBV];omega);have q8:(Sk.outL S.V C ah RR k).length+1<=maxLen:=(by rw [zBV];unfold maxLen;omega);have dF:=zBK dx.out;rw [zBV] at dF;clear q0 q1 q3 q5 dx
                    go_wp2_with (at_builtin;refine zBW kLong rfl _ _ 44 2 rfl Tryz.underlying44 w5.heap.size w6.heap.size _ (Sk.outL S.V C ah RR k) (by rfl) cK.out [.int .i64 z] z rfl (by rfl) dn.out dc dc q7 q8 ?_;intro v8 w8 aG b8 g8 m8;have di:=zBK aG;have eQ:=zBK g8;have eN:=zBK m8;clear aG g8 m8)
                    obtain ⟨L3,eE⟩:=dF.out.more di.out eQ.out eN.out;rw [show Sk.outL S.V C ah RR k++[z]=Sk.outL S.V C ah RR (k+1) from by rw [Sk.outL_succ,ls.out]] at eE;have ia:=zBK eE;have a8:Aside [vb] w5.heap.size w5 w8:=nv.trans (aside b8) zBR;clear eE dF cK dn di eQ eN;go_roundg (cn-(k+1))
                    case measure=>omega
                    case rel=>exact ⟨k+1,L3,by omega,rfl,by go_num,ia,a8⟩
                 case neg=>
                  as_aux_lemma=>
                  obtain rfl:op=14:=by have h8:=Fs.out;omega
                  have dm:A.length=0:=(by have h1:Sk.partsT.getD (14:Int).toNat 0=0:=rfl;have h2:=lW.out;omega);have mQ:=zBK dm;clear dm;have f4:=HX.out.f14 (.inl rfl)
                  dsimp only at f4
                  rw [gU.out] at f4;have rb:=zBK f4;clear f4;have fw:=zBK (show Sk.evalR S.V C ah ⟨14,rk,(jo:Int),rn,A,E⟩=Sk.outL S.V C ah ⟨14,rk,(jo:Int),rn,A,E⟩ cn by rw [<-gU.out];exact Sk.outL_all.symm);obtain ⟨RR,gi⟩:∃ RR:Sk.Ru,RR=⟨14,rk,(jo:Int),rn,A,E⟩:=⟨_,rfl⟩;rw [<-gi] at fw;have fE:=zBK gi;clear gi;have dT:=jh;have iP:=zBM dT;have l3:=HP.out.st.vL;have dp:=zBK (OutAt.start HP.out aR.size);have lQ:=zBK (show ∀ k,Sk.evalG C ah RR k=Sk.treeV C k [] E from fun k=>by
                   rw [fE.out];unfold Sk.evalG
                   dsimp only
                   rfl)
                  go_wp2_with fail;clear r0 r1 r3 r4 r5;go_loopg [9,14] cn (fun gh v9 mO wr=>∃ (k:Nat) (L2:List Nat),k<=cn/\gh=cn-k/\mO=.int .i64 (k:Nat)/\Hid (OutAt L L2 mb vb g S ah C w2.heap.size w5.heap.size wr (.slice sa us.length sc) us A v9 (Sk.outL S.V C ah RR k))/\Aside [vb] w5.heap.size w5 wr)
                  case atStart=>exact ⟨0,L',Nat.zero_le _,rfl,rfl,dp,Aside.refl _⟩
                  case round=>
                   clear dp;obtain ⟨k,L2,hk,rfl,rfl,bJ,aW⟩:=hrel;obtain ⟨fa,fc,rfl,jb,iS⟩:=bJ.out.own.form;unfold maxLen at iS;rw [zBV] at jb ⊢;have dL:=aW.keep dT iP dh;have q0:=coQ dL 0;have q1:=coQ dL 1;have q3:=coQ dL 3;have q5:=coQ dL 5;simp at q0 q1 q3 q5;have hH:=fK.trans aW fK.size;by_cases bd:k<cn
                   case neg=>
                    have bp:k=cn:=(by omega);subst bp;have dW:=zBK (zBd (L:=L) bJ.out.own (fun q hq=>HP.out.st.lt q (HP.out.sub q hq)) (by rw [zBV];exact nG));rw [zBV] at dW;have dy:=zBK (bJ.out.pts.st.less bJ.out.pts.sub fQ.out fF.out);have eI:=zBK hH;clear bJ q1 q3 q5;go_wp2;exact bodyPost_ret (v:=.slice fa k fc) (by simp [results,Tryz.results66,go_sem]) rfl ⟨_,rfl,(by rw [<-fE.out,fw.out];exact dW.out),dy.out,eI.out⟩
                   case pos=>
                    have lr:=zBK (Fx.out wr hH);obtain ⟨FP,we,wk,tN,tP,-⟩:=lr.out.at;injection wk with e1 e2 e3;have jR:=zBK (zDG (aE:=y.aE) (cE:=y.cE) (k:=k) bJ.out.pts.st (by rw [<-e2];exact vB.out _ hH _ (fun q hq=>(bJ.out.pts.new q hq).imp_right (fun h=>Nat.le_trans B2.size h))) rb.out bd HC.out HB.out (fun p hp oJ=>HO.out _ (Sk.needs_E (by decide) hp oJ) L2 bJ.out.pts.sub));rw [<-e2] at jR;clear e1 e2 e3 lr;have Nk:=zBK (lQ.out k);go_wp2_with fail;refine jR.out.mono ?_;rintro e wt ⟨rfl,cQ,at'⟩;have sd:Aside [vb] w5.heap.size w5 wt:=aW.trans at' aW.size;have jG:=zBK (bJ.out.past at' cQ);clear jR bJ cQ;obtain ⟨z,hz⟩:=nmQ (Sk.treeV C k [] E);rw [<-hz];have ls:=zBK (Nk.out.trans hz.symm);clear hz;have cK:=zBK jG.out.own;rw [zBV] at cK;have dc:w5.heap.size<=wt.heap.size:=jG.out.sz;have dn:Hid (∀ q,(Value.slice fa k fc).ownBlock=some q->q<wt.heap.size):=zBK (fun q hq=>(cK.out.lt q hq).2);have q7:((Sk.outL S.V C ah RR k).length+1)*8<=140737488355328:=(by rw [zBV];omega);have q8:(Sk.outL S.V C ah RR k).length+1<=maxLen:=(by rw [zBV];unfold maxLen;omega);have dF:=zBK jG.out;rw [zBV] at dF;clear q0 q1 q3 q5 jG
                    go_wp2_with (at_builtin;refine zBW kLong rfl _ _ 44 2 rfl Tryz.underlying44 w5.heap.size wt.heap.size _ (Sk.outL S.V C ah RR k) (by rfl) cK.out [.int .i64 z] z rfl (by rfl) dn.out dc dc q7 q8 ?_;intro v8 w8 aG b8 g8 m8;have di:=zBK aG;have eQ:=zBK g8;have eN:=zBK m8;clear aG g8 m8)
                    obtain ⟨L3,eE⟩:=dF.out.more di.out eQ.out eN.out;rw [show Sk.outL S.V C ah RR k++[z]=Sk.outL S.V C ah RR (k+1) from by rw [Sk.outL_succ,ls.out]] at eE;have ia:=zBK eE;have a8:Aside [vb] w5.heap.size w5 w8:=sd.trans (aside b8) zBR;clear eE dF cK dn di eQ eN;go_roundg (cn-(k+1))
                    case measure=>omega
                    case rel=>exact ⟨k+1,L3,by omega,rfl,by go_num,ia,a8⟩
end Go.Proofs.YtfhghlpfeeiaeaaGreatDoor
