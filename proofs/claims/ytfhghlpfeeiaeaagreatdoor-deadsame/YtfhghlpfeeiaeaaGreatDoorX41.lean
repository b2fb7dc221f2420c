import Derived.Test.YtfhghlpfeeiaeaaGreatDoorX40
set_option linter.unusedVariables false
set_option linter.unusedSimpArgs false
set_option maxHeartbeats 64000000
set_option maxRecDepth 100000
namespace Go.Proofs.YtfhghlpfeeiaeaaGreatDoor
open Go.RowKit Go.IntWalk
theorem Sk.takeV_zero (V:List Sk.Vr) (inp:List Int) (I:List Int) (at_:Nat) (C:List (List Int)):(Sk.takeV V inp at_ I C).1=(Sk.takeV V inp at_ I []).1:=Sk.takeV_fst _ _ _ _
theorem row_bad {S:Sk.Sys} {ah:Int->Option (List Int)} {inp:List Int} {fc fa:Int} (h:(fc,fa)=Sk.rowF S inp) (hne:fc≠0):Sk.rowT (Sk.sortS S) ah inp=(([],(fc,fa)),ah):=by
 unfold Sk.rowF at h;unfold Sk.rowT;have hV:(Sk.sortS S).V=S.V:=rfl;have hI:(Sk.sortS S).I=S.I:=rfl;rw [hV,hI];by_cases hw:inp.length≠Sk.width S.V S.I
 ·rw [if_pos hw] at h ⊢
  injection h with h1 h2;rw [h1,h2]
 ·rw [if_neg hw] at h ⊢
  rw [<-Sk.takeV_zero S.V inp S.I 0 (List.replicate S.V.length [])] at h;rw [<-h];rw [if_pos hne]
theorem row_good {S:Sk.Sys} {ah:Int->Option (List Int)} {inp:List Int} {fa:Int} (h:((0:Int),fa)=Sk.rowF S inp):(inp.length=Sk.width S.V S.I/\(Sk.takeV S.V inp 0 S.I (List.replicate S.V.length [])).1.1=0)/\Sk.rowT (Sk.sortS S) ah inp=((Sk.toldL (Sk.solC S ah inp) S.O,(0,0)),Sk.keepF (Sk.solC S ah inp) (fun _=>none) (Sk.sortS S).R):=by
 unfold Sk.rowF at h;unfold Sk.rowT Sk.solC;have hV:(Sk.sortS S).V=S.V:=rfl;have hI:(Sk.sortS S).I=S.I:=rfl;have hO:(Sk.sortS S).O=S.O:=rfl;rw [hV,hI,hO];by_cases hw:inp.length≠Sk.width S.V S.I
 ·rw [if_pos hw] at h
  injection h with h1 h2;exact absurd h1 (by decide)
 ·rw [if_neg hw] at h ⊢
  rw [<-Sk.takeV_zero S.V inp S.I 0 (List.replicate S.V.length [])] at h;have hz:(Sk.takeV S.V inp 0 S.I (List.replicate S.V.length [])).1.1=0:=(by rw [<-h]);rw [if_neg (by simpa using hz)];exact ⟨⟨by simpa using hw,hz⟩,rfl⟩
theorem rowD_any {L:List Nat} {mb n:Nat} {S:Sk.Sys} {ah:Int->Option (List Int)} {w:World} (hA:MgAt L mb S ah n w) (ok:Sk.Okay S) (hW:Sk.SysW S) (hl:(Sk.turns S).2.2=[]) (jK:Sk.AhOk S.V ah) {an:Option Addr} {k9:Nat} {inp:List Int} (hi:HInts (· ∉ L) w (.slice an inp.length k9) inp) (hI:Sk.I64s inp) (hn:n<=1000) :
  Calls Tryz.prog 25 #[.pointer (some ⟨mb,0,none⟩),.slice an inp.length k9] w (RowD L mb S ah n inp w):=by
 obtain ⟨g,v5,hm,ux,mB,ug⟩:=hA.st;have Lt:=hA.mL;have bd:=hA.lt;have uj:mb<w.heap.size:=zBM hm;have b1:Below w.heap.size w (w.alloc (.cells #[.int .i64 0,.int .i64 0] 32 (0,0))):=(Below.refl _ _).alloc zBR _;have kF:=zBO w (.cells #[.int .i64 0,.int .i64 0] 32 (0,0));have uI:=(b1.block _ uj).trans hm;obtain ⟨P8,Ct⟩:=Sk.rank_of ok hl;have M9:=zBK Ct;have HA:=zBK hA;have eV:=zBK ok;have ko:=zBK hW;have re:=zBK hl;have Mv:=zBK jK;have jF:=zBK hi;have MN:=zBK hI;have qP:=zBK bd;have fQ:=zBK Lt;have Ju:=zBK mB;have Jc:=zBK ug;have dW:=zBK ux;have AD:=zBK (fun (W:World) (b:Below w.heap.size w W)=>zAW (mB.under b) ok (hi.under b));have rq:=ok.nR;have zf:=ok.nV;have ze:=ok.nI;have Cd:=ok.nO;obtain ⟨JI,QO,wm,dS,fT,-⟩:=mB.I.at;injection wm with x1 x2 x3;rw [<-x3] at dS fT;clear x1 x2 x3;obtain ⟨FQ,QQ,wB,yQ,ri,-⟩:=mB.O.at;injection wB with x1 x2 x3;rw [<-x3] at yQ ri;clear x1 x2 x3;obtain ⟨JK,QS,AW,DQ,wI,-⟩:=mB.V.at;injection AW with x1 x2 x3;rw [<-x3] at DQ wI;clear x1 x2 x3;obtain ⟨om,QR,iQ,bY,ik,-⟩:=mB.R.at;injection iQ with x1 x2 x3;rw [<-x3] at bY ik;clear x1 x2 x3;obtain ⟨JJ,QP,AV,Bb,tQ,-⟩:=hi.at;injection AV with x1 x2 x3;rw [<-x3] at Bb tQ;clear x1 x2 x3;unfold maxLen at fT ri wI ik tQ;obtain ⟨RT,Gl⟩:=nmQ (Sk.rowT (Sk.sortS S) ah inp);unfold RowD;rw [<-Gl];have Dx:=zBK Gl;obtain ⟨F,hF⟩:=nmQ (Sk.rowF S inp);unfold RowFD at AD;rw [<-hF] at AD;have HF:=zBK hF;obtain ⟨fc,fa⟩:=F
 dsimp only at AD
 clear hA ok hW hl jK hi hI bd Lt mB ug ux Ct Gl hF hm;go_enter Tryz.func25,Tryz.ntmps25;go_upto_region 1 with fail;generalize w.alloc (.cells #[.int .i64 0,.int .i64 0] 32 (0,0))=w1 at b1 kF uI ⊢;have m0:=coQ uI 0;have m1:=coQ uI 1;have m2:=coQ uI 2;have m3:=coQ uI 3;simp at m0 m1 m2 m3;go_wp2_with fail;refine (AD.out _ b1).mono ?_;rintro e w2 ⟨rfl,ny⟩;have B2:=b1.trans (ny.mono b1.size);have fP:=(ny.block _ (zBM kF)).trans kF;have If:=(ny.block _ (zBM uI)).trans uI;have b3:Below w2.heap.size w2 (w2.alloc (.cells #[.int .i64 fc,.int .i64 fa] 32 (0,0))):=(Below.refl _ _).alloc zBR _;have kE:=zBO w2 (.cells #[.int .i64 fc,.int .i64 fa] 32 (0,0));have fC:=(b3.block _ (zBM fP)).trans fP;have xZ:=(b3.block _ (zBM If)).trans If;have B3:=B2.trans (b3.mono B2.size);have z12:w.heap.size<w2.heap.size:=zBM fP;clear m0 m1 m2 m3 kF uI b1 ny fP If AD;go_upto_region 2 with fail;generalize w2.alloc (.cells #[.int .i64 fc,.int .i64 fa] 32 (0,0))=w3 at b3 kE fC xZ B3 ⊢;have e0:=coQ kE 0;have e1:=coQ kE 1;simp at e0 e1;have yE:=zBM kE;by_cases lD:fc=0
 case neg=>
  have Rj:(fc != 0)=true:=(by simp [lD]);have HZ:=zBK (show RT=(([],(fc,fa)),ah) from by
   rw [Dx.out];exact row_bad HF.out lD)
  have yx:=zBK (show RT.1.1=[] by rw [HZ.out]);have tL:=zBK (show RT.1.2.1=fc/\RT.1.2.2=fa by rw [HZ.out];exact ⟨rfl,rfl⟩);have Nl:=zBK (show RT.2=ah by rw [HZ.out]);clear lD;go_upto_region 3 with fail;refine zBP (fun w'=>Below w3.heap.size w3 w') (fun i=>i==2) (by kernel_rfl) ?_;have ab:Below w3.heap.size w3 w3.drew:=(Below.refl _ _).drew;generalize w3.drew=ag at ab ⊢;refine' tkQ 0 24 ab ?hyv ?o1
  case hyv=>
   intro wz hSw;have aq:=(hSw.cell (p:=⟨w2.heap.size,0,none⟩) yE).trans e0;have av:=(hSw.cell (p:=⟨w2.heap.size,1,none⟩) yE).trans e1;go_simp
   try rfl
  try simp only [Act.put,sT,sZ,sS]
  refine' tkR 1 4 ab ?o2
  refine tnQ 2 (fun K hK=>?_);have zo:=(ab.block _ (zBM fC)).trans fC;have cJ:=coQ zo 0;have cW:=coQ zo 1;have eO:=foQ zo 0;have fl:=foQ zo 1;simp at cJ cW;have KR:=zBQ (zBQ zo 0 (.int .i64 fc)) 1 (.int .i64 fa);simp at KR;have mi:=zBK KR;have BE:Below w.heap.size w ((ag.setCell ⟨w.heap.size,0,none⟩ (.int .i64 fc)).setCell ⟨w.heap.size,1,none⟩ (.int .i64 fa)):=((B3.trans (ab.mono B3.size)).setCell (p:=⟨w.heap.size,0,none⟩) zBR _).setCell (p:=⟨w.heap.size,1,none⟩) zBR _;have yo:=zBK BE;clear KR BE zo;go_simp;refine hK.out _ _ (fun h=>absurd h (by decide)) ?_;clear hK K cJ cW eO fl
  try simp only [Act.put,sT,sZ,sS]
  generalize ((ag.setCell ⟨w.heap.size,0,none⟩ (.int .i64 fc)).setCell ⟨w.heap.size,1,none⟩ (.int .i64 fa))=aw at mi yo ⊢;refine zBN (by kernel_rfl) ?_ _;have r0:=coQ mi.out 0;have r1:=coQ mi.out 1;simp at r0 r1;have hnil:HInts (fun i=>w.heap.size<=i) aw (.slice none 0 0) []:=zDF (OwnL.nil (T:=kLong) (B:=w.heap.size)).row;have Fk:=zBK hnil;clear hnil;go_wp2;exact bodyPost_ret (v:=.tuple #[.slice none 0 0,.agg #[.int .i64 fc,.int .i64 fa]]) (by simp [results,Tryz.results25,go_sem,r0,r1]) rfl ⟨none,0,n,by rw [yx.out,tL.out.1,tL.out.2];rfl,by rw [yx.out];exact Fk.out,Nat.le_succ _,by rw [Nl.out];exact HA.out.under yo.out,aside yo.out⟩
 case pos=>
  subst lD;go_upto_region 4 with fail;clear e0 e1;have zU:=zBK (row_good (ah:=ah) HF.out);have Di:=zBK zU.out.1.1;have Dj:=zBK zU.out.1.2;have pB:=zBK (sol_any eV.out ko.out re.out Mv.out MN.out Di.out Dj.out);have Mx:=zBK (show ∀ j (h:j<S.I.length),Sk.cAt (Sk.solC S ah inp) S.I[j]=(inp.drop (Sk.wid S.V (S.I.take j))).take (Sk.cnt (Sk.vAt S.V S.I[j])) from fun j h=>by
   have h1:(Sk.takeV S.V inp 0 S.I (List.replicate S.V.length [])).2.length=S.V.length:=by
    have h:=Sk.takeV_fine eV.out Di.out S.I.length 0 (by omega) (Sk.fine_start S.V) (by simpa [Sk.wid] using Dj.out);have h2:=h.len
    simpa [Sk.wid] using h2
   rw [Sk.sol_in eV.out re.out h1 (List.getElem_mem h),Sk.takeV_at S.I 0 _ (by simp) eV.out.ins eV.out.insN Dj.out j h,Nat.zero_add])
  have Jk:=zBK (show ∀ (g:MgV) (vb:Nat) (x:Int),(x ∈ S.I\/x ∈ S.R.map (·.out))->∀ L',OfAt L' mb vb g S ah (Sk.solC S ah inp) x from fun g vb x hx L'=>ofD_any eV.out pB.out M9.out (P8 x+1) x (Nat.lt_succ_self _) hx L');have PH:w.heap.size<w3.heap.size:=zBM fC;have m0:=coQ xZ 0;have m5:=coQ xZ 5;have PU:=foQ xZ 5;simp at m0 m5;have oG:=zCe S.V.length (by omega);have qp:(w3.setCell ⟨mb,5,none⟩ (.slice (some ⟨w3.heap.size,0,none⟩) S.V.length S.V.length)).heap.size=w3.heap.size:=(by simp [World.setCell]);have O8:mb<w3.heap.size:=zBM xZ;have Ee:((w3.setCell ⟨mb,5,none⟩ (.slice (some ⟨w3.heap.size,0,none⟩) S.V.length S.V.length)).alloc (.cells (Array.replicate S.V.length (.slice none 0 0)) 44 (0,0))).heap[w3.heap.size]?=some (.cells (Array.replicate S.V.length (.slice none 0 0)) 44 (0,0)):=(by have h:=zBO (w3.setCell ⟨mb,5,none⟩ (.slice (some ⟨w3.heap.size,0,none⟩) S.V.length S.V.length)) (.cells (Array.replicate S.V.length (.slice none 0 0)) 44 (0,0));rw [qp] at h;exact h);have CR:=(Below.heap_alloc (w3.setCell ⟨mb,5,none⟩ (.slice (some ⟨w3.heap.size,0,none⟩) S.V.length S.V.length)) (.cells (Array.replicate S.V.length (.slice none 0 0)) 44 (0,0)) mb (by rw [qp];omega)).trans (zBQ xZ 5 (.slice (some ⟨w3.heap.size,0,none⟩) S.V.length S.V.length));simp at CR;have H9:=(Below.heap_alloc (w3.setCell ⟨mb,5,none⟩ (.slice (some ⟨w3.heap.size,0,none⟩) S.V.length S.V.length)) (.cells (Array.replicate S.V.length (.slice none 0 0)) 44 (0,0)) w.heap.size (by rw [qp];omega)).trans ((zBU w3 ⟨mb,5,none⟩ (.slice (some ⟨w3.heap.size,0,none⟩) S.V.length S.V.length) (i:=w.heap.size) (by show mb≠w.heap.size;omega)).trans fC);have Em:Aside [mb] w3.heap.size w3 ((w3.setCell ⟨mb,5,none⟩ (.slice (some ⟨w3.heap.size,0,none⟩) S.V.length S.V.length)).alloc (.cells (Array.replicate S.V.length (.slice none 0 0)) 44 (0,0))):=(Aside.setCell (S:=[mb]) (B:=w3.heap.size) (w:=w3) (p:=⟨mb,5,none⟩) (by simp) (.slice (some ⟨w3.heap.size,0,none⟩) S.V.length S.V.length)).alloc (by rw [qp];exact Nat.le_refl _) (.cells (Array.replicate S.V.length (.slice none 0 0)) 44 (0,0));have AB:Aside [mb] w.heap.size w ((w3.setCell ⟨mb,5,none⟩ (.slice (some ⟨w3.heap.size,0,none⟩) S.V.length S.V.length)).alloc (.cells (Array.replicate S.V.length (.slice none 0 0)) 44 (0,0))):=(aside B3).trans Em B3.size;have Cy:w3.heap.size<((w3.setCell ⟨mb,5,none⟩ (.slice (some ⟨w3.heap.size,0,none⟩) S.V.length S.V.length)).alloc (.cells (Array.replicate S.V.length (.slice none 0 0)) 44 (0,0))).heap.size:=zBM Ee;have k7:=zBK AB;have Ev:=zBK Em;clear kE yE b3 AB Em qp;go_upto_region 5 with fail;generalize CD:w3.heap.size=vb at *;generalize ((w3.setCell ⟨mb,5,none⟩ (.slice (some ⟨vb,0,none⟩) S.V.length S.V.length)).alloc (.cells (Array.replicate S.V.length (.slice none 0 0)) 44 (0,0)))=w4 at CR Ee H9 k7 Ev Cy ⊢;clear oG m0 m5 PU;have QE:=zBK CD;have PG:w.heap.size<vb:=(by omega);have sM:∀ i,i ∉ L->i<w.heap.size->w4.heap[i]?=w.heap[i]?:=fun i hi hl=>k7.out.block i hl (by simp;exact fun e=>hi (e ▸ fQ.out));have FD:=zBK ((Ju.out.growL (q:=w.heap.size) zBR (fun _ _ _=>rfl) (.inr zBR)).growL (q:=vb) k7.out.size (fun i hi hl=>sM i (fun hm=>hi (List.mem_cons.2 (.inr hm))) hl) (.inr (by omega)));have E5:=zBK ((Jc.out.grow (q:=w.heap.size) zBR (fun _ _ _=>rfl) (.inr zBR)).grow (q:=vb) k7.out.size (fun i hi hl=>sM i (fun hm=>hi (List.mem_cons.2 (.inr hm))) hl) (.inr (by omega)));have EV:=zBK (show HInts (· ∉ vb :: w.heap.size :: L) w4 (.slice an inp.length k9) inp from ((jF.out.wide (ok':=fun i=>i ∉ L/\i<w.heap.size) fun i hi hl=>⟨hi,hl⟩).keep k7.out.size (fun i hi hl=>sM i hi.1 hl)).wide (fun i hi _=>by simp;exact ⟨by omega,by omega,hi.1⟩));have Ai:=zBK (MemoI.start (L:=vb :: w.heap.size :: L) (C:=(Sk.solC S ah inp)) Ee);have E4:=zBK CR;have Aa:=zBK H9;have Ca:mb≠vb:=(by omega);have G1:mb<w4.heap.size:=zBM CR;have Hu:vb<w4.heap.size:=Cy;have jY:mb ∉ [vb]:=(by simpa using Ca);have Nj:=zBK (Sk.wid_le eV.out.vars S.I eV.out.ins);have xt:Sk.wid S.V S.I=inp.length:=(by rw [Di.out,Sk.width_wid S.I eV.out.ins]);have Fl:=zBK xt;have dj:inp.length<=120000:=(by have h:=Nj.out;rw [xt] at h;omega);clear CR Ee H9 CD sM xt xZ fC B3;go_wp2_with fail;go_loopg [7,8] S.I.length (fun gh v7 v8 wr=>∃ (i at_:Nat),i<=S.I.length/\gh=S.I.length-i/\v8=.int .i64 (i:Nat)/\v7=.int .i64 (at_:Nat)/\Hid (at_=Sk.wid S.V (S.I.take i))/\Hid (MemoI (vb :: w.heap.size :: L) wr vb S (Sk.solC S ah inp) i)/\Aside [vb] w4.heap.size w4 wr)
  case atStart=>exact ⟨0,0,Nat.zero_le _,rfl,rfl,rfl,zBK rfl,Ai,Aside.refl _⟩
  case round=>
   clear Ai;obtain ⟨i,at_,hi,rfl,rfl,rfl,tw,rU,aR⟩:=hrel;obtain ⟨wq,nX⟩:=nmQ (wr);subst nX;have x4:=aR.keep E4.out G1 jY;have m0:=coQ x4 0;have m1:=coQ x4 1;have m5:=coQ x4 5;simp at m0 m1 m5;have rH:=zBM x4;have Mq:vb<wq.heap.size:=Nat.lt_of_lt_of_le Hu aR.size;have np:=zBK (show HSys (· ∉ vb :: w.heap.size :: L) wq g.aV g.aI g.aO g.aR g.cV g.cI g.cO g.cR S from FD.out.keep aR.size (fun i hi hl=>aR.block i hl (by simp;intro e;exact hi (by simp [e]))));have zZ:=zBK (show HInts (· ∉ vb :: w.heap.size :: L) wq (.slice an inp.length k9) inp from EV.out.keep aR.size (fun i hi hl=>aR.block i hl (by simp;intro e;exact hi (by simp [e]))));by_cases bd:i<S.I.length
   case pos=>
    obtain ⟨a',c',eqs,_,_,bo⟩:=np.out.I.at;injection eqs with q1 q2 q3;obtain ⟨bI,oI,nF,yI,xI⟩:=bo i bd;rw [q1,nF] at m1;have sX:=eV.out.ins S.I[i] (List.getElem_mem bd);have nh:=Sk.wid_succ S.V S.I i bd;have jA:=Sk.wid_take_le S.V S.I i bd;rw [<-tw.out,Fl.out] at jA;rw [<-tw.out] at nh;have mZ:=Mx.out i bd;rw [<-tw.out] at mZ;obtain ⟨x,hx⟩:=nmQ (S.I[i]);have r7:=zBK hx;rw [<-hx] at xI sX nh jA mZ;obtain ⟨j,rfl⟩:∃ j:Nat,x=(j:Int):=⟨x.toNat,by omega⟩;have hj:j<S.V.length:=(by omega);obtain ⟨a2,c2,eqv,iy,jg,gN⟩:=np.out.V.at;injection eqv with q4 q5 q6;obtain ⟨bV,oV,gV,yV,-,v1⟩:=gN j hj;rw [q4,gV] at m0;have jL:=zBo hj;obtain ⟨vv,iz⟩:=nmQ (S.V[j]);rw [<-iz] at v1 jL;rw [jL] at nh jA mZ;have gE:=zCH vv;have nG:=Sk.cnt_pos vv;obtain ⟨cn,lC⟩:=nmQ (Sk.cnt vv);rw [<-lC] at gE nh jA mZ nG;have mR:=zBK gE;have nr:=zBK nh;have sr:bV ∉ [vb]:=by
     intro h;simp at h;have h2:=np.out.V;obtain ⟨CC,⟨vY,wg,e3,jJ,Kf,AY⟩,-⟩:=h2;injection e3 with z1 z2 z3;obtain ⟨b3,o3,js,ql,-,-⟩:=AY (by omega);rw [<-z1,q4,gV] at js;injection js with js;injection js with js;exact ql (by rw [<-js,h];simp)
    have lB:bI ∉ [vb]:=by
     intro h;simp at h;have h2:=np.out.I;obtain ⟨CC,⟨vY,wg,e3,jJ,Kf,AY⟩,-⟩:=h2;injection e3 with z1 z2 z3;obtain ⟨b3,o3,js,ql,-,-⟩:=AY (by omega);rw [<-z1,q1,nF] at js;injection js with js;injection js with js;exact ql (by rw [<-js,h];simp)
    have sE:=zZ.out
    cases an with
    | none=>
     exfalso
     obtain ⟨vY,wg,e3,-,-,gB⟩:=sE.at;injection e3 with z1 z2 z3;obtain ⟨b3,o3,js,-⟩:=gB 0 (by omega);rw [<-z1] at js
     cases js
    | some aa=>
    obtain ⟨bn,on,rfl,-,mA,oJ,ss,R0,-⟩:=sE.opened (by omega);have Dw:=zBK (show RowS (vb :: w.heap.size :: L) wq (.slice (some ⟨bn,on+at_,none⟩) cn (k9-at_)) (Sk.cAt (Sk.solC S ah inp) (j:Int)) from by
     have za:((inp.drop at_).take cn).length=cn:=(by rw [List.length_take,List.length_drop];omega);refine RowS.of ?_ (by rw [mZ,za];exact nG) |> fun h=>h
     rw [mZ];exact sE.cut nG jA)
    have My:=zBK mZ;clear bo gN q2 q3 q5 q6 jL iz lC hx gE nh mZ sE;have ib:=zBK (q1.trans nF);clear q1 q4 nF gV;go_upto_region 9 with fail;have aM:=zBK (fun (wz:World) (hSw:Aside [vb] wq.heap.size wq wz)=>And.intro ((zBL hSw (p:=⟨mb,0,none⟩) rH jY).trans m0) (And.intro ((zBL hSw (p:=⟨mb,1,none⟩) rH jY).trans m1) (And.intro ((zBL hSw (p:=⟨bI,oI+i,none⟩) yI lB).trans xI) ((zBL hSw (p:=⟨bV,oV+j*2+1,none⟩) yV sr).trans v1))));refine zBP (fun w'=>Aside [vb] wq.heap.size wq w') (fun _=>false) (by kernel_rfl) ?_;have ab:Aside [vb] wq.heap.size wq wq.drew:=(Aside.refl _).drew;have Gg:wq.heap=wq.drew.heap:=rfl;generalize wq.drew=ag at ab Gg ⊢;have EN:=zBK Gg;clear Gg;refine' tkR 0 45 ab ?o3
    refine' tkR 1 46 ab ?o4
    refine' tkR 2 47 ab ?o5
    refine' tkR 3 48 ab ?o6
    refine' tkQ 4 49 ab ?hyv ?o7
    case hyv=>
     intro wz hSw;have bk:=aM.out wz hSw;go_simp
     try rfl
    try simp only [Act.put,sT,sZ,sS]
    refine' tkR 5 50 ab ?o8
    refine' tkR 6 51 ab ?o9
    refine' tkR 7 52 ab ?o10
    refine' tkR 8 53 ab ?o11
    refine' tkQ 9 54 ab ?hyv ?o12
    case hyv=>
     intro wz hSw;have bk:=aM.out wz hSw;go_simp
     try rfl
    try simp only [Act.put,sT,sZ,sS]
    refine' tkR 10 55 ab ?o13
    refine' tkR 11 56 ab ?o14
    refine' tkQ 12 57 ab ?hyv ?o15
    case hyv=>
     intro wz hSw;have bk:=aM.out wz hSw;go_simp
     try rfl
    try simp only [Act.put,sT,sZ,sS]
    refine' tkR 13 58 ab ?o16
    refine' tkR 14 59 ab ?o17
    refine' tkQ 15 60 ab ?hyv ?o18
    case hyv=>
     intro wz hSw;have bk:=aM.out wz hSw;go_simp
     try rfl
    try simp only [Act.put,sT,sZ,sS]
    refine tnQ 16 (fun K hK=>?_);go_simp;refine (mR.out ag).mono ?_;rintro eq aw ⟨rfl,tM⟩;have af:Aside [vb] wq.heap.size wq aw:=tM ▸ ab;have EM:Hid (wq.heap=aw.heap):=zBK (tM ▸ EN.out);refine hK.out _ _ (fun _=>af) ?_;clear hK K
    try simp only [Act.put,sT,sZ,sS]
    refine' tkR 17 9 af ?o19
    refine zBN (by kernel_rfl) ?_ _;obtain ⟨w5,uD⟩:∃ x,x=aw:=⟨_,rfl⟩;subst uD;have a5:=af;have x6:=a5.keep x4 rH jY;have n1:=coQ x6 1;have n5:=coQ x6 5;simp at n1 n5;rw [ib.out] at n1;have Ei:=(zBL a5 (p:=⟨bI,oI+i,none⟩) yI lB).trans xI;have zE:=zBM x6;have Iz:=Nat.lt_of_lt_of_le yI a5.size;have Fg:=zBK (rU.out.keep (w':=w5) (EM.out ▸ rfl) a5.size (fun i _ hl=>by rw [<-EM.out]));have Fy:=zBK (show RowS (vb :: w.heap.size :: L) w5 (.slice (some ⟨bn,on+at_,none⟩) cn (k9-at_)) (Sk.cAt (Sk.solC S ah inp) (j:Int)) from Dw.out.keep a5.size (fun i _ hl=>by rw [<-EM.out]));have uY:Hid (IntKind.i64.wrap ((at_:Int)+(cn:Int))=((at_+cn:Nat):Int)):=zBK (by rw [i64_in _ ⟨by omega,by omega⟩];omega);clear m0 m1 m5 v1 xI Dw rU;go_upto_region 10 with fail;have aM:=zBK (fun (wz:World) (hSw:Aside [vb] w5.heap.size w5 wz)=>And.intro ((zBL hSw (p:=⟨mb,1,none⟩) zE jY).trans n1) (And.intro ((zBL hSw (p:=⟨mb,5,none⟩) zE jY).trans n5) ((zBL hSw (p:=⟨bI,oI+i,none⟩) Iz lB).trans Ei)));refine zBP (fun w'=>Aside [vb] w5.heap.size w5 w') (fun _=>false) (by kernel_rfl) ?_;have ab:Aside [vb] w5.heap.size w5 w5.drew:=(Aside.refl _).drew;have Gh:MemoI (vb :: w.heap.size :: L) w5.drew vb S (Sk.solC S ah inp) i:=Fg.out.keep (w':=w5.drew) rfl zBR (fun _ _ _=>rfl);have Gk:RowS (vb :: w.heap.size :: L) w5.drew (.slice (some ⟨bn,on+at_,none⟩) cn (k9-at_)) (Sk.cAt (Sk.solC S ah inp) (j:Int)):=Fy.out.keep (w':=w5.drew) zBR (fun _ _ _=>rfl);generalize w5.drew=ag at ab Gh Gk ⊢;have Ji:=zBK Gh;have Na:=zBK Gk;clear Gh Gk;refine' tkR 0 62 ab ?o20
    refine' tkR 1 63 ab ?o21
    refine' tkR 2 64 ab ?o22
    refine' tkQ 3 65 ab ?hyv ?o23
    case hyv=>
     intro wz hSw;have bk:=aM.out wz hSw;go_simp
     try rfl
    try simp only [Act.put,sT,sZ,sS]
    refine' tkR 4 66 ab ?o24
    refine' tkR 5 67 ab ?o25
    refine' tkR 6 68 ab ?o26
    refine' tkR 7 69 ab ?o27
    refine' tkQ 8 70 ab ?hyv ?o28
    case hyv=>
     intro wz hSw;have bk:=aM.out wz hSw;go_simp
     try rfl
    try simp only [Act.put,sT,sZ,sS]
    refine' tkR 9 71 ab ?o29
    refine' tkR 10 72 ab ?o30
    refine' tkQ 11 73 ab ?hyv ?o31
    case hyv=>
     intro wz hSw;have bk:=aM.out wz hSw;go_simp
     try rfl
    try simp only [Act.put,sT,sZ,sS]
    refine' tkR 12 74 ab ?o32
    refine' tkR 13 75 ab ?o33
    refine' tkR 14 76 ab ?o34
    refine' tkR 15 77 ab ?o35
    refine' zBS (i:=16) (oi:=⟨some 78,_,_,_,_,_⟩) (v:=.int .i64 ((at_+cn:Nat):Int)) rfl (by kernel_rfl) (by kernel_rfl) (by kernel_rfl) (by kernel_rfl) (fun _ _ _ h=>h) ab (by rfl) ?hyv ?o36
    case hyv=>
     intro wz hSw;go_simp
     try rw [uY.out]
     try omega
    try simp only [Act.put,sT,sZ,sS]
    refine' zBS (i:=17) (oi:=⟨some 79,_,_,_,_,_⟩) (v:=.slice (some ⟨bn,on+at_,none⟩) cn (k9-at_)) rfl (by kernel_rfl) (by kernel_rfl) (by kernel_rfl) (by kernel_rfl) (fun _ _ _ h=>h) ab (by rfl) ?hyv ?o37
    case hyv=>
     intro wz hSw;go_simp;rw [if_pos (by omega),if_pos (by omega),if_neg (by omega),show ((at_:Int)+(cn:Int)).toNat-at_=cn from by omega]
    try simp only [Act.put,sT,sZ,sS]
    refine' tkR 18 80 ab ?o38
    refine tnQ 19 (fun K hK=>?_);have Ks:=zBK (Ji.out.set (by simp) eV.out.ins bd r7.out.symm Na.out);obtain ⟨cs,xY,nH,-⟩:=id Ji.out;have DI:=coQ xY j;have JY:=foQ xY j;have J0:j<cs.size:=(by omega);obtain ⟨uu,CA⟩:∃ uu,cs[j]?=some uu:=⟨cs[j],by simp [J0]⟩;rw [CA] at DI;have af:Aside [vb] w5.heap.size w5 (ag.setCell ⟨vb,j,none⟩ (.slice (some ⟨bn,on+at_,none⟩) cn (k9-at_))):=ab.trans (Aside.setCell (by simp) _) ab.size;clear xY nH CA J0;go_simp;refine hK.out _ _ (fun _=>af) ?_;clear hK K DI JY
    try simp only [Act.put,sT,sZ,sS]
    generalize (ag.setCell ⟨vb,j,none⟩ (.slice (some ⟨bn,on+at_,none⟩) cn (k9-at_)))=aw at af Ks ⊢;refine zBN (by kernel_rfl) ?_ _;have aX:=aR.trans (a5.trans af a5.size) aR.size;clear n1 n5 Ei;go_wp2_with fail;go_roundg (S.I.length-(i+1))
    case measure=>omega
    case rel=>exact ⟨i+1,at_+cn,by omega,rfl,by go_num,by go_num,zBK (by rw [nr.out]),Ks,aX⟩
   case neg=>
    have bp:i=S.I.length:=(by omega);subst bp;have AI:=zBK (show MgSt (vb :: w.heap.size :: L) mb vb g S ah (Sk.solC S ah inp) wq from ⟨x4,np.out,E5.out.keep aR.size (fun i hi hl=>aR.block i hl (by simp;intro e;exact hi (by simp [e]))),rU.out.all,by simp [fQ.out],by simp,fun q hq=>by
     rcases List.mem_cons.1 hq with e | e
     ·rw [e];exact Mq
     rcases List.mem_cons.1 e with e | e
     ·rw [e];have h2:=k7.out.size;have h3:=aR.size;omega
     ·have h:=qP.out q e;have h2:=k7.out.size;have h3:=aR.size;omega,Ca⟩)
    have Db:=zBK (show Aside [mb,vb] w.heap.size w wq from (k7.out.wide (S':=[mb,vb]) (fun k _ h=>by simp at h ⊢;exact h.1)).trans (aR.wide (S':=[mb,vb]) (fun k _ h=>by simp at h ⊢;exact h.2)) k7.out.size);have ph:=zBK (aR.keep Aa.out (zBM Aa.out) (by simp;omega));obtain ⟨w5,uD⟩:∃ x,x=wq:=⟨_,rfl⟩;subst uD;have vx:=zBK (show OutM (vb :: w.heap.size :: L) (vb :: w.heap.size :: L) mb vb g S ah (Sk.solC S ah inp) w5.heap.size w5 (.slice none 0 0) [] from ⟨AI.out,OwnL.nil,fun q hq=>(by cases hq),fun q hq=>hq,⟨rH,Mq⟩,Nat.le_refl _⟩);clear m0 m5 rU np zZ x4 AI;go_wp2_with fail;clear m1 bd;go_loopg [10,11] S.O.length (fun gh v10 v11 wr=>∃ (i:Nat) (L3:List Nat),i<=S.O.length/\gh=S.O.length-i/\v11=.int .i64 (i:Nat)/\Hid (OutM (vb :: w.heap.size :: L) L3 mb vb g S ah (Sk.solC S ah inp) w5.heap.size wr v10 (Sk.toldL (Sk.solC S ah inp) (S.O.take i)))/\Aside [vb] w5.heap.size w5 wr)
    case atStart=>exact ⟨0,vb :: w.heap.size :: L,Nat.zero_le _,rfl,rfl,vx,Aside.refl _⟩
    case round=>
     clear vx;obtain ⟨i,L3,hi,rfl,rfl,jQ,aO⟩:=hrel;have Bd:=toldL_le pB.out.small (S.O.take i);rw [List.length_take] at Bd;obtain ⟨TL,Gp⟩:=nmQ (Sk.toldL (Sk.solC S ah inp) (S.O.take i));rw [<-Gp] at jQ Bd;have lY:=zBK Gp;clear Gp;obtain ⟨foZ,DJ,rfl,jb,iS⟩:=jQ.out.own.form;unfold maxLen at iS;have m2:=coQ jQ.out.st.m 2;have m3:=coQ jQ.out.st.m 3;simp at m2 m3;by_cases bd:i<S.O.length
     case pos=>
      obtain ⟨a',c',eqs,_,_,bo⟩:=jQ.out.st.sys.O.at;injection eqs with q1 q2 q3;obtain ⟨bO,oO,K7,yO,xO⟩:=bo i bd;rw [q1,K7] at m2;have ry:=eV.out.told S.O[i] (List.getElem_mem bd);have yw:=zBK (toldL_succ (C:=(Sk.solC S ah inp)) bd);rw [<-lY.out] at yw;have Hl:=pB.out.small S.O[i];generalize S.O[i]=x at xO ry yw Hl;have dF:=zBK (Jk.out g vb x ry L3);clear bo q1 q2 q3 K7 ry m3;go_wp2_with fail;refine (dF.out _ jQ.out.st).mono ?_;rintro e w6 ⟨u,rfl,hu,cQ,a6⟩;obtain ⟨au,cu,eu,-⟩:=id hu;subst eu;have Au:=zBK (jQ.out.past a6 cQ);obtain ⟨L4,aN,kN,w7,rN,wF,b7⟩:=Au.out.more hu (by omega);rw [List.length_append] at rN wF;have qY:=zBK rN;have Av:=zBK wF;have a7:Aside [vb] w5.heap.size w5 w7:=(aO.trans a6 aO.size).trans (aside b7) zBR;clear hu cQ rN wF m2 xO dF jQ Au b7 a6;generalize (Sk.cAt (Sk.solC S ah inp) x).length=nu at qY Av ⊢
      go_wp2_with (at_builtin;refine zBc rfl _ _ 44 rfl _ _ _ (by rfl) (by rfl) qY.out ?_)
      go_roundg (S.O.length-(i+1))
      case measure=>omega
      case rel=>exact ⟨i+1,L4,by omega,rfl,by go_num,zBK (by rw [yw.out];exact Av.out),a7⟩
     case neg=>
      have bp:i=S.O.length:=(by omega);subst bp;rw [List.take_length] at lY;obtain ⟨w7,Pw⟩:∃ x,x=wr:=⟨_,rfl⟩;subst Pw;have oG:=zCe S.R.length (by omega);have b8:Below w7.heap.size w7 (w7.alloc (.cells (Array.replicate S.R.length (.slice none 0 0)) 44 (0,0))):=(Below.refl _ _).alloc zBR _;have kK:=zBO w7 (.cells (Array.replicate S.R.length (.slice none 0 0)) 44 (0,0));have vN:=zBK (jQ.out.st.grow (w':=w7.alloc (.cells (Array.replicate S.R.length (.slice none 0 0)) 44 (0,0))) (q:=w7.heap.size) b8.size (fun i _ hl=>b8.block i hl) (b8.block _ (jQ.out.st.lt _ jQ.out.st.mL)) (b8.block _ (jQ.out.st.lt _ jQ.out.st.vL)) (.inr zBR) (zBM kK));have Jl:=zBK (show HInts (fun i=>w5.heap.size<=i/\i<w7.heap.size) (w7.alloc (.cells (Array.replicate S.R.length (.slice none 0 0)) 44 (0,0))) (.slice foZ TL.length DJ) TL from ((zDF jQ.out.own.row).wide (fun i hi hl=>⟨hi,hl⟩)).under b8);have vp:=zBK ((b8.block _ (zBM (aO.keep ph.out (zBM ph.out) (by simp;omega)))).trans (aO.keep ph.out (zBM ph.out) (by simp;omega)));have mP:=zBK (show Aside [mb,vb] w.heap.size w (w7.alloc (.cells (Array.replicate S.R.length (.slice none 0 0)) 44 (0,0))) from (Db.out.trans (aO.wide (S':=[mb,vb]) (fun k _ h=>by simp at h ⊢;exact h.2)) Db.out.size).trans (aside b8) (Nat.le_trans Db.out.size aO.size));have O3:mb<w7.heap.size:=jQ.out.st.lt _ jQ.out.st.mL;have Pr:vb<w7.heap.size:=jQ.out.st.lt _ jQ.out.st.vL;have Pv:=aO.size;have Ps:=Db.out.size;have mU:=zBK jQ.out.sub;have EO:=zBK (show w.heap.size ∈ w7.heap.size :: L3 from List.mem_cons.2 (.inr (mU.out _ (by simp))));have OH:w.heap.size<w5.heap.size:=zBM ph.out;clear b8 jQ;go_upto_region 18 with fail;clear m2 m3;generalize rp:w7.heap.size=kb at *;generalize w7.alloc (.cells (Array.replicate S.R.length (.slice none 0 0)) 44 (0,0))=w8 at kK vN Jl vp mP ⊢;clear oG;have Ab:=zBK (show KeepI (kb :: L3) w8 kb S (Sk.solC S ah inp) 0 from ⟨_,kK,by simp,fun j hj lG=>absurd lG (Nat.not_lt_zero _)⟩);have BL:kb<w8.heap.size:=zBM kK;have BV:mb≠kb:=(by omega);have xK:vb≠kb:=(by omega);clear kK;go_wp2_with fail;go_loopg [13] S.R.length (fun gh Qd wr=>∃ (i:Nat),i<=S.R.length/\gh=S.R.length-i/\Qd=.int .i64 (i:Nat)/\Hid (MgSt (kb :: L3) mb vb g S ah (Sk.solC S ah inp) wr)/\Hid (KeepI (kb :: L3) wr kb S (Sk.solC S ah inp) i)/\Aside [vb,kb] w8.heap.size w8 wr)
      case atStart=>exact ⟨0,Nat.zero_le _,rfl,rfl,vN,Ab,Aside.refl _⟩
      case round=>
       clear Ab vN;obtain ⟨i,hi,rfl,rfl,eF,tA,aK⟩:=hrel;obtain ⟨w9,Px⟩:∃ x,x=wr:=⟨_,rfl⟩;subst Px;have m3:=coQ eF.out.m 3;simp at m3;by_cases bd:i<S.R.length
       case pos=>
        obtain ⟨a4,k4,lu,jf,fb,dr⟩:=eF.out.sys.R.at;injection lu with p1 p2 p3;obtain ⟨bR,oR,y,fU,yR,bo,dA⟩:=dr i bd;rw [p1,fU] at m3;have Hi:S.R[i] ∈ S.R:=List.getElem_mem bd;have tB:=zBK (fun (hn:(S.R[i]).op≠13)=>tA.out.skip bd hn);have Dt:=zBK (fun (e:(S.R[i]).op=13)=>Sk.pre_used (eV.out.rules _ Hi).2 e);have mm:=zBK (eV.out.used _ Hi);have pq:=zBK (fun (W:World) (u:Value) (h:KeepI (kb :: L3) W kb S (Sk.solC S ah inp) i) (hu:RowS (kb :: L3) W u (Sk.cAt (Sk.solC S ah inp) (Sk.aN S.R[i] 1)))=>h.set (by simp) bd hu);generalize S.R[i]=r at bo dA tB Dt mm pq;obtain ⟨op,Io,out,rn,A,E⟩:=r;obtain ⟨d0,-,-,-,d4,-⟩:=bo
        dsimp only at d0 d4 tB Dt
        have lH:=dA.A
        dsimp only at lH
        clear dr p1 p2 p3 fU dA Hi;by_cases jJ:op=13
        case neg=>
         have F6:(op==13)=false:=(by simp [jJ]);have qN:=zBK (tB.out jJ);clear pq Dt jJ;go_wp2_with fail;go_roundg (S.R.length-(i+1))
         case measure=>omega
         case rel=>exact ⟨i+1,by omega,rfl,by go_num,eF,qN,aK⟩
        case pos=>
         subst jJ;obtain ⟨la,zj⟩:=Dt.out rfl;have KQ:∀ (h:1<A.length),Sk.aN (⟨13,Io,out,rn,A,E⟩:Sk.Ru) 1=A[1]:=fun h=>by
          unfold Sk.aN
          dsimp only
          rw [List.getD_eq_getElem?_getD,List.getElem?_eq_getElem h];rfl
         have ry:=mm.out _ zj;rw [KQ (by omega)] at ry pq;obtain ⟨a6,c6,e6,pM,Gd,gM⟩:=lH.at;injection e6 with x1 x2 x3;obtain ⟨bA,oA,jT,yA,xA⟩:=gM 1 (by omega);rw [x1,jT,x2] at d4;have Hl:=pB.out.small A[1];have xy:=pB.out.made;have Ax:=zBK (show 0<(Sk.cAt (Sk.solC S ah inp) A[1]).length by
          rw [Sk.sol_len eV.out re.out Di.out Dj.out _ ry];exact Sk.cnt_pos _)
         have dF:=zBK (Jk.out g vb A[1] ry (kb :: L3));have Re:(1:Int)<(A.length:Int):=(by omega);generalize A[1]=x at xA pq dF Hl Ax;have eI:=zBK la;clear ry zj KQ gM x1 x2 x3 jT lH xy la;generalize A.length=nA at *;go_wp2_with fail;refine (dF.out _ eF.out).mono ?_;rintro e wa ⟨u,rfl,hu,cQ,aa⟩;obtain ⟨au,cu,eu,ot⟩:=hu;subst eu;obtain ⟨aN,kN,wN,rN,oN,bN⟩:=zBf kLong (w:=wa) 44 44 Tryz.underlying44 (ok:=(· ∉ kb :: L3)) (show HRow kLong (· ∉ kb :: L3) wa _ _ from ot) (fun _ _ _ _ _ h=>h) (by show (Sk.cAt (Sk.solC S ah inp) x).length*8<=_;omega) (by unfold maxLen;omega);have qY:=zBK rN;have Dw:=zBK (zBd (L:=kb :: L3) oN (fun q hq=>cQ.lt q hq) Ax.out);have FA:=zBK (cQ.under bN);have FL:Aside [vb,kb] w9.heap.size w9 wN:=(aa.wide (S':=[vb,kb]) (fun k _ h=>by simp at h ⊢;exact h.1)).trans (aside bN) aa.size;have Jb:=zBK (tA.out.keep (w':=wN) (aa.block kb (Nat.lt_of_lt_of_le BL aK.size) (by simp;exact fun e=>xK e.symm) |> fun h=>(bN.block kb (Nat.lt_of_lt_of_le (Nat.lt_of_lt_of_le BL aK.size) aa.size)).trans h) FL.size (fun i hi hl=>FL.block i hl (by
          simp at hi ⊢;exact ⟨fun e=>hi.2 (by have:=cQ.vL;simp at this;rcases this with q | q;exact absurd q xK;exact e ▸ q),hi.1⟩)))
         have E6:=zBK (pq.out _ _ Jb.out Dw.out);have vM:=zBK (FA.out.other (q:=kb) (i:=i) (by simp) BV xK (.slice aN (Sk.cAt (Sk.solC S ah inp) x).length kN));obtain ⟨ks,zu,uh,-⟩:=id Jb.out;have DI:=coQ zu i;have JY:=foQ zu i;obtain ⟨uu,CA⟩:∃ uu,ks[i]?=some uu:=⟨ks[i]'(by omega),by simp⟩;rw [CA] at DI;have aX:Aside [vb,kb] w8.heap.size w8 (wN.setCell ⟨kb,i,none⟩ (.slice aN (Sk.cAt (Sk.solC S ah inp) x).length kN)):=(aK.trans FL aK.size).trans (Aside.setCell (S:=[vb,kb]) (B:=w8.heap.size) (by simp) _) zBR;clear oN bN rN ot zu CA uh pq tA d0 d4 xA m3 cQ aa;generalize (Sk.cAt (Sk.solC S ah inp) x).length=nu at *
         go_wp2_with (at_builtin;refine zBc rfl _ _ 44 rfl _ _ _ (by rfl) (by rfl) qY.out ?_)
         go_roundg (S.R.length-(i+1))
         case measure=>omega
         case rel=>exact ⟨i+1,by omega,rfl,by go_num,vM,E6,aX⟩
       case neg=>
        have bp:i=S.R.length:=(by omega);subst bp;have O4:mb<w9.heap.size:=eF.out.lt _ eF.out.mL;have Ig:=eF.out.m;have m4:=coQ Ig 4;have PT:=foQ Ig 4;simp at m4;have n9:=zBQ Ig 4 (.slice (some ⟨kb,0,none⟩) S.R.length S.R.length);simp at n9;have IB:Aside [mb] w9.heap.size w9 (w9.setCell ⟨mb,4,none⟩ (.slice (some ⟨kb,0,none⟩) S.R.length S.R.length)):=Aside.setCell (by simp) _;have mg:=zBK IB;clear IB;go_upto_region 25 with fail;generalize (w9.setCell ⟨mb,4,none⟩ (.slice (some ⟨kb,0,none⟩) S.R.length S.R.length))=mf at n9 mg ⊢;clear m3 m4 PT;have m6:=coQ n9 6;have PV:=foQ n9 6;simp at m6;rw [dW.out] at m6;have qE:=zBQ n9 6 (.int .i64 ((n:Int)+1));simp at qE;have PE:IntKind.i64.wrap ((n:Int)+1)=(n:Int)+1:=i64_in _ ⟨by omega,by omega⟩;have IC:Aside [mb] w9.heap.size w9 (mf.setCell ⟨mb,6,none⟩ (.int .i64 ((n:Int)+1))):=mg.out.trans (Aside.setCell (S:=[mb]) (B:=w9.heap.size) (by simp) _) zBR;have lp:=zBK IC;clear IC;go_upto_region 26 with fail;generalize (mf.setCell ⟨mb,6,none⟩ (.int .i64 ((n:Int)+1)))=iW at qE lp ⊢;clear m6 PV PE n9 mg;have OG:w.heap.size<w9.heap.size:=(by have h:=aK.size;omega);have rC:=lp.out.keep (aK.keep vp.out (zBM vp.out) (by simp;omega)) OG (by simp;omega);have cJ:=coQ rC 0;have cW:=coQ rC 1;have eO:=foQ rC 0;have fl:=foQ rC 1;simp at cJ cW;have KR:=zBQ (zBQ rC 0 (.int .i64 0)) 1 (.int .i64 0);have r0:=coQ KR 0;have r1:=coQ KR 1;simp at r0 r1;have Cb:mb<iW.heap.size:=zBM qE;have O6:w.heap.size≠mb:=(by omega);have T2:Aside [w.heap.size] iW.heap.size iW ((iW.setCell ⟨w.heap.size,0,none⟩ (.int .i64 0)).setCell ⟨w.heap.size,1,none⟩ (.int .i64 0)):=(Aside.setCell (S:=[w.heap.size]) (B:=iW.heap.size) (w:=iW) (p:=⟨w.heap.size,0,none⟩) (by simp) _).trans (Aside.setCell (S:=[w.heap.size]) (B:=iW.heap.size) (p:=⟨w.heap.size,1,none⟩) (by simp) _) zBR;have CQ:((iW.setCell ⟨w.heap.size,0,none⟩ (.int .i64 0)).setCell ⟨w.heap.size,1,none⟩ (.int .i64 0)).heap[mb]?=some (.cells (mgB ⟨g.aV,g.cV,g.aI,g.cI,g.aO,g.cO,g.aR,g.cR,(.slice (some ⟨kb,0,none⟩) S.R.length S.R.length),(n:Int)+1⟩ S (.slice (some ⟨vb,0,none⟩) S.V.length S.V.length)) 73 (0,0)):=T2.keep qE Cb (by simp;exact fun e=>O6 e.symm);have Hx:w8.heap.size<=w9.heap.size:=aK.size;have sW:w9.heap.size<=iW.heap.size:=lp.out.size;have LV:w.heap.size<=w8.heap.size:=mP.out.size;have HX:=zBK (show ∀ j,j≠mb->j≠w.heap.size->j<w9.heap.size->((iW.setCell ⟨w.heap.size,0,none⟩ (.int .i64 0)).setCell ⟨w.heap.size,1,none⟩ (.int .i64 0)).heap[j]?=w9.heap[j]? from fun j h1 h2 hl=>(T2.block j (by omega) (by simpa using h2)).trans (lp.out.block j hl (by simpa using h1)));have AJ:=zBK (show HSys (· ∉ L) ((iW.setCell ⟨w.heap.size,0,none⟩ (.int .i64 0)).setCell ⟨w.heap.size,1,none⟩ (.int .i64 0)) g.aV g.aI g.aO g.aR g.cV g.cI g.cO g.cR S from by
         have h0:=eF.out.sys;have h1:=(Ju.out.wide (ok':=fun i=>i ∉ L/\i<w.heap.size) fun i hi hl=>⟨hi,hl⟩);refine (h1.keep (w':=((iW.setCell ⟨w.heap.size,0,none⟩ (.int .i64 0)).setCell ⟨w.heap.size,1,none⟩ (.int .i64 0))) (Nat.le_trans LV (Nat.le_trans Hx (Nat.le_trans sW T2.size))) (fun j hj hl=>?_)).wide (fun i hi _=>hi.1);have sF:j≠mb:=fun e=>hj.1 (e ▸ fQ.out);rw [HX.out j sF (by omega) (by omega),aK.block j (by omega) (by simp;omega),mP.out.block j hl (by simp;exact ⟨sF,by omega⟩)])
        have Ac:=zBK (show KeepM L ((iW.setCell ⟨w.heap.size,0,none⟩ (.int .i64 0)).setCell ⟨w.heap.size,1,none⟩ (.int .i64 0)) (.slice (some ⟨kb,0,none⟩) S.R.length S.R.length) ((n:Int)+1) S RT.2 from by
         obtain ⟨ks,zu,uh,eS⟩:=tA.out;refine .inr ⟨by omega,kb,ks,rfl,fun h=>by have h2:=qP.out kb h;omega,(HX.out kb (fun e=>BV e.symm) (by omega) (zBM zu)).trans zu,fun j hj ho=>?_⟩;obtain ⟨u,e1,hr⟩:=eS j hj hj ho;refine ⟨Sk.cAt (Sk.solC S ah inp) (Sk.aN S.R[j] 1),u,?_,e1,?_⟩
         ·rw [Dx.out,zU.out.2]
          show Sk.keepF (Sk.solC S ah inp) (fun _=>none) (Sk.sortS S).R (Sk.aN S.R[j] 1)=some (Sk.cAt (Sk.solC S ah inp) (Sk.aN S.R[j] 1))
          rw [Sk.keepF_at,if_pos ⟨S.R[j],(Sk.sort_perm eV.out (Sk.needs_in eV.out) re.out).mem_iff.1 (List.getElem_mem hj),ho,rfl⟩]
         ·obtain ⟨au,cu,eu,ot⟩:=hr
          refine ⟨au,cu,eu,((ot.wide (ok':=fun q=>(q ∉ L/\q≠w.heap.size)/\q<w9.heap.size) (fun q hq hl=>⟨⟨fun hm=>hq (List.mem_cons.2 (.inr (mU.out q (by simp [hm])))),fun e=>?_⟩,hl⟩)).keep (w':=((iW.setCell ⟨w.heap.size,0,none⟩ (.int .i64 0)).setCell ⟨w.heap.size,1,none⟩ (.int .i64 0))) (Nat.le_trans sW T2.size) (fun q hq hl=>HX.out q (fun e=>hq.1.1 (e ▸ fQ.out)) hq.1.2 hl)).wide (fun q hq _=>hq.1.1)⟩;exact hq (e ▸ EO.out))
        have Ft:=zBK (show HInts (fun i=>w.heap.size<=i) ((iW.setCell ⟨w.heap.size,0,none⟩ (.int .i64 0)).setCell ⟨w.heap.size,1,none⟩ (.int .i64 0)) (.slice foZ TL.length DJ) TL from by
         have h1:=Jl.out.keep (w':=w9) Hx (fun j hj hl=>aK.block j hl (by simp;omega));exact (h1.keep (w':=((iW.setCell ⟨w.heap.size,0,none⟩ (.int .i64 0)).setCell ⟨w.heap.size,1,none⟩ (.int .i64 0))) (Nat.le_trans sW T2.size) (fun j hj hl=>HX.out j (by omega) (by omega) hl)).wide (fun i hi _=>by omega))
        have Ey:=zBK (show Aside [mb] w.heap.size w ((iW.setCell ⟨w.heap.size,0,none⟩ (.int .i64 0)).setCell ⟨w.heap.size,1,none⟩ (.int .i64 0)) from ⟨T2.os.trans (lp.out.os.trans (aK.os.trans mP.out.os)),T2.tape.trans (lp.out.tape.trans (aK.tape.trans mP.out.tape)),T2.output.trans (lp.out.output.trans (aK.output.trans mP.out.output)),Nat.le_trans LV (Nat.le_trans Hx (Nat.le_trans sW T2.size)),fun j hl hj=>by
         have sF:j≠mb:=(by simpa using hj);rw [HX.out j sF (by omega) (by omega),aK.block j (by omega) (by simp;omega),mP.out.block j hl (by simp;exact ⟨sF,by omega⟩)]⟩)
        have Fb:=zBK (show ∀ q ∈ L,q<((iW.setCell ⟨w.heap.size,0,none⟩ (.int .i64 0)).setCell ⟨w.heap.size,1,none⟩ (.int .i64 0)).heap.size from fun q hq=>by have h:=qP.out q hq;have h2:=T2.size;omega);have MR:=zBK (show MgAt L mb S RT.2 (n+1) ((iW.setCell ⟨w.heap.size,0,none⟩ (.int .i64 0)).setCell ⟨w.heap.size,1,none⟩ (.int .i64 0)) from ⟨⟨_,_,CQ,rfl,AJ.out,Ac.out⟩,fQ.out,Fb.out⟩);have AE:=zBK (show RT.1.1=TL from by rw [Dx.out,zU.out.2];exact lY.out.symm);have AF:=zBK (show RT.1.2.1=0/\RT.1.2.2=0 from by rw [Dx.out,zU.out.2];exact ⟨rfl,rfl⟩);clear KR qE CQ T2 lp HX AJ Ac rC;go_wp2;exact bodyPost_ret (v:=.tuple #[.slice foZ TL.length DJ,.agg #[.int .i64 0,.int .i64 0]]) (by simp [results,Tryz.results25,go_sem,r0,r1]) rfl ⟨foZ,DJ,n+1,by rw [AE.out,AF.out.1,AF.out.2],by rw [AE.out];exact Ft.out,Nat.le_refl _,MR.out,Ey.out⟩
end Go.Proofs.YtfhghlpfeeiaeaaGreatDoor
