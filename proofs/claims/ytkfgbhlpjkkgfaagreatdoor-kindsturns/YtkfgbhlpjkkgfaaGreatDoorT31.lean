import Derived.Test.YtkfgbhlpjkkgfaaGreatDoorT28
set_option linter.unusedVariables false
set_option linter.unusedSimpArgs false
set_option maxHeartbeats 64000000
set_option maxRecDepth 100000
namespace Go.Proofs.YtkfgbhlpjkkgfaaGreatDoor
open Go.RowKit Go.IntWalk
noncomputable def mapB (tk:Int):List Kd.Ty->Bool
 | []=>false
 | t :: r=>Kd.isAr t tk&&r.all fun u=>Kd.isAr u tk&&Kd.same u t
theorem mapB_ok {tk:Int} {t:Kd.Ty} {l r:List Kd.Ty} (e:l=t :: r) (h:∀ j (hj:j<l.length),Kd.isAr l[j] tk=true/\(0<j->Kd.same l[j] t=true)):mapB tk l=true:=by
 subst e;unfold mapB;rw [Bool.and_eq_true];refine ⟨(h 0 (by simp)).1,?_⟩;rw [List.all_eq_true];intro x hx;obtain ⟨j,hj,rfl⟩:=List.getElem_of_mem hx;have:=h (j+1) (by simp;omega);simp only [List.getElem_cons_succ] at this;rw [this.1,this.2 (by omega)];rfl
theorem mapB_bad {tk:Int} {t:Kd.Ty} {l r:List Kd.Ty} (e:l=t :: r) {j:Nat} (hj:j<l.length) (h:Kd.isAr l[j] tk=false\/(0<j/\Kd.same l[j] t=false)):mapB tk l=false:=by
 cases hb:mapB tk l with
 | false=>rfl
 | true=>
  subst e;unfold mapB at hb;rw [Bool.and_eq_true,List.all_eq_true] at hb
  cases j with
  | zero=>
   rcases h with h | h
   ·simp only [List.getElem_cons_zero] at h
    rw [hb.1] at h
    cases h
   ·exact absurd h.1 (by omega)
  | succ j=>
   simp only [List.getElem_cons_succ] at h;have:=hb.2 (r[j]'(by simp at hj;omega)) (List.getElem_mem _);rw [Bool.and_eq_true] at this;rcases h with h | h
   ·rw [this.1] at h
    cases h
   ·rw [this.2] at h
    cases h.2
theorem HTy.terms {ok:Nat->Prop} {w:World} {e:Int} {u:Value} {t:Kd.Ty} (h:HTy ok w (.agg #[.int .u8 e,u]) t):HTerms ok w u t.n:=by
 obtain ⟨v,ev,hv⟩:=h;simp at ev;rw [ev.2];exact hv
theorem zFp {ok:Nat->Prop} {w:World} {v:Value} {t:Kd.Ty} {r:List Kd.Ty} (k:Int) (hl:HTys ok w v (t :: r)) (hG:GlobK w) :
  Calls Tryz.prog 167 #[.int .i64 k,v] w fun e w'=>∃ u c,e=.returned (.tuple #[u,.int .i64 c])/\TRes (fun i=>ok i\/w.heap.size<=i) w' u c (Kd.mapT k (t :: r))/\Below w.heap.size w w':=by
 obtain ⟨l,p9⟩:=nmQ (t :: r);have eO:=hl.wide (ok':=fun i=>ok i/\i<w.heap.size) (fun i hi ak=>⟨hi,ak⟩);have b1:Below w.heap.size w (w.alloc (.cells #[.int .u8 0,.slice none 0 0] 35 (0,0))):=(Below.refl _ _).alloc nR _;have kZ:=zAC w (.cells #[.int .u8 0,.slice none 0 0] 35 (0,0));have hc:=op_any k _ (hG.under b1);obtain ⟨R,hR⟩:=nmQ (Kd.mapT k (t :: r));rw [<-hR];have rV:R=if (l.length:Int)≠(Kd.opT k).2.2 then .error 12 else Kd.typed (mapB (Kd.opT k).1 l) (Kd.mkA (Kd.opT k).2.1 t.n):=(by rw [hR,p9];rfl)
 clear hR;generalize Kd.opT k=oq at hc rV;obtain ⟨tk,mk,nn⟩:=oq
 dsimp only at hc rV
 rw [<-p9] at eO;have h0:0<l.length:=(by rw [p9];simp);have zb:l[0]=t:=(by simp [p9]);have sj:=zAA p9;obtain ⟨la,lc,rfl,aC,av,ai⟩:=eO.at;unfold maxLen at av;obtain ⟨bl,ol,aa,na,ca,rfl,yl,x0,x1,dl⟩:=ai 0 h0;rw [zb] at x0 dl;simp only [Nat.zero_mul,Nat.add_zero] at x0 x1;have eM:=zAA dl;have HL:=zAA eO;have HR:=zAA rV;obtain ⟨n,hn⟩:=nmQ (l.length);rw [<-hn] at aC h0 ⊢;have HN:=zAA hn;clear ai hl eO hG dl rV p9 zb hn;go_enter Tryz.func167,Tryz.ntmps167;go_upto_region 1 with fail;generalize w.alloc (.cells #[.int .u8 0,.slice none 0 0] 35 (0,0))=w1 at b1 kZ hc ⊢;go_wp2_with fail;refine hc.mono ?_;rintro e w2 ⟨rfl,b2⟩;clear hc;have B2:=b1.trans (b2.mono b1.size);have fZ:=(b2.block _ (zAB kZ)).trans kZ;clear kZ;by_cases sO:(n:Int)=nn
 case neg=>
  have hz:R=.error 12:=(by rw [HR.out,<-HN.out,if_pos sO]);have cG:((n:Int) != nn)=true:=(by simpa using sO);have HZ:=zAA hz;clear hz;have iw:=fZ;have aX:=co iw 0;have st1:=co iw 1;have dr:=fo iw 0;have dp:=fo iw 1;simp at aX st1;have KR:=zAD (zAD iw 0 (.int .u8 0)) 1 (.slice none 0 0);have r0:=co KR 0;have r1:=co KR 1;simp at r0 r1;have BR:=((B2).setCell (p:=⟨w.heap.size,0,none⟩) nR (.int .u8 0)).setCell (p:=⟨w.heap.size,1,none⟩) nR (.slice none 0 0);clear KR iw;go_wp2;exact bodyPost_ret (v:=.tuple #[.agg #[.int .u8 0,.slice none 0 0],.int .i64 12]) (by simp [results,Tryz.results167,go_sem,r0,r1]) rfl ⟨_,_,rfl,by rw [HZ.out];exact ⟨rfl,by decide,rfl⟩,BR⟩
 case pos=>
  have nz:=zAA (show R=Kd.typed (mapB tk l) (Kd.mkA mk t.n) by rw [HR.out,<-HN.out,if_neg (by simpa using sO)]);have cG:((n:Int) != nn)=false:=(by simpa using sO);have qO:=zAA sO;clear sO HR;have Jc:=zAA fZ;clear fZ;go_wp2_with fail;go_loopg [24] n (fun gh v wr=>∃ i,i<=n/\gh=n-i/\v=.int .i64 (i:Nat)/\Hid (∀ j (h:j<l.length),j<i->Kd.isAr l[j] tk=true/\(0<j->Kd.same l[j] t=true))/\Below w.heap.size w wr/\Hid (wr.heap[w.heap.size]?=some (.cells #[.int .u8 0,.slice none 0 0] 35 (0,0))))
  case atStart=>exact ⟨0,Nat.zero_le _,rfl,rfl,fun j _ h=>absurd h (Nat.not_lt_zero _),B2,Jc⟩
  case round=>
   clear B2 Jc b1 b2;obtain ⟨i,hi,rfl,rfl,H,aj,KZ⟩:=hrel;by_cases ak:i<n
   case neg=>
    have bH:i=n:=(by omega);subst bH;have hz:R=.ok (Kd.mkA mk t.n):=by
     rw [nz.out,mapB_ok sj.out (fun j hj=>H.out j hj (by have:=HN.out;omega))];rfl
    have s1:=(aj.cell (p:=⟨bl,ol+1,none⟩) yl).trans x1;have hc:=zBL (eM.out.under aj).terms mk;have kZ:=KZ.out;have zz:=zAB kZ;have HZ:=zAA hz;clear KZ x0 x1 hz;go_wp2_with fail;refine hc.mono ?_;rintro e w4 ⟨uz,rfl,hz,b4⟩;clear hc;have B4:=aj.trans (b4.mono aj.size);have aT:=(b4.block _ zz).trans kZ;have hT:TRes (okU (fun i=>ok i/\i<w.heap.size) wr.heap.size) w4 uz 0 (.ok (Kd.mkA mk t.n)):=⟨rfl,hz⟩;rw [<-HZ.out] at hT;obtain ⟨te,ta,tn,tc,rfl⟩:=hT.form;have cF:¬okU (fun i=>ok i/\i<w.heap.size) wr.heap.size w.heap.size:=by
     rintro (h | h)
     ·exact absurd h.2 (Nat.lt_irrefl _)
     ·omega
    have aX:=co aT 0;have st1:=co aT 1;have dr:=fo aT 0;have dp:=fo aT 1;simp at aX st1;have KR:=zAD (zAD aT 0 (.int .u8 te)) 1 (.slice ta tn tc);have r0:=co KR 0;have r1:=co KR 1;simp at r0 r1;have BR:=(B4.setCell (p:=⟨w.heap.size,0,none⟩) nR (.int .u8 te)).setCell (p:=⟨w.heap.size,1,none⟩) nR (.slice ta tn tc);have HT:=zAA ((hT.set (p:=⟨w.heap.size,0,none⟩) cF (.int .u8 te)).set (p:=⟨w.heap.size,1,none⟩) cF (.slice ta tn tc));have kU:=aj.size;clear KR aT hT hz kZ;go_wp2;exact bodyPost_ret (v:=.tuple #[.agg #[.int .u8 te,.slice ta tn tc],.int .i64 0]) (by simp [results,Tryz.results167,go_sem,r0,r1]) rfl ⟨_,_,rfl,HT.out.wide (fun i hi=>hi.elim (fun h=>.inl h.1) (fun h=>.inr (Nat.le_trans kU h))),BR⟩
   case pos=>
    have ap:i<l.length:=(by have:=HN.out;omega);obtain ⟨fj,bE,eqs,_,_,br⟩:=(HL.out.under aj).at;injection eqs with q1 q2 q3;subst q1;obtain ⟨b,o,au,nu,cu,ee,hb,e0,e1,dD⟩:=br i ap;injection ee with ee;injection ee with e3 e4 _;subst e3 e4;have bA:Below wr.heap.size wr (wr.alloc (.cells #[.int .u8 (l[i]).elem,.slice au nu cu] 35 (0,0))):=(Below.refl _ _).alloc nR _;have kA:=zAC wr (.cells #[.int .u8 (l[i]).elem,.slice au nu cu] 35 (0,0));have BA:=aj.trans (bA.mono aj.size);have mr:=zAA (dD.under bA);have ij:=zAA (eM.out.under BA);have rC:=zAA ((bA.block _ (zAB KZ.out)).trans KZ.out);have z0:=(BA.cell (p:=⟨bl,ol,none⟩) yl).trans x0;have z1:=(BA.cell (p:=⟨bl,ol+1,none⟩) yl).trans x1;have y1:=Nat.lt_of_lt_of_le yl BA.size;obtain ⟨q,hq⟩:∃ q,Kd.isAr l[i] tk=q:=⟨_,rfl⟩;obtain ⟨qs,dK⟩:∃ qs,Kd.same l[i] t=qs:=⟨_,rfl⟩;have HQ:=zAA hq;have Fb:=zAA dK;clear br dD hq dK q2 q3;go_upto_region 7 with fail;generalize wr.alloc (.cells #[.int .u8 (l[i]).elem,.slice au nu cu] 35 (0,0))=wa at bA kA BA mr ij rC z0 z1 y1 ⊢;have k0:=co kA 0;have k1:=co kA 1;have ya:=zAB kA;simp at k0 k1;clear kA x0 x1 e0 e1
    cases q
    case false=>
     have hz:R=.error 10:=by
      rw [nz.out,mapB_bad sj.out ap (.inl HQ.out)];rfl
     refine zAE (fun w'=>Below wa.heap.size wa w') (fun _=>false) (by kernel_rfl) ?_;have af:Below wa.heap.size wa wa.drew:=(Below.refl _ _).drew;generalize wa.drew=aW at af ⊢;refine' tkQ 0 29 af ?hyv ?o1
     case hyv=>
      intro wz ae;have bI:=(ae.cell (p:=⟨wr.heap.size,0,none⟩) ya).trans k0;have d9:=(ae.cell (p:=⟨wr.heap.size,1,none⟩) ya).trans k1;go_simp
      try rfl
     try simp only [Act.put,sT,sZ,sS]
     refine' tkR 1 30 af ?o2
     refine tnQ 2 (fun K hK=>?_);go_simp;refine (zAq (mr.out.under af) tk).mono ?_;rintro eq cW ⟨rfl,dL⟩;have al:Below wa.heap.size wa cW:=af.trans (dL.mono af.size);rw [HQ.out];refine hK.out _ _ (fun _=>al) ?_;clear hK K
     try simp only [Act.put,sT,sZ,sS]
     refine' tkR 3 32 al ?o3
     refine' tkR 4 33 al ?o4
     refine zAG (i:=5) (oi:=⟨some 34,_,_,_,_,_⟩) rfl (by kernel_rfl) (by kernel_rfl) (by kernel_rfl) (by kernel_rfl) (fun _ _ _ h=>h) al (by rfl) ?_
     try simp only [Act.put,sT,sZ,sS]
     refine zAG (i:=6) (oi:=⟨some 35,_,_,_,_,_⟩) rfl (by kernel_rfl) (by kernel_rfl) (by kernel_rfl) (by kernel_rfl) (fun _ _ _ h=>h) al (by rfl) ?_
     try simp only [Act.put,sT,sZ,sS]
     refine zAG (i:=7) (oi:=⟨some 36,_,_,_,_,_⟩) rfl (by kernel_rfl) (by kernel_rfl) (by kernel_rfl) (by kernel_rfl) (fun _ _ _ h=>h) al (by rfl) ?_
     try simp only [Act.put,sT,sZ,sS]
     refine zAG (i:=8) (oi:=⟨some 37,_,_,_,_,_⟩) rfl (by kernel_rfl) (by kernel_rfl) (by kernel_rfl) (by kernel_rfl) (fun _ _ _ h=>h) al (by rfl) ?_
     try simp only [Act.put,sT,sZ,sS]
     refine zAG (i:=9) (oi:=⟨some 38,_,_,_,_,_⟩) rfl (by kernel_rfl) (by kernel_rfl) (by kernel_rfl) (by kernel_rfl) (fun _ _ _ h=>h) al (by rfl) ?_
     try simp only [Act.put,sT,sZ,sS]
     refine zAG (i:=10) (oi:=⟨some 39,_,_,_,_,_⟩) rfl (by kernel_rfl) (by kernel_rfl) (by kernel_rfl) (by kernel_rfl) (fun _ _ _ h=>h) al (by rfl) ?_
     try simp only [Act.put,sT,sZ,sS]
     refine zAG (i:=11) (oi:=⟨some 40,_,_,_,_,_⟩) rfl (by kernel_rfl) (by kernel_rfl) (by kernel_rfl) (by kernel_rfl) (fun _ _ _ h=>h) al (by rfl) ?_
     try simp only [Act.put,sT,sZ,sS]
     refine zAG (i:=12) (oi:=⟨some 41,_,_,_,_,_⟩) rfl (by kernel_rfl) (by kernel_rfl) (by kernel_rfl) (by kernel_rfl) (fun _ _ _ h=>h) al (by rfl) ?_
     try simp only [Act.put,sT,sZ,sS]
     refine zAG (i:=13) (oi:=⟨some 42,_,_,_,_,_⟩) rfl (by kernel_rfl) (by kernel_rfl) (by kernel_rfl) (by kernel_rfl) (fun _ _ _ h=>h) al (by rfl) ?_
     try simp only [Act.put,sT,sZ,sS]
     refine zAG (i:=14) (oi:=⟨some 43,_,_,_,_,_⟩) rfl (by kernel_rfl) (by kernel_rfl) (by kernel_rfl) (by kernel_rfl) (fun _ _ _ h=>h) al (by rfl) ?_
     try simp only [Act.put,sT,sZ,sS]
     refine' tkR 15 44 al ?o5
     refine zAF (by kernel_rfl) ?_ _;have HZ:=zAA hz;clear hz;have iw:=(al.block _ (zAB rC.out)).trans rC.out;have aX:=co iw 0;have st1:=co iw 1;have dr:=fo iw 0;have dp:=fo iw 1;simp at aX st1;have KR:=zAD (zAD iw 0 (.int .u8 0)) 1 (.slice none 0 0);have r0:=co KR 0;have r1:=co KR 1;simp at r0 r1;have BR:=((BA.trans (al.mono BA.size)).setCell (p:=⟨w.heap.size,0,none⟩) nR (.int .u8 0)).setCell (p:=⟨w.heap.size,1,none⟩) nR (.slice none 0 0);clear KR iw;go_wp2;exact bodyPost_ret (v:=.tuple #[.agg #[.int .u8 0,.slice none 0 0],.int .i64 10]) (by simp [results,Tryz.results167,go_sem,r0,r1]) rfl ⟨_,_,rfl,by rw [HZ.out];exact ⟨rfl,by decide,rfl⟩,BR⟩
    case true=>
     by_cases gv:i=0
     case pos=>
      subst gv;refine zAE (fun w'=>Below wa.heap.size wa w') (fun _=>false) (by kernel_rfl) ?_;have af:Below wa.heap.size wa wa.drew:=(Below.refl _ _).drew;generalize wa.drew=aW at af ⊢;refine' tkQ 0 29 af ?hyv ?o6
      case hyv=>
       intro wz ae;have bI:=(ae.cell (p:=⟨wr.heap.size,0,none⟩) ya).trans k0;have d9:=(ae.cell (p:=⟨wr.heap.size,1,none⟩) ya).trans k1;go_simp
       try rfl
      try simp only [Act.put,sT,sZ,sS]
      refine' tkR 1 30 af ?o7
      refine tnQ 2 (fun K hK=>?_);go_simp;refine (zAq (mr.out.under af) tk).mono ?_;rintro eq cW ⟨rfl,dL⟩;have al:Below wa.heap.size wa cW:=af.trans (dL.mono af.size);rw [HQ.out];refine hK.out _ _ (fun _=>al) ?_;clear hK K
      try simp only [Act.put,sT,sZ,sS]
      refine' tkR 3 32 al ?o8
      refine' tkR 4 33 al ?o9
      refine' tkR 5 34 al ?o10
      refine' tkR 6 35 al ?o11
      refine' tkR 7 36 al ?o12
      refine zAG (i:=8) (oi:=⟨some 37,_,_,_,_,_⟩) rfl (by kernel_rfl) (by kernel_rfl) (by kernel_rfl) (by kernel_rfl) (fun _ _ _ h=>h) al (by rfl) ?_
      try simp only [Act.put,sT,sZ,sS]
      refine zAG (i:=9) (oi:=⟨some 38,_,_,_,_,_⟩) rfl (by kernel_rfl) (by kernel_rfl) (by kernel_rfl) (by kernel_rfl) (fun _ _ _ h=>h) al (by rfl) ?_
      try simp only [Act.put,sT,sZ,sS]
      refine zAG (i:=10) (oi:=⟨some 39,_,_,_,_,_⟩) rfl (by kernel_rfl) (by kernel_rfl) (by kernel_rfl) (by kernel_rfl) (fun _ _ _ h=>h) al (by rfl) ?_
      try simp only [Act.put,sT,sZ,sS]
      refine zAG (i:=11) (oi:=⟨some 40,_,_,_,_,_⟩) rfl (by kernel_rfl) (by kernel_rfl) (by kernel_rfl) (by kernel_rfl) (fun _ _ _ h=>h) al (by rfl) ?_
      try simp only [Act.put,sT,sZ,sS]
      refine zAG (i:=12) (oi:=⟨some 41,_,_,_,_,_⟩) rfl (by kernel_rfl) (by kernel_rfl) (by kernel_rfl) (by kernel_rfl) (fun _ _ _ h=>h) al (by rfl) ?_
      try simp only [Act.put,sT,sZ,sS]
      refine zAG (i:=13) (oi:=⟨some 42,_,_,_,_,_⟩) rfl (by kernel_rfl) (by kernel_rfl) (by kernel_rfl) (by kernel_rfl) (fun _ _ _ h=>h) al (by rfl) ?_
      try simp only [Act.put,sT,sZ,sS]
      refine' tkR 14 43 al ?o13
      refine' tkR 15 44 al ?o14
      refine zAF (by kernel_rfl) ?_ _;have Hj:=zAA ((al.block _ (zAB rC.out)).trans rC.out);have Bn:=BA.trans (al.mono BA.size);go_wp2_with fail;go_roundg (n-(0+1))
      case measure=>omega
      case rel=>
       refine ⟨0+1,by omega,rfl,by go_num,fun j hj bJ=>?_,Bn,Hj⟩;by_cases e:j=0
       ·subst e
        exact ⟨HQ.out,fun h=>absurd h (by omega)⟩
       ·exact H.out j hj (by omega)
     case neg=>
      have ju:(0:Int)<(i:Int):=(by omega);have MM:decide (0<i)=true:=(by simp;omega);refine zAE (fun w'=>Below wa.heap.size wa w') (fun _=>false) (by kernel_rfl) ?_;have af:Below wa.heap.size wa wa.drew:=(Below.refl _ _).drew;generalize wa.drew=aW at af ⊢;refine' tkQ 0 29 af ?hyv ?o15
      case hyv=>
       intro wz ae;have bI:=(ae.cell (p:=⟨wr.heap.size,0,none⟩) ya).trans k0;have d9:=(ae.cell (p:=⟨wr.heap.size,1,none⟩) ya).trans k1;go_simp
       try rfl
      try simp only [Act.put,sT,sZ,sS]
      refine' tkR 1 30 af ?o16
      refine tnQ 2 (fun K hK=>?_);go_simp;refine (zAq (mr.out.under af) tk).mono ?_;rintro eq cW ⟨rfl,dL⟩;have al:Below wa.heap.size wa cW:=af.trans (dL.mono af.size);rw [HQ.out];refine hK.out _ _ (fun _=>al) ?_;clear hK K
      try simp only [Act.put,sT,sZ,sS]
      refine' tkR 3 32 al ?o17
      refine' tkR 4 33 al ?o18
      refine' tkR 5 34 al ?o19
      refine' tkR 6 35 al ?o20
      try simp only [MM]
      refine' tkR 7 36 al ?o21
      refine' tkQ 8 37 al ?hyv ?o22
      case hyv=>
       intro wz ae;have bI:=(ae.cell (p:=⟨wr.heap.size,0,none⟩) ya).trans k0;have d9:=(ae.cell (p:=⟨wr.heap.size,1,none⟩) ya).trans k1;go_simp
       try rfl
      try simp only [Act.put,sT,sZ,sS]
      refine' tkR 9 38 al ?o23
      refine' tkR 10 39 al ?o24
      refine' tkQ 11 40 al ?hyv ?o25
      case hyv=>
       intro wz ae;have bI:=(ae.cell (p:=⟨bl,ol,none⟩) y1).trans z0;have d9:=(ae.cell (p:=⟨bl,ol+1,none⟩) y1).trans z1;go_simp
       try rfl
      try simp only [Act.put,sT,sZ,sS]
      refine tnQ 12 (fun K hK=>?_);go_simp;refine (zBT (mr.out.under al) (ij.out.under al)).mono ?_;rintro eq fY ⟨rfl,ib⟩;have aK:Below wa.heap.size wa fY:=al.trans (ib.mono al.size);rw [Fb.out];refine hK.out _ _ (fun _=>aK) ?_;clear hK K
      try simp only [Act.put,sT,sZ,sS]
      refine' tkR 13 42 aK ?o26
      refine' tkR 14 43 aK ?o27
      refine' tkR 15 44 aK ?o28
      refine zAF (by kernel_rfl) ?_ _
      cases qs
      case false=>
       have hz:R=.error 10:=by
        rw [nz.out,mapB_bad sj.out ap (.inr ⟨by omega,Fb.out⟩)];rfl
       have HZ:=zAA hz;clear hz;have iw:=(aK.block _ (zAB rC.out)).trans rC.out;have aX:=co iw 0;have st1:=co iw 1;have dr:=fo iw 0;have dp:=fo iw 1;simp at aX st1;have KR:=zAD (zAD iw 0 (.int .u8 0)) 1 (.slice none 0 0);have r0:=co KR 0;have r1:=co KR 1;simp at r0 r1;have BR:=((BA.trans (aK.mono BA.size)).setCell (p:=⟨w.heap.size,0,none⟩) nR (.int .u8 0)).setCell (p:=⟨w.heap.size,1,none⟩) nR (.slice none 0 0);clear KR iw;go_wp2;exact bodyPost_ret (v:=.tuple #[.agg #[.int .u8 0,.slice none 0 0],.int .i64 10]) (by simp [results,Tryz.results167,go_sem,r0,r1]) rfl ⟨_,_,rfl,by rw [HZ.out];exact ⟨rfl,by decide,rfl⟩,BR⟩
      case true=>
       have Hj:=zAA ((aK.block _ (zAB rC.out)).trans rC.out);have Bn:=BA.trans (aK.mono BA.size);go_wp2_with fail;go_roundg (n-(i+1))
       case measure=>omega
       case rel=>
        refine ⟨i+1,by omega,rfl,by go_num,fun j hj bJ=>?_,Bn,Hj⟩;by_cases e:j=i
        ·subst e
         exact ⟨HQ.out,fun _=>Fb.out⟩
        ·exact H.out j hj (by omega)
end Go.Proofs.YtkfgbhlpjkkgfaaGreatDoor
