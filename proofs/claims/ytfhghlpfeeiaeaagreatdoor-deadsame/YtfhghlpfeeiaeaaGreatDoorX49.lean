import Derived.Test.YtfhghlpfeeiaeaaGreatDoorX48
import Derived.Test.YtfhghlpfeeiaeaaGreatDoorX45
set_option linter.unusedVariables false
set_option linter.unusedSimpArgs false
set_option maxHeartbeats 64000000
set_option maxRecDepth 100000
namespace Go.Proofs.YtfhghlpfeeiaeaaGreatDoor
open Go.RowKit Go.IntWalk
theorem deadSame_any {ok:Nat->Prop} {w:World} {aV aI aO aR:Option Addr} {cV cI cO cR:Nat} {S:Sk.Sys} {mH:Nat->Prop} (hG:GlobK w) (hP:GlobP w) (hS:HSys ok w aV aI aO aR cV cI cO cR S) (hW:Sk.SysW S) {aN:Option Addr} {cN:Nat} {R:List (List Int)} (hR:HRow kLL mH w (.slice aN R.length cN) R) (Bc:∀ r ∈ R,Sk.I64s r) :
  Calls Tryz.prog 3 #[.agg #[.slice aV S.V.length cV,.slice aI S.I.length cI,.slice aO S.O.length cO,.slice aR S.R.length cR],.slice aN R.length cN] w fun e w'=>e=.returned (.bool true)/\Below w.heap.size w w':=by
 have b1:Below w.heap.size w (w.alloc (.cells #[.slice aV S.V.length cV,.slice aI S.I.length cI,.slice aO S.O.length cO,.slice aR S.R.length cR] 26 (0,0))):=(Below.refl _ _).alloc zBR _;have kS:=zBO w (.cells #[.slice aV S.V.length cV,.slice aI S.I.length cI,.slice aO S.O.length cO,.slice aR S.R.length cR] 26 (0,0));obtain ⟨JJ,FX,AV,Bb,tQ,-⟩:=hR.llAt;injection AV with x1 x2 x3;rw [<-x3] at Bb tQ;obtain ⟨om,jI,iQ,bY,ik,-⟩:=hS.R.at;injection iQ with y1 y2 y3;rw [<-y3] at bY ik;unfold maxLen at tQ ik;clear x1 x2 x3 y1 y2 y3;have HS:=zBK (fun (W:World) (b:Below w.heap.size w W)=>(hS.wide (ok':=fun i=>i<w.heap.size) fun i _ h=>h).under b);have HG:=zBK (fun (W:World) (b:Below w.heap.size w W)=>And.intro (hG.under b) (hP.under b));have HR:=zBK (fun (W:World) (b:Below w.heap.size w W)=>(show HRow kLL (fun i=>i<w.heap.size) W (.slice aN R.length cN) R from (hR.wide fun i _ h=>h).keep b.size (fun i _ hl=>b.block i hl)));have HW:=zBK hW;have dW:=zBK Bc;clear hG hP hS hW hR Bc;go_enter Tryz.func3,Tryz.ntmps3;go_upto_region 1 with fail;generalize w.alloc (.cells #[.slice aV S.V.length cV,.slice aI S.I.length cI,.slice aO S.O.length cO,.slice aR S.R.length cR] 26 (0,0))=w1 at b1 kS ⊢;go_wp2_with fail;refine (zAb (HG.out w1 b1).1 (HG.out w1 b1).2).mono ?_;rintro e w2 ⟨rfl,c2⟩;have C2:=b1.trans (c2.mono b1.size);have gu:=(c2.block _ (zBM kS)).trans kS;clear kS b1 c2;have s0:=coQ gu 0;have s1:=coQ gu 1;have s2:=coQ gu 2;have s3:=coQ gu 3;simp at s0 s1 s2 s3;go_wp2_with fail;refine (great8_any (HS.out w2 C2)).mono ?_;intro e w3 hp;obtain ⟨b,rfl,hb,c3⟩:=hp.out;have C3:=C2.trans (c3.mono C2.size);have fG:=(c3.block _ (zBM gu)).trans gu;clear s0 s1 s2 s3 gu hp C2 c3;have s0:=coQ fG 0;have s1:=coQ fG 1;have s2:=coQ fG 2;have s3:=coQ fG 3;simp at s0 s1 s2 s3
 cases b
 case true=>
  go_wp2;go_ret;exact ⟨rfl,C3⟩
 case false=>
  have zR:=zBK (hb rfl).2;obtain ⟨lV,lI,lO,lR⟩:=(hb rfl).1;clear hb;have mh:=zBK (show ∀ r ∈ S.R,r.A.length<=1000000/\r.E.length<=1000000 from fun r hr=>by have:=zR.out r hr;omega);clear zR;go_wp2_with fail;refine (zBF (HR.out w3 C3)).mono ?_;intro e w4 hp;obtain ⟨b,rfl,hb,c4⟩:=hp.out;have C4:=C3.trans (c4.mono C3.size);have ir:=(c4.block _ (zBM fG)).trans fG;clear s0 s1 s2 s3 fG hp C3 c4;have s0:=coQ ir 0;have s1:=coQ ir 1;have s2:=coQ ir 2;have s3:=coQ ir 3;simp at s0 s1 s2 s3
  cases b
  case true=>
   go_wp2;go_ret;exact ⟨rfl,C4⟩
  case false=>
   have Ga:=hb rfl;clear hb;have jR:=zBK (zAC (HG.out w4 C4).1 (HG.out w4 C4).2 (HS.out w4 C4) mh.out);go_wp2_with fail;refine jR.out.mono ?_;intro e w5 hp;clear jR s0 s1 s2 s3;rcases hp with ⟨hc,rfl,c5⟩ | ⟨kh,nd,T,pV,pI,pO,pR,qV,qI,qO,qR,oM,hT,rfl,Be,c5⟩
   case inl=>
    obtain ⟨fc,lD⟩:=nmQ ((Sk.check S).1);obtain ⟨fd,Lf⟩:=nmQ ((Sk.check S).2);rw [<-lD,<-Lf];rw [<-lD] at hc;have Ri:(fc != 0)=true:=(by simp [hc]);clear lD Lf hc;have C5:=C4.trans (c5.mono C4.size);have b6:Below w5.heap.size w5 ((w5.alloc (.cells #[.slice none 0 0,.slice none 0 0,.slice none 0 0,.slice none 0 0] 26 (0,0))).alloc (.cells #[.int .i64 fc,.int .i64 fd] 32 (0,0))):=((Below.refl _ _).alloc zBR _).alloc (by simp) _;have kA:((w5.alloc (.cells #[.slice none 0 0,.slice none 0 0,.slice none 0 0,.slice none 0 0] 26 (0,0))).alloc (.cells #[.int .i64 fc,.int .i64 fd] 32 (0,0))).heap[w5.heap.size]?=some (.cells #[.slice none 0 0,.slice none 0 0,.slice none 0 0,.slice none 0 0] 26 (0,0)):=(Below.heap_alloc _ _ _ (by simp)).trans (zBO w5 _);have kF:((w5.alloc (.cells #[.slice none 0 0,.slice none 0 0,.slice none 0 0,.slice none 0 0] 26 (0,0))).alloc (.cells #[.int .i64 fc,.int .i64 fd] 32 (0,0))).heap[w5.heap.size+1]?=some (.cells #[.int .i64 fc,.int .i64 fd] 32 (0,0)):=by
     have:=zBO (w5.alloc (.cells #[.slice none 0 0,.slice none 0 0,.slice none 0 0,.slice none 0 0] 26 (0,0))) (.cells #[.int .i64 fc,.int .i64 fd] 32 (0,0))
     simpa using this
    have C6:=C5.trans (b6.mono C5.size);clear ir c5 C4 kA;go_upto_region 6 with fail;generalize ((w5.alloc (.cells #[.slice none 0 0,.slice none 0 0,.slice none 0 0,.slice none 0 0] 26 (0,0))).alloc (.cells #[.int .i64 fc,.int .i64 fd] 32 (0,0)))=w6 at b6 kF C6 ⊢;have f0:=coQ kF 0;simp at f0;clear kF b6;go_wp2;go_ret;exact ⟨rfl,C6⟩
   case inr=>
    have cut:=Sk.trim_cut kh oM;rw [<-hT] at cut;have jE:=zBK cut;have As:=zBK (cut.okay kh);have hle:T.R.length<=S.R.length:=(by rw [hT];exact Sk.pick_le S.R nd);have vJ:=zBK oM;have HT:=zBK hT;have eV:=zBK kh;have vh:=zBK (show ∀ r ∈ T.R,r.A.length<=1000000/\r.E.length<=1000000 from fun r hr=>mh.out r (cut.mem hr));have C5:=C4.trans (c5.mono C4.size);have b6:Below w5.heap.size w5 ((w5.alloc (.cells #[.slice pV T.V.length qV,.slice pI T.I.length qI,.slice pO T.O.length qO,.slice pR T.R.length qR] 26 (0,0))).alloc (.cells #[.int .i64 0,.int .i64 0] 32 (0,0))):=((Below.refl _ _).alloc zBR _).alloc (by simp) _;have kA:((w5.alloc (.cells #[.slice pV T.V.length qV,.slice pI T.I.length qI,.slice pO T.O.length qO,.slice pR T.R.length qR] 26 (0,0))).alloc (.cells #[.int .i64 0,.int .i64 0] 32 (0,0))).heap[w5.heap.size]?=some (.cells #[.slice pV T.V.length qV,.slice pI T.I.length qI,.slice pO T.O.length qO,.slice pR T.R.length qR] 26 (0,0)):=(Below.heap_alloc _ _ _ (by simp)).trans (zBO w5 _);have kF:((w5.alloc (.cells #[.slice pV T.V.length qV,.slice pI T.I.length qI,.slice pO T.O.length qO,.slice pR T.R.length qR] 26 (0,0))).alloc (.cells #[.int .i64 0,.int .i64 0] 32 (0,0))).heap[w5.heap.size+1]?=some (.cells #[.int .i64 0,.int .i64 0] 32 (0,0)):=by
     have:=zBO (w5.alloc (.cells #[.slice pV T.V.length qV,.slice pI T.I.length qI,.slice pO T.O.length qO,.slice pR T.R.length qR] 26 (0,0))) (.cells #[.int .i64 0,.int .i64 0] 32 (0,0))
     simpa using this
    have C6:=C5.trans (b6.mono C5.size);have oX:=(c5.block _ (zBM ir)).trans ir;have Ed:=(b6.block _ (zBM oX)).trans oX;have Dz:=zBK (Be.under b6);clear ir c5 C4 oX cut oM hT kh Be C5;go_upto_region 6 with fail;generalize ((w5.alloc (.cells #[.slice pV T.V.length qV,.slice pI T.I.length qI,.slice pO T.O.length qO,.slice pR T.R.length qR] 26 (0,0))).alloc (.cells #[.int .i64 0,.int .i64 0] 32 (0,0)))=w6 at b6 kA kF Ed C6 Dz ⊢;have f0:=coQ kF 0;simp at f0;have t0:=coQ kA 0;have t1:=coQ kA 1;have t2:=coQ kA 2;have t3:=coQ kA 3;simp at t0 t1 t2 t3;have jR:=zBK (zAC (HG.out w6 C6).1 (HG.out w6 C6).2 Dz.out vh.out);clear b6;go_wp2_with fail;refine jR.out.mono ?_;intro e w7 hp;clear jR t0 t1 t2 t3 f0 kF;rcases hp with ⟨hc,-⟩ | ⟨-,RD,U,rV,rI,rO,rR,tV,tI,tO,tR,xE,hU,rfl,KJ,c7⟩
    case inl=>exact absurd (by rw [(Sk.check_zero T).2 As.out]) hc
    have Oh:U=T:=by
     have h1:=vJ.out;have h2:=HT.out;rw [hU];rw [h2] at xE ⊢;exact Sk.trim_again h1 xE
    subst Oh;clear hU xE;have C7:=C6.trans (c7.mono C6.size);have xT:=(c7.block _ (zBM kA)).trans kA;have Ib:=(c7.block _ (zBM Ed)).trans Ed;have FE:=zBK (Dz.out.under c7);have b8:Below w7.heap.size w7 ((w7.alloc (.cells #[.slice rV U.V.length tV,.slice rI U.I.length tI,.slice rO U.O.length tO,.slice rR U.R.length tR] 26 (0,0))).alloc (.cells #[.int .i64 0,.int .i64 0] 32 (0,0))):=((Below.refl _ _).alloc zBR _).alloc (by simp) _;have kU:((w7.alloc (.cells #[.slice rV U.V.length tV,.slice rI U.I.length tI,.slice rO U.O.length tO,.slice rR U.R.length tR] 26 (0,0))).alloc (.cells #[.int .i64 0,.int .i64 0] 32 (0,0))).heap[w7.heap.size]?=some (.cells #[.slice rV U.V.length tV,.slice rI U.I.length tI,.slice rO U.O.length tO,.slice rR U.R.length tR] 26 (0,0)):=(Below.heap_alloc _ _ _ (by simp)).trans (zBO w7 _);have kG:((w7.alloc (.cells #[.slice rV U.V.length tV,.slice rI U.I.length tI,.slice rO U.O.length tO,.slice rR U.R.length tR] 26 (0,0))).alloc (.cells #[.int .i64 0,.int .i64 0] 32 (0,0))).heap[w7.heap.size+1]?=some (.cells #[.int .i64 0,.int .i64 0] 32 (0,0)):=by
     have:=zBO (w7.alloc (.cells #[.slice rV U.V.length tV,.slice rI U.I.length tI,.slice rO U.O.length tO,.slice rR U.R.length tR] 26 (0,0))) (.cells #[.int .i64 0,.int .i64 0] 32 (0,0))
     simpa using this
    have C8:=C7.trans (b8.mono C7.size);have lf:=(b8.block _ (zBM xT)).trans xT;have ji:=(b8.block _ (zBM Ib)).trans Ib;have FF:=zBK (FE.out.under b8);have FC:=zBK (zCo (FE.out.under b8) (KJ.under b8));clear kA Ed xT Ib C6 C7 c7 Dz FE KJ;go_upto_region 9 with fail;generalize ((w7.alloc (.cells #[.slice rV U.V.length tV,.slice rI U.I.length tI,.slice rO U.O.length tO,.slice rR U.R.length tR] 26 (0,0))).alloc (.cells #[.int .i64 0,.int .i64 0] 32 (0,0)))=w8 at b8 kU kG lf ji C8 FF FC ⊢;have g0:=coQ kG 0;simp at g0;have t0:=coQ lf 0;have t1:=coQ lf 1;have t2:=coQ lf 2;have t3:=coQ lf 3;simp at t0 t1 t2 t3;have u0:=coQ kU 0;have u1:=coQ kU 1;have u2:=coQ kU 2;have u3:=coQ kU 3;simp at u0 u1 u2 u3;clear b8;go_wp2_with fail;refine FC.out.mono ?_;rintro e w9 ⟨rfl,c9⟩;have C9:=C8.trans (c9.mono C8.size);have xV:=(c9.block _ (zBM lf)).trans lf;have mC:=(c9.block _ (zBM ji)).trans ji;have Jv:=zBK (FF.out.under c9);clear FC t0 t1 t2 t3 u0 u1 u2 u3 g0 kG kU lf ji C8 c9 FF;have t3:=coQ xV 3;have OW:¬(S.R.length:Int)<(U.R.length:Int):=(by omega);have s0:=coQ mC 0;have s1:=coQ mC 1;have s2:=coQ mC 2;have s3:=coQ mC 3;simp at s0 s1 s2 s3;simp at t3;have Jt:=zBK (zAB (HS.out w9 C9) mh.out);go_wp2_with fail;refine Jt.out.mono ?_;rintro e mf ⟨x0,x1,x2,x3,n0,n1,n2,n3,k0,k1,k2,k3,fc,fa,rfl,lD,AR⟩;have Es:=C9.trans (AR.mono C9.size);have xS:=(AR.block _ (zBM xV)).trans xV;have xX:=(AR.block _ (zBM mC)).trans mC;have AK:=zBK (Jv.out.under AR);have rf:Below mf.heap.size mf ((mf.alloc (.cells #[.slice x0 n0 k0,.slice x1 n1 k1,.slice x2 n2 k2,.slice x3 n3 k3] 26 (0,0))).alloc (.cells #[.int .i64 fc,.int .i64 fa] 32 (0,0))):=((Below.refl _ _).alloc zBR _).alloc (by simp) _;have kX:((mf.alloc (.cells #[.slice x0 n0 k0,.slice x1 n1 k1,.slice x2 n2 k2,.slice x3 n3 k3] 26 (0,0))).alloc (.cells #[.int .i64 fc,.int .i64 fa] 32 (0,0))).heap[mf.heap.size]?=some (.cells #[.slice x0 n0 k0,.slice x1 n1 k1,.slice x2 n2 k2,.slice x3 n3 k3] 26 (0,0)):=(Below.heap_alloc _ _ _ (by simp)).trans (zBO mf _);have kH:((mf.alloc (.cells #[.slice x0 n0 k0,.slice x1 n1 k1,.slice x2 n2 k2,.slice x3 n3 k3] 26 (0,0))).alloc (.cells #[.int .i64 fc,.int .i64 fa] 32 (0,0))).heap[mf.heap.size+1]?=some (.cells #[.int .i64 fc,.int .i64 fa] 32 (0,0)):=by
     have:=zBO (mf.alloc (.cells #[.slice x0 n0 k0,.slice x1 n1 k1,.slice x2 n2 k2,.slice x3 n3 k3] 26 (0,0))) (.cells #[.int .i64 fc,.int .i64 fa] 32 (0,0))
     simpa using this
    have yh:=Es.trans (rf.mono Es.size);have qx:=(rf.block _ (zBM xS)).trans xS;have qC:=(rf.block _ (zBM xX)).trans xX;have AL:=zBK (AK.out.under rf);have Dg:=zBK lD;clear Jt t3 s0 s1 s2 s3 xV mC xS xX C9 Es AR Jv AK kX lD;go_upto_region 12 with fail;generalize ((mf.alloc (.cells #[.slice x0 n0 k0,.slice x1 n1 k1,.slice x2 n2 k2,.slice x3 n3 k3] 26 (0,0))).alloc (.cells #[.int .i64 fc,.int .i64 fa] 32 (0,0)))=iW at rf kH qx qC yh AL ⊢;have h0:=coQ kH 0;simp at h0;have t0:=coQ qx 0;have t1:=coQ qx 1;have t2:=coQ qx 2;have t3:=coQ qx 3;simp at t0 t1 t2 t3;have s0:=coQ qC 0;have s1:=coQ qC 1;have s2:=coQ qC 2;have s3:=coQ qC 3;simp at s0 s1 s2 s3;clear rf kH;by_cases hz:fc=0
    case neg=>
     have Ec:(fc != 0)=true:=(by simp [hz]);go_wp2;go_ret;exact ⟨rfl,yh⟩
    case pos=>
     subst hz;obtain ⟨GP,oP⟩:=Dg.out.1 rfl;have D8:=Sk.trim_rows eV.out vJ.out oP;rw [<-HT.out] at D8;have yw:=zBK (zAe (HS.out iW yh) AL.out GP ⟨As.out,fun r hr=>GP.2 r (jE.out.mem hr)⟩ oP D8.1 HW.out ⟨fun r hr=>HW.out.n r (jE.out.mem hr),fun r hr=>HW.out.E r (jE.out.mem hr)⟩ mh.out vh.out (fun f g oy inp=>D8.2 oy inp) (HR.out iW yh) Ga dW.out);clear D8 GP oP;go_wp2_with fail;refine yw.out.mono ?_;rintro e RO ⟨rfl,Nu⟩;have Mt:=yh.trans (Nu.mono yh.size);clear yw t0 t1 t2 t3 s0 s1 s2 s3 h0;go_wp2;go_ret;exact ⟨rfl,Mt⟩
end Go.Proofs.YtfhghlpfeeiaeaaGreatDoor
namespace Go.Proofs.YtfhghlpfeeiaeaaGreatDoor
open Go.RowKit Go.IntWalk Go.Deep
section
variable {H:Type} {enc:TypeId × Value->H} {w:World}
theorem long_of {v:Value} {t:TypeId} (ht:Tryz.prog.underlying t=some (.int .i64)) (h:Rd0 enc w t [v]):∃ n,v=.int .i64 n/\I64 n:=by
 obtain ⟨fuel,x,h,_⟩:=h;obtain ⟨n,hs,_,hw⟩:=DataW.trod_int ht h;injection hs with e _;refine ⟨n,e,?_⟩;have l7:(decide (IntKind.i64.min<=n)&&decide (n<=IntKind.i64.max))=true:=hw;rw [Bool.and_eq_true,decide_eq_true_iff,decide_eq_true_iff] at l7;have e1:IntKind.i64.min = -9223372036854775808:=(by rfl);have e2:IntKind.i64.max=9223372036854775807:=(by rfl);unfold I64;omega
theorem open_pushW {cs:List Value} (h:Rd0 enc w 66 cs):∃ p:Pu,cs=p.cs/\I64 p.n:=by
 have hl:=len_of Tryz.underlying66 h;rw [c98] at hl;obtain ⟨a,b,c,d,rfl⟩:=four_of hl;obtain ⟨n0,rfl⟩:=zCW Tryz.underlying3 (zBe Tryz.underlying66 h 0 3 0 rfl c3 _ rfl);obtain ⟨n1,rfl⟩:=zCW Tryz.underlying3 (zBe Tryz.underlying66 h 1 3 1 rfl c3 _ rfl);obtain ⟨n2,rfl⟩:=zCW Tryz.underlying3 (zBe Tryz.underlying66 h 2 3 2 rfl c3 _ rfl);obtain ⟨n3,rfl,hn⟩:=long_of Tryz.underlying2 (zBe Tryz.underlying66 h 3 2 3 rfl c2 _ rfl);exact ⟨⟨n0,n1,n2,n3⟩,rfl,hn⟩
theorem open_longsW {v:Value} (h:Rd0 enc w 44 [v]):∃ a n c L,v=.slice a n c/\n=L.length/\HInts (fun _=>True) w (.slice a n c) L/\Sk.I64s L:=by
 obtain ⟨fuel,x,h,hw⟩:=h;obtain ⟨a,n,c,C,m,D,Pl,e,hs,_,hi⟩:=zCN Tryz.underlying44 c2 (by decide) y2 h hw;injection e with e _;obtain ⟨f,hf⟩:=zCB (n:=n) (α:=Int) (p:=fun i x=>C i=[.int .i64 x]/\I64 x) (fun i h=>by
  obtain ⟨u,hu⟩:∃ u,C i=[u]:=by
   obtain ⟨_,_,_,_,_,h5⟩:=hs;obtain ⟨_,_,_,_,_,h6⟩:=h5 (by omega);exact List.length_eq_one_iff.1 (h6 i h).1
  have h0:Rd0 enc w 2 [u]:=(by rw [<-hu];exact ⟨m,_,(hi i h).1,(hi i h).2.1⟩);obtain ⟨q,e,hq⟩:=long_of Tryz.underlying2 h0;exact ⟨q,by rw [hu,e],hq⟩)
 obtain ⟨l,hl,hg⟩:=zCa n f;refine ⟨a,n,c,l,e,hl.symm,⟨C,by rw [hl];exact hs,fun i h=>?_⟩,fun p hp=>?_⟩
 ·rw [hg i h]
  exact (hf i (by omega)).1
 ·obtain ⟨i,gW,rfl⟩:=List.getElem_of_mem hp
  rw [hg i gW];exact (hf i (by omega)).2
theorem open_pushesW {v:Value} (h:Rd0 enc w 40 [v]):∃ a n c L,v=.slice a n c/\n=L.length/\HPu (fun _=>True) w (.slice a n c) L/\∀ p ∈ L,I64 p.n:=by
 obtain ⟨fuel,x,h,hw⟩:=h;obtain ⟨a,n,c,C,m,D,Pl,e,hs,_,hi⟩:=zCN Tryz.underlying40 c98 (by decide) y98 h hw;injection e with e _;obtain ⟨f,hf⟩:=zCB (n:=n) (α:=Pu) (p:=fun i x=>C i=x.cs/\I64 x.n) (fun i h=>by
  exact open_pushW (enc:=enc) (w:=w) ⟨m,_,(hi i h).1,(hi i h).2.1⟩)
 obtain ⟨l,hl,hg⟩:=zCa n f;refine ⟨a,n,c,l,e,hl.symm,⟨C,by rw [hl];exact hs,fun i h=>?_⟩,fun p hp=>?_⟩
 ·rw [hg i h]
  exact (hf i (by omega)).1
 ·obtain ⟨i,gW,rfl⟩:=List.getElem_of_mem hp
  rw [hg i gW];exact (hf i (by omega)).2
theorem open_rowsW {v:Value} (h:Rd0 enc w 27 [v]):∃ a n c L,v=.slice a n c/\n=L.length/\HRow kLL (fun _=>True) w (.slice a n c) L/\∀ r ∈ L,Sk.I64s r:=by
 obtain ⟨fuel,x,h,hw⟩:=h;obtain ⟨a,n,c,C,m,D,Pl,e,hs,_,hi⟩:=zCN Tryz.underlying27 c52 (by decide) y52 h hw;injection e with e _;obtain ⟨f,hf⟩:=zCB (n:=n) (α:=List Int) (p:=fun i x=>(∃ u,C i=[u]/\HInts (fun _=>True) w u x)/\Sk.I64s x) (fun i h=>by
  obtain ⟨u,hu⟩:∃ u,C i=[u]:=by
   obtain ⟨_,_,_,_,_,h5⟩:=hs;obtain ⟨_,_,_,_,_,h6⟩:=h5 (by omega);exact List.length_eq_one_iff.1 (h6 i h).1
  have h0:Rd0 enc w 44 [u]:=(by rw [<-hu];exact ⟨m,_,(hi i h).1,(hi i h).2.1⟩);obtain ⟨a,n,c,L,e,-,hL,hW⟩:=open_longsW h0;exact ⟨L,⟨u,hu,by rw [e];exact hL⟩,hW⟩)
 obtain ⟨l,hl,hg⟩:=zCa n f;refine ⟨a,n,c,l,e,hl.symm,⟨C,by rw [hl];exact hs,fun i h=>?_⟩,fun p hp=>?_⟩
 ·rw [hg i h]
  exact (hf i (by omega)).1
 ·obtain ⟨i,gW,rfl⟩:=List.getElem_of_mem hp
  rw [hg i gW];exact (hf i (by omega)).2
theorem open_ruleW {cs:List Value} (h:Rd0 enc w 42 cs):∃ (r:Sk.Ru),(∃ y,cs=rcs r y/\HRu (fun _=>True) w y r)/\I64 r.n/\∀ p ∈ r.E,I64 p.n:=by
 have hl:=len_of Tryz.underlying42 h;rw [c40] at hl;obtain ⟨v0,v1,v2,v3,v4,v5,rfl⟩:=six_of hl;obtain ⟨n0,rfl⟩:=zCW Tryz.underlying3 (zBe Tryz.underlying42 h 0 3 0 rfl c3 _ rfl);obtain ⟨n1,rfl⟩:=zCW Tryz.underlying3 (zBe Tryz.underlying42 h 1 3 1 rfl c3 _ rfl);obtain ⟨n2,rfl⟩:=zCW Tryz.underlying3 (zBe Tryz.underlying42 h 2 3 2 rfl c3 _ rfl);obtain ⟨n3,rfl,hn⟩:=long_of Tryz.underlying2 (zBe Tryz.underlying42 h 3 2 3 rfl c2 _ rfl);obtain ⟨a,na,ca,A,rfl,-,hA⟩:=zAF (zBe Tryz.underlying42 h 4 23 4 rfl c23 _ rfl);obtain ⟨b,nb,cb,E,rfl,-,hE,hW⟩:=open_pushesW (zBe Tryz.underlying42 h 5 40 5 rfl c38 _ rfl);exact ⟨⟨n0,n1,n2,n3,A,E⟩,⟨⟨a,na,ca,b,nb,cb⟩,rfl,⟨hA,hE⟩⟩,hn,hW⟩
theorem open_rulesW {v:Value} (h:Rd0 enc w 24 [v]):∃ a n c L,v=.slice a n c/\n=L.length/\HRus (fun _=>True) w (.slice a n c) L/\∀ r ∈ L,I64 r.n/\∀ p ∈ r.E,I64 p.n:=by
 obtain ⟨fuel,x,h,hw⟩:=h;obtain ⟨a,n,c,C,m,D,Pl,e,hs,_,hi⟩:=zCN Tryz.underlying24 c40 (by decide) y40 h hw;injection e with e _;obtain ⟨f,hf⟩:=zCB (n:=n) (α:=Sk.Ru) (p:=fun i x=>(∃ y,C i=rcs x y/\HRu (fun _=>True) w y x)/\I64 x.n/\∀ p ∈ x.E,I64 p.n) (fun i h=>by
  exact open_ruleW (enc:=enc) (w:=w) ⟨m,_,(hi i h).1,(hi i h).2.1⟩)
 obtain ⟨l,hl,hg⟩:=zCa n f;refine ⟨a,n,c,l,e,hl.symm,⟨C,by rw [hl];exact hs,fun i h=>?_⟩,fun p hp=>?_⟩
 ·rw [hg i h]
  exact (hf i (by omega)).1
 ·obtain ⟨i,gW,rfl⟩:=List.getElem_of_mem hp
  rw [hg i gW];exact (hf i (by omega)).2
theorem open_systemW {cs:List Value} (h:Rd0 enc w 26 cs):∃ aV aI aO aR cV cI cO cR,∃ S:Sk.Sys,cs=[.slice aV S.V.length cV,.slice aI S.I.length cI,.slice aO S.O.length cO,.slice aR S.R.length cR]/\HSys (fun _=>True) w aV aI aO aR cV cI cO cR S/\Sk.SysW S:=by
 have hl:=len_of Tryz.underlying26 h;rw [c26] at hl;obtain ⟨v0,v1,v2,v3,rfl⟩:=four_of hl;obtain ⟨aV,nV,cV,V,rfl,rfl,hV⟩:=open_vars (zBe Tryz.underlying26 h 0 22 0 rfl c22 _ rfl);obtain ⟨aI,nI,cI,I,rfl,rfl,hI⟩:=zAF (zBe Tryz.underlying26 h 1 23 1 rfl c23 _ rfl);obtain ⟨aO,nO,cO,O,rfl,rfl,hO⟩:=zAF (zBe Tryz.underlying26 h 2 23 2 rfl c23 _ rfl);obtain ⟨aR,nR,cR,R,rfl,rfl,hR,hW⟩:=open_rulesW (zBe Tryz.underlying26 h 3 24 3 rfl c24 _ rfl);exact ⟨aV,aI,aO,aR,cV,cI,cO,cR,⟨V,I,O,R⟩,rfl,⟨hV,hI,hO,hR⟩,⟨fun r hr=>(hW r hr).1,fun r hr=>(hW r hr).2⟩⟩
end
theorem zBE {w:World} {aV aI aO aR:Option Addr} {cV cI cO cR:Nat} {S:Sk.Sys} {v:Value} {R:List (List Int)} (hG:GlobK w) (hP:GlobP w) (hS:HSys (fun _=>True) w aV aI aO aR cV cI cO cR S/\Sk.SysW S) (hR:HRow kLL (fun _=>True) w v R/\∀ r ∈ R,Sk.I64s r):Calls Tryz.prog 3 #[.agg #[.slice aV S.V.length cV,.slice aI S.I.length cI,.slice aO S.O.length cO,.slice aR S.R.length cR],v] w fun e w'=>e=.returned (.bool true)/\Below w.heap.size w w':=by
 obtain ⟨ao,cap,rfl,-⟩:=hR.1.llAt;exact deadSame_any hG hP hS.1 hS.2 hR.1 hR.2
end Go.Proofs.YtfhghlpfeeiaeaaGreatDoor
