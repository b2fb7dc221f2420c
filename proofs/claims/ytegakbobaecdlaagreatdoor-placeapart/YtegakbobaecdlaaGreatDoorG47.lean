import Derived.Test.YtegakbobaecdlaaGreatDoorG46
set_option linter.unusedVariables false
set_option linter.unusedSimpArgs false
set_option maxHeartbeats 64000000
set_option maxRecDepth 100000
namespace Go.Proofs.YtegakbobaecdlaaGreatDoor
open Go.RowKit Go.IntWalk
theorem Tryz.infoSpan:(Tryz.prog.info? 57).map (fun i=>(i.zero,i.size,i.bytes))=some (some (.agg #[.int .i64 0,.int .i64 0]),2,16):=by kernel_rfl
def kSp:Kind Sk.Sp where
 ty:=57
 k:=2
 bytes:=16
 zero:=.agg #[.int .i64 0,.int .i64 0]
 E:=fun _ _ cs p=>cs=[.int .i64 p.1,.int .i64 p.2]
 pos:=by decide
 zs:=rfl
 info:=Tryz.infoSpan
 len:=by rintro _ _ _ _ rfl;rfl
 one:=by rintro _ _ _ _ rfl u hu;simp at hu;rcases hu with rfl | rfl<;>rfl
 keep:=by rintro _ _ _ _ _ rfl _ _;rfl
 wide:=by rintro _ _ _ _ _ rfl _;rfl
theorem HRow.spAt {ok:Nat->Prop} {w:World} {v:Value} {l:List Sk.Sp} (h:HRow kSp ok w v l) :
  ∃ ao cap,v=.slice ao l.length cap/\l.length<=cap/\cap<=maxLen/\∀ i (h:i<l.length),∃ b o,ao=some ⟨b,o,none⟩/\b<w.heap.size/\w.cell? ⟨b,o+i*2,none⟩=some (.int .i64 (l[i]).1)/\w.cell? ⟨b,o+i*2+1,none⟩=some (.int .i64 (l[i]).2):=by
 obtain ⟨C,⟨ao,cap,hv,h1,h2,h3⟩,hC⟩:=h;refine ⟨ao,cap,hv,h1,h2,fun i hi=>?_⟩;obtain ⟨b,o,ha,hob,hb,hc⟩:=h3 (by omega);have hcc:=(hc i hi).2;rw [hC i hi] at hcc;exact ⟨b,o,ha,hb,(by have:=hcc 0 (by decide);simpa only [kSp,Nat.add_zero,gZ] using this),(by have:=hcc 1 (by decide);simpa only [kSp,gS,gZ] using this)⟩
namespace Sk
theorem dS_step (v:Int) {R:List Ru} {i:Nat} (h:i<R.length) (x:Sp):dS v i (R.drop i) x=dS v (i+1) (R.drop (i+1)) (if (R[i]).out=v then ((i:Int),(i:Int)) else x):=by
 rw [List.drop_eq_getElem_cons h];rfl
theorem dN_step (v:Int) {R:List Ru} {i:Nat} (h:i<R.length) (x:Sp):dN v i (R.drop i) x=dN v (i+1) (R.drop (i+1)) (if v ∈ needs R[i]/\x.2<(i:Int) then (x.1,(i:Int)) else x):=by
 rw [List.drop_eq_getElem_cons h];rfl
theorem dP_step (n v:Int) {R:List Ru} {i:Nat} (h:i<R.length) (x:Sp):dP n v (R.drop i) x=dP n v (R.drop (i+1)) (if (R[i]).op=13/\(R[i]).A.getD 1 0=v then (x.1,n) else x):=by
 rw [List.drop_eq_getElem_cons h];rfl
end Sk
theorem OwnL.lower {α:Type} {T:Kind α} {B B':Nat} {w:World} {v:Value} {l:List α} (h:OwnL T B w v l) (hB:B'<=B):OwnL T B' w v l:=by
 obtain ⟨D,⟨h1,h2⟩,h3⟩:=h;refine ⟨D,⟨h1,?_⟩,fun j hj=>T.wide (h3 j hj) fun i hi _=>⟨Nat.le_trans hB hi.1,hi.2⟩⟩;rcases h2 with h | ⟨g,cap,cur,e1,e2,e3⟩
 ·exact .inl h
 ·exact .inr ⟨g,cap,cur,e1,Nat.le_trans hB e2,e3⟩
def SpX (w:World) (xb:Nat) (p:Sk.Sp):Prop:=w.heap[xb]?=some (.cells #[.int .i64 p.1,.int .i64 p.2] 57 (0,0))
structure SpL (w1:World) (xb:Nat) (W:World) (v3:Value) (L:List Sk.Sp) (p:Sk.Sp):Prop where
 own:OwnL kSp w1.heap.size W v3 L
 x:SpX W xb p
 bel:Below w1.heap.size w1 W
 ne:v3.ownBlock≠some xb
 lo:w1.heap.size<=xb
theorem SpL.under {w1 W W':World} {xb:Nat} {v3:Value} {L:List Sk.Sp} {p:Sk.Sp} (h:SpL w1 xb W v3 L p) (b:Below W.heap.size W W'):SpL w1 xb W' v3 L p:=⟨h.own.below b,(b.block _ (zH h.x)).trans h.x,h.bel.trans (b.mono h.bel.size),h.ne,h.lo⟩
theorem SpL.set {w1 W:World} {xb:Nat} {v3:Value} {L:List Sk.Sp} {p:Sk.Sp} (h:SpL w1 xb W v3 L p) (a b:Int):SpL w1 xb ((W.setCell ⟨xb,0,none⟩ (.int .i64 a)).setCell ⟨xb,1,none⟩ (.int .i64 b)) v3 L (a,b) :=
 ⟨zR (zR h.own h.ne (fun _ _ _ _ _ q=>q) _) h.ne (fun _ _ _ _ _ q=>q) _,by have h5:=zO (zO h.x 0 (.int .i64 a)) 1 (.int .i64 b);simpa [SpX] using h5,(h.bel.setCell (p:=⟨xb,0,none⟩) h.lo _).setCell (p:=⟨xb,1,none⟩) h.lo _,h.ne,h.lo⟩
theorem SpL.setTo {w1 W:World} {xb:Nat} {v3:Value} {L:List Sk.Sp} {p:Sk.Sp} (h:SpL w1 xb W v3 L p) (b:Int):SpL w1 xb (W.setCell ⟨xb,1,none⟩ (.int .i64 b)) v3 L (p.1,b) :=
 ⟨zR h.own h.ne (fun _ _ _ _ _ q=>q) _,by have h5:=zO h.x 1 (.int .i64 b);simpa [SpX] using h5,h.bel.setCell (p:=⟨xb,1,none⟩) h.lo _,h.ne,h.lo⟩
theorem spansOf_any {ok:Nat->Prop} {w:World} {aV aI aO aR:Option Addr} {cV cI cO cR:Nat} {S:Sk.Sys} (hS:HSys ok w aV aI aO aR cV cI cO cR S) (okS:Sk.Okay S) (hfit:∀ r ∈ S.R,r.A.length<=1000000/\r.E.length<=1000000) :
  Calls Tryz.prog 20 #[.agg #[.slice aV S.V.length cV,.slice aI S.I.length cI,.slice aO S.O.length cO,.slice aR S.R.length cR]] w fun e w'=>∃ v,e=.returned v/\OwnL kSp w.heap.size w' v (Sk.spans S)/\Below w.heap.size w w':=by
 obtain ⟨aoV,capV,evV,hV1,hV2,-⟩:=hS.V.at;obtain ⟨aoR,capR,evR,hR1,hR2,-⟩:=hS.R.at;injection evV with g1 g2 g3;injection evR with g4 g5 g6;rw [<-g3] at hV1 hV2;rw [<-g6] at hR1 hR2;unfold maxLen at hV2 hR2;have b0:Below w.heap.size w (w.alloc (.cells #[.slice aV S.V.length cV,.slice aI S.I.length cI,.slice aO S.O.length cO,.slice aR S.R.length cR] 26 (0,0))):=(Below.refl _ _).alloc zL _;have kS:=zJ w (.cells #[.slice aV S.V.length cV,.slice aI S.I.length cI,.slice aO S.O.length cO,.slice aR S.R.length cR] 26 (0,0));have HS:=zG ((hS.wide (ok':=fun i=>i<w.heap.size) fun i _ h=>h).under b0);have HOK:=zG okS;have HFIT:=zG hfit;have nV:=okS.nV;have nR:=okS.nR;have hsl:(Sk.spans S).length=S.V.length:=(Sk.spans_spanned okS).len;have HSL:=zG hsl;clear hS okS hfit g1 g2 g3 g4 g5 g6 hsl;go_enter Tryz.func20,Tryz.ntmps20;go_upto_region 1 with fail;generalize w.alloc (.cells #[.slice aV S.V.length cV,.slice aI S.I.length cI,.slice aO S.O.length cO,.slice aR S.R.length cR] 26 (0,0))=w1 at b0 kS HS ⊢;have z1:w.heap.size<w1.heap.size:=zH kS;go_wp2_with fail;go_loopg [3,4] S.V.length (fun k v3 v4 wr=>∃ (i:Nat) (L:List Sk.Sp),i<=S.V.length/\k=S.V.length-i/\v4=.int .i64 (i:Nat)/\Hid (L=(Sk.spans S).take i)/\Hid (OwnL kSp w1.heap.size wr v3 L)/\Below w1.heap.size w1 wr)
 case atStart=>exact ⟨0,[],Nat.zero_le _,rfl,rfl,zG (by simp),zG OwnL.nil,Below.refl _ _⟩
 case round=>
  obtain ⟨i,L,hi,rfl,rfl,HL,HO,hbr⟩:=hrel;obtain ⟨wo,hwo⟩:=nmQ (wr);subst hwo;have kSo:=(hbr.block _ z1).trans kS;have s0:=coQ kSo 0;simp at s0;obtain ⟨aX,cX,rfl,hcx1,hcx2⟩:=HO.out.form;by_cases hlt:i<S.V.length
  case neg=>
   have hin:i=S.V.length:=(by omega);subst hin;have HE:=zG (show L=Sk.spans S by rw [HL.out,<-HSL.out,List.take_length]);go_wp2;go_ret;have e:=HE.out;subst e;exact ⟨_,rfl,HO.out.lower (Nat.le_of_lt z1),b0.trans (hbr.mono b0.size)⟩
  case pos=>
   have hown:∀ k,(Value.slice aX L.length cX).ownBlock=some k->k<wo.heap.size:=fun k e=>(HO.out.lt k e).2;have bX:Below wo.heap.size wo (wo.alloc (.cells #[.int .i64 0,.int .i64 (-1)] 57 (0,0))):=(Below.refl _ _).alloc zL _;have HX0:=zG (show SpL w1 wo.heap.size (wo.alloc (.cells #[.int .i64 0,.int .i64 (-1)] 57 (0,0))) (.slice aX L.length cX) L (0,-1) from ⟨HO.out.below bX,zJ _ _,hbr.trans (bX.mono hbr.size),fun e=>by have:=hown _ e;omega,hbr.size⟩);obtain ⟨Z,hZ⟩:=nmQ (Sk.dSpan S (i:Int));have HZ:=zG (show Z=Sk.dSpan S (i:Int) from hZ);have HZS:=zG (show L++[Z]=(Sk.spans S).take (i+1) by
    have hil:i<(Sk.spans S).length:=(by rw [HSL.out];exact hlt);rw [HL.out,List.take_succ_eq_append_getElem hil,hZ,Sk.dSpan_eq HOK.out (Int.natCast_nonneg i)];unfold Sk.spAt;rw [Int.toNat_natCast,List.getD_eq_getElem?_getD,List.getElem?_eq_getElem hil];rfl)
   have hLlen:L.length=i:=(by rw [HL.out,List.length_take,HSL.out];omega);have HLL:=zG hLlen;clear hZ hown HO HL hLlen bX kSo;go_upto_region 6 with fail;clear s0;generalize wo.alloc (.cells #[.int .i64 0,.int .i64 (-1)] 57 (0,0))=w2 at HX0 ⊢;have b2:=HX0.out.bel;have kS2:=(b2.block _ z1).trans kS;have s1:=coQ kS2 1;simp at s1;have hin:=qL (i:Int) (HS.out.under b2).I;obtain ⟨q,hq⟩:=nmQ (S.I.any (fun z=>z==(i:Int)));rw [<-hq] at hin;have HQ:=zG hq;clear hq kS2;go_wp2_with fail;refine hin.mono ?_;rintro e w3 ⟨rfl,b3⟩;have HX3:=zG (HX0.out.under b3);clear hin s1 HX0 b2 b3;go_upto_if 20 with fail;go_cut [] (fun wd=>Hid (SpL w1 wo.heap.size wd (.slice aX L.length cX) L (Sk.d0 S (i:Int))))
   case first=>
    cases q
    case false=>
     have HF:=zG (show SpL w1 wo.heap.size w3 (.slice aX L.length cX) L (Sk.d0 S (i:Int)) by
      have e:Sk.d0 S (i:Int)=(0,-1):=(by unfold Sk.d0;rw [if_neg (fun hm=>by have:=vA.2 hm;rw [<-HQ.out] at this;cases this)]);rw [e];exact HX3.out)
     clear HX3;go_wp2_with fail;go_meet
     case rel=>exact HF
    case true=>
     have x0:=coQ HX3.out.x 0;have x1:=coQ HX3.out.x 1;have f0:=foQ HX3.out.x 0;have f1:=foQ HX3.out.x 1;simp at x0 x1;have HF:=zG (show SpL w1 wo.heap.size ((w3.setCell ⟨wo.heap.size,0,none⟩ (.int .i64 (-1))).setCell ⟨wo.heap.size,1,none⟩ (.int .i64 (-1))) (.slice aX L.length cX) L (Sk.d0 S (i:Int)) by
      have e:Sk.d0 S (i:Int)=(-1,-1):=(by unfold Sk.d0;rw [if_pos (vA.1 (HQ.out ▸ rfl))]);rw [e];exact HX3.out.set (-1) (-1))
     clear HX3;go_wp2_with fail;go_meet
     case rel=>exact HF
   case rest=>
    have HX4:=hcut;clear HX3 hcut HQ;obtain ⟨p0,hp0⟩:=nmQ (Sk.d0 S (i:Int));rw [<-hp0] at HX4;have HZ4:=zG (show Sk.dS (i:Int) 0 (S.R.drop 0) p0=Sk.dS (i:Int) 0 S.R (Sk.d0 S (i:Int)) by rw [List.drop_zero,hp0]);clear hp0;go_wp2_with fail;go_loopg [6] S.R.length (fun k v6 wr=>∃ (j:Nat) (p:Sk.Sp),j<=S.R.length/\k=S.R.length-j/\v6=.int .i64 (j:Nat)/\Hid (SpL w1 wo.heap.size wr (.slice aX L.length cX) L p)/\Hid (Sk.dS (i:Int) j (S.R.drop j) p=Sk.dS (i:Int) 0 S.R (Sk.d0 S (i:Int))))
    case atStart=>exact ⟨0,p0,Nat.zero_le _,rfl,rfl,HX4,HZ4⟩
    case round=>
     clear HX4 HZ4;obtain ⟨j,p,hj,rfl,rfl,HX,HD⟩:=hrel;have kSr:=(HX.out.bel.block _ z1).trans kS;have s3:=coQ kSr 3;simp at s3;clear kSr;by_cases hlt2:j<S.R.length
     case pos=>
      have HS2:=HS.out.under HX.out.bel;obtain ⟨ao,cp,e1,-,-,hat⟩:=HS2.R.at;injection e1 with q1 q2 q3;obtain ⟨bR,oR,⟨aA,nA,cA,aE,nE,cE⟩,hbR,yR,hrat,hru⟩:=hat j hlt2;rw [hbR] at q1;subst q1;obtain ⟨r,hr⟩:=nmQ (S.R[j]);rw [<-hr] at hrat hru;obtain ⟨d0,d1,d2,d3,d4,d5⟩:=hrat
      dsimp only at d4 d5
      have hdd:=HD.out;rw [Sk.dS_step _ hlt2,<-hr] at hdd;have HDD:=zG hdd;clear hat q2 q3 hbR hru hdd HD hr HS2 d0 d1 d3 d4 d5;by_cases ho:r.out=(i:Int)
      case pos=>
       have x0:=coQ HX.out.x 0;have x1:=coQ HX.out.x 1;have f0:=foQ HX.out.x 0;have f1:=foQ HX.out.x 1;simp at x0 x1;have HXN:=zG (HX.out.set (j:Int) (j:Int));have h5:=HDD.out;rw [if_pos ho] at h5;have HDN:=zG h5;clear h5;rw [ho] at d2;clear HX HDD ho;go_wp2_with fail;go_roundg (S.R.length-(j+1))
       case measure=>omega
       case rel=>exact ⟨j+1,_,by omega,rfl,by go_num,HXN,HDN⟩
      case neg=>
       have h5:=HDD.out;rw [if_neg ho] at h5;have HDN:=zG h5;clear h5;obtain ⟨ro,hro⟩:=nmQ (r.out);rw [<-hro] at d2 ho;clear HDD hro;go_wp2_with fail;go_roundg (S.R.length-(j+1))
       case measure=>omega
       case rel=>exact ⟨j+1,_,by omega,rfl,by go_num,HX,HDN⟩
     case neg=>
      have hin2:j=S.R.length:=(by omega);subst hin2;have HD1:=zG (show p=Sk.dS (i:Int) 0 S.R (Sk.d0 S (i:Int)) by have h5:=HD.out;rw [List.drop_length] at h5;exact h5);clear HD;obtain ⟨w5,hw5⟩:=nmQ (wr);subst hw5;have HX5:=HX;have HZ5:=zG (show Sk.dN (i:Int) 0 (S.R.drop 0) p=Sk.dN (i:Int) 0 S.R (Sk.dS (i:Int) 0 S.R (Sk.d0 S (i:Int))) by rw [List.drop_zero,HD1.out]);clear HX HD1;go_wp2_with fail;clear s3;go_loopg [7] S.R.length (fun k v7 wr=>∃ (j:Nat) (p:Sk.Sp),j<=S.R.length/\k=S.R.length-j/\v7=.int .i64 (j:Nat)/\Hid (SpL w1 wo.heap.size wr (.slice aX L.length cX) L p)/\Hid (Sk.dN (i:Int) j (S.R.drop j) p=Sk.dN (i:Int) 0 S.R (Sk.dS (i:Int) 0 S.R (Sk.d0 S (i:Int)))))
      case atStart=>exact ⟨0,p,Nat.zero_le _,rfl,rfl,HX5,HZ5⟩
      case round=>
       clear HX5 HZ5;obtain ⟨j,⟨p1,p2⟩,hj,rfl,rfl,HX,HD⟩:=hrel;have kSr:=(HX.out.bel.block _ z1).trans kS;have s3:=coQ kSr 3;simp at s3;clear kSr;by_cases hlt2:j<S.R.length
       case pos=>
        have HS2:=HS.out.under HX.out.bel;obtain ⟨ao,cp,e1,-,-,hat⟩:=HS2.R.at;injection e1 with q1 q2 q3;obtain ⟨bR,oR,⟨aA,nA,cA,aE,nE,cE⟩,hbR,yR,hrat,hru⟩:=hat j hlt2;rw [hbR] at q1;subst q1;obtain ⟨r,hr⟩:=nmQ (S.R[j]);have hrm:r ∈ S.R:=(by rw [hr];exact List.getElem_mem hlt2);rw [<-hr] at hrat hru;obtain ⟨d0,d1,d2,d3,d4,d5⟩:=hrat
        dsimp only at d4 d5
        have hdd:=HD.out;rw [Sk.dN_step _ hlt2,<-hr] at hdd
        dsimp only at hdd
        have HDD:=zG hdd;have hfr:=HFIT.out r hrm;have hn:=refNeeds_any hru hfr.1 hfr.2
        dsimp only at hn
        clear hat q2 q3 hbR hru hdd HD hr HS2 hrm hfr;go_wp2_with fail;refine hn.mono ?_;rintro e w6 ⟨vn,rfl,hvn,b6⟩;have hin:=qL (i:Int) hvn;obtain ⟨q,hq⟩:=nmQ ((Sk.needs r).any (fun z=>z==(i:Int)));rw [<-hq] at hin;have HQ:=zG hq;have HX6:=zG (HX.out.under b6);obtain ⟨aN,cN,eN,-,-,-⟩:=hvn.at;subst eN;clear hn hq hvn HX d0 d1 d2 d3 d4 d5 s3;go_wp2_with fail;refine hin.mono ?_;rintro e w7 ⟨rfl,b7⟩;have HX7:=zG (HX6.out.under b7);have x1:=coQ HX7.out.x 1;have f1:=foQ HX7.out.x 1;simp at x1;clear hin HX6 b6 b7
        cases q
        case false=>
         have h5:=HDD.out;rw [if_neg (fun hm=>by have h6:=vA.2 hm.1;rw [<-HQ.out] at h6;cases h6)] at h5;have HDN:=zG h5;clear h5 HDD HQ;go_wp2_with fail;go_roundg (S.R.length-(j+1))
         case measure=>omega
         case rel=>exact ⟨j+1,_,by omega,rfl,by go_num,HX7,HDN⟩
        case true=>
         have hmem:=vA.1 (HQ.out ▸ rfl:(Sk.needs r).any (fun z=>z==(i:Int))=true);have h5:=HDD.out;clear HDD HQ;by_cases hp:p2<(j:Int)
         case pos=>
          rw [if_pos ⟨hmem,hp⟩] at h5;have HDN:=zG h5;have HXN:=zG (HX7.out.setTo (j:Int));clear h5 HX7 hmem;go_wp2_with fail;go_roundg (S.R.length-(j+1))
          case measure=>omega
          case rel=>exact ⟨j+1,_,by omega,rfl,by go_num,HXN,HDN⟩
         case neg=>
          rw [if_neg (fun hm=>hp hm.2)] at h5;have HDN:=zG h5;clear h5 hmem;go_wp2_with fail;go_roundg (S.R.length-(j+1))
          case measure=>omega
          case rel=>exact ⟨j+1,_,by omega,rfl,by go_num,HX7,HDN⟩
       case neg=>
        have hin2:j=S.R.length:=(by omega);subst hin2;have HD2:=zG (show (p1,p2)=Sk.dN (i:Int) 0 S.R (Sk.dS (i:Int) 0 S.R (Sk.d0 S (i:Int))) by have h5:=HD.out;rw [List.drop_length] at h5;exact h5);clear HD;obtain ⟨w8,hw8⟩:=nmQ (wr);subst hw8;have HX8:=HX;have HZ8:=zG (show Sk.dP (S.R.length:Int) (i:Int) (S.R.drop 0) (p1,p2)=Sk.d3 S (i:Int) by rw [List.drop_zero,HD2.out];rfl);clear HX HD2;go_wp2_with fail;clear s3;go_loopg [8] S.R.length (fun k v8 wr=>∃ (j:Nat) (p:Sk.Sp),j<=S.R.length/\k=S.R.length-j/\v8=.int .i64 (j:Nat)/\Hid (SpL w1 wo.heap.size wr (.slice aX L.length cX) L p)/\Hid (Sk.dP (S.R.length:Int) (i:Int) (S.R.drop j) p=Sk.d3 S (i:Int)))
        case atStart=>exact ⟨0,(p1,p2),Nat.zero_le _,rfl,rfl,HX8,HZ8⟩
        case round=>
         clear HX8 HZ8;obtain ⟨j,⟨p1,p2⟩,hj,rfl,rfl,HX,HD⟩:=hrel;have kSr:=(HX.out.bel.block _ z1).trans kS;have s2:=coQ kSr 2;have s3:=coQ kSr 3;simp at s2 s3;clear kSr;by_cases hlt2:j<S.R.length
         case pos=>
          have HS2:=HS.out.under HX.out.bel;obtain ⟨ao,cp,e1,-,-,hat⟩:=HS2.R.at;injection e1 with q1 q2 q3;obtain ⟨bR,oR,⟨aA,nA,cA,aE,nE,cE⟩,hbR,yR,hrat,hru⟩:=hat j hlt2;rw [hbR] at q1;subst q1;obtain ⟨r,hr⟩:=nmQ (S.R[j]);have hrm:r ∈ S.R:=(by rw [hr];exact List.getElem_mem hlt2);rw [<-hr] at hrat hru;obtain ⟨d0,d1,d2,d3,d4,d5⟩:=hrat
          dsimp only at d4 d5
          have hdd:=HD.out;rw [Sk.dP_step _ _ hlt2,<-hr] at hdd
          dsimp only at hdd
          have HDD:=zG hdd;have HPRE:=zG (fun e=>Sk.pre_in HOK.out hrm e);clear hat q2 q3 hbR hdd HD hr HS2 hrm s2;by_cases hop:r.op=13
          case neg=>
           have h5:=HDD.out;rw [if_neg (fun hm=>hop hm.1)] at h5;have HDN:=zG h5;obtain ⟨ro,hro⟩:=nmQ (r.op);rw [<-hro] at d0 hop;clear h5 HDD HPRE hro hru d1 d2 d3 d4 d5;go_wp2_with fail;go_roundg (S.R.length-(j+1))
           case measure=>omega
           case rel=>exact ⟨j+1,_,by omega,rfl,by go_num,HX,HDN⟩
          case pos=>
           have hpr:=HPRE.out hop;obtain ⟨aoA,cpA,eA,hA1,hA2,hatA⟩:=hru.A.at
           dsimp only at eA
           injection eA with eA1 eA2 eA3;obtain ⟨bA,oA,ebA,yA,cA1⟩:=hatA 1 (by omega);rw [ebA] at eA1;subst eA1;subst eA3;have hnA:nA=2:=(by omega);subst hnA;unfold maxLen at hA2;have hcp2:2<=cA:=(by omega);have eg1:r.A.getD 1 0=r.A[1]'(by omega):=(by rw [List.getD_eq_getElem?_getD,List.getElem?_eq_getElem (by omega)];rfl);rw [eg1,hop] at HDD;rw [hop] at d0;obtain ⟨z,hz⟩:=nmQ (r.A[1]'(by omega));rw [<-hz] at cA1 HDD;have x1:=coQ HX.out.x 1;have f1:=foQ HX.out.x 1;simp at x1;have h5:=HDD.out;clear HPRE hpr hatA eA2 ebA hA1 eg1 hz hru d1 d2 d3 d5 HDD;have hi12:(1:Int)<((2:Nat):Int):=(by decide);by_cases hzi:z=(i:Int)
           case pos=>
            rw [if_pos ⟨rfl,hzi⟩] at h5;have HDN:=zG h5;have HXN:=zG (HX.out.setTo (S.R.length:Int));rw [hzi] at cA1;clear h5 HX hzi;go_wp2_with fail;go_roundg (S.R.length-(j+1))
            case measure=>omega
            case rel=>exact ⟨j+1,_,by omega,rfl,by go_num,HXN,HDN⟩
           case neg=>
            rw [if_neg (fun hm=>hzi hm.2)] at h5;have HDN:=zG h5;clear h5;go_wp2_with fail;go_roundg (S.R.length-(j+1))
            case measure=>omega
            case rel=>exact ⟨j+1,_,by omega,rfl,by go_num,HX,HDN⟩
         case neg=>
          have hin2:j=S.R.length:=(by omega);subst hin2;have HD3:=zG (show (p1,p2)=Sk.d3 S (i:Int) by have h5:=HD.out;rw [List.drop_length] at h5;exact h5);obtain ⟨w9,hw9⟩:=nmQ (wr);subst hw9;have hin3:=qL (i:Int) (HS.out.under HX.out.bel).O;obtain ⟨q,hq⟩:=nmQ (S.O.any (fun z=>z==(i:Int)));rw [<-hq] at hin3;have HQ:=zG hq;clear hq HD;go_wp2_with fail;refine hin3.mono ?_;rintro e w10 ⟨rfl,b10⟩;have HX10:=zG (HX.out.under b10);have s3x:=(b10.cell (p:=⟨w.heap.size,3,none⟩) (by have:=HX.out.bel.size;show w.heap.size<_;omega)).trans s3;have x1:=coQ HX10.out.x 1;have f1:=foQ HX10.out.x 1;simp at x1;clear hin3 HX s2 s3;go_upto_if 96 with fail;go_cut [] (fun wd=>Hid (SpL w1 wo.heap.size wd (.slice aX L.length cX) L Z))
          case first=>
           cases q
           case false=>
            have HF:=zG (show SpL w1 wo.heap.size w10 (.slice aX L.length cX) L Z by
             have e:Z=(p1,p2):=by
              rw [HZ.out,HD3.out];unfold Sk.dSpan;rw [if_neg (fun hm=>by have h6:=vA.2 hm;rw [<-HQ.out] at h6;cases h6)]
             rw [e];exact HX10.out)
            clear HX10;go_wp2_with fail;go_meet
            case rel=>exact HF
           case true=>
            have HF:=zG (show SpL w1 wo.heap.size (w10.setCell ⟨wo.heap.size,1,none⟩ (.int .i64 (S.R.length:Int))) (.slice aX L.length cX) L Z by
             have e:Z=(p1,(S.R.length:Int)):=by
              rw [HZ.out];unfold Sk.dSpan;rw [if_pos (vA.1 (HQ.out ▸ rfl)),<-HD3.out]
             rw [e];exact HX10.out.setTo _)
            clear HX10;go_wp2_with fail;go_meet
            case rel=>exact HF
          case rest=>
           have HXF:=hcut;clear hcut HX10 HQ HD3 x1 f1 s3x;obtain ⟨Z1,Z2⟩:=Z;have x0:=coQ HXF.out.x 0;have x1:=coQ HXF.out.x 1;simp at x0 x1;have HO6:=zG HXF.out.own;have HNb:=zG (fun k (e:(Value.slice aX L.length cX).ownBlock=some k)=>(HO6.out.lt k e).2);have zB:=HXF.out.bel.size;have BF:=zG HXF.out.bel;have q2:(L.length+1)*16<=140737488355328:=(by have:=HLL.out;omega);have q3:L.length+1<=maxLen:=(by have:=HLL.out;unfold maxLen;omega);clear HXF
           go_wp2_with (at_builtin;refine zS kSp rfl _ _ 51 57 rfl Tryz.underlying51 w1.heap.size wc.heap.size _ L (by rfl) HO6.out [.int .i64 Z1,.int .i64 Z2] (Z1,Z2) rfl (by rfl) HNb.out zB zB q2 q3 ?_;intro v8 w8 own8 b8 _ _;have HO8:=zG own8;have HB8:=zG (BF.out.trans b8);clear own8 HO6 HNb b8)
           go_roundg (S.V.length-(i+1))
           case measure=>omega
           case rel=>exact ⟨i+1,_,by omega,rfl,by go_num,HZS,HO8,HB8.out⟩
end Go.Proofs.YtegakbobaecdlaaGreatDoor
namespace Go.Proofs.YtegakbobaecdlaaGreatDoor
open Go.RowKit Go.IntWalk
namespace Sk
theorem vAt_get {V:List Vr} {x:Nat} (h:x<V.length):vAt V (x:Int)=V[x]:=by
 unfold vAt;rw [Int.toNat_natCast,List.getD_eq_getElem?_getD,List.getElem?_eq_getElem h];rfl
end Sk
end Go.Proofs.YtegakbobaecdlaaGreatDoor
