import Derived.Test.YtkfgbhlpjkkgfaaGreatDoorT32
import Derived.Test.YtkfgbhlpjkkgfaaGreatDoorT23
import Derived.Test.YtkfgbhlpjkkgfaaGreatDoorT21
import Derived.Test.YtkfgbhlpjkkgfaaGreatDoorT29
import Derived.Test.YtkfgbhlpjkkgfaaGreatDoorT30
import Derived.Test.YtkfgbhlpjkkgfaaGreatDoorT24
import Derived.Test.YtkfgbhlpjkkgfaaGreatDoorT20
import Derived.Test.YtkfgbhlpjkkgfaaGreatDoorT03
import Derived.WalkLawsBesides
set_option linter.unusedVariables false
set_option linter.unusedSimpArgs false
set_option maxHeartbeats 64000000
set_option maxRecDepth 100000
namespace Go.Proofs.YtkfgbhlpjkkgfaaGreatDoor
open Go.RowKit Go.IntWalk
theorem zEM {names:List ByteArray} {S:List (List Tm)}:∀ {L:List De} {l:List Kd.Ty},Kd.calledL names S L=.ok l->l.length=L.length
 | [],l,h=>by simp [Kd.calledL] at h;subst h;rfl
 | x :: r,l,h=>by
  simp only [Kd.calledL] at h
  cases hx:Kd.called names S x with
  | error c=>rw [hx] at h;cases h
  | ok t=>
   rw [hx] at h
   cases hr:Kd.calledL names S r with
   | error c=>rw [hr] at h;cases h
   | ok m=>
    rw [hr] at h;injection h with h;subst h;simp [zEM hr]
theorem findN_mem {l:List Nd} {s:ByteArray} {g:Nd} (h:Kd.findN l s=some g):g ∈ l:=List.mem_of_find?_eq_some h
structure CallFit (E:Kd.Env) (q:Eqn):Prop where
 eq:Rn.eqF q
 sl:q.S.length<=1000000
 sm:∀ m ∈ q.S,m.length<=1000000
 el:q.E.length<=1000000
 up:∀ g ∈ E.above,NdFit g
theorem call_any {x:SB} {E:Kd.Env} {q:Eqn} (hX:∀ e ∈ q.E,TyDoes x E e) (hF:CallFit E q):CallDoes x E q:=by
 intro ok w mk done y hS hG hy bm;obtain ⟨R,hR⟩:=nmQ (Kd.codeCall E q);rw [<-hR];unfold Kd.codeCall at hR;have b1:Below w.heap.size w (w.alloc (.cells #[.int .i64 y.place,.slice y.aN y.nN y.cN,.string y.node,.slice y.aS y.nS y.cS,.slice y.aE y.nE y.cE] 56 (0,0))):=(Below.refl _ _).alloc nR _;have kD:=zAC w (.cells #[.int .i64 y.place,.slice y.aN y.nN y.cN,.string y.node,.slice y.aS y.nS y.cS,.slice y.aE y.nE y.cE] 56 (0,0));have h1:=hS.keep b1;have kX:=zAA h1;have xE:=zAA (hG.under b1);have lh:=zAA (hy.under b1);have CY:=zAA (fun i (hi:ok i)=>Nat.lt_of_lt_of_le (bm i hi) b1.size);have HX:=zAA hX;have HF:=zAA hF;have bO:=hy.node;have je:y.node.size<=maxLen:=(by rw [bO];exact hF.eq.2.1);rw [<-bO] at hR;have HR:=zAA hR;clear hS hG hy bm hX hF bO hR;go_enter Tryz.func86,Tryz.ntmps86;go_upto_region 1 with fail;generalize w.alloc (.cells #[.int .i64 y.place,.slice y.aN y.nN y.cN,.string y.node,.slice y.aS y.nS y.cS,.slice y.aE y.nE y.cE] 56 (0,0))=w1 at b1 kD h1 kX xE lh CY ⊢;obtain ⟨z,hv,II⟩:=h1.lookNode je;have nO:∀ w',Below w1.heap.size w1 w'->(Instr.lookup 98 (.map (some x.m0)) (.string y.node) true).run Tryz.prog w'=.ok (.tuple #[.agg #[.string z.name,.int .i64 z.place,.slice z.a2 z.n2 z.c2,.slice z.a3 z.n3 z.c3,.slice z.a4 z.n4 z.c4,.slice z.a5 z.n5 z.c5,.slice z.a6 z.n6 z.c6],.bool (Kd.findN E.above y.node).isSome]) w':=hv;have kS:=h1.blk;have yA:=zAB kD;have yS:=zAB kS;have c2:=co kD 2;have e0:=co kS 0;simp at c2 e0;have Lt:=zAA II;have B8:=zAA kD;obtain ⟨Q1,Eb⟩:∃ Q1,Kd.findN E.above y.node=Q1:=⟨_,rfl⟩;have Gr:=zAA Eb;rw [Eb] at nO;generalize Hw:Q1.isSome=q1 at nO;have Gu:=zAA Hw;clear h1 kS hv II kD Eb Hw;go_cut [5,6] (fun v5 v6 wd=>∃ bg,v5=.pointer (some ⟨bg,0,none⟩)/\v6=.bool q1/\wd.cell? ⟨bg,2,none⟩=some (.slice z.a2 z.n2 z.c2)/\wd.cell? ⟨bg,3,none⟩=some (.slice z.a3 z.n3 z.c3)/\wd.cell? ⟨bg,4,none⟩=some (.slice z.a4 z.n4 z.c4)/\bg<wd.heap.size/\Below w1.heap.size w1 wd)
 case first=>
  refine zAE (fun w'=>Below w1.heap.size w1 w') (fun _=>false) (by kernel_rfl) ?_;have af:Below w1.heap.size w1 w1.drew:=(Below.refl _ _).drew;generalize w1.drew=aW at af ⊢;refine' tkR 0 14 af ?o1
  refine' tkR 1 15 af ?o2
  refine' tkR 2 16 af ?o3
  refine' tkQ 3 17 af ?hyv ?o4
  case hyv=>
   intro wz ae;have bI:=(ae.cell (p:=⟨x.b,0,none⟩) yS).trans e0;go_simp
   try rfl
  try simp only [Act.put,sT,sZ,sS]
  refine' tkR 4 18 af ?o5
  refine' tkQ 5 19 af ?hyv ?o6
  case hyv=>
   intro wz ae;have bI:=(ae.cell (p:=⟨w.heap.size,2,none⟩) yA).trans c2;go_simp
   try rfl
  try simp only [Act.put,sT,sZ,sS]
  refine' tkQ 6 20 af ?hyv ?o7
  case hyv=>
   intro wz ae;have hl:=nO _ ae;go_simp
   try rfl
  try simp only [Act.put,sT,sZ,sS]
  refine' tkR 7 13 af ?o8
  refine' tkR 8 21 af ?o9
  refine' tkR 9 22 af ?o10
  refine tnQ 10 (fun K hK=>?_);go_simp;have al:Below w1.heap.size w1 (aW.alloc (.cells #[.string ⟨#[]⟩,.int .i64 0,.slice none 0 0,.slice none 0 0,.slice none 0 0,.slice none 0 0,.slice none 0 0] 47 (0,0))):=af.alloc af.size _;have dJ:=zAC aW (.cells #[.string ⟨#[]⟩,.int .i64 0,.slice none 0 0,.slice none 0 0,.slice none 0 0,.slice none 0 0,.slice none 0 0] 47 (0,0));have jA:w1.heap.size<=aW.heap.size:=af.size;refine hK.out _ _ (fun _=>al) ?_;clear hK K
  try simp only [Act.put,sT,sZ,sS]
  generalize aW.alloc (.cells #[.string ⟨#[]⟩,.int .i64 0,.slice none 0 0,.slice none 0 0,.slice none 0 0,.slice none 0 0,.slice none 0 0] 47 (0,0))=cW at al dJ ⊢;refine tnQ 11 (fun K hK=>?_);have aX:=co dJ 0;have st1:=co dJ 1;have st2:=co dJ 2;have BU:=co dJ 3;have zi:=co dJ 4;have AG:=co dJ 5;have AQ:=co dJ 6;have dr:=fo dJ 0;have dp:=fo dJ 1;have Ax:=fo dJ 2;have AE:=fo dJ 3;have xl:=fo dJ 4;have Eo:=fo dJ 5;have xP:=fo dJ 6;simp at aX st1 st2 BU zi AG AQ;go_simp;have KR:=(zAD (zAD (zAD (zAD (zAD (zAD (zAD dJ 0 (.string z.name)) 1 (.int .i64 z.place)) 2 (.slice z.a2 z.n2 z.c2)) 3 (.slice z.a3 z.n3 z.c3)) 4 (.slice z.a4 z.n4 z.c4)) 5 (.slice z.a5 z.n5 z.c5)) 6 (.slice z.a6 z.n6 z.c6));have kl:=zAB KR;have g2:=co KR 2;have g3:=co KR 3;have g4:=co KR 4;simp at g2 g3 g4;have aK:Below w1.heap.size w1 (((((((cW.setCell ⟨aW.heap.size,0,none⟩ (.string z.name)).setCell ⟨aW.heap.size,1,none⟩ (.int .i64 z.place)).setCell ⟨aW.heap.size,2,none⟩ (.slice z.a2 z.n2 z.c2)).setCell ⟨aW.heap.size,3,none⟩ (.slice z.a3 z.n3 z.c3)).setCell ⟨aW.heap.size,4,none⟩ (.slice z.a4 z.n4 z.c4)).setCell ⟨aW.heap.size,5,none⟩ (.slice z.a5 z.n5 z.c5)).setCell ⟨aW.heap.size,6,none⟩ (.slice z.a6 z.n6 z.c6)):=(Below.setCell (Below.setCell (Below.setCell (Below.setCell (Below.setCell (Below.setCell (Below.setCell al (p:=⟨aW.heap.size,0,none⟩) jA (.string z.name)) (p:=⟨aW.heap.size,1,none⟩) jA (.int .i64 z.place)) (p:=⟨aW.heap.size,2,none⟩) jA (.slice z.a2 z.n2 z.c2)) (p:=⟨aW.heap.size,3,none⟩) jA (.slice z.a3 z.n3 z.c3)) (p:=⟨aW.heap.size,4,none⟩) jA (.slice z.a4 z.n4 z.c4)) (p:=⟨aW.heap.size,5,none⟩) jA (.slice z.a5 z.n5 z.c5)) (p:=⟨aW.heap.size,6,none⟩) jA (.slice z.a6 z.n6 z.c6));refine hK.out _ _ (fun _=>aK) ?_;clear hK K
  try simp only [Act.put,sT,sZ,sS]
  clear KR;generalize (((((((cW.setCell ⟨aW.heap.size,0,none⟩ (.string z.name)).setCell ⟨aW.heap.size,1,none⟩ (.int .i64 z.place)).setCell ⟨aW.heap.size,2,none⟩ (.slice z.a2 z.n2 z.c2)).setCell ⟨aW.heap.size,3,none⟩ (.slice z.a3 z.n3 z.c3)).setCell ⟨aW.heap.size,4,none⟩ (.slice z.a4 z.n4 z.c4)).setCell ⟨aW.heap.size,5,none⟩ (.slice z.a5 z.n5 z.c5)).setCell ⟨aW.heap.size,6,none⟩ (.slice z.a6 z.n6 z.c6))=fY at aK g2 g3 g4 kl ⊢;clear dJ jA aX dr st1 dp st2 Ax BU AE zi xl AG Eo AQ xP;refine' tkR 12 6 aK ?o11
  refine zAF (by kernel_rfl) ?_ _;go_wp2_with fail;go_meet
  case rel=>exact ⟨_,rfl,rfl,g2,g3,g4,kl,aK⟩
 case rest=>
  obtain ⟨bg,rfl,rfl,g2,g3,g4,yG,bc⟩:=hcut;obtain ⟨w2,gX⟩:=nmQ (wc);subst gX;have B2:=b1.trans (bc.mono b1.size);have HS:=zAA (kX.out.keep bc);have HG:=zAA (xE.out.under bc);have HY:=zAA (lh.out.under bc);have HO:=zAA (fun i (hi:ok i)=>Nat.lt_of_lt_of_le (CY.out i hi) bc.size);have kD:=(bc.block _ yA).trans B8.out;have yD:=zAB kD;have d1:=co kD 1;have d3:=co kD 3;have d4:=co kD 4;simp at d1 d3 d4;have hR:=HR.out;rw [Gr.out] at hR;clear kD B8 c2 e0 nO
  cases Q1 with
  | none=>
   have dh:q1=false:=(by rw [<-Gu.out];rfl);subst dh;simp only at hR;have HZ:=zAA hR;clear hR;go_wp2;go_ret;exact ⟨by rw [HZ.out];rfl,B2⟩
  | some g=>
   have dh:q1=true:=(by rw [<-Gu.out];rfl);subst dh;simp only at hR;have HN:=zAA ((Lt.out g Gr.out).under bc);have CA:=zAA (HF.out.up g (findN_mem Gr.out));have j0:=zAA hR;clear hR HR Gu;have hc:=zCZ HS.out HY.out.S HF.out.eq.2.2.1;generalize qt:Rn.firstC (Kd.codeSz E.sizes) q.S=cz at hc;have Fc:=zAA qt;clear qt;go_wp2_with fail;refine hc.mono ?_;rintro e w3 ⟨rfl,b3⟩;clear hc;have B3:=B2.trans (b3.mono B2.size);by_cases hz:cz=0
   case neg=>
    have Dm:(cz != 0)=true:=(by simpa using hz);have Jt:R=cz:=(by rw [j0.out,Fc.out,if_pos hz]);have wD:=zAA hz;clear hz;have HZ:=zAA Jt;clear Jt;go_wp2;go_ret;exact ⟨by rw [HZ.out];rfl,B3⟩
   case pos=>
    subst hz;have pw:=j0.out;rw [Fc.out,if_neg (by simp)] at pw;have nz:=zAA pw;clear pw;clear j0 Fc;have LG:=(b3.cell (p:=⟨w.heap.size,4,none⟩) yD).trans d4;have hc:=zEQ (HS.out.keep b3) (HG.out.under b3) (HY.out.under b3).E (fun i hi=>Nat.lt_of_lt_of_le (HO.out i hi) b3.size) HX.out HF.out.el;go_wp2_with fail;refine hc.mono ?_;rintro e w4 ⟨vl,c,rfl,hT,b4⟩;clear hc LG;have C4:=b3.trans (b4.mono b3.size);have B4:=B3.trans (b4.mono B3.size);have rH:=nz.out
    cases dD:Kd.tyL E q.E with
    | error k=>
     rw [dD] at hT rH;obtain ⟨rfl,gm,rfl⟩:=hT;simp only at rH;have Dm:(c != 0)=true:=(by simpa using gm);have wD:=zAA gm;clear gm dD;have HZ:=zAA rH;clear rH;go_wp2;go_ret;exact ⟨by rw [HZ.out];rfl,B4⟩
    | ok l=>
     rw [dD] at hT rH;obtain ⟨rfl,oJ⟩:=hT;simp only at rH;have sj:=zAA (tyL_len dD);have JH:=zAA oJ;obtain ⟨va,vc,rfl,_,_,_⟩:=oJ.at;obtain ⟨aS,cS,eS,_,_,_⟩:=HY.out.S.at;injection eS with ea nS ec;clear ea ec;obtain ⟨aE,cE,eE,_,_,_⟩:=HY.out.E.at;injection eE with ea nE ec;clear ea ec;obtain ⟨aN,cN,eN,_,_,_⟩:=HY.out.names.at;injection eN with ea nN ec;clear ea ec;obtain ⟨a2,c2,e2,_,_,_⟩:=HN.out.sizes.at;injection e2 with ea n2 ec;clear ea ec;obtain ⟨a3,c3,e3,_,_,_⟩:=HN.out.inn.at;injection e3 with ea n3 ec;clear ea ec;obtain ⟨a4,c4,e4,_,_,_⟩:=HN.out.out.at;injection e4 with ea n4 ec;clear ea ec;rw [<-nS,<-n2,<-nE,<-n3,<-nN,<-n4] at rH;have Bp:=zAA rH;have Cy:=zAA (And.intro nS (And.intro nE (And.intro nN (And.intro n2 (And.intro n3 n4)))));have f1:=(C4.cell (p:=⟨w.heap.size,1,none⟩) yD).trans d1;have f3:=(C4.cell (p:=⟨w.heap.size,3,none⟩) yD).trans d3;have f4:=(C4.cell (p:=⟨w.heap.size,4,none⟩) yD).trans d4;have i2:=(C4.cell (p:=⟨bg,2,none⟩) yG).trans g2;have i3:=(C4.cell (p:=⟨bg,3,none⟩) yG).trans g3;have i4:=(C4.cell (p:=⟨bg,4,none⟩) yG).trans g4;generalize l.length=ll at JH;clear rH nS nE nN n2 n3 n4 oJ dD d1 d3 d4 g2 g3 g4 nz;by_cases h1:y.nS=z.n2
     case neg=>
      have Fq:((y.nS:Int) != (z.n2:Int))=true:=(by simp;omega);have mM:R=12:=(by rw [Bp.out,if_pos (.inl h1)]);have wD:=zAA h1;clear h1;have HZ:=zAA mM;clear mM;go_wp2;go_ret;exact ⟨by rw [HZ.out];rfl,B4⟩
     case pos=>
      have Fq:((y.nS:Int) != (z.n2:Int))=false:=(by simp;omega);have H1:=zAA h1;clear h1;by_cases h2:y.nE=z.n3
      case neg=>
       have Js:((y.nE:Int) != (z.n3:Int))=true:=(by simp;omega);have mM:R=12:=(by rw [Bp.out,if_pos (.inr (.inl h2))]);have wD:=zAA h2;clear h2;have HZ:=zAA mM;clear mM;go_wp2;go_ret;exact ⟨by rw [HZ.out];rfl,B4⟩
      case pos=>
       have Js:((y.nE:Int) != (z.n3:Int))=false:=(by simp;omega);have H2:=zAA h2;clear h2;by_cases h3:y.nN=z.n4
       case neg=>
        have JR:((y.nN:Int) != (z.n4:Int))=true:=(by simp;omega);have mM:R=12:=(by rw [Bp.out,if_pos (.inr (.inr h3))]);have wD:=zAA h3;clear h3;have HZ:=zAA mM;clear mM;go_wp2;go_ret;exact ⟨by rw [HZ.out];rfl,B4⟩
       case pos=>
        have JR:((y.nN:Int) != (z.n4:Int))=false:=(by simp;omega);have H3:=zAA h3;clear h3;have pw:=Bp.out;rw [if_neg (by rintro (h | h | h);exact h H1.out;exact h H2.out;exact h H3.out)] at pw;have BQ:=zAA pw;clear pw;clear Bp;have Ia:Hid (PutF g.sizes q.S):=zAA ⟨CA.out.sizes,HF.out.sl,HF.out.sm⟩;have hc:=putIn_any (HN.out.under C4).sizes (HY.out.under C4).S;go_wp2_with fail;refine hc.mono ?_;rintro e w5 ⟨bn,bs,rfl,hP,b5⟩;clear hc f3 f4 i2;have HP:=zAA hP;have C5:=C4.trans (b5.mono C4.size);have B5:=B4.trans (b5.mono B4.size);have IR:=Nat.lt_of_lt_of_le yD C4.size;have Ht:=Nat.lt_of_lt_of_le yG C4.size;have IT:=(b5.cell (p:=⟨w.heap.size,1,none⟩) IR).trans f1;have Lx:=(b5.cell (p:=⟨bg,3,none⟩) Ht).trans i3;have KP:=(b5.cell (p:=⟨bg,4,none⟩) Ht).trans i4;have hc:=zDr HP.out Ia.out (HN.out.under C5).inn (JH.out.under b5) (by have:=sj.out;have:=Cy.out;have:=H2.out;omega) (fun d hd t ht=>(CA.out.inn d hd).2 t ht);generalize Jh:Kd.codeIn g.sizes q.S g.inn l=ci at hc;have Ib:=zAA Jh;clear Jh hP f1 i3 i4;go_wp2_with fail;refine hc.mono ?_;rintro e w6 ⟨rfl,b6⟩;clear hc;have C6:=C5.trans (b6.mono C5.size);have B6:=B5.trans (b6.mono B5.size);by_cases hz:ci=0
        case neg=>
         have Dm:(ci != 0)=true:=(by simpa using hz);have Hz:R=ci:=(by rw [BQ.out,Ib.out,if_pos hz]);have wD:=zAA hz;clear hz;have HZ:=zAA Hz;clear Hz;go_wp2;go_ret;exact ⟨by rw [HZ.out];rfl,B6⟩
        case pos=>
         subst hz;have pw:=BQ.out;rw [Ib.out,if_neg (by simp)] at pw;have PA:=zAA pw;clear pw;clear BQ;have Ki:=Nat.lt_of_lt_of_le IR b5.size;have Pp:=Nat.lt_of_lt_of_le Ht b5.size;have Lk:=(b6.cell (p:=⟨w.heap.size,1,none⟩) Ki).trans IT;have Ok:=(b6.cell (p:=⟨bg,4,none⟩) Pp).trans KP;have hc:=typesOfD_any (HP.out.keep b6) Ia.out (HN.out.under C6).out (fun i hi=>Nat.lt_of_lt_of_le (HO.out i hi) C6.size) (fun d hd t ht=>(CA.out.out d hd).2 t ht) (by have:=CA.out.lens;omega);clear IT Lx KP;go_wp2_with fail;refine hc.mono ?_;rintro e w7 ⟨vm,c,rfl,hM,b7⟩;clear hc;have C7:=C6.trans (b7.mono C6.size);have B7:=B6.trans (b7.mono B6.size);have th:=PA.out
         cases hca:Kd.calledL g.sizes q.S g.out with
         | error k=>
          rw [hca] at hM th;obtain ⟨rfl,gm,rfl⟩:=hM;simp only at th;have Dm:(c != 0)=true:=(by simpa using gm);have wD:=zAA gm;clear gm hca;have HZ:=zAA th;clear th;go_wp2;go_ret;exact ⟨by rw [HZ.out];rfl,B7⟩
         | ok m=>
          rw [hca] at hM th;obtain ⟨rfl,GU⟩:=hM;simp only at th;have Nr:=zAA (zEM hca);have HM:=zAA GU;obtain ⟨ma,mc,rfl,_,_,_⟩:=GU.at;have LJ:=Nat.lt_of_lt_of_le Ki b6.size;have Qp:=(b7.cell (p:=⟨w.heap.size,1,none⟩) LJ).trans Lk;have hc:=zEY (HS.out.keep C7) (HY.out.under C7).names HM.out (by have:=Nr.out;have:=Cy.out;have:=H3.out;omega) HF.out.eq.1;rw [<-th] at hc;generalize m.length=ml at hc ⊢;clear GU hca th Lk Ok;go_wp2_with fail;refine hc.mono ?_;rintro e w8 ⟨rfl,b8⟩;clear hc;go_wp2;go_ret;exact ⟨rfl,B7.trans (b8.mono B7.size)⟩
end Go.Proofs.YtkfgbhlpjkkgfaaGreatDoor
namespace Go.Proofs.YtkfgbhlpjkkgfaaGreatDoor
open Go.RowKit Go.IntWalk
theorem whole_all {op:Int} (k:Int) (h:4<=op/\op<=15):WholeDoes op k:=by
 have:op=4\/op=5\/op=6\/op=7\/op=8\/op=9\/op=10\/op=11\/op=12\/op=13\/op=14\/op=15:=(by omega);rcases this with rfl | rfl | rfl | rfl | rfl | rfl | rfl | rfl | rfl | rfl | rfl | rfl
 ·exact whole4 k
 ·exact whole5 k
 ·exact whole6 k
 ·exact whole7 k
 ·exact whole8 k
 ·exact whole9 k
 ·exact whole10 k
 ·exact whole11 k
 ·exact whole12 k
 ·exact whole13 k
 ·exact whole14 k
 ·exact whole15 k
mutual
theorem allX_of:∀ (e:Ex),Rn.partC e=0->AllX (fun op _=>4<=op/\op<=15) e
 | .mk op k n name S L,h=>by
  have hp:=Bk.part_of h;obtain ⟨f1,f2,f3,f4,_⟩:=Bk.form_of hp.form;simp only [AllX];exact ⟨fun h4=>⟨h4,by omega⟩,allL_of L hp.parts⟩
theorem allL_of:∀ (L:List Ex),(∀ e ∈ L,Rn.partC e=0)->AllL (fun op _=>4<=op/\op<=15) L
 | [],_=>by simp only [AllL]
 | x :: r,h=>by
  simp only [AllL];exact ⟨allX_of x (h x (by simp)),allL_of r (fun e he=>h e (by simp [he]))⟩
end
theorem zEx {x:SB} {E:Kd.Env} (hE:∀ d ∈ E.types,d.n.length<=1000) (e:Ex) (h:Rn.partC e=0) (hF:Rn.exF e):TyDoes x E e:=zDA (P:=fun op _=>4<=op/\op<=15) hE (fun op k h=>whole_all k h) e h hF (allX_of e h)
theorem callDoes_any {x:SB} {E:Kd.Env} {q:Eqn} (hE:∀ d ∈ E.types,d.n.length<=1000) (h:∀ e ∈ q.E,Rn.partC e=0) (hF:CallFit E q):CallDoes x E q:=call_any (fun e he=>zEx hE e (h e he) (hF.eq.2.2.2 e he)) hF
end Go.Proofs.YtkfgbhlpjkkgfaaGreatDoor
namespace Go.Proofs.YtkfgbhlpjkkgfaaGreatDoor
open Go.RowKit Go.IntWalk
theorem goE_all:∀ {l:List Eqn} {k:Nat},Rn.goE l k=none->∀ q ∈ l,Rn.eqC q=0
 | [],_,_,q,hq=>by simp at hq
 | x :: l,k,h,q,hq=>by
  unfold Rn.goE at h;by_cases hx:Rn.eqC x=0
  ·rw [if_pos hx] at h
   rcases List.mem_cons.1 hq with e | hq
   ·rw [e];exact hx
   ·exact goE_all h q hq
  ·rw [if_neg hx] at h
   cases h
theorem goE_some:∀ {l:List Eqn} {k:Nat} {f:Int × Int},Rn.goE l k=some f->f.1≠0
 | [],_,_,h=>by cases h
 | x :: l,k,f,h=>by
  unfold Rn.goE at h;by_cases hx:Rn.eqC x=0
  ·rw [if_pos hx] at h
   exact goE_some h
  ·rw [if_neg hx] at h
   injection h with h;rw [<-h];exact hx
theorem goN_all:∀ {l:List Nd} {i k:Nat},(Rn.goN l i k).1=0->∀ n ∈ l,Rn.headC n=0/\∀ q ∈ n.eqs,Rn.eqC q=0
 | [],_,_,_,n,hn=>by simp at hn
 | x :: l,i,k,h,n,hn=>by
  unfold Rn.goN at h;by_cases hx:Rn.headC x=0
  ·rw [if_pos hx] at h
   cases hg:Rn.goE x.eqs k with
   | some f=>
    rw [hg] at h;exact absurd h (goE_some hg)
   | none=>
    rw [hg] at h;rcases List.mem_cons.1 hn with e | hn
    ·rw [e];exact ⟨hx,goE_all hg⟩
    ·exact goN_all h n hn
  ·rw [if_neg hx] at h
   exact absurd h hx
theorem print_all {l:List Nd} (h:(Tx.printC l).1=0):∀ n ∈ l,Rn.headC n=0/\∀ q ∈ n.eqs,Rn.eqC q=0:=by
 unfold Tx.printC at h;by_cases hn:(Rn.nodesC l).1=0
 ·unfold Rn.nodesC at hn
  split at hn
  ·simp at hn
  ·split at hn
   ·simp at hn
   ·exact goN_all hn
 ·rw [if_pos hn] at h
  exact absurd h hn
theorem zBy {l:List De} (h:Rn.declsC l=0):l.length<=30:=by
 unfold Rn.declsC at h
 split at h
 ·simp at h
 ·omega
theorem flatN_len {eqs:List Eqn} (h:∀ q ∈ eqs,q.names.length<=30):(eqs.flatMap Eqn.names).length<=30*eqs.length:=by
 induction eqs with
 | nil=>simp
 | cons q r ih=>
  simp only [List.flatMap_cons,List.length_append,List.length_cons];have h1:=h q (by simp);have h2:=ih (fun x hx=>h x (by simp [hx]));omega
theorem fit_of {l:List Nd} (hF:Rn.nsF l) (h:(Tx.printC l).1=0):∀ n ∈ l,NodeFit n:=by
 intro n hn;obtain ⟨h1,h2⟩:=print_all h n hn;obtain ⟨_,s3,PQ,_,_,i1,o1,l1⟩:=Bk.head_of h1;obtain ⟨⟨f1,f2,f3,f4,f5⟩,_,f6⟩:=hF n hn;have a1:=zBy i1;have a2:=zBy o1;have a3:=zBy l1;have a4:=flatN_len (fun q hq=>(Bk.eq_of (h2 q hq)).2.1);refine ⟨⟨f1,f2,f3,f4,f5,by omega⟩,fun q hq=>?_,?_,by omega⟩
 ·have e:=Bk.eq_of (h2 q hq)
  exact ⟨(f6 q hq).1,e.1,fun hz=>by have:=(e.2.2.2.2.1 hz).2.1;omega⟩
 ·unfold Kd.mkOf Kd.doneOf
  simp only [List.length_map,List.length_append];omega
theorem sizeC_len {s:List Tm} (h:Rn.sizeC s=0):s.length<=30:=by
 unfold Rn.sizeC at h
 split at h
 ·simp at h
 ·split at h
  ·simp at h
  ·omega
theorem declC_len {d:De} (h:Rn.declC d=0):d.n.length<=30:=by
 unfold Rn.declC at h
 split at h
 ·simp at h
 ·split at h
  ·simp at h
  ·split at h
   ·omega
   ·exact sizeC_len h
theorem zDp {l:List De} (h:Rn.declsC l=0):∀ d ∈ l,d.n.length<=30:=by
 have hl:=zBy h;unfold Rn.declsC at h;rw [if_neg (by omega)] at h;exact fun d hd=>declC_len (Bk.firstC_all h d hd)
theorem zEy {e:Ex} (h:Rn.exprC e=0):Rn.partC e=0:=by
 unfold Rn.exprC at h
 split at h
 ·simp at h
 ·exact h
theorem does_of {l:List Nd} (hF:Rn.nsF l) (h:(Tx.printC l).1=0):∀ n ∈ l,NodeDoes n:=by
 intro n hn x above _ zH q hq;obtain ⟨h1,h2⟩:=print_all h n hn;obtain ⟨_,_,_,_,_,i1,o1,l1⟩:=Bk.head_of h1;obtain ⟨_,_,f6⟩:=hF n hn;obtain ⟨_,_,_,_,_,eS,eE,eZ,eX⟩:=Bk.eq_of (h2 q hq);have hE:∀ d ∈ (Kd.envOf above n).types,d.n.length<=1000:=by
  intro d hd;have hd:d ∈ n.inn++n.out++n.loc:=hd;rw [List.mem_append,List.mem_append] at hd;rcases hd with (hd | hd) | hd
  ·have:=zDp i1 d hd;omega
  ·have:=zDp o1 d hd;omega
  ·have:=zDp l1 d hd;omega
 refine ⟨fun _ e he=>zEx hE e (zEy (eX e he)) ((f6 q hq).2.2.2 e he),fun _=>callDoes_any hE (fun e he=>zEy (eX e he)) ⟨f6 q hq,by omega,fun m hm=>?_,by omega,zH⟩⟩;have:=sizeC_len (eZ m hm);omega
theorem print_len {l:List Nd} (h:(Tx.printC l).1=0):l.length<=10:=by
 unfold Tx.printC at h;by_cases hn:(Rn.nodesC l).1=0
 ·unfold Rn.nodesC at hn
  split at hn
  ·omega
  ·split at hn
   ·simp at hn
   ·omega
 ·rw [if_pos hn] at h
  exact absurd h hn
theorem zEz {ok:Nat->Prop} {w:World} {v:Value} {l:List Nd} (hl:HNds ok w v l) (bm:∀ i,ok i->i<w.heap.size) (hG:GlobK w) (hg:Gl (fun i=>i<w.heap.size) w) (hF:Rn.nsF l) :
  Calls Tryz.prog 10 #[.agg #[v]] w fun r w'=>r=.returned (.agg #[.int .i64 (kcheckC l).1,.int .i64 (kcheckC l).2])/\Below w.heap.size w w':=
 zDQ hl bm hG hg hF (fun h n hn=>⟨fit_of hF h n hn,does_of hF h n hn⟩) (fun h=>by have:=print_len h;omega)
def upV (c a:Int):Value:=.iface 123 (.agg #[.int .i64 c,.int .i64 a])
def upE (c a:Int):Ending:=.panicked [{ v:=upV c a,recovered:=false }]
def Post {α:Type} (b g cap:Nat) (I:Inp) (op:Nat) (V:Nat->World->Value->α->Prop) (nx:Nat) (w:World) (res:Res α) (r:Ending) (w':World):Prop :=
 Aside [b] w.heap.size w w' /\
 match res with
 | .ok v n1=>nx<=n1/\Rd w' b g cap I.L I.len n1 op/\∃ x,r=.returned x/\V w.heap.size w' x v
 | .err c a=>r=upE c a
theorem zAR {I:Inp} {s:List UInt8} {n:Nat} (h:Ps.sees I s n=true) (hs:s≠[]):n<I.L.length:=by
 apply Classical.byContradiction
 intro hn;unfold Ps.sees Inp.pk peekT at h;simp [hn] at h;exact hs h
theorem zEg {I:Inp} {n:Nat} (h:(I.pk n).kind≠0):n<I.L.length:=by
 apply Classical.byContradiction
 intro hn;unfold Inp.pk peekT at h;simp [hn] at h
theorem zBC (c a:Int) (w:World):Calls Tryz.prog 146 #[.int .i64 c,.int .i64 a] w fun e w'=>e=upE c a/\w'=w:=by
 go_enter Tryz.func146,Tryz.ntmps146;go_wp2;exact ⟨rfl,rfl,rfl⟩
def noV:Nat->World->Value->Unit->Prop:=fun _ _ x _=>x=.tuple #[]
def strV:Nat->World->Value->ByteArray->Prop:=fun _ _ x s=>x=.string s
theorem zBY {w:World} {b g cap:Nat} {I:Inp} {nx op:Nat} (h:Rd w b g cap I.L I.len nx op) :
  Calls Tryz.prog 182 #[.pointer (some ⟨b,0,none⟩)] w fun e w'=>e=upE (Ps.refC I nx) (I.pk nx).place/\Below w.heap.size w w':=by
 have hp:=@zAT _ _ _ _ _ _ _ _ h;unfold Ps.refC Inp.pk;obtain ⟨t,ht⟩:=nmQ (peekT I.L I.len nx);rw [<-ht] at hp ⊢;unfold tokV at hp;clear ht;by_cases hk:t.kind=0
 ·rw [if_pos hk]
  rw [hk] at hp;go_enter Tryz.func182,Tryz.ntmps182;go_wp2_with fail;refine hp.mono ?_;rintro e w1 ⟨rfl,hb⟩;go_wp2_with fail;refine (zBC _ _ _).mono ?_;rintro e w2 ⟨rfl,rfl⟩;exact ⟨rfl,rfl,hb.alloc hb.size _⟩
 ·rw [if_neg hk]
  have pJ:(t.kind==0)=false:=beq_eq_false_iff_ne.2 hk;go_enter Tryz.func182,Tryz.ntmps182;go_wp2_with fail;refine hp.mono ?_;rintro e w1 ⟨rfl,hb⟩;go_wp2_with fail;refine (zBC _ _ _).mono ?_;rintro e w2 ⟨rfl,rfl⟩;exact ⟨rfl,rfl,hb.alloc hb.size _⟩
theorem zAy {w:World} {b g cap:Nat} {I:Inp} {nx op:Nat} (h:Rd w b g cap I.L I.len nx op) (x y:Int) (mZ:y<=x) :
  Calls Tryz.prog 110 #[.pointer (some ⟨b,0,none⟩),.int .i64 x,.int .i64 y] w fun e w'=>e=upE 7 (I.pk nx).place/\Below w.heap.size w w':=by
 have hp:=@zAT _ _ _ _ _ _ _ _ h;unfold Inp.pk;obtain ⟨t,ht⟩:=nmQ (peekT I.L I.len nx);rw [<-ht] at hp ⊢;unfold tokV at hp;clear ht;have hf:=fun x w=>tokF1 t x w;go_enter Tryz.func110,Tryz.ntmps110;go_wp2_with fail;refine hp.mono ?_;rintro e w1 ⟨rfl,hb⟩;go_wp2_with fail;refine (zBC _ _ _).mono ?_;rintro e w2 ⟨rfl,rfl⟩;exact ⟨rfl,rfl,hb⟩
theorem zAH {w:World} {b g cap:Nat} {I:Inp} {nx op:Nat} (h:Rd w b g cap I.L I.len nx op) (s:ByteArray) (hs:s.data.toList≠[]) :
  Calls Tryz.prog 141 #[.pointer (some ⟨b,0,none⟩),.string s] w fun e w'=>e=.returned (.bool (Ps.sees I s.data.toList nx))/\Rd w' b g cap I.L I.len (if Ps.sees I s.data.toList nx=true then nx+1 else nx) op/\Aside [b] w.heap.size w w':=by
 cases hq:Ps.sees I s.data.toList nx with
 | true=>simpa using take_yes h s hq (zAR hq hs)
 | false=>
  refine (take_no h s hq).mono ?_;rintro e w' ⟨rfl,hb⟩;exact ⟨rfl,by simpa using h.below hb,aside hb⟩
theorem zAJ {w:World} {b g cap:Nat} {I:Inp} {nx op:Nat} (h:Rd w b g cap I.L I.len nx op) (s:ByteArray) (hs:s.data.toList≠[]) :
  Calls Tryz.prog 139 #[.pointer (some ⟨b,0,none⟩),.string s] w (Post b g cap I op noV nx w (Ps.need I s.data.toList nx)):=by
 unfold Ps.need
 cases hq:Ps.sees I s.data.toList nx with
 | true=>
  refine (need_yes h s hq (zAR hq hs)).mono ?_;rintro e w' ⟨rfl,h1,ha⟩;exact ⟨ha,Nat.le_succ _,h1,_,rfl,rfl⟩
 | false=>
  simp only [Bool.false_eq_true,if_false];have hp:=take_no h s hq;go_enter Tryz.func139,Tryz.ntmps139;go_wp2_with fail;refine hp.mono ?_;rintro e w1 ⟨rfl,hb⟩;go_wp2_with fail;refine (zBY (h.below hb)).mono ?_;rintro e w2 ⟨rfl,ha⟩;exact ⟨rfl,aside (hb.trans (ha.mono hb.size)),rfl⟩
theorem zBJ {w:World} {b g cap:Nat} {I:Inp} {nx op:Nat} (h:Rd w b g cap I.L I.len nx op) :
  Calls Tryz.prog 140 #[.pointer (some ⟨b,0,none⟩)] w (Post b g cap I op strV nx w (Ps.name I nx)):=by
 unfold Ps.name;by_cases hk:(I.pk nx).kind=2
 ·rw [if_pos hk]
  refine (name_yes h hk (zEg (by rw [hk];decide))).mono ?_;rintro e w' ⟨rfl,h1,ha⟩;exact ⟨ha,Nat.le_succ _,h1,_,rfl,rfl⟩
 ·rw [if_neg hk]
  have hp:=@zAT _ _ _ _ _ _ _ _ h;unfold Inp.pk at hk;obtain ⟨t,ht⟩:=nmQ (peekT I.L I.len nx);rw [<-ht] at hp hk;unfold tokV at hp;have pJ:(t.kind==2)=false:=beq_eq_false_iff_ne.2 hk;clear ht;go_enter Tryz.func140,Tryz.ntmps140;go_wp2_with fail;refine hp.mono ?_;rintro e w1 ⟨rfl,hb⟩;go_wp2_with fail;refine (zBY ((h.below hb).alloc _)).mono ?_;rintro e w2 ⟨rfl,ha⟩;exact ⟨rfl,aside ((hb.alloc hb.size _).trans (ha.mono (by simp;exact Nat.le_trans hb.size (Nat.le_succ _)))),rfl⟩
end Go.Proofs.YtkfgbhlpjkkgfaaGreatDoor
