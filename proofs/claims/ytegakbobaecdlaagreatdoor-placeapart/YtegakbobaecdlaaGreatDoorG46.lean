import Derived.Test.YtegakbobaecdlaaGreatDoorG44
import Derived.Test.YtegakbobaecdlaaGreatDoorG43
import Derived.WalkKit
import Derived.WalkSpells
import Derived.IntWalk
import Derived.Deep.Cut
import Derived.Deep.LoopGhost
import Derived.Ground.NamesProg
import Derived.Laws.Cover1
import Derived.Laws.EntriesVeiled
import Derived.Laws.Externs
import Derived.Lib.Hide
import Derived.Lib.MakeNoZero
import Derived.Lib.SlBuf
import Derived.Maps.OwnSet
import Derived.Shelf.Bytes.SlSmallAll
import Derived.Shelf.Lay
set_option linter.unusedVariables false
set_option linter.unusedSimpArgs false
set_option maxHeartbeats 64000000
set_option maxRecDepth 100000
namespace Go.Proofs.YtegakbobaecdlaaGreatDoor
open Go.RowKit Go.IntWalk
theorem cells25_any (n:Int) (w:World):Calls Tryz.prog 21 #[.int .i64 n] w fun e w'=>(∃ x:Int,e=.returned (.int .i64 x))/\w'=w:=by
 by_cases h:n<1
 ·go_enter Tryz.func21,Tryz.ntmps21
  go_wp2;go_ret;exact ⟨⟨_,rfl⟩,rfl⟩
 ·go_enter Tryz.func21,Tryz.ntmps21
  go_wp2;go_ret;exact ⟨⟨_,rfl⟩,rfl⟩
structure GreatR (w:World) (S:Sk.Sys) (e:Ending) (w':World):Prop where
 out:∃ b,e=.returned (.bool b)/\(b=false->(S.V.length<=150/\S.I.length<=150/\S.O.length<=150/\S.R.length<=150)/\∀ r ∈ S.R,r.A.length<=100/\r.E.length<=1000)/\Below w.heap.size w w'
theorem great8_any {ok:Nat->Prop} {w:World} {aV aI aO aR:Option Addr} {cV cI cO cR:Nat} {S:Sk.Sys} (hS:HSys ok w aV aI aO aR cV cI cO cR S) :
  Calls Tryz.prog 8 #[.agg #[.slice aV S.V.length cV,.slice aI S.I.length cI,.slice aO S.O.length cO,.slice aR S.R.length cR],.int .i64 150] w (GreatR w S):=by
 obtain ⟨aoV,cpV,evV,hV1,hV2,-⟩:=hS.V.at;injection evV with q1 q2 q3;subst q1 q3;obtain ⟨aoR,cpR,evR,hR1,hR2,-⟩:=hS.R.at;injection evR with q1 q2b q3;subst q1 q3;obtain ⟨aoI,cpI,evI,hI1,hI2,-⟩:=hS.I.at;injection evI with q1 q2c q3;subst q1 q3;obtain ⟨aoO,cpO,evO,hO1,hO2,-⟩:=hS.O.at;injection evO with q1 q2d q3;subst q1 q3;unfold maxLen at hV2 hR2 hI2 hO2;clear q2 q2b q2c q2d;have b1:Below w.heap.size w (w.alloc (.cells #[.slice aV S.V.length cV,.slice aI S.I.length cI,.slice aO S.O.length cO,.slice aR S.R.length cR] 26 (0,0))):=(Below.refl _ _).alloc zL _;have kS:=zJ w (.cells #[.slice aV S.V.length cV,.slice aI S.I.length cI,.slice aO S.O.length cO,.slice aR S.R.length cR] 26 (0,0));have HS:=zG (hS.under b1);clear hS;by_cases hV:150<S.V.length
 case pos=>
  go_enter Tryz.func8,Tryz.ntmps8;go_upto_region 1 with fail;generalize w.alloc (.cells #[.slice aV S.V.length cV,.slice aI S.I.length cI,.slice aO S.O.length cO,.slice aR S.R.length cR] 26 (0,0))=w1 at b1 kS HS ⊢;have k0:=coQ kS 0;have k1:=coQ kS 1;have k2:=coQ kS 2;have k3:=coQ kS 3;simp at k0 k1 k2 k3;go_wp2;go_ret;exact ⟨⟨true,rfl,fun h=>(by cases h),b1⟩⟩
 case neg=>
  by_cases hR:150<S.R.length
  case pos=>
   go_enter Tryz.func8,Tryz.ntmps8;go_upto_region 1 with fail;generalize w.alloc (.cells #[.slice aV S.V.length cV,.slice aI S.I.length cI,.slice aO S.O.length cO,.slice aR S.R.length cR] 26 (0,0))=w1 at b1 kS HS ⊢;have k0:=coQ kS 0;have k1:=coQ kS 1;have k2:=coQ kS 2;have k3:=coQ kS 3;simp at k0 k1 k2 k3;go_wp2;go_ret;exact ⟨⟨true,rfl,fun h=>(by cases h),b1⟩⟩
  case neg=>
   by_cases hI:150<S.I.length
   case pos=>
    go_enter Tryz.func8,Tryz.ntmps8;go_upto_region 1 with fail;generalize w.alloc (.cells #[.slice aV S.V.length cV,.slice aI S.I.length cI,.slice aO S.O.length cO,.slice aR S.R.length cR] 26 (0,0))=w1 at b1 kS HS ⊢;have k0:=coQ kS 0;have k1:=coQ kS 1;have k2:=coQ kS 2;have k3:=coQ kS 3;simp at k0 k1 k2 k3;go_wp2;go_ret;exact ⟨⟨true,rfl,fun h=>(by cases h),b1⟩⟩
   case neg=>
    by_cases hO:150<S.O.length
    case pos=>
     go_enter Tryz.func8,Tryz.ntmps8;go_upto_region 1 with fail;generalize w.alloc (.cells #[.slice aV S.V.length cV,.slice aI S.I.length cI,.slice aO S.O.length cO,.slice aR S.R.length cR] 26 (0,0))=w1 at b1 kS HS ⊢;have k0:=coQ kS 0;have k1:=coQ kS 1;have k2:=coQ kS 2;have k3:=coQ kS 3;simp at k0 k1 k2 k3;go_wp2;go_ret;exact ⟨⟨true,rfl,fun h=>(by cases h),b1⟩⟩
    case neg=>
     go_enter Tryz.func8,Tryz.ntmps8;go_upto_region 1 with fail;generalize w.alloc (.cells #[.slice aV S.V.length cV,.slice aI S.I.length cI,.slice aO S.O.length cO,.slice aR S.R.length cR] 26 (0,0))=w1 at b1 kS HS ⊢;have k0:=coQ kS 0;have k1:=coQ kS 1;have k2:=coQ kS 2;have k3:=coQ kS 3;simp at k0 k1 k2 k3;have yS:=zH kS;go_wp2_with fail;go_loopg [5,6] S.V.length (fun k u v wr=>∃ (i:Nat) (x:Int),i<=S.V.length/\k=S.V.length-i/\u=.int .i64 x/\v=.int .i64 (i:Nat)/\wr=w1)
     case atStart=>exact ⟨0,0,Nat.zero_le _,rfl,rfl,rfl,rfl⟩
     case round=>
      obtain ⟨i,x,hi,rfl,rfl,rfl,rfl⟩:=hrel;by_cases hlt:i<S.V.length
      case pos=>
       obtain ⟨ao,cp,e1,-,-,hat⟩:=HS.out.V.at;injection e1 with q1 q2 q3;obtain ⟨bV,oV,hbV,yV,x0,y0⟩:=hat i hlt;rw [hbV] at q1;subst q1;generalize S.V[i]=va at x0 y0;obtain ⟨ve,vn⟩:=va;simp only at x0 y0;clear hat q2 q3 hbV;by_cases hm:1000<vn
       case pos=>
        go_wp2;go_ret;exact ⟨⟨true,rfl,fun h=>(by cases h),b1⟩⟩
       case neg=>
        go_wp2_with fail;refine (cells25_any _ _).mono ?_;rintro e w2 ⟨⟨cx,rfl⟩,rfl⟩;go_wp2_with fail;go_roundg (S.V.length-(i+1))
        case measure=>omega
        case rel=>exact ⟨i+1,_,by omega,rfl,rfl,by go_num,rfl⟩
      case neg=>
       have hin:i=S.V.length:=(by omega);subst hin;obtain ⟨wL,hwL⟩:=nmQ (wr);subst hwL;have HK:=zG kS;go_wp2_with fail;go_loopg [5,7] S.R.length (fun k u v wr=>∃ (i:Nat) (x:Int),i<=S.R.length/\k=S.R.length-i/\u=.int .i64 x/\v=.int .i64 (i:Nat)/\Hid (∀ r ∈ S.R.take i,r.A.length<=100/\r.E.length<=1000)/\Below wL.heap.size wL wr)
       case atStart=>exact ⟨0,_,Nat.zero_le _,rfl,rfl,rfl,zG (by simp),Below.refl _ _⟩
       case round=>
        clear k0 k1 k2 k3 kS;obtain ⟨i,x,hi,rfl,rfl,rfl,HF,hbr⟩:=hrel;have zr:=hbr.size;have B:=b1.trans (hbr.mono b1.size);have kSr:=(hbr.block _ yS).trans HK.out;have k3:=coQ kSr 3;simp at k3;by_cases hlt:i<S.R.length
        case neg=>
         have hin:i=S.R.length:=(by omega);subst hin;rw [List.take_length] at HF;go_wp2;go_ret;exact ⟨⟨_,rfl,fun _=>⟨⟨by omega,by omega,by omega,by omega⟩,HF.out⟩,B⟩⟩
        case pos=>
         obtain ⟨ao',cap',eqs,-,-,hat2⟩:=(HS.out.under hbr).R.at;injection eqs with q1 q2 q3;obtain ⟨bR,oR,y,hbR,yb,hat,hru⟩:=hat2 i hlt;rw [hbR] at q1;subst q1;obtain ⟨r,hr⟩:=nmQ (S.R[i]);have hsn:S.R.take (i+1)=S.R.take i++[r]:=(by rw [List.take_succ_eq_append_getElem hlt,hr]);rw [<-hr] at hat hru;obtain ⟨d0,d1,d2,d3,d4,d5⟩:=hat;have lA:y.nA=r.A.length:=(by obtain ⟨a',c',e',-⟩:=hru.A.at;injection e' with _ e' _);have lE:y.nE=r.E.length:=(by obtain ⟨a',c',e',-⟩:=hru.E.at;injection e' with _ e' _);have cA:y.nA<=9223372036854775807:=(by obtain ⟨a',c',e',h1,h2,-⟩:=hru.A.at;unfold maxLen at h2;injection e' with _ e' _;omega);have cE:y.nE<=9223372036854775807:=(by obtain ⟨a',c',e',h1,h2,-⟩:=hru.E.at;unfold maxLen at h2;injection e' with _ e' _;omega);have HSN:=zG hsn;have HLE:=zG (And.intro lA lE);have bA:Below wr.heap.size wr (wr.alloc (.cells #[.int .i64 r.op,.int .i64 r.k,.int .i64 r.out,.int .i64 r.n,.slice y.aA y.nA y.cA,.slice y.aE y.nE y.cE] 40 (0,0))):=(Below.refl _ _).alloc zL _;have kV:=zJ wr (.cells #[.int .i64 r.op,.int .i64 r.k,.int .i64 r.out,.int .i64 r.n,.slice y.aA y.nA y.cA,.slice y.aE y.nE y.cE] 40 (0,0));obtain ⟨rop,rk,rout,rn,rA,rE⟩:=r;obtain ⟨yaA,ynA,ycA,yaE,ynE,ycE⟩:=y;simp only at d0 d1 d2 d3 d4 d5 HLE bA kV cA cE;clear hat2 q2 q3 hbR hr hsn hru lA lE;go_upto_region 14 with fail;generalize wr.alloc (.cells #[.int .i64 rop,.int .i64 rk,.int .i64 rout,.int .i64 rn,.slice yaA ynA ycA,.slice yaE ynE ycE] 40 (0,0))=wA at bA kV ⊢;have v0:=coQ kV 0;have v1:=coQ kV 1;have v2:=coQ kV 2;have v3:=coQ kV 3;have v4:=coQ kV 4;have v5:=coQ kV 5;simp at v0 v1 v2 v3 v4 v5;have BA:=hbr.trans (bA.mono zr);have BB:=b1.trans (BA.mono b1.size);clear d0 d1 d2 d3 d4 d5 kV k3;by_cases hA:100<ynA
         case pos=>
          go_wp2;go_ret;exact ⟨⟨true,rfl,fun h=>(by cases h),BB⟩⟩
         case neg=>
          by_cases hE:1000<ynE
          case pos=>
           go_wp2;go_ret;exact ⟨⟨true,rfl,fun h=>(by cases h),BB⟩⟩
          case neg=>
           have HF2:=zG (show ∀ r ∈ S.R.take (i+1),r.A.length<=100/\r.E.length<=1000 from fun r hr=>by
            rw [HSN.out] at hr;rcases List.mem_append.1 hr with q | q
            ·exact HF.out r q
            ·simp at q
             subst q;have:=HLE.out;simp only;omega)
           cases h15:(rop==15)
           case false=>
            go_wp2_with fail;go_roundg (S.R.length-(i+1))
            case measure=>omega
            case rel=>exact ⟨i+1,_,by omega,rfl,rfl,by go_num,HF2,BA⟩
           case true=>
            by_cases hN:1000<rn
            case pos=>
             go_wp2;go_ret;exact ⟨⟨true,rfl,fun h=>(by cases h),BB⟩⟩
            case neg=>
             go_wp2_with fail;go_roundg (S.R.length-(i+1))
             case measure=>omega
             case rel=>exact ⟨i+1,_,by omega,rfl,rfl,by go_num,HF2,BA⟩
theorem qK (A:List Int) (E:List Pu):foldI (usesL A E)=usesT A E:=foldI_eq _
theorem usesT_nodup (A:List Int) (E:List Pu):(usesT A E).Nodup:=by
 rw [<-qK];obtain ⟨h1,-⟩:=jR (usesL A E) [] (by simp [SS]);exact List.Pairwise.imp (fun h=>by omega) h1
theorem needs_nodup (r:Sk.Ru):(Sk.needs r).Nodup:=by
 unfold Sk.needs
 split
 ·simp
 ·exact usesT_nodup _ _
theorem used19_any {ok:Nat->Prop} {w:World} {op k out n:Int} {aA aE:Option Addr} {nA cA nE cE:Nat} {A:List Int} {E:List Pu} (hA:HInts ok w (.slice aA nA cA) A) (hE:HPu ok w (.slice aE nE cE) E) (hAl:A.length<=1000000) (hEl:E.length<=1000000) :
  Calls Tryz.prog 30 #[.agg #[.int .i64 op,.int .i64 k,.int .i64 out,.int .i64 n,.slice aA nA cA,.slice aE nE cE]] w fun e w'=>∃ v,e=.returned v/\HInts (fun i=>w.heap.size<=i) w' v (usesT A (Sk.ownE op E))/\Below w.heap.size w w':=by
 have b1:Below w.heap.size w (w.alloc (.cells #[.int .i64 op,.int .i64 k,.int .i64 out,.int .i64 n,.slice aA nA cA,.slice aE nE cE] 40 (0,0))):=(Below.refl _ _).alloc zL _;have kA:=zJ w (.cells #[.int .i64 op,.int .i64 k,.int .i64 out,.int .i64 n,.slice aA nA cA,.slice aE nE cE] 40 (0,0));have HA:=zG ((hA.wide (ok':=fun i=>i<w.heap.size) fun i _ h=>h).under b1);have HE:=zG ((hE.wide (ok':=fun i=>i<w.heap.size) fun i _ h=>h).under b1);by_cases h14:op<14
 case pos=>
  have e2:Sk.ownE op E=[]:=(by unfold Sk.ownE;rw [if_pos h14]);rw [e2];have HH:=zG hAl;clear hA hE e2 hAl hEl HE;go_enter Tryz.func30,Tryz.ntmps30;go_upto_region 1 with fail;generalize w.alloc (.cells #[.int .i64 op,.int .i64 k,.int .i64 out,.int .i64 n,.slice aA nA cA,.slice aE nE cE] 40 (0,0))=w1 at b1 kA HA ⊢;have d0:=coQ kA 0;have d1:=coQ kA 1;have d2:=coQ kA 2;have d3:=coQ kA 3;have d4:=coQ kA 4;have d5:=coQ kA 5;simp at d0 d1 d2 d3 d4 d5;have f5:=foQ kA 5;have KR:=zO kA 5 (.slice none 0 0);simp at KR;have B2:=b1.setCell (p:=⟨w.heap.size,5,none⟩) zL (.slice none 0 0);have hs2:(w1.setCell ⟨w.heap.size,5,none⟩ (.slice none 0 0)).heap.size=w1.heap.size:=(by simp [World.setCell]);have HA2:=zG (HA.out.keep (w':=w1.setCell ⟨w.heap.size,5,none⟩ (.slice none 0 0)) (by omega) (fun i hi _=>zQ _ _ _ (by show w.heap.size≠i;have h1:i<w.heap.size:=hi;omega)));go_upto_region 3 with fail;generalize w1.setCell ⟨w.heap.size,5,none⟩ (.slice none 0 0)=w2 at KR B2 HA2 hs2 ⊢;clear d0 d1 d2 d3 d4 d5 f5;have g0:=coQ KR 0;have g1:=coQ KR 1;have g2:=coQ KR 2;have g3:=coQ KR 3;have g4:=coQ KR 4;have g5:=coQ KR 5;simp at g0 g1 g2 g3 g4 g5;go_wp2_with fail;refine (vO (ok:=fun i=>i<w.heap.size) op k out n HA2.out HPu.hnil HH.out (Nat.zero_le _)).mono ?_;rintro e w3 ⟨v,rfl,own3,b3⟩;rw [qK] at own3;have HO:=zG ((zU own3.row).wide (ok':=fun i=>w.heap.size<=i) fun i hi _=>Nat.le_trans B2.size hi);obtain ⟨a3,c3,rfl,-,-⟩:=own3.form;clear own3;go_wp2;go_ret;exact ⟨_,rfl,HO.out,B2.trans (b3.mono B2.size)⟩
 case neg=>
  have e2:Sk.ownE op E=E:=(by unfold Sk.ownE;rw [if_neg h14]);rw [e2];have HH:=zG (And.intro hAl hEl);clear hA hE e2 hAl hEl;go_enter Tryz.func30,Tryz.ntmps30;go_upto_region 1 with fail;generalize w.alloc (.cells #[.int .i64 op,.int .i64 k,.int .i64 out,.int .i64 n,.slice aA nA cA,.slice aE nE cE] 40 (0,0))=w1 at b1 kA HA HE ⊢;have d0:=coQ kA 0;have d1:=coQ kA 1;have d2:=coQ kA 2;have d3:=coQ kA 3;have d4:=coQ kA 4;have d5:=coQ kA 5;simp at d0 d1 d2 d3 d4 d5;go_wp2_with fail;refine (vO (ok:=fun i=>i<w.heap.size) op k out n HA.out HE.out HH.out.1 HH.out.2).mono ?_;rintro e w3 ⟨v,rfl,own3,b3⟩;rw [qK] at own3;have HO:=zG ((zU own3.row).wide (ok':=fun i=>w.heap.size<=i) fun i hi _=>Nat.le_trans b1.size hi);obtain ⟨a3,c3,rfl,-,-⟩:=own3.form;clear own3;go_wp2;go_ret;exact ⟨_,rfl,HO.out,b1.trans (b3.mono b1.size)⟩
theorem refNeeds_any {ok:Nat->Prop} {w:World} {r:Sk.Ru} {y:RuV} (hR:HRu ok w y r) (hAl:r.A.length<=1000000) (hEl:r.E.length<=1000000) :
  Calls Tryz.prog 44 #[.agg #[.int .i64 r.op,.int .i64 r.k,.int .i64 r.out,.int .i64 r.n,.slice y.aA y.nA y.cA,.slice y.aE y.nE y.cE]] w fun e w'=>∃ v,e=.returned v/\HInts (fun i=>w.heap.size<=i) w' v (Sk.needs r)/\Below w.heap.size w w':=by
 obtain ⟨op,k,out,n,A,E⟩:=r;obtain ⟨aA,nA,cA,aE,nE,cE⟩:=y;have hA:=hR.A;have hE:=hR.E
 dsimp only at hA hE hAl hEl ⊢
 obtain ⟨ao,cap,ev,hc1,hc2,hat⟩:=hA.at;injection ev with e1 e2 e3;subst e1 e2 e3;unfold maxLen at hc2;have b1:Below w.heap.size w (w.alloc (.cells #[.int .i64 op,.int .i64 k,.int .i64 out,.int .i64 n,.slice aA A.length cA,.slice aE nE cE] 40 (0,0))):=(Below.refl _ _).alloc zL _;have kA:=zJ w (.cells #[.int .i64 op,.int .i64 k,.int .i64 out,.int .i64 n,.slice aA A.length cA,.slice aE nE cE] 40 (0,0));unfold Sk.needs
 dsimp only
 by_cases hp:op=13/\A.length=2
 case pos=>
  rw [if_pos hp];obtain ⟨rfl,hl2⟩:=hp;obtain ⟨bA,oA,rfl,hb,c0⟩:=hat 0 (by omega);have C0:=(b1.cell (p:=⟨bA,oA+0,none⟩) hb).trans c0;have e0:A[0]'(by omega)=A.getD 0 0:=(by simp [List.getD_eq_getElem?_getD,show 0<A.length by omega]);rw [e0,Nat.add_zero] at C0;generalize A.getD 0 0=a0 at C0 ⊢;rw [hl2] at hc1 b1 kA C0 ⊢;clear hR hA hE hat hl2 e0 c0 hAl;go_enter Tryz.func44,Tryz.ntmps44;go_upto_region 1 with fail;generalize w.alloc (.cells #[.int .i64 13,.int .i64 k,.int .i64 out,.int .i64 n,.slice (some ⟨bA,oA,none⟩) 2 cA,.slice aE nE cE] 40 (0,0))=w1 at b1 kA C0 ⊢;have d0:=coQ kA 0;have d4:=coQ kA 4;simp at d0 d4;have HI:=zG (show HInts (fun i=>w.heap.size<=i) (w1.alloc (.cells #[.int .i64 a0] 3 (0,0))) (.slice (some ⟨w1.heap.size,0,none⟩) 1 1) [a0] from zU ((OwnL.lit (T:=kInt) (B:=w.heap.size) (w:=w1) (cs:=[.int .i64 a0]) (x:=a0) b1.size rfl).row));have HB:=zG (b1.alloc b1.size (.cells #[.int .i64 a0] 3 (0,0)));clear kA;go_wp2;go_ret;exact ⟨_,rfl,HI.out,HB.out⟩
 case neg=>
  rw [if_neg hp];unfold Sk.uses
  dsimp only
  have hcond:((op==13)&&((A.length:Int)==2))=false:=by
   cases h1:(op==13)
   ·rfl
   ·cases h2:((A.length:Int)==2)
    ·rfl
    ·exact absurd ⟨by simpa using h1,by have:=(beq_iff_eq.1 h2);omega⟩ hp
  have HU:=zG (used19_any (op:=op) (k:=k) (out:=out) (n:=n) (hA.under b1) (hE.under b1) hAl hEl);generalize usesT A (Sk.ownE op E)=l at HU ⊢;clear hR hA hE hat hp;by_cases h13:op=13
  case pos=>
   subst h13;have hA2:((A.length:Int)==2)=false:=(by simpa using hcond);clear hcond;go_enter Tryz.func44,Tryz.ntmps44;go_upto_region 1 with fail;generalize w.alloc (.cells #[.int .i64 13,.int .i64 k,.int .i64 out,.int .i64 n,.slice aA A.length cA,.slice aE nE cE] 40 (0,0))=w1 at b1 kA HU ⊢;have d0:=coQ kA 0;have d1:=coQ kA 1;have d2:=coQ kA 2;have d3:=coQ kA 3;have d4:=coQ kA 4;have d5:=coQ kA 5;simp at d0 d1 d2 d3 d4 d5;go_wp2_with fail;refine HU.out.mono ?_;rintro e w3 ⟨v,rfl,hv,b3⟩;have HO:=zG (hv.wide (ok':=fun i=>w.heap.size<=i) fun i hi _=>Nat.le_trans b1.size hi);obtain ⟨a3,c3,rfl,-,-,-⟩:=hv.at;clear hv;go_wp2;go_ret;exact ⟨_,rfl,HO.out,b1.trans (b3.mono b1.size)⟩
  case neg=>
   have hb13:(op==13)=false:=(by simpa using h13);clear h13 hcond;go_enter Tryz.func44,Tryz.ntmps44;go_upto_region 1 with fail;generalize w.alloc (.cells #[.int .i64 op,.int .i64 k,.int .i64 out,.int .i64 n,.slice aA A.length cA,.slice aE nE cE] 40 (0,0))=w1 at b1 kA HU ⊢;have d0:=coQ kA 0;have d1:=coQ kA 1;have d2:=coQ kA 2;have d3:=coQ kA 3;have d4:=coQ kA 4;have d5:=coQ kA 5;simp at d0 d1 d2 d3 d4 d5;go_wp2_with fail;refine HU.out.mono ?_;rintro e w3 ⟨v,rfl,hv,b3⟩;have HO:=zG (hv.wide (ok':=fun i=>w.heap.size<=i) fun i hi _=>Nat.le_trans b1.size hi);obtain ⟨a3,c3,rfl,-,-,-⟩:=hv.at;clear hv;go_wp2;go_ret;exact ⟨_,rfl,HO.out,b1.trans (b3.mono b1.size)⟩
theorem jZ (v:Sk.Vr) (w:World):Calls Tryz.prog 21 #[.int .i64 v.n] w fun e w'=>e=.returned (.int .i64 (Sk.cnt v:Nat))/\w=w':=by
 have e:(Sk.cnt v:Int)=if v.n<1 then 1 else v.n:=by
  unfold Sk.cnt
  split<;>omega
 rw [e];by_cases h:v.n<1
 ·rw [if_pos h]
  generalize v.n=n at h;go_enter Tryz.func21,Tryz.ntmps21;go_wp2;go_ret;exact ⟨rfl,rfl⟩
 ·rw [if_neg h]
  generalize v.n=n at h;go_enter Tryz.func21,Tryz.ntmps21;go_wp2;go_ret;exact ⟨rfl,rfl⟩
def pgR:Sk.Ru:=⟨14,0,1,0,[],[⟨3,0,0,0⟩,⟨5,13,0,0⟩]⟩
def pgS:Sk.Sys:=⟨[⟨105,4⟩,⟨105,4⟩],[0],[1],[pgR]⟩
theorem pg_needs:Sk.needs pgR=[0]:=by
 have h:∀ z,z ∈ Sk.needs pgR↔z=0:=fun z=>by
  unfold Sk.needs;rw [if_neg (by decide)];unfold Sk.uses;rw [xJ];simp [pgR,Sk.ownE,nmd]
 have hn:=needs_nodup pgR
 match e:Sk.needs pgR with
 | []=>exact absurd ((h 0).2 rfl) (by rw [e];simp)
 | [y]=>rw [(h y).1 (by rw [e];simp)]
 | y :: z :: r=>
  exfalso
  rw [e,List.nodup_cons] at hn;have h1:=(h y).1 (by rw [e];simp);have h2:=(h z).1 (by rw [e];simp);exact hn.1 (by rw [h1,h2];simp)
theorem pg_spans:Sk.spans pgS=[(-1,0),(0,1)]:=by
 unfold Sk.spans Sk.start pgS;simp only [Sk.needR,Sk.needRu,pg_needs];rfl
theorem jC:Sk.Okay pgS:=by
 refine ⟨by decide,by decide,by decide,by decide,?_,by decide,by decide,by decide,?_,by decide,?_,by decide⟩
 ·intro v hv
  simp [pgS] at hv;subst hv;exact ⟨.inl rfl,by decide⟩
 ·intro r hr
  simp [pgS] at hr;subst hr;refine ⟨by decide,by decide,by decide,fun z hz=>?_,by decide⟩;rw [xJ] at hz;simp [pgR,Sk.ownE,nmd] at hz;subst hz
  decide
 ·intro r hr z hz
  simp [pgS] at hr;subst hr;unfold Sk.uses at hz;rw [xJ] at hz;simp [pgR,Sk.ownE,nmd] at hz;subst hz
  decide
theorem pg_ahead:Sk.Ahead pgS:=by
 intro i hi z hz;have h2:i=0:=(by simp [pgS] at hi;omega);subst h2;have e:Sk.needs pgS.R[0]=[0]:=pg_needs;rw [e] at hz;simp at hz;subst hz;exact .inl (by decide)
theorem jD:Sk.kept pgS pgS.R.length=1:=by decide
theorem pg_first {a:Nat} (hf:Sk.Fit pgS (Sk.spans pgS) (Sk.mayAt pgS (Sk.spans pgS) 0) (Sk.kept pgS pgS.R.length) ⟨List.replicate pgS.V.length (-1),Sk.kept pgS pgS.R.length,[]⟩ (Sk.varAt pgS 0) a):a=1:=by
 have:=hf.first (fun o ho=>by cases ho)
 rw [jD] at this;exact this
theorem pg_second {a:Nat} (hf:Sk.Fit pgS (Sk.spans pgS) (Sk.mayAt pgS (Sk.spans pgS) 1) (Sk.kept pgS pgS.R.length) ⟨[1,-1],5,[0]⟩ (Sk.varAt pgS 1) a):a=1:=by
 have:=hf.first (fun o ho=>by
  simp at ho;subst ho;rw [pg_spans,jD]
  decide)
 rw [jD] at this;exact this
theorem pg_laid {st:Sk.St} (h:Sk.Laid pgS (Sk.spans pgS) 2 st):st.A=[1,1]/\st.c=5:=by
 cases h with
 | step h1 hi1 hf1=>
  cases h1 with
  | step h0 hi0 hf0=>
   cases h0 with
   | start=>
    have e0:=pg_first hf0;subst e0;have e1:=pg_second hf1;subst e1;exact ⟨rfl,rfl⟩
theorem pg_few {i:Nat} {st:Sk.St} (h:Sk.Laid pgS (Sk.spans pgS) i st):st.c<=6000:=by
 obtain ⟨hi,I⟩:=h.inv jC;have hlen:st.L.length=i:=(by rw [I.L];simp);have hin:∀ o ∈ st.L,0<=o/\o<pgS.V.length:=fun o ho=>by
  rw [I.L] at ho;obtain ⟨j,hj,e⟩:=List.mem_map.1 ho;rw [<-e];exact Sk.varAt_in jC (by have:=List.mem_range.1 hj;omega)
 have h1:=Sk.sum_le jC st.L hin;have h3:=I.cells;rw [jD] at h3;have h4:i<=2:=hi;omega
theorem blk_row {α:Type} (T:Kind α) {ok:Nat->Prop} {w:World} {b:Nat} {cur:Array Value} {ty:TypeId} {l:List α} (k:w.heap[b]?=some (.cells cur ty (0,0))) (D:Nat->List Value) (hD:∀ i,i<l.length->(D i).length=T.k/\∀ j,j<T.k->cur[i*T.k+j]?=(D i)[j]?) (hE:∀ i (h:i<l.length),T.E ok w (D i) l[i]) (hob:ok b) (hm:l.length<=maxLen):HRow T ok w (.slice (some ⟨b,0,none⟩) l.length l.length) l :=
 ⟨D,⟨_,_,rfl,Nat.le_refl _,hm,fun _=>⟨b,0,rfl,hob,zH k,fun i hi=>⟨(hD i hi).1,fun j hj=>by
  have e:0+i*T.k+j=i*T.k+j:=(by omega);rw [e];exact (coQ k _).trans ((hD i hi).2 j hj)⟩⟩⟩,hE⟩
theorem pg_one {ok:Nat->Prop} {w:World} {b:Nat} {x:Int} {ty:TypeId} (k:w.heap[b]?=some (.cells #[.int .i64 x] ty (0,0))) (hob:ok b):HInts ok w (.slice (some ⟨b,0,none⟩) 1 1) [x] :=
 zU (blk_row kInt (l:=[x]) k (fun _=>[.int .i64 x]) (fun i hi=>by
  have:i=0:=(by simp at hi;omega);subst this;exact ⟨rfl,fun j hj=>by have h0:j=0:=(by have:j<1:=hj;omega);subst h0;rfl⟩) (fun i hi=>by
  have:i=0:=(by simp at hi;omega);subst this;rfl) hob (by simp [maxLen]))
theorem pg_vars {ok:Nat->Prop} {w:World} {b:Nat} (k:w.heap[b]?=some (.cells #[.int .u8 105,.int .i64 4,.int .u8 105,.int .i64 4] 55 (0,0))) (hob:ok b):HVars ok w (.slice (some ⟨b,0,none⟩) 2 2) pgS.V :=
 vars_row (blk_row kVar (l:=pgS.V) k (fun _=>[.int .u8 105,.int .i64 4]) (fun i hi=>by
  have h2:i=0\/i=1:=(by simp [pgS] at hi;omega);rcases h2 with rfl | rfl
  all_goals exact ⟨rfl,fun j hj=>by have h0:j=0\/j=1:=(by have:j<2:=hj;omega);rcases h0 with rfl | rfl<;>rfl⟩) (fun i hi=>by
  have h2:i=0\/i=1:=(by simp [pgS] at hi;omega);rcases h2 with rfl | rfl<;>rfl) hob (by simp [maxLen,pgS]))
theorem pg_push {ok:Nat->Prop} {w:World} {b:Nat} (k:w.heap[b]?=some (.cells #[.int .i64 3,.int .i64 0,.int .i64 0,.int .i64 0,.int .i64 5,.int .i64 13,.int .i64 0,.int .i64 0] 79 (0,0))) (hob:ok b):HPu ok w (.slice (some ⟨b,0,none⟩) 2 2) pgR.E:=by
 refine ⟨fun i=>if i=0 then [.int .i64 3,.int .i64 0,.int .i64 0,.int .i64 0] else [.int .i64 5,.int .i64 13,.int .i64 0,.int .i64 0],⟨_,_,rfl,Nat.le_refl _,by decide,fun _=>⟨b,0,rfl,hob,zH k,fun i hi=>?_⟩⟩,fun i hi=>?_⟩
 ·have h2:i=0\/i=1:=by simp [pgR] at hi;omega
  rcases h2 with rfl | rfl
  all_goals exact ⟨rfl,fun j hj=>by have h0:j=0\/j=1\/j=2\/j=3:=(by omega);rcases h0 with rfl | rfl | rfl | rfl<;>exact coQ k _⟩
 ·have h2:i=0\/i=1:=by simp [pgR] at hi;omega
  rcases h2 with rfl | rfl<;>rfl
theorem pg_rules {ok:Nat->Prop} {w:World} {b c:Nat} (k:w.heap[b]?=some (.cells #[.int .i64 14,.int .i64 0,.int .i64 1,.int .i64 0,.slice none 0 0,.slice (some ⟨c,0,none⟩) 2 2] 40 (0,0))) (kc:w.heap[c]?=some (.cells #[.int .i64 3,.int .i64 0,.int .i64 0,.int .i64 0,.int .i64 5,.int .i64 13,.int .i64 0,.int .i64 0] 79 (0,0))) (hob:ok b) (hoc:ok c):HRus ok w (.slice (some ⟨b,0,none⟩) 1 1) pgS.R :=
 (blk_row kRu (l:=pgS.R) k (fun i=>[.int .i64 14,.int .i64 0,.int .i64 1,.int .i64 0,.slice none 0 0,.slice (some ⟨c,0,none⟩) 2 2]) (fun i hi=>by
  have h2:i=0:=(by simp [pgS] at hi;omega);subst h2;exact ⟨rfl,fun j hj=>by have h0:j=0\/j=1\/j=2\/j=3\/j=4\/j=5:=(by have:j<6:=hj;omega);rcases h0 with rfl | rfl | rfl | rfl | rfl | rfl<;>rfl⟩) (fun i hi=>by
  have h2:i=0:=(by simp [pgS] at hi;omega);subst h2;have hp:HInts ok w (.slice none 0 0) []:=⟨fun _=>[],Sl.nil,fun j h=>absurd h (Nat.not_lt_zero _)⟩;exact ⟨⟨none,0,0,some ⟨c,0,none⟩,2,2⟩,rfl,⟨hp,pg_push kc hoc⟩⟩) hob (by simp [maxLen,pgS]))
def allocs (w:World):List Obj->World
 | []=>w
 | o :: r=>allocs (w.alloc o) r
theorem xW (w:World):∀ (l:List Obj) (W:World) (B:Nat),Below B w W->B<=W.heap.size->Below B w (allocs W l)
 | [],W,B,h,_=>h
 | o :: r,W,B,h,hB=>xW w r (W.alloc o) B (h.alloc hB o) (by simp;omega)
theorem vT:∀ (l:List Obj) (w:World),(allocs w l).heap.size=w.heap.size+l.length
 | [],w=>rfl
 | o :: r,w=>by unfold allocs;rw [vT r];simp;omega
theorem xE:∀ (l:List Obj) (w:World) (i:Nat) (o:Obj),l[i]?=some o->(allocs w l).heap[w.heap.size+i]?=some o
 | [],w,i,o,h=>by simp at h
 | x :: r,w,0,o,h=>by
  simp at h;subst h;unfold allocs;have b:=xW (w.alloc x) r (w.alloc x) (w.alloc x).heap.size (Below.refl _ _) zL;rw [Nat.add_zero];exact (b.block _ (by simp)).trans (zJ w x)
 | x :: r,w,i+1,o,h=>by
  unfold allocs;have:=xE r (w.alloc x) i o (by simpa using h);have e:(w.alloc x).heap.size+i=w.heap.size+(i+1):=(by simp;omega)
  rwa [e] at this
theorem zAA {w:World} (hG:GlobK w) (hP:GlobP w):Calls Tryz.prog 18 #[] w fun e w'=>e=.returned (.bool true)/\Below w.heap.size w w':=by
 obtain ⟨W,hW⟩:=nmQ ((((((((w.alloc (.cells #[.int .u8 105,.int .i64 4] 55 (0,0))).alloc (.cells #[.int .u8 105,.int .i64 4,.int .u8 105,.int .i64 4] 55 (0,0))).alloc (.cells #[.int .i64 0] 3 (0,0))).alloc (.cells #[.int .i64 1] 3 (0,0))).alloc (.cells #[.int .i64 3,.int .i64 0,.int .i64 0,.int .i64 0,.int .i64 5,.int .i64 13,.int .i64 0,.int .i64 0] 79 (0,0))).alloc (.cells #[.int .i64 14,.int .i64 0,.int .i64 1,.int .i64 0,.slice none 0 0,.slice (some ⟨w.heap.size+4,0,none⟩) 2 2] 40 (0,0))).alloc (.cells #[.slice (some ⟨w.heap.size+1,0,none⟩) 2 2,.slice (some ⟨w.heap.size+2,0,none⟩) 1 1,.slice (some ⟨w.heap.size+3,0,none⟩) 1 1,.slice (some ⟨w.heap.size+5,0,none⟩) 1 1] 26 (0,0))));have hWL:W=allocs w [.cells #[.int .u8 105,.int .i64 4] 55 (0,0),.cells #[.int .u8 105,.int .i64 4,.int .u8 105,.int .i64 4] 55 (0,0),.cells #[.int .i64 0] 3 (0,0),.cells #[.int .i64 1] 3 (0,0),.cells #[.int .i64 3,.int .i64 0,.int .i64 0,.int .i64 0,.int .i64 5,.int .i64 13,.int .i64 0,.int .i64 0] 79 (0,0),.cells #[.int .i64 14,.int .i64 0,.int .i64 1,.int .i64 0,.slice none 0 0,.slice (some ⟨w.heap.size+4,0,none⟩) 2 2] 40 (0,0),.cells #[.slice (some ⟨w.heap.size+1,0,none⟩) 2 2,.slice (some ⟨w.heap.size+2,0,none⟩) 1 1,.slice (some ⟨w.heap.size+3,0,none⟩) 1 1,.slice (some ⟨w.heap.size+5,0,none⟩) 1 1] 26 (0,0)]:=hW;have bW:Below w.heap.size w W:=(by rw [hWL];exact xW w _ w _ (Below.refl _ _) zL);have zW:W.heap.size=w.heap.size+7:=(by rw [hWL,vT];rfl);have K0:W.heap[w.heap.size+0]?=some (.cells #[.int .u8 105,.int .i64 4] 55 (0,0)):=(by rw [hWL];exact xE _ w 0 _ rfl);have K1:W.heap[w.heap.size+1]?=some (.cells #[.int .u8 105,.int .i64 4,.int .u8 105,.int .i64 4] 55 (0,0)):=(by rw [hWL];exact xE _ w 1 _ rfl);have K2:W.heap[w.heap.size+2]?=some (.cells #[.int .i64 0] 3 (0,0)):=(by rw [hWL];exact xE _ w 2 _ rfl);have K3:W.heap[w.heap.size+3]?=some (.cells #[.int .i64 1] 3 (0,0)):=(by rw [hWL];exact xE _ w 3 _ rfl);have K4:W.heap[w.heap.size+4]?=some (.cells #[.int .i64 3,.int .i64 0,.int .i64 0,.int .i64 0,.int .i64 5,.int .i64 13,.int .i64 0,.int .i64 0] 79 (0,0)):=(by rw [hWL];exact xE _ w 4 _ rfl);have K5:W.heap[w.heap.size+5]?=some (.cells #[.int .i64 14,.int .i64 0,.int .i64 1,.int .i64 0,.slice none 0 0,.slice (some ⟨w.heap.size+4,0,none⟩) 2 2] 40 (0,0)):=(by rw [hWL];exact xE _ w 5 _ rfl);have K6:W.heap[w.heap.size+6]?=some (.cells #[.slice (some ⟨w.heap.size+1,0,none⟩) 2 2,.slice (some ⟨w.heap.size+2,0,none⟩) 1 1,.slice (some ⟨w.heap.size+3,0,none⟩) 1 1,.slice (some ⟨w.heap.size+5,0,none⟩) 1 1] 26 (0,0)):=(by rw [hWL];exact xE _ w 6 _ rfl);have hS:HSys (fun i=>i<w.heap.size+7) W (some ⟨w.heap.size+1,0,none⟩) (some ⟨w.heap.size+2,0,none⟩) (some ⟨w.heap.size+3,0,none⟩) (some ⟨w.heap.size+5,0,none⟩) 2 1 1 1 pgS:=⟨pg_vars K1 (by show _<_;omega),pg_one K2 (by show _<_;omega),pg_one K3 (by show _<_;omega),pg_rules K5 K4 (by show _<_;omega) (by show _<_;omega)⟩;have hmk:=make_any (hG.under bW) (hP.under bW) hS (by decide);have HMK:=zG hmk;have HW:=zG (And.intro bW zW);have HW2:=zG hW;clear hmk bW zW hS hW hWL K0 K1 K2 K3 K4 K5 hG hP;go_enter Tryz.func18,Tryz.ntmps18;go_upto_region 3 with fail;rw [<-HW2.out];clear HW2;have k0:=coQ K6 0;have k1:=coQ K6 1;have k2:=coQ K6 2;have k3:=coQ K6 3;simp at k0 k1 k2 k3;go_wp2_with fail;refine HMK.out.mono ?_;intro e w2 hp;clear HMK k0 k1 k2 k3 K6;unfold MakePost at hp;rcases hp with ⟨c,a,hc,hwhy,-⟩ | ⟨-,-,ga,gk,K,st,rfl,-,-,hld,-,hia,-,b2⟩
 case inl=>
  rcases hwhy with q | ⟨i,st,q1,q2⟩
  ·exact absurd (q.det (.inr (.inr ⟨jC,pg_ahead,rfl,rfl⟩))).1 hc
  ·have:=pg_few q1
   omega
 have hl:=pg_laid hld;rw [hl.1] at hia;have hcc:((st.c:Nat):Int)=5:=(by rw [hl.2];rfl);rw [hcc,show pgS.V.length=2 from rfl,show pgS.R.length=1 from rfl];have B2:=HW.out.1.trans (b2.mono HW.out.1.size);have b3:Below w2.heap.size w2 (w2.alloc (.cells #[.slice (some ⟨ga,0,none⟩) 2 2,.slice (some ⟨gk,0,none⟩) 1 1,.int .i64 5] 48 (0,0))):=(Below.refl _ _).alloc zL _;have b4:=b3.alloc b3.size (.cells #[.int .i64 0,.int .i64 0] 30 (0,0));have kP:((w2.alloc (.cells #[.slice (some ⟨ga,0,none⟩) 2 2,.slice (some ⟨gk,0,none⟩) 1 1,.int .i64 5] 48 (0,0))).alloc (.cells #[.int .i64 0,.int .i64 0] 30 (0,0))).heap[w2.heap.size]?=some (.cells #[.slice (some ⟨ga,0,none⟩) 2 2,.slice (some ⟨gk,0,none⟩) 1 1,.int .i64 5] 48 (0,0)):=(Below.heap_alloc _ _ _ (by simp)).trans (zJ w2 _);have kF:((w2.alloc (.cells #[.slice (some ⟨ga,0,none⟩) 2 2,.slice (some ⟨gk,0,none⟩) 1 1,.int .i64 5] 48 (0,0))).alloc (.cells #[.int .i64 0,.int .i64 0] 30 (0,0))).heap[w2.heap.size+1]?=some (.cells #[.int .i64 0,.int .i64 0] 30 (0,0)):=by
  have:=zJ (w2.alloc (.cells #[.slice (some ⟨ga,0,none⟩) 2 2,.slice (some ⟨gk,0,none⟩) 1 1,.int .i64 5] 48 (0,0))) (.cells #[.int .i64 0,.int .i64 0] 30 (0,0))
  simpa using this
 have hia4:=hia.under b4;have B4:=B2.trans (b4.mono B2.size);clear HW b2 b3 hia hl hcc hld;go_upto_region 4 with fail;have hrw:∀ n:Nat,True:=fun _=>trivial;clear hrw;generalize (w2.alloc (.cells #[.slice (some ⟨ga,0,none⟩) 2 2,.slice (some ⟨gk,0,none⟩) 1 1,.int .i64 5] 48 (0,0))).alloc (.cells #[.int .i64 0,.int .i64 0] 30 (0,0))=w3 at b4 kP kF hia4 B4 ⊢;have p0:=coQ kP 0;have p2:=coQ kP 2;have f0:=coQ kF 0;simp at p0 p2 f0;have b5:Below w3.heap.size w3 (w3.alloc (.cells #[.int .i64 1,.int .i64 1] 3 (0,0))):=(Below.refl _ _).alloc zL _;have k5:=zJ w3 (.cells #[.int .i64 1,.int .i64 1] 3 (0,0));have hsi:=sameInts_any ((hia4.under b5).ints (ok:=fun _=>True) (by decide) trivial) (IB.ints (l:=[1,1]) (show IB _ _ [1,1] from k5) (ok:=fun _=>True) (by decide) trivial);have eqt:eqL ieq [1,1] [1,1]=true:=(by decide);rw [eqt] at hsi;have B5:=B4.trans (b5.mono B4.size);have HB5:=zG B5;clear hia4 kP kF k5 b5 B5;go_wp2_with fail;refine hsi.mono ?_;rintro e w6 ⟨rfl,m,rfl⟩;clear hsi;go_wp2;go_ret;exact ⟨rfl,vR HB5.out _⟩
end Go.Proofs.YtegakbobaecdlaaGreatDoor
