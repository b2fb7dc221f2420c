import Derived.Test.YtegakbobaecdlaaGreatDoorK41
import Derived.WalkKit
import Derived.WalkSpells
import Derived.IntWalk
import Derived.Deep.Cut
import Derived.Deep.LoopGhost
import Derived.Ground.NamesProg
import Derived.Laws.Cover1
import Derived.Laws.EntriesVeiled
import Derived.Laws.Externs
import Derived.Lib.Hide
import Derived.Lib.MakeNoZero
import Derived.Lib.SlBuf
import Derived.Maps.OwnSet
import Derived.Shelf.Bytes.SlSmallAll
import Derived.Shelf.Lay
set_option linter.unusedVariables false
set_option linter.unusedSimpArgs false
set_option maxHeartbeats 64000000
set_option maxRecDepth 100000
namespace Go.Proofs.YtegakbobaecdlaaGreatDoor
open Go.RowKit Go.IntWalk
theorem cells25_any (n:Int) (w:World):Calls Tryz.prog 21 #[.int .i64 n] w fun e w'=>(∃ x:Int,e=.returned (.int .i64 x))/\w'=w:=by
 by_cases h:n<1
 ·go_enter Tryz.func21,Tryz.ntmps21
  go_wp2;go_ret;exact ⟨⟨_,rfl⟩,rfl⟩
 ·go_enter Tryz.func21,Tryz.ntmps21
  go_wp2;go_ret;exact ⟨⟨_,rfl⟩,rfl⟩
structure GreatR (w:World) (S:Sk.Sys) (e:Ending) (w':World):Prop where
 out:∃ b,e=.returned (.bool b)/\(b=false->(S.V.length<=150/\S.I.length<=150/\S.O.length<=150/\S.R.length<=150)/\∀ r ∈ S.R,r.A.length<=100/\r.E.length<=1000)/\Below w.heap.size w w'
theorem great8_any {ok:Nat->Prop} {w:World} {aV aI aO aR:Option Addr} {cV cI cO cR:Nat} {S:Sk.Sys} (hS:HSys ok w aV aI aO aR cV cI cO cR S) :
  Calls Tryz.prog 8 #[.agg #[.slice aV S.V.length cV,.slice aI S.I.length cI,.slice aO S.O.length cO,.slice aR S.R.length cR],.int .i64 150] w (GreatR w S):=by
 obtain ⟨aoV,cpV,evV,hV1,hV2,-⟩:=hS.V.at;injection evV with q1 q2 q3;subst q1 q3;obtain ⟨aoR,cpR,evR,hR1,hR2,-⟩:=hS.R.at;injection evR with q1 q2b q3;subst q1 q3;obtain ⟨aoI,cpI,evI,hI1,hI2,-⟩:=hS.I.at;injection evI with q1 q2c q3;subst q1 q3;obtain ⟨aoO,cpO,evO,hO1,hO2,-⟩:=hS.O.at;injection evO with q1 q2d q3;subst q1 q3;unfold maxLen at hV2 hR2 hI2 hO2;clear q2 q2b q2c q2d;have b1:Below w.heap.size w (w.alloc (.cells #[.slice aV S.V.length cV,.slice aI S.I.length cI,.slice aO S.O.length cO,.slice aR S.R.length cR] 26 (0,0))):=(Below.refl _ _).alloc zM _;have kS:=zI w (.cells #[.slice aV S.V.length cV,.slice aI S.I.length cI,.slice aO S.O.length cO,.slice aR S.R.length cR] 26 (0,0));have HS:=zE (hS.under b1);clear hS;by_cases hV:150<S.V.length
 case pos=>
  go_enter Tryz.func8,Tryz.ntmps8;go_upto_region 1 with fail;generalize w.alloc (.cells #[.slice aV S.V.length cV,.slice aI S.I.length cI,.slice aO S.O.length cO,.slice aR S.R.length cR] 26 (0,0))=w1 at b1 kS HS ⊢;have k0:=coQ kS 0;have k1:=coQ kS 1;have k2:=coQ kS 2;have k3:=coQ kS 3;simp at k0 k1 k2 k3;go_wp2;go_ret;exact ⟨⟨true,rfl,fun h=>(by cases h),b1⟩⟩
 case neg=>
  by_cases hR:150<S.R.length
  case pos=>
   go_enter Tryz.func8,Tryz.ntmps8;go_upto_region 1 with fail;generalize w.alloc (.cells #[.slice aV S.V.length cV,.slice aI S.I.length cI,.slice aO S.O.length cO,.slice aR S.R.length cR] 26 (0,0))=w1 at b1 kS HS ⊢;have k0:=coQ kS 0;have k1:=coQ kS 1;have k2:=coQ kS 2;have k3:=coQ kS 3;simp at k0 k1 k2 k3;go_wp2;go_ret;exact ⟨⟨true,rfl,fun h=>(by cases h),b1⟩⟩
  case neg=>
   by_cases hI:150<S.I.length
   case pos=>
    go_enter Tryz.func8,Tryz.ntmps8;go_upto_region 1 with fail;generalize w.alloc (.cells #[.slice aV S.V.length cV,.slice aI S.I.length cI,.slice aO S.O.length cO,.slice aR S.R.length cR] 26 (0,0))=w1 at b1 kS HS ⊢;have k0:=coQ kS 0;have k1:=coQ kS 1;have k2:=coQ kS 2;have k3:=coQ kS 3;simp at k0 k1 k2 k3;go_wp2;go_ret;exact ⟨⟨true,rfl,fun h=>(by cases h),b1⟩⟩
   case neg=>
    by_cases hO:150<S.O.length
    case pos=>
     go_enter Tryz.func8,Tryz.ntmps8;go_upto_region 1 with fail;generalize w.alloc (.cells #[.slice aV S.V.length cV,.slice aI S.I.length cI,.slice aO S.O.length cO,.slice aR S.R.length cR] 26 (0,0))=w1 at b1 kS HS ⊢;have k0:=coQ kS 0;have k1:=coQ kS 1;have k2:=coQ kS 2;have k3:=coQ kS 3;simp at k0 k1 k2 k3;go_wp2;go_ret;exact ⟨⟨true,rfl,fun h=>(by cases h),b1⟩⟩
    case neg=>
     go_enter Tryz.func8,Tryz.ntmps8;go_upto_region 1 with fail;generalize w.alloc (.cells #[.slice aV S.V.length cV,.slice aI S.I.length cI,.slice aO S.O.length cO,.slice aR S.R.length cR] 26 (0,0))=w1 at b1 kS HS ⊢;have k0:=coQ kS 0;have k1:=coQ kS 1;have k2:=coQ kS 2;have k3:=coQ kS 3;simp at k0 k1 k2 k3;have yS:=zG kS;go_wp2_with fail;go_loopg [5,6] S.V.length (fun k u v wr=>∃ (i:Nat) (x:Int),i<=S.V.length/\k=S.V.length-i/\u=.int .i64 x/\v=.int .i64 (i:Nat)/\wr=w1)
     case atStart=>exact ⟨0,0,Nat.zero_le _,rfl,rfl,rfl,rfl⟩
     case round=>
      obtain ⟨i,x,hi,rfl,rfl,rfl,rfl⟩:=hrel;by_cases hlt:i<S.V.length
      case pos=>
       obtain ⟨ao,cp,e1,-,-,hat⟩:=HS.out.V.at;injection e1 with q1 q2 q3;obtain ⟨bV,oV,hbV,yV,x0,y0⟩:=hat i hlt;rw [hbV] at q1;subst q1;generalize S.V[i]=va at x0 y0;obtain ⟨ve,vn⟩:=va;simp only at x0 y0;clear hat q2 q3 hbV;by_cases hm:1000<vn
       case pos=>
        go_wp2;go_ret;exact ⟨⟨true,rfl,fun h=>(by cases h),b1⟩⟩
       case neg=>
        go_wp2_with fail;refine (cells25_any _ _).mono ?_;rintro e w2 ⟨⟨cx,rfl⟩,rfl⟩;go_wp2_with fail;go_roundg (S.V.length-(i+1))
        case measure=>omega
        case rel=>exact ⟨i+1,_,by omega,rfl,rfl,by go_num,rfl⟩
      case neg=>
       have hin:i=S.V.length:=(by omega);subst hin;obtain ⟨wL,hwL⟩:=nmQ (wr);subst hwL;have HK:=zE kS;go_wp2_with fail;go_loopg [5,7] S.R.length (fun k u v wr=>∃ (i:Nat) (x:Int),i<=S.R.length/\k=S.R.length-i/\u=.int .i64 x/\v=.int .i64 (i:Nat)/\Hid (∀ r ∈ S.R.take i,r.A.length<=100/\r.E.length<=1000)/\Below wL.heap.size wL wr)
       case atStart=>exact ⟨0,_,Nat.zero_le _,rfl,rfl,rfl,zE (by simp),Below.refl _ _⟩
       case round=>
        clear k0 k1 k2 k3 kS;obtain ⟨i,x,hi,rfl,rfl,rfl,HF,hbr⟩:=hrel;have zr:=hbr.size;have B:=b1.trans (hbr.mono b1.size);have kSr:=(hbr.block _ yS).trans HK.out;have k3:=coQ kSr 3;simp at k3;by_cases hlt:i<S.R.length
        case neg=>
         have hin:i=S.R.length:=(by omega);subst hin;rw [List.take_length] at HF;go_wp2;go_ret;exact ⟨⟨_,rfl,fun _=>⟨⟨by omega,by omega,by omega,by omega⟩,HF.out⟩,B⟩⟩
        case pos=>
         obtain ⟨ao',cap',eqs,-,-,hat2⟩:=(HS.out.under hbr).R.at;injection eqs with q1 q2 q3;obtain ⟨bR,oR,y,hbR,yb,hat,hru⟩:=hat2 i hlt;rw [hbR] at q1;subst q1;obtain ⟨r,hr⟩:=nmQ (S.R[i]);have hsn:S.R.take (i+1)=S.R.take i++[r]:=(by rw [List.take_succ_eq_append_getElem hlt,hr]);rw [<-hr] at hat hru;obtain ⟨d0,d1,d2,d3,d4,d5⟩:=hat;have lA:y.nA=r.A.length:=(by obtain ⟨a',c',e',-⟩:=hru.A.at;injection e' with _ e' _);have lE:y.nE=r.E.length:=(by obtain ⟨a',c',e',-⟩:=hru.E.at;injection e' with _ e' _);have cA:y.nA<=9223372036854775807:=(by obtain ⟨a',c',e',h1,h2,-⟩:=hru.A.at;unfold maxLen at h2;injection e' with _ e' _;omega);have cE:y.nE<=9223372036854775807:=(by obtain ⟨a',c',e',h1,h2,-⟩:=hru.E.at;unfold maxLen at h2;injection e' with _ e' _;omega);have HSN:=zE hsn;have HLE:=zE (And.intro lA lE);have bA:Below wr.heap.size wr (wr.alloc (.cells #[.int .i64 r.op,.int .i64 r.k,.int .i64 r.out,.int .i64 r.n,.slice y.aA y.nA y.cA,.slice y.aE y.nE y.cE] 40 (0,0))):=(Below.refl _ _).alloc zM _;have kV:=zI wr (.cells #[.int .i64 r.op,.int .i64 r.k,.int .i64 r.out,.int .i64 r.n,.slice y.aA y.nA y.cA,.slice y.aE y.nE y.cE] 40 (0,0));obtain ⟨rop,rk,rout,rn,rA,rE⟩:=r;obtain ⟨yaA,ynA,ycA,yaE,ynE,ycE⟩:=y;simp only at d0 d1 d2 d3 d4 d5 HLE bA kV cA cE;clear hat2 q2 q3 hbR hr hsn hru lA lE;go_upto_region 14 with fail;generalize wr.alloc (.cells #[.int .i64 rop,.int .i64 rk,.int .i64 rout,.int .i64 rn,.slice yaA ynA ycA,.slice yaE ynE ycE] 40 (0,0))=wA at bA kV ⊢;have v0:=coQ kV 0;have v1:=coQ kV 1;have v2:=coQ kV 2;have v3:=coQ kV 3;have v4:=coQ kV 4;have v5:=coQ kV 5;simp at v0 v1 v2 v3 v4 v5;have BA:=hbr.trans (bA.mono zr);have BB:=b1.trans (BA.mono b1.size);clear d0 d1 d2 d3 d4 d5 kV k3;by_cases hA:100<ynA
         case pos=>
          go_wp2;go_ret;exact ⟨⟨true,rfl,fun h=>(by cases h),BB⟩⟩
         case neg=>
          by_cases hE:1000<ynE
          case pos=>
           go_wp2;go_ret;exact ⟨⟨true,rfl,fun h=>(by cases h),BB⟩⟩
          case neg=>
           have HF2:=zE (show ∀ r ∈ S.R.take (i+1),r.A.length<=100/\r.E.length<=1000 from fun r hr=>by
            rw [HSN.out] at hr;rcases List.mem_append.1 hr with q | q
            ·exact HF.out r q
            ·simp at q
             subst q;have:=HLE.out;simp only;omega)
           cases h15:(rop==15)
           case false=>
            go_wp2_with fail;go_roundg (S.R.length-(i+1))
            case measure=>omega
            case rel=>exact ⟨i+1,_,by omega,rfl,rfl,by go_num,HF2,BA⟩
           case true=>
            by_cases hN:1000<rn
            case pos=>
             go_wp2;go_ret;exact ⟨⟨true,rfl,fun h=>(by cases h),BB⟩⟩
            case neg=>
             go_wp2_with fail;go_roundg (S.R.length-(i+1))
             case measure=>omega
             case rel=>exact ⟨i+1,_,by omega,rfl,rfl,by go_num,HF2,BA⟩
theorem vK (A:List Int) (E:List Pu):foldI (usesL A E)=usesT A E:=foldI_eq _
theorem usesT_nodup (A:List Int) (E:List Pu):(usesT A E).Nodup:=by
 rw [<-vK];obtain ⟨h1,-⟩:=zAf (usesL A E) [] (by simp [SS]);exact List.Pairwise.imp (fun h=>by omega) h1
theorem jZ (r:Sk.Ru):(Sk.needs r).Nodup:=by
 unfold Sk.needs
 split
 ·simp
 ·exact usesT_nodup _ _
theorem zAp {ok:Nat->Prop} {w:World} {op k out n:Int} {aA aE:Option Addr} {nA cA nE cE:Nat} {A:List Int} {E:List Pu} (hA:HInts ok w (.slice aA nA cA) A) (hE:HPu ok w (.slice aE nE cE) E) (hAl:A.length<=1000000) (hEl:E.length<=1000000) :
  Calls Tryz.prog 30 #[.agg #[.int .i64 op,.int .i64 k,.int .i64 out,.int .i64 n,.slice aA nA cA,.slice aE nE cE]] w fun e w'=>∃ v,e=.returned v/\HInts (fun i=>w.heap.size<=i) w' v (usesT A (Sk.ownE op E))/\Below w.heap.size w w':=by
 have b1:Below w.heap.size w (w.alloc (.cells #[.int .i64 op,.int .i64 k,.int .i64 out,.int .i64 n,.slice aA nA cA,.slice aE nE cE] 40 (0,0))):=(Below.refl _ _).alloc zM _;have kA:=zI w (.cells #[.int .i64 op,.int .i64 k,.int .i64 out,.int .i64 n,.slice aA nA cA,.slice aE nE cE] 40 (0,0));have HA:=zE ((hA.wide (ok':=fun i=>i<w.heap.size) fun i _ h=>h).under b1);have HE:=zE ((hE.wide (ok':=fun i=>i<w.heap.size) fun i _ h=>h).under b1);by_cases h14:op<14
 case pos=>
  have e2:Sk.ownE op E=[]:=(by unfold Sk.ownE;rw [if_pos h14]);rw [e2];have HH:=zE hAl;clear hA hE e2 hAl hEl HE;go_enter Tryz.func30,Tryz.ntmps30;go_upto_region 1 with fail;generalize w.alloc (.cells #[.int .i64 op,.int .i64 k,.int .i64 out,.int .i64 n,.slice aA nA cA,.slice aE nE cE] 40 (0,0))=w1 at b1 kA HA ⊢;have d0:=coQ kA 0;have d1:=coQ kA 1;have d2:=coQ kA 2;have d3:=coQ kA 3;have d4:=coQ kA 4;have d5:=coQ kA 5;simp at d0 d1 d2 d3 d4 d5;have f5:=foQ kA 5;have KR:=zJ kA 5 (.slice none 0 0);simp at KR;have B2:=b1.setCell (p:=⟨w.heap.size,5,none⟩) zM (.slice none 0 0);have hs2:(w1.setCell ⟨w.heap.size,5,none⟩ (.slice none 0 0)).heap.size=w1.heap.size:=(by simp [World.setCell]);have HA2:=zE (HA.out.keep (w':=w1.setCell ⟨w.heap.size,5,none⟩ (.slice none 0 0)) (by omega) (fun i hi _=>heap_set_o8 _ _ _ (by show w.heap.size≠i;have h1:i<w.heap.size:=hi;omega)));go_upto_region 3 with fail;generalize w1.setCell ⟨w.heap.size,5,none⟩ (.slice none 0 0)=w2 at KR B2 HA2 hs2 ⊢;clear d0 d1 d2 d3 d4 d5 f5;have g0:=coQ KR 0;have g1:=coQ KR 1;have g2:=coQ KR 2;have g3:=coQ KR 3;have g4:=coQ KR 4;have g5:=coQ KR 5;simp at g0 g1 g2 g3 g4 g5;go_wp2_with fail;refine (jX (ok:=fun i=>i<w.heap.size) op k out n HA2.out HPu.hnil HH.out (Nat.zero_le _)).mono ?_;rintro e w3 ⟨v,rfl,own3,b3⟩;rw [vK] at own3;have HO:=zE ((zR own3.row).wide (ok':=fun i=>w.heap.size<=i) fun i hi _=>Nat.le_trans B2.size hi);obtain ⟨a3,c3,rfl,-,-⟩:=own3.form;clear own3;go_wp2;go_ret;exact ⟨_,rfl,HO.out,B2.trans (b3.mono B2.size)⟩
 case neg=>
  have e2:Sk.ownE op E=E:=(by unfold Sk.ownE;rw [if_neg h14]);rw [e2];have HH:=zE (And.intro hAl hEl);clear hA hE e2 hAl hEl;go_enter Tryz.func30,Tryz.ntmps30;go_upto_region 1 with fail;generalize w.alloc (.cells #[.int .i64 op,.int .i64 k,.int .i64 out,.int .i64 n,.slice aA nA cA,.slice aE nE cE] 40 (0,0))=w1 at b1 kA HA HE ⊢;have d0:=coQ kA 0;have d1:=coQ kA 1;have d2:=coQ kA 2;have d3:=coQ kA 3;have d4:=coQ kA 4;have d5:=coQ kA 5;simp at d0 d1 d2 d3 d4 d5;go_wp2_with fail;refine (jX (ok:=fun i=>i<w.heap.size) op k out n HA.out HE.out HH.out.1 HH.out.2).mono ?_;rintro e w3 ⟨v,rfl,own3,b3⟩;rw [vK] at own3;have HO:=zE ((zR own3.row).wide (ok':=fun i=>w.heap.size<=i) fun i hi _=>Nat.le_trans b1.size hi);obtain ⟨a3,c3,rfl,-,-⟩:=own3.form;clear own3;go_wp2;go_ret;exact ⟨_,rfl,HO.out,b1.trans (b3.mono b1.size)⟩
theorem cells9_any (v:Sk.Vr) (w:World):Calls Tryz.prog 21 #[.int .i64 v.n] w fun e w'=>e=.returned (.int .i64 (Sk.cnt v:Nat))/\w=w':=by
 have e:(Sk.cnt v:Int)=if v.n<1 then 1 else v.n:=by
  unfold Sk.cnt
  split<;>omega
 rw [e];by_cases h:v.n<1
 ·rw [if_pos h]
  generalize v.n=n at h;go_enter Tryz.func21,Tryz.ntmps21;go_wp2;go_ret;exact ⟨rfl,rfl⟩
 ·rw [if_neg h]
  generalize v.n=n at h;go_enter Tryz.func21,Tryz.ntmps21;go_wp2;go_ret;exact ⟨rfl,rfl⟩
end Go.Proofs.YtegakbobaecdlaaGreatDoor
