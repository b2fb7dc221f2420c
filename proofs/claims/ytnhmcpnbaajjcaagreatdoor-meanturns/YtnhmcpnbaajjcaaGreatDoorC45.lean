import Derived.Test.YtnhmcpnbaajjcaaGreatDoorC44
import Derived.Deep.Cut
import Derived.Deep.LoopGhost
import Derived.Ground.NamesProg
import Derived.IntWalk
import Derived.Laws.Cover1
import Derived.Laws.EntriesVeiled
import Derived.Laws.Externs
import Derived.Lib.Hide
import Derived.Lib.MakeNoZero
import Derived.Lib.SlBuf
import Derived.Maps.OwnSet
import Derived.Shelf.Bytes.SlSmallAll
import Derived.Shelf.Lay
import Derived.WalkKit
import Derived.WalkSpells
set_option linter.unusedVariables false
set_option linter.unusedSimpArgs false
set_option maxHeartbeats 64000000
set_option maxRecDepth 100000
namespace Go.Proofs.YtnhmcpnbaajjcaaGreatDoor
open Go.RowKit Go.IntWalk
theorem qG {ok ok':Nat->Prop} {w:World} {u v:Value} {l:List Int} (hu:HInts ok w u l) (hv:HInts ok' w v l) :
  Calls Tryz.prog 22 #[u,v] w fun e w'=>e=.returned (.bool true)/\Below w.heap.size w w':=by
 obtain ⟨aU,cU,rfl,hu1,hu2,-⟩:=hu.at;obtain ⟨aV,cV,rfl,hv1,hv2,-⟩:=hv.at;unfold maxLen at hu2 hv2;have HU:=zD hu;have HV:=zD hv;obtain ⟨n,hn⟩:=nmQ (l.length);rw [<-hn] at hu1 hv1 ⊢;have HN:=zD hn;clear hu hv hn;go_enter Tryz.func22,Tryz.ntmps22;go_wp2_with fail;go_loopg [5] n (fun k v wr=>∃ (i:Nat),i<=n/\k=n-i/\v=.int .i64 (i:Nat)/\Below w.heap.size w wr)
 case atStart=>exact ⟨0,Nat.zero_le _,rfl,rfl,Below.refl _ _⟩
 case round=>
  obtain ⟨i,hi,rfl,rfl,hbr⟩:=hrel;have zr:=hbr.size;by_cases hlt:i<n
  case neg=>
   have hin:i=n:=(by omega);subst hin;go_wp2;go_ret;exact ⟨rfl,hbr⟩
  case pos=>
   have hil:i<l.length:=(by have:=HN.out;omega);obtain ⟨ao,cp,e1,-,-,hat⟩:=(HU.out.under hbr).at;injection e1 with q1 q2 q3;obtain ⟨b1,o1,hb1,y1,x1⟩:=hat i hil;rw [hb1] at q1;subst q1;obtain ⟨ao2,cp2,e2,-,-,hat2⟩:=(HV.out.under hbr).at;injection e2 with z1 z2 z3;obtain ⟨b2,o2,hb2,y2,x2⟩:=hat2 i hil;rw [hb2] at z1;subst z1;generalize l[i]=y at x1 x2;clear hat hat2 q2 q3 z2 z3 hb1 hb2 hil;go_upto_region 6 with fail;refine zK (fun w'=>Below wr.heap.size wr w') (fun _=>false) (by kernel_rfl) ?_;have hH0:Below wr.heap.size wr wr.drew:=(Below.refl _ _).drew;generalize wr.drew=wd0 at hH0 ⊢;refine' tkR 0 17 hH0 ?o1
   refine' tkR 1 18 hH0 ?o2
   refine' tkR 2 19 hH0 ?o3
   refine' tkQ 3 20 hH0 ?hyv ?o4
   case hyv=>
    intro wz hSw;have zc0:=(hSw.cell (p:=⟨b1,o1+i,none⟩) y1).trans x1;have zc1:=(hSw.cell (p:=⟨b2,o2+i,none⟩) y2).trans x2;go_simp
    try rfl
   try simp only [Act.put,sT,sZ,sS]
   refine' tkR 4 21 hH0 ?o5
   refine' tkR 5 22 hH0 ?o6
   refine' tkR 6 23 hH0 ?o7
   refine' tkQ 7 24 hH0 ?hyv ?o8
   case hyv=>
    intro wz hSw;have zc0:=(hSw.cell (p:=⟨b1,o1+i,none⟩) y1).trans x1;have zc1:=(hSw.cell (p:=⟨b2,o2+i,none⟩) y2).trans x2;go_simp
    try rfl
   try simp only [Act.put,sT,sZ,sS]
   refine' tkR 8 25 hH0 ?o9
   refine zJ (by kernel_rfl) ?_ _;clear x1 x2;have BE:=hbr.trans (hH0.mono hbr.size);go_wp2_with fail;go_roundg (n-(i+1))
   case measure=>omega
   case rel=>exact ⟨i+1,by omega,rfl,by go_num,BE⟩
structure RowsR (w:World) (n:Nat) (e:Ending) (w':World):Prop where
 out:∃ b,e=.returned (.bool b)/\(b=false->n<=60)/\Below w.heap.size w w'
theorem zAq {ok:Nat->Prop} {w:World} {u:Value} {L:List (List Int)} (hu:HRow kLL ok w u L):Calls Tryz.prog 19 #[u] w (RowsR w L.length):=by
 obtain ⟨aU,cU,rfl,hu1,hu2,-⟩:=hu.llAt;unfold maxLen at hu2;have HU:=zD hu;obtain ⟨n,hn⟩:=nmQ (L.length);rw [<-hn] at hu1 ⊢;have HN:=zD hn;clear hu hn;by_cases h60:60<n
 case pos=>
  go_enter Tryz.func19,Tryz.ntmps19;go_wp2;go_ret;exact ⟨⟨true,rfl,fun h=>(by cases h),Below.refl _ _⟩⟩
 case neg=>
  have h61:n<=60:=(by omega);go_enter Tryz.func19,Tryz.ntmps19;go_wp2_with fail;go_loopg [3] n (fun k v wr=>∃ (i:Nat),i<=n/\k=n-i/\v=.int .i64 (i:Nat)/\wr=w)
  case atStart=>exact ⟨0,Nat.zero_le _,rfl,rfl,rfl⟩
  case round=>
   obtain ⟨i,hi,rfl,rfl,rfl⟩:=hrel;by_cases hlt:i<n
   case neg=>
    have hin:i=n:=(by omega);subst hin;go_wp2;go_ret;exact ⟨⟨false,rfl,fun _=>h61,Below.refl _ _⟩⟩
   case pos=>
    have hil:i<L.length:=(by have:=HN.out;omega);obtain ⟨ao,cp,e1,-,-,hat⟩:=HU.out.llAt;injection e1 with q1 q2 q3;obtain ⟨b1,o1,v1,hb1,y1,x1,hi1⟩:=hat i hil;rw [hb1] at q1;subst q1;obtain ⟨a2,c2,rfl,-,hc2,-⟩:=hi1.at;unfold maxLen at hc2;generalize (L[i]).length=m at x1;clear hat q2 q3 hb1 hil hi1;by_cases hm:10000<m
    case pos=>
     go_wp2;go_ret;exact ⟨⟨true,rfl,fun h=>(by cases h),Below.refl _ _⟩⟩
    case neg=>
     go_wp2_with fail;go_roundg (n-(i+1))
     case measure=>omega
     case rel=>exact ⟨i+1,by omega,rfl,by go_num,rfl⟩
theorem cells25_any (n:Int) (w:World):Calls Tryz.prog 25 #[.int .i64 n] w fun e w'=>(∃ x:Int,e=.returned (.int .i64 x))/\w'=w:=by
 by_cases h:n<1
 ·go_enter Tryz.func25,Tryz.ntmps25
  go_wp2;go_ret;exact ⟨⟨_,rfl⟩,rfl⟩
 ·go_enter Tryz.func25,Tryz.ntmps25
  go_wp2;go_ret;exact ⟨⟨_,rfl⟩,rfl⟩
structure GreatR (w:World) (S:Sk.Sys) (e:Ending) (w':World):Prop where
 out:∃ b,e=.returned (.bool b)/\(b=false->(S.V.length<=150/\S.I.length<=150/\S.O.length<=150/\S.R.length<=150)/\∀ r ∈ S.R,r.A.length<=100/\r.E.length<=1000)/\Below w.heap.size w w'
theorem great8_any {ok:Nat->Prop} {w:World} {aV aI aO aR:Option Addr} {cV cI cO cR:Nat} {S:Sk.Sys} (hS:HSys ok w aV aI aO aR cV cI cO cR S) :
  Calls Tryz.prog 8 #[.agg #[.slice aV S.V.length cV,.slice aI S.I.length cI,.slice aO S.O.length cO,.slice aR S.R.length cR],.int .i64 150] w (GreatR w S):=by
 obtain ⟨aoV,cpV,evV,hV1,hV2,-⟩:=hS.V.at;injection evV with q1 q2 q3;subst q1 q3;obtain ⟨aoR,cpR,evR,hR1,hR2,-⟩:=hS.R.at;injection evR with q1 q2b q3;subst q1 q3;obtain ⟨aoI,cpI,evI,hI1,hI2,-⟩:=hS.I.at;injection evI with q1 q2c q3;subst q1 q3;obtain ⟨aoO,cpO,evO,hO1,hO2,-⟩:=hS.O.at;injection evO with q1 q2d q3;subst q1 q3;unfold maxLen at hV2 hR2 hI2 hO2;clear q2 q2b q2c q2d;have b1:Below w.heap.size w (w.alloc (.cells #[.slice aV S.V.length cV,.slice aI S.I.length cI,.slice aO S.O.length cO,.slice aR S.R.length cR] 26 (0,0))):=(Below.refl _ _).alloc zL _;have kS:=zH w (.cells #[.slice aV S.V.length cV,.slice aI S.I.length cI,.slice aO S.O.length cO,.slice aR S.R.length cR] 26 (0,0));have HS:=zD (hS.under b1);clear hS;by_cases hV:150<S.V.length
 case pos=>
  go_enter Tryz.func8,Tryz.ntmps8;go_upto_region 1 with fail;generalize w.alloc (.cells #[.slice aV S.V.length cV,.slice aI S.I.length cI,.slice aO S.O.length cO,.slice aR S.R.length cR] 26 (0,0))=w1 at b1 kS HS ⊢;have k0:=coQ kS 0;have k1:=coQ kS 1;have k2:=coQ kS 2;have k3:=coQ kS 3;simp at k0 k1 k2 k3;go_wp2;go_ret;exact ⟨⟨true,rfl,fun h=>(by cases h),b1⟩⟩
 case neg=>
  by_cases hR:150<S.R.length
  case pos=>
   go_enter Tryz.func8,Tryz.ntmps8;go_upto_region 1 with fail;generalize w.alloc (.cells #[.slice aV S.V.length cV,.slice aI S.I.length cI,.slice aO S.O.length cO,.slice aR S.R.length cR] 26 (0,0))=w1 at b1 kS HS ⊢;have k0:=coQ kS 0;have k1:=coQ kS 1;have k2:=coQ kS 2;have k3:=coQ kS 3;simp at k0 k1 k2 k3;go_wp2;go_ret;exact ⟨⟨true,rfl,fun h=>(by cases h),b1⟩⟩
  case neg=>
   by_cases hI:150<S.I.length
   case pos=>
    go_enter Tryz.func8,Tryz.ntmps8;go_upto_region 1 with fail;generalize w.alloc (.cells #[.slice aV S.V.length cV,.slice aI S.I.length cI,.slice aO S.O.length cO,.slice aR S.R.length cR] 26 (0,0))=w1 at b1 kS HS ⊢;have k0:=coQ kS 0;have k1:=coQ kS 1;have k2:=coQ kS 2;have k3:=coQ kS 3;simp at k0 k1 k2 k3;go_wp2;go_ret;exact ⟨⟨true,rfl,fun h=>(by cases h),b1⟩⟩
   case neg=>
    by_cases hO:150<S.O.length
    case pos=>
     go_enter Tryz.func8,Tryz.ntmps8;go_upto_region 1 with fail;generalize w.alloc (.cells #[.slice aV S.V.length cV,.slice aI S.I.length cI,.slice aO S.O.length cO,.slice aR S.R.length cR] 26 (0,0))=w1 at b1 kS HS ⊢;have k0:=coQ kS 0;have k1:=coQ kS 1;have k2:=coQ kS 2;have k3:=coQ kS 3;simp at k0 k1 k2 k3;go_wp2;go_ret;exact ⟨⟨true,rfl,fun h=>(by cases h),b1⟩⟩
    case neg=>
     go_enter Tryz.func8,Tryz.ntmps8;go_upto_region 1 with fail;generalize w.alloc (.cells #[.slice aV S.V.length cV,.slice aI S.I.length cI,.slice aO S.O.length cO,.slice aR S.R.length cR] 26 (0,0))=w1 at b1 kS HS ⊢;have k0:=coQ kS 0;have k1:=coQ kS 1;have k2:=coQ kS 2;have k3:=coQ kS 3;simp at k0 k1 k2 k3;have yS:=zG kS;go_wp2_with fail;go_loopg [5,6] S.V.length (fun k u v wr=>∃ (i:Nat) (x:Int),i<=S.V.length/\k=S.V.length-i/\u=.int .i64 x/\v=.int .i64 (i:Nat)/\wr=w1)
     case atStart=>exact ⟨0,0,Nat.zero_le _,rfl,rfl,rfl,rfl⟩
     case round=>
      obtain ⟨i,x,hi,rfl,rfl,rfl,rfl⟩:=hrel;by_cases hlt:i<S.V.length
      case pos=>
       obtain ⟨ao,cp,e1,-,-,hat⟩:=HS.out.V.at;injection e1 with q1 q2 q3;obtain ⟨bV,oV,hbV,yV,x0,y0⟩:=hat i hlt;rw [hbV] at q1;subst q1;generalize S.V[i]=va at x0 y0;obtain ⟨ve,vn⟩:=va;simp only at x0 y0;clear hat q2 q3 hbV;by_cases hm:1000<vn
       case pos=>
        go_wp2;go_ret;exact ⟨⟨true,rfl,fun h=>(by cases h),b1⟩⟩
       case neg=>
        go_wp2_with fail;refine (cells25_any _ _).mono ?_;rintro e w2 ⟨⟨cx,rfl⟩,rfl⟩;go_wp2_with fail;go_roundg (S.V.length-(i+1))
        case measure=>omega
        case rel=>exact ⟨i+1,_,by omega,rfl,rfl,by go_num,rfl⟩
      case neg=>
       have hin:i=S.V.length:=(by omega);subst hin;obtain ⟨wL,hwL⟩:=nmQ (wr);subst hwL;have HK:=zD kS;go_wp2_with fail;go_loopg [5,7] S.R.length (fun k u v wr=>∃ (i:Nat) (x:Int),i<=S.R.length/\k=S.R.length-i/\u=.int .i64 x/\v=.int .i64 (i:Nat)/\Hid (∀ r ∈ S.R.take i,r.A.length<=100/\r.E.length<=1000)/\Below wL.heap.size wL wr)
       case atStart=>exact ⟨0,_,Nat.zero_le _,rfl,rfl,rfl,zD (by simp),Below.refl _ _⟩
       case round=>
        clear k0 k1 k2 k3 kS;obtain ⟨i,x,hi,rfl,rfl,rfl,HF,hbr⟩:=hrel;have zr:=hbr.size;have B:=b1.trans (hbr.mono b1.size);have kSr:=(hbr.block _ yS).trans HK.out;have k3:=coQ kSr 3;simp at k3;by_cases hlt:i<S.R.length
        case neg=>
         have hin:i=S.R.length:=(by omega);subst hin;rw [List.take_length] at HF;go_wp2;go_ret;exact ⟨⟨_,rfl,fun _=>⟨⟨by omega,by omega,by omega,by omega⟩,HF.out⟩,B⟩⟩
        case pos=>
         obtain ⟨ao',cap',eqs,-,-,hat2⟩:=(HS.out.under hbr).R.at;injection eqs with q1 q2 q3;obtain ⟨bR,oR,y,hbR,yb,hat,hru⟩:=hat2 i hlt;rw [hbR] at q1;subst q1;obtain ⟨r,hr⟩:=nmQ (S.R[i]);have hsn:S.R.take (i+1)=S.R.take i++[r]:=(by rw [List.take_succ_eq_append_getElem hlt,hr]);rw [<-hr] at hat hru;obtain ⟨d0,d1,d2,d3,d4,d5⟩:=hat;have lA:y.nA=r.A.length:=(by obtain ⟨a',c',e',-⟩:=hru.A.at;injection e' with _ e' _);have lE:y.nE=r.E.length:=(by obtain ⟨a',c',e',-⟩:=hru.E.at;injection e' with _ e' _);have cA:y.nA<=9223372036854775807:=(by obtain ⟨a',c',e',h1,h2,-⟩:=hru.A.at;unfold maxLen at h2;injection e' with _ e' _;omega);have cE:y.nE<=9223372036854775807:=(by obtain ⟨a',c',e',h1,h2,-⟩:=hru.E.at;unfold maxLen at h2;injection e' with _ e' _;omega);have HSN:=zD hsn;have HLE:=zD (And.intro lA lE);have bA:Below wr.heap.size wr (wr.alloc (.cells #[.int .i64 r.op,.int .i64 r.k,.int .i64 r.out,.int .i64 r.n,.slice y.aA y.nA y.cA,.slice y.aE y.nE y.cE] 40 (0,0))):=(Below.refl _ _).alloc zL _;have kV:=zH wr (.cells #[.int .i64 r.op,.int .i64 r.k,.int .i64 r.out,.int .i64 r.n,.slice y.aA y.nA y.cA,.slice y.aE y.nE y.cE] 40 (0,0));obtain ⟨rop,rk,rout,rn,rA,rE⟩:=r;obtain ⟨yaA,ynA,ycA,yaE,ynE,ycE⟩:=y;simp only at d0 d1 d2 d3 d4 d5 HLE bA kV cA cE;clear hat2 q2 q3 hbR hr hsn hru lA lE;go_upto_region 14 with fail;generalize wr.alloc (.cells #[.int .i64 rop,.int .i64 rk,.int .i64 rout,.int .i64 rn,.slice yaA ynA ycA,.slice yaE ynE ycE] 40 (0,0))=wA at bA kV ⊢;have v0:=coQ kV 0;have v1:=coQ kV 1;have v2:=coQ kV 2;have v3:=coQ kV 3;have v4:=coQ kV 4;have v5:=coQ kV 5;simp at v0 v1 v2 v3 v4 v5;have BA:=hbr.trans (bA.mono zr);have BB:=b1.trans (BA.mono b1.size);clear d0 d1 d2 d3 d4 d5 kV k3;by_cases hA:100<ynA
         case pos=>
          go_wp2;go_ret;exact ⟨⟨true,rfl,fun h=>(by cases h),BB⟩⟩
         case neg=>
          by_cases hE:1000<ynE
          case pos=>
           go_wp2;go_ret;exact ⟨⟨true,rfl,fun h=>(by cases h),BB⟩⟩
          case neg=>
           have HF2:=zD (show ∀ r ∈ S.R.take (i+1),r.A.length<=100/\r.E.length<=1000 from fun r hr=>by
            rw [HSN.out] at hr;rcases List.mem_append.1 hr with q | q
            ·exact HF.out r q
            ·simp at q
             subst q;have:=HLE.out;simp only;omega)
           cases h15:(rop==15)
           case false=>
            go_wp2_with fail;go_roundg (S.R.length-(i+1))
            case measure=>omega
            case rel=>exact ⟨i+1,_,by omega,rfl,rfl,by go_num,HF2,BA⟩
           case true=>
            by_cases hN:1000<rn
            case pos=>
             go_wp2;go_ret;exact ⟨⟨true,rfl,fun h=>(by cases h),BB⟩⟩
            case neg=>
             go_wp2_with fail;go_roundg (S.R.length-(i+1))
             case measure=>omega
             case rel=>exact ⟨i+1,_,by omega,rfl,rfl,by go_num,HF2,BA⟩
def bgS:Sk.Sys:=⟨[⟨105,0⟩,⟨105,0⟩,⟨105,0⟩],[0],[2],[⟨1,0,1,5,[],[]⟩,⟨13,0,2,0,[1,0],[]⟩]⟩
theorem jG:Sk.Okay bgS:=by
 refine ⟨by decide,by decide,by decide,by decide,?_,by decide,by decide,by decide,?_,by decide,?_,by decide⟩
 ·intro v hv
  simp [bgS] at hv;subst hv;exact ⟨.inl rfl,by decide⟩
 ·intro r hr
  simp [bgS] at hr;rcases hr with rfl | rfl
  ·refine ⟨by decide,by decide,by decide,fun z hz=>?_,by decide⟩
   rw [xK] at hz;simp [Sk.ownE] at hz
  ·refine ⟨by decide,by decide,by decide,fun z hz=>?_,by decide⟩
   rw [xK] at hz;simp [Sk.ownE] at hz;rcases hz with rfl | rfl<;>decide
 ·intro r hr z hz
  unfold Sk.uses at hz;simp [bgS] at hr;rcases hr with rfl | rfl
  ·rw [xK] at hz
   simp [Sk.ownE] at hz
  ·rw [xK] at hz
   simp [Sk.ownE] at hz;rcases hz with rfl | rfl<;>decide
theorem bg_needs:bgS.R.map Sk.needs=[[],[1]]:=by
 have h0:usesT [] []=[]:=(by simp [usesT,usesL,Lib.compact];rfl);simp [bgS,Sk.needs,Sk.uses,Sk.ownE,h0]
theorem bg_turns:Sk.turns bgS=([0,1],[true,true,true],[]):=by
 unfold Sk.turns;rw [bg_needs];rfl
theorem bg_sort:Sk.sortF bgS=(0,0)/\Sk.sortS bgS=bgS:=by
 refine ⟨?_,?_⟩
 ·unfold Sk.sortF
  rw [(Sk.check_zero bgS).2 jG,bg_turns];rfl
 ·unfold Sk.sortS
  rw [bg_turns];rfl
theorem bg_row1:(Sk.rowT bgS (fun _=>none) [1]).1=([5],(0,0)):=by rfl
theorem bg_row2:(Sk.rowT bgS (Sk.rowT bgS (fun _=>none) [1]).2 [2]).1=([1],(0,0)):=by rfl
theorem bg_width:Sk.width bgS.V [0,1]=2:=by rfl
theorem zAO {α:Type} (T:Kind α) {ok:Nat->Prop} {w:World} {b:Nat} {cur:Array Value} {ty:TypeId} {l:List α} (k:w.heap[b]?=some (.cells cur ty (0,0))) (D:Nat->List Value) (hD:∀ i,i<l.length->(D i).length=T.k/\∀ j,j<T.k->cur[i*T.k+j]?=(D i)[j]?) (hE:∀ i (h:i<l.length),T.E ok w (D i) l[i]) (hob:ok b) (hm:l.length<=maxLen):HRow T ok w (.slice (some ⟨b,0,none⟩) l.length l.length) l :=
 ⟨D,⟨_,_,rfl,Nat.le_refl _,hm,fun _=>⟨b,0,rfl,hob,zG k,fun i hi=>⟨(hD i hi).1,fun j hj=>by
  have e:0+i*T.k+j=i*T.k+j:=(by omega);rw [e];exact (coQ k _).trans ((hD i hi).2 j hj)⟩⟩⟩,hE⟩
theorem vJ {ok:Nat->Prop} {w:World} {b:Nat} {x:Int} {ty:TypeId} (k:w.heap[b]?=some (.cells #[.int .i64 x] ty (0,0))) (hob:ok b):HInts ok w (.slice (some ⟨b,0,none⟩) 1 1) [x]:=
  xP (zAO kLong (l:=[x]) k (fun _=>[.int .i64 x]) (fun i hi=>by
    have:i=0:=by simp at hi;omega
    subst this
    exact ⟨rfl,fun j hj=>by have h0 : j = 0 := (by have : j < 1 := hj; omega); subst h0; rfl⟩) (fun i hi=>by
    have:i=0:=by simp at hi;omega
    subst this
    rfl) hob (by simp [maxLen,bgS]))
theorem blk_two {ok:Nat->Prop} {w:World} {b:Nat} {x y:Int} {ty:TypeId} (k:w.heap[b]?=some (.cells #[.int .i64 x,.int .i64 y] ty (0,0))) (hob:ok b):HInts ok w (.slice (some ⟨b,0,none⟩) 2 2) [x,y]:=
  xP (zAO kLong (l:=[x,y]) k (fun i=>[.int .i64 (if i=0 then x else y)]) (fun i hi=>by
    have h2:i=0\/i=1:=by simp at hi;omega
    rcases h2 with rfl | rfl
    · exact ⟨rfl,fun j hj=>by have h0 : j = 0 := (by have : j < 1 := hj; omega); subst h0; rfl⟩
    · exact ⟨rfl,fun j hj=>by have h0 : j = 0 := (by have : j < 1 := hj; omega); subst h0; rfl⟩) (fun i hi=>by
    have h2:i=0\/i=1:=by simp at hi;omega
    rcases h2 with rfl | rfl<;>rfl) hob (by simp [maxLen,bgS]))
theorem bg_vars {ok:Nat->Prop} {w:World} {b:Nat} (k:w.heap[b]?=some (.cells #[.int .u8 105,.int .i64 0,.int .u8 105,.int .i64 0,.int .u8 105,.int .i64 0] 61 (0,0))) (hob:ok b):HVars ok w (.slice (some ⟨b,0,none⟩) 3 3) bgS.V:=
  vars_row (zAO kVar (l:=bgS.V) k (fun _=>[.int .u8 105,.int .i64 0]) (fun i hi=>by
    have h2:i=0\/i=1\/i=2:=by simp [bgS] at hi;omega
    rcases h2 with rfl | rfl | rfl
    all_goals exact ⟨rfl,fun j hj=>by have h0:j=0\/j=1:= (by have : j < 2 := hj; omega); rcases h0 with rfl | rfl<;>rfl⟩) (fun i hi=>by
    have h2:i=0\/i=1\/i=2:=by simp [bgS] at hi;omega
    rcases h2 with rfl | rfl | rfl<;>rfl) hob (by simp [maxLen,bgS]))
theorem bg_rules {ok:Nat->Prop} {w:World} {b c:Nat} (k:w.heap[b]?=some (.cells #[.int .i64 1,.int .i64 0,.int .i64 1,.int .i64 5,.slice none 0 0,.slice none 0 0,.int .i64 13,.int .i64 0,.int .i64 2,.int .i64 0,.slice (some ⟨c,0,none⟩) 2 2,.slice none 0 0] 40 (0,0))) (kc:w.heap[c]?=some (.cells #[.int .i64 1,.int .i64 0] 3 (0,0))) (hob:ok b) (hoc:ok c):HRus ok w (.slice (some ⟨b,0,none⟩) 2 2) bgS.R:=
  zAN (zAO kRu (l:=bgS.R) k (fun i=>if i=0 then [.int .i64 1,.int .i64 0,.int .i64 1,.int .i64 5,.slice none 0 0,.slice none 0 0] else [.int .i64 13,.int .i64 0,.int .i64 2,.int .i64 0,.slice (some ⟨c,0,none⟩) 2 2,.slice none 0 0]) (fun i hi=>by
    have h2:i=0\/i=1:=by simp [bgS] at hi;omega
    rcases h2 with rfl | rfl
    all_goals exact ⟨rfl,fun j hj=>by have h0:j=0\/j=1\/j=2\/j=3\/j=4\/j=5:= (by have : j < 6 := hj; omega); rcases h0 with rfl | rfl | rfl | rfl | rfl | rfl<;>rfl⟩) (fun i hi=>by
    have h2:i=0\/i=1:=by simp [bgS] at hi;omega
    have hn:∀ v:List Int,v=[]->HInts ok w (.slice none 0 0) v:=fun v e=>by subst e;exact ⟨fun _=>[],Sl.nil,fun j h=>absurd h (Nat.not_lt_zero _)⟩
    have hp:HPu ok w (.slice none 0 0) []:=⟨fun _=>[],Sl.nil,fun j h=>absurd h (Nat.not_lt_zero _)⟩
    rcases h2 with rfl | rfl
    · exact ⟨⟨none,0,0,none,0,0⟩,rfl,⟨hn _ rfl,hp⟩⟩
    · exact ⟨⟨some ⟨c,0,none⟩,2,2,none,0,0⟩,rfl,⟨blk_two kc hoc,hp⟩⟩) hob (by simp [maxLen,bgS]))
def allocs (w:World):List Obj->World
 | []=>w
 | o :: r=>allocs (w.alloc o) r
theorem qV (w:World):∀ (l:List Obj) (W:World) (B:Nat),Below B w W->B<=W.heap.size->Below B w (allocs W l)
 | [],W,B,h,_=>h
 | o :: r,W,B,h,hB=>qV w r (W.alloc o) B (h.alloc hB o) (by simp;omega)
theorem zAA:∀ (l:List Obj) (w:World),(allocs w l).heap.size=w.heap.size+l.length
 | [],w=>rfl
 | o :: r,w=>by unfold allocs;rw [zAA r];simp;omega
theorem xR:∀ (l:List Obj) (w:World) (i:Nat) (o:Obj),l[i]?=some o->(allocs w l).heap[w.heap.size+i]?=some o
 | [],w,i,o,h=>by simp at h
 | x :: r,w,0,o,h=>by
  simp at h;subst h;unfold allocs;have b:=qV (w.alloc x) r (w.alloc x) (w.alloc x).heap.size (Below.refl _ _) zL;rw [Nat.add_zero];exact (b.block _ (by simp)).trans (zH w x)
 | x :: r,w,i+1,o,h=>by
  unfold allocs;have:=xR r (w.alloc x) i o (by simpa using h);have e:(w.alloc x).heap.size+i=w.heap.size+(i+1):=(by simp;omega)
  rwa [e] at this
theorem bg_ahead:Sk.Ahead bgS:=by
 intro i hi z hz;have h0:usesT [] []=[]:=(by simp [usesT,usesL,Lib.compact];rfl);have h2:i=0\/i=1:=(by simp [bgS] at hi;omega);rcases h2 with rfl | rfl
 ·simp [bgS,Sk.needs,Sk.uses,Sk.ownE,h0] at hz
 ·simp [bgS,Sk.needs] at hz
  subst hz;exact .inr (by decide)
theorem zAr {w:World} (hG:GlobK w) (hP:GlobP w):Calls Tryz.prog 18 #[] w fun e w'=>e=.returned (.bool true)/\Below w.heap.size w w':=by
 obtain ⟨W,hW⟩:=nmQ ((((((((w.alloc (.cells #[.int .u8 105,.int .i64 0] 61 (0,0))).alloc (.cells #[.int .u8 105,.int .i64 0,.int .u8 105,.int .i64 0,.int .u8 105,.int .i64 0] 61 (0,0))).alloc (.cells #[.int .i64 0] 3 (0,0))).alloc (.cells #[.int .i64 2] 3 (0,0))).alloc (.cells #[.int .i64 1,.int .i64 0] 3 (0,0))).alloc (.cells #[.int .i64 1,.int .i64 0,.int .i64 1,.int .i64 5,.slice none 0 0,.slice none 0 0,.int .i64 13,.int .i64 0,.int .i64 2,.int .i64 0,.slice (some ⟨w.heap.size+4,0,none⟩) 2 2,.slice none 0 0] 40 (0,0))).alloc (.cells #[.slice (some ⟨w.heap.size+1,0,none⟩) 3 3,.slice (some ⟨w.heap.size+2,0,none⟩) 1 1,.slice (some ⟨w.heap.size+3,0,none⟩) 1 1,.slice (some ⟨w.heap.size+5,0,none⟩) 2 2] 26 (0,0))));have hWL:W=allocs w [.cells #[.int .u8 105,.int .i64 0] 61 (0,0),.cells #[.int .u8 105,.int .i64 0,.int .u8 105,.int .i64 0,.int .u8 105,.int .i64 0] 61 (0,0),.cells #[.int .i64 0] 3 (0,0),.cells #[.int .i64 2] 3 (0,0),.cells #[.int .i64 1,.int .i64 0] 3 (0,0),.cells #[.int .i64 1,.int .i64 0,.int .i64 1,.int .i64 5,.slice none 0 0,.slice none 0 0,.int .i64 13,.int .i64 0,.int .i64 2,.int .i64 0,.slice (some ⟨w.heap.size+4,0,none⟩) 2 2,.slice none 0 0] 40 (0,0),.cells #[.slice (some ⟨w.heap.size+1,0,none⟩) 3 3,.slice (some ⟨w.heap.size+2,0,none⟩) 1 1,.slice (some ⟨w.heap.size+3,0,none⟩) 1 1,.slice (some ⟨w.heap.size+5,0,none⟩) 2 2] 26 (0,0)]:=hW;have bW:Below w.heap.size w W:=(by rw [hWL];exact qV w _ w _ (Below.refl _ _) zL);have zW:W.heap.size=w.heap.size+7:=(by rw [hWL,zAA];rfl);have K0:W.heap[w.heap.size+0]?=some (.cells #[.int .u8 105,.int .i64 0] 61 (0,0)):=(by rw [hWL];exact xR _ w 0 _ rfl);have K1:W.heap[w.heap.size+1]?=some (.cells #[.int .u8 105,.int .i64 0,.int .u8 105,.int .i64 0,.int .u8 105,.int .i64 0] 61 (0,0)):=(by rw [hWL];exact xR _ w 1 _ rfl);have K2:W.heap[w.heap.size+2]?=some (.cells #[.int .i64 0] 3 (0,0)):=(by rw [hWL];exact xR _ w 2 _ rfl);have K3:W.heap[w.heap.size+3]?=some (.cells #[.int .i64 2] 3 (0,0)):=(by rw [hWL];exact xR _ w 3 _ rfl);have K4:W.heap[w.heap.size+4]?=some (.cells #[.int .i64 1,.int .i64 0] 3 (0,0)):=(by rw [hWL];exact xR _ w 4 _ rfl);have K5:W.heap[w.heap.size+5]?=some (.cells #[.int .i64 1,.int .i64 0,.int .i64 1,.int .i64 5,.slice none 0 0,.slice none 0 0,.int .i64 13,.int .i64 0,.int .i64 2,.int .i64 0,.slice (some ⟨w.heap.size+4,0,none⟩) 2 2,.slice none 0 0] 40 (0,0)):=(by rw [hWL];exact xR _ w 5 _ rfl);have K6:W.heap[w.heap.size+6]?=some (.cells #[.slice (some ⟨w.heap.size+1,0,none⟩) 3 3,.slice (some ⟨w.heap.size+2,0,none⟩) 1 1,.slice (some ⟨w.heap.size+3,0,none⟩) 1 1,.slice (some ⟨w.heap.size+5,0,none⟩) 2 2] 26 (0,0)):=(by rw [hWL];exact xR _ w 6 _ rfl);have hS:HSys (fun i=>i<w.heap.size+7) W (some ⟨w.heap.size+1,0,none⟩) (some ⟨w.heap.size+2,0,none⟩) (some ⟨w.heap.size+3,0,none⟩) (some ⟨w.heap.size+5,0,none⟩) 3 1 1 2 bgS:=⟨bg_vars K1 (by show _<_;omega),vJ K2 (by show _<_;omega),vJ K3 (by show _<_;omega),bg_rules K5 K4 (by show _<_;omega) (by show _<_;omega)⟩;have hnew:=new_any (hG.under bW) (hP.under bW) hS (by decide);have HNEW:=zD hnew;have HW:=zD (And.intro bW zW);have HS:=zD hS;have HW2:=zD hW;clear hnew bW zW hS hW hWL K0 K1 K2 K3 K4 K5 hG hP;go_enter Tryz.func18,Tryz.ntmps18;go_upto_region 3 with fail;rw [<-HW2.out];clear HW2;have k0:=coQ K6 0;have k1:=coQ K6 1;have k2:=coQ K6 2;have k3:=coQ K6 3;simp at k0 k1 k2 k3;go_wp2_with fail;refine HNEW.out.mono ?_;intro e w2 hp;clear HNEW k0 k1 k2 k3;unfold NewPost at hp;rcases hp with ⟨hc,-,-⟩ | ⟨-,-,-,mb,rfl,hM,hmb,b2⟩
 case inl=>exact absurd (by rw [bg_sort.1]) hc
 replace hM:=hM [] (by simp)
 rw [bg_sort.2] at hM;have B2:Below w.heap.size w w2:=HW.out.1.trans (b2.mono HW.out.1.size);have HS2:=zD (HS.out.under b2);have K62:=zD ((b2.block _ (zG K6)).trans K6);have ymb:=hM.mem.2 mb (by simp);have hmb2:w.heap.size+7<=mb:=(by rw [<-HW.out.2];exact hmb);have HM:=zD hM;clear hM b2 K6 hmb HS HW;go_wp2_with fail;obtain ⟨w3,hw3⟩:=nmQ ((w2.alloc (.cells #[.int .i64 0,.int .i64 0] 30 (0,0))).alloc (.cells #[.int .i64 1] 2 (0,0)));have b3:Below w2.heap.size w2 w3:=(by rw [hw3];exact ((Below.refl _ _).alloc zL _).alloc (by simp) _);have f3:w3.heap[w2.heap.size]?=some (.cells #[.int .i64 0,.int .i64 0] 30 (0,0)):=(by rw [hw3];exact (Below.heap_alloc _ _ _ (by simp)).trans (zH w2 _));have l3:w3.heap[w2.heap.size+1]?=some (.cells #[.int .i64 1] 2 (0,0)):=by
  rw [hw3];have:=zH (w2.alloc (.cells #[.int .i64 0,.int .i64 0] 30 (0,0))) (.cells #[.int .i64 1] 2 (0,0))
  simpa using this
 have hz3:w3.heap.size=w2.heap.size+2:=(by rw [hw3];simp);rw [<-hw3];clear hw3;have B3:=B2.trans (b3.mono B2.size);have HM3:=zD (HM.out.under b3);have hr1:Calls Tryz.prog 21 #[.pointer (some ⟨mb,0,none⟩),.slice (some ⟨w2.heap.size+1,0,none⟩) 1 1] w3 fun e w'=>∃ v,e=.returned (.tuple #[v,.agg #[.int .i64 0,.int .i64 0]])/\HInts (fun i=>w3.heap.size<=i) w' v [5]/\MeanAt [mb] w' mb bgS (Sk.rowT bgS (fun _=>none) [1]).2/\Aside [mb] w3.heap.size w3 w':=(row_any HM3.out jG bg_ahead (fun x l h=>by cases h) (vJ (ok:=fun _=>True) l3 trivial)).mono fun e w' h=>by
  unfold RowPost at h;rw [bg_row1] at h;exact h
 have HR1:=zD hr1;have HF3:=zD f3;clear hr1 f3 l3 HM;refine HR1.out.mono ?_;rintro e w4 ⟨v1,rfl,hv1,hM4,a4⟩;obtain ⟨p1,c1,rfl,-,-,-⟩:=hv1.at;have B4:Below w.heap.size w w4:=B3.trans ((a4.mono B3.size).below (by intro q hq;simp at hq;omega));have HM4:=zD hM4;have HV1:=zD hv1;have HA4:=zD a4;clear hM4 hv1 a4 HR1 HM3;go_wp2_with fail;obtain ⟨w5,hw5⟩:=nmQ ((w4.alloc (.cells #[.int .i64 0,.int .i64 0] 30 (0,0))).alloc (.cells #[.int .i64 2] 2 (0,0)));have b5:Below w4.heap.size w4 w5:=(by rw [hw5];exact ((Below.refl _ _).alloc zL _).alloc (by simp) _);have f5:w5.heap[w4.heap.size]?=some (.cells #[.int .i64 0,.int .i64 0] 30 (0,0)):=(by rw [hw5];exact (Below.heap_alloc _ _ _ (by simp)).trans (zH w4 _));have l5:w5.heap[w4.heap.size+1]?=some (.cells #[.int .i64 2] 2 (0,0)):=by
  rw [hw5];have:=zH (w4.alloc (.cells #[.int .i64 0,.int .i64 0] 30 (0,0))) (.cells #[.int .i64 2] 2 (0,0))
  simpa using this
 have hz5:w5.heap.size=w4.heap.size+2:=(by rw [hw5];simp);rw [<-hw5];clear hw5;have B5:=B4.trans (b5.mono B4.size);have HM5:=zD (HM4.out.under b5);have hr2:Calls Tryz.prog 21 #[.pointer (some ⟨mb,0,none⟩),.slice (some ⟨w4.heap.size+1,0,none⟩) 1 1] w5 fun e w'=>∃ v,e=.returned (.tuple #[v,.agg #[.int .i64 0,.int .i64 0]])/\HInts (fun i=>w5.heap.size<=i) w' v [1]/\Aside [mb] w5.heap.size w5 w':=(row_any HM5.out jG bg_ahead (Sk.rowT_fine jG (fun x l h=>by cases h) [1]) (vJ (ok:=fun _=>True) l5 trivial)).mono fun e w' h=>by
  unfold RowPost at h;rw [bg_row2] at h;obtain ⟨v,h1,h2,-,h4⟩:=h;exact ⟨v,h1,h2,h4⟩
 have HR2:=zD hr2;have HF5:=zD f5;clear hr2 f5 l5 HM4;refine HR2.out.mono ?_;rintro e w6 ⟨v2,rfl,hv2,a6⟩;obtain ⟨p2,c2,rfl,-,-,-⟩:=hv2.at;have y34:=HA4.out.size;have y56:=a6.size;have B6:Below w.heap.size w w6:=B5.trans ((a6.mono B5.size).below (by intro q hq;simp at hq;omega));have F6:=a6.keep HF5.out (zG HF5.out) (by simp;omega);have K66:=zD (a6.keep ((b5.block _ (zG (HA4.out.keep ((b3.block _ (zG K62.out)).trans K62.out) (zG ((b3.block _ (zG K62.out)).trans K62.out)) (by simp;omega)))).trans (HA4.out.keep ((b3.block _ (zG K62.out)).trans K62.out) (zG ((b3.block _ (zG K62.out)).trans K62.out)) (by simp;omega))) (zG ((b5.block _ (zG (HA4.out.keep ((b3.block _ (zG K62.out)).trans K62.out) (zG ((b3.block _ (zG K62.out)).trans K62.out)) (by simp;omega)))).trans (HA4.out.keep ((b3.block _ (zG K62.out)).trans K62.out) (zG ((b3.block _ (zG K62.out)).trans K62.out)) (by simp;omega)))) (by simp;omega));have HV16:=zD (show HInts (fun i=>w3.heap.size<=i) w6 (.slice p1 [(5:Int)].length c1) [5] from (HV1.out.under b5).keep a6.size (fun i hi hl=>a6.block i hl (by simp;have h1:w3.heap.size<=i:=hi;omega)));have HV26:=zD hv2;have HSV:=zD (show HVars (fun i=>i<w.heap.size+7) w6 (.slice (some ⟨w.heap.size+1,0,none⟩) 3 3) bgS.V from ((((HS2.out.V.under b3).keep HA4.out.size (fun i hi hl=>HA4.out.block i hl (by simp;omega))).under b5).keep a6.size (fun i hi hl=>a6.block i hl (by simp;omega))));clear hv2 HV1 HR2 HM5 a6 HA4 b3 b5 HF3 HF5 K62 HS2;have F7:=(Below.heap_alloc w6 (.cells #[.int .i64 0,.int .i64 0] 30 (0,0)) _ (zG F6)).trans F6;have G7:=zH w6 (.cells #[.int .i64 0,.int .i64 0] 30 (0,0));have b7:Below w6.heap.size w6 (w6.alloc (.cells #[.int .i64 0,.int .i64 0] 30 (0,0))):=(Below.refl _ _).alloc zL _;go_upto_region 8 with fail;generalize w6.alloc (.cells #[.int .i64 0,.int .i64 0] 30 (0,0))=w7 at F7 G7 b7 ⊢;have g4:=coQ F7 0;have g6:=coQ G7 0;simp at g4 g6;clear F6 F7 G7;go_wp2_with fail;obtain ⟨w8,hw8⟩:=nmQ (w7.alloc (.cells #[.int .i64 5] 2 (0,0)));have b8:=newB hw8;have l8:=newK hw8;rw [<-hw8];clear hw8;have HB8:=zD (b7.trans (b8.mono b7.size));refine (qG (HV16.out.under HB8.out) (vJ (ok:=fun _=>True) l8 trivial)).mono ?_;rintro e w9 ⟨rfl,b9⟩;have HB9:=zD (HB8.out.trans (b9.mono HB8.out.size));clear g4 g6 l8;go_wp2_with fail;obtain ⟨w10,hw10⟩:=nmQ (w9.alloc (.cells #[.int .i64 1] 2 (0,0)));have b10:=newB hw10;have l10:=newK hw10;rw [<-hw10];clear hw10;have HB10:=zD (HB9.out.trans (b10.mono HB9.out.size));refine (qG (HV26.out.under HB10.out) (vJ (ok:=fun _=>True) l10 trivial)).mono ?_;rintro e w11 ⟨rfl,b11⟩;have HB11:=zD (HB10.out.trans (b11.mono HB10.out.size));have K11:=(HB11.out.block _ (zG K66.out)).trans K66.out;have k0:=coQ K11 0;have k1:=coQ K11 1;have k2:=coQ K11 2;have k3:=coQ K11 3;simp at k0 k1 k2 k3;clear l10 K11;go_wp2_with fail;obtain ⟨w12,hw12⟩:=nmQ (w11.alloc (.cells #[.int .i64 0,.int .i64 1] 3 (0,0)));have b12:=newB hw12;have l12:=newK hw12;rw [<-hw12];clear hw12;have HB12:=zD (HB11.out.trans (b12.mono HB11.out.size));have hwid:=vH (aI:=some ⟨w.heap.size+2,0,none⟩) (aO:=some ⟨w.heap.size+3,0,none⟩) (aR:=some ⟨w.heap.size+5,0,none⟩) (nI:=1) (cI:=1) (nO:=1) (cO:=1) (nR:=2) (cR:=2) (HSV.out.under HB12.out) (blk_two (ok:=fun _=>True) l12 trivial) (fun x h0 h1=>Sk.cnt_le (Sk.vAt_ok jG.vars ⟨h0,h1⟩)) (by simp);rw [bg_width] at hwid;refine hwid.mono ?_;rintro e w13 ⟨rfl,b13⟩;have HE:=zD (B6.trans ((HB12.out.trans (b13.mono HB12.out.size)).mono B6.size));clear hwid k0 k1 k2 k3 l12;go_wp2;go_ret;exact ⟨rfl,HE.out⟩
end Go.Proofs.YtnhmcpnbaajjcaaGreatDoor
