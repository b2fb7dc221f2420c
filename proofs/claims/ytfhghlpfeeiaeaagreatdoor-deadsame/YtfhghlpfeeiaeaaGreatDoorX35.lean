import Derived.Test.YtfhghlpfeeiaeaaGreatDoorX34
set_option linter.unusedVariables false
set_option linter.unusedSimpArgs false
set_option maxHeartbeats 64000000
set_option maxRecDepth 100000
namespace Go.Proofs.YtfhghlpfeeiaeaaGreatDoor
open Go.RowKit Go.IntWalk
structure HeadOk (S:Sk.Sys):Prop where
 nV:S.V.length<=400
 nI:S.I.length<=400
 nO:S.O.length<=400
 nR:S.R.length<=400
 vars:∀ v ∈ S.V,Sk.VrOk v
 ins:∀ x ∈ S.I,0<=x/\x<S.V.length
 insN:S.I.Nodup
 outs:∀ x ∈ S.O,0<=x/\x<S.V.length
def HeadPost (w:World) (S:Sk.Sys) (e:Ending) (w':World):Prop:=∃ c a:Int,e=.returned (.agg #[.int .i64 c,.int .i64 a])/\(c=0↔HeadOk S)/\Below w.heap.size w w'
theorem nodup_take {l:List Int} {i:Nat} (hi:i<l.length) (h:(l.take i).Nodup) (hn:l[i] ∉ l.take i):(l.take (i+1)).Nodup:=by
 rw [List.take_succ_eq_append_getElem hi,List.nodup_append];refine ⟨h,by simp,fun a ha b hb=>?_⟩;simp at hb;rw [hb];exact fun e=>hn (e ▸ ha)
theorem nodup_not {l:List Int} {i:Nat} (hi:i<l.length) (h:l.Nodup):l[i] ∉ l.take i:=fun hm=>by
 have e:l=l.take i++l[i] :: l.drop (i+1):=(by rw [<-List.drop_eq_getElem_cons hi,List.take_append_drop]);rw [e,List.nodup_append] at h;exact h.2.2 _ hm _ (List.mem_cons.2 (.inl rfl)) rfl
theorem qS {α:Type} {l:List α} {P:α->Prop} {i:Nat} (hi:i<l.length) (h:∀ x ∈ l.take i,P x) (hx:P l[i]):∀ x ∈ l.take (i+1),P x:=fun x hm=>by
 rw [List.take_succ_eq_append_getElem hi] at hm;rcases List.mem_append.1 hm with q | q
 ·exact h x q
 ·simp at q;rw [q];exact hx
theorem headOf_any {ok:Nat->Prop} {w:World} {aV aI aO aR:Option Addr} {cV cI cO cR:Nat} {S:Sk.Sys} (hS:HSys ok w aV aI aO aR cV cI cO cR S):Calls Tryz.prog 31 #[.agg #[.slice aV S.V.length cV,.slice aI S.I.length cI,.slice aO S.O.length cO,.slice aR S.R.length cR]] w (HeadPost w S):=by
 obtain ⟨JK,NA,AW,DQ,wI,-⟩:=hS.V.at;injection AW with q1 q2 q3;rw [<-q3] at DQ wI;clear q1 q2 q3;obtain ⟨JI,Nz,wm,dS,fT,-⟩:=hS.I.at;injection wm with q1 q2 q3;rw [<-q3] at dS fT;clear q1 q2 q3;obtain ⟨FQ,FY,wB,yQ,ri,-⟩:=hS.O.at;injection wB with q1 q2 q3;rw [<-q3] at yQ ri;clear q1 q2 q3;obtain ⟨om,jI,iQ,bY,ik,-⟩:=hS.R.at;injection iQ with q1 q2 q3;rw [<-q3] at bY ik;clear q1 q2 q3;unfold maxLen at wI fT ri ik;have b0:Below w.heap.size w (w.alloc (.cells #[.slice aV S.V.length cV,.slice aI S.I.length cI,.slice aO S.O.length cO,.slice aR S.R.length cR] 26 (0,0))):=(Below.refl _ _).alloc zBR _;have b1:=b0.alloc b0.size (.cells #[.int .i64 0,.int .i64 0] 32 (0,0));have kS:((w.alloc (.cells #[.slice aV S.V.length cV,.slice aI S.I.length cI,.slice aO S.O.length cO,.slice aR S.R.length cR] 26 (0,0))).alloc (.cells #[.int .i64 0,.int .i64 0] 32 (0,0))).heap[w.heap.size]?=some (.cells #[.slice aV S.V.length cV,.slice aI S.I.length cI,.slice aO S.O.length cO,.slice aR S.R.length cR] 26 (0,0)):=(Below.heap_alloc _ _ _ (by simp)).trans (zBO w _);have kF:((w.alloc (.cells #[.slice aV S.V.length cV,.slice aI S.I.length cI,.slice aO S.O.length cO,.slice aR S.R.length cR] 26 (0,0))).alloc (.cells #[.int .i64 0,.int .i64 0] 32 (0,0))).heap[w.heap.size+1]?=some (.cells #[.int .i64 0,.int .i64 0] 32 (0,0)):=by
  have:=zBO (w.alloc (.cells #[.slice aV S.V.length cV,.slice aI S.I.length cI,.slice aO S.O.length cO,.slice aR S.R.length cR] 26 (0,0))) (.cells #[.int .i64 0,.int .i64 0] 32 (0,0))
  simpa using this
 have HS:=zBK (hS.under b1);clear hS b0;go_enter Tryz.func31,Tryz.ntmps31;go_upto_region 1 with fail;generalize (w.alloc (.cells #[.slice aV S.V.length cV,.slice aI S.I.length cI,.slice aO S.O.length cO,.slice aR S.R.length cR] 26 (0,0))).alloc (.cells #[.int .i64 0,.int .i64 0] 32 (0,0))=w1 at b1 kS kF HS ⊢;have s0:=coQ kS 0;have s1:=coQ kS 1;have s2:=coQ kS 2;have s3:=coQ kS 3;simp at s0 s1 s2 s3;have jD:=zBM kS;have pa:=zBM kF;by_cases hV:400<S.V.length
 case pos=>
  have bQ:=zBK (show ¬HeadOk S from fun hk=>by have:=hk.nV;omega);go_wp2_with fail;refine (zBZ (7) (-1) w1).mono ?_;rintro e wz ⟨rfl,bz⟩;have aZ:=(bz.block _ (zBM kF)).trans kF;have BZ:=b1.trans (bz.mono b1.size);have dJ:=coQ aZ 0;have dK:=coQ aZ 1;have gJ:=foQ aZ 0;have gK:=foQ aZ 1;simp at dJ dK;have KE:=zBQ (zBQ aZ 0 (.int .i64 (7))) 1 (.int .i64 (-1));have BE:=(BZ.setCell (p:=⟨w.heap.size+1,0,none⟩) (by show w.heap.size<=w.heap.size+1;omega) (.int .i64 (7))).setCell (p:=⟨w.heap.size+1,1,none⟩) (by show w.heap.size<=w.heap.size+1;omega) (.int .i64 (-1));have t0:=coQ KE 0;have t1:=coQ KE 1;simp at t0 t1;have aQ:=zBK (show HeadPost w S (.returned (.agg #[.int .i64 (7),.int .i64 (-1)])) _ from ⟨7,-1,rfl,⟨fun h=>absurd h (by decide),fun h=>absurd h bQ.out⟩,BE⟩);clear KE BE BZ aZ;go_wp2;exact bodyPost_ret (v:=.agg #[.int .i64 (7),.int .i64 (-1)]) (by simp [results,Tryz.results31,go_sem,t0,t1]) rfl aQ.out
 case neg=>
  by_cases hI:400<S.I.length
  case pos=>
   have bQ:=zBK (show ¬HeadOk S from fun hk=>by have:=hk.nI;omega);go_wp2_with fail;refine (zBZ (7) (-1) w1).mono ?_;rintro e wz ⟨rfl,bz⟩;have aZ:=(bz.block _ (zBM kF)).trans kF;have BZ:=b1.trans (bz.mono b1.size);have dJ:=coQ aZ 0;have dK:=coQ aZ 1;have gJ:=foQ aZ 0;have gK:=foQ aZ 1;simp at dJ dK;have KE:=zBQ (zBQ aZ 0 (.int .i64 (7))) 1 (.int .i64 (-1));have BE:=(BZ.setCell (p:=⟨w.heap.size+1,0,none⟩) (by show w.heap.size<=w.heap.size+1;omega) (.int .i64 (7))).setCell (p:=⟨w.heap.size+1,1,none⟩) (by show w.heap.size<=w.heap.size+1;omega) (.int .i64 (-1));have t0:=coQ KE 0;have t1:=coQ KE 1;simp at t0 t1;have aQ:=zBK (show HeadPost w S (.returned (.agg #[.int .i64 (7),.int .i64 (-1)])) _ from ⟨7,-1,rfl,⟨fun h=>absurd h (by decide),fun h=>absurd h bQ.out⟩,BE⟩);clear KE BE BZ aZ;go_wp2;exact bodyPost_ret (v:=.agg #[.int .i64 (7),.int .i64 (-1)]) (by simp [results,Tryz.results31,go_sem,t0,t1]) rfl aQ.out
  case neg=>
   by_cases hO:400<S.O.length
   case pos=>
    have bQ:=zBK (show ¬HeadOk S from fun hk=>by have:=hk.nO;omega);go_wp2_with fail;refine (zBZ (7) (-1) w1).mono ?_;rintro e wz ⟨rfl,bz⟩;have aZ:=(bz.block _ (zBM kF)).trans kF;have BZ:=b1.trans (bz.mono b1.size);have dJ:=coQ aZ 0;have dK:=coQ aZ 1;have gJ:=foQ aZ 0;have gK:=foQ aZ 1;simp at dJ dK;have KE:=zBQ (zBQ aZ 0 (.int .i64 (7))) 1 (.int .i64 (-1));have BE:=(BZ.setCell (p:=⟨w.heap.size+1,0,none⟩) (by show w.heap.size<=w.heap.size+1;omega) (.int .i64 (7))).setCell (p:=⟨w.heap.size+1,1,none⟩) (by show w.heap.size<=w.heap.size+1;omega) (.int .i64 (-1));have t0:=coQ KE 0;have t1:=coQ KE 1;simp at t0 t1;have aQ:=zBK (show HeadPost w S (.returned (.agg #[.int .i64 (7),.int .i64 (-1)])) _ from ⟨7,-1,rfl,⟨fun h=>absurd h (by decide),fun h=>absurd h bQ.out⟩,BE⟩);clear KE BE BZ aZ;go_wp2;exact bodyPost_ret (v:=.agg #[.int .i64 (7),.int .i64 (-1)]) (by simp [results,Tryz.results31,go_sem,t0,t1]) rfl aQ.out
   case neg=>
    by_cases hR:400<S.R.length
    case pos=>
     have bQ:=zBK (show ¬HeadOk S from fun hk=>by have:=hk.nR;omega);go_wp2_with fail;refine (zBZ (7) (-1) w1).mono ?_;rintro e wz ⟨rfl,bz⟩;have aZ:=(bz.block _ (zBM kF)).trans kF;have BZ:=b1.trans (bz.mono b1.size);have dJ:=coQ aZ 0;have dK:=coQ aZ 1;have gJ:=foQ aZ 0;have gK:=foQ aZ 1;simp at dJ dK;have KE:=zBQ (zBQ aZ 0 (.int .i64 (7))) 1 (.int .i64 (-1));have BE:=(BZ.setCell (p:=⟨w.heap.size+1,0,none⟩) (by show w.heap.size<=w.heap.size+1;omega) (.int .i64 (7))).setCell (p:=⟨w.heap.size+1,1,none⟩) (by show w.heap.size<=w.heap.size+1;omega) (.int .i64 (-1));have t0:=coQ KE 0;have t1:=coQ KE 1;simp at t0 t1;have aQ:=zBK (show HeadPost w S (.returned (.agg #[.int .i64 (7),.int .i64 (-1)])) _ from ⟨7,-1,rfl,⟨fun h=>absurd h (by decide),fun h=>absurd h bQ.out⟩,BE⟩);clear KE BE BZ aZ;go_wp2;exact bodyPost_ret (v:=.agg #[.int .i64 (7),.int .i64 (-1)]) (by simp [results,Tryz.results31,go_sem,t0,t1]) rfl aQ.out
    case neg=>
     have nV:S.V.length<=400:=(by omega);have nI:S.I.length<=400:=(by omega);have nO:S.O.length<=400:=(by omega);have nR:S.R.length<=400:=(by omega);go_wp2_with fail;clear hV hI hO hR s0 s1 s2 s3;go_loopg [3] S.V.length (fun k v3 wr=>∃ (i:Nat),i<=S.V.length/\k=S.V.length-i/\v3=.int .i64 (i:Nat)/\Hid (∀ v ∈ S.V.take i,Sk.VrOk v)/\Below w1.heap.size w1 wr)
     case atStart=>exact ⟨0,Nat.zero_le _,rfl,rfl,zBK (fun v hv=>by simp at hv),Below.refl _ _⟩
     case round=>
      obtain ⟨i,hi,rfl,rfl,HV,aH⟩:=hrel;have ep:=(aH.block _ jD).trans kS;have dE:=(aH.block _ pa).trans kF;have Br:=b1.trans (aH.mono b1.size);have s0:=coQ ep 0;have s1:=coQ ep 1;have s2:=coQ ep 2;simp at s0 s1 s2;have yS:=zBM ep;by_cases bd:i<S.V.length
      case pos=>
       obtain ⟨ao,cp,e1,-,-,bo⟩:=(HS.out.under aH).V.at;injection e1 with q1 q2 q3;obtain ⟨bV,oV,gV,yV,c0,c1⟩:=bo i bd;rw [gV] at q1;subst q1;have HN:=zBK (fun h=>qS (P:=Sk.VrOk) bd HV.out h);have HM:=zBK (show HeadOk S->Sk.VrOk S.V[i] from fun hk=>hk.vars _ (List.getElem_mem bd));generalize S.V[i]=vv at c0 c1 HN HM;obtain ⟨el,vn⟩:=vv
       dsimp only at c0 c1
       clear bo q2 q3 gV ep;by_cases eo:el=105\/el=98
       case neg=>
        rw [not_or] at eo;have n1:(el != 105)=true:=(by simp [eo.1]);have n2:(el != 98)=true:=(by simp [eo.2]);have DB:=zBK (show IntKind.i64.wrap (-2-(i:Int)) = -2-(i:Int) from i64_in _ ⟨by omega,by omega⟩);have sB:=eo;clear eo HN;have bQ:=zBK (show ¬HeadOk S from fun hk=>by rcases (HM.out hk).1 with h | h;exact sB.1 h;exact sB.2 h);go_wp2_with fail;refine (zBZ (10) (-2-(i:Int)) wr).mono ?_;rintro e wz ⟨rfl,bz⟩;have aZ:=(bz.block _ (zBM dE)).trans dE;have BZ:=Br.trans (bz.mono Br.size);have dJ:=coQ aZ 0;have dK:=coQ aZ 1;have gJ:=foQ aZ 0;have gK:=foQ aZ 1;simp at dJ dK;have KE:=zBQ (zBQ aZ 0 (.int .i64 (10))) 1 (.int .i64 (-2-(i:Int)));have BE:=(BZ.setCell (p:=⟨w.heap.size+1,0,none⟩) (by show w.heap.size<=w.heap.size+1;omega) (.int .i64 (10))).setCell (p:=⟨w.heap.size+1,1,none⟩) (by show w.heap.size<=w.heap.size+1;omega) (.int .i64 (-2-(i:Int)));have t0:=coQ KE 0;have t1:=coQ KE 1;simp at t0 t1;have aQ:=zBK (show HeadPost w S (.returned (.agg #[.int .i64 (10),.int .i64 (-2-(i:Int))])) _ from ⟨10,-2-(i:Int),rfl,⟨fun h=>absurd h (by decide),fun h=>absurd h bQ.out⟩,BE⟩);clear KE BE BZ aZ;go_wp2;exact bodyPost_ret (v:=.agg #[.int .i64 (10),.int .i64 (-2-(i:Int))]) (by simp [results,Tryz.results31,go_sem,t0,t1]) rfl aQ.out
       case pos=>
        have hq:((el != 105)&&(el != 98))=false:=by rcases eo with h | h<;>simp [h]
        by_cases hn:0<=vn/\vn<=300
        case pos=>
         have lT:=zBK (HN.out ⟨eo,hn⟩);have jM:=hn.1;have qk:=hn.2;clear HN hn hq;rcases eo with eo | eo
         case inl=>
          subst eo;go_wp2_with fail;go_roundg (S.V.length-(i+1))
          case measure=>omega
          case rel=>exact ⟨i+1,by omega,rfl,by go_num,lT,aH⟩
         case inr=>
          subst eo;go_wp2_with fail;go_roundg (S.V.length-(i+1))
          case measure=>omega
          case rel=>exact ⟨i+1,by omega,rfl,by go_num,lT,aH⟩
        case neg=>
         clear HN hq;by_cases fq:vn<0
         case pos=>
          clear hn;rcases eo with eo | eo
          case inl=>
           subst eo;have DB:=zBK (show IntKind.i64.wrap (-2-(i:Int)) = -2-(i:Int) from i64_in _ ⟨by omega,by omega⟩);have bQ:=zBK (show ¬HeadOk S from fun hk=>by have h8:=(HM.out hk).2;dsimp only at h8;omega);go_wp2_with fail;refine (zBZ (13) (-2-(i:Int)) wr).mono ?_;rintro e wz ⟨rfl,bz⟩;have aZ:=(bz.block _ (zBM dE)).trans dE;have BZ:=Br.trans (bz.mono Br.size);have dJ:=coQ aZ 0;have dK:=coQ aZ 1;have gJ:=foQ aZ 0;have gK:=foQ aZ 1;simp at dJ dK;have KE:=zBQ (zBQ aZ 0 (.int .i64 (13))) 1 (.int .i64 (-2-(i:Int)));have BE:=(BZ.setCell (p:=⟨w.heap.size+1,0,none⟩) (by show w.heap.size<=w.heap.size+1;omega) (.int .i64 (13))).setCell (p:=⟨w.heap.size+1,1,none⟩) (by show w.heap.size<=w.heap.size+1;omega) (.int .i64 (-2-(i:Int)));have t0:=coQ KE 0;have t1:=coQ KE 1;simp at t0 t1;have aQ:=zBK (show HeadPost w S (.returned (.agg #[.int .i64 (13),.int .i64 (-2-(i:Int))])) _ from ⟨13,-2-(i:Int),rfl,⟨fun h=>absurd h (by decide),fun h=>absurd h bQ.out⟩,BE⟩);clear KE BE BZ aZ;go_wp2;exact bodyPost_ret (v:=.agg #[.int .i64 (13),.int .i64 (-2-(i:Int))]) (by simp [results,Tryz.results31,go_sem,t0,t1]) rfl aQ.out
          case inr=>
           subst eo;have DB:=zBK (show IntKind.i64.wrap (-2-(i:Int)) = -2-(i:Int) from i64_in _ ⟨by omega,by omega⟩);have bQ:=zBK (show ¬HeadOk S from fun hk=>by have h8:=(HM.out hk).2;dsimp only at h8;omega);go_wp2_with fail;refine (zBZ (13) (-2-(i:Int)) wr).mono ?_;rintro e wz ⟨rfl,bz⟩;have aZ:=(bz.block _ (zBM dE)).trans dE;have BZ:=Br.trans (bz.mono Br.size);have dJ:=coQ aZ 0;have dK:=coQ aZ 1;have gJ:=foQ aZ 0;have gK:=foQ aZ 1;simp at dJ dK;have KE:=zBQ (zBQ aZ 0 (.int .i64 (13))) 1 (.int .i64 (-2-(i:Int)));have BE:=(BZ.setCell (p:=⟨w.heap.size+1,0,none⟩) (by show w.heap.size<=w.heap.size+1;omega) (.int .i64 (13))).setCell (p:=⟨w.heap.size+1,1,none⟩) (by show w.heap.size<=w.heap.size+1;omega) (.int .i64 (-2-(i:Int)));have t0:=coQ KE 0;have t1:=coQ KE 1;simp at t0 t1;have aQ:=zBK (show HeadPost w S (.returned (.agg #[.int .i64 (13),.int .i64 (-2-(i:Int))])) _ from ⟨13,-2-(i:Int),rfl,⟨fun h=>absurd h (by decide),fun h=>absurd h bQ.out⟩,BE⟩);clear KE BE BZ aZ;go_wp2;exact bodyPost_ret (v:=.agg #[.int .i64 (13),.int .i64 (-2-(i:Int))]) (by simp [results,Tryz.results31,go_sem,t0,t1]) rfl aQ.out
         case neg=>
          have Rs:300<vn:=(by omega);clear hn;rcases eo with eo | eo
          case inl=>
           subst eo;have DB:=zBK (show IntKind.i64.wrap (-2-(i:Int)) = -2-(i:Int) from i64_in _ ⟨by omega,by omega⟩);have bQ:=zBK (show ¬HeadOk S from fun hk=>by have h8:=(HM.out hk).2;dsimp only at h8;omega);go_wp2_with fail;refine (zBZ (13) (-2-(i:Int)) wr).mono ?_;rintro e wz ⟨rfl,bz⟩;have aZ:=(bz.block _ (zBM dE)).trans dE;have BZ:=Br.trans (bz.mono Br.size);have dJ:=coQ aZ 0;have dK:=coQ aZ 1;have gJ:=foQ aZ 0;have gK:=foQ aZ 1;simp at dJ dK;have KE:=zBQ (zBQ aZ 0 (.int .i64 (13))) 1 (.int .i64 (-2-(i:Int)));have BE:=(BZ.setCell (p:=⟨w.heap.size+1,0,none⟩) (by show w.heap.size<=w.heap.size+1;omega) (.int .i64 (13))).setCell (p:=⟨w.heap.size+1,1,none⟩) (by show w.heap.size<=w.heap.size+1;omega) (.int .i64 (-2-(i:Int)));have t0:=coQ KE 0;have t1:=coQ KE 1;simp at t0 t1;have aQ:=zBK (show HeadPost w S (.returned (.agg #[.int .i64 (13),.int .i64 (-2-(i:Int))])) _ from ⟨13,-2-(i:Int),rfl,⟨fun h=>absurd h (by decide),fun h=>absurd h bQ.out⟩,BE⟩);clear KE BE BZ aZ;go_wp2;exact bodyPost_ret (v:=.agg #[.int .i64 (13),.int .i64 (-2-(i:Int))]) (by simp [results,Tryz.results31,go_sem,t0,t1]) rfl aQ.out
          case inr=>
           subst eo;have DB:=zBK (show IntKind.i64.wrap (-2-(i:Int)) = -2-(i:Int) from i64_in _ ⟨by omega,by omega⟩);have bQ:=zBK (show ¬HeadOk S from fun hk=>by have h8:=(HM.out hk).2;dsimp only at h8;omega);go_wp2_with fail;refine (zBZ (13) (-2-(i:Int)) wr).mono ?_;rintro e wz ⟨rfl,bz⟩;have aZ:=(bz.block _ (zBM dE)).trans dE;have BZ:=Br.trans (bz.mono Br.size);have dJ:=coQ aZ 0;have dK:=coQ aZ 1;have gJ:=foQ aZ 0;have gK:=foQ aZ 1;simp at dJ dK;have KE:=zBQ (zBQ aZ 0 (.int .i64 (13))) 1 (.int .i64 (-2-(i:Int)));have BE:=(BZ.setCell (p:=⟨w.heap.size+1,0,none⟩) (by show w.heap.size<=w.heap.size+1;omega) (.int .i64 (13))).setCell (p:=⟨w.heap.size+1,1,none⟩) (by show w.heap.size<=w.heap.size+1;omega) (.int .i64 (-2-(i:Int)));have t0:=coQ KE 0;have t1:=coQ KE 1;simp at t0 t1;have aQ:=zBK (show HeadPost w S (.returned (.agg #[.int .i64 (13),.int .i64 (-2-(i:Int))])) _ from ⟨13,-2-(i:Int),rfl,⟨fun h=>absurd h (by decide),fun h=>absurd h bQ.out⟩,BE⟩);clear KE BE BZ aZ;go_wp2;exact bodyPost_ret (v:=.agg #[.int .i64 (13),.int .i64 (-2-(i:Int))]) (by simp [results,Tryz.results31,go_sem,t0,t1]) rfl aQ.out
      case neg=>
       have bp:i=S.V.length:=(by omega);subst bp;have Ni:=zBK (show ∀ v ∈ S.V,Sk.VrOk v from fun v hv=>HV.out v (by rw [List.take_length];exact hv));obtain ⟨wv,PF⟩:=nmQ (wr);subst PF;clear HV ep dE;go_wp2_with fail;clear s0 s1 s2;go_loopg [4] S.I.length (fun k v4 wr=>∃ (i:Nat),i<=S.I.length/\k=S.I.length-i/\v4=.int .i64 (i:Nat)/\Hid ((∀ x ∈ S.I.take i,0<=x/\x<(S.V.length:Int))/\(S.I.take i).Nodup)/\Below w1.heap.size w1 wr)
       case atStart=>exact ⟨0,Nat.zero_le _,rfl,rfl,zBK ⟨fun v hv=>by simp at hv,by simp⟩,aH⟩
       case round=>
        clear aH Br yS;obtain ⟨i,hi,rfl,rfl,jF,aH⟩:=hrel;have ep:=(aH.block _ jD).trans kS;have dE:=(aH.block _ pa).trans kF;have Br:=b1.trans (aH.mono b1.size);have s0:=coQ ep 0;have s1:=coQ ep 1;have s2:=coQ ep 2;simp at s0 s1 s2;have yS:=zBM ep;by_cases bd:i<S.I.length
        case pos=>
         obtain ⟨ao,cp,e1,-,-,bo⟩:=(HS.out.under aH).I.at;injection e1 with z1 z2 z3;obtain ⟨bI,oI,nF,yI,xI⟩:=bo i bd;rw [nF] at z1;subst z1;clear z2 z3;have tz:=zBK (fun (W:World) (hW:Below wr.heap.size wr W)=>zBr (S.I[i]) (zBj (row_head (c:=i) ((show HRow kInt ok W (.slice (some ⟨bI,oI,none⟩) S.I.length cI) S.I from ((HS.out.under aH).under hW).I)) (by omega))));have HN:=zBK (fun (h:0<=S.I[i]/\S.I[i]<(S.V.length:Int)) (hm:S.I[i] ∉ S.I.take i)=>And.intro (qS (P:=fun x=>0<=x/\x<(S.V.length:Int)) bd jF.out.1 h) (nodup_take bd jF.out.2 hm));have rU:=zBK (show HeadOk S->(0<=S.I[i]/\S.I[i]<(S.V.length:Int))/\S.I[i] ∉ S.I.take i from fun hk=>⟨hk.ins _ (List.getElem_mem bd),nodup_not bd hk.insN⟩);obtain ⟨x,hx⟩:=nmQ (S.I[i]);rw [<-hx] at xI tz HN rU;obtain ⟨q1,bm⟩:=nmQ (decide (x<0));obtain ⟨q2,aY⟩:=nmQ (decide (x≥(S.V.length:Int)));obtain ⟨q3,da⟩:=nmQ ((S.I.take i).any (fun z=>z==x));rw [<-da] at tz;have ib:=zBK bm;have eK:=zBK aY;have ja:=zBK da;clear bo nF hx bm aY da ep jF;go_upto_region 13 with fail;have aM:=zBK (fun (wz:World) (hSw:Below wr.heap.size wr wz)=>And.intro ((hSw.cell (p:=⟨w.heap.size,0,none⟩) yS).trans s0) (And.intro ((hSw.cell (p:=⟨w.heap.size,1,none⟩) yS).trans s1) ((hSw.cell (p:=⟨bI,oI+i,none⟩) yI).trans xI)));refine zBP (fun w'=>Below wr.heap.size wr w') (fun _=>false) (by kernel_rfl) ?_;have ab:Below wr.heap.size wr wr.drew:=(Below.refl _ _).drew;generalize wr.drew=ag at ab ⊢;refine' tkR 0 81 ab ?o1
         refine' tkQ 1 82 ab ?hyv ?o2
         case hyv=>
          intro wz hSw;have bk:=aM.out wz hSw;go_simp
          try rfl
         try simp only [Act.put,sT,sZ,sS]
         refine' tkR 2 83 ab ?o3
         refine' tkR 3 84 ab ?o4
         refine' tkQ 4 85 ab ?hyv ?o5
         case hyv=>
          intro wz hSw;have bk:=aM.out wz hSw;go_simp
          try rfl
         try simp only [Act.put,sT,sZ,sS]
         refine' zBS (i:=5) (oi:=⟨some 86,_,_,_,_,_⟩) (v:=.bool q1) rfl (by kernel_rfl) (by kernel_rfl) (by kernel_rfl) (by kernel_rfl) (fun _ _ _ h=>h) ab (by rfl) ?hyv ?o6
         case hyv=>
          intro wz hSw;go_simp;rw [ib.out]
          try rfl
         try simp only [Act.put,sT,sZ,sS]
         refine' tkR 6 87 ab ?o7
         cases q1
         case false=>
          refine' tkR 7 88 ab ?o8
          refine' tkQ 8 89 ab ?hyv ?o9
          case hyv=>
           intro wz hSw;have bk:=aM.out wz hSw;go_simp
           try rfl
          try simp only [Act.put,sT,sZ,sS]
          refine' tkR 9 90 ab ?o10
          refine' tkR 10 91 ab ?o11
          refine' tkQ 11 92 ab ?hyv ?o12
          case hyv=>
           intro wz hSw;have bk:=aM.out wz hSw;go_simp
           try rfl
          try simp only [Act.put,sT,sZ,sS]
          refine' tkR 12 93 ab ?o13
          refine' tkQ 13 94 ab ?hyv ?o14
          case hyv=>
           intro wz hSw;have bk:=aM.out wz hSw;go_simp
           try rfl
          try simp only [Act.put,sT,sZ,sS]
          refine' tkR 14 95 ab ?o15
          refine' zBS (i:=15) (oi:=⟨some 96,_,_,_,_,_⟩) (v:=.bool q2) rfl (by kernel_rfl) (by kernel_rfl) (by kernel_rfl) (by kernel_rfl) (fun _ _ _ h=>h) ab (by rfl) ?hyv ?o16
          case hyv=>
           intro wz hSw;go_simp;rw [eK.out]
           try rfl
          try simp only [Act.put,sT,sZ,sS]
          refine' tkR 16 97 ab ?o17
          refine zBN (by kernel_rfl) ?_ _;obtain ⟨wx,gm⟩:=nmQ (ag);subst gm;have hX:=ab;have BX:=aH.trans (hX.mono aH.size);have n7:=(hX.block _ (zBM dE)).trans dE;have pb:=b1.trans (BX.mono b1.size)
          cases q2
          case true=>
           have bQ:=zBK (show ¬HeadOk S from fun hk=>by have h1:=eK.out;have h2:=(rU.out hk).1;simp at h1;omega);go_wp2_with fail;refine (zBZ (16) (-1) wx).mono ?_;rintro e wz ⟨rfl,bz⟩;have aZ:=(bz.block _ (zBM n7)).trans n7;have BZ:=pb.trans (bz.mono pb.size);have dJ:=coQ aZ 0;have dK:=coQ aZ 1;have gJ:=foQ aZ 0;have gK:=foQ aZ 1;simp at dJ dK;have KE:=zBQ (zBQ aZ 0 (.int .i64 (16))) 1 (.int .i64 (-1));have BE:=(BZ.setCell (p:=⟨w.heap.size+1,0,none⟩) (by show w.heap.size<=w.heap.size+1;omega) (.int .i64 (16))).setCell (p:=⟨w.heap.size+1,1,none⟩) (by show w.heap.size<=w.heap.size+1;omega) (.int .i64 (-1));have t0:=coQ KE 0;have t1:=coQ KE 1;simp at t0 t1;have aQ:=zBK (show HeadPost w S (.returned (.agg #[.int .i64 (16),.int .i64 (-1)])) _ from ⟨16,-1,rfl,⟨fun h=>absurd h (by decide),fun h=>absurd h bQ.out⟩,BE⟩);clear KE BE BZ aZ;go_wp2;exact bodyPost_ret (v:=.agg #[.int .i64 (16),.int .i64 (-1)]) (by simp [results,Tryz.results31,go_sem,t0,t1]) rfl aQ.out
          case false=>
           have sX:0<=x/\x<(S.V.length:Int):=by
            have h1:=ib.out;have h2:=eK.out;simp at h1 h2;exact ⟨h1,h2⟩
           replace s1:=(hX.cell (p:=⟨w.heap.size,1,none⟩) yS).trans s1
           replace xI:=(hX.cell (p:=⟨bI,oI+i,none⟩) yI).trans xI
           replace yS:=Nat.lt_of_lt_of_le yS hX.size
           replace yI:=Nat.lt_of_lt_of_le yI hX.size
           have ML:=zBK (fun (W:World) (hW:Below wx.heap.size wx W)=>tz.out W (hX.trans (hW.mono hX.size)));clear tz;go_upto_region 15 with fail;have aM:=zBK (fun (wz:World) (hSw:Below wx.heap.size wx wz)=>And.intro ((hSw.cell (p:=⟨w.heap.size,1,none⟩) yS).trans s1) ((hSw.cell (p:=⟨bI,oI+i,none⟩) yI).trans xI));refine zBP (fun w'=>Below wx.heap.size wx w') (fun _=>false) (by kernel_rfl) ?_;have ab:Below wx.heap.size wx wx.drew:=(Below.refl _ _).drew;generalize wx.drew=ag at ab ⊢;refine' tkR 0 99 ab ?o18
           refine' tkQ 1 100 ab ?hyv ?o19
           case hyv=>
            intro wz hSw;have bk:=aM.out wz hSw;go_simp
            try rfl
           try simp only [Act.put,sT,sZ,sS]
           refine' tkR 2 101 ab ?o20
           refine' zBS (i:=3) (oi:=⟨some 102,_,_,_,_,_⟩) (v:=.slice (some ⟨bI,oI,none⟩) i cI) rfl (by kernel_rfl) (by kernel_rfl) (by kernel_rfl) (by kernel_rfl) (fun _ _ _ h=>h) ab (by rfl) ?hyv ?o21
           case hyv=>
            intro wz hSw;go_simp
            try (intro hh;omega)
            try rfl
           try simp only [Act.put,sT,sZ,sS]
           refine' tkR 4 103 ab ?o22
           refine' tkQ 5 104 ab ?hyv ?o23
           case hyv=>
            intro wz hSw;have bk:=aM.out wz hSw;go_simp
            try rfl
           try simp only [Act.put,sT,sZ,sS]
           refine' tkR 6 105 ab ?o24
           refine' tkR 7 106 ab ?o25
           refine' tkQ 8 107 ab ?hyv ?o26
           case hyv=>
            intro wz hSw;have bk:=aM.out wz hSw;go_simp
            try rfl
           try simp only [Act.put,sT,sZ,sS]
           refine tnQ 9 (fun K hK=>?_);go_simp;refine (ML.out ag ab).mono ?_;rintro eq aw ⟨rfl,cY⟩;have af:Below wx.heap.size wx aw:=ab.trans (cY.mono ab.size);refine hK.out _ _ (fun _=>af) ?_;clear hK K
           try simp only [Act.put,sT,sZ,sS]
           refine zBN (by kernel_rfl) ?_ _;obtain ⟨wy,PI⟩:=nmQ (aw);subst PI;have hY:=af;have BY:=BX.trans (hY.mono BX.size);have L7:=(hY.block _ (zBM n7)).trans n7;have IF:=b1.trans (BY.mono b1.size)
           cases q3
           case true=>
            have bQ:=zBK (show ¬HeadOk S from fun hk=>(rU.out hk).2 (zBw.1 ja.out.symm));go_wp2_with fail;refine (zBZ (8) (-1) wy).mono ?_;rintro e wz ⟨rfl,bz⟩;have aZ:=(bz.block _ (zBM L7)).trans L7;have BZ:=IF.trans (bz.mono IF.size);have dJ:=coQ aZ 0;have dK:=coQ aZ 1;have gJ:=foQ aZ 0;have gK:=foQ aZ 1;simp at dJ dK;have KE:=zBQ (zBQ aZ 0 (.int .i64 (8))) 1 (.int .i64 (-1));have BE:=(BZ.setCell (p:=⟨w.heap.size+1,0,none⟩) (by show w.heap.size<=w.heap.size+1;omega) (.int .i64 (8))).setCell (p:=⟨w.heap.size+1,1,none⟩) (by show w.heap.size<=w.heap.size+1;omega) (.int .i64 (-1));have t0:=coQ KE 0;have t1:=coQ KE 1;simp at t0 t1;have aQ:=zBK (show HeadPost w S (.returned (.agg #[.int .i64 (8),.int .i64 (-1)])) _ from ⟨8,-1,rfl,⟨fun h=>absurd h (by decide),fun h=>absurd h bQ.out⟩,BE⟩);clear KE BE BZ aZ;go_wp2;exact bodyPost_ret (v:=.agg #[.int .i64 (8),.int .i64 (-1)]) (by simp [results,Tryz.results31,go_sem,t0,t1]) rfl aQ.out
           case false=>
            have lT:=zBK (HN.out sX (fun hm=>by have h6:=zBw.2 hm;rw [<-ja.out] at h6;cases h6));clear HN;go_wp2_with fail;go_roundg (S.I.length-(i+1))
            case measure=>omega
            case rel=>exact ⟨i+1,by omega,rfl,by go_num,lT,BY⟩
         case true=>
          refine' tsQ 7 88 ab ?_
          refine' tsQ 8 89 ab ?_
          refine' tsQ 9 90 ab ?_
          refine' tsQ 10 91 ab ?_
          refine' tsQ 11 92 ab ?_
          refine' tsQ 12 93 ab ?_
          refine' tsQ 13 94 ab ?_
          refine' tsQ 14 95 ab ?_
          refine' tsQ 15 96 ab ?_
          refine' tkR 16 97 ab ?o27
          refine zBN (by kernel_rfl) ?_ _;obtain ⟨wx,gm⟩:=nmQ (ag);subst gm;have hX:=ab;have BX:=aH.trans (hX.mono aH.size);have n7:=(hX.block _ (zBM dE)).trans dE;have pb:=b1.trans (BX.mono b1.size);have bQ:=zBK (show ¬HeadOk S from fun hk=>by have h1:=ib.out;have h2:=(rU.out hk).1;simp at h1;omega);go_wp2_with fail;refine (zBZ (16) (-1) wx).mono ?_;rintro e wz ⟨rfl,bz⟩;have aZ:=(bz.block _ (zBM n7)).trans n7;have BZ:=pb.trans (bz.mono pb.size);have dJ:=coQ aZ 0;have dK:=coQ aZ 1;have gJ:=foQ aZ 0;have gK:=foQ aZ 1;simp at dJ dK;have KE:=zBQ (zBQ aZ 0 (.int .i64 (16))) 1 (.int .i64 (-1));have BE:=(BZ.setCell (p:=⟨w.heap.size+1,0,none⟩) (by show w.heap.size<=w.heap.size+1;omega) (.int .i64 (16))).setCell (p:=⟨w.heap.size+1,1,none⟩) (by show w.heap.size<=w.heap.size+1;omega) (.int .i64 (-1));have t0:=coQ KE 0;have t1:=coQ KE 1;simp at t0 t1;have aQ:=zBK (show HeadPost w S (.returned (.agg #[.int .i64 (16),.int .i64 (-1)])) _ from ⟨16,-1,rfl,⟨fun h=>absurd h (by decide),fun h=>absurd h bQ.out⟩,BE⟩);clear KE BE BZ aZ;go_wp2;exact bodyPost_ret (v:=.agg #[.int .i64 (16),.int .i64 (-1)]) (by simp [results,Tryz.results31,go_sem,t0,t1]) rfl aQ.out
        case neg=>
         have bp:i=S.I.length:=(by omega);subst bp;have I8:=zBK (show (∀ x ∈ S.I,0<=x/\x<(S.V.length:Int))/\S.I.Nodup by have h5:=jF.out;rw [List.take_length] at h5;exact h5);obtain ⟨wi,zk⟩:=nmQ (wr);subst zk;clear jF ep dE;go_wp2_with fail;clear s0 s1 s2;go_loopg [5] S.O.length (fun k v5 wr=>∃ (i:Nat),i<=S.O.length/\k=S.O.length-i/\v5=.int .i64 (i:Nat)/\Hid (∀ x ∈ S.O.take i,0<=x/\x<(S.V.length:Int))/\Below w1.heap.size w1 wr)
         case atStart=>exact ⟨0,Nat.zero_le _,rfl,rfl,zBK (fun v hv=>by simp at hv),aH⟩
         case round=>
          clear aH Br yS;obtain ⟨i,hi,rfl,rfl,tH,aH⟩:=hrel;have ep:=(aH.block _ jD).trans kS;have dE:=(aH.block _ pa).trans kF;have Br:=b1.trans (aH.mono b1.size);have s0:=coQ ep 0;have s1:=coQ ep 1;have s2:=coQ ep 2;simp at s0 s1 s2;have yS:=zBM ep;by_cases bd:i<S.O.length
          case pos=>
           obtain ⟨ao,cp,e1,-,-,bo⟩:=(HS.out.under aH).O.at;injection e1 with z1 z2 z3;obtain ⟨bI,oI,nF,yI,xI⟩:=bo i bd;rw [nF] at z1;subst z1;clear z2 z3;have HN:=zBK (fun (h:0<=S.O[i]/\S.O[i]<(S.V.length:Int))=>qS (P:=fun x=>0<=x/\x<(S.V.length:Int)) bd tH.out h);have Fh:=zBK (show HeadOk S->0<=S.O[i]/\S.O[i]<(S.V.length:Int) from fun hk=>hk.outs _ (List.getElem_mem bd));generalize S.O[i]=x at xI HN Fh;obtain ⟨q1,bm⟩:=nmQ (decide (x<0));obtain ⟨q2,aY⟩:=nmQ (decide (x≥(S.V.length:Int)));have ib:=zBK bm;have eK:=zBK aY;clear bo nF bm aY ep tH;go_upto_region 20 with fail;have aM:=zBK (fun (wz:World) (hSw:Below wr.heap.size wr wz)=>And.intro ((hSw.cell (p:=⟨w.heap.size,0,none⟩) yS).trans s0) (And.intro ((hSw.cell (p:=⟨w.heap.size,2,none⟩) yS).trans s2) ((hSw.cell (p:=⟨bI,oI+i,none⟩) yI).trans xI)));refine zBP (fun w'=>Below wr.heap.size wr w') (fun _=>false) (by kernel_rfl) ?_;have ab:Below wr.heap.size wr wr.drew:=(Below.refl _ _).drew;generalize wr.drew=ag at ab ⊢;refine' tkR 0 117 ab ?o28
           refine' tkQ 1 118 ab ?hyv ?o29
           case hyv=>
            intro wz hSw;have bk:=aM.out wz hSw;go_simp
            try rfl
           try simp only [Act.put,sT,sZ,sS]
           refine' tkR 2 119 ab ?o30
           refine' tkR 3 120 ab ?o31
           refine' tkQ 4 121 ab ?hyv ?o32
           case hyv=>
            intro wz hSw;have bk:=aM.out wz hSw;go_simp
            try rfl
           try simp only [Act.put,sT,sZ,sS]
           refine' zBS (i:=5) (oi:=⟨some 122,_,_,_,_,_⟩) (v:=.bool q1) rfl (by kernel_rfl) (by kernel_rfl) (by kernel_rfl) (by kernel_rfl) (fun _ _ _ h=>h) ab (by rfl) ?hyv ?o33
           case hyv=>
            intro wz hSw;go_simp;rw [ib.out]
            try rfl
           try simp only [Act.put,sT,sZ,sS]
           refine' tkR 6 123 ab ?o34
           cases q1
           case false=>
            refine' tkR 7 124 ab ?o35
            refine' tkQ 8 125 ab ?hyv ?o36
            case hyv=>
             intro wz hSw;have bk:=aM.out wz hSw;go_simp
             try rfl
            try simp only [Act.put,sT,sZ,sS]
            refine' tkR 9 126 ab ?o37
            refine' tkR 10 127 ab ?o38
            refine' tkQ 11 128 ab ?hyv ?o39
            case hyv=>
             intro wz hSw;have bk:=aM.out wz hSw;go_simp
             try rfl
            try simp only [Act.put,sT,sZ,sS]
            refine' tkR 12 129 ab ?o40
            refine' tkQ 13 130 ab ?hyv ?o41
            case hyv=>
             intro wz hSw;have bk:=aM.out wz hSw;go_simp
             try rfl
            try simp only [Act.put,sT,sZ,sS]
            refine' tkR 14 131 ab ?o42
            refine' zBS (i:=15) (oi:=⟨some 132,_,_,_,_,_⟩) (v:=.bool q2) rfl (by kernel_rfl) (by kernel_rfl) (by kernel_rfl) (by kernel_rfl) (fun _ _ _ h=>h) ab (by rfl) ?hyv ?o43
            case hyv=>
             intro wz hSw;go_simp;rw [eK.out]
             try rfl
            try simp only [Act.put,sT,sZ,sS]
            refine' tkR 16 133 ab ?o44
            refine zBN (by kernel_rfl) ?_ _;obtain ⟨wx,gm⟩:=nmQ (ag);subst gm;have hX:=ab;have BX:=aH.trans (hX.mono aH.size);have n7:=(hX.block _ (zBM dE)).trans dE;have pb:=b1.trans (BX.mono b1.size)
            cases q2
            case true=>
             have bQ:=zBK (show ¬HeadOk S from fun hk=>by have h1:=eK.out;have h2:=Fh.out hk;simp at h1;omega);go_wp2_with fail;refine (zBZ (16) (-1) wx).mono ?_;rintro e wz ⟨rfl,bz⟩;have aZ:=(bz.block _ (zBM n7)).trans n7;have BZ:=pb.trans (bz.mono pb.size);have dJ:=coQ aZ 0;have dK:=coQ aZ 1;have gJ:=foQ aZ 0;have gK:=foQ aZ 1;simp at dJ dK;have KE:=zBQ (zBQ aZ 0 (.int .i64 (16))) 1 (.int .i64 (-1));have BE:=(BZ.setCell (p:=⟨w.heap.size+1,0,none⟩) (by show w.heap.size<=w.heap.size+1;omega) (.int .i64 (16))).setCell (p:=⟨w.heap.size+1,1,none⟩) (by show w.heap.size<=w.heap.size+1;omega) (.int .i64 (-1));have t0:=coQ KE 0;have t1:=coQ KE 1;simp at t0 t1;have aQ:=zBK (show HeadPost w S (.returned (.agg #[.int .i64 (16),.int .i64 (-1)])) _ from ⟨16,-1,rfl,⟨fun h=>absurd h (by decide),fun h=>absurd h bQ.out⟩,BE⟩);clear KE BE BZ aZ;go_wp2;exact bodyPost_ret (v:=.agg #[.int .i64 (16),.int .i64 (-1)]) (by simp [results,Tryz.results31,go_sem,t0,t1]) rfl aQ.out
            case false=>
             have lT:=zBK (HN.out (by
              have h1:=ib.out;have h2:=eK.out;simp at h1 h2;exact ⟨h1,h2⟩))
             clear HN;go_wp2_with fail;go_roundg (S.O.length-(i+1))
             case measure=>omega
             case rel=>exact ⟨i+1,by omega,rfl,by go_num,lT,BX⟩
           case true=>
            refine' tsQ 7 124 ab ?_
            refine' tsQ 8 125 ab ?_
            refine' tsQ 9 126 ab ?_
            refine' tsQ 10 127 ab ?_
            refine' tsQ 11 128 ab ?_
            refine' tsQ 12 129 ab ?_
            refine' tsQ 13 130 ab ?_
            refine' tsQ 14 131 ab ?_
            refine' tsQ 15 132 ab ?_
            refine' tkR 16 133 ab ?o45
            refine zBN (by kernel_rfl) ?_ _;obtain ⟨wx,gm⟩:=nmQ (ag);subst gm;have hX:=ab;have BX:=aH.trans (hX.mono aH.size);have n7:=(hX.block _ (zBM dE)).trans dE;have pb:=b1.trans (BX.mono b1.size);have bQ:=zBK (show ¬HeadOk S from fun hk=>by have h1:=ib.out;have h2:=Fh.out hk;simp at h1;omega);go_wp2_with fail;refine (zBZ (16) (-1) wx).mono ?_;rintro e wz ⟨rfl,bz⟩;have aZ:=(bz.block _ (zBM n7)).trans n7;have BZ:=pb.trans (bz.mono pb.size);have dJ:=coQ aZ 0;have dK:=coQ aZ 1;have gJ:=foQ aZ 0;have gK:=foQ aZ 1;simp at dJ dK;have KE:=zBQ (zBQ aZ 0 (.int .i64 (16))) 1 (.int .i64 (-1));have BE:=(BZ.setCell (p:=⟨w.heap.size+1,0,none⟩) (by show w.heap.size<=w.heap.size+1;omega) (.int .i64 (16))).setCell (p:=⟨w.heap.size+1,1,none⟩) (by show w.heap.size<=w.heap.size+1;omega) (.int .i64 (-1));have t0:=coQ KE 0;have t1:=coQ KE 1;simp at t0 t1;have aQ:=zBK (show HeadPost w S (.returned (.agg #[.int .i64 (16),.int .i64 (-1)])) _ from ⟨16,-1,rfl,⟨fun h=>absurd h (by decide),fun h=>absurd h bQ.out⟩,BE⟩);clear KE BE BZ aZ;go_wp2;exact bodyPost_ret (v:=.agg #[.int .i64 (16),.int .i64 (-1)]) (by simp [results,Tryz.results31,go_sem,t0,t1]) rfl aQ.out
          case neg=>
           have bp:i=S.O.length:=(by omega);subst bp;have M1:=zBK (show ∀ x ∈ S.O,0<=x/\x<(S.V.length:Int) by have h5:=tH.out;rw [List.take_length] at h5;exact h5);have dJ:=coQ dE 0;have dK:=coQ dE 1;have gJ:=foQ dE 0;have gK:=foQ dE 1;simp at dJ dK;have KE:=zBQ (zBQ dE 0 (.int .i64 0)) 1 (.int .i64 0);have BE:=(Br.setCell (p:=⟨w.heap.size+1,0,none⟩) (by show w.heap.size<=w.heap.size+1;omega) (.int .i64 0)).setCell (p:=⟨w.heap.size+1,1,none⟩) (by show w.heap.size<=w.heap.size+1;omega) (.int .i64 0);have t0:=coQ KE 0;have t1:=coQ KE 1;simp at t0 t1;have aQ:=zBK (show HeadPost w S (.returned (.agg #[.int .i64 0,.int .i64 0])) _ from ⟨0,0,rfl,⟨fun _=>⟨nV,nI,nO,nR,Ni.out,I8.out.1,I8.out.2,M1.out⟩,fun _=>rfl⟩,BE⟩);clear KE BE tH ep;go_wp2;exact bodyPost_ret (v:=.agg #[.int .i64 0,.int .i64 0]) (by simp [results,Tryz.results31,go_sem,t0,t1]) rfl aQ.out
end Go.Proofs.YtfhghlpfeeiaeaaGreatDoor
