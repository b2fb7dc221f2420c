import Derived.Test.YtegakbobaecdlaaGreatDoorL39
set_option linter.unusedVariables false
set_option linter.unusedSimpArgs false
set_option maxHeartbeats 64000000
set_option maxRecDepth 100000
namespace Go.Proofs.YtegakbobaecdlaaGreatDoor
open Go.RowKit Go.IntWalk
structure HeadOk (S:Sk.Sys):Prop where
 nV:S.V.length<=400
 nI:S.I.length<=400
 nO:S.O.length<=400
 nR:S.R.length<=400
 vars:∀ v ∈ S.V,Sk.VrOk v
 ins:∀ x ∈ S.I,0<=x/\x<S.V.length
 insN:S.I.Nodup
 outs:∀ x ∈ S.O,0<=x/\x<S.V.length
def HeadPost (w:World) (S:Sk.Sys) (e:Ending) (w':World):Prop:=∃ c a:Int,e=.returned (.agg #[.int .i64 c,.int .i64 a])/\(c=0->HeadOk S)/\Below w.heap.size w w'
theorem nodup_take {l:List Int} {i:Nat} (hi:i<l.length) (h:(l.take i).Nodup) (hn:l[i] ∉ l.take i):(l.take (i+1)).Nodup:=by
 rw [List.take_succ_eq_append_getElem hi,List.nodup_append];refine ⟨h,by simp,fun a ha b hb=>?_⟩;simp at hb;rw [hb];exact fun e=>hn (e ▸ ha)
theorem qD {α:Type} {l:List α} {P:α->Prop} {i:Nat} (hi:i<l.length) (h:∀ x ∈ l.take i,P x) (hx:P l[i]):∀ x ∈ l.take (i+1),P x:=fun x hm=>by
 rw [List.take_succ_eq_append_getElem hi] at hm;rcases List.mem_append.1 hm with q | q
 ·exact h x q
 ·simp at q;rw [q];exact hx
theorem headOf_any {ok:Nat->Prop} {w:World} {aV aI aO aR:Option Addr} {cV cI cO cR:Nat} {S:Sk.Sys} (hS:HSys ok w aV aI aO aR cV cI cO cR S):Calls Tryz.prog 26 #[.agg #[.slice aV S.V.length cV,.slice aI S.I.length cI,.slice aO S.O.length cO,.slice aR S.R.length cR]] w (HeadPost w S):=by
 obtain ⟨aoV,capV,evV,hV1,hV2,-⟩:=hS.V.at;injection evV with q1 q2 q3;rw [<-q3] at hV1 hV2;clear q1 q2 q3;obtain ⟨aoI,capI,evI,hI1,hI2,-⟩:=hS.I.at;injection evI with q1 q2 q3;rw [<-q3] at hI1 hI2;clear q1 q2 q3;obtain ⟨aoO,capO,evO,hO1,hO2,-⟩:=hS.O.at;injection evO with q1 q2 q3;rw [<-q3] at hO1 hO2;clear q1 q2 q3;obtain ⟨aoR,capR,evR,hR1,hR2,-⟩:=hS.R.at;injection evR with q1 q2 q3;rw [<-q3] at hR1 hR2;clear q1 q2 q3;unfold maxLen at hV2 hI2 hO2 hR2;have b0:Below w.heap.size w (w.alloc (.cells #[.slice aV S.V.length cV,.slice aI S.I.length cI,.slice aO S.O.length cO,.slice aR S.R.length cR] 26 (0,0))):=(Below.refl _ _).alloc zM _;have b1:=b0.alloc b0.size (.cells #[.int .i64 0,.int .i64 0] 30 (0,0));have kS:((w.alloc (.cells #[.slice aV S.V.length cV,.slice aI S.I.length cI,.slice aO S.O.length cO,.slice aR S.R.length cR] 26 (0,0))).alloc (.cells #[.int .i64 0,.int .i64 0] 30 (0,0))).heap[w.heap.size]?=some (.cells #[.slice aV S.V.length cV,.slice aI S.I.length cI,.slice aO S.O.length cO,.slice aR S.R.length cR] 26 (0,0)):=(Below.heap_alloc _ _ _ (by simp)).trans (zI w _);have kF:((w.alloc (.cells #[.slice aV S.V.length cV,.slice aI S.I.length cI,.slice aO S.O.length cO,.slice aR S.R.length cR] 26 (0,0))).alloc (.cells #[.int .i64 0,.int .i64 0] 30 (0,0))).heap[w.heap.size+1]?=some (.cells #[.int .i64 0,.int .i64 0] 30 (0,0)):=by
  have:=zI (w.alloc (.cells #[.slice aV S.V.length cV,.slice aI S.I.length cI,.slice aO S.O.length cO,.slice aR S.R.length cR] 26 (0,0))) (.cells #[.int .i64 0,.int .i64 0] 30 (0,0))
  simpa using this
 have HS:=zE (hS.under b1);clear hS b0;go_enter Tryz.func26,Tryz.ntmps26;go_upto_region 1 with fail;generalize (w.alloc (.cells #[.slice aV S.V.length cV,.slice aI S.I.length cI,.slice aO S.O.length cO,.slice aR S.R.length cR] 26 (0,0))).alloc (.cells #[.int .i64 0,.int .i64 0] 30 (0,0))=w1 at b1 kS kF HS ⊢;have s0:=coQ kS 0;have s1:=coQ kS 1;have s2:=coQ kS 2;have s3:=coQ kS 3;simp at s0 s1 s2 s3;have yS1:=zG kS;have yF1:=zG kF;by_cases hV:400<S.V.length
 case pos=>
  go_wp2_with fail;refine (zV (7) (-1) w1).mono ?_;rintro e wz ⟨rfl,bz⟩;have kFz:=(bz.block _ (zG kF)).trans kF;have BZ:=b1.trans (bz.mono b1.size);have s0z:=coQ kFz 0;have s1z:=coQ kFz 1;have f0z:=foQ kFz 0;have f1z:=foQ kFz 1;simp at s0z s1z;have KE:=zJ (zJ kFz 0 (.int .i64 (7))) 1 (.int .i64 (-1));have BE:=(BZ.setCell (p:=⟨w.heap.size+1,0,none⟩) (by show w.heap.size<=w.heap.size+1;omega) (.int .i64 (7))).setCell (p:=⟨w.heap.size+1,1,none⟩) (by show w.heap.size<=w.heap.size+1;omega) (.int .i64 (-1));have t0:=coQ KE 0;have t1:=coQ KE 1;simp at t0 t1;have HFIN:=zE (show HeadPost w S (.returned (.agg #[.int .i64 (7),.int .i64 (-1)])) _ from ⟨7,-1,rfl,fun h=>absurd h (by decide),BE⟩);clear KE BE BZ kFz;go_wp2;exact bodyPost_ret (v:=.agg #[.int .i64 (7),.int .i64 (-1)]) (by simp [results,Tryz.results26,go_sem,t0,t1]) rfl HFIN.out
 case neg=>
  by_cases hI:400<S.I.length
  case pos=>
   go_wp2_with fail;refine (zV (7) (-1) w1).mono ?_;rintro e wz ⟨rfl,bz⟩;have kFz:=(bz.block _ (zG kF)).trans kF;have BZ:=b1.trans (bz.mono b1.size);have s0z:=coQ kFz 0;have s1z:=coQ kFz 1;have f0z:=foQ kFz 0;have f1z:=foQ kFz 1;simp at s0z s1z;have KE:=zJ (zJ kFz 0 (.int .i64 (7))) 1 (.int .i64 (-1));have BE:=(BZ.setCell (p:=⟨w.heap.size+1,0,none⟩) (by show w.heap.size<=w.heap.size+1;omega) (.int .i64 (7))).setCell (p:=⟨w.heap.size+1,1,none⟩) (by show w.heap.size<=w.heap.size+1;omega) (.int .i64 (-1));have t0:=coQ KE 0;have t1:=coQ KE 1;simp at t0 t1;have HFIN:=zE (show HeadPost w S (.returned (.agg #[.int .i64 (7),.int .i64 (-1)])) _ from ⟨7,-1,rfl,fun h=>absurd h (by decide),BE⟩);clear KE BE BZ kFz;go_wp2;exact bodyPost_ret (v:=.agg #[.int .i64 (7),.int .i64 (-1)]) (by simp [results,Tryz.results26,go_sem,t0,t1]) rfl HFIN.out
  case neg=>
   by_cases hO:400<S.O.length
   case pos=>
    go_wp2_with fail;refine (zV (7) (-1) w1).mono ?_;rintro e wz ⟨rfl,bz⟩;have kFz:=(bz.block _ (zG kF)).trans kF;have BZ:=b1.trans (bz.mono b1.size);have s0z:=coQ kFz 0;have s1z:=coQ kFz 1;have f0z:=foQ kFz 0;have f1z:=foQ kFz 1;simp at s0z s1z;have KE:=zJ (zJ kFz 0 (.int .i64 (7))) 1 (.int .i64 (-1));have BE:=(BZ.setCell (p:=⟨w.heap.size+1,0,none⟩) (by show w.heap.size<=w.heap.size+1;omega) (.int .i64 (7))).setCell (p:=⟨w.heap.size+1,1,none⟩) (by show w.heap.size<=w.heap.size+1;omega) (.int .i64 (-1));have t0:=coQ KE 0;have t1:=coQ KE 1;simp at t0 t1;have HFIN:=zE (show HeadPost w S (.returned (.agg #[.int .i64 (7),.int .i64 (-1)])) _ from ⟨7,-1,rfl,fun h=>absurd h (by decide),BE⟩);clear KE BE BZ kFz;go_wp2;exact bodyPost_ret (v:=.agg #[.int .i64 (7),.int .i64 (-1)]) (by simp [results,Tryz.results26,go_sem,t0,t1]) rfl HFIN.out
   case neg=>
    by_cases hR:400<S.R.length
    case pos=>
     go_wp2_with fail;refine (zV (7) (-1) w1).mono ?_;rintro e wz ⟨rfl,bz⟩;have kFz:=(bz.block _ (zG kF)).trans kF;have BZ:=b1.trans (bz.mono b1.size);have s0z:=coQ kFz 0;have s1z:=coQ kFz 1;have f0z:=foQ kFz 0;have f1z:=foQ kFz 1;simp at s0z s1z;have KE:=zJ (zJ kFz 0 (.int .i64 (7))) 1 (.int .i64 (-1));have BE:=(BZ.setCell (p:=⟨w.heap.size+1,0,none⟩) (by show w.heap.size<=w.heap.size+1;omega) (.int .i64 (7))).setCell (p:=⟨w.heap.size+1,1,none⟩) (by show w.heap.size<=w.heap.size+1;omega) (.int .i64 (-1));have t0:=coQ KE 0;have t1:=coQ KE 1;simp at t0 t1;have HFIN:=zE (show HeadPost w S (.returned (.agg #[.int .i64 (7),.int .i64 (-1)])) _ from ⟨7,-1,rfl,fun h=>absurd h (by decide),BE⟩);clear KE BE BZ kFz;go_wp2;exact bodyPost_ret (v:=.agg #[.int .i64 (7),.int .i64 (-1)]) (by simp [results,Tryz.results26,go_sem,t0,t1]) rfl HFIN.out
    case neg=>
     have nV:S.V.length<=400:=(by omega);have nI:S.I.length<=400:=(by omega);have nO:S.O.length<=400:=(by omega);have nR:S.R.length<=400:=(by omega);go_wp2_with fail;clear hV hI hO hR s0 s1 s2 s3;go_loopg [3] S.V.length (fun k v3 wr=>∃ (i:Nat),i<=S.V.length/\k=S.V.length-i/\v3=.int .i64 (i:Nat)/\Hid (∀ v ∈ S.V.take i,Sk.VrOk v)/\Below w1.heap.size w1 wr)
     case atStart=>exact ⟨0,Nat.zero_le _,rfl,rfl,zE (fun v hv=>by simp at hv),Below.refl _ _⟩
     case round=>
      obtain ⟨i,hi,rfl,rfl,HV,hbr⟩:=hrel;have kSr:=(hbr.block _ yS1).trans kS;have kFr:=(hbr.block _ yF1).trans kF;have Br:=b1.trans (hbr.mono b1.size);have s0:=coQ kSr 0;have s1:=coQ kSr 1;have s2:=coQ kSr 2;simp at s0 s1 s2;have yS:=zG kSr;by_cases hlt:i<S.V.length
      case pos=>
       obtain ⟨ao,cp,e1,-,-,hat⟩:=(HS.out.under hbr).V.at;injection e1 with q1 q2 q3;obtain ⟨bV,oV,hbV,yV,c0,c1⟩:=hat i hlt;rw [hbV] at q1;subst q1;have HN:=zE (fun h=>qD (P:=Sk.VrOk) hlt HV.out h);generalize S.V[i]=vv at c0 c1 HN;obtain ⟨el,vn⟩:=vv
       dsimp only at c0 c1
       clear hat q2 q3 hbV kSr;by_cases hel:el=105\/el=98
       case neg=>
        rw [not_or] at hel;have n1:(el != 105)=true:=(by simp [hel.1]);have n2:(el != 98)=true:=(by simp [hel.2]);have HWR:=zE (show IntKind.i64.wrap (-2-(i:Int)) = -2-(i:Int) from i64_in _ ⟨by omega,by omega⟩);clear hel HN;go_wp2_with fail;refine (zV (10) (-2-(i:Int)) wr).mono ?_;rintro e wz ⟨rfl,bz⟩;have kFz:=(bz.block _ (zG kFr)).trans kFr;have BZ:=Br.trans (bz.mono Br.size);have s0z:=coQ kFz 0;have s1z:=coQ kFz 1;have f0z:=foQ kFz 0;have f1z:=foQ kFz 1;simp at s0z s1z;have KE:=zJ (zJ kFz 0 (.int .i64 (10))) 1 (.int .i64 (-2-(i:Int)));have BE:=(BZ.setCell (p:=⟨w.heap.size+1,0,none⟩) (by show w.heap.size<=w.heap.size+1;omega) (.int .i64 (10))).setCell (p:=⟨w.heap.size+1,1,none⟩) (by show w.heap.size<=w.heap.size+1;omega) (.int .i64 (-2-(i:Int)));have t0:=coQ KE 0;have t1:=coQ KE 1;simp at t0 t1;have HFIN:=zE (show HeadPost w S (.returned (.agg #[.int .i64 (10),.int .i64 (-2-(i:Int))])) _ from ⟨10,-2-(i:Int),rfl,fun h=>absurd h (by decide),BE⟩);clear KE BE BZ kFz;go_wp2;exact bodyPost_ret (v:=.agg #[.int .i64 (10),.int .i64 (-2-(i:Int))]) (by simp [results,Tryz.results26,go_sem,t0,t1]) rfl HFIN.out
       case pos=>
        have hq:((el != 105)&&(el != 98))=false:=by rcases hel with h | h<;>simp [h]
        by_cases hn:0<=vn/\vn<=300
        case pos=>
         have HN2:=zE (HN.out ⟨hel,hn⟩);have hn1:=hn.1;have hn2:=hn.2;clear HN hn hq;rcases hel with hel | hel
         case inl=>
          subst hel;go_wp2_with fail;go_roundg (S.V.length-(i+1))
          case measure=>omega
          case rel=>exact ⟨i+1,by omega,rfl,by go_num,HN2,hbr⟩
         case inr=>
          subst hel;go_wp2_with fail;go_roundg (S.V.length-(i+1))
          case measure=>omega
          case rel=>exact ⟨i+1,by omega,rfl,by go_num,HN2,hbr⟩
        case neg=>
         clear HN hq;by_cases hn0:vn<0
         case pos=>
          clear hn;rcases hel with hel | hel
          case inl=>
           subst hel;have HWR:=zE (show IntKind.i64.wrap (-2-(i:Int)) = -2-(i:Int) from i64_in _ ⟨by omega,by omega⟩);go_wp2_with fail;refine (zV (13) (-2-(i:Int)) wr).mono ?_;rintro e wz ⟨rfl,bz⟩;have kFz:=(bz.block _ (zG kFr)).trans kFr;have BZ:=Br.trans (bz.mono Br.size);have s0z:=coQ kFz 0;have s1z:=coQ kFz 1;have f0z:=foQ kFz 0;have f1z:=foQ kFz 1;simp at s0z s1z;have KE:=zJ (zJ kFz 0 (.int .i64 (13))) 1 (.int .i64 (-2-(i:Int)));have BE:=(BZ.setCell (p:=⟨w.heap.size+1,0,none⟩) (by show w.heap.size<=w.heap.size+1;omega) (.int .i64 (13))).setCell (p:=⟨w.heap.size+1,1,none⟩) (by show w.heap.size<=w.heap.size+1;omega) (.int .i64 (-2-(i:Int)));have t0:=coQ KE 0;have t1:=coQ KE 1;simp at t0 t1;have HFIN:=zE (show HeadPost w S (.returned (.agg #[.int .i64 (13),.int .i64 (-2-(i:Int))])) _ from ⟨13,-2-(i:Int),rfl,fun h=>absurd h (by decide),BE⟩);clear KE BE BZ kFz;go_wp2;exact bodyPost_ret (v:=.agg #[.int .i64 (13),.int .i64 (-2-(i:Int))]) (by simp [results,Tryz.results26,go_sem,t0,t1]) rfl HFIN.out
          case inr=>
           subst hel;have HWR:=zE (show IntKind.i64.wrap (-2-(i:Int)) = -2-(i:Int) from i64_in _ ⟨by omega,by omega⟩);go_wp2_with fail;refine (zV (13) (-2-(i:Int)) wr).mono ?_;rintro e wz ⟨rfl,bz⟩;have kFz:=(bz.block _ (zG kFr)).trans kFr;have BZ:=Br.trans (bz.mono Br.size);have s0z:=coQ kFz 0;have s1z:=coQ kFz 1;have f0z:=foQ kFz 0;have f1z:=foQ kFz 1;simp at s0z s1z;have KE:=zJ (zJ kFz 0 (.int .i64 (13))) 1 (.int .i64 (-2-(i:Int)));have BE:=(BZ.setCell (p:=⟨w.heap.size+1,0,none⟩) (by show w.heap.size<=w.heap.size+1;omega) (.int .i64 (13))).setCell (p:=⟨w.heap.size+1,1,none⟩) (by show w.heap.size<=w.heap.size+1;omega) (.int .i64 (-2-(i:Int)));have t0:=coQ KE 0;have t1:=coQ KE 1;simp at t0 t1;have HFIN:=zE (show HeadPost w S (.returned (.agg #[.int .i64 (13),.int .i64 (-2-(i:Int))])) _ from ⟨13,-2-(i:Int),rfl,fun h=>absurd h (by decide),BE⟩);clear KE BE BZ kFz;go_wp2;exact bodyPost_ret (v:=.agg #[.int .i64 (13),.int .i64 (-2-(i:Int))]) (by simp [results,Tryz.results26,go_sem,t0,t1]) rfl HFIN.out
         case neg=>
          have hn3:300<vn:=(by omega);clear hn;rcases hel with hel | hel
          case inl=>
           subst hel;have HWR:=zE (show IntKind.i64.wrap (-2-(i:Int)) = -2-(i:Int) from i64_in _ ⟨by omega,by omega⟩);go_wp2_with fail;refine (zV (13) (-2-(i:Int)) wr).mono ?_;rintro e wz ⟨rfl,bz⟩;have kFz:=(bz.block _ (zG kFr)).trans kFr;have BZ:=Br.trans (bz.mono Br.size);have s0z:=coQ kFz 0;have s1z:=coQ kFz 1;have f0z:=foQ kFz 0;have f1z:=foQ kFz 1;simp at s0z s1z;have KE:=zJ (zJ kFz 0 (.int .i64 (13))) 1 (.int .i64 (-2-(i:Int)));have BE:=(BZ.setCell (p:=⟨w.heap.size+1,0,none⟩) (by show w.heap.size<=w.heap.size+1;omega) (.int .i64 (13))).setCell (p:=⟨w.heap.size+1,1,none⟩) (by show w.heap.size<=w.heap.size+1;omega) (.int .i64 (-2-(i:Int)));have t0:=coQ KE 0;have t1:=coQ KE 1;simp at t0 t1;have HFIN:=zE (show HeadPost w S (.returned (.agg #[.int .i64 (13),.int .i64 (-2-(i:Int))])) _ from ⟨13,-2-(i:Int),rfl,fun h=>absurd h (by decide),BE⟩);clear KE BE BZ kFz;go_wp2;exact bodyPost_ret (v:=.agg #[.int .i64 (13),.int .i64 (-2-(i:Int))]) (by simp [results,Tryz.results26,go_sem,t0,t1]) rfl HFIN.out
          case inr=>
           subst hel;have HWR:=zE (show IntKind.i64.wrap (-2-(i:Int)) = -2-(i:Int) from i64_in _ ⟨by omega,by omega⟩);go_wp2_with fail;refine (zV (13) (-2-(i:Int)) wr).mono ?_;rintro e wz ⟨rfl,bz⟩;have kFz:=(bz.block _ (zG kFr)).trans kFr;have BZ:=Br.trans (bz.mono Br.size);have s0z:=coQ kFz 0;have s1z:=coQ kFz 1;have f0z:=foQ kFz 0;have f1z:=foQ kFz 1;simp at s0z s1z;have KE:=zJ (zJ kFz 0 (.int .i64 (13))) 1 (.int .i64 (-2-(i:Int)));have BE:=(BZ.setCell (p:=⟨w.heap.size+1,0,none⟩) (by show w.heap.size<=w.heap.size+1;omega) (.int .i64 (13))).setCell (p:=⟨w.heap.size+1,1,none⟩) (by show w.heap.size<=w.heap.size+1;omega) (.int .i64 (-2-(i:Int)));have t0:=coQ KE 0;have t1:=coQ KE 1;simp at t0 t1;have HFIN:=zE (show HeadPost w S (.returned (.agg #[.int .i64 (13),.int .i64 (-2-(i:Int))])) _ from ⟨13,-2-(i:Int),rfl,fun h=>absurd h (by decide),BE⟩);clear KE BE BZ kFz;go_wp2;exact bodyPost_ret (v:=.agg #[.int .i64 (13),.int .i64 (-2-(i:Int))]) (by simp [results,Tryz.results26,go_sem,t0,t1]) rfl HFIN.out
      case neg=>
       have hin:i=S.V.length:=(by omega);subst hin;have HVS:=zE (show ∀ v ∈ S.V,Sk.VrOk v from fun v hv=>HV.out v (by rw [List.take_length];exact hv));obtain ⟨wv,hwv⟩:=nmQ (wr);subst hwv;clear HV kSr kFr;go_wp2_with fail;clear s0 s1 s2;go_loopg [4] S.I.length (fun k v4 wr=>∃ (i:Nat),i<=S.I.length/\k=S.I.length-i/\v4=.int .i64 (i:Nat)/\Hid ((∀ x ∈ S.I.take i,0<=x/\x<(S.V.length:Int))/\(S.I.take i).Nodup)/\Below w1.heap.size w1 wr)
       case atStart=>exact ⟨0,Nat.zero_le _,rfl,rfl,zE ⟨fun v hv=>by simp at hv,by simp⟩,hbr⟩
       case round=>
        clear hbr Br yS;obtain ⟨i,hi,rfl,rfl,HIN,hbr⟩:=hrel;have kSr:=(hbr.block _ yS1).trans kS;have kFr:=(hbr.block _ yF1).trans kF;have Br:=b1.trans (hbr.mono b1.size);have s0:=coQ kSr 0;have s1:=coQ kSr 1;have s2:=coQ kSr 2;simp at s0 s1 s2;have yS:=zG kSr;by_cases hlt:i<S.I.length
        case pos=>
         obtain ⟨ao,cp,e1,-,-,hat⟩:=(HS.out.under hbr).I.at;injection e1 with z1 z2 z3;obtain ⟨bI,oI,hbI,yI,xI⟩:=hat i hlt;rw [hbI] at z1;subst z1;clear z2 z3;have HHD:=zE (fun (W:World) (hW:Below wr.heap.size wr W)=>xT (S.I[i]) (zR (row_head (c:=i) ((show HRow kInt ok W (.slice (some ⟨bI,oI,none⟩) S.I.length cI) S.I from ((HS.out.under hbr).under hW).I)) (by omega))));have HN:=zE (fun (h:0<=S.I[i]/\S.I[i]<(S.V.length:Int)) (hm:S.I[i] ∉ S.I.take i)=>And.intro (qD (P:=fun x=>0<=x/\x<(S.V.length:Int)) hlt HIN.out.1 h) (nodup_take hlt HIN.out.2 hm));obtain ⟨x,hx⟩:=nmQ (S.I[i]);rw [<-hx] at xI HHD HN;obtain ⟨q1,hq1⟩:=nmQ (decide (x<0));obtain ⟨q2,hq2⟩:=nmQ (decide (x≥(S.V.length:Int)));obtain ⟨q3,hq3⟩:=nmQ ((S.I.take i).any (fun z=>z==x));rw [<-hq3] at HHD;have HQ1:=zE hq1;have HQ2:=zE hq2;have HQ3:=zE hq3;clear hat hbI hx hq1 hq2 hq3 kSr HIN;go_upto_region 13 with fail;refine zK (fun w'=>Below wr.heap.size wr w') (fun _=>false) (by kernel_rfl) ?_;have hH0:Below wr.heap.size wr wr.drew:=(Below.refl _ _).drew;generalize wr.drew=wd0 at hH0 ⊢;refine' tkR 0 81 hH0 ?o1
         refine' tkQ 1 82 hH0 ?hyv ?o2
         case hyv=>
          intro wz hSw;have zc0:=(hSw.cell (p:=⟨w.heap.size,0,none⟩) yS).trans s0;have zc1:=(hSw.cell (p:=⟨w.heap.size,1,none⟩) yS).trans s1;have zc2:=(hSw.cell (p:=⟨bI,oI+i,none⟩) yI).trans xI;go_simp
          try rfl
         try simp only [Act.put,sT,sZ,sS]
         refine' tkR 2 83 hH0 ?o3
         refine' tkR 3 84 hH0 ?o4
         refine' tkQ 4 85 hH0 ?hyv ?o5
         case hyv=>
          intro wz hSw;have zc0:=(hSw.cell (p:=⟨w.heap.size,0,none⟩) yS).trans s0;have zc1:=(hSw.cell (p:=⟨w.heap.size,1,none⟩) yS).trans s1;have zc2:=(hSw.cell (p:=⟨bI,oI+i,none⟩) yI).trans xI;go_simp
          try rfl
         try simp only [Act.put,sT,sZ,sS]
         refine' zO (i:=5) (oi:=⟨some 86,_,_,_,_,_⟩) (v:=.bool q1) rfl (by kernel_rfl) (by kernel_rfl) (by kernel_rfl) (by kernel_rfl) (fun _ _ _ h=>h) hH0 (by rfl) ?hyv ?o6
         case hyv=>
          intro wz hSw;go_simp;rw [HQ1.out]
          try rfl
         try simp only [Act.put,sT,sZ,sS]
         refine' tkR 6 87 hH0 ?o7
         cases q1
         case false=>
          refine' tkR 7 88 hH0 ?o8
          refine' tkQ 8 89 hH0 ?hyv ?o9
          case hyv=>
           intro wz hSw;have zc0:=(hSw.cell (p:=⟨w.heap.size,0,none⟩) yS).trans s0;have zc1:=(hSw.cell (p:=⟨w.heap.size,1,none⟩) yS).trans s1;have zc2:=(hSw.cell (p:=⟨bI,oI+i,none⟩) yI).trans xI;go_simp
           try rfl
          try simp only [Act.put,sT,sZ,sS]
          refine' tkR 9 90 hH0 ?o10
          refine' tkR 10 91 hH0 ?o11
          refine' tkQ 11 92 hH0 ?hyv ?o12
          case hyv=>
           intro wz hSw;have zc0:=(hSw.cell (p:=⟨w.heap.size,0,none⟩) yS).trans s0;have zc1:=(hSw.cell (p:=⟨w.heap.size,1,none⟩) yS).trans s1;have zc2:=(hSw.cell (p:=⟨bI,oI+i,none⟩) yI).trans xI;go_simp
           try rfl
          try simp only [Act.put,sT,sZ,sS]
          refine' tkR 12 93 hH0 ?o13
          refine' tkQ 13 94 hH0 ?hyv ?o14
          case hyv=>
           intro wz hSw;have zc0:=(hSw.cell (p:=⟨w.heap.size,0,none⟩) yS).trans s0;have zc1:=(hSw.cell (p:=⟨w.heap.size,1,none⟩) yS).trans s1;have zc2:=(hSw.cell (p:=⟨bI,oI+i,none⟩) yI).trans xI;go_simp
           try rfl
          try simp only [Act.put,sT,sZ,sS]
          refine' tkR 14 95 hH0 ?o15
          refine' zO (i:=15) (oi:=⟨some 96,_,_,_,_,_⟩) (v:=.bool q2) rfl (by kernel_rfl) (by kernel_rfl) (by kernel_rfl) (by kernel_rfl) (fun _ _ _ h=>h) hH0 (by rfl) ?hyv ?o16
          case hyv=>
           intro wz hSw;go_simp;rw [HQ2.out]
           try rfl
          try simp only [Act.put,sT,sZ,sS]
          refine' tkR 16 97 hH0 ?o17
          refine zH (by kernel_rfl) ?_ _;obtain ⟨wx,hwx⟩:=nmQ (wd0);subst hwx;have hX:=hH0;have BX:=hbr.trans (hX.mono hbr.size);have kFx:=(hX.block _ (zG kFr)).trans kFr;have BrX:=b1.trans (BX.mono b1.size)
          cases q2
          case true=>
           go_wp2_with fail;refine (zV (16) (-1) wx).mono ?_;rintro e wz ⟨rfl,bz⟩;have kFz:=(bz.block _ (zG kFx)).trans kFx;have BZ:=BrX.trans (bz.mono BrX.size);have s0z:=coQ kFz 0;have s1z:=coQ kFz 1;have f0z:=foQ kFz 0;have f1z:=foQ kFz 1;simp at s0z s1z;have KE:=zJ (zJ kFz 0 (.int .i64 (16))) 1 (.int .i64 (-1));have BE:=(BZ.setCell (p:=⟨w.heap.size+1,0,none⟩) (by show w.heap.size<=w.heap.size+1;omega) (.int .i64 (16))).setCell (p:=⟨w.heap.size+1,1,none⟩) (by show w.heap.size<=w.heap.size+1;omega) (.int .i64 (-1));have t0:=coQ KE 0;have t1:=coQ KE 1;simp at t0 t1;have HFIN:=zE (show HeadPost w S (.returned (.agg #[.int .i64 (16),.int .i64 (-1)])) _ from ⟨16,-1,rfl,fun h=>absurd h (by decide),BE⟩);clear KE BE BZ kFz;go_wp2;exact bodyPost_ret (v:=.agg #[.int .i64 (16),.int .i64 (-1)]) (by simp [results,Tryz.results26,go_sem,t0,t1]) rfl HFIN.out
          case false=>
           have hxr:0<=x/\x<(S.V.length:Int):=by
            have h1:=HQ1.out;have h2:=HQ2.out;simp at h1 h2;exact ⟨h1,h2⟩
           replace s1:=(hX.cell (p:=⟨w.heap.size,1,none⟩) yS).trans s1
           replace xI:=(hX.cell (p:=⟨bI,oI+i,none⟩) yI).trans xI
           replace yS:=Nat.lt_of_lt_of_le yS hX.size
           replace yI:=Nat.lt_of_lt_of_le yI hX.size
           have HHX:=zE (fun (W:World) (hW:Below wx.heap.size wx W)=>HHD.out W (hX.trans (hW.mono hX.size)));clear HHD;go_upto_region 15 with fail;refine zK (fun w'=>Below wx.heap.size wx w') (fun _=>false) (by kernel_rfl) ?_;have hH0:Below wx.heap.size wx wx.drew:=(Below.refl _ _).drew;generalize wx.drew=wd0 at hH0 ⊢;refine' tkR 0 99 hH0 ?o18
           refine' tkQ 1 100 hH0 ?hyv ?o19
           case hyv=>
            intro wz hSw;have zc0:=(hSw.cell (p:=⟨w.heap.size,1,none⟩) yS).trans s1;have zc1:=(hSw.cell (p:=⟨bI,oI+i,none⟩) yI).trans xI;go_simp
            try rfl
           try simp only [Act.put,sT,sZ,sS]
           refine' tkR 2 101 hH0 ?o20
           refine' zO (i:=3) (oi:=⟨some 102,_,_,_,_,_⟩) (v:=.slice (some ⟨bI,oI,none⟩) i cI) rfl (by kernel_rfl) (by kernel_rfl) (by kernel_rfl) (by kernel_rfl) (fun _ _ _ h=>h) hH0 (by rfl) ?hyv ?o21
           case hyv=>
            intro wz hSw;go_simp
            try (intro hh;omega)
            try rfl
           try simp only [Act.put,sT,sZ,sS]
           refine' tkR 4 103 hH0 ?o22
           refine' tkQ 5 104 hH0 ?hyv ?o23
           case hyv=>
            intro wz hSw;have zc0:=(hSw.cell (p:=⟨w.heap.size,1,none⟩) yS).trans s1;have zc1:=(hSw.cell (p:=⟨bI,oI+i,none⟩) yI).trans xI;go_simp
            try rfl
           try simp only [Act.put,sT,sZ,sS]
           refine' tkR 6 105 hH0 ?o24
           refine' tkR 7 106 hH0 ?o25
           refine' tkQ 8 107 hH0 ?hyv ?o26
           case hyv=>
            intro wz hSw;have zc0:=(hSw.cell (p:=⟨w.heap.size,1,none⟩) yS).trans s1;have zc1:=(hSw.cell (p:=⟨bI,oI+i,none⟩) yI).trans xI;go_simp
            try rfl
           try simp only [Act.put,sT,sZ,sS]
           refine tnQ 9 (fun K hK=>?_);go_simp;refine (HHX.out wd0 hH0).mono ?_;rintro eq wd1 ⟨rfl,bq1⟩;have hH1:Below wx.heap.size wx wd1:=hH0.trans (bq1.mono hH0.size);refine hK.out _ _ (fun _=>hH1) ?_;clear hK K
           try simp only [Act.put,sT,sZ,sS]
           refine zH (by kernel_rfl) ?_ _;obtain ⟨wy,hwy⟩:=nmQ (wd1);subst hwy;have hY:=hH1;have BY:=BX.trans (hY.mono BX.size);have kFy:=(hY.block _ (zG kFx)).trans kFx;have BrY:=b1.trans (BY.mono b1.size)
           cases q3
           case true=>
            go_wp2_with fail;refine (zV (8) (-1) wy).mono ?_;rintro e wz ⟨rfl,bz⟩;have kFz:=(bz.block _ (zG kFy)).trans kFy;have BZ:=BrY.trans (bz.mono BrY.size);have s0z:=coQ kFz 0;have s1z:=coQ kFz 1;have f0z:=foQ kFz 0;have f1z:=foQ kFz 1;simp at s0z s1z;have KE:=zJ (zJ kFz 0 (.int .i64 (8))) 1 (.int .i64 (-1));have BE:=(BZ.setCell (p:=⟨w.heap.size+1,0,none⟩) (by show w.heap.size<=w.heap.size+1;omega) (.int .i64 (8))).setCell (p:=⟨w.heap.size+1,1,none⟩) (by show w.heap.size<=w.heap.size+1;omega) (.int .i64 (-1));have t0:=coQ KE 0;have t1:=coQ KE 1;simp at t0 t1;have HFIN:=zE (show HeadPost w S (.returned (.agg #[.int .i64 (8),.int .i64 (-1)])) _ from ⟨8,-1,rfl,fun h=>absurd h (by decide),BE⟩);clear KE BE BZ kFz;go_wp2;exact bodyPost_ret (v:=.agg #[.int .i64 (8),.int .i64 (-1)]) (by simp [results,Tryz.results26,go_sem,t0,t1]) rfl HFIN.out
           case false=>
            have HN2:=zE (HN.out hxr (fun hm=>by have h6:=qY.2 hm;rw [<-HQ3.out] at h6;cases h6));clear HN;go_wp2_with fail;go_roundg (S.I.length-(i+1))
            case measure=>omega
            case rel=>exact ⟨i+1,by omega,rfl,by go_num,HN2,BY⟩
         case true=>
          refine zD (i:=7) (oi:=⟨some 88,_,_,_,_,_⟩) rfl (by kernel_rfl) (by kernel_rfl) (by kernel_rfl) (by kernel_rfl) (fun _ _ _ h=>h) hH0 (by rfl) ?_
          try simp only [Act.put,sT,sZ,sS]
          refine zD (i:=8) (oi:=⟨some 89,_,_,_,_,_⟩) rfl (by kernel_rfl) (by kernel_rfl) (by kernel_rfl) (by kernel_rfl) (fun _ _ _ h=>h) hH0 (by rfl) ?_
          try simp only [Act.put,sT,sZ,sS]
          refine zD (i:=9) (oi:=⟨some 90,_,_,_,_,_⟩) rfl (by kernel_rfl) (by kernel_rfl) (by kernel_rfl) (by kernel_rfl) (fun _ _ _ h=>h) hH0 (by rfl) ?_
          try simp only [Act.put,sT,sZ,sS]
          refine zD (i:=10) (oi:=⟨some 91,_,_,_,_,_⟩) rfl (by kernel_rfl) (by kernel_rfl) (by kernel_rfl) (by kernel_rfl) (fun _ _ _ h=>h) hH0 (by rfl) ?_
          try simp only [Act.put,sT,sZ,sS]
          refine zD (i:=11) (oi:=⟨some 92,_,_,_,_,_⟩) rfl (by kernel_rfl) (by kernel_rfl) (by kernel_rfl) (by kernel_rfl) (fun _ _ _ h=>h) hH0 (by rfl) ?_
          try simp only [Act.put,sT,sZ,sS]
          refine zD (i:=12) (oi:=⟨some 93,_,_,_,_,_⟩) rfl (by kernel_rfl) (by kernel_rfl) (by kernel_rfl) (by kernel_rfl) (fun _ _ _ h=>h) hH0 (by rfl) ?_
          try simp only [Act.put,sT,sZ,sS]
          refine zD (i:=13) (oi:=⟨some 94,_,_,_,_,_⟩) rfl (by kernel_rfl) (by kernel_rfl) (by kernel_rfl) (by kernel_rfl) (fun _ _ _ h=>h) hH0 (by rfl) ?_
          try simp only [Act.put,sT,sZ,sS]
          refine zD (i:=14) (oi:=⟨some 95,_,_,_,_,_⟩) rfl (by kernel_rfl) (by kernel_rfl) (by kernel_rfl) (by kernel_rfl) (fun _ _ _ h=>h) hH0 (by rfl) ?_
          try simp only [Act.put,sT,sZ,sS]
          refine zD (i:=15) (oi:=⟨some 96,_,_,_,_,_⟩) rfl (by kernel_rfl) (by kernel_rfl) (by kernel_rfl) (by kernel_rfl) (fun _ _ _ h=>h) hH0 (by rfl) ?_
          try simp only [Act.put,sT,sZ,sS]
          refine' tkR 16 97 hH0 ?o27
          refine zH (by kernel_rfl) ?_ _;obtain ⟨wx,hwx⟩:=nmQ (wd0);subst hwx;have hX:=hH0;have BX:=hbr.trans (hX.mono hbr.size);have kFx:=(hX.block _ (zG kFr)).trans kFr;have BrX:=b1.trans (BX.mono b1.size);go_wp2_with fail;refine (zV (16) (-1) wx).mono ?_;rintro e wz ⟨rfl,bz⟩;have kFz:=(bz.block _ (zG kFx)).trans kFx;have BZ:=BrX.trans (bz.mono BrX.size);have s0z:=coQ kFz 0;have s1z:=coQ kFz 1;have f0z:=foQ kFz 0;have f1z:=foQ kFz 1;simp at s0z s1z;have KE:=zJ (zJ kFz 0 (.int .i64 (16))) 1 (.int .i64 (-1));have BE:=(BZ.setCell (p:=⟨w.heap.size+1,0,none⟩) (by show w.heap.size<=w.heap.size+1;omega) (.int .i64 (16))).setCell (p:=⟨w.heap.size+1,1,none⟩) (by show w.heap.size<=w.heap.size+1;omega) (.int .i64 (-1));have t0:=coQ KE 0;have t1:=coQ KE 1;simp at t0 t1;have HFIN:=zE (show HeadPost w S (.returned (.agg #[.int .i64 (16),.int .i64 (-1)])) _ from ⟨16,-1,rfl,fun h=>absurd h (by decide),BE⟩);clear KE BE BZ kFz;go_wp2;exact bodyPost_ret (v:=.agg #[.int .i64 (16),.int .i64 (-1)]) (by simp [results,Tryz.results26,go_sem,t0,t1]) rfl HFIN.out
        case neg=>
         have hin:i=S.I.length:=(by omega);subst hin;have HIS:=zE (show (∀ x ∈ S.I,0<=x/\x<(S.V.length:Int))/\S.I.Nodup by have h5:=HIN.out;rw [List.take_length] at h5;exact h5);obtain ⟨wi,hwi⟩:=nmQ (wr);subst hwi;clear HIN kSr kFr;go_wp2_with fail;clear s0 s1 s2;go_loopg [5] S.O.length (fun k v5 wr=>∃ (i:Nat),i<=S.O.length/\k=S.O.length-i/\v5=.int .i64 (i:Nat)/\Hid (∀ x ∈ S.O.take i,0<=x/\x<(S.V.length:Int))/\Below w1.heap.size w1 wr)
         case atStart=>exact ⟨0,Nat.zero_le _,rfl,rfl,zE (fun v hv=>by simp at hv),hbr⟩
         case round=>
          clear hbr Br yS;obtain ⟨i,hi,rfl,rfl,HON,hbr⟩:=hrel;have kSr:=(hbr.block _ yS1).trans kS;have kFr:=(hbr.block _ yF1).trans kF;have Br:=b1.trans (hbr.mono b1.size);have s0:=coQ kSr 0;have s1:=coQ kSr 1;have s2:=coQ kSr 2;simp at s0 s1 s2;have yS:=zG kSr;by_cases hlt:i<S.O.length
          case pos=>
           obtain ⟨ao,cp,e1,-,-,hat⟩:=(HS.out.under hbr).O.at;injection e1 with z1 z2 z3;obtain ⟨bI,oI,hbI,yI,xI⟩:=hat i hlt;rw [hbI] at z1;subst z1;clear z2 z3;have HN:=zE (fun (h:0<=S.O[i]/\S.O[i]<(S.V.length:Int))=>qD (P:=fun x=>0<=x/\x<(S.V.length:Int)) hlt HON.out h);generalize S.O[i]=x at xI HN;obtain ⟨q1,hq1⟩:=nmQ (decide (x<0));obtain ⟨q2,hq2⟩:=nmQ (decide (x≥(S.V.length:Int)));have HQ1:=zE hq1;have HQ2:=zE hq2;clear hat hbI hq1 hq2 kSr HON;go_upto_region 20 with fail;refine zK (fun w'=>Below wr.heap.size wr w') (fun _=>false) (by kernel_rfl) ?_;have hH0:Below wr.heap.size wr wr.drew:=(Below.refl _ _).drew;generalize wr.drew=wd0 at hH0 ⊢;refine' tkR 0 117 hH0 ?o28
           refine' tkQ 1 118 hH0 ?hyv ?o29
           case hyv=>
            intro wz hSw;have zc0:=(hSw.cell (p:=⟨w.heap.size,0,none⟩) yS).trans s0;have zc1:=(hSw.cell (p:=⟨w.heap.size,2,none⟩) yS).trans s2;have zc2:=(hSw.cell (p:=⟨bI,oI+i,none⟩) yI).trans xI;go_simp
            try rfl
           try simp only [Act.put,sT,sZ,sS]
           refine' tkR 2 119 hH0 ?o30
           refine' tkR 3 120 hH0 ?o31
           refine' tkQ 4 121 hH0 ?hyv ?o32
           case hyv=>
            intro wz hSw;have zc0:=(hSw.cell (p:=⟨w.heap.size,0,none⟩) yS).trans s0;have zc1:=(hSw.cell (p:=⟨w.heap.size,2,none⟩) yS).trans s2;have zc2:=(hSw.cell (p:=⟨bI,oI+i,none⟩) yI).trans xI;go_simp
            try rfl
           try simp only [Act.put,sT,sZ,sS]
           refine' zO (i:=5) (oi:=⟨some 122,_,_,_,_,_⟩) (v:=.bool q1) rfl (by kernel_rfl) (by kernel_rfl) (by kernel_rfl) (by kernel_rfl) (fun _ _ _ h=>h) hH0 (by rfl) ?hyv ?o33
           case hyv=>
            intro wz hSw;go_simp;rw [HQ1.out]
            try rfl
           try simp only [Act.put,sT,sZ,sS]
           refine' tkR 6 123 hH0 ?o34
           cases q1
           case false=>
            refine' tkR 7 124 hH0 ?o35
            refine' tkQ 8 125 hH0 ?hyv ?o36
            case hyv=>
             intro wz hSw;have zc0:=(hSw.cell (p:=⟨w.heap.size,0,none⟩) yS).trans s0;have zc1:=(hSw.cell (p:=⟨w.heap.size,2,none⟩) yS).trans s2;have zc2:=(hSw.cell (p:=⟨bI,oI+i,none⟩) yI).trans xI;go_simp
             try rfl
            try simp only [Act.put,sT,sZ,sS]
            refine' tkR 9 126 hH0 ?o37
            refine' tkR 10 127 hH0 ?o38
            refine' tkQ 11 128 hH0 ?hyv ?o39
            case hyv=>
             intro wz hSw;have zc0:=(hSw.cell (p:=⟨w.heap.size,0,none⟩) yS).trans s0;have zc1:=(hSw.cell (p:=⟨w.heap.size,2,none⟩) yS).trans s2;have zc2:=(hSw.cell (p:=⟨bI,oI+i,none⟩) yI).trans xI;go_simp
             try rfl
            try simp only [Act.put,sT,sZ,sS]
            refine' tkR 12 129 hH0 ?o40
            refine' tkQ 13 130 hH0 ?hyv ?o41
            case hyv=>
             intro wz hSw;have zc0:=(hSw.cell (p:=⟨w.heap.size,0,none⟩) yS).trans s0;have zc1:=(hSw.cell (p:=⟨w.heap.size,2,none⟩) yS).trans s2;have zc2:=(hSw.cell (p:=⟨bI,oI+i,none⟩) yI).trans xI;go_simp
             try rfl
            try simp only [Act.put,sT,sZ,sS]
            refine' tkR 14 131 hH0 ?o42
            refine' zO (i:=15) (oi:=⟨some 132,_,_,_,_,_⟩) (v:=.bool q2) rfl (by kernel_rfl) (by kernel_rfl) (by kernel_rfl) (by kernel_rfl) (fun _ _ _ h=>h) hH0 (by rfl) ?hyv ?o43
            case hyv=>
             intro wz hSw;go_simp;rw [HQ2.out]
             try rfl
            try simp only [Act.put,sT,sZ,sS]
            refine' tkR 16 133 hH0 ?o44
            refine zH (by kernel_rfl) ?_ _;obtain ⟨wx,hwx⟩:=nmQ (wd0);subst hwx;have hX:=hH0;have BX:=hbr.trans (hX.mono hbr.size);have kFx:=(hX.block _ (zG kFr)).trans kFr;have BrX:=b1.trans (BX.mono b1.size)
            cases q2
            case true=>
             go_wp2_with fail;refine (zV (16) (-1) wx).mono ?_;rintro e wz ⟨rfl,bz⟩;have kFz:=(bz.block _ (zG kFx)).trans kFx;have BZ:=BrX.trans (bz.mono BrX.size);have s0z:=coQ kFz 0;have s1z:=coQ kFz 1;have f0z:=foQ kFz 0;have f1z:=foQ kFz 1;simp at s0z s1z;have KE:=zJ (zJ kFz 0 (.int .i64 (16))) 1 (.int .i64 (-1));have BE:=(BZ.setCell (p:=⟨w.heap.size+1,0,none⟩) (by show w.heap.size<=w.heap.size+1;omega) (.int .i64 (16))).setCell (p:=⟨w.heap.size+1,1,none⟩) (by show w.heap.size<=w.heap.size+1;omega) (.int .i64 (-1));have t0:=coQ KE 0;have t1:=coQ KE 1;simp at t0 t1;have HFIN:=zE (show HeadPost w S (.returned (.agg #[.int .i64 (16),.int .i64 (-1)])) _ from ⟨16,-1,rfl,fun h=>absurd h (by decide),BE⟩);clear KE BE BZ kFz;go_wp2;exact bodyPost_ret (v:=.agg #[.int .i64 (16),.int .i64 (-1)]) (by simp [results,Tryz.results26,go_sem,t0,t1]) rfl HFIN.out
            case false=>
             have HN2:=zE (HN.out (by
              have h1:=HQ1.out;have h2:=HQ2.out;simp at h1 h2;exact ⟨h1,h2⟩))
             clear HN;go_wp2_with fail;go_roundg (S.O.length-(i+1))
             case measure=>omega
             case rel=>exact ⟨i+1,by omega,rfl,by go_num,HN2,BX⟩
           case true=>
            refine zD (i:=7) (oi:=⟨some 124,_,_,_,_,_⟩) rfl (by kernel_rfl) (by kernel_rfl) (by kernel_rfl) (by kernel_rfl) (fun _ _ _ h=>h) hH0 (by rfl) ?_
            try simp only [Act.put,sT,sZ,sS]
            refine zD (i:=8) (oi:=⟨some 125,_,_,_,_,_⟩) rfl (by kernel_rfl) (by kernel_rfl) (by kernel_rfl) (by kernel_rfl) (fun _ _ _ h=>h) hH0 (by rfl) ?_
            try simp only [Act.put,sT,sZ,sS]
            refine zD (i:=9) (oi:=⟨some 126,_,_,_,_,_⟩) rfl (by kernel_rfl) (by kernel_rfl) (by kernel_rfl) (by kernel_rfl) (fun _ _ _ h=>h) hH0 (by rfl) ?_
            try simp only [Act.put,sT,sZ,sS]
            refine zD (i:=10) (oi:=⟨some 127,_,_,_,_,_⟩) rfl (by kernel_rfl) (by kernel_rfl) (by kernel_rfl) (by kernel_rfl) (fun _ _ _ h=>h) hH0 (by rfl) ?_
            try simp only [Act.put,sT,sZ,sS]
            refine zD (i:=11) (oi:=⟨some 128,_,_,_,_,_⟩) rfl (by kernel_rfl) (by kernel_rfl) (by kernel_rfl) (by kernel_rfl) (fun _ _ _ h=>h) hH0 (by rfl) ?_
            try simp only [Act.put,sT,sZ,sS]
            refine zD (i:=12) (oi:=⟨some 129,_,_,_,_,_⟩) rfl (by kernel_rfl) (by kernel_rfl) (by kernel_rfl) (by kernel_rfl) (fun _ _ _ h=>h) hH0 (by rfl) ?_
            try simp only [Act.put,sT,sZ,sS]
            refine zD (i:=13) (oi:=⟨some 130,_,_,_,_,_⟩) rfl (by kernel_rfl) (by kernel_rfl) (by kernel_rfl) (by kernel_rfl) (fun _ _ _ h=>h) hH0 (by rfl) ?_
            try simp only [Act.put,sT,sZ,sS]
            refine zD (i:=14) (oi:=⟨some 131,_,_,_,_,_⟩) rfl (by kernel_rfl) (by kernel_rfl) (by kernel_rfl) (by kernel_rfl) (fun _ _ _ h=>h) hH0 (by rfl) ?_
            try simp only [Act.put,sT,sZ,sS]
            refine zD (i:=15) (oi:=⟨some 132,_,_,_,_,_⟩) rfl (by kernel_rfl) (by kernel_rfl) (by kernel_rfl) (by kernel_rfl) (fun _ _ _ h=>h) hH0 (by rfl) ?_
            try simp only [Act.put,sT,sZ,sS]
            refine' tkR 16 133 hH0 ?o45
            refine zH (by kernel_rfl) ?_ _;obtain ⟨wx,hwx⟩:=nmQ (wd0);subst hwx;have hX:=hH0;have BX:=hbr.trans (hX.mono hbr.size);have kFx:=(hX.block _ (zG kFr)).trans kFr;have BrX:=b1.trans (BX.mono b1.size);go_wp2_with fail;refine (zV (16) (-1) wx).mono ?_;rintro e wz ⟨rfl,bz⟩;have kFz:=(bz.block _ (zG kFx)).trans kFx;have BZ:=BrX.trans (bz.mono BrX.size);have s0z:=coQ kFz 0;have s1z:=coQ kFz 1;have f0z:=foQ kFz 0;have f1z:=foQ kFz 1;simp at s0z s1z;have KE:=zJ (zJ kFz 0 (.int .i64 (16))) 1 (.int .i64 (-1));have BE:=(BZ.setCell (p:=⟨w.heap.size+1,0,none⟩) (by show w.heap.size<=w.heap.size+1;omega) (.int .i64 (16))).setCell (p:=⟨w.heap.size+1,1,none⟩) (by show w.heap.size<=w.heap.size+1;omega) (.int .i64 (-1));have t0:=coQ KE 0;have t1:=coQ KE 1;simp at t0 t1;have HFIN:=zE (show HeadPost w S (.returned (.agg #[.int .i64 (16),.int .i64 (-1)])) _ from ⟨16,-1,rfl,fun h=>absurd h (by decide),BE⟩);clear KE BE BZ kFz;go_wp2;exact bodyPost_ret (v:=.agg #[.int .i64 (16),.int .i64 (-1)]) (by simp [results,Tryz.results26,go_sem,t0,t1]) rfl HFIN.out
          case neg=>
           have hin:i=S.O.length:=(by omega);subst hin;have HOS:=zE (show ∀ x ∈ S.O,0<=x/\x<(S.V.length:Int) by have h5:=HON.out;rw [List.take_length] at h5;exact h5);have s0z:=coQ kFr 0;have s1z:=coQ kFr 1;have f0z:=foQ kFr 0;have f1z:=foQ kFr 1;simp at s0z s1z;have KE:=zJ (zJ kFr 0 (.int .i64 0)) 1 (.int .i64 0);have BE:=(Br.setCell (p:=⟨w.heap.size+1,0,none⟩) (by show w.heap.size<=w.heap.size+1;omega) (.int .i64 0)).setCell (p:=⟨w.heap.size+1,1,none⟩) (by show w.heap.size<=w.heap.size+1;omega) (.int .i64 0);have t0:=coQ KE 0;have t1:=coQ KE 1;simp at t0 t1;have HFIN:=zE (show HeadPost w S (.returned (.agg #[.int .i64 0,.int .i64 0])) _ from ⟨0,0,rfl,fun _=>⟨nV,nI,nO,nR,HVS.out,HIS.out.1,HIS.out.2,HOS.out⟩,BE⟩);clear KE BE HON kSr;go_wp2;exact bodyPost_ret (v:=.agg #[.int .i64 0,.int .i64 0]) (by simp [results,Tryz.results26,go_sem,t0,t1]) rfl HFIN.out
end Go.Proofs.YtegakbobaecdlaaGreatDoor
