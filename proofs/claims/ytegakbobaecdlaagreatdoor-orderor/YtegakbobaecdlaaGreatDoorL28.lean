import Derived.Test.YtegakbobaecdlaaGreatDoorL27
import Derived.WalkKit
import Derived.WalkSpells
import Derived.IntWalk
import Derived.Deep.Cut
import Derived.Deep.LoopGhost
import Derived.Ground.NamesProg
import Derived.Laws.Cover1
import Derived.Laws.Externs
import Derived.Lib.Hide
import Derived.Lib.MakeNoZero
import Derived.Lib.SlBuf
import Derived.Shelf.Bytes.SlSmallAll
import Derived.Shelf.Lay
set_option linter.unusedVariables false
set_option linter.unusedSimpArgs false
set_option maxHeartbeats 64000000
set_option maxRecDepth 100000
namespace Go.Proofs.YtegakbobaecdlaaGreatDoor
open Go.RowKit Go.IntWalk
theorem zL {S:List Nat} {B:Nat} {w w':World} (h:Aside S B w w') {p:Addr} (hp:p.block<B) (hs:p.block ∉ S):w'.cell? p=w.cell? p:=by
 unfold World.cell?;rw [h.block p.block hp hs]
theorem glob_aside {S:List Nat} {B:Nat} {w w':World} (h:GlobK w) (a:Aside S B w w') (hS:1 ∉ S) (hB:1<B:=by omega):GlobK w':=by
 refine ⟨Nat.lt_of_lt_of_le h.1 a.size,fun k hk=>?_⟩;obtain ⟨h0,h1,h2⟩:=h.2 k hk;exact ⟨(zL a (p:=⟨1,k*3,none⟩) hB hS).trans h0,(zL a (p:=⟨1,k*3+1,none⟩) hB hS).trans h1,(zL a (p:=⟨1,k*3+2,none⟩) hB hS).trans h2⟩
theorem globP_aside {S:List Nat} {B:Nat} {w w':World} (h:GlobP w) (a:Aside S B w w') (hS:0 ∉ S) (hB:0<B:=by omega):GlobP w' :=
 ⟨Nat.lt_of_lt_of_le h.1 a.size,fun k hk=>(zL a (p:=⟨0,k,none⟩) hB hS).trans (h.2 k hk)⟩
namespace Sk
theorem codeRule_fault {V:List Vr} {m:List Bool} {r:Ru} (h:(codeRule V m r).1≠0):(codeRule V m r).2=m:=by
 unfold codeRule at h ⊢
 split
 ·rfl
 ·rename_i h1
  rw [if_neg h1] at h
  split
  ·rfl
  ·rename_i h2
   rw [if_neg h2] at h
   split
   ·rfl
   ·rename_i h3
    rw [if_neg h3] at h
    split
    ·rfl
    ·rename_i h4
     rw [if_neg h4] at h
     split
     ·rfl
     ·rename_i h5
      rw [if_neg h5] at h
      split
      ·rfl
      ·rename_i h6
       rw [if_neg h6] at h;exact absurd rfl h
theorem codeRule_len (V:List Vr) (m:List Bool) (r:Ru):(codeRule V m r).2.length=m.length:=by
 by_cases h:(codeRule V m r).1=0
 ·unfold codeRule at h ⊢
  split
  ·rfl
  ·split
   ·rfl
   ·split
    ·rfl
    ·split
     ·rfl
     ·split
      ·rfl
      ·split
       ·rfl
       ·simp
 ·rw [codeRule_fault h]
end Sk
theorem jL {ok okV:Nat->Prop} {w:World} {b:Nat} {x:LkV} {V:List Sk.Vr} {m0:List Bool} {v:Value} {l:List Sk.Ru} (hk:LkAt w b x) (hm:Md w x.g m0) (hn:x.nV=m0.length) (hbg:b≠x.g) (hV:HVars okV w (.slice x.aV x.nV x.cV) V) (hVr:∀ v ∈ V,Sk.VrOk v) (hG:GlobK w) (hP:GlobP w) (hg1:1<x.g) (hl:HRus ok w v l) (hog:¬ok x.g) (hov:¬okV x.g)
  (hfit:∀ r ∈ l,r.A.length<=1000000/\r.E.length<=1000000) :
  Calls Tryz.prog 92 #[v,.func (.func 93) #[.pointer (some ⟨b,0,none⟩)] #[],.func (.func 94) #[] #[]] w fun r w'=>r=.returned (.agg #[.int .i64 (Sk.rulesL V m0 0 l).1.1,.int .i64 (Sk.rulesL V m0 0 l).1.2])/\LkAt w' b x/\Md w' x.g (Sk.rulesL V m0 0 l).2/\Aside [x.g] w.heap.size w w':=by
 obtain ⟨ao,cap,rfl,hc1,hc2,-⟩:=hl.at;unfold maxLen at hc2;obtain ⟨R,hR⟩:=nmQ (Sk.rulesL V m0 0 l);rw [<-hR];have HR:=zE (show R=Sk.rulesL V m0 0 (l.drop 0) by rw [List.drop_zero];exact hR);clear hR;have yb:b<w.heap.size:=zG hk;have yg:x.g<w.heap.size:=zG hm;have A0:Aside [x.g] w.heap.size w (w.alloc (.cells #[.int .i64 0,.int .i64 0] 30 (0,0))):=(Aside.refl (S:=[x.g]) (B:=w.heap.size) w).alloc zM _;have b0:Below w.heap.size w (w.alloc (.cells #[.int .i64 0,.int .i64 0] 30 (0,0))):=(Below.refl _ _).alloc zM _;have k0:=zI w (.cells #[.int .i64 0,.int .i64 0] 30 (0,0));have H0:=zE (show LkAt (w.alloc (.cells #[.int .i64 0,.int .i64 0] 30 (0,0))) b x/\Md (w.alloc (.cells #[.int .i64 0,.int .i64 0] 30 (0,0))) x.g m0 from ⟨hk.under b0,hm.under b0⟩);have HL:=zE hl;have HOG:=zE hog;have HOV:=zE hov;have HBG:=zE hbg;have HNV:=zE hn;have HV:=zE hV;have HVR:=zE hVr;have HG:=zE hG;have HP:=zE hP;have HF:=zE hfit;clear hl hk hm hog hov hbg hn b0 hV hVr hG hP hfit;obtain ⟨n,hn⟩:=nmQ (l.length);rw [<-hn] at hc1 ⊢;have HN:=zE hn;clear hn;go_enter Tryz.func92,Tryz.ntmps92;go_upto_region 1 with fail;generalize w.alloc (.cells #[.int .i64 0,.int .i64 0] 30 (0,0))=w0 at A0 k0 H0 ⊢;go_wp2_with fail;go_loopg [12] n (fun k v wr=>∃ (i:Nat) (m:List Bool),i<=n/\k=n-i/\v=.int .i64 (i:Nat)/\Hid (R=Sk.rulesL V m i (l.drop i))/\Hid (m.length=m0.length)/\Aside [x.g] w.heap.size w wr/\Hid (LkAt wr b x/\Md wr x.g m)/\wr.heap[w.heap.size]?=some (.cells #[.int .i64 0,.int .i64 0] 30 (0,0)))
 case atStart=>exact ⟨0,m0,Nat.zero_le _,rfl,rfl,HR,zE rfl,A0,H0,k0⟩
 case round=>
  clear A0 k0 HR H0;obtain ⟨i,m,hi,rfl,rfl,H,HML,hbr,HI,kr⟩:=hrel;have zr:=hbr.size;by_cases hlt:i<n
  case neg=>
   have hin:i=n:=(by omega);subst hin;have e1:l.drop i=[]:=List.drop_of_length_le (by have:=HN.out;omega);have HZ:=zE (show R=((0,0),m) by rw [H.out,e1];rfl);clear e1;have st0:=coQ kr 0;have st1:=coQ kr 1;have fr0:=foQ kr 0;have fr1:=foQ kr 1;simp at st0 st1;have KR:=zJ (zJ kr 0 (.int .i64 0)) 1 (.int .i64 0);have r0:=coQ KR 0;have r1:=coQ KR 1;simp at r0 r1;have BR:=(hbr.set (p:=⟨w.heap.size,0,none⟩) zM (.int .i64 0)).set (p:=⟨w.heap.size,1,none⟩) zM (.int .i64 0);have HE:=zE (show LkAt ((wr.setCell ⟨w.heap.size,0,none⟩ (.int .i64 0)).setCell ⟨w.heap.size,1,none⟩ (.int .i64 0)) b x/\Md ((wr.setCell ⟨w.heap.size,0,none⟩ (.int .i64 0)).setCell ⟨w.heap.size,1,none⟩ (.int .i64 0)) x.g m from ⟨zP (zP HI.out.1 (by show w.heap.size≠b;omega) _) (by show w.heap.size≠b;omega) _,zP (zP HI.out.2 (by show w.heap.size≠x.g;omega) _) (by show w.heap.size≠x.g;omega) _⟩);clear KR;go_wp2;exact bodyPost_ret (v:=.agg #[.int .i64 0,.int .i64 0]) (by simp [results,Tryz.results92,go_sem,r0,r1]) rfl ⟨by rw [HZ.out],HE.out.1,by rw [HZ.out];exact HE.out.2,BR⟩
  case pos=>
   have hil:i<l.length:=(by have:=HN.out;omega);have hdr:l.drop i=l[i] :: l.drop (i+1):=List.drop_eq_getElem_cons hil;have hR1:=H.out;rw [hdr] at hR1;have HLr:=HL.out.keep zr (fun j hj hlj=>hbr.block j hlj (by simp;intro e;exact HOG.out (e ▸ hj)));obtain ⟨ao',cap',eqs,-,-,hat2⟩:=HLr.at;injection eqs with q1 q2 q3;subst q1;obtain ⟨bb,o,z,rfl,hb,hat,hru⟩:=hat2 i hil;obtain ⟨y,hy⟩:=nmQ (l[i]);have hfy:=HF.out y (by rw [hy];exact List.getElem_mem hil);rw [<-hy] at hat hru hR1;obtain ⟨e0,e1,e2,e3,e4,e5⟩:=hat;unfold Sk.rulesL at hR1;have bA:Below wr.heap.size wr (wr.alloc (.cells #[.int .i64 y.op,.int .i64 y.k,.int .i64 y.out,.int .i64 y.n,.slice z.aA z.nA z.cA,.slice z.aE z.nE z.cE] 40 (0,0))):=(Below.refl _ _).alloc zM _;have AA:=hbr.trans (aside (S:=[x.g]) bA) zr;have kA:=(bA.block _ (zG kr)).trans kr;have kV:=zI wr (.cells #[.int .i64 y.op,.int .i64 y.k,.int .i64 y.out,.int .i64 y.n,.slice z.aA z.nA z.cA,.slice z.aE z.nE z.cE] 40 (0,0));have hVw:HVars okV wr (.slice x.aV x.nV x.cV) V:=HV.out.keep zr (fun j hj hlj=>hbr.block j hlj (by simp;intro e;exact HOV.out (e ▸ hj)));have hGw:GlobK wr:=glob_aside HG.out hbr (by simp;omega);have hPw:GlobP wr:=globP_aside HP.out hbr (by simp;omega);have hc:=zAd (HI.out.1.under bA) (HI.out.2.under bA) (by rw [HNV.out,HML.out]) HBG.out (hVw.under bA) HVR.out (hGw.under bA) (hPw.under bA) (hru.under bA) hfy.1 hfy.2;have hlen:=Sk.codeRule_len V m y;have hflt:=@Sk.codeRule_fault V m y;generalize Sk.codeRule V m y=G at hc hR1 hlen hflt;obtain ⟨cd,m2⟩:=G
   dsimp only at hc hR1 hlen hflt
   have HR1:=zE hR1;have HML2:=zE (show m2.length=m0.length by rw [hlen];exact HML.out);have HFL:=zE hflt;clear hat2 q2 q3 hy hdr hR1 H hru hfy HLr hVw hGw hPw hlen hflt;go_upto_region 4 with fail;generalize wr.alloc (.cells #[.int .i64 y.op,.int .i64 y.k,.int .i64 y.out,.int .i64 y.n,.slice z.aA z.nA z.cA,.slice z.aE z.nE z.cE] 40 (0,0))=wa at bA AA kA kV hc ⊢;have v0:=coQ kV 0;have v1:=coQ kV 1;have v2:=coQ kV 2;have v3:=coQ kV 3;have v4:=coQ kV 4;have v5:=coQ kV 5;simp at v0 v1 v2 v3 v4 v5;go_wp2_with fail;refine hc.mono ?_;rintro e w4 ⟨rfl,l4,m4,a4⟩;have zA:=AA.size;have z4:=a4.size;have A4:=AA.trans a4 zA;have k4:=a4.keep kA (zG kA) (by simp;omega);have H4:=zE (show LkAt w4 b x/\Md w4 x.g m2 from ⟨l4,m4⟩);clear hc l4 m4 v0 v1 v2 v3 v4 v5 kV kA;by_cases hz:cd=0
   case pos=>
    have hz2:(cd != 0)=false:=(by simp [hz]);have HZ:Hid (R=Sk.rulesL V m2 (i+1) (l.drop (i+1))):=zE (by rw [HR1.out,if_neg (by simp [hz])]);clear HR1 hz;go_wp2_with fail;go_roundg (n-(i+1))
    case measure=>omega
    case rel=>exact ⟨i+1,m2,by omega,rfl,by go_num,HZ,HML2,A4,H4,k4⟩
   case neg=>
    have hz2:(cd != 0)=true:=(by simp [hz]);have HZ:Hid (R=((cd,(i:Int)),m2)):=zE (by rw [HR1.out,if_pos hz,HFL.out hz]);clear HR1 hz;go_wp2_with fail;refine (zAm i w4).mono ?_;rintro e w5 ⟨rfl,b5⟩;have A5:=A4.trans (aside b5) (Nat.le_trans zA z4);have z5:=b5.size;have k5:=(b5.block _ (zG k4)).trans k4;have H5:=zE (show LkAt w5 b x/\Md w5 x.g m2 from ⟨H4.out.1.under b5,H4.out.2.under b5⟩);have st0:=coQ k5 0;have st1:=coQ k5 1;have fr0:=foQ k5 0;have fr1:=foQ k5 1;simp at st0 st1;have KR:=zJ (zJ k5 0 (.int .i64 cd)) 1 (.int .i64 (i:Int));have r0:=coQ KR 0;have r1:=coQ KR 1;simp at r0 r1;have BR:=(A5.set (p:=⟨w.heap.size,0,none⟩) zM (.int .i64 cd)).set (p:=⟨w.heap.size,1,none⟩) zM (.int .i64 (i:Int));have HE:=zE (show LkAt ((w5.setCell ⟨w.heap.size,0,none⟩ (.int .i64 cd)).setCell ⟨w.heap.size,1,none⟩ (.int .i64 (i:Int))) b x/\Md ((w5.setCell ⟨w.heap.size,0,none⟩ (.int .i64 cd)).setCell ⟨w.heap.size,1,none⟩ (.int .i64 (i:Int))) x.g m2 from ⟨zP (zP H5.out.1 (by show w.heap.size≠b;omega) _) (by show w.heap.size≠b;omega) _,zP (zP H5.out.2 (by show w.heap.size≠x.g;omega) _) (by show w.heap.size≠x.g;omega) _⟩);clear KR;go_wp2;exact bodyPost_ret (v:=.agg #[.int .i64 cd,.int .i64 (i:Int)]) (by simp [results,Tryz.results92,go_sem,r0,r1]) rfl ⟨by rw [HZ.out],HE.out.1,by rw [HZ.out];exact HE.out.2,BR⟩
end Go.Proofs.YtegakbobaecdlaaGreatDoor
